import PyProof.Rows.All
import Wide.All
import OpenK.AllK
import Wide.FinOn
import Lean
import PyProof.EqAt
import PyProof.EqKinds
import PyProof.TupleCall
import PyProof.ExcClass3
import PyProof.InstStoreFacts
import PyProof.RulesAs
import PyProof.NsDelKeeps
import PyProof.ExcArgsOwn
import PyProof.ExcAttrAll.ValueError
import PyProof.ExcBaseAll.ValueError
import PySem.Challenge.RW_lateknow_k51_bags_prices
set_option Elab.async false
set_option linter.all false
set_option maxRecDepth 100000
set_option maxHeartbeats 4000000
set_option Elab.async false
set_option linter.all false
set_option maxRecDepth 100000
namespace L2
open PySem PySem.Spec PyProof.Rows
abbrev Key := Sum Int Str
def keyIs : Key → Value → Bool
  | .inl k, v => Value.isInt k v
  | .inr x, v => Value.isStrOf x v
def keyH (w : World) : Key → Int
  | .inl k => hashInt k
  | .inr x => hashStr w x
theorem keyIs_shape : ∀ {k : Key} {v : Value}, keyIs k v = true → (∃ i t, k = Sum.inl i ∧ v = Value.int i t) ∨ (∃ x t, k = Sum.inr x ∧ v = Value.str x t)
  | .inl i, v, h => by
    obtain ⟨t, e⟩ := Value.isInt_shape (k := i) (v := v) h
    exact .inl ⟨i, t, rfl, e⟩
  | .inr x, v, h => by
    obtain ⟨t, e⟩ := Value.isStrOf_shape (x := x) (v := v) h
    exact .inr ⟨x, t, rfl, e⟩
theorem keyIs_int (i : Int) (t : Tok) : keyIs (.inl i) (.int i t) = true := by simp [keyIs, Value.isInt]
theorem keyIs_str (x : Str) (t : Tok) : keyIs (.inr x) (.str x t) = true := by simp [keyIs, Value.isStrOf]
theorem key_ll (a b : Int) : decide ((Sum.inl a : Key) = Sum.inl b) = (a == b) := by
  by_cases e : a = b
  · subst e; simp
  · have h : ¬ (Sum.inl a : Key) = Sum.inl b := fun q => e (Sum.inl.inj q)
    rw [decide_eq_false h]
    exact (beq_eq_false_iff_ne.mpr e).symm
theorem key_rr (a b : Str) : decide ((Sum.inr a : Key) = Sum.inr b) = decide (a = b) := by
  by_cases e : a = b
  · subst e; simp
  · have h : ¬ (Sum.inr a : Key) = Sum.inr b := fun q => e (Sum.inr.inj q)
    rw [decide_eq_false h, decide_eq_false e]
theorem key_lr (a : Int) (b : Str) : decide ((Sum.inl a : Key) = Sum.inr b) = false := decide_eq_false (fun q => nomatch q)
theorem key_rl (a : Str) (b : Int) : decide ((Sum.inr a : Key) = Sum.inl b) = false := decide_eq_false (fun q => nomatch q)
def mixKind (prog : Program) (w : World) : PySem.KeyKind prog w Key where
  is := keyIs
  hash := keyH w
  inj := fun v a b ha hb => by
    rcases keyIs_shape ha with ⟨i, t, rfl, rfl⟩ | ⟨x, t, rfl, rfl⟩
    · rcases keyIs_shape hb with ⟨j, u, rfl, e⟩ | ⟨y, u, rfl, e⟩
      · injection e with e1 _; rw [e1]
      · exact nomatch e
    · rcases keyIs_shape hb with ⟨j, u, rfl, e⟩ | ⟨y, u, rfl, e⟩
      · exact nomatch e
      · injection e with e1 _; rw [e1]
  byValue := fun k v h => by
    rcases keyIs_shape h with ⟨i, t, rfl, rfl⟩ | ⟨x, t, rfl, rfl⟩ <;> rfl
  pyHash := fun hv h => by
    rcases keyIs_shape hv with ⟨i, t, rfl, rfl⟩ | ⟨x, t, rfl, rfl⟩
    · exact wpAny_pyHash_int h
    · exact wpAny_pyHash_str h
  eqBool := fun hu hv h => by
    rcases keyIs_shape hu with ⟨i, t, rfl, rfl⟩ | ⟨x, t, rfl, rfl⟩
    · rcases keyIs_shape hv with ⟨j, u, rfl, rfl⟩ | ⟨y, u, rfl, rfl⟩
      · rw [key_ll] at h; exact wpAny_eqBool_int h
      · rw [key_lr] at h; exact SeqAt.EqAt.int_str i t y u _ _ _ _ h
    · rcases keyIs_shape hv with ⟨j, u, rfl, rfl⟩ | ⟨y, u, rfl, rfl⟩
      · rw [key_rl] at h; exact SeqAt.EqAt.str_int x t j u _ _ _ _ h
      · rw [key_rr] at h; exact wpAny_eqBool_str h
  «strs» := fun k x t v h => by
    rcases keyIs_shape h with ⟨i, u, rfl, e⟩ | ⟨y, u, rfl, e⟩
    · exact nomatch e
    · injection e with e1 _
      subst e1
      cases v <;> rfl
theorem mixKind_int (prog : Program) (w : World) (i : Int) (t : Tok) : (mixKind prog w).is (.inl i) (.int i t) = true := keyIs_int i t
theorem mixKind_str (prog : Program) (w : World) (x : Str) (t : Tok) : (mixKind prog w).is (.inr x) (.str x t) = true := keyIs_str x t
inductive V where
  | non | bl (b : Bool) | int (i : Int) | str (x : Str) | byt (b : Array UInt8) | flt (b : UInt64) | ref (a : Addr) | ty (n : String)
  deriving DecidableEq
def RelV : V → Value → Prop
  | .non, u => u = Value.none
  | .bl b, u => u = Value.bool b
  | .int i, u => ∃ t, u = Value.int i t
  | .str x, u => ∃ t, u = Value.str x t
  | .byt b, u => ∃ t, u = Value.bytes b t
  | .flt b, u => ∃ t, u = Value.float b t
  | .ref a, u => u = Value.ref a
  | .ty n, u => u = Value.type n
abbrev Vals : List V → List Value → Prop := Paired RelV
theorem Vals.length {xs : List V} {us : List Value} (r : Vals xs us) : xs.length = us.length := Paired.length r
theorem Vals.get : ∀ {xs : List V} {us : List Value} {i : Nat} {x : V}, Vals xs us → xs[i]? = some x → ∃ u, us[i]? = some u ∧ RelV x u
  | _, _, _, _, .nil, e => by simp at e
  | _, _, 0, _, .cons r _, e => by simp at e; subst e; exact ⟨_, rfl, r⟩
  | _, _, i + 1, x, .cons _ t, e => by
    obtain ⟨u, h1, h2⟩ := Vals.get (i := i) (x := x) t (by simpa using e)
    exact ⟨u, by simpa using h1, h2⟩
theorem Vals.set {x : V} {u : Value} (r : RelV x u) : ∀ {xs : List V} {us : List Value} (i : Nat), Vals xs us → Vals (xs.set i x) (us.set i u)
  | _, _, _, .nil => .nil
  | _, _, 0, .cons _ t => .cons r t
  | _, _, i + 1, .cons q t => .cons q (Vals.set r i t)
theorem Vals.append : ∀ {xs ys : List V} {us ws : List Value}, Vals xs us → Vals ys ws → Vals (xs ++ ys) (us ++ ws)
  | _, _, _, _, .nil, s => s
  | _, _, _, _, .cons r t, s => .cons r (Vals.append t s)
theorem Vals.take : ∀ {xs : List V} {us : List Value} (n : Nat), Vals xs us → Vals (xs.take n) (us.take n)
  | _, _, 0, _ => .nil
  | _, _, _ + 1, .nil => .nil
  | _, _, n + 1, .cons r t => .cons r (Vals.take n t)
theorem Vals.drop : ∀ {xs : List V} {us : List Value} (n : Nat), Vals xs us → Vals (xs.drop n) (us.drop n)
  | _, _, 0, r => r
  | _, _, _ + 1, .nil => .nil
  | _, _, n + 1, .cons _ t => Vals.drop n t
def RelO : Option V → Option Value → Prop
  | some v, some u => RelV v u
  | none, none => True
  | _, _ => False
def KV {κ : Type} : List (κ × V) → List (κ × Value) → Prop := Paired fun (p : κ × V) (q : κ × Value) => p.1 = q.1 ∧ RelV p.2 q.2
def kV : Key → V
  | .inl i => .int i
  | .inr x => .str x
def TupN (h : Heap) (a : Addr) (xs : Array Value) : Prop := IsTup h a xs ∧ ∃ o, h.get? a = some o ∧ o.dict = none
theorem TupN.new (h : Heap) (xs : Array Value) : TupN (h.push { cls := .type "tuple", data := .seq xs }) h.objs.size xs := ⟨IsTup.new _ _, _, Heap.get?_push_size _ rfl, rfl⟩
inductive HO where
    | lst (xs : List V)
    | tup (xs : List V)
    | dK (kvs : List (Key × V)) | dT (kvs : List (List Key × V))
    | set (S : Int → Bool) (n : Nat)
    | ins (C dx : Addr) (fs : List (Str × V))
    | own (x : Addr)
    | xd (fs : List (Str × V))
    | met (f x : Addr)
    | rng (lo hi : Int)
    | frz (o : Obj) (u : HO)
    | tbl (ps : Array Value)
    | ext (φ : Heap → Prop)
abbrev Hp := Addr → Option HO
def upd (H : Hp) (a : Addr) (o : HO) : Hp := fun b => if b = a then some o else H b
theorem upd_same {H : Hp} {a : Addr} {o : HO} : upd H a o a = some o := by unfold upd; rw [if_pos rfl]
theorem upd_ne {H : Hp} {a b : Addr} {o : HO} (h : b ≠ a) : upd H a o b = H b := by unfold upd; rw [if_neg h]
theorem upd_upd {H : Hp} {a : Addr} {o u : HO} : upd (upd H a o) a u = upd H a u := by
  funext b; unfold upd; split <;> rfl
theorem ne_of {H : Hp} {a b : Addr} {o u : HO} (h : H a = some o) (h' : H b = some u) (d : o ≠ u) : a ≠ b := by
  intro e; subst e; rw [h] at h'; exact d (Option.some.inj h')
theorem ne_of_none {H : Hp} {a b : Addr} {o : HO} (h : H a = some o) (h' : H b = none) : a ≠ b := by
  intro e; subst e; rw [h] at h'; cases h'
section
variable (P : Program) (w : World)
def ObjOk (H : Hp) (h : Heap) (a : Addr) : HO → Prop
  | .lst xs => xs.length ≤ sizeLine ∧ ∃ (its : List Value) (n : Nat), Vals xs its ∧ h.get? a = some { cls := .type "list", data := .seq its.toArray n }
  | .tup xs => xs.length ≤ sizeLine ∧ ∃ its : List Value, Vals xs its ∧ TupN h a its.toArray
  | .dK kvs => kvs.length ≤ sizeLine ∧ (a == sysModules) = false ∧ ∃ vs, KV kvs vs ∧ h.DictOf (mixKind P w) a vs
  | .dT kvs => kvs.length ≤ sizeLine ∧ (a == sysModules) = false ∧ ∃ xs : List (List Key × Addr × Value),
      Paired (fun (p : List Key × V) (q : List Key × Addr × Value) => p.1 = q.1 ∧ H q.2.1 = some (.tup (p.1.map kV)) ∧ RelV p.2 q.2.2) kvs xs ∧
      ∃ o es ep, h.get? a = some o ∧ o.ExactDict ∧ o.data = .dict es ep ∧ es.toList = xs.map (entryOfKey (tupleKind (mixKind P w))) ∧ (xs.map (·.1)).Nodup
  | .set S n => h.SetOf (intKind P w) a S n
  | .ins C dx fs => H dx = some (.own a) ∧ fs.length ≤ 1000 ∧ dx ≠ a ∧ h.get? a = some (PySem.W.instObj C dx) ∧
      ∃ mA, h.Ns1 dx mA ∧ (∀ f, RelO (fs.lookup f) (mA f)) ∧ PySem.Within mA (fs.map (·.1))
  | .own _ => ∃ o, h.get? a = some o
  | .xd fs => ∃ mA, h.Ns1 a mA ∧ ∀ f, RelO (fs.lookup f) (mA f)
  | .rng lo hi => ∃ t u v, h.get? a = some { cls := .type "range", data := .fields #[.int lo t, .int hi u, .int 1 v] }
  | .frz o u => h.get? a = some o ∧ ObjOk H h a u
  | .tbl ps => h.get? a = some { cls := .none, data := .fields ps }
  | .met f x => h.get? a = some (PySem.W.methodObj (.ref f) (.ref x))
  | .ext φ => φ h ∧ (∃ o, h.get? a = some o) ∧ ∀ h1 h2 : Heap, φ h1 → (∀ o, h1.get? a = some o → h2.get? a = some o) → φ h2
def HOk (H : Hp) (h : Heap) : Prop := ∀ a o, H a = some o → ObjOk P w H h a o
end
section
variable {P : Program} {w : World} {H H' : Hp} {h h' : Heap} {a : Addr} {o : HO}
theorem ObjOk.lt (x : ObjOk P w H h a o) : a < h.objs.size := by
  cases o with
  | lst xs => obtain ⟨_, _, _, _, e⟩ := x; exact Heap.lt_size e
  | tup xs => obtain ⟨_, _, _, p⟩ := x; exact p.1.lt
  | dK kvs => obtain ⟨_, _, _, _, o, _, _, e, _⟩ := x; exact Heap.lt_size e
  | dT kvs => obtain ⟨_, _, _, _, o, _, _, e, _⟩ := x; exact Heap.lt_size e
  | set S n => obtain ⟨o, _, _, _, e, _⟩ := x; exact Heap.lt_size e
  | ins C dx fs => obtain ⟨_, _, _, e, _⟩ := x; exact Heap.lt_size e
  | own y => obtain ⟨_, e⟩ := x; exact Heap.lt_size e
  | xd fs => obtain ⟨_, ⟨_, _, _, e, _⟩, _⟩ := x; exact Heap.lt_size e
  | rng lo hi => obtain ⟨_, _, _, e⟩ := x; exact Heap.lt_size e
  | frz ob u => obtain ⟨e, _⟩ := x; exact Heap.lt_size e
  | tbl ps => exact Heap.lt_size (show h.get? a = some _ from x)
  | met f y => exact Heap.lt_size (show h.get? a = some _ from x)
  | ext φ => obtain ⟨_, ⟨_, e⟩, _⟩ := x; exact Heap.lt_size e
theorem Paired.mapP {α β : Type} {F G : α → β → Prop} : ∀ {l₁ : List α} {l₂ : List β}, Paired F l₁ l₂ → (∀ a b, F a b → G a b) → Paired G l₁ l₂
  | _, _, .nil, _ => .nil
  | _, _, .cons r t, f => .cons (f _ _ r) (Paired.mapP t f)
theorem ObjOk.stay (x : ObjOk P w H h a o) (k : ∀ b u, (b = a ∨ H b = some (.own a)) → h.get? b = some u → h'.get? b = some u)
    (ho : ∀ b, H b = some (.own a) → H' b = some (.own a)) (ht : ∀ b xs, H b = some (.tup xs) → H' b = some (.tup xs)) : ObjOk P w H' h' a o := by
  induction o with
  | lst xs => obtain ⟨z, its, n, r, e⟩ := x; exact ⟨z, its, n, r, k _ _ (.inl rfl) e⟩
  | tup xs => obtain ⟨z, its, r, ⟨ob, e, c⟩, od, f, d⟩ := x; exact ⟨z, its, r, ⟨ob, k _ _ (.inl rfl) e, c⟩, od, k _ _ (.inl rfl) f, d⟩
  | dK kvs => obtain ⟨z, y, vs, r, ob, es, ep, e, c⟩ := x; exact ⟨z, y, vs, r, ob, es, ep, k _ _ (.inl rfl) e, c⟩
  | dT kvs =>
    obtain ⟨z, y, xs, r, ob, es, ep, e, c⟩ := x
    exact ⟨z, y, xs, Paired.mapP r fun p q z => ⟨z.1, ht _ _ z.2.1, z.2.2⟩, ob, es, ep, k _ _ (.inl rfl) e, c⟩
  | set S n => obtain ⟨ob, es, ep, t, e, c⟩ := x; exact ⟨ob, es, ep, t, k _ _ (.inl rfl) e, c⟩
  | ins C dx fs =>
    obtain ⟨d, z, ne, e, mA, ⟨od, es, ep, e2, c⟩, r⟩ := x
    exact ⟨ho _ d, z, ne, k _ _ (.inl rfl) e, mA, ⟨od, es, ep, k _ _ (.inr d) e2, c⟩, r⟩
  | own y => obtain ⟨ob, e⟩ := x; exact ⟨ob, k _ _ (.inl rfl) e⟩
  | xd fs => obtain ⟨mA, ⟨od, es, ep, e, c⟩, r⟩ := x; exact ⟨mA, ⟨od, es, ep, k _ _ (.inl rfl) e, c⟩, r⟩
  | rng lo hi => obtain ⟨t, u, v, e⟩ := x; exact ⟨t, u, v, k _ _ (.inl rfl) e⟩
  | frz ob u ih => obtain ⟨e, q⟩ := x; exact ⟨k _ _ (.inl rfl) e, ih q⟩
  | tbl ps =>
    have e : h.get? a = some { cls := .none, data := .fields ps } := x
    show h'.get? a = some { cls := .none, data := .fields ps }
    exact k a _ (.inl rfl) e
  | met f y =>
    have e : h.get? a = some (PySem.W.methodObj (.ref f) (.ref y)) := x
    show h'.get? a = some (PySem.W.methodObj (.ref f) (.ref y))
    exact k a _ (.inl rfl) e
  | ext φ => obtain ⟨p, ⟨o, e⟩, st⟩ := x; exact ⟨st _ _ p fun o q => k _ _ (.inl rfl) q, ⟨o, k _ _ (.inl rfl) e⟩, st⟩
theorem HOk.lt (x : HOk P w H h) (e : H a = some o) : a < h.objs.size := (x a o e).lt
theorem HOk.fresh (x : HOk P w H h) (e : h.objs.size ≤ a) : H a = none := by
  cases q : H a with
  | none => rfl
  | some u => exact absurd (Nat.lt_of_lt_of_le (x.lt q) e) (Nat.lt_irrefl _)
theorem HOk.kept (x : HOk P w H h) (k : ∀ b u, h.get? b = some u → h'.get? b = some u) : HOk P w H h' := fun a o e =>
  (x a o e).stay (fun b u _ q => k b u q) (fun _ q => q) fun _ _ q => q
theorem HOk.laid (x : HOk P w H h) (k : ∀ b u, h.get? b = some u → h'.get? b = some u) (hp : h.objs.size ≤ a) (new : ObjOk P w (upd H a o) h' a o) : HOk P w (upd H a o) h' := fun b u e => by
  have hn := x.fresh hp
  by_cases hb : b = a
  · subst hb; rw [upd_same] at e; cases e; exact new
  · rw [upd_ne hb] at e
    exact (x b u e).stay (fun c v _ q => k c v q) (fun c q => by rw [upd_ne (ne_of_none q hn)]; exact q) fun c xs q => by rw [upd_ne (ne_of_none q hn)]; exact q
end
def Rd (H : Hp) (a : Addr) (u : HO) : Prop := H a = some u ∨ ∃ o, H a = some (.frz o u)
theorem Rd.of {H : Hp} {a : Addr} {u : HO} (h : H a = some u) : Rd H a u := .inl h
theorem Rd.ok {P : Program} {w : World} {H : Hp} {h : Heap} {a : Addr} {u : HO} (r : Rd H a u) (x : HOk P w H h) : ObjOk P w H h a u := by
  rcases r with r | ⟨o, r⟩
  · exact x a u r
  · obtain ⟨_, q⟩ := x a _ r
    exact q
def Mut : Option HO → Prop
  | some (.lst _) => True
  | some (.dK _) => True
  | some (.dT _) => True
  | some (.set _ _) => True
  | some (.ins _ _ _) => True
  | some (.ext _) => True
  | _ => False
section
variable {P : Program} {w : World} {H : Hp} {h h' : Heap} {x e : Addr} {o' : HO}
theorem HOk.write (ok : HOk P w H h) (mu : Mut (H x)) (he : e = x ∨ H e = some (.own x)) (k : ∀ b u, b ≠ e → h.get? b = some u → h'.get? b = some u) (heo : ∃ u, h'.get? e = some u)
    (new : ObjOk P w (upd H x o') h' x o') : HOk P w (upd H x o') h' := fun b u q => by
  have nown : ∀ c y, H c = some (.own y) → c ≠ x := fun c y r z => by subst z; rw [r] at mu; exact mu
  have ntup : ∀ c xs, H c = some (.tup xs) → c ≠ x := fun c xs r z => by subst z; rw [r] at mu; exact mu
  by_cases hb : b = x
  · subst hb; rw [upd_same] at q; cases q; exact new
  · rw [upd_ne hb] at q
    by_cases hbe : b = e
    · have q' : H b = some (.own x) := by
        rcases he with z | z
        · exact absurd (hbe.trans z) hb
        · rw [hbe]; exact z
      rw [q] at q'; cases q'
      obtain ⟨v, hv⟩ := heo
      exact ⟨v, by rw [hbe]; exact hv⟩
    · refine (ok b u q).stay (fun c v hc r => k c v ?_ r) (fun c r => by rw [upd_ne (nown c b r)]; exact r) fun c xs r => by rw [upd_ne (ntup c xs r)]; exact r
      rcases hc with rfl | hc
      · exact hbe
      · rintro rfl
        rcases he with z | z
        · exact nown c b hc z
        · rw [hc] at z; cases z; exact hb rfl
end
structure Un (fs ex : List Addr) (H H' : Hp) (h h' : Heap) : Prop where
  keep : ∀ b o, h.get? b = some o → H b = none → b ∉ fs → b ∉ ex → h'.get? b = some o
  slot : ∀ b o, h.get? b = some o → H b = none → b ∈ fs → b ∉ ex → ∃ sl, h'.get? b = some { o with slots := sl }
  free : ∀ b o, h.get? b = some o → H b = none → b ∉ ex → H' b = none
  there : ∀ b o, h.get? b = some o → b ∉ ex → ∃ o', h'.get? b = some o'
  tups : ∀ b xs, H b = some (.tup xs) → H' b = some (.tup xs)
  frzs : ∀ b o u, H b = some (.frz o u) → H' b = some (.frz o u)
  tbls : ∀ b ps, H b = some (.tbl ps) → ∃ more, H' b = some (.tbl (ps ++ more))
section
variable {fs fs' ex ex' : List Addr} {H H1 H2 : Hp} {h h1 h2 h' : Heap} {a x e : Addr} {o : HO}
theorem Un.any (u : Un fs ex H H1 h h1) {b : Addr} {ob : Obj} (q : h.get? b = some ob) (n : H b = none) (hx : b ∉ ex) : ∃ sl, h1.get? b = some { ob with slots := sl } := by
  by_cases hb : b ∈ fs
  · exact u.slot b ob q n hb hx
  · exact ⟨ob.slots, u.keep b ob q n hb hx⟩
theorem Un.trans (a : Un fs ex H H1 h h1) (b : Un fs ex H1 H2 h1 h2) : Un fs ex H H2 h h2 where
  keep := fun c ob q n hc hx => b.keep c ob (a.keep c ob q n hc hx) (a.free c ob q n hx) hc hx
  slot := fun c ob q n hc hx => by
    obtain ⟨sl, e1⟩ := a.slot c ob q n hc hx
    obtain ⟨sl', e2⟩ := b.slot c _ e1 (a.free c ob q n hx) hc hx
    exact ⟨sl', e2⟩
  free := fun c ob q n hx => by
    obtain ⟨o', e1⟩ := a.there c ob q hx
    exact b.free c o' e1 (a.free c ob q n hx) hx
  there := fun c ob q hx => by
    obtain ⟨o', e1⟩ := a.there c ob q hx
    exact b.there c o' e1 hx
  tups := fun c xs q => b.tups c xs (a.tups c xs q)
  frzs := fun c ob xs q => b.frzs c ob xs (a.frzs c ob xs q)
  tbls := fun c ps q => by
    obtain ⟨m1, e1⟩ := a.tbls c ps q
    obtain ⟨m2, e2⟩ := b.tbls c _ e1
    exact ⟨m1 ++ m2, by rw [e2, Array.append_assoc]⟩
theorem Un.kept (k : ∀ b u, h.get? b = some u → h'.get? b = some u) : Un fs ex H H h h' :=
  ⟨fun b ob q _ _ _ => k b ob q, fun b ob q _ _ _ => ⟨ob.slots, k b ob q⟩, fun _ _ _ n _ => n, fun b ob q _ => ⟨ob, k b ob q⟩, fun _ _ q => q, fun _ _ _ q => q, fun _ ps q => ⟨#[], by rw [q]; simp⟩⟩
theorem Un.refl : Un fs ex H H h h := Un.kept fun _ _ q => q
theorem Un.laid (k : ∀ b u, h.get? b = some u → h'.get? b = some u) (hp : h.objs.size ≤ a) (hn : H a = none) : Un fs ex H (upd H a o) h h' where
  keep := fun b u q _ _ _ => k b u q
  slot := fun b u q _ _ _ => ⟨u.slots, k b u q⟩
  free := fun b u q n _ => by rw [upd_ne (Nat.ne_of_lt (Nat.lt_of_lt_of_le (Heap.lt_size q) hp))]; exact n
  there := fun b u q _ => ⟨u, k b u q⟩
  tups := fun b xs q => by rw [upd_ne (ne_of_none q hn)]; exact q
  frzs := fun b u xs q => by rw [upd_ne (ne_of_none q hn)]; exact q
  tbls := fun b ps q => ⟨#[], by rw [upd_ne (ne_of_none q hn), q]; simp⟩
theorem Un.write (mu : Mut (H x)) (he : e = x ∨ H e = some (.own x)) (k : ∀ b u, b ≠ e → h.get? b = some u → h'.get? b = some u) (heo : ∃ u, h'.get? e = some u) : Un fs ex H (upd H x o) h h' := by
  have hx : ∀ b, H b = none → b ≠ x := fun b n z => by subst z; rw [n] at mu; exact mu
  have hb : ∀ b, H b = none → b ≠ e := fun b n z => by
    subst z
    rcases he with r | r
    · exact hx b n r
    · rw [n] at r; cases r
  have hm : ∀ b u, H b = some u → ¬ Mut (some u) → b ≠ x := fun b u q nm z => by subst z; rw [q] at mu; exact nm mu
  refine ⟨fun b u q n _ _ => k b u (hb b n) q, fun b u q n _ _ => ⟨u.slots, k b u (hb b n) q⟩, fun b u q n _ => by rw [upd_ne (hx b n)]; exact n, fun b u q _ => ?_,
    fun b xs q => by rw [upd_ne (hm b _ q fun z => z)]; exact q, fun b u xs q => by rw [upd_ne (hm b _ q fun z => z)]; exact q, fun b ps q => ⟨#[], by rw [upd_ne (hm b _ q fun z => z), q]; simp⟩⟩
  by_cases hbe : b = e
  · subst hbe; exact heo
  · exact ⟨u, k b u hbe q⟩
theorem Un.mono (u : Un fs ex H H1 h h1) (hs : ∀ b ∈ fs, b ∈ fs') (hx : ∀ b ∈ ex, b ∈ ex') : Un fs' ex' H H1 h h1 :=
  ⟨fun b ob q n hb he => u.keep b ob q n (fun z => hb (hs b z)) fun z => he (hx b z), fun _ _ q n _ he => u.any q n fun z => he (hx _ z), fun b ob q n he => u.free b ob q n fun z => he (hx b z), fun b ob q he => u.there b ob q fun z => he (hx b z), u.tups, u.frzs, u.tbls⟩
end
def trk (h : Heap) (H : Hp) : List Addr := (List.range h.objs.size).filter fun a => (H a).isSome
def hidT (h : Heap) (H : Hp) : Heap := PySem.W.hideAll h (trk h H)
theorem hidT_size (h : Heap) (H : Hp) : (hidT h H).objs.size = h.objs.size := PySem.W.hideAll_size _ _
theorem hidT_get {h : Heap} {H : Hp} {b : Addr} {o : Obj} (e : h.get? b = some o) (n : H b = none) : (hidT h H).get? b = some o :=
  PySem.W.hideAll_get _ e fun hm => by
    have q : (H b).isSome = true := (List.mem_filter.mp hm).2
    rw [n] at q; simp at q
theorem of_hidT {h : Heap} {H : Hp} {b : Addr} {o : Obj} (e : (hidT h H).get? b = some o) : h.get? b = some o ∧ H b = none := by
  have e' : h.get? b = some o := PySem.W.of_hideAll (trk h H) e
  refine ⟨e', ?_⟩
  cases q : H b with
  | none => rfl
  | some x =>
    have hm : b ∈ trk h H := List.mem_filter.mpr ⟨List.mem_range.mpr (Heap.lt_size e'), by simp [q]⟩
    have z : (hidT h H).get? b = none := PySem.W.hideAll_none (trk h H) hm
    rw [z] at e; cases e
def allNews (g h : Heap) (L : Addr) : List (Addr × Obj) := (List.range h.objs.size).filterMap fun a => if a = L ∨ (g.get? a).isSome = true then none else (h.get? a).map fun o => (a, o)
def rest (g h : Heap) (L d : Addr) : List (Addr × Obj) := (allNews g h L).filter fun p => decide (p.1 ≠ d)
structure Mod (K : PySem.W.Frag) (mg : Str → Option Value) (base : Heap) : Prop where
  kin : K.In base
  glob : base.Ns mainGlobals mg
  blt : ∃ mb, base.Ns builtinsNs mb ∧ ∀ x : Str, x ≠ "__name__" → mb x = bootBuiltins x
  nolimit : base.NoLimit
  bmain : ∃ bm ob, mg "__builtins__" = some (.ref bm) ∧ bm ≠ builtinsNs ∧ base.get? bm = some ob ∧ ob.cls = .type "module" ∧ ob.dict = some builtinsNs ∧ ob.data = .plain
structure Cx where
  prog : Program
  w : World
  K : PySem.W.Frag
  mg : Str → Option Value
  base : Heap
  A : Around
  N : List Str
  s₀ : Shared
  H₀ : Hp
  env : Env
  outer : List Env
  stack : List Env
  ex : List Addr
  fn : Str → Bool
  calm : Bool
  pn : List (Addr × Obj)
  xe : Value → Shared → Prop
def frs (l : List Env) : List Addr := l.filterMap (·.frame)
abbrev Cx.fs (X : Cx) : List Addr := frs X.outer
def Vis (sc : Scope) (x : Str) : Prop := sc.names.lookup x = some .local ∨ sc.names.lookup x = some .cell ∨ sc.names.lookup x = some .free
def Loc (sc : Scope) (x : Str) : Prop := sc.names.lookup x = some .local ∨ sc.names.lookup x = some .cell
def Look (env : Env) (h : Heap) (m : Str → Option Value) (x : Str) (u : Value) : Prop :=
  (env.kindOf x = some .local ∧ m x = some u) ∨ ((env.kindOf x = some .cell ∨ env.kindOf x = some .free) ∧ ∃ c, env.cells.lookup x = some c ∧ h.IsCell c (some u))
structure Cx.Ok (X : Cx) : Prop where
  mod : Mod X.K X.mg X.base
  kind : X.env.scope.kind = .function
  glob : X.env.globals = mainGlobals
  blt : X.env.builtins = builtinsNs
  above : X.s₀.heap.objs.size ≤ X.env.locals
  inj : ∀ x y c, X.env.cells.lookup x = some c → X.env.cells.lookup y = some c → x = y
  has : ∀ x, (X.env.kindOf x = some .cell ∨ X.env.kindOf x = some .free) → ∃ c, X.env.cells.lookup x = some c
  cab : ∀ x c, X.fn x = true → X.env.cells.lookup x = some c → X.s₀.heap.objs.size ≤ c
  hd : X.calm = true → X.A.handled = none
  frames : X.A.frames = some X.stack
  stk : X.stack = X.outer ∨ (X.stack = X.env :: X.outer ∧ X.env.frame = some X.env.locals)
  exf : ∀ b ∈ X.ex, b ≠ X.env.locals ∧ ∀ x c, X.env.cells.lookup x = some c → c ≠ b
  bs : ∀ b o, X.base.get? b = some o → X.s₀.heap.get? b = some o ∧ X.H₀ b = none
  bsz : X.base.objs.size ≤ X.s₀.heap.objs.size
  noex : ∀ b o, X.base.get? b = some o → b ∉ X.ex
  exfs : ∀ b ∈ X.ex, b ∉ X.fs
  funs : X.s₀.heap.FunFrames X.base X.outer
  frf : ∀ b ∈ X.fs, X.H₀ b = none
structure Inv (X : Cx) (pins : List (Addr × Obj)) (σ : List (Option V)) (H : Hp) (s : Shared) : Prop where
  ok : X.Ok
  os : s.os = X.s₀.os
  bare : AllBare s.gens
  base : Un X.fs X.ex X.H₀ H X.s₀.heap s.heap
  loc : ∃ m, s.heap.Ns X.env.locals m ∧ ∀ (i : Nat) (x : Str) (v : V), X.N[i]? = some x → σ[i]? = some (some v) → Vis X.env.scope x → ∃ u, RelV v u ∧ Look X.env s.heap m x u
  cell : ∀ x c, X.env.cells.lookup x = some c → ∃ v, s.heap.IsCell c v
  free : H X.env.locals = none
  freeC : ∀ x c, X.env.cells.lookup x = some c → H c = none
  pin : ∀ p ∈ X.pn ++ pins, s.heap.get? p.1 = some p.2 ∧ H p.1 = none ∧ p.1 ≠ X.env.locals ∧ p.1 ∉ X.fs ∧ ∀ v, p.2.data ≠ .cell v
  hok : HOk X.prog X.w H s.heap
  len : σ.length = X.N.length
section
variable {X : Cx} {pins : List (Addr × Obj)} {σ : List (Option V)} {H H' : Hp} {s : Shared} {h' : Heap}
theorem Cx.Ok.nofr (ok : X.Ok) {b : Addr} {o : Obj} (e : X.base.get? b = some o) : b ∉ X.fs := fun hb => by
  have := (ok.funs.mem hb).1
  rw [e] at this; cases this
theorem Inv.bs (I : Inv X pins σ H s) : ∀ b o, X.base.get? b = some o → s.heap.get? b = some o ∧ H b = none := fun b o e =>
  ⟨I.base.keep b o (I.ok.bs b o e).1 (I.ok.bs b o e).2 (I.ok.nofr e) (I.ok.noex b o e), I.base.free b o (I.ok.bs b o e).1 (I.ok.bs b o e).2 (I.ok.noex b o e)⟩
theorem Inv.bk (I : Inv X pins σ H s) : ∀ b o, X.base.get? b = some o → s.heap.get? b = some o := fun b o e => (I.bs b o e).1
theorem Inv.mod (I : Inv X pins σ H s) : Mod X.K X.mg X.base := I.ok.mod
theorem Inv.kIn (I : Inv X pins σ H s) : X.K.In s.heap := I.ok.mod.kin.keeps I.bk
theorem Inv.nolimit (I : Inv X pins σ H s) : s.heap.NoLimit := I.ok.mod.nolimit.keeps I.bk
theorem Inv.fr (I : Inv X pins σ H s) : ∃ m, Fr X.base X.env.locals s.heap m :=
  let ⟨m, hn, _⟩ := I.loc
  ⟨m, hn, I.bk, Nat.le_trans I.ok.bsz I.ok.above⟩
theorem Inv.lt (I : Inv X pins σ H s) : X.env.locals < s.heap.objs.size := let ⟨_, hn, _⟩ := I.loc; hn.lt
theorem Inv.sz (I : Inv X pins σ H s) : X.s₀.heap.objs.size ≤ s.heap.objs.size := Nat.le_trans I.ok.above (Nat.le_of_lt I.lt)
theorem Inv.nofs (I : Inv X pins σ H s) {a : Addr} (h : s.heap.objs.size ≤ a) : a ∉ X.fs := fun hb => by
  obtain ⟨_, o, ho, _⟩ := I.ok.funs.mem hb
  exact absurd (Nat.lt_of_lt_of_le (Heap.lt_size ho) (Nat.le_trans I.sz h)) (Nat.lt_irrefl _)
theorem Inv.cne (I : Inv X pins σ H s) : ∀ x c, X.env.cells.lookup x = some c → c ≠ X.env.locals := fun x c e z => by
  obtain ⟨v, o, ho, hd⟩ := I.cell x c e
  obtain ⟨m, ⟨o', es, ep, ho', hd', _⟩, _⟩ := I.loc
  rw [z, ho'] at ho; cases ho; rw [hd'] at hd; cases hd
theorem Inv.funs (I : Inv X pins σ H s) : s.heap.FunFrames X.base X.outer := by
  have all : ∀ (l : List Env), (∀ b ∈ frs l, b ∈ X.fs) → X.s₀.heap.FunFrames X.base l → s.heap.FunFrames X.base l := by
    intro l
    induction l with
    | nil => intro _ _; trivial
    | cons env r ih =>
      intro hs hl
      obtain ⟨hk, ⟨L, o, hf, hn, ho, hd⟩, hr⟩ := hl
      have hL : L ∈ X.fs := hs L (by unfold frs; rw [List.filterMap_cons, hf]; exact List.mem_cons_self)
      obtain ⟨sl, e⟩ := I.base.slot L o ho (I.ok.frf L hL) hL fun z => I.ok.exfs L z hL
      exact ⟨hk, ⟨L, _, hf, hn, e, hd⟩, ih (fun b hb => hs b (by unfold frs; rw [List.filterMap_cons, hf]; exact List.mem_cons_of_mem _ hb)) hr⟩
  exact all X.outer (fun _ hb => hb) I.ok.funs
theorem Inv.stack (I : Inv X pins σ H s) : s.heap.FunFrames X.base X.stack := by
  rcases I.ok.stk with e | ⟨e, hf⟩
  · rw [e]; exact I.funs
  · rw [e]
    obtain ⟨m, hn, _⟩ := I.loc
    refine .cons (by rw [I.ok.kind]; decide) hf hn ?_ I.funs
    exact Heap.get?_none_of_le (Nat.le_trans I.ok.bsz I.ok.above)
theorem Inv.stkSub (I : Inv X pins σ H s) : ∀ b ∈ frs X.stack, b ∈ X.env.locals :: X.fs := fun b hb => by
  rcases I.ok.stk with e | ⟨e, hf⟩
  · rw [e] at hb; exact List.mem_cons_of_mem _ hb
  · rw [e] at hb
    unfold frs at hb
    rw [List.filterMap_cons, hf] at hb
    exact hb
theorem Inv.stkFree (I : Inv X pins σ H s) : ∀ b ∈ frs X.stack, H b = none := fun b hb => by
  rcases List.mem_cons.mp (I.stkSub b hb) with e | hb
  · rw [e]; exact I.free
  · obtain ⟨_, o, ho, _⟩ := I.ok.funs.mem hb
    exact I.base.free b o ho (I.ok.frf b hb) fun z => I.ok.exfs b z hb
theorem Inv.step {g' : Array GenState} {t' : Nat} {d' : Drawn} {ch : List Addr} (I : Inv X pins σ H s)
    (hch : ∀ b ∈ ch, (b ∈ X.ex ∨ X.s₀.heap.objs.size ≤ b) ∧ b ≠ X.env.locals ∧ (∀ x c, X.env.cells.lookup x = some c → c ≠ b) ∧ ∀ p ∈ X.pn ++ pins, p.1 ≠ b)
    (keep : ∀ b o, b ≠ X.env.locals → b ∉ X.fs → b ∉ ch → s.heap.get? b = some o → H b = none → h'.get? b = some o)
    (slot : ∀ b o, b ≠ X.env.locals → b ∈ X.fs → b ∉ ch → s.heap.get? b = some o → H b = none → ∃ sl, h'.get? b = some { o with slots := sl }) (free : ∀ b o, b ∉ ch → s.heap.get? b = some o → H b = none → H' b = none)
    (there : ∀ b o, b ∉ ch → s.heap.get? b = some o → ∃ o', h'.get? b = some o')
    (tups : ∀ b xs, H b = some (.tup xs) → H' b = some (.tup xs)) (frzs : ∀ b o u, H b = some (.frz o u) → H' b = some (.frz o u)) (tbls : ∀ b ps, H b = some (.tbl ps) → ∃ more, H' b = some (.tbl (ps ++ more)))
    (ns : ∀ m, s.heap.Ns X.env.locals m → h'.Ns X.env.locals m) (hok : HOk X.prog X.w H' h') (hg : AllBare g') :
    Inv X pins σ H' { s with heap := h', gens := g', drawn := d', toks := t' } := by
  have neL : ∀ b o, X.s₀.heap.get? b = some o → b ≠ X.env.locals := fun b o e => Nat.ne_of_lt (Nat.lt_of_lt_of_le (Heap.lt_size e) I.ok.above)
  have neC : ∀ b o, X.s₀.heap.get? b = some o → b ∉ X.ex → b ∉ ch := fun b o e hx hb => by
    rcases (hch b hb).1 with z | z
    · exact hx z
    · exact absurd (Nat.lt_of_lt_of_le (Heap.lt_size e) z) (Nat.lt_irrefl _)
  have cellK : ∀ x c, X.env.cells.lookup x = some c → ∀ v, s.heap.IsCell c v → h'.IsCell c v := fun x c e v ⟨o, ho, hd⟩ => by
    have nch : c ∉ ch := fun z => (hch c z).2.2.1 x c e rfl
    by_cases hc : c ∈ X.fs
    · obtain ⟨sl, q⟩ := slot c o (I.cne x c e) hc nch ho (I.freeC x c e)
      exact ⟨_, q, hd⟩
    · exact ⟨o, keep c o (I.cne x c e) hc nch ho (I.freeC x c e), hd⟩
  refine ⟨I.ok, I.os, hg, ⟨fun b o e n hb hx => ?_, fun b o e n hb hx => ?_, fun b o e n hx => ?_, fun b o e hx => ?_, fun b xs e => tups b xs (I.base.tups b xs e), fun b o xs e => frzs b o xs (I.base.frzs b o xs e), fun b ps e => ?_⟩, ?_, fun x c e => ?_, ?_, fun x c e => ?_, fun p hp => ?_, hok, I.len⟩
  · exact keep b o (neL b o e) hb (neC b o e hx) (I.base.keep b o e n hb hx) (I.base.free b o e n hx)
  · obtain ⟨sl, e1⟩ := I.base.slot b o e n hb hx
    obtain ⟨sl', e2⟩ := slot b _ (neL b o e) hb (neC b o e hx) e1 (I.base.free b o e n hx)
    exact ⟨sl', e2⟩
  · obtain ⟨o', e1⟩ := I.base.there b o e hx
    exact free b o' (neC b o e hx) e1 (I.base.free b o e n hx)
  · obtain ⟨o', e1⟩ := I.base.there b o e hx
    exact there b o' (neC b o e hx) e1
  · obtain ⟨m1, e1⟩ := I.base.tbls b ps e
    obtain ⟨m2, e2⟩ := tbls b _ e1
    exact ⟨m1 ++ m2, by rw [e2, Array.append_assoc]⟩
  · obtain ⟨m, hn, hl⟩ := I.loc
    refine ⟨m, ns m hn, fun i x v e1 e2 e3 => ?_⟩
    obtain ⟨u, r, l⟩ := hl i x v e1 e2 e3
    refine ⟨u, r, ?_⟩
    rcases l with l | ⟨k, c, e, z⟩
    · exact .inl l
    · exact .inr ⟨k, c, e, cellK x c e _ z⟩
  · obtain ⟨v, z⟩ := I.cell x c e
    exact ⟨v, cellK x c e v z⟩
  · obtain ⟨m, ⟨o, _, _, ho, _⟩, _⟩ := I.loc
    exact free _ o (fun z => (hch _ z).2.1 rfl) ho I.free
  · obtain ⟨v, o, ho, hd⟩ := I.cell x c e
    exact free c o (fun z => (hch c z).2.2.1 x c e rfl) ho (I.freeC x c e)
  · obtain ⟨e, n, ne, nf, d⟩ := I.pin p hp
    have nch : p.1 ∉ ch := fun z => (hch p.1 z).2.2.2 p hp rfl
    exact ⟨keep p.1 p.2 ne nf nch e n, free p.1 p.2 nch e n, ne, nf, d⟩
theorem Inv.un {t' : Nat} (I : Inv X pins σ H s) (u : Un X.fs [] H H' s.heap h') (hok : HOk X.prog X.w H' h') : Inv X pins σ H' { s with heap := h', toks := t' } := by
  obtain ⟨m, ⟨o, es, ep, ho, r⟩, _⟩ := id I.loc
  obtain ⟨sl, hL⟩ := u.any ho I.free (by simp)
  exact I.step (g' := s.gens) (d' := s.drawn) (ch := []) (fun _ z => nomatch z) (fun b o _ hb _ e n => u.keep b o e n hb (by simp)) (fun b o _ hb _ e n => u.slot b o e n hb (by simp)) (fun b o _ e n => u.free b o e n (by simp)) (fun b o _ e => u.there b o e (by simp)) u.tups u.frzs u.tbls (fun m' hm => by
    obtain ⟨o', es', ep', ho', r'⟩ := hm
    rw [ho] at ho'; cases ho'
    exact ⟨_, es', ep', hL, r'⟩) hok I.bare
theorem Inv.call {g' : Array GenState} {t' : Nat} {d' : Drawn} {ch : List Addr} (I : Inv X pins σ H s) (u : Un (frs X.stack) ch H H' s.heap h') (hok : HOk X.prog X.w H' h') (hg : AllBare g')
    (hch : ∀ b ∈ ch, (b ∈ X.ex ∨ X.s₀.heap.objs.size ≤ b) ∧ b ≠ X.env.locals ∧ (∀ x c, X.env.cells.lookup x = some c → c ≠ b) ∧ ∀ p ∈ X.pn ++ pins, p.1 ≠ b) :
    Inv X pins σ H' { s with heap := h', gens := g', drawn := d', toks := t' } := by
  obtain ⟨m, ⟨o, es, ep, ho, r⟩, _⟩ := id I.loc
  obtain ⟨sl, hL⟩ := u.any ho I.free fun z => (hch _ z).2.1 rfl
  exact I.step (ch := ch) hch (fun b o hL hb hc e n => u.keep b o e n (fun z => (List.mem_cons.mp (I.stkSub b z)).elim hL hb) hc) (fun b o _ _ hc e n => u.any e n hc) (fun b o hc e n => u.free b o e n hc) (fun b o hc e => u.there b o e hc) u.tups u.frzs u.tbls (fun m' hm => by
    obtain ⟨o', es', ep', ho', r'⟩ := hm
    rw [ho] at ho'; cases ho'
    exact ⟨_, es', ep', hL, r'⟩) hok hg
theorem Inv.turned {t' : Nat} {it : Addr} (I : Inv X pins σ H s) (k : ∀ b o, b ≠ it → s.heap.get? b = some o → h'.get? b = some o) (hn : H it = none) (hL : it ≠ X.env.locals)
    (h1 : it ∈ X.ex ∨ X.s₀.heap.objs.size ≤ it) (h2 : ∀ x c, X.env.cells.lookup x = some c → c ≠ it) (h3 : ∀ p ∈ X.pn ++ pins, p.1 ≠ it) : Inv X pins σ H { s with heap := h', toks := t' } := by
  have nit : ∀ b u, H b = some u → b ≠ it := fun b u e z => by rw [z, hn] at e; cases e
  refine I.step (g' := s.gens) (d' := s.drawn) (ch := [it]) (fun b hb => ?_) (fun b o _ _ hc e _ => k b o (fun z => hc (by simp [z])) e) (fun b o _ _ hc e _ => ⟨o.slots, k b o (fun z => hc (by simp [z])) e⟩) (fun _ _ _ _ n => n)
    (fun b o hc e => ⟨o, k b o (fun z => hc (by simp [z])) e⟩) (fun _ _ e => e) (fun _ _ _ e => e) (fun b ps e => ⟨#[], by rw [e]; simp⟩) (fun m hm => ?_) (fun b u e => ?_) I.bare
  · have e : b = it := by simpa using hb
    subst e
    exact ⟨h1, hL, h2, h3⟩
  · obtain ⟨o, es, ep, ho, r⟩ := hm
    exact ⟨o, es, ep, k _ o (Ne.symm hL) ho, r⟩
  · refine (I.hok b u e).stay (fun c v hc q => k c v ?_ q) (fun _ q => q) fun _ _ q => q
    rcases hc with z | z
    · rw [z]; exact nit b u e
    · exact nit c _ z
theorem Inv.tok (I : Inv X pins σ H s) (t : Nat) : Inv X pins σ H { s with toks := t } := I.un (h' := s.heap) (t' := t) Un.refl I.hok
theorem Inv.kept {t' : Nat} (I : Inv X pins σ H s) (k : ∀ b u, s.heap.get? b = some u → h'.get? b = some u) : Inv X pins σ H { s with heap := h', toks := t' } := I.un (Un.kept k) (I.hok.kept k)
theorem Inv.laid {a : Addr} {o : HO} {t' : Nat} (I : Inv X pins σ H s) (k : ∀ b u, s.heap.get? b = some u → h'.get? b = some u) (hp : s.heap.objs.size ≤ a) (new : ObjOk X.prog X.w (upd H a o) h' a o) :
    Inv X pins σ (upd H a o) { s with heap := h', toks := t' } := I.un (Un.laid k hp (I.hok.fresh hp)) (I.hok.laid k hp new)
theorem Inv.write {x e : Addr} {o : HO} {t' : Nat} (I : Inv X pins σ H s) (mu : Mut (H x)) (he : e = x ∨ H e = some (.own x)) (k : ∀ b u, b ≠ e → s.heap.get? b = some u → h'.get? b = some u) (heo : ∃ u, h'.get? e = some u)
    (new : ObjOk X.prog X.w (upd H x o) h' x o) : Inv X pins σ (upd H x o) { s with heap := h', toks := t' } := I.un (Un.write mu he k heo) (I.hok.write mu he k heo new)
theorem Inv.pins_of {pins' : List (Addr × Obj)} (I : Inv X pins σ H s) (h : ∀ p ∈ pins', s.heap.get? p.1 = some p.2 ∧ H p.1 = none ∧ p.1 ≠ X.env.locals ∧ p.1 ∉ X.fs ∧ ∀ v, p.2.data ≠ .cell v) : Inv X pins' σ H s :=
  ⟨I.ok, I.os, I.bare, I.base, I.loc, I.cell, I.free, I.freeC, fun p hp => (List.mem_append.mp hp).elim (fun z => I.pin p (List.mem_append_left _ z)) (h p), I.hok, I.len⟩
theorem nodup_ix {N : List Str} (hN : N.Nodup) {i j : Nat} {x : Str} (a : N[i]? = some x) (b : N[j]? = some x) : i = j := by
  obtain ⟨h1, e1⟩ := List.getElem?_eq_some_iff.mp a
  obtain ⟨h2, e2⟩ := List.getElem?_eq_some_iff.mp b
  exact (List.getElem_inj hN).mp (e1.trans e2.symm)
theorem store_ok2 {M : Model} {A : Around} {E : Value → Shared → Prop} {i : Nat} {x : Str} {v : V} {u : Value} {Q : Unit → Shared → Prop} (I : Inv X pins σ H s) (hN : X.N.Nodup) (hi : X.N[i]? = some x) (hx : Loc X.env.scope x) (r : RelV v u)
    (h : ∀ s', Inv X pins (σ.set i (some v)) H s' → (∃ a, Heap.SameBut a s.heap s'.heap ∧ (a = X.env.locals ∨ X.env.cells.lookup x = some a)) → Q () s') (hf : X.fn x = true ∨ X.env.scope.names.lookup x = some .local := by first | exact .inl rfl | exact .inr rfl | assumption) : wpAny M A (storeName X.env x u) Q E s := by
  obtain ⟨m, hn, hl⟩ := id I.loc
  have hcls : (X.env.scope.kind == .class || (X.env.scope.kind == .module && X.env.locals != X.env.globals)) = false := by rw [I.ok.kind]; rfl
  have hiσ : i < σ.length := by rw [I.len]; exact (List.getElem?_eq_some_iff.mp hi).1
  have cne := I.cne
  have tracked : ∀ {a : Addr} {h' : Heap}, (∃ o, s.heap.get? a = some o ∧ H a = none) → Heap.SameBut a s.heap h' → HOk X.prog X.w H h' := fun {a h'} ha hs b ob e => by
    obtain ⟨_, _, hfree⟩ := ha
    refine (I.hok b ob e).stay (fun c w' hc q => (hs.2 c ?_).trans q) (fun _ q => q) fun _ _ q => q
    rintro rfl
    rcases hc with rfl | hc
    · rw [hfree] at e; cases e
    · rw [hfree] at hc; cases hc
  rcases hx with hk | hk
  · refine wpAny_storeName_local hk hn (fun h' hn' hs => ?_) hcls
    obtain ⟨oL, _, _, hoL, _⟩ := id hn
    refine h _ ⟨I.ok, I.os, I.bare, ⟨fun b o e n hb hx => ?_, fun b o e n hb hx => ?_, I.base.free, fun b o e hx => ?_, I.base.tups, I.base.frzs, I.base.tbls⟩, ⟨_, hn', fun j y v' e1 e2 e3 => ?_⟩, fun y c e => ?_, I.free, I.freeC, fun p hp => ?_, tracked ⟨oL, hoL, I.free⟩ hs, by simpa using I.len⟩ ⟨_, hs, .inl rfl⟩
    · exact (hs.2 b (Nat.ne_of_lt (Nat.lt_of_lt_of_le (Heap.lt_size e) I.ok.above))).trans (I.base.keep b o e n hb hx)
    · obtain ⟨sl, e1⟩ := I.base.slot b o e n hb hx
      exact ⟨sl, (hs.2 b (Nat.ne_of_lt (Nat.lt_of_lt_of_le (Heap.lt_size e) I.ok.above))).trans e1⟩
    · obtain ⟨o', e1⟩ := I.base.there b o e hx
      exact ⟨o', (hs.2 b (Nat.ne_of_lt (Nat.lt_of_lt_of_le (Heap.lt_size e) I.ok.above))).trans e1⟩
    · by_cases hj : j = i
      · subst hj
        rw [hi] at e1; cases e1
        rw [List.getElem?_set_self hiσ] at e2
        cases e2
        exact ⟨u, r, .inl ⟨hk, by simp⟩⟩
      · rw [List.getElem?_set_ne (Ne.symm hj)] at e2
        obtain ⟨u', r', q⟩ := hl j y v' e1 e2 e3
        refine ⟨u', r', ?_⟩
        rcases q with ⟨k, e⟩ | ⟨k, c, e, z⟩
        · refine .inl ⟨k, ?_⟩
          have : y ≠ x := fun e => hj (nodup_ix hN e1 (e ▸ hi))
          simp [this, e]
        · exact .inr ⟨k, c, e, z.sameBut hs (cne y c e)⟩
    · obtain ⟨w', z⟩ := I.cell y c e
      exact ⟨w', z.sameBut hs (cne y c e)⟩
    · obtain ⟨e, n, ne, nf, d⟩ := I.pin p hp
      exact ⟨(hs.2 p.1 ne).trans e, n, ne, nf, d⟩
  · have hfn : X.fn x = true := by
      rcases hf with z | z
      · exact z
      · rw [z] at hk; cases hk
    obtain ⟨c, hc⟩ := I.ok.has x (.inl hk)
    obtain ⟨w', z⟩ := I.cell x c hc
    refine wpAny_storeName_cell I.ok.kind hk hc z (fun h' hc' hs => ?_)
    obtain ⟨oc, hoc, hocd⟩ := id z
    refine h { s with heap := h' } ⟨I.ok, I.os, I.bare, ⟨fun b o e n hb hx => ?_, fun b o e n hb hx => ?_, I.base.free, fun b o e hx => ?_, I.base.tups, I.base.frzs, I.base.tbls⟩, ⟨m, hn.sameBut hs (Ne.symm (cne x c hc)), fun j y v' e1 e2 e3 => ?_⟩, fun y c' e => ?_, I.free, I.freeC, fun p hp => ?_, tracked ⟨oc, hoc, I.freeC x c hc⟩ hs, by simpa using I.len⟩ ⟨c, hs, .inr hc⟩
    · exact (hs.2 b (Nat.ne_of_lt (Nat.lt_of_lt_of_le (Heap.lt_size e) (I.ok.cab x c hfn hc)))).trans (I.base.keep b o e n hb hx)
    · obtain ⟨sl, e1⟩ := I.base.slot b o e n hb hx
      exact ⟨sl, (hs.2 b (Nat.ne_of_lt (Nat.lt_of_lt_of_le (Heap.lt_size e) (I.ok.cab x c hfn hc)))).trans e1⟩
    · obtain ⟨o', e1⟩ := I.base.there b o e hx
      exact ⟨o', (hs.2 b (Nat.ne_of_lt (Nat.lt_of_lt_of_le (Heap.lt_size e) (I.ok.cab x c hfn hc)))).trans e1⟩
    · by_cases hj : j = i
      · subst hj
        rw [hi] at e1; cases e1
        rw [List.getElem?_set_self hiσ] at e2
        cases e2
        exact ⟨u, r, .inr ⟨.inl hk, c, hc, hc'⟩⟩
      · rw [List.getElem?_set_ne (Ne.symm hj)] at e2
        obtain ⟨u', r', q⟩ := hl j y v' e1 e2 e3
        refine ⟨u', r', ?_⟩
        rcases q with q | ⟨k, c', e, z'⟩
        · exact .inl q
        · refine .inr ⟨k, c', e, z'.sameBut hs ?_⟩
          rintro rfl
          exact hj (nodup_ix hN e1 (I.ok.inj _ _ _ e hc ▸ hi))
    · by_cases hcc : c' = c
      · subst hcc; exact ⟨_, hc'⟩
      · obtain ⟨w2, z2⟩ := I.cell y c' e
        exact ⟨w2, z2.sameBut hs hcc⟩
    · obtain ⟨e, n, ne, nf, d⟩ := I.pin p hp
      refine ⟨(hs.2 p.1 ?_).trans e, n, ne, nf, d⟩
      intro q
      rw [q, hoc] at e
      have q' : oc = p.2 := Option.some.inj e
      exact d w' (by rw [← q']; exact hocd)
theorem store_ok {M : Model} {A : Around} {E : Value → Shared → Prop} {i : Nat} {x : Str} {v : V} {u : Value} {Q : Unit → Shared → Prop} (I : Inv X pins σ H s) (hN : X.N.Nodup) (hi : X.N[i]? = some x) (hx : Loc X.env.scope x) (r : RelV v u)
    (h : ∀ s', Inv X pins (σ.set i (some v)) H s' → Q () s') (hf : X.fn x = true ∨ X.env.scope.names.lookup x = some .local := by first | exact .inl rfl | exact .inr rfl | assumption) : wpAny M A (storeName X.env x u) Q E s :=
  store_ok2 I hN hi hx r (fun s' I' _ => h s' I') hf
theorem Inv.call' {s' : Shared} {ch : List Addr} (I : Inv X pins σ H s) (ho : s'.os = s.os) (u : Un (frs X.stack) ch H H' s.heap s'.heap) (hok : HOk X.prog X.w H' s'.heap) (hg : AllBare s'.gens)
    (hch : ∀ b ∈ ch, (b ∈ X.ex ∨ X.s₀.heap.objs.size ≤ b) ∧ b ≠ X.env.locals ∧ (∀ x c, X.env.cells.lookup x = some c → c ≠ b) ∧ ∀ p ∈ X.pn ++ pins, p.1 ≠ b) : Inv X pins σ H' s' := by
  obtain ⟨h', g', d', t', o'⟩ := s'
  have e : o' = s.os := ho
  subst e
  exact I.call (g' := g') (t' := t') (d' := d') u hok hg hch
end
abbrev XK := Value → Option Addr → Hp → Prop
abbrev St := List (Option V)
abbrev VK := V → Hp → Prop
abbrev TE := St → Hp → VK → Prop
abbrev TT := St → Hp → (Bool → Hp → Prop) → Prop
abbrev TA := St → Hp → (List V → Hp → Prop) → Prop
structure Ends where
  nx : St → Hp → Prop
  rt : VK
  bk : St → Hp → Prop := fun _ _ => False
  ct : St → Hp → Prop := fun _ _ => False
abbrev TS := Ends → St → Hp → Prop
def EP (X : Cx) (pins : List (Addr × Obj)) (σ : St) (Q : VK) (u : Value) (s' : Shared) : Prop := ∃ v H', Inv X pins σ H' s' ∧ RelV v u ∧ Q v H'
def TP (X : Cx) (pins : List (Addr × Obj)) (σ : St) (Q : Bool → Hp → Prop) (b : Bool) (s' : Shared) : Prop := ∃ H', Inv X pins σ H' s' ∧ Q b H'
def AP (X : Cx) (pins : List (Addr × Obj)) (σ : St) (Q : List V → Hp → Prop) (us : List Value) (s' : Shared) : Prop := ∃ vs H', Inv X pins σ H' s' ∧ Vals vs us ∧ Q vs H'
def SP (X : Cx) (pins : List (Addr × Obj)) (D : Ends) (f : Flow) (s' : Shared) : Prop :=
  match f with
  | .next => ∃ σ' H', Inv X pins σ' H' s' ∧ D.nx σ' H'
  | .brk => ∃ σ' H', Inv X pins σ' H' s' ∧ D.bk σ' H'
  | .cont => ∃ σ' H', Inv X pins σ' H' s' ∧ D.ct σ' H'
  | .ret u => ∃ v σ' H', Inv X pins σ' H' s' ∧ RelV v u ∧ D.rt v H'
def PE (X : Cx) (e : Expr) (t : TE) : Prop :=
  ∀ (pins : List (Addr × Obj)) (s : Shared) (σ : St) (H : Hp) (Q : VK), Inv X pins σ H s → t σ H Q → wpAny (model X.prog X.w) X.A (eval e X.env) (EP X pins σ Q) X.xe s
def PT (X : Cx) (e : Expr) (t : TT) : Prop :=
  ∀ (pins : List (Addr × Obj)) (s : Shared) (σ : St) (H : Hp) (Q : Bool → Hp → Prop), Inv X pins σ H s → t σ H Q → wpAny (model X.prog X.w) X.A (isTrue e X.env (eval e X.env)) (TP X pins σ Q) X.xe s
def PW (X : Cx) (e : Expr) (t : TT) : Prop :=
  ∀ (whole : Sem Value) (pins : List (Addr × Obj)) (s : Shared) (σ : St) (H : Hp) (Q : Bool → Hp → Prop), Inv X pins σ H s → t σ H Q → wpAny (model X.prog X.w) X.A (isTrue e X.env whole) (TP X pins σ Q) X.xe s
theorem PW.pt {X : Cx} {e : Expr} {t : TT} (h : PW X e t) : PT X e t := h _
def PA (X : Cx) (es : List Expr) (t : TA) : Prop :=
  ∀ (pos : Pos) (pins : List (Addr × Obj)) (s : Shared) (σ : St) (H : Hp) (Q : List V → Hp → Prop), Inv X pins σ H s → t σ H Q → wpAny (model X.prog X.w) X.A (spliced (backTo pos (starEach es X.env))) (AP X pins σ Q) X.xe s
def PS (X : Cx) (st : Stmt) (t : TS) : Prop :=
  ∀ (pins : List (Addr × Obj)) (s : Shared) (σ : St) (H : Hp) (D : Ends), Inv X pins σ H s → t D σ H → wpAny (model X.prog X.w) X.A (exec st X.env) (SP X pins D) X.xe s
def PSs (X : Cx) (st : List Stmt) (t : TS) : Prop :=
  ∀ (pins : List (Addr × Obj)) (s : Shared) (σ : St) (H : Hp) (D : Ends), Inv X pins σ H s → t D σ H → wpAny (model X.prog X.w) X.A (execs st X.env) (SP X pins D) X.xe s
theorem thn {α : Type} {t : Sem α} {Q Q' : α → Shared → Prop} {M : Model} {A : Around} {E : Value → Shared → Prop} {s : Shared} (h : wpAny M A t Q E s) (hQ : ∀ a s, Q a s → Q' a s) : wpAny M A t Q' E s := wpAny_mono h hQ fun _ _ x => x
section
variable {X : Cx}
def tVar (i : Nat) : TE := fun σ H Q => ∃ v, σ[i]? = some (some v) ∧ Q v H
def tC (v : V) : TE := fun _ H Q => Q v H
theorem pe_var {i : Nat} {x : Str} {pos : Pos} (hN : X.N[i]? = some x) (hv : Vis X.env.scope x) (hd : (x == ("__debug__" : Str)) = false := by decide) (hcd : (x == ("__classdict__" : Str)) = false := by decide) : PE X (.Name x pos) (tVar i) := by
  intro pins s σ H Q I h
  obtain ⟨v, e, h⟩ := h
  obtain ⟨m, hn, hl⟩ := I.loc
  obtain ⟨u, r, l⟩ := hl i x v hN e hv
  have fin : EP X pins σ Q u s := ⟨v, H, I, r, h⟩
  rcases l with ⟨hk, hm⟩ | ⟨hk, c, hc, hcell⟩
  · exact wpAny_Name (wpAny_loadName_local I.ok.kind hk hn hm fin) hd
  · rcases hk with hk | hk
    · exact wpAny_Name (wpAny_loadName_cell I.ok.kind hk hc hcell fin) hd
    · exact wpAny_Name (wpAny_loadName_free I.ok.kind hk hc hcell fin hcd) hd
theorem pe_int {i j pos} : PE X (.Constant (.int i) j pos) (tC (.int i)) := fun _ _ _ H _ I h => wpAny_Constant_int ⟨.int i, H, I.tok _, ⟨_, rfl⟩, h⟩
theorem pe_bl {b j pos} : PE X (.Constant (.bool b) j pos) (tC (.bl b)) := fun _ _ _ H _ I h => Constant_bool ⟨.bl b, H, I, rfl, h⟩
theorem pe_non {j pos} : PE X (.Constant .none j pos) (tC .non) := fun _ _ _ H _ I h => Constant_none ⟨.non, H, I, rfl, h⟩
theorem pe_str {x j pos} : PE X (.Constant (.str x) j pos) (tC (.str x)) := fun _ _ _ H _ I h => Calls.Constant_str ⟨.str x, H, I.tok _, ⟨_, rfl⟩, h⟩
def Gl (X : Cx) (x : Str) : Prop := X.env.kindOf x = some .globalImplicit
theorem ld_glob {E : Value → Shared → Prop} {pins : List (Addr × Obj)} {s : Shared} {σ : St} {H : Hp} {x : Str} {u : Value} {pos : Pos} {Q : Value → Shared → Prop} (I : Inv X pins σ H s) (hg : Gl X x) (hm : X.mg x = some u) (h : Q u s)
    (hd : (x == ("__debug__" : Str)) = false := by decide) : wpAny (model X.prog X.w) X.A (eval (.Name x pos) X.env) Q E s :=
  Calls.Name_function_global I.ok.kind hg (Calls.loadGlobal_global (by rw [I.ok.glob]; exact I.mod.glob.keeps I.bk) hm h) hd
theorem ld_blt {E : Value → Shared → Prop} {pins : List (Addr × Obj)} {s : Shared} {σ : St} {H : Hp} {x : Str} {u : Value} {pos : Pos} {Q : Value → Shared → Prop} (I : Inv X pins σ H s) (hg : Gl X x) (hm : X.mg x = none) (hv : bootBuiltins x = some u) (h : Q u s)
    (hn : x ≠ "__name__" := by decide) (hd : (x == ("__debug__" : Str)) = false := by decide) : wpAny (model X.prog X.w) X.A (eval (.Name x pos) X.env) Q E s := by
  obtain ⟨mb, h1, h2⟩ := I.mod.blt
  exact Calls.Name_function_global I.ok.kind hg (Calls.loadGlobal_builtin (by rw [I.ok.glob]; exact I.mod.glob.keeps I.bk) hm (by rw [I.ok.blt]; exact h1.keeps I.bk) ((h2 x hn).trans hv) h) hd
theorem pe_glob {x : Str} {v : V} {u : Value} {pos : Pos} (hg : Gl X x) (hm : X.mg x = some u) (r : RelV v u) (hd : (x == ("__debug__" : Str)) = false := by decide) : PE X (.Name x pos) (tC v) :=
  fun _ _ _ H _ I h => ld_glob I hg hm ⟨v, H, I, r, h⟩ hd
theorem pe_bltn {x : Str} {v : V} {u : Value} {pos : Pos} (hg : Gl X x) (hm : X.mg x = none) (hv : bootBuiltins x = some u) (r : RelV v u) (hn : x ≠ "__name__" := by decide) (hd : (x == ("__debug__" : Str)) = false := by decide) : PE X (.Name x pos) (tC v) :=
  fun _ _ _ H _ I h => ld_blt I hg hm hv ⟨v, H, I, r, h⟩ hn hd
variable {a b : Expr} {ta tb : TE} {pos : Pos}
variable {tA tB' : TT} {rest : List Expr}
def tAnd (t u : TT) : TT := fun σ H Q => t σ H fun c H1 => if c = true then u σ H1 Q else Q false H1
def tOr (t u : TT) : TT := fun σ H Q => t σ H fun c H1 => if c = true then Q true H1 else u σ H1 Q
def tNot (t : TT) : TT := fun σ H Q => t σ H fun c H1 => Q (!c) H1
theorem pw_and1 (ha : PT X a tA) : PW X (.BoolOp .And [a] pos) tA := by
  intro wh pins s σ H Q I h
  refine isTrue_and (thn (ha pins s σ H Q I h) fun c s1 e => ?_)
  cases c with
  | true => exact isTrue_and_nil e
  | false => exact e
theorem pw_or1 (ha : PT X a tA) : PW X (.BoolOp .Or [a] pos) tA := by
  intro wh pins s σ H Q I h
  refine isTrue_or (thn (ha pins s σ H Q I h) fun c s1 e => ?_)
  cases c with
  | false => exact isTrue_or_nil e
  | true => exact e
theorem pw_and (ha : PT X a tA) (hb : PW X (.BoolOp .And (b :: rest) pos) tB') : PW X (.BoolOp .And (a :: b :: rest) pos) (tAnd tA tB') := by
  intro wh pins s σ H Q I h
  refine isTrue_and (thn (ha pins s σ H _ I h) fun c s1 ⟨H1, I1, q1⟩ => ?_)
  cases c with
  | true => exact hb wh pins s1 σ H1 Q I1 q1
  | false => exact ⟨H1, I1, q1⟩
theorem pw_or (ha : PT X a tA) (hb : PW X (.BoolOp .Or (b :: rest) pos) tB') : PW X (.BoolOp .Or (a :: b :: rest) pos) (tOr tA tB') := by
  intro wh pins s σ H Q I h
  refine isTrue_or (thn (ha pins s σ H _ I h) fun c s1 ⟨H1, I1, q1⟩ => ?_)
  cases c with
  | true => exact ⟨H1, I1, q1⟩
  | false => exact hb wh pins s1 σ H1 Q I1 q1
theorem pt_not (ha : PT X a tA) : PT X (.UnaryOp .Not a pos) (tNot tA) := by
  intro pins s σ H Q I h
  exact isTrue_not (ha pins s σ H (fun c H1 => Q (!c) H1) I h)
def tAndV (ta tb : TE) : TE := fun σ H Q => ta σ H fun x H1 => ∃ c, x = .bl c ∧ if c = true then tb σ H1 Q else Q (.bl false) H1
def tNotV (ta : TE) : TE := fun σ H Q => ta σ H fun x H1 => ∃ c, x = .bl c ∧ Q (.bl (!c)) H1
theorem pe_one {op} {t : TE} (h : PE X a t) : PE X (.BoolOp op [a] pos) t := fun pins s σ H Q I hw => BoolOp_one (h pins s σ H Q I hw)
theorem pe_and (ha : PE X a ta) (hb : PE X (.BoolOp .And (b :: rest) pos) tb) : PE X (.BoolOp .And (a :: b :: rest) pos) (tAndV ta tb) := by
  intro pins s σ H Q I h
  refine BoolOp_and (thn (ha pins s σ H _ I h) fun v s1 ⟨x, H1, I1, r1, q1⟩ => ?_)
  obtain ⟨c, rfl, q1⟩ := q1
  cases r1
  refine wpAny_truthy_bool ?_
  cases c with
  | true => exact hb pins s1 σ H1 Q I1 q1
  | false => exact ⟨.bl false, H1, I1, rfl, q1⟩
theorem pe_not (ha : PE X a ta) : PE X (.UnaryOp .Not a pos) (tNotV ta) := by
  intro pins s σ H Q I h
  refine UnaryOp_ (thn (ha pins s σ H _ I h) fun v s1 ⟨x, H1, I1, r1, q1⟩ => ?_)
  obtain ⟨c, rfl, q1⟩ := q1
  cases r1
  exact not_of (wpAny_truthy_bool ⟨.bl (!c), H1, I1, rfl, q1⟩)
def tIf (t : TT) (ta tb : TE) : TE := fun σ H Q => t σ H fun c H1 => if c = true then ta σ H1 Q else tb σ H1 Q
theorem pe_ifExp {c : Expr} (hc : PT X c tA) (ha : PE X a ta) (hb : PE X b tb) : PE X (.IfExp c a b pos) (tIf tA ta tb) := by
  intro pins s σ H Q I h
  refine wpAny_IfExp (thn (hc pins s σ H _ I h) fun d s1 ⟨H1, I1, q1⟩ => ?_)
  cases d with
  | true => exact ha pins s1 σ H1 Q I1 q1
  | false => exact hb pins s1 σ H1 Q I1 q1
end
def SqL (K : PySem.W.Frag) (H : Hp) (a : Addr) (xs : List V) : Prop :=
  Rd H a (.lst xs) ∨
    ∃ (o : Obj) (its : Array Value) (n : Nat), K.lookup a = some o ∧ o.cls = .type "list" ∧ o.dict = none ∧ o.data = .seq its n ∧ its.size ≤ sizeLine ∧ Vals xs its.toList
def SqT (K : PySem.W.Frag) (H : Hp) (a : Addr) (xs : List V) : Prop :=
  Rd H a (.tup xs) ∨
    ∃ (o : Obj) (its : Array Value) (n : Nat), K.lookup a = some o ∧ o.cls = .type "tuple" ∧ o.data = .seq its n ∧ its.size ≤ sizeLine ∧ Vals xs its.toList
def absV : Value → Option V
  | .none => some .non
  | .bool b => some (.bl b)
  | .int i _ => some (.int i)
  | .str x _ => some (.str x)
  | .bytes b _ => some (.byt b)
  | .float b _ => some (.flt b)
  | .ref a => some (.ref a)
  | .type n => some (.ty n)
  | _ => none
theorem RelV.abs {x : V} {u : Value} (r : RelV x u) : absV u = some x := by
  cases x with
  | non => cases r; rfl
  | bl _ => cases r; rfl
  | int _ => obtain ⟨t, rfl⟩ := r; rfl
  | str _ => obtain ⟨t, rfl⟩ := r; rfl
  | byt _ => obtain ⟨t, rfl⟩ := r; rfl
  | flt _ => obtain ⟨t, rfl⟩ := r; rfl
  | ref _ => cases r; rfl
  | ty _ => cases r; rfl
theorem RelV.inj {x y : V} {u : Value} (r : RelV x u) (q : RelV y u) : x = y := Option.some.inj (r.abs.symm.trans q.abs)
theorem Vals.inj : ∀ {xs ys : List V} {us : List Value}, Vals xs us → Vals ys us → xs = ys
  | _, _, _, .nil, .nil => rfl
  | _, _, _, .cons r t, .cons r' t' => by rw [r.inj r', Vals.inj t t']
section
variable {X : Cx} {pins : List (Addr × Obj)} {σ : St} {H : Hp} {s : Shared} {a : Addr} {xs ys : List V}
theorem SqL.of {K : PySem.W.Frag} (h : H a = some (.lst xs)) : SqL K H a xs := .inl (.inl h)
theorem SqT.of {K : PySem.W.Frag} (h : H a = some (.tup xs)) : SqT K H a xs := .inl (.inl h)
theorem Inv.list (I : Inv X pins σ H s) (h : SqL X.K H a xs) : ∃ its : List Value, Vals xs its ∧ PlainL s.heap a its.toArray ∧ xs.length ≤ sizeLine := by
  rcases h with h | ⟨o, its, n, hk, hc, hd, hs, hz, r⟩
  · obtain ⟨z, its, n, r, e⟩ := h.ok I.hok
    exact ⟨its, r, ⟨_, n, e, rfl, rfl, rfl⟩, z⟩
  · refine ⟨its.toList, r, ⟨o, n, I.kIn a o hk, hc, hd, by simpa using hs⟩, ?_⟩
    have e := r.length
    simp only [Array.length_toList] at e
    omega
theorem Inv.tuple (I : Inv X pins σ H s) (h : SqT X.K H a xs) : ∃ its : List Value, Vals xs its ∧ IsTup s.heap a its.toArray ∧ xs.length ≤ sizeLine := by
  rcases h with h | ⟨o, its, n, hk, hc, hs, hz, r⟩
  · obtain ⟨z, its, r, p⟩ := h.ok I.hok
    exact ⟨its, r, p.1, z⟩
  · refine ⟨its.toList, r, ⟨o, I.kIn a o hk, hc, n, by simpa using hs⟩, ?_⟩
    have e := r.length
    simp only [Array.length_toList] at e
    omega
theorem Inv.list_inj (I : Inv X pins σ H s) (h : SqL X.K H a xs) (h' : SqL X.K H a ys) : xs = ys := by
  obtain ⟨its, r, ⟨o, n, e, _, _, d⟩, _⟩ := I.list h
  obtain ⟨its', r', ⟨o', n', e', _, _, d'⟩, _⟩ := I.list h'
  rw [e] at e'; cases e'
  rw [d] at d'
  injection d' with d1 _
  have : its = its' := by simpa using congrArg Array.toList d1
  subst this
  exact r.inj r'
theorem Inv.tuple_inj (I : Inv X pins σ H s) (h : SqT X.K H a xs) (h' : SqT X.K H a ys) : xs = ys := by
  obtain ⟨its, r, ⟨o, e, _, n, d⟩, _⟩ := I.tuple h
  obtain ⟨its', r', ⟨o', e', _, n', d'⟩, _⟩ := I.tuple h'
  rw [e] at e'; cases e'
  rw [d] at d'
  injection d' with d1 _
  have : its = its' := by simpa using congrArg Array.toList d1
  subst this
  exact r.inj r'
end
abbrev Cx.wish (X : Cx) (E : Value → Shared → Prop) : Cx := { X with xe := E }
abbrev Cx.nox (X : Cx) : Cx := X.wish fun _ _ => False
theorem Cx.Ok.wish {X : Cx} (ok : X.Ok) (E : Value → Shared → Prop) : (X.wish E).Ok :=
  ⟨ok.mod, ok.kind, ok.glob, ok.blt, ok.above, ok.inj, ok.has, ok.cab, ok.hd, ok.frames, ok.stk, ok.exf, ok.bs, ok.bsz, ok.noex, ok.exfs, ok.funs, ok.frf⟩
theorem Cx.Ok.unwish {X : Cx} {E : Value → Shared → Prop} (ok : (X.wish E).Ok) : X.Ok :=
  ⟨ok.mod, ok.kind, ok.glob, ok.blt, ok.above, ok.inj, ok.has, ok.cab, ok.hd, ok.frames, ok.stk, ok.exf, ok.bs, ok.bsz, ok.noex, ok.exfs, ok.funs, ok.frf⟩
section
variable {X : Cx} {pins : List (Addr × Obj)} {σ : St} {H : Hp} {s : Shared} {E : Value → Shared → Prop}
theorem Inv.wish (I : Inv X pins σ H s) (E : Value → Shared → Prop) : Inv (X.wish E) pins σ H s := ⟨I.ok.wish E, I.os, I.bare, I.base, I.loc, I.cell, I.free, I.freeC, I.pin, I.hok, I.len⟩
theorem Inv.unwish (I : Inv (X.wish E) pins σ H s) : Inv X pins σ H s := ⟨I.ok.unwish, I.os, I.bare, I.base, I.loc, I.cell, I.free, I.freeC, I.pin, I.hok, I.len⟩
theorem SP.unwish {D : Ends} {f : Flow} {s' : Shared} (h : SP (X.wish E) pins D f s') : SP X pins D f s' := by
  cases f with
  | next => obtain ⟨σ', H', I, q⟩ := h; exact ⟨σ', H', I.unwish, q⟩
  | brk => obtain ⟨σ', H', I, q⟩ := h; exact ⟨σ', H', I.unwish, q⟩
  | cont => obtain ⟨σ', H', I, q⟩ := h; exact ⟨σ', H', I.unwish, q⟩
  | ret u => obtain ⟨v, σ', H', I, r, q⟩ := h; exact ⟨v, σ', H', I.unwish, r, q⟩
theorem PE.nox {e : Expr} {t : TE} (h : PE X.nox e t) : PE X e t := fun pins s σ H Q I hw =>
  wpAny_mono (h pins s σ H Q (I.wish _) hw) (fun _ _ ⟨v, H', I', r, q⟩ => ⟨v, H', I'.unwish, r, q⟩) fun _ _ z => False.elim z
theorem PT.nox {e : Expr} {t : TT} (h : PT X.nox e t) : PT X e t := fun pins s σ H Q I hw =>
  wpAny_mono (h pins s σ H Q (I.wish _) hw) (fun _ _ ⟨H', I', q⟩ => ⟨H', I'.unwish, q⟩) fun _ _ z => False.elim z
theorem PSs.nox {st : List Stmt} {t : TS} (h : PSs X.nox st t) : PSs X st t := fun pins s σ H D I hw =>
  wpAny_mono (h pins s σ H D (I.wish _) hw) (fun _ _ q => q.unwish) fun _ _ z => False.elim z
end
section
variable {X : Cx} {st : Stmt} {rest : List Stmt} {t u : TS} {e : Expr} {te : TE} {pos : Pos}
def tNext : TS := fun D σ H => D.nx σ H
def tSeq (t u : TS) : TS := fun D σ H => t { D with nx := u D } σ H
theorem pss_nil : PSs X [] tNext := fun _ _ σ H _ I h => wpAny_execs_nil ⟨σ, H, I, h⟩
theorem pss_cons (h1 : PS X st t) (h2 : PSs X rest u) : PSs X (st :: rest) (tSeq t u) := by
  intro pins s σ H D I h
  refine wpAny_execs_cons (thn (h1 pins s σ H { D with nx := u D } I h) fun f s1 q => ?_)
  cases f with
  | next =>
    obtain ⟨σ', H', I', q⟩ := q
    exact h2 pins s1 σ' H' D I' q
  | ret v => exact q
  | brk => exact q
  | cont => exact q
theorem pss_one (h1 : PS X st t) : PSs X [st] t := by
  intro pins s σ H D I h
  refine wpAny_execs_cons (thn (h1 pins s σ H D I h) fun f s1 q => ?_)
  cases f with
  | next => exact wpAny_execs_nil q
  | ret v => exact q
  | brk => exact q
  | cont => exact q
theorem Inv.quiet {pins : List (Addr × Obj)} {σ : St} {H : Hp} {s : Shared} (I : Inv X pins σ H s) : interactive X.env = false := by simp [interactive, I.ok.kind]
def tDrop (te : TE) : TS := fun D σ H => te σ H fun _ H1 => D.nx σ H1
theorem ps_expr (he : PE X e te) (hs : swapsWith e none pos.line X.env = pure false := by rfl) : PS X (.Expr e pos) (tDrop te) := by
  intro pins s σ H D I h
  exact wpAny_Expr_any (thn (he pins s σ H _ I h) fun v s1 ⟨x, H1, I1, r1, q1⟩ => ⟨σ, H1, I1, q1⟩) I.quiet hs
def tRet (te : TE) : TS := fun D σ H => te σ H D.rt
theorem ps_ret (he : PE X e te) : PS X (.Return (some e) pos) (tRet te) := by
  intro pins s σ H D I h
  exact wpAny_Return_some (thn (he pins s σ H _ I h) fun v s1 ⟨x, H1, I1, r1, q1⟩ => ⟨x, σ, H1, I1, r1, q1⟩)
def tIfS (c : TT) (t u : TS) : TS := fun D σ H => c σ H fun b H1 => if b = true then t D σ H1 else u D σ H1
theorem ps_if {c : Expr} {a b : List Stmt} {tc : TT} (hc : PT X c tc) (ha : PSs X a t) (hb : PSs X b u) : PS X (.If c a b pos) (tIfS tc t u) := by
  intro pins s σ H D I h
  refine wpAny_If (thn (hc pins s σ H _ I h) fun d s1 ⟨H1, I1, q1⟩ => ?_)
  cases d with
  | true => exact ha pins s1 σ H1 D I1 q1
  | false => exact hb pins s1 σ H1 D I1 q1
end
abbrev TG := V → St → Hp → (St → Hp → Prop) → Prop
abbrev TGs := List V → St → Hp → (St → Hp → Prop) → Prop
def PG (X : Cx) (target : Expr) (t : TG) : Prop :=
  ∀ (pins : List (Addr × Obj)) (s : Shared) (σ : St) (H : Hp) (v : V) (u : Value) (Q : St → Hp → Prop), Inv X pins σ H s → RelV v u → t v σ H Q →
    wpAny (model X.prog X.w) X.A (assign target X.env u) (fun _ s' => ∃ σ' H', Inv X pins σ' H' s' ∧ Q σ' H') X.xe s
def PGs (X : Cx) (ts : List Expr) (t : TGs) : Prop :=
  ∀ (pins : List (Addr × Obj)) (s : Shared) (σ : St) (H : Hp) (vs : List V) (us : List Value) (Q : St → Hp → Prop), Inv X pins σ H s → Vals vs us → t vs σ H Q →
    wpAny (model X.prog X.w) X.A (assignInOrder ((assignEach ts X.env).map (·.2)) us) (fun _ s' => ∃ σ' H', Inv X pins σ' H' s' ∧ Q σ' H') X.xe s
section
variable {X : Cx} {pos : Pos}
def gName (i : Nat) : TG := fun v σ H Q => Q (σ.set i (some v)) H
theorem pg_name {i : Nat} {x : Str} (hN : X.N.Nodup) (hi : X.N[i]? = some x) (hx : Loc X.env.scope x) (hf : X.fn x = true ∨ X.env.scope.names.lookup x = some .local := by first | exact .inl rfl | exact .inr rfl | assumption) : PG X (.Name x pos) (gName i) := by
  intro pins s σ H v u Q I r h
  exact wpAny_assign_Name (store_ok I hN hi hx r (fun s' I' => ⟨_, H, I', h⟩) hf)
def gNil : TGs := fun vs σ H Q => vs = [] ∧ Q σ H
def gCons (t : TG) (u : TGs) : TGs := fun vs σ H Q => ∃ v r, vs = v :: r ∧ t v σ H fun σ' H' => u r σ' H' Q
theorem pgs_nil : PGs X [] gNil := by
  intro pins s σ H vs us Q I r h
  obtain ⟨e, h⟩ := h
  subst e
  cases r
  exact assignInOrder_nil ⟨σ, H, I, h⟩
theorem pgs_cons {e : Expr} {es : List Expr} {t : TG} {u : TGs} (h1 : PG X e t) (h2 : PGs X es u)
    (hs : (assignEach (e :: es) X.env).map (·.2) = assign e X.env :: (assignEach es X.env).map (·.2) := by rfl) : PGs X (e :: es) (gCons t u) := by
  intro pins s σ H vs us Q I r h
  obtain ⟨v, vr, e1, h⟩ := h
  subst e1
  cases r with
  | cons r rr =>
    rw [hs]
    refine assignInOrder_cons (thn (h1 pins s σ H _ _ _ I r h) fun _ s1 ⟨σ1, H1, I1, q1⟩ => ?_)
    exact h2 pins s1 σ1 H1 _ _ Q I1 rr q1
def gTup (K : PySem.W.Frag) (n : Nat) (t : TGs) : TG := fun v σ H Q => ∃ a xs, v = .ref a ∧ SqT K H a xs ∧ xs.length = n ∧ t xs σ H Q
theorem pg_tup {es : List Expr} {k : Nat} {t : TGs} {n : Nat} (hc : X.calm = true) (h : PGs X es t)
    (hn : (assignEach es X.env).length = n := by rfl) (hst : (assignEach es X.env).findIdx? (·.1) = none := by rfl) : PG X (.Tuple es k pos) (gTup X.K n t) := by
  intro pins s σ H v u Q I r hw
  obtain ⟨a, xs, e1, hq, hl, hw⟩ := hw
  subst e1
  cases r
  obtain ⟨its, rv, ht, hz⟩ := I.tuple hq
  refine assign_Tuple_tuple (I.ok.hd hc) ht (by simp [hn, ← hl, rv.length]) hst fun h' hx => ?_
  have I1 : Inv X pins σ H { s with heap := h' } := I.kept (t' := s.toks) fun b o e => hx b o (Nat.ne_of_lt (Heap.lt_size e)) e
  exact h pins _ σ H xs _ Q I1 (by simpa using rv) hw
def tAsg (te : TE) (g : TG) : TS := fun D σ H => te σ H fun x H1 => g x σ H1 D.nx
theorem ps_set {i : Nat} {x : Str} {e : Expr} {te : TE} {pos' : Pos} (hN : X.N.Nodup) (hi : X.N[i]? = some x) (hx : Loc X.env.scope x) (he : PE X e te) (hs : swapsWith e (some (.Name x pos')) pos.line X.env = pure false := by rfl) (hf : X.fn x = true ∨ X.env.scope.names.lookup x = some .local := by first | exact .inl rfl | exact .inr rfl | assumption) :
    PS X (.Assign [.Name x pos'] e pos) (tAsg te (gName i)) := by
  intro pins s σ H D I h
  refine wpAny_Assign_Name (thn (he pins s σ H _ I h) fun v s1 ⟨y, H1, I1, r1, q1⟩ => ?_) hs
  exact store_ok I1 hN hi hx r1 (fun s2 I2 => ⟨_, H1, I2, q1⟩) hf
end
structure It where
  go : Nat → Hp → Prop
  yld : Nat → Hp → V → Hp → Prop
  stop : Nat → Hp → Prop
def FpOk (X : Cx) (pins : List (Addr × Obj)) (H : Hp) (b : Addr) : Prop :=
  H b = none ∧ b ≠ X.env.locals ∧ b ∉ X.fs ∧ (b ∈ X.ex ∨ X.s₀.heap.objs.size ≤ b) ∧ (∀ x c, X.env.cells.lookup x = some c → c ≠ b) ∧ ∀ p ∈ X.pn ++ pins, p.1 ≠ b
theorem Inv.fpOk {X : Cx} {pins : List (Addr × Obj)} {σ : St} {H H' : Hp} {s : Shared} {b : Addr} (I : Inv X pins σ H s) (hb : s.heap.objs.size ≤ b) (hn : H' b = none) : FpOk X pins H' b := by
  refine ⟨hn, Nat.ne_of_gt (Nat.lt_of_lt_of_le I.lt hb), I.nofs hb, .inr (Nat.le_trans I.sz hb), fun x c e z => ?_, fun p hp z => ?_⟩
  · obtain ⟨v, q⟩ := I.cell x c e
    exact absurd (Nat.lt_of_lt_of_le q.lt (by rw [z]; exact hb)) (Nat.lt_irrefl _)
  · exact absurd (Nat.lt_of_lt_of_le (Heap.lt_size (I.pin p hp).1) (by rw [z]; exact hb)) (Nat.lt_irrefl _)
structure Turn (P : Program) (w : World) (K : PySem.W.Frag) (tg : Expr) (J : It) (fp : List Addr) (it : Addr) (tn : Nat → Heap → Prop) : Prop where
  mem : it ∈ fp
  obj : ∀ i h, tn i h → ∀ b ∈ fp, ∃ o, h.get? b = some o ∧ ∀ v, o.data ≠ .cell v
  keep : ∀ i h h', tn i h → (∀ b ∈ fp, ∀ o, h.get? b = some o → h'.get? b = some o) → tn i h'
  item : ∀ (X : Cx), X.prog = P → X.w = w → X.K = K → X.calm = true → ∀ (i : Nat) (pins : List (Addr × Obj)) (s : Shared) (σ : St) (H : Hp) (E : Value → Shared → Prop), Inv X pins σ H s → (∀ b ∈ fp, FpOk X pins H b) → tn i s.heap → J.go i H →
    wpAny (model P w) X.A (pyNext (.ref it)) (fun r s1 => ∃ u, r = some u ∧
      wpAny (model P w) X.A (letOwnedTupleGo tg (.ref it) u) (fun _ s2 => ∃ x H', Inv X pins σ H' s2 ∧ RelV x u ∧ J.yld i H x H' ∧ tn (i + 1) s2.heap ∧ ∀ b ∈ fp, H' b = none) E s1) E s
  done : ∀ (X : Cx), X.prog = P → X.w = w → X.K = K → X.calm = true → ∀ (i : Nat) (pins : List (Addr × Obj)) (s : Shared) (σ : St) (H : Hp) (E : Value → Shared → Prop), Inv X pins σ H s → (∀ b ∈ fp, FpOk X pins H b) → tn i s.heap → J.stop i H →
    wpAny (model P w) X.A (pyNext (.ref it)) (fun r s1 => r = none ∧ Inv X pins σ H s1) E s
  self : ∀ (A : Around) (i : Nat) (s : Shared) (Q : Value → Shared → Prop) (E : Value → Shared → Prop), tn i s.heap → Q (.ref it) s → wpAny (model P w) A (pyIter (.ref it)) Q E s
abbrev TI := St → Hp → (It → Hp → Prop) → Prop
def PIE (X : Cx) (pins : List (Addr × Obj)) (σ : St) (tg : Expr) (R : It → Hp → Prop) (itv : Value) (s2 : Shared) : Prop :=
  ∃ (it : Addr) (fp : List Addr) (tn : Nat → Heap → Prop) (J : It) (H' : Hp), itv = .ref it ∧ Inv X pins σ H' s2 ∧ Turn X.prog X.w X.K tg J fp it tn ∧ tn 0 s2.heap ∧ (∀ b ∈ fp, FpOk X pins H' b) ∧ R J H'
def PI (X : Cx) (tg iter : Expr) (wi : TI) : Prop :=
  ∀ (pins : List (Addr × Obj)) (s : Shared) (σ : St) (H : Hp) (R : It → Hp → Prop), Inv X pins σ H s → wi σ H R →
    wpAny (model X.prog X.w) X.A (eval iter X.env) (fun v s1 => wpAny (model X.prog X.w) X.A (pyIter v) (PIE X pins σ tg R) X.xe s1) X.xe s
theorem go_of {M : Model} {A : Around} {E : Value → Shared → Prop} {s : Shared} {tg : Expr} {it : Addr} {u : Value} {o : Obj} {n : String} {vs : Array Value} {Q : Unit → Shared → Prop} (ho : s.heap.get? it = some o) (hc : o.cls = .type n) (hd : o.data = .fields vs)
    (hn : ["enumerate", "zip", "dict_itemiterator", "dict_reverseitemiterator", "odict_iterator", "itertools.zip_longest", "itertools.pairwise"].contains n = false) (hQ : Q () s) : wpAny M A (letOwnedTupleGo tg (.ref it) u) Q E s := by
  unfold letOwnedTupleGo
  cases tg <;> first
    | exact wpAny_pure hQ
    | (cases u <;> first
        | exact wpAny_pure hQ
        | (refine wpAny_bind (wpAny_load ho ?_)
           rw [hc, hd]
           show wpAny M A (if (["enumerate", "zip", "dict_itemiterator", "dict_reverseitemiterator", "odict_iterator", "itertools.zip_longest", "itertools.pairwise"].contains n && vs[0]? == some (rawInt _)) = true then _ else _) Q E s
           rw [if_neg (by intro h; rw [hn, Bool.false_and] at h; cases h)]
           exact wpAny_pure hQ))
def Itl (K : PySem.W.Frag) (a : Addr) : It :=
  ⟨fun i H => ∃ xs x, SqL K H a xs ∧ xs[i]? = some x, fun i H x H' => H' = H ∧ ∀ xs, SqL K H a xs → xs[i]? = some x, fun i H => ∃ xs, SqL K H a xs ∧ xs.length ≤ i⟩
def Itt (K : PySem.W.Frag) (a : Addr) : It :=
  ⟨fun i H => ∃ xs x, SqT K H a xs ∧ xs[i]? = some x, fun i H x H' => H' = H ∧ ∀ xs, SqT K H a xs → xs[i]? = some x, fun i H => ∃ xs, SqT K H a xs ∧ xs.length ≤ i⟩
def Itr (lo : Int) (n : Nat) : It := ⟨fun i _ => i < n, fun i H x H' => H' = H ∧ x = .int (lo + i), fun i _ => n ≤ i⟩
theorem turn_list {P : Program} {w : World} {K : PySem.W.Frag} {tg : Expr} (a it : Addr) : Turn P w K tg (Itl K a) [it] it (fun i h => h.IsListIter it a i) where
  mem := by simp
  obj := fun i h st b hb => by
    have e : b = it := by simpa using hb
    subst e
    obtain ⟨o, e, c, d⟩ := st
    exact ⟨o, e, fun v z => by rw [d] at z; cases z⟩
  keep := fun i h h' st k => st.at fun o e => k it (by simp) o e
  item := by
    intro X hP hw hK hc i pins s σ H E I hf st hg
    subst hP hw hK
    obtain ⟨xs, x, hq, hx⟩ := hg
    obtain ⟨its, rv, p, hz⟩ := I.list hq
    obtain ⟨u, hu, ru⟩ := rv.get hx
    obtain ⟨f0, f1, f2, f3, f4, f5⟩ := hf it (by simp)
    refine wpAny_pyNext_list_item st p.isList (x := u) (by simpa using hu) fun h' st' sb => ?_
    have I1 : Inv X pins σ H { s with heap := h' } := I.turned (t' := s.toks) (fun b o hb e => (sb.2 b hb).trans e) f0 f1 f3 f4 f5
    obtain ⟨o, e, c, d⟩ := id st'
    exact ⟨u, rfl, go_of (s := { s with heap := h' }) e c d (by decide) ⟨x, H, I1, ru, ⟨rfl, fun ys hy => by rw [I.list_inj hy hq]; exact hx⟩, st', fun b hb => (hf b hb).1⟩⟩
  done := by
    intro X hP hw hK hc i pins s σ H E I hf st hg
    subst hP hw hK
    obtain ⟨xs, hq, hx⟩ := hg
    obtain ⟨its, rv, p, hz⟩ := I.list hq
    obtain ⟨f0, f1, f2, f3, f4, f5⟩ := hf it (by simp)
    have hl := rv.length
    exact wpAny_pyNext_list_end (I.ok.hd hc) st p.isList (by simp; omega) fun h' eb => ⟨rfl, I.turned (t' := s.toks) (fun b o hb e => eb b o hb e) f0 f1 f3 f4 f5⟩
  self := fun _ _ _ _ _ st h => wpAny_pyIter_listiter st h
theorem turn_tuple {P : Program} {w : World} {K : PySem.W.Frag} {tg : Expr} (a it : Addr) : Turn P w K tg (Itt K a) [it] it (fun i h => h.IsTupleIter it a i) where
  mem := by simp
  obj := fun i h st b hb => by
    have e : b = it := by simpa using hb
    subst e
    obtain ⟨o, e, c, d⟩ := st
    exact ⟨o, e, fun v z => by rw [d] at z; cases z⟩
  keep := fun i h h' st k => st.at fun o e => k it (by simp) o e
  item := by
    intro X hP hw hK hc i pins s σ H E I hf st hg
    subst hP hw hK
    obtain ⟨xs, x, hq, hx⟩ := hg
    obtain ⟨its, rv, p, hz⟩ := I.tuple hq
    obtain ⟨u, hu, ru⟩ := rv.get hx
    obtain ⟨f0, f1, f2, f3, f4, f5⟩ := hf it (by simp)
    refine wpAny_pyNext_tuple_item st (show s.heap.IsTuple a its.toArray from p) (x := u) (by simpa using hu) fun h' st' sb => ?_
    have I1 : Inv X pins σ H { s with heap := h' } := I.turned (t' := s.toks) (fun b o hb e => (sb.2 b hb).trans e) f0 f1 f3 f4 f5
    obtain ⟨o, e, c, d⟩ := id st'
    exact ⟨u, rfl, go_of (s := { s with heap := h' }) e c d (by decide) ⟨x, H, I1, ru, ⟨rfl, fun ys hy => by rw [I.tuple_inj hy hq]; exact hx⟩, st', fun b hb => (hf b hb).1⟩⟩
  done := by
    intro X hP hw hK hc i pins s σ H E I hf st hg
    subst hP hw hK
    obtain ⟨xs, hq, hx⟩ := hg
    obtain ⟨its, rv, p, hz⟩ := I.tuple hq
    obtain ⟨f0, f1, f2, f3, f4, f5⟩ := hf it (by simp)
    have hl := rv.length
    exact wpAny_pyNext_tuple_end (I.ok.hd hc) st (show s.heap.IsTuple a its.toArray from p) (by simp; omega) fun h' eb => ⟨rfl, I.turned (t' := s.toks) (fun b o hb e => eb b o hb e) f0 f1 f3 f4 f5⟩
  self := fun _ _ _ _ _ st h => wpAny_pyIter_tupleiter st h
theorem turn_range {P : Program} {w : World} {K : PySem.W.Frag} {tg : Expr} (it : Addr) (lo : Int) (n : Nat) : Turn P w K tg (Itr lo n) [it] it (fun i h => IsRangeIter h it (lo + (i : Nat) * 1) ((n : Int) - (i : Nat)) 1) where
  mem := by simp
  obj := fun i h st b hb => by
    have e : b = it := by simpa using hb
    subst e
    exact ⟨_, st, fun v z => by
      have z' : Data.fields _ = Data.cell v := z
      cases z'⟩
  keep := fun i h h' st k => k it (by simp) _ st
  item := by
    intro X hP hw hK hc i pins s σ H E I hf st hg
    subst hP hw hK
    obtain ⟨f0, f1, f2, f3, f4, f5⟩ := hf it (by simp)
    have W := Walks.range (prog := X.prog) (w := X.w) (I.ok.hd hc) it lo 1 n
    refine W.item i s _ _ hg st fun v h' tk hv st' kk => ?_
    obtain ⟨t, rfl⟩ := hv
    have I1 : Inv X pins σ H { s with heap := h', toks := tk } := I.turned (fun b o hb e => kk b o (by simpa using hb) e) f0 f1 f3 f4 f5
    refine ⟨_, rfl, go_of (s := { s with heap := h', toks := tk }) (n := "range_iterator") st' rfl rfl (by decide) ⟨.int (lo + i), H, I1, ⟨t, ?_⟩, ⟨rfl, rfl⟩, st', fun b hb => (hf b hb).1⟩⟩
    rw [Int.mul_one]
  done := by
    intro X hP hw hK hc i pins s σ H E I hf st hg
    subst hP hw hK
    obtain ⟨f0, f1, f2, f3, f4, f5⟩ := hf it (by simp)
    exact wpAny_pyNext_range_end (I.ok.hd hc) st (by have : n ≤ i := hg; omega) fun h' eb => ⟨rfl, I.turned (t' := s.toks) (fun b o hb e => eb b o hb e) f0 f1 f3 f4 f5⟩
  self := fun _ _ _ _ _ st h => wpAny_pyIter_rangeiter st h
section
variable {X : Cx} {tg : Expr}
def iList (K : PySem.W.Frag) (tl : TE) : TI := fun σ H R => tl σ H fun x H1 => ∃ a, x = .ref a ∧ (∃ xs, SqL K H1 a xs) ∧ R (Itl K a) H1
def iTup (K : PySem.W.Frag) (tl : TE) : TI := fun σ H R => tl σ H fun x H1 => ∃ a, x = .ref a ∧ (∃ xs, SqT K H1 a xs) ∧ R (Itt K a) H1
theorem pi_list {l : Expr} {tl : TE} (hl : PE X l tl) : PI X tg l (iList X.K tl) := by
  intro pins s σ H R I h
  refine thn (hl pins s σ H _ I h) fun v s1 ⟨x, H1, I1, r1, q1⟩ => ?_
  obtain ⟨a, e, ⟨xs, hq⟩, q⟩ := q1
  subst e
  cases r1
  obtain ⟨its, rv, p, hz⟩ := I1.list hq
  refine wpAny_pyIter_list p.isList ?_
  refine ⟨s1.heap.objs.size, [s1.heap.objs.size], _, _, H1, rfl, I1.kept (t' := s1.toks) fun b o e => Heap.get?_push_of_some _ e, turn_list a _, ⟨_, Heap.get?_push_size _ rfl, rfl, rfl⟩, fun b hb => ?_, q⟩
  have e : b = s1.heap.objs.size := by simpa using hb
  subst e
  exact I1.fpOk (Nat.le_refl _) (I1.hok.fresh (Nat.le_refl _))
theorem pi_tup {l : Expr} {tl : TE} (hl : PE X l tl) : PI X tg l (iTup X.K tl) := by
  intro pins s σ H R I h
  refine thn (hl pins s σ H _ I h) fun v s1 ⟨x, H1, I1, r1, q1⟩ => ?_
  obtain ⟨a, e, ⟨xs, hq⟩, q⟩ := q1
  subst e
  cases r1
  obtain ⟨its, rv, p, hz⟩ := I1.tuple hq
  refine wpAny_pyIter_tuple (show s1.heap.IsTuple a its.toArray from p) ?_
  refine ⟨s1.heap.objs.size, [s1.heap.objs.size], _, _, H1, rfl, I1.kept (t' := s1.toks) fun b o e => Heap.get?_push_of_some _ e, turn_tuple a _, ⟨_, Heap.get?_push_size _ rfl, rfl, rfl⟩, fun b hb => ?_, q⟩
  have e : b = s1.heap.objs.size := by simpa using hb
  subst e
  exact I1.fpOk (Nat.le_refl _) (I1.hok.fresh (Nat.le_refl _))
theorem range_it {pins : List (Addr × Obj)} {σ : St} {H : Hp} {s : Shared} {R : It → Hp → Prop} {E : Value → Shared → Prop} {lo hi : Int} {t u v : Tok} {tk : Nat} (I : Inv X pins σ H s) (h1 : -(2 ^ 62) ≤ lo) (h2 : lo < 2 ^ 62) (h3 : -(2 ^ 62) ≤ hi) (h4 : hi < 2 ^ 62)
    (q : R (Itr lo (hi - lo).toNat) H) : wpAny (model X.prog X.w) X.A (pyIter (.ref s.heap.objs.size)) (PIE X pins σ tg R) E { s with heap := s.heap.push { cls := .type "range", data := .fields #[.int lo t, .int hi u, .int 1 v] }, toks := tk } := by
  refine wpAny_pyIter_range (IsRange.new ..) (small_one h1 h2 h3 h4) ?_
  have I1 : Inv X pins σ H { s with heap := s.heap.push { cls := .type "range", data := .fields #[.int lo t, .int hi u, .int 1 v] }, toks := tk } := I.kept fun b o e => Heap.get?_push_of_some _ e
  refine ⟨(s.heap.push { cls := .type "range", data := .fields #[.int lo t, .int hi u, .int 1 v] }).objs.size, [(s.heap.push { cls := .type "range", data := .fields #[.int lo t, .int hi u, .int 1 v] }).objs.size], _, _, H, rfl,
    I1.kept (t' := tk) fun b o e => Heap.get?_push_of_some _ e, turn_range _ lo (hi - lo).toNat, ?_, fun b hb => ?_, q⟩
  · have e1 : lo + ((0 : Nat) : Int) * 1 = lo := by simp
    have e2 : (((hi - lo).toNat : Nat) : Int) - ((0 : Nat) : Int) = Builtin.Range.rangeSize lo hi 1 := by rw [rangeSize_one]; split <;> omega
    show IsRangeIter _ _ (lo + ((0 : Nat) : Int) * 1) ((((hi - lo).toNat : Nat) : Int) - ((0 : Nat) : Int)) 1
    rw [e1, e2]
    exact Heap.get?_push_size _ rfl
  · have e : b = (s.heap.push { cls := .type "range", data := .fields #[.int lo t, .int hi u, .int 1 v] }).objs.size := by simpa using hb
    subst e
    exact I1.fpOk (Nat.le_refl _) (I1.hok.fresh (Nat.le_refl _))
def iRng1 (ta : TA) : TI := fun σ H R => ta σ H fun vs H1 => ∃ j : Int, vs = [.int j] ∧ -(2 ^ 62) ≤ j ∧ j < 2 ^ 62 ∧ R (Itr 0 j.toNat) H1
theorem pi_range1 {a : Expr} {ta : TA} {p pos : Pos} (hg : Gl X "range") (hm : X.mg "range" = none) (ha : PA X [a] ta) (hs : starEach [a] X.env = [(false, eval a X.env)] := by rfl) : PI X tg (.Call (.Name "range" p) [a] [] pos) (iRng1 ta) := by
  intro pins s σ H R I h
  refine Call_ (ld_blt I hg hm boot_range (PyProof.Rows.callWith_type1 (thn (ha pos pins s σ H _ I h) fun us s1 ⟨vs, H1, I1, r1, q1⟩ => ?_) hs rfl))
  obtain ⟨j, e, q1, q2, q⟩ := q1
  subst e
  cases r1 with
  | cons r rr =>
    cases rr
    obtain ⟨t, rfl⟩ := r
    exact call_range_1 (range_it I1 (by omega) (by omega) q1 q2 (by simpa using q))
def tFor (wi : TI) (g : TG) (tb : TS) : TS := fun D σ H => wi σ H fun J H1 => ∃ W : Nat → Nat → St → Hp → Prop, (∃ m, W 0 m σ H1) ∧ ∀ i m σ H, W i m σ H →
  (J.stop i H ∧ D.nx σ H) ∨ (J.go i H ∧ ∃ N : St → Hp → Prop, (∀ σ' H', N σ' H' → ∃ m', m' < m ∧ W (i + 1) m' σ' H') ∧ ∀ x H', J.yld i H x H' → g x σ H' fun σ2 H2 => tb { D with nx := N, ct := N, bk := D.nx } σ2 H2)
def pinsAt (fp : List Addr) (h : Heap) : List (Addr × Obj) := fp.filterMap fun b => (h.get? b).map fun o => (b, o)
theorem mem_pinsAt {fp : List Addr} {h : Heap} {b : Addr} {o : Obj} (hb : b ∈ fp) (e : h.get? b = some o) : (b, o) ∈ pinsAt fp h := List.mem_filterMap.mpr ⟨b, hb, by rw [e]; rfl⟩
theorem of_pinsAt {fp : List Addr} {h : Heap} {p : Addr × Obj} (hp : p ∈ pinsAt fp h) : p.1 ∈ fp ∧ h.get? p.1 = some p.2 := by
  obtain ⟨b, hb, e⟩ := List.mem_filterMap.mp hp
  cases q : h.get? b with
  | none => rw [q] at e; cases e
  | some o =>
    rw [q] at e
    have e' : (b, o) = p := Option.some.inj e
    subst e'
    exact ⟨hb, q⟩
theorem Inv.pinned {pins : List (Addr × Obj)} {σ : St} {H : Hp} {s : Shared} {fp : List Addr} (I : Inv X pins σ H s) (hf : ∀ b ∈ fp, FpOk X pins H b) (ho : ∀ b ∈ fp, ∃ o, s.heap.get? b = some o ∧ ∀ v, o.data ≠ .cell v) : Inv X (pins ++ pinsAt fp s.heap) σ H s :=
  I.pins_of fun p hp => (List.mem_append.mp hp).elim (fun z => I.pin p (List.mem_append_right _ z)) fun z => by
    obtain ⟨hb, e⟩ := of_pinsAt z
    obtain ⟨f0, f1, f2, _⟩ := hf p.1 hb
    obtain ⟨o, e', d⟩ := ho p.1 hb
    rw [e] at e'; cases e'
    exact ⟨e, f0, f1, f2, d⟩
theorem Inv.unpinned {pins pl : List (Addr × Obj)} {σ : St} {H : Hp} {s : Shared} (I : Inv X (pins ++ pl) σ H s) : Inv X pins σ H s := I.pins_of fun p hp => I.pin p (List.mem_append_right _ (List.mem_append_left _ hp))
theorem ps_for {iter : Expr} {body : List Stmt} {wi : TI} {g : TG} {tb : TS} {pos : Pos} (hp : PassesOwn (model X.prog X.w) X.A X.env X.xe) (hc : X.calm = true) (hi : PI X tg iter wi) (hg : PG X tg g) (hb : PSs X body tb)
    (hs : ∀ x, foldedSetIterable iter X.env x = pure x := by intro _; rfl) : PS X (.For tg iter body [] pos) (tFor wi g tb) := by
  intro pins s σ H D I h
  refine wpAny_For (thn (hi pins s σ H _ I h) fun v s1 h1 => thn h1 fun itv s2 h2 => ?_) hs
  obtain ⟨it, fp, tn, J, H2, e, I2, T, st2, f2, W, ⟨m0, w0⟩, turn⟩ := h2
  subst e
  have stat : ∀ {H' : Hp}, (∀ b ∈ fp, H' b = none) → ∀ b ∈ fp, FpOk X pins H' b := fun hn b hb => ⟨hn b hb, (f2 b hb).2⟩
  refine codeAny_forLoop_any (fun n s' => ∃ i σ' H', Inv X pins σ' H' s' ∧ tn i s'.heap ∧ (∀ b ∈ fp, H' b = none) ∧ W i n σ' H') ?_ m0 ⟨0, σ, H2, I2, st2, fun b hb => (f2 b hb).1, w0⟩
  rintro n s3 ⟨i, σ3, H3, I3, st3, fr3, w3⟩
  rcases turn i n σ3 H3 w3 with ⟨stop, qn⟩ | ⟨go, N, hN, step⟩
  · refine wpAny_passesOwn hp (thn (T.done X rfl rfl rfl hc i pins s3 σ3 H3 X.xe I3 (stat fr3) st3 stop) fun r s4 ⟨hr, I4⟩ => ?_)
    subst hr
    exact wpAny_execs_nil ⟨σ3, H3, I4, qn⟩
  · refine wpAny_passesOwn hp (thn (T.item X rfl rfl rfl hc i pins s3 σ3 H3 X.xe I3 (stat fr3) st3 go) fun r s4 ⟨u, hr, h4⟩ => ?_)
    subst hr
    refine wpAny_passesOwn hp (thn h4 fun _ s5 ⟨x, H5, I5, r5, y5, st5, fr5⟩ => ?_)
    have I5' := I5.pinned (stat fr5) (T.obj _ _ st5)
    refine wpAny_passesOwn hp (thn (hg _ s5 σ3 H5 x u _ I5' r5 (step x H5 y5)) fun _ s6 ⟨σ6, H6, I6, q6⟩ => ?_)
    refine wpAny_passesOwn hp (thn (hb _ s6 σ6 H6 _ I6 q6) fun f s7 q7 => ?_)
    have again : ∀ {σ7 : St} {H7 : Hp}, Inv X (pins ++ pinsAt fp s5.heap) σ7 H7 s7 → N σ7 H7 → ∃ m, m < n ∧ ∃ i σ' H', Inv X pins σ' H' s7 ∧ tn i s7.heap ∧ (∀ b ∈ fp, H' b = none) ∧ W i m σ' H' := fun {σ7 H7} I7 n7 => by
      obtain ⟨m', hm, w7⟩ := hN σ7 H7 n7
      refine ⟨m', hm, i + 1, σ7, H7, I7.unpinned, T.keep _ _ _ st5 fun b hb o e => (I7.pin (b, o) (List.mem_append_right _ (List.mem_append_right _ (mem_pinsAt hb e)))).1, fun b hb => ?_, w7⟩
      obtain ⟨o, e, d⟩ := T.obj _ _ st5 b hb
      exact (I7.pin (b, o) (List.mem_append_right _ (List.mem_append_right _ (mem_pinsAt hb e)))).2.1
    cases f with
    | next => obtain ⟨σ7, H7, I7, n7⟩ := q7; exact again I7 n7
    | cont => obtain ⟨σ7, H7, I7, n7⟩ := q7; exact again I7 n7
    | brk => obtain ⟨σ7, H7, I7, q7⟩ := q7; exact ⟨σ7, H7, I7.unpinned, q7⟩
    | ret v => obtain ⟨x7, σ7, H7, I7, r7, q7⟩ := q7; exact ⟨x7, σ7, H7, I7.unpinned, r7, q7⟩
end
theorem for_list {K : PySem.W.Frag} {a : Addr} {xs : List V} {g : TG} {tb : TS} {D : Ends} {σ : St} {H : Hp} (Pv : Nat → St → Hp → Prop) (h0 : Pv 0 σ H) (hl : ∀ i σ H, i ≤ xs.length → Pv i σ H → SqL K H a xs)
    (hs : ∀ i x σ H, xs[i]? = some x → Pv i σ H → g x σ H fun σ2 H2 => tb { D with nx := Pv (i + 1), ct := Pv (i + 1), bk := D.nx } σ2 H2) (hd : ∀ σ H, Pv xs.length σ H → D.nx σ H) :
    ∃ W : Nat → Nat → St → Hp → Prop, (∃ m, W 0 m σ H) ∧ ∀ i m σ H, W i m σ H →
      ((Itl K a).stop i H ∧ D.nx σ H) ∨ ((Itl K a).go i H ∧ ∃ N : St → Hp → Prop, (∀ σ' H', N σ' H' → ∃ m', m' < m ∧ W (i + 1) m' σ' H') ∧ ∀ x H', (Itl K a).yld i H x H' → g x σ H' fun σ2 H2 => tb { D with nx := N, ct := N, bk := D.nx } σ2 H2) := by
  refine ⟨fun i m σ H => m = xs.length - i ∧ i ≤ xs.length ∧ Pv i σ H, ⟨xs.length, by simp, Nat.zero_le _, h0⟩, ?_⟩
  rintro i m σ H ⟨rfl, hi, p⟩
  have q := hl i σ H hi p
  by_cases hlt : i < xs.length
  · refine .inr ⟨⟨xs, xs[i], q, by simp [hlt]⟩, Pv (i + 1), fun σ' H' p' => ⟨xs.length - (i + 1), by omega, rfl, hlt, p'⟩, fun x H' y => ?_⟩
    obtain ⟨e, y⟩ := y
    subst e
    exact hs i x σ _ (y xs q) p
  · have e : i = xs.length := by omega
    subst e
    exact .inl ⟨⟨xs, q, Nat.le_refl _⟩, hd σ H p⟩
theorem for_range {lo : Int} {n : Nat} {g : TG} {tb : TS} {D : Ends} {σ : St} {H : Hp} (Pv : Nat → St → Hp → Prop) (h0 : Pv 0 σ H)
    (hs : ∀ i σ H, i < n → Pv i σ H → g (.int (lo + i)) σ H fun σ2 H2 => tb { D with nx := Pv (i + 1), ct := Pv (i + 1), bk := D.nx } σ2 H2) (hd : ∀ σ H, Pv n σ H → D.nx σ H) :
    ∃ W : Nat → Nat → St → Hp → Prop, (∃ m, W 0 m σ H) ∧ ∀ i m σ H, W i m σ H →
      ((Itr lo n).stop i H ∧ D.nx σ H) ∨ ((Itr lo n).go i H ∧ ∃ N : St → Hp → Prop, (∀ σ' H', N σ' H' → ∃ m', m' < m ∧ W (i + 1) m' σ' H') ∧ ∀ x H', (Itr lo n).yld i H x H' → g x σ H' fun σ2 H2 => tb { D with nx := N, ct := N, bk := D.nx } σ2 H2) := by
  refine ⟨fun i m σ H => m = n - i ∧ i ≤ n ∧ Pv i σ H, ⟨n, by simp, Nat.zero_le _, h0⟩, ?_⟩
  rintro i m σ H ⟨rfl, hi, p⟩
  by_cases hlt : i < n
  · refine .inr ⟨hlt, Pv (i + 1), fun σ' H' p' => ⟨n - (i + 1), by omega, rfl, hlt, p'⟩, fun x H' y => ?_⟩
    obtain ⟨e, y⟩ := y
    subst e y
    exact hs i σ _ hlt p
  · have e : i = n := by omega
    subst e
    exact .inl ⟨Nat.le_refl _, hd σ H p⟩
abbrev R2 := V → V → Hp → VK → Prop
def OpR (X : Cx) (f : Value → Value → Sem Value) (r : R2) : Prop :=
  ∀ (pins : List (Addr × Obj)) (s : Shared) (σ : St) (H : Hp) (x y : V) (v u : Value) (Q : VK), Inv X pins σ H s → RelV x v → RelV y u → r x y H Q →
    wpAny (model X.prog X.w) X.A (f v u) (EP X pins σ Q) X.xe s
def CallR (X : Cx) (f : Value) (r : List V → Hp → VK → Prop) : Prop :=
  ∀ (pins : List (Addr × Obj)) (s : Shared) (σ : St) (H : Hp) (xs : List V) (us : List Value) (Q : VK), Inv X pins σ H s → Vals xs us → r xs H Q →
    wpAny (model X.prog X.w) X.A (call f us) (EP X pins σ Q) X.xe s
def TruR (X : Cx) (r : V → Hp → (Bool → Hp → Prop) → Prop) : Prop :=
  ∀ (pins : List (Addr × Obj)) (s : Shared) (σ : St) (H : Hp) (x : V) (v : Value) (Q : Bool → Hp → Prop), Inv X pins σ H s → RelV x v → r x H Q →
    wpAny (model X.prog X.w) X.A (truthy v) (TP X pins σ Q) X.xe s
def tOp (r : R2) (ta tb : TE) : TE := fun σ H Q => ta σ H fun x H1 => tb σ H1 fun y H2 => r x y H2 Q
def rI (C : Int → Int → Prop) (g : Int → Int → V) : R2 := fun x y H Q => ∃ i j, x = .int i ∧ y = .int j ∧ C i j ∧ Q (g i j) H
def rI0 (g : Int → Int → V) : R2 := fun x y H Q => ∃ i j, x = .int i ∧ y = .int j ∧ Q (g i j) H
section
variable {X : Cx} {a b c : Expr} {ta tb tc : TE} {pos : Pos}
theorem binT (ha : PE X a ta) (hb : PE X b tb) {pins : List (Addr × Obj)} {s : Shared} {σ : St} {H : Hp} {R : V → V → Hp → Prop} (I : Inv X pins σ H s)
    (h : ta σ H fun x H1 => tb σ H1 fun y H2 => R x y H2) {Q : Value → Shared → Prop} {f : Value → Value → Sem Value}
    (hf : ∀ v u s2 x y H2, Inv X pins σ H2 s2 → RelV x v → RelV y u → R x y H2 → wpAny (model X.prog X.w) X.A (f v u) Q X.xe s2) :
    wpAny (model X.prog X.w) X.A (eval a X.env) (fun v s₁ => wpAny (model X.prog X.w) X.A (eval b X.env) (fun u s₂ => wpAny (model X.prog X.w) X.A (f v u) Q X.xe s₂) X.xe s₁) X.xe s := by
  refine thn (ha pins s σ H _ I h) fun v s1 ⟨x, H1, I1, r1, q1⟩ => ?_
  refine thn (hb pins s1 σ H1 _ I1 q1) fun u s2 ⟨y, H2, I2, r2, q2⟩ => ?_
  exact hf v u s2 x y H2 I2 r1 r2 q2
theorem pe_op {op : Operator} {r : R2} (ho : OpR X (binaryOp op) r) (ha : PE X a ta) (hb : PE X b tb) : PE X (.BinOp a op b pos) (tOp r ta tb) := by
  intro pins s σ H Q I h
  exact wpAny_BinOp (binT ha hb I h fun v u s2 x y H2 I2 rx ry q => ho pins s2 σ H2 x y v u Q I2 rx ry q)
theorem opI {f : Value → Value → Sem Value} {C : Int → Int → Prop} {g : Int → Int → Int}
    (rule : ∀ (i j : Int) (t u : Tok) (s : Shared) (Q : Value → Shared → Prop) (E : Value → Shared → Prop), C i j → Q (.int (g i j) s.toks) { s with toks := s.toks + 1 } → wpAny (model X.prog X.w) X.A (f (.int i t) (.int j u)) Q E s) :
    OpR X f (rI C fun i j => .int (g i j)) := by
  intro pins s σ H x y v u Q I rx ry h
  obtain ⟨i, j, rfl, rfl, hc, q⟩ := h
  obtain ⟨t, rfl⟩ := rx
  obtain ⟨t', rfl⟩ := ry
  exact rule i j t t' s _ _ hc ⟨.int (g i j), H, I.tok _, ⟨_, rfl⟩, q⟩
theorem opI0 {f : Value → Value → Sem Value} {g : Int → Int → Int}
    (rule : ∀ (i j : Int) (t u : Tok) (s : Shared) (Q : Value → Shared → Prop) (E : Value → Shared → Prop), Q (.int (g i j) s.toks) { s with toks := s.toks + 1 } → wpAny (model X.prog X.w) X.A (f (.int i t) (.int j u)) Q E s) :
    OpR X f (rI0 fun i j => .int (g i j)) := by
  intro pins s σ H x y v u Q I rx ry h
  obtain ⟨i, j, rfl, rfl, q⟩ := h
  obtain ⟨t, rfl⟩ := rx
  obtain ⟨t', rfl⟩ := ry
  exact rule i j t t' s _ _ ⟨.int (g i j), H, I.tok _, ⟨_, rfl⟩, q⟩
theorem opB0 {f : Value → Value → Sem Value} {g : Int → Int → Bool}
    (rule : ∀ (i j : Int) (t u : Tok) (s : Shared) (Q : Value → Shared → Prop) (E : Value → Shared → Prop), Q (.bool (g i j)) s → wpAny (model X.prog X.w) X.A (f (.int i t) (.int j u)) Q E s) :
    OpR X f (rI0 fun i j => .bl (g i j)) := by
  intro pins s σ H x y v u Q I rx ry h
  obtain ⟨i, j, rfl, rfl, q⟩ := h
  obtain ⟨t, rfl⟩ := rx
  obtain ⟨t', rfl⟩ := ry
  exact rule i j t t' s _ _ ⟨.bl (g i j), H, I, rfl, q⟩
def CPow (i j : Int) : Prop := 0 ≤ j ∧ j ≤ 1000000 ∧ i.natAbs < 2 ^ 64
def CMul (i j : Int) : Prop := (-(2 ^ 64) < i ∧ i < 2 ^ 64) ∨ (-(2 ^ 64) < j ∧ j < 2 ^ 64)
theorem CMul.ok {i j : Int} (h : CMul i j) : IntMulOk i j := by
  rcases h with ⟨h1, h2⟩ | ⟨h1, h2⟩
  · exact .of_left (intBits_le_64 h1 h2)
  · exact .of_right (intBits_le_64 h1 h2)
theorem op_add : OpR X (binaryOp .Add) (rI0 fun i j => .int (i + j)) := opI0 fun _ _ _ _ _ _ _ q => add_int q
theorem op_sub : OpR X (binaryOp .Sub) (rI0 fun i j => .int (i - j)) := opI0 fun _ _ _ _ _ _ _ q => sub_int q
theorem op_mod : OpR X (binaryOp .Mod) (rI (fun _ j => 0 < j) fun i j => .int (i % j)) := opI fun i j _ _ _ _ _ hc q => by
  have h1 : (0 : Int) < j := hc
  exact mod_int' (by omega) (by rw [Int.fmod_eq_emod_of_nonneg i (by omega)]; exact q)
theorem op_pow : OpR X (binaryOp .Pow) (rI CPow fun i j => .int (i ^ j.toNat)) := opI fun _ _ _ _ _ _ _ hc q => pow_int_small hc.1 hc.2.1 hc.2.2 q
end
def scal : V → V → Bool
  | .non, .non => true | .non, .int _ => true | .int _, .non => true | .non, .bl _ => true | .bl _, .non => true | .non, .str _ => true | .str _, .non => true
  | .int _, .int _ => true | .bl _, .bl _ => true | .str _, .str _ => true | .byt _, .byt _ => true
  | .int _, .str _ => true | .str _, .int _ => true | .bl _, .str _ => true | .str _, .bl _ => true
  | _, _ => false
def rEq : R2 := fun x y H Q => scal x y = true ∧ Q (.bl (decide (x = y))) H
def rNe : R2 := fun x y H Q => scal x y = true ∧ Q (.bl (!decide (x = y))) H
theorem dec_int {i j : Int} : decide (V.int i = V.int j) = (i == j) := by
  rw [Bool.eq_iff_iff]
  simp
theorem dec_bl {i j : Bool} : decide (V.bl i = V.bl j) = (i == j) := by
  rw [Bool.eq_iff_iff]
  simp
theorem dec_str {i j : Str} : decide (V.str i = V.str j) = (i == j) := by
  rw [Bool.eq_iff_iff]
  simp
theorem dec_byt {i j : Array UInt8} : decide (V.byt i = V.byt j) = (i.toList == j.toList) := by
  rw [Bool.eq_iff_iff]
  cases i
  cases j
  simp
section
variable {X : Cx} {a b c : Expr} {ta tb tc : TE} {pos : Pos}
theorem fin_bl {pins : List (Addr × Obj)} {σ : St} {H : Hp} {s : Shared} {Q : VK} {k k' : Bool} (I : Inv X pins σ H s) (q : Q (.bl k) H) (e : k = k') : EP X pins σ Q (.bool k') s := by
  subst e
  exact ⟨.bl k, H, I, rfl, q⟩
theorem op_eq : OpR X (compareOp .Eq) rEq := by
  intro pins s σ H x y v u Q I rx ry h
  obtain ⟨hs, q⟩ := h
  cases x with
  | non =>
    cases rx
    cases y with
    | non => cases ry; exact PySem.EqNone.eq_none_none (fin_bl I q (by simp))
    | bl j => cases ry; exact PySem.EqNone.eq_none_bool (fin_bl I q (by simp))
    | int j => obtain ⟨t', rfl⟩ := ry; exact PySem.EqNone.eq_none_int (fin_bl I q (by simp))
    | str j => obtain ⟨t', rfl⟩ := ry; exact PySem.EqNone.eq_none_str (fin_bl I q (by simp))
    | _ => exact absurd (show false = true from hs) Bool.false_ne_true
  | bl i =>
    cases rx
    cases y with
    | non => cases ry; exact PySem.EqNone.eq_bool_none (fin_bl I q (by simp))
    | bl j => cases ry; exact eq_bool (fin_bl I q dec_bl)
    | str j => obtain ⟨t', rfl⟩ := ry; exact PySem.EqMixed.eq_bool_str (fin_bl I q (by simp))
    | _ => exact absurd (show false = true from hs) Bool.false_ne_true
  | int i =>
    obtain ⟨t, rfl⟩ := rx
    cases y with
    | non => cases ry; exact PySem.EqNone.eq_int_none (fin_bl I q (by simp))
    | int j => obtain ⟨t', rfl⟩ := ry; exact eq_int (fin_bl I q dec_int)
    | str j => obtain ⟨t', rfl⟩ := ry; exact PySem.EqMixed.eq_int_str (fin_bl I q (by simp))
    | _ => exact absurd (show false = true from hs) Bool.false_ne_true
  | str i =>
    obtain ⟨t, rfl⟩ := rx
    cases y with
    | non => cases ry; exact PySem.EqNone.eq_str_none (fin_bl I q (by simp))
    | bl j => cases ry; exact PySem.EqMixed.eq_str_bool (fin_bl I q (by simp))
    | int j => obtain ⟨t', rfl⟩ := ry; exact PySem.EqMixed.eq_str_int (fin_bl I q (by simp))
    | str j => obtain ⟨t', rfl⟩ := ry; exact eq_str (fin_bl I q dec_str)
    | _ => exact absurd (show false = true from hs) Bool.false_ne_true
  | byt i =>
    obtain ⟨t, rfl⟩ := rx
    cases y with
    | byt j => obtain ⟨t', rfl⟩ := ry; exact PySem.W.eq_bytes (fin_bl I q dec_byt)
    | _ => exact absurd (show false = true from hs) Bool.false_ne_true
  | _ => cases y <;> exact absurd (show false = true from hs) Bool.false_ne_true
theorem op_ne : OpR X (compareOp .NotEq) rNe := by
  intro pins s σ H x y v u Q I rx ry h
  obtain ⟨hs, q⟩ := h
  cases x with
  | non =>
    cases rx
    cases y with
    | non => cases ry; exact PySem.EqNone.ne_none_none (fin_bl I q (by simp))
    | bl j => cases ry; exact PySem.EqNone.ne_none_bool (fin_bl I q (by simp))
    | int j => obtain ⟨t', rfl⟩ := ry; exact PySem.EqNone.ne_none_int (fin_bl I q (by simp))
    | str j => obtain ⟨t', rfl⟩ := ry; exact PySem.EqNone.ne_none_str (fin_bl I q (by simp))
    | _ => exact absurd (show false = true from hs) Bool.false_ne_true
  | bl i =>
    cases rx
    cases y with
    | non => cases ry; exact PySem.EqNone.ne_bool_none (fin_bl I q (by simp))
    | bl j => cases ry; exact ne_bool (fin_bl I q (congrArg not dec_bl))
    | str j => obtain ⟨t', rfl⟩ := ry; exact PySem.EqMixed.ne_bool_str (fin_bl I q (by simp))
    | _ => exact absurd (show false = true from hs) Bool.false_ne_true
  | int i =>
    obtain ⟨t, rfl⟩ := rx
    cases y with
    | non => cases ry; exact PySem.EqNone.ne_int_none (fin_bl I q (by simp))
    | int j => obtain ⟨t', rfl⟩ := ry; exact ne_int (fin_bl I q (congrArg not dec_int))
    | str j => obtain ⟨t', rfl⟩ := ry; exact PySem.EqMixed.ne_int_str (fin_bl I q (by simp))
    | _ => exact absurd (show false = true from hs) Bool.false_ne_true
  | str i =>
    obtain ⟨t, rfl⟩ := rx
    cases y with
    | non => cases ry; exact PySem.EqNone.ne_str_none (fin_bl I q (by simp))
    | bl j => cases ry; exact PySem.EqMixed.ne_str_bool (fin_bl I q (by simp))
    | int j => obtain ⟨t', rfl⟩ := ry; exact PySem.EqMixed.ne_str_int (fin_bl I q (by simp))
    | str j => obtain ⟨t', rfl⟩ := ry; exact ne_str (fin_bl I q (congrArg not dec_str))
    | _ => exact absurd (show false = true from hs) Bool.false_ne_true
  | byt i =>
    obtain ⟨t, rfl⟩ := rx
    cases y with
    | byt j => obtain ⟨t', rfl⟩ := ry; exact PySem.W.ne_bytes (fin_bl I q (congrArg not dec_byt))
    | _ => exact absurd (show false = true from hs) Bool.false_ne_true
  | _ => cases y <;> exact absurd (show false = true from hs) Bool.false_ne_true
theorem op_lt : OpR X (compareOp .Lt) (rI0 fun i j => .bl (decide (i < j))) := opB0 fun _ _ _ _ _ _ _ q => lt_int q
theorem op_le : OpR X (compareOp .LtE) (rI0 fun i j => .bl (decide (i ≤ j))) := opB0 fun _ _ _ _ _ _ _ q => le_int q
theorem op_gt : OpR X (compareOp .Gt) (rI0 fun i j => .bl (decide (j < i))) := opB0 fun _ _ _ _ _ _ _ q => gt_int q
theorem op_isN : OpR X (compareOp .Is) (fun x y H Q => y = .non ∧ Q (.bl (decide (x = .non))) H) := by
  intro pins s σ H x y v u Q I rx ry h
  obtain ⟨rfl, q⟩ := h
  cases ry
  refine is_none_gen (fin_bl I q ?_)
  cases x <;> first
    | (cases rx; rfl)
    | (obtain ⟨t, rfl⟩ := rx; rfl)
theorem op_notN : OpR X (compareOp .IsNot) (fun x y H Q => y = .non ∧ Q (.bl (!decide (x = .non))) H) := by
  intro pins s σ H x y v u Q I rx ry h
  obtain ⟨rfl, q⟩ := h
  cases ry
  refine isnot_none_gen (fin_bl I q ?_)
  cases x <;> first
    | (cases rx; rfl)
    | (obtain ⟨t, rfl⟩ := rx; rfl)
theorem OpR.or {f : Value → Value → Sem Value} {r r' : R2} (h : OpR X f r) (h' : OpR X f r') : OpR X f (fun x y H Q => r x y H Q ∨ r' x y H Q) := by
  intro pins s σ H x y v u Q I rx ry q
  rcases q with q | q
  · exact h pins s σ H x y v u Q I rx ry q
  · exact h' pins s σ H x y v u Q I rx ry q
theorem nomark (b : Expr) {op : CmpOp} (h : op ≠ .In := by decide) (h2 : op ≠ .NotIn := by decide) : behindInMarks op b = false := by
  have e1 : (op == CmpOp.In) = false := by cases op <;> first | rfl | exact absurd rfl h
  have e2 : (op == CmpOp.NotIn) = false := by cases op <;> first | rfl | exact absurd rfl h2
  cases b <;> simp [behindInMarks, e1, e2]
theorem pe_cmpR {op : CmpOp} {r : R2} (ho : OpR X (compareOp op) r) (ha : PE X a ta) (hb : PE X b tb) (hm : behindInMarks op b = false) : PE X (.Compare a [op] [b] pos) (tOp r ta tb) := by
  intro pins s σ H Q I h
  exact wpAny_Compare1 (binT ha hb I h fun v u s2 x y H2 I2 rx ry q => ho pins s2 σ H2 x y v u Q I2 rx ry q) hm
def tTest (t : TE) : TT := fun σ H Q => t σ H fun x H' => ∃ k, x = .bl k ∧ Q k H'
theorem pt_cmpR {op : CmpOp} {r : R2} (ho : OpR X (compareOp op) r) (ha : PE X a ta) (hb : PE X b tb) (hm : behindInMarks op b = false) : PT X (.Compare a [op] [b] pos) (tTest (tOp r ta tb)) := by
  intro pins s σ H Q I h
  refine wpAny_isTrue_Compare1 (thn (ha pins s σ H _ I h) fun v s1 ⟨x, H1, I1, r1, q1⟩ => thn (hb pins s1 σ H1 _ I1 q1) fun u s2 ⟨y, H2, I2, r2, q2⟩ =>
    thn (ho pins s2 σ H2 x y v u _ I2 r1 r2 q2) fun c s3 ⟨z, H3, I3, r3, k, e, q3⟩ => ?_) hm
  subst e
  cases r3
  exact wpAny_truthy_bool ⟨H3, I3, q3⟩
def tChain (r r' : R2) (ta tb tc : TE) : TE := fun σ H Q => ta σ H fun x H1 => tb σ H1 fun y H2 => r x y H2 fun z H3 => ∃ k, z = .bl k ∧
  (if k = true then tc σ H3 fun w' H4 => r' y w' H4 Q else Q (.bl false) H3)
theorem pe_chain {op op' : CmpOp} {r r' : R2} (ho : OpR X (compareOp op) r) (ho' : OpR X (compareOp op') r') (ha : PE X a ta) (hb : PE X b tb) (hc : PE X c tc)
    (hm : lastMarks [op, op'] [b, c] = false := by with_unfolding_all rfl) : PE X (.Compare a [op, op'] [b, c] pos) (tChain r r' ta tb tc) := by
  intro pins s σ H Q I h
  refine Compare_chain (thn (ha pins s σ H _ I h) fun v s1 ⟨x, H1, I1, r1, q1⟩ => chain_link (thn (hb pins s1 σ H1 _ I1 q1) fun u s2 ⟨y, H2, I2, r2, q2⟩ =>
    thn (ho pins s2 σ H2 x y v u _ I2 r1 r2 q2) fun d s3 ⟨z, H3, I3, r3, k, e, q3⟩ => ?_)) hm
  subst e
  cases r3
  refine wpAny_truthy_bool ?_
  cases k with
  | false => exact ite_ff ⟨.bl false, H3, I3, rfl, q3⟩
  | true => exact ite_tt (chain_last (thn (hc pins s3 σ H3 _ I3 q3) fun w' s4 ⟨z', H4, I4, r4, q4⟩ => ho' pins s4 σ H4 y z' u w' Q I4 r2 r4 q4))
def TruV (K : PySem.W.Frag) (x : V) (H : Hp) (k : Bool) : Prop :=
  match x with
  | .non => k = false
  | .bl b => k = b
  | .int i => k = (i != 0)
  | .str y => y.length ≤ sizeLine ∧ k = ((y.length : Int) != 0)
  | .byt y => y.size ≤ sizeLine ∧ k = ((y.size : Int) != 0)
  | .ref p => (∃ xs, SqL K H p xs ∧ k = !xs.isEmpty) ∨ (∃ xs, SqT K H p xs ∧ k = !xs.isEmpty) ∨ ∃ kvs, H p = some (.dK kvs) ∧ k = !kvs.isEmpty
  | _ => False
theorem isEmpty_kv {κ : Type} {kvs : List (κ × V)} {vs : List (κ × Value)} (r : KV kvs vs) : (!vs.isEmpty) = !kvs.isEmpty := by
  cases r <;> rfl
theorem isEmpty_of {xs : List V} {its : List Value} (r : Vals xs its) : (!its.toArray.isEmpty) = !xs.isEmpty := by
  cases r <;> simp
theorem line63 : (sizeLine : Nat) < 2 ^ 63 := by rw [sizeLine_eq]; decide
theorem tru_ok : TruR X (fun x H Q => ∃ k, TruV X.K x H k ∧ Q k H) := by
  intro pins s σ H x v Q I rx h
  obtain ⟨k, e, q⟩ := h
  have hl := line63
  have hs : sizeLine = 16777216 := sizeLine_eq
  cases x with
  | non =>
    cases rx
    have e' : k = false := e
    subst e'
    exact truthy_none ⟨H, I, q⟩
  | bl b =>
    cases rx
    have e' : k = b := e
    subst e'
    exact wpAny_truthy_bool ⟨H, I, q⟩
  | int i =>
    obtain ⟨t, rfl⟩ := rx
    have e' : k = (i != 0) := e
    subst e'
    exact PySem.P.truthy_int ⟨H, I, q⟩
  | str y =>
    obtain ⟨t, rfl⟩ := rx
    obtain ⟨hy, e'⟩ : y.length ≤ sizeLine ∧ k = ((y.length : Int) != 0) := e
    subst e'
    exact PySem.P.truthy_str (by omega) ⟨H, I.tok _, q⟩
  | byt y =>
    obtain ⟨t, rfl⟩ := rx
    obtain ⟨hy, e'⟩ : y.size ≤ sizeLine ∧ k = ((y.size : Int) != 0) := e
    subst e'
    exact PySem.W.truthy_bytes (by omega) ⟨H, I.tok _, q⟩
  | ref p =>
    cases rx
    have e' : (∃ xs, SqL X.K H p xs ∧ k = !xs.isEmpty) ∨ (∃ xs, SqT X.K H p xs ∧ k = !xs.isEmpty) ∨ ∃ kvs, H p = some (.dK kvs) ∧ k = !kvs.isEmpty := e
    rcases e' with ⟨xs, hx, e'⟩ | ⟨xs, hx, e'⟩ | ⟨kvs, hx, e'⟩
    · subst e'
      obtain ⟨its, r, pl, hz⟩ := I.list hx
      have hlen := r.length
      exact wpAny_truthy_list pl.isList (by simp only [List.size_toArray]; omega) ⟨H, I.tok _, by rw [isEmpty_of r]; exact q⟩
    · subst e'
      obtain ⟨its, r, pl, hz⟩ := I.tuple hx
      have hlen := r.length
      exact truthy_tuple pl (by simp only [List.size_toArray]; omega) ⟨H, I.tok _, by rw [isEmpty_of r]; exact q⟩
    · subst e'
      obtain ⟨hz, hS, vs, r, m⟩ : kvs.length ≤ sizeLine ∧ (p == sysModules) = false ∧ ∃ vs, KV kvs vs ∧ s.heap.DictOf (mixKind X.prog X.w) p vs := I.hok p _ hx
      have hlen : kvs.length = vs.length := Paired.length r
      exact wpAny_truthy_dict hS m (by omega) ⟨H, I.tok _, by rw [isEmpty_kv r]; exact q⟩
  | _ => exact (show False from e).elim
theorem pt_truth (ha : PE X a ta) (he : ∀ whole, isTrue a X.env whole = (do let v ← whole; standAt a.pos; holding [v] (truthy v))) :
    PT X a (fun σ H Q => ta σ H fun x H' => ∃ k, TruV X.K x H' k ∧ Q k H') := by
  intro pins s σ H Q I h
  exact isTrue_plain (thn (ha pins s σ H _ I h) fun v s1 ⟨x, H1, I1, r1, q1⟩ => tru_ok pins s1 σ H1 x v Q I1 r1 q1) (he _)
theorem vals1 {x : V} {us : List Value} (r : Vals [x] us) : ∃ u, us = [u] ∧ RelV x u := by
  cases r with
  | cons r1 r2 => cases r2; exact ⟨_, rfl, r1⟩
theorem vals2 {x y : V} {us : List Value} (r : Vals [x, y] us) : ∃ u w', us = [u, w'] ∧ RelV x u ∧ RelV y w' := by
  cases r with
  | cons r1 r2 =>
    cases r2 with
    | cons r3 r4 => cases r4; exact ⟨_, _, rfl, r1, r3⟩
theorem call_max2 (hc : X.calm = true) : CallR X (.builtin "max") (fun xs H Q => ∃ i j, xs = [.int i, .int j] ∧ Q (.int (if j > i then j else i)) H) := by
  intro pins s σ H xs us Q I r h
  obtain ⟨i, j, rfl, q⟩ := h
  obtain ⟨u, w', rfl, ⟨t, rfl⟩, ⟨t', rfl⟩⟩ := vals2 r
  refine max_two_ints (I.ok.hd hc) fun h' tk k => ⟨_, H, I.kept k, ?_, q⟩
  by_cases hj : j > i
  · rw [if_pos hj, if_pos hj]; exact ⟨_, rfl⟩
  · rw [if_neg hj, if_neg hj]; exact ⟨_, rfl⟩
theorem call_min2 (hc : X.calm = true) : CallR X (.builtin "min") (fun xs H Q => ∃ i j, xs = [.int i, .int j] ∧ Q (.int (if j < i then j else i)) H) := by
  intro pins s σ H xs us Q I r h
  obtain ⟨i, j, rfl, q⟩ := h
  obtain ⟨u, w', rfl, ⟨t, rfl⟩, ⟨t', rfl⟩⟩ := vals2 r
  refine min_two_ints (I.ok.hd hc) fun h' tk k => ⟨_, H, I.kept k, ?_, q⟩
  by_cases hj : j < i
  · rw [if_pos hj, if_pos hj]; exact ⟨_, rfl⟩
  · rw [if_neg hj, if_neg hj]; exact ⟨_, rfl⟩
theorem call_int1 : CallR X (.type "int") (fun xs H Q => (∃ i, xs = [.int i] ∧ Q (.int i) H) ∨ ∃ k, xs = [.bl k] ∧ Q (.int (if k then 1 else 0)) H) := by
  intro pins s σ H xs us Q I r h
  rcases h with ⟨i, rfl, q⟩ | ⟨k, rfl, q⟩
  · obtain ⟨u, rfl, t, rfl⟩ := vals1 r
    exact call_int_int ⟨.int i, H, I, ⟨_, rfl⟩, q⟩
  · obtain ⟨u, rfl, r1⟩ := vals1 r
    cases r1
    exact call_int_bool ⟨.int (if k then 1 else 0), H, I.tok _, ⟨_, rfl⟩, q⟩
def LenV (K : PySem.W.Frag) (x : V) (H : Hp) (n : Nat) : Prop :=
  match x with
  | .str y => y.length ≤ sizeLine ∧ n = y.length
  | .byt y => y.size ≤ sizeLine ∧ n = y.size
  | .ref p => (∃ xs, SqL K H p xs ∧ n = xs.length) ∨ ∃ xs, SqT K H p xs ∧ n = xs.length
  | _ => False
theorem call_len : CallR X (.builtin "len") (fun xs H Q => ∃ x n, xs = [x] ∧ LenV X.K x H n ∧ Q (.int n) H) := by
  intro pins s σ H xs us Q I r h
  obtain ⟨x, n, rfl, e, q⟩ := h
  obtain ⟨u, rfl, rx⟩ := vals1 r
  have hl := line63
  have hs : sizeLine = 16777216 := sizeLine_eq
  cases x with
  | str y =>
    obtain ⟨t, rfl⟩ := rx
    obtain ⟨hy, e'⟩ : y.length ≤ sizeLine ∧ n = y.length := e
    subst e'
    exact len_str (by omega) ⟨.int _, H, I.tok _, ⟨_, rfl⟩, q⟩
  | byt y =>
    obtain ⟨t, rfl⟩ := rx
    obtain ⟨hy, e'⟩ : y.size ≤ sizeLine ∧ n = y.size := e
    subst e'
    exact PySem.W.len_bytes (by omega) ⟨.int _, H, I.tok _, ⟨_, rfl⟩, q⟩
  | ref p =>
    cases rx
    have e' : (∃ xs, SqL X.K H p xs ∧ n = xs.length) ∨ ∃ xs, SqT X.K H p xs ∧ n = xs.length := e
    rcases e' with ⟨xs, hx, e'⟩ | ⟨xs, hx, e'⟩
    · subst e'
      obtain ⟨its, r', pl, hz⟩ := I.list hx
      have hlen := r'.length
      exact Calls.call_len_list pl.isList (by simp only [List.size_toArray]; omega) ⟨.int xs.length, H, I.tok _, ⟨_, by simp only [List.size_toArray]; rw [hlen]⟩, q⟩
    · subst e'
      obtain ⟨its, r', pl, hz⟩ := I.tuple hx
      have hlen := r'.length
      exact len_tuple pl (by simp only [List.size_toArray]; omega) ⟨.int xs.length, H, I.tok _, ⟨_, by simp only [List.size_toArray]; rw [hlen]⟩, q⟩
  | _ => exact (show False from e).elim
end
structure ObjM (h : Heap) (x dx C : Addr) (mA : Str → Option Value) : Prop where
  obj : h.get? x = some (PySem.W.instObj C dx)
  ns : h.Ns1 dx mA
  ne : dx ≠ x
theorem lookIn_ns {h : Heap} {dx : Addr} {mA : Str → Option Value} (n : h.Ns1 dx mA) : ∃ od, h.get? dx = some od ∧ ∀ name, PySem.W.lookIn name od = some (mA name) := by
  obtain ⟨o, es, ep, ho, hd, hk, _, hm⟩ := n
  refine ⟨o, ho, fun name => ?_⟩
  have e := hm name
  unfold nsFind findBy at e
  rw [← Array.find?_toList] at e
  unfold PySem.W.lookIn
  rw [hd]
  dsimp only
  split
  · rename_i y q
    rw [q] at e
    exact congrArg some e
  · rename_i q
    rw [q] at e
    have a : es.toList.any (·.refKey) = false := by
      rw [List.any_eq_false]
      intro y hy
      obtain ⟨z, t, hkey⟩ := hk y (Array.mem_toList_iff.mp hy)
      simp [DictEntry.refKey, hkey]
    have a' : ¬ es.toList.any (·.refKey) = true := by rw [a]; exact Bool.false_ne_true
    rw [if_neg a']
    exact congrArg some e
theorem ObjM.look {h : Heap} {x dx C : Addr} {mA : Str → Option Value} (I : ObjM h x dx C mA) : ∃ od, PySem.W.InstAt h x (PySem.W.instObj C dx) C (some od) ∧ ∀ name, PySem.W.lookIn name od = some (mA name) :=
  let ⟨od, ho, hl⟩ := lookIn_ns I.ns
  ⟨od, ⟨I.obj, rfl, rfl, ho⟩, hl⟩
section
variable {prog : Program} {w : World} {A : Around} {E : Value → Shared → Prop} {s : Shared} {K : PySem.W.Frag} {x dx C f : Addr} {mA : Str → Option Value} {name : Str} {v : Value}
theorem get_map {expr : Bool} {Q : Value → Shared → Prop} (X : K.In s.heap) (I : ObjM s.heap x dx C mA) (hg : PySem.W.plainGet K C name = true) (hh : PySem.W.hasDictIn K C = true)
    (ha : PySem.W.findIn K (.ref C) name = some none) (hv : mA name = some v) (hv' : PySem.W.handedIn v = true) (h : Q v { s with toks := s.toks + 1 }) :
    wpAny (model prog w) A (getAttr (.ref x) name expr) Q E s := by
  obtain ⟨od, J, hl⟩ := I.look
  exact PySem.W.get_value X J (PySem.W.plainGet_of hg).1 (PySem.W.findObj_own hh ha rfl (by rw [hl, hv])) hv' h
theorem get_meth {pl : Sem Bool} {Q : Value × List Value → Shared → Prop} (X : K.In s.heap) (I : ObjM s.heap x dx C mA) (hg : PySem.W.plainGet K C name = true)
    (hf : PySem.W.findIn K (.ref C) name = some (some (.ref f))) (ht : PySem.W.isFn K (.ref f) = true) (hv : mA name = none) (h : Q (.ref f, [.ref x]) s) :
    wpAny (model prog w) A (getMethod (.ref x) name pl) Q E s := by
  obtain ⟨od, J, hl⟩ := I.look
  exact PySem.W.method_fn X J (PySem.W.plainGet_of hg).1 (PySem.W.plainGet_of hg).2 hf (beq_iff_eq.mp ht) (by show (PySem.W.lookIn name od).map (·.isSome) = some false; rw [hl, hv]; rfl) h
theorem set_map {ns : List Str} {Q : Unit → Shared → Prop} (X : K.In s.heap) (I : ObjM s.heap x dx C mA)
    (hs : PySem.W.findIn K (.ref C) "__setattr__" = some (some (.builtin "object.__setattr__"))) (hp : PySem.W.plainOver K C = true) (ht : PySem.W.takerIn K C name = some none) (hh : PySem.W.hasDictIn K C = true)
    (hw : PySem.Within mA ns) (hsz : ns.length ≤ sizeLine)
    (h : ∀ h', ObjM h' x dx C (fun y => if y = name then some v else mA y) → Heap.SameBut dx s.heap h' → Q () { s with heap := h', toks := s.toks + 2 }) :
    wpAny (model prog w) A (setAttr (.ref x) name v) Q E s := by
  obtain ⟨od, J, hl⟩ := I.look
  refine PySem.W.set_plain X J hs (PySem.W.osa_open (s := { s with toks := s.toks + 1 }) (r := none) X J hp ht fun b => ?_)
  obtain ⟨cd, hc, hd'⟩ := PySem.W.any_some hh
  have hx : s.heap.get? x = some ⟨.ref C, some dx, .plain, #[]⟩ := I.obj
  refine wpAny_bind (wpAny_pure (wpAny_bind (wpAny_bind (wpAny_loadPart hx (wpAny_bind (PySem.W.Looks.here (s := { s with toks := s.toks + 1 }) (PySem.W.looks_clsIn X hc) ?_))))))
  rw [hd']
  refine wpAny_pure (a := some dx) (wpAny_bind (wpAny_pure (wpAny_bind ?_)))
  refine wpAny_nsSet1 (s := { s with toks := s.toks + 1 }) I.ns fun h' hn2 hs2 => ?_
  obtain ⟨oD, esD, epD, hoD, hdD, hcD⟩ := hn2.count (PySem.Within.cons name v hw)
  refine wpAny_bind (wpAny_lookBehind hoD (by rw [hdD]; exact pastItsLine_dict (Nat.le_trans hcD (by rw [List.length_cons]; omega))) ?_)
  exact wpAny_pure (h _ ⟨(hs2.2 _ (Ne.symm I.ne)).trans I.obj, hn2, I.ne⟩ hs2)
theorem make_map {R : Result → Shared → Prop} {vs : List Value} {kw : List (Str × Value)} (X : K.In s.heap) (hm : PySem.W.makesIn K C = true)
    (hi : PySem.W.findIn K (.ref C) "__init__" = some (some (.ref f))) (hf : PySem.W.typeIn K (.ref f) = some (.type "function"))
    (h : codeAny (model prog w) (A.under (.builtin "type.__call__" ⟨.ref C :: vs, kw⟩)) (.call (.ref f) ⟨.ref (s.heap.objs.size + 1) :: vs, kw⟩) (PySem.W.InitBack (s.heap.objs.size + 1) R)
      { s with heap := (s.heap.push PySem.W.emptyDict).push (PySem.W.instObj C s.heap.objs.size) }) :
    codeAny (model prog w) A (.call (.ref C) ⟨vs, kw⟩) R s := by
  obtain ⟨hh, g, d, t, os⟩ := s
  exact PySem.W.make_core (PySem.W.makes_of X hm) (PySem.W.looks_findIn X hi) (fun self => PySem.W.bind_fn X self hf) (.inl rfl) h
end
def putF (f : Str) (v : V) : List (Str × V) → List (Str × V)
  | [] => [(f, v)]
  | (g, x) :: r => if g = f then (g, v) :: r else (g, x) :: putF f v r
theorem lookup_putF (f g : Str) (v : V) : ∀ fs : List (Str × V), (putF f v fs).lookup g = if g = f then some v else fs.lookup g
  | [] => by
    show List.lookup g [(f, v)] = _
    by_cases h : g = f
    · have hb : (g == f) = true := beq_iff_eq.mpr h
      simp only [List.lookup, hb, if_pos h]
    · have hb : (g == f) = false := beq_eq_false_iff_ne.mpr h
      simp only [List.lookup, hb, if_neg h]
  | (k, x) :: r => by
    have ih := lookup_putF f g v r
    rw [show putF f v ((k, x) :: r) = (if k = f then (k, v) :: r else (k, x) :: putF f v r) from rfl]
    by_cases hk : k = f
    · rw [if_pos hk]
      by_cases h : g = k
      · have hb : (g == k) = true := beq_iff_eq.mpr h
        simp only [List.lookup, hb, if_pos (h.trans hk)]
      · have hb : (g == k) = false := beq_eq_false_iff_ne.mpr h
        simp only [List.lookup, hb, if_neg (fun e : g = f => h (e.trans hk.symm))]
    · rw [if_neg hk]
      by_cases h : g = k
      · have hb : (g == k) = true := beq_iff_eq.mpr h
        simp only [List.lookup, hb, if_neg (fun e : g = f => hk (h.symm.trans e))]
      · have hb : (g == k) = false := beq_eq_false_iff_ne.mpr h
        simp only [List.lookup, hb]
        exact ih
theorem keys_putF (f : Str) (v : V) : ∀ fs : List (Str × V), f ∈ (putF f v fs).map (·.1) ∧ ∀ g, g ∈ fs.map (·.1) → g ∈ (putF f v fs).map (·.1)
  | [] => ⟨by simp [putF], fun g h => by simp at h⟩
  | (k, x) :: r => by
    obtain ⟨i1, i2⟩ := keys_putF f v r
    rw [show putF f v ((k, x) :: r) = (if k = f then (k, v) :: r else (k, x) :: putF f v r) from rfl]
    by_cases hk : k = f
    · rw [if_pos hk]
      subst hk
      exact ⟨by simp, fun g h => by simpa using h⟩
    · rw [if_neg hk]
      refine ⟨?_, fun g h => ?_⟩
      · rw [List.map_cons]
        exact List.mem_cons_of_mem _ i1
      · rw [List.map_cons] at h ⊢
        rcases List.mem_cons.mp h with e | e
        · exact List.mem_cons.mpr (.inl e)
        · exact List.mem_cons_of_mem _ (i2 g e)
theorem length_putF (f : Str) (v : V) : ∀ fs : List (Str × V), (putF f v fs).length ≤ fs.length + 1
  | [] => by simp [putF]
  | (k, x) :: r => by
    have ih := length_putF f v r
    rw [show putF f v ((k, x) :: r) = (if k = f then (k, v) :: r else (k, x) :: putF f v r) from rfl]
    by_cases hk : k = f
    · rw [if_pos hk, List.length_cons, List.length_cons]; omega
    · rw [if_neg hk, List.length_cons, List.length_cons]; omega
theorem RelO.some_of {v : V} {o : Option Value} (r : RelO (some v) o) : ∃ u, o = some u ∧ RelV v u := by
  cases o with
  | none => exact (show False from r).elim
  | some u => exact ⟨u, rfl, r⟩
theorem RelO.none_of {o : Option Value} (r : RelO none o) : o = none := by
  cases o with
  | none => rfl
  | some u => exact (show False from r).elim
theorem handed_of {v : V} {u : Value} (r : RelV v u) : PySem.W.handedIn u = true := by
  cases v with
  | non => cases (show u = Value.none from r); rfl
  | bl b => cases (show u = Value.bool b from r); rfl
  | int i => obtain ⟨t, e⟩ := (show ∃ t, u = Value.int i t from r); cases e; rfl
  | str x => obtain ⟨t, e⟩ := (show ∃ t, u = Value.str x t from r); cases e; rfl
  | byt b => obtain ⟨t, e⟩ := (show ∃ t, u = Value.bytes b t from r); cases e; rfl
  | flt b => obtain ⟨t, e⟩ := (show ∃ t, u = Value.float b t from r); cases e; rfl
  | ref a => cases (show u = Value.ref a from r); rfl
  | ty n => cases (show u = Value.type n from r); rfl
section
variable {P : Program} {w : World} {H H' : Hp} {h h' : Heap} {a C dx : Addr} {fs fs' : List (Str × V)}
theorem ins_get (hok : HOk P w H h) (e : H a = some (.ins C dx fs)) : ∃ mA, ObjM h a dx C mA ∧ (∀ f, RelO (fs.lookup f) (mA f)) ∧ PySem.Within mA (fs.map (·.1)) ∧ fs.length ≤ 1000 ∧ H dx = some (.own a) := by
  obtain ⟨d, z, ne, ob, mA, n, r, q⟩ := (show ObjOk P w H h a (.ins C dx fs) from hok a _ e)
  exact ⟨mA, ⟨ob, n, ne⟩, r, q, z, d⟩
end
structure Cls (K : PySem.W.Frag) (C : Addr) : Prop where
  pg : PySem.W.plainGet K C Str.empty = true
  hd : PySem.W.hasDictIn K C = true
  po : PySem.W.plainOver K C = true
  sa : PySem.W.findIn K (.ref C) "__setattr__" = some (some (.builtin "object.__setattr__"))
theorem Cls.get {K : PySem.W.Frag} {C : Addr} (c : Cls K C) (f : Str) : PySem.W.plainGet K C f = true := c.pg
def NoAttr (K : PySem.W.Frag) (C : Addr) (f : Str) : Prop := PySem.W.findIn K (.ref C) f = some none
theorem NoAttr.taker {K : PySem.W.Frag} {C : Addr} {f : Str} (n : NoAttr K C f) : PySem.W.takerIn K C f = some none := by
  unfold PySem.W.takerIn
  rw [show PySem.W.findIn K (.ref C) f = some none from n]
  rfl
structure Con (K : PySem.W.Frag) (C : Addr) (f : Str) (v : V) (u : Value) : Prop where
  at_ : PySem.W.findIn K (.ref C) f = some (some u)
  rel : RelV v u
  get : PySem.W.specialIn K u "__get__" = some none
  cp : PySem.W.copiedNames.contains f = false
structure Meth (K : PySem.W.Frag) (C : Addr) (m : Str) (f : Addr) : Prop where
  at_ : PySem.W.findIn K (.ref C) m = some (some (.ref f))
  fn : PySem.W.isFn K (.ref f) = true
  kp : PySem.W.keepIn K (.ref f) = true
section
variable {X : Cx} {pins : List (Addr × Obj)} {σ : St} {H : Hp} {s : Shared} {a C dx : Addr} {fs : List (Str × V)} {f : Str} {v : V} {A : Around} {E : Value → Shared → Prop}
theorem getattr_ok {b : Bool} {Q : Value → Shared → Prop} (I : Inv X pins σ H s) (e : H a = some (.ins C dx fs)) (c : Cls X.K C) (n : NoAttr X.K C f) (l : fs.lookup f = some v)
    (h : ∀ u s', Inv X pins σ H s' → RelV v u → Q u s') : wpAny (model X.prog X.w) A (getAttr (.ref a) f b) Q E s := by
  obtain ⟨mA, O, r, _, _, _⟩ := ins_get I.hok e
  obtain ⟨u, hu, ru⟩ := RelO.some_of (v := v) (o := mA f) (by rw [← l]; exact r f)
  exact get_map I.kIn O (c.get f) c.hd n hu (handed_of ru) (h u _ (I.tok _) ru)
theorem getmeth_ok {m : Str} {g : Addr} {pl : Sem Bool} {Q : Value × List Value → Shared → Prop} (I : Inv X pins σ H s) (e : H a = some (.ins C dx fs)) (c : Cls X.K C) (k : Meth X.K C m g) (l : fs.lookup m = none)
    (h : Q (.ref g, [.ref a]) s) : wpAny (model X.prog X.w) A (getMethod (.ref a) m pl) Q E s := by
  obtain ⟨mA, O, r, _, _, _⟩ := ins_get I.hok e
  have hn : mA m = none := RelO.none_of (by rw [← l]; exact r m)
  exact get_meth I.kIn O (c.get m) k.at_ k.fn hn h
theorem setattr_ok {y : V} {u : Value} {Q : Unit → Shared → Prop} (I : Inv X pins σ H s) (e : H a = some (.ins C dx fs)) (c : Cls X.K C) (n : NoAttr X.K C f) (hl : fs.length < 1000) (ry : RelV y u)
    (h : ∀ s', Inv X pins σ (upd H a (.ins C dx (putF f y fs))) s' → Q () s') : wpAny (model X.prog X.w) A (setAttr (.ref a) f u) Q E s := by
  obtain ⟨mA, O, r, wi, _, ho⟩ := ins_get I.hok e
  have hz : (fs.map (·.1)).length ≤ sizeLine := by rw [List.length_map, sizeLine_eq]; omega
  refine set_map I.kIn O c.sa c.po n.taker c.hd wi hz fun h' O' sb => h _ ?_
  have hd : ∃ o, h'.get? dx = some o := let ⟨o, _, _, e', _⟩ := O'.ns; ⟨o, e'⟩
  refine I.write (x := a) (e := dx) (by rw [e]; exact True.intro) (.inr ho) (fun b q hb z => (sb.2 b hb).trans z) hd ?_
  refine ⟨by rw [upd_ne O.ne]; exact ho, ?_, O.ne, O'.obj, _, O'.ns, fun g => ?_, fun g hg => ?_⟩
  · have := length_putF f y fs; omega
  · show RelO ((putF f y fs).lookup g) (if g = f then some u else mA g)
    rw [lookup_putF]
    by_cases q : g = f
    · rw [if_pos q, if_pos q]; exact ry
    · rw [if_neg q, if_neg q]; exact r g
  · by_cases q : g = f
    · rw [q]; exact (keys_putF f y fs).1
    · refine (keys_putF f y fs).2 g (wi g fun z => hg ?_)
      show (if g = f then some u else mA g) = none
      rw [if_neg q]; exact z
theorem Inv.made (I : Inv X pins σ H s) : Inv X pins σ (upd (upd H s.heap.objs.size (.own (s.heap.objs.size + 1))) (s.heap.objs.size + 1) (.ins C s.heap.objs.size []))
    { s with heap := (s.heap.push PySem.W.emptyDict).push (PySem.W.instObj C s.heap.objs.size) } := by
  have e1 : (s.heap.push PySem.W.emptyDict).get? s.heap.objs.size = some PySem.W.emptyDict := Heap.get?_push_size s.heap rfl
  have e2 : ((s.heap.push PySem.W.emptyDict).push (PySem.W.instObj C s.heap.objs.size)).get? (s.heap.objs.size + 1) = some (PySem.W.instObj C s.heap.objs.size) := by
    have := Heap.get?_push_size (s.heap.push PySem.W.emptyDict) (o := PySem.W.instObj C s.heap.objs.size) rfl
    rwa [Heap.size_push] at this
  have e3 : (s.heap.push PySem.W.emptyDict).Ns s.heap.objs.size (fun _ => none) := ⟨PySem.W.emptyDict, #[], _, e1, rfl, (fun e he => absurd he (by simp)), fun _ => rfl⟩
  have I1 := I.laid (a := s.heap.objs.size) (o := .own (s.heap.objs.size + 1)) (h' := s.heap.push PySem.W.emptyDict) (t' := s.toks) (fun b u q => Heap.get?_push_of_some _ q) (Nat.le_refl _) ⟨_, e1⟩
  refine I1.laid (a := s.heap.objs.size + 1) (o := .ins C s.heap.objs.size []) (t' := s.toks) (fun b u q => Heap.get?_push_of_some _ q) (Nat.le_of_eq (Heap.size_push _ _)) ?_
  have ne : s.heap.objs.size ≠ s.heap.objs.size + 1 := Nat.ne_of_lt (Nat.lt_succ_self _)
  refine ⟨by rw [upd_ne ne, upd_same], Nat.zero_le _, ne, e2, fun _ => none, (Heap.Ns1.of_empty e3).at fun o q => Heap.get?_push_of_some _ q, fun _ => True.intro, fun y hy => absurd rfl hy⟩
theorem attr_of {prog : Program} {w : World} {env : Env} {e : Expr} {f : Str} {pos : Pos} {s : Shared} {Q : Value → Shared → Prop} (hb : attributeBase e f env (eval e env) = eval e env)
    (h : wpAny (model prog w) A (eval e env) (fun o s₁ => wpAny (model prog w) A (getAttr o f true) Q E s₁) E s) : wpAny (model prog w) A (eval (.Attribute e f pos) env) Q E s :=
  Attribute_any_ h (by rw [arm_eval_Attribute, hb])
end
def tFld (K : PySem.W.Frag) (ta : TE) (f : Str) : TE := fun σ H Q => ta σ H fun x H1 => ∃ a C dx fs v, x = .ref a ∧ H1 a = some (.ins C dx fs) ∧ Cls K C ∧ NoAttr K C f ∧ fs.lookup f = some v ∧ Q v H1
def sFld (K : PySem.W.Frag) (ta tv : TE) (f : Str) : TS := fun D σ H => tv σ H fun y H1 => ta σ H1 fun x H2 => ∃ a C dx fs, x = .ref a ∧ H2 a = some (.ins C dx fs) ∧ Cls K C ∧ NoAttr K C f ∧ fs.length < 1000 ∧
  D.nx σ (upd H2 a (.ins C dx (putF f y fs)))
section
variable {X : Cx} {o e value : Expr} {f : Str} {pos pos' tpos : Pos} {ta tv : TE}
theorem pe_fld (he : PE X e ta) (hb : attributeBase e f X.env (eval e X.env) = eval e X.env) : PE X (.Attribute e f pos) (tFld X.K ta f) := by
  intro pins s σ H Q I h
  refine attr_of hb (thn (he pins s σ H _ I h) fun u s1 ⟨x, H1, I1, rx, a, C, dx, fs, v, ex, ea, c, n, l, q⟩ => ?_)
  subst ex
  obtain rfl : u = Value.ref a := rx
  exact getattr_ok I1 ea c n l fun u' s2 I2 ru => ⟨v, H1, I2, ru, q⟩
theorem ps_fld (ha : PE X o ta) (hv : PE X value tv) (hs : swapsWith value (some (.Attribute o f pos')) pos.line X.env = pure false) : PS X (.Assign [.Attribute o f pos'] value pos) (sFld X.K ta tv f) := by
  intro pins s σ H D I h
  refine plainObj_wpAny_Assign_Attribute (thn (hv pins s σ H _ I h) fun u s1 ⟨y, H1, I1, ry, q⟩ => thn (ha pins s1 σ H1 _ I1 q) fun ov s2 ⟨x, H2, I2, rx, a, C, dx, fs, ex, ea, c, n, l, q2⟩ => ?_) hs
  subst ex
  obtain rfl : ov = Value.ref a := rx
  exact setattr_ok I2 ea c n l ry fun s3 I3 => ⟨σ, _, I3, q2⟩
end
section
variable {X : Cx} {pins : List (Addr × Obj)} {σ : St} {H : Hp} {s : Shared} {A : Around} {E : Value → Shared → Prop} {Q : Value → Shared → Prop} {c : Value} {b : Bool}
inductive TyOf (K : PySem.W.Frag) (H : Hp) : V → Value → Prop where
  | non : TyOf K H .non (.type "NoneType")
  | bl (x : Bool) : TyOf K H (.bl x) (.type "bool")
  | int (i : Int) : TyOf K H (.int i) (.type "int")
  | str (x : Str) : TyOf K H (.str x) (.type "str")
  | flt (x : UInt64) : TyOf K H (.flt x) (.type "float")
  | lst {a : Addr} {xs : List V} (e : H a = some (.lst xs)) : TyOf K H (.ref a) (.type "list")
  | frz {a : Addr} {o : Obj} {xs : List V} (e : H a = some (.frz o (.lst xs))) : TyOf K H (.ref a) (.type "list")
  | tup {a : Addr} {xs : List V} (e : H a = some (.tup xs)) : TyOf K H (.ref a) (.type "tuple")
  | dK {a : Addr} {kvs : List (Key × V)} (e : H a = some (.dK kvs)) : TyOf K H (.ref a) (.type "dict")
  | dT {a : Addr} {kvs : List (List Key × V)} (e : H a = some (.dT kvs)) : TyOf K H (.ref a) (.type "dict")
  | ins {a C dx : Addr} {fs : List (Str × V)} (e : H a = some (.ins C dx fs)) (cl : Cls K C) (ha : PySem.W.findIn K (.ref C) "__class__" = some (some (.builtin "object.__class__")))
      (hn : PySem.W.specialIn K (.builtin "object.__class__") "__get__" = some (some (.builtin "getset_descriptor.__get__"))) (htk : PySem.W.takesIn K (.builtin "object.__class__") = some true)
      (hm : PySem.W.mroIn K C (.type "object") = some true) : TyOf K H (.ref a) (.ref C)
theorem isinst_ok {x : V} {u t : Value} (I : Inv X pins σ H s) (rx : RelV x u) (ty : TyOf X.K H x t) (e : PySem.W.kitOne X.K t c = some b) (h : ∀ tk, Q (.bool b) { s with toks := tk }) :
    wpAny (model X.prog X.w) A (call (.builtin "isinstance") [u, c]) Q E s := by
  cases ty with
  | non => cases (show u = Value.none from rx); exact PySem.W.kia_one PySem.W.kitx_none I.kIn True.intro e (fun z => nomatch z) h
  | bl y => cases (show u = Value.bool y from rx); exact PySem.W.kia_one PySem.W.kitx_bool I.kIn True.intro e (fun z => nomatch z) h
  | int i => obtain ⟨t, q⟩ := (show ∃ t, u = Value.int i t from rx); cases q; exact PySem.W.kia_one PySem.W.kitx_int I.kIn True.intro e (fun z => nomatch z) h
  | str y => obtain ⟨t, q⟩ := (show ∃ t, u = Value.str y t from rx); cases q; exact PySem.W.kia_one PySem.W.kitx_str I.kIn True.intro e (fun z => nomatch z) h
  | flt y => obtain ⟨t, q⟩ := (show ∃ t, u = Value.float y t from rx); cases q; exact PySem.W.kia_one PySem.W.kitx_float I.kIn True.intro e (fun z => nomatch z) h
  | @lst a xs ea =>
    cases (show u = Value.ref a from rx)
    obtain ⟨_, _, n, _, h1⟩ := (show ObjOk X.prog X.w H s.heap a (.lst xs) from I.hok a _ ea)
    exact PySem.W.kia_one PySem.W.kitx_list I.kIn ⟨_, h1, rfl⟩ e (fun z => nomatch z) h
  | @frz a ob xs ea =>
    cases (show u = Value.ref a from rx)
    obtain ⟨_, _, _, n, _, h1⟩ := (show ObjOk X.prog X.w H s.heap a (.frz ob (.lst xs)) from I.hok a _ ea)
    exact PySem.W.kia_one PySem.W.kitx_list I.kIn ⟨_, h1, rfl⟩ e (fun z => nomatch z) h
  | @tup a xs ea =>
    cases (show u = Value.ref a from rx)
    obtain ⟨_, _, _, p⟩ := (show ObjOk X.prog X.w H s.heap a (.tup xs) from I.hok a _ ea)
    obtain ⟨o, h1, h2, _⟩ := p.1
    exact PySem.W.kia_one PySem.W.kitx_tuple I.kIn ⟨o, h1, h2⟩ e (fun z => nomatch z) h
  | @dK a kvs ea =>
    cases (show u = Value.ref a from rx)
    obtain ⟨_, _, vs, _, p⟩ := (show ObjOk X.prog X.w H s.heap a (.dK kvs) from I.hok a _ ea)
    obtain ⟨o, es, ep, h1, h2, _⟩ := p
    exact PySem.W.kia_one PySem.W.kitx_dict I.kIn ⟨o, h1, h2.1⟩ e (fun z => nomatch z) h
  | @dT a kvs ea =>
    cases (show u = Value.ref a from rx)
    obtain ⟨_, _, xs, _, o, es, ep, h1, h2, _⟩ := (show ObjOk X.prog X.w H s.heap a (.dT kvs) from I.hok a _ ea)
    exact PySem.W.kia_one PySem.W.kitx_dict I.kIn ⟨o, h1, h2.1⟩ e (fun z => nomatch z) h
  | @ins a C dx fs ea cl ha hn htk hm =>
    cases (show u = Value.ref a from rx)
    obtain ⟨mA, O, _⟩ := ins_get I.hok ea
    obtain ⟨od, J, _⟩ := O.look
    exact PySem.W.kia_one (PySem.W.kitx_own (cl.get _) cl.hd ha hn htk hm) I.kIn J e (fun z => nomatch z) h
end
structure Room (k : Nat) (A : Around) : Prop where
  hd : A.handled = none
  dp : A.depth + 3 * k + 5 < recursionLimit
  un : A.units + 16 * k + 200 < cLine
  gd : A.guards = some []
theorem Room.mono {j k : Nat} {A : Around} (r : Room k A) (h : j ≤ k) : Room j A := ⟨r.hd, by have := r.dp; omega, by have := r.un; omega, r.gd⟩
theorem Room.deeper {k : Nat} {A : Around} (r : Room (k + 1) A) (env : Env) : Room k (A.deeper env) :=
  ⟨r.hd, by have := r.dp; show A.depth + 1 + 3 * k + 5 < _; omega, by have := r.un; show A.units + 3 + 16 * k + 200 < _; omega, r.gd⟩
theorem make_depth {A : Around} {C : Addr} {us : List Value} {kw : List (Str × Value)} : (A.under (.builtin "type.__call__" ⟨.ref C :: us, kw⟩)).depth = A.depth + 1 := by
  first | rfl | simp [Around.under, Code.weight, Code.isCreation, Code.isGuard, Code.isCaller, Code.frames, Code.isFrame, guardIds]
theorem make_units {A : Around} {C : Addr} {us : List Value} {kw : List (Str × Value)} : (A.under (.builtin "type.__call__" ⟨.ref C :: us, kw⟩)).units = A.units + 1 := by
  first | rfl | simp [Around.under, Code.cUnits, Code.frames, Code.isFrame]
theorem make_guards {A : Around} {C : Addr} {us : List Value} {kw : List (Str × Value)} : (A.under (.builtin "type.__call__" ⟨.ref C :: us, kw⟩)).guards = A.guards := by
  have hg : (Code.builtin "type.__call__" ⟨.ref C :: us, kw⟩).guards = [] := by first | rfl | simp [Code.guards, Code.isGuard, guardIds]
  show pushGuards (Code.builtin "type.__call__" ⟨.ref C :: us, kw⟩).guards A.guards = A.guards
  rw [hg]
  cases A.guards <;> rfl
theorem Room.make {k : Nat} {A : Around} (r : Room (k + 1) A) (C : Addr) (us : List Value) (kw : List (Str × Value)) : Room k (A.under (.builtin "type.__call__" ⟨.ref C :: us, kw⟩)) :=
  ⟨r.hd, by have := r.dp; rw [make_depth]; omega, by have := r.un; rw [make_units]; omega, by rw [make_guards]; exact r.gd⟩
theorem Room.depth {k : Nat} {A : Around} (r : Room k A) : A.depth < recursionLimit := by have := r.dp; omega
theorem Room.units {k : Nat} {A : Around} (r : Room k A) : A.units + 64 < cLine := by have := r.un; omega
def tNil : TA := fun _ H Q => Q [] H
def tCons (ta : TE) (tr : TA) : TA := fun σ H Q => ta σ H fun x H1 => tr σ H1 fun xs H2 => Q (x :: xs) H2
section
variable {X : Cx} {e : Expr} {es : List Expr} {te : TE} {t : TA} {pos : Pos}
theorem pa_nil : PA X [] tNil := fun _ _ _ _ H Q I h => Calls.spliced_nil ⟨[], H, I, .nil, h⟩
theorem pa_cons (ha : PE X e te) (hr : PA X es t) (hs : starEach (e :: es) X.env = (false, eval e X.env) :: starEach es X.env := by rfl) : PA X (e :: es) (tCons te t) := by
  intro pos pins s σ H Q I h
  rw [hs]
  show wpAny _ _ (spliced ((false, eval e X.env) :: backTo pos (starEach es X.env))) _ _ s
  refine Calls.spliced_cons (thn (ha pins s σ H _ I h) fun u s1 ⟨x, H1, I1, r1, q1⟩ => ?_)
  exact thn (hr pos pins s1 σ H1 _ I1 q1) fun us s2 ⟨xs, H2, I2, r2, q2⟩ => ⟨x :: xs, H2, I2, .cons r1 r2, q2⟩
def tTup (t : TA) : TE := fun σ H Q => t σ H fun xs H1 => xs.length ≤ sizeLine ∧ ∀ p, H1 p = none → Q (.ref p) (upd H1 p (.tup xs))
def tLst (t : TA) : TE := fun σ H Q => t σ H fun xs H1 => xs.length ≤ sizeLine ∧ ∀ p, H1 p = none → Q (.ref p) (upd H1 p (.lst xs))
theorem pe_tup {x1} (h : PA X es t) : PE X (.Tuple es x1 pos) (tTup t) := by
  intro pins s σ H Q I hq
  refine wpAny_Tuple_spliced (thn (h pos pins s σ H _ I hq) fun us s1 ⟨xs, H1, I1, r, z, q⟩ => ⟨by rw [← r.length]; exact z, ?_⟩)
  have hf : H1 s1.heap.objs.size = none := I1.hok.fresh (Nat.le_refl _)
  refine ⟨.ref s1.heap.objs.size, upd H1 s1.heap.objs.size (.tup xs), I1.laid (t' := s1.toks) (fun b u e => Heap.get?_push_of_some _ e) (Nat.le_refl _) ?_, rfl, q _ hf⟩
  exact ⟨z, us, r, TupN.new _ _⟩
theorem pe_lst (h : PA X es t) : PE X (.List es pos) (tLst t) := by
  intro pins s σ H Q I hq
  refine wpAny_List_spliced (thn (h pos pins s σ H _ I hq) fun us s1 ⟨xs, H1, I1, r, z, q⟩ => ⟨by rw [← r.length]; exact z, ?_⟩)
  have hf : H1 s1.heap.objs.size = none := I1.hok.fresh (Nat.le_refl _)
  refine ⟨.ref s1.heap.objs.size, upd H1 s1.heap.objs.size (.lst xs), I1.laid (t' := s1.toks) (fun b u e => Heap.get?_push_of_some _ e) (Nat.le_refl _) ?_, rfl, q _ hf⟩
  exact ⟨z, us, 0, r, Heap.get?_push_size _ rfl⟩
end
abbrev Sp := List V → Hp → VK → XK → Prop
abbrev CXT := List Env → Hp → Shared → XK → Value → Shared → Prop
structure Env0 (P : Program) (w : World) (K : PySem.W.Frag) (mg : Str → Option Value) (base : Heap) (A : Around) (outer : List Env) (s : Shared) (H : Hp) : Prop where
  frames : A.frames = some outer
  mod : Mod K mg base
  bs : ∀ b o, base.get? b = some o → s.heap.get? b = some o ∧ H b = none
  bsz : base.objs.size ≤ s.heap.objs.size
  funs : s.heap.FunFrames base outer
  frf : ∀ b ∈ frs outer, H b = none
  hok : HOk P w H s.heap
  bare : AllBare s.gens
def CE (outer : List Env) (P : Program) (w : World) (H : Hp) (s : Shared) (Q : VK) (u : Value) (s' : Shared) : Prop :=
  ∃ v H', s'.os = s.os ∧ AllBare s'.gens ∧ Un (frs outer) [] H H' s.heap s'.heap ∧ HOk P w H' s'.heap ∧ RelV v u ∧ Q v H'
def CR (CX : CXT) (outer : List Env) (P : Program) (w : World) (H : Hp) (s : Shared) (Q : VK) (E : XK) (r : Result) (s' : Shared) : Prop :=
  match r with
  | .ok (.ret u) => CE outer P w H s Q u s'
  | .ok _ => False
  | .error e => CX outer H s E e s'
structure FnOk (P : Program) (w : World) (K : PySem.W.Frag) (mg : Str → Option Value) (base : Heap) (CX : CXT) (k : Nat) (f : Addr) (fd : FuncData) (ps : List Str) (sp : Sp) : Prop where
  len : ∀ vs H Q E, sp vs H Q E → vs.length = ps.length
  run : ∀ (A : Around) (outer : List Env) (s : Shared) (H : Hp) (args : Args) (us : List Value) (vs : List V) (Q : VK) (E : XK), Room k A → Env0 P w K mg base A outer s H → BindsTo s fd args (ps.zip us) → Vals vs us → sp vs H Q E →
    codeAny (model P w) A (.call (.ref f) args) (CR CX outer P w H s Q E) s
theorem FnOk.mono {P : Program} {w : World} {K : PySem.W.Frag} {mg : Str → Option Value} {base : Heap} {CX : CXT} {j k : Nat} {f : Addr} {fd : FuncData} {ps : List Str} {sp : Sp} (F : FnOk P w K mg base CX j f fd ps sp) (h : j ≤ k) :
    FnOk P w K mg base CX k f fd ps sp := ⟨F.len, fun A outer s H args us vs Q E hr => F.run A outer s H args us vs Q E (hr.mono h)⟩
theorem FnOk.imp {P : Program} {w : World} {K : PySem.W.Frag} {mg : Str → Option Value} {base : Heap} {CX : CXT} {k : Nat} {f : Addr} {fd : FuncData} {ps : List Str} {sp sp' : Sp} (F : FnOk P w K mg base CX k f fd ps sp)
    (h : ∀ vs H Q E, sp' vs H Q E → sp vs H Q E) : FnOk P w K mg base CX k f fd ps sp' :=
  ⟨fun vs H Q E q => F.len vs H Q E (h _ _ _ _ q), fun A outer s H args us vs Q E hr he hb hv hs => F.run A outer s H args us vs Q E hr he hb hv (h _ _ _ _ hs)⟩
theorem Env0.make {P : Program} {w : World} {K : PySem.W.Frag} {mg : Str → Option Value} {base : Heap} {A : Around} {outer : List Env} {s : Shared} {H : Hp} (e : Env0 P w K mg base A outer s H) (C : Addr) (us : List Value) (kw : List (Str × Value)) :
    Env0 P w K mg base (A.under (.builtin "type.__call__" ⟨.ref C :: us, kw⟩)) outer s H := ⟨by first | exact e.frames | (simpa [Around.under, Code.envs, Code.isFrame, pushEnvs] using e.frames), e.mod, e.bs, e.bsz, e.funs, e.frf, e.hok, e.bare⟩
section
variable {X : Cx} {pins : List (Addr × Obj)} {σ : St} {H : Hp} {s s' : Shared}
theorem Inv.env0 (I : Inv X pins σ H s) : Env0 X.prog X.w X.K X.mg X.base X.A X.stack s H :=
  ⟨I.ok.frames, I.ok.mod, I.bs, Nat.le_trans I.ok.bsz I.sz, I.stack, I.stkFree, I.hok, I.bare⟩
theorem Inv.after {Q : VK} {u : Value} (I : Inv X pins σ H s) (h : CE X.stack X.prog X.w H s Q u s') : EP X pins σ Q u s' := by
  obtain ⟨v, H', os, bare, un, hok, r, q⟩ := h
  obtain ⟨hh, g, d, t, os'⟩ := s'
  obtain rfl : os' = s.os := os
  exact ⟨v, H', I.call (h' := hh) (g' := g) (d' := d) (t' := t) (ch := []) un hok bare (fun b z => absurd z (by simp)), r, q⟩
end
def tCall (sp : Sp) (dvs : List V) (E : XK) (t : TA) : TE := fun σ H Q => t σ H fun vs H1 => sp (vs ++ dvs) H1 Q E
def tMeth (C : Addr) (m : Str) (sp : Sp) (dvs : List V) (E : XK) (ta : TE) (t : TA) : TE := fun σ H Q => ta σ H fun x H1 => ∃ a dx fs, x = .ref a ∧ H1 a = some (.ins C dx fs) ∧ fs.lookup m = none ∧
  t σ H1 fun vs H2 => sp (x :: (vs ++ dvs)) H2 Q E
def tMake (C : Addr) (sp : Sp) (dvs : List V) (E : XK) (t : TA) : TE := fun σ H Q => t σ H fun vs H1 => ∀ x dx, H1 x = none → H1 dx = none → dx ≠ x →
  sp (.ref x :: (vs ++ dvs)) (upd (upd H1 dx (.own x)) x (.ins C dx [])) (fun v H2 => v = .non ∧ Q (.ref x) H2) E
def Binds (K : PySem.W.Frag) (fd : FuncData) (ps : List Str) (ds : List Value) : Prop :=
  ∀ (s : Shared) (us : List Value), K.In s.heap → (us ++ ds).length = ps.length → BindsTo s fd ⟨us, []⟩ (ps.zip (us ++ ds))
theorem Binds.all {K : PySem.W.Frag} {fd : FuncData} {ps : List Str} (h : ∀ us : List Value, us.length = ps.length → bindArgs fd ⟨us, []⟩ = pure (ps.zip us)) : Binds K fd ps [] := fun s us _ hl => by
  rw [List.append_nil] at hl ⊢
  exact .of_eq (h us hl)
def Passes (CX : CXT) (X : Cx) (E : XK) : Prop := ∀ (pins : List (Addr × Obj)) (σ : St) (H : Hp) (s : Shared) (e : Value) (s' : Shared), Inv X pins σ H s → CX X.stack H s E e s' → X.xe e s'
section
variable {X : Cx} {CX : CXT} {k : Nat} {f C : Addr} {fd : FuncData} {ps : List Str} {sp : Sp} {dvs : List V} {ds : List Value} {E : XK} {x m : Str} {p pos apos : Pos} {e o : Expr} {es : List Expr} {ta : TE} {t : TA}
theorem run_fn {pins : List (Addr × Obj)} {σ : St} {H : Hp} {s : Shared} {Q : VK} {us : List Value} {vs : List V} (F : FnOk X.prog X.w X.K X.mg X.base CX k f fd ps sp) (hr : Room k X.A) (hb : Binds X.K fd ps ds) (hd : Vals dvs ds) (hx : Passes CX X E)
    (I : Inv X pins σ H s) (r : Vals vs us) (h : sp (vs ++ dvs) H Q E) : wpAny (model X.prog X.w) X.A (call (.ref f) us) (EP X pins σ Q) X.xe s := by
  have r2 : Vals (vs ++ dvs) (us ++ ds) := r.append hd
  have hl : (us ++ ds).length = ps.length := by rw [← r2.length]; exact F.len _ _ _ _ h
  refine wpAny_call (codeAny_mono (F.run X.A X.stack s H ⟨us, []⟩ (us ++ ds) (vs ++ dvs) Q E hr I.env0 (hb s us I.kIn hl) r2 h) fun r s' hq => ?_)
  cases r with
  | error e => exact hx pins σ H s e s' I hq
  | ok fl =>
    cases fl with
    | ret u => exact I.after hq
    | next => exact False.elim hq
    | brk => exact False.elim hq
    | cont => exact False.elim hq
theorem pe_call (F : FnOk X.prog X.w X.K X.mg X.base CX k f fd ps sp) (hr : Room k X.A) (hg : Gl X x) (hm : X.mg x = some (.ref f)) (hk : PySem.W.keepIn X.K (.ref f) = true) (hb : Binds X.K fd ps ds) (hd : Vals dvs ds) (hx : Passes CX X E)
    (ha : PA X (e :: es) t) (hdb : (x == ("__debug__" : Str)) = false := by decide) (he : starEach (e :: es) X.env = (false, eval e X.env) :: starEach es X.env := by rfl) (hpl : (backTo pos (starEach es X.env)).any (·.1) = false := by rfl) :
    PE X (.Call (.Name x p) (e :: es) [] pos) (tCall sp dvs E t) := by
  intro pins s σ H Q I h
  refine wpAny_Call_Name_kw (ld_glob I hg hm ?_ hdb)
  refine PySem.W.callWith_K (h₀ := X.base) I.ok.mod.kin hk (thn (ha pos pins s σ H _ I h) fun us s1 ⟨vs, H1, I1, r, q⟩ => ⟨I1.kIn, ?_⟩) he hpl
  exact run_fn F hr hb hd hx I1 r q
theorem pe_meth {pl : Sem Bool} (he : PE X o ta) (c : Cls X.K C) (hm : Meth X.K C m f) (F : FnOk X.prog X.w X.K X.mg X.base CX k f fd ps sp) (hr : Room k X.A) (hb : Binds X.K fd ps ds) (hd : Vals dvs ds) (hx : Passes CX X E) (ha : PA X (e :: es) t)
    (hst : starEach (e :: es) X.env = (false, eval e X.env) :: starEach es X.env := by rfl) (hpl : (backTo pos (starEach es X.env)).any (·.1) = false := by rfl)
    (ht : eval (.Call (.Attribute o m apos) (e :: es) [] pos) X.env = (do
      let ov ← eval o X.env
      standAt apos.atName
      let (f, first) ← holding [ov] (getMethod ov m pl)
      callWith pos f first (backTo pos (starEach (e :: es) X.env)) (backToKw pos (keywordEach [] X.env))) := by rfl) :
    PE X (.Call (.Attribute o m apos) (e :: es) [] pos) (tMeth C m sp dvs E ta t) := by
  intro pins s σ H Q I h
  refine PySem.W.methodCall_KW (pl := pl) (thn (he pins s σ H _ I h) fun u s1 ⟨x, H1, I1, rx, a, dx, fs, ex, ea, l, q⟩ => ?_) ht
  subst ex
  obtain rfl : u = Value.ref a := rx
  refine getmeth_ok I1 ea c hm l ?_
  refine PySem.W.callWith_K (first := [.ref a]) (h₀ := X.base) I.ok.mod.kin hm.kp (thn (ha pos pins s1 σ H1 _ I1 q) fun us s2 ⟨vs, H2, I2, r, q2⟩ => ⟨I2.kIn, ?_⟩) hst hpl
  exact run_fn (us := .ref a :: us) (vs := .ref a :: vs) F hr hb hd hx I2 (.cons rfl r) q2
structure Mk (K : PySem.W.Frag) (C f : Addr) : Prop where
  makes : PySem.W.makesIn K C = true
  init : PySem.W.findIn K (.ref C) "__init__" = some (some (.ref f))
  fn : PySem.W.isFn K (.ref f) = true
  kp : PySem.W.keepIn K (.ref C) = true
theorem run_make {pins : List (Addr × Obj)} {σ : St} {H : Hp} {s : Shared} {Q : VK} {us : List Value} {vs : List V} (M : Mk X.K C f) (F : FnOk X.prog X.w X.K X.mg X.base CX k f fd ps sp) (hr : Room (k + 1) X.A) (hb : Binds X.K fd ps ds) (hd : Vals dvs ds)
    (hx : Passes CX X E) (I : Inv X pins σ H s) (r : Vals vs us)
    (h : ∀ x dx, H x = none → H dx = none → dx ≠ x → sp (.ref x :: (vs ++ dvs)) (upd (upd H dx (.own x)) x (.ins C dx [])) (fun v H2 => v = .non ∧ Q (.ref x) H2) E) :
    wpAny (model X.prog X.w) X.A (call (.ref C) us) (EP X pins σ Q) X.xe s := by
  have hq := h (s.heap.objs.size + 1) s.heap.objs.size (I.hok.fresh (Nat.le_succ _)) (I.hok.fresh (Nat.le_refl _)) (Nat.ne_of_lt (Nat.lt_succ_self _))
  have I2 := Inv.made (C := C) I
  have r2 : Vals (V.ref (s.heap.objs.size + 1) :: (vs ++ dvs)) (Value.ref (s.heap.objs.size + 1) :: (us ++ ds)) := .cons rfl (r.append hd)
  have hl : (Value.ref (s.heap.objs.size + 1) :: us ++ ds).length = ps.length := by
    have e := r2.length
    rw [F.len _ _ _ _ hq] at e
    exact e.symm
  refine wpAny_call (make_map (f := f) I.kIn M.makes M.init (beq_iff_eq.mp M.fn) (codeAny_mono (F.run _ X.stack _ _ ⟨Value.ref (s.heap.objs.size + 1) :: us, []⟩ (Value.ref (s.heap.objs.size + 1) :: (us ++ ds)) _ _ E (hr.make C us [])
    (I2.env0.make C us []) (hb _ (Value.ref (s.heap.objs.size + 1) :: us) I2.kIn hl) r2 hq) fun r s' hq' => ?_))
  cases r with
  | error e => exact hx pins σ _ _ e s' I2 hq'
  | ok fl =>
    cases fl with
    | ret u =>
      obtain ⟨v, H', I3, rv, ev, q3⟩ := I2.after hq'
      subst ev
      exact ⟨rv, ⟨V.ref (s.heap.objs.size + 1), H', I3, rfl, q3⟩⟩
    | next => exact False.elim hq'
    | brk => exact False.elim hq'
    | cont => exact False.elim hq'
theorem pe_make (M : Mk X.K C f) (F : FnOk X.prog X.w X.K X.mg X.base CX k f fd ps sp) (hr : Room (k + 1) X.A) (hg : Gl X x) (hm : X.mg x = some (.ref C)) (hb : Binds X.K fd ps ds) (hd : Vals dvs ds) (hx : Passes CX X E)
    (ha : PA X (e :: es) t) (hdb : (x == ("__debug__" : Str)) = false := by decide) (he : starEach (e :: es) X.env = (false, eval e X.env) :: starEach es X.env := by rfl) (hpl : (backTo pos (starEach es X.env)).any (·.1) = false := by rfl) :
    PE X (.Call (.Name x p) (e :: es) [] pos) (tMake C sp dvs E t) := by
  intro pins s σ H Q I h
  refine wpAny_Call_Name_kw (ld_glob I hg hm ?_ hdb)
  refine PySem.W.callWith_K (h₀ := X.base) I.ok.mod.kin M.kp (thn (ha pos pins s σ H _ I h) fun us s1 ⟨vs, H1, I1, r, q⟩ => ⟨I1.kIn, ?_⟩) he hpl
  exact run_make M F hr hb hd hx I1 r q
end
section
variable {X : Cx} {CX : CXT} {k : Nat} {f C : Addr} {fd : FuncData} {ps ks : List Str} {sp : Sp} {E : XK} {x m : Str} {p pos apos kpos : Pos} {e o : Expr} {es : List Expr} {kws : List Keyword} {te ta : TE} {t tk : TA} {nm : Option Str}
structure KBinds (K : PySem.W.Frag) (fd : FuncData) (ps ks : List Str) (g : List Value → List Value → List Value) (gV : List V → List V → List V) : Prop where
  to : ∀ (s : Shared) (us ws : List Value), K.In s.heap → (g us ws).length = ps.length → BindsTo s fd ⟨us, ks.zip ws⟩ (ps.zip (g us ws))
  rel : ∀ {vs : List V} {us : List Value} {zs : List V} {ws : List Value}, Vals vs us → Vals zs ws → Vals (gV vs zs) (g us ws)
variable {g : List Value → List Value → List Value} {gV : List V → List V → List V}
end
structure FnScope (N P : List Str) (sc : Scope) : Prop where
  kind : sc.kind = .function
  co : sc.isCoroutine = false
  gen : sc.isGenerator = false
  nd : N.Nodup
  pre : N.take P.length = P
  par : ∀ x ∈ P, sc.names.lookup x = some .local ∨ sc.names.lookup x = some .cell
  nofree : ∀ y ∈ sc.names, y.2 ≠ .free
theorem bindL_out {kindOf : Str → Option NameKind} {x : Str} : ∀ {binds : List (Str × Value)} {m : Str → Option Value}, (∀ v, (x, v) ∉ binds) → bindL kindOf binds m x = m x
  | [], _, _ => rfl
  | (n, v) :: r, m, h => by
    unfold bindL
    rw [bindL_out fun w hw => h w (List.mem_cons_of_mem _ hw)]
    split
    · have : x ≠ n := by rintro rfl; exact h v List.mem_cons_self
      simp [this]
    · rfl
theorem bindC_out {kindOf : Str → Option NameKind} {x : Str} : ∀ {binds : List (Str × Value)} {m : Str → Option Value}, (∀ v, (x, v) ∉ binds) → bindC kindOf binds m x = m x
  | [], _, _ => rfl
  | (n, v) :: r, m, h => by
    unfold bindC
    rw [bindC_out fun w hw => h w (List.mem_cons_of_mem _ hw)]
    split
    · rfl
    · have : x ≠ n := by rintro rfl; exact h v List.mem_cons_self
      simp [this]
theorem bindL_get {kindOf : Str → Option NameKind} {x : Str} {v : Value} : ∀ {P : List Str} {vs : List Value} {i : Nat} {m : Str → Option Value}, P.Nodup → P[i]? = some x → vs[i]? = some v → kindOf x = some .local →
    bindL kindOf (P.zip vs) m x = some v
  | [], _, _, _, _, h, _, _ => by simp at h
  | _ :: _, [], _, _, _, _, h, _ => by simp at h
  | p :: P, w :: vs, 0, m, nd, h1, h2, hk => by
    simp at h1 h2; subst h1; subst h2
    show bindL kindOf ((p, w) :: P.zip vs) m p = _
    unfold bindL
    rw [bindL_out fun v hv => (List.nodup_cons.mp nd).1 (List.of_mem_zip hv).1, if_pos hk]
    simp
  | p :: P, w :: vs, i + 1, m, nd, h1, h2, hk => by
    show bindL kindOf ((p, w) :: P.zip vs) m x = _
    unfold bindL
    exact bindL_get (i := i) (List.nodup_cons.mp nd).2 (by simpa using h1) (by simpa using h2) hk
theorem bindC_get {kindOf : Str → Option NameKind} {x : Str} {v : Value} : ∀ {P : List Str} {vs : List Value} {i : Nat} {m : Str → Option Value}, P.Nodup → P[i]? = some x → vs[i]? = some v → kindOf x ≠ some .local →
    bindC kindOf (P.zip vs) m x = some v
  | [], _, _, _, _, h, _, _ => by simp at h
  | _ :: _, [], _, _, _, _, h, _ => by simp at h
  | p :: P, w :: vs, 0, m, nd, h1, h2, hk => by
    simp at h1 h2; subst h1; subst h2
    show bindC kindOf ((p, w) :: P.zip vs) m p = _
    unfold bindC
    rw [bindC_out fun v hv => (List.nodup_cons.mp nd).1 (List.of_mem_zip hv).1, if_neg hk]
    simp
  | p :: P, w :: vs, i + 1, m, nd, h1, h2, hk => by
    show bindC kindOf ((p, w) :: P.zip vs) m x = _
    unfold bindC
    exact bindC_get (i := i) (List.nodup_cons.mp nd).2 (by simpa using h1) (by simpa using h2) hk
def start (N : List Str) (vs : List V) : St := vs.map some ++ List.replicate (N.length - vs.length) none
def cxOf (CX : CXT) (P : Program) (w : World) (K : PySem.W.Frag) (mg : Str → Option Value) (base : Heap) (N : List Str) (qual : Str) (scope : Scope) (f : Addr) (cd : Value) (A : Around) (outer : List Env) (s : Shared) (H : Hp) (E : XK) : Cx where
  prog := P
  w := w
  K := K
  mg := mg
  base := base
  A := A.deeper (envOfC qual scope s.heap.objs.size f cd)
  N := N
  s₀ := s
  H₀ := H
  env := envOfC qual scope s.heap.objs.size f cd
  outer := outer
  stack := envOfC qual scope s.heap.objs.size f cd :: outer
  ex := []
  calm := true
  fn := fun _ => true
  pn := []
  xe := fun e s' => wpAny (model P w) (A.deeper (envOfC qual scope s.heap.objs.size f cd)) (leaving (envOfC qual scope s.heap.objs.size f cd) e) (fun _ s'' => CX outer H s E e s'') (fun e' s'' => CX outer H s E e' s'') s'
theorem cell_has {sc : Scope} {n : Nat} {x : Str} (h : sc.names.lookup x = some .cell) : ∃ c, (cellsFrom n sc.names []).lookup x = some c := by
  have q := PySem.W.cellsFrom_some sc.names n [] (.inl h)
  exact Option.isSome_iff_exists.mp q
theorem inv_start {CX : CXT} {P : Program} {w : World} {K : PySem.W.Frag} {mg : Str → Option Value} {base : Heap} {N ps : List Str} {qual : Str} {scope : Scope} {f : Addr} {cd : Value} {A : Around} {outer : List Env} {s s1 : Shared} {H : Hp} {E : XK} {us : List Value} {vs : List V}
    (S : FnScope N ps scope) (hd : A.handled = none) (e0 : Env0 P w K mg base A outer s H) (hl : vs.length = ps.length) (r : Vals vs us)
    (x : InCallC s s.heap.objs.size (bindL (envOfC qual scope s.heap.objs.size f cd).kindOf (ps.zip us) fun _ => none) (cellsFrom (s.heap.objs.size + 1) scope.names []) (bindC (envOfC qual scope s.heap.objs.size f cd).kindOf (ps.zip us) fun _ => none) s1) :
    Inv (cxOf CX P w K mg base N qual scope f cd A outer s H E) [] (start N vs) H s1 := by
  have hpl : ps.length ≤ N.length := by have := congrArg List.length S.pre; rw [List.length_take] at this; omega
  obtain ⟨h1, tk, rfl, hk⟩ := x.done
  have noA : ∀ b : Addr, b ∉ (cxOf CX P w K mg base N qual scope f cd A outer s H E).ex := fun b z => absurd (show b ∈ ([] : List Addr) from z) (by simp)
  refine ⟨⟨e0.mod, S.kind, rfl, rfl, Nat.le_refl _, fun y z c h1 h2 => ?_, fun y hy => ?_, fun y c _ h => ?_, fun _ => hd, Around.frames_deeper e0.frames, .inr ⟨rfl, rfl⟩, fun b z => absurd z (noA b), e0.bs, e0.bsz, fun b _ _ => noA b, fun b z => absurd z (noA b), e0.funs, e0.frf⟩,
    rfl, e0.bare, Un.kept hk, ⟨_, x.toInCall.ns, fun i y v h1 h2 h3 => ?_⟩, fun y c h => ⟨_, x.cell y c h⟩, e0.hok.fresh (Nat.le_refl _), fun y c h => ?_, fun p hp => absurd (show p ∈ ([] : List (Addr × Obj)) from hp) (by simp), e0.hok.kept hk, ?_⟩
  · exact name_of_addr x.apart (PySem.mem_of_lookup h1) (PySem.mem_of_lookup h2)
  · have hy : scope.names.lookup y = some .cell ∨ scope.names.lookup y = some .free := hy
    rcases hy with hy | hy
    · exact cell_has hy
    · exact absurd rfl (S.nofree _ (PySem.mem_of_lookup hy))
  · exact Nat.le_of_lt (x.above y c (PySem.mem_of_lookup h))
  · have hi : i < vs.length := by
      unfold start at h2
      by_cases hi : i < vs.length
      · exact hi
      · rw [List.getElem?_append_right (by simpa using hi)] at h2
        rw [List.getElem?_replicate] at h2
        split at h2 <;> cases h2
    have ha : vs[i]? = some v := by
      unfold start at h2
      rw [List.getElem?_append_left (by simpa using hi), List.getElem?_map] at h2
      cases e : vs[i]? with
      | none => rw [e] at h2; cases h2
      | some a => rw [e] at h2; cases h2; rfl
    obtain ⟨u, hu, rv⟩ := r.get ha
    have hp : ps[i]? = some y := by
      rw [← S.pre, List.getElem?_take_of_lt (by omega)]; exact h1
    have ndP : ps.Nodup := by rw [← S.pre]; exact S.nd.sublist (List.take_sublist _ _)
    refine ⟨u, rv, ?_⟩
    rcases S.par y (List.mem_of_getElem? hp) with k | k
    · exact .inl ⟨k, bindL_get ndP hp hu k⟩
    · obtain ⟨c, e⟩ := cell_has (n := s.heap.objs.size + 1) k
      refine .inr ⟨.inl k, c, e, ?_⟩
      have q := x.cell y c e
      rw [bindC_get ndP hp hu (by show scope.names.lookup y ≠ _; rw [k]; decide)] at q
      exact q
  · exact e0.hok.fresh (Nat.le_of_lt (x.above y c (PySem.mem_of_lookup h)))
  · unfold start
    show _ = N.length
    rw [List.length_append, List.length_map, List.length_replicate]
    omega
theorem fn_of {CX : CXT} {P : Program} {w : World} {K : PySem.W.Frag} {mg : Str → Option Value} {base : Heap} {k : Nat} {f : Addr} {name qual : Str} {params : Arguments} {body : List Stmt} {scope : Scope} {dV kV doc pm cdv ct oc : Value} {an od : Option Addr}
    {osl : Array (Option Value)} {N ps : List Str} {sp : Sp} (lk : K.lookup f = some ⟨oc, od, .func (PySem.W.fnOf name qual params body scope dV kV doc pm an cdv ct), osl⟩) (hcd : PySem.W.codeIn K cdv qual = true) (S : FnScope N ps scope)
    (len : ∀ vs H Q E, sp vs H Q E → vs.length = ps.length)
    (hbody : ∀ (A : Around) (outer : List Env) (s : Shared) (H : Hp) (vs : List V) (Q : VK) (E : XK), Room k (A.deeper (envOfC qual scope s.heap.objs.size f cdv)) → sp vs H Q E →
      ∃ t, PSs (cxOf CX P w K mg base N qual scope f cdv A outer s H E) body t ∧ t { nx := fun _ H' => Q .non H', rt := Q } (start N vs) H) :
    FnOk P w K mg base CX (k + 1) f (PySem.W.fnOf name qual params body scope dV kV doc pm an cdv ct) ps sp := by
  refine ⟨len, fun A outer s H args us vs Q E hr e0 hb r hsp => ?_⟩
  have hl := len _ _ _ _ hsp
  have KX : K.In s.heap := e0.mod.kin.keeps fun b o e => (e0.bs b o e).1
  have lim : s.heap.NoLimit := e0.mod.nolimit.keeps fun b o e => (e0.bs b o e).1
  have hkind : ∀ y ∈ ps.zip us, scope.names.lookup y.1 = some .local ∨ (scope.names.lookup y.1 = some .cell ∧ ((cellsFrom (s.heap.objs.size + 1) scope.names []).lookup y.1).isSome = true) := fun ⟨n, v⟩ hy => by
    rcases S.par n (List.of_mem_zip hy).1 with q | q
    · exact .inl q
    · exact .inr ⟨q, PySem.W.cellsFrom_some _ _ _ (.inl q)⟩
  refine codeAny_call_function hr.depth (KX _ _ lk) rfl S.co S.gen rfl (PySem.W.codeRec_of KX hcd) (hb _ _ _ _ ?_)
  refine wpAny_newFunctionEnv_cells S.kind hkind fun env he s1 x => ?_
  subst he
  refine ⟨lim.keeps x.toInCall.keep, codeAny_func ?_⟩
  obtain ⟨t, ht, hq⟩ := hbody A outer s H vs Q E (hr.deeper _) hsp
  have I : Inv (cxOf CX P w K mg base N qual scope f cdv A outer s H E) [] (start N vs) H s1 := inv_start S hr.hd e0 hl r x
  refine wpAny_mono (ht [] s1 (start N vs) H _ I hq) (fun fl s' hs => ?_) fun e s' hs => hs
  have fin : ∀ {σ' : St} {H' : Hp} {v : V} {u : Value}, Inv (cxOf CX P w K mg base N qual scope f cdv A outer s H E) [] σ' H' s' → RelV v u → Q v H' → CE outer P w H s Q u s' :=
    fun {σ' H' v u} J rv q => ⟨v, H', J.os, J.bare, J.base, J.hok, rv, q⟩
  cases fl with
  | ret u =>
    obtain ⟨v, σ', H', J, rv, q⟩ := hs
    exact fin J rv q
  | next =>
    obtain ⟨σ', H', J, q⟩ := hs
    exact fin (v := V.non) (u := Value.none) J rfl q
  | brk =>
    obtain ⟨_, _, _, q⟩ := hs
    exact False.elim q
  | cont =>
    obtain ⟨_, _, _, q⟩ := hs
    exact False.elim q
section
variable {X : Cx} {x : Str} {p pos : Pos} {e : Expr} {es : List Expr} {t : TA} {id T : String} {r : List V → Hp → VK → Prop}
def tCB (r : List V → Hp → VK → Prop) (t : TA) : TE := fun σ H Q => t σ H fun vs H1 => r vs H1 Q
theorem pe_callB (hc : CallR X (.builtin id) r) (hg : Gl X x) (hm : X.mg x = none) (hv : bootBuiltins x = some (.builtin id)) (ha : PA X (e :: es) t) (hn : x ≠ "__name__" := by decide) (hdb : (x == ("__debug__" : Str)) = false := by decide)
    (he : starEach (e :: es) X.env = (false, eval e X.env) :: starEach es X.env := by rfl) (hpl : (backTo pos (starEach es X.env)).any (·.1) = false := by rfl) : PE X (.Call (.Name x p) (e :: es) [] pos) (tCB r t) := by
  intro pins s σ H Q I h
  refine wpAny_Call_Name_kw (ld_blt I hg hm hv ?_ hn hdb)
  exact PyProof.Rows.callWith_builtin1 (thn (ha pos pins s σ H _ I h) fun us s1 ⟨vs, H1, I1, r1, q1⟩ => hc pins s1 σ H1 vs us Q I1 r1 q1) he hpl
theorem pe_callTy (hc : CallR X (.type T) r) (hg : Gl X x) (hm : X.mg x = none) (hv : bootBuiltins x = some (.type T)) (ha : PA X (e :: es) t) (hn : x ≠ "__name__" := by decide) (hdb : (x == ("__debug__" : Str)) = false := by decide)
    (he : starEach (e :: es) X.env = (false, eval e X.env) :: starEach es X.env := by rfl) (hpl : (backTo pos (starEach es X.env)).any (·.1) = false := by rfl) : PE X (.Call (.Name x p) (e :: es) [] pos) (tCB r t) := by
  intro pins s σ H Q I h
  refine wpAny_Call_Name_kw (ld_blt I hg hm hv ?_ hn hdb)
  exact PyProof.Rows.callWith_type1 (thn (ha pos pins s σ H _ I h) fun us s1 ⟨vs, H1, I1, r1, q1⟩ => hc pins s1 σ H1 vs us Q I1 r1 q1) he hpl
end
end L2
namespace HT
open PySem PyProof.Rows
section
open PySem.SeqAt
open PySem.AutoSeq1 (wpAny_loadPart')
open PySem.MeetsSeq PySem.MeetsSeq2 PySem.MeetsSeq3
end
section
variable {prog : Program} {w : World} {A : Around} {E : Value → Shared → Prop} {s : Shared}
theorem cat_tup {t b : Addr} {vs ws : List Value} {Q : Value → Shared → Prop} (ht : IsTup s.heap t vs.toArray) (hb : IsTup s.heap b ws.toArray) (hv : vs ≠ [])
    (h1 : ws = [] → Q (.ref t) s) (h2 : ws ≠ [] → Q (.ref s.heap.objs.size) { s with heap := s.heap.push { cls := .type "tuple", data := .seq (vs ++ ws).toArray } })
    (hsz : vs.length + ws.length ≤ sizeLine) : wpAny (model prog w) A (binaryOp .Add (.ref t) (.ref b)) Q E s := by
  obtain ⟨⟨cls, dd, data, sl⟩, ho, hc, n, hd⟩ := id ht
  obtain ⟨⟨cls2, dd2, data2, sl2⟩, ho2, hc2, n2, hd2⟩ := id hb
  simp only at hc hd hc2 hd2
  subst hc hd hc2 hd2
  have e : vs.toArray ++ ws.toArray = (vs ++ ws).toArray := by simp
  by_cases hw : ws = []
  · exact concat_meets ⟨_, ho, rfl⟩ ⟨_, ho2, rfl⟩ noFill_tuple_add seq_tuple_add PySem.F.slot_tuple_add PySem.F.entry_tuple_add (PySem.F.args_tuple_add_2 _ _)
      (tuple_addW1 t b vs.toArray ws.toArray n n2 dd dd2 sl sl2 (by simpa using hv) (by simp [hw])) ⟨ho, ho2, h1 hw⟩
  · refine concat_meets ⟨_, ho, rfl⟩ ⟨_, ho2, rfl⟩ noFill_tuple_add seq_tuple_add PySem.F.slot_tuple_add PySem.F.entry_tuple_add (PySem.F.args_tuple_add_2 _ _)
      (tuple_addW2 t b vs.toArray ws.toArray n n2 dd dd2 sl sl2 (by simpa using hv) (by simpa using hw) (by rw [List.size_toArray, List.size_toArray]; exact hsz)) ⟨ho, ho2, ?_⟩
    rw [e]
    exact h2 hw
def sIx (n d : Nat) : Option Int → Nat
  | none => d
  | some v => if v < 0 then (v + (n : Int)).toNat else min v.toNat n
theorem sIx_none (n d : Nat) : sIx n d none = d := rfl
theorem sIx_nat (n d k : Nat) : sIx n d (some (k : Int)) = min k n := by
  show (if (k : Int) < 0 then ((k : Int) + (n : Int)).toNat else min (k : Int).toNat n) = min k n
  rw [if_neg (by omega), Int.toNat_natCast]
theorem sIx_le (n d : Nat) (hd : d ≤ n) (o : Option Int) : sIx n d o ≤ n := by
  cases o with
  | none => exact hd
  | some v =>
    show (if v < 0 then (v + (n : Int)).toNat else min v.toNat n) ≤ n
    by_cases hv : v < 0
    · rw [if_pos hv]; omega
    · rw [if_neg hv]; exact Nat.min_le_right _ _
theorem clip_eq (v : Int) (n d : Nat) : (if v < 0 then max (v + (n : Int)) 0 else min v (n : Int)) = ((sIx n d (some v) : Nat) : Int) := by
  show (if v < 0 then max (v + (n : Int)) 0 else min v (n : Int)) = (((if v < 0 then (v + (n : Int)).toNat else min v.toNat n) : Nat) : Int)
  by_cases hv : v < 0
  · simp only [if_pos hv]; omega
  · simp only [if_neg hv]; omega
theorem adjust_gen (lo hi : Option Int) (n : Nat) : Builtin.Slice.sliceAdjust lo hi 1 (n : Int) = (((sIx n 0 lo : Nat) : Int), ((sIx n n hi : Nat) : Int)) := by
  have h1 : ¬ ((1 : Int) < 0) := by omega
  unfold Builtin.Slice.sliceAdjust
  simp only [h1, if_false]
  refine Prod.ext ?_ ?_
  · cases lo with
    | none => rfl
    | some v => exact clip_eq v n 0
  · cases hi with
    | none => rfl
    | some v => exact clip_eq v n n
theorem places_gen (i j : Nat) : Builtin.Slice.slicePlaces (i : Int) (j : Int) 1 = j - i := by
  unfold Builtin.Slice.slicePlaces
  have h1 : (1 : Int) > 0 := by omega
  simp only [h1, if_true, Int.ediv_one]
  split <;> omega
theorem slicePart_ {v : Value} {o : Option Int} {Q : Option Int → Shared → Prop} (p : IsPart v o) (h : Q o s) : wpAny (model prog w) A (Builtin.Slice.slicePartIndex v) Q E s := by
  cases p with
  | none => exact slicePart_none h
  | int i t => exact slicePart_int h
theorem sliceApplied_gen {sl : Addr} {vl vu : Value} {lo hi : Option Int} {n : Nat} {Q : Int × Int × Nat → Shared → Prop} (hs : s.heap.IsSliceOf sl vl vu .none) (pl : IsPart vl lo) (pu : IsPart vu hi)
    (h : Q (((sIx n 0 lo : Nat) : Int), 1, sIx n n hi - sIx n 0 lo) s) : wpAny (model prog w) A (Builtin.Slice.sliceApplied (.ref sl) (pure (n : Int))) Q E s := by
  obtain ⟨os, hos, hcs, hds⟩ := id hs
  unfold Builtin.Slice.sliceApplied Builtin.Slice.sliceFields
  refine wpAny_bind (wpAny_bind (wpAny_field hos hds (x := vl) rfl (wpAny_bind (wpAny_field hos hds (x := vu) rfl (wpAny_bind (wpAny_field hos hds (x := .none) rfl (wpAny_pure ?_)))))))
  refine wpAny_bind (slicePart_none ?_)
  show wpAny _ _ (if ((1 : Int) == 0) = true then _ else _) _ _ s
  rw [if_neg (by decide)]
  refine wpAny_bind (slicePart_ pl (wpAny_bind (slicePart_ pu (wpAny_bind (wpAny_pure ?_)))))
  show wpAny _ _ (match Builtin.Slice.sliceAdjust lo hi 1 (n : Int) with | (lo, hi) => pure (lo, (1 : Int), Builtin.Slice.slicePlaces lo hi 1)) _ _ s
  rw [adjust_gen lo hi n]
  show wpAny _ _ (pure (((sIx n 0 lo : Nat) : Int), (1 : Int), Builtin.Slice.slicePlaces ((sIx n 0 lo : Nat) : Int) ((sIx n n hi : Nat) : Int) 1)) _ _ s
  rw [places_gen]
  exact wpAny_pure h
theorem pick_gen (xs : Array Value) (i k : Nat) : ((List.range k).filterMap fun (m : Nat) => xs[((i : Int) + (m : Int) * 1).toNat]?).toArray = ((xs.toList.drop i).take k).toArray := by
  have e : (fun (m : Nat) => xs[((i : Int) + (m : Int) * 1).toNat]?) = fun m => xs[i + m]? := by
    funext m
    have : ((i : Int) + (m : Int) * 1).toNat = i + m := by omega
    rw [this]
  rw [e]
  have := pick_run xs i k
  rw [List.filterMap_map] at this
  have e2 : ((fun x => xs[x]?) ∘ fun x => i + x) = fun m => xs[i + m]? := rfl
  rw [e2] at this
  rw [this]
theorem getItem_tuple_cut {t sl : Addr} {items : Array Value} {vl vu : Value} {lo hi : Option Int} {Q : Value → Shared → Prop} (ht : IsTup s.heap t items) (hs : s.heap.IsSliceOf sl vl vu .none) (pl : IsPart vl lo) (pu : IsPart vu hi)
    (hw : ¬ (sIx items.size 0 lo = 0 ∧ sIx items.size items.size hi = items.size))
    (h : Q (.ref s.heap.objs.size) { s with heap := s.heap.push { cls := .type "tuple", data := .seq ((items.toList.drop (sIx items.size 0 lo)).take (sIx items.size items.size hi - sIx items.size 0 lo)).toArray } })
    (hsz : items.size ≤ sizeLine) : wpAny (model prog w) A (getItem (.ref t) (.ref sl)) Q E s := by
  have htake : sizeOk (.seq ((items.toList.drop (sIx items.size 0 lo)).take (sIx items.size items.size hi - sIx items.size 0 lo)).toArray) := by
    show ((items.toList.drop (sIx items.size 0 lo)).take (sIx items.size items.size hi - sIx items.size 0 lo)).toArray.size ≤ sizeLine
    rw [List.size_toArray, List.length_take, List.length_drop, Array.length_toList]
    omega
  have hj : sIx items.size items.size hi ≤ items.size := sIx_le _ _ (Nat.le_refl _) hi
  obtain ⟨os, hos, hcs, hds⟩ := id hs
  have hTs : s.TypeIs (.ref sl) "slice" := ⟨os, hos, hcs⟩
  unfold getItem
  try with_reducible refine wpAny_holding ?_
  first | refine wpAny_bind (wpAny_pure ?_) | skip
  refine wpAny_bind (wpAny_sequenceKey ht.typeIs (by decide) ?_)
  refine wpAny_bind (wpAny_callSpecial?_slot (name := Str.ofString "__getitem__") ht.typeIs PyProof.Rows.slot_tuple_getitem
    (wpAny_call_entry PyProof.Rows.slot_tuple_getitem ht.typeIs entry_tuple_getitem ?_ (args_tuple_getitem _ _)))
  show wpAny _ _ (Builtin.Tuple.tupleItemsOf (.ref t) >>= _) _ _ s
  refine wpAny_bind (tupleItemsOf_ ht ?_)
  refine wpAny_bind (wpAny_typeOf hTs ?_)
  rw [if_pos (by decide)]
  refine wpAny_bind (sliceApplied_gen hs pl pu ?_)
  have hno : ¬ ((((sIx items.size 0 lo : Nat) : Int) == 0 && (1 : Int) == 1 && (sIx items.size items.size hi - sIx items.size 0 lo) == items.size) = true) := by
    intro q
    rw [Bool.and_eq_true, Bool.and_eq_true] at q
    have q1 : ((sIx items.size 0 lo : Nat) : Int) = 0 := eq_of_beq q.1.1
    have q2 : sIx items.size items.size hi - sIx items.size 0 lo = items.size := eq_of_beq q.2
    exact hw ⟨by omega, by omega⟩
  show wpAny _ _ (if (((sIx items.size 0 lo : Nat) : Int) == 0 && (1 : Int) == 1 && (sIx items.size items.size hi - sIx items.size 0 lo) == items.size) = true then _ else _) _ _ s
  rw [if_neg hno, pick_gen]
  first
    | exact wpAny_bind (m := Builtin.Tuple.tupleExact _) (wpAny_newObj_type (wpAny_pure ⟨_, rfl, wpAny_pure h⟩) htake)
    | exact wpAny_bind (m := Builtin.Tuple.tupleExact _) (wpAny_newObj_type (wpAny_bind (wpAny_pure (wpAny_pure ⟨_, rfl, wpAny_pure h⟩))) htake)
    | exact wpAny_bind (wpAny_bind (m := Builtin.Tuple.tupleExact _) (wpAny_newObj_type (wpAny_pure (wpAny_pure ⟨_, rfl, wpAny_pure h⟩)) htake))
    | exact wpAny_bind (wpAny_bind (m := Builtin.Tuple.tupleExact _) (wpAny_newObj_type (wpAny_pure ⟨_, rfl, wpAny_pure h⟩) htake))
end
end HT
namespace L2
open PySem PySem.Spec PyProof.Rows
abbrev TO := St → Hp → (Option Int → Hp → Prop) → Prop
def PO (X : Cx) (e : Option Expr) (t : TO) : Prop :=
  ∀ (pins : List (Addr × Obj)) (s : Shared) (σ : St) (H : Hp) (Q : Option Int → Hp → Prop), Inv X pins σ H s → t σ H Q →
    wpAny (model X.prog X.w) X.A (evalPart e X.env) (fun u s' => ∃ o H', Inv X pins σ H' s' ∧ IsPart u o ∧ Q o H') X.xe s
def tNoPart : TO := fun _ H Q => Q none H
def tPart (t : TE) : TO := fun σ H Q => t σ H fun x H1 => ∃ i, x = .int i ∧ Q (some i) H1
theorem intsAre_of {ns : List Int} : ∀ {us : List Value}, Vals (ns.map V.int) us → IntsAre us ns := by
  induction ns with
  | nil => intro us r; rw [List.map_nil] at r; cases r; exact .nil
  | cons n ns ih =>
    intro us r
    rw [List.map_cons] at r
    cases r with
    | cons r1 r2 =>
      obtain ⟨t, e⟩ := r1
      subst e
      exact .cons n t (ih r2)
section
variable {X : Cx} {e : Expr} {te : TE} {lo hi : Option Expr} {tl th : TO} {pos p2 : Pos}
theorem po_none : PO X none tNoPart := by
  intro pins s σ H Q I h
  rw [evalPart_none]
  exact wpAny_pure ⟨none, H, I, .none, h⟩
theorem po_some (h : PE X e te) : PO X (some e) (tPart te) := by
  intro pins s σ H Q I hw
  rw [evalPart_some]
  refine thn (h pins s σ H _ I hw) fun u s1 ⟨x, H1, I1, r1, q1⟩ => ?_
  obtain ⟨i, rfl, q⟩ := q1
  obtain ⟨t, rfl⟩ := r1
  exact ⟨some i, H1, I1, .int i t, q⟩
def SlR (X : Cx) (r : V → Option Int → Option Int → Hp → VK → Prop) : Prop :=
  ∀ (pins : List (Addr × Obj)) (s : Shared) (σ : St) (H : Hp) (x : V) (v vl vu : Value) (lo hi : Option Int) (sl : Addr) (Q : VK), Inv X pins σ H s → RelV x v → s.heap.IsSliceOf sl vl vu .none → IsPart vl lo → IsPart vu hi → r x lo hi H Q →
    ∃ T id, typeLookup (.type T) "__getitem__" = pure (some (.builtin id)) ∧ s.TypeIs v T ∧ wpAny (model X.prog X.w) X.A (getItem v (.ref sl)) (EP X pins σ Q) X.xe s
theorem SlR.or {r r' : V → Option Int → Option Int → Hp → VK → Prop} (h : SlR X r) (h' : SlR X r') : SlR X (fun x lo hi H Q => r x lo hi H Q ∨ r' x lo hi H Q) := by
  intro pins s σ H x v vl vu lo hi sl Q I rx hs pl pu q
  rcases q with q | q
  · exact h pins s σ H x v vl vu lo hi sl Q I rx hs pl pu q
  · exact h' pins s σ H x v vl vu lo hi sl Q I rx hs pl pu q
def tSl (r : V → Option Int → Option Int → Hp → VK → Prop) (te : TE) (tl th : TO) : TE := fun σ H Q => te σ H fun x H1 => tl σ H1 fun l H2 => th σ H2 fun u H3 => r x l u H3 Q
theorem pe_slice {r : V → Option Int → Option Int → Hp → VK → Prop} (hr : SlR X r) (he : PE X e te) (hl : PO X lo tl) (hu : PO X hi th) : PE X (.Subscript e (.Slice lo hi none p2) pos) (tSl r te tl th) := by
  intro pins s σ H Q I h
  refine Subscript_ (thn (he pins s σ H _ I h) fun v s1 ⟨x, H1, I1, r1, q1⟩ => ?_)
  refine wpAny_Slice (thn (hl pins s1 σ H1 _ I1 q1) fun vl s2 ⟨l, H2, I2, pl, q2⟩ => thn (hu pins s2 σ H2 _ I2 q2) fun vu s3 ⟨u, H3, I3, pu, q3⟩ => ?_)
  rw [evalPart_none]
  refine wpAny_pure ?_
  have I4 : Inv X pins σ H3 { s3 with heap := s3.heap.push { cls := .type "slice", data := .fields #[vl, vu, .none] } } := I3.kept (t' := s3.toks) fun b ob q => Heap.get?_push_of_some _ q
  obtain ⟨T, id, hT, ht, hg⟩ := hr pins { s3 with heap := s3.heap.push { cls := .type "slice", data := .fields #[vl, vu, .none] } } σ H3 x v vl vu l u s3.heap.objs.size Q I4 r1 (Heap.IsSliceOf.new ..) pl pu q3
  show wpAny (model X.prog X.w) X.A (subscriptTail e (.Slice lo hi none p2) v (.ref s3.heap.objs.size)) (EP X pins σ Q) X.xe { s3 with heap := s3.heap.push { cls := .type "slice", data := .fields #[vl, vu, .none] } }
  exact tail_any (ops := [.ref s3.heap.objs.size, v]) ht hT hg (by with_unfolding_all rfl)
def cutV (xs : List V) (lo hi : Option Int) : List V := (xs.drop (HT.sIx xs.length 0 lo)).take (HT.sIx xs.length xs.length hi - HT.sIx xs.length 0 lo)
theorem cutV_length (xs : List V) (lo hi : Option Int) : (cutV xs lo hi).length ≤ xs.length := by
  unfold cutV
  rw [List.length_take, List.length_drop]
  omega
def rSlT (K : PySem.W.Frag) : V → Option Int → Option Int → Hp → VK → Prop := fun x lo hi H Q => ∃ a xs, x = .ref a ∧ SqT K H a xs ∧
  ¬ (HT.sIx xs.length 0 lo = 0 ∧ HT.sIx xs.length xs.length hi = xs.length) ∧ ∀ p, H p = none → Q (.ref p) (upd H p (.tup (cutV xs lo hi)))
theorem sl_tup : SlR X (rSlT X.K) := by
  intro pins s σ H x v vl vu lo hi sl Q I rx hs pl pu h
  obtain ⟨a, xs, rfl, hx, hw, q⟩ := h
  cases rx
  obtain ⟨its, r, ht, hz⟩ := I.tuple hx
  have hlen : its.toArray.size = xs.length := by rw [List.size_toArray]; exact r.length.symm
  refine ⟨"tuple", _, PyProof.Rows.slot_tuple_getitem.lookup, ht.typeIs, ?_⟩
  refine HT.getItem_tuple_cut ht hs pl pu (by rw [hlen]; exact hw) ?_ (by rw [hlen]; exact hz)
  rw [hlen]
  refine ⟨.ref s.heap.objs.size, _, I.laid (t' := s.toks) (o := .tup (cutV xs lo hi)) (fun b ob q => Heap.get?_push_of_some _ q) (Nat.le_refl _) ?_, rfl, q _ (I.hok.fresh (Nat.le_refl _))⟩
  exact ⟨Nat.le_trans (cutV_length xs lo hi) hz, _, (r.drop (HT.sIx xs.length 0 lo)).take (HT.sIx xs.length xs.length hi - HT.sIx xs.length 0 lo), TupN.new _ _⟩
end
def ixN (n : Nat) (i : Int) : Option Nat := if 0 ≤ i then (if i < n then some i.toNat else none) else if -(n : Int) ≤ i then some (i + n).toNat else none
def atI {α : Type} (xs : List α) (i : Int) : Option α := (ixN xs.length i).bind fun j => xs[j]?
theorem ixN_seq {n : Nat} {i : Int} {j : Nat} (h : ixN n i = some j) : seqIndex? i n = some j ∧ j < n ∧ -(n : Int) ≤ i ∧ i < n := by
  unfold ixN at h
  by_cases h0 : 0 ≤ i
  · rw [if_pos h0] at h
    by_cases h1 : i < n
    · rw [if_pos h1] at h
      have e : i.toNat = j := Option.some.inj h
      exact ⟨by rw [seqIndex_of h0 h1, e], by omega, by omega, h1⟩
    · rw [if_neg h1] at h; cases h
  · rw [if_neg h0] at h
    by_cases h1 : -(n : Int) ≤ i
    · rw [if_pos h1] at h
      have e : (i + n).toNat = j := Option.some.inj h
      exact ⟨by rw [seqIndex_neg (by omega) h1, e], by omega, h1, by omega⟩
    · rw [if_neg h1] at h; cases h
theorem atI_get {α : Type} {xs : List α} {i : Int} {v : α} (h : atI xs i = some v) : ∃ j, seqIndex? i xs.length = some j ∧ xs[j]? = some v ∧ j < xs.length ∧ -(xs.length : Int) ≤ i ∧ i < xs.length := by
  unfold atI at h
  cases e : ixN xs.length i with
  | none => rw [e] at h; cases h
  | some j =>
    rw [e] at h
    obtain ⟨h1, h2, h3, h4⟩ := ixN_seq e
    exact ⟨j, h1, h, h2, h3, h4⟩
theorem atI_nat {α : Type} {xs : List α} {j : Nat} {v : α} (h : xs[j]? = some v) : atI xs (j : Int) = some v := by
  have hj : j < xs.length := (List.getElem?_eq_some_iff.mp h).1
  have e : ixN xs.length (j : Int) = some j := by
    unfold ixN
    rw [if_pos (by omega), if_pos (by omega)]; simp
  unfold atI; rw [e]; exact h
def PlainIx (b : Expr) : Prop := ∀ o i, subscripted b false o i = operate [o, i] (getItem o i)
def IxR (X : Cx) (r : R2) : Prop :=
  ∀ (value slice : Expr) (pins : List (Addr × Obj)) (s : Shared) (σ : St) (H : Hp) (x y : V) (v u : Value) (Q : VK), Inv X pins σ H s → RelV x v → RelV y u → r x y H Q →
    subscripted slice false v u = operate [v, u] (getItem v u) → wpAny (model X.prog X.w) X.A (subscriptTail value slice v u) (EP X pins σ Q) X.xe s
def MtR (X : Cx) (id : String) (r : V → List V → Hp → VK → Prop) : Prop :=
  ∀ (pins : List (Addr × Obj)) (s : Shared) (σ : St) (H : Hp) (x : V) (xs : List V) (v : Value) (us : List Value) (Q : VK), Inv X pins σ H s → RelV x v → Vals xs us → r x xs H Q →
    wpAny (model X.prog X.w) X.A (call (.builtin id) (v :: us)) (EP X pins σ Q) X.xe s
section
variable {X : Cx} {a b : Expr} {ta tb : TE} {pos : Pos}
theorem IxR.or {r r' : R2} (h : IxR X r) (h' : IxR X r') : IxR X (fun x y H Q => r x y H Q ∨ r' x y H Q) := by
  intro value slice pins s σ H x y v u Q I rx ry q hs
  rcases q with q | q
  · exact h value slice pins s σ H x y v u Q I rx ry q hs
  · exact h' value slice pins s σ H x y v u Q I rx ry q hs
theorem MtR.or {id : String} {r r' : V → List V → Hp → VK → Prop} (h : MtR X id r) (h' : MtR X id r') : MtR X id (fun x xs H Q => r x xs H Q ∨ r' x xs H Q) := by
  intro pins s σ H x xs v us Q I rx rs q
  rcases q with q | q
  · exact h pins s σ H x xs v us Q I rx rs q
  · exact h' pins s σ H x xs v us Q I rx rs q
theorem pe_ix {r : R2} (hr : IxR X r) (ha : PE X a ta) (hb : PE X b tb) (hs : PlainIx b) : PE X (.Subscript a b pos) (tOp r ta tb) := by
  intro pins s σ H Q I h
  exact Subscript_ (binT ha hb I h fun v u s2 x y H2 I2 rx ry q => hr a b pins s2 σ H2 x y v u Q I2 rx ry q (hs _ _))
def rIxL (K : PySem.W.Frag) : R2 := fun x y H Q => ∃ p xs i v, x = .ref p ∧ y = .int i ∧ SqL K H p xs ∧ atI xs i = some v ∧ Q v H
def rIxT (K : PySem.W.Frag) : R2 := fun x y H Q => ∃ p xs i v, x = .ref p ∧ y = .int i ∧ SqT K H p xs ∧ atI xs i = some v ∧ Q v H
def rIxS : R2 := fun x y H Q => ∃ z i c, x = .str z ∧ y = .int i ∧ z.length ≤ sizeLine ∧ atI z.cps.toList i = some c ∧ Q (.str ⟨#[c]⟩) H
theorem ix_list : IxR X (rIxL X.K) := by
  intro value slice pins s σ H x y v u Q I rx ry h hs
  obtain ⟨p, xs, i, z, rfl, rfl, hq, he, q⟩ := h
  cases rx
  obtain ⟨t, rfl⟩ := ry
  obtain ⟨its, r, pl, hz⟩ := I.list hq
  obtain ⟨j, h1, h2, h3, h4, h5⟩ := atI_get he
  obtain ⟨w, ew, rw'⟩ := r.get h2
  have hl := r.length
  have hn := line63
  have fin : EP X pins σ Q w s := ⟨z, H, I, rw', q⟩
  by_cases h0 : 0 ≤ i
  · have hj : i.toNat = j := by
      rw [seqIndex_of h0 h5] at h1
      exact Option.some.inj h1
    exact item_listR pl.isList h0 (by omega) (by rw [hj]; simpa using ew) fin hs
  · have hj : (i + (its.toArray.size : Int)).toNat = j := by
      rw [seqIndex_neg (by omega) h4] at h1
      rw [List.size_toArray, ← hl]
      exact Option.some.inj h1
    exact subscriptTail_builtinR (x := w) pl.isList.typeIs slot_list_getitem.lookup
      (wpAny_getItem_list_neg (Q := fun r s' => r = w ∧ EP X pins σ Q r s') pl.isList (by omega) (by rw [List.size_toArray] <;> omega) (by omega) (by rw [hj]; simpa using ew) ⟨rfl, fin⟩) hs
theorem ix_tup : IxR X (rIxT X.K) := by
  intro value slice pins s σ H x y v u Q I rx ry h hs
  obtain ⟨p, xs, i, z, rfl, rfl, hq, he, q⟩ := h
  cases rx
  obtain ⟨t, rfl⟩ := ry
  obtain ⟨its, r, pl, hz⟩ := I.tuple hq
  obtain ⟨j, h1, h2, h3, h4, h5⟩ := atI_get he
  obtain ⟨w, ew, rw'⟩ := r.get h2
  have hl := r.length
  have hn := line63
  have fin : EP X pins σ Q w s := ⟨z, H, I, rw', q⟩
  exact subscriptTail_builtinR (x := w) pl.typeIs slot_tuple_getitem.lookup
    (getItem_tuple (j := j) (Q := fun r s' => r = w ∧ EP X pins σ Q r s') pl (by omega) (by omega) (by rw [List.size_toArray, ← hl]; exact h1) (by simpa using ew) ⟨rfl, fin⟩) hs
theorem ix_str : IxR X rIxS := by
  intro value slice pins s σ H x y v u Q I rx ry h hs
  obtain ⟨z, i, c, rfl, rfl, hz, he, q⟩ := h
  obtain ⟨t, rfl⟩ := rx
  obtain ⟨t', rfl⟩ := ry
  obtain ⟨j, h1, h2, h3, h4, h5⟩ := atI_get he
  have hl : z.cps.toList.length = z.length := by simp [Str.length]
  rw [hl] at h1 h4 h5
  have hn := line63
  exact tail_any (typeIs_str s z t) slot_str_getitem.lookup (getItem_str (c := c) (by
    have e1 : decide (i < -(2 ^ 63 : Int)) = false := decide_eq_false (by omega)
    have e2 : decide (i ≥ 2 ^ 63) = false := decide_eq_false (by omega)
    rw [e1, e2, Bool.or_false]) (by rw [h1]; simpa using h2) ⟨.str ⟨#[c]⟩, H, I.tok _, ⟨_, rfl⟩, q⟩) hs
def rIx (K : PySem.W.Frag) : R2 := fun x y H Q => rIxL K x y H Q ∨ rIxT K x y H Q ∨ rIxS x y H Q
theorem ix_seq : IxR X (rIx X.K) := ix_list.or (ix_tup.or ix_str)
theorem Inv.lst {pins : List (Addr × Obj)} {σ : St} {H : Hp} {s : Shared} {p : Addr} {xs : List V} (I : Inv X pins σ H s) (h : H p = some (.lst xs)) :
    ∃ (its : List Value) (n : Nat), Vals xs its ∧ s.heap.get? p = some { cls := .type "list", data := .seq its.toArray n } ∧ xs.length ≤ sizeLine := by
  obtain ⟨z, its, n, r, e⟩ := I.hok p _ h
  exact ⟨its, n, r, e, z⟩
theorem slice_bounds (lo hi : Option Int) (n : Nat) : (sliceBounds lo hi none n).1 = ((HT.sIx n 0 lo : Nat) : Int) ∧ (sliceBounds lo hi none n).2.1 = ((HT.sIx n n hi : Nat) : Int) ∧ (sliceBounds lo hi none n).2.2 = 1 := by
  refine ⟨?_, ?_, rfl⟩
  · cases lo with
    | none => simp [sliceBounds, HT.sIx]
    | some i =>
      simp only [sliceBounds, HT.sIx, Option.getD_none, show (1 : Int) > 0 by decide, if_true]
      by_cases h : i < 0
      · simp only [h, if_true] <;> omega
      · simp only [h, if_false] <;> omega
  · cases hi with
    | none => simp [sliceBounds, HT.sIx]
    | some i =>
      simp only [sliceBounds, HT.sIx, Option.getD_none, show (1 : Int) > 0 by decide, if_true]
      by_cases h : i < 0
      · simp only [h, if_true] <;> omega
      · simp only [h, if_false] <;> omega
theorem slicePick_cut (its : List Value) (lo hi : Option Int) : slicePick its.toArray lo hi none = ((its.drop (HT.sIx its.length 0 lo)).take (HT.sIx its.length its.length hi - HT.sIx its.length 0 lo)).toArray := by
  obtain ⟨h1, h2, h3⟩ := slice_bounds lo hi its.toArray.size
  unfold slicePick
  rw [h1, h2, h3]
  simp only [sliceRange_one, pick_run, List.size_toArray] <;> rfl
def rSlL (K : PySem.W.Frag) : V → Option Int → Option Int → Hp → VK → Prop := fun x lo hi H Q => ∃ a xs, x = .ref a ∧ SqL K H a xs ∧ ∀ p, H p = none → Q (.ref p) (upd H p (.lst (cutV xs lo hi)))
theorem sl_list : SlR X (rSlL X.K) := by
  intro pins s σ H x v vl vu lo hi sl Q I rx hs pl pu h
  obtain ⟨a, xs, rfl, hx, q⟩ := h
  cases rx
  obtain ⟨its, r, ht, hz⟩ := I.list hx
  have hlen := r.length
  refine ⟨"list", _, slot_list_getitem.lookup, ht.isList.typeIs, ?_⟩
  refine wpAny_getItem_list_slice ht.isList hs pl pu .none (by simp) ?_ (by rw [List.size_toArray] <;> omega)
  rw [slicePick_cut, ← hlen]
  refine ⟨.ref s.heap.objs.size, _, I.laid (t' := s.toks) (o := .lst (cutV xs lo hi)) (fun b ob q => Heap.get?_push_of_some _ q) (Nat.le_refl _) ?_, rfl, q _ (I.hok.fresh (Nat.le_refl _))⟩
  exact ⟨Nat.le_trans (cutV_length xs lo hi) hz, _, 0, (r.drop (HT.sIx xs.length 0 lo)).take (HT.sIx xs.length xs.length hi - HT.sIx xs.length 0 lo), Heap.get?_push_size _ rfl⟩
theorem CallR.or {f : Value} {r r' : List V → Hp → VK → Prop} (h : CallR X f r) (h' : CallR X f r') : CallR X f (fun xs H Q => r xs H Q ∨ r' xs H Q) := by
  intro pins s σ H xs us Q I rs q
  rcases q with q | q
  · exact h pins s σ H xs us Q I rs q
  · exact h' pins s σ H xs us Q I rs q
theorem call_list_of : CallR X (.type "list") (fun xs H Q => ∃ p ys, xs = [.ref p] ∧ (SqL X.K H p ys ∨ SqT X.K H p ys) ∧ ∀ l, H l = none → Q (.ref l) (upd H l (.lst ys))) := by
  intro pins s σ H xs us Q I r h
  obtain ⟨p, ys, rfl, hq, q⟩ := h
  obtain ⟨u, rfl, rx⟩ := vals1 r
  cases rx
  have fin : ∀ (its : List Value), Vals ys its → ys.length ≤ sizeLine → ∀ (h' : Heap) (c' : Nat), (∀ b o', s.heap.get? b = some o' → h'.get? b = some o') →
      h'.get? s.heap.objs.size = some { cls := .type "list", dict := none, data := .seq its.toArray c', slots := #[] } → EP X pins σ Q (.ref s.heap.objs.size) { s with heap := h' } := fun its r' hz h' c' kp e =>
    ⟨.ref s.heap.objs.size, _, I.laid (t' := s.toks) kp (Nat.le_refl _) (show ObjOk X.prog X.w _ h' _ (.lst ys) from ⟨hz, its, c', r', e⟩), rfl, q _ (I.hok.fresh (Nat.le_refl _))⟩
  rcases hq with hq | hq
  · obtain ⟨its, r', pl, hz⟩ := I.list hq
    have hlen := r'.length
    obtain ⟨o, ho, hc, n, hd⟩ := pl.isList
    exact call_list_seq p (.inl rfl) ho hc hd (fun h' c' kp e => fin its r' hz h' c' kp e) (by simp only [List.size_toArray] <;> omega)
  · obtain ⟨its, r', pl, hz⟩ := I.tuple hq
    have hlen := r'.length
    obtain ⟨o, ho, hc, n, hd⟩ := pl
    exact call_list_seq p (.inr rfl) ho hc hd (fun h' c' kp e => fin its r' hz h' c' kp e) (by simp only [List.size_toArray] <;> omega)
theorem call_tuple_of : CallR X (.type "tuple") (fun xs H Q => ∃ p ys, xs = [.ref p] ∧ ((SqL X.K H p ys ∧ ∀ l, H l = none → Q (.ref l) (upd H l (.tup ys))) ∨ (SqT X.K H p ys ∧ Q (.ref p) H))) := by
  intro pins s σ H xs us Q I r h
  obtain ⟨p, ys, rfl, h⟩ := h
  obtain ⟨u, rfl, rx⟩ := vals1 r
  cases rx
  rcases h with ⟨hq, q⟩ | ⟨hq, q⟩
  · obtain ⟨its, r', pl, hz⟩ := I.list hq
    have hlen := r'.length
    refine call_tuple_list pl.isList (fun h' kp => ?_) (by simp only [List.size_toArray] <;> omega)
    have I1 : Inv X pins σ H { s with heap := h' } := I.kept (t' := s.toks) kp
    have I2 : Inv X pins σ (upd H h'.objs.size (.tup ys)) { s with heap := h'.push { cls := .type "tuple", data := .seq its.toArray } } :=
      I1.laid (t' := s.toks) (fun b o e => Heap.get?_push_of_some _ e) (Nat.le_refl _) (show ObjOk X.prog X.w _ _ _ (.tup ys) from ⟨hz, its, r', TupN.new _ _⟩)
    exact ⟨.ref h'.objs.size, _, I2, rfl, q _ (I1.hok.fresh (Nat.le_refl _))⟩
  · obtain ⟨its, r', pl, hz⟩ := I.tuple hq
    exact call_tuple_same pl ⟨.ref p, H, I, rfl, q⟩
def tyV (K : PySem.W.Frag) (T : String) (x : V) (H : Hp) : Prop := match x with
  | .str _ => T = "str"
  | .int _ => T = "int"
  | .ref p => (T = "list" ∧ ∃ xs, SqL K H p xs) ∨ (T = "tuple" ∧ ∃ o, K.lookup p = some o ∧ o.cls = .type "tuple" ∧ o.dict = none) ∨
      (T = "dict" ∧ ((∃ kvs, H p = some (.dK kvs)) ∨ ∃ kvs, H p = some (.dT kvs))) ∨ (T = "set" ∧ ∃ S n, H p = some (.set S n))
  | _ => False
theorem tyV_is {pins : List (Addr × Obj)} {σ : St} {H : Hp} {s : Shared} {T : String} {x : V} {v : Value} (I : Inv X pins σ H s) (r : RelV x v) (ty : tyV X.K T x H) :
    s.TypeIs v T ∧ ∀ a, v = .ref a → ∃ ob, s.heap.get? a = some ob ∧ ob.dict = none := by
  cases x with
  | str z =>
    obtain ⟨t, rfl⟩ := r
    cases (show T = "str" from ty)
    exact ⟨typeIs_str s z t, fun _ e => nomatch e⟩
  | int i =>
    obtain ⟨t, rfl⟩ := r
    cases (show T = "int" from ty)
    exact ⟨typeIs_int s i t, fun _ e => nomatch e⟩
  | ref p =>
    cases r
    rcases ty with ⟨rfl, xs, hq⟩ | ⟨rfl, o, hk, hc, hd⟩ | ⟨rfl, hk⟩ | ⟨rfl, S, n, hk⟩
    · obtain ⟨its, _, pl, _⟩ := I.list hq
      refine ⟨pl.isList.typeIs, fun a e => ?_⟩
      cases e
      obtain ⟨o, n, e, c, hd, _⟩ := pl
      exact ⟨o, e, hd⟩
    · refine ⟨⟨o, I.kIn p o hk, hc⟩, fun a e => ?_⟩
      cases e
      exact ⟨o, I.kIn _ o hk, hd⟩
    · have z : ∃ o, s.heap.get? p = some o ∧ o.ExactDict := by
        rcases hk with ⟨kvs, hk⟩ | ⟨kvs, hk⟩
        · obtain ⟨_, _, _, _, o, _, _, e, ex, _⟩ := I.hok p _ hk
          exact ⟨o, e, ex⟩
        · obtain ⟨_, _, _, _, o, _, _, e, ex, _⟩ := I.hok p _ hk
          exact ⟨o, e, ex⟩
      obtain ⟨o, e, ex⟩ := z
      refine ⟨⟨o, e, ex.1⟩, fun a e2 => ?_⟩
      cases e2
      exact ⟨o, e, ex.2.1⟩
    · obtain ⟨o, _, _, _, e, ex, _⟩ := I.hok p _ hk
      refine ⟨⟨o, e, ex.1⟩, fun a e2 => ?_⟩
      cases e2
      exact ⟨o, e, ex.2.1⟩
  | _ => exact False.elim ty
def tBM0 (K : PySem.W.Frag) (T : String) (r : V → List V → Hp → VK → Prop) (to : TE) : TE := fun σ H Q => to σ H fun x H1 => tyV K T x H1 ∧ r x [] H1 Q
def tBM (K : PySem.W.Frag) (T : String) (r : V → List V → Hp → VK → Prop) (to : TE) (t : TA) : TE := fun σ H Q => to σ H fun x H1 => tyV K T x H1 ∧ t σ H1 fun xs H2 => r x xs H2 Q
variable {o e : Expr} {es : List Expr} {to : TE} {t : TA} {name : Str} {apos cpos : Pos} {T id : String} {r : V → List V → Hp → VK → Prop}
theorem pe_bm0 (pa : PlainAttrs T) (slot : Slot T name id) (hty : typeOf (.builtin id) = pure (.type "method_descriptor")) (hm : MtR X id r) (ho : PE X o to)
    (hbase : attributeBase o name X.env (eval o X.env) = eval o X.env := by rfl) (hline : (apos.endLine == cpos.line) = true := by rfl) : PE X (.Call (.Attribute o name apos) [] [] cpos) (tBM0 X.K T r to) := by
  intro pins s σ H Q I h
  refine wpAny_Call_method0_late hbase hline (thn (ho pins s σ H _ I h) fun v s1 ⟨x, H1, I1, r1, ty, q1⟩ => ?_)
  obtain ⟨h1, h2⟩ := tyV_is I1 r1 ty
  exact ⟨T, id, pa, slot, hty, h1, h2, Calls.callWith_builtin rfl (PySem.evalArgs_none (hm pins s1 σ H1 x [] v [] Q I1 r1 .nil q1))⟩
theorem pe_bm (pa : PlainAttrs T) (slot : Slot T name id) (hty : typeOf (.builtin id) = pure (.type "method_descriptor")) (hm : MtR X id r) (ho : PE X o to) (ha : PA X (e :: es) t)
    (hbase : attributeBase o name X.env (eval o X.env) = eval o X.env := by rfl)
    (hfew : ((backTo cpos (starEach (e :: es) X.env)).all (fun x => !x.1) && (backToKw cpos (keywordEach [] X.env)).all (fun x => x.1.isSome)
      && decide ((e :: es).length + ([] : List Keyword).length + (if ([] : List Keyword).isEmpty then 0 else 1) < 30)) = true := by rfl)
    (hline : (apos.endLine == cpos.line) = true := by rfl) (hs : starEach (e :: es) X.env = (false, eval e X.env) :: starEach es X.env := by rfl) (hplain : (backTo cpos (starEach es X.env)).any (·.1) = false := by rfl) :
    PE X (.Call (.Attribute o name apos) (e :: es) [] cpos) (tBM X.K T r to t) := by
  intro pins s σ H Q I h
  refine wpAny_Call_method_late hbase hfew hline rfl (thn (ho pins s σ H _ I h) fun v s1 ⟨x, H1, I1, r1, ty, q1⟩ => ?_)
  obtain ⟨h1, h2⟩ := tyV_is I1 r1 ty
  refine ⟨T, id, pa, slot, hty, h1, h2, ?_⟩
  have hA := ha cpos pins s1 σ H1 _ I1 q1
  rw [hs] at hA ⊢
  refine Calls.callWith_builtin (by show (false || (backTo cpos (starEach es X.env)).any (·.1)) = false; rw [hplain] <;> rfl) (Calls.evalArgs_plain ?_)
  exact thn hA fun us s2 ⟨vs, H2, I2, r2, q2⟩ => hm pins s2 σ H2 x vs v us Q I2 r1 r2 q2
end
def MtM (X : Cx) (id : String) (r : V → List V → Hp → VK → Prop) : Prop :=
  ∀ (pins : List (Addr × Obj)) (s : Shared) (σ : St) (H : Hp) (x : V) (xs : List V) (v : Value) (us : List Value) (Q : VK), Inv X pins σ H s → RelV x v → Vals xs us → r x xs H Q →
    wpAny (model X.prog X.w) X.A (call (.builtin id) (v :: us)) (EP X pins σ Q) X.xe s
theorem Vals.one : ∀ {x : V} {us : List Value}, Vals [x] us → ∃ u, us = [u] ∧ RelV x u
  | _, _, .cons r .nil => ⟨_, rfl, r⟩
theorem Vals.two : ∀ {x y : V} {us : List Value}, Vals [x, y] us → ∃ u v, us = [u, v] ∧ RelV x u ∧ RelV y v
  | _, _, _, .cons r (.cons q .nil) => ⟨_, _, rfl, r, q⟩
theorem Vals.zero : ∀ {us : List Value}, Vals [] us → us = []
  | _, .nil => rfl
theorem Vals.reverse {xs : List V} {us : List Value} (h : Vals xs us) : Vals xs.reverse us.reverse := by
  induction h with
  | nil => exact .nil
  | cons r t ih => rw [List.reverse_cons, List.reverse_cons]; exact Vals.append ih (.cons r .nil)
theorem Vals.rep {xs : List V} {us : List Value} (h : Vals xs us) : ∀ k : Nat, Vals (List.replicate k xs).flatten (List.replicate k us).flatten
  | 0 => .nil
  | k + 1 => by
    rw [List.replicate_succ, List.replicate_succ, List.flatten_cons, List.flatten_cons]
    exact Vals.append h (Vals.rep h k)
theorem foldl_rep (its : List Value) : ∀ (k : Nat) (acc : List Value),
    List.foldl (fun x1 x2 => x1 ++ x2) acc.toArray (List.replicate k its.toArray) = (acc ++ (List.replicate k its).flatten).toArray
  | 0, acc => by simp
  | k + 1, acc => by
    have e : acc.toArray ++ its.toArray = (acc ++ its).toArray := by simp
    have e2 : (acc ++ its) ++ (List.replicate k its).flatten = acc ++ (List.replicate (k + 1) its).flatten := by
      rw [List.replicate_succ, List.flatten_cons, List.append_assoc]
    rw [← e2, ← foldl_rep its k (acc ++ its), ← e, List.replicate_succ, List.foldl_cons]
section
variable {X : Cx} {pins : List (Addr × Obj)} {σ : St} {H : Hp} {s : Shared} {l b : Addr} {xs ys zs : List V}
theorem Inv.lset {its its' : List Value} {n : Nat} {f : Array Value → Array Value} {t' : Nat} (I : Inv X pins σ H s) (hH : H l = some (.lst xs))
    (e : s.heap.get? l = some { cls := .type "list", data := .seq its.toArray n }) (hf : f its.toArray = its'.toArray) (hv : Vals ys its') (hz : ys.length ≤ sizeLine) :
    Inv X pins σ (upd H l (.lst ys)) { s with heap := s.heap.update l (Obj.mapSeq f), toks := t' } := by
  have q := PySem.IsL.update e f
  rw [hf] at q
  refine I.write (x := l) (e := l) (by rw [hH]; exact trivial) (.inl rfl) (fun b' u hb hu => (Heap.get?_update_other s.heap (Obj.mapSeq f) (Ne.symm hb)).trans hu) ⟨_, q⟩ ?_
  exact ⟨hz, its', _, hv, q⟩
theorem Inv.lnew {its : List Value} {t' : Nat} (I : Inv X pins σ H s) (hv : Vals ys its) (hz : ys.length ≤ sizeLine) :
    Inv X pins σ (upd H s.heap.objs.size (.lst ys)) { s with heap := s.heap.push { cls := .type "list", data := .seq its.toArray }, toks := t' } :=
  I.laid (fun _ _ q => Heap.get?_push_of_some _ q) (Nat.le_refl _) ⟨hz, its, 0, hv, Heap.get?_push_size _ rfl⟩
theorem Inv.fresh (I : Inv X pins σ H s) : H s.heap.objs.size = none := I.hok.fresh (Nat.le_refl _)
theorem Inv.lstM (I : Inv X pins σ H s) (hH : H l = some (.lst xs)) : xs.length ≤ sizeLine ∧ ∃ (its : List Value) (n : Nat), Vals xs its ∧ xs.length = its.length ∧ s.heap.get? l = some { cls := .type "list", data := .seq its.toArray n } := by
  obtain ⟨z, its, n, r, e⟩ := I.hok l _ hH
  exact ⟨z, its, n, r, r.length, e⟩
theorem notLongL {n : Nat} (h : n ≤ sizeLine) : Builtin.List.listTooLong n = false := by
  unfold Builtin.List.listTooLong
  exact decide_eq_false (by omega)
end
section
variable {X : Cx}
def rAppend : V → List V → Hp → VK → Prop := fun x vs H Q => ∃ l xs y, x = .ref l ∧ vs = [y] ∧ H l = some (.lst xs) ∧ xs.length < sizeLine ∧ Q .non (upd H l (.lst (xs ++ [y])))
theorem mt_append : MtM X "list.append" rAppend := by
  intro pins s σ H x vs v us Q I rx rv h
  obtain ⟨l, xs, y, rfl, rfl, hH, hz, q⟩ := h
  cases rx
  obtain ⟨u, rfl, ru⟩ := rv.one
  obtain ⟨z, its, n, r, hl, e⟩ := I.lstM hH
  refine call_meets F.slot_list_append ⟨_, e, rfl⟩ F.entry_list_append (F.args_list_append_2 _ _) (PySem.list_append l its.toArray n u (by rw [List.size_toArray]; omega)) ⟨e, ?_⟩
  refine ⟨.non, _, I.lset (its' := its ++ [u]) hH e (by simp) (r.append (.cons ru .nil)) ?_, rfl, q⟩
  rw [List.length_append, List.length_singleton]
  omega
def rClear : V → List V → Hp → VK → Prop := fun x vs H Q => ∃ l xs, x = .ref l ∧ vs = [] ∧ H l = some (.lst xs) ∧ Q .non (upd H l (.lst []))
theorem mt_clear : MtM X "list.clear" rClear := by
  intro pins s σ H x vs v us Q I rx rv h
  obtain ⟨l, xs, rfl, rfl, hH, q⟩ := h
  cases rx
  have hus := rv.zero
  subst hus
  obtain ⟨z, its, n, r, hl, e⟩ := I.lstM hH
  refine call_meets F.slot_list_clear ⟨_, e, rfl⟩ F.entry_list_clear (F.args_list_clear_1 _) (AutoSeq1.list_clear_list_0 l its.toArray n (by rw [List.size_toArray]; omega)) ⟨e, ?_⟩
  exact ⟨.non, _, I.lset (its' := []) (ys := []) hH e rfl .nil (Nat.zero_le _), rfl, q⟩
def rCat : R2 := fun x y H Q => ∃ l b xs zs, x = .ref l ∧ y = .ref b ∧ H l = some (.lst xs) ∧ H b = some (.lst zs) ∧ xs.length + zs.length ≤ sizeLine ∧ ∀ p, H p = none → Q (.ref p) (upd H p (.lst (xs ++ zs)))
theorem op_cat : OpR X (binaryOp .Add) rCat := by
  intro pins s σ H x y v u Q I rx ry h
  obtain ⟨l, b, xs, zs, rfl, rfl, hH, hB, hz, q⟩ := h
  cases rx
  cases ry
  obtain ⟨z, its, n, r, hl, e⟩ := I.lstM hH
  obtain ⟨z2, its2, n2, r2, hl2, e2⟩ := I.lstM hB
  refine PySem.P.add_list e e2 ?_ (by rw [List.size_toArray, List.size_toArray]; omega)
  have ea : its.toArray ++ its2.toArray = (its ++ its2).toArray := by simp
  rw [ea]
  exact ⟨.ref _, _, I.lnew (t' := s.toks) (r.append r2) (by rw [List.length_append]; omega), rfl, q _ I.fresh⟩
end
section
variable {κ : Type} [DecidableEq κ]
def valV (kvs : List (κ × V)) (k : κ) : Option V := (kvs.find? fun kv => decide (kv.1 = k)).map (·.2)
def putK (kvs : List (κ × V)) (k : κ) (v : V) : List (κ × V) :=
  if (kvs.any fun kv => decide (kv.1 = k)) = true then kvs.map (fun kv => if kv.1 = k then (kv.1, v) else kv) else kvs ++ [(k, v)]
theorem valV_pos {p : κ × V} {r : List (κ × V)} {k : κ} (e : p.1 = k) : valV (p :: r) k = some p.2 := by simp [valV, List.find?_cons, e]
theorem valV_neg {p : κ × V} {r : List (κ × V)} {k : κ} (e : ¬ p.1 = k) : valV (p :: r) k = valV r k := by simp [valV, List.find?_cons, e]
theorem valV_any (k : κ) : ∀ kvs : List (κ × V), (kvs.any fun kv => decide (kv.1 = k)) = (valV kvs k).isSome
  | [] => rfl
  | p :: r => by
    rw [List.any_cons]
    by_cases e : p.1 = k
    · simp only [valV_pos e, decide_eq_true e, Bool.true_or, Option.isSome_some]
    · rw [valV_neg e, decide_eq_false e, Bool.false_or]; exact valV_any k r
theorem valV_map (k j : κ) (y : V) : ∀ kvs : List (κ × V), valV (kvs.map fun kv => if kv.1 = k then (kv.1, y) else kv) j = (valV kvs j).map fun x => if j = k then y else x
  | [] => rfl
  | p :: r => by
    have ih := valV_map k j y r
    rw [List.map_cons]
    by_cases h : p.1 = k
    · rw [if_pos h]
      by_cases e : p.1 = j
      · rw [valV_pos (p := (p.1, y)) e, valV_pos e, Option.map_some, if_pos (e.symm.trans h)]
      · rw [valV_neg (p := (p.1, y)) e, valV_neg e, ih]
    · rw [if_neg h]
      by_cases e : p.1 = j
      · rw [valV_pos (p := p) e, valV_pos e, Option.map_some, if_neg (fun z => h (e.trans z))]
      · rw [valV_neg (p := p) e, valV_neg e, ih]
theorem valV_snoc (k j : κ) (y : V) : ∀ kvs : List (κ × V), valV kvs k = none → valV (kvs ++ [(k, y)]) j = if j = k then some y else valV kvs j
  | [], _ => by
    by_cases e : k = j
    · rw [if_pos e.symm]; exact valV_pos (p := (k, y)) e
    · rw [if_neg (fun z => e z.symm)]; exact valV_neg (p := (k, y)) e
  | p :: r, hn => by
    rw [List.cons_append]
    have hk : ¬ p.1 = k := fun z => by rw [valV_pos z] at hn; cases hn
    rw [valV_neg hk] at hn
    have ih := valV_snoc k j y r hn
    by_cases e : p.1 = j
    · rw [valV_pos e, valV_pos e, if_neg (fun z => hk (e.trans z))]
    · rw [valV_neg e, valV_neg e, ih]
theorem valV_put (kvs : List (κ × V)) (k j : κ) (y : V) : valV (putK kvs k y) j = if j = k then some y else valV kvs j := by
  unfold putK
  by_cases a : (kvs.any fun kv => decide (kv.1 = k)) = true
  · rw [if_pos a, valV_map]
    rw [valV_any] at a
    by_cases e : j = k
    · obtain ⟨x, hx⟩ := Option.isSome_iff_exists.mp a
      rw [if_pos e, e, hx, Option.map_some, if_pos rfl]
    · rw [if_neg e]
      cases valV kvs j with
      | none => rfl
      | some x => rw [Option.map_some, if_neg e]
  · rw [if_neg a]
    refine valV_snoc k j y kvs ?_
    rw [valV_any] at a
    cases q : valV kvs k with
    | none => rfl
    | some x => rw [q] at a; exact (a rfl).elim
theorem length_putK (kvs : List (κ × V)) (k : κ) (v : V) : (putK kvs k v).length ≤ kvs.length + 1 := by
  unfold putK
  split
  · rw [List.length_map]; omega
  · rw [List.length_append, List.length_cons, List.length_nil]; omega
theorem RelO.isSome_eq {o : Option V} {u : Option Value} (r : RelO o u) : o.isSome = u.isSome := by
  cases o with
  | none => cases u with
    | none => rfl
    | some _ => exact (show False from r).elim
  | some _ => cases u with
    | none => exact (show False from r).elim
    | some _ => rfl
theorem RelO.getD {o : Option V} {u : Option Value} {d : V} {d' : Value} (r : RelO o u) (rd : RelV d d') : RelV (o.getD d) (u.getD d') := by
  cases o with
  | none => cases u with
    | none => exact rd
    | some _ => exact (show False from r).elim
  | some _ => cases u with
    | none => exact (show False from r).elim
    | some _ => exact r
theorem KV.val {kvs : List (κ × V)} {vs : List (κ × Value)} (r : KV kvs vs) (k : κ) : RelO (valV kvs k) (valueAt vs k) := by
  unfold KV at r
  induction r with
  | nil => exact True.intro
  | @cons p q ps qs h t ih =>
    obtain ⟨h1, h2⟩ := h
    by_cases e : p.1 = k
    · have e' : q.1 = k := h1.symm.trans e
      have b : valueAt (q :: qs) k = some q.2 := by simp [valueAt, List.find?_cons, e']
      rw [valV_pos e, b]; exact h2
    · have e' : ¬ q.1 = k := fun z => e (h1.trans z)
      have b : valueAt (q :: qs) k = valueAt qs k := by simp [valueAt, List.find?_cons, e']
      rw [valV_neg e, b]; exact ih
theorem KV.any {kvs : List (κ × V)} {vs : List (κ × Value)} (r : KV kvs vs) (k : κ) : (kvs.any fun kv => decide (kv.1 = k)) = vs.any fun kv => decide (kv.1 = k) := by
  unfold KV at r
  induction r with
  | nil => rfl
  | cons h t ih => rw [List.any_cons, List.any_cons, ih, h.1]
theorem KV.repl {kvs : List (κ × V)} {vs : List (κ × Value)} (r : KV kvs vs) (k : κ) {y : V} {u : Value} (ry : RelV y u) :
    KV (kvs.map fun kv => if kv.1 = k then (kv.1, y) else kv) (vs.map fun kv => if kv.1 = k then (kv.1, u) else kv) := by
  unfold KV at r ⊢
  induction r with
  | nil => exact .nil
  | @cons p q ps qs h t ih =>
    rw [List.map_cons, List.map_cons]
    refine .cons ?_ ih
    obtain ⟨h1, h2⟩ := h
    by_cases e : p.1 = k
    · rw [if_pos e, if_pos (h1.symm.trans e)]; exact ⟨h1, ry⟩
    · rw [if_neg e, if_neg (fun z => e (h1.trans z))]; exact ⟨h1, h2⟩
theorem KV.put {kvs : List (κ × V)} {vs : List (κ × Value)} (r : KV kvs vs) (k : κ) {y : V} {u : Value} (ry : RelV y u) : KV (putK kvs k y) (stored vs k u) := by
  unfold putK stored
  rw [r.any k]
  by_cases e : (vs.any fun kv => decide (kv.1 = k)) = true
  · rw [if_pos e, if_pos e]; exact r.repl k ry
  · rw [if_neg e, if_neg e]; exact Paired.snoc r ⟨rfl, ry⟩
theorem KV.keys {kvs : List (κ × V)} {vs : List (κ × Value)} (r : KV kvs vs) : kvs.map (·.1) = vs.map (·.1) := by
  unfold KV at r
  induction r with
  | nil => rfl
  | cons h t ih => rw [List.map_cons, List.map_cons, ih, h.1]
theorem KV.length {kvs : List (κ × V)} {vs : List (κ × Value)} (r : KV kvs vs) : kvs.length = vs.length := Paired.length r
end
theorem kV_is {P : Program} {w : World} {k : Key} {u : Value} (r : RelV (kV k) u) : (mixKind P w).is k u = true := by
  cases k with
  | inl i => obtain ⟨t, e⟩ := (show ∃ t, u = Value.int i t from r); subst e; exact mixKind_int P w i t
  | inr x => obtain ⟨t, e⟩ := (show ∃ t, u = Value.str x t from r); subst e; exact mixKind_str P w x t
theorem items_are {P : Program} {w : World} : ∀ {ks : List Key} {us : List Value}, Vals (ks.map kV) us → ItemsAre (mixKind P w) ks us
  | [], _, r => by rw [List.map_nil] at r; cases r; exact .nil
  | k :: ks, _, r => by
    rw [List.map_cons] at r
    cases r with
    | cons h t => exact .cons (kV_is h) (items_are t)
abbrev KT (H : Hp) : List (List Key × V) → List (List Key × Addr × Value) → Prop := Paired fun p q => p.1 = q.1 ∧ H q.2.1 = some (.tup (p.1.map kV)) ∧ RelV p.2 q.2.2
theorem KT.val {H : Hp} {kvs : List (List Key × V)} {xs : List (List Key × Addr × Value)} (r : KT H kvs xs) (k : List Key) : RelO (valV kvs k) ((atKey xs k).map (·.2)) := by
  induction r with
  | nil => exact True.intro
  | @cons p q ps qs h t ih =>
    obtain ⟨h1, _, h2⟩ := h
    by_cases e : p.1 = k
    · have e' : q.1 = k := h1.symm.trans e
      have b : atKey (q :: qs) k = some q.2 := by simp [atKey, List.find?_cons, e']
      rw [valV_pos e, b]; exact h2
    · have e' : ¬ q.1 = k := fun z => e (h1.trans z)
      have b : atKey (q :: qs) k = atKey qs k := by simp [atKey, List.find?_cons, e']
      rw [valV_neg e, b]; exact ih
theorem KT.repl {H : Hp} {kvs : List (List Key × V)} {xs : List (List Key × Addr × Value)} (r : KT H kvs xs) (k : List Key) {y : V} {u : Value} (ry : RelV y u) :
    KT H (kvs.map fun kv => if kv.1 = k then (kv.1, y) else kv) (xs.map (putAt k u)) := by
  induction r with
  | nil => exact .nil
  | @cons p q ps qs h t ih =>
    rw [List.map_cons, List.map_cons]
    refine .cons ?_ ih
    obtain ⟨h1, h2, h3⟩ := h
    unfold putAt
    by_cases e : p.1 = k
    · rw [if_pos e, if_pos (h1.symm.trans e)]; exact ⟨h1, h2, ry⟩
    · rw [if_neg e, if_neg (fun z => e (h1.trans z))]; exact ⟨h1, h2, h3⟩
theorem KT.put {H : Hp} {kvs : List (List Key × V)} {xs : List (List Key × Addr × Value)} (r : KT H kvs xs) (k : List Key) {b : Addr} {y : V} {u : Value} (hb : H b = some (.tup (k.map kV))) (ry : RelV y u) :
    KT H (putK kvs k y) (storedH xs k b u) := by
  have e : (kvs.any fun kv => decide (kv.1 = k)) = (atKey xs k).isSome := by
    rw [valV_any, (r.val k).isSome_eq, Option.isSome_map]
  unfold putK storedH
  rw [e]
  by_cases q : (atKey xs k).isSome = true
  · rw [if_pos q, if_pos q]; exact r.repl k ry
  · rw [if_neg q, if_neg q]; exact Paired.snoc r ⟨rfl, hb, ry⟩
theorem KT.keeps {H H' : Hp} {kvs : List (List Key × V)} {xs : List (List Key × Addr × Value)} (r : KT H kvs xs) (ht : ∀ b ys, H b = some (.tup ys) → H' b = some (.tup ys)) : KT H' kvs xs :=
  Paired.mapP r fun _ _ z => ⟨z.1, ht _ _ z.2.1, z.2.2⟩
section
variable {P : Program} {w : World} {H : Hp} {h : Heap} {a : Addr}
theorem rd_of {u : HO} (ok : HOk P w H h) (e : Rd H a u) : ObjOk P w H h a u := e.ok ok
theorem dk_rd {kvs : List (Key × V)} (ok : HOk P w H h) (e : Rd H a (.dK kvs)) : kvs.length ≤ sizeLine ∧ (a == sysModules) = false ∧ ∃ vs, KV kvs vs ∧ h.DictOf (mixKind P w) a vs :=
  show ObjOk P w H h a (.dK kvs) from rd_of ok e
theorem dk_of {kvs : List (Key × V)} (ok : HOk P w H h) (e : H a = some (.dK kvs)) : kvs.length ≤ sizeLine ∧ (a == sysModules) = false ∧ ∃ vs, KV kvs vs ∧ h.DictOf (mixKind P w) a vs := dk_rd ok (.inl e)
theorem key_of {ks : List Key} (ok : HOk P w H h) (e : H a = some (.tup (ks.map kV))) : (tupleKind (mixKind P w)).is h ks a := by
  obtain ⟨_, its, r, ⟨o, h1, h2, n, h3⟩, _⟩ := (show ObjOk P w H h a (.tup (ks.map kV)) from ok a _ e)
  exact ⟨o, its.toArray, n, h1, h2, h3, by simpa using items_are r⟩
theorem dt_rd {kvs : List (List Key × V)} (ok : HOk P w H h) (e : Rd H a (.dT kvs)) : kvs.length ≤ sizeLine ∧ (a == sysModules) = false ∧
    ∃ xs, KT H kvs xs ∧ h.DictOfH (tupleKind (mixKind P w)) a xs := by
  obtain ⟨z, y, xs, r, o, es, ep, h1, h2, h3, h4, h5⟩ := (show ObjOk P w H h a (.dT kvs) from rd_of ok e)
  refine ⟨z, y, xs, r, o, es, ep, h1, h2, h3, h4, fun x hx => ?_, h5⟩
  have all : ∀ {l : List (List Key × V)} {m : List (List Key × Addr × Value)}, KT H l m → ∀ x ∈ m, (tupleKind (mixKind P w)).is h x.1 x.2.1 := by
    intro l m q
    induction q with
    | nil => intro x hx; exact nomatch hx
    | @cons p q ps qs hq t ih =>
      intro x hx
      rcases List.mem_cons.mp hx with e | hx
      · subst e
        exact key_of ok (by rw [← hq.1]; exact hq.2.1)
      · exact ih x hx
  exact all r x hx
theorem dt_of {kvs : List (List Key × V)} (ok : HOk P w H h) (e : H a = some (.dT kvs)) : kvs.length ≤ sizeLine ∧ (a == sysModules) = false ∧
    ∃ xs, KT H kvs xs ∧ h.DictOfH (tupleKind (mixKind P w)) a xs := dt_rd ok (.inl e)
end
def DGet (H : Hp) (a : Addr) (y : V) (r : Option V) : Prop :=
  (∃ kvs k, Rd H a (.dK kvs) ∧ y = kV k ∧ r = valV kvs k) ∨ ∃ kvs k b, Rd H a (.dT kvs) ∧ y = .ref b ∧ H b = some (.tup (k.map kV)) ∧ r = valV kvs k
def DPut (H : Hp) (a : Addr) (y v : V) (H' : Hp) : Prop :=
  (∃ kvs k, H a = some (.dK kvs) ∧ y = kV k ∧ kvs.length < sizeLine ∧ H' = upd H a (.dK (putK kvs k v))) ∨
  ∃ kvs k b, H a = some (.dT kvs) ∧ y = .ref b ∧ H b = some (.tup (k.map kV)) ∧ kvs.length < sizeLine ∧ H' = upd H a (.dT (putK kvs k v))
theorem DGet.k {H : Hp} {a : Addr} {kvs : List (Key × V)} {k : Key} (e : H a = some (.dK kvs)) : DGet H a (kV k) (valV kvs k) := .inl ⟨kvs, k, .inl e, rfl, rfl⟩
theorem DGet.t {H : Hp} {a b : Addr} {kvs : List (List Key × V)} {k : List Key} (e : H a = some (.dT kvs)) (eb : H b = some (.tup (k.map kV))) : DGet H a (.ref b) (valV kvs k) := .inr ⟨kvs, k, b, .inl e, rfl, eb, rfl⟩
theorem DPut.k {H : Hp} {a : Addr} {kvs : List (Key × V)} {k : Key} {v : V} (e : H a = some (.dK kvs)) (hl : kvs.length < sizeLine) : DPut H a (kV k) v (upd H a (.dK (putK kvs k v))) := .inl ⟨kvs, k, e, rfl, hl, rfl⟩
theorem DPut.t {H : Hp} {a b : Addr} {kvs : List (List Key × V)} {k : List Key} {v : V} (e : H a = some (.dT kvs)) (eb : H b = some (.tup (k.map kV))) (hl : kvs.length < sizeLine) :
    DPut H a (.ref b) v (upd H a (.dT (putK kvs k v))) := .inr ⟨kvs, k, b, e, rfl, eb, hl, rfl⟩
section
variable {X : Cx} {pins : List (Addr × Obj)} {σ : St} {H : Hp} {s : Shared} {a : Addr} {y v : V} {u r : Value} {o : Option V} {A : Around} {E : Value → Shared → Prop}
theorem Inv.big (I : Inv X pins σ H s) : sysModules < s.heap.objs.size := by
  have h : mainGlobals < s.heap.objs.size := (I.mod.glob.keeps I.bk).lt
  exact Nat.lt_trans (by decide) h
theorem d_getItem {Q : Value → Shared → Prop} (hu : A.units + 1 < cLine) (I : Inv X pins σ H s) (g : DGet H a y (some v)) (ry : RelV y u) (h : ∀ w' s', Inv X pins σ H s' → RelV v w' → Q w' s') :
    wpAny (model X.prog X.w) A (getItem (.ref a) u) Q E s := by
  rcases g with ⟨kvs, k, e, ey, l⟩ | ⟨kvs, k, b, e, ey, eb, l⟩
  · subst ey
    obtain ⟨z, hd, vs, rel, dd⟩ := dk_rd I.hok e
    obtain ⟨w', hw, rw'⟩ := RelO.some_of (v := v) (o := valueAt vs k) (by rw [l]; exact rel.val k)
    exact wpAny_getItem_of (kV_is ry) dd.mapOf hw (h w' _ (I.tok _) rw')
  · subst ey
    cases (show u = Value.ref b from ry)
    obtain ⟨z, hd, xs, rel, dd⟩ := dt_rd I.hok e
    obtain ⟨w', hw, rw'⟩ := RelO.some_of (v := v) (o := (atKey xs k).map (·.2)) (by rw [l]; exact rel.val k)
    obtain ⟨p, hp, hp2⟩ := Option.map_eq_some_iff.mp hw
    refine wpAny_getItem_heap (tupleKind_room_in1 hu) (key_of I.hok eb) dd hp ?_
    rw [hp2]
    exact h w' _ (I.tok _) rw'
theorem d_write {h' : Heap} {t' : Nat} {ob : HO} (I : Inv X pins σ H s) (mu : Mut (H a)) (hs : Heap.SameBut a s.heap h') (he : ∃ q, h'.get? a = some q) (new : ObjOk X.prog X.w (upd H a ob) h' a ob) :
    Inv X pins σ (upd H a ob) { s with heap := h', toks := t' } :=
  I.write (x := a) (e := a) mu (.inl rfl) (fun b q hb z => (hs.2 b hb).trans z) he new
theorem dk_new {P : Program} {w : World} {H' : Hp} {h' : Heap} {kvs : List (Key × V)} {vs : List (Key × Value)} (z : kvs.length ≤ sizeLine) (hd : (a == sysModules) = false) (rel : KV kvs vs) (dd : h'.DictOf (mixKind P w) a vs) :
    ObjOk P w H' h' a (.dK kvs) := ⟨z, hd, vs, rel, dd⟩
theorem d_setItem {H' : Hp} {Q : Unit → Shared → Prop} (hu : A.units + 1 < cLine) (I : Inv X pins σ H s) (g : DPut H a y v H') (ry : RelV y u) (rv : RelV v r) (h : ∀ s', Inv X pins σ H' s' → Q () s') :
    wpAny (model X.prog X.w) A (setItem (.ref a) u r) Q E s := by
  rcases g with ⟨kvs, k, e, ey, l, eH⟩ | ⟨kvs, k, b, e, ey, eb, l, eH⟩
  · subst ey eH
    obtain ⟨z, hd, vs, rel, dd⟩ := dk_of I.hok e
    have hz : vs.length ≤ sizeLine := by rw [← rel.length]; exact z
    have hl : (putK kvs k v).length ≤ sizeLine := by have := length_putK kvs k v; omega
    refine wpAny_setItem_pairs (hsz := hz) (kV_is ry) dd fun h' dd' hs => h _ ?_
    have he : ∃ q, h'.get? a = some q := let ⟨q, _, _, hq, _⟩ := dd'; ⟨q, hq⟩
    exact d_write I (by rw [e]; exact True.intro) hs he (dk_new hl hd (rel.put k rv) dd')
  · subst ey eH
    cases (show u = Value.ref b from ry)
    obtain ⟨z, hd, xs, rel, dd⟩ := dt_of I.hok e
    have hz : xs.length ≤ sizeLine := by rw [← Paired.length rel]; exact z
    have hl : (putK kvs k v).length ≤ sizeLine := by have := length_putK kvs k v; omega
    refine wpAny_setItem_heap (hsz := hz) (tupleKind_room_in1 hu) (key_of I.hok eb) dd fun h' dd' hs => h _ ?_
    obtain ⟨q, es, ep, hq, h2, h3, h4, _, h5⟩ := dd'
    refine d_write I (by rw [e]; exact True.intro) hs ⟨q, hq⟩ ⟨hl, hd, _, (rel.put k eb rv).keeps fun c ys ec => ?_, q, es, ep, hq, h2, h3, h4, h5⟩
    rw [upd_ne (ne_of ec e (fun z => nomatch z))]
    exact ec
end
def NoSl (i : Expr) : Prop := ∀ ov iv, subscripted i false ov iv = operate [ov, iv] (getItem ov iv)
theorem subD_of {prog : Program} {w : World} {A : Around} {E : Value → Shared → Prop} {s : Shared} {env : Env} {value slice : Expr} {pos : Pos} {T id : String} {Q : Value → Shared → Prop}
    (hl : typeLookup (.type T) "__getitem__" = pure (some (.builtin id))) (hs : NoSl slice)
    (h : wpAny (model prog w) A (eval value env) (fun o s₁ => wpAny (model prog w) A (eval slice env) (fun i s₂ => s₂.TypeIs o T ∧ wpAny (model prog w) A (getItem o i) Q E s₂) E s₁) E s) :
    wpAny (model prog w) A (eval (.Subscript value slice pos) env) Q E s := by
  refine Subscript_ (wpAny_mono h (fun o s₁ h₁ => wpAny_mono h₁ (fun i s₂ h₂ => ?_) fun _ _ x => x) fun _ _ x => x)
  obtain ⟨hT, h₂⟩ := h₂
  unfold subscriptTail
  refine wpAny_bind ?_
  rw [getitemInPython_of_ne hT.not_modules]
  refine wpAny_bind (wpAny_specialOf hT hl ?_)
  have fin : wpAny (model prog w) A (subscripted slice false o i) (fun r s₃ => wpAny (model prog w) A (letTemporaryGo value o r >>= fun _ => pure r) Q E s₃) E s₂ := by
    rw [hs o i]
    exact wpAny_operating (wpAny_mono h₂ (fun r s₃ h₃ => wpAny_bind (wpAny_letTemporaryGo (wpAny_pure h₃))) fun _ _ x => x)
  first
    | exact wpAny_pure (wpAny_bind fin)
    | exact wpAny_bind (wpAny_pure (wpAny_bind fin))
    | exact wpAny_bind fin
theorem dict_typeIs {X : Cx} {pins : List (Addr × Obj)} {σ : St} {H : Hp} {s : Shared} {a : Addr} {y : V} {o : Option V} (I : Inv X pins σ H s) (g : DGet H a y o) : s.TypeIs (.ref a) "dict" := by
  rcases g with ⟨kvs, k, e, _, _⟩ | ⟨kvs, k, b, e, _, _, _⟩
  · obtain ⟨_, _, vs, _, dd⟩ := dk_rd I.hok e
    exact dd.typeIs
  · obtain ⟨_, _, xs, _, dd⟩ := dt_rd I.hok e
    exact dd.typeIs
def tDGet (td ty : TE) : TE := fun σ H Q => td σ H fun x H1 => ty σ H1 fun y H2 => ∃ a v, x = .ref a ∧ DGet H2 a y (some v) ∧ Q v H2
def sDPut (td ty tv : TE) : TS := fun D σ H => tv σ H fun v H1 => td σ H1 fun x H2 => ty σ H2 fun y H3 => ∃ a H4, x = .ref a ∧ DPut H3 a y v H4 ∧ D.nx σ H4
section
variable {X : Cx} {o i e value : Expr} {pos pos' tpos : Pos} {td ty tv : TE}
theorem pe_dget (hu : X.A.units + 1 < cLine) (ho : PE X o td) (hi : PE X i ty) (hs : NoSl i) : PE X (.Subscript o i pos) (tDGet td ty) := by
  intro pins s σ H Q I h
  refine subD_of PySem.F.slot_dict_getitem.lookup hs (thn (ho pins s σ H _ I h) fun u s1 ⟨x, H1, I1, rx, q1⟩ => thn (hi pins s1 σ H1 _ I1 q1) fun iv s2 ⟨y, H2, I2, ry, a, v, ex, g, q2⟩ => ?_)
  subst ex
  obtain rfl : u = Value.ref a := rx
  exact ⟨dict_typeIs I2 g, d_getItem hu I2 g ry fun w' s3 I3 rw' => ⟨v, H2, I3, rw', q2⟩⟩
theorem ps_dput (hu : X.A.units + 1 < cLine) (ho : PE X o td) (hi : PE X i ty) (hv : PE X value tv) (hs : swapsWith value (some (.Subscript o i pos')) pos.line X.env = pure false) :
    PS X (.Assign [.Subscript o i pos'] value pos) (sDPut td ty tv) := by
  intro pins s σ H D I h
  refine wpAny_Assign_Subscript (thn (hv pins s σ H _ I h) fun r s1 ⟨v, H1, I1, rv, q1⟩ => thn (ho pins s1 σ H1 _ I1 q1) fun u s2 ⟨x, H2, I2, rx, q2⟩ => thn (hi pins s2 σ H2 _ I2 q2) fun iv s3 ⟨y, H3, I3, ry, a, H4, ex, g, q3⟩ => ?_) hs
  subst ex
  obtain rfl : u = Value.ref a := rx
  exact d_setItem hu I3 g ry rv fun s4 I4 => ⟨σ, H4, I4, q3⟩
end
theorem dk_empty {P : Program} {w : World} {H : Hp} (h : Heap) (hb : sysModules < h.objs.size) : ObjOk P w H (h.push { cls := .type "dict", data := .dict #[] }) h.objs.size (.dK []) :=
  ⟨Nat.zero_le _, beq_eq_false_iff_ne.mpr (Ne.symm (Nat.ne_of_lt hb)), [], .nil, Heap.DictOf.new h⟩
theorem dt_empty {P : Program} {w : World} {H : Hp} (h : Heap) (hb : sysModules < h.objs.size) : ObjOk P w H (h.push { cls := .type "dict", data := .dict #[] }) h.objs.size (.dT []) :=
  ⟨Nat.zero_le _, beq_eq_false_iff_ne.mpr (Ne.symm (Nat.ne_of_lt hb)), [], .nil, _, #[], 0, Heap.get?_push_size _ rfl, ⟨rfl, rfl, rfl⟩, rfl, rfl, List.nodup_nil⟩
def tDNewK : TE := fun _ H Q => ∀ p, H p = none → Q (.ref p) (upd H p (.dK []))
section
variable {X : Cx} {pos : Pos}
theorem pe_dnewK : PE X (.Dict [] [] pos) tDNewK := fun pins s σ H Q I h =>
  wpAny_Dict_empty ⟨.ref s.heap.objs.size, _, I.laid (a := s.heap.objs.size) (o := .dK []) (t' := s.toks) (fun _ _ q => Heap.get?_push_of_some _ q) (Nat.le_refl _) (dk_empty s.heap I.big), rfl, h _ (I.hok.fresh (Nat.le_refl _))⟩
end
def tPairs : List (TE × TE) → St → Hp → (List (V × V) → Hp → Prop) → Prop
  | [], _, H, Q => Q [] H
  | (tk, tv) :: r, σ, H, Q => tk σ H fun x H1 => tv σ H1 fun y H2 => tPairs r σ H2 fun ps H3 => Q ((x, y) :: ps) H3
abbrev VV : List (V × V) → List (Value × Value) → Prop := Paired fun p q => RelV p.1 q.1 ∧ RelV p.2 q.2
def PPs (X : Cx) (pos : Pos) (keys : List (Option Expr)) (values : List Expr) (trs : List (TE × TE)) : Prop :=
  ∀ (pins : List (Addr × Obj)) (s : Shared) (σ : St) (H : Hp) (Q : List (V × V) → Hp → Prop), Inv X pins σ H s → tPairs trs σ H Q →
    wpAny (model X.prog X.w) X.A (evalPairs (pairTrees keys values X.env pos)) (fun vs s' => ∃ ps H', Inv X pins σ H' s' ∧ VV ps vs ∧ Q ps H') X.xe s
theorem pps_nil {X : Cx} {pos : Pos} : PPs X pos [] [] [] := fun pins s σ H Q I h => pairTrees_nil_walk ⟨[], H, I, .nil, h⟩
theorem pps_cons {X : Cx} {pos : Pos} {k v : Expr} {ks : List (Option Expr)} {vs : List Expr} {tk tv : TE} {trs : List (TE × TE)} (hk : PE X k tk) (hv : PE X v tv) (hr : PPs X pos ks vs trs) :
    PPs X pos (some k :: ks) (v :: vs) ((tk, tv) :: trs) := fun pins s σ H Q I h =>
  pairTrees_cons_walk (thn (hk pins s σ H _ I h) fun u s1 ⟨x, H1, I1, rx, q1⟩ => thn (hv pins s1 σ H1 _ I1 q1) fun w2 s2 ⟨y, H2, I2, ry, q2⟩ =>
    thn (hr pins s2 σ H2 _ I2 q2) fun ws s3 ⟨ps, H3, I3, rel, q3⟩ => ⟨(x, y) :: ps, H3, I3, .cons ⟨rx, ry⟩ rel, q3⟩)
structure M1 (X : Cx) (o : Expr) (m : Str) (apos : Pos) (e : Expr) (cpos : Pos) : Prop where
  base : attributeBase o m X.env (eval o X.env) = eval o X.env
  few : ((backTo cpos (starEach [e] X.env)).all (fun x => !x.1) && (backToKw cpos (keywordEach [] X.env)).all (fun x => x.1.isSome)
    && decide (([e] : List Expr).length + ([] : List Keyword).length + (if ([] : List Keyword).isEmpty then 0 else 1) < 30)) = true
  line : (apos.endLine == cpos.line) = true
  trees : backTo cpos (starEach [e] X.env) = [(false, eval e X.env)]
structure M2 (X : Cx) (o : Expr) (m : Str) (apos : Pos) (e f : Expr) (cpos : Pos) : Prop where
  base : attributeBase o m X.env (eval o X.env) = eval o X.env
  few : ((backTo cpos (starEach [e, f] X.env)).all (fun x => !x.1) && (backToKw cpos (keywordEach [] X.env)).all (fun x => x.1.isSome)
    && decide (([e, f] : List Expr).length + ([] : List Keyword).length + (if ([] : List Keyword).isEmpty then 0 else 1) < 30)) = true
  line : (apos.endLine == cpos.line) = true
  trees : backTo cpos (starEach [e, f] X.env) = [(false, eval e X.env), (false, eval f X.env)]
end L2
namespace Att
open PySem PySem.W PySem.Calls PyProof.Rows
theorem ints_of_wellAll {P : Params} {h : Heap} : ∀ (ns : List Int) (vs : List Value), WellAll P h vs (ns.map WData.int) → IntsAre vs ns := by
  intro ns
  induction ns with
  | nil =>
    intro vs w
    rw [List.map_nil] at w
    cases w
    exact .nil
  | cons n ns ih =>
    intro vs w
    rw [List.map_cons] at w
    cases w with
    | cons a b =>
      cases a
      exact .cons _ _ (ih _ b)
theorem script_of {l : OpenLaw} {n : Nat} (hn : l.most = some n) {P : Params} {h : Heap} {args : List WData} {vals : List Value}
    (hpre : l.row.toRowW.claim.pre args = true) (hwl : WellAll P h vals args) :
    ∃ a vs ns, vals = [Value.ref a] ∧ args = [WData.list (ns.map WData.int)] ∧ h.get? a = some { cls := .type "list", data := .seq vs.toArray } ∧ IntsAre vs ns ∧ ns.length ≤ n := by
  have hsh : WShape.hasAll [] args [.list .int] = true := (pre_splitW hpre).1
  have hc : l.pre.holds [] { args := args } = true := (pre_splitW hpre).2
  obtain ⟨d, r, rfl, h1, h2⟩ := hasAllW_cons hsh
  obtain rfl := hasAllW_nil h2
  obtain ⟨xs, rfl, h3⟩ := hasW_list h1
  obtain ⟨ns, rfl⟩ := items_int h3
  have hlen : ns.length ≤ n := by
    unfold OpenLaw.pre at hc
    have h4 : (WTm.not (.lt (.lit (.int (n : Int))) (.len (.arg 0)))).holds [] { args := [.list (ns.map .int)] } = true := by
      have h4 := (holds_andW hc).1
      rw [hn] at h4
      exact h4
    have h5 := condW_of h4 (w_not (w_lt w_lit (w_len_list (w_arg rfl))))
    rw [List.length_map] at h5
    refine Nat.le_of_not_lt fun q => ?_
    have q' : (n : Int) < ((ns.length : Nat) : Int) := by omega
    first
      | (rw [decide_eq_true q'] at h5; exact absurd h5 (by decide))
      | (simp at h5; omega)
  cases hwl with
  | cons w1 w2 =>
    cases w2
    cases w1 with
    | list ho hall => exact ⟨_, _, ns, rfl, rfl, ho, ints_of_wellAll ns _ hall, hlen⟩
theorem post_true (l : OpenLaw) (args : List WData) : l.row.toRowW.claim.post args (.bool true) args = true :=
  postW_of (r := l.row.toRowW) (X := (true == true))
    (show WShape.has [] (.bool true) .bool = true by first | rfl | decide | simp [WShape.has, WShape.arms, WShape.armsAll])
    (show (WTm.eq .res (.lit (.bool true))).value [] { args := args, res := some (.bool true), after := args } = some (.bool (true == true)) from w_eq_bool (w_res rfl) w_lit) rfl
theorem attach_call {l : OpenLaw} {n : Nat} {q : Program} {loose : List Str} {XP : (Str → Option Value) → Heap → Prop} {YP : World → Heap → Prop} {d : DefRec}
    (hn : l.most = some n) (hdf : d.params.defaults = [])
    (call : ∀ (w : World) (s₀ s₁ : Shared) (mg mb : Str → Option Value) (fa : Addr) (o : Obj) (pm cd doc : Value) (a : Addr) (vs : List Value) (ns : List Int),
      Ground q loose [] XP w s₀ mg mb s₁.heap → YP w s₁.heap →
      s₁.heap.get? fa = some o → o.data = .func (docDef d.name d.params d.body d.scope pm cd doc) → s₁.heap.CodeRec cd d.name → mg d.name = some (.ref fa) →
      s₁.heap.get? a = some { cls := .type "list", data := .seq vs.toArray } → IntsAre vs ns → ns.length ≤ n → s₁.gens = #[] →
      codeAny (model l.prog w) callerA (.call (.ref fa) ⟨[.ref a], []⟩) (fun r s' => r = .ok (.ret (.bool true)) ∧ OldK s₁.heap s'.heap ∧ s'.os = s₁.os ∧ AllBare s'.gens) s₁) :
    WalkO q loose XP YP l.row.toRowW d [] (fun f vs => PySem.call f vs) := by
  intro w s₀ s₁ mg mb G Y fa o pm cd doc dV kV ho hd hcd hD hmg hg args vals as hpre hlay hrd hwl hlo
  obtain rfl : dV = .none := Dflts.none hD hdf
  obtain rfl : kV = .none := Dflts.noKw hD
  obtain ⟨a, vs, ns, rfl, rfl, hobj, hints, hlen⟩ := script_of hn hpre hwl
  refine enter_call (codeAny_mono (call w s₀ s₁ mg mb fa o pm cd doc a vs ns G Y ho (fd_plain hd) hcd hmg hobj hints hlen hg) fun r s' hq => ?_)
  obtain ⟨rfl, h2, h3, h4⟩ := hq
  exact ⟨.inl ⟨.bool true, .bool true, [], rfl, fun _ => rfl, .bool true, post_true l _, fun _ => ⟨List.Pairwise.nil, fun _ hm => (nomatch hm)⟩⟩, h2, h3, h4⟩
section
variable {prog : Program} {w : World} {A : Around} {E : Value → Shared → Prop} {s : Shared} {K : Frag}
def ledger (h : Heap) (L d : Addr) : List (Addr × Obj) := (List.range h.objs.size).filterMap fun a => if a = L ∨ a = d then none else (h.get? a).map fun o => (a, o)
end
end Att
namespace L2
open PySem PySem.Spec PyProof.Rows
theorem vals_ints : ∀ {vs : List Value} {ns : List Int}, IntsAre vs ns → Vals (ns.map V.int) vs
  | _, _, .nil => .nil
  | _, _, .cons n t h => .cons ⟨t, rfl⟩ (vals_ints h)
def Only (H : Hp) : Prop := ∀ b, H b = none ∨ ∃ o xs, H b = some (.frz o (.lst xs))
theorem law_call {P : Program} {w : World} {K : PySem.W.Frag} {mg mb : Str → Option Value} {CX : CXT} {k : Nat} {fa a : Addr} {fd : FuncData} {x : Str} {sp : Sp} {s₁ : Shared} {vs : List Value} {ns : List Int}
    (KX : K.In s₁.heap) (hns : s₁.heap.Ns mainGlobals mg) (hb : s₁.heap.Ns builtinsNs mb) (hbb : ∀ x : Str, x ≠ "__name__" → mb x = bootBuiltins x) (hlim : s₁.heap.NoLimit) (hbm : ∃ bm ob, mg "__builtins__" = some (.ref bm) ∧ bm ≠ builtinsNs ∧ s₁.heap.get? bm = some ob ∧ ob.cls = .type "module" ∧ ob.dict = some builtinsNs ∧ ob.data = .plain) (hg : s₁.gens = #[])
    (ha : s₁.heap.get? a = some { cls := .type "list", data := .seq vs.toArray }) (hi : IntsAre vs ns) (hl : ns.length ≤ sizeLine) (hr : Room k callerA)
    (F : ∀ base : Heap, K.In base → base.Ns mainGlobals mg → FnOk P w K mg base CX k fa fd [x] sp) (hbind : ∀ (s : Shared) (u : Value), BindsTo s fd ⟨[u], []⟩ [(x, u)])
    (hsp : ∀ H : Hp, Only H → SqL K H a (ns.map V.int) → sp [.ref a] H (fun v _ => v = .bl true) fun _ _ _ => False)
    (hCX : ∀ H e s', CX [] H s₁ (fun _ _ _ => False) e s' → False) :
    codeAny (model P w) callerA (.call (.ref fa) ⟨[.ref a], []⟩) (fun r s' => r = .ok (.ret (.bool true)) ∧ OldK s₁.heap s'.heap ∧ s'.os = s₁.os ∧ AllBare s'.gens) s₁ := by
  have rv := vals_ints hi
  have lenV := hi.length
  have core : ∀ H : Hp, Only H → SqL K H a (ns.map V.int) → HOk P w H s₁.heap → (∀ b, H b ≠ none → b = a) → (H a ≠ none → K.lookup a = none) →
      codeAny (model P w) callerA (.call (.ref fa) ⟨[.ref a], []⟩) (fun r s' => r = .ok (.ret (.bool true)) ∧ OldK s₁.heap s'.heap ∧ s'.os = s₁.os ∧ AllBare s'.gens) s₁ := by
    intro H hO hS hok hA hK
    have base_of : ∀ {b : Addr} {o : Obj}, s₁.heap.get? b = some o → H b = none → (hidT s₁.heap H).get? b = some o := fun e n => hidT_get e n
    have noA : ∀ {b : Addr} {o : Obj} {es : Array DictEntry} {ep : Nat}, s₁.heap.get? b = some o → o.data = .dict es ep → H b = none := fun {b o es ep} e d => by
      cases q : H b with
      | none => rfl
      | some u =>
        have e' : b = a := hA b (by rw [q]; simp)
        subst e'
        rw [ha] at e; cases e
        have d' : Data.seq vs.toArray _ = Data.dict es ep := d
        cases d'
    have nsK : ∀ {b : Addr} {m : Str → Option Value}, s₁.heap.Ns b m → (hidT s₁.heap H).Ns b m := fun {b m} ⟨o, es, ep, e, d, r⟩ => ⟨o, es, ep, base_of e (noA e d), d, r⟩
    have hKb : K.In (hidT s₁.heap H) := fun b o e => base_of (KX b o e) (by
      cases q : H b with
      | none => rfl
      | some u =>
        have e' : b = a := hA b (by rw [q]; simp)
        subst e'
        rw [hK (by rw [q]; simp)] at e; cases e)
    have hM : Mod K mg (hidT s₁.heap H) := ⟨hKb, nsK hns, ⟨mb, nsK hb, hbb⟩, let ⟨mc, h1, h2⟩ := hlim; ⟨mc, nsK h1, h2⟩, by
      obtain ⟨bm, ob, b1, b2, b3, b4, b5⟩ := hbm
      refine ⟨bm, ob, b1, b2, base_of b3 ?_, b4, b5⟩
      cases q : H bm with
      | none => rfl
      | some u =>
        have e' : bm = a := hA bm (by rw [q]; simp)
        subst e'
        rw [ha] at b3
        cases b3
        injection b4 with b4
        exact absurd b4 (by decide)⟩
    have e0 : Env0 P w K mg (hidT s₁.heap H) callerA [] s₁ H := ⟨rfl, hM, fun b o e => of_hidT e, Nat.le_of_eq (hidT_size _ _), trivial, fun b hb => absurd (show b ∈ ([] : List Addr) from hb) (by simp), hok, .of_eq hg⟩
    refine codeAny_mono ((F _ hKb (nsK hns)).run callerA [] s₁ H ⟨[.ref a], []⟩ [.ref a] [.ref a] _ _ hr e0 (hbind s₁ (.ref a)) (.cons rfl .nil) (hsp H hO hS)) fun r s' h => ?_
    cases r with
    | error e => exact (hCX H e s' h).elim
    | ok fl =>
      cases fl with
      | next => exact False.elim h
      | brk => exact False.elim h
      | cont => exact False.elim h
      | ret u =>
        obtain ⟨v, H', os, bare, un, hok', r', q⟩ := h
        have q' : v = .bl true := q
        subst q'
        obtain rfl : u = Value.bool true := r'
        refine ⟨rfl, OldK.of_keep fun b o e => ?_, os, bare⟩
        cases q : H b with
        | none => exact un.keep b o e q (by intro z; exact absurd (show b ∈ ([] : List Addr) from z) (by simp)) (by simp)
        | some u =>
          rcases hO b with z | ⟨ob, xs, z⟩
          · rw [q] at z; cases z
          · have z2 := un.frzs b ob _ z
            obtain ⟨e1, _⟩ := hok b _ z
            obtain ⟨e2, _⟩ := hok' b _ z2
            rw [e] at e1; cases e1
            exact e2
  cases hk : K.lookup a with
  | some o =>
    have e := KX a o hk
    rw [ha] at e
    cases e
    refine core (fun _ => none) (fun _ => .inl rfl) (.inr ⟨_, vs.toArray, _, hk, rfl, rfl, rfl, by rw [List.size_toArray, lenV]; exact hl, by simpa using rv⟩) (fun b u z => by have z' : (none : Option HO) = some u := z; cases z') (fun b z => absurd rfl z) fun z => absurd rfl z
  | none =>
    refine core (fun b => if b = a then some (.frz { cls := .type "list", data := .seq vs.toArray } (.lst (ns.map V.int))) else none) (fun b => ?_) (.inl (.inr ⟨{ cls := .type "list", data := .seq vs.toArray }, if_pos rfl⟩)) (fun b u z => ?_) (fun b z => ?_) fun _ => hk
    · by_cases hb : b = a
      · exact .inr ⟨_, _, if_pos hb⟩
      · exact .inl (if_neg hb)
    · by_cases hb : b = a
      · have z' := (if_pos hb).symm.trans z
        cases z'
        subst hb
        exact ⟨ha, by rw [List.length_map]; exact hl, vs, _, rv, ha⟩
      · have z' := (if_neg hb).symm.trans z
        cases z'
    · by_cases hb : b = a
      · exact hb
      · exact absurd (if_neg hb) z
abbrev KOf {K : PySem.W.Frag} {h : Heap} (_ : K.In h) : PySem.W.Frag := K
theorem walk_of {l : PySem.W.OpenLaw} {n k : Nat} {q : Program} {loose : List Str} {XP : (Str → Option Value) → Heap → Prop} {YP : World → Heap → Prop} {d : DefRec} {K : Params → PySem.W.Frag} {CX : World → CXT} {sp : World → Sp} {x : Str}
    (hn : l.most = some n) (hn2 : n ≤ sizeLine) (hdf : d.params.defaults = []) (hr : Room k callerA)
    (hY : ∀ (w : World) (h : Heap), YP w h → (K w.params).In h)
    (F : ∀ (w : World) (mg : Str → Option Value) (fa : Addr) (h : Heap), (K w.params).In h → h.Ns mainGlobals mg → mg d.name = some (.ref fa) →
      ∃ fd : FuncData, (∀ (s : Shared) (u : Value), BindsTo s fd ⟨[u], []⟩ [(x, u)]) ∧
        ∀ base : Heap, (K w.params).In base → base.Ns mainGlobals mg → FnOk l.prog w (K w.params) mg base (CX w) k fa fd [x] (sp w))
    (hsp : ∀ (w : World) (H : Hp) (a : Addr) (ns : List Int), ns.length ≤ n → Only H → SqL (K w.params) H a (ns.map V.int) → sp w [.ref a] H (fun v _ => v = .bl true) fun _ _ _ => False)
    (hCX : ∀ (w : World) (H : Hp) (s : Shared) (e : Value) (s' : Shared), CX w [] H s (fun _ _ _ => False) e s' → False) :
    PySem.W.WalkO q loose XP YP l.row.toRowW d [] (fun f vs => PySem.call f vs) := by
  refine Att.attach_call hn hdf fun w s₀ s₁ mg mb fa o pm cd doc a vs ns G Y ho hd hcd hmg hobj hints hlen hg => ?_
  have KX := hY w _ Y
  obtain ⟨fd, hb, hF⟩ := F w mg fa _ KX G.T.g hmg
  exact law_call KX G.T.g G.T.b G.T.builtins G.T.nolimit G.T.bmain hg hobj hints (Nat.le_trans hlen hn2) hr hF hb (fun H hO hS => hsp w H a ns hlen hO hS) fun H e s' => hCX w H s₁ e s'
def inClass (s : Stmt) (j : Nat) : Stmt := match s with
  | .ClassDef _ _ _ body _ _ _ _ _ _ _ => body.getD j (.Pass ⟨0, 0, 0, 0⟩)
  | _ => .Pass ⟨0, 0, 0, 0⟩
def defArgs (s : Stmt) : Arguments := match s with
  | .FunctionDef _ a _ _ _ _ _ _ _ _ => a
  | _ => { posonlyargs := [], args := [], vararg := none, kwonlyargs := [], kw_defaults := [], kwarg := none, defaults := [] }
def defBody (s : Stmt) : List Stmt := match s with
  | .FunctionDef _ _ b _ _ _ _ _ _ _ => b
  | _ => []
def defScope (s : Stmt) : Scope := match s with
  | .FunctionDef _ _ _ _ _ _ sc _ _ _ => sc
  | _ => { kind := .function, names := [], isGenerator := false, isCoroutine := false }
abbrev CX0 : CXT := fun _ _ _ _ _ _ => False
abbrev E0 : XK := fun _ _ _ => False
structure Fun (K : PySem.W.Frag) (x qual : Str) (st : Stmt) (f : Addr) (fd : FuncData) : Prop where
  ex : ∃ (oc : Value) (od : Option Addr) (kV doc pm : Value) (an : Option Addr) (cdv ct : Value) (osl : Array (Option Value)),
    fd = PySem.W.fnOf x qual (defArgs st) (defBody st) (defScope st) .none kV doc pm an cdv ct ∧ K.lookup f = some ⟨oc, od, .func fd, osl⟩ ∧ PySem.W.codeIn K cdv qual = true
  kp : PySem.W.keepIn K (.ref f) = true
section
variable {P : Program} {w : World} {K : PySem.W.Frag} {mg : Str → Option Value} {base : Heap}
theorem Fun.ok {x qual : Str} {st : Stmt} {f : Addr} {fd : FuncData} {N ps : List Str} {k : Nat} {sp : Sp} (F : Fun K x qual st f fd) (S : FnScope N ps (defScope st)) (len : ∀ vs H Q E, sp vs H Q E → vs.length = ps.length)
    (hbody : ∀ (cdv : Value) (A : Around) (outer : List Env) (s : Shared) (H : Hp) (vs : List V) (Q : VK) (E : XK), Room k (A.deeper (envOfC qual (defScope st) s.heap.objs.size f cdv)) → sp vs H Q E →
      ∃ t, PSs (cxOf CX0 P w K mg base N qual (defScope st) f cdv A outer s H E).nox (defBody st) t ∧ t { nx := fun _ H' => Q .non H', rt := Q } (start N vs) H) : FnOk P w K mg base CX0 (k + 1) f fd ps sp := by
  obtain ⟨oc, od, kV, doc, pm, an, cdv, ct, osl, rfl, lk, hcd⟩ := F.ex
  refine fn_of lk hcd S len fun A outer s H vs Q E hr hsp => ?_
  obtain ⟨t, h, q⟩ := hbody cdv A outer s H vs Q E hr hsp
  exact ⟨t, h.nox, q⟩
theorem Fun.binds {x qual : Str} {st : Stmt} {f : Addr} {fd : FuncData} {ps : List Str} (F : Fun K x qual st f fd)
    (h : ∀ (kV doc pm : Value) (an : Option Addr) (cdv ct : Value) (us : List Value), us.length = ps.length → bindArgs (PySem.W.fnOf x qual (defArgs st) (defBody st) (defScope st) .none kV doc pm an cdv ct) ⟨us, []⟩ = pure (ps.zip us)) : Binds K fd ps [] := by
  obtain ⟨oc, od, kV, doc, pm, an, cdv, ct, osl, rfl, lk, hcd⟩ := F.ex
  exact .all (h kV doc pm an cdv ct)
theorem fun_mk {x qual : Str} {st : Stmt} {f : Addr} {oc : Value} {od an : Option Addr} {osl : Array (Option Value)} {kV doc pm cdv ct : Value} (l : K.lookup f = some ⟨oc, od, .func (PySem.W.fnOf x qual (defArgs st) (defBody st) (defScope st) .none kV doc pm an cdv ct), osl⟩)
    (c : PySem.W.codeIn K cdv qual = true) (k : PySem.W.keepIn K (.ref f) = true) : Fun K x qual st f (PySem.W.fnOf x qual (defArgs st) (defBody st) (defScope st) .none kV doc pm an cdv ct) := ⟨⟨oc, od, kV, doc, pm, an, cdv, ct, osl, rfl, l, c⟩, k⟩
end
section
variable {X : Cx}
theorem pv (i : Nat) {x : Str} {pos : Pos} (hN : X.N[i]? = some x := by rfl) (hv : Vis X.env.scope x := by first | exact Or.inl rfl | exact Or.inr (Or.inl rfl) | exact Or.inr (Or.inr rfl)) (hd : (x == ("__debug__" : Str)) = false := by decide)
    (hcd : (x == ("__classdict__" : Str)) = false := by decide) : PE X (.Name x pos) (tVar i) := pe_var hN hv hd hcd
end
theorem iteF {A B : Prop} (h : B) : if false = true then A else B := by
  rw [if_neg Bool.false_ne_true]
  exact h
theorem iteT {A B : Prop} (h : A) : if true = true then A else B := by
  rw [if_pos rfl]
  exact h
def Same (H H' : Hp) : Prop := ∀ b o, H b = some o → H' b = some o
theorem Same.trans {H H1 H2 : Hp} (a : Same H H1) (b : Same H1 H2) : Same H H2 := fun c o h => b c o (a c o h)
theorem Same.free {H H' : Hp} (e : Same H H') {l : Addr} (h : H' l = Option.none) : H l = Option.none := by
  cases q : H l with
  | none => rfl
  | some o =>
    rw [e l o q] at h
    cases h
theorem Same.seq {K : PySem.W.Frag} {H H' : Hp} {a : Addr} {xs : List V} (e : Same H H') (h : SqL K H a xs) : SqL K H' a xs := by
  rcases h with (h | ⟨o, h⟩) | h
  · exact .inl (.inl (e _ _ h))
  · exact .inl (.inr ⟨o, e _ _ h⟩)
  · exact .inr h
structure Pass (fs : List Addr) (n : Nat) (H : Hp) (h h' : Heap) : Prop where
  keep : ∀ b o, h.get? b = some o → b ∉ fs → (b < n ∨ H b ≠ none ∨ ∀ vs, o.data ≠ .fields vs) → h'.get? b = some o
  slot : ∀ b o, h.get? b = some o → b ∈ fs → ∃ sl, h'.get? b = some { o with slots := sl }
  there : ∀ b o, h.get? b = some o → ∃ o', h'.get? b = some o'
theorem Pass.trans {fs : List Addr} {n : Nat} {H : Hp} {h h1 h2 : Heap} (x : Pass fs n H h h1) (y : Pass fs n H h1 h2) : Pass fs n H h h2 :=
  ⟨fun b o e f g => y.keep b o (x.keep b o e f g) f g, fun b o e f => by
    obtain ⟨sl, e1⟩ := x.slot b o e f
    obtain ⟨sl2, e2⟩ := y.slot b _ e1 f
    exact ⟨sl2, e2⟩, fun b o e => by
    obtain ⟨o1, e1⟩ := x.there b o e
    exact y.there b o1 e1⟩
def Head (n : Nat) (H : Hp) (h : Heap) (a : Addr) (vs : Array Value) (fl : Value) : Prop :=
  (vs[1]? = some .none ∧ fl = .none) ∨ ∃ T oT ts, vs[1]? = some (.ref T) ∧ n ≤ T ∧ H T = none ∧ T ≠ a ∧ h.get? T = some oT ∧ oT.data = .fields ts ∧ ts[3]? = some fl
structure Err (n : Nat) (H : Hp) (h : Heap) (a : Addr) (C : Value) (dx : Option Addr) (fl : Value) : Prop where
  new : n ≤ a
  un : H a = none
  obj : ∃ oe vs, h.get? a = some oe ∧ oe.cls = C ∧ oe.dict = dx ∧ oe.data = .fields vs ∧ 1 < vs.size ∧ Head n H h a vs fl
section
variable {X : Cx} {pins : List (Addr × Obj)} {σ : St} {H : Hp} {s : Shared} {h' : Heap}
open Classical in
end
theorem Head.mono {n m : Nat} {H : Hp} {h : Heap} {a : Addr} {vs : Array Value} {fl : Value} (x : Head n H h a vs fl) (hm : m ≤ n) : Head m H h a vs fl := by
  rcases x with x | ⟨T, oT, ts, e1, nT, r⟩
  · exact .inl x
  · exact .inr ⟨T, oT, ts, e1, Nat.le_trans hm nT, r⟩
theorem Err.mono {n m : Nat} {H : Hp} {h : Heap} {a : Addr} {C : Value} {dx : Option Addr} {fl : Value} (x : Err n H h a C dx fl) (hm : m ≤ n) : Err m H h a C dx fl := by
  obtain ⟨nw, un, oe, vs, ea, ec, ed, edat, sz, hd⟩ := x
  exact ⟨Nat.le_trans hm nw, un, oe, vs, ea, ec, ed, edat, sz, hd.mono hm⟩
def CXE (P : Program) (w : World) : CXT := fun outer H s E e s' =>
  ∃ a C dx H', e = .ref a ∧ s'.os = s.os ∧ AllBare s'.gens ∧ Un (frs outer) [] H H' s.heap s'.heap ∧ HOk P w H' s'.heap ∧ Err s.heap.objs.size H' s'.heap a C dx .none ∧ E C dx H'
theorem passE0 {X : Cx} {P : Program} {w : World} : Passes (CXE P w) X E0 := fun _ _ _ _ _ _ _ h => by
  obtain ⟨_, _, _, _, _, _, _, _, _, _, q⟩ := h
  exact q.elim
section
variable {X : Cx} {E : XK}
structure Own (X : Cx) : Prop where
  stk : X.stack = X.env :: X.outer
  frm : X.env.frame = some X.env.locals
  pn : X.pn = []
end
open PySem.Builtin PySem.Builtin.ObjectAttr
section
variable {X : Cx} {pins : List (Addr × Obj)} {σ : St} {H : Hp} {s : Shared} {a : Addr} {φ : Heap → Prop}
abbrev errH (a : Addr) (C : Value) (dx : Option Addr) : HO := .ext fun h => ∃ o vs, h.get? a = some o ∧ o.cls = C ∧ o.dict = dx ∧ o.data = .fields vs
theorem Inv.held {C : Value} {dx : Option Addr} {fl : Value} (I : Inv X [] σ H s) (hp : X.pn = []) (er : Err X.s₀.heap.objs.size H s.heap a C dx fl) : Inv X [] σ (upd H a (errH a C dx)) s := by
  obtain ⟨new, un, oe, vs, ea, ec, ed, edat, sz, hd⟩ := er
  have ne : ∀ b, H b ≠ none → b ≠ a := fun b h q => by subst q; exact h un
  have keep : ∀ c u, H c = some u → upd H a (errH a C dx) c = some u := fun c u q => by
    rw [upd_ne (ne c (by rw [q]; simp))]; exact q
  have nl : X.env.locals ≠ a := fun q => by
    obtain ⟨m, ⟨o2, es, ep, e2, d2, _⟩, _⟩ := I.loc
    rw [q, ea] at e2; cases e2
    rw [edat] at d2; cases d2
  have nc : ∀ x c, X.env.cells.lookup x = some c → c ≠ a := fun x c hc q => by
    obtain ⟨v, o2, e2, d2⟩ := I.cell x c hc
    rw [q, ea] at e2; cases e2
    rw [edat] at d2; cases d2
  refine ⟨I.ok, I.os, I.bare, ⟨I.base.keep, I.base.slot, fun b o e n hx => ?_, I.base.there, fun b xs q => keep b _ (I.base.tups b xs q), fun b o u q => keep b _ (I.base.frzs b o u q), fun b ps q => ?_⟩,
    I.loc, I.cell, by rw [upd_ne nl]; exact I.free, fun x c h => by rw [upd_ne (nc x c h)]; exact I.freeC x c h, fun p hp' => ?_, fun b o e => ?_, I.len⟩
  · rw [upd_ne fun q => ?_]
    · exact I.base.free b o e n hx
    · subst q; exact absurd (Heap.lt_size e) (Nat.not_lt.mpr new)
  · obtain ⟨m, e⟩ := I.base.tbls b ps q
    exact ⟨m, keep b _ e⟩
  · rw [hp] at hp'; cases hp'
  · by_cases q : b = a
    · subst q
      rw [upd_same] at e
      cases e
      exact ⟨⟨oe, vs, ea, ec, ed, edat⟩, ⟨oe, ea⟩, fun h1 h2 ⟨o, us, z1, z2⟩ k => ⟨o, us, k _ z1, z2⟩⟩
    · rw [upd_ne q] at e
      exact (I.hok b o e).stay (fun c u _ z => z) (fun c z => keep c _ z) fun c xs z => keep c _ z
end
abbrev errN (a C : Addr) (dx : Option Addr) : HO := .ext fun h => ∃ t sl, h.get? a = some ⟨.ref C, dx, .fields #[.ref t, .none, .none, .none, .bool false, .none], sl⟩
structure ErrC (K : PySem.W.Frag) (C : Addr) (bm : List Value) : Prop where
  at_ : ∃ nm q N bs hdct sn sub ab col dd k0 k1 k2 k3 k5 newId, K.lookup C = some (excClassObj nm q C N bs bm hdct sn sub ab col dd k0 k1 k2 k3 k5 newId)
  base : bm.contains (.type "BaseException") = true
structure ErrM (K : PySem.W.Frag) (C f : Addr) (bm bmB : List Value) (B newId initId : String) : Prop where
  at_ : ∃ nm q N bs hdct sn sub ab col dd k0 k1 k2 k3 k5, K.lookup C = some (excClassObj nm q C N bs bm hdct sn sub ab col dd k0 k1 k2 k3 k5 newId)
  facts : ExcBaseFacts B newId initId bmB
  hasB : bm.contains (.type B) = true
  noA : bm.contains (.type "AttributeError") = false
  noN : bm.contains (.type "NameError") = false
  base : bm.contains (.type "BaseException") = true
  init : PySem.W.findIn K (.ref C) "__init__" = some (some (.ref f))
  fn : PySem.W.isFn K (.ref f) = true
  kp : PySem.W.keepIn K (.ref C) = true
structure ErrS (K : PySem.W.Frag) (C : Addr) (f : Str) (bm : List Value) : Prop where
  at_ : ∃ nm q N bs sn sub ab col dd k0 k1 k2 k3 k5 newId, K.lookup C = some (excClassObj nm q C N bs bm true sn sub ab col dd k0 k1 k2 k3 k5 newId)
  passes : ∀ x : Addr, refuseLoop (.ref x) "__setattr__" bm = pure ()
  obj : bm.contains (.type "object") = true
  set : PySem.W.findIn K (.ref C) "__setattr__" = some (some (.builtin "object.__setattr__"))
  none : PySem.W.findIn K (.ref C) f = some none
def Ext (H H' : Hp) : Prop := ∀ b o, H b = some o → H' b = some o
theorem Ext.rfl' {H : Hp} : Ext H H := fun _ _ h => h
theorem Ext.tr {H H1 H2 : Hp} (a : Ext H H1) (b : Ext H1 H2) : Ext H H2 := fun c o h => b c o (a c o h)
theorem ext_upd {H : Hp} {p : Addr} {o : HO} (n : H p = none) : Ext H (upd H p o) := fun b u h => by
  rw [upd_ne (ne_of_none h n)]; exact h
theorem Ext.free {H H' : Hp} (e : Ext H H') {l : Addr} (h : H' l = none) : H l = none := by
  cases q : H l with
  | none => rfl
  | some o => rw [e l o q] at h; cases h
theorem Ext.rd {H H' : Hp} {a : Addr} {u : HO} (e : Ext H H') (h : Rd H a u) : Rd H' a u := by
  rcases h with h | ⟨o, h⟩
  · exact .inl (e _ _ h)
  · exact .inr ⟨o, e _ _ h⟩
theorem Ext.seqL {K : PySem.W.Frag} {H H' : Hp} {a : Addr} {xs : List V} (e : Ext H H') (h : SqL K H a xs) : SqL K H' a xs := h.elim (fun h => .inl (e.rd h)) .inr
theorem Ext.seqT {K : PySem.W.Frag} {H H' : Hp} {a : Addr} {xs : List V} (e : Ext H H') (h : SqT K H a xs) : SqT K H' a xs := h.elim (fun h => .inl (e.rd h)) .inr
theorem up {H H' : Hp} {p : Addr} {o : HO} (e : Ext H H') (h : H p = some o) : H' p = some o := e _ _ h
def But (x : Addr) (H H' : Hp) : Prop := ∀ b o, b ≠ x → H b = some o → H' b = some o
theorem But.tr {x : Addr} {H H1 H2 : Hp} (a : But x H H1) (b : But x H1 H2) : But x H H2 := fun c o n h => b c o n (a c o n h)
theorem But.ext {x : Addr} {H H1 H2 : Hp} (a : But x H H1) (b : Ext H1 H2) : But x H H2 := fun c o n h => b c o (a c o n h)
theorem Ext.but {x : Addr} {H H1 H2 : Hp} (a : Ext H H1) (b : But x H1 H2) (n : H x = none) : Ext H H2 := fun c o h => b c o (ne_of_none h n) (a c o h)
theorem but_upd {H : Hp} {p : Addr} {o : HO} : But p H (upd H p o) := fun b u n h => by rw [upd_ne n]; exact h
inductive Kd where | non | bl | int | str | tup | lst | dct
  deriving DecidableEq
def Kd.ty : Kd → String
  | .non => "NoneType" | .bl => "bool" | .int => "int" | .str => "str" | .tup => "tuple" | .lst => "list" | .dct => "dict"
def HasK (H : Hp) : V → Kd → Prop
  | .non, k => k = .non
  | .bl _, k => k = .bl
  | .int _, k => k = .int
  | .str _, k => k = .str
  | .ref a, k => (∃ xs, H a = some (.tup xs) ∧ k = .tup) ∨ (∃ xs, H a = some (.lst xs) ∧ k = .lst) ∨ (∃ kvs, H a = some (.dK kvs) ∧ k = .dct)
  | _, _ => False
theorem HasK.t {H : Hp} {a : Addr} {xs : List V} (h : H a = some (.tup xs)) : HasK H (.ref a) .tup := .inl ⟨xs, h, rfl⟩
theorem HasK.l {H : Hp} {a : Addr} {xs : List V} (h : H a = some (.lst xs)) : HasK H (.ref a) .lst := .inr (.inl ⟨xs, h, rfl⟩)
theorem HasK.d {H : Hp} {a : Addr} {kvs : List (Key × V)} (h : H a = some (.dK kvs)) : HasK H (.ref a) .dct := .inr (.inr ⟨kvs, h, rfl⟩)
theorem HasK.mono {H H' : Hp} {x : V} {k : Kd} (e : Ext H H') (h : HasK H x k) : HasK H' x k := by
  cases x with
  | ref a =>
    rcases h with ⟨xs, h, r⟩ | ⟨xs, h, r⟩ | ⟨xs, h, r⟩
    · exact .inl ⟨xs, e _ _ h, r⟩
    · exact .inr (.inl ⟨xs, e _ _ h, r⟩)
    · exact .inr (.inr ⟨xs, e _ _ h, r⟩)
  | _ => exact h
theorem HasK.tyOf {K : PySem.W.Frag} {H : Hp} {x : V} {k : Kd} (h : HasK H x k) : TyOf K H x (.type k.ty) := by
  cases x with
  | non => cases (show k = .non from h); exact .non
  | bl b => cases (show k = .bl from h); exact .bl b
  | int b => cases (show k = .int from h); exact .int b
  | str b => cases (show k = .str from h); exact .str b
  | ref a =>
    rcases h with ⟨xs, h, rfl⟩ | ⟨xs, h, rfl⟩ | ⟨xs, h, rfl⟩
    · exact .tup h
    · exact .lst h
    · exact .dK h
  | _ => exact (show False from h).elim
inductive D where
  | non | bl (b : Bool) | int (i : Int) | str (x : Str) | tup (l : List D) | lst (l : List D) | dct
def D.kd : D → Kd
  | .non => .non | .bl _ => .bl | .int _ => .int | .str _ => .str | .tup _ => .tup | .lst _ => .lst | .dct => .dct
mutual
def Rep (H : Hp) : D → V → Prop
  | .non, v => v = .non
  | .bl b, v => v = .bl b
  | .int i, v => v = .int i
  | .str x, v => v = .str x
  | .tup l, v => ∃ p xs, v = .ref p ∧ H p = some (.tup xs) ∧ RepL H l xs
  | .lst l, v => ∃ p xs, v = .ref p ∧ H p = some (.lst xs) ∧ RepL H l xs
  | .dct, v => ∃ p kvs, v = .ref p ∧ H p = some (.dK kvs)
def RepL (H : Hp) : List D → List V → Prop
  | [], xs => xs = []
  | d :: r, xs => ∃ x t, xs = x :: t ∧ Rep H d x ∧ RepL H r t
end
def isData : HO → Bool
  | .tup _ => true | .lst _ => true | .dK _ => true | _ => false
def Kp (H H' : Hp) : Prop := ∀ b o, H b = some o → isData o = true → H' b = some o
theorem Ext.kp {H H' : Hp} (e : Ext H H') : Kp H H' := fun b o h _ => e b o h
theorem Kp.tr {H H1 H2 : Hp} (a : Kp H H1) (b : Kp H1 H2) : Kp H H2 := fun c o h d => b c o (a c o h d) d
theorem Kp.but {H H' : Hp} {x C dx : Addr} {fs : List (Str × V)} (hx : H x = some (.ins C dx fs)) (b : But x H H') : Kp H H' := fun c o h d => b c o (fun z => by subst z; rw [hx] at h; cases h; cases d) h
mutual
theorem Rep.keep' {H H' : Hp} (e : Kp H H') : ∀ (d : D) {v : V}, Rep H d v → Rep H' d v
  | .non, _, h => by unfold Rep at h ⊢; exact h
  | .bl _, _, h => by unfold Rep at h ⊢; exact h
  | .int _, _, h => by unfold Rep at h ⊢; exact h
  | .str _, _, h => by unfold Rep at h ⊢; exact h
  | .tup l, _, h => by unfold Rep at h ⊢; obtain ⟨p, xs, h1, h2, h3⟩ := h; exact ⟨p, xs, h1, e _ _ h2 rfl, RepL.keep' e l h3⟩
  | .lst l, _, h => by unfold Rep at h ⊢; obtain ⟨p, xs, h1, h2, h3⟩ := h; exact ⟨p, xs, h1, e _ _ h2 rfl, RepL.keep' e l h3⟩
  | .dct, _, h => by unfold Rep at h ⊢; obtain ⟨p, xs, h1, h2⟩ := h; exact ⟨p, xs, h1, e _ _ h2 rfl⟩
theorem RepL.keep' {H H' : Hp} (e : Kp H H') : ∀ (l : List D) {xs : List V}, RepL H l xs → RepL H' l xs
  | [], _, h => by unfold RepL at h ⊢; exact h
  | d :: r, _, h => by unfold RepL at h ⊢; obtain ⟨x, t, h1, h2, h3⟩ := h; exact ⟨x, t, h1, Rep.keep' e d h2, RepL.keep' e r h3⟩
end
theorem Rep.keep {H H' : Hp} {d : D} {v : V} (h : Rep H d v) (e : Kp H H') : Rep H' d v := Rep.keep' e d h
theorem RepL.keep {H H' : Hp} {d : List D} {v : List V} (h : RepL H d v) (e : Kp H H') : RepL H' d v := RepL.keep' e d h
theorem Rep.mono {H H' : Hp} {d : D} {v : V} (h : Rep H d v) (e : Ext H H') : Rep H' d v := h.keep e.kp
theorem RepL.mono {H H' : Hp} {d : List D} {v : List V} (h : RepL H d v) (e : Ext H H') : RepL H' d v := h.keep e.kp
theorem RepL.length {H : Hp} : ∀ {l : List D} {xs : List V}, RepL H l xs → l.length = xs.length
  | [], _, h => by unfold RepL at h; rw [h]; rfl
  | d :: r, _, h => by unfold RepL at h; obtain ⟨x, t, rfl, _, h3⟩ := h; rw [List.length_cons, List.length_cons, RepL.length h3]
theorem RepL.get {H : Hp} : ∀ {l : List D} {xs : List V} {i : Nat} {x : V}, RepL H l xs → xs[i]? = some x → ∃ d, l[i]? = some d ∧ Rep H d x
  | [], _, i, x, h, e => by unfold RepL at h; subst h; simp at e
  | d :: r, _, 0, x, h, e => by unfold RepL at h; obtain ⟨y, t, rfl, h2, _⟩ := h; simp at e; subst e; exact ⟨d, rfl, h2⟩
  | d :: r, _, i + 1, x, h, e => by unfold RepL at h; obtain ⟨y, t, rfl, _, h3⟩ := h; obtain ⟨z, z1, z2⟩ := RepL.get (i := i) h3 (by simpa using e); exact ⟨z, by simpa using z1, z2⟩
theorem RepL.nil {H : Hp} : RepL H [] [] := by unfold RepL; rfl
theorem RepL.cons {H : Hp} {d : D} {x : V} {l : List D} {xs : List V} (h : Rep H d x) (t : RepL H l xs) : RepL H (d :: l) (x :: xs) := by unfold RepL; exact ⟨x, xs, rfl, h, t⟩
theorem Rep.intI {H : Hp} {i : Int} : Rep H (.int i) (.int i) := by unfold Rep; rfl
theorem Rep.nonI {H : Hp} : Rep H .non .non := by unfold Rep; rfl
theorem Rep.blI {H : Hp} {b : Bool} : Rep H (.bl b) (.bl b) := by unfold Rep; rfl
theorem Rep.tupI {H : Hp} {p : Addr} {xs : List V} {l : List D} (h : H p = some (.tup xs)) (r : RepL H l xs) : Rep H (.tup l) (.ref p) := by unfold Rep; exact ⟨p, xs, rfl, h, r⟩
theorem Rep.lstI {H : Hp} {p : Addr} {xs : List V} {l : List D} (h : H p = some (.lst xs)) (r : RepL H l xs) : Rep H (.lst l) (.ref p) := by unfold Rep; exact ⟨p, xs, rfl, h, r⟩
theorem RepL.ints {H : Hp} : ∀ ns : List Int, RepL H (ns.map D.int) (ns.map V.int)
  | [] => .nil
  | _ :: r => .cons .intI (RepL.ints r)
theorem Rep.kd {H : Hp} {d : D} {v : V} (h : Rep H d v) : HasK H v d.kd := by
  cases d with
  | tup l => unfold Rep at h; obtain ⟨p, xs, rfl, h, _⟩ := h; exact .t h
  | lst l => unfold Rep at h; obtain ⟨p, xs, rfl, h, _⟩ := h; exact .l h
  | dct => unfold Rep at h; obtain ⟨p, xs, rfl, h⟩ := h; exact .d h
  | _ => unfold Rep at h; subst h; exact rfl
mutual
def D.fine : D → Bool
  | .tup l => D.fineL l
  | .lst l => D.fineL l
  | .dct => false
  | _ => true
def D.fineL : List D → Bool
  | [] => true
  | d :: r => d.fine && D.fineL r
def D.depth : D → Nat
  | .tup l => D.depthL l + 1
  | .lst l => D.depthL l + 1
  | _ => 0
def D.depthL : List D → Nat
  | [] => 0
  | d :: r => max d.depth (D.depthL r)
end
theorem fineL_of : ∀ {l : List D} {i : Nat} {d : D}, D.fineL l = true → l[i]? = some d → d.fine = true
  | [], _, _, _, e => by simp at e
  | x :: r, 0, d, h, e => by simp at e; subst e; unfold D.fineL at h; exact (Bool.and_eq_true_iff.mp h).1
  | x :: r, i + 1, d, h, e => by unfold D.fineL at h; exact fineL_of (Bool.and_eq_true_iff.mp h).2 (by simpa using e)
theorem depthL_le : ∀ {l : List D} {n i : Nat} {d : D}, D.depthL l ≤ n → l[i]? = some d → d.depth ≤ n
  | [], _, _, _, _, e => by simp at e
  | x :: r, n, 0, d, h, e => by simp at e; subst e; unfold D.depthL at h; omega
  | x :: r, n, i + 1, d, h, e => by unfold D.depthL at h; exact depthL_le (l := r) (by omega) (by simpa using e)
theorem depthL_ints (ns : List Int) : D.depthL (ns.map D.int) = 0 := by
  induction ns with
  | nil => rfl
  | cons n r ih => show max (D.depth (.int n)) (D.depthL (r.map D.int)) = 0; rw [ih]; rfl
theorem Rep.but {H H' : Hp} {x : Addr} {C dx : Addr} {fs : List (Str × V)} (hx : H x = some (.ins C dx fs)) (b : But x H H') {d : D} {v : V} (h : Rep H d v) : Rep H' d v := h.keep (Kp.but hx b)
abbrev CXU (P : Program) (w : World) : CXT := CXE P w
theorem passU {X : Cx} {P : Program} {w : World} : Passes (CXU P w) X E0 := passE0
theorem noneU {P : Program} : ∀ (w : World) (H : Hp) (s : Shared) (e : Value) (s' : Shared), CXU P w [] H s (fun _ _ _ => False) e s' → False := fun _ _ _ _ _ h => by
  obtain ⟨_, _, _, _, _, _, _, _, _, _, q⟩ := h
  exact q
theorem FnOk.no {P : Program} {w : World} {K : PySem.W.Frag} {mg : Str → Option Value} {base : Heap} {CX : CXT} {k : Nat} {f : Addr} {fd : FuncData} {ps : List Str} : FnOk P w K mg base CX k f fd ps (fun _ _ _ _ => False) :=
  ⟨fun _ _ _ _ h => h.elim, fun _ _ _ _ _ _ _ _ _ _ _ _ _ h => h.elim⟩
section
variable {P : Program} {w : World} {K : PySem.W.Frag} {mg : Str → Option Value} {base : Heap}
theorem Fun.okU {x qual : Str} {st : Stmt} {f : Addr} {fd : FuncData} {N ps : List Str} {k : Nat} {sp : Sp} (F : Fun K x qual st f fd) (S : FnScope N ps (defScope st)) (len : ∀ vs H Q E, sp vs H Q E → vs.length = ps.length)
    (hbody : ∀ (cdv : Value) (A : Around) (outer : List Env) (s : Shared) (H : Hp) (vs : List V) (Q : VK) (E : XK), Room k (A.deeper (envOfC qual (defScope st) s.heap.objs.size f cdv)) → sp vs H Q E →
      ∃ t, PSs (cxOf (CXU P w) P w K mg base N qual (defScope st) f cdv A outer s H E).nox (defBody st) t ∧ t { nx := fun _ H' => Q .non H', rt := Q } (start N vs) H) : FnOk P w K mg base (CXU P w) (k + 1) f fd ps sp := by
  obtain ⟨oc, od, kV, doc, pm, an, cdv, ct, osl, rfl, lk, hcd⟩ := F.ex
  refine fn_of lk hcd S len fun A outer s H vs Q E hr hsp => ?_
  obtain ⟨t, h, q⟩ := hbody cdv A outer s H vs Q E hr hsp
  exact ⟨t, h.nox, q⟩
end
abbrev ib : Int → Nat := Builtin.Int.intBits
theorem bits_of_lay {ns : List Int} (h : PySem.W.WData.layableAll [.list (ns.map .int)] = true) : ∀ z ∈ ns, ib z ≤ 1048576 := fun z hz => by
  have h1 := PySem.W.layableW_arg h _ (List.mem_singleton.mpr rfl)
  have h2 := PySem.W.layableW_item h1 (.int z) (List.mem_map.mpr ⟨z, hz, rfl⟩)
  have h3 := (PySem.W.layableW_iff.mp h2).2.2
  simpa [PySem.W.WData.weight, ib, Builtin.Int.intBits] using h3
end L2
namespace L2
open PySem PySem.W PySem.Calls PyProof.Rows
theorem attach_callB {l : OpenLaw} {n : Nat} {q : Program} {loose : List Str} {XP : (Str → Option Value) → Heap → Prop} {YP : World → Heap → Prop} {d : DefRec}
    (hn : l.most = some n) (hdf : d.params.defaults = [])
    (call : ∀ (w : World) (s₀ s₁ : Shared) (mg mb : Str → Option Value) (fa : Addr) (o : Obj) (pm cd doc : Value) (a : Addr) (vs : List Value) (ns : List Int),
      Ground q loose [] XP w s₀ mg mb s₁.heap → YP w s₁.heap →
      s₁.heap.get? fa = some o → o.data = .func (docDef d.name d.params d.body d.scope pm cd doc) → s₁.heap.CodeRec cd d.name → mg d.name = some (.ref fa) →
      s₁.heap.get? a = some { cls := .type "list", data := .seq vs.toArray } → IntsAre vs ns → ns.length ≤ n → (∀ z ∈ ns, ib z ≤ 1048576) → s₁.gens = #[] →
      codeAny (model l.prog w) callerA (.call (.ref fa) ⟨[.ref a], []⟩) (fun r s' => r = .ok (.ret (.bool true)) ∧ OldK s₁.heap s'.heap ∧ s'.os = s₁.os ∧ AllBare s'.gens) s₁) :
    WalkO q loose XP YP l.row.toRowW d [] (fun f vs => PySem.call f vs) := by
  intro w s₀ s₁ mg mb G Y fa o pm cd doc dV kV ho hd hcd hD hmg hg args vals as hpre hlay hrd hwl hlo
  obtain rfl : dV = .none := Dflts.none hD hdf
  obtain rfl : kV = .none := Dflts.noKw hD
  obtain ⟨a, vs, ns, rfl, rfl, hobj, hints, hlen⟩ := Att.script_of hn hpre hwl
  refine enter_call (codeAny_mono (call w s₀ s₁ mg mb fa o pm cd doc a vs ns G Y ho (fd_plain hd) hcd hmg hobj hints hlen (bits_of_lay hlay) hg) fun r s' hq => ?_)
  obtain ⟨rfl, h2, h3, h4⟩ := hq
  exact ⟨.inl ⟨.bool true, .bool true, [], rfl, fun _ => rfl, .bool true, Att.post_true l _, fun _ => ⟨List.Pairwise.nil, fun _ hm => (nomatch hm)⟩⟩, h2, h3, h4⟩
theorem walk_ofB {l : PySem.W.OpenLaw} {n k : Nat} {q : Program} {loose : List Str} {XP : (Str → Option Value) → Heap → Prop} {YP : World → Heap → Prop} {d : DefRec} {K : Params → PySem.W.Frag} {CX : World → CXT} {sp : World → Sp} {x : Str}
    (hn : l.most = some n) (hn2 : n ≤ sizeLine) (hdf : d.params.defaults = []) (hr : Room k callerA)
    (hY : ∀ (w : World) (h : Heap), YP w h → (K w.params).In h)
    (F : ∀ (w : World) (mg : Str → Option Value) (fa : Addr) (h : Heap), (K w.params).In h → h.Ns mainGlobals mg → mg d.name = some (.ref fa) →
      ∃ fd : FuncData, (∀ (s : Shared) (u : Value), BindsTo s fd ⟨[u], []⟩ [(x, u)]) ∧
        ∀ base : Heap, (K w.params).In base → base.Ns mainGlobals mg → FnOk l.prog w (K w.params) mg base (CX w) k fa fd [x] (sp w))
    (hsp : ∀ (w : World) (H : Hp) (a : Addr) (ns : List Int), ns.length ≤ n → (∀ z ∈ ns, ib z ≤ 1048576) → Only H → SqL (K w.params) H a (ns.map V.int) → sp w [.ref a] H (fun v _ => v = .bl true) fun _ _ _ => False)
    (hCX : ∀ (w : World) (H : Hp) (s : Shared) (e : Value) (s' : Shared), CX w [] H s (fun _ _ _ => False) e s' → False) :
    PySem.W.WalkO q loose XP YP l.row.toRowW d [] (fun f vs => PySem.call f vs) := by
  refine attach_callB hn hdf fun w s₀ s₁ mg mb fa o pm cd doc a vs ns G Y ho hd hcd hmg hobj hints hlen hbit hg => ?_
  have KX := hY w _ Y
  obtain ⟨fd, hb, hF⟩ := F w mg fa _ KX G.T.g hmg
  exact law_call KX G.T.g G.T.b G.T.builtins G.T.nolimit G.T.bmain hg hobj hints (Nat.le_trans hlen hn2) hr hF hb (fun H hO hS => hsp w H a ns hlen hbit hO hS) fun H e s' => hCX w H s₁ e s'
section
variable {X : Cx}
def CMulB (i j : Int) : Prop := (-18446744073709551616 < i ∧ i < 18446744073709551616) ∨ (-18446744073709551616 < j ∧ j < 18446744073709551616) ∨ IntMulOk i j
theorem CMulB.ok {i j : Int} (h : CMulB i j) : IntMulOk i j := by
  rcases h with ⟨h1, h2⟩ | ⟨h1, h2⟩ | h
  · exact .of_left (intBits_le_64 (by omega) (by omega))
  · exact .of_right (intBits_le_64 (by omega) (by omega))
  · exact h
theorem op_mulB : OpR X (binaryOp .Mult) (rI CMulB fun i j => .int (i * j)) := opI fun _ _ _ _ _ _ _ hc q => mul_int q hc.ok
def CDivB (i j : Int) : Prop := 0 < j ∧ j < 1000000000000000000000000000000000000000000000000000000000000
theorem CDivB.no {i j : Int} (h : CDivB i j) : Builtin.divisionGoesByPylong i j = false := by
  refine PyProof.noPylong_of_log2 ?_
  have h1 := h.1
  have h2 := h.2
  have h0 : j.natAbs ≠ 0 := by omega
  refine (Nat.log2_lt h0).mpr ?_
  have e : (1000000000000000000000000000000000000000000000000000000000000 : Nat) < 2 ^ 9000 := by decide +kernel
  omega
theorem op_fdivB : OpR X (binaryOp .FloorDiv) (rI CDivB fun i j => .int (i / j)) := opI fun i j _ _ _ _ _ hc q => by
  have h1 := hc.1
  exact floordiv_int (by omega) (by rw [Int.fdiv_eq_ediv_of_nonneg i (by omega)]; exact q) (.inl hc.no)
def rIsin (K : PySem.W.Frag) : List V → Hp → VK → Prop := fun xs H Q => ∃ x t b, ((∃ n, xs = [x, .ty n] ∧ PySem.W.kitOne K t (.type n) = some b) ∨ ∃ C, xs = [x, .ref C] ∧ PySem.W.kitOne K t (.ref C) = some b) ∧ TyOf K H x t ∧ Q (.bl b) H
theorem cIsin : CallR X (.builtin "isinstance") (rIsin X.K) := by
  intro pins s σ H xs us Q I r h
  obtain ⟨x, t, b, hx, ty, q⟩ := h
  rcases hx with ⟨n, rfl, e⟩ | ⟨n, rfl, e⟩
  · obtain ⟨u, w', rfl, ru, rw'⟩ := vals2 r
    obtain rfl : w' = Value.type n := rw'
    exact isinst_ok I ru ty e fun tk => ⟨.bl b, H, I.tok _, rfl, q⟩
  · obtain ⟨u, w', rfl, ru, rw'⟩ := vals2 r
    obtain rfl : w' = Value.ref n := rw'
    exact isinst_ok I ru ty e fun tk => ⟨.bl b, H, I.tok _, rfl, q⟩
theorem kit_int {K : PySem.W.Frag} (k : Kd) : PySem.W.kitOne K (.type k.ty) (.type "int") = some (k == .int || k == .bl) := by cases k <;> rfl
theorem kit_bool {K : PySem.W.Frag} (k : Kd) : PySem.W.kitOne K (.type k.ty) (.type "bool") = some (k == .bl) := by cases k <;> rfl
theorem kit_str {K : PySem.W.Frag} (k : Kd) : PySem.W.kitOne K (.type k.ty) (.type "str") = some (k == .str) := by cases k <;> rfl
theorem kit_tuple {K : PySem.W.Frag} (k : Kd) : PySem.W.kitOne K (.type k.ty) (.type "tuple") = some (k == .tup) := by cases k <;> rfl
theorem kit_list {K : PySem.W.Frag} (k : Kd) : PySem.W.kitOne K (.type k.ty) (.type "list") = some (k == .lst) := by cases k <;> rfl
def rMax2 : List V → Hp → VK → Prop := fun xs H Q => ∃ i j, xs = [.int i, .int j] ∧ Q (.int (max i j)) H
theorem cMax2 (hc : X.calm = true) : CallR X (.builtin "max") rMax2 := by
  intro pins s σ H xs us Q I r h
  obtain ⟨i, j, rfl, q⟩ := h
  refine call_max2 hc pins s σ H _ us Q I r ⟨i, j, rfl, ?_⟩
  have e : (if j > i then j else i) = max i j := by split <;> omega
  rw [e]; exact q
def rMin2 : List V → Hp → VK → Prop := fun xs H Q => ∃ i j, xs = [.int i, .int j] ∧ Q (.int (min i j)) H
theorem cMin2 (hc : X.calm = true) : CallR X (.builtin "min") rMin2 := by
  intro pins s σ H xs us Q I r h
  obtain ⟨i, j, rfl, q⟩ := h
  refine call_min2 hc pins s σ H _ us Q I r ⟨i, j, rfl, ?_⟩
  have e : (if j < i then j else i) = min i j := by split <;> omega
  rw [e]; exact q
def rInt1 : List V → Hp → VK → Prop := fun xs H Q => (∃ i, xs = [.int i] ∧ Q (.int i) H) ∨ ∃ k, xs = [.bl k] ∧ Q (.int (if k then 1 else 0)) H
theorem cInt1 : CallR X (.type "int") rInt1 := call_int1
def rLen (K : PySem.W.Frag) : List V → Hp → VK → Prop := fun xs H Q => ∃ x n, xs = [x] ∧ LenV K x H n ∧ Q (.int n) H
theorem cLen : CallR X (.builtin "len") (rLen X.K) := call_len
def rList (K : PySem.W.Frag) : List V → Hp → VK → Prop := fun xs H Q => ∃ p ys, xs = [.ref p] ∧ (SqL K H p ys ∨ SqT K H p ys) ∧ ∀ l, H l = none → Q (.ref l) (upd H l (.lst ys))
theorem cList : CallR X (.type "list") (rList X.K) := call_list_of
def rTuple (K : PySem.W.Frag) : List V → Hp → VK → Prop := fun xs H Q => ∃ p ys, xs = [.ref p] ∧ ((SqL K H p ys ∧ ∀ l, H l = none → Q (.ref l) (upd H l (.tup ys))) ∨ (SqT K H p ys ∧ Q (.ref p) H))
theorem cTuple : CallR X (.type "tuple") (rTuple X.K) := call_tuple_of
def rIsNo : R2 := fun x y H Q => y = .non ∧ Q (.bl (decide (x = .non))) H
def rNotNo : R2 := fun x y H Q => y = .non ∧ Q (.bl (!decide (x = .non))) H
theorem oIsN : OpR X (compareOp .Is) rIsNo := op_isN
theorem oNotN : OpR X (compareOp .IsNot) rNotNo := op_notN
theorem oIx : IxR X (rIx X.K) := ix_seq
def rSlU (K : PySem.W.Frag) : V → Option Int → Option Int → Hp → VK → Prop := fun x lo hi H Q => rSlT K x lo hi H Q ∨ rSlL K x lo hi H Q
theorem oSl : SlR X (rSlU X.K) := sl_tup.or sl_list
def tTru (K : PySem.W.Frag) (ta : TE) : TT := fun σ H Q => ta σ H fun x H' => ∃ k, TruV K x H' k ∧ Q k H'
theorem ptT {a : Expr} {ta : TE} (ha : PE X a ta) (he : ∀ whole, isTrue a X.env whole = (do let v ← whole; standAt a.pos; holding [v] (truthy v))) : PT X a (tTru X.K ta) := pt_truth ha he
structure CMeth (K : PySem.W.Frag) (C : Addr) (m : Str) (f : Addr) : Prop where
  ga : PySem.W.specialIn K (.ref C) "__getattribute__" = some (some (.builtin "type.__getattribute__"))
  rd : PySem.W.readsIn K C (.type "type") = true
  at_ : PySem.W.findCls K (.ref C) (.type "type") m = some (.val (.ref f))
  kp : PySem.W.keepIn K (.ref f) = true
end
section
variable {X : Cx} {pins : List (Addr × Obj)} {σ : St} {H : Hp} {s : Shared} {h' : Heap}
theorem Inv.turnLaid {t' : Nat} {ch : List Addr} {a : Addr} {o : HO} (I : Inv X pins σ H s) (k : ∀ b u, b ∉ ch → s.heap.get? b = some u → h'.get? b = some u) (hf : ∀ b ∈ ch, FpOk X pins H b)
    (hp : s.heap.objs.size ≤ a) (new : ObjOk X.prog X.w (upd H a o) h' a o) : Inv X pins σ (upd H a o) { s with heap := h', toks := t' } := by
  have hn : H a = none := I.hok.fresh hp
  have nit : ∀ b u, H b = some u → b ∉ ch := fun b u e z => by rw [(hf b z).1] at e; cases e
  have old : ∀ b u, H b = some u → upd H a o b = some u := fun b u e => by rw [upd_ne (ne_of_none e hn)]; exact e
  refine I.step (g' := s.gens) (d' := s.drawn) (ch := ch) (fun b hb => ?_) (fun b u _ _ hc e _ => k b u hc e) (fun b u _ _ hc e _ => ⟨u.slots, k b u hc e⟩) (fun b u _ e n => ?_)
    (fun b u hc e => ⟨u, k b u hc e⟩) (fun b xs e => old _ _ e) (fun b _ _ e => old _ _ e) (fun b ps e => ⟨#[], by rw [old _ _ e]; simp⟩) (fun m hm => ?_) (fun b u e => ?_) I.bare
  · obtain ⟨_, f1, _, f3, f4, f5⟩ := hf b hb
    exact ⟨f3, f1, f4, f5⟩
  · rw [upd_ne (fun z => by subst z; exact absurd (Heap.lt_size e) (Nat.not_lt.mpr hp))]; exact n
  · obtain ⟨ol, es, ep, ho, r⟩ := hm
    exact ⟨ol, es, ep, k _ ol (fun z => (hf _ z).2.1 rfl) ho, r⟩
  · by_cases hb : b = a
    · subst hb; rw [upd_same] at e; cases e; exact new
    · rw [upd_ne hb] at e
      refine (I.hok b u e).stay (fun c v hc q => k c v ?_ q) (fun c q => old _ _ q) fun c xs q => old _ _ q
      rcases hc with z | z
      · rw [z]; exact nit b u e
      · exact nit c _ z
theorem Inv.turns {t' : Nat} {ch : List Addr} (I : Inv X pins σ H s) (k : ∀ b u, b ∉ ch → s.heap.get? b = some u → h'.get? b = some u) (hf : ∀ b ∈ ch, FpOk X pins H b) : Inv X pins σ H { s with heap := h', toks := t' } := by
  have nit : ∀ b u, H b = some u → b ∉ ch := fun b u e z => by rw [(hf b z).1] at e; cases e
  refine I.step (g' := s.gens) (d' := s.drawn) (ch := ch) (fun b hb => ?_) (fun b u _ _ hc e _ => k b u hc e) (fun b u _ _ hc e _ => ⟨u.slots, k b u hc e⟩) (fun b u _ e n => n)
    (fun b u hc e => ⟨u, k b u hc e⟩) (fun b xs e => e) (fun b _ _ e => e) (fun b ps e => ⟨#[], by rw [e]; simp⟩) (fun m hm => ?_) (fun b u e => ?_) I.bare
  · obtain ⟨_, f1, _, f3, f4, f5⟩ := hf b hb
    exact ⟨f3, f1, f4, f5⟩
  · obtain ⟨ol, es, ep, ho, r⟩ := hm
    exact ⟨ol, es, ep, k _ ol (fun z => (hf _ z).2.1 rfl) ho, r⟩
  · refine (I.hok b u e).stay (fun c v hc q => k c v ?_ q) (fun c q => q) fun c xs q => q
    rcases hc with z | z
    · rw [z]; exact nit b u e
    · exact nit c _ z
end
section
variable {K : PySem.W.Frag} {σ : St} {H : Hp} {Q : VK} {D : Ends}
theorem r_var {i : Nat} {v : V} (h : σ[i]? = some (some v)) (q : Q v H) : tVar i σ H Q := ⟨v, h, q⟩
theorem r_c {v : V} (q : Q v H) : tC v σ H Q := q
theorem r_op {r : R2} {ta tb : TE} (q : ta σ H fun x H1 => tb σ H1 fun y H2 => r x y H2 Q) : tOp r ta tb σ H Q := q
theorem r_seq {t u : TS} (q : t { D with nx := u D } σ H) : tSeq t u D σ H := q
theorem r_asg {te : TE} {g : TG} (q : te σ H fun x H1 => g x σ H1 D.nx) : tAsg te g D σ H := q
theorem r_gname {i : Nat} {v : V} {R : St → Hp → Prop} (q : R (σ.set i (some v)) H) : gName i v σ H R := q
theorem r_if {c : TT} {t u : TS} (q : c σ H fun b H1 => if b = true then t D σ H1 else u D σ H1) : tIfS c t u D σ H := q
theorem r_test {t : TE} {R : Bool → Hp → Prop} (q : t σ H fun x H' => ∃ k, x = .bl k ∧ R k H') : tTest t σ H R := q
theorem r_bl {b : Bool} {R : Bool → Prop} (q : R b) : ∃ k, V.bl b = .bl k ∧ R k := ⟨b, rfl, q⟩
theorem r_I0 {g : Int → Int → V} {i j : Int} (q : Q (g i j) H) : rI0 g (.int i) (.int j) H Q := ⟨i, j, rfl, rfl, q⟩
theorem r_I {C : Int → Int → Prop} {g : Int → Int → V} {i j : Int} (c : C i j) (q : Q (g i j) H) : rI C g (.int i) (.int j) H Q := ⟨i, j, rfl, rfl, c, q⟩
theorem pow_ok {i : Int} {j n : Nat} {v : Int} (hi : i.natAbs < 18446744073709551616) (hj : j ≤ 1000) (e : i ^ j = v) (q : Q (.int v) H) : rI CPow (fun i j => .int (i ^ j.toNat)) (.int i) (.int (j : Int)) H Q :=
  ⟨i, j, rfl, rfl, ⟨by omega, by omega, Nat.lt_of_lt_of_le hi (by decide)⟩, by show Q (.int (i ^ (j : Int).toNat)) H; rw [Int.toNat_natCast, e]; exact q⟩
theorem r_pow18 (q : Q (.int 1000000000000000000) H) : rI CPow (fun i j => .int (i ^ j.toNat)) (.int 10) (.int 18) H Q := pow_ok (n := 0) (j := 18) (by decide) (by decide) (by decide) q
theorem r_pow6 (q : Q (.int 1000000) H) : rI CPow (fun i j => .int (i ^ j.toNat)) (.int 10) (.int 6) H Q := pow_ok (n := 0) (j := 6) (by decide) (by decide) (by decide) q
theorem r_eqI {i j : Int} (q : Q (.bl (decide (i = j))) H) : rEq (.int i) (.int j) H Q := ⟨rfl, by
  rw [show decide (V.int i = V.int j) = decide (i = j) from decide_eq_decide.mpr ⟨fun z => by cases z; rfl, fun z => by rw [z]⟩]; exact q⟩
theorem r_neI {i j : Int} (q : Q (.bl (!decide (i = j))) H) : rNe (.int i) (.int j) H Q := ⟨rfl, by
  rw [show decide (V.int i = V.int j) = decide (i = j) from decide_eq_decide.mpr ⟨fun z => by cases z; rfl, fun z => by rw [z]⟩]; exact q⟩
theorem r_eqB {i j : Bool} (q : Q (.bl (decide (i = j))) H) : rEq (.bl i) (.bl j) H Q := ⟨rfl, by
  rw [show decide (V.bl i = V.bl j) = decide (i = j) from decide_eq_decide.mpr ⟨fun z => by cases z; rfl, fun z => by rw [z]⟩]; exact q⟩
theorem r_eqS {i j : Str} (q : Q (.bl (decide (i = j))) H) : rEq (.str i) (.str j) H Q := ⟨rfl, by
  rw [show decide (V.str i = V.str j) = decide (i = j) from decide_eq_decide.mpr ⟨fun z => by cases z; rfl, fun z => by rw [z]⟩]; exact q⟩
theorem r_ret {te : TE} (q : te σ H D.rt) : tRet te D σ H := q
theorem r_next (q : D.nx σ H) : tNext D σ H := q
theorem r_drop {te : TE} (q : te σ H fun _ H1 => D.nx σ H1) : tDrop te D σ H := q
theorem r_not {t : TT} {R : Bool → Hp → Prop} (q : t σ H fun c H1 => R (!c) H1) : tNot t σ H R := q
theorem r_truth {te : TE} {R : Bool → Hp → Prop} (q : te σ H fun x H' => ∃ k, TruV K x H' k ∧ R k H') : tTru K te σ H R := q
theorem r_blT {b : Bool} {R : Bool → Prop} (q : R b) : ∃ k, TruV K (.bl b) H k ∧ R k := ⟨b, rfl, q⟩
theorem r_lstT {p : Addr} {xs : List V} {R : Bool → Prop} (h : SqL K H p xs) (q : R (!xs.isEmpty)) : ∃ k, TruV K (.ref p) H k ∧ R k := ⟨_, .inl ⟨xs, h, rfl⟩, q⟩
theorem r_and {t u : TT} {R : Bool → Hp → Prop} (q : t σ H fun c H1 => if c = true then u σ H1 R else R false H1) : tAnd t u σ H R := q
theorem r_or {t u : TT} {R : Bool → Hp → Prop} (q : t σ H fun c H1 => if c = true then R true H1 else u σ H1 R) : tOr t u σ H R := q
theorem r_andV {ta tb : TE} (q : ta σ H fun x H1 => ∃ c, x = .bl c ∧ if c = true then tb σ H1 Q else Q (.bl false) H1) : tAndV ta tb σ H Q := q
theorem r_notV {ta : TE} (q : ta σ H fun x H1 => ∃ c, x = .bl c ∧ Q (.bl (!c)) H1) : tNotV ta σ H Q := q
theorem r_ifE {t : TT} {ta tb : TE} (q : t σ H fun c H1 => if c = true then ta σ H1 Q else tb σ H1 Q) : tIf t ta tb σ H Q := q
theorem r_chain {r r' : R2} {ta tb tc : TE} (q : ta σ H fun x H1 => tb σ H1 fun y H2 => r x y H2 fun z H3 => ∃ k, z = .bl k ∧ if k = true then tc σ H3 fun w H4 => r' y w H4 Q else Q (.bl false) H3) : tChain r r' ta tb tc σ H Q := q
theorem r_call {sp : Sp} {dvs : List V} {E : XK} {t : TA} (q : t σ H fun vs H1 => sp (vs ++ dvs) H1 Q E) : tCall sp dvs E t σ H Q := q
theorem r_cb {r : List V → Hp → VK → Prop} {t : TA} (q : t σ H fun vs H1 => r vs H1 Q) : tCB r t σ H Q := q
theorem r_cons {ta : TE} {tr : TA} {R : List V → Hp → Prop} (q : ta σ H fun x H1 => tr σ H1 fun xs H2 => R (x :: xs) H2) : tCons ta tr σ H R := q
theorem r_nil {R : List V → Hp → Prop} (q : R [] H) : tNil σ H R := q
theorem r_meth {C : Addr} {m : Str} {sp : Sp} {dvs : List V} {E : XK} {ta : TE} {t : TA} (q : ta σ H fun x H1 => ∃ a dx fs, x = .ref a ∧ H1 a = some (.ins C dx fs) ∧ fs.lookup m = none ∧ t σ H1 fun vs H2 => sp (x :: (vs ++ dvs)) H2 Q E) : tMeth C m sp dvs E ta t σ H Q := q
theorem r_self {C : Addr} {m : Str} {sp : Sp} {dvs : List V} {E : XK} {t : TA} {a dx : Addr} {fs : List (Str × V)} (h : H a = some (.ins C dx fs)) (l : fs.lookup m = none) (q : t σ H fun vs H2 => sp (.ref a :: (vs ++ dvs)) H2 Q E) :
    ∃ b dx fs, V.ref a = .ref b ∧ H b = some (.ins C dx fs) ∧ fs.lookup m = none ∧ t σ H fun vs H2 => sp (.ref a :: (vs ++ dvs)) H2 Q E := ⟨a, dx, fs, rfl, h, l, q⟩
theorem r_make {C : Addr} {sp : Sp} {dvs : List V} {E : XK} {t : TA} (q : t σ H fun vs H1 => ∀ x dx, H1 x = none → H1 dx = none → dx ≠ x →
  sp (.ref x :: (vs ++ dvs)) (upd (upd H1 dx (.own x)) x (.ins C dx [])) (fun v H2 => v = .non ∧ Q (.ref x) H2) E) : tMake C sp dvs E t σ H Q := q
def rFld (K : PySem.W.Frag) (f : Str) : V → Hp → VK → Prop := fun x H Q => ∃ a C dx fs v, x = .ref a ∧ H a = some (.ins C dx fs) ∧ Cls K C ∧ NoAttr K C f ∧ fs.lookup f = some v ∧ Q v H
theorem r_fldK {ta : TE} {f : Str} (q : ta σ H fun x H1 => rFld K f x H1 Q) : tFld K ta f σ H Q := q
theorem r_fat {f : Str} {a C dx : Addr} {fs : List (Str × V)} {v : V} (h : H a = some (.ins C dx fs)) (c : Cls K C) (n : NoAttr K C f) (l : fs.lookup f = some v) (q : Q v H) : rFld K f (.ref a) H Q := ⟨a, C, dx, fs, v, rfl, h, c, n, l, q⟩
def rSat (K : PySem.W.Frag) (f : Str) (y : V) : V → Hp → (Hp → Prop) → Prop := fun x H Q => ∃ a C dx fs, x = .ref a ∧ H a = some (.ins C dx fs) ∧ Cls K C ∧ NoAttr K C f ∧ fs.length < 1000 ∧ Q (upd H a (.ins C dx (putF f y fs)))
theorem r_sfld {ta tv : TE} {f : Str} (q : tv σ H fun y H1 => ta σ H1 fun x H2 => rSat K f y x H2 fun H3 => D.nx σ H3) : sFld K ta tv f D σ H := q
theorem r_sat {f : Str} {y : V} {a C dx : Addr} {fs : List (Str × V)} {R : Hp → Prop} (h : H a = some (.ins C dx fs)) (c : Cls K C) (n : NoAttr K C f) (l : fs.length < 1000) (q : ∀ H', H' a = some (.ins C dx (putF f y fs)) → But a H H' → R H') : rSat K f y (.ref a) H R :=
  ⟨a, C, dx, fs, rfl, h, c, n, l, q _ upd_same but_upd⟩
theorem lt1000 {n : Nat} (h : Nat.ble (n + 1) 1000 = true) : n < 1000 := Nat.le_of_ble_eq_true h
def rNewT (xs : List V) (H : Hp) (Q : VK) : Prop := xs.length ≤ sizeLine ∧ ∀ p, H p = none → Q (.ref p) (upd H p (.tup xs))
def rNewL (xs : List V) (H : Hp) (Q : VK) : Prop := xs.length ≤ sizeLine ∧ ∀ p, H p = none → Q (.ref p) (upd H p (.lst xs))
theorem r_tup {t : TA} (q : t σ H fun xs H1 => rNewT xs H1 Q) : tTup t σ H Q := q
theorem r_lst {t : TA} (q : t σ H fun xs H1 => rNewL xs H1 Q) : tLst t σ H Q := q
theorem r_newT {xs : List V} (c : Nat.ble xs.length 1000 = true) (q : ∀ p H', H p = none → H' p = some (.tup xs) → Ext H H' → Q (.ref p) H') : rNewT xs H Q :=
  ⟨Nat.le_trans (Nat.le_of_ble_eq_true c) (by rw [sizeLine_eq]; decide), fun p n => q p _ n upd_same (ext_upd n)⟩
theorem r_newL {xs : List V} (c : Nat.ble xs.length 1000 = true) (q : ∀ p H', H p = none → H' p = some (.lst xs) → Ext H H' → Q (.ref p) H') : rNewL xs H Q :=
  ⟨Nat.le_trans (Nat.le_of_ble_eq_true c) (by rw [sizeLine_eq]; decide), fun p n => q p _ n upd_same (ext_upd n)⟩
theorem r_dnew (q : ∀ p H', H p = none → H' p = some (.dK []) → Ext H H' → Q (.ref p) H') : tDNewK σ H Q := fun p n => q p _ n upd_same (ext_upd n)
theorem r_for {wi : TI} {g : TG} {tb : TS} (q : wi σ H fun J H1 => ∃ W : Nat → Nat → St → Hp → Prop, (∃ m, W 0 m σ H1) ∧ ∀ i m σ H, W i m σ H →
  (J.stop i H ∧ D.nx σ H) ∨ (J.go i H ∧ ∃ N : St → Hp → Prop, (∀ σ' H', N σ' H' → ∃ m', m' < m ∧ W (i + 1) m' σ' H') ∧ ∀ x H', J.yld i H x H' → g x σ H' fun σ2 H2 => tb { D with nx := N, ct := N, bk := D.nx } σ2 H2)) : tFor wi g tb D σ H := q
theorem r_rng1 {ta : TA} {R : It → Hp → Prop} (q : ta σ H fun vs H1 => ∃ j : Int, vs = [.int j] ∧ -(2 ^ 62) ≤ j ∧ j < 2 ^ 62 ∧ R (Itr 0 j.toNat) H1) : iRng1 ta σ H R := q
theorem r_ilist {tl : TE} {R : It → Hp → Prop} (q : tl σ H fun x H1 => ∃ a, x = .ref a ∧ (∃ xs, SqL K H1 a xs) ∧ R (Itl K a) H1) : iList K tl σ H R := q
theorem r_itup {tl : TE} {R : It → Hp → Prop} (q : tl σ H fun x H1 => ∃ a, x = .ref a ∧ (∃ xs, SqT K H1 a xs) ∧ R (Itt K a) H1) : iTup K tl σ H R := q
theorem r_bm {T : String} {r : V → List V → Hp → VK → Prop} {to : TE} {t : TA} (q : to σ H fun x H1 => tyV K T x H1 ∧ t σ H1 fun vs H2 => r x vs H2 Q) : tBM K T r to t σ H Q := q
theorem r_bm0 {T : String} {r : V → List V → Hp → VK → Prop} {to : TE} (q : to σ H fun x H1 => tyV K T x H1 ∧ r x [] H1 Q) : tBM0 K T r to σ H Q := q
theorem r_tyl {p : Addr} {xs : List V} {R : Prop} (h : H p = some (.lst xs)) (q : R) : tyV K "list" (.ref p) H ∧ R := ⟨.inl ⟨rfl, xs, SqL.of h⟩, q⟩
theorem r_append {p : Addr} {xs : List V} {y : V} (h : H p = some (.lst xs)) (l : xs.length < 1000000) (q : ∀ H', H' p = some (.lst (xs ++ [y])) → But p H H' → Q .non H') : rAppend (.ref p) [y] H Q :=
  ⟨p, xs, y, rfl, rfl, h, Nat.lt_of_lt_of_le l (by rw [sizeLine_eq]; decide), q _ upd_same but_upd⟩
theorem r_clear {p : Addr} {xs : List V} (h : H p = some (.lst xs)) (q : ∀ H', H' p = some (.lst []) → But p H H' → Q .non H') : rClear (.ref p) [] H Q := ⟨p, xs, rfl, rfl, h, q _ upd_same but_upd⟩
theorem r_gnil {R : St → Hp → Prop} (q : R σ H) : gNil [] σ H R := ⟨rfl, q⟩
theorem r_gcons {t : TG} {u : TGs} {v : V} {r : List V} {R : St → Hp → Prop} (q : t v σ H fun σ' H' => u r σ' H' R) : gCons t u (v :: r) σ H R := ⟨v, r, rfl, q⟩
theorem r_gtup {n : Nat} {t : TGs} {a : Addr} {xs : List V} {R : St → Hp → Prop} (h : H a = some (.tup xs)) (l : xs.length = n) (q : t xs σ H R) : gTup K n t (.ref a) σ H R := ⟨a, xs, rfl, SqT.of h, l, q⟩
theorem r_max {i j : Int} (q : Q (.int (max i j)) H) : rMax2 [.int i, .int j] H Q := ⟨i, j, rfl, q⟩
theorem r_min {i j : Int} (q : Q (.int (min i j)) H) : rMin2 [.int i, .int j] H Q := ⟨i, j, rfl, q⟩
theorem r_intB {i : Bool} (q : Q (.int (if i then 1 else 0)) H) : rInt1 [.bl i] H Q := .inr ⟨i, rfl, q⟩
theorem r_isN {x : V} (q : Q (.bl (decide (x = .non))) H) : rIsNo x .non H Q := ⟨rfl, q⟩
theorem r_notN {x : V} (q : Q (.bl (!decide (x = .non))) H) : rNotNo x .non H Q := ⟨rfl, q⟩
theorem r_isI {x : V} {k : Kd} (h : HasK H x k) (q : Q (.bl (k == .int || k == .bl)) H) : rIsin K [x, .ty "int"] H Q := ⟨x, _, _, .inl ⟨_, rfl, kit_int k⟩, h.tyOf, q⟩
theorem r_isB {x : V} {k : Kd} (h : HasK H x k) (q : Q (.bl (k == .bl)) H) : rIsin K [x, .ty "bool"] H Q := ⟨x, _, _, .inl ⟨_, rfl, kit_bool k⟩, h.tyOf, q⟩
theorem r_isS {x : V} {k : Kd} (h : HasK H x k) (q : Q (.bl (k == .str)) H) : rIsin K [x, .ty "str"] H Q := ⟨x, _, _, .inl ⟨_, rfl, kit_str k⟩, h.tyOf, q⟩
theorem r_isT {x : V} {k : Kd} (h : HasK H x k) (q : Q (.bl (k == .tup)) H) : rIsin K [x, .ty "tuple"] H Q := ⟨x, _, _, .inl ⟨_, rfl, kit_tuple k⟩, h.tyOf, q⟩
theorem r_isL {x : V} {k : Kd} (h : HasK H x k) (q : Q (.bl (k == .lst)) H) : rIsin K [x, .ty "list"] H Q := ⟨x, _, _, .inl ⟨_, rfl, kit_list k⟩, h.tyOf, q⟩
theorem r_lenS {p : Addr} {xs : List V} (h : SqL K H p xs) (q : Q (.int xs.length) H) : rLen K [.ref p] H Q := ⟨_, _, rfl, .inl ⟨xs, h, rfl⟩, q⟩
theorem r_lenL {p : Addr} {xs : List V} (h : H p = some (.lst xs)) (q : Q (.int xs.length) H) : rLen K [.ref p] H Q := ⟨_, _, rfl, .inl ⟨xs, SqL.of h, rfl⟩, q⟩
theorem r_lenT {p : Addr} {xs : List V} (h : H p = some (.tup xs)) (q : Q (.int xs.length) H) : rLen K [.ref p] H Q := ⟨_, _, rfl, .inr ⟨xs, SqT.of h, rfl⟩, q⟩
theorem r_ixS {p : Addr} {xs : List V} {i : Int} {v : V} (h : SqL K H p xs) (e : atI xs i = some v) (q : Q v H) : rIx K (.ref p) (.int i) H Q := .inl ⟨p, xs, i, v, rfl, rfl, h, e, q⟩
theorem r_ixL {p : Addr} {xs : List V} {i : Int} {v : V} (h : H p = some (.lst xs)) (e : atI xs i = some v) (q : Q v H) : rIx K (.ref p) (.int i) H Q := .inl ⟨p, xs, i, v, rfl, rfl, SqL.of h, e, q⟩
theorem r_ixT {p : Addr} {xs : List V} {i : Int} {v : V} (h : H p = some (.tup xs)) (e : atI xs i = some v) (q : Q v H) : rIx K (.ref p) (.int i) H Q := .inr (.inl ⟨p, xs, i, v, rfl, rfl, SqT.of h, e, q⟩)
theorem atI_int {α : Type} {xs : List α} {i : Int} {v : α} (h0 : 0 ≤ i) (h : xs[i.toNat]? = some v) : atI xs i = some v := by
  have := atI_nat h
  rwa [Int.toNat_of_nonneg h0] at this
theorem r_listT {p : Addr} {xs : List V} (h : H p = some (.tup xs)) (q : ∀ l H', H l = none → H' l = some (.lst xs) → Ext H H' → Q (.ref l) H') : rList K [.ref p] H Q := ⟨p, xs, rfl, .inr (SqT.of h), fun l n => q l _ n upd_same (ext_upd n)⟩
theorem r_tupleL {p : Addr} {xs : List V} (h : H p = some (.lst xs)) (q : ∀ l H', H l = none → H' l = some (.tup xs) → Ext H H' → Q (.ref l) H') : rTuple K [.ref p] H Q := ⟨p, xs, rfl, .inl ⟨SqL.of h, fun l n => q l _ n upd_same (ext_upd n)⟩⟩
end
theorem iteD {c A B : Prop} [Decidable c] (h1 : c → A) (h2 : ¬ c → B) : if decide c = true then A else B := by
  by_cases h : c
  · rw [decide_eq_true h]; exact iteT (h1 h)
  · rw [decide_eq_false h]; exact iteF (h2 h)
theorem iteN {c A B : Prop} [Decidable c] (h1 : ¬ c → A) (h2 : c → B) : if (!decide c) = true then A else B := by
  by_cases h : c
  · rw [decide_eq_true h]; exact iteF (h2 h)
  · rw [decide_eq_false h]; exact iteT (h1 h)
abbrev NoX : Value → Shared → Prop := fun _ _ => False
def tTests : List TT → TT
  | [] => fun _ H Q => Q true H
  | t :: r => fun σ H Q => t σ H fun b H1 => if b = true then tTests r σ H1 Q else Q false H1
def PTs (X : Cx) : List Expr → List TT → Prop
  | [], [] => True
  | e :: es, t :: ts => PT X e t ∧ PTs X es ts
  | _, _ => False
def testsRun (env : Env) (ifs : List Expr) (b : Bool) : Sem Bool := forIn ifs b fun c r => if r = true then do let ok ← isTrue c env (eval c env); pure (ForInStep.yield ok) else pure (ForInStep.yield r)
theorem tests_off {M : Model} {A : Around} {E : Value → Shared → Prop} {s : Shared} {env : Env} {Q : Bool → Shared → Prop} (h : Q false s) : ∀ ifs : List Expr, wpAny M A (testsRun env ifs false) Q E s
  | [] => wpAny_pure h
  | c :: r => by
    unfold testsRun
    rw [List.forIn_cons]
    simp only [Bool.false_eq_true, if_false]
    exact wpAny_bind (wpAny_pure (tests_off h r))
theorem tests_ok {X : Cx} {pins : List (Addr × Obj)} {σ : St} {Q : Bool → Hp → Prop} : ∀ (ifs : List Expr) (ts : List TT) (s : Shared) (H : Hp), PTs X ifs ts → Inv X pins σ H s → tTests ts σ H Q → wpAny (model X.prog X.w) X.A (testsRun X.env ifs true) (TP X pins σ Q) X.xe s
  | [], [], s, H, _, I, h => wpAny_pure ⟨H, I, h⟩
  | [], _ :: _, _, _, p, _, _ => p.elim
  | _ :: _, [], _, _, p, _, _ => p.elim
  | c :: r, t :: ts, s, H, p, I, h => by
    unfold testsRun
    rw [List.forIn_cons]
    simp only [if_true]
    refine wpAny_bind (wpAny_bind (thn (p.1 pins s σ H _ I h) fun b s1 ⟨H1, I1, q1⟩ => wpAny_pure ?_))
    cases b with
    | true => exact tests_ok r ts s1 H1 p.2 I1 (by simpa using q1)
    | false => exact tests_off ⟨H1, I1, by simpa using q1⟩ r
section
variable {prog : Program} {w : World} {A : Around} {R : Result → Shared → Prop}
theorem comp_loop {elt tg iter : Expr} {ifs : List Expr} {scope : Scope} {pos : Pos} {it acc : Value} {env : Env} (J : Nat → Shared → Prop)
    (turn : ∀ n s, J n s → wpAny (model prog w) A (pyNext it) (fun r s1 => match r with
      | none => R (.ok .next) s1
      | some v => wpAny (model prog w) A (letOwnedTupleGo tg it v) (fun _ s2 => wpAny (model prog w) A (assign tg env v) (fun _ s3 => wpAny (model prog w) A (testsRun env ifs true) (fun ok s4 =>
          if ok = true then wpAny (model prog w) A (eval elt env) (fun x s5 => wpAny (model prog w) A (call (.builtin "list.append") [acc, x]) (fun _ s6 => ∃ m, m < n ∧ J m s6) NoX s5) NoX s4
          else ∃ m, m < n ∧ J m s4) NoX s3) NoX s2) NoX s1) NoX s) (n : Nat) {s : Shared} (h : J n s) :
    codeAny (model prog w) A (.compLoop (.ListComp elt [⟨tg, iter, ifs, 0⟩] scope pos) 0 it acc env) R s := by
  refine codeAny_loop rfl J (fun n s hJ => ?_) n h
  show wpAny _ A ((compTurn (.ListComp elt [⟨tg, iter, ifs, 0⟩] scope pos) 0 it acc env).onRaise _) _ _ s
  refine wpAny_noted ?_
  have nx : ∀ {E : Value → Shared → Prop} (e : Value) (s : Shared), NoX e s → E e s := fun _ _ f => f.elim
  rw [compTurn_list]
  refine wpAny_bind (wpAny_standAt (wpAny_bind (wpAny_mono (turn n s hJ) (fun r s1 q1 => ?_) nx)))
  cases r with
  | none => exact wpAny_pure q1
  | some v =>
    refine wpAny_bind (wpAny_mono q1 (fun _ s2 q2 => ?_) nx)
    refine wpAny_bind (wpAny_mono q2 (fun _ s3 q3 => ?_) nx)
    refine wpAny_bind (wpAny_mono (show wpAny _ _ (testsRun env ifs true) _ _ _ from q3) (fun ok s4 q4 => ?_) nx)
    cases ok with
    | false => exact wpAny_pure ⟨rfl, q4⟩
    | true =>
      refine wpAny_bind (wpAny_bind (wpAny_mono q4 (fun x s5 q5 => ?_) nx))
      exact wpAny_bind (wpAny_mono q5 (fun _ s6 q6 => wpAny_pure (wpAny_pure ⟨rfl, q6⟩)) nx)
end
def closOf (cells : List (Str × Addr)) : List (Str × NameKind) → List (Str × Addr) → Option (List (Str × Addr))
  | [], cs => some cs
  | (n, k) :: r, cs => if (k == .free) = true then (match cells.lookup n with | some a => closOf cells r ((n, a) :: cs) | none => none) else closOf cells r cs
theorem clos_run {env : Env} : ∀ (names : List (Str × NameKind)) (cs cl : List (Str × Addr)), closOf env.cells names cs = some cl →
    (forIn names cs fun x r => match x with | (name, kind) => if (kind == .free) = true then do let a ← cellOf env name; pure (ForInStep.yield ((name, a) :: r)) else pure (ForInStep.yield r) : Sem (List (Str × Addr))) = pure cl
  | [], cs, cl, h => by
    cases h
    rfl
  | (n, k) :: r, cs, cl, h => by
    rw [List.forIn_cons]
    unfold closOf at h
    by_cases hk : (k == NameKind.free) = true
    · rw [if_pos hk] at h
      dsimp only
      rw [if_pos hk]
      unfold cellOf
      cases e : env.cells.lookup n with
      | none => rw [e] at h; cases h
      | some a =>
        rw [e] at h
        exact clos_run r _ cl h
    · rw [if_neg hk] at h
      dsimp only
      rw [if_neg hk]
      exact clos_run r cs cl h
theorem closureFor_of {scope : Scope} {env : Env} {cl : List (Str × Addr)} (h : closOf env.cells scope.names [] = some cl) : closureFor scope env = pure cl := by
  have e : closureFor scope env = ((forIn scope.names ([] : List (Str × Addr)) fun x r => match x with | (name, kind) => if (kind == .free) = true then do let a ← cellOf env name; pure (ForInStep.yield ((name, a) :: r)) else pure (ForInStep.yield r) : Sem (List (Str × Addr))) >>= fun cs => pure cs) := by
    first | rfl | (unfold closureFor; rfl)
  rw [e, clos_run _ _ _ h]
  rfl
theorem clos_sub {cells : List (Str × Addr)} : ∀ (names : List (Str × NameKind)) (cs cl : List (Str × Addr)), closOf cells names cs = some cl → (∀ x c, cs.lookup x = some c → cells.lookup x = some c) → ∀ x c, cl.lookup x = some c → cells.lookup x = some c
  | [], cs, cl, h, p => by cases h; exact p
  | (n, k) :: r, cs, cl, h, p => by
    unfold closOf at h
    split at h
    · split at h
      · rename_i a e
        refine clos_sub r _ cl h fun x c q => ?_
        rw [List.lookup_cons] at q
        by_cases hx : (x == n) = true
        · rw [hx] at q
          have : x = n := by simpa using hx
          subst this
          cases q
          exact e
        · have hx' : (x == n) = false := by simpa using hx
          rw [hx'] at q
          exact p x c q
      · cases h
    · exact clos_sub r cs cl h p
theorem clos_has {cells : List (Str × Addr)} : ∀ (names : List (Str × NameKind)) (cs cl : List (Str × Addr)), closOf cells names cs = some cl → ∀ x, ((∃ c, cs.lookup x = some c) ∨ (x, NameKind.free) ∈ names) → ∃ c, cl.lookup x = some c
  | [], cs, cl, h, x, p => by
    cases h
    rcases p with p | p
    · exact p
    · simp at p
  | (n, k) :: r, cs, cl, h, x, p => by
    unfold closOf at h
    split at h
    · split at h
      · rename_i a e
        refine clos_has r _ cl h x ?_
        by_cases hx : x = n
        · exact .inl ⟨a, by rw [List.lookup_cons, hx]; simp⟩
        · have hx' : (x == n) = false := by simpa using hx
          rcases p with ⟨c, p⟩ | p
          · exact .inl ⟨c, by rw [List.lookup_cons, hx']; exact p⟩
          · rcases List.mem_cons.mp p with q | q
            · cases q; exact absurd rfl hx
            · exact .inr q
      · cases h
    · rename_i hk
      refine clos_has r _ cl h x ?_
      rcases p with p | p
      · exact .inl p
      · rcases List.mem_cons.mp p with q | q
        · cases q; exact absurd rfl hk
        · exact .inr q
theorem relabel_mem {scope : Scope} {env : Env} (hc : ∀ y ∈ scope.names, y.2 ≠ .cell) {x : Str} (h : (relabel scope env).names.lookup x = some .cell ∨ (relabel scope env).names.lookup x = some .free) : (x, NameKind.free) ∈ scope.names := by
  have key : ∀ k, (k = .cell ∨ k = .free) → (relabel scope env).names.lookup x = some k → (x, NameKind.free) ∈ scope.names := fun k hk e => by
    have m := PySem.mem_of_lookup e
    obtain ⟨⟨n, k'⟩, hm, e2⟩ := List.mem_map.mp m
    dsimp only at e2
    split at e2
    · rename_i q
      cases e2
      have : k' = .free := by
        have := (Bool.and_eq_true_iff.mp (Bool.and_eq_true_iff.mp q).1).1
        simpa using this
      subst this
      exact hm
    · cases e2
      rcases hk with rfl | rfl
      · exact absurd rfl (hc _ hm)
      · exact hm
  exact h.elim (key _ (.inl rfl)) (key _ (.inr rfl))
def cxComp (X : Cx) (pins : List (Addr × Obj)) (N : List Str) (scope : Scope) (cl : List (Str × Addr)) (fp : List Addr) (s : Shared) (H : Hp) : Cx where
  prog := X.prog
  w := X.w
  K := X.K
  mg := X.mg
  base := X.base
  A := X.A
  N := N
  s₀ := s
  H₀ := H
  env := compEnvC scope cl s.heap.objs.size X.env
  outer := X.stack
  stack := X.stack
  ex := fp
  fn := fun _ => false
  calm := X.calm
  pn := X.pn ++ pins
  xe := NoX
def Frees (X : Cx) (sc : Scope) : List Str → List Nat → Prop
  | [], [] => True
  | y :: ys, j :: js => (X.N[j]? = some y ∧ (X.env.kindOf y = some .cell ∨ X.env.kindOf y = some .free) ∧ (sc.names.lookup y = some .cell ∨ sc.names.lookup y = some .free)) ∧ Frees X sc ys js
  | _, _ => False
theorem Frees.get {X : Cx} {sc : Scope} : ∀ {ys : List Str} {js : List Nat} {i : Nat} {y : Str}, Frees X sc ys js → ys[i]? = some y → ∃ j, js[i]? = some j ∧ X.N[j]? = some y ∧ (X.env.kindOf y = some .cell ∨ X.env.kindOf y = some .free) ∧ (sc.names.lookup y = some .cell ∨ sc.names.lookup y = some .free)
  | [], _, _, _, _, e => by simp at e
  | _ :: _, [], _, _, h, _ => h.elim
  | y :: ys, j :: js, 0, z, h, e => by
    simp at e
    subst e
    exact ⟨j, rfl, h.1⟩
  | y :: ys, j :: js, i + 1, z, h, e => Frees.get (ys := ys) (js := js) (i := i) h.2 (by simpa using e)
theorem Frees.len {X : Cx} {sc : Scope} : ∀ {ys : List Str} {js : List Nat}, Frees X sc ys js → ys.length = js.length
  | [], [], _ => rfl
  | [], _ :: _, h => h.elim
  | _ :: _, [], h => h.elim
  | _ :: ys, _ :: js, h => by rw [List.length_cons, List.length_cons, Frees.len h.2]
def slotAt (σ : St) (j : Nat) : Option V := match σ[j]? with | some o => o | none => none
def cSt (own : List Str) (js : List Nat) (σ : St) : St := own.map (fun _ => none) ++ js.map (slotAt σ)
section
variable {X : Cx} {pins : List (Addr × Obj)} {σ : St} {H : Hp} {s : Shared}
theorem comp_start {own fr : List Str} {js : List Nat} {scope : Scope} {cl : List (Str × Addr)} {fp : List Addr} {h' : Heap} {tk : Nat} (I : Inv X pins σ H s) (hkind : scope.kind = .function) (hc : ∀ y ∈ scope.names, y.2 ≠ .cell)
    (hcl : closOf X.env.cells scope.names [] = some cl) (hF : Frees X (relabel scope X.env) fr js) (hfp : ∀ b ∈ fp, FpOk X pins H b) (hlt : ∀ b ∈ fp, b < s.heap.objs.size)
    (hn : h'.Ns s.heap.objs.size (fun _ => none)) (hk : ∀ b o, s.heap.get? b = some o → h'.get? b = some o) :
    Inv (cxComp X pins (own ++ fr) scope cl fp s H) [] (cSt own js σ) H { s with heap := h', toks := tk } := by
  have sub := clos_sub _ _ _ hcl (fun _ _ q => by simp at q)
  have clt : ∀ x c, X.env.cells.lookup x = some c → c < s.heap.objs.size := fun x c e => by obtain ⟨v, q⟩ := I.cell x c e; exact q.lt
  refine ⟨⟨I.ok.mod, hkind, I.ok.glob, I.ok.blt, Nat.le_refl _, fun x y c e1 e2 => I.ok.inj x y c (sub _ _ e1) (sub _ _ e2), fun x hx => ?_, (fun x c q => Bool.noConfusion (show false = true from q)), I.ok.hd, I.ok.frames, .inl rfl, fun b hb => ⟨Nat.ne_of_lt (hlt b hb), fun x c e => (hfp b hb).2.2.2.2.1 x c (sub x c e)⟩,
    I.bs, Nat.le_trans I.ok.bsz I.sz, fun b o e hb => ?_, fun b hb hq => ?_, I.stack, I.stkFree⟩, rfl, I.bare, Un.kept hk, ⟨_, hn, fun i x v e1 e2 e3 => ?_⟩, fun x c e => ?_, I.hok.fresh (Nat.le_refl _), fun x c e => I.freeC x c (sub x c e), fun p hp => ?_, I.hok.kept hk, ?_⟩
  · exact clos_has _ _ _ hcl x (.inr (relabel_mem hc hx))
  · rcases (hfp b hb).2.2.2.1 with q | q
    · exact I.ok.noex b o e q
    · exact absurd (Heap.lt_size (I.ok.bs b o e).1) (Nat.not_lt.mpr q)
  · have := I.stkSub b hq
    rcases List.mem_cons.mp this with z | z
    · exact (hfp b hb).2.1 z
    · exact (hfp b hb).2.2.1 z
  · have hi : own.length ≤ i := by
      refine Nat.le_of_not_lt fun q => ?_
      unfold cSt at e2
      rw [List.getElem?_append_left (by simpa using q), List.getElem?_map] at e2
      cases z : own[i]? with
      | none => rw [z] at e2; cases e2
      | some y => rw [z] at e2; cases e2
    have e1' : fr[i - own.length]? = some x := by
      have : (own ++ fr)[i]? = some x := e1
      rwa [List.getElem?_append_right hi] at this
    obtain ⟨j, hj, nj, kj, lj⟩ := hF.get e1'
    have e2' : slotAt σ j = some v := by
      unfold cSt at e2
      rw [List.getElem?_append_right (by simpa using hi), List.length_map, List.getElem?_map, hj] at e2
      exact Option.some.inj e2
    have e4 : σ[j]? = some (some v) := by
      unfold slotAt at e2'
      split at e2'
      · rename_i o q; rw [q, e2']
      · cases e2'
    obtain ⟨m, hm, hl⟩ := I.loc
    obtain ⟨u, ru, lk⟩ := hl j x v nj e4 (kj.elim (fun q => .inr (.inl q)) fun q => .inr (.inr q))
    refine ⟨u, ru, .inr ⟨lj, ?_⟩⟩
    rcases lk with ⟨q, _⟩ | ⟨_, c, ec, ic⟩
    · rcases kj with k | k <;> (rw [q] at k; cases k)
    · obtain ⟨c', ec'⟩ := clos_has _ _ _ hcl x (.inr (relabel_mem hc lj))
      have := sub _ _ ec'
      rw [ec] at this
      cases this
      exact ⟨c, ec', ic.keeps hk⟩
  · obtain ⟨v, q⟩ := I.cell x c (sub x c e)
    exact ⟨v, q.keeps hk⟩
  · have hp' : p ∈ X.pn ++ pins := by
      rcases List.mem_append.mp hp with q | q
      · exact q
      · simp at q
    obtain ⟨q1, q2, q3, q4, q5⟩ := I.pin p hp'
    refine ⟨hk _ _ q1, q2, Nat.ne_of_lt (Heap.lt_size q1), fun z => ?_, q5⟩
    rcases List.mem_cons.mp (I.stkSub _ z) with y | y
    · exact q3 y
    · exact q4 y
  · show (cSt own js σ).length = (own ++ fr).length
    unfold cSt
    rw [List.length_append, List.length_append, List.length_map, List.length_map, hF.len]
theorem comp_back {N : List Str} {scope : Scope} {cl : List (Str × Addr)} {fp : List Addr} {σ' : St} {H' : Hp} {s' : Shared} {ps : List (Addr × Obj)} (I : Inv X pins σ H s) (hfp : ∀ b ∈ fp, FpOk X pins H b)
    (J : Inv (cxComp X pins N scope cl fp s H) ps σ' H' s') : Inv X pins σ H' s' := by
  refine I.call' (ch := fp) J.os J.base J.hok J.bare fun b hb => ?_
  obtain ⟨_, f1, _, f3, f4, f5⟩ := hfp b hb
  exact ⟨f3, f1, f4, f5⟩
end
def accO (a : Addr) (ys : List V) : HO := .ext fun h => ys.length ≤ sizeLine ∧ ∃ (its : List Value) (n : Nat), Vals ys its ∧ h.get? a = some { cls := .type "list", data := .seq its.toArray n }
theorem acc_of {P : Program} {w : World} {H : Hp} {h : Heap} {a : Addr} {ys : List V} (o : ObjOk P w H h a (.lst ys)) : ObjOk P w H h a (accO a ys) := by
  obtain ⟨z, its, n, r, e⟩ := o
  exact ⟨⟨z, its, n, r, e⟩, ⟨_, e⟩, fun h1 h2 ⟨z, its, n, r, e⟩ k => ⟨z, its, n, r, k _ e⟩⟩
theorem of_acc {P : Program} {w : World} {H : Hp} {h : Heap} {a : Addr} {ys : List V} (o : ObjOk P w H h a (accO a ys)) : ObjOk P w H h a (.lst ys) := by
  obtain ⟨⟨z, its, n, r, e⟩, _⟩ := o
  exact ⟨z, its, n, r, e⟩
def plainO : HO → Bool
  | .lst _ => true | .ext _ => true | _ => false
theorem Inv.retrack {X : Cx} {pins : List (Addr × Obj)} {σ : St} {H : Hp} {s : Shared} {a : Addr} {o o' : HO} (I : Inv X pins σ H s) (h : H a = some o) (hp : plainO o = true) (new : ∀ H', ObjOk X.prog X.w H' s.heap a o') : Inv X pins σ (upd H a o') s := by
  have ne : ∀ {b : Addr} {u : HO}, H b = some u → plainO u = false → b ≠ a := fun hb hu z => by subst z; rw [h] at hb; cases hb; rw [hp] at hu; cases hu
  have I' := I.un (h' := s.heap) (t' := s.toks) (H' := upd H a o') ⟨fun _ _ e _ _ _ => e, fun b u e _ _ _ => ⟨u.slots, e⟩, fun b u _ n _ => by rw [upd_ne (fun z => by subst z; rw [h] at n; cases n)]; exact n, fun b u e _ => ⟨u, e⟩,
    fun b xs e => by rw [upd_ne (ne e rfl)]; exact e, fun b ob u e => by rw [upd_ne (ne e rfl)]; exact e, fun b ps e => ⟨#[], by rw [upd_ne (ne e rfl), e]; simp⟩⟩ (fun b u e => by
      by_cases hb : b = a
      · subst hb; rw [upd_same] at e; cases e; exact new _
      · rw [upd_ne hb] at e
        exact (I.hok b u e).stay (fun _ _ _ q => q) (fun c q => by rw [upd_ne (ne q rfl)]; exact q) fun c xs q => by rw [upd_ne (ne q rfl)]; exact q)
  exact I'
theorem kp_upd {H : Hp} {a : Addr} {o o' : HO} (h : H a = some o) (hd : isData o = false) : Kp H (upd H a o') := fun b u e d => by
  rw [upd_ne (fun z => by subst z; rw [h] at e; cases e; rw [hd] at d; cases d)]; exact e
def rComp (J : It) (g : TG) (ts : List TT) (te : TE) (acc : Addr) (σ0 : St) (H0 : Hp) (Q : Hp → Prop) : Prop :=
  ∃ W : Nat → Nat → St → List V → Hp → Prop, (∃ m, W 0 m σ0 [] (upd H0 acc (accO acc []))) ∧ ∀ i m σ ys H, W i m σ ys H → H acc = some (accO acc ys) →
    (J.stop i H ∧ Q (upd H acc (.lst ys))) ∨ (J.go i H ∧ ∀ x H', J.yld i H x H' → g x σ H' fun σ2 H2 => tTests ts σ2 H2 fun b H3 =>
      if b = true then te σ2 H3 fun y H4 => H4 acc = some (accO acc ys) ∧ ys.length < sizeLine ∧ ∃ m', m' < m ∧ W (i + 1) m' σ2 (ys ++ [y]) (upd H4 acc (accO acc (ys ++ [y])))
      else H3 acc = some (accO acc ys) ∧ ∃ m', m' < m ∧ W (i + 1) m' σ2 ys H3)
abbrev CA (α : Type) := List (Addr × Obj) → List Addr → Shared → Hp → α
def tComp (wi : TI) (own : List Str) (js : List Nat) (g : CA TG) (ts : CA (List TT)) (te : CA TE) : TE := fun σ H Q => wi σ H fun J H1 => ∀ acc, H1 acc = none → ∀ pins fp s Hc, rComp J (g pins fp s Hc) (ts pins fp s Hc) (te pins fp s Hc) acc (cSt own js σ) H1 fun H' => Q (.ref acc) H'
structure CompOk (X : Cx) (scope : Scope) (cl : List (Str × Addr)) (own fr : List Str) (js : List Nat) : Prop where
  kind : scope.kind = .function
  nc : ∀ y ∈ scope.names, y.2 ≠ .cell
  nl : ∀ y ∈ scope.names, y.2 = .local → scope.names.lookup y.1 = some .local
  clos : closOf X.env.cells scope.names [] = some cl
  frees : Frees X (relabel scope X.env) fr js
section
variable {X : Cx} {pins : List (Addr × Obj)} {σ : St} {H : Hp} {s : Shared}
theorem comp_core {elt tg iter : Expr} {ifs : List Expr} {scope : Scope} {pos : Pos} {cl : List (Str × Addr)} {own fr : List Str} {js : List Nat} {g : CA TG} {ts : CA (List TT)} {te : CA TE} {R : Hp → Addr → Prop} {RR : Value → Addr → Result → Shared → Prop} {it : Addr} {fp : List Addr} {tn : Nat → Heap → Prop} {J : It} {E : Value → Shared → Prop}
    (O : CompOk X scope cl own fr js) (hcalm : X.calm = true)
    (hb : ∀ pins fp s Hc, PG (cxComp X pins (own ++ fr) scope cl fp s Hc) tg (g pins fp s Hc) ∧ PTs (cxComp X pins (own ++ fr) scope cl fp s Hc) ifs (ts pins fp s Hc) ∧ PE (cxComp X pins (own ++ fr) scope cl fp s Hc) elt (te pins fp s Hc))
    (I : Inv X pins σ H s) (T : Turn X.prog X.w X.K tg J fp it tn) (t0 : tn 0 s.heap) (hf : ∀ b ∈ fp, FpOk X pins H b)
    (h : ∀ acc, H acc = none → ∀ pins fp s Hc, rComp J (g pins fp s Hc) (ts pins fp s Hc) (te pins fp s Hc) acc (cSt own js σ) H fun H' => R H' acc)
    (fin : ∀ acc C H' s' m, Inv X pins σ H' s' → R H' acc → s'.heap.Ns C m → FpOk X pins H' C → RR (.ref acc) C (.ok .next) s') :
    wpAny (model X.prog X.w) X.A (newList []) (fun acc s3 => wpAny (model X.prog X.w) X.A (newFunctionEnv scope X.env.globals cl [] X.env.qual none .none (some X.env)) (fun cenv s4 =>
      codeAny (model X.prog X.w) X.A (.compStart (.ListComp elt [⟨tg, iter, ifs, 0⟩] scope pos) 0 (.ref it) acc { cenv with scope := relabel scope X.env }) (RR acc cenv.locals) s4) E s3) E s := by
  have n0 : H s.heap.objs.size = none := I.hok.fresh (Nat.le_refl _)
  have flt : ∀ b ∈ fp, b < s.heap.objs.size := fun b hb => by obtain ⟨o, e, _⟩ := T.obj 0 _ t0 b hb; exact Heap.lt_size e
  refine wpAny_newList ?_
  have I3 : Inv X pins σ (upd H s.heap.objs.size (accO s.heap.objs.size [])) { s with heap := s.heap.push { cls := .type "list", data := .seq ([] : List Value).toArray } } :=
    I.laid (t' := s.toks) (fun b o e => Heap.get?_push_of_some _ e) (Nat.le_refl _) (acc_of (show ObjOk X.prog X.w _ _ _ (.lst []) from ⟨Nat.zero_le _, [], 0, .nil, Heap.get?_push_size _ rfl⟩))
  have hf3 : ∀ b ∈ fp, FpOk X pins (upd H s.heap.objs.size (accO s.heap.objs.size [])) b := fun b hb => ⟨by rw [upd_ne (Nat.ne_of_lt (flt b hb))]; exact (hf b hb).1, (hf b hb).2⟩
  have t3 : tn 0 (s.heap.push { cls := .type "list", data := .seq ([] : List Value).toArray }) := T.keep _ _ _ t0 fun b _ o e => Heap.get?_push_of_some _ e
  specialize h s.heap.objs.size n0
  generalize hs3 : ({ s with heap := s.heap.push { cls := .type "list", data := .seq ([] : List Value).toArray } } : Shared) = s3 at I3 ⊢
  have t3' : tn 0 s3.heap := by rw [← hs3]; exact t3
  have lt3 : ∀ b ∈ fp, b < s3.heap.objs.size := fun b hb => by rw [← hs3]; exact Nat.lt_of_lt_of_le (flt b hb) (by rw [Heap.size_push]; exact Nat.le_succ _)
  generalize hH3 : upd H s.heap.objs.size (accO s.heap.objs.size []) = H3 at I3 hf3
  generalize hacc : s.heap.objs.size = acc at *
  refine wpAny_newFunctionEnv O.nc (by intro x hx; simp at hx) (fun h1 hns hsb => ?_) O.kind
  have hk : ∀ b o, s3.heap.get? b = some o → h1.get? b = some o := fun b o e => (hsb.2 b (Nat.ne_of_lt (Heap.lt_size e))).trans (Heap.get?_push_of_some _ e)
  have Ic : Inv (cxComp X pins (own ++ fr) scope cl fp s3 H3) [] (cSt own js σ) H3 { s3 with heap := h1, toks := s3.toks + 0 } := comp_start I3 O.kind O.nc O.clos O.frees hf3 lt3 hns hk
  obtain ⟨W, ⟨m0, w0⟩, turn⟩ := h pins fp s3 H3
  obtain ⟨hg, ht, he⟩ := hb pins fp s3 H3
  have stat : ∀ {H' : Hp} {ps : List (Addr × Obj)}, ps = [] → (∀ b ∈ fp, H' b = none) → ∀ b ∈ fp, FpOk (cxComp X pins (own ++ fr) scope cl fp s3 H3) ps H' b := fun {H' ps} hps hn b hb => by
    obtain ⟨f0, f1, f2, f3, f4, f5⟩ := hf3 b hb
    refine ⟨hn b hb, Nat.ne_of_lt (lt3 b hb), fun z => ?_, .inl hb, fun x c e => f4 x c (clos_sub _ _ _ O.clos (fun _ _ q => by simp at q) x c e), fun p hp => ?_⟩
    · rcases List.mem_cons.mp (I3.stkSub b z) with q | q
      · exact f1 q
      · exact f2 q
    · subst hps
      rcases List.mem_append.mp hp with q | q
      · exact f5 p q
      · simp at q
  have loop : ∀ {sx : Shared}, Inv (cxComp X pins (own ++ fr) scope cl fp s3 H3) [] (cSt own js σ) H3 sx → tn 0 sx.heap →
      codeAny (model X.prog X.w) X.A (.compLoop (.ListComp elt [⟨tg, iter, ifs, 0⟩] scope pos) 0 (.ref it) (.ref acc) (compEnvC scope cl s3.heap.objs.size X.env)) (RR (.ref acc) s3.heap.objs.size) sx := fun {sx} Jx tx => by
    refine comp_loop (fun n s' => ∃ i σc ys H', Inv (cxComp X pins (own ++ fr) scope cl fp s3 H3) [] σc H' s' ∧ tn i s'.heap ∧ (∀ b ∈ fp, H' b = none) ∧ H' acc = some (accO acc ys) ∧ W i n σc ys H') ?_ m0 ⟨0, _, [], H3, Jx, tx, fun b hb => (hf3 b hb).1, by rw [← hH3]; exact upd_same, by rw [← hH3]; exact w0⟩
    rintro n s4 ⟨i, σ4, ys, H4, I4, t4, fr4, a4, w4⟩
    rcases turn i n σ4 ys H4 w4 a4 with ⟨stop, qn⟩ | ⟨go, step⟩
    · refine thn (T.done (cxComp X pins (own ++ fr) scope cl fp s3 H3) rfl rfl rfl hcalm i [] s4 σ4 H4 NoX I4 (stat rfl fr4) t4 stop) fun r s5 ⟨hr, I5⟩ => ?_
      subst hr
      obtain ⟨m, hm, _⟩ := id I5.loc
      have IX := comp_back I3 hf3 I5
      have IL := IX.retrack (o' := .lst ys) a4 rfl fun H' => of_acc (H := H') (by obtain ⟨p1, p2, p3⟩ := IX.hok acc _ a4; exact ⟨p1, p2, p3⟩)
      refine fin acc s3.heap.objs.size _ s5 m IL qn hm (I3.fpOk (Nat.le_refl _) ?_)
      have c4 : H4 s3.heap.objs.size = none := I5.free
      rw [upd_ne (fun z => by rw [z, a4] at c4; cases c4)]; exact c4
    · refine thn (T.item (cxComp X pins (own ++ fr) scope cl fp s3 H3) rfl rfl rfl hcalm i [] s4 σ4 H4 NoX I4 (stat rfl fr4) t4 go) fun r s5 ⟨u, hr, q5⟩ => ?_
      subst hr
      refine thn q5 fun _ s6 ⟨x, H6, I6, r6, y6, t6, fr6⟩ => ?_
      have I6' := I6.pinned (stat rfl fr6) (T.obj _ _ t6)
      refine thn (hg _ s6 σ4 H6 x u _ I6' r6 (step x H6 y6)) fun _ s7 ⟨σ7, H7, I7, q7⟩ => ?_
      refine thn (tests_ok ifs _ s7 H7 ht I7 q7) fun ok s8 ⟨H8, I8, q8⟩ => ?_
      have again : ∀ {σ9 : St} {H9 : Hp} {s9 : Shared} {zs : List V} {m : Nat}, Inv (cxComp X pins (own ++ fr) scope cl fp s3 H3) ([] ++ pinsAt fp s6.heap) σ9 H9 s9 → H9 acc = some (accO acc zs) → m < n → W (i + 1) m σ9 zs H9 →
          ∃ m, m < n ∧ ∃ i σc ys H', Inv (cxComp X pins (own ++ fr) scope cl fp s3 H3) [] σc H' s9 ∧ tn i s9.heap ∧ (∀ b ∈ fp, H' b = none) ∧ H' acc = some (accO acc ys) ∧ W i m σc ys H' := fun {σ9 H9 s9 zs m} I9 a9 hm w9 => by
        refine ⟨m, hm, i + 1, σ9, zs, H9, I9.unpinned, T.keep _ _ _ t6 fun b hb o e => (I9.pin (b, o) (List.mem_append_right _ (List.mem_append_right _ (mem_pinsAt hb e)))).1, fun b hb => ?_, a9, w9⟩
        obtain ⟨o, e, d⟩ := T.obj _ _ t6 b hb
        exact (I9.pin (b, o) (List.mem_append_right _ (List.mem_append_right _ (mem_pinsAt hb e)))).2.1
      cases ok with
      | false =>
        obtain ⟨a8, m', hm, w8⟩ := (show H8 acc = some (accO acc ys) ∧ ∃ m', m' < n ∧ W (i + 1) m' σ7 ys H8 by simpa using q8)
        exact again I8 a8 hm w8
      | true =>
        have q8' : te pins fp s3 H3 σ7 H8 fun y H4 => H4 acc = some (accO acc ys) ∧ ys.length < sizeLine ∧ ∃ m', m' < n ∧ W (i + 1) m' σ7 (ys ++ [y]) (upd H4 acc (accO acc (ys ++ [y]))) := by simpa using q8
        refine thn (he _ s8 σ7 H8 _ I8 q8') fun v s9 ⟨y, H9, I9, r9, a9, hl, m', hm, w9⟩ => ?_
        have IL := I9.retrack (o' := .lst ys) a9 rfl fun H' => of_acc (H := H') (by obtain ⟨p1, p2, p3⟩ := I9.hok acc _ a9; exact ⟨p1, p2, p3⟩)
        refine thn (mt_append _ s9 σ7 _ (.ref acc) [y] (.ref acc) [v] (fun _ H' => H' = upd H9 acc (.lst (ys ++ [y]))) IL rfl (.cons r9 .nil) ⟨acc, ys, y, rfl, rfl, upd_same, hl, by rw [upd_upd]⟩) fun _ s10 ⟨_, H10, I10, _, e10⟩ => ?_
        subst e10
        have I11 := I10.retrack (o' := accO acc (ys ++ [y])) upd_same rfl fun H' => acc_of (H := H') (by obtain ⟨p1, p2, p3⟩ := I10.hok acc _ upd_same; exact ⟨p1, p2, p3⟩)
        rw [upd_upd] at I11
        exact again I11 upd_same hm w9
  exact codeAny_compStart_list (loop Ic (T.keep _ _ _ t3' fun b _ o e => hk b o e)) (T.self _ 0 _ _ _ (T.keep _ _ _ t3' fun b _ o e => hk b o e) (loop Ic (T.keep _ _ _ t3' fun b _ o e => hk b o e)))
theorem pe_comp {elt tg iter : Expr} {ifs : List Expr} {scope : Scope} {pos : Pos} {cl : List (Str × Addr)} (own fr : List Str) (js : List Nat) {wi : TI} {g : CA TG} {ts : CA (List TT)} {te : CA TE}
    (hcalm : X.calm = true) (O : CompOk X scope cl own fr js) (hi : PI X tg iter wi)
    (hb : ∀ pins fp s Hc, PG (cxComp X pins (own ++ fr) scope cl fp s Hc) tg (g pins fp s Hc) ∧ PTs (cxComp X pins (own ++ fr) scope cl fp s Hc) ifs (ts pins fp s Hc) ∧ PE (cxComp X pins (own ++ fr) scope cl fp s Hc) elt (te pins fp s Hc))
    (hs : ∀ x, foldedSetIterable iter X.env x = pure x := by intro _; rfl) :
    PE X (.ListComp elt [⟨tg, iter, ifs, 0⟩] scope pos) (tComp wi own js g ts te) := by
  intro pins s σ H Q I h
  rw [eval_ListComp]
  refine wpAny_comprehension_free (use := none) rfl hs (closureFor_of O.clos) O.kind O.nl (thn (hi pins s σ H _ I h) fun xv s1 q1 => thn q1 fun itv s2 q2 => ?_)
  obtain ⟨it, fp, tn, J, H2, rfl, I2, T, t2, f2, q⟩ := q2
  refine comp_core (RR := fun acc C => compPost (model X.prog X.w) X.A X.xe none (EP X pins σ Q) acc C) O hcalm hb I2 T t2 f2 q fun acc C H' s' m I' r' hm hC => ⟨m, hm, fun h' sb => ?_⟩
  obtain ⟨f0, f1, f2, f3, f4, f5⟩ := hC
  exact ⟨.ref acc, H', I'.turned (t' := s'.toks) (fun b o hb e => (sb.2 b hb).trans e) f0 f1 f3 f4 f5, rfl, r'⟩
theorem ps_setComp {i : Nat} {x : Str} {elt tg iter : Expr} {ifs : List Expr} {scope : Scope} {pos pos' spos : Pos} {cl : List (Str × Addr)} (own fr : List Str) (js : List Nat) {wi : TI} {g : CA TG} {ts : CA (List TT)} {te : CA TE}
    (hN : X.N.Nodup) (hix : X.N[i]? = some x) (hx : Loc X.env.scope x) (hcalm : X.calm = true) (O : CompOk X scope cl own fr js) (hi : PI X tg iter wi)
    (hb : ∀ pins fp s Hc, PG (cxComp X pins (own ++ fr) scope cl fp s Hc) tg (g pins fp s Hc) ∧ PTs (cxComp X pins (own ++ fr) scope cl fp s Hc) ifs (ts pins fp s Hc) ∧ PE (cxComp X pins (own ++ fr) scope cl fp s Hc) elt (te pins fp s Hc))
    (hsw : swapsWith (.ListComp elt [⟨tg, iter, ifs, 0⟩] scope pos) (some (.Name x pos')) spos.line X.env = pure true := by rfl)
    (hs : ∀ x, foldedSetIterable iter X.env x = pure x := by intro _; rfl) (hf : X.fn x = true ∨ X.env.scope.names.lookup x = some .local := by first | exact .inl rfl | exact .inr rfl | assumption) :
    PS X (.Assign [.Name x pos'] (.ListComp elt [⟨tg, iter, ifs, 0⟩] scope pos) spos) (tAsg (tComp wi own js g ts te) (gName i)) := by
  intro pins s σ H D I h
  rw [exec_Assign_Name_used _ _ _ _ hsw]
  refine wpAny_bind (wpAny_standAt (wpAny_bind ?_))
  show wpAny _ _ (comprehension (.ListComp elt [⟨tg, iter, ifs, 0⟩] scope pos) scope X.env (firstIterPos [⟨tg, iter, ifs, 0⟩] pos) (newList []) false (eval iter X.env) (some (assign (.Name x pos') X.env)) >>= _) _ _ _
  refine wpAny_bind ?_
  have h' : wi σ H fun J H1 => ∀ acc, H1 acc = none → ∀ pins fp s Hc, rComp J (g pins fp s Hc) (ts pins fp s Hc) (te pins fp s Hc) acc (cSt own js σ) H1 fun H' => D.nx (σ.set i (some (.ref acc))) H' := h
  refine wpAny_comprehension_free (use := some (assign (.Name x pos') X.env)) rfl hs (closureFor_of O.clos) O.kind O.nl (thn (hi pins s σ H _ I h') fun xv s1 q1 => thn q1 fun itv s2 q2 => ?_)
  obtain ⟨it, fp, tn, J, H2, rfl, I2, T, t2, f2, q⟩ := q2
  refine comp_core (RR := fun acc C => compPost (model X.prog X.w) X.A X.xe (some (assign (.Name x pos') X.env)) _ acc C) O hcalm hb I2 T t2 f2 q fun acc C H' s' m I' r' hm hC => ?_
  obtain ⟨f0, f1, f2, f3, f4, f5⟩ := hC
  obtain ⟨oc, es, ep, ho, hd, hr⟩ := id hm
  have IP : Inv X (pins ++ [(C, oc)]) σ H' s' := I'.pins_of fun p hp => by
    rcases List.mem_append.mp hp with q | q
    · exact I'.pin p (List.mem_append_right _ q)
    · obtain rfl : p = (C, oc) := by simpa using q
      exact ⟨ho, f0, f1, f2, fun v z => by rw [hd] at z; cases z⟩
  refine wpAny_assign_Name (store_ok IP hN hix hx (v := .ref acc) (u := .ref acc) rfl (fun s'' I'' => ?_) hf)
  have hC'' := (I''.pin (C, oc) (List.mem_append_right _ (List.mem_append_right _ (by simp)))).1
  refine ⟨m, ⟨oc, es, ep, hC'', hd, hr⟩, fun h' sb => ?_⟩
  exact wpAny_pure (wpAny_pure ⟨_, H', (I''.unpinned).turned (t' := s''.toks) (fun b o hb e => (sb.2 b hb).trans e) f0 f1 f3 f4 f5, r'⟩)
end
section
variable {K : PySem.W.Frag} {ts : List TT} {te : TE} {acc : Addr} {fr : St} {H1 : Hp} {R : Hp → Prop} {xs ys : List V}
theorem r_comp {wi : TI} {own : List Str} {js : List Nat} {g : CA TG} {ts : CA (List TT)} {te : CA TE} {σ : St} {H : Hp} {Q : VK} (q : wi σ H fun J H1 => ∀ acc, H1 acc = none → ∀ pins fp s Hc, rComp J (g pins fp s Hc) (ts pins fp s Hc) (te pins fp s Hc) acc (cSt own js σ) H1 fun H' => Q (.ref acc) H') : tComp wi own js g ts te σ H Q := q
def Turned (ts : List TT) (te : TE) (Pv : List V → Hp → Prop) (ys : List V) (H : Hp) (σ2 : St) (H2 : Hp) : Prop :=
  ∀ (Y : V → Hp → Prop) (N : Hp → Prop), (∀ y H', Ext H H' → Pv (ys ++ [y]) H' → Y y H') → (∀ H', Ext H H' → Pv ys H' → N H') → tTests ts σ2 H2 fun b H3 => if b = true then te σ2 H3 Y else N H3
theorem comp_gen {J : It} {g : TG} {σ0 : St} (n : Nat) (hz : n ≤ 1000000) (hn : H1 acc = none) (Sv : St → Prop) (Pv : Nat → List V → Hp → Prop) (s0 : Sv σ0) (h0 : Pv 0 [] H1) (kp : ∀ i ys H H', Kp H H' → Pv i ys H → Pv i ys H')
    (hgo : ∀ i H, i < n → Ext H1 H → J.go i H) (hst : ∀ H, Ext H1 H → J.stop n H) (len : ∀ i ys H, i ≤ n → Pv i ys H → ys.length ≤ i)
    (turn : ∀ i σ ys H x H' (G : St → Hp → Prop), i < n → Ext H1 H → Sv σ → Pv i ys H → J.yld i H x H' → (∀ σ2 H2, Sv σ2 → Turned ts te (Pv (i + 1)) ys H σ2 H2 → G σ2 H2) → g x σ H' G)
    (fin : ∀ ys H, Ext H1 H → H acc = some (.lst ys) → Pv n ys H → R H) : rComp J g ts te acc σ0 H1 R := by
  have e0 : Ext H1 (upd H1 acc (accO acc [])) := ext_upd hn
  refine ⟨fun i m σ ys H => m = n - i ∧ i ≤ n ∧ Ext H1 H ∧ Sv σ ∧ Pv i ys H, ⟨n, by omega, Nat.zero_le _, e0, s0, kp _ _ _ _ e0.kp h0⟩, ?_⟩
  rintro i m σ ys H ⟨rfl, hi, e, sv, pv⟩ ha
  by_cases hlt : i < n
  · refine .inr ⟨hgo i H hlt e, fun x H' y => turn i σ ys H x H' _ hlt e sv pv y fun σ2 H2 s2 q2 => ?_⟩
    refine q2 _ _ (fun y H4 e4 p4 => ?_) fun H3 e3 p3 => ?_
    · have a4 : H4 acc = some (accO acc ys) := e4 _ _ ha
      have z : ys.length < sizeLine := by have := len _ _ _ hi pv; rw [sizeLine_eq]; omega
      refine ⟨a4, z, n - (i + 1), by omega, rfl, hlt, fun b o hb => ?_, s2, kp _ _ _ _ (kp_upd a4 rfl) p4⟩
      rw [upd_ne (ne_of_none hb hn)]
      exact e4 _ _ (e _ _ hb)
    · exact ⟨e3 _ _ ha, n - (i + 1), by omega, rfl, hlt, e.tr e3, s2, p3⟩
  · have hn' : i = n := by omega
    subst hn'
    refine .inl ⟨hst H e, fin ys _ (fun b o hb => ?_) upd_same (kp _ _ _ _ (kp_upd ha rfl) pv)⟩
    rw [upd_ne (ne_of_none hb hn)]
    exact e _ _ hb
theorem comp_list {a : Addr} {u : Option V} (hx : SqL K H1 a xs) (hz : xs.length ≤ 1000000) (hn : H1 acc = none) (Pv : Nat → List V → Hp → Prop) (h0 : Pv 0 [] H1) (kp : ∀ i ys H H', Kp H H' → Pv i ys H → Pv i ys H') (len : ∀ i ys H, i ≤ xs.length → Pv i ys H → ys.length ≤ i)
    (turn : ∀ i x ys H, xs[i]? = some x → Ext H1 H → Pv i ys H → Turned ts te (Pv (i + 1)) ys H (some x :: fr) H)
    (fin : ∀ ys H, Ext H1 H → H acc = some (.lst ys) → Pv xs.length ys H → R H) : rComp (Itl K a) (gName 0) ts te acc (u :: fr) H1 R := by
  refine comp_gen xs.length hz hn (fun σ => ∃ u, σ = u :: fr) Pv ⟨u, rfl⟩ h0 kp (fun i H hi e => ⟨xs, xs[i], e.seqL hx, List.getElem?_eq_getElem hi⟩) (fun H e => ⟨xs, e.seqL hx, Nat.le_refl _⟩) len ?_ fin
  rintro i σ ys H x H' G hi e ⟨u, rfl⟩ pv ⟨rfl, y⟩ hG
  have := y xs (e.seqL hx)
  exact hG _ _ ⟨some x, rfl⟩ (turn i x ys _ this e pv)
theorem comp_tup {a : Addr} {u : Option V} (hx : SqT K H1 a xs) (hz : xs.length ≤ 1000000) (hn : H1 acc = none) (Pv : Nat → List V → Hp → Prop) (h0 : Pv 0 [] H1) (kp : ∀ i ys H H', Kp H H' → Pv i ys H → Pv i ys H') (len : ∀ i ys H, i ≤ xs.length → Pv i ys H → ys.length ≤ i)
    (turn : ∀ i x ys H, xs[i]? = some x → Ext H1 H → Pv i ys H → Turned ts te (Pv (i + 1)) ys H (some x :: fr) H)
    (fin : ∀ ys H, Ext H1 H → H acc = some (.lst ys) → Pv xs.length ys H → R H) : rComp (Itt K a) (gName 0) ts te acc (u :: fr) H1 R := by
  refine comp_gen xs.length hz hn (fun σ => ∃ u, σ = u :: fr) Pv ⟨u, rfl⟩ h0 kp (fun i H hi e => ⟨xs, xs[i], e.seqT hx, List.getElem?_eq_getElem hi⟩) (fun H e => ⟨xs, e.seqT hx, Nat.le_refl _⟩) len ?_ fin
  rintro i σ ys H x H' G hi e ⟨u, rfl⟩ pv ⟨rfl, y⟩ hG
  have := y xs (e.seqT hx)
  exact hG _ _ ⟨some x, rfl⟩ (turn i x ys _ this e pv)
theorem comp_range {lo : Int} {n : Nat} {u : Option V} (hz : n ≤ 1000000) (hn : H1 acc = none) (Pv : Nat → List V → Hp → Prop) (h0 : Pv 0 [] H1) (kp : ∀ i ys H H', Kp H H' → Pv i ys H → Pv i ys H') (len : ∀ i ys H, i ≤ n → Pv i ys H → ys.length ≤ i)
    (turn : ∀ i ys H, i < n → Ext H1 H → Pv i ys H → Turned ts te (Pv (i + 1)) ys H (some (.int (lo + i)) :: fr) H)
    (fin : ∀ ys H, Ext H1 H → H acc = some (.lst ys) → Pv n ys H → R H) : rComp (Itr lo n) (gName 0) ts te acc (u :: fr) H1 R := by
  refine comp_gen n hz hn (fun σ => ∃ u, σ = u :: fr) Pv ⟨u, rfl⟩ h0 kp (fun i H hi e => hi) (fun H e => Nat.le_refl _) len ?_ fin
  rintro i σ ys H x H' G hi e ⟨u, rfl⟩ pv ⟨rfl, rfl⟩ hG
  exact hG _ _ ⟨_, rfl⟩ (turn i ys _ hi e pv)
end
def ItA (b : Bool) (h : Heap) (it l : Addr) (k : Nat) : Prop := match b with | false => h.IsListIter it l k | true => h.IsTupleIter it l k
def SqA (b : Bool) (h : Heap) (l : Addr) (xs : Array Value) : Prop := match b with | false => h.IsList l xs | true => h.IsTuple l xs
theorem ItA.ex {b : Bool} {h : Heap} {it l : Addr} {k : Nat} (x : ItA b h it l k) : ∃ o, h.get? it = some o ∧ ∀ v, o.data ≠ .cell v := by
  cases b <;> (obtain ⟨o, e, _, d⟩ := x; exact ⟨o, e, fun v z => by rw [d] at z; cases z⟩)
theorem ItA.at {b : Bool} {h h' : Heap} {it l : Addr} {k : Nat} (x : ItA b h it l k) (f : ∀ o, h.get? it = some o → h'.get? it = some o) : ItA b h' it l k := by
  cases b <;> (obtain ⟨o, e, r⟩ := x; exact ⟨o, f o e, r⟩)
theorem SqA.at {b : Bool} {h h' : Heap} {l : Addr} {xs : Array Value} (x : SqA b h l xs) (f : ∀ o, h.get? l = some o → h'.get? l = some o) : SqA b h' l xs := by
  cases b <;> (obtain ⟨o, e, r⟩ := x; exact ⟨o, f o e, r⟩)
theorem SqA.lt {b : Bool} {h : Heap} {l : Addr} {xs : Array Value} (x : SqA b h l xs) : l < h.objs.size := by
  cases b <;> (obtain ⟨o, e, _⟩ := x; exact Heap.lt_size e)
theorem ItA.lt {b : Bool} {h : Heap} {it l : Addr} {k : Nat} (x : ItA b h it l k) : it < h.objs.size := by
  obtain ⟨o, e, _⟩ := x.ex; exact Heap.lt_size e
section
variable {prog : Program} {w : World} {A : Around} {E : Value → Shared → Prop} {s : Shared}
theorem nextT_item {it l : Addr} {k : Nat} {xs : Array Value} {x : Value} {Q : Value → Shared → Prop} (i0 : s.heap.IsTupleIter it l k) (l0 : s.heap.IsTuple l xs) (hx : xs[k]? = some x)
    (q : ∀ h', h'.IsTupleIter it l (k + 1) → Heap.SameBut it s.heap h' → Q x { s with heap := h' }) : wpAny (model prog w) A (Builtin.SmallTypes.nextOf (.ref it)) Q E s := by
  obtain ⟨oi, ei, ci, di⟩ := id i0
  obtain ⟨ol, el, _, nl, dl⟩ := l0
  unfold Builtin.SmallTypes.nextOf
  refine wpAny_bind (wpAny_callSpecial?_slot (name := Str.ofString "__next__") i0.typeIs F.slot_tuple_iterator_next (wpAny_call_entry F.slot_tuple_iterator_next i0.typeIs F.entry_tuple_iterator_next ?_ (F.args_tuple_iterator_next_1 _)))
  show wpAny _ _ (field (.ref it) 0 >>= _) _ _ _; refine wpAny_bind (wpAny_field ei di (x := .ref l) rfl ?_)
  show wpAny _ _ (if (Value.ref l == Value.none) = true then _ else _) _ _ _; rw [if_neg (show ¬ ((Value.ref l == Value.none) = true) from fun z => Bool.false_ne_true z)]
  show wpAny _ _ (field (.ref it) 1 >>= _) _ _ _; refine wpAny_bind (wpAny_field ei di (x := .int k 0) rfl ?_)
  show wpAny _ _ (seqItems? (.ref l) >>= _) _ _ _; refine wpAny_bind (wpAny_seqItems el dl ?_)
  simp only [Int.toNat_natCast, hx]; refine wpAny_bind (wpAny_setField ei di (by simp) (wpAny_pure ⟨x, rfl, wpAny_pure (q _ ⟨_, Heap.get?_update_self _ ei (Obj.isFreed_of_fields (Obj.data_mapFields di _)), (Obj.cls_mapFields ..).trans ci, ?_⟩ (Heap.SameBut.update ..))⟩))
  rw [Obj.data_mapFields di]; simp [rawInt]
theorem nextT_end {it l : Addr} {k : Nat} {xs : Array Value} {Q : Value → Shared → Prop} (hh : A.handled = none) (i0 : s.heap.IsTupleIter it l k) (l0 : s.heap.IsTuple l xs) (hx : xs[k]? = none)
    (q : ∀ h' e, Heap.ExtBut it s.heap h' → (∃ o, h'.get? e = some o ∧ o.cls = .type "StopIteration") → E (.ref e) { s with heap := h' }) : wpAny (model prog w) A (Builtin.SmallTypes.nextOf (.ref it)) Q E s := by
  obtain ⟨oi, ei, ci, di⟩ := id i0
  obtain ⟨ol, el, _, nl, dl⟩ := l0
  unfold Builtin.SmallTypes.nextOf
  refine wpAny_bind (wpAny_callSpecial?_slot (name := Str.ofString "__next__") i0.typeIs F.slot_tuple_iterator_next (wpAny_call_entry F.slot_tuple_iterator_next i0.typeIs F.entry_tuple_iterator_next ?_ (F.args_tuple_iterator_next_1 _)))
  show wpAny _ _ (field (.ref it) 0 >>= _) _ _ _; refine wpAny_bind (wpAny_field ei di (x := .ref l) rfl ?_)
  show wpAny _ _ (if (Value.ref l == Value.none) = true then _ else _) _ _ _; rw [if_neg (show ¬ ((Value.ref l == Value.none) = true) from fun z => Bool.false_ne_true z)]
  show wpAny _ _ (field (.ref it) 1 >>= _) _ _ _; refine wpAny_bind (wpAny_field ei di (x := .int k 0) rfl ?_)
  show wpAny _ _ (seqItems? (.ref l) >>= _) _ _ _; refine wpAny_bind (wpAny_seqItems el dl ?_)
  simp only [Int.toNat_natCast, hx]; refine wpAny_bind (wpAny_rule (wpAny_bind (wpAny_setField ei di (by simp) ?_)))
  show wpAny _ _ (newExc (.type "StopIteration") [] >>= _) _ _ _; refine wpAny_bind ?_; simp only [newExc, newTuple]
  refine wpAny_bind (wpAny_newObj_type ?_ (by size_fits)); refine wpAny_bind (m := firstArgMember _ _) (wpAny_of_eq (a := Value.none) (by first | rfl | (simp only [firstArgMember]; rfl)) ?_)
  refine wpAny_newObj_type ?_ (by size_fits); simp only [raiseNew]; refine wpAny_bind (wpAny_handled ?_)
  first | rw [show A.in1.handled = none from hh] | rw [hh]
  refine wpAny_bind (wpAny_pure (wpAny_throw ?_)); exact q _ _ (((Heap.SameBut.update ..).extBut.push _).push _) ⟨_, Heap.get?_push_size _ rfl, rfl⟩
theorem nextA_item {b : Bool} {it l : Addr} {k : Nat} {xs : Array Value} {x : Value} {Q : Value → Shared → Prop} (i0 : ItA b s.heap it l k) (l0 : SqA b s.heap l xs) (hx : xs[k]? = some x)
    (q : ∀ h', ItA b h' it l (k + 1) → Heap.SameBut it s.heap h' → Q x { s with heap := h' }) : wpAny (model prog w) A (Builtin.SmallTypes.nextOf (.ref it)) Q E s := by
  cases b
  · exact wpAny_nextOf_list_item i0 l0 hx q
  · exact nextT_item i0 l0 hx q
theorem nextA_end {b : Bool} {it l : Addr} {k : Nat} {xs : Array Value} {Q : Value → Shared → Prop} (hh : A.handled = none) (i0 : ItA b s.heap it l k) (l0 : SqA b s.heap l xs) (hx : xs[k]? = none)
    (q : ∀ h' e, Heap.ExtBut it s.heap h' → (∃ o, h'.get? e = some o ∧ o.cls = .type "StopIteration") → E (.ref e) { s with heap := h' }) : wpAny (model prog w) A (Builtin.SmallTypes.nextOf (.ref it)) Q E s := by
  cases b
  · exact wpAny_nextOf_list_end hh i0 l0 hx q
  · exact nextT_end hh i0 l0 hx q
theorem zipA_item {c d : Bool} {z TI TO i1 i2 l1 l2 : Addr} {k : Nat} {xs ys : Array Value} {x y p q : Value} {Q : Option Value → Shared → Prop} (D : ZipApart z TI TO i1 i2 l1 l2)
    (hz : IsZip s.heap z TI TO .none) (hI : IsPair s.heap TI (.ref i1) (.ref i2)) (hO : IsPair s.heap TO p q) (a1 : ItA c s.heap i1 l1 k) (a2 : ItA d s.heap i2 l2 k) (b1 : SqA c s.heap l1 xs) (b2 : SqA d s.heap l2 ys) (hx : xs[k]? = some x) (hy : ys[k]? = some y)
    (hQ : ∀ h', IsZip h' z TI TO (rawInt s.heap.objs.size) → IsPair h' TO x y → ItA c h' i1 l1 (k + 1) → ItA d h' i2 l2 (k + 1) → IsPair h' s.heap.objs.size x y →
      (∀ e o, e ≠ z → e ≠ TO → e ≠ i1 → e ≠ i2 → s.heap.get? e = some o → h'.get? e = some o) → Q (some (.ref s.heap.objs.size)) { s with heap := h' }) : wpAny (model prog w) A (pyNext (.ref z)) Q E s := by
  have tz : s.TypeIs (.ref z) "zip" := ⟨_, hz, rfl⟩
  unfold pyNext
  refine wpAny_bind (wpAny_attempt (wpAny_callSpecial?_slot (name := Str.ofString "__next__") tz F.slot_zip_next (wpAny_call_entry F.slot_zip_next tz F.entry_zip_next ?_ (F.args_zip_next_1 _))))
  show wpAny _ _ (field (.ref z) 2 >>= _) _ _ _; refine wpAny_bind (wpAny_field hz rfl (x := .bool false) rfl ?_)
  show wpAny _ _ (field (.ref z) 3 >>= _) _ _ _; refine wpAny_bind (wpAny_field hz rfl (x := .ref TI) rfl (wpAny_bind (wpAny_seqItems hI rfl ?_)))
  show wpAny _ _ (Builtin.SmallTypes.ownedTupleIsFree (.ref z) >>= _) _ _ _; refine wpAny_bind ?_; unfold Builtin.SmallTypes.ownedTupleIsFree
  refine wpAny_bind (wpAny_field hz rfl (x := .none) rfl (wpAny_pure ?_)); simp only [if_true]
  refine wpAny_bind (wpAny_rule (wpAny_bind (wpAny_field hz rfl (x := .ref TO) rfl (wpAny_bind (wpAny_setField_rec hz (by simp) fun g1 z1 s1 => ?_)))))
  replace z1 : IsZip g1 z TI TO .ellipsis := z1
  refine wpAny_bind ?_; simp only [List.zipIdx_cons, List.zipIdx_nil, List.forIn_cons, List.forIn_nil]
  refine wpAny_bind (wpAny_bind (wpAny_onRaise ?_))
  show wpAny _ _ (Builtin.SmallTypes.nextOf (.ref i1) >>= _) _ _ _
  refine wpAny_bind (nextA_item (a1.at fun o e => s1.extBut _ o D.i1z e) (b1.at fun o e => s1.extBut _ o D.l1z e) hx fun g2 j1 s2 => wpAny_pure ?_)
  have o2 : IsPair g2 TO p q := s2.extBut _ _ D.TOi1 (s1.extBut _ _ D.TOz hO)
  refine wpAny_bind (wpAny_seqItems o2 rfl (wpAny_bind (wpAny_updateSeq_pair o2 fun g3 o3 s3 => wpAny_bind (wpAny_letGo (wpAny_pure ?_)))))
  replace o3 : IsPair g3 TO x q := o3
  refine wpAny_bind (wpAny_bind (wpAny_onRaise ?_))
  show wpAny _ _ (Builtin.SmallTypes.nextOf (.ref i2) >>= _) _ _ _
  refine wpAny_bind (nextA_item (a2.at fun o e => s3.extBut _ o D.TOi2.symm (s2.extBut _ o D.i12.symm (s1.extBut _ o D.i2z e))) (b2.at fun o e => s3.extBut _ o D.l2TO (s2.extBut _ o D.l2i1 (s1.extBut _ o D.l2z e))) hy fun g4 j2 s4 => wpAny_pure ?_)
  have o4 : IsPair g4 TO x q := s4.extBut _ _ D.TOi2 o3
  refine wpAny_bind (wpAny_seqItems o4 rfl (wpAny_bind (wpAny_updateSeq_pair o4 fun g5 o5 s5 => wpAny_bind (wpAny_letGo (wpAny_pure (wpAny_pure ?_))))))
  replace o5 : IsPair g5 TO x y := o5
  refine wpAny_bind (wpAny_seqItems o5 rfl (wpAny_bind (wpAny_newTuple ?_)))
  have n5 : g5.objs.size = s.heap.objs.size := by rw [s5.1, s4.1, s3.1, s2.1, s1.1]
  have z5 : IsZip g5 z TI TO .ellipsis := s5.extBut _ _ D.TOz.symm (s4.extBut _ _ D.i2z.symm (s3.extBut _ _ D.TOz.symm (s2.extBut _ _ D.i1z.symm z1)))
  have k5 : ∀ e o, e ≠ z → e ≠ TO → e ≠ i1 → e ≠ i2 → s.heap.get? e = some o → g5.get? e = some o := fun e o q1 q2 q3 q4 h => s5.extBut _ _ q2 (s4.extBut _ _ q4 (s3.extBut _ _ q2 (s2.extBut _ _ q3 (s1.extBut _ _ q1 h))))
  have j5 : ItA c g5 i1 l1 (k + 1) := j1.at fun o e => s5.extBut _ o D.TOi1.symm (s4.extBut _ o D.i12 (s3.extBut _ o D.TOi1.symm e))
  have m5 : ItA d g5 i2 l2 (k + 1) := j2.at fun o e => s5.extBut _ o D.TOi2.symm e
  have lz : z < g5.objs.size := Heap.lt_size z5
  show wpAny _ _ (Builtin.SmallTypes.ownedTupleHandOut (.ref z) (.ref g5.objs.size) >>= _) _ _ _; refine wpAny_bind ?_; unfold Builtin.SmallTypes.ownedTupleHandOut
  have z6 : IsZip (g5.push { cls := .type "tuple", data := .seq #[x, y] }) z TI TO .ellipsis := Heap.get?_push_of_some _ z5
  refine wpAny_bind (wpAny_setField_rec z6 (by simp) fun g7 z7 s7 => ?_)
  replace z7 : IsZip g7 z TI TO (rawInt g5.objs.size) := z7
  refine wpAny_setField_rec z7 (by simp) fun g8 z8 s8 => ?_
  replace z8 : IsZip g8 z TI TO (rawInt g5.objs.size) := z8
  have k8 : ∀ e o, e ≠ z → g5.get? e = some o → g8.get? e = some o := fun e o q1 h => s8.extBut _ _ q1 (s7.extBut _ _ q1 (Heap.get?_push_of_some _ h))
  have t8 : IsPair g8 g5.objs.size x y := s8.extBut _ _ (Nat.ne_of_gt lz) (s7.extBut _ _ (Nat.ne_of_gt lz) (Heap.get?_push_size _ rfl))
  refine wpAny_pure ⟨_, rfl, wpAny_pure ?_⟩
  rw [n5] at z8 t8
  show Q (some (.ref g5.objs.size)) _
  rw [n5]
  exact hQ g8 z8 (k8 _ _ D.TOz o5) (j5.at fun o e => k8 _ o D.i1z e) (m5.at fun o e => k8 _ o D.i2z e) t8 fun e o q1 q2 q3 q4 h => k8 e o q1 (k5 e o q1 q2 q3 q4 h)
theorem zipA_end {c d : Bool} {z TI TO i1 i2 l1 l2 : Addr} {k : Nat} {xs ys : Array Value} {p q : Value} {Q : Option Value → Shared → Prop} (hh : A.handled = none) (D : ZipApart z TI TO i1 i2 l1 l2)
    (hz : IsZip s.heap z TI TO .none) (hI : IsPair s.heap TI (.ref i1) (.ref i2)) (hO : IsPair s.heap TO p q) (a1 : ItA c s.heap i1 l1 k) (a2 : ItA d s.heap i2 l2 k) (b1 : SqA c s.heap l1 xs) (b2 : SqA d s.heap l2 ys) (hend : xs[k]? = none ∨ ys[k]? = none)
    (hQ : ∀ h', (∀ e o, e ≠ z → e ≠ TO → e ≠ i1 → e ≠ i2 → s.heap.get? e = some o → h'.get? e = some o) → Q none { s with heap := h' }) : wpAny (model prog w) A (pyNext (.ref z)) Q E s := by
  have tz : s.TypeIs (.ref z) "zip" := ⟨_, hz, rfl⟩
  have stopped : ∀ {h' : Heap} {e : Addr}, (∃ o, h'.get? e = some o ∧ o.cls = .type "StopIteration") → (∀ e o, e ≠ z → e ≠ TO → e ≠ i1 → e ≠ i2 → s.heap.get? e = some o → h'.get? e = some o) →
      wpAny (model prog w) A (do if ← isInstance (.ref e) (.type "StopIteration") then pure (none : Option Value) else throw (.ref e)) Q E { s with heap := h' } := fun {h' e} ⟨o, ho, hc⟩ hk =>
    wpAny_bind (wpAny_isInstance (T := "StopIteration") (b := true) ⟨o, ho, hc⟩ isSubtype_stop (wpAny_pure (hQ _ hk)))
  unfold pyNext
  refine wpAny_bind (wpAny_attempt (wpAny_callSpecial?_slot (name := Str.ofString "__next__") tz F.slot_zip_next (wpAny_call_entry F.slot_zip_next tz F.entry_zip_next ?_ (F.args_zip_next_1 _))))
  show wpAny _ _ (field (.ref z) 2 >>= _) _ _ _; refine wpAny_bind (wpAny_field hz rfl (x := .bool false) rfl ?_)
  show wpAny _ _ (field (.ref z) 3 >>= _) _ _ _; refine wpAny_bind (wpAny_field hz rfl (x := .ref TI) rfl (wpAny_bind (wpAny_seqItems hI rfl ?_)))
  show wpAny _ _ (Builtin.SmallTypes.ownedTupleIsFree (.ref z) >>= _) _ _ _; refine wpAny_bind ?_; unfold Builtin.SmallTypes.ownedTupleIsFree
  refine wpAny_bind (wpAny_field hz rfl (x := .none) rfl (wpAny_pure ?_)); simp only [if_true]
  refine wpAny_bind (wpAny_rule (wpAny_bind (wpAny_field hz rfl (x := .ref TO) rfl (wpAny_bind (wpAny_setField_rec hz (by simp) fun g1 z1 s1 => ?_)))))
  replace z1 : IsZip g1 z TI TO .ellipsis := z1
  refine wpAny_bind ?_; simp only [List.zipIdx_cons, List.zipIdx_nil, List.forIn_cons, List.forIn_nil]
  refine wpAny_bind (wpAny_bind (wpAny_onRaise ?_))
  show wpAny _ _ (Builtin.SmallTypes.nextOf (.ref i1) >>= _) _ _ _
  cases hx : xs[k]? with
  | none =>
    refine wpAny_bind (nextA_end hh (a1.at fun o e => s1.extBut _ o D.i1z e) (b1.at fun o e => s1.extBut _ o D.l1z e) hx fun g2 e s2 ⟨oe, he, ce⟩ => ?_)
    have z2 : IsZip g2 z TI TO .ellipsis := s2 _ _ D.i1z.symm z1
    have ez : e ≠ z := fun y => by subst y; rw [z2] at he; cases he; simp at ce
    exact wpAny_setField_rec z2 (by simp) fun g3 _ s3 => stopped ⟨oe, s3.extBut _ _ ez he, ce⟩ fun e o q1 _ q3 _ h => s3.extBut _ _ q1 (s2 _ _ q3 (s1.extBut _ _ q1 h))
  | some x =>
    have hy : ys[k]? = none := hend.resolve_left (by rw [hx]; simp)
    refine wpAny_bind (nextA_item (a1.at fun o e => s1.extBut _ o D.i1z e) (b1.at fun o e => s1.extBut _ o D.l1z e) hx fun g2 j1 s2 => wpAny_pure ?_)
    have o2 : IsPair g2 TO p q := s2.extBut _ _ D.TOi1 (s1.extBut _ _ D.TOz hO)
    refine wpAny_bind (wpAny_seqItems o2 rfl (wpAny_bind (wpAny_updateSeq_pair o2 fun g3 o3 s3 => wpAny_bind (wpAny_letGo (wpAny_pure ?_)))))
    refine wpAny_bind (wpAny_bind (wpAny_onRaise ?_))
    show wpAny _ _ (Builtin.SmallTypes.nextOf (.ref i2) >>= _) _ _ _
    refine wpAny_bind (nextA_end hh (a2.at fun o e => s3.extBut _ o D.TOi2.symm (s2.extBut _ o D.i12.symm (s1.extBut _ o D.i2z e))) (b2.at fun o e => s3.extBut _ o D.l2TO (s2.extBut _ o D.l2i1 (s1.extBut _ o D.l2z e))) hy fun g4 e s4 ⟨oe, he, ce⟩ => ?_)
    have z4 : IsZip g4 z TI TO .ellipsis := s4 _ _ D.i2z.symm (s3.extBut _ _ D.TOz.symm (s2.extBut _ _ D.i1z.symm z1))
    have ez : e ≠ z := fun y => by subst y; rw [z4] at he; cases he; simp at ce
    exact wpAny_setField_rec z4 (by simp) fun g5 _ s5 => stopped ⟨oe, s5.extBut _ _ ez he, ce⟩ fun e o q1 q2 q3 q4 h => s5.extBut _ _ q1 (s4 _ _ q4 (s3.extBut _ _ q2 (s2.extBut _ _ q3 (s1.extBut _ _ q1 h))))
def itO (b : Bool) (l : Addr) : Obj := { cls := .type (if b then "tuple_iterator" else "list_iterator"), data := .fields #[.ref l, .int 0 0] }
theorem iterA {b : Bool} {l : Addr} {xs : Array Value} {Q : Value → Shared → Prop} (h : SqA b s.heap l xs) (q : Q (.ref s.heap.objs.size) { s with heap := s.heap.push (itO b l) }) : wpAny (model prog w) A (pyIter (.ref l)) Q E s := by
  cases b
  · exact wpAny_pyIter_list h q
  · exact wpAny_pyIter_tuple h q
theorem itO_at {b : Bool} {l it : Addr} {h : Heap} (e : h.get? it = some (itO b l)) : ItA b h it l 0 := by
  cases b <;> exact ⟨_, e, rfl, rfl⟩
abbrev zh1 (c : Bool) (h : Heap) (l1 : Addr) : Heap := h.push (itO c l1)
abbrev zh2 (c d : Bool) (h : Heap) (l1 l2 : Addr) : Heap := (zh1 c h l1).push (itO d l2)
abbrev zh3 (c d : Bool) (h : Heap) (l1 l2 : Addr) : Heap := (zh2 c d h l1 l2).push { cls := .type "tuple", data := .seq #[.ref h.objs.size, .ref (zh1 c h l1).objs.size] }
abbrev zh4 (c d : Bool) (h : Heap) (l1 l2 : Addr) : Heap := (zh3 c d h l1 l2).push { cls := .type "tuple", data := .seq #[.none, .none] }
abbrev zh5 (c d : Bool) (h : Heap) (l1 l2 : Addr) : Heap := (zh4 c d h l1 l2).push { cls := .type "zip", data := .fields #[.none, .bool false, .bool false, .ref (zh2 c d h l1 l2).objs.size, .ref (zh3 c d h l1 l2).objs.size] }
theorem zipA_new (c d : Bool) (l1 l2 : Addr) (xs ys : Array Value) : Meets (Builtin.«zip.__new__» ⟨[.type "zip", .ref l1, .ref l2], []⟩) (fun _ R s => SqA c s.heap l1 xs ∧ SqA d s.heap l2 ys ∧ R (.ok (.ret (.ref (zh4 c d s.heap l1 l2).objs.size))) { s with heap := zh5 c d s.heap l1 l2 }) :=
  .of_wp fun prog w A R s h => by
    obtain ⟨hp, g, dd, tk, os⟩ := s
    obtain ⟨m1, m2, h⟩ := h
    have hsub := PySem.sub_zip
    have M1 : SqA c (Shared.heap ⟨hp, g, dd, tk, os⟩) l1 xs := m1
    have M2 : SqA d (Shared.heap ⟨hp.push (itO c l1), g, dd, tk, os⟩) l2 ys := m2.at fun o e => Heap.get?_push_of_some _ e
    wp_walk using iterA M1, iterA M2
    exact ⟨_, rfl, h⟩
theorem call_zipA {c d : Bool} {l1 l2 : Addr} {xs ys : Array Value} {Q : Value → Shared → Prop} (m1 : SqA c s.heap l1 xs) (m2 : SqA d s.heap l2 ys)
    (h : ∀ h', IsZip h' (s.heap.objs.size + 4) (s.heap.objs.size + 2) (s.heap.objs.size + 3) .none → IsPair h' (s.heap.objs.size + 2) (.ref s.heap.objs.size) (.ref (s.heap.objs.size + 1)) →
      IsPair h' (s.heap.objs.size + 3) .none .none → ItA c h' s.heap.objs.size l1 0 → ItA d h' (s.heap.objs.size + 1) l2 0 → (∀ e o, s.heap.get? e = some o → h'.get? e = some o) → Q (.ref (s.heap.objs.size + 4)) { s with heap := h' }) :
    wpAny (model prog w) A (call (.type "zip") [.ref l1, .ref l2]) Q E s := by
  refine callType_new F.called_zip (by decide) (F.typeCall_zip_2 _ _) (F.newCall_zip_2 _ _) (fun obj => F.args_object_init_3 obj _ _) F.entry_zip_new (zipA_new c d l1 l2 xs ys) ⟨m1, m2, ?_⟩
  have n1 : (zh1 c s.heap l1).objs.size = s.heap.objs.size + 1 := Heap.size_push ..
  have n2 : (zh2 c d s.heap l1 l2).objs.size = s.heap.objs.size + 2 := by rw [Heap.size_push, n1]
  have n3 : (zh3 c d s.heap l1 l2).objs.size = s.heap.objs.size + 3 := by rw [Heap.size_push, n2]
  have n4 : (zh4 c d s.heap l1 l2).objs.size = s.heap.objs.size + 4 := by rw [Heap.size_push, n3]
  have up1 : ∀ {h : Heap} {o u : Obj} {e : Addr}, h.get? e = some u → (h.push o).get? e = some u := fun q => Heap.get?_push_of_some _ q
  have g5 : (zh5 c d s.heap l1 l2).get? (zh4 c d s.heap l1 l2).objs.size = some _ := Heap.get?_push_size _ rfl
  have g4 : (zh5 c d s.heap l1 l2).get? (zh3 c d s.heap l1 l2).objs.size = some _ := up1 (Heap.get?_push_size _ rfl)
  have g3 : (zh5 c d s.heap l1 l2).get? (zh2 c d s.heap l1 l2).objs.size = some _ := up1 (up1 (Heap.get?_push_size _ rfl))
  have g2 : (zh5 c d s.heap l1 l2).get? (zh1 c s.heap l1).objs.size = some (itO d l2) := up1 (up1 (up1 (Heap.get?_push_size _ (by cases d <;> rfl))))
  have g1 : (zh5 c d s.heap l1 l2).get? s.heap.objs.size = some (itO c l1) := up1 (up1 (up1 (up1 (Heap.get?_push_size _ (by cases c <;> rfl)))))
  show _ ∧ _
  rw [n2, n3, n4] at g5
  rw [n1, n2] at g3
  rw [n3] at g4
  rw [n1] at g2
  rw [n4]
  exact ⟨⟨_, g5, rfl⟩, h _ g5 g3 g4 (itO_at g1) (itO_at g2) fun e o q => up1 (up1 (up1 (up1 (up1 q))))⟩
end
def SqE (K : PySem.W.Frag) (H : Hp) (a : Addr) (xs : List V) : Bool → Prop
  | false => SqL K H a xs
  | true => SqT K H a xs
theorem SqE.mono {K : PySem.W.Frag} {H H' : Hp} {a : Addr} {xs : List V} {b : Bool} (e : Ext H H') (h : SqE K H a xs b) : SqE K H' a xs b := by
  cases b
  · exact e.seqL h
  · exact e.seqT h
theorem Inv.sqe {X : Cx} {pins : List (Addr × Obj)} {σ : St} {H : Hp} {s : Shared} {a : Addr} {xs : List V} {b : Bool} (I : Inv X pins σ H s) (h : SqE X.K H a xs b) : ∃ its : List Value, Vals xs its ∧ SqA b s.heap a its.toArray ∧ xs.length ≤ sizeLine := by
  cases b
  · obtain ⟨its, r, p, z⟩ := I.list h; exact ⟨its, r, p.isList, z⟩
  · obtain ⟨its, r, p, z⟩ := I.tuple h; exact ⟨its, r, p, z⟩
theorem Inv.sqe_inj {X : Cx} {pins : List (Addr × Obj)} {σ : St} {H : Hp} {s : Shared} {a : Addr} {xs ys : List V} {b : Bool} (I : Inv X pins σ H s) (h : SqE X.K H a xs b) (h' : SqE X.K H a ys b) : xs = ys := by
  cases b
  · exact I.list_inj h h'
  · exact I.tuple_inj h h'
def Itz2 (K : PySem.W.Frag) (c d : Bool) (p q : Addr) : It :=
  ⟨fun i H => ∃ xs ys, SqE K H p xs c ∧ SqE K H q ys d ∧ i < xs.length ∧ i < ys.length,
   fun i H x H' => ∃ r u v, H r = none ∧ x = .ref r ∧ H' = upd H r (.tup [u, v]) ∧ ∀ xs ys, SqE K H p xs c → SqE K H q ys d → xs[i]? = some u ∧ ys[i]? = some v,
   fun i H => ∃ xs ys, SqE K H p xs c ∧ SqE K H q ys d ∧ (xs.length ≤ i ∨ ys.length ≤ i)⟩
def zst (c d : Bool) (z TI TO i1 i2 l1 l2 : Addr) (i : Nat) (h : Heap) : Prop := IsZip h z TI TO .none ∧ IsPair h TI (.ref i1) (.ref i2) ∧ (∃ a b, IsPair h TO a b) ∧ ItA c h i1 l1 i ∧ ItA d h i2 l2 i
theorem turn_zip2 {P : Program} {w : World} {K : PySem.W.Frag} {es : List Expr} {kx : Nat} {tp : Pos} {cc dd : Bool} {z TI TO i1 i2 l1 l2 : Addr} (D : ZipApart z TI TO i1 i2 l1 l2) :
    Turn P w K (.Tuple es kx tp) (Itz2 K cc dd l1 l2) [z, TI, TO, i1, i2] z (zst cc dd z TI TO i1 i2 l1 l2) where
  mem := by simp
  obj := fun i h st b hb => by
    obtain ⟨hz, hTI, ⟨a, c, hTO⟩, s1, s2⟩ := st
    simp only [List.mem_cons, List.mem_nil_iff, or_false] at hb
    rcases hb with rfl | rfl | rfl | rfl | rfl
    · exact ⟨_, hz, fun v q => by cases q⟩
    · exact ⟨_, hTI, fun v q => by cases q⟩
    · exact ⟨_, hTO, fun v q => by cases q⟩
    · exact s1.ex
    · exact s2.ex
  keep := fun i h h' st k => by
    obtain ⟨hz, hTI, ⟨a, c, hTO⟩, s1, s2⟩ := st
    exact ⟨k z (by simp) _ hz, k TI (by simp) _ hTI, ⟨a, c, k TO (by simp) _ hTO⟩, s1.at fun o e => k i1 (by simp) o e, s2.at fun o e => k i2 (by simp) o e⟩
  item := by
    intro X hP hw hK hc i pins s σ H E I hf st hg
    subst hP hw hK
    obtain ⟨xs, ys, hx, hy, lx, ly⟩ := hg
    obtain ⟨hz, hTI, ⟨a, c, hTO⟩, s1, s2⟩ := id st
    obtain ⟨us, ru, pu, zu⟩ := I.sqe hx
    obtain ⟨ws, rw', pw, zw⟩ := I.sqe hy
    obtain ⟨u, eu, r1⟩ := ru.get (List.getElem?_eq_getElem lx)
    obtain ⟨v, ev, r2⟩ := rw'.get (List.getElem?_eq_getElem ly)
    refine zipA_item D hz hTI hTO s1 s2 pu pw (x := u) (y := v) (by simpa using eu) (by simpa using ev) fun h1 z1 t1 j1 j2 np kk => ⟨_, rfl, ?_⟩
    refine wpAny_letOwnedTupleGo_zip z1 fun h2 z2 sb => ?_
    have nT : s.heap.objs.size ≠ z := Nat.ne_of_gt (Heap.lt_size hz)
    have kk2 : ∀ b o, b ∉ [z, TI, TO, i1, i2] → s.heap.get? b = some o → h2.get? b = some o := fun b o hb e => by
      simp only [List.mem_cons, List.mem_nil_iff, or_false, not_or] at hb
      exact sb.extBut b o hb.1 (kk b o hb.1 hb.2.2.1 hb.2.2.2.1 hb.2.2.2.2 e)
    have np2 : IsPair h2 s.heap.objs.size u v := sb.extBut _ _ nT np
    have I2 := I.turnLaid (t' := s.toks) (a := s.heap.objs.size) (o := .tup [xs[i], ys[i]]) kk2 hf (Nat.le_refl _) (show ObjOk X.prog X.w _ h2 _ (.tup [xs[i], ys[i]]) from ⟨by show 2 ≤ sizeLine; rw [sizeLine_eq]; decide, [u, v], .cons r1 (.cons r2 .nil), ⟨⟨_, np2, rfl, 0, rfl⟩, _, np2, rfl⟩⟩)
    refine ⟨.ref s.heap.objs.size, _, I2, rfl, ⟨_, _, _, I.hok.fresh (Nat.le_refl _), rfl, rfl, fun xs' ys' e1 e2 => ?_⟩, ?_, fun b hb => ?_⟩
    · rw [I.sqe_inj e1 hx, I.sqe_inj e2 hy]
      exact ⟨List.getElem?_eq_getElem lx, List.getElem?_eq_getElem ly⟩
    · exact ⟨z2, sb.extBut _ _ D.TIz (kk TI _ D.TIz D.TITO D.TIi1 D.TIi2 hTI), ⟨_, _, sb.extBut _ _ D.TOz t1⟩, j1.at fun o e => sb.extBut _ o D.i1z e, j2.at fun o e => sb.extBut _ o D.i2z e⟩
    · rw [upd_ne (fun q => ?_)]
      · exact (hf b hb).1
      · have lt : b < s.heap.objs.size := by
          simp only [List.mem_cons, List.mem_nil_iff, or_false] at hb
          rcases hb with rfl | rfl | rfl | rfl | rfl
          · exact Heap.lt_size hz
          · exact Heap.lt_size hTI
          · exact Heap.lt_size hTO
          · exact s1.lt
          · exact s2.lt
        exact absurd lt (by rw [q]; exact Nat.lt_irrefl _)
  done := by
    intro X hP hw hK hc i pins s σ H E I hf st hg
    subst hP hw hK
    obtain ⟨xs, ys, hx, hy, hl⟩ := hg
    obtain ⟨hz, hTI, ⟨a, c, hTO⟩, s1, s2⟩ := st
    obtain ⟨us, ru, pu, zu⟩ := I.sqe hx
    obtain ⟨ws, rw', pw, zw⟩ := I.sqe hy
    have l1 := ru.length
    have l2 := rw'.length
    refine zipA_end (I.ok.hd hc) D hz hTI hTO s1 s2 pu pw ?_ fun h1 kk => ⟨rfl, I.turns (t' := s.toks) (ch := [z, TI, TO, i1, i2]) (fun b o hb e => ?_) hf⟩
    · rcases hl with q | q
      · exact .inl (by simp; omega)
      · exact .inr (by simp; omega)
    · simp only [List.mem_cons, List.mem_nil_iff, or_false, not_or] at hb
      exact kk b o hb.1 hb.2.2.1 hb.2.2.2.1 hb.2.2.2.2 e
  self := fun _ _ _ _ _ st h => wpAny_pyIter_zip st.1 h
section
variable {X : Cx}
def iZip2 (K : PySem.W.Frag) (ta : TA) : TI := fun σ H R => ta σ H fun vs H1 => ∃ p q xs ys c d, vs = [.ref p, .ref q] ∧ SqE K H1 p xs c ∧ SqE K H1 q ys d ∧ R (Itz2 K c d p q) H1
theorem pi_zip2 {es : List Expr} {kx : Nat} {tp : Pos} {a b : Expr} {ta : TA} {p pos : Pos} (hg : Gl X "zip") (hm : X.mg "zip" = none) (ha : PA X [a, b] ta) (hs : starEach [a, b] X.env = [(false, eval a X.env), (false, eval b X.env)] := by rfl) (hs2 : starEach [b] X.env = [(false, eval b X.env)] := by rfl) :
    PI X (.Tuple es kx tp) (.Call (.Name "zip" p) [a, b] [] pos) (iZip2 X.K ta) := by
  intro pins s σ H R I h
  refine Call_ (ld_blt I hg hm boot_zip (PyProof.Rows.callWith_type1 (thn (ha pos pins s σ H _ I h) fun us s1 ⟨vs, H1, I1, r1, q1⟩ => ?_) (by rw [hs, hs2]) (by rw [hs2]; rfl)))
  obtain ⟨p1, p2, xs, ys, c, d, e, hx, hy, q⟩ := q1
  subst e
  obtain ⟨u, v, rfl, ru, rv⟩ := vals2 r1
  cases ru
  cases rv
  obtain ⟨i1, ri1, pl1, z1⟩ := I1.sqe hx
  obtain ⟨i2, ri2, pl2, z2⟩ := I1.sqe hy
  refine call_zipA pl1 pl2 fun h' hz hTI hTO j1 j2 hk => ?_
  have I2 : Inv X pins σ H1 { s1 with heap := h' } := I1.kept (t' := s1.toks) hk
  refine wpAny_pyIter_zip (s := { s1 with heap := h' }) hz ⟨_, [s1.heap.objs.size + 4, s1.heap.objs.size + 2, s1.heap.objs.size + 3, s1.heap.objs.size, s1.heap.objs.size + 1], _, _, H1, rfl, I2, turn_zip2 (zipApart_new pl1.lt pl2.lt), ⟨hz, hTI, ⟨_, _, hTO⟩, j1, j2⟩, fun b hb => ?_, q⟩
  have hb' : s1.heap.objs.size ≤ b := by
    simp only [List.mem_cons, List.mem_nil_iff, or_false] at hb
    rcases hb with rfl | rfl | rfl | rfl | rfl <;> omega
  exact I1.fpOk hb' (I1.hok.fresh hb')
end
theorem for_zip2 {K : PySem.W.Frag} {p q : Addr} {c d : Bool} {xs ys : List V} {g : TG} {tb : TS} {D : Ends} {σ : St} {H : Hp} (Pv : Nat → St → Hp → Prop) (hl : xs.length = ys.length) (h0 : Pv 0 σ H) (hq : ∀ i σ H, i ≤ xs.length → Pv i σ H → SqE K H p xs c ∧ SqE K H q ys d)
    (hs : ∀ i x y σ H r, xs[i]? = some x → ys[i]? = some y → Pv i σ H → H r = none → g (.ref r) σ (upd H r (.tup [x, y])) fun σ2 H2 => tb { D with nx := Pv (i + 1), ct := Pv (i + 1), bk := D.nx } σ2 H2) (hd : ∀ σ H, Pv xs.length σ H → D.nx σ H) :
    ∃ W : Nat → Nat → St → Hp → Prop, (∃ m, W 0 m σ H) ∧ ∀ i m σ H, W i m σ H →
      ((Itz2 K c d p q).stop i H ∧ D.nx σ H) ∨ ((Itz2 K c d p q).go i H ∧ ∃ N : St → Hp → Prop, (∀ σ' H', N σ' H' → ∃ m', m' < m ∧ W (i + 1) m' σ' H') ∧ ∀ x H', (Itz2 K c d p q).yld i H x H' → g x σ H' fun σ2 H2 => tb { D with nx := N, ct := N, bk := D.nx } σ2 H2) := by
  refine ⟨fun i m σ H => m = xs.length - i ∧ i ≤ xs.length ∧ Pv i σ H, ⟨xs.length, by simp, Nat.zero_le _, h0⟩, ?_⟩
  rintro i m σ H ⟨rfl, hi, pv⟩
  obtain ⟨q1, q2⟩ := hq i σ H hi pv
  by_cases hlt : i < xs.length
  · refine .inr ⟨⟨xs, ys, q1, q2, hlt, by omega⟩, Pv (i + 1), fun σ' H' p' => ⟨xs.length - (i + 1), by omega, rfl, hlt, p'⟩, fun x H' y => ?_⟩
    obtain ⟨r, u, v, n, rfl, rfl, y⟩ := y
    obtain ⟨e1, e2⟩ := y xs ys q1 q2
    exact hs i u v σ _ r e1 e2 pv n
  · have e : i = xs.length := by omega
    subst e
    exact .inl ⟨⟨xs, ys, q1, q2, .inl (Nat.le_refl _)⟩, hd σ H pv⟩
section
variable {prog : Program} {w : World} {A : Around} {E : Value → Shared → Prop} {s : Shared}
theorem collectA {b : Bool} {l : Addr} {vs : List Value} {Q : List Value → Shared → Prop} (hl : SqA b s.heap l vs.toArray) (hz : vs.length ≤ sizeLine)
    (h : Q vs { s with heap := (s.heap.push (seqObj "list" #[] 0)).update s.heap.objs.size (Obj.mapSeq (· ++ vs.toArray)) }) : wpAny (model prog w) A (collect (.ref l)) Q E s := by
  cases b with
  | false => exact collect_list hl h hz
  | true =>
    obtain ⟨ob, eb, cb, nb, db⟩ := id hl
    unfold collect; refine wpAny_bind (wpAny_runValue (codeAny_builtin entry_proto_collect' ?_))
    show wpAny _ _ (do again (.builtin "list.__iadd__" ⟨[← newList [], .ref l], []⟩)) _ _ _; refine wpAny_bind (wpAny_newList (wpAny_pure ⟨Code.quiet_builtin _ (by decide +kernel), codeAny_builtin entry_list_iadd' ?_⟩))
    show wpAny _ _ (Builtin.List.listExtendWith (.ref s.heap.objs.size) (.ref l) (.ref s.heap.objs.size)) _ _ { s with heap := s.heap.push (seqObj "list" #[] 0) }; unfold Builtin.List.listExtendWith
    have eb' : (s.heap.push (seqObj "list" #[] 0)).get? l = some ob := Heap.get?_push_of_some _ eb
    refine wpAny_bind (wpAny_typeOf (T := "tuple") ⟨ob, eb', cb⟩ ?_)
    rw [if_pos (by rw [show (Value.type "tuple" == Value.type "tuple") = true from rfl]; simp)]
    refine wpAny_bind (listItems_at eb' db (wpAny_bind (listItems_at (xs := #[]) (n := 0) (Heap.get?_push_size _ rfl) rfl ?_))); rw [if_neg (by simp)]
    refine wpAny_bind (listUpdate_at (xs := #[]) (n := 0) (Heap.get?_push_size _ rfl) rfl (wpAny_pure ?_) (Nat.zero_le _) (by show (#[] ++ vs.toArray).size ≤ sizeLine + 1; simp only [Array.size_append, List.size_toArray, List.length_nil]; omega))
    show wpAny (model prog w) A (do let o ← load s.heap.objs.size; match o.data with | .seq xs _ => pure xs.toList | _ => unsupported "internal:collect") Q E { s with heap := (s.heap.push (seqObj "list" #[] 0)).update s.heap.objs.size (Obj.mapSeq (· ++ vs.toArray)) }
    refine wpAny_bind (wpAny_load (get?_update_seq (Heap.get?_push_size _ rfl) _) ?_)
    show wpAny _ _ (pure ((#[] : Array Value) ++ vs.toArray).toList) Q E _; rw [show ((#[] : Array Value) ++ vs.toArray).toList = vs by simp]; exact wpAny_pure h
theorem sortedA {b : Bool} {l : Addr} {vs : List Value} {ns : List Int} {Q : Value → Shared → Prop} (hl : SqA b s.heap l vs.toArray) (hz : vs.length ≤ sizeLine) (hI : IntsAre vs ns) (h64 : vs.length < 64)
    (h : ∀ (out : Array Value) (ns' : List Int), IntsAre out.toList ns' → ns'.Perm ns → ns'.Pairwise (· ≤ ·) → Q (.ref (s.heap.objs.size + 1)) { s with heap := sortedAll s.heap vs out }) : wpAny (model prog w) A (call (.builtin "sorted") [.ref l]) Q E s := by
  refine Calls.call_function_entry kind_sorted plain_sorted entry_sorted (args_sorted1 _) ?_; unfold Builtin.«sorted»
  refine wpAny_bind (m := checkCount "sorted" 1 1 _) (wpAny_pure (wpAny_bind (collectA hl hz (wpAny_bind (wpAny_newList ?_)))))
  have n1 : ((s.heap.push (seqObj "list" #[] 0)).update s.heap.objs.size (Obj.mapSeq (· ++ vs.toArray))).objs.size = s.heap.objs.size + 1 := by rw [Heap.size_update, size_push']
  have o1 : (((s.heap.push (seqObj "list" #[] 0)).update s.heap.objs.size (Obj.mapSeq (· ++ vs.toArray))).push (seqObj "list" vs.toArray 0)).get? (s.heap.objs.size + 1) = some (seqObj "list" vs.toArray 0) := by rw [← n1]; exact Heap.get?_push_size _ rfl
  show wpAny _ _ _ _ _ { s with heap := ((s.heap.push (seqObj "list" #[] 0)).update s.heap.objs.size (Obj.mapSeq (· ++ vs.toArray))).push (seqObj "list" vs.toArray 0) }; rw [n1]
  exact wpAny_bind (wpAny_holding (wpAny_call_entry slot_list_sort ⟨_, o1, rfl⟩ entry_list_sort (list_sort_tree o1 hI h64 fun out ns' a1 a2 a3 => ⟨_, rfl, wpAny_pure ⟨_, rfl, h out ns' a1 a2 a3⟩⟩) (args_list_sort _)))
end
section
variable {X : Cx}
def rSorted (K : PySem.W.Frag) : List V → Hp → VK → Prop := fun xs H Q => ∃ (p : Addr) (ns : List Int) (c : Bool), xs = [.ref p] ∧ SqE K H p (ns.map V.int) c ∧ ns.length < 64 ∧ ∀ l (ns' : List Int), H l = none → ns'.Perm ns → ns'.Pairwise (· ≤ ·) → Q (.ref l) (upd H l (.lst (ns'.map V.int)))
theorem cSorted : CallR X (.builtin "sorted") (rSorted X.K) := by
  intro pins s σ H xs us Q I r h
  obtain ⟨p, ns, c, rfl, hq, h64, q⟩ := h
  obtain ⟨u, rfl, rx⟩ := vals1 r
  cases rx
  obtain ⟨its, r', pl, hz⟩ := I.sqe hq
  have hi : IntsAre its ns := intsAre_of r'
  have hlen := r'.length
  rw [List.length_map] at hlen hz
  refine sortedA pl (by omega) hi (by omega) fun out ns' a1 a2 a3 => ?_
  obtain ⟨e, he⟩ := sortedAll_at s.heap its out
  refine ⟨.ref (s.heap.objs.size + 1), _, I.laid (t' := s.toks) (fun b o q => sortedAll_old q) (Nat.le_succ _) (show ObjOk X.prog X.w _ _ _ (.lst (ns'.map V.int)) from ⟨by rw [List.length_map, a2.length_eq]; exact hz, out.toList, e, vals_ints a1, by simpa using he⟩), rfl, q _ ns' (I.hok.fresh (Nat.le_succ _)) a2 a3⟩
def rAll (K : PySem.W.Frag) : List V → Hp → VK → Prop := fun xs H Q => ∃ (p : Addr) (bs : List Bool), xs = [.ref p] ∧ SqL K H p (bs.map V.bl) ∧ Q (.bl (bs.all id)) H
theorem bools_of : ∀ {bs : List Bool} {us : List Value}, Vals (bs.map V.bl) us → us = bs.map Value.bool
  | [], us, r => by cases r; rfl
  | b :: bs, us, r => by
    cases r with
    | cons r1 r2 => rw [bools_of r2, show _ = Value.bool b from r1]; rfl
theorem all_range : ∀ bs : List Bool, (List.range bs.length).all (fun i => bs.getD i true) = bs.all id := by
  intro bs
  rw [Bool.eq_iff_iff, List.all_eq_true, List.all_eq_true]
  constructor
  · intro h x hx
    obtain ⟨i, hi, rfl⟩ := List.getElem_of_mem hx
    have := h i (List.mem_range.mpr hi)
    rwa [List.getD_eq_getElem?_getD, List.getElem?_eq_getElem hi] at this
  · intro h i hi
    have hi' := List.mem_range.mp hi
    rw [List.getD_eq_getElem?_getD, List.getElem?_eq_getElem hi']
    exact h _ (List.getElem_mem hi')
theorem cAll (hc : X.calm = true) : CallR X (.builtin "all") (rAll X.K) := by
  intro pins s σ H xs us Q I r h
  obtain ⟨p, bs, rfl, hq, q⟩ := h
  obtain ⟨u, rfl, rx⟩ := vals1 r
  cases rx
  obtain ⟨its, r', pl, hz⟩ := I.list hq
  have e := bools_of r'
  subst e
  refine call_all_walk (wpAny_pyIter_list pl.isList ?_)
  have ne : p ≠ s.heap.objs.size := by obtain ⟨_, e, _⟩ := pl.isList; exact Nat.ne_of_lt (Heap.lt_size e)
  refine ⟨s.heap.objs.size, _, _, _, _, _, fun i => bs.getD i true, rfl, Walks.list (A := X.A.in1) (I.ok.hd hc) _ p ne (bs.map Value.bool).toArray, ⟨⟨_, Heap.get?_push_size _ rfl, rfl, rfl⟩, Heap.IsList.push pl.isList _⟩, fun i v s' Q' E' hv hQ => ?_, fun h' tk hk => ?_⟩
  · have hv' : (bs.map Value.bool)[i]? = some v := by simpa using hv
    rw [List.getElem?_map] at hv'
    cases e : bs[i]? with
    | none => rw [e] at hv'; cases hv'
    | some b =>
      rw [e] at hv'
      cases hv'
      refine wpAny_truthy_bool ?_
      have : bs.getD i true = b := by rw [List.getD_eq_getElem?_getD, e]; rfl
      have hQ' : Q' (bs.getD i true) s' := hQ
      rw [this] at hQ'
      exact hQ'
  · refine ⟨.bl (bs.all id), H, I.kept (t' := tk) fun b o q => hk b o (by simp; exact Nat.ne_of_lt (Heap.lt_size q)) (Heap.get?_push_of_some _ q), ?_, q⟩
    show Value.bool _ = Value.bool _
    rw [← all_range bs]
    simp
end
mutual
def D.py : D → PyData
  | .non => .none | .bl b => .bool b | .int i => .int i | .str x => .str x | .tup l => .tuple (D.pyL l) | .lst l => .list (D.pyL l) | .dct => .dict []
def D.pyL : List D → List PyData
  | [] => []
  | d :: r => d.py :: D.pyL r
def D.eqOk : D → Bool
  | .str x => PyData.strOk x
  | .tup l => D.eqOkL l
  | .lst l => D.eqOkL l
  | .dct => false
  | _ => true
def D.eqOkL : List D → Bool
  | [] => true
  | d :: r => d.eqOk && D.eqOkL r
end
mutual
theorem D.canLay : ∀ d : D, d.eqOk = true → d.py.canLay0 = true
  | .non, _ => by simp [D.py, PyData.canLay0]
  | .bl _, _ => by simp [D.py, PyData.canLay0]
  | .int _, _ => by simp [D.py, PyData.canLay0]
  | .str x, h => by simp only [D.eqOk] at h; simpa [D.py, PyData.canLay0] using h
  | .tup l, h => by simp only [D.eqOk] at h; simpa [D.py, PyData.canLay0] using D.canLayL l h
  | .lst l, h => by simp only [D.eqOk] at h; simpa [D.py, PyData.canLay0] using D.canLayL l h
  | .dct, h => by simp [D.eqOk] at h
theorem D.canLayL : ∀ l : List D, D.eqOkL l = true → PyData.canLayAll0 (D.pyL l) = true
  | [], _ => by simp [D.pyL, PyData.canLayAll0]
  | d :: r, h => by
    simp only [D.eqOkL, Bool.and_eq_true] at h
    simp [D.pyL, PyData.canLayAll0, D.canLay d h.1, D.canLayL r h.2]
theorem D.pyDepth : ∀ d : D, d.py.depth ≤ d.depth + 1
  | .non => by simp [D.py, PyData.depth]
  | .bl _ => by simp [D.py, PyData.depth]
  | .int _ => by simp [D.py, PyData.depth]
  | .str _ => by simp [D.py, PyData.depth]
  | .tup l => by have := D.pyDepthL l; simp only [D.py, PyData.depth, D.depth]; omega
  | .lst l => by have := D.pyDepthL l; simp only [D.py, PyData.depth, D.depth]; omega
  | .dct => by simp [D.py, PyData.depth, PyData.depthKv, D.depth]
theorem D.pyDepthL : ∀ l : List D, PyData.depthAll (D.pyL l) ≤ D.depthL l + 1
  | [] => by simp [D.pyL, PyData.depthAll]
  | d :: r => by have a := D.pyDepth d; have b := D.pyDepthL r; simp only [D.pyL, PyData.depthAll, D.depthL]; omega
end
section
variable {X : Cx} {pins : List (Addr × Obj)} {σ : St} {H : Hp} {s : Shared}
mutual
theorem reads_of (I : Inv X pins σ H s) : ∀ (d : D) {v : V} {u : Value}, Rep H d v → RelV v u → d.eqOk = true → ∃ as, Reads s.heap u d.py as
  | .non, v, u, h, r, _ => by unfold Rep at h; subst h; cases (show u = Value.none from r); exact ⟨_, .none⟩
  | .bl b, v, u, h, r, _ => by unfold Rep at h; subst h; cases (show u = Value.bool b from r); exact ⟨_, .bool b⟩
  | .int i, v, u, h, r, _ => by unfold Rep at h; subst h; obtain ⟨t, rfl⟩ := r; exact ⟨_, .int i t⟩
  | .str x, v, u, h, r, _ => by unfold Rep at h; subst h; obtain ⟨t, rfl⟩ := r; exact ⟨_, .str x t⟩
  | .tup l, v, u, h, r, ok => by
    unfold Rep at h
    obtain ⟨p, xs, rfl, hp, hl⟩ := h
    cases (show u = Value.ref p from r)
    obtain ⟨its, rv, ht, hz⟩ := I.tuple (SqT.of (K := X.K) hp)
    obtain ⟨as, ra⟩ := readsL_of I l hl rv (by simpa [D.eqOk] using ok)
    obtain ⟨o, e, c, n, dt⟩ := ht
    exact ⟨as, .tuple e c dt (by simpa using ra)⟩
  | .lst l, v, u, h, r, ok => by
    unfold Rep at h
    obtain ⟨p, xs, rfl, hp, hl⟩ := h
    cases (show u = Value.ref p from r)
    obtain ⟨its, rv, ht, hz⟩ := I.list (SqL.of (K := X.K) hp)
    obtain ⟨as, ra⟩ := readsL_of I l hl rv (by simpa [D.eqOk] using ok)
    obtain ⟨o, e, c, n, dt⟩ := ht.isList
    exact ⟨_, .list e c dt (by simpa using ra)⟩
  | .dct, v, u, h, r, ok => by simp [D.eqOk] at ok
theorem readsL_of (I : Inv X pins σ H s) : ∀ (l : List D) {vs : List V} {us : List Value}, RepL H l vs → Vals vs us → D.eqOkL l = true → ∃ as, ReadsAll s.heap us (D.pyL l) as
  | [], vs, us, h, r, _ => by unfold RepL at h; subst h; cases r; exact ⟨_, .nil⟩
  | d :: l, vs, us, h, r, ok => by
    unfold RepL at h
    obtain ⟨x, t, rfl, hd, hl⟩ := h
    simp only [D.eqOkL, Bool.and_eq_true] at ok
    cases r with
    | cons r1 r2 =>
      obtain ⟨as, a1⟩ := reads_of I d hd r1 ok.1
      obtain ⟨bs, b1⟩ := readsL_of I l hl r2 ok.2
      exact ⟨_, .cons a1 b1⟩
end
def eqD (a b : D) : Bool := PyData.eqv a.py b.py
def rEqD (neg : Bool) : R2 := fun x y H Q => ∃ a b, Rep H a x ∧ Rep H b y ∧ a.eqOk = true ∧ b.eqOk = true ∧ a.depth ≤ 20 ∧ Q (.bl (if neg then !eqD a b else eqD a b)) H
def rEqU : R2 := fun x y H Q => rEq x y H Q ∨ rEqD false x y H Q
def rNeU : R2 := fun x y H Q => rNe x y H Q ∨ rEqD true x y H Q
theorem op_eqD {k : Nat} (hr : Room k X.A) : OpR X (compareOp .Eq) (rEqD false) := by
  intro pins s σ H x y v u Q I rx ry h
  obtain ⟨a, b, ha, hb, oa, ob, hd, q⟩ := h
  obtain ⟨as, r1⟩ := reads_of I a ha rx oa
  obtain ⟨bs, r2⟩ := reads_of I b hb ry ob
  have h1 := D.pyDepth a
  exact SeqAt.compareEq_reads r1 r2 (D.canLay a oa) (D.canLay b ob) (by have := hr.units; omega) ⟨.bl (eqD a b), H, I, rfl, q⟩
theorem oEq {k : Nat} (hr : Room k X.A) : OpR X (compareOp .Eq) rEqU := op_eq.or (op_eqD hr)
end
section
variable {X : Cx}
def rCatT2 (K : PySem.W.Frag) : R2 := fun x y H Q => ∃ a b xs ys, x = .ref a ∧ y = .ref b ∧ SqT K H a xs ∧ SqT K H b ys ∧ xs.length + ys.length ≤ 1000000 ∧
  (xs = [] → Q (.ref b) H) ∧ (xs ≠ [] → ys = [] → Q (.ref a) H) ∧ (xs ≠ [] → ys ≠ [] → ∀ p, H p = none → Q (.ref p) (upd H p (.tup (xs ++ ys))))
theorem op_catT2 : OpR X (binaryOp .Add) (rCatT2 X.K) := by
  intro pins s σ H x y v u Q I rx ry h
  obtain ⟨a, b, xs, ys, rfl, rfl, ha, hb, hl, q0, q1, q2⟩ := h
  cases rx
  cases ry
  obtain ⟨is1, r1, t1, z1⟩ := I.tuple ha
  obtain ⟨is2, r2, t2, z2⟩ := I.tuple hb
  have l1 := r1.length
  have l2 := r2.length
  have hz : is1.length + is2.length ≤ sizeLine := by rw [sizeLine_eq]; omega
  by_cases e : is1 = []
  · subst e
    have ex : xs = [] := List.length_eq_zero_iff.mp (by simpa using l1)
    obtain ⟨⟨cls, dd, data, sl⟩, ho, hc, n, hd⟩ := id t1
    obtain ⟨⟨cls2, dd2, data2, sl2⟩, ho2, hc2, n2, hd2⟩ := id t2
    simp only at hc hd hc2 hd2
    subst hc hd hc2 hd2
    exact concat_meets ⟨_, ho, rfl⟩ ⟨_, ho2, rfl⟩ noFill_tuple_add seq_tuple_add PySem.F.slot_tuple_add PySem.F.entry_tuple_add (PySem.F.args_tuple_add_2 _ _)
      (tuple_addW0 a b _ is2.toArray n n2 dd dd2 sl sl2 (by simp)) ⟨ho, ho2, ⟨.ref b, H, I, rfl, q0 ex⟩⟩
  · have ex : xs ≠ [] := fun z => e (List.length_eq_zero_iff.mp (by rw [← l1, z]; rfl))
    refine HT.cat_tup t1 t2 e (fun w => ⟨.ref a, H, I, rfl, q1 ex (List.length_eq_zero_iff.mp (by rw [l2, w]; rfl))⟩) (fun w => ?_) hz
    have ey : ys ≠ [] := fun z => w (List.length_eq_zero_iff.mp (by rw [← l2, z]; rfl))
    refine ⟨.ref s.heap.objs.size, _, I.laid (t' := s.toks) (fun b o e => Heap.get?_push_of_some _ e) (Nat.le_refl _) (show ObjOk X.prog X.w _ _ _ (.tup (xs ++ ys)) from ⟨by rw [List.length_append]; omega, is1 ++ is2, r1.append r2, TupN.new _ _⟩), rfl, q2 ex ey _ (I.hok.fresh (Nat.le_refl _))⟩
def rAddV (K : PySem.W.Frag) : R2 := fun x y H Q => (rI0 (fun i j => .int (i + j)) x y H Q ∨ rCat x y H Q) ∨ rCatT2 K x y H Q
theorem oAddV : OpR X (binaryOp .Add) (rAddV X.K) := (op_add.or op_cat).or op_catT2
end
section
variable {K : PySem.W.Frag} {σ : St} {H : Hp} {Q : VK} {D : Ends}
theorem r_addV {i j : Int} (q : Q (.int (i + j)) H) : rAddV K (.int i) (.int j) H Q := .inl (.inl ⟨i, j, rfl, rfl, q⟩)
theorem r_catL {l b : Addr} {xs zs : List V} (h1 : H l = some (.lst xs)) (h2 : H b = some (.lst zs)) (hl : xs.length + zs.length ≤ 1000000) (q : ∀ p H', H p = none → H' p = some (.lst (xs ++ zs)) → Ext H H' → Q (.ref p) H') : rAddV K (.ref l) (.ref b) H Q :=
  .inl (.inr ⟨l, b, xs, zs, rfl, rfl, h1, h2, Nat.le_trans hl (by rw [sizeLine_eq]; decide), fun p n => q p _ n upd_same (ext_upd n)⟩)
theorem r_catT {l b : Addr} {xs zs : List V} (h1 : H l = some (.tup xs)) (h2 : H b = some (.tup zs)) (hl : xs.length + zs.length ≤ 1000000) (q : ∀ p H', H' p = some (.tup (xs ++ zs)) → Ext H H' → Q (.ref p) H') : rAddV K (.ref l) (.ref b) H Q :=
  .inr ⟨l, b, xs, zs, rfl, rfl, SqT.of h1, SqT.of h2, hl, fun e => q b H (by rw [e]; exact h2) Ext.rfl', fun _ e => q l H (by rw [e, List.append_nil]; exact h1) Ext.rfl', fun _ _ p n => q p _ upd_same (ext_upd n)⟩
theorem r_sl {r : V → Option Int → Option Int → Hp → VK → Prop} {te : TE} {tl th : TO} (q : te σ H fun x H1 => tl σ H1 fun l H2 => th σ H2 fun u H3 => r x l u H3 Q) : tSl r te tl th σ H Q := q
theorem r_nopart {R : Option Int → Hp → Prop} (q : R none H) : tNoPart σ H R := q
def rPart (x : V) (R : Option Int → Hp → Prop) (H : Hp) : Prop := ∃ i, x = .int i ∧ R (some i) H
theorem r_part {te : TE} {R : Option Int → Hp → Prop} (q : te σ H fun x H1 => rPart x R H1) : tPart te σ H R := q
theorem r_partI {i : Int} {R : Option Int → Hp → Prop} (q : R (some i) H) : rPart (.int i) R H := ⟨i, rfl, q⟩
theorem r_slT {p : Addr} {xs : List V} {lo hi : Option Int} (h : H p = some (.tup xs)) (nw : ¬ (HT.sIx xs.length 0 lo = 0 ∧ HT.sIx xs.length xs.length hi = xs.length)) (q : ∀ l H', H l = none → H' l = some (.tup (cutV xs lo hi)) → Ext H H' → Q (.ref l) H') : rSlU K (.ref p) lo hi H Q := .inl ⟨p, xs, rfl, SqT.of h, nw, fun l n => q l _ n upd_same (ext_upd n)⟩
theorem r_zip2 {ta : TA} {R : It → Hp → Prop} (q : ta σ H fun vs H1 => ∃ p q xs ys c d, vs = [.ref p, .ref q] ∧ SqE K H1 p xs c ∧ SqE K H1 q ys d ∧ R (Itz2 K c d p q) H1) : iZip2 K ta σ H R := q
theorem r_sortedL {p : Addr} {ns : List Int} (h : H p = some (.lst (ns.map V.int))) (hl : ns.length < 64) (q : ∀ l (ns' : List Int) H', H l = none → ns'.Perm ns → ns'.Pairwise (· ≤ ·) → H' l = some (.lst (ns'.map V.int)) → Ext H H' → Q (.ref l) H') : rSorted K [.ref p] H Q :=
  ⟨p, ns, false, rfl, SqL.of h, hl, fun l ns' n a b => q l ns' _ n a b upd_same (ext_upd n)⟩
theorem r_sortedT {p : Addr} {ns : List Int} (h : H p = some (.tup (ns.map V.int))) (hl : ns.length < 64) (q : ∀ l (ns' : List Int) H', H l = none → ns'.Perm ns → ns'.Pairwise (· ≤ ·) → H' l = some (.lst (ns'.map V.int)) → Ext H H' → Q (.ref l) H') : rSorted K [.ref p] H Q :=
  ⟨p, ns, true, rfl, SqT.of h, hl, fun l ns' n a b => q l ns' _ n a b upd_same (ext_upd n)⟩
theorem r_all {p : Addr} {bs : List Bool} (h : H p = some (.lst (bs.map V.bl))) (q : Q (.bl (bs.all id)) H) : rAll K [.ref p] H Q := ⟨p, bs, rfl, SqL.of h, q⟩
theorem r_eqUI {i j : Int} (q : Q (.bl (decide (i = j))) H) : rEqU (.int i) (.int j) H Q := .inl (r_eqI q)
theorem r_eqUB {i j : Bool} (q : Q (.bl (decide (i = j))) H) : rEqU (.bl i) (.bl j) H Q := .inl (r_eqB q)
theorem r_eqUS {i j : Str} (q : Q (.bl (decide (i = j))) H) : rEqU (.str i) (.str j) H Q := .inl (r_eqS q)
theorem r_eqD {x y : V} {a b : L2.D} (ha : Rep H a x) (hb : Rep H b y) (oa : a.eqOk = true) (ob : b.eqOk = true) (hd : a.depth ≤ 20) (q : Q (.bl (eqD a b)) H) : rEqU x y H Q := .inr ⟨a, b, ha, hb, oa, ob, hd, q⟩
theorem r_tests0 {te : TE} {Y : V → Hp → Prop} {N : Hp → Prop} (q : te σ H Y) : tTests [] σ H fun b H3 => if b = true then te σ H3 Y else N H3 := by
  show (if true = true then te σ H Y else N H)
  rw [if_pos rfl]
  exact q
theorem r_tests1 {t : TT} {R : Bool → Hp → Prop} (q : t σ H fun b H1 => if b = true then R true H1 else R false H1) : tTests [t] σ H R := q
end
theorem eqv_ints : ∀ ns ms : List Int, PyData.eqvAll (D.pyL (ns.map D.int)) (D.pyL (ms.map D.int)) = decide (ns = ms)
  | [], [] => by simp [D.pyL, PyData.eqvAll]
  | [], _ :: _ => by simp [D.pyL, PyData.eqvAll]
  | _ :: _, [] => by simp [D.pyL, PyData.eqvAll]
  | a :: r, b :: t => by
    simp only [List.map_cons, D.pyL, PyData.eqvAll, D.py, PyData.eqv, eqv_ints r t]
    rw [Bool.eq_iff_iff]
    simp
theorem eqD_ints_l (ns ms : List Int) : eqD (.lst (ns.map D.int)) (.lst (ms.map D.int)) = decide (ns = ms) := by
  unfold eqD; simp only [D.py, PyData.eqv]; exact eqv_ints ns ms
theorem eqD_ints_t (ns ms : List Int) : eqD (.tup (ns.map D.int)) (.tup (ms.map D.int)) = decide (ns = ms) := by
  unfold eqD; simp only [D.py, PyData.eqv]; exact eqv_ints ns ms
theorem eqOk_ints (ns : List Int) : D.eqOkL (ns.map D.int) = true := by
  induction ns with
  | nil => rfl
  | cons n r ih => show (D.eqOk (.int n) && D.eqOkL (r.map D.int)) = true; rw [ih]; rfl
theorem Rep.tupInts {H : Hp} {p : Addr} {ns : List Int} (h : H p = some (.tup (ns.map V.int))) : Rep H (.tup (ns.map D.int)) (.ref p) := Rep.tupI h (RepL.ints ns)
theorem Rep.lstInts {H : Hp} {p : Addr} {ns : List Int} (h : H p = some (.lst (ns.map V.int))) : Rep H (.lst (ns.map D.int)) (.ref p) := Rep.lstI h (RepL.ints ns)
theorem r_eqLI {H : Hp} {Q : VK} {p q : Addr} {ns ms : List Int} (h1 : H p = some (.lst (ns.map V.int))) (h2 : H q = some (.lst (ms.map V.int))) (k : Q (.bl (decide (ns = ms))) H) : rEqU (.ref p) (.ref q) H Q :=
  r_eqD (Rep.lstInts h1) (Rep.lstInts h2) (eqOk_ints _) (eqOk_ints _) (by show D.depthL _ + 1 ≤ 20; rw [depthL_ints]; decide) (by rw [eqD_ints_l]; exact k)
theorem r_eqTI {H : Hp} {Q : VK} {p q : Addr} {ns ms : List Int} (h1 : H p = some (.tup (ns.map V.int))) (h2 : H q = some (.tup (ms.map V.int))) (k : Q (.bl (decide (ns = ms))) H) : rEqU (.ref p) (.ref q) H Q :=
  r_eqD (Rep.tupInts h1) (Rep.tupInts h2) (eqOk_ints _) (eqOk_ints _) (by show D.depthL _ + 1 ≤ 20; rw [depthL_ints]; decide) (by rw [eqD_ints_t]; exact k)
theorem get_int {ns : List Int} {i : Nat} {x : V} (h : (ns.map V.int)[i]? = some x) : ∃ n, ns[i]? = some n ∧ x = .int n := by
  rw [List.getElem?_map] at h
  cases e : ns[i]? with
  | none => rw [e] at h; cases h
  | some n => rw [e] at h; cases h; exact ⟨n, rfl, rfl⟩
theorem atI_ints {ns : List Int} {k : Int} (h0 : 0 ≤ k) (h1 : k < ns.length) : atI (ns.map V.int) k = some (.int (ns.getD k.toNat 0)) := by
  refine atI_int h0 ?_
  rw [List.getElem?_map, List.getElem?_eq_getElem (by omega), List.getD_eq_getElem?_getD, List.getElem?_eq_getElem (by omega)]
  rfl
theorem sorted_uniq {a b c : List Int} (h1 : a.Perm c) (h2 : b.Perm c) (s1 : a.Pairwise (· ≤ ·)) (s2 : b.Pairwise (· ≤ ·)) : a = b :=
  List.Perm.eq_of_pairwise (fun x y _ _ h1 h2 => Int.le_antisymm h1 h2) s1 s2 (h1.trans h2.symm)
section
variable {X : Cx}
def IsMin (m : Int) (ns : List Int) : Prop := m ∈ ns ∧ ∀ x ∈ ns, m ≤ x
theorem IsMin.uniq {a b : Int} {ns : List Int} (h1 : IsMin a ns) (h2 : IsMin b ns) : a = b := by
  have := h1.2 b h2.1
  have := h2.2 a h1.1
  omega
end
structure FunD (K : PySem.W.Frag) (x qual : Str) (st : Stmt) (f : Addr) (fd : FuncData) (ds : List Value) : Prop where
  ex : ∃ (oc : Value) (od : Option Addr) (T : Addr) (kV doc pm : Value) (an : Option Addr) (cdv ct : Value) (osl : Array (Option Value)) (tc : Value) (td : Option Addr) (tn : Nat) (tsl : Array (Option Value)),
    fd = PySem.W.fnOf x qual (defArgs st) (defBody st) (defScope st) (.ref T) kV doc pm an cdv ct ∧ K.lookup f = some ⟨oc, od, .func fd, osl⟩ ∧ PySem.W.codeIn K cdv qual = true ∧ K.lookup T = some ⟨tc, td, .seq ds.toArray tn, tsl⟩
  kp : PySem.W.keepIn K (.ref f) = true
section
variable {P : Program} {w : World} {K : PySem.W.Frag} {mg : Str → Option Value} {base : Heap} {ds : List Value}
theorem FunD.binds {x qual : Str} {st : Stmt} {f : Addr} {fd : FuncData} {ps : List Str} {es : List Value} (F : FunD K x qual st f fd ds)
    (h : ∀ (T : Addr) (kV doc pm : Value) (an : Option Addr) (cdv ct : Value) (us : List Value), (us ++ es).length = ps.length → ∃ k : Option (Array Value) → Sem (List (Str × Value)), bindArgs (PySem.W.fnOf x qual (defArgs st) (defBody st) (defScope st) (.ref T) kV doc pm an cdv ct) ⟨us, []⟩ = (seqItems? (.ref T) >>= k) ∧ k (some ds.toArray) = pure (ps.zip (us ++ es))) : Binds K fd ps es := by
  obtain ⟨oc, od, T, kV, doc, pm, an, cdv, ct, osl, tc, td, tn, tsl, rfl, lk, hcd, hT⟩ := F.ex
  intro s us KX hl
  obtain ⟨k, h1, h2⟩ := h T kV doc pm an cdv ct us hl
  exact PySem.W.binds_K (T := T) KX rfl hT rfl h1 h2
end
structure IsC (K : PySem.W.Frag) (C B : Addr) : Prop where
  ha : PySem.W.findIn K (.ref C) "__class__" = some (some (.builtin "object.__class__"))
  hn : PySem.W.specialIn K (.builtin "object.__class__") "__get__" = some (some (.builtin "getset_descriptor.__get__"))
  htk : PySem.W.takesIn K (.builtin "object.__class__") = some true
  hm : PySem.W.mroIn K C (.type "object") = some true
  ki : PySem.W.kitOne K (.ref C) (.ref B) = some true
section
variable {K : PySem.W.Frag} {α β γ : Type} {te : TE} {acc : Addr} {fr : St} {H1 : Hp} {R : Hp → Prop}
theorem comp_someR (P : Int → Prop) {n : Nat} {u : Option V} (hz : n ≤ 1000000) (hn : H1 acc = none)
    (turn : ∀ (i : Nat) H (Y : V → Hp → Prop), i < n → Ext H1 H → (∀ x H', P x → Ext H H' → Y (.int x) H') → te (some (.int (i : Nat)) :: fr) H Y)
    (fin : ∀ (xs : List Int) H, xs.length = n → (∀ x ∈ xs, P x) → Ext H1 H → H acc = some (.lst (xs.map V.int)) → R H) : rComp (Itr 0 n) (gName 0) [] te acc (u :: fr) H1 R := by
  refine comp_range hz hn (fun j ys _ => ∃ xs : List Int, ys = xs.map V.int ∧ xs.length = j ∧ ∀ x ∈ xs, P x) ⟨[], rfl, rfl, by simp⟩ (fun _ _ _ _ _ h => h) (fun j ys H _ ⟨xs, h, l, _⟩ => by rw [h, List.length_map]; omega) ?_ ?_
  · rintro j ys H hj e ⟨xs, rfl, hl, hp⟩ Y N hY hN
    rw [show ((0 : Int) + (j : Nat)) = (j : Nat) by omega]
    refine r_tests0 (turn j H Y hj e fun x H' hx e' => hY _ _ e' ⟨xs ++ [x], by simp, by simp [hl], fun y hy => ?_⟩)
    rcases List.mem_append.mp hy with z | z
    · exact hp y z
    · rw [List.mem_singleton.mp z]; exact hx
  · rintro ys H e ha ⟨xs, rfl, hl, hp⟩
    exact fin xs H hl hp e ha
end
section
variable {X : Cx}
theorem eqOkL_mem : ∀ {l : List L2.D} {d : L2.D}, D.eqOkL l = true → d ∈ l → d.eqOk = true
  | x :: r, d, h, hd => by
    simp only [D.eqOkL, Bool.and_eq_true] at h
    rcases List.mem_cons.mp hd with rfl | hd
    · exact h.1
    · exact eqOkL_mem h.2 hd
open Classical in
theorem op_neD {k : Nat} (hr : Room k X.A) : OpR X (compareOp .NotEq) (rEqD true) := by
  intro pins s σ H x y v u Q I rx ry h
  obtain ⟨a, b, ha, hb, oa, ob, hd, q⟩ := h
  obtain ⟨as, r1⟩ := reads_of I a ha rx oa
  obtain ⟨bs, r2⟩ := reads_of I b hb ry ob
  have h1 := D.pyDepth a
  exact SeqAt.compareNe_reads r1 r2 (D.canLay a oa) (D.canLay b ob) (by have := hr.units; omega) ⟨.bl (!eqD a b), H, I, rfl, q⟩
theorem oNe {k : Nat} (hr : Room k X.A) : OpR X (compareOp .NotEq) rNeU := op_ne.or (op_neD hr)
end
section
variable {K : PySem.W.Frag} {σ : St} {H : Hp} {Q : VK}
theorem r_neD {x y : V} {a b : L2.D} (ha : Rep H a x) (hb : Rep H b y) (oa : a.eqOk = true) (ob : b.eqOk = true) (hd : a.depth ≤ 20) (q : Q (.bl (!eqD a b)) H) : rNeU x y H Q := .inr ⟨a, b, ha, hb, oa, ob, hd, q⟩
end
section
variable {X : Cx} {pins : List (Addr × Obj)} {σ : St} {H : Hp} {s : Shared} {h' : Heap} {n : Nat}
open Classical in
end
def XP (X : Cx) (pins : List (Addr × Obj)) (σ : St) (E : XK) (e : Value) (s : Shared) : Prop :=
  ∃ n H a C dx, e = .ref a ∧ X.s₀.heap.objs.size ≤ n ∧ (∀ p ∈ X.pn ++ pins, p.1 < n) ∧ Inv X pins σ H s ∧ Err n H s.heap a C dx .none ∧ E C dx H
section
variable {X : Cx} {k : Nat} {f C : Addr} {fd : FuncData} {ps : List Str} {sp : Sp} {dvs : List V} {ds : List Value} {E : XK}
theorem XP.of {pins : List (Addr × Obj)} {σ : St} {H : Hp} {s s' : Shared} {e : Value} (I : Inv X pins σ H s) (h : CXE X.prog X.w X.stack H s E e s') : XP X pins σ E e s' := by
  obtain ⟨a, C, dx, H', rfl, ho, hg, u, hok, er, q⟩ := h
  exact ⟨_, H', a, C, dx, rfl, I.sz, fun p hp => Heap.lt_size (I.pin p hp).1, I.call' (ch := []) ho u hok hg fun b z => absurd z (by simp), er, q⟩
end
structure Catch (K : PySem.W.Frag) (C L : Addr) : Prop where
  ex : ∃ bm bl, ErrC K C bm ∧ ErrC K L bl ∧ (Value.ref C :: bm).contains (.ref L) = true
open PySem.Builtin PySem.Builtin.ObjectAttr
structure ErrI (K : PySem.W.Frag) (C : Addr) : Prop where
  at_ : ∃ nm q N bs bm sn sub ab col dd k0 k1 k2 k3 k5 newId, K.lookup C = some (excClassObj nm q C N bs bm true sn sub ab col dd k0 k1 k2 k3 k5 newId) ∧ bm.contains (.type "BaseException") = true
  ga : PySem.W.findIn K (.ref C) "__getattribute__" = some (some (.builtin "BaseException.__getattribute__"))
  gh : PySem.W.findIn K (.ref C) "__getattr__" = some none
  ca : PySem.W.findIn K (.ref C) "__class__" = some (some (.builtin "object.__class__"))
  cn : PySem.W.specialIn K (.builtin "object.__class__") "__get__" = some (some (.builtin "getset_descriptor.__get__"))
  ct : PySem.W.takesIn K (.builtin "object.__class__") = some true
  cm : PySem.W.mroIn K C (.type "object") = some true
def HasErr (H : Hp) (a C dx : Addr) : Prop := H a = some (errH a (.ref C) (some dx)) ∨ H a = some (errN a C (some dx))
theorem HasErr.mono {H H' : Hp} {a C dx : Addr} (e : Ext H H') (h : HasErr H a C dx) : HasErr H' a C dx := h.imp (fun z => e _ _ z) (fun z => e _ _ z)
def bmV : List Value := [.type "ValueError", .type "Exception", .type "BaseException", .type "object"]
structure ErrK (K : PySem.W.Frag) (C : Addr) (bm : List Value) (f : Addr) : Prop where
  lk : ∃ nm q N bs sn sub ab col dd k0 k1 k2 k3 k5, K.lookup C = some (excClassObj nm q C N bs bm true sn sub ab col dd k0 k1 k2 k3 k5 "ValueError.__new__")
  init : PySem.W.findIn K (.ref C) "__init__" = some (some (.ref f))
  fn : PySem.W.isFn K (.ref f) = true
  kp : PySem.W.keepIn K (.ref C) = true
  set : PySem.W.findIn K (.ref C) "__setattr__" = some (some (.builtin "object.__setattr__"))
  row : PySem.W.findIn K (.ref C) "row" = some none
  ga : PySem.W.findIn K (.ref C) "__getattribute__" = some (some (.builtin "BaseException.__getattribute__"))
  gh : PySem.W.findIn K (.ref C) "__getattr__" = some none
  ca : PySem.W.findIn K (.ref C) "__class__" = some (some (.builtin "object.__class__"))
  cn : PySem.W.specialIn K (.builtin "object.__class__") "__get__" = some (some (.builtin "getset_descriptor.__get__"))
  ct : PySem.W.takesIn K (.builtin "object.__class__") = some true
  cm : PySem.W.mroIn K C (.type "object") = some true
def Tl (bm : List Value) : Prop := bm = bmV ∨ ∃ L, bm = .ref L :: bmV
theorem Tl.has {bm : List Value} {T : String} (h : Tl bm) (k : bmV.contains (.type T) = true) : bm.contains (.type T) = true := by
  rcases h with rfl | ⟨L, rfl⟩
  · exact k
  · rw [List.contains_cons, k, Bool.or_true]
theorem Tl.no {bm : List Value} {T : String} (h : Tl bm) (k : bmV.contains (.type T) = false) : bm.contains (.type T) = false := by
  rcases h with rfl | ⟨L, rfl⟩
  · exact k
  · rw [List.contains_cons, k, Bool.or_false]; rfl
section
variable {K : PySem.W.Frag} {C f : Addr} {bm : List Value}
theorem ErrK.em (e : ErrK K C bm f) (h : Tl bm) : ErrM K C f bm bmV "ValueError" "ValueError.__new__" "ValueError.__init__" := by
  obtain ⟨nm, q, N, bs, sn, sub, ab, col, dd, k0, k1, k2, k3, k5, lk⟩ := e.lk
  exact ⟨⟨nm, q, N, bs, _, sn, sub, ab, col, dd, k0, k1, k2, k3, k5, lk⟩, PySem.F.excBase_ValueError, h.has (by decide +kernel), h.no (by decide +kernel), h.no (by decide +kernel), h.has (by decide +kernel), e.init, e.fn, e.kp⟩
theorem ErrK.es (e : ErrK K C bm f) (h : Tl bm) : ErrS K C "row" bm := by
  obtain ⟨nm, q, N, bs, sn, sub, ab, col, dd, k0, k1, k2, k3, k5, lk⟩ := e.lk
  refine ⟨⟨nm, q, N, bs, sn, sub, ab, col, dd, k0, k1, k2, k3, k5, _, lk⟩, fun x => ?_, h.has (by decide +kernel), e.set, e.row⟩
  rcases h with rfl | ⟨L, rfl⟩
  · exact PySem.F.store_ValueError.passes _
  · rw [refuseLoop_ref]; exact PySem.F.store_ValueError.passes _
theorem ErrK.ec (e : ErrK K C bm f) (h : Tl bm) : ErrC K C bm := by
  obtain ⟨nm, q, N, bs, sn, sub, ab, col, dd, k0, k1, k2, k3, k5, lk⟩ := e.lk
  exact ⟨⟨nm, q, N, bs, _, sn, sub, ab, col, dd, k0, k1, k2, k3, k5, _, lk⟩, h.has (by decide +kernel)⟩
theorem ErrK.ei (e : ErrK K C bm f) (h : Tl bm) : ErrI K C := by
  obtain ⟨nm, q, N, bs, sn, sub, ab, col, dd, k0, k1, k2, k3, k5, lk⟩ := e.lk
  exact ⟨⟨nm, q, N, bs, bm, sn, sub, ab, col, dd, k0, k1, k2, k3, k5, _, lk, h.has (by decide +kernel)⟩, e.ga, e.gh, e.ca, e.cn, e.ct, e.cm⟩
end
section
variable {K : PySem.W.Frag} {σ : St} {H : Hp} {Q : VK}
theorem flat_one {α : Type} (x : α) : ∀ k : Nat, (List.replicate k [x]).flatten = List.replicate k x
  | 0 => rfl
  | k + 1 => by rw [List.replicate_succ, List.flatten_cons, flat_one x k, List.replicate_succ]; rfl
end
theorem RepL.many {H : Hp} {d : D} {x : V} (h : Rep H d x) : ∀ k : Nat, RepL H (List.replicate k d) (List.replicate k x)
  | 0 => RepL.nil
  | k + 1 => by rw [List.replicate_succ, List.replicate_succ]; exact RepL.cons h (RepL.many h k)
theorem rv_owner : Manifest.owners.lookup (String.ofList ['d', 'e', 's', 'r', 'e', 'v', 'e', 'r'].reverse) = some Manifest.sig_reversed := by kernel_rfl
theorem rv_next : Slot "reversed" "__next__" "reversed.__next__" := .of (owner := "reversed") (n := "__next__") (by rw [typeLookup_type, builtinLookup_eq_fast]; kernel_rfl) (by decide +kernel) (by decide +kernel) (by decide +kernel) (by first | exact .inl (by decide +kernel) | exact .inr (by decide +kernel)) (by rw [isSubtype_type]; kernel_rfl)
theorem rv_nextE : entryFor table "reversed.__next__" = some Builtin.«reversed.__next__» := entryFor_of_tree (by kernel_rfl)
theorem rv_nextA (a : Value) : argsOk "reversed.__next__" ⟨[a], []⟩ := by unfold argsOk; rw [signature?_of (id := "reversed.__next__") (n := ['_', '_', 't', 'x', 'e', 'n', '_', '_']) (o := ['d', 'e', 's', 'r', 'e', 'v', 'e', 'r']) (by kernel_rfl) rv_owner]; kernel_rfl
theorem rv_iter : Slot "reversed" "__iter__" "reversed.__iter__" := .of (owner := "reversed") (n := "__iter__") (by rw [typeLookup_type, builtinLookup_eq_fast]; kernel_rfl) (by decide +kernel) (by decide +kernel) (by decide +kernel) (by first | exact .inl (by decide +kernel) | exact .inr (by decide +kernel)) (by rw [isSubtype_type]; kernel_rfl)
theorem rv_iterA (a : Value) : argsOk "reversed.__iter__" ⟨[a], []⟩ := by unfold argsOk; rw [signature?_of (id := "reversed.__iter__") (n := ['_', '_', 'r', 'e', 't', 'i', '_', '_']) (o := ['d', 'e', 's', 'r', 'e', 'v', 'e', 'r']) (by kernel_rfl) rv_owner]; kernel_rfl
theorem rv_iterE : entryFor table "reversed.__iter__" = some Builtin.«dict_keyiterator.__iter__» := entryFor_alias (id' := "dict_keyiterator.__iter__") (by kernel_rfl) (by first | rfl | decide +kernel | (unfold String.splitOn; simp +decide [String.splitOnAux])) (by decide +kernel) (by kernel_rfl)
theorem rv_hint : Slot "reversed" "__length_hint__" "reversed.__length_hint__" := .of (owner := "reversed") (n := "__length_hint__") (by rw [typeLookup_type, builtinLookup_eq_fast]; kernel_rfl) (by decide +kernel) (by decide +kernel) (by decide +kernel) (by first | exact .inl (by decide +kernel) | exact .inr (by decide +kernel)) (by rw [isSubtype_type]; kernel_rfl)
theorem rv_hintE : entryFor table "reversed.__length_hint__" = some Builtin.«reversed.__length_hint__» := entryFor_of_tree (by kernel_rfl)
theorem rv_nolen : typeLookup (.type "reversed") "__len__" = pure none := by rw [typeLookup_type, builtinLookup_eq_fast]; kernel_rfl
theorem rv_mro : mroOf (.type "reversed") = pure [.type "reversed", .type "object"] := by rw [mroOf_type]; kernel_rfl
theorem rv_newL : typeLookup (.type "reversed") "__new__" = pure (some (.builtin "reversed.__new__")) := by rw [typeLookup_type, builtinLookup_eq_fast]; kernel_rfl
theorem rv_init : Slot "reversed" "__init__" "object.__init__" := .of (owner := "object") (n := "__init__") (by rw [typeLookup_type, builtinLookup_eq_fast]; kernel_rfl) (by decide +kernel) (by decide +kernel) (by decide +kernel) (by first | exact .inl (by decide +kernel) | exact .inr (by decide +kernel)) (by rw [isSubtype_type]; kernel_rfl)
theorem rv_called : TypeCalled "reversed" "reversed.__new__" "object.__init__" := ⟨by decide +kernel, by decide +kernel, ⟨_, _, rv_mro⟩, madeBy_type rv_mro rv_newL (by decide +kernel), by decide +kernel, by rw [isSubtype_type]; kernel_rfl, rv_init⟩
theorem rv_typeCall (a : Value) : checkTypeCall "reversed" ⟨[a], []⟩ = pure () := by kernel_rfl
theorem rv_newCall (a : Value) : checkBuiltinCall "reversed.__new__" ⟨[.type "reversed", a], []⟩ = pure () := by kernel_rfl
theorem rv_newE : entryFor table "reversed.__new__" = some Builtin.«reversed.__new__» := entryFor_of_tree (by kernel_rfl)
theorem rv_sub : isSubtype (.type "reversed") (.type "reversed") = pure true := by rw [isSubtype_type]; kernel_rfl
theorem tup_norev : typeLookup (.type "tuple") "__reversed__" = pure none := by rw [typeLookup_type, builtinLookup_eq_fast]; kernel_rfl
theorem tup_nodict : isSubtype (.type "tuple") (.type "dict") = pure false := by rw [isSubtype_type]; kernel_rfl
def IsRv (h : Heap) (d : Addr) (l : Value) (i : Int) : Prop := h.get? d = some { cls := .type "reversed", data := .fields #[l, rawInt i] }
theorem IsRv.ty {h : Heap} {d : Addr} {l : Value} {i : Int} {s : Shared} (x : IsRv s.heap d l i) : s.TypeIs (.ref d) "reversed" := ⟨_, x, rfl⟩
section
variable {prog : Program} {w : World} {A : Around} {E : Value → Shared → Prop} {s : Shared}
theorem rv_item {d l : Addr} {i : Nat} {xs : Array Value} {x : Value} {Q : Option Value → Shared → Prop} (hd : IsRv s.heap d (.ref l) i) (hl : IsTup s.heap l xs) (hx : xs[i]? = some x) (hz : xs.size ≤ sizeLine)
    (hQ : ∀ h' tk, IsRv h' d (.ref l) ((i : Int) - 1) → Heap.SameBut d s.heap h' → Q (some x) { s with heap := h', toks := tk }) : wpAny (model prog w) A (pyNext (.ref d)) Q E s := by
  have te : s.TypeIs (.ref d) "reversed" := ⟨_, hd, rfl⟩
  have hi : i < xs.size := by
    rw [Array.getElem?_eq_some_iff] at hx
    exact hx.1
  have hn := line63
  unfold pyNext
  refine wpAny_bind (wpAny_attempt (wpAny_callSpecial?_slot (name := Str.ofString "__next__") te rv_next (wpAny_call_entry rv_next te rv_nextE ?_ (rv_nextA _))))
  obtain ⟨hp, gg, dd, tk, os⟩ := s
  show wpAny _ _ (field (.ref d) 0 >>= _) _ _ _; refine wpAny_bind (wpAny_field hd rfl (x := .ref l) rfl ?_)
  show wpAny _ _ (field (.ref d) 1 >>= _) _ _ _; refine wpAny_bind (wpAny_field hd rfl (x := rawInt i) rfl ?_)
  show wpAny _ _ (if (i : Int) < 0 then _ else _) _ _ _
  rw [if_neg (by omega)]
  refine wpAny_bind (wpAny_specialOf (T := "tuple") hl.typeIs slot_tuple_getitem.lookup ?_)
  rw [if_neg (by simp)]
  show wpAny _ _ (mkInt i >>= _) _ _ _; refine wpAny_bind (wpAny_mkInt ?_)
  refine wpAny_bind (wpAny_attempt (getItem_tuple (s := ⟨hp, gg, dd, tk + 1, os⟩) (j := i) hl (by omega) (by omega) (by unfold seqIndex?; simp; omega) hx ?_))
  show wpAny _ _ (field (.ref d) 1 >>= _) _ _ _; refine wpAny_bind (wpAny_field hd rfl (x := rawInt i) rfl ?_)
  show wpAny _ _ (setField (.ref d) 1 (rawInt ((i : Int) - 1)) >>= _) _ _ _; refine wpAny_bind (wpAny_setField_rec hd (by simp) fun g2 e2 s2 => ?_)
  exact wpAny_pure ⟨x, rfl, wpAny_pure (hQ g2 _ e2 s2)⟩
theorem rv_end {d : Addr} {l : Value} {Q : Option Value → Shared → Prop} (hh : A.handled = none) (hd : IsRv s.heap d l (-1))
    (hQ : ∀ h', (∀ b o, b ≠ d → s.heap.get? b = some o → h'.get? b = some o) → Q none { s with heap := h' }) : wpAny (model prog w) A (pyNext (.ref d)) Q E s := by
  have te : s.TypeIs (.ref d) "reversed" := ⟨_, hd, rfl⟩
  unfold pyNext
  refine wpAny_bind (wpAny_attempt (wpAny_callSpecial?_slot (name := Str.ofString "__next__") te rv_next (wpAny_call_entry rv_next te rv_nextE ?_ (rv_nextA _))))
  obtain ⟨hp, gg, dd, tk, os⟩ := s
  show wpAny _ _ (field (.ref d) 0 >>= _) _ _ _; refine wpAny_bind (wpAny_field hd rfl (x := l) rfl ?_)
  show wpAny _ _ (field (.ref d) 1 >>= _) _ _ _; refine wpAny_bind (wpAny_field hd rfl (x := rawInt (-1)) rfl ?_)
  show wpAny _ _ (if (-1 : Int) < 0 then _ else _) _ _ _
  rw [if_pos (by decide)]
  refine wpAny_bind (wpAny_rule ?_); show wpAny _ _ ((setField (.ref d) 1 (rawInt (-1)) >>= fun _ => setField (.ref d) 0 .none) >>= _) _ _ _
  refine wpAny_bind (wpAny_bind (wpAny_setField_rec hd (by simp) fun g1 e1 s1 => wpAny_setField_rec e1 (by simp) fun g2 e2 s2 => ?_))
  replace s1 : Heap.SameBut d hp g1 := s1
  replace s2 : Heap.SameBut d g1 g2 := s2
  have kk : ∀ b o, b ≠ d → hp.get? b = some o → g2.get? b = some o := fun b o q h => s2.extBut b o q (s1.extBut b o q h)
  show wpAny _ _ (Builtin.SmallTypes.stopIteration >>= _) _ _ ⟨g2, gg, dd, tk, os⟩
  refine wpAny_bind ?_
  unfold Builtin.SmallTypes.stopIteration
  refine wpAny_bind ?_; simp only [newExc, newTuple]; refine wpAny_bind (wpAny_newObj_type (wpAny_bind (m := firstArgMember _ _) (wpAny_of_eq (a := Value.none) (by first | rfl | (simp only [firstArgMember]; rfl)) (wpAny_newObj_type ?_ (by size_fits)))) (by size_fits))
  simp only [raiseNew]; refine wpAny_bind (wpAny_handled ?_); first | rw [show A.in1.handled = none from hh] | rw [hh]
  refine wpAny_bind (wpAny_pure (wpAny_throw ?_)); refine wpAny_bind (wpAny_isInstance (T := "StopIteration") (b := true) ⟨_, Heap.get?_push_size _ rfl, rfl⟩ isSubtype_stop ?_)
  exact wpAny_pure (hQ _ fun b o q h => Heap.get?_push_of_some _ (Heap.get?_push_of_some _ (kk b o q h)))
theorem rv_self {d : Addr} {l : Value} {i : Int} {Q : Value → Shared → Prop} (hd : IsRv s.heap d l i) (h : Q (.ref d) s) : wpAny (model prog w) A (pyIter (.ref d)) Q E s := by
  have te : s.TypeIs (.ref d) "reversed" := ⟨_, hd, rfl⟩
  refine wpAny_pyIter_slot te rv_iter (wpAny_call_entry rv_iter te rv_iterE ?_ (rv_iterA _))
  exact wpAny_pure ⟨_, rfl, "reversed", _, te, rv_next.lookup, h⟩
end
theorem tup_at {h h' : Heap} {l : Addr} {xs : Array Value} (x : IsTup h l xs) (e : ∀ o, h.get? l = some o → h'.get? l = some o) : IsTup h' l xs := let ⟨o, ho, r⟩ := x; ⟨o, e _ ho, r⟩
theorem rv_walks {prog : Program} {w : World} {A : Around} (hh : A.handled = none) (d l : Addr) (ne : l ≠ d) (xs : Array Value) (hz : xs.size ≤ sizeLine) :
    Walks prog w A d [d, l] [d] xs.size (fun i v => xs[xs.size - 1 - i]? = some v) (fun i h => i ≤ xs.size ∧ IsRv h d (.ref l) ((xs.size : Int) - 1 - (i : Int)) ∧ IsTup h l xs) where
  sub := fun b hb => by rw [List.mem_singleton.mp hb]; simp
  frame := fun _ _ _ x hk => ⟨x.1, hk d (by simp) _ x.2.1, tup_at x.2.2 fun o e => hk l (by simp) o e⟩
  item := fun i s Q E hi x (hQ) => by
    have e : (xs.size : Int) - 1 - (i : Int) = ((xs.size - 1 - i : Nat) : Int) := by omega
    have hit := x.2.1
    rw [e] at hit
    have hx : xs[xs.size - 1 - i]? = some (xs[xs.size - 1 - i]'(by omega)) := Array.getElem?_eq_getElem (by omega)
    refine rv_item hit x.2.2 hx hz fun h' tk hit' hs' => ?_
    have e2 : ((xs.size - 1 - i : Nat) : Int) - 1 = (xs.size : Int) - 1 - ((i + 1 : Nat) : Int) := by omega
    rw [e2] at hit'
    exact hQ _ h' tk hx ⟨hi, hit', tup_at x.2.2 fun o eo => (hs'.2 l ne).trans eo⟩ fun b o hb eo => hs'.extBut b o (fun h => hb (by simp [h])) eo
  done := fun s Q E x hQ => by
    have e : (xs.size : Int) - 1 - (xs.size : Int) = -1 := by omega
    have hit := x.2.1
    rw [e] at hit
    exact rv_end hh hit fun h' he' => hQ h' s.toks fun b o hb eo => he' b o (fun h => hb (by simp [h])) eo
  self := fun _ _ _ _ x hQ => rv_self x.2.1 hQ
theorem rv_newOf (l : Addr) (xs : Array Value) (hz : xs.size ≤ sizeLine) :
    Meets (Builtin.«reversed.__new__» ⟨[.type "reversed", .ref l], []⟩) (fun _ R s => IsTup s.heap l xs ∧ ∀ tk, R (.ok (.ret (.ref s.heap.objs.size))) { s with heap := s.heap.push { cls := .type "reversed", data := .fields #[.ref l, rawInt ((xs.size : Int) - 1)] }, toks := tk }) :=
  .of_wp fun prog w A R s h => by
    obtain ⟨hl, h⟩ := h
    have hn := line63
    unfold Builtin.«reversed.__new__»; refine wpAny_bind (wpAny_of_eq (a := (Value.type "reversed", [Value.ref l])) (by unfold Builtin.SmallTypes.newClass; simp only [isType, rv_sub, pure_bind, Bool.not_true, Bool.false_eq_true, if_false]) ?_)
    refine wpAny_bind (wpAny_of_eq (a := ()) (by first | rfl | kernel_rfl) (wpAny_bind (wpAny_of_eq (a := ()) (by first | rfl | kernel_rfl) ?_)))
    show wpAny _ _ (specialOf (.ref l) (Str.ofString "__reversed__") >>= _) _ _ _
    refine wpAny_bind (wpAny_specialOf (T := "tuple") hl.typeIs tup_norev ?_)
    refine wpAny_bind ?_
    show wpAny _ _ (isInstance (.ref l) (.type "dict") >>= _) _ _ _
    refine wpAny_bind (wpAny_isInstance (T := "tuple") (b := false) hl.typeIs tup_nodict ?_)
    rw [if_neg (by simp)]
    refine wpAny_bind (wpAny_specialOf (T := "tuple") hl.typeIs slot_tuple_getitem.lookup ?_)
    show wpAny _ _ (if _ then _ else _) _ _ _; rw [if_pos (by decide +kernel)]
    refine wpAny_pure ?_
    rw [if_neg (by simp)]
    show wpAny _ _ (call (.builtin "len") [.ref l] >>= _) _ _ _
    refine wpAny_bind (len_tuple hl (by omega) ?_)
    refine wpAny_bind (m := asInt? _) (wpAny_pure ?_); show wpAny _ _ (newObj (.type "reversed") (.fields #[.ref l, rawInt ((xs.size : Int) - 1)]) >>= _) _ _ _
    exact wpAny_bind (wpAny_newObj_type (wpAny_pure ⟨_, rfl, h _⟩))
section
variable {prog : Program} {w : World} {A : Around} {E : Value → Shared → Prop} {s : Shared}
theorem call_rv {l : Addr} {xs : Array Value} {Q : Value → Shared → Prop} (hl : IsTup s.heap l xs) (hz : xs.size ≤ sizeLine)
    (h : ∀ tk, Q (.ref s.heap.objs.size) { s with heap := s.heap.push { cls := .type "reversed", data := .fields #[.ref l, rawInt ((xs.size : Int) - 1)] }, toks := tk }) : wpAny (model prog w) A (call (.type "reversed") [.ref l]) Q E s :=
  callType_new rv_called (by decide) (rv_typeCall _) (rv_newCall _) (fun obj => F.args_object_init_2 obj _) rv_newE (rv_newOf l xs hz) ⟨hl, fun tk => ⟨⟨_, Heap.get?_push_size _ rfl, rfl⟩, h tk⟩⟩
theorem rv_hintA (a : Value) : argsOk "reversed.__length_hint__" ⟨[a], []⟩ := by unfold argsOk; rw [signature?_of (id := "reversed.__length_hint__") (n := "__length_hint__".toList.reverse) (o := ['d', 'e', 's', 'r', 'e', 'v', 'e', 'r']) (by kernel_rfl) rv_owner]; kernel_rfl
theorem rv_hinted {d l : Addr} {xs : Array Value} {Q : Value → Shared → Prop} (hd : IsRv s.heap d (.ref l) ((xs.size : Int) - 1)) (hl : IsTup s.heap l xs) (hz : xs.size ≤ sizeLine)
    (h : ∀ t tk, s.toks ≤ tk → Q (.int (xs.size : Int) t) { s with toks := tk }) : wpAny (model prog w) A (call (.builtin "reversed.__length_hint__") [.ref d]) Q E s := by
  have hn := line63
  have te : s.TypeIs (.ref d) "reversed" := ⟨_, hd, rfl⟩
  refine wpAny_call_entry rv_hint te rv_hintE ?_ (rv_hintA _)
  obtain ⟨hp, gg, dd, tk, os⟩ := s
  show wpAny _ _ (field (.ref d) 0 >>= _) _ _ _
  refine wpAny_bind (wpAny_field hd rfl (x := .ref l) rfl ?_)
  rw [if_neg (show ¬ ((Value.ref l == Value.none) = true) from Bool.false_ne_true)]; show wpAny _ _ (call (.builtin "len") [.ref l] >>= _) _ _ _
  refine wpAny_bind (len_tuple hl (by omega) ?_)
  refine wpAny_bind (m := asInt? _) (wpAny_pure ?_); show wpAny _ _ (field (.ref d) 1 >>= _) _ _ _
  refine wpAny_bind (wpAny_field hd rfl (x := rawInt ((xs.size : Int) - 1)) rfl ?_)
  show wpAny _ _ (if (xs.size : Int) < (xs.size : Int) - 1 + 1 then _ else _) _ _ _
  rw [if_neg (by omega)]
  have e : (xs.size : Int) - 1 + 1 = xs.size := by omega
  rw [e]
  exact wpAny_bind (wpAny_mkInt (wpAny_pure ⟨_, rfl, h _ _ (by show tk ≤ tk + 1 + 1 + 1; omega)⟩))
theorem rv_collect {d l : Addr} {xs : Array Value} {Q : List Value → Shared → Prop} (hh : A.handled = none) (hd : IsRv s.heap d (.ref l) ((xs.size : Int) - 1)) (hl : IsTup s.heap l xs) (ne : l ≠ d) (hz : xs.size ≤ sizeLine)
    (hQ : ∀ s' acc, Moved [d] (fun a b => b = a) s s' → ItemsOf (fun i v => xs[xs.size - 1 - i]? = some v) acc xs.size → Q acc.toList s') : wpAny (model prog w) A (collect (.ref d)) Q E s := by
  have W := (rv_walks (prog := prog) (w := w) (A := A.in1) hh d l ne xs hz).toS
  have ld : d < s.heap.objs.size := Heap.lt_size hd
  have ll : l < s.heap.objs.size := by obtain ⟨o, ho, _⟩ := hl; exact Heap.lt_size ho
  have nS : s.heap.objs.size ∉ [d, l] := by
    simp only [List.mem_cons, List.mem_nil_iff, or_false, not_or]
    exact ⟨Nat.ne_of_gt ld, Nat.ne_of_gt ll⟩
  have nd : s.heap.objs.size ≠ d := Nat.ne_of_gt ld
  have hn := line63
  unfold collect; refine wpAny_bind (wpAny_runValue (codeAny_builtin F.entry_proto_collect ?_)); rw [Around.under_plainId F.plain_proto_collect _]
  show wpAny _ A.in1 (newList [] >>= fun x => again (.builtin "list.__iadd__" ⟨[x, .ref d], []⟩)) _ _ s
  refine wpAny_bind (wpAny_newObj_type (wpAny_pure ⟨plainId_quiet F.plain_list_iadd _, codeAny_builtin F.entry_list_iadd ?_⟩)); rw [Around.under_plainId F.plain_list_iadd _]
  have d1 : IsRv (s.heap.push { cls := .type "list", data := .seq ([] : List Value).toArray }) d (.ref l) ((xs.size : Int) - 1) := Heap.get?_push_of_some _ hd
  have l1 : IsTup (s.heap.push { cls := .type "list", data := .seq ([] : List Value).toArray }) l xs := tup_at hl fun o e => Heap.get?_push_of_some _ e
  have S1 : (s.heap.push { cls := .type "list", data := .seq ([] : List Value).toArray }).get? s.heap.objs.size = some { cls := .type "list", data := .seq ([] : List Value).toArray } := Heap.get?_push_size _ rfl
  have same : Builtin.List.listSameRef (.ref s.heap.objs.size) (.ref d) = false := by simp [Builtin.List.listSameRef, nd]
  show wpAny _ A.in1 (Builtin.List.listExtendWith (.ref s.heap.objs.size) (.ref d) (.ref s.heap.objs.size)) _ _ _; unfold Builtin.List.listExtendWith
  refine wpAny_bind (wpAny_typeOf (T := "reversed") ⟨_, d1, rfl⟩ ?_)
  rw [if_neg (by rw [same]; decide)]
  refine wpAny_bind (rv_self d1 (wpAny_bind (wpAny_holding ?_)))
  unfold Builtin.List.listLengthHint; refine wpAny_bind (wpAny_specialOf (T := "reversed") ⟨_, d1, rfl⟩ rv_nolen ?_)
  show wpAny _ A.in1 (specialOf (Value.ref d) (Str.ofString "__length_hint__") >>= _) _ _ _; refine wpAny_bind (wpAny_specialOf (T := "reversed") ⟨_, d1, rfl⟩ rv_hint.lookup ?_)
  (generalize hid : ("reversed.__length_hint__" : String) = id0; (fail_if_success (clear hid id0)); wp_delta; rw [show splitId id0 = some ("reversed", "__length_hint__") from by subst hid; decide +kernel]; subst hid)
  refine wpAny_bind (wpAny_isInstance (T := "reversed") (b := true) ⟨_, d1, rfl⟩ rv_sub ?_)
  rw [if_neg (by decide)]; rw [if_neg (by decide +kernel)]
  refine wpAny_bind (wpAny_rule (wpAny_bind (wpAny_of_eq (rv_hint.bind _) ?_)))
  show wpAny _ A.in1 ((call (.builtin "reversed.__length_hint__") [.ref d]).attempt >>= _) _ _ _
  refine wpAny_bind (wpAny_attempt (rv_hinted d1 l1 hz fun t tk htk => ?_))
  generalize ek : (xs.size : Int) = k; dsimp only
  refine wpAny_bind (m := asInt? (.int k t)) (wpAny_pure ?_); dsimp only
  rw [if_neg (by rw [fitsIndex_both (by omega) (by omega)]; decide), if_neg (by omega), if_neg (by rw [notLongL (by omega)]; decide)]
  refine wpAny_pure ?_
  have fin : ∀ (R : Result → Shared → Prop) (h2 : Heap) (c : Nat), h2.get? s.heap.objs.size = some { cls := .type "list", data := .seq #[] c } → (∀ b o, b ≠ s.heap.objs.size → (s.heap.push { cls := .type "list", data := .seq ([] : List Value).toArray }).get? b = some o → h2.get? b = some o) →
      (∀ s' acc' c', Moved [d] (fun a b => b = a) s s' → s'.heap.get? s.heap.objs.size = some { cls := .type "list", dict := none, data := .seq acc' c', slots := #[] } → ItemsOf (fun i v => xs[xs.size - 1 - i]? = some v) acc' xs.size → R (.ok (.ret (.ref s.heap.objs.size))) s') →
      codeAny (model prog w) A (.builtin "list.extend.loop" ⟨[.ref s.heap.objs.size, .ref d, .ref s.heap.objs.size], []⟩) R { s with heap := h2, toks := tk } := by
    intro R h2 c S2 k2 hR
    refine codeAny_extend_loopS W hz _ nS _ xs.size 0 _ _ c rfl (Nat.zero_le _) ⟨Nat.zero_le _, ?_, tup_at l1 fun o e => k2 l o (Nat.ne_of_lt ll) e⟩ S2 (ItemsOf.nil _) fun s' acc' c' hm hS' hacc => hR s' acc' c' ⟨fun b o hb e => ?_, hm.gens, hm.drawn, hm.os, Nat.le_trans htk hm.toks⟩ hS' hacc
    · have e : (xs.size : Int) - 1 - ((0 : Nat) : Int) = (xs.size : Int) - 1 := by omega
      rw [e]
      exact k2 d _ nd.symm d1
    · have nb : b ≠ s.heap.objs.size := Nat.ne_of_lt (Heap.lt_size e)
      refine hm.heap b o (fun q => ?_) (k2 b o nb (Heap.get?_push_of_some _ e))
      rcases List.mem_cons.mp q with q | q
      · exact nb q
      · exact hb q
  by_cases k0 : k = 0
  · subst k0
    rw [if_neg (show ¬ _ by decide +kernel)]
    exact wpAny_pure ⟨plainId_quiet F.plain_extend_loop _, fin _ _ 0 S1 (fun b o _ e => e) fun s' acc' c' hm hS' hacc => wpAny_bind (wpAny_load hS' (wpAny_pure (hQ s' acc' hm hacc)))⟩
  · rw [if_pos (by rw [show (k != 0) = true from bne_iff_ne.mpr k0, Bool.true_or])]
    refine wpAny_bind (wpAny_rule (wpAny_bind ?_))
    have S2 := Heap.get?_update_self (Obj.mapSeq (·.push Value.none)) S1 rfl
    show wpAny _ A.in1 (updateSeq s.heap.objs.size (·.push .none) >>= fun _ => updateSeq s.heap.objs.size (·.pop)) _ _ _; refine wpAny_bind (wpAny_updateSeq S1 rfl (wpAny_updateSeq S2 rfl ?_))
    have S3 := Heap.get?_update_self (Obj.mapSeq (·.pop)) S2 rfl
    exact wpAny_pure ⟨plainId_quiet F.plain_extend_loop _, fin _ _ _ S3 (fun b o hb e => (Heap.get?_update_other _ _ (Ne.symm hb)).trans ((Heap.get?_update_other _ _ (Ne.symm hb)).trans e)) fun s' acc' c' hm hS' hacc => wpAny_bind (wpAny_load hS' (wpAny_pure (hQ s' acc' hm hacc)))⟩
end
theorem tup_newRv (d l : Addr) (xs : Array Value) (ne : l ≠ d) (hz : xs.size ≤ sizeLine) :
    Meets (Builtin.«tuple.__new__» ⟨[.type "tuple", .ref d], []⟩) (fun A R s => A.handled = none ∧ IsRv s.heap d (.ref l) ((xs.size : Int) - 1) ∧ IsTup s.heap l xs ∧ ∀ s' acc, Moved [d] (fun a b => b = a) s s' → ItemsOf (fun i v => xs[xs.size - 1 - i]? = some v) acc xs.size →
      R (.ok (.ret (.ref s'.heap.objs.size))) { s' with heap := s'.heap.push { cls := .type "tuple", data := .seq acc } }) := Meets.of_wp fun prog w A R s h => by
    obtain ⟨hh, hd, hl, h⟩ := h
    have hsub := sub_tuple_self
    have hmh := madeHere_tuple; have hinit := init_tuple_lookup
    have hT : s.TypeIs (.ref d) "reversed" := ⟨_, hd, rfl⟩
    wp_walk using wpAny_typeOf hT, rv_collect (A := A.in1) hh hd hl ne hz
    intro s' acc hm hacc
    show wpAny _ _ (Builtin.Tuple.tupleExact acc.toList.toArray >>= fun v => ret v) _ _ _; unfold Builtin.Tuple.tupleExact
    rw [show acc.toList.toArray = acc by simp]
    refine wpAny_bind (wpAny_newObj_type (wpAny_pure ⟨_, rfl, h s' acc hm hacc⟩) (show acc.size ≤ sizeLine by rw [hacc.1]; exact hz))
section
variable {prog : Program} {w : World} {A : Around} {E : Value → Shared → Prop} {s : Shared}
theorem call_tup_rv {d l : Addr} {xs : Array Value} {Q : Value → Shared → Prop} (hh : A.handled = none) (hd : IsRv s.heap d (.ref l) ((xs.size : Int) - 1)) (hl : IsTup s.heap l xs) (ne : l ≠ d) (hz : xs.size ≤ sizeLine)
    (h : ∀ s' acc, Moved [d] (fun a b => b = a) s s' → ItemsOf (fun i v => xs[xs.size - 1 - i]? = some v) acc xs.size → Q (.ref s'.heap.objs.size) { s' with heap := s'.heap.push { cls := .type "tuple", data := .seq acc } }) :
    wpAny (model prog w) A (call (.type "tuple") [.ref d]) Q E s :=
  callType_new F.called_tuple (by decide) (F.typeCall_tuple_1 _) (F.newCall_tuple_1 _) (fun obj => F.args_object_init_2 obj _) F.entry_tuple_new (tup_newRv d l xs ne hz) ⟨hh, hd, hl, fun s' acc hm ha => ⟨⟨_, Heap.get?_push_size _ rfl, rfl⟩, h s' acc hm ha⟩⟩
end
theorem rv_items {its : List Value} {acc : Array Value} (h : ItemsOf (fun i v => its.toArray[its.toArray.size - 1 - i]? = some v) acc its.toArray.size) : acc.toList = its.reverse := by
  obtain ⟨h1, h2⟩ := h
  have h1 : acc.size = its.length := by rw [h1]; simp
  refine List.ext_getElem? fun i => ?_
  rw [Array.getElem?_toList]
  by_cases hi : i < its.length
  · have ha : acc[i]? = some (acc[i]'(by omega)) := Array.getElem?_eq_getElem (by omega)
    have := h2 i _ ha
    rw [ha, List.getElem?_reverse hi]
    simpa using this.symm
  · rw [Array.getElem?_eq_none (by omega), List.getElem?_eq_none (by simp; omega)]
section
variable {X : Cx}
def rTupRev (K : PySem.W.Frag) : List V → Hp → VK → Prop := fun xs H Q => ∃ p ys, xs = [.ref p] ∧ SqT K H p ys ∧ ∀ l, H l = none → Q (.ref l) (upd H l (.tup ys.reverse))
theorem pe_tupRev {a : Expr} {ta : TA} {p p' pos pos' : Pos} (hc : X.calm = true) (hg : Gl X "tuple") (hm : X.mg "tuple" = none) (hg2 : Gl X "reversed") (hm2 : X.mg "reversed" = none) (ha : PA X [a] ta) (hs : starEach [a] X.env = [(false, eval a X.env)] := by rfl)
    (ht : starEach [.Call (.Name "reversed" p') [a] [] pos'] X.env = [(false, eval (.Call (.Name "reversed" p') [a] [] pos') X.env)] := by rfl) :
    PE X (.Call (.Name "tuple" p) [.Call (.Name "reversed" p') [a] [] pos'] [] pos) (tCB (rTupRev X.K) ta) := by
  intro pins s σ H Q I h
  refine wpAny_Call_Name_kw (ld_blt I hg hm boot_tuple (PyProof.Rows.callWith_type1 ?_ ht rfl) (by decide) (by decide))
  rw [ht]
  show wpAny _ _ (spliced ((false, eval (.Call (.Name "reversed" p') [a] [] pos') X.env) :: backTo pos [])) _ _ s
  refine Calls.spliced_cons (wpAny_Call_Name_kw (ld_blt I hg2 hm2 boot_reversed (PyProof.Rows.callWith_type1 (thn (ha pos' pins s σ H _ I h) fun us s1 ⟨vs, H1, I1, r1, q1⟩ => ?_) hs rfl) (by decide) (by decide)))
  obtain ⟨p1, ys, e, hx, q⟩ := q1
  subst e
  obtain ⟨u, rfl, ru⟩ := vals1 r1
  cases ru
  obtain ⟨its, ri, pl, hz⟩ := I1.tuple hx
  have hl := ri.length
  have z1 : its.toArray.size ≤ sizeLine := by rw [List.size_toArray]; omega
  refine call_rv pl z1 fun tk => Calls.spliced_nil ?_
  have lp : p1 < s1.heap.objs.size := by obtain ⟨o, ho, _⟩ := pl; exact Heap.lt_size ho
  refine call_tup_rv (I1.ok.hd hc) (Heap.get?_push_size _ rfl) (tup_at pl fun o e => Heap.get?_push_of_some _ e) (Nat.ne_of_lt lp) z1 fun s' acc hm hacc => ?_
  have e := rv_items hacc
  have ea : acc = its.reverse.toArray := by rw [← e]
  have n1 : H1 s1.heap.objs.size = none := I1.hok.fresh (Nat.le_refl _)
  obtain ⟨h', g', d', t', o'⟩ := s'
  have e1 : g' = s1.gens := hm.gens
  have e2 : d' = s1.drawn := hm.drawn
  have e3 : o' = s1.os := hm.os
  subst e1 e2 e3
  have I2 : Inv X pins σ H1 { s1 with heap := h', toks := t' } := I1.turns (t' := t') (ch := [s1.heap.objs.size]) (fun b o hb q => hm.heap b o hb (Heap.get?_push_of_some _ q)) fun b hb => by rw [List.mem_singleton.mp hb]; exact I1.fpOk (Nat.le_refl _) n1
  have I3 : Inv X pins σ (upd H1 h'.objs.size (.tup ys.reverse)) { s1 with heap := h'.push { cls := .type "tuple", data := .seq acc }, toks := t' } :=
    I2.laid (t' := t') (fun b o e => Heap.get?_push_of_some _ e) (Nat.le_refl _) (show ObjOk X.prog X.w _ _ _ (.tup ys.reverse) from ⟨by rw [List.length_reverse]; exact hz, its.reverse, Vals.reverse ri, by rw [ea]; exact TupN.new _ _⟩)
  exact ⟨.ref h'.objs.size, _, I3, rfl, q _ (I2.hok.fresh (Nat.le_refl _))⟩
end
section
variable {K : PySem.W.Frag} {σ : St} {H : Hp} {Q : VK}
theorem r_tupRev {p : Addr} {xs : List V} (h : H p = some (.tup xs)) (q : ∀ l H', H l = none → H' l = some (.tup xs.reverse) → Ext H H' → Q (.ref l) H') : rTupRev K [.ref p] H Q := ⟨p, xs, rfl, SqT.of h, fun l n => q l _ n upd_same (ext_upd n)⟩
end
theorem iteTc {c : Bool} {A B : Prop} (h : c = true) (q : A) : if c = true then A else B := by rw [h]; exact iteT q
theorem iteFc {c : Bool} {A B : Prop} (h : c = false) (q : B) : if c = true then A else B := by rw [h]; exact iteF q
structure RoomW (k : Nat) (A : Around) : Prop where
  dp : A.depth + 3 * k + 5 < recursionLimit
  un : A.units + 16 * k + 200 < cLine
theorem RoomW.mono {j k : Nat} {A : Around} (r : RoomW k A) (h : j ≤ k) : RoomW j A := ⟨by have := r.dp; omega, by have := r.un; omega⟩
theorem Room.w {k : Nat} {A : Around} (r : Room k A) : RoomW k A := ⟨r.dp, r.un⟩
theorem Room.ex {k : Nat} {A : Around} (r : Room k A) (v : Option Value) : RoomW k (A.mark v) := ⟨r.dp, r.un⟩
theorem RoomW.depth {k : Nat} {A : Around} (r : RoomW k A) : A.depth < recursionLimit := by have := r.dp; omega
structure FnOkW (P : Program) (w : World) (K : PySem.W.Frag) (mg : Str → Option Value) (base : Heap) (CX : CXT) (k : Nat) (f : Addr) (fd : FuncData) (ps : List Str) (sp : Sp) : Prop where
  len : ∀ vs H Q E, sp vs H Q E → vs.length = ps.length
  run : ∀ (A : Around) (outer : List Env) (s : Shared) (H : Hp) (args : Args) (us : List Value) (vs : List V) (Q : VK) (E : XK), RoomW k A → Env0 P w K mg base A outer s H → BindsTo s fd args (ps.zip us) → Vals vs us → sp vs H Q E →
    codeAny (model P w) A (.call (.ref f) args) (CR CX outer P w H s Q E) s
theorem tup_noset : isSubtype (.type "tuple") (.type "set") = pure false := by rw [isSubtype_type]; kernel_rfl
theorem tup_nofset : isSubtype (.type "tuple") (.type "frozenset") = pure false := by rw [isSubtype_type]; kernel_rfl
abbrev newSet (led : Bool) : Obj := { cls := .type "set", dict := none, data := .set #[] 0 (.fresh 0 0 led) }
section
variable {prog : Program} {w : World} {A : Around} {E : Value → Shared → Prop} {s : Shared}
theorem tup_index (l : Addr) (xs : Array Value) (x : Value) (e : Value → Bool) (j : Nat) (hj : j < xs.size) (hit : e xs[j] = true) (hno : ∀ m (hm : m < xs.size), m < j → e xs[m] = false) :
    Meets (Builtin.«tuple.index» ⟨[.ref l, x], []⟩) (fun A R s => IsTup s.heap l xs ∧ (∀ y, y ∈ xs → SeqAt.EqAt A.in1 s y x (e y)) ∧ R (.ok (.ret (.int j s.toks))) { s with toks := s.toks + 1 }) := by
  intro prog w A R s h
  obtain ⟨hl, he, h⟩ := h
  unfold Builtin.«tuple.index»
  refine wpAny_bind (wpAny_of_eq (a := (Value.ref l, [x])) rfl ?_)
  show wpAny _ _ (Builtin.Tuple.tupleItemsOf (.ref l) >>= _) _ _ s
  refine wpAny_bind (tupleItemsOf_ hl ?_)
  skip; refine wpAny_bind (wpAny_pure (wpAny_bind (wpAny_pure ?_)))
  dsimp only
  rw [Nat.min_self]
  have loop : ∀ (k i : Nat) (s : Shared) (f : Nat → Option PySem.Fin × Unit → Sem (ForInStep (Option PySem.Fin × Unit))) (Q : Option PySem.Fin × Unit → Shared → Prop) (E : Value → Shared → Prop), i + k = xs.size → i ≤ j → (∀ y, y ∈ xs → SeqAt.EqAt A.in1 s y x (e y)) →
      (∀ i st, f i st = (match xs[i]? with
        | some y => do
          if ← eqBool y x then do
            let r ← retInt i
            pure (ForInStep.done (some r, ()))
          else pure (ForInStep.yield (none, ()))
        | _ => pure (ForInStep.yield (none, ())))) → Q (some (.done (.ret (.int j s.toks))), ()) { s with toks := s.toks + 1 } → wpAny (model prog w) A.in1 (forIn (List.range' i k) (none, ()) f) Q E s := by
    intro k
    induction k with
    | zero => intro i s f Q E hk hi; omega
    | succ k ih =>
      intro i s f Q E hk hi he hf q
      have hlt : i < xs.size := by omega
      rw [List.range'_succ, List.forIn_cons, hf, Array.getElem?_eq_getElem hlt]
      refine wpAny_bind (wpAny_bind (he _ (Array.getElem_mem hlt) prog w _ _ ?_))
      by_cases hij : i = j
      · subst hij
        rw [hit]
        exact wpAny_bind (wpAny_bind (wpAny_mkInt (wpAny_pure (wpAny_pure (wpAny_pure q)))))
      · rw [hno i hlt (by omega)]
        exact wpAny_pure (ih (i + 1) s f Q E (by omega) (by omega) he hf q)
  skip; rw [Std.Legacy.Range.forIn_eq_forIn_range']
  rw [show List.range' ([:xs.size] : Std.Legacy.Range).start ([:xs.size] : Std.Legacy.Range).size ([:xs.size] : Std.Legacy.Range).step = List.range' 0 xs.size by simp [Std.Legacy.Range.size]]
  refine wpAny_bind (loop xs.size 0 s _ _ _ (by omega) (Nat.zero_le _) he (fun _ _ => rfl) (wpAny_pure h))
end
section
variable {X : Cx}
def tTM (r : V → List V → Hp → VK → Prop) (to : TE) (t : TA) : TE := fun σ H Q => to σ H fun x H1 => (∃ p xs, x = .ref p ∧ H1 p = some (.tup xs)) ∧ t σ H1 fun vs H2 => r x vs H2 Q
theorem pe_tm {o e : Expr} {es : List Expr} {name : Str} {id : String} {apos cpos : Pos} {r : V → List V → Hp → VK → Prop} {to : TE} {t : TA} (pa : PlainAttrs "tuple") (slot : Slot "tuple" name id) (hty : typeOf (.builtin id) = pure (.type "method_descriptor")) (hm : MtM X id r) (ho : PE X o to) (ha : PA X (e :: es) t)
    (hbase : attributeBase o name X.env (eval o X.env) = eval o X.env := by rfl)
    (hfew : ((backTo cpos (starEach (e :: es) X.env)).all (fun x => !x.1) && (backToKw cpos (keywordEach [] X.env)).all (fun x => x.1.isSome)
      && decide ((e :: es).length + ([] : List Keyword).length + (if ([] : List Keyword).isEmpty then 0 else 1) < 30)) = true := by rfl)
    (hline : (apos.endLine == cpos.line) = true := by rfl) (hs : starEach (e :: es) X.env = (false, eval e X.env) :: starEach es X.env := by rfl) (hplain : (backTo cpos (starEach es X.env)).any (·.1) = false := by rfl) :
    PE X (.Call (.Attribute o name apos) (e :: es) [] cpos) (tTM r to t) := by
  intro pins s σ H Q I h
  refine wpAny_Call_method_late hbase hfew hline rfl (thn (ho pins s σ H _ I h) fun v s1 ⟨x, H1, I1, r1, ⟨p, xs, ex, hp⟩, q1⟩ => ?_)
  subst ex
  cases r1
  obtain ⟨_, its, _, it, od, f, d⟩ := (show ObjOk X.prog X.w H1 s1.heap p (.tup xs) from I1.hok p _ hp)
  refine ⟨"tuple", id, pa, slot, hty, it.typeIs, fun a e => by cases e; exact ⟨od, f, d⟩, ?_⟩
  have hA := ha cpos pins s1 σ H1 _ I1 q1
  rw [hs] at hA ⊢
  refine Calls.callWith_builtin (by show (false || (backTo cpos (starEach es X.env)).any (·.1)) = false; rw [hplain] <;> rfl) (Calls.evalArgs_plain ?_)
  exact thn hA fun us s2 ⟨vs, H2, I2, r2, q2⟩ => hm pins s2 σ H2 (.ref p) vs (.ref p) us Q I2 rfl r2 q2
end
section
variable {K : PySem.W.Frag} {σ : St} {H : Hp} {Q : VK}
theorem r_tm {r : V → List V → Hp → VK → Prop} {to : TE} {t : TA} (q : to σ H fun x H1 => (∃ p xs, x = .ref p ∧ H1 p = some (.tup xs)) ∧ t σ H1 fun vs H2 => r x vs H2 Q) : tTM r to t σ H Q := q
theorem r_tyT {p : Addr} {xs : List V} {R : Prop} (h : H p = some (.tup xs)) (q : R) : (∃ p' xs', V.ref p = .ref p' ∧ H p' = some (.tup xs')) ∧ R := ⟨⟨p, xs, rfl, h⟩, q⟩
end
section
variable {prog : Program} {w : World} {A : Around} {E : Value → Shared → Prop} {s : Shared}
theorem tuple_whole {t sl : Addr} {items : Array Value} {vl vu : Value} {lo hi : Option Int} {Q : Value → Shared → Prop} (ht : IsTup s.heap t items) (hs : s.heap.IsSliceOf sl vl vu .none) (pl : IsPart vl lo) (pu : IsPart vu hi)
    (hw : HT.sIx items.size 0 lo = 0 ∧ HT.sIx items.size items.size hi = items.size) (h : Q (.ref t) s) : wpAny (model prog w) A (getItem (.ref t) (.ref sl)) Q E s := by
  obtain ⟨os, hos, hcs, hds⟩ := id hs
  have hTs : s.TypeIs (.ref sl) "slice" := ⟨os, hos, hcs⟩
  unfold getItem
  try with_reducible refine wpAny_holding ?_
  first | refine wpAny_bind (wpAny_pure ?_) | skip
  skip; refine wpAny_bind (wpAny_sequenceKey ht.typeIs (by decide) ?_)
  refine wpAny_bind (wpAny_callSpecial?_slot (name := Str.ofString "__getitem__") ht.typeIs slot_tuple_getitem (wpAny_call_entry slot_tuple_getitem ht.typeIs entry_tuple_getitem ?_ (args_tuple_getitem _ _)))
  show wpAny _ _ (Builtin.Tuple.tupleItemsOf (.ref t) >>= _) _ _ s
  skip; refine wpAny_bind (tupleItemsOf_ ht ?_)
  skip; refine wpAny_bind (wpAny_typeOf hTs ?_)
  rw [if_pos (by decide)]
  skip; refine wpAny_bind (HT.sliceApplied_gen hs pl pu ?_)
  have hyes : (((HT.sIx items.size 0 lo : Nat) : Int) == 0 && (1 : Int) == 1 && (HT.sIx items.size items.size hi - HT.sIx items.size 0 lo) == items.size) = true := by
    rw [hw.1, hw.2]
    simp
  show wpAny _ _ (if (((HT.sIx items.size 0 lo : Nat) : Int) == 0 && (1 : Int) == 1 && (HT.sIx items.size items.size hi - HT.sIx items.size 0 lo) == items.size) = true then _ else _) _ _ s
  rw [if_pos hyes]
  refine wpAny_bind (wpAny_bind (wpAny_typeOf ht.typeIs (wpAny_pure ?_)))
  rw [if_pos (by decide)]
  first
    | exact wpAny_bind (wpAny_rule (wpAny_bind (wpAny_pure (wpAny_pure ⟨_, rfl, wpAny_pure h⟩))))
    | exact wpAny_bind (wpAny_pure (wpAny_bind (wpAny_pure (wpAny_pure ⟨_, rfl, wpAny_pure h⟩))))
    | exact wpAny_bind (wpAny_rule (wpAny_pure ⟨_, rfl, wpAny_pure h⟩))
end
section
variable {X : Cx}
def rSlW (K : PySem.W.Frag) : V → Option Int → Option Int → Hp → VK → Prop := fun x lo hi H Q => ∃ a xs, x = .ref a ∧ SqT K H a xs ∧ (HT.sIx xs.length 0 lo = 0 ∧ HT.sIx xs.length xs.length hi = xs.length) ∧ Q (.ref a) H
theorem sl_whole : SlR X (rSlW X.K) := by
  intro pins s σ H x v vl vu lo hi sl Q I rx hs pl pu h
  obtain ⟨a, xs, rfl, hx, hw, q⟩ := h
  cases rx
  obtain ⟨its, r, ht, hz⟩ := I.tuple hx
  have hlen : its.toArray.size = xs.length := by rw [List.size_toArray]; exact r.length.symm
  refine ⟨"tuple", _, slot_tuple_getitem.lookup, ht.typeIs, ?_⟩
  exact tuple_whole ht hs pl pu (by rw [hlen]; exact hw) ⟨.ref a, H, I, rfl, q⟩
def rSlS : V → Option Int → Option Int → Hp → VK → Prop := fun x lo hi H Q => ∃ z : Str, x = .str z ∧ z.length ≤ 1000000 ∧ ∀ z' : Str, (∀ c ∈ z'.cps.toList, c ∈ z.cps.toList) → z'.length ≤ z.length → Q (.str z') H
theorem sl_str : SlR X rSlS := by
  intro pins s σ H x v vl vu lo hi sl Q I rx hs pl pu h
  obtain ⟨z, rfl, hz, q⟩ := h
  obtain ⟨t, rfl⟩ := rx
  refine ⟨"str", _, F.slot_str_getitem.lookup, typeIs_str _ _ _, ?_⟩
  have part : ∀ {v : Value} {o : Option Int}, IsPart v o → ∃ l : Option (Int × Tok), v = partValue l ∧ l.map (·.1) = o := fun p => by
    cases p with
    | none => exact ⟨none, rfl, rfl⟩
    | int i t => exact ⟨some (i, t), rfl, rfl⟩
  obtain ⟨l, e1, _⟩ := part pl
  obtain ⟨u, e2, _⟩ := part pu
  have hs' : s.heap.IsSlice sl l u none := by
    obtain ⟨o, h1, h2, h3⟩ := hs
    exact ⟨o, h1, h2, by rw [h3, e1, e2]; rfl⟩
  refine wpAny_getItem_str_slice hs' rfl ?_
  unfold sliceMade
  split
  · exact ⟨.str z, H, I, ⟨t, rfl⟩, q z (fun c hc => hc) (Nat.le_refl _)⟩
  · have hle : ((slicePicked z l u none).filterMap (z.cps[·]?)).length ≤ z.length := Nat.le_trans (List.length_filterMap_le _ _) (sliceIndices_le _ _ _)
    refine ⟨?_, .str _, H, I.tok _, ⟨_, rfl⟩, q _ (fun c hc => ?_) ?_⟩
    · rw [sizeLine_eq]
      show ((slicePicked z l u none).filterMap (z.cps[·]?)).toArray.size ≤ _
      rw [List.size_toArray]
      omega
    · have hc' : c ∈ (slicePicked z l u none).filterMap (z.cps[·]?) := by simpa using hc
      obtain ⟨i, _, hi⟩ := List.mem_filterMap.mp hc'
      have := Array.mem_of_getElem? hi
      simpa using this
    · show ((slicePicked z l u none).filterMap (z.cps[·]?)).toArray.size ≤ _
      rw [List.size_toArray]
      exact hle
def rSlV (K : PySem.W.Frag) : V → Option Int → Option Int → Hp → VK → Prop := fun x lo hi H Q => (rSlU K x lo hi H Q ∨ rSlW K x lo hi H Q) ∨ rSlS x lo hi H Q
theorem oSlV : SlR X (rSlV X.K) := (oSl.or sl_whole).or sl_str
theorem cut_whole {xs : List V} {lo hi : Option Int} (h : HT.sIx xs.length 0 lo = 0 ∧ HT.sIx xs.length xs.length hi = xs.length) : cutV xs lo hi = xs := by
  unfold cutV
  rw [h.1, h.2, List.drop_zero, Nat.sub_zero, List.take_length]
variable {o i value : Expr} {pos pos' : Pos} {td ty tv : TE}
theorem pe_dgetR {k : Nat} (hr : Room k X.A) (ho : PE X o td) (hi : PE X i ty) (hs : NoSl i) : PE X (.Subscript o i pos) (tDGet td ty) := pe_dget (by have := hr.un; omega) ho hi hs
theorem ps_dputR {k : Nat} (hr : Room k X.A) (ho : PE X o td) (hi : PE X i ty) (hv : PE X value tv) (hs : swapsWith value (some (.Subscript o i pos')) pos.line X.env = pure false) : PS X (.Assign [.Subscript o i pos'] value pos) (sDPut td ty tv) := ps_dput (by have := hr.un; omega) ho hi hv hs
end
section
variable {K : PySem.W.Frag} {σ : St} {H : Hp} {Q : VK} {td ty tv : TE}
theorem r_slA {p : Addr} {xs : List V} {lo hi : Option Int} (h : H p = some (.tup xs)) (q : ∀ l H', H' l = some (.tup (cutV xs lo hi)) → Ext H H' → Q (.ref l) H') : rSlV K (.ref p) lo hi H Q := by
  by_cases c : HT.sIx xs.length 0 lo = 0 ∧ HT.sIx xs.length xs.length hi = xs.length
  · exact .inl (.inr ⟨p, xs, rfl, SqT.of h, c, q p H (by rw [cut_whole c]; exact h) Ext.rfl'⟩)
  · exact .inl (.inl (r_slT h c fun l H' _ h1 h2 => q l H' h1 h2))
def rDGet (x y : V) (H : Hp) (Q : VK) : Prop := ∃ a v, x = .ref a ∧ DGet H a y (some v) ∧ Q v H
def rDPut (x y v : V) (H : Hp) (R : Hp → Prop) : Prop := ∃ a H4, x = .ref a ∧ DPut H a y v H4 ∧ R H4
theorem r_dget (q : td σ H fun x H1 => ty σ H1 fun y H2 => rDGet x y H2 Q) : tDGet td ty σ H Q := q
theorem r_dput {D : Ends} (q : tv σ H fun v H1 => td σ H1 fun x H2 => ty σ H2 fun y H3 => rDPut x y v H3 fun H4 => D.nx σ H4) : sDPut td ty tv D σ H := q
end
theorem cons_erase {α : Type} : ∀ (l : List α) (i : Nat) (h : i < l.length), (l[i] :: l.eraseIdx i).Perm l
  | a :: l, 0, h => List.Perm.refl _
  | a :: l, i + 1, h => (List.Perm.swap a _ _).trans (List.Perm.cons a (cons_erase l i (Nat.lt_of_succ_lt_succ h)))
theorem pick_go {α : Type} (next : Nat → Nat) : ∀ (fuel k : Nat) (left : List α) (out : Array α), left.length = fuel → (pickOrder.go next fuel k left out).toList.Perm (out.toList ++ left)
  | 0, k, left, out, h => by
    rw [List.length_eq_zero_iff.mp h, List.append_nil]
    exact List.Perm.refl _
  | fuel + 1, k, left, out, h => by
    have lt : next k % left.length < left.length := Nat.mod_lt _ (by omega)
    unfold pickOrder.go
    rw [List.getElem?_eq_getElem lt]
    refine (pick_go next fuel (k + 1) _ _ (by rw [List.length_eraseIdx_of_lt lt]; omega)).trans ?_
    rw [Array.toList_push, List.append_assoc]
    exact List.Perm.append_left _ (cons_erase _ _ lt)
theorem pick_perm {α : Type} (next : Nat → Nat) (xs : Array α) : (pickOrder next xs).toList.Perm xs.toList := pick_go next xs.size 0 xs.toList #[] (Array.length_toList ..)
theorem si_owner : Manifest.owners.lookup (String.ofList ['r', 'o', 't', 'a', 'r', 'e', 't', 'i', '_', 't', 'e', 's'].reverse) = some Manifest.sig_set_iterator := by kernel_rfl
theorem si_nextL : Slot "set_iterator" "__next__" "set_iterator.__next__" := .of (owner := "set_iterator") (n := "__next__") (by rw [typeLookup_type, builtinLookup_eq_fast]; kernel_rfl) (by decide +kernel) (by decide +kernel) (by decide +kernel) (by first | exact .inl (by decide +kernel) | exact .inr (by decide +kernel)) (by rw [isSubtype_type]; kernel_rfl)
theorem si_nextE : entryFor table "set_iterator.__next__" = some Builtin.«set_iterator.__next__» := entryFor_of_tree (by kernel_rfl)
theorem si_nextA (a : Value) : argsOk "set_iterator.__next__" ⟨[a], []⟩ := by unfold argsOk; rw [signature?_of (id := "set_iterator.__next__") (n := ['_', '_', 't', 'x', 'e', 'n', '_', '_']) (o := ['r', 'o', 't', 'a', 'r', 'e', 't', 'i', '_', 't', 'e', 's']) (by kernel_rfl) si_owner]; kernel_rfl
theorem si_iterL : Slot "set_iterator" "__iter__" "set_iterator.__iter__" := .of (owner := "set_iterator") (n := "__iter__") (by rw [typeLookup_type, builtinLookup_eq_fast]; kernel_rfl) (by decide +kernel) (by decide +kernel) (by decide +kernel) (by first | exact .inl (by decide +kernel) | exact .inr (by decide +kernel)) (by rw [isSubtype_type]; kernel_rfl)
theorem si_iterA (a : Value) : argsOk "set_iterator.__iter__" ⟨[a], []⟩ := by unfold argsOk; rw [signature?_of (id := "set_iterator.__iter__") (n := ['_', '_', 'r', 'e', 't', 'i', '_', '_']) (o := ['r', 'o', 't', 'a', 'r', 'e', 't', 'i', '_', 't', 'e', 's']) (by kernel_rfl) si_owner]; kernel_rfl
theorem si_iterE : entryFor table "set_iterator.__iter__" = some Builtin.«dict_keyiterator.__iter__» := entryFor_alias (id' := "dict_keyiterator.__iter__") (by kernel_rfl) (by first | rfl | decide +kernel | (unfold String.splitOn; simp +decide [String.splitOnAux])) (by decide +kernel) (by kernel_rfl)
theorem st_iterE : entryFor table "set.__iter__" = some Builtin.«frozenset.__iter__» := entryFor_alias (id' := "frozenset.__iter__") (by kernel_rfl) (by first | rfl | decide +kernel | (unfold String.splitOn; simp +decide [String.splitOnAux])) (by decide +kernel) (by kernel_rfl)
def byT (w : World) : Bool := w.params.followText "set-order"
abbrev stObj (es : Array (Int × Value)) (ep : Nat) (t : SetTable) : Obj := { cls := .type "set", dict := none, data := .set es ep t, slots := #[] }
abbrev siObj (f i : Nat) (S : Addr) (n ep : Nat) : Obj := { cls := .type "set_iterator", dict := none, data := .fields #[rawInt f, rawInt i, .ref S, rawInt n, rawInt ep], slots := #[] }
structure Rise (t : SetTable) (n : Nat) (sl : Nat → Nat) : Prop where
  fits : t.fits n = true
  plain : t.plain = true
  zero : sl 0 = 0
  low : ∀ i, i ≤ n → SetTable.below t.place (sl i) = i
  step : ∀ i, i < n → ∃ j, t.place[i]? = some j ∧ j + 1 = sl (i + 1)
def fsOf (w : World) (sl : Nat → Nat) (i : Nat) : Nat := if byT w then 0 else sl i
def ordOf (w : World) (S : Addr) (ep : Nat) (es : Array (Int × Value)) : Array (Int × Value) := if byT w then pickOrder (w.params.setOrder S ep) es else es
theorem ord_perm (w : World) (S : Addr) (ep : Nat) (es : Array (Int × Value)) : (ordOf w S ep es).toList.Perm es.toList := by
  unfold ordOf
  split
  · exact pick_perm _ _
  · exact List.Perm.refl _
theorem ord_size (w : World) (S : Addr) (ep : Nat) (es : Array (Int × Value)) : (ordOf w S ep es).size = es.size := by
  rw [← Array.length_toList, (ord_perm w S ep es).length_eq, Array.length_toList]
section
variable {prog : Program} {w : World} {A : Around} {E : Value → Shared → Prop} {s : Shared}
theorem byText_of {Q : Bool → Shared → Prop} (h : Q (byT w) s) : wpAny (model prog w) A setsByText Q E s := by
  unfold setsByText
  skip; exact wpAny_bind (wpAny_askSetting (wpAny_pure h))
theorem si_setNext {S : Addr} {es : Array (Int × Value)} {ep i : Nat} {t : SetTable} {sl : Nat → Nat} {Q : Option (Value × Nat) → Shared → Prop} (hS : s.heap.get? S = some (stObj es ep t)) (R : Rise t es.size sl) (hled : t.led = !byT w) (hi : i ≤ es.size)
    (h : Q (((ordOf w S ep es)[i]?).map fun e => (e.2, fsOf w sl (i + 1))) s) : wpAny (model prog w) A (setNext S (fsOf w sl i) i ep) Q E s := by
  unfold setNext
  refine wpAny_bind (wpAny_setState_of hS rfl R.fits (wpAny_bind (byText_of ?_)))
  unfold ordOf fsOf at h
  unfold fsOf
  by_cases hb : byT w = true
  · rw [hb] at h ⊢
    simp only [if_true] at h ⊢
    rw [if_neg (by simp)]
    refine wpAny_bind ?_
    unfold setWalk
    refine wpAny_bind (wpAny_setState_of hS rfl R.fits (wpAny_bind (byText_of ?_)))
    rw [hb]
    exact wpAny_bind (wpAny_askSetting (wpAny_pure (wpAny_pure h)))
  · rw [Bool.not_eq_true] at hb
    rw [hb] at h hled ⊢
    simp only [Bool.false_eq_true, if_false] at h ⊢
    show wpAny _ _ (if (!t.plain && decide (es.size > 1)) = true then _ else _) _ _ _
    rw [R.plain]
    rw [if_neg (by simp)]
    refine wpAny_bind ?_
    show wpAny _ _ (if (!t.led && !es.isEmpty) = true then _ else _) _ _ _
    rw [hled, if_neg (by simp)]
    refine wpAny_pure ?_
    rw [R.low i hi]
    by_cases hlt : i < es.size
    · obtain ⟨j, e1, e2⟩ := R.step i hlt
      rw [Array.getElem?_eq_getElem hlt] at h ⊢
      rw [e1]
      dsimp only [Option.map] at h ⊢
      rw [e2]
      exact wpAny_pure h
    · rw [Array.getElem?_eq_none (by omega)] at h ⊢
      exact wpAny_pure h
theorem si_item {I S : Addr} {es : Array (Int × Value)} {ep i : Nat} {t : SetTable} {sl : Nat → Nat} {x : Int × Value} {Q : Option Value → Shared → Prop} (hI : s.heap.get? I = some (siObj (fsOf w sl i) i S es.size ep)) (hS : s.heap.get? S = some (stObj es ep t)) (R : Rise t es.size sl) (hled : t.led = !byT w) (hi : i < es.size) (ne : S ≠ I)
    (hx : (ordOf w S ep es)[i]? = some x) (hQ : ∀ h', h'.get? I = some (siObj (fsOf w sl (i + 1)) (i + 1) S es.size ep) → Heap.SameBut I s.heap h' → Q (some x.2) { s with heap := h' }) : wpAny (model prog w) A (pyNext (.ref I)) Q E s := by
  have te : s.TypeIs (.ref I) "set_iterator" := ⟨_, hI, rfl⟩
  unfold pyNext
  refine wpAny_bind (wpAny_attempt (wpAny_callSpecial?_slot (name := Str.ofString "__next__") te si_nextL (wpAny_call_entry si_nextL te si_nextE ?_ (si_nextA _))))
  unfold Builtin.«set_iterator.__next__»
  refine wpAny_bind (wpAny_of_eq (a := (Value.ref I, [])) rfl ?_)
  refine wpAny_bind (wpAny_fieldsOf hI rfl ?_)
  show wpAny _ _ (setEntries S >>= _) _ _ _
  refine wpAny_bind (wpAny_setEntries_of hS rfl R.fits ?_)
  rw [if_neg (by simp)]
  show wpAny _ _ (setNext S (fsOf w sl i : Int).toNat (i : Int).toNat (ep : Int).toNat >>= _) _ _ _
  rw [Int.toNat_natCast, Int.toNat_natCast, Int.toNat_natCast]
  refine wpAny_bind (si_setNext hS R hled (by omega) ?_)
  rw [hx]
  show wpAny _ _ (setField (.ref I) 0 (rawInt (fsOf w sl (i + 1) : Nat)) >>= _) _ _ _
  refine wpAny_bind (wpAny_setField_rec hI (by simp) fun g1 e1 s1 => wpAny_bind (wpAny_setField_rec e1 (by simp) fun g2 e2 s2 => ?_))
  refine wpAny_pure ⟨_, rfl, wpAny_pure (hQ g2 ?_ (s1.trans s2))⟩
  exact e2
theorem si_end {I S : Addr} {es : Array (Int × Value)} {ep : Nat} {t : SetTable} {sl : Nat → Nat} {Q : Option Value → Shared → Prop} (hh : A.handled = none) (hI : s.heap.get? I = some (siObj (fsOf w sl es.size) es.size S es.size ep)) (hS : s.heap.get? S = some (stObj es ep t)) (R : Rise t es.size sl) (hled : t.led = !byT w)
    (hQ : ∀ h', (∀ b o, b ≠ I → s.heap.get? b = some o → h'.get? b = some o) → Q none { s with heap := h' }) : wpAny (model prog w) A (pyNext (.ref I)) Q E s := by
  have te : s.TypeIs (.ref I) "set_iterator" := ⟨_, hI, rfl⟩
  unfold pyNext
  refine wpAny_bind (wpAny_attempt (wpAny_callSpecial?_slot (name := Str.ofString "__next__") te si_nextL (wpAny_call_entry si_nextL te si_nextE ?_ (si_nextA _))))
  unfold Builtin.«set_iterator.__next__»
  refine wpAny_bind (wpAny_of_eq (a := (Value.ref I, [])) rfl ?_)
  refine wpAny_bind (wpAny_fieldsOf hI rfl ?_)
  show wpAny _ _ (setEntries S >>= _) _ _ _
  refine wpAny_bind (wpAny_setEntries_of hS rfl R.fits ?_)
  rw [if_neg (by simp)]
  show wpAny _ _ (setNext S (fsOf w sl es.size : Int).toNat (es.size : Int).toNat (ep : Int).toNat >>= _) _ _ _
  rw [Int.toNat_natCast, Int.toNat_natCast, Int.toNat_natCast]
  refine wpAny_bind (si_setNext hS R hled (Nat.le_refl _) ?_)
  rw [Array.getElem?_eq_none (by rw [ord_size]; exact Nat.le_refl _)]
  show wpAny _ _ (setField (.ref I) 2 .none >>= _) _ _ _
  refine wpAny_bind (wpAny_setField_rec hI (by simp) fun g1 e1 s1 => ?_)
  have kk : ∀ b o, b ≠ I → s.heap.get? b = some o → g1.get? b = some o := fun b o q h => s1.extBut b o q h
  refine wpAny_bind ?_; simp only [newExc, newTuple]; refine wpAny_bind (wpAny_newObj_type (wpAny_bind (m := firstArgMember _ _) (wpAny_of_eq (a := Value.none) (by first | rfl | (simp only [firstArgMember]; rfl)) (wpAny_newObj_type ?_ (by size_fits)))) (by size_fits))
  simp only [raiseNew]; refine wpAny_bind (wpAny_handled ?_); first | rw [show A.in1.handled = none from hh] | rw [hh]
  refine wpAny_bind (wpAny_pure (wpAny_throw ?_)); refine wpAny_bind (wpAny_isInstance (T := "StopIteration") (b := true) ⟨_, Heap.get?_push_size _ rfl, rfl⟩ isSubtype_stop ?_)
  exact wpAny_pure (hQ _ fun b o q h => Heap.get?_push_of_some _ (Heap.get?_push_of_some _ (kk b o q h)))
theorem si_self {I S : Addr} {f i n ep : Nat} {Q : Value → Shared → Prop} (hI : s.heap.get? I = some (siObj f i S n ep)) (h : Q (.ref I) s) : wpAny (model prog w) A (pyIter (.ref I)) Q E s := by
  have te : s.TypeIs (.ref I) "set_iterator" := ⟨_, hI, rfl⟩
  refine wpAny_pyIter_slot te si_iterL (wpAny_call_entry si_iterL te si_iterE ?_ (si_iterA _))
  exact wpAny_pure ⟨_, rfl, "set_iterator", _, te, si_nextL.lookup, h⟩
theorem st_iter {S : Addr} {es : Array (Int × Value)} {ep : Nat} {t : SetTable} {sl : Nat → Nat} {Q : Value → Shared → Prop} (hS : s.heap.get? S = some (stObj es ep t)) (R : Rise t es.size sl)
    (h : Q (.ref s.heap.objs.size) { s with heap := s.heap.push (siObj 0 0 S es.size ep) }) : wpAny (model prog w) A (pyIter (.ref S)) Q E s := by
  have te : s.TypeIs (.ref S) "set" := ⟨_, hS, rfl⟩
  refine wpAny_pyIter_slot te PySem.F.slot_set_iter (wpAny_call_entry PySem.F.slot_set_iter te st_iterE ?_ (PySem.F.args_set_iter_1 _))
  unfold Builtin.«frozenset.__iter__»
  refine wpAny_bind (wpAny_of_eq (a := S) rfl ?_)
  unfold Builtin.Frozenset.sizeOf
  refine wpAny_bind (wpAny_bind (wpAny_setEntries_of hS rfl R.fits (wpAny_pure ?_)))
  refine wpAny_bind ?_
  unfold setDrawn
  refine wpAny_bind (wpAny_setState_of hS rfl R.fits (wpAny_bind (byText_of (wpAny_pure ?_))))
  have e : (!byT w && (!t.plain && decide (es.size > 1))) = false := by rw [R.plain]; simp
  show wpAny _ _ (if (!byT w && (!t.plain && decide (es.size > 1))) = true then _ else _) _ _ _
  rw [e, if_neg (by decide)]
  refine wpAny_bind (wpAny_pure ?_)
  refine wpAny_bind (wpAny_setEpoch_of hS rfl R.fits ?_)
  exact wpAny_bind (wpAny_newObj_type (wpAny_pure ⟨_, rfl, "set_iterator", _, ⟨_, Heap.get?_push_size _ rfl, rfl⟩, si_nextL.lookup, h⟩))
end
theorem si_walks {prog : Program} {w : World} {A : Around} (hh : A.handled = none) (I S : Addr) (ne : S ≠ I) {es : Array (Int × Value)} {ep : Nat} {t : SetTable} {sl : Nat → Nat} (R : Rise t es.size sl) (hled : t.led = !byT w) :
    Walks prog w A I [I, S] [I] es.size (fun i v => ((ordOf w S ep es)[i]?).map (·.2) = some v) (fun i h => i ≤ es.size ∧ h.get? I = some (siObj (fsOf w sl i) i S es.size ep) ∧ h.get? S = some (stObj es ep t)) where
  sub := fun b hb => by rw [List.mem_singleton.mp hb]; simp
  frame := fun _ _ _ x hk => ⟨x.1, hk I (by simp) _ x.2.1, hk S (by simp) _ x.2.2⟩
  item := fun i s Q E hi x (hQ) => by
    have hx : (ordOf w S ep es)[i]? = some ((ordOf w S ep es)[i]'(by rw [ord_size]; exact hi)) := Array.getElem?_eq_getElem _
    refine si_item x.2.1 x.2.2 R hled hi ne hx fun h' hit' hs' => ?_
    exact hQ _ h' s.toks (by rw [hx]; rfl) ⟨hi, hit', (hs'.2 S ne).trans x.2.2⟩ fun b o hb eo => hs'.extBut b o (fun h => hb (by simp [h])) eo
  done := fun s Q E x hQ => si_end hh x.2.1 x.2.2 R hled fun h' he' => hQ h' s.toks fun b o hb eo => he' b o (fun h => hb (by simp [h])) eo
  self := fun _ _ _ _ x hQ => si_self x.2.1 hQ
theorem st_sub : isSubtype (.type "set") (.type "set") = pure true := by rw [isSubtype_type]; kernel_rfl
section
variable {prog : Program} {w : World} {A : Around} {E : Value → Shared → Prop} {s : Shared}
theorem st_collect {S : Addr} {es : Array (Int × Value)} {ep : Nat} {t : SetTable} {sl : Nat → Nat} {Q : List Value → Shared → Prop} (hh : A.handled = none) (hS : s.heap.get? S = some (stObj es ep t)) (R : Rise t es.size sl) (hled : t.led = !byT w) (hz : es.size ≤ sizeLine)
    (hQ : ∀ s' acc, Moved [] (fun a b => b = a) s s' → ItemsOf (fun i v => ((ordOf w S ep es)[i]?).map (·.2) = some v) acc es.size → Q acc.toList s') : wpAny (model prog w) A (collect (.ref S)) Q E s := by
  have lS : S < s.heap.objs.size := Heap.lt_size hS
  have nd : s.heap.objs.size ≠ S := Nat.ne_of_gt lS
  unfold collect; refine wpAny_bind (wpAny_runValue (codeAny_builtin F.entry_proto_collect ?_)); rw [Around.under_plainId F.plain_proto_collect _]
  show wpAny _ A.in1 (newList [] >>= fun x => again (.builtin "list.__iadd__" ⟨[x, .ref S], []⟩)) _ _ s
  refine wpAny_bind (wpAny_newObj_type (wpAny_pure ⟨plainId_quiet F.plain_list_iadd _, codeAny_builtin F.entry_list_iadd ?_⟩)); rw [Around.under_plainId F.plain_list_iadd _]
  have d1 : (s.heap.push { cls := .type "list", data := .seq ([] : List Value).toArray }).get? S = some (stObj es ep t) := Heap.get?_push_of_some _ hS
  have S1 : (s.heap.push { cls := .type "list", data := .seq ([] : List Value).toArray }).get? s.heap.objs.size = some { cls := .type "list", data := .seq ([] : List Value).toArray } := Heap.get?_push_size _ rfl
  have same : Builtin.List.listSameRef (.ref s.heap.objs.size) (.ref S) = false := by simp [Builtin.List.listSameRef, nd]
  show wpAny _ A.in1 (Builtin.List.listExtendWith (.ref s.heap.objs.size) (.ref S) (.ref s.heap.objs.size)) _ _ _; unfold Builtin.List.listExtendWith
  refine wpAny_bind (wpAny_typeOf (T := "set") ⟨_, d1, rfl⟩ ?_)
  rw [if_neg (by rw [same]; decide)]
  refine wpAny_bind (st_iter d1 R (wpAny_bind (wpAny_holding ?_)))
  have n1 : (s.heap.push { cls := .type "list", data := .seq ([] : List Value).toArray }).objs.size = s.heap.objs.size + 1 := by rw [Heap.size_push]
  rw [n1]
  have I2 : ((s.heap.push { cls := .type "list", data := .seq ([] : List Value).toArray }).push (siObj 0 0 S es.size ep)).get? (s.heap.objs.size + 1) = some (siObj 0 0 S es.size ep) := by rw [← n1]; exact Heap.get?_push_size _ rfl
  have d2 : ((s.heap.push { cls := .type "list", data := .seq ([] : List Value).toArray }).push (siObj 0 0 S es.size ep)).get? S = some (stObj es ep t) := Heap.get?_push_of_some _ d1
  have S2 : ((s.heap.push { cls := .type "list", data := .seq ([] : List Value).toArray }).push (siObj 0 0 S es.size ep)).get? s.heap.objs.size = some { cls := .type "list", data := .seq ([] : List Value).toArray } := Heap.get?_push_of_some _ S1
  have te : Shared.TypeIs { s with heap := (s.heap.push { cls := .type "list", data := .seq ([] : List Value).toArray }).push (siObj 0 0 S es.size ep) } (.ref S) "set" := ⟨_, d2, rfl⟩
  unfold Builtin.List.listLengthHint; refine wpAny_bind (wpAny_specialOf (T := "set") te PySem.F.slot_set_len.lookup ?_)
  (generalize hid : ("set.__len__" : String) = id0; (fail_if_success (clear hid id0)); wp_delta; rw [show splitId id0 = some ("set", "__len__") from by subst hid; decide +kernel]; subst hid)
  refine wpAny_bind (wpAny_isInstance (T := "set") (b := true) te st_sub ?_)
  rw [if_neg (by decide)]; rw [if_pos (by decide +kernel)]
  refine wpAny_bind (wpAny_typeOf (T := "set") te (wpAny_pure ?_))
  rw [if_pos (by decide +kernel)]
  refine wpAny_bind (wpAny_rule (wpAny_bind ?_))
  have S3 := Heap.get?_update_self (Obj.mapSeq (·.push Value.none)) S2 rfl
  show wpAny _ A.in1 (updateSeq s.heap.objs.size (·.push .none) >>= fun _ => updateSeq s.heap.objs.size (·.pop)) _ _ _; refine wpAny_bind (wpAny_updateSeq S2 rfl (wpAny_updateSeq S3 rfl ?_))
  have S4 := Heap.get?_update_self (Obj.mapSeq (·.pop)) S3 rfl
  have oth : ∀ b o, b ≠ s.heap.objs.size → ((s.heap.push { cls := .type "list", data := .seq ([] : List Value).toArray }).push (siObj 0 0 S es.size ep)).get? b = some o → ((((s.heap.push { cls := .type "list", data := .seq ([] : List Value).toArray }).push (siObj 0 0 S es.size ep)).update s.heap.objs.size (Obj.mapSeq (·.push Value.none))).update s.heap.objs.size (Obj.mapSeq (·.pop))).get? b = some o :=
    fun b o nb e => (Heap.get?_update_other _ _ (Ne.symm nb)).trans ((Heap.get?_update_other _ _ (Ne.symm nb)).trans e)
  have neI : S ≠ s.heap.objs.size + 1 := Nat.ne_of_lt (Nat.lt_succ_of_lt lS)
  have W := (si_walks (prog := prog) (w := w) (A := A.in1) hh (s.heap.objs.size + 1) S neI (ep := ep) R hled).toS
  have nS : s.heap.objs.size ∉ [s.heap.objs.size + 1, S] := by
    simp only [List.mem_cons, List.mem_nil_iff, or_false, not_or]
    exact ⟨Nat.ne_of_lt (Nat.lt_succ_self _), nd⟩
  have z0 : fsOf w sl 0 = 0 := by unfold fsOf; rw [R.zero, ite_self]
  refine wpAny_pure ⟨plainId_quiet F.plain_extend_loop _, codeAny_extend_loopS W hz _ nS _ es.size 0 _ _ _ rfl (Nat.zero_le _) ⟨Nat.zero_le _, ?_, oth S _ nd.symm d2⟩ S4 (ItemsOf.nil _) fun s' acc' c' hm hS' hacc => wpAny_bind (wpAny_load hS' (wpAny_pure (hQ s' acc' ⟨fun b o _ e => ?_, hm.gens, hm.drawn, hm.os, hm.toks⟩ hacc)))⟩
  · rw [z0]
    exact oth _ _ (Nat.ne_of_gt (Nat.lt_succ_self _)) I2
  · have lb := Heap.lt_size e
    refine hm.heap b o (fun q => ?_) (oth b o (Nat.ne_of_lt lb) (Heap.get?_push_of_some _ (Heap.get?_push_of_some _ e)))
    rcases List.mem_cons.mp q with q | q
    · exact Nat.ne_of_lt lb q
    · exact Nat.ne_of_lt (Nat.lt_succ_of_lt lb) (List.mem_singleton.mp q)
theorem perm_ints {us vs : List Value} (p : us.Perm vs) : ∀ {ns : List Int}, IntsAre vs ns → ∃ ns1, IntsAre us ns1 ∧ ns1.Perm ns := by
  induction p with
  | nil => intro ns h; exact ⟨ns, h, List.Perm.refl _⟩
  | cons x _ ih =>
    intro ns h
    cases h with
    | cons n t r =>
      obtain ⟨m, a, b⟩ := ih r
      exact ⟨n :: m, .cons n t a, b.cons n⟩
  | swap x y l =>
    intro ns h
    cases h with
    | cons n t r =>
      cases r with
      | cons n2 t2 r2 => exact ⟨_, .cons n2 t2 (.cons n t r2), List.Perm.swap _ _ _⟩
  | trans _ _ i1 i2 =>
    intro ns h
    obtain ⟨m, a, b⟩ := i2 h
    obtain ⟨m2, a2, b2⟩ := i1 a
    exact ⟨m2, a2, b2.trans b⟩
theorem items_list {P : Nat → Value → Prop} {ys : List Value} {acc : Array Value} (h : ItemsOf P acc ys.length) (hp : ∀ i v, P i v → ys[i]? = some v) : acc.toList = ys := by
  refine List.ext_getElem? fun i => ?_
  by_cases hi : i < acc.size
  · have e : acc.toList[i]? = some acc[i] := by rw [Array.getElem?_toList]; exact Array.getElem?_eq_getElem hi
    rw [e]
    exact (hp i _ (h.2 i _ (Array.getElem?_eq_getElem hi))).symm
  · rw [List.getElem?_eq_none (by rw [Array.length_toList]; omega), List.getElem?_eq_none (by have := h.1; omega)]
theorem st_sorted {S : Addr} {es : Array (Int × Value)} {ep : Nat} {t : SetTable} {sl : Nat → Nat} {ns : List Int} {Q : Value → Shared → Prop} (hh : A.handled = none) (hS : s.heap.get? S = some (stObj es ep t)) (R : Rise t es.size sl) (hled : t.led = !byT w) (h64 : es.size < 64) (hI : IntsAre (es.toList.map (·.2)) ns)
    (h : ∀ (s' : Shared) (h' : Heap) (a : Addr) (out : List Value) (e : Nat) (ns' : List Int), (∀ b o, s.heap.get? b = some o → h'.get? b = some o) → S < a → h'.get? a = some (seqObj "list" out.toArray e) → IntsAre out ns' → ns'.Perm ns → ns'.Pairwise (· ≤ ·) → Q (.ref a) { s with heap := h', toks := s'.toks }) : wpAny (model prog w) A (call (.builtin "sorted") [.ref S]) Q E s := by
  have hz : es.size ≤ sizeLine := by rw [sizeLine_eq]; omega
  refine Calls.call_function_entry kind_sorted plain_sorted entry_sorted (args_sorted1 _) ?_; unfold Builtin.«sorted»
  refine wpAny_bind (m := checkCount "sorted" 1 1 _) (wpAny_pure (wpAny_bind (st_collect hh hS R hled hz fun s' acc hm ha => ?_)))
  have ea : acc.toList = (ordOf w S ep es).toList.map (·.2) := by
    refine items_list (P := fun i v => ((ordOf w S ep es)[i]?).map (·.2) = some v) (by rw [List.length_map, Array.length_toList, ord_size]; exact ha) fun i v hv => ?_
    rw [List.getElem?_map, Array.getElem?_toList]
    exact hv
  have hp : (acc.toList).Perm (es.toList.map (·.2)) := by rw [ea]; exact (ord_perm w S ep es).map _
  obtain ⟨ns1, i1, p1⟩ : ∃ ns1, IntsAre acc.toList ns1 ∧ ns1.Perm ns := perm_ints hp hI
  have l1 : acc.toList.length < 64 := by rw [hp.length_eq, List.length_map, Array.length_toList]; exact h64
  skip; refine wpAny_bind (wpAny_newList ?_ (by rw [sizeLine_eq]; omega))
  have o1 : (s'.heap.push (seqObj "list" acc.toList.toArray 0)).get? s'.heap.objs.size = some (seqObj "list" acc.toList.toArray 0) := Heap.get?_push_size _ rfl
  have le : S < s'.heap.objs.size := Heap.lt_size (hm.heap S _ (by simp) hS)
  refine wpAny_bind (wpAny_holding (wpAny_call_entry slot_list_sort ⟨_, o1, rfl⟩ entry_list_sort (list_sort_tree o1 i1 l1 fun out ns' a1 a2 a3 => ⟨_, rfl, wpAny_pure ⟨_, rfl, ?_⟩⟩) (args_list_sort _)))
  obtain ⟨h', g', d', t', q'⟩ := s'
  skip; have eg : g' = s.gens := hm.gens
  skip; have ed : d' = s.drawn := hm.drawn
  have eo : q' = s.os := hm.os
  subst eg ed eo
  obtain ⟨e, he⟩ := sortedHeap_at (out := out) o1
  refine h ⟨h', s.gens, s.drawn, t', s.os⟩ _ _ out.toList e ns' (fun b o eb => ?_) le (by simpa using he) a1 (a2.trans p1) a3
  have hb := hm.heap b o (by simp) eb
  have lb := Heap.lt_size hb
  refine (sortedHeap_old (Nat.ne_of_lt lb) ?_).trans (Heap.get?_push_of_some _ hb)
  rw [Heap.size_push]
  exact Nat.lt_succ_of_lt lb
end
theorem filter_take {α : Type} (xs : List α) : ∀ k, k ≤ xs.length → (List.range k).filterMap (xs[·]?) = xs.take k
  | 0, _ => rfl
  | k + 1, h => by
    have e : xs[k]? = some (xs[k]'(by omega)) := List.getElem?_eq_getElem (by omega)
    rw [List.range_succ, List.filterMap_append, filter_take xs k (by omega), List.take_add_one, e]
    simp [e]
section
variable {prog : Program} {w : World} {A : Around} {E : Value → Shared → Prop} {s : Shared}
theorem set_newB (a : Value) {QN : Value → Shared → Prop} (h : QN (.ref s.heap.objs.size) { s with heap := s.heap.push (newSet (!byT w)) }) :
    codeAny (model prog w) A (.call (.builtin "set.__new__") ⟨[.type "set", a], []⟩) (wants QN E) s := by
  refine codeAny_of_tree ?_; show wpAny _ A.in1 (do checkBuiltinCall "set.__new__" ⟨[.type "set", a], []⟩; again (.builtin "set.__new__" ⟨[.type "set", a], []⟩)) _ _ s
  refine wpAny_bind (wpAny_of_eq (PySem.F.newCall_set_1 a) (wpAny_pure ⟨plainId_quiet PySem.F.plain_set_new _, codeAny_builtin PySem.F.entry_set_new ?_⟩)); rw [Around.under_plainId PySem.F.plain_set_new _]
  skip; unfold Builtin.«set.__new__» Builtin.Frozenset.newClass
  have hsub := sub_set_self
  skip; obtain ⟨hp, g, d, tk, os⟩ := s
  dsimp only; wp_walk
  refine wpAny_askSetting (wpAny_pure ?_); dsimp only; simp only [newObj]
  skip; refine wpAny_bind (wpAny_alloc (wpAny_pure (wpAny_pure h)))
end
end L2
set_option Elab.async false
set_option linter.all false
set_option maxRecDepth 100000
set_option maxHeartbeats 4000000
namespace L2
open PySem PySem.Spec PyProof.Rows PySem.W
section
variable {O : KeyOrd} {k : Nat → O.α} {n : Nat} {s : Shared} {cmp : Nat → Nat → (Bool → Shared → Prop) → Shared → Prop}
def kAt (k : Nat → O.α) (p : Array Nat) (i : Nat) : O.α := k (p[i]?.getD 0)
def Asc (k : Nat → O.α) (p : Array Nat) (m : Nat) : Prop := ∀ i j, i ≤ j → j < m → O.kle (kAt k p i) (kAt k p j)
def Dsc (k : Nat → O.α) (p : Array Nat) (m : Nat) : Prop := ∀ i j, i ≤ j → j < m → O.kle (kAt k p j) (kAt k p i)
def OkP (n : Nat) (p : Array Nat) : Prop := p.toList.Perm (List.range n)
theorem OkP.size {p : Array Nat} (h : OkP n p) : p.size = n := by have := h.length_eq; simpa using this
theorem OkP.lt {p : Array Nat} (h : OkP n p) {i : Nat} (hi : i < n) : p[i]?.getD 0 < n := by
  have hs := h.size
  rw [Array.getElem?_eq_getElem (by omega), Option.getD_some]
  exact List.mem_range.mp (h.mem_iff.mp (by simp))
theorem OkP.of {p q : Array Nat} (h : OkP n p) (e : q.Perm p) : OkP n q := (Array.perm_iff_toList_perm.mp e).trans h
theorem OkP.rev {p : Array Nat} (h : OkP n p) (i j : Nat) : OkP n (kas_rev p i j) := h.of (mirror_perm _ _ _ _)
theorem OkP.bub {p : Array Nat} (h : OkP n p) (i j : Nat) : OkP n (bubble p i j) := h.of (bubble_perm _ _ _)
theorem kAt_rev {p : Array Nat} {i j : Nat} (hj : j ≤ p.size) (m : Nat) : kAt k (kas_rev p i j) m = if i ≤ m ∧ m < j then kAt k p (i + j - 1 - m) else kAt k p m := by
  unfold kAt kas_rev
  rw [getElem?_mirror_all hj]
  split <;> rfl
theorem kAt_revEq {p : Array Nat} {i j : Nat} (hj : j ≤ p.size) (he : ∀ m, i ≤ m → m < j → kAt k p m = kAt k p (j - 1)) (m : Nat) : kAt k (kas_rev p i j) m = kAt k p m := by
  rw [kAt_rev hj]
  split
  · rw [he _ (by omega) (by omega), he m (by omega) (by omega)]
  · rfl
theorem kAt_bub {p : Array Nat} {a d : Nat} (ha : a < p.size) (hd : d ≤ a) (m : Nat) : kAt k (bubble p a d) m = if m = a - d then kAt k p a else if a - d < m ∧ m ≤ a then kAt k p (m - 1) else kAt k p m := by
  unfold kAt
  rw [getElem?_bubble ha d hd]
  split
  · rfl
  · split <;> rfl
def Tells (k : Nat → O.α) (n : Nat) (cmp : Nat → Nat → (Bool → Shared → Prop) → Shared → Prop) (s : Shared) : Prop := ∀ i j, i < n → j < n → ∀ C : Bool → Shared → Prop, C (O.blt (k i) (k j)) s → cmp i j C s
theorem Tells.at (T : Tells k n cmp s) {p : Array Nat} (h : OkP n p) {i j : Nat} (hi : i < n) (hj : j < n) {C : Bool → Shared → Prop} (c : C (O.blt (kAt k p i) (kAt k p j)) s) : cmp (p.getD i 0) (p.getD j 0) C s := by
  rw [Array.getD_eq_getD_getElem?, Array.getD_eq_getD_getElem?]
  exact T _ _ (h.lt hi) (h.lt hj) C c
theorem asc_more {p : Array Nat} {m : Nat} (h : Asc k p m) (h1 : 1 ≤ m) (c : O.blt (kAt k p m) (kAt k p (m - 1)) = false) : Asc k p (m + 1) := by
  intro i j hij hj
  by_cases hm : j < m
  · exact h i j hij hm
  · obtain rfl : j = m := by omega
    by_cases hi : i = j
    · rw [hi]; exact KeyOrd.kle_refl _
    · exact KeyOrd.kle_trans (h i (j - 1) (by omega) (by omega)) c
theorem t_asc (T : Tells k n cmp s) {p : Array Nat} (hp : OkP n p) {G : Nat → Shared → Prop} : ∀ (f m : Nat), 1 ≤ m → m + f ≤ n → Asc k p m →
    (∀ r, m ≤ r → r ≤ m + f → Asc k p r → (r = m + f ∨ O.klt (kAt k p r) (kAt k p (r - 1))) → G r s) → (kas_asc p f m).kasWp cmp G s
  | 0, m, h1, hn, hs, h => h m (Nat.le_refl _) (Nat.le_refl _) hs (.inl rfl)
  | f + 1, m, h1, hn, hs, h => by
    show cmp (p.getD m 0) (p.getD (m - 1) 0) (fun b s' => (if b = true then KasT.ret m else kas_asc p f (m + 1)).kasWp cmp G s') s
    refine T.at hp (by omega) (by omega) ?_
    cases c : O.blt (kAt k p m) (kAt k p (m - 1)) with
    | true => exact h m (Nat.le_refl _) (by omega) hs (.inr c)
    | false => exact t_asc T hp f (m + 1) (by omega) (by omega) (asc_more hs h1 c) fun r a b d e => h r (by omega) (by omega) d (e.imp (fun z => by omega) id)
def TailEq (k : Nat → O.α) (p : Array Nat) (m q : Nat) : Prop := q + 1 ≤ m ∧ ∀ i, m - (q + 1) ≤ i → i < m → kAt k p i = kAt k p (m - 1)
theorem tail_one {p : Array Nat} {m : Nat} (h : 1 ≤ m) : TailEq k p m 0 := ⟨h, fun i a b => by rw [show i = m - 1 by omega]⟩
theorem dsc_more {p p' : Array Nat} {m : Nat} (e : ∀ i, kAt k p' i = kAt k p i) (h : Dsc k p m) (h1 : 1 ≤ m) (c : O.kle (kAt k p m) (kAt k p (m - 1))) : Dsc k p' (m + 1) := by
  intro i j hij hj
  rw [e, e]
  by_cases hm : j < m
  · exact h i j hij hm
  · obtain rfl : j = m := by omega
    by_cases hi : i = j
    · rw [hi]; exact KeyOrd.kle_refl _
    · exact KeyOrd.kle_trans c (h i (j - 1) (by omega) (by omega))
theorem t_desc (T : Tells k n cmp s) {G : Array Nat × Nat × Nat → Shared → Prop} : ∀ (f : Nat) (p : Array Nat) (m q : Nat), OkP n p → 1 ≤ m → m + f ≤ n → Dsc k p m → TailEq k p m q →
    (∀ p' r q', OkP n p' → m ≤ r → r ≤ m + f → Dsc k p' r → TailEq k p' r q' → G (p', r, q') s) → (kas_desc f p m q).kasWp cmp G s
  | 0, p, m, q, hp, h1, hn, hd, he, h => h p m q hp (Nat.le_refl _) (Nat.le_refl _) hd he
  | f + 1, p, m, q, hp, h1, hn, hd, he, h => by
    show cmp (p.getD m 0) (p.getD (m - 1) 0) (fun b s' => (if b = true then (if q > 0 then kas_desc f (kas_rev p (m - (q + 1)) m) (m + 1) 0 else kas_desc f p (m + 1) 0) else KasT.ask (p.getD (m - 1) 0) (p.getD m 0) fun d => if d = true then .ret (p, m, q) else kas_desc f p (m + 1) (q + 1)).kasWp cmp G s') s
    refine T.at hp (by omega) (by omega) ?_
    have hsz := hp.size
    cases c : O.blt (kAt k p m) (kAt k p (m - 1)) with
    | true =>
      rw [if_pos rfl]
      have cl : O.kle (kAt k p m) (kAt k p (m - 1)) := KeyOrd.kle_of_klt c
      by_cases hq : q > 0
      · rw [if_pos hq]
        exact t_desc T f _ (m + 1) 0 (hp.rev _ _) (by omega) (by omega) (dsc_more (kAt_revEq (by omega) he.2) hd h1 cl) (tail_one (by omega)) fun p' r q' a b c d e => h p' r q' a (by omega) (by omega) d e
      · rw [if_neg hq]
        exact t_desc T f p (m + 1) 0 hp (by omega) (by omega) (dsc_more (fun _ => rfl) hd h1 cl) (tail_one (by omega)) fun p' r q' a b c d e => h p' r q' a (by omega) (by omega) d e
    | false =>
      rw [if_neg (by decide)]
      show cmp (p.getD (m - 1) 0) (p.getD m 0) (fun b s' => (if b = true then KasT.ret (p, m, q) else kas_desc f p (m + 1) (q + 1)).kasWp cmp G s') s
      refine T.at hp (by omega) (by omega) ?_
      cases d : O.blt (kAt k p (m - 1)) (kAt k p m) with
      | true => exact h p m q hp (Nat.le_refl _) (by omega) hd he
      | false =>
        have eq : kAt k p m = kAt k p (m - 1) := KeyOrd.kle_antisymm d c
        refine t_desc T f p (m + 1) (q + 1) hp (by omega) (by omega) (dsc_more (fun _ => rfl) hd h1 d) ⟨by have := he.1; omega, fun i a b => ?_⟩ fun p' r q' a b c d e => h p' r q' a (by omega) (by omega) d e
        rw [show m + 1 - 1 = m by omega]
        by_cases hi : i = m
        · rw [hi]
        · rw [eq]; exact he.2 i (by omega) (by omega)
theorem rev_asc {p : Array Nat} {m : Nat} (hm : m ≤ p.size) (h : Dsc k p m) : Asc k (kas_rev p 0 m) m := by
  intro i j hij hj
  rw [kAt_rev hm, kAt_rev hm, if_pos (by omega), if_pos (by omega)]
  exact h _ _ (by omega) (by omega)
theorem t_tail3 (T : Tells k n cmp s) {p : Array Nat} {m : Nat} (hp : OkP n p) (h1 : 1 ≤ m) (hm : m ≤ n) (hd : Dsc k p m) {G : Nat × Array Nat → Shared → Prop}
    (h : ∀ r p', OkP n p' → 1 ≤ r → r ≤ n → Asc k p' r → G (r, p') s) : (kas_tail3 m n p).kasWp cmp G s := by
  unfold kas_tail3
  rw [KasT.kasWp_bind]
  exact t_asc T (hp.rev _ _) _ m h1 (by omega) (rev_asc (by rw [hp.size]; exact hm) hd) fun r a b c _ => h r _ (hp.rev _ _) (by omega) (by omega) c
theorem t_descPart (T : Tells k n cmp s) {p : Array Nat} {m : Nat} (hp : OkP n p) (hm : m + 1 ≤ n) (hd : Dsc k p (m + 1)) {G : Nat × Array Nat → Shared → Prop}
    (h : ∀ r p', OkP n p' → 1 ≤ r → r ≤ n → Asc k p' r → G (r, p') s) : (kas_descPart m n p).kasWp cmp G s := by
  unfold kas_descPart
  rw [KasT.kasWp_bind]
  refine t_desc T _ p (m + 1) 0 hp (by omega) (by omega) hd (tail_one (by omega)) fun p' r q' a b c d e => ?_
  have hs := a.size
  by_cases hq : q' > 0
  · show (if q' > 0 then kas_tail3 r n (kas_rev p' (r - (q' + 1)) r) else kas_tail3 r n p').kasWp cmp G s
    rw [if_pos hq]
    refine t_tail3 T (a.rev _ _) (by omega) (by omega) (fun i j hij hj => ?_) h
    rw [kAt_revEq (by omega) e.2, kAt_revEq (by omega) e.2]
    exact d i j hij hj
  · show (if q' > 0 then kas_tail3 r n (kas_rev p' (r - (q' + 1)) r) else kas_tail3 r n p').kasWp cmp G s
    rw [if_neg hq]
    exact t_tail3 T a (by omega) (by omega) d h
theorem t_count (T : Tells k n cmp s) {p : Array Nat} (hp : OkP n p) (h0 : 1 ≤ n) {G : Nat × Array Nat → Shared → Prop} (h : ∀ r p', OkP n p' → 1 ≤ r → r ≤ n → Asc k p' r → G (r, p') s) : (kas_count n p).kasWp cmp G s := by
  have hsz := hp.size
  unfold kas_count
  rw [KasT.kasWp_bind]
  refine t_asc T hp _ 1 (Nat.le_refl _) (by omega) (fun i j hij hj => by rw [show i = j by omega]; exact KeyOrd.kle_refl _) fun m a b c e => ?_
  by_cases hm : m = n
  · rw [if_pos (by simpa using hm)]
    exact h m p hp a (by omega) c
  · rw [if_neg (by simpa using hm)]
    have lt : O.klt (kAt k p m) (kAt k p (m - 1)) := e.resolve_left (by omega)
    by_cases h2 : m > 1
    · rw [if_pos h2]
      show cmp (p.getD 0 0) (p.getD (m - 1) 0) (fun b s' => (if b = true then KasT.ret (m, p) else kas_descPart m n (kas_rev p 0 m)).kasWp cmp G s') s
      refine T.at hp (by omega) (by omega) ?_
      cases d : O.blt (kAt k p 0) (kAt k p (m - 1)) with
      | true => exact h m p hp a (by omega) c
      | false =>
        rw [if_neg (by decide)]
        have all : ∀ i, 0 ≤ i → i < m → kAt k p i = kAt k p (m - 1) := fun i _ hi => KeyOrd.kle_antisymm (c i (m - 1) (by omega) (by omega)) (KeyOrd.kle_trans d (c 0 i (by omega) hi))
        refine t_descPart T (hp.rev _ _) (by omega) (fun i j hij hj => ?_) h
        rw [kAt_revEq (by omega) all, kAt_revEq (by omega) all]
        by_cases hj2 : j < m
        · rw [all i (by omega) (by omega), all j (by omega) hj2]; exact KeyOrd.kle_refl _
        · obtain rfl : j = m := by omega
          by_cases hi : i = j
          · rw [hi]; exact KeyOrd.kle_refl _
          · rw [all i (by omega) (by omega)]; exact KeyOrd.kle_of_klt lt
    · rw [if_neg h2]
      obtain rfl : m = 1 := by omega
      refine t_descPart T hp (by omega) (fun i j hij hj => ?_) h
      by_cases hi : i = j
      · rw [hi]; exact KeyOrd.kle_refl _
      · obtain rfl : i = 0 := by omega
        obtain rfl : j = 1 := by omega
        exact KeyOrd.kle_of_klt lt
theorem t_place (T : Tells k n cmp s) {p : Array Nat} (hp : OkP n p) {a : Nat} (ha : a < n) (hs : Asc k p a) {G : Nat → Shared → Prop} (h : ∀ l, l ≤ a → (∀ i, i < l → O.kle (kAt k p i) (kAt k p a)) → (∀ i, l ≤ i → i < a → O.klt (kAt k p a) (kAt k p i)) → G l s) :
    ∀ (f l r : Nat), l ≤ r → r ≤ a → r - l ≤ f → (∀ i, i < l → O.kle (kAt k p i) (kAt k p a)) → (∀ i, r ≤ i → i < a → O.klt (kAt k p a) (kAt k p i)) → (kas_place p a f l r).kasWp cmp G s
  | 0, l, r, hl, hr, hf, x, y => h l (by omega) x (by rw [show l = r by omega]; exact y)
  | f + 1, l, r, hl, hr, hf, x, y => by
    unfold kas_place
    by_cases hge : l ≥ r
    · rw [if_pos hge]
      exact h l (by omega) x (by rw [show l = r by omega]; exact y)
    · rw [if_neg hge]
      show cmp (p.getD a 0) (p.getD ((l + r) / 2) 0) (fun b s' => (if b = true then kas_place p a f l ((l + r) / 2) else kas_place p a f ((l + r) / 2 + 1) r).kasWp cmp G s') s
      refine T.at hp ha (by omega) ?_
      cases c : O.blt (kAt k p a) (kAt k p ((l + r) / 2)) with
      | true => exact t_place T hp ha hs h f l ((l + r) / 2) (by omega) (by omega) (by omega) x fun i u v => KeyOrd.klt_of_klt_of_kle c (hs _ _ u v)
      | false => exact t_place T hp ha hs h f ((l + r) / 2 + 1) r (by omega) (by omega) (by omega) (fun i u => KeyOrd.kle_trans (hs i ((l + r) / 2) (by omega) (by omega)) c) y
theorem t_bin (T : Tells k n cmp s) {G : Array Nat → Shared → Prop} (h : ∀ p, OkP n p → Asc k p n → G p s) : ∀ (f : Nat) (p : Array Nat) (a : Nat), OkP n p → a + f = n → Asc k p a → (kas_bin f p a).kasWp cmp G s
  | 0, p, a, hp, ha, hs => h p hp (by rw [← ha]; exact hs)
  | f + 1, p, a, hp, ha, hs => by
    have hsz := hp.size
    unfold kas_bin
    rw [KasT.kasWp_bind]
    refine t_place T hp (by omega) hs (fun l hl x y => ?_) a 0 a (Nat.zero_le _) (Nat.le_refl _) (by omega) (fun i hi => by omega) fun i u v => by omega
    refine t_bin T h f _ (a + 1) (hp.bub _ _) (by omega) fun i j hij hj => ?_
    rw [kAt_bub (by omega) (by omega), kAt_bub (by omega) (by omega), show a - (a - l) = l by omega]
    repeat' split
    all_goals first | (exfalso; omega) | exact KeyOrd.kle_refl _ | exact x _ (by omega) | exact KeyOrd.kle_of_klt (y _ (by omega) (by omega)) | exact hs _ _ (by omega) (by omega)
theorem t_sort (T : Tells k n cmp s) (h0 : 1 ≤ n) {G : Array Nat → Shared → Prop} (h : ∀ p, OkP n p → Asc k p n → G p s) : (kas_sort n).kasWp cmp G s := by
  unfold kas_sort
  rw [KasT.kasWp_bind]
  refine t_count T (List.Perm.refl _) h0 fun r p' a b c d => ?_
  show (if r < n then kas_bin (n - max r 1) p' (max r 1) else KasT.ret p').kasWp cmp G s
  rw [show max r 1 = r by omega]
  by_cases hr : r < n
  · rw [if_pos hr]
    exact t_bin T h _ p' r a (by omega) d
  · rw [if_neg hr]
    obtain rfl : r = n := by omega
    exact h p' a d
end
end L2
set_option Elab.async false
set_option linter.all false
set_option maxRecDepth 100000
set_option maxHeartbeats 4000000
namespace L2
open PySem PySem.Spec PyProof.Rows PySem.W
section
variable {prog : Program} {w : World} {A : Around} {E : Value → Shared → Prop} {s : Shared} {O : KeyOrd} {k : Nat → O.α} {a : Addr} {vs : List Value}
theorem sort_any {κ : SortKind} {n : Nat} {P : PySem.Fin → Shared → Prop} (ho : s.heap.get? a = some (seqObj "list" vs.toArray n)) (h64 : vs.length < 64)
    (hkk : 2 ≤ vs.length → ∀ h', (∀ b o, b ≠ a → s.heap.get? b = some o → h'.get? b = some o) → ∀ Q : SortKind → Shared → Prop, Q κ { s with heap := h' } → wpAny (model prog w) A (keyKind' vs.toArray) Q E { s with heap := h' })
    (hT : ∀ h', (∀ b o, b ≠ a → s.heap.get? b = some o → h'.get? b = some o) → Tells k vs.length (kas_ask prog w A κ vs) { s with heap := h' })
    (h : ∀ p : Array Nat, OkP vs.length p → Asc k p vs.length → P (.done (.ret .none)) { s with heap := sortedHeap s.heap a vs (p.toList.map fun i => vs.getD i .none).toArray }) :
    wpAny (model prog w) A (Builtin.«list.sort» ⟨[Value.ref a], []⟩) P E s := by
  have la : a < s.heap.objs.size := Heap.lt_size ho
  have zl : vs.length ≤ sizeLine := by rw [sizeLine_eq]; omega
  rw [list_sort_plain]
  refine wpAny_bind (listItems_at ho rfl (wpAny_bind (listUpdate_at ho rfl ?_ (by rw [List.size_toArray]; omega) (Nat.zero_le _))))
  obtain ⟨e1, g1⟩ : ∃ e1, (s.heap.update a (Obj.mapSeq fun _ => #[])).get? a = some (seqObj "list" #[] e1) := ⟨_, get?_update_seq ho (fun _ => #[])⟩
  refine wpAny_bind (seqEpoch_at g1 rfl (wpAny_bind (wpAny_newTuple (wpAny_bind (wpAny_newList (wpAny_holding ?_) (Nat.zero_le _))) zl)))
  have g6 : (((s.heap.update a (Obj.mapSeq fun _ => #[])).push (seqObj "tuple" vs.toArray 0)).push (seqObj "list" #[] 0)).get? a = some (seqObj "list" #[] e1) := Heap.get?_push_of_some _ (Heap.get?_push_of_some _ g1)
  have kp : ∀ b o, b ≠ a → s.heap.get? b = some o → (((s.heap.update a (Obj.mapSeq fun _ => #[])).push (seqObj "tuple" vs.toArray 0)).push (seqObj "list" #[] 0)).get? b = some o :=
    fun b o q e => Heap.get?_push_of_some _ (Heap.get?_push_of_some _ ((Heap.get?_update_other _ _ (Ne.symm q)).trans e))
  skip; show wpAny (model prog w) A _ P E { s with heap := ((s.heap.update a (Obj.mapSeq fun _ => #[])).push (seqObj "tuple" vs.toArray 0)).push (seqObj "list" #[] 0) }
  dsimp only
  have sz : vs.toArray.size = vs.length := List.size_toArray ..
  by_cases h2 : (vs.toArray.size < 2)
  · rw [if_pos h2, if_pos h2]
    refine wpAny_bind (wpAny_pure ?_)
    rw [StateT.run_pure]
    refine wpAny_bind (wpAny_pure ?_)
    have es : ((vs.toArray.zip vs.toArray).map fun x => x.2) = ((List.range vs.length).toArray.toList.map fun i => vs.getD i .none).toArray := by
      apply Array.ext'
      refine List.ext_getElem? fun i => ?_
      by_cases hi : i < vs.length
      · simp [hi]
      · simp [hi]
    have q := h (List.range vs.length).toArray (List.Perm.refl _) fun i j hij hj => by rw [show i = j by omega]; exact KeyOrd.kle_refl _
    rw [← es] at q
    refine wpAny_bind (seqEpoch_at g6 rfl (wpAny_bind (listUpdate_at g6 rfl ?_ (by simp) (by show ((vs.toArray.zip vs.toArray).map fun x => x.2).size ≤ _; rw [Array.size_map, Array.size_zip]; omega))))
    skip; simp only [bne_self_eq_false, Bool.false_eq_true, if_false]
    exact wpAny_pure q
  · rw [if_neg h2, if_neg h2]
    refine wpAny_bind (hkk (by omega) _ kp _ ?_)
    refine wpAny_bind (wpAny_mono (kat_run (ks := vs) (vs := vs) (Q := fun st' s' => s' = { s with heap := ((s.heap.update a (Obj.mapSeq fun _ => #[])).push (seqObj "tuple" vs.toArray 0)).push (seqObj "list" #[] 0) } ∧ ∃ p : Array Nat, arrOf st' = p.map (kas_item (vs.toArray.zip vs.toArray)) ∧ failedOf st' = none ∧ OkP vs.length p ∧ Asc k p vs.length)
      rfl (by omega) h64 (fun p st' s' _ a2 a3 a4 => ⟨a4.1, p, a2, a3, a4.2⟩) (t_sort (G := fun p s' => s' = _ ∧ OkP vs.length p ∧ Asc k p vs.length) (hT _ kp) (by omega) fun p x y => ⟨rfl, x, y⟩)) ?_ fun _ _ e => e)
    rintro ⟨⟨⟩, st'⟩ s' ⟨rfl, p, har, hf, ok, as⟩
    have es := kat_snds rfl har
    dsimp only
    refine wpAny_bind (seqEpoch_at g6 rfl (wpAny_bind (listUpdate_at g6 rfl ?_ (by simp) (by show ((arrOf st').map fun x => x.2).size ≤ _; rw [es, List.size_toArray, List.length_map, Array.length_toList, ok.size]; omega))))
    rw [hf]
    skip; simp only [bne_self_eq_false, Bool.false_eq_true, if_false]
    have q := h p ok as
    rw [← es] at q
    exact wpAny_pure q
end
def lexB : List Int → List Int → Bool → Bool
  | x :: xs, y :: ys, e => if x = y then lexB xs ys e else decide (x < y)
  | _, _, e => e
theorem lexB_eq : ∀ xs ys : List Int, lexB xs ys (decide (xs.length < ys.length)) = decide (xs < ys)
  | [], [] => by decide
  | [], y :: ys => by
    show decide (0 < ys.length + 1) = _
    rw [decide_eq_true (by omega), decide_eq_true (List.nil_lt_cons y ys)]
  | x :: xs, [] => by
    show decide (xs.length + 1 < 0) = _
    rw [decide_eq_false (by omega), decide_eq_false (List.not_lt_nil _)]
  | x :: xs, y :: ys => by
    show (if x = y then lexB xs ys (decide (xs.length + 1 < ys.length + 1)) else decide (x < y)) = _
    have := lexB_eq xs ys
    by_cases c : x = y
    · subst c
      rw [if_pos rfl, decide_eq_decide.mpr (Nat.add_lt_add_iff_right), this]
      exact decide_eq_decide.mpr ⟨fun h => List.cons_lt_cons_iff.mpr (.inr ⟨rfl, h⟩), fun h => (List.cons_lt_cons_iff.mp h).elim (fun z => absurd z (Int.lt_irrefl _)) fun z => z.2⟩
    · rw [if_neg c]
      exact decide_eq_decide.mpr ⟨fun h => List.cons_lt_cons_iff.mpr (.inl h), fun h => (List.cons_lt_cons_iff.mp h).elim id fun z => absurd z.1 c⟩
@[reducible] def rowOrd : KeyOrd where
  α := List Int
  blt a b := decide (a < b)
  irrefl x := by simpa using List.lt_irrefl x
  trans x y z h1 h2 := by simp only [decide_eq_true_eq] at *; exact List.lt_trans h1 h2
  negTrans a b c h := by
    skip; simp only [decide_eq_true_eq] at *
    by_cases hab : a < b
    · exact .inl hab
    · skip; exact .inr (List.lt_of_le_of_lt (List.not_lt.mp hab) h)
  total x y h1 h2 := by simp only [decide_eq_false_iff_not] at *; exact List.le_antisymm (List.not_lt.mp h2) (List.not_lt.mp h1)
section
variable {prog : Program} {w : World} {A : Around} {E : Value → Shared → Prop} {s : Shared}
theorem lt_one {b : Bool} {x y : Int} {t u : Tok} {Q : Bool → Shared → Prop} (h : Q (decide (x < y)) s) : wpAny (model prog w) A (oneLt' b (.int x t) (.int y u)) Q E s := by
  cases b with
  | true => exact oneLt_int h
  | false => exact kat_one _ _ (lt_int h)
theorem lex_ints {b fin : Bool} {Q : Bool → Shared → Prop} : ∀ {xs ys : List Value} {L M : List Int} {i : Nat}, IntsAre xs L → IntsAre ys M → Q (lexB L M fin) s → KatLex prog w A b fin Q (xs.zip ys) i s
  | [], _, _, _, i, .nil, _, h => kat_nil h
  | _, _, _, _, i, .cons n t r, .nil, h => kat_nil h
  | _, _, _, _, i, .cons n t r, .cons m u q, h => by
    refine kat_cons (wpAny_eqBool_int ?_)
    unfold lexB at h
    by_cases c : n = m
    · rw [if_pos c] at h
      subst c
      rw [show (n == n) = true from beq_self_eq_true n]
      exact kat_yes (lex_ints r q h)
    · rw [if_neg c] at h
      rw [show (n == m) = false from beq_eq_false_iff_ne.mpr c]
      exact kat_no (lt_one h)
def RowsAt (h : Heap) : List Value → List (List Int) → Prop
  | [], [] => True
  | v :: vs, L :: Ls => (∃ a its, v = .ref a ∧ IsTup h a its ∧ IntsAre its.toList L ∧ L ≠ []) ∧ RowsAt h vs Ls
  | _, _ => False
theorem RowsAt.kept {h h' : Heap} {x : Addr} {zs : Array Value} {n : Nat} (hx : h.get? x = some (seqObj "list" zs n)) (e : ∀ b o, b ≠ x → h.get? b = some o → h'.get? b = some o) : ∀ {vs : List Value} {Ls : List (List Int)}, RowsAt h vs Ls → RowsAt h' vs Ls
  | [], [], _ => trivial
  | [], _ :: _, r => r.elim
  | _ :: _, [], r => r.elim
  | v :: vs, L :: Ls, ⟨⟨a, its, e1, e2, e3, e4⟩, r⟩ => by
    refine ⟨⟨a, its, e1, tup_at e2 fun o q => e a o (fun z => ?_) q, e3, e4⟩, RowsAt.kept hx e r⟩
    subst z
    obtain ⟨o, ho, hc, _⟩ := e2
    rw [hx] at ho
    cases ho
    exact absurd (show Value.type "list" = Value.type "tuple" from hc) (by decide)
theorem RowsAt.get {h : Heap} : ∀ {vs : List Value} {Ls : List (List Int)} {i : Nat}, RowsAt h vs Ls → i < vs.length → ∃ a its, vs.getD i .none = .ref a ∧ IsTup h a its ∧ IntsAre its.toList (Ls.getD i [])
  | [], [], i, _, hi => by simp at hi
  | [], _ :: _, _, r, _ => r.elim
  | _ :: _, [], _, r, _ => r.elim
  | v :: vs, L :: Ls, 0, ⟨⟨a, its, e1, e2, e3, e4⟩, r⟩, _ => ⟨a, its, e1, e2, e3⟩
  | v :: vs, L :: Ls, i + 1, ⟨_, r⟩, hi => by
    obtain ⟨a, its, e1, e2, e3⟩ := RowsAt.get (i := i) r (by simpa using hi)
    exact ⟨a, its, by simpa using e1, e2, by simpa using e3⟩
theorem RowsAt.firsts {h : Heap} : ∀ {vs : List Value} {Ls : List (List Int)}, RowsAt h vs Ls → ∃ fs, KatTups h vs fs ∧ fs.length = vs.length ∧ ∀ v ∈ fs, ∃ n t, v = .int n t
  | [], [], _ => ⟨[], KatTups.nil, rfl, by simp⟩
  | [], _ :: _, r => r.elim
  | _ :: _, [], r => r.elim
  | v :: vs, L :: Ls, ⟨⟨a, its, e1, e2, e3, e4⟩, r⟩ => by
    obtain ⟨fs, k1, k2, k3⟩ := RowsAt.firsts r
    obtain ⟨o, ho, hc, n, hd⟩ := e2
    cases e3' : its.toList with
    | nil =>
      rw [e3'] at e3
      cases e3
      exact absurd rfl e4
    | cons x xs =>
      rw [e3'] at e3
      cases e3 with
      | cons m t q =>
        subst e1
        refine ⟨.int m t :: fs, KatTups.cons ho hc hd (by rw [← Array.getElem?_toList, e3']; rfl) k1, by rw [List.length_cons, List.length_cons, k2], fun v hv => ?_⟩
        skip; rcases List.mem_cons.mp hv with rfl | hv
        · exact ⟨m, t, rfl⟩
        · exact k3 v hv
theorem rows_tell {vs : List Value} {Ls : List (List Int)} {b : Bool} (h : RowsAt s.heap vs Ls) : Tells (O := rowOrd) (fun i => Ls.getD i []) vs.length (kas_ask prog w A (tuples' b) vs) s := by
  intro i j hi hj C c
  obtain ⟨x, xs, ex, tx, ix⟩ := h.get hi
  obtain ⟨y, ys, ey, ty, iy⟩ := h.get hj
  obtain ⟨ox, gx, _, nx, dx⟩ := tx
  obtain ⟨oy, gy, _, ny, dy⟩ := ty
  unfold kas_ask
  rw [ex, ey]
  refine kat_lt gx dx gy dy (lex_ints ix iy ?_)
  have lx := ix.length
  have ly := iy.length
  rw [Array.length_toList] at lx ly
  rw [lx, ly, lexB_eq]
  exact c
theorem rows_sort {a : Addr} {vs : List Value} {n : Nat} {Ls : List (List Int)} {P : PySem.Fin → Shared → Prop} (ho : s.heap.get? a = some (seqObj "list" vs.toArray n)) (h64 : vs.length < 64) (hR : RowsAt s.heap vs Ls)
    (h : ∀ p : Array Nat, OkP vs.length p → Asc (O := rowOrd) (fun i => Ls.getD i []) p vs.length → P (.done (.ret .none)) { s with heap := sortedHeap s.heap a vs (p.toList.map fun i => vs.getD i .none).toArray }) :
    wpAny (model prog w) A (Builtin.«list.sort» ⟨[Value.ref a], []⟩) P E s := by
  refine sort_any (κ := tuples' true) (O := rowOrd) (k := fun i => Ls.getD i []) ho h64 (fun h2 h' e Q q => ?_) (fun h' e => rows_tell (s := { s with heap := h' }) (hR.kept ho e)) h
  obtain ⟨fs, k1, k2, k3⟩ := RowsAt.firsts (hR.kept ho e)
  exact kat_kind (s := { s with heap := h' }) (T := .type "int") k1 (by omega) (fun v hv => by obtain ⟨m, t, rfl⟩ := k3 v hv; exact .now) rfl q
end
def Ris (xs : Array Nat) : Prop := xs.toList.Pairwise (· < ·)
structure Low (xs : Array Nat) (j r : Nat) : Prop where
  le : r ≤ xs.size
  lo : ∀ i, i < r → xs.getD i 0 < j
  hi : ∀ i, r ≤ i → i < xs.size → j ≤ xs.getD i 0
theorem getD_at {xs : Array Nat} {i d : Nat} (h : i < xs.size) : xs.getD i d = xs[i] := by simp [Array.getD, h]
theorem Ris.lt {xs : Array Nat} (h : Ris xs) {i k : Nat} (a : i < k) (b : k < xs.size) : xs.getD i 0 < xs.getD k 0 := by
  rw [getD_at (by omega), getD_at b]
  have := List.pairwise_iff_getElem.mp h i k (by rw [Array.length_toList]; omega) (by rw [Array.length_toList]; exact b) a
  simpa using this
theorem Low.uniq {xs : Array Nat} {j r r' : Nat} (a : Low xs j r) (b : Low xs j r') : r = r' := by
  rcases Nat.lt_trichotomy r r' with h | h | h
  · have x := a.hi r (Nat.le_refl _) (by have := b.le; omega)
    have y := b.lo r h
    omega
  · exact h
  · have x := b.hi r' (Nat.le_refl _) (by have := a.le; omega)
    have y := a.lo r' h
    omega
theorem low_go {xs : Array Nat} {j : Nat} (hr : Ris xs) : ∀ (fuel lo hi : Nat), lo ≤ hi → hi ≤ xs.size → hi - lo ≤ fuel → (∀ i, i < lo → xs.getD i 0 < j) → (∀ i, hi ≤ i → i < xs.size → j ≤ xs.getD i 0) → Low xs j (SetTable.below.go xs j fuel lo hi)
  | 0, lo, hi, a, b, c, d, e => ⟨by show lo ≤ _; omega, d, by show ∀ i, lo ≤ i → _; rw [show lo = hi by omega]; exact e⟩
  | fuel + 1, lo, hi, a, b, c, d, e => by
    unfold SetTable.below.go
    by_cases h : lo < hi
    · rw [if_pos h]
      have hm : (lo + hi) / 2 < xs.size := by omega
      dsimp only
      rw [getD_at hm]
      have em : xs.getD ((lo + hi) / 2) 0 = xs[(lo + hi) / 2] := getD_at hm
      by_cases q : xs[(lo + hi) / 2] < j
      · rw [if_pos q]
        refine low_go hr fuel _ hi (by omega) b (by omega) (fun i hi' => ?_) e
        by_cases z : i = (lo + hi) / 2
        · rw [z, em]; exact q
        · have := hr.lt (show i < (lo + hi) / 2 by omega) hm; omega
      · rw [if_neg q]
        refine low_go hr fuel lo _ (by omega) (by omega) (by omega) d fun i x y => ?_
        by_cases z : i = (lo + hi) / 2
        · rw [z, em]; omega
        · have := hr.lt (show (lo + hi) / 2 < i by omega) y; omega
    · rw [if_neg h]
      exact ⟨by omega, d, by rw [show lo = hi by omega]; exact e⟩
theorem below_low {xs : Array Nat} (hr : Ris xs) (j : Nat) : Low xs j (SetTable.below xs j) := low_go hr xs.size 0 xs.size (Nat.zero_le _) (Nat.le_refl _) (by omega) (fun i h => by omega) fun i a b => by omega
theorem below_mem {xs : Array Nat} (hr : Ris xs) (j : Nat) : xs[SetTable.below xs j]? = some j ↔ j ∈ xs.toList := by
  have L := below_low hr j
  constructor
  · intro h
    exact List.mem_of_getElem? (by rw [Array.getElem?_toList]; exact h)
  · intro h
    obtain ⟨i, hi, e⟩ := List.getElem_of_mem h
    rw [Array.length_toList] at hi
    have e' : xs.getD i 0 = j := by rw [getD_at hi]; simpa using e
    have : SetTable.below xs j = i := by
      refine L.uniq ⟨by omega, fun k hk => ?_, fun k a b => ?_⟩
      · have := hr.lt hk hi; omega
      · by_cases z : k = i
        · rw [z]; omega
        · have := hr.lt (show i < k by omega) b; omega
    rw [this, Array.getElem?_eq_getElem hi]
    simpa using e
theorem insert_list {α : Type} (xs : Array α) (p : Nat) (x : α) : (SetTable.insertAt xs p x).toList = xs.toList.take p ++ x :: xs.toList.drop p := by
  unfold SetTable.insertAt
  simp
  skip; exact List.take_of_length_le (by simp)
theorem low_take {xs : Array Nat} {j p : Nat} (L : Low xs j p) : ∀ y ∈ xs.toList.take p, y < j := by
  intro y hy
  obtain ⟨i, hi, e⟩ := List.getElem_of_mem hy
  rw [List.length_take] at hi
  have := L.lo i (by omega)
  rw [getD_at (by rw [Array.length_toList] at hi; omega)] at this
  rw [← e]
  simpa using this
theorem low_drop {xs : Array Nat} {j p : Nat} (L : Low xs j p) : ∀ y ∈ xs.toList.drop p, j ≤ y := by
  intro y hy
  obtain ⟨i, hi, e⟩ := List.getElem_of_mem hy
  rw [List.length_drop, Array.length_toList] at hi
  have := L.hi (p + i) (by omega) (by omega)
  rw [getD_at (by omega)] at this
  rw [← e]
  simpa using this
theorem ris_insert {xs : Array Nat} {j p : Nat} (h : Ris xs) (L : Low xs j p) (hn : j ∉ xs.toList) : Ris (SetTable.insertAt xs p j) := by
  unfold Ris at h ⊢
  rw [insert_list]
  have hp := h
  rw [← List.take_append_drop p xs.toList] at hp
  obtain ⟨h1, h2, h3⟩ := List.pairwise_append.mp hp
  have gt : ∀ y ∈ xs.toList.drop p, j < y := fun y hy => by
    have := low_drop L y hy
    have : j ≠ y := fun e => hn (by rw [e]; exact List.mem_of_mem_drop hy)
    omega
  refine List.pairwise_append.mpr ⟨h1, List.pairwise_cons.mpr ⟨gt, h2⟩, fun x hx y hy => ?_⟩
  skip; rcases List.mem_cons.mp hy with rfl | hy
  · exact low_take L x hx
  · exact h3 x hx y hy
theorem slot_of {t : SetTable} (hd : t.dummies = #[]) (hr : Ris t.place) (j : Nat) : t.slot j = if j ∈ t.place.toList then .live (SetTable.below t.place j) else .empty := by
  unfold SetTable.slot
  dsimp only
  rw [hd]
  by_cases h : j ∈ t.place.toList
  · rw [if_pos h, (below_mem hr j).mpr h, if_pos (by simp)]
  · rw [if_neg h, if_neg (by rw [beq_iff_eq, below_mem hr]; exact h), if_neg (by unfold SetTable.has; simp)]
theorem ris_rise {t : SetTable} {n : Nat} (hf : t.fits n = true) (hp : t.plain = true) (hr : Ris t.place) (hn : t.place.size = n) : Rise t n fun i => if i = 0 then 0 else t.place.getD (i - 1) 0 + 1 := by
  refine ⟨hf, hp, rfl, fun i hi => ?_, fun i hi => ⟨t.place[i], Array.getElem?_eq_getElem (by omega), ?_⟩⟩
  · refine (below_low hr _).uniq ⟨by omega, fun k hk => ?_, fun k a b => ?_⟩
    · rw [if_neg (by omega)]
      by_cases z : k = i - 1
      · rw [z]; omega
      · have := hr.lt (show k < i - 1 by omega) (by omega); omega
    · by_cases z : i = 0
      · rw [if_pos z]; omega
      · rw [if_neg z]
        have := hr.lt (show i - 1 < k by omega) b
        omega
  · rw [if_neg (by omega), Nat.add_sub_cancel, getD_at (by omega)]
def adv (m : Nat) (p : SetTable.Probe) : SetTable.Probe :=
  if p.more > 0 then { p with more := p.more - 1, j := p.j + 1 } else
  { p with j := (SetTable.leap m p.i p.perturb).1, more := SetTable.runEnd m (SetTable.leap m p.i p.perturb).1 - (SetTable.leap m p.i p.perturb).1, i := (SetTable.leap m p.i p.perturb).1, perturb := (SetTable.leap m p.i p.perturb).2 }
def st0 (m : Nat) (h : Int) : SetTable.Probe := { j := SetTable.bits h % (m + 1), more := SetTable.runEnd m (SetTable.bits h % (m + 1)) - SetTable.bits h % (m + 1), i := SetTable.bits h % (m + 1), perturb := SetTable.bits h, dummy := none }
def pth (m : Nat) (h : Int) : Nat → SetTable.Probe
  | 0 => st0 m h
  | n + 1 => adv m (pth m h n)
theorem pth_dummy (m : Nat) (h : Int) : ∀ n, (pth m h n).dummy = none
  | 0 => rfl
  | n + 1 => by
    show (adv m (pth m h n)).dummy = none
    unfold adv
    split <;> exact pth_dummy m h n
theorem pth_run {m : Nat} {h : Int} {n : Nat} {p : SetTable.Probe} (e : pth m h n = p) : ∀ c, c ≤ p.more → pth m h (n + c) = { p with j := p.j + c, more := p.more - c }
  | 0, _ => e
  | c + 1, hc => by
    show adv m (pth m h (n + c)) = _
    rw [pth_run e c (by omega)]
    unfold adv
    rw [if_pos (show p.more - c > 0 by omega)]
    congr 1 <;> omega
def lp (m : Nat) (h : Int) : Nat → Nat × Nat
  | 0 => (SetTable.bits h % (m + 1), SetTable.bits h)
  | L + 1 => SetTable.leap m (lp m h L).1 (lp m h L).2
theorem run_le (m i : Nat) : SetTable.runEnd m i - i ≤ 9 := by unfold SetTable.runEnd; split <;> omega
theorem pth_lp (m : Nat) (h : Int) : ∀ L, ∃ n, n ≤ 10 * L ∧ pth m h n = { j := (lp m h L).1, more := SetTable.runEnd m (lp m h L).1 - (lp m h L).1, i := (lp m h L).1, perturb := (lp m h L).2, dummy := none }
  | 0 => ⟨0, Nat.le_refl _, rfl⟩
  | L + 1 => by
    obtain ⟨n, hn, e⟩ := pth_lp m h L
    have r := run_le m (lp m h L).1
    refine ⟨n + (SetTable.runEnd m (lp m h L).1 - (lp m h L).1) + 1, by omega, ?_⟩
    show adv m (pth m h (n + _)) = _
    rw [pth_run e _ (Nat.le_refl _)]
    unfold adv
    rw [if_neg (by simp)]
    rfl
theorem lp_pert (m : Nat) (h : Int) : ∀ L, (lp m h L).2 = SetTable.bits h / 32 ^ L
  | 0 => by show SetTable.bits h = _; simp
  | L + 1 => by
    show (lp m h L).2 / 32 = _
    rw [lp_pert m h L, Nat.div_div_eq_div_mul, Nat.pow_succ]
theorem bits_lt (h : Int) : SetTable.bits h < 2 ^ 64 := by unfold SetTable.bits; omega
theorem lp_zero (m : Nat) (h : Int) (L : Nat) (hL : 13 ≤ L) : (lp m h L).2 = 0 := by
  rw [lp_pert]
  refine Nat.div_eq_of_lt (Nat.lt_of_lt_of_le (bits_lt h) ?_)
  exact Nat.le_trans (by decide) (Nat.pow_le_pow_right (by decide) hL)
def cyc (m : Nat) : Nat → Nat → Nat
  | 0, x => x
  | d + 1, x => (cyc m d x * 5 + 1) % (m + 1)
theorem lp_cyc (m : Nat) (h : Int) : ∀ d, (lp m h (13 + d)).1 = cyc m d (lp m h 13).1
  | 0 => rfl
  | d + 1 => by
    show ((lp m h (13 + d)).1 * 5 + 1 + (lp m h (13 + d)).2 / 32) % (m + 1) = _
    rw [lp_zero m h _ (by omega), lp_cyc m h d]
    rfl
theorem cyc7 : ∀ x, x < 8 → ∀ e, e < 8 → ∃ d, d < 8 ∧ cyc 7 d x = e := by decide +kernel
theorem cyc31 : ∀ x, x < 32 → ∀ e, e < 32 → ∃ d, d < 32 ∧ cyc 31 d x = e := by decide +kernel
theorem cyc_add (m : Nat) : ∀ (a b x : Nat), cyc m (a + b) x = cyc m a (cyc m b x)
  | 0, b, x => by rw [Nat.zero_add]; rfl
  | a + 1, b, x => by
    rw [show a + 1 + b = (a + b) + 1 by omega]
    show (cyc m (a + b) x * 5 + 1) % (m + 1) = _
    rw [cyc_add m a b x]
    rfl
theorem cyc00 : ∀ e, e < 128 → ∃ d, d < 128 ∧ cyc 127 d 0 = e := by decide +kernel
theorem cyc127 : ∀ x, x < 128 → ∀ e, e < 128 → ∃ d, d < 128 ∧ cyc 127 d x = e := fun x hx e he => by
  obtain ⟨p, hp, rfl⟩ := cyc00 x hx
  obtain ⟨q, hq, rfl⟩ := cyc00 e he
  by_cases h : p ≤ q
  · exact ⟨q - p, by omega, by rw [← cyc_add, Nat.sub_add_cancel h]⟩
  · refine ⟨q + 128 - p, by omega, ?_⟩
    rw [← cyc_add, show q + 128 - p + p = q + 128 by omega, cyc_add, show cyc 127 128 0 = 0 by decide +kernel]
def Msk (m : Nat) : Prop := m = 7 ∨ m = 31 ∨ m = 127
theorem cyc_any {m : Nat} (hm : Msk m) {x e : Nat} (hx : x < m + 1) (he : e ≤ m) : ∃ d, d < m + 1 ∧ cyc m d x = e := by
  rcases hm with rfl | rfl | rfl
  · exact cyc7 _ hx _ (by omega)
  · exact cyc31 _ hx _ (by omega)
  · exact cyc127 _ hx _ (by omega)
theorem lp_lt (m : Nat) (h : Int) : ∀ L, (lp m h L).1 < m + 1
  | 0 => Nat.mod_lt _ (Nat.succ_pos _)
  | L + 1 => Nat.mod_lt _ (Nat.succ_pos _)
theorem meets {m : Nat} (hm : Msk m) (h : Int) {e : Nat} (he : e ≤ m) : ∃ n, n < 10 * (m + 14) ∧ (pth m h n).j = e := by
  have l := lp_lt m h 13
  obtain ⟨d, hd, hc⟩ := cyc_any hm l he
  obtain ⟨n, hn, q⟩ := pth_lp m h (13 + d)
  exact ⟨n, by omega, by rw [q]; show (lp m h (13 + d)).1 = e; rw [lp_cyc, hc]⟩
structure Tab (t : SetTable) (es : Array (Int × Value)) : Prop where
  mask : Msk t.mask
  dum : t.dummies = #[]
  ris : Ris t.place
  size : t.place.size = es.size
  room : es.size * 5 < t.mask * 3
  top : ∀ j ∈ t.place.toList, j ≤ t.mask
  way : ∀ (i : Nat) (hi : i < es.size), ∃ N, (pth t.mask es[i].1 N).j = t.place.getD i 0 ∧ ∀ m, m < N → (pth t.mask es[i].1 m).j ∈ t.place.toList
theorem Tab.fits {t : SetTable} {es : Array (Int × Value)} (T : Tab t es) : t.fits es.size = true := by
  unfold SetTable.fits SetTable.fill
  rw [T.dum, T.size]
  have := T.room
  simp
  omega
theorem Tab.gave {t : SetTable} {es : Array (Int × Value)} (T : Tab t es) : t.gaveWay = false := by
  unfold SetTable.gaveWay
  rcases T.mask with h | h | h <;> rw [h] <;> rfl
theorem range_le : ∀ (n : Nat) (l : List Nat), (∀ e, e < n → e ∈ l) → n ≤ l.length
  | 0, l, _ => Nat.zero_le _
  | n + 1, l, h => by
    have hn := h n (Nat.lt_succ_self _)
    have := range_le n (l.erase n) fun e he => (List.mem_erase_of_ne (by omega)).mpr (h e (by omega))
    rw [List.length_erase_of_mem hn] at this
    have := List.length_pos_of_mem hn
    omega
theorem Tab.free {t : SetTable} {es : Array (Int × Value)} (T : Tab t es) : ∃ e, e ≤ t.mask ∧ e ∉ t.place.toList := by
  refine Classical.byContradiction fun h => ?_
  have all : ∀ e, e ≤ t.mask → e ∈ t.place.toList := fun e he => Classical.byContradiction fun q => h ⟨e, he, q⟩
  have := range_le (t.mask + 1) t.place.toList fun e he => all e (by omega)
  rw [Array.length_toList, T.size] at this
  have := T.room
  omega
theorem run_top {m i : Nat} (h : i ≤ m) : i + (SetTable.runEnd m i - i) ≤ m := by unfold SetTable.runEnd; split <;> omega
theorem pth_top (m : Nat) (h : Int) : ∀ n, (pth m h n).j + (pth m h n).more ≤ m
  | 0 => run_top (Nat.le_of_lt_succ (Nat.mod_lt _ (Nat.succ_pos _)))
  | n + 1 => by
    have ih := pth_top m h n
    show (adv m (pth m h n)).j + (adv m (pth m h n)).more ≤ m
    unfold adv
    split
    · dsimp only; omega
    · exact run_top (Nat.le_of_lt_succ (Nat.mod_lt _ (Nat.succ_pos _)))
theorem go_spec {t : SetTable} (hd : t.dummies = #[]) (hr : Ris t.place) (f : Nat → Int) (h : Int) : ∀ (fuel m : Nat), (∃ N, m ≤ N ∧ N < m + fuel ∧ (pth t.mask h N).j ∉ t.place.toList) →
    ∃ r, m ≤ r ∧ (∀ q, m ≤ q → q < r → (pth t.mask h q).j ∈ t.place.toList ∧ f (SetTable.below t.place (pth t.mask h q).j) ≠ h) ∧
      (((pth t.mask h r).j ∉ t.place.toList ∧ SetTable.probe.go t f h fuel (pth t.mask h m) = some (.empty (pth t.mask h r).j none)) ∨
       ((pth t.mask h r).j ∈ t.place.toList ∧ f (SetTable.below t.place (pth t.mask h r).j) = h ∧ SetTable.probe.go t f h fuel (pth t.mask h m) = some (.candidate (pth t.mask h r).j (SetTable.below t.place (pth t.mask h r).j) (pth t.mask h (r + 1)))))
  | 0, m, ⟨N, a, b, _⟩ => by omega
  | fuel + 1, m, ⟨N, a, b, c⟩ => by
    unfold SetTable.probe.go
    rw [slot_of hd hr]
    by_cases hm : (pth t.mask h m).j ∈ t.place.toList
    · rw [if_pos hm]
      dsimp only
      by_cases hf : f (SetTable.below t.place (pth t.mask h m).j) = h
      · refine ⟨m, Nat.le_refl _, fun q x y => by omega, .inr ⟨hm, hf, ?_⟩⟩
        rw [if_pos (by rw [hf]; simp)]
        rfl
      · rw [if_neg (by simpa using hf)]
        have hne : m ≠ N := fun z => c (by rw [← z]; exact hm)
        obtain ⟨r, r1, r2, r3⟩ := go_spec hd hr f h fuel (m + 1) ⟨N, by omega, by omega, c⟩
        refine ⟨r, by omega, fun q x y => ?_, r3⟩
        by_cases z : q = m
        · rw [z]; exact ⟨hm, hf⟩
        · exact r2 q (by omega) y
    · rw [if_neg hm]
      refine ⟨m, Nat.le_refl _, fun q x y => by omega, .inl ⟨hm, ?_⟩⟩
      dsimp only
      rw [pth_dummy]
section
variable {prog : Program} {w : World} {A : Around} {E : Value → Shared → Prop} {s : Shared}
structure Asks (prog : Program) (w : World) (A : Around) (E : Value → Shared → Prop) (s : Shared) (es : Array (Int × Value)) (x : Value) (hash : Int) {K : Type} [DecidableEq K] (key : Nat → K) (k : K) : Prop where
  hsh : ∀ (i : Nat) (hi : i < es.size), key i = k → es[i].1 = hash
  eq : ∀ (i : Nat) (hi : i < es.size) (Q : Bool → Shared → Prop), Q (decide (key i = k)) s → wpAny (model prog w) A (eqBool es[i].2 x) Q E s
  ref : ∀ (i : Nat) (hi : i < es.size), ∃ a, es[i].2 = .ref a
  seen : ∀ (l : List Value), (∀ y ∈ l, ∃ (i : Nat) (hi : i < es.size), y = es[i].2) → ∀ Q : Bool → Shared → Prop, Q false s → wpAny (model prog w) A (searchCouldBeSeen x l) Q E s
theorem search_of {S : Addr} {es : Array (Int × Value)} {ep : Nat} {t : SetTable} {x : Value} {hash : Int} {K : Type} [DecidableEq K] {key : Nat → K} {k : K} {Q : SetFound → Shared → Prop} (hS : s.heap.get? S = some (stObj es ep t)) (T : Tab t es) (H : Asks prog w A E s es x hash key k)
    (h1 : (∃ i, i < es.size ∧ key i = k) → Q (.there none) s)
    (h2 : (∀ i, i < es.size → key i ≠ k) → ∀ r, (pth t.mask hash r).j ∉ t.place.toList → (pth t.mask hash r).j ≤ t.mask → (∀ q, q < r → (pth t.mask hash q).j ∈ t.place.toList) → Q (.free (pth t.mask hash r).j false) s) :
    ∀ (fuel m : Nat), (∃ N, m ≤ N ∧ N < 10 * (t.mask + 14) ∧ N < m + fuel ∧ (pth t.mask hash N).j ∉ t.place.toList) →
      (∀ q, q < m → (pth t.mask hash q).j ∈ t.place.toList ∧ key (SetTable.below t.place (pth t.mask hash q).j) ≠ k) →
      ∀ stand, (stand = some (pth t.mask hash m) ∨ (m = 0 ∧ stand = none)) → wpAny (model prog w) A (setSearchFrom S x hash true fuel stand) Q E s
  | 0, m, ⟨N, a, b, c, d⟩, _, _, _ => by omega
  | fuel + 1, m, ⟨N, a, b, c, d⟩, hb, stand, hst => by
    have hmem := fun j => below_mem T.ris j
    unfold setSearchFrom
    refine wpAny_bind (wpAny_setState_of hS rfl T.fits ?_)
    dsimp only
    rw [T.gave, if_neg (by decide)]
    have est : stand.getD (t.probeStart hash) = pth t.mask hash m := by
      rcases hst with e | ⟨rfl, e⟩ <;> rw [e] <;> rfl
    rw [est]
    have hfu : 10 * SetTable.turns t.mask = 10 * (t.mask + 15) := rfl
    obtain ⟨r, r1, r2, r3⟩ := go_spec T.dum T.ris (fun i => (es[i]?.map (·.1)).getD 0) hash (10 * SetTable.turns t.mask) m ⟨N, a, by rw [hfu]; omega, d⟩
    have at_ : ∀ j, j ∈ t.place.toList → ∃ hi : SetTable.below t.place j < es.size, t.place.getD (SetTable.below t.place j) 0 = j := fun j hj => by
      have e := (hmem j).mpr hj
      obtain ⟨hi, e'⟩ := Array.getElem?_eq_some_iff.mp e
      exact ⟨by rw [← T.size]; exact hi, by rw [getD_at hi]; exact e'⟩
    have all : ∀ q, q < r → (pth t.mask hash q).j ∈ t.place.toList ∧ key (SetTable.below t.place (pth t.mask hash q).j) ≠ k := fun q hq => by
      by_cases z : q < m
      · exact hb q z
      · obtain ⟨x1, x2⟩ := r2 q (by omega) hq
        obtain ⟨hi, _⟩ := at_ _ x1
        refine ⟨x1, fun z => x2 ?_⟩
        show (es[SetTable.below t.place (pth t.mask hash q).j]?.map (·.1)).getD 0 = hash
        rw [Array.getElem?_eq_getElem hi]
        exact H.hsh _ hi z
    rcases r3 with ⟨n1, n2⟩ | ⟨n1, n2, n3⟩
    · have pe : ∀ g : Nat → Int, (∀ i, g i = (es[i]?.map (·.1)).getD 0) → t.probe g hash (pth t.mask hash m) = some (.empty (pth t.mask hash r).j none) := fun g hg => by rw [show g = _ from funext hg]; exact n2
      rw [pe]
      rotate_left
      · exact fun _ => rfl
      dsimp only
      refine wpAny_pure (h2 (fun i hi e => ?_) r n1 ?_ fun q hq => (all q hq).1)
      · obtain ⟨N', w1, w2⟩ := T.way i hi
        rw [H.hsh i hi e] at w1 w2
        have hin : t.place.getD i 0 ∈ t.place.toList := by
          rw [getD_at (by rw [T.size]; exact hi)]
          simp
        have : N' < r := by
          rcases Nat.lt_trichotomy N' r with z | z | z
          · exact z
          · exact absurd (by rw [← z, w1]; exact hin) n1
          · exact absurd (w2 r z) n1
        obtain ⟨y1, y2⟩ := all N' this
        rw [w1] at y1 y2
        refine y2 ?_
        have : SetTable.below t.place (t.place.getD i 0) = i := by
          refine (below_low T.ris _).uniq ⟨by rw [T.size]; omega, fun k hk => T.ris.lt hk (by rw [T.size]; exact hi), fun k a b => ?_⟩
          by_cases z : k = i
          · rw [z]; exact Nat.le_refl _
          · exact Nat.le_of_lt (T.ris.lt (by omega) b)
        rw [this]
        exact e
      · have := pth_top t.mask hash r; omega
    · have pe : ∀ g : Nat → Int, (∀ i, g i = (es[i]?.map (·.1)).getD 0) → t.probe g hash (pth t.mask hash m) = some (.candidate (pth t.mask hash r).j (SetTable.below t.place (pth t.mask hash r).j) (pth t.mask hash (r + 1))) := fun g hg => by rw [show g = _ from funext hg]; exact n3
      rw [pe]
      rotate_left
      · exact fun _ => rfl
      dsimp only
      obtain ⟨hi, ei⟩ := at_ _ n1
      obtain ⟨ya, hya⟩ := H.ref _ hi
      have sm : t.sameMemory t.moves t.mask = some true := by unfold SetTable.sameMemory; rw [if_pos (by simp)]
      have hrN2 : r < N := by
        rcases Nat.lt_trichotomy r N with z | z | z
        · exact z
        · exact absurd (by rw [← z]; exact n1) d
        · exact absurd (all N z).1 d
      by_cases hl : t.led = true
      · rw [hl, if_neg (by decide)]
        rw [Array.getElem?_eq_getElem hi]
        dsimp only
        refine wpAny_bind (wpAny_holding (H.eq _ hi _ ?_))
        refine wpAny_bind (wpAny_setState_of hS rfl T.fits ?_)
        by_cases e : key (SetTable.below t.place (pth t.mask hash r).j) = k
        · rw [decide_eq_true e]
          exact wpAny_pure (h1 ⟨_, hi, e⟩)
        · rw [decide_eq_false e]
          dsimp only
          rw [if_neg (by decide), sm]
          dsimp only
          rw [if_pos rfl, slot_of T.dum T.ris, if_pos n1]
          dsimp only
          rw [Array.getElem?_eq_getElem hi]
          dsimp only
          rw [hya]
          refine wpAny_bind (wpAny_isSame_ref_self (wpAny_bind (wpAny_pure ?_)))
          rw [if_pos rfl]
          dsimp only
          rw [if_neg (by decide)]
          refine search_of hS T H h1 h2 fuel (r + 1) ⟨N, by omega, b, by omega, d⟩ (fun q hq => ?_) _ (.inl rfl)
          by_cases z : q = r
          · rw [z]; exact ⟨n1, e⟩
          · exact all q (by omega)
      · rw [Bool.not_eq_true] at hl
        rw [hl, if_pos (by decide)]
        refine wpAny_bind (H.seen _ (fun y hy => ?_) _ ?_)
        · obtain ⟨p, hp, rfl⟩ := List.mem_map.mp hy
          rw [Array.toList_filter] at hp
          obtain ⟨i, hi, e⟩ := List.getElem_of_mem (List.mem_filter.mp hp).1
          rw [Array.length_toList] at hi
          exact ⟨i, hi, by rw [← e]; simp⟩
        rw [if_neg (by decide)]
        rw [Array.getElem?_eq_getElem hi]
        dsimp only
        refine wpAny_bind (wpAny_holding (H.eq _ hi _ ?_))
        refine wpAny_bind (wpAny_setState_of hS rfl T.fits ?_)
        by_cases e : key (SetTable.below t.place (pth t.mask hash r).j) = k
        · rw [decide_eq_true e]
          exact wpAny_pure (h1 ⟨_, hi, e⟩)
        · rw [decide_eq_false e]
          dsimp only
          rw [if_neg (by decide), sm]
          dsimp only
          rw [if_pos rfl, slot_of T.dum T.ris, if_pos n1]
          dsimp only
          rw [Array.getElem?_eq_getElem hi]
          dsimp only
          rw [hya]
          refine wpAny_bind (wpAny_isSame_ref_self (wpAny_bind (wpAny_pure ?_)))
          rw [if_pos rfl]
          dsimp only
          rw [if_neg (by decide)]
          refine search_of hS T H h1 h2 fuel (r + 1) ⟨N, by omega, b, by omega, d⟩ (fun q hq => ?_) _ (.inl rfl)
          by_cases z : q = r
          · rw [z]; exact ⟨n1, e⟩
          · exact all q (by omega)
end
abbrev OwnA := Array (Option Nat)
theorem free_spec {m : Nat} {h : Int} {ow : OwnA} : ∀ (fuel L n : Nat), pth m h n = { j := (lp m h L).1, more := SetTable.runEnd m (lp m h L).1 - (lp m h L).1, i := (lp m h L).1, perturb := (lp m h L).2, dummy := none } →
    (∃ L', L ≤ L' ∧ L' < L + fuel ∧ (ow.getD (lp m h L').1 (some 0)).isNone = true) → (∀ q, q < n → (ow.getD (pth m h q).j (some 0)).isNone = false) →
    ∃ N, SetTable.layClean.free m ow fuel (lp m h L).1 (lp m h L).2 = some (pth m h N).j ∧ (ow.getD (pth m h N).j (some 0)).isNone = true ∧ ∀ q, q < N → (ow.getD (pth m h q).j (some 0)).isNone = false
  | 0, L, n, _, ⟨L', a, b, _⟩, _ => by omega
  | fuel + 1, L, n, hn, ⟨L', a, b, c⟩, hq => by
    unfold SetTable.layClean.free
    have hrun : SetTable.runEnd m (lp m h L).1 + 1 - (lp m h L).1 = (SetTable.runEnd m (lp m h L).1 - (lp m h L).1) + 1 := by
      have : (lp m h L).1 ≤ SetTable.runEnd m (lp m h L).1 := by unfold SetTable.runEnd; split <;> omega
      omega
    have pj : ∀ k, k ≤ SetTable.runEnd m (lp m h L).1 - (lp m h L).1 → (pth m h (n + k)).j = (lp m h L).1 + k := fun k hk => by rw [pth_run hn k hk]
    cases hf : (List.range (SetTable.runEnd m (lp m h L).1 + 1 - (lp m h L).1)).find? fun k => (ow.getD ((lp m h L).1 + k) (some 0)).isNone with
    | some k =>
      obtain ⟨f1, as, bs, f2, f3⟩ := List.find?_eq_some_iff_append.mp hf
      have hk : k < SetTable.runEnd m (lp m h L).1 + 1 - (lp m h L).1 := List.mem_range.mp (by rw [f2]; simp)
      refine ⟨n + k, by rw [pj k (by omega)], by rw [pj k (by omega)]; exact f1, fun q hq' => ?_⟩
      by_cases z : q < n
      · exact hq q z
      · obtain ⟨c', rfl⟩ : ∃ c', q = n + c' := ⟨q - n, by omega⟩
        rw [pj c' (by omega)]
        have hc' : c' ∈ as := by
          have hlen : as.length = k := by
            have e := congrArg (fun l => l[as.length]?) f2
            simp at e
            have := (List.getElem?_range (n := SetTable.runEnd m (lp m h L).1 + 1 - (lp m h L).1) (i := as.length))
            by_cases w : as.length < SetTable.runEnd m (lp m h L).1 + 1 - (lp m h L).1
            · rw [List.getElem?_range w] at e; simpa using e
            · rw [List.getElem?_eq_none (by simpa using w)] at e; simp at e
          have e := congrArg (fun l => l[c']?) f2
          rw [List.getElem?_range (by omega), List.getElem?_append_left (by omega)] at e
          exact List.mem_of_getElem? e.symm
        simpa using f3 c' hc'
    | none =>
      have no := List.find?_eq_none.mp hf
      have run : ∀ k, k ≤ SetTable.runEnd m (lp m h L).1 - (lp m h L).1 → (ow.getD ((lp m h L).1 + k) (some 0)).isNone = false := fun k hk => by
        have := no k (List.mem_range.mpr (by omega))
        cases q : (ow.getD ((lp m h L).1 + k) (some 0)).isNone with
        | false => rfl
        | true => exact absurd q this
      have hL : L ≠ L' := fun z => by
        have := run 0 (Nat.zero_le _)
        rw [Nat.add_zero, z, c] at this
        cases this
      refine free_spec fuel (L + 1) (n + (SetTable.runEnd m (lp m h L).1 - (lp m h L).1) + 1) ?_ ⟨L', by omega, by omega, c⟩ fun q hq' => ?_
      · show adv m (pth m h (n + _)) = _
        rw [pth_run hn _ (Nat.le_refl _)]
        unfold adv
        rw [if_neg (by simp)]
        rfl
      · by_cases z : q < n
        · exact hq q z
        · obtain ⟨c', rfl⟩ : ∃ c', q = n + c' := ⟨q - n, by omega⟩
          rw [pj c' (by omega)]
          exact run c' (by omega)
theorem set_perm : ∀ (l : List (Option Nat)) (j k : Nat), l[j]? = some none → ((l.set j (some k)).filterMap id).Perm (k :: l.filterMap id)
  | [], j, k, h => by simp at h
  | a :: l, 0, k, h => by
    simp at h
    subst h
    exact List.Perm.refl _
  | a :: l, j + 1, k, h => by
    have ih := set_perm l j k (by simpa using h)
    cases a with
    | none => exact ih
    | some x => exact (ih.cons x).trans (List.Perm.swap _ _ _)
structure LaidT (m : Nat) (hs : List Int) (ow : OwnA) : Prop where
  size : ow.size = m + 1
  perm : (ow.toList.filterMap id).Perm (List.range hs.length)
  way : ∀ j i, ow[j]? = some (some i) → ∃ h, hs[i]? = some h ∧ ∃ N, (pth m h N).j = j ∧ ∀ q, q < N → (ow.getD (pth m h q).j (some 0)).isNone = false
theorem laid_nil (m : Nat) : LaidT m [] (Array.replicate (m + 1) none) := by
  refine ⟨by simp, ?_, fun j i h => ?_⟩
  · have : ((Array.replicate (m + 1) (none : Option Nat)).toList.filterMap id) = [] := by
      rw [List.filterMap_eq_nil_iff]
      intro x hx
      simp at hx
      exact hx
    rw [this]
    exact List.Perm.refl _
  · rw [Array.getElem?_replicate] at h
    split at h <;> cases h
theorem own_free {m : Nat} {hs : List Int} {ow : OwnA} (H : LaidT m hs ow) (hl : hs.length ≤ m) : ∃ e, e ≤ m ∧ ow[e]? = some none := by
  refine Classical.byContradiction fun h => ?_
  have hz := H.size
  have all : ∀ e, e ≤ m → ∃ i, ow[e]? = some (some i) := fun e he => by
    rw [Array.getElem?_eq_getElem (by omega)]
    cases q : ow[e]'(by omega) with
    | none => exact absurd ⟨e, he, by rw [Array.getElem?_eq_getElem (by omega), q]⟩ h
    | some i => exact ⟨i, rfl⟩
  have : (ow.toList.filterMap id).length = ow.toList.length := by
    rw [List.length_filterMap_eq_countP, List.countP_eq_length]
    intro x hx
    obtain ⟨e, he, q⟩ := List.getElem_of_mem hx
    rw [Array.length_toList] at he
    obtain ⟨i, hi⟩ := all e (by omega)
    rw [Array.getElem?_eq_getElem he] at hi
    have : x = some i := by rw [← q]; simpa using hi
    rw [this]
    rfl
  rw [H.perm.length_eq, List.length_range, show ow.toList.length = m + 1 from by rw [Array.length_toList]; exact hz] at this
  omega
theorem laid_more {m : Nat} (hm : Msk m) {hs : List Int} {ow : OwnA} (H : LaidT m hs ow) (hl : hs.length ≤ m) (h : Int) : ∃ j, SetTable.layClean.free m ow (SetTable.turns m) (SetTable.bits h % (m + 1)) (SetTable.bits h) = some j ∧ LaidT m (hs ++ [h]) (ow.setIfInBounds j (some hs.length)) := by
  have hz := H.size
  obtain ⟨e, he, ee⟩ := own_free H hl
  obtain ⟨d, hd, hc⟩ := cyc_any hm (lp_lt m h 13) he
  obtain ⟨N, f1, f2, f3⟩ := free_spec (m := m) (h := h) (ow := ow) (SetTable.turns m) 0 0 rfl ⟨13 + d, by omega, by unfold SetTable.turns; omega, by rw [lp_cyc, hc, Array.getD_eq_getD_getElem?, ee]; rfl⟩ fun q hq => by omega
  have top := pth_top m h N
  have hj : (pth m h N).j < ow.size := by omega
  have ej : ow[(pth m h N).j]? = some none := by
    rw [Array.getD_eq_getD_getElem?, Array.getElem?_eq_getElem hj] at f2
    rw [Array.getElem?_eq_getElem hj]
    simpa using f2
  have grow : ∀ x : Nat, (ow.getD x (some 0)).isNone = false → ((ow.setIfInBounds (pth m h N).j (some hs.length)).getD x (some 0)).isNone = false := fun x hx => by
    rw [Array.getD_eq_getD_getElem?] at hx ⊢
    skip; rw [Array.getElem?_setIfInBounds]
    split <;> first | rfl | exact hx | (split <;> rfl)
  refine ⟨_, f1, by simp [hz], ?_, fun x i q => ?_⟩
  · rw [Array.toList_setIfInBounds, List.length_append, List.length_singleton, List.range_succ]
    exact (set_perm _ _ _ (by rw [Array.getElem?_toList]; exact ej)).trans ((H.perm.cons _).trans (List.perm_append_comm (l₁ := [hs.length])))
  · rw [Array.getElem?_setIfInBounds] at q
    by_cases z : (pth m h N).j = x
    · rw [if_pos z, if_pos (by omega)] at q
      cases q
      exact ⟨h, by simp, N, z, fun r hr => grow _ (f3 r hr)⟩
    · rw [if_neg z] at q
      obtain ⟨h', e1, N', e2, e3⟩ := H.way x i q
      refine ⟨h', ?_, N', e2, fun r hr => grow _ (e3 r hr)⟩
      rw [List.getElem?_append_left]
      · exact e1
      · obtain ⟨w, _⟩ := List.getElem?_eq_some_iff.mp e1
        exact w
theorem clean_of {m : Nat} (hm : Msk m) (hs : List Int) (hl : hs.length ≤ m) : ∃ ow, SetTable.layClean m hs.toArray = some ow ∧ LaidT m hs ow := by
  have go : ∀ (l done : List Int) (ow : OwnA), (done ++ l).length ≤ m + 0 → LaidT m done ow → ∃ ow', (l.foldl (fun (acc : Option (OwnA × Nat)) h => do
      let (owner, k) ← acc
      let j ← SetTable.layClean.free m owner (SetTable.turns m) (SetTable.bits h % (m + 1)) (SetTable.bits h)
      pure (owner.setIfInBounds j (some k), k + 1)) (some (ow, done.length))) = some (ow', (done ++ l).length) ∧ LaidT m (done ++ l) ow' := by
    intro l
    induction l with
    | nil => intro done ow _ H; exact ⟨ow, by simp, by simpa using H⟩
    | cons h l ih =>
      intro done ow hlen H
      obtain ⟨j, f1, H1⟩ := laid_more hm H (by simp at hlen; omega) h
      obtain ⟨ow', e1, e2⟩ := ih (done ++ [h]) _ (by simpa using hlen) H1
      refine ⟨ow', ?_, by simpa using e2⟩
      rw [List.foldl_cons]
      have : (do
          let (owner, k) ← some (ow, done.length)
          let j ← SetTable.layClean.free m owner (SetTable.turns m) (SetTable.bits h % (m + 1)) (SetTable.bits h)
          pure (owner.setIfInBounds j (some k), k + 1)) = some (ow.setIfInBounds j (some done.length), (done ++ [h]).length) := by
        show (SetTable.layClean.free m ow (SetTable.turns m) (SetTable.bits h % (m + 1)) (SetTable.bits h)).bind _ = _
        rw [f1]
        simp
      rw [this, e1]
      simp
  obtain ⟨ow, e, H⟩ := go hs [] _ (by simpa using hl) (laid_nil m)
  refine ⟨ow, ?_, by simpa using H⟩
  unfold SetTable.layClean
  rw [List.foldl_toArray]
  simp only [List.length_nil] at e
  rw [e]
  rfl
def liveOf (ow : OwnA) (m : Nat) : List (Nat × Nat) := (List.range (m + 1)).filterMap fun j => (ow.getD j none).map (j, ·)
theorem live_snd {ow : OwnA} {m : Nat} (hz : ow.size = m + 1) : (liveOf ow m).map (·.2) = ow.toList.filterMap id := by
  have e : ow.toList = (List.range (m + 1)).map fun j => ow.getD j none := by
    refine List.ext_getElem? fun i => ?_
    rw [List.getElem?_map]
    by_cases hi : i < m + 1
    · rw [List.getElem?_range hi, Array.getElem?_toList, Array.getElem?_eq_getElem (by omega)]
      simp [Array.getD, hz, hi]
    · rw [List.getElem?_eq_none (by rw [Array.length_toList]; omega), List.getElem?_eq_none (by simpa using hi)]
      rfl
  rw [e, List.filterMap_map]
  unfold liveOf
  rw [List.map_filterMap]
  congr 1
  funext j
  show Option.map (·.2) ((ow.getD j none).map (j, ·)) = ow.getD j none
  cases ow.getD j none <;> rfl
theorem live_mem {ow : OwnA} {m : Nat} (hz : ow.size = m + 1) {j i : Nat} : (j, i) ∈ liveOf ow m ↔ ow[j]? = some (some i) := by
  unfold liveOf
  rw [List.mem_filterMap]
  constructor
  · rintro ⟨x, hx, e⟩
    obtain ⟨y, e1, e2⟩ := Option.map_eq_some_iff.mp e
    cases e2
    rw [List.mem_range] at hx
    rw [Array.getD_eq_getD_getElem?, Array.getElem?_eq_getElem (by omega)] at e1
    rw [Array.getElem?_eq_getElem (by omega)]
    exact congrArg some e1
  · intro h
    obtain ⟨hj, _⟩ := Array.getElem?_eq_some_iff.mp h
    refine ⟨j, List.mem_range.mpr (by omega), ?_⟩
    rw [Array.getD_eq_getD_getElem?, h]
    rfl
theorem live_ris (ow : OwnA) (m : Nat) : ((liveOf ow m).map (·.1)).Pairwise (· < ·) := by
  unfold liveOf
  rw [List.pairwise_map, List.pairwise_filterMap]
  refine (List.pairwise_lt_range (n := m + 1)).imp fun {a b} hab x hx y hy => ?_
  obtain ⟨_, _, rfl⟩ := Option.map_eq_some_iff.mp hx
  obtain ⟨_, _, rfl⟩ := Option.map_eq_some_iff.mp hy
  exact hab
theorem fm_at {α β : Type} (f : α → Option β) : ∀ (l : List α), (∀ a ∈ l, (f a).isSome = true) → ∀ r : Nat, (l.filterMap f)[r]? = l[r]?.bind f
  | [], _, r => by simp
  | a :: l, h, r => by
    obtain ⟨b, hb⟩ := Option.isSome_iff_exists.mp (h a List.mem_cons_self)
    rw [List.filterMap_cons_some hb]
    cases r with
    | zero => simp [hb]
    | succ r => simpa using fm_at f l (fun x hx => h x (List.mem_cons_of_mem _ hx)) r
theorem relaid_of {t : SetTable} {es : Array (Int × Value)} {wanted m : Nat} (hm0 : Msk m) (hw : SetTable.sizeAbove wanted = m + 1) (hn : es.size * 5 < m * 3) :
    ∃ t' order, t.relaid (es.map (·.1)) wanted = some (t', order) ∧ (order.filterMap (es[·]?)).size = es.size ∧ (order.filterMap (es[·]?)).toList.Perm es.toList ∧ Tab t' (order.filterMap (es[·]?)) ∧ t'.led = t.led ∧ t'.plain = t.plain ∧ order.toList.Perm (List.range es.size) := by
  obtain ⟨ow, e, H⟩ := clean_of hm0 (es.toList.map (·.1)) (by simp; omega)
  have hz := H.size
  have ha : (es.toList.map (·.1)).toArray = es.map (·.1) := by apply Array.ext'; simp
  rw [ha] at e
  have p1 := live_snd (m := m) hz
  have p2 : ((liveOf ow m).map (·.2)).Perm (List.range es.size) := by
    rw [p1]
    have := H.perm
    simpa using this
  have len : (liveOf ow m).length = es.size := by have := p2.length_eq; simpa using this
  have lt : ∀ i ∈ (liveOf ow m).map (·.2), i < es.size := fun i hi => List.mem_range.mp (p2.mem_iff.mp hi)
  have some_ : ∀ i ∈ (liveOf ow m).map (·.2), (es[i]?).isSome = true := fun i hi => by rw [Array.getElem?_eq_getElem (lt i hi)]; rfl
  have el : (((liveOf ow m).map (·.2)).toArray.filterMap (es[·]?)).toList = ((liveOf ow m).map (·.2)).filterMap (es[·]?) := by rw [Array.toList_filterMap]
  have perm : (((liveOf ow m).map (·.2)).filterMap (es[·]?)).Perm es.toList := by
    refine (p2.filterMap _).trans ?_
    have := filter_take es.toList es.size (by simp)
    rw [List.take_of_length_le (by simp)] at this
    have e2 : (fun i : Nat => es[i]?) = fun i : Nat => es.toList[i]? := by funext i; rw [Array.getElem?_toList]
    rw [e2, this]
  have sz : (((liveOf ow m).map (·.2)).toArray.filterMap (es[·]?)).size = es.size := by rw [← Array.length_toList, el, perm.length_eq, Array.length_toList]
  refine ⟨{ mask := m, place := ((liveOf ow m).map (·.1)).toArray, dummies := #[], finger := t.finger, led := t.led, moves := t.movedTo m, plain := t.plain }, ((liveOf ow m).map (·.2)).toArray, ?_, sz, by rw [el]; exact perm, ⟨hm0, rfl, live_ris ow m, by rw [sz]; simp [len], by rw [sz]; exact hn, fun j hj => ?_, fun i hi => ?_⟩, rfl, rfl, p2⟩
  · unfold SetTable.relaid SetTable.laid
    rw [hw]
    show (SetTable.layClean m (es.map (·.1))).bind _ = _
    rw [e]
    rfl
  · obtain ⟨⟨x, y⟩, hp, rfl⟩ := List.mem_map.mp (show j ∈ (liveOf ow m).map (·.1) from hj)
    obtain ⟨hx, _⟩ := Array.getElem?_eq_some_iff.mp ((live_mem hz).mp hp)
    show x ≤ m
    omega
  · rw [sz] at hi
    have hi2 : i < (liveOf ow m).length := by omega
    have hm : (liveOf ow m)[i] ∈ liveOf ow m := List.getElem_mem hi2
    cases hq : (liveOf ow m)[i] with
    | mk j o =>
      rw [hq] at hm
      obtain ⟨h, h1, N, h2, h3⟩ := H.way j o ((live_mem hz).mp hm)
      have ho : o < es.size := lt o (List.mem_map.mpr ⟨_, hm, rfl⟩)
      have ee : (((liveOf ow m).map (·.2)).toArray.filterMap (es[·]?))[i]? = some es[o] := by
        rw [← Array.getElem?_toList, el, fm_at _ _ some_, List.getElem?_map, List.getElem?_eq_getElem hi2, hq]
        show es[o]? = _
        exact Array.getElem?_eq_getElem ho
      obtain ⟨hb, eq⟩ := Array.getElem?_eq_some_iff.mp ee
      have hh : h = es[o].1 := by
        rw [List.getElem?_map, Array.getElem?_toList, Array.getElem?_eq_getElem ho] at h1
        exact (Option.some.inj h1).symm
      rw [eq, ← hh]
      refine ⟨N, ?_, fun q hq' => ?_⟩
      · rw [h2]
        show j = (((liveOf ow m).map (·.1)).toArray).getD i 0
        rw [Array.getD_eq_getD_getElem?, List.getElem?_toArray, List.getElem?_map, List.getElem?_eq_getElem hi2, hq]
        rfl
      · have := h3 q hq'
        have tp := pth_top m h q
        rw [Array.getD_eq_getD_getElem?, Array.getElem?_eq_getElem (by omega)] at this
        cases w : ow[(pth m h q).j]'(by omega) with
        | none => rw [w] at this; cases this
        | some i' => exact List.mem_map.mpr ⟨((pth m h q).j, i'), (live_mem hz).mpr (by rw [Array.getElem?_eq_getElem (by omega), w]), rfl⟩
theorem put_tab {t : SetTable} {es : Array (Int × Value)} {hash : Int} {x : Value} {r : Nat} (T : Tab t es) (n1 : (pth t.mask hash r).j ∉ t.place.toList) (n2 : (pth t.mask hash r).j ≤ t.mask) (n3 : ∀ q, q < r → (pth t.mask hash q).j ∈ t.place.toList) (hr : (es.size + 1) * 5 < t.mask * 3) :
    Tab { t with place := SetTable.insertAt t.place (SetTable.below t.place (pth t.mask hash r).j) (pth t.mask hash r).j } (SetTable.insertAt es (SetTable.below t.place (pth t.mask hash r).j) (hash, x)) := by
  have L := below_low T.ris (pth t.mask hash r).j
  generalize SetTable.below t.place (pth t.mask hash r).j = p at L
  have lp' := L.le
  have hsz := T.size
  have pl := insert_list t.place p (pth t.mask hash r).j
  have el := insert_list es p (hash, x)
  have es1 : (SetTable.insertAt es p (hash, x)).size = es.size + 1 := by
    rw [← Array.length_toList, el, List.length_append, List.length_take, List.length_cons, List.length_drop, Array.length_toList]
    omega
  have ps1 : (SetTable.insertAt t.place p (pth t.mask hash r).j).size = t.place.size + 1 := by
    rw [← Array.length_toList, pl, List.length_append, List.length_take, List.length_cons, List.length_drop, Array.length_toList]
    omega
  have up : ∀ y, y ∈ t.place.toList → y ∈ (SetTable.insertAt t.place p (pth t.mask hash r).j).toList := fun y hy => by
    rw [pl]
    rw [← List.take_append_drop p t.place.toList] at hy
    rcases List.mem_append.mp hy with h | h
    · exact List.mem_append_left _ h
    · exact List.mem_append_right _ (List.mem_cons_of_mem _ h)
  refine ⟨T.mask, T.dum, ris_insert T.ris L n1, by rw [es1]; show (SetTable.insertAt t.place p (pth t.mask hash r).j).size = _; rw [ps1, hsz], by rw [es1]; exact hr, fun j hj => ?_, fun i hi => ?_⟩
  · rw [pl] at hj
    rcases List.mem_append.mp hj with h | h
    · exact T.top j (List.mem_of_mem_take h)
    · skip; rcases List.mem_cons.mp h with rfl | h
      · exact n2
      · exact T.top j (List.mem_of_mem_drop h)
  · have at1 : ∀ (i : Nat), (SetTable.insertAt es p (hash, x))[i]? = if i < p then es[i]? else if i = p then some (hash, x) else es[i - 1]? := fun i => by
      rw [← Array.getElem?_toList, el]
      by_cases a : i < p
      · rw [if_pos a, List.getElem?_append_left (by simp; omega), List.getElem?_take_of_lt a, Array.getElem?_toList]
      · rw [if_neg a, List.getElem?_append_right (by simp; omega), List.length_take, Array.length_toList, show min p es.size = p by omega]
        by_cases b : i = p
        · rw [if_pos b, b, Nat.sub_self]; rfl
        · rw [if_neg b]
          obtain ⟨c, rfl⟩ : ∃ c, i = p + 1 + c := ⟨i - p - 1, by omega⟩
          rw [show p + 1 + c - p = c + 1 by omega, List.getElem?_cons_succ, List.getElem?_drop, Array.getElem?_toList, show p + 1 + c - 1 = p + c by omega]
    have at2 : ∀ (i : Nat), (SetTable.insertAt t.place p (pth t.mask hash r).j).getD i 0 = if i < p then t.place.getD i 0 else if i = p then (pth t.mask hash r).j else t.place.getD (i - 1) 0 := fun i => by
      rw [Array.getD_eq_getD_getElem?, ← Array.getElem?_toList, pl]
      by_cases a : i < p
      · rw [if_pos a, List.getElem?_append_left (by simp; omega), List.getElem?_take_of_lt a, Array.getElem?_toList, Array.getD_eq_getD_getElem?]
      · rw [if_neg a, List.getElem?_append_right (by simp; omega), List.length_take, Array.length_toList, show min p t.place.size = p by omega]
        by_cases b : i = p
        · rw [if_pos b, b, Nat.sub_self]; rfl
        · rw [if_neg b]
          obtain ⟨c, rfl⟩ : ∃ c, i = p + 1 + c := ⟨i - p - 1, by omega⟩
          rw [show p + 1 + c - p = c + 1 by omega, List.getElem?_cons_succ, List.getElem?_drop, Array.getElem?_toList, show p + 1 + c - 1 = p + c by omega, Array.getD_eq_getD_getElem?]
    have e := at1 i
    rw [Array.getElem?_eq_getElem hi] at e
    have e2 := at2 i
    show ∃ N, (pth t.mask (SetTable.insertAt es p (hash, x))[i].1 N).j = (SetTable.insertAt t.place p (pth t.mask hash r).j).getD i 0 ∧ _
    by_cases a : i < p
    · rw [if_pos a, Array.getElem?_eq_getElem (by omega)] at e
      rw [if_pos a] at e2
      rw [Option.some.inj e, e2]
      obtain ⟨N, w1, w2⟩ := T.way i (by omega)
      exact ⟨N, w1, fun q hq => up _ (w2 q hq)⟩
    · rw [if_neg a] at e e2
      by_cases b : i = p
      · rw [if_pos b] at e e2
        rw [Option.some.inj e, e2]
        exact ⟨r, rfl, fun q hq => up _ (n3 q hq)⟩
      · rw [if_neg b, Array.getElem?_eq_getElem (by omega)] at e
        rw [if_neg b] at e2
        rw [Option.some.inj e, e2]
        obtain ⟨N, w1, w2⟩ := T.way (i - 1) (by omega)
        exact ⟨N, w1, fun q hq => up _ (w2 q hq)⟩
theorem insert_perm {α : Type} (xs : Array α) (p : Nat) (x : α) : (SetTable.insertAt xs p x).toList.Perm (x :: xs.toList) := by
  rw [insert_list]
  refine List.perm_middle.trans ?_
  rw [List.take_append_drop]
section
variable {prog : Program} {w : World} {A : Around} {E : Value → Shared → Prop} {s : Shared}
theorem add_tab {S a : Addr} {es : Array (Int × Value)} {ep : Nat} {t : SetTable} {hash : Int} {K : Type} [DecidableEq K] {key : Nat → K} {k : K} {Q : Bool → Shared → Prop} (hS : s.heap.get? S = some (stObj es ep t)) (T : Tab t es) (hp : t.plain = true) (hb : es.size < 60) (H : Asks prog w A E s es (.ref a) hash key k)
    (hv : ∀ Q : Bool → Shared → Prop, Q true s → wpAny (model prog w) A (hashByValue 8 (.ref a)) Q E s)
    (h1 : (∃ i, i < es.size ∧ key i = k) → Q false s)
    (h2 : (∀ i, i < es.size → key i ≠ k) → ∀ h' es' t' ep', Heap.SameBut S s.heap h' → h'.get? S = some (stObj es' ep' t') → Tab t' es' → t'.led = t.led → t'.plain = true → es'.toList.Perm ((hash, .ref a) :: es.toList) → Q true { s with heap := h' }) :
    wpAny (model prog w) A (setAddHashed S (.ref a) hash) Q E s := by
  obtain ⟨e0, e1, e2⟩ := T.free
  obtain ⟨N, m1, m2⟩ := meets T.mask hash e1
  skip; unfold setAddHashed setAddHashedIn
  refine wpAny_holding (wpAny_bind (wpAny_setState_of hS rfl T.fits ?_))
  dsimp only
  rw [show byScan (.ref a) es = false from rfl, if_neg (by decide)]
  refine wpAny_bind ?_
  unfold setSearch
  have mk : t.mask ≤ 127 := by rcases T.mask with h | h | h <;> omega
  refine search_of hS T H (fun q => ?_) (fun q r n1 n2 n3 => ?_) 100000 0 ⟨N, by omega, m1, by omega, by rw [m2]; exact e2⟩ (fun q hq => by omega) none (.inr ⟨rfl, rfl⟩)
  · exact wpAny_pure (h1 q)
  · dsimp only
    refine wpAny_bind (wpAny_setState_of hS rfl T.fits ?_)
    dsimp only
    have pu : t.put (pth t.mask hash r).j = ({ t with place := SetTable.insertAt t.place (SetTable.below t.place (pth t.mask hash r).j) (pth t.mask hash r).j }, SetTable.below t.place (pth t.mask hash r).j) := by
      unfold SetTable.put
      rw [T.dum]
      have : SetTable.has #[] (pth t.mask hash r).j = false := by unfold SetTable.has; simp
      rw [this]
      simp [T.dum]
    rw [pu]
    dsimp only
    rw [if_pos hp]
    refine wpAny_bind (hv _ ?_)
    rw [if_pos rfl]
    have ip := insert_perm es (SetTable.below t.place (pth t.mask hash r).j) (hash, Value.ref a)
    have isz : (SetTable.insertAt es (SetTable.below t.place (pth t.mask hash r).j) (hash, Value.ref a)).size = es.size + 1 := by rw [← Array.length_toList, ip.length_eq, List.length_cons, Array.length_toList]
    have pp := insert_perm t.place (SetTable.below t.place (pth t.mask hash r).j) (pth t.mask hash r).j
    have psz : (SetTable.insertAt t.place (SetTable.below t.place (pth t.mask hash r).j) (pth t.mask hash r).j).size = es.size + 1 := by rw [← Array.length_toList, pp.length_eq, List.length_cons, Array.length_toList, T.size]
    refine wpAny_bind (wpAny_storeSet_of hS rfl ?_ (by rw [isz, sizeLine_eq]; omega))
    generalize ht : ({ t with place := SetTable.insertAt t.place (SetTable.below t.place (pth t.mask hash r).j) (pth t.mask hash r).j } : SetTable) = t1
    generalize he : SetTable.insertAt es (SetTable.below t.place (pth t.mask hash r).j) (hash, Value.ref a) = es1 at ip isz
    have o1 : (s.heap.update S (Obj.putSet es1 t1)).get? S = some (stObj es1 (ep + 1) t1) := Heap.get?_update_self _ hS rfl
    have s1 : Heap.SameBut S s.heap (s.heap.update S (Obj.putSet es1 t1)) := Heap.SameBut.update ..
    have l1 : t1.led = t.led := by rw [← ht]
    have p1 : t1.plain = true := by rw [← ht]; exact hp
    have tf : t1.tooFull = decide ((es.size + 1) * 5 ≥ t.mask * 3) := by
      rw [← ht]
      unfold SetTable.tooFull SetTable.fill
      show decide (((SetTable.insertAt t.place _ _).size + t.dummies.size) * 5 ≥ t.mask * 3) = _
      rw [psz, T.dum]
      rfl
    by_cases full : (es.size + 1) * 5 ≥ t.mask * 3
    · rw [tf, decide_eq_true full, if_pos (by decide)]
      obtain ⟨m', hm', wn, rm⟩ : ∃ m', Msk m' ∧ SetTable.sizeAbove (SetTable.grown (es.size + 1)) = m' + 1 ∧ (es.size + 1) * 5 < m' * 3 := by
        have := T.room
        rcases T.mask with h | h | h
        · have hn : es.size = 4 := by omega
          exact ⟨31, .inr (.inl rfl), by rw [hn]; decide +kernel, by omega⟩
        · have hn : es.size = 18 := by omega
          exact ⟨127, .inr (.inr rfl), by rw [hn]; decide +kernel, by omega⟩
        · omega
      have f1 : t1.fits es1.size = true := by
        have := T.room
        rw [← ht, isz]
        unfold SetTable.fits SetTable.fill
        show ((SetTable.insertAt t.place _ _).size == _ && decide ((SetTable.insertAt t.place _ _).size + t.dummies.size ≤ t.mask)) = true
        rw [psz, T.dum, Bool.and_eq_true, beq_iff_eq, decide_eq_true_iff]
        have z : (#[] : Array Nat).size = 0 := rfl
        refine ⟨rfl, ?_⟩
        rcases T.mask with h | h | h <;> omega
      obtain ⟨t2, ord, r1, r2, r3, r4, r5, r6, _⟩ := relaid_of (t := t1) (es := es1) hm' wn (by rw [isz]; exact rm)
      refine wpAny_bind ?_
      unfold setRelay
      refine wpAny_bind (wpAny_setState_of o1 rfl f1 ?_)
      dsimp only
      rw [wn, if_neg (by rw [sizeLine_eq]; rcases hm' with h | h | h <;> rw [h] <;> decide), r1]
      refine wpAny_bind ?_
      show wpAny _ _ (if (ord.filterMap (es1[·]?)).size != es1.size then _ else _) _ _ _
      rw [if_neg (by rw [r2]; simp)]
      refine wpAny_pure ?_
      refine wpAny_storeSet_of o1 rfl ?_ (by rw [r2, isz, sizeLine_eq]; omega)
      exact wpAny_pure (h2 q _ _ t2 _ (s1.trans (Heap.SameBut.update ..)) (Heap.get?_update_self _ o1 rfl) r4 (r5.trans l1) (r6.trans p1) (r3.trans ip))
    · rw [tf, decide_eq_false full, if_neg (by decide)]
      refine wpAny_pure (h2 q _ _ t1 _ s1 o1 ?_ l1 p1 ip)
      have := put_tab (x := Value.ref a) T n1 n2 n3 (by omega)
      rw [ht, he] at this
      exact this
end
section
variable {prog : Program} {w : World} {A : Around} {E : Value → Shared → Prop} {s : Shared}
theorem items_int {ks : List Int} {vs : List Value} (h : ItemsAre (intKind prog w) ks vs) : ∀ v ∈ vs, ∃ n t, v = .int n t := by
  induction h with
  | nil => exact fun v hv => by simp at hv
  | @cons k v' ks vs h1 _ ih =>
    intro v hv
    skip; rcases List.mem_cons.mp hv with rfl | hv
    · obtain ⟨t, e⟩ := Value.isInt_shape h1
      exact ⟨_, t, e⟩
    · exact ih v hv
theorem hv_row {ks : List Int} {a : Addr} {Q : Bool → Shared → Prop} (hk : IsTupleKey (intKind prog w) s.heap ks a) (h : Q true s) : wpAny (model prog w) A (hashByValue 8 (.ref a)) Q E s := by
  have hT := hk.typeIs
  skip; obtain ⟨o, items, n, ho, _, hd, hi⟩ := hk
  unfold hashByValue
  refine wpAny_bind (wpAny_specialOf hT PySem.F.slot_tuple_hash.lookup ?_)
  dsimp only
  skip; refine wpAny_bind (wpAny_seqItems ho hd ?_)
  refine wpAny_bind ?_
  skip; show wpAny _ _ (forIn items _ _) _ _ s
  rw [← Array.forIn_toList]
  refine wpAny_forIn_list _ (fun rest r s' => r.1 = none ∧ s' = s ∧ ∀ v ∈ rest, ∃ n t, v = .int n t) _ ?_ ?_ _ _ ⟨rfl, rfl, items_int hi⟩
  · rintro v rest r s' ⟨hr, rfl, all⟩
    obtain ⟨m, t, rfl⟩ := all v List.mem_cons_self
    refine wpAny_bind (m := hashByValue 7 (.int m t)) (wpAny_of_eq (a := true) (by unfold hashByValue; rfl) ?_)
    skip; simp only [Bool.not_true, Bool.false_eq_true, if_false]
    exact wpAny_pure ⟨rfl, rfl, fun u hu => all u (List.mem_cons_of_mem _ hu)⟩
  · skip; rintro ⟨r1, r2⟩ s' ⟨hr, rfl, _⟩
    simp only at hr
    subst hr
    exact wpAny_pure h
theorem oc_row {ks : List Int} {a : Addr} {Q : Bool → Shared → Prop} (hk : IsTupleKey (intKind prog w) s.heap ks a) (h : Q false s) : wpAny (model prog w) A (ofAClassStatement 8 (.ref a)) Q E s := by
  have hT := hk.typeIs
  skip; obtain ⟨o, items, n, ho, _, hd, hi⟩ := hk
  unfold ofAClassStatement
  refine wpAny_bind (wpAny_typeOf (T := "tuple") hT ?_)
  dsimp only
  rw [if_pos (by decide)]
  refine wpAny_bind (wpAny_pure ?_)
  skip; simp only [Bool.not_true, Bool.false_eq_true, if_false]
  skip; refine wpAny_bind (wpAny_seqItems ho hd ?_)
  refine wpAny_bind ?_
  skip; show wpAny _ _ (forIn items _ _) _ _ s
  rw [← Array.forIn_toList]
  refine wpAny_forIn_list _ (fun rest r s' => r.1 = none ∧ s' = s ∧ ∀ v ∈ rest, ∃ n t, v = .int n t) _ ?_ ?_ _ _ ⟨rfl, rfl, items_int hi⟩
  · rintro v rest r s' ⟨hr, rfl, all⟩
    obtain ⟨m, t, rfl⟩ := all v List.mem_cons_self
    refine wpAny_bind (m := ofAClassStatement 7 (.int m t)) (wpAny_of_eq (a := false) (by unfold ofAClassStatement; rfl) ?_)
    skip; simp only [Bool.false_eq_true, if_false]
    exact wpAny_pure ⟨rfl, rfl, fun u hu => all u (List.mem_cons_of_mem _ hu)⟩
  · skip; rintro ⟨r1, r2⟩ s' ⟨hr, rfl, _⟩
    simp only at hr
    subst hr
    exact wpAny_pure h
theorem seen_row {ks : List Int} {a : Addr} (hk : IsTupleKey (intKind prog w) s.heap ks a) {l : List Value} (hl : ∀ y ∈ l, ∃ b M, y = .ref b ∧ IsTupleKey (intKind prog w) s.heap M b) {Q : Bool → Shared → Prop} (h : Q false s) : wpAny (model prog w) A (searchCouldBeSeen (.ref a) l) Q E s := by
  unfold searchCouldBeSeen
  refine wpAny_bind ?_
  refine wpAny_forIn_list _ (fun rest r s' => r.1 = none ∧ s' = s ∧ ∀ y ∈ rest, ∃ b M, y = .ref b ∧ IsTupleKey (intKind prog w) s.heap M b) _ ?_ ?_ _ _ ⟨rfl, rfl, hl⟩
  · rintro y rest r s' ⟨hr, rfl, all⟩
    obtain ⟨b, M, rfl, hb⟩ := all y List.mem_cons_self
    have fin : ∀ u ∈ rest, ∃ b M, u = .ref b ∧ IsTupleKey (intKind prog w) s'.heap M b := fun u hu => all u (List.mem_cons_of_mem _ hu)
    dsimp only
    by_cases e : (a == b) = true
    · rw [e]
      simp only [Bool.true_or, if_true]
      exact wpAny_pure ⟨rfl, rfl, fin⟩
    · rw [Bool.not_eq_true] at e
      rw [e]
      rw [if_neg (by simp [carriedByValue])]
      refine wpAny_bind (wpAny_eqIsQuiet_tuple hk ?_)
      skip; simp only [Bool.not_true, Bool.false_eq_true, if_false]
      refine wpAny_bind (wpAny_eqIsQuiet_tuple hb ?_)
      skip; simp only [Bool.not_true, Bool.false_eq_true, if_false]
      refine wpAny_bind (oc_row hk ?_)
      skip; simp only [Bool.false_eq_true, if_false]
      refine wpAny_bind (oc_row hb ?_)
      skip; simp only [Bool.false_eq_true, if_false]
      exact wpAny_pure ⟨rfl, rfl, fin⟩
  · skip; rintro ⟨r1, r2⟩ s' ⟨hr, rfl, _⟩
    simp only at hr
    subst hr
    exact wpAny_pure h
def RowE (prog : Program) (w : World) (Z : Addr → List Int → Prop) (h : Heap) (e : Int × Value) (L : List Int) : Prop := ∃ a, e.2 = .ref a ∧ IsTupleKey (intKind prog w) h L a ∧ e.1 = tupleKeyHash (intKind prog w) L ∧ Z a L
inductive RowsE (prog : Program) (w : World) (Z : Addr → List Int → Prop) (h : Heap) : List (Int × Value) → List (List Int) → Prop
  | nil : RowsE prog w Z h [] []
  | cons {e : Int × Value} {L : List Int} {es : List (Int × Value)} {Ls : List (List Int)} : RowE prog w Z h e L → RowsE prog w Z h es Ls → RowsE prog w Z h (e :: es) (L :: Ls)
theorem RowsE.length {Z : Addr → List Int → Prop} {h : Heap} {es : List (Int × Value)} {Ls : List (List Int)} (r : RowsE prog w Z h es Ls) : es.length = Ls.length := by
  induction r with
  | nil => rfl
  | cons _ _ ih => simp [ih]
theorem RowsE.get {Z : Addr → List Int → Prop} {h : Heap} {es : List (Int × Value)} {Ls : List (List Int)} (r : RowsE prog w Z h es Ls) : ∀ (i : Nat) (hi : i < es.length), RowE prog w Z h es[i] (Ls.getD i []) := by
  induction r with
  | nil => exact fun i hi => by simp at hi
  | cons e _ ih =>
    intro i hi
    cases i with
    | zero => simpa using e
    | succ i => simpa using ih i (by simpa using hi)
theorem RowsE.perm {Z : Addr → List Int → Prop} {h : Heap} {us es : List (Int × Value)} (p : us.Perm es) : ∀ {Ls : List (List Int)}, RowsE prog w Z h es Ls → ∃ Ms, RowsE prog w Z h us Ms ∧ Ms.Perm Ls := by
  induction p with
  | nil => intro Ls r; exact ⟨Ls, r, List.Perm.refl _⟩
  | cons x _ ih =>
    intro Ls r
    cases r with
    | cons e r =>
      obtain ⟨m, a, b⟩ := ih r
      exact ⟨_, .cons e a, b.cons _⟩
  | swap x y l =>
    intro Ls r
    cases r with
    | cons e r =>
      cases r with
      | cons e2 r2 => exact ⟨_, .cons e2 (.cons e r2), List.Perm.swap _ _ _⟩
  | trans _ _ i1 i2 =>
    intro Ls r
    obtain ⟨m, a, b⟩ := i2 r
    obtain ⟨m2, a2, b2⟩ := i1 a
    exact ⟨m2, a2, b2.trans b⟩
theorem key_kept {h h' : Heap} {L : List Int} {a : Addr} (k : IsTupleKey (intKind prog w) h L a) (e : ∀ o, o.cls = .type "tuple" → h.get? a = some o → h'.get? a = some o) : IsTupleKey (intKind prog w) h' L a := by
  obtain ⟨o, items, n, ho, hc, r⟩ := k
  exact ⟨o, items, n, e o hc ho, hc, r⟩
theorem RowsE.kept {Z : Addr → List Int → Prop} {h h' : Heap} {es : List (Int × Value)} {Ls : List (List Int)} (r : RowsE prog w Z h es Ls) (e : ∀ b o, o.cls = .type "tuple" → h.get? b = some o → h'.get? b = some o) : RowsE prog w Z h' es Ls := by
  induction r with
  | nil => exact .nil
  | cons x _ ih =>
    obtain ⟨a, x1, x2, x3⟩ := x
    exact .cons ⟨a, x1, key_kept x2 (e a), x3⟩ ih
theorem asks_rows {Z : Addr → List Int → Prop} {es : Array (Int × Value)} {Ls : List (List Int)} {L : List Int} {a : Addr} (hu : A.units < cLine) (r : RowsE prog w Z s.heap es.toList Ls) (hk : IsTupleKey (intKind prog w) s.heap L a) : Asks prog w A E s es (.ref a) (tupleKeyHash (intKind prog w) L) (fun i => Ls.getD i []) L := by
  have at_ : ∀ (i : Nat) (hi : i < es.size), RowE prog w Z s.heap es[i] (Ls.getD i []) := fun i hi => by
    have := r.get i (by rw [Array.length_toList]; exact hi)
    simpa using this
  refine ⟨fun i hi e => ?_, fun i hi Q q => ?_, fun i hi => ?_, fun l hl Q q => ?_⟩
  · obtain ⟨b, x1, x2, x3⟩ := at_ i hi
    rw [x3.1, e]
  · obtain ⟨b, x1, x2, x3⟩ := at_ i hi
    rw [x1]
    exact wpAny_eqBool_tuple hu x2 hk q
  · obtain ⟨b, x1, _⟩ := at_ i hi
    exact ⟨b, x1⟩
  · refine seen_row hk (fun y hy => ?_) q
    obtain ⟨i, hi, e⟩ := hl y hy
    obtain ⟨b, x1, x2, _⟩ := at_ i hi
    exact ⟨b, _, by rw [e, x1], x2⟩
end
def SetRows (prog : Program) (w : World) (Z : Addr → List Int → Prop) (h0 h : Heap) (S : Addr) (Ms : List (List Int)) : Prop :=
  ∃ es ep t, h.get? S = some (stObj es ep t) ∧ Tab t es ∧ t.led = (!byT w) ∧ t.plain = true ∧ RowsE prog w Z h0 es.toList Ms ∧ Ms.Nodup
section
variable {w : World} {prog : Program} {A : Around}
variable {R : Result → Shared → Prop} {I : Addr} {fp wr : List Addr} {G : Array GenState → Array GenState → Prop} {n : Nat} {P : Nat → Value → Prop} {St : Nat → Shared → Prop}
theorem mem_iff_getD {Ms : List (List Int)} {L : List Int} : (∃ i, i < Ms.length ∧ Ms.getD i [] = L) ↔ L ∈ Ms := by
  constructor
  · rintro ⟨i, hi, e⟩
    rw [List.getD_eq_getElem?_getD, List.getElem?_eq_getElem hi] at e
    rw [← e]
    exact List.getElem_mem hi
  · intro h
    obtain ⟨i, hi, e⟩ := List.getElem_of_mem h
    exact ⟨i, hi, by rw [List.getD_eq_getElem?_getD, List.getElem?_eq_getElem hi]; exact e⟩
theorem set_loopR {Z : Addr → List Int → Prop} (W : WalksS prog w A.in1 I fp wr G n P St) (hu : A.in1.units < cLine) (S : Addr) (hSf : S ∉ fp) (Ls : List (List Int)) (hn : Ls.length = n) (hb : n ≤ 60) (h0 : Heap) (hrow : ∀ i v, P i v → ∃ a, v = .ref a ∧ IsTupleKey (intKind prog w) h0 (Ls.getD i []) a ∧ Z a (Ls.getD i []))
    (hnt : ∀ b o, b ∈ S :: wr → h0.get? b = some o → o.cls ≠ .type "tuple") :
    ∀ (k i : Nat) (s : Shared) (Ms : List (List Int)), n - i = k → i ≤ n → St i s → (∀ b o, o.cls = .type "tuple" → h0.get? b = some o → s.heap.get? b = some o) → SetRows prog w Z h0 s.heap S Ms → Ms.length ≤ i → (∀ L, L ∈ Ms ↔ L ∈ Ls.take i) →
      (∀ s' Ms', Moved (S :: wr) G s s' → SetRows prog w Z h0 s'.heap S Ms' → Ms'.length ≤ n → (∀ L, L ∈ Ms' ↔ L ∈ Ls) → R (.ok (.ret .none)) s') →
      codeAny (model prog w) A (Code.builtin "set.update.loop" ⟨[.ref S, .ref I], []⟩) R s := by
  skip; have hSw : S ∉ wr := fun h => hSf (W.sub _ h)
  have sub2 : ∀ b ∈ wr, b ∈ S :: wr := fun b hb => List.mem_cons_of_mem _ hb
  intro k
  induction k with
  | zero =>
    intro i s Ms hk hi hst hT hS hl hM hR
    obtain rfl : i = n := by omega
    refine codeAny_builtin PyProof.Rows.F.entry_set_update_loop ?_; rw [Around.under_plainId PyProof.Rows.F.plain_set_update_loop _]
    show wpAny _ A.in1 (pyNext (.ref I) >>= _) _ _ s; refine wpAny_bind (W.done s _ _ hst fun s' hm => ?_)
    obtain ⟨es, ep, t, g, r⟩ := hS
    exact wpAny_pure (hR s' Ms (hm.mono sub2) ⟨es, ep, t, hm.heap S _ hSw g, r⟩ hl (by rw [← hn, List.take_length] at hM; exact hM))
  | succ k ih =>
    intro i s Ms hk hi hst hT hS hl hM hR
    have hlt : i < n := by omega
    refine codeAny_builtin PyProof.Rows.F.entry_set_update_loop ?_; rw [Around.under_plainId PyProof.Rows.F.plain_set_update_loop _]
    show wpAny _ A.in1 (pyNext (.ref I) >>= _) _ _ s; refine wpAny_bind (W.item i s _ _ hlt hst fun v s' hP hst' hm => ?_)
    obtain ⟨a, rfl, hka, hza⟩ := hrow i v hP
    obtain ⟨es, ep, t, g, T, l, p, r, nd⟩ := hS
    have hT' : ∀ b o, o.cls = .type "tuple" → h0.get? b = some o → s'.heap.get? b = some o := fun b o c e => hm.heap b o (fun z => hnt b o (List.mem_cons_of_mem _ z) e c) (hT b o c e)
    have hk' := key_kept hka (hT' a)
    have g' := hm.heap S _ hSw g
    have rl := r.length
    rw [Array.length_toList] at rl
    have tk : Ls.take (i + 1) = Ls.take i ++ [Ls.getD i []] := by
      rw [List.take_add_one, List.getD_eq_getElem?_getD, List.getElem?_eq_getElem (by omega)]
      rfl
    show wpAny _ A.in1 (holding [Value.ref a] (setAdd S (.ref a)) >>= _) _ _ s'
    refine wpAny_bind (wpAny_holding ?_); unfold setAdd; refine wpAny_holding ?_
    refine wpAny_bind (wpAny_pyHash_tuple hu hk' ?_)
    have ht' : s'.toks ≤ s'.toks + ((Ls.getD i []).length + 1) := by omega
    generalize s'.toks + ((Ls.getD i []).length + 1) = tk' at ht' ⊢
    refine add_tab (s := { s' with toks := tk' }) g' T p (by omega) (asks_rows (s := { s' with toks := tk' }) hu (r.kept hT') hk') (fun Q q => hv_row (s := { s' with toks := tk' }) hk' q) (fun hin => ?_) (fun hno h' es' t' ep' sb g2 T2 l2 p2 pm => ?_)
    · have hin' : Ls.getD i [] ∈ Ms := by
        obtain ⟨j, hj, e⟩ := hin
        exact mem_iff_getD.mp ⟨j, by omega, e⟩
      refine wpAny_pure ⟨plainId_quiet PyProof.Rows.F.plain_set_update_loop _, ih (i + 1) _ Ms (by omega) hlt (W.frame _ s' _ _ hst' ht' fun b hb o e => e) hT' ⟨es, ep, t, g', T, l, p, r, nd⟩ (by omega) (fun L => ?_) fun s'' Ms' hm'' hS'' hl'' hM'' => ?_⟩
      · rw [tk, List.mem_append, List.mem_singleton, hM]
        exact ⟨.inl, fun z => z.elim id fun e => by rw [e, ← hM]; exact hin'⟩
      · exact hR s'' Ms' (Moved.trans W.gtrans ((hm.mono sub2).then_heap ht' fun b o hb e => e) hm'') hS'' hl'' hM''
    · have hno' : Ls.getD i [] ∉ Ms := fun z => by
        obtain ⟨j, hj, e⟩ := mem_iff_getD.mpr z
        exact hno j (by omega) e
      obtain ⟨Ms', r2, pm2⟩ := RowsE.perm (prog := prog) (w := w) (h := h0) pm (.cons ⟨a, rfl, hka, rfl, hza⟩ r)
      have sbk : ∀ b o, b ≠ S → s'.heap.get? b = some o → h'.get? b = some o := fun b o z e => by rw [sb.2 b z]; exact e
      refine wpAny_pure ⟨plainId_quiet PyProof.Rows.F.plain_set_update_loop _, ih (i + 1) _ Ms' (by omega) hlt (W.frame _ s' _ _ hst' ht' fun b hb o e => sbk b o (fun z : b = S => hSf (by rw [← z]; exact hb)) e) (fun b o c e => sbk b o (fun z => hnt b o (by rw [z]; exact List.mem_cons_self) e c) (hT' b o c e)) ⟨es', ep', t', g2, T2, l2.trans l, p2, r2, pm2.nodup_iff.mpr (List.nodup_cons.mpr ⟨hno', nd⟩)⟩ (by rw [pm2.length_eq, List.length_cons]; omega) (fun L => ?_) fun s'' Ms'' hm'' hS'' hl'' hM'' => ?_⟩
      · rw [tk, List.mem_append, List.mem_singleton, pm2.mem_iff, List.mem_cons, hM]
        exact ⟨fun z => z.symm, fun z => z.symm⟩
      · refine hR s'' Ms'' (Moved.trans W.gtrans ((hm.mono sub2).then_heap ht' fun b o hb e => ?_) hm'') hS'' hl'' hM''
        exact sbk b o (fun z => hb (by rw [z]; exact List.mem_cons_self)) e
end
section
variable {prog : Program} {w : World} {A : Around} {E : Value → Shared → Prop} {s : Shared}
set_option maxHeartbeats 8000000 in
theorem call_setR {Z : Addr → List Int → Prop} {l : Addr} {items : Array Value} {Ls : List (List Int)} {Q : Value → Shared → Prop} (hh : A.handled = none) (hu : A.in1.in1.in1.units < cLine) (hl : s.heap.IsList l items) (hz : Ls.length = items.size) (hi : ∀ (i : Nat) (v : Value), items[i]? = some v → ∃ a, v = .ref a ∧ IsTupleKey (intKind prog w) s.heap (Ls.getD i []) a ∧ Z a (Ls.getD i [])) (hb : items.size ≤ 60)
    (h : ∀ (h' : Heap) (tk : Nat) (Ms : List (List Int)), SetRows prog w Z s.heap h' s.heap.objs.size Ms → Ms.length ≤ items.size → (∀ L, L ∈ Ms ↔ L ∈ Ls) → (∀ b o, b < s.heap.objs.size → s.heap.get? b = some o → h'.get? b = some o) → Q (.ref s.heap.objs.size) { s with heap := h', toks := tk }) :
    wpAny (model prog w) A (call (Value.type "set") [.ref l]) Q E s := by
  obtain ⟨c, tl, hmro⟩ := PySem.F.called_set.mro
  have hmade := PySem.F.called_set.made
  have hsub := PySem.F.called_set.sub
  refine wpAny_call (codeAny_of_tree ?_); show wpAny _ _ (callAny (.type "set") _) _ _ _; refine wpAny_pure ⟨Code.quiet_builtin _ (by decide +kernel), codeAny_builtin PySem.F.entry_type_call ?_⟩
  skip; rw [Around.under_plain (weight_type_call_type "set" [.ref l] []) rfl]
  have h1 := PySem.F.called_set.notType
  have h2 := PySem.F.called_set.canCreate
  have hct := PySem.F.typeCall_set_1 (.ref l)
  skip; repeat (any_goals (first | assumption | wp_step))
  refine codeAny_mono (set_newB (.ref l) (E := E) (QN := fun obj s₁ => obj = .ref s.heap.objs.size ∧ s₁ = { s with heap := s.heap.push (newSet (!byT w)) }) ⟨rfl, rfl⟩) fun r s₁ hr => ?_
  cases r with
  | error e => exact hr
  | ok fl =>
    cases fl with
    | ret obj =>
      obtain ⟨rfl, rfl⟩ := hr
      have hS : (s.heap.push (newSet (!byT w))).get? s.heap.objs.size = some (newSet (!byT w)) := Heap.get?_push_size _ rfl
      have hT : Shared.TypeIs { s with heap := s.heap.push (newSet (!byT w)) } (.ref s.heap.objs.size) "set" := ⟨_, hS, rfl⟩
      have hli := PySem.F.called_set.init.lookup
      have hbi := PySem.F.called_set.init.bind (.ref s.heap.objs.size)
      skip; repeat (any_goals (first | assumption | wp_step))
      refine codeAny_mono (codeAny_call_builtin (R := wants (fun r s₂ => r = .none ∧ ∃ h' tk Ms, s₂ = { s with heap := h', toks := tk } ∧ SetRows prog w Z s.heap h' s.heap.objs.size Ms ∧ Ms.length ≤ items.size ∧ (∀ L, L ∈ Ms ↔ L ∈ Ls) ∧ (∀ b o, b < s.heap.objs.size → s.heap.get? b = some o → h'.get? b = some o)) E) PySem.F.called_set.init.plain PySem.F.entry_set_init (check_set_init_1 hT ?_)) fun r₂ s₂ hr₂ => ?_
      · obtain ⟨⟨ocls, odict, odata, oslots⟩, hol, hcl, nl, hdl⟩ := hl
        replace hcl : ocls = .type "list" := hcl
        replace hdl : odata = .seq items nl := hdl
        subst hcl hdl
        have hol' : (s.heap.push (newSet (!byT w))).get? l = some { cls := .type "list", dict := odict, data := .seq items nl, slots := oslots } := Heap.get?_push_of_some _ hol
        have hsls := PySem.F.sub_list_set
        have hslf := PySem.F.sub_list_frozenset
        skip; have hne : (Value.type "list" == Value.type "dict") = false := by decide
        have hl1 : (s.heap.push (newSet (!byT w))).IsList l items := ⟨_, hol', rfl, nl, rfl⟩
        unfold Builtin.«set.__init__» noKeywords Builtin.Frozenset.updateFrom; generalize hPI : pyIter = PI; wp_walk; subst hPI
        refine wpAny_pyIter_list hl1 (wpAny_bind (wpAny_runValue ?_))
        skip; have hlS : l < s.heap.objs.size := Heap.lt_size hol
        have hh3 : A.in1.in1.in1.handled = none := hh
        have hneI : l ≠ (s.heap.push (newSet (!byT w))).objs.size := by rw [Heap.size_push]; exact Nat.ne_of_lt (Nat.lt_succ_of_lt hlS)
        have hSf : s.heap.objs.size ∉ [(s.heap.push (newSet (!byT w))).objs.size, l] := by
          rw [Heap.size_push]; simp only [List.mem_cons, List.mem_nil_iff, or_false, not_or]
          skip; exact ⟨Nat.ne_of_lt (Nat.lt_succ_self _), Nat.ne_of_gt hlS⟩
        have none_ : ∀ b, s.heap.objs.size ≤ b → s.heap.get? b = none := fun b hb => Heap.get?_none_of_le hb
        refine set_loopR ((Walks.list hh3 _ l hneI items).toS) hu s.heap.objs.size hSf Ls hz hb s.heap hi ?hnt (items.size - 0) 0 _ [] (by omega) (Nat.zero_le _) ⟨⟨_, Heap.get?_push_size _ rfl, rfl, rfl⟩, hl1.push _⟩ ?hT ?hS0 (Nat.zero_le _) (fun L => by simp) ?hR
        case hnt =>
          intro b o hb e
          skip; rcases List.mem_cons.mp hb with rfl | hb
          · rw [none_ _ (Nat.le_refl _)] at e; cases e
          · rw [List.mem_singleton.mp hb, none_ _ (by rw [Heap.size_push]; exact Nat.le_succ _)] at e; cases e
        case hT => exact fun b o _ e => Heap.get?_push_of_some _ (Heap.get?_push_of_some _ e)
        case hS0 => exact ⟨#[], 0, _, Heap.get?_push_of_some _ hS, ⟨.inl rfl, rfl, List.Pairwise.nil, rfl, by show 0 * 5 < 7 * 3; decide, fun j hj => by simp [SetTable.fresh] at hj, fun i hi => by simp at hi⟩, rfl, rfl, .nil, List.nodup_nil⟩
        case hR =>
          intro s' Ms' hm hS' hlen hmem
          obtain ⟨h', g', d', t', o'⟩ := s'
          skip; have eg : g' = s.gens := hm.gens
          skip; have ed : d' = s.drawn := hm.drawn
          have eo : o' = s.os := hm.os
          subst eg ed eo
          show wpAny _ _ _ _ _ _; refine wpAny_pure ?_; show wpAny _ _ (ret Value.none) _ _ _
          refine wpAny_pure ⟨rfl, h', t', Ms', rfl, hS', hlen, hmem, fun b o hb e => ?_⟩
          have hb2 : b ≠ (s.heap.push (newSet (!byT w))).objs.size := by rw [Heap.size_push]; exact Nat.ne_of_lt (Nat.lt_succ_of_lt hb)
          refine hm.heap b o ?_ (Heap.get?_push_of_some _ (Heap.get?_push_of_some _ e))
          simp only [List.mem_cons, List.mem_nil_iff, or_false, not_or]
          exact ⟨Nat.ne_of_lt hb, hb2⟩
      · cases r₂ with
        | error e => exact hr₂
        | ok fl₂ =>
          cases fl₂ with
          | ret r =>
            skip; obtain ⟨rfl, h', tk, Ms, rfl, hS', hlen, hmem, hk'⟩ := hr₂
            skip; repeat (any_goals (first | assumption | wp_step))
            exact h _ _ _ hS' hlen hmem hk'
          | _ => exact hr₂.elim
    | _ => exact hr.elim
end
end L2
set_option Elab.async false
set_option linter.all false
set_option maxRecDepth 100000
set_option maxHeartbeats 4000000
namespace L2
open PySem PySem.Spec PyProof.Rows PySem.W
theorem items_ints' {prog : Program} {w : World} {ks : List Int} {vs : List Value} (h : ItemsAre (intKind prog w) ks vs) : IntsAre vs ks := by
  induction h with
  | nil => exact .nil
  | @cons k v ks vs h1 _ ih =>
    obtain ⟨t, e⟩ := Value.isInt_shape h1
    subst e
    exact .cons k t ih
theorem ints_items {prog : Program} {w : World} : ∀ {vs : List Value} {ks : List Int}, IntsAre vs ks → ItemsAre (intKind prog w) ks vs
  | _, _, .nil => .nil
  | _, _, .cons n t r => .cons (intKind_is _ _ _ _) (ints_items r)
inductive RowsV (prog : Program) (w : World) (Z : Addr → List Int → Prop) (h : Heap) : List Value → List (List Int) → Prop
  | nil : RowsV prog w Z h [] []
  | cons {a : Addr} {L : List Int} {vs : List Value} {Ls : List (List Int)} : IsTupleKey (intKind prog w) h L a → Z a L → RowsV prog w Z h vs Ls → RowsV prog w Z h (.ref a :: vs) (L :: Ls)
section
variable {prog : Program} {w : World} {A : Around} {E : Value → Shared → Prop} {s : Shared} {Z : Addr → List Int → Prop} {h : Heap}
theorem rowsV_of {es : List (Int × Value)} {Ls : List (List Int)} (r : RowsE prog w Z h es Ls) : RowsV prog w Z h (es.map (·.2)) Ls := by
  induction r with
  | nil => exact .nil
  | @cons e L es Ls x _ ih =>
    obtain ⟨a, x1, x2, _, x4⟩ := x
    rw [List.map_cons, x1]
    exact .cons x2 x4 ih
theorem RowsV.length {vs : List Value} {Ls : List (List Int)} (r : RowsV prog w Z h vs Ls) : vs.length = Ls.length := by
  induction r with
  | nil => rfl
  | cons _ _ _ ih => simp [ih]
theorem RowsV.kept {h' : Heap} {vs : List Value} {Ls : List (List Int)} (r : RowsV prog w Z h vs Ls) (e : ∀ b o, o.cls = .type "tuple" → h.get? b = some o → h'.get? b = some o) : RowsV prog w Z h' vs Ls := by
  induction r with
  | nil => exact .nil
  | cons x y _ ih => exact .cons (key_kept x (e _)) y ih
theorem RowsV.at {vs : List Value} {Ls : List (List Int)} (r : RowsV prog w Z h vs Ls) (hne : ∀ L ∈ Ls, L ≠ []) : RowsAt h vs Ls := by
  induction r with
  | nil => trivial
  | @cons a L vs Ls x y _ ih =>
    obtain ⟨o, items, n, ho, hc, hd, hi⟩ := x
    exact ⟨⟨a, items, rfl, ⟨o, ho, hc, n, hd⟩, items_ints' hi, hne L List.mem_cons_self⟩, ih fun M hM => hne M (List.mem_cons_of_mem _ hM)⟩
theorem RowsV.pick {vs : List Value} {Ls : List (List Int)} (r : RowsV prog w Z h vs Ls) : ∀ (l : List Nat), (∀ i ∈ l, i < vs.length) → RowsV prog w Z h (l.map fun i => vs.getD i .none) (l.map fun i => Ls.getD i [])
  | [], _ => .nil
  | i :: l, hl => by
    have one : ∀ {vs : List Value} {Ls : List (List Int)} (i : Nat), RowsV prog w Z h vs Ls → i < vs.length → ∃ a, vs.getD i .none = .ref a ∧ IsTupleKey (intKind prog w) h (Ls.getD i []) a ∧ Z a (Ls.getD i []) := by
      intro vs Ls i r
      induction r generalizing i with
      | nil => intro hi; simp at hi
      | cons x y _ ih =>
        intro hi
        cases i with
        | zero => exact ⟨_, rfl, by simpa using x, by simpa using y⟩
        | succ i => simpa using ih i (by simpa using hi)
    obtain ⟨a, e1, e2, e3⟩ := one i r (hl i List.mem_cons_self)
    rw [List.map_cons, List.map_cons, e1]
    exact .cons e2 e3 (RowsV.pick r l fun j hj => hl j (List.mem_cons_of_mem _ hj))
theorem asc_rows {Ls : List (List Int)} {p : Array Nat} {n : Nat} (hp : OkP n p) (as : Asc (O := rowOrd) (fun i => Ls.getD i []) p n) : (p.toList.map fun i => Ls.getD i []).Pairwise fun a b => ¬ b < a := by
  rw [List.pairwise_map, List.pairwise_iff_getElem]
  intro i j hi hj hij
  rw [Array.length_toList] at hi hj
  have hs := hp.size
  have := as i j (by omega) (by omega)
  unfold kAt at this
  rw [Array.getElem?_eq_getElem hi, Array.getElem?_eq_getElem hj] at this
  have q : decide (Ls.getD p[j] [] < Ls.getD p[i] []) = false := this
  simpa using q
theorem st_sortedR {S : Addr} {h0 : Heap} {Ms : List (List Int)} {Q : Value → Shared → Prop} (hh : A.handled = none) (hS : SetRows prog w Z h0 s.heap S Ms) (h64 : Ms.length ≤ 60) (hne : ∀ L ∈ Ms, L ≠ []) (hk : ∀ b o, o.cls = .type "tuple" → h0.get? b = some o → s.heap.get? b = some o)
    (h : ∀ (s' : Shared) (h' : Heap) (a : Addr) (out : List Value) (e : Nat) (Ls : List (List Int)), (∀ b o, s.heap.get? b = some o → h'.get? b = some o) → S < a → h'.get? a = some (seqObj "list" out.toArray e) → RowsV prog w Z h0 out Ls → Ls.Perm Ms → Ls.Pairwise (fun a b => ¬ b < a) → Q (.ref a) { s with heap := h', toks := s'.toks }) : wpAny (model prog w) A (call (.builtin "sorted") [.ref S]) Q E s := by
  obtain ⟨es, ep, t, g, T, hled, hpl, hr, nd⟩ := hS
  have rl := hr.length
  rw [Array.length_toList] at rl
  have hz : es.size ≤ sizeLine := by rw [sizeLine_eq]; omega
  refine Calls.call_function_entry kind_sorted plain_sorted entry_sorted (args_sorted1 _) ?_; unfold Builtin.«sorted»
  refine wpAny_bind (m := checkCount "sorted" 1 1 _) (wpAny_pure (wpAny_bind (st_collect hh g (ris_rise T.fits hpl T.ris T.size) hled hz fun s' acc hm ha => ?_)))
  have ea : acc.toList = (ordOf w S ep es).toList.map (·.2) := by
    refine items_list (P := fun i v => ((ordOf w S ep es)[i]?).map (·.2) = some v) (by rw [List.length_map, Array.length_toList, ord_size]; exact ha) fun i v hv => ?_
    rw [List.getElem?_map, Array.getElem?_toList]
    exact hv
  obtain ⟨M1, r1, p1⟩ := hr.perm (ord_perm w S ep es)
  have rv := rowsV_of r1
  rw [← ea] at rv
  have l1 := rv.length
  have l2 := p1.length_eq
  skip; refine wpAny_bind (wpAny_newList ?_ (by rw [sizeLine_eq]; omega))
  have o1 : (s'.heap.push (seqObj "list" acc.toList.toArray 0)).get? s'.heap.objs.size = some (seqObj "list" acc.toList.toArray 0) := Heap.get?_push_size _ rfl
  have le : S < s'.heap.objs.size := Heap.lt_size (hm.heap S _ (by simp) g)
  have kt : ∀ b o, o.cls = .type "tuple" → h0.get? b = some o → (s'.heap.push (seqObj "list" acc.toList.toArray 0)).get? b = some o := fun b o c e => Heap.get?_push_of_some _ (hm.heap b o (by simp) (hk b o c e))
  refine wpAny_bind (wpAny_holding (wpAny_call_entry slot_list_sort ⟨_, o1, rfl⟩ entry_list_sort (rows_sort (s := { s' with heap := s'.heap.push (seqObj "list" acc.toList.toArray 0) }) o1 (by omega) ((rv.kept kt).at fun L hL => hne L (p1.mem_iff.mp hL)) fun p ok as => ⟨_, rfl, wpAny_pure ⟨_, rfl, ?_⟩⟩) (args_list_sort _)))
  obtain ⟨h', g', d', t', q'⟩ := s'
  skip; have eg : g' = s.gens := hm.gens
  skip; have ed : d' = s.drawn := hm.drawn
  have eo : q' = s.os := hm.os
  subst eg ed eo
  obtain ⟨e, he⟩ := sortedHeap_at (out := (p.toList.map fun i => acc.toList.getD i .none).toArray) o1
  have all : ∀ i ∈ p.toList, i < acc.toList.length := fun i hi => List.mem_range.mp (ok.mem_iff.mp hi)
  have pk : (p.toList.map fun i => M1.getD i []).Perm M1 := by
    refine (ok.map _).trans ?_
    have : (List.range acc.toList.length).map (fun i => M1.getD i []) = M1 := by
      rw [l1]
      refine List.ext_getElem? fun i => ?_
      by_cases hi : i < M1.length
      · simp [hi]
      · simp [hi]
    rw [this]
  refine h ⟨h', s.gens, s.drawn, t', s.os⟩ _ _ _ e _ (fun b o eb => ?_) le he (rv.pick p.toList all) (pk.trans p1) (asc_rows ok as)
  have hb := hm.heap b o (by simp) eb
  have lb := Heap.lt_size hb
  refine (sortedHeap_old (Nat.ne_of_lt lb) ?_).trans (Heap.get?_push_of_some _ hb)
  rw [Heap.size_push]
  exact Nat.lt_succ_of_lt lb
end
inductive RefsH (H : Hp) : List V → List (List Int) → Prop
  | nil : RefsH H [] []
  | cons {a : Addr} {L : List Int} {vs : List V} {Ls : List (List Int)} : H a = some (.tup (L.map V.int)) → RefsH H vs Ls → RefsH H (.ref a :: vs) (L :: Ls)
theorem RefsH.length {H : Hp} {vs : List V} {Ls : List (List Int)} (r : RefsH H vs Ls) : vs.length = Ls.length := by
  induction r with
  | nil => rfl
  | cons _ _ ih => simp [ih]
theorem RefsH.mono {H H' : Hp} (e : Ext H H') {vs : List V} {Ls : List (List Int)} (r : RefsH H vs Ls) : RefsH H' vs Ls := by
  induction r with
  | nil => exact .nil
  | cons x _ ih => exact .cons (e _ _ x) ih
theorem RefsH.get {H : Hp} {vs : List V} {Ls : List (List Int)} (r : RefsH H vs Ls) : ∀ (i : Nat) (v : V), vs[i]? = some v → ∃ a, v = .ref a ∧ H a = some (.tup ((Ls.getD i []).map V.int)) := by
  induction r with
  | nil => intro i v h; simp at h
  | cons x _ ih =>
    intro i v h
    cases i with
    | zero => simp at h; subst h; exact ⟨_, rfl, by simpa using x⟩
    | succ i => simpa using ih i v (by simpa using h)
theorem vals_at : ∀ {xs : List V} {us : List Value}, Vals xs us → ∀ (i : Nat) (u : Value), us[i]? = some u → ∃ x, xs[i]? = some x ∧ Vals [x] [u]
  | _, _, .nil, i, u, h => by simp at h
  | _, _, .cons r1 r2, i, u, h => by
    cases i with
    | zero => simp at h; subst h; exact ⟨_, rfl, .cons r1 .nil⟩
    | succ i =>
      obtain ⟨x, e, r⟩ := vals_at r2 i u (by simpa using h)
      exact ⟨x, by simpa using e, r⟩
theorem refs_out {prog : Program} {w : World} {H : Hp} {h : Heap} {out : List Value} {Ls : List (List Int)} (r : RowsV prog w (fun a L => H a = some (.tup (L.map V.int))) h out Ls) : ∃ vs, Vals vs out ∧ RefsH H vs Ls := by
  induction r with
  | nil => exact ⟨_, .nil, .nil⟩
  | @cons a L vs Ls x y _ ih =>
    obtain ⟨us, e1, e2⟩ := ih
    exact ⟨.ref a :: us, .cons rfl e1, .cons y e2⟩
theorem strict_rows : ∀ {Ls : List (List Int)}, Ls.Nodup → Ls.Pairwise (fun a b => ¬ b < a) → Ls.Pairwise (· < ·)
  | [], _, _ => .nil
  | L :: Ls, n, p => by
    obtain ⟨n1, n2⟩ := List.nodup_cons.mp n
    obtain ⟨p1, p2⟩ := List.pairwise_cons.mp p
    refine List.pairwise_cons.mpr ⟨fun M hM => ?_, strict_rows n2 p2⟩
    refine Classical.byContradiction fun q => n1 ?_
    rw [List.le_antisymm (List.not_lt.mp (p1 M hM)) (List.not_lt.mp q)]
    exact hM
section
variable {X : Cx}
def rSortRows (K : PySem.W.Frag) : List V → Hp → VK → Prop := fun xs H Q => ∃ (p : Addr) (vs : List V) (Ls : List (List Int)), xs = [.ref p] ∧ SqL K H p vs ∧ RefsH H vs Ls ∧ vs.length ≤ 60 ∧ (∀ L ∈ Ls, L ≠ []) ∧ ∀ l vs' Ls', H l = none → RefsH H vs' Ls' → Ls'.Pairwise (· < ·) → (∀ L, L ∈ Ls' ↔ L ∈ Ls) → Ls'.length ≤ vs.length → Q (.ref l) (upd H l (.lst vs'))
theorem pe_sortRows {k : Nat} (hr : Room k X.A) {a : Expr} {ta : TA} {p p' pos pos' : Pos} (hc : X.calm = true) (hg : Gl X "sorted") (hm : X.mg "sorted" = none) (hg2 : Gl X "set") (hm2 : X.mg "set" = none) (ha : PA X [a] ta) (hs : starEach [a] X.env = [(false, eval a X.env)] := by rfl)
    (ht : starEach [.Call (.Name "set" p') [a] [] pos'] X.env = [(false, eval (.Call (.Name "set" p') [a] [] pos') X.env)] := by rfl) :
    PE X (.Call (.Name "sorted" p) [.Call (.Name "set" p') [a] [] pos'] [] pos) (tCB (rSortRows X.K) ta) := by
  intro pins s σ H Q I h
  refine wpAny_Call_Name_kw (ld_blt I hg hm PyProof.Rows.boot_sorted (PyProof.Rows.callWith_builtin1 ?_ ht rfl) (by decide) (by decide))
  rw [ht]
  show wpAny _ _ (spliced ((false, eval (.Call (.Name "set" p') [a] [] pos') X.env) :: backTo pos [])) _ _ s
  refine Calls.spliced_cons (wpAny_Call_Name_kw (ld_blt I hg2 hm2 boot_set (PyProof.Rows.callWith_type1 (thn (ha pos' pins s σ H _ I h) fun us s1 ⟨vs, H1, I1, r1, q1⟩ => ?_) hs rfl) (by decide) (by decide)))
  obtain ⟨p1, ws, Ls, e, hx, hrf, hz, hne, q⟩ := q1
  subst e
  obtain ⟨u, rfl, ru⟩ := vals1 r1
  cases ru
  obtain ⟨its, ri, pl, _⟩ := I1.list hx
  have hl := ri.length
  have hl2 := hrf.length
  have sz : its.toArray.size = its.length := List.size_toArray ..
  have un := hr.un
  refine call_setR (Z := fun a L => H1 a = some (.tup (L.map V.int))) (Ls := Ls) (I1.ok.hd hc) (by show X.A.units + 1 + 1 + 1 < cLine; omega) pl.isList (by omega) (fun i v hv => ?_) (by omega) fun h' tk Ms hS hlen hmem hk => Calls.spliced_nil ?_
  · have hv' : its[i]? = some v := by simpa using hv
    obtain ⟨x, ex, rx⟩ := vals_at ri i v hv'
    obtain ⟨b, rfl, hb⟩ := hrf.get i x ex
    cases rx with
    | cons r0 _ =>
      cases r0
      obtain ⟨it2, r2, t2, _⟩ := I1.tuple (SqT.of (K := X.K) hb)
      obtain ⟨o, ho, hcl, n, hd⟩ := t2
      exact ⟨b, rfl, ⟨o, _, n, ho, hcl, hd, by simpa using ints_items (intsAre_of r2)⟩, hb⟩
  · refine st_sortedR (s := { s1 with heap := h', toks := tk }) (I1.ok.hd hc) hS (by omega) (fun L hL => hne L ((hmem L).mp hL)) (fun b o _ e => hk b o (Heap.lt_size e) e) fun s' g' l out ex Ks hk2 hlt ho hrv hpm hpw => ?_
    obtain ⟨vs', v1, v2⟩ := refs_out hrv
    obtain ⟨_, _, _, _, _, _, _, _, nd⟩ := hS
    have kk : ∀ b u, s1.heap.get? b = some u → g'.get? b = some u := fun b u e => hk2 b u (hk b u (Heap.lt_size e) e)
    have lv := v2.length
    have lk := hpm.length_eq
    refine ⟨.ref l, upd H1 l (.lst vs'), I1.laid (t' := s'.toks) kk (Nat.le_of_lt hlt) (show ObjOk X.prog X.w _ _ _ (.lst vs') from ⟨by rw [sizeLine_eq]; omega, out, ex, v1, ho⟩), rfl, q l vs' Ks (I1.hok.fresh (Nat.le_of_lt hlt)) v2 (strict_rows (hpm.nodup_iff.mpr nd) hpw) (fun L => by rw [hpm.mem_iff, hmem]) (by omega)⟩
theorem r_sortRowsU {K : PySem.W.Frag} {H : Hp} {Q : VK} {p : Addr} {vs : List V} {Ls : List (List Int)} (h : H p = some (.lst vs)) (hr : RefsH H vs Ls) (hn : vs.length ≤ 60) (hne : ∀ L ∈ Ls, L ≠ []) (q : ∀ l H' vs' Ls', H l = none → H' l = some (.lst vs') → Ext H H' → RefsH H' vs' Ls' → Ls'.Pairwise (· < ·) → (∀ L, L ∈ Ls' ↔ L ∈ Ls) → Ls'.length ≤ vs.length → Q (.ref l) H') : rSortRows K [.ref p] H Q :=
  ⟨p, vs, Ls, rfl, SqL.of h, hr, hn, hne, fun l vs' Ls' nl r' pw mm ll => q l _ vs' Ls' nl upd_same (ext_upd nl) (r'.mono (ext_upd nl)) pw mm ll⟩
end
end L2
set_option Elab.async false
set_option linter.all false
set_option maxRecDepth 100000
set_option maxHeartbeats 4000000
namespace L2
open PySem PySem.Spec PyProof.Rows PySem.W
def pairLt (p q : List Int × Int) : Prop := p.1 < q.1 ∨ (p.1 = q.1 ∧ p.2 < q.2)
instance (p q : List Int × Int) : Decidable (pairLt p q) := by unfold pairLt; infer_instance
inductive PairsAt (prog : Program) (w : World) (h : Heap) : List Value → List (List Int × Int) → Prop
  | nil : PairsAt prog w h [] []
  | cons {c a : Addr} {L : List Int} {x : Int} {t : Tok} {vs : List Value} {Ks : List (List Int × Int)} : IsTup h c #[.ref a, .int x t] → IsTupleKey (intKind prog w) h L a → PairsAt prog w h vs Ks → PairsAt prog w h (.ref c :: vs) ((L, x) :: Ks)
section
variable {prog : Program} {w : World} {A : Around} {E : Value → Shared → Prop} {s : Shared}
theorem PairsAt.length {h : Heap} {vs : List Value} {Ks : List (List Int × Int)} (r : PairsAt prog w h vs Ks) : vs.length = Ks.length := by
  induction r with
  | nil => rfl
  | cons _ _ _ ih => simp [ih]
theorem PairsAt.kept {h h' : Heap} (e : ∀ b o, o.cls = .type "tuple" → h.get? b = some o → h'.get? b = some o) {vs : List Value} {Ks : List (List Int × Int)} (r : PairsAt prog w h vs Ks) : PairsAt prog w h' vs Ks := by
  induction r with
  | nil => exact .nil
  | cons x y _ ih =>
    obtain ⟨o, ho, hc, hr⟩ := x
    exact .cons ⟨o, e _ _ hc ho, hc, hr⟩ (key_kept y (e _)) ih
theorem PairsAt.get {h : Heap} {vs : List Value} {Ks : List (List Int × Int)} (r : PairsAt prog w h vs Ks) : ∀ i, i < vs.length → ∃ c a t, vs.getD i .none = .ref c ∧ IsTup h c #[.ref a, .int (Ks.getD i ([], 0)).2 t] ∧ IsTupleKey (intKind prog w) h (Ks.getD i ([], 0)).1 a := by
  induction r with
  | nil => exact fun i hi => by simp at hi
  | @cons c a L x t vs Ks x y _ ih =>
    intro i hi
    cases i with
    | zero => exact ⟨c, a, t, rfl, by simpa using x, by simpa using y⟩
    | succ i => simpa using ih i (by simpa using hi)
end
end L2
set_option Elab.async false
set_option linter.all false
set_option maxRecDepth 100000
set_option maxHeartbeats 4000000
namespace L2
open PySem PySem.Spec PyProof.Rows PySem.W
inductive PairsH (H : Hp) : List V → List (List Int × Int) → Prop
  | nil : PairsH H [] []
  | cons {c a : Addr} {L : List Int} {x : Int} {vs : List V} {Ks : List (List Int × Int)} : H c = some (.tup [.ref a, .int x]) → H a = some (.tup (L.map V.int)) → PairsH H vs Ks → PairsH H (.ref c :: vs) ((L, x) :: Ks)
theorem PairsH.length {H : Hp} {vs : List V} {Ks : List (List Int × Int)} (r : PairsH H vs Ks) : vs.length = Ks.length := by
  induction r with
  | nil => rfl
  | cons _ _ _ ih => simp [ih]
theorem PairsH.mono {H H' : Hp} (e : Ext H H') {vs : List V} {Ks : List (List Int × Int)} (r : PairsH H vs Ks) : PairsH H' vs Ks := by
  induction r with
  | nil => exact .nil
  | cons x y _ ih => exact .cons (e _ _ x) (e _ _ y) ih
section
variable {X : Cx}
open Classical in
end
def noTb : HO → Bool
  | .tbl _ => false
  | _ => true
def ExtT (H H' : Hp) : Prop := ∀ b o, H b = some o → noTb o = true → H' b = some o
theorem ExtT.tr {H H1 H2 : Hp} (a : ExtT H H1) (b : ExtT H1 H2) : ExtT H H2 := fun x o h n => b x o (a x o h n) n
theorem Ext.toT {H H' : Hp} (e : Ext H H') : ExtT H H' := fun b o h _ => e b o h
def CodeH (H : Hp) (c : Addr) (qual : Str) : Prop := ∃ (oc : Obj) (vs : Array Value) (t : Tok), H c = some (.frz oc (.own c)) ∧ oc.data = .fields vs ∧ vs[1]? = some (.str qual t)
theorem CodeH.mono {H H' : Hp} {c : Addr} {qual : Str} (e : ExtT H H') (h : CodeH H c qual) : CodeH H' c qual := by
  obtain ⟨oc, vs, t, h1, h2⟩ := h
  exact ⟨oc, vs, t, e _ _ h1 rfl, h2⟩
theorem CodeH.record {P : Program} {w : World} {H : Hp} {h : Heap} {c : Addr} {qual : Str} (ok : HOk P w H h) (k : CodeH H c qual) : h.CodeRec (.ref c) qual := by
  obtain ⟨oc, vs, t, h1, h2, h3⟩ := k
  obtain ⟨e, _⟩ := (show ObjOk P w H h c (.frz oc (.own c)) from ok c _ h1)
  exact ⟨c, oc, vs, t, rfl, e, h2, h3⟩
def TabR (H : Hp) (P : Addr) (pos : Pos) (qual : Str) : Prop := H P = some (.tbl #[]) ∨ ∃ c, H P = some (.tbl #[rawInt pos.line, rawInt pos.col, .ref c]) ∧ CodeH H c qual
theorem TabR.ext {H H' : Hp} {P : Addr} {pos : Pos} {qual : Str} (e : Ext H H') (h : TabR H P pos qual) : TabR H' P pos qual := by
  rcases h with h | ⟨c, h, k⟩
  · exact .inl (e _ _ h)
  · exact .inr ⟨c, e _ _ h, k.mono (Ext.toT e)⟩
theorem TabR.but {H H' : Hp} {P r : Addr} {pos : Pos} {qual : Str} {C dx : Addr} {fs : List (Str × V)} (hr : H r = some (.ins C dx fs)) (e : But r H H') (h : TabR H P pos qual) : TabR H' P pos qual := by
  rcases h with h | ⟨c, h, oc, vs, t, k, k2⟩
  · exact .inl (e _ _ (fun z => by rw [z, hr] at h; cases h) h)
  · exact .inr ⟨c, e _ _ (fun z => by rw [z, hr] at h; cases h) h, oc, vs, t, e _ _ (fun z => by rw [z, hr] at k; cases k) k, k2⟩
structure LamOk (X : Cx) (scope : Scope) (cl : List (Str × Addr)) (x : Str) (fr : List Str) (js : List Nat) : Prop where
  kind : scope.kind = .function
  co : scope.isCoroutine = false
  gen : scope.isGenerator = false
  nc : ∀ y ∈ scope.names, y.2 ≠ .cell
  par : scope.names.lookup x = some .local
  clos : closOf X.env.cells scope.names [] = some cl
  frees : Frees X scope fr js
section
variable {X : Cx} {pins : List (Addr × Obj)} {σ : St} {H : Hp} {s : Shared}
structure Keyed (X : Cx) (A : Around) (σ : St) (KR : Hp → V → Nat → Prop) (lt : Nat → Nat → Bool) : Prop where
  ext : ∀ {H H' : Hp} {v : V} {i : Nat}, Ext H H' → KR H v i → KR H' v i
  cmp : ∀ {pins : List (Addr × Obj)} {H : Hp} {s : Shared} {v1 v2 : V} {u1 u2 : Value} {i j : Nat} {Q : Value → Shared → Prop} {E : Value → Shared → Prop}, Inv X pins σ H s → KR H v1 i → RelV v1 u1 → KR H v2 j → RelV v2 u2 → Q (.bool (lt i j)) s →
    wpAny (model X.prog X.w) A (richCompare .Lt u1 u2) Q E s
structure Turns (X : Cx) (A : Around) (pins : List (Addr × Obj)) (σ : St) (KR : Hp → V → Nat → Prop) (G : Hp → Prop) (q l : Addr) (xs : List V) (tp : Bool) : Prop where
  ext : ∀ {H H' : Hp}, Ext H H' → G H → G H'
  src : ∀ {H : Hp}, G H → SqE X.K H l xs tp
  turn : ∀ {ps : List (Addr × Obj)} {H : Hp} {s : Shared} {i : Nat} {x : V} {u : Value} {E : Value → Shared → Prop}, (∀ p ∈ pins, p ∈ ps) → Inv X ps σ H s → G H → xs[i]? = some x → RelV x u →
    wpAny (model X.prog X.w) A (call (.ref q) [u]) (EP X ps σ fun kv H' => KR H' kv i ∧ Ext H H') E s
variable {A : Around} {KR : Hp → V → Nat → Prop} {lt : Nat → Nat → Bool} {G : Hp → Prop} {l q It S : Addr} {xs : List V} {tp : Bool} {R : Result → Shared → Prop}
end
abbrev LA (α : Type) := List (Addr × Obj) → Addr → Addr → Shared → Hp → α
structure NoC (K : PySem.W.Frag) (C B : Addr) : Prop where
  ha : PySem.W.findIn K (.ref C) "__class__" = some (some (.builtin "object.__class__"))
  hn : PySem.W.specialIn K (.builtin "object.__class__") "__get__" = some (some (.builtin "getset_descriptor.__get__"))
  htk : PySem.W.takesIn K (.builtin "object.__class__") = some true
  hm : PySem.W.mroIn K C (.type "object") = some true
  ki : PySem.W.kitOne K (.ref C) (.ref B) = some false
def ButT (x : Addr) (H H' : Hp) : Prop := ∀ b o, b ≠ x → H b = some o → noTb o = true → H' b = some o
theorem ExtT.but {x : Addr} {H H1 H2 : Hp} (a : ExtT H H1) (b : ButT x H1 H2) (hn : H x = none) : ExtT H H2 := fun y o h t => b y o (ne_of_none h hn) (a y o h t) t
theorem ExtT.ext {H H1 H2 : Hp} (a : ExtT H H1) (b : Ext H1 H2) : ExtT H H2 := a.tr (Ext.toT b)
theorem ExtT.seqL {K : PySem.W.Frag} {H H' : Hp} {p : Addr} {xs : List V} (e : ExtT H H') (h : SqL K H p xs) : SqL K H' p xs := by
  rcases h with (h | ⟨o, h⟩) | h
  · exact .inl (.inl (e _ _ h rfl))
  · exact .inl (.inr ⟨o, e _ _ h rfl⟩)
  · exact .inr h
section
variable {X : Cx}
def rTIxI : V → List V → Hp → VK → Prop := fun x vs H Q => ∃ (p : Addr) (ns : List Int) (k : Int), x = .ref p ∧ vs = [.int k] ∧ H p = some (.tup (ns.map V.int)) ∧ k ∈ ns ∧ ns.length ≤ 1000000 ∧ Q (.int (ns.idxOf k : Nat)) H
theorem mt_tindexI : MtM X "tuple.index" rTIxI := by
  skip; intro pins s σ H x vs v us Q I rx rv h
  obtain ⟨p, ns, k, rfl, rfl, hp, hk, hz, q⟩ := h
  cases rx
  obtain ⟨u, rfl, t, rfl⟩ := rv.one
  obtain ⟨_, its, r, it, _⟩ := (show ObjOk X.prog X.w H s.heap p (.tup (ns.map V.int)) from I.hok p _ hp)
  have hi : IntsAre its ns := intsAre_of r
  have hn := hi.length
  skip; have hj : ns.idxOf k < ns.length := List.idxOf_lt_length_iff.mpr hk
  refine call_meets F.slot_tuple_index it.typeIs F.entry_tuple_index (F.args_tuple_index_2 _ _) (tup_index p its.toArray (.int k t) (isInt k) (ns.idxOf k) (by rw [List.size_toArray]; omega) ?_ ?_) ⟨it, fun y hy => ?_, ?_⟩
  · refine (isInt_at k hi _ (by omega) hj).trans ?_
    rw [List.getElem_idxOf hj]
    exact beq_self_eq_true k
  · intro m hm h2
    rw [List.size_toArray] at hm
    refine (isInt_at k hi m (by omega) (by omega)).trans ?_
    exact List.not_of_lt_findIdx h2
  · exact (eq_isInt k t hi y (by simpa using hy)).at _ _
  · exact ⟨.int (ns.idxOf k : Nat), H, I.tok _, ⟨_, rfl⟩, q⟩
end
theorem r_tindexI {H : Hp} {Q : VK} {p : Addr} {ns : List Int} {k : Int} (h : H p = some (.tup (ns.map V.int))) (hk : k ∈ ns) (hz : ns.length ≤ 1000000) (q : Q (.int (ns.idxOf k : Nat)) H) : rTIxI (.ref p) [.int k] H Q := ⟨p, ns, k, rfl, rfl, h, hk, hz, q⟩
def LamH (H : Hp) (f : Addr) (qual : Str) (params : Arguments) (lb : Expr) (sc : Scope) : Prop := ∃ (c : Addr) (pm ctv : Value), H f = some (.frz (PySem.W.kla_obj "<lambda>" qual params lb sc [] pm c ctv) (.own f)) ∧ CodeH H c qual
theorem LamH.mono {H H' : Hp} {f : Addr} {qual : Str} {params : Arguments} {lb : Expr} {sc : Scope} (e : ExtT H H') (h : LamH H f qual params lb sc) : LamH H' f qual params lb sc := by
  obtain ⟨c, pm, ctv, h1, h2⟩ := h
  exact ⟨c, pm, ctv, e _ _ h1 rfl, h2.mono e⟩
theorem LamH.but {H H' : Hp} {f r C dx : Addr} {fs : List (Str × V)} {qual : Str} {params : Arguments} {lb : Expr} {sc : Scope} (hr : H r = some (.ins C dx fs)) (e : But r H H') (h : LamH H f qual params lb sc) : LamH H' f qual params lb sc := by
  obtain ⟨c, pm, ctv, h1, oc, vs, t, k, k2⟩ := h
  exact ⟨c, pm, ctv, e _ _ (fun z => by rw [z, hr] at h1; cases h1) h1, oc, vs, t, e _ _ (fun z => by rw [z, hr] at k; cases k) k, k2⟩
structure RiseG (w : World) (t : SetTable) (n : Nat) (sl : Nat → Nat) : Prop where
  fits : t.fits n = true
  dr : byT w = false → (!t.plain && decide (n > 1)) = false
  zero : sl 0 = 0
  low : ∀ i, i ≤ n → SetTable.below t.place (sl i) = i
  step : ∀ i, i < n → ∃ j, t.place[i]? = some j ∧ j + 1 = sl (i + 1)
section
variable {prog : Program} {w : World} {A : Around} {E : Value → Shared → Prop} {s : Shared}
def RowET (prog : Program) (w : World) (Z : Addr → List Str → Prop) (h : Heap) (e : Int × Value) (L : List Str) : Prop := ∃ a, e.2 = .ref a ∧ IsTupleKey (PySem.strKind prog w) h L a ∧ e.1 = tupleKeyHash (PySem.strKind prog w) L ∧ Z a L
inductive RowsET (prog : Program) (w : World) (Z : Addr → List Str → Prop) (h : Heap) : List (Int × Value) → List (List Str) → Prop
  | nil : RowsET prog w Z h [] []
  | cons {e : Int × Value} {L : List Str} {es : List (Int × Value)} {Ls : List (List Str)} : RowET prog w Z h e L → RowsET prog w Z h es Ls → RowsET prog w Z h (e :: es) (L :: Ls)
theorem RowsET.length {Z : Addr → List Str → Prop} {h : Heap} {es : List (Int × Value)} {Ls : List (List Str)} (r : RowsET prog w Z h es Ls) : es.length = Ls.length := by
  induction r with
  | nil => rfl
  | cons _ _ ih => simp [ih]
theorem RowsET.get {Z : Addr → List Str → Prop} {h : Heap} {es : List (Int × Value)} {Ls : List (List Str)} (r : RowsET prog w Z h es Ls) : ∀ (i : Nat) (hi : i < es.length), RowET prog w Z h es[i] (Ls.getD i []) := by
  induction r with
  | nil => exact fun i hi => by simp at hi
  | cons e _ ih =>
    intro i hi
    cases i with
    | zero => simpa using e
    | succ i => simpa using ih i (by simpa using hi)
theorem RowsET.perm {Z : Addr → List Str → Prop} {h : Heap} {us es : List (Int × Value)} (p : us.Perm es) : ∀ {Ls : List (List Str)}, RowsET prog w Z h es Ls → ∃ Ms, RowsET prog w Z h us Ms ∧ Ms.Perm Ls := by
  induction p with
  | nil => intro Ls r; exact ⟨Ls, r, List.Perm.refl _⟩
  | cons x _ ih =>
    intro Ls r
    cases r with
    | cons e r =>
      obtain ⟨m, a, b⟩ := ih r
      exact ⟨_, .cons e a, b.cons _⟩
  | swap x y l =>
    intro Ls r
    cases r with
    | cons e r =>
      cases r with
      | cons e2 r2 => exact ⟨_, .cons e2 (.cons e r2), List.Perm.swap _ _ _⟩
  | trans _ _ i1 i2 =>
    intro Ls r
    obtain ⟨m, a, b⟩ := i2 r
    obtain ⟨m2, a2, b2⟩ := i1 a
    exact ⟨m2, a2, b2.trans b⟩
theorem key_keptT {h h' : Heap} {L : List Str} {a : Addr} (k : IsTupleKey (PySem.strKind prog w) h L a) (e : ∀ o, o.cls = .type "tuple" → h.get? a = some o → h'.get? a = some o) : IsTupleKey (PySem.strKind prog w) h' L a := by
  obtain ⟨o, items, n, ho, hc, r⟩ := k
  exact ⟨o, items, n, e o hc ho, hc, r⟩
theorem RowsET.kept {Z : Addr → List Str → Prop} {h h' : Heap} {es : List (Int × Value)} {Ls : List (List Str)} (r : RowsET prog w Z h es Ls) (e : ∀ b o, o.cls = .type "tuple" → h.get? b = some o → h'.get? b = some o) : RowsET prog w Z h' es Ls := by
  induction r with
  | nil => exact .nil
  | cons x _ ih =>
    obtain ⟨a, x1, x2, x3⟩ := x
    exact .cons ⟨a, x1, key_keptT x2 (e a), x3⟩ ih
end
end L2
set_option Elab.async false
set_option linter.all false
set_option maxRecDepth 100000
set_option maxHeartbeats 4000000
namespace L2
open PySem PySem.Spec PyProof.Rows PySem.W
def cpm (L : List Str) : List (List Nat) := L.map fun x => x.cps.toList
inductive StrsV : List Value → List Str → Prop
  | nil : StrsV [] []
  | cons (n : Str) (t : Tok) {vs : List Value} {ns : List Str} : StrsV vs ns → StrsV (.str n t :: vs) (n :: ns)
theorem StrsV.length {vs : List Value} {ns : List Str} (r : StrsV vs ns) : vs.length = ns.length := by
  induction r with
  | nil => rfl
  | cons _ _ _ ih => simp [ih]
theorem items_strs {prog : Program} {w : World} {ks : List Str} {vs : List Value} (h : ItemsAre (PySem.strKind prog w) ks vs) : StrsV vs ks := by
  induction h with
  | nil => exact .nil
  | @cons k v ks vs h1 _ ih =>
    obtain ⟨t, e⟩ := Value.isStrOf_shape h1
    subst e
    exact .cons k t ih
section
variable {prog : Program} {w : World} {A : Around} {E : Value → Shared → Prop} {s : Shared}
def RowsAtT (h : Heap) : List Value → List (List Str) → Prop
  | [], [] => True
  | v :: vs, L :: Ls => (∃ a its, v = .ref a ∧ IsTup h a its ∧ StrsV its.toList L ∧ L ≠ []) ∧ RowsAtT h vs Ls
  | _, _ => False
theorem RowsAtT.kept {h h' : Heap} {x : Addr} {zs : Array Value} {n : Nat} (hx : h.get? x = some (seqObj "list" zs n)) (e : ∀ b o, b ≠ x → h.get? b = some o → h'.get? b = some o) : ∀ {vs : List Value} {Ls : List (List Str)}, RowsAtT h vs Ls → RowsAtT h' vs Ls
  | [], [], _ => trivial
  | [], _ :: _, r => r.elim
  | _ :: _, [], r => r.elim
  | v :: vs, L :: Ls, ⟨⟨a, its, e1, e2, e3, e4⟩, r⟩ => by
    refine ⟨⟨a, its, e1, tup_at e2 fun o q => e a o (fun z => ?_) q, e3, e4⟩, RowsAtT.kept hx e r⟩
    subst z
    obtain ⟨o, ho, hc, _⟩ := e2
    rw [hx] at ho
    cases ho
    exact absurd (show Value.type "list" = Value.type "tuple" from hc) (by decide)
theorem RowsAtT.get {h : Heap} : ∀ {vs : List Value} {Ls : List (List Str)} {i : Nat}, RowsAtT h vs Ls → i < vs.length → ∃ a its, vs.getD i .none = .ref a ∧ IsTup h a its ∧ StrsV its.toList (Ls.getD i [])
  | [], [], i, _, hi => by simp at hi
  | [], _ :: _, _, r, _ => r.elim
  | _ :: _, [], _, r, _ => r.elim
  | v :: vs, L :: Ls, 0, ⟨⟨a, its, e1, e2, e3, e4⟩, r⟩, _ => ⟨a, its, e1, e2, e3⟩
  | v :: vs, L :: Ls, i + 1, ⟨_, r⟩, hi => by
    obtain ⟨a, its, e1, e2, e3⟩ := RowsAtT.get (i := i) r (by simpa using hi)
    exact ⟨a, its, by simpa using e1, e2, by simpa using e3⟩
end
inductive RowsVT (prog : Program) (w : World) (Z : Addr → List Str → Prop) (h : Heap) : List Value → List (List Str) → Prop
  | nil : RowsVT prog w Z h [] []
  | cons {a : Addr} {L : List Str} {vs : List Value} {Ls : List (List Str)} : IsTupleKey (PySem.strKind prog w) h L a → Z a L → RowsVT prog w Z h vs Ls → RowsVT prog w Z h (.ref a :: vs) (L :: Ls)
section
variable {prog : Program} {w : World} {A : Around} {E : Value → Shared → Prop} {s : Shared} {Z : Addr → List Str → Prop} {h : Heap}
theorem RowsVT.length {vs : List Value} {Ls : List (List Str)} (r : RowsVT prog w Z h vs Ls) : vs.length = Ls.length := by
  induction r with
  | nil => rfl
  | cons _ _ _ ih => simp [ih]
theorem RowsVT.kept {h' : Heap} {vs : List Value} {Ls : List (List Str)} (r : RowsVT prog w Z h vs Ls) (e : ∀ b o, o.cls = .type "tuple" → h.get? b = some o → h'.get? b = some o) : RowsVT prog w Z h' vs Ls := by
  induction r with
  | nil => exact .nil
  | cons x y _ ih => exact .cons (key_keptT x (e _)) y ih
theorem RowsVT.at {vs : List Value} {Ls : List (List Str)} (r : RowsVT prog w Z h vs Ls) (hne : ∀ L ∈ Ls, L ≠ []) : RowsAtT h vs Ls := by
  induction r with
  | nil => trivial
  | @cons a L vs Ls x y _ ih =>
    obtain ⟨o, items, n, ho, hc, hd, hi⟩ := x
    exact ⟨⟨a, items, rfl, ⟨o, ho, hc, n, hd⟩, items_strs hi, hne L List.mem_cons_self⟩, ih fun M hM => hne M (List.mem_cons_of_mem _ hM)⟩
theorem RowsVT.perm {us vs : List Value} (p : us.Perm vs) : ∀ {Ls : List (List Str)}, RowsVT prog w Z h vs Ls → ∃ Ms, RowsVT prog w Z h us Ms ∧ Ms.Perm Ls := by
  induction p with
  | nil => intro Ls r; exact ⟨Ls, r, List.Perm.refl _⟩
  | cons x _ ih =>
    intro Ls r
    cases r with
    | cons e f r =>
      obtain ⟨m, a, b⟩ := ih r
      exact ⟨_, .cons e f a, b.cons _⟩
  | swap x y l =>
    intro Ls r
    cases r with
    | cons e f r =>
      cases r with
      | cons e2 f2 r2 => exact ⟨_, .cons e2 f2 (.cons e f r2), List.Perm.swap _ _ _⟩
  | trans _ _ i1 i2 =>
    intro Ls r
    obtain ⟨m, a, b⟩ := i2 r
    obtain ⟨m2, a2, b2⟩ := i1 a
    exact ⟨m2, a2, b2.trans b⟩
end
inductive RefsHT (H : Hp) : List V → List (List Str) → Prop
  | nil : RefsHT H [] []
  | cons {a : Addr} {L : List Str} {vs : List V} {Ls : List (List Str)} : H a = some (.tup (L.map V.str)) → RefsHT H vs Ls → RefsHT H (.ref a :: vs) (L :: Ls)
theorem RefsHT.length {H : Hp} {vs : List V} {Ls : List (List Str)} (r : RefsHT H vs Ls) : vs.length = Ls.length := by
  induction r with
  | nil => rfl
  | cons _ _ ih => simp [ih]
theorem RefsHT.mono {H H' : Hp} (e : Ext H H') {vs : List V} {Ls : List (List Str)} (r : RefsHT H vs Ls) : RefsHT H' vs Ls := by
  induction r with
  | nil => exact .nil
  | cons x _ ih => exact .cons (e _ _ x) ih
theorem RefsHT.get {H : Hp} {vs : List V} {Ls : List (List Str)} (r : RefsHT H vs Ls) : ∀ (i : Nat) (v : V), vs[i]? = some v → ∃ a, v = .ref a ∧ H a = some (.tup ((Ls.getD i []).map V.str)) := by
  induction r with
  | nil => intro i v h; simp at h
  | cons x _ ih =>
    intro i v h
    cases i with
    | zero => simp at h; subst h; exact ⟨_, rfl, by simpa using x⟩
    | succ i => simpa using ih i v (by simpa using h)
section
open PySem.SeqAt
open PySem.AutoSeq1 (wpAny_loadPart')
open PySem.MeetsSeq PySem.MeetsSeq2 PySem.MeetsSeq3
end
end L2
set_option Elab.async false
set_option linter.all false
set_option maxRecDepth 100000
set_option maxHeartbeats 4000000
namespace L2
open PySem PySem.Spec PyProof.Rows PySem.W
def pairLtT (p q : List Str × Int) : Prop := cpm p.1 < cpm q.1 ∨ (p.1 = q.1 ∧ p.2 < q.2)
instance (p q : List Str × Int) : Decidable (pairLtT p q) := by unfold pairLtT; infer_instance
inductive PairsAtT (prog : Program) (w : World) (h : Heap) : List Value → List (List Str × Int) → Prop
  | nil : PairsAtT prog w h [] []
  | cons {c a : Addr} {L : List Str} {x : Int} {t : Tok} {vs : List Value} {Ks : List (List Str × Int)} : IsTup h c #[.ref a, .int x t] → IsTupleKey (PySem.strKind prog w) h L a → PairsAtT prog w h vs Ks → PairsAtT prog w h (.ref c :: vs) ((L, x) :: Ks)
section
variable {prog : Program} {w : World} {A : Around} {E : Value → Shared → Prop} {s : Shared}
theorem PairsAtT.length {h : Heap} {vs : List Value} {Ks : List (List Str × Int)} (r : PairsAtT prog w h vs Ks) : vs.length = Ks.length := by
  induction r with
  | nil => rfl
  | cons _ _ _ ih => simp [ih]
theorem PairsAtT.kept {h h' : Heap} (e : ∀ b o, o.cls = .type "tuple" → h.get? b = some o → h'.get? b = some o) {vs : List Value} {Ks : List (List Str × Int)} (r : PairsAtT prog w h vs Ks) : PairsAtT prog w h' vs Ks := by
  induction r with
  | nil => exact .nil
  | cons x y _ ih =>
    obtain ⟨o, ho, hc, hr⟩ := x
    exact .cons ⟨o, e _ _ hc ho, hc, hr⟩ (key_keptT y (e _)) ih
theorem PairsAtT.get {h : Heap} {vs : List Value} {Ks : List (List Str × Int)} (r : PairsAtT prog w h vs Ks) : ∀ i, i < vs.length → ∃ c a t, vs.getD i .none = .ref c ∧ IsTup h c #[.ref a, .int (Ks.getD i ([], 0)).2 t] ∧ IsTupleKey (PySem.strKind prog w) h (Ks.getD i ([], 0)).1 a := by
  induction r with
  | nil => exact fun i hi => by simp at hi
  | @cons c a L x t vs Ks x y _ ih =>
    intro i hi
    cases i with
    | zero => exact ⟨c, a, t, rfl, by simpa using x, by simpa using y⟩
    | succ i => simpa using ih i (by simpa using hi)
end
inductive PairsHT (H : Hp) : List V → List (List Str × Int) → Prop
  | nil : PairsHT H [] []
  | cons {c a : Addr} {L : List Str} {x : Int} {vs : List V} {Ks : List (List Str × Int)} : H c = some (.tup [.ref a, .int x]) → H a = some (.tup (L.map V.str)) → PairsHT H vs Ks → PairsHT H (.ref c :: vs) ((L, x) :: Ks)
theorem PairsHT.length {H : Hp} {vs : List V} {Ks : List (List Str × Int)} (r : PairsHT H vs Ks) : vs.length = Ks.length := by
  induction r with
  | nil => rfl
  | cons _ _ _ ih => simp [ih]
theorem PairsHT.mono {H H' : Hp} (e : Ext H H') {vs : List V} {Ks : List (List Str × Int)} (r : PairsHT H vs Ks) : PairsHT H' vs Ks := by
  induction r with
  | nil => exact .nil
  | cons x y _ ih => exact .cons (e _ _ x) (e _ _ y) ih
theorem noFill_tmul : fillsNumberSlot (.type "tuple") "mul" = pure false := PySem.fillsNumberSlot_seq (id := "tuple.__mul__") (r := some (.builtin "tuple.__rmul__")) F.slot_tuple_mul.lookup (by decide +kernel) F.slot_tuple_rmul.lookup (by decide +kernel)
theorem rep_tuple : seqRepeat? (.type "tuple") = pure (some (.builtin "tuple.__mul__")) := by
  unfold seqRepeat?
  rw [PySem.seqSlot_of (T := "tuple") (name := "__mul__") (id := "tuple.__mul__") F.slot_tuple_mul.lookup (by decide +kernel), PySem.seqSlot_of (T := "tuple") (name := "__rmul__") (id := "tuple.__rmul__") F.slot_tuple_rmul.lookup (by decide +kernel)]
  rfl
theorem int_rmul_tup (a : Int) (t : Tok) (l : Addr) (its : Array Value) (n : Nat) (dd : Option Addr) (sl : Array (Option Value)) :
    Meets (Builtin.«int.__rmul__» ⟨[.int a t, .ref l], []⟩) (fun _ R s => s.heap.get? l = some { cls := .type "tuple", dict := dd, data := .seq its n, slots := sl } ∧ R (.ok (.ret Value.notImplemented)) s) :=
  .of_wp fun prog w A R s h => by obtain ⟨m0, g, d, tk, os⟩ := s; obtain ⟨gl, h⟩ := h; wp_walk; exact ⟨_, rfl, h⟩
section
open PySem.SeqAt
open PySem.AutoSeq1 (wpAny_loadPart')
open PySem.MeetsSeq PySem.MeetsSeq2 PySem.MeetsSeq3
theorem tup_mul1 (l : Addr) (v : Value) (n : Nat) (dd : Option Addr) (sl : Array (Option Value)) (t : Tok) :
    Meets (Builtin.«tuple.__mul__» ⟨[.ref l, .int 1 t], []⟩) (fun _ R s => s.heap.get? l = some { cls := .type "tuple", dict := dd, data := .seq #[v] n, slots := sl } ∧ R (.ok (.ret (.ref l))) s) :=
  .of_wp fun prog w A R s h => by
    obtain ⟨m0, g, d, tk, os⟩ := s; obtain ⟨gl, h⟩ := h
    have ii := AutoSeq1.idx_int
    have tt := AutoSeq1.sub_tuple_tuple
    wp_walk using wpAny_loadPart' gl
    exact ⟨_, rfl, h⟩
theorem tup_mulN (l : Addr) (v : Value) (n : Nat) (dd : Option Addr) (sl : Array (Option Value)) (k : Int) (t : Tok) (h1 : 1 < k) (h2 : k ≤ 1000) :
    Meets (Builtin.«tuple.__mul__» ⟨[.ref l, .int k t], []⟩) (fun _ R s => s.heap.get? l = some { cls := .type "tuple", dict := dd, data := .seq #[v] n, slots := sl } ∧ R (.ok (.ret (.ref s.heap.objs.size))) { s with heap := s.heap.push { cls := .type "tuple", data := .seq (List.replicate k.toNat v).toArray } }) :=
  .of_wp fun prog w A R s h => by
    obtain ⟨m0, g, d, tk, os⟩ := s; obtain ⟨gl, h⟩ := h
    have ii := AutoSeq1.idx_int
    have tt := AutoSeq1.sub_tuple_tuple
    have c1 : ¬ (decide (k < -(2 ^ 63)) || decide (k ≥ 2 ^ 63)) = true := by simp; omega
    have c2 : ¬ ((#[v] : Array Value).isEmpty || k == 1) = true := by simp; omega
    have c3 : ¬ (decide (k ≤ 0) || (#[v] : Array Value).isEmpty) = true := by simp; omega
    have c4 : ¬ ((#[v] : Array Value).size : Int) * k > (2 ^ 63 - 1) / 8 := by simp; omega
    have hf : (List.replicate k.toNat #[v]).foldl (fun x1 x2 => x1 ++ x2) #[] = (List.replicate k.toNat v).toArray := by
      have := foldl_rep [v] k.toNat []
      rw [List.nil_append, flat_one] at this
      exact this
    have c5 : ¬ Builtin.Tuple.tupleTooMany (((#[v] : Array Value).size : Int) * k) = true := by unfold Builtin.Tuple.tupleTooMany; rw [decide_eq_true_iff, sizeLine_eq]; simp; omega
    wp_walk using wpAny_loadPart' gl
    rw [if_neg c1]
    wp_walk using wpAny_loadPart' gl
    rw [if_neg c2]
    wp_walk
    rw [if_neg c3]
    wp_walk
    rw [if_neg c4]
    wp_walk
    rw [if_neg c5]
    wp_walk
    rw [hf]
    rw [if_neg (by rw [List.size_toArray, List.length_replicate, sizeLine_eq]; omega)]
    wp_walk
    exact ⟨_, rfl, h⟩
end
section
variable {X : Cx}
def rRepT (K : PySem.W.Frag) : R2 := fun x y H Q => ∃ l k u, x = .ref l ∧ y = .int k ∧ SqT K H l [u] ∧ 1 ≤ k ∧ k ≤ 1000 ∧ (k = 1 → Q (.ref l) H) ∧ (1 < k → ∀ p, H p = none → Q (.ref p) (upd H p (.tup (List.replicate k.toNat u))))
theorem op_repT : OpR X (binaryOp .Mult) (rRepT X.K) := by
  intro pins s σ H x y v u Q I rx ry h
  obtain ⟨l, k, u0, rfl, rfl, hH, h1, h2, q1, q2⟩ := h
  cases rx
  obtain ⟨t, rfl⟩ := ry
  obtain ⟨its, r, pl, _⟩ := I.tuple hH
  obtain ⟨w0, rfl, r0⟩ := vals1 r
  obtain ⟨⟨c1, d1, e1, f1⟩, ho, hc, n, hd⟩ := id pl
  dsimp only at hc hd
  subst hc hd
  refine wpAny_binaryOp_repeat_ref (T := "tuple") (U := "int") (by decide) ⟨_, ho, rfl⟩ (fun s' => typeIs_int s' k t) noFill_tmul F.fills_int_mul F.slot_int_rmul rep_tuple F.slot_int_index.lookup
    (call_meets F.slot_int_rmul (typeIs_int s k t) F.entry_int_rmul (F.args_int_rmul_2 _ _) (int_rmul_tup k t l [w0].toArray n d1 f1) ⟨ho, rfl, ⟨_, ho, rfl⟩, ?_⟩)
  by_cases e : k = 1
  · subst e
    exact call_meets F.slot_tuple_mul ⟨_, ho, rfl⟩ F.entry_tuple_mul (F.args_tuple_mul_2 _ _) (tup_mul1 l w0 n d1 f1 t) ⟨ho, .ref l, H, I, rfl, q1 rfl⟩
  · refine call_meets F.slot_tuple_mul ⟨_, ho, rfl⟩ F.entry_tuple_mul (F.args_tuple_mul_2 _ _) (tup_mulN l w0 n d1 f1 k t (by omega) h2) ⟨ho, ?_⟩
    have rr : ∀ m : Nat, Vals (List.replicate m u0) (List.replicate m w0) := fun m => by
      induction m with
      | zero => exact .nil
      | succ m ih => exact .cons r0 ih
    refine ⟨.ref s.heap.objs.size, _, I.laid (t' := s.toks) (o := .tup (List.replicate k.toNat u0)) (fun b ob q => Heap.get?_push_of_some _ q) (Nat.le_refl _) ?_, rfl, q2 (by omega) _ (I.hok.fresh (Nat.le_refl _))⟩
    exact ⟨by rw [List.length_replicate, sizeLine_eq]; omega, _, rr _, TupN.new _ _⟩
theorem r_repT {K : PySem.W.Frag} {H : Hp} {Q : VK} {l : Addr} {u : V} {k : Int} (h : H l = some (.tup [u])) (k1 : 1 ≤ k) (k2 : k ≤ 1000) (q : ∀ p H', H' p = some (.tup (List.replicate k.toNat u)) → Ext H H' → Q (.ref p) H') : rRepT K (.ref l) (.int k) H Q :=
  ⟨l, k, u, rfl, rfl, SqT.of h, k1, k2, fun e => q l H (by subst e; exact h) Ext.rfl', fun _ p n => q p _ upd_same (ext_upd n)⟩
end
section
variable {prog : Program} {w : World} {A : Around} {E : Value → Shared → Prop} {s : Shared} {d it : Addr} {o : Obj} {es : Array DictEntry} {i ep : Nat}
theorem xd_type (ho : s.heap.get? d = some o) (hc : o.ExactDict) : s.TypeIs (.ref d) "dict" := ⟨o, ho, hc.1⟩
theorem ki_iter {Q : Value → Shared → Prop} (hd : (d == sysModules) = false) (ho : s.heap.get? d = some o) (hc : o.ExactDict) (hdat : o.data = .dict es ep)
    (hQ : ∀ h', h'.IsKeyIter s.heap.objs.size d 0 es.size ep → (∀ b u, s.heap.get? b = some u → h'.get? b = some u) → Q (.ref s.heap.objs.size) { s with heap := h' }) : wpAny (model prog w) A (pyIter (.ref d)) Q E s := by
  have hT := xd_type ho hc
  refine wpAny_pyIter_slot hT PySem.F.slot_dict_iter (wpAny_call_entry PySem.F.slot_dict_iter hT PySem.F.entry_dict_iter ?_ (PySem.F.args_dict_iter_1 _))
  skip; unfold Builtin.«dict.__iter__»
  refine wpAny_bind ?_
  skip; unfold Builtin.Dict.dictSlotNone
  refine wpAny_bind (wpAny_notOrdered_dict hT ?_); show wpAny _ _ (pure (Value.ref d)) _ _ s
  refine wpAny_pure ?_; show wpAny _ _ (Builtin.Dict.showsAll d >>= _) _ _ s
  unfold Builtin.Dict.showsAll; rw [if_neg (by rw [hd]; decide)]
  refine wpAny_bind (wpAny_pure (wpAny_bind (wpAny_dictEntries ho hdat (wpAny_bind (wpAny_dictEpoch ho hdat ?_)))))
  refine wpAny_bind (wpAny_newObj_type (wpAny_pure ⟨_, rfl, "dict_keyiterator", _, ⟨_, Heap.get?_push_size _ rfl, rfl⟩, PySem.F.slot_dict_keyiterator_next.lookup, ?_⟩))
  exact hQ _ ⟨_, Heap.get?_push_size _ rfl, rfl, rfl⟩ fun b u e => Heap.get?_push_of_some _ e
theorem ki_item {Q : Option Value → Shared → Prop} (hit : s.heap.IsKeyIter it d i es.size ep) (ho : s.heap.get? d = some o) (hc : o.ExactDict) (hdat : o.data = .dict es ep) (hlt : i < es.size)
    (hQ : ∀ h', h'.IsKeyIter it d (i + 1) es.size ep → Heap.SameBut it s.heap h' → Q (some es[i].key) { s with heap := h' }) : wpAny (model prog w) A (pyNext (.ref it)) Q E s := by
  obtain ⟨oi, hoi, hci, hdi⟩ := id hit
  unfold pyNext
  refine wpAny_bind (wpAny_attempt (wpAny_callSpecial?_slot (name := Str.ofString "__next__") hit.typeIs PySem.F.slot_dict_keyiterator_next (wpAny_call_entry PySem.F.slot_dict_keyiterator_next hit.typeIs PySem.F.entry_dict_keyiterator_next ?_ (PySem.F.args_dict_keyiterator_next_1 _))))
  refine wpAny_bind (wpAny_pure (wpAny_bind (wpAny_bind ?_)))
  first | refine wpAny_bind (wpAny_typeNameOfWhole_keyiter hit.typeIs (wpAny_pure (wpAny_bind (wpAny_fieldsOf hoi hdi ?_)))) | refine wpAny_bind (wpAny_typeNameOf_keyiter hit.typeIs (wpAny_pure (wpAny_bind (wpAny_fieldsOf hoi hdi ?_))))
  simp only [show Builtin.Dict_items.ownsTuple "dict_keyiterator" = false by decide, Bool.false_eq_true, if_false]
  show wpAny _ _ (if (Value.ref d == Value.none) = true then _ else _) _ _ s; rw [if_neg (show ¬ ((Value.ref d == Value.none) = true) by exact Bool.false_ne_true)]
  refine wpAny_bind (wpAny_pure (wpAny_bind (wpAny_dictEntries ho hdat ?_))); rw [if_neg (by simp)]
  refine wpAny_bind (wpAny_pure (wpAny_bind (wpAny_dictEpoch ho hdat ?_))); rw [if_neg (by simp)]
  refine wpAny_pure ?_
  simp only [show ¬ ((i : Int) < 0) by omega, if_false, Int.toNat_natCast, Array.getElem?_eq_getElem hlt]
  refine wpAny_bind ?_
  first | refine wpAny_bind (wpAny_typeNameOfWhole_keyiter hit.typeIs (wpAny_pure (wpAny_bind (wpAny_isOneOf_keyiter hit.typeIs ?_)))) | refine wpAny_bind (wpAny_typeNameOf_keyiter hit.typeIs (wpAny_pure (wpAny_bind (wpAny_isOneOf_keyiter hit.typeIs ?_))))
  show wpAny _ _ (setField (.ref it) 1 (rawInt ((i : Int) + 1)) >>= _) _ _ s; refine wpAny_bind (wpAny_setField hoi hdi (by simp) ?_)
  have hit' : (s.heap.update it (Obj.mapFields (·.setIfInBounds 1 (rawInt ((i : Int) + 1))))).IsKeyIter it d (i + 1) es.size ep :=
    ⟨_, Heap.get?_update_self _ hoi (Obj.isFreed_of_fields (Obj.data_mapFields hdi _)), (Obj.cls_mapFields ..).trans hci, (Obj.data_mapFields hdi _).trans (by simp [rawInt])⟩
  refine wpAny_bind (wpAny_holding (wpAny_bind (wpAny_isOneOf_keyiter (s := { s with heap := s.heap.update it (Obj.mapFields (·.setIfInBounds 1 (rawInt ((i : Int) + 1)))) }) hit'.typeIs ?_)))
  skip; show wpAny _ _ (pure es[i].key) _ _ _
  exact wpAny_pure (wpAny_pure ⟨_, rfl, wpAny_pure (hQ _ hit' (Heap.SameBut.update ..))⟩)
theorem ki_end {Q : Option Value → Shared → Prop} (hh : A.handled = none) (hit : s.heap.IsKeyIter it d i es.size ep) (ho : s.heap.get? d = some o) (hc : o.ExactDict) (hdat : o.data = .dict es ep) (hge : es.size ≤ i)
    (hQ : ∀ h2, Heap.ExtBut it s.heap h2 → Q none { s with heap := h2 }) : wpAny (model prog w) A (pyNext (.ref it)) Q E s := by
  obtain ⟨oi, hoi, hci, hdi⟩ := id hit
  unfold pyNext
  refine wpAny_bind (wpAny_attempt (wpAny_callSpecial?_slot (name := Str.ofString "__next__") hit.typeIs PySem.F.slot_dict_keyiterator_next (wpAny_call_entry PySem.F.slot_dict_keyiterator_next hit.typeIs PySem.F.entry_dict_keyiterator_next ?_ (PySem.F.args_dict_keyiterator_next_1 _))))
  refine wpAny_bind (wpAny_pure (wpAny_bind (wpAny_bind ?_)))
  first | refine wpAny_bind (wpAny_typeNameOfWhole_keyiter hit.typeIs (wpAny_pure (wpAny_bind (wpAny_fieldsOf hoi hdi ?_)))) | refine wpAny_bind (wpAny_typeNameOf_keyiter hit.typeIs (wpAny_pure (wpAny_bind (wpAny_fieldsOf hoi hdi ?_))))
  simp only [show Builtin.Dict_items.ownsTuple "dict_keyiterator" = false by decide, Bool.false_eq_true, if_false]
  show wpAny _ _ (if (Value.ref d == Value.none) = true then _ else _) _ _ s; rw [if_neg (show ¬ ((Value.ref d == Value.none) = true) by exact Bool.false_ne_true)]
  refine wpAny_bind (wpAny_pure (wpAny_bind (wpAny_dictEntries ho hdat ?_))); rw [if_neg (by simp)]
  refine wpAny_bind (wpAny_pure (wpAny_bind (wpAny_dictEpoch ho hdat ?_))); rw [if_neg (by simp)]
  refine wpAny_pure ?_
  simp only [show ¬ ((i : Int) < 0) by omega, if_false, Int.toNat_natCast, Array.getElem?_eq_none hge]
  refine wpAny_bind ?_
  first | fail | refine wpAny_bind (wpAny_typeNameOfWhole_keyiter hit.typeIs (wpAny_pure ?_)) | refine wpAny_bind (wpAny_typeNameOf_keyiter hit.typeIs (wpAny_pure ?_))
  show wpAny _ _ (setField (.ref it) 0 .none >>= _) _ _ s; refine wpAny_bind (wpAny_setField hoi hdi (by simp) ?_)
  show wpAny _ _ (newExc (.type "StopIteration") [] >>= _) _ _ _; refine wpAny_bind ?_
  simp only [newExc, newTuple]
  refine wpAny_bind (wpAny_newObj_type (wpAny_bind (m := firstArgMember _ _) (wpAny_of_eq (a := Value.none) (by first | rfl | (simp only [firstArgMember]; rfl)) ?_)) (by size_fits))
  skip; refine wpAny_newObj_type ?_ (by size_fits)
  simp only [raiseNew]; refine wpAny_bind (wpAny_handled ?_)
  rw [show A.in1.handled = none from hh]; refine wpAny_bind (wpAny_pure (wpAny_throw ?_))
  refine wpAny_bind (wpAny_isInstance (T := "StopIteration") (b := true) ⟨_, Heap.get?_push_size _ rfl, rfl⟩ isSubtype_stop (wpAny_pure (hQ _ (((Heap.SameBut.update ..).extBut.push _).push _))))
theorem ki_self {Q : Value → Shared → Prop} {n : Nat} (hit : s.heap.IsKeyIter it d i n ep) (h : Q (.ref it) s) : wpAny (model prog w) A (pyIter (.ref it)) Q E s := by
  refine wpAny_pyIter_slot hit.typeIs PySem.F.slot_dict_keyiterator_iter (wpAny_call_entry PySem.F.slot_dict_keyiterator_iter hit.typeIs PySem.F.entry_dict_keyiterator_iter ?_ (PySem.F.args_dict_keyiterator_iter_1 _))
  exact wpAny_pure ⟨_, rfl, "dict_keyiterator", _, hit.typeIs, PySem.F.slot_dict_keyiterator_next.lookup, h⟩
end
theorem Paired.at {α β : Type} {F : α → β → Prop} {l₁ : List α} {l₂ : List β} (r : Paired F l₁ l₂) : ∀ (i : Nat) (a : α) (b : β), l₁[i]? = some a → l₂[i]? = some b → F a b := by
  induction r with
  | nil => intro i a b h; simp at h
  | cons x _ ih =>
    intro i a b h1 h2
    cases i with
    | zero => simp at h1 h2; subst h1 h2; exact x
    | succ i => exact ih i a b (by simpa using h1) (by simpa using h2)
theorem fz_t {P : Program} {w : World} {H : Hp} {h : Heap} {a : Addr} {o : Obj} {kvs : List (List Key × V)} (ok : HOk P w H h) (e : H a = some (.frz o (.dT kvs))) : h.get? a = some o ∧ o.ExactDict ∧ (a == sysModules) = false ∧ ∃ es ep, o.data = .dict es ep ∧ es.size = kvs.length ∧ ∀ (i : Nat) (hi : i < es.size), ∃ kv b, kvs[i]? = some kv ∧ es[i].key = .ref b ∧ H b = some (.tup (kv.1.map kV)) := by
  obtain ⟨h1, z, y, xs, rel, o', es, ep, g, c, dt, en, nd⟩ := (show ObjOk P w H h a (.frz o (.dT kvs)) from ok a _ e)
  rw [h1] at g
  cases g
  have l1 : es.size = xs.length := size_of_entries en
  have l2 : kvs.length = xs.length := Paired.length rel
  refine ⟨h1, c, y, es, ep, dt, by omega, fun i hi => ?_⟩
  have hk : i < kvs.length := by omega
  have hv : i < xs.length := by omega
  have q := Paired.at rel i kvs[i] xs[i] (List.getElem?_eq_getElem hk) (List.getElem?_eq_getElem hv)
  have en' := entry_at en i
  rw [Array.getElem?_eq_getElem hi, List.getElem?_eq_getElem hv] at en'
  injection en' with en'
  exact ⟨kvs[i], xs[i].2.1, List.getElem?_eq_getElem hk, by rw [en']; rfl, q.2.1⟩
inductive IsDc : HO → Prop
  | k (kvs : List (Key × V)) : IsDc (.dK kvs)
  | t (kvs : List (List Key × V)) : IsDc (.dT kvs)
theorem IsDc.obj {P : Program} {w : World} {H : Hp} {h : Heap} {a : Addr} {u : HO} (d : IsDc u) (ok : ObjOk P w H h a u) : ∃ o, h.get? a = some o := by
  cases d with
  | k kvs => obtain ⟨_, _, _, _, o, _, _, g, _⟩ := ok; exact ⟨o, g⟩
  | t kvs => obtain ⟨_, _, _, _, o, _, _, g, _⟩ := ok; exact ⟨o, g⟩
theorem Inv.frz {X : Cx} {pins : List (Addr × Obj)} {σ : St} {H : Hp} {s : Shared} {a : Addr} {u : HO} {o : Obj} (I : Inv X pins σ H s) (e : H a = some u) (d : IsDc u) (ho : s.heap.get? a = some o) : Inv X pins σ (upd H a (.frz o u)) s := by
  have ne : ∀ b v, H b = some v → v ≠ u → b ≠ a := fun b v h n z => by rw [z, e] at h; cases h; exact n rfl
  have keep : ∀ b v, H b = some v → v ≠ u → upd H a (.frz o u) b = some v := fun b v h n => by rw [upd_ne (ne b v h n)]; exact h
  refine I.un (h' := s.heap) (t' := s.toks) ⟨fun b o e n _ _ => e, fun b o e n _ _ => ⟨o.slots, e⟩, fun b o _ n _ => ?_, fun b o e _ => ⟨o, e⟩, fun b xs h => keep b _ h (by intro z; rw [← z] at d; cases d), fun b ob v h => keep b _ h (by intro z; rw [← z] at d; cases d), fun b qs h => ⟨#[], by rw [keep b _ h (by intro z; rw [← z] at d; cases d)]; simp⟩⟩ fun b v h => ?_
  · rw [upd_ne (fun z => by rw [z, e] at n; cases n)]
    exact n
  · have st : ∀ {v : HO}, ObjOk X.prog X.w H s.heap b v → ObjOk X.prog X.w (upd H a (.frz o u)) s.heap b v := fun x => x.stay (fun _ _ _ q => q) (fun c q => keep c _ q (by intro z; rw [← z] at d; cases d)) fun c xs q => keep c _ q (by intro z; rw [← z] at d; cases d)
    by_cases hb : b = a
    · subst hb
      rw [upd_same] at h
      cases h
      exact ⟨ho, st (I.hok b _ e)⟩
    · rw [upd_ne hb] at h
      exact st (I.hok b _ h)
def rFrz (x : V) (H : Hp) (Q : VK) : Prop := ∃ a u, x = .ref a ∧ H a = some u ∧ IsDc u ∧ ∀ o, Q x (upd H a (.frz o u))
def tFrz (t : TE) : TE := fun σ H Q => t σ H fun x H1 => rFrz x H1 Q
section
variable {X : Cx} {e : Expr} {t : TE}
theorem pe_frz (he : PE X e t) : PE X e (tFrz t) := by
  intro pins s σ H Q I h
  refine thn (he pins s σ H _ I h) fun v s1 ⟨x, H1, I1, r1, a, u, ex, hu, d, q⟩ => ?_
  subst ex
  obtain ⟨o, ho⟩ := d.obj (I1.hok a _ hu)
  exact ⟨.ref a, _, I1.frz hu d ho, r1, q o⟩
end
section
variable {K : PySem.W.Frag} {σ : St} {H : Hp} {Q : VK} {td ty tv t : TE} {p b : Addr}
theorem r_frz (q : t σ H fun x H1 => rFrz x H1 Q) : tFrz t σ H Q := q
theorem r_frzT {kvs : List (List Key × V)} (h : H p = some (.dT kvs)) (q : ∀ o H', H' p = some (.frz o (.dT kvs)) → But p H H' → Q (.ref p) H') : rFrz (.ref p) H Q := ⟨p, _, rfl, h, .t _, fun o => q o _ upd_same but_upd⟩
theorem r_dgetT {kvs : List (List Key × V)} {k : List Key} {v : V} (h : Rd H p (.dT kvs)) (hb : H b = some (.tup (k.map kV))) (e : valV kvs k = some v) (q : Q v H) : rDGet (.ref p) (.ref b) H Q := ⟨p, v, rfl, .inr ⟨kvs, k, b, h, rfl, hb, e.symm⟩, q⟩
theorem r_dputT {kvs : List (List Key × V)} {k : List Key} {v : V} {R : Hp → Prop} (h : H p = some (.dT kvs)) (hb : H b = some (.tup (k.map kV))) (hl : kvs.length < 1000000) (q : ∀ H', H' p = some (.dT (putK kvs k v)) → But p H H' → R H') : rDPut (.ref p) (.ref b) v H R :=
  ⟨p, _, rfl, DPut.t h hb (by rw [sizeLine_eq]; omega), q _ upd_same but_upd⟩
end
theorem xd_sub : isSubtype (.type "dict") (.type "dict") = pure true := by rw [isSubtype_type]; kernel_rfl
theorem kd_walks {prog : Program} {w : World} {A : Around} (hh : A.handled = none) (I d : Addr) (nd : d ≠ I) {o : Obj} {es : Array DictEntry} {ep : Nat} (hc : o.ExactDict) (hd : o.data = .dict es ep) :
    Walks prog w A I [I, d] [I] es.size (fun i v => (es[i]?).map (·.key) = some v) (fun i h => h.IsKeyIter I d i es.size ep ∧ h.get? d = some o) where
  sub := fun b hb => by rw [List.mem_singleton.mp hb]; simp
  frame := fun _ _ _ x hk => ⟨let ⟨u, e, r⟩ := x.1; ⟨u, hk I (by simp) u e, r⟩, hk d (by simp) _ x.2⟩
  item := fun i s Q E hi x (hQ) => by
    refine ki_item x.1 x.2 hc hd hi fun h' st' sb => ?_
    refine hQ _ h' s.toks ?_ ⟨st', (sb.2 d nd).trans x.2⟩ fun b u hb eu => sb.extBut b u (fun h => hb (by simp [h])) eu
    rw [Array.getElem?_eq_getElem hi]
    rfl
  done := fun s Q E x hQ => ki_end hh x.1 x.2 hc hd (Nat.le_refl _) fun h' he' => hQ h' s.toks fun b u hb eu => he' b u (fun h => hb (by simp [h])) eu
  self := fun _ _ _ _ x hQ => ki_self x.1 hQ
section
variable {prog : Program} {w : World} {A : Around} {E : Value → Shared → Prop} {s : Shared}
theorem kd_collect {d : Addr} {o : Obj} {es : Array DictEntry} {ep : Nat} {Q : List Value → Shared → Prop} (hh : A.handled = none) (lo : (d == sysModules) = false) (hS : s.heap.get? d = some o) (hc : o.ExactDict) (hd : o.data = .dict es ep) (hz : es.size ≤ sizeLine)
    (hQ : ∀ s' acc, Moved [] (fun a b => b = a) s s' → s.heap.objs.size < s'.heap.objs.size → ItemsOf (fun i v => (es[i]?).map (·.key) = some v) acc es.size → Q acc.toList s') : wpAny (model prog w) A (collect (.ref d)) Q E s := by
  have lS : d < s.heap.objs.size := Heap.lt_size hS
  have nd : s.heap.objs.size ≠ d := Nat.ne_of_gt lS
  unfold collect; refine wpAny_bind (wpAny_runValue (codeAny_builtin F.entry_proto_collect ?_)); rw [Around.under_plainId F.plain_proto_collect _]
  show wpAny _ A.in1 (newList [] >>= fun x => again (.builtin "list.__iadd__" ⟨[x, .ref d], []⟩)) _ _ s
  refine wpAny_bind (wpAny_newObj_type (wpAny_pure ⟨plainId_quiet F.plain_list_iadd _, codeAny_builtin F.entry_list_iadd ?_⟩)); rw [Around.under_plainId F.plain_list_iadd _]
  have d1 : (s.heap.push { cls := .type "list", data := .seq ([] : List Value).toArray }).get? d = some o := Heap.get?_push_of_some _ hS
  have S1 : (s.heap.push { cls := .type "list", data := .seq ([] : List Value).toArray }).get? s.heap.objs.size = some { cls := .type "list", data := .seq ([] : List Value).toArray } := Heap.get?_push_size _ rfl
  have same : Builtin.List.listSameRef (.ref s.heap.objs.size) (.ref d) = false := by simp [Builtin.List.listSameRef, nd]
  show wpAny _ A.in1 (Builtin.List.listExtendWith (.ref s.heap.objs.size) (.ref d) (.ref s.heap.objs.size)) _ _ _; unfold Builtin.List.listExtendWith
  refine wpAny_bind (wpAny_typeOf (T := "dict") ⟨_, d1, hc.1⟩ ?_)
  rw [if_neg (by rw [same]; decide)]
  refine wpAny_bind (ki_iter lo d1 hc hd fun h2 st2 k2 => wpAny_bind (wpAny_holding ?_))
  have n1 : (s.heap.push { cls := .type "list", data := .seq ([] : List Value).toArray }).objs.size = s.heap.objs.size + 1 := by rw [Heap.size_push]
  rw [show ({ s with heap := s.heap.push { cls := .type "list", data := .seq ([] : List Value).toArray } } : Shared).heap.objs.size = s.heap.objs.size + 1 from n1] at st2
  rw [n1]
  have d2 := k2 _ _ d1
  have S2 := k2 _ _ S1
  have te : Shared.TypeIs { s with heap := h2 } (.ref d) "dict" := ⟨_, d2, hc.1⟩
  unfold Builtin.List.listLengthHint; refine wpAny_bind (wpAny_specialOf (T := "dict") te PySem.F.slot_dict_len.lookup ?_)
  (generalize hid : ("dict.__len__" : String) = id0; (fail_if_success (clear hid id0)); wp_delta; rw [show splitId id0 = some ("dict", "__len__") from by subst hid; decide +kernel]; subst hid)
  refine wpAny_bind (wpAny_isInstance (T := "dict") (b := true) te xd_sub ?_)
  rw [if_neg (by decide)]; rw [if_pos (by decide +kernel)]
  refine wpAny_bind (wpAny_typeOf (T := "dict") te (wpAny_pure ?_))
  rw [if_pos (by decide +kernel)]
  refine wpAny_bind (wpAny_rule (wpAny_bind ?_))
  have S3 := Heap.get?_update_self (Obj.mapSeq (·.push Value.none)) S2 rfl
  show wpAny _ A.in1 (updateSeq s.heap.objs.size (·.push .none) >>= fun _ => updateSeq s.heap.objs.size (·.pop)) _ _ _; refine wpAny_bind (wpAny_updateSeq S2 rfl (wpAny_updateSeq S3 rfl ?_))
  have S4 := Heap.get?_update_self (Obj.mapSeq (·.pop)) S3 rfl
  have oth : ∀ b u, b ≠ s.heap.objs.size → h2.get? b = some u → ((h2.update s.heap.objs.size (Obj.mapSeq (·.push Value.none))).update s.heap.objs.size (Obj.mapSeq (·.pop))).get? b = some u :=
    fun b u nb e => (Heap.get?_update_other _ _ (Ne.symm nb)).trans ((Heap.get?_update_other _ _ (Ne.symm nb)).trans e)
  have neI : d ≠ s.heap.objs.size + 1 := Nat.ne_of_lt (Nat.lt_succ_of_lt lS)
  have W := (kd_walks (prog := prog) (w := w) (A := A.in1) hh (s.heap.objs.size + 1) d neI hc hd).toS
  have nS : s.heap.objs.size ∉ [s.heap.objs.size + 1, d] := by
    simp only [List.mem_cons, List.mem_nil_iff, or_false, not_or]
    exact ⟨Nat.ne_of_lt (Nat.lt_succ_self _), nd⟩
  refine wpAny_pure ⟨plainId_quiet F.plain_extend_loop _, codeAny_extend_loopS W hz _ nS _ es.size 0 _ _ _ rfl (Nat.zero_le _) ⟨?_, oth d _ nd.symm d2⟩ S4 (ItemsOf.nil _) fun s' acc' c' hm hS' hacc => wpAny_bind (wpAny_load hS' (wpAny_pure (hQ s' acc' ⟨fun b u _ e => ?_, hm.gens, hm.drawn, hm.os, hm.toks⟩ (Heap.lt_size hS') hacc)))⟩
  · obtain ⟨u, e, r⟩ := st2
    exact ⟨u, oth _ _ (Nat.ne_of_gt (Nat.lt_succ_self _)) e, r⟩
  · have lb := Heap.lt_size e
    refine hm.heap b u (fun q => ?_) (oth b u (Nat.ne_of_lt lb) (k2 _ _ (Heap.get?_push_of_some _ e)))
    skip; rcases List.mem_cons.mp q with q | q
    · exact Nat.ne_of_lt lb q
    · exact Nat.ne_of_lt (Nat.lt_succ_of_lt lb) (List.mem_singleton.mp q)
theorem kd_keys {es : Array DictEntry} {acc : Array Value} (h : ItemsOf (fun i v => (es[i]?).map (·.key) = some v) acc es.size) : acc.toList = es.toList.map (·.key) := by
  refine items_list (P := fun i v => (es[i]?).map (·.key) = some v) (by rw [List.length_map, Array.length_toList]; exact h) fun i v hv => ?_
  rw [List.getElem?_map, Array.getElem?_toList]
  exact hv
end
def del (H : Hp) (d : Addr) : Hp := fun b => if b = d then none else H b
theorem del_same {H : Hp} {d : Addr} : del H d d = none := if_pos rfl
theorem del_ne {H : Hp} {d b : Addr} (h : b ≠ d) : del H d b = H b := if_neg h
abbrev czO (oc : Obj) (d : Addr) : HO := .frz oc (.own d)
section
variable {P : Program} {w : World} {H H' : Hp} {h h' : Heap} {d : Addr} {oc : Obj} {fs : List Addr}
theorem HOk.del (ok : HOk P w H h) (hd : H d = some (czO oc d)) : HOk P w (del H d) h := fun b u e => by
  have nb : b ≠ d := fun z => by rw [z, del_same] at e; cases e
  rw [del_ne nb] at e
  refine (ok b u e).stay (fun _ _ _ q => q) (fun c q => ?_) fun c xs q => ?_
  · rw [del_ne (fun z => by rw [z, hd] at q; cases q)]; exact q
  · rw [del_ne (fun z => by rw [z, hd] at q; cases q)]; exact q
end
def CellH (H : Hp) (d : Addr) (v : V) : Prop := ∃ (oc : Obj) (u : Value), H d = some (czO oc d) ∧ oc.data = .cell (some u) ∧ RelV v u
theorem CellH.mono {H H' : Hp} {d : Addr} {v : V} (e : ExtT H H') (h : CellH H d v) : CellH H' d v := let ⟨oc, u, a, b⟩ := h; ⟨oc, u, e _ _ a rfl, b⟩
theorem CellH.but {H H' : Hp} {d r C dx : Addr} {fs : List (Str × V)} {v : V} (hr : H r = some (.ins C dx fs)) (e : But r H H') (h : CellH H d v) : CellH H' d v := let ⟨oc, u, a, b⟩ := h; ⟨oc, u, e _ _ (fun z => by rw [z, hr] at a; cases a) a, b⟩
def LamHC (H : Hp) (f : Addr) (qual : Str) (params : Arguments) (lb : Expr) (sc : Scope) (y : Str) (d : Addr) : Prop := ∃ (c : Addr) (pm ctv : Value), H f = some (.frz (PySem.W.kla_obj "<lambda>" qual params lb sc [(y, d)] pm c ctv) (.own f)) ∧ CodeH H c qual
section
variable {H H' : Hp} {f d : Addr} {qual y : Str} {params : Arguments} {lb : Expr} {sc : Scope}
theorem LamHC.mono (e : ExtT H H') (h : LamHC H f qual params lb sc y d) : LamHC H' f qual params lb sc y d := let ⟨c, pm, ctv, h1, h2⟩ := h; ⟨c, pm, ctv, e _ _ h1 rfl, h2.mono e⟩
theorem LamHC.but {r C dx : Addr} {fs : List (Str × V)} (hr : H r = some (.ins C dx fs)) (e : But r H H') (h : LamHC H f qual params lb sc y d) : LamHC H' f qual params lb sc y d := by
  obtain ⟨c, pm, ctv, h1, oc, vs, t, k, k2⟩ := h
  exact ⟨c, pm, ctv, e _ _ (fun z => by rw [z, hr] at h1; cases h1) h1, oc, vs, t, e _ _ (fun z => by rw [z, hr] at k; cases k) k, k2⟩
end
structure LamC1 (sc : Scope) (x y : Str) : Prop where
  kind : sc.kind = .function
  co : sc.isCoroutine = false
  gen : sc.isGenerator = false
  nc : ∀ z ∈ sc.names, z.2 ≠ .cell
  par : sc.names.lookup x = some .local
  fre : sc.names.lookup y = some .free
  only : ∀ z ∈ sc.names, z.2 = .free → z.1 = y
structure LamC2 (sc : Scope) (x y : Str) (rest : List (Str × NameKind)) : Prop where
  kind : sc.kind = .function
  co : sc.isCoroutine = false
  gen : sc.isGenerator = false
  names : sc.names = (x, .cell) :: rest
  nc : ∀ z ∈ rest, z.2 ≠ .cell
  ne : x ≠ y
  fre : sc.names.lookup y = some .free
  only : ∀ z ∈ sc.names, z.2 = .free → z.1 = y
abbrev LAC (α : Type) := List (Addr × Obj) → Addr → Addr → Shared → Addr → Hp → α
theorem But.tk {P : Addr} {H H' : Hp} {ps : Array Value} (hP : H P = some (.tbl ps)) (e : But P H H') : ExtT H H' := fun b o h n => e b o (fun z => by rw [z, hP] at h; cases h; cases n) h
theorem TabR.is {H : Hp} {P : Addr} {pos : Pos} {qual : Str} (h : TabR H P pos qual) : ∃ ps, H P = some (.tbl ps) := by
  rcases h with h | ⟨c, h, _⟩
  · exact ⟨_, h⟩
  · exact ⟨_, h⟩
theorem TabR.keep {H H' : Hp} {P R : Addr} {pos : Pos} {qual : Str} {ps : Array Value} (hR : H R = some (.tbl ps)) (n : P ≠ R) (e : But R H H') (h : TabR H P pos qual) : TabR H' P pos qual := by
  rcases h with h | ⟨c, h, k⟩
  · exact .inl (e _ _ n h)
  · exact .inr ⟨c, e _ _ n h, k.mono (But.tk hR e)⟩
theorem But.new {p x : Addr} {H H1 H2 H3 : Hp} (a : But p H H1) (n : H1 x = none) (e : Ext H1 H2) (b : But x H2 H3) : But p H H3 := fun y o ny h => b y o (fun z => by have := a y o ny h; rw [z, n] at this; cases this) (e y o (a y o ny h))
section
variable {prog : Program} {w : World} {A : Around} {E : Value → Shared → Prop} {s : Shared} {K : Type} [DecidableEq K] {knd : HeapKind prog w K}
theorem subDictT {pairs : List (Sem Value × Sem Value)} {Q : Addr → Shared → Prop} (hu : knd.room A) (hlen : pairs.length ≤ 15)
    (h : wpAny (model prog w) A (evalPairs pairs) (fun vs s₁ => ∃ (b : Addr) (v : Value) (ks : K), vs = [(.ref b, v)] ∧ knd.is s₁.heap ks b ∧ s₁.heap.DictOfH knd s.heap.objs.size [] ∧
      ∀ h' tk, h'.DictOfH knd s.heap.objs.size [(ks, b, v)] → Heap.SameBut s.heap.objs.size s₁.heap h' → Q s.heap.objs.size { s₁ with heap := h', toks := tk }) E { s with heap := s.heap.push { cls := .type "dict", data := .dict #[] } }) : wpAny (model prog w) A (subDict pairs) Q E s := by
  unfold subDict
  refine wpAny_bind (wpAny_alloc (wpAny_bind (wpAny_holding ?_)))
  rw [if_pos hlen]
  skip; refine wpAny_bind (wpAny_mono h (fun vs s₁ h₁ => ?_) fun _ _ e => e)
  obtain ⟨b, v, ks, rfl, hk, hm, hQ⟩ := h₁
  skip; refine wpAny_holding (wpAny_bind ?_)
  rw [List.forIn_cons]
  refine wpAny_bind (wpAny_bind (wpAny_dictSet_heap hu hk hm (fun h' hm' hs' => wpAny_pure ?_) (by simp)))
  dsimp only; rw [List.forIn_nil]
  exact wpAny_pure (wpAny_pure (wpAny_pure (hQ h' _ hm' hs')))
end
def rDispT (p : Addr) (ps : List (V × V)) (H : Hp) (Q : VK) : Prop := ∃ x y, ps = [(x, y)] ∧ H p = some (.dT []) ∧ ∃ b ks, x = .ref b ∧ H b = some (.tup (ks.map kV)) ∧ Q (.ref p) (upd H p (.dT [(ks, y)]))
def tDispT (tk tv : TE) : TE := fun σ H Q => ∀ p, H p = none → tPairs [(tk, tv)] σ (upd H p (.dT [])) fun ps H2 => rDispT p ps H2 Q
theorem pe_dispT {X : Cx} {pos : Pos} {k v : Expr} {tk tv : TE} {j : Nat} (hr : Room j X.A) (hk : PE X k tk) (hv : PE X v tv) : PE X (.Dict [some k] [v] pos) (tDispT tk tv) := by
  skip; intro pins s σ H Q I q
  have hn := I.hok.fresh (Nat.le_refl s.heap.objs.size)
  have I1 := I.laid (a := s.heap.objs.size) (o := .dT []) (h' := s.heap.push { cls := .type "dict", data := .dict #[] }) (t' := s.toks) (fun _ _ q => Heap.get?_push_of_some _ q) (Nat.le_refl _) (dt_empty s.heap I.big)
  have hp : PPs X pos [some k] [v] [(tk, tv)] := pps_cons hk hv pps_nil
  have un := hr.un
  have ln : (pairTrees [some k] [v] X.env pos).length = 1 := pairTrees_length [some k] [v] X.env pos rfl rfl
  rw [arm_eval_Dict, zip_pairTrees [some k] [v] X.env pos rfl rfl, dictDisplay_pairs _ (fun z => by rw [z] at ln; cases ln) (by rw [ln]; decide)]
  refine wpAny_bind (wpAny_standAt (wpAny_bind (subDictT (knd := tupleKind (mixKind X.prog X.w)) (show X.A.units < cLine by omega) (by rw [ln]; decide) (thn (hp pins _ σ _ _ I1 (q _ hn)) fun ws s2 ⟨ps, H2, I2, rel, x, y, ep, e, b, ks, ex, hb, q2⟩ => ?_))))
  · subst ep ex
    cases rel with
    | @cons _ w1 _ _ h1 h2 =>
      cases h2
      obtain ⟨u1, u2⟩ := w1
      cases (show u1 = Value.ref b from h1.1)
      obtain ⟨z, hd, xs, relx, dd⟩ := dt_of I2.hok e
      cases relx
      refine ⟨b, u2, ks, rfl, key_of I2.hok hb, dd, fun h' tk' dd' hs => wpAny_pure ⟨.ref s.heap.objs.size, _, ?_, rfl, q2⟩⟩
      obtain ⟨qo, es, ep, hq, h2, h3, h4, _, h5⟩ := dd'
      have nb : b ≠ s.heap.objs.size := ne_of hb e (fun z => nomatch z)
      exact d_write I2 (by rw [e]; exact True.intro) hs ⟨qo, hq⟩ ⟨by show 1 ≤ sizeLine; rw [sizeLine_eq]; decide, hd, [(ks, b, u2)], .cons ⟨rfl, by rw [upd_ne nb]; exact hb, h1.2⟩ .nil, qo, es, ep, hq, h2, h3, h4, h5⟩
section
variable {K : PySem.W.Frag} {σ : St} {H : Hp} {Q : VK} {p b : Addr}
theorem r_dispT {tk tv : TE} (q : ∀ p H', H p = none → H' p = some (.dT []) → Ext H H' → tk σ H' fun x H2 => tv σ H2 fun v H3 => rDispT p [(x, v)] H3 Q) : tDispT tk tv σ H Q := fun p n => q p _ n upd_same (ext_upd n)
theorem r_dispTK {v : V} {ks : List Key} (h : H p = some (.dT [])) (hb : H b = some (.tup (ks.map kV))) (q : ∀ H', H' p = some (.dT [(ks, v)]) → But p H H' → Q (.ref p) H') : rDispT p [(.ref b, v)] H Q := ⟨_, _, rfl, h, b, ks, rfl, hb, q _ upd_same but_upd⟩
end
inductive IntsE : List (Int × Value) → List Int → Prop
  | nil : IntsE [] []
  | cons {n : Int} {t : Tok} {es : List (Int × Value)} {ns : List Int} : IntsE es ns → IntsE ((hashInt n, .int n t) :: es) (n :: ns)
theorem IntsE.length {es : List (Int × Value)} {ns : List Int} (r : IntsE es ns) : es.length = ns.length := by
  induction r with
  | nil => rfl
  | cons _ ih => simp [ih]
theorem IntsE.elems {prog : Program} {w : World} {es : List (Int × Value)} {ns : List Int} (r : IntsE es ns) : ElemsOf (intKind prog w) es := by
  induction r with
  | nil => intro e he; cases he
  | @cons n t _ _ _ ih =>
    intro e he
    skip; rcases List.mem_cons.mp he with rfl | he
    · exact ⟨⟨n, intKind_is _ _ _ _, rfl⟩, rfl⟩
    · exact ih e he
theorem IntsE.ints {es : List (Int × Value)} {ns : List Int} (r : IntsE es ns) : IntsAre (es.map (·.2)) ns := by
  induction r with
  | nil => exact .nil
  | cons _ ih => exact .cons _ _ ih
theorem IntsE.find {prog : Program} {w : World} {x : Int} {es : List (Int × Value)} {ns : List Int} (r : IntsE es ns) : (x ∈ ns → ∃ j, es.findIdx? (fun e => (intKind prog w).is x e.2) = some j) ∧ (x ∉ ns → es.findIdx? (fun e => (intKind prog w).is x e.2) = none) := by
  have key : ∀ (n : Int) (t : Tok), (intKind prog w).is x (.int n t) = true ↔ n = x := fun n t => by
    constructor
    · intro h
      exact ((intKind prog w).inj _ _ _ h (intKind_is _ _ _ _)).symm
    · rintro rfl
      exact intKind_is _ _ _ _
  constructor
  · intro hx
    have : (es.findIdx? (fun e => (intKind prog w).is x e.2)).isSome = true := by
      rw [List.findIdx?_isSome, List.any_eq_true]
      induction r with
      | nil => cases hx
      | @cons n t es ns _ ih =>
        skip; rcases List.mem_cons.mp hx with rfl | hx
        · exact ⟨_, List.mem_cons_self, (key _ _).mpr rfl⟩
        · obtain ⟨e, h1, h2⟩ := ih hx
          exact ⟨e, List.mem_cons_of_mem _ h1, h2⟩
    exact Option.isSome_iff_exists.mp this
  · intro hx
    rw [List.findIdx?_eq_none_iff]
    induction r with
    | nil => intro e he; cases he
    | @cons n t es ns _ ih =>
      intro e he
      skip; rcases List.mem_cons.mp he with rfl | he
      · exact Bool.eq_false_iff.mpr fun z => hx (by rw [(key _ _).mp z]; exact List.mem_cons_self)
      · exact ih (fun z => hx (List.mem_cons_of_mem _ z)) e he
theorem IntsE.perm {us vs : List (Int × Value)} (p : us.Perm vs) : ∀ {ns : List Int}, IntsE vs ns → ∃ ms, IntsE us ms ∧ ms.Perm ns := by
  induction p with
  | nil => intro ns r; exact ⟨ns, r, List.Perm.refl _⟩
  | cons x _ ih =>
    intro ns r
    cases r with
    | cons r =>
      obtain ⟨m, a, b⟩ := ih r
      exact ⟨_, .cons a, b.cons _⟩
  | swap x y l =>
    intro ns r
    cases r with
    | cons r =>
      cases r with
      | cons r2 => exact ⟨_, .cons (.cons r2), List.Perm.swap _ _ _⟩
  | trans _ _ i1 i2 =>
    intro ns r
    obtain ⟨m, a, b⟩ := i2 r
    obtain ⟨m2, a2, b2⟩ := i1 a
    exact ⟨m2, a2, b2.trans b⟩
def SetInts (w : World) (h : Heap) (S : Addr) (ns : List Int) : Prop := ∃ es ep t, h.get? S = some (stObj es ep t) ∧ Tab t es ∧ t.led = (!byT w) ∧ t.plain = true ∧ IntsE es.toList ns ∧ ns.Nodup
theorem nd_few : ∀ {l m : List Int}, l.Nodup → (∀ x ∈ l, x ∈ m) → l.length ≤ m.length
  | [], m, _, _ => Nat.zero_le _
  | x :: r, m, nd, h => by
    obtain ⟨h1, h2⟩ := List.nodup_cons.mp nd
    have hx := h x List.mem_cons_self
    have := nd_few (l := r) (m := m.erase x) h2 fun y hy => (List.mem_erase_of_ne (show y ≠ x from fun e => h1 (by rw [← e]; exact hy))).mpr (h y (List.mem_cons_of_mem _ hy))
    rw [List.length_erase_of_mem hx] at this
    have := List.length_pos_of_mem hx
    rw [List.length_cons]
    omega
theorem tab_slot {t : SetTable} {es : Array (Int × Value)} (T : Tab t es) (h : Int) : ∃ r, t.freeSlot h = some ((pth t.mask h r).j, false) ∧ (pth t.mask h r).j ∉ t.place.toList ∧ (pth t.mask h r).j ≤ t.mask ∧ ∀ q, q < r → (pth t.mask h q).j ∈ t.place.toList := by
  obtain ⟨e0, e1, e2⟩ := T.free
  obtain ⟨N, m1, m2⟩ := meets T.mask h e1
  have hfu : 10 * SetTable.turns t.mask = 10 * (t.mask + 15) := rfl
  obtain ⟨r, r1, r2, r3⟩ := go_spec T.dum T.ris (fun _ => h + 1) h (10 * SetTable.turns t.mask) 0 ⟨N, Nat.zero_le _, by rw [hfu]; omega, by rw [m2]; exact e2⟩
  rcases r3 with ⟨n1, n2⟩ | ⟨_, n2, _⟩
  · refine ⟨r, ?_, n1, by have := pth_top t.mask h r; omega, fun q hq => (r2 q (Nat.zero_le _) hq).1⟩
    have pe : t.probe (fun _ => h + 1) h (t.probeStart h) = some (.empty (pth t.mask h r).j none) := n2
    unfold SetTable.freeSlot
    rw [pe]
    rfl
  · exact absurd n2 (by omega)
theorem tab_put {t : SetTable} {es : Array (Int × Value)} (T : Tab t es) (j : Nat) : t.put j = ({ t with place := SetTable.insertAt t.place (SetTable.below t.place j) j }, SetTable.below t.place j) := by
  unfold SetTable.put
  rw [T.dum]
  have : SetTable.has #[] j = false := by unfold SetTable.has; simp
  rw [this]
  simp [T.dum]
section
variable {prog : Program} {w : World} {A : Around} {E : Value → Shared → Prop} {s : Shared}
theorem add_int {S : Addr} {es : Array (Int × Value)} {ep : Nat} {t : SetTable} {x : Int} {tx : Tok} {ns : List Int} {Q : Bool → Shared → Prop} (hS : s.heap.get? S = some (stObj es ep t)) (T : Tab t es) (hp : t.plain = true) (r : IntsE es.toList ns) (hb : es.size < 60)
    (h1 : x ∈ ns → Q false s)
    (h2 : x ∉ ns → ∀ h' es' t' ep' ns', Heap.SameBut S s.heap h' → h'.get? S = some (stObj es' ep' t') → Tab t' es' → t'.led = t.led → t'.plain = true → IntsE es'.toList ns' → ns'.Perm (x :: ns) → Q true { s with heap := h' }) :
    wpAny (model prog w) A (setAddHashed S (.int x tx) ((intKind prog w).hash x)) Q E s := by
  have hsc : (Value.int x tx).scannable = true := rfl
  have hk : (intKind prog w).hash x = hashInt x := rfl
  skip; unfold setAddHashed setAddHashedIn
  refine wpAny_holding (wpAny_bind (wpAny_setState_of hS rfl T.fits ?_))
  dsimp only
  rw [byScan_of hsc (by unfold scanBound; omega) (r.elems (prog := prog) (w := w)), if_pos rfl]
  unfold setAddByScan
  refine wpAny_bind (wpAny_bind (wpAny_rule (wpAny_bind (wpAny_setScan_of (intKind_is _ _ _ _) hS rfl T.fits r.elems ?_))))
  by_cases hx : x ∈ ns
  · obtain ⟨j, hj⟩ := (r.find (prog := prog) (w := w)).1 hx
    rw [hj]
    dsimp only
    exact wpAny_pure (wpAny_pure (h1 hx))
  rw [(r.find (prog := prog) (w := w)).2 hx]
  dsimp only
  obtain ⟨rr, f1, n1, n2, n3⟩ := tab_slot T ((intKind prog w).hash x)
  have ip := insert_perm es (SetTable.below t.place (pth t.mask ((intKind prog w).hash x) rr).j) ((intKind prog w).hash x, Value.int x tx)
  have isz : (SetTable.insertAt es (SetTable.below t.place (pth t.mask ((intKind prog w).hash x) rr).j) ((intKind prog w).hash x, Value.int x tx)).size = es.size + 1 := by rw [← Array.length_toList, ip.length_eq, List.length_cons, Array.length_toList]
  have pp := insert_perm t.place (SetTable.below t.place (pth t.mask ((intKind prog w).hash x) rr).j) (pth t.mask ((intKind prog w).hash x) rr).j
  have psz : (SetTable.insertAt t.place (SetTable.below t.place (pth t.mask ((intKind prog w).hash x) rr).j) (pth t.mask ((intKind prog w).hash x) rr).j).size = es.size + 1 := by rw [← Array.length_toList, pp.length_eq, List.length_cons, Array.length_toList, T.size]
  have fit : ({ t with place := SetTable.insertAt t.place (SetTable.below t.place (pth t.mask ((intKind prog w).hash x) rr).j) (pth t.mask ((intKind prog w).hash x) rr).j } : SetTable).fits (es.size + 1) = true := by
    have := T.room
    unfold SetTable.fits SetTable.fill
    show ((SetTable.insertAt t.place _ _).size == _ && decide ((SetTable.insertAt t.place _ _).size + t.dummies.size ≤ t.mask)) = true
    rw [psz, T.dum, Bool.and_eq_true, beq_iff_eq, decide_eq_true_iff]
    have z : (#[] : Array Nat).size = 0 := rfl
    refine ⟨rfl, ?_⟩
    rcases T.mask with h | h | h <;> omega
  have lay : layNew t es ((intKind prog w).hash x) (.int x tx) = (SetTable.insertAt es (SetTable.below t.place (pth t.mask ((intKind prog w).hash x) rr).j) ((intKind prog w).hash x, Value.int x tx), { t with place := SetTable.insertAt t.place (SetTable.below t.place (pth t.mask ((intKind prog w).hash x) rr).j) (pth t.mask ((intKind prog w).hash x) rr).j }, false, false) := by
    unfold layNew
    rw [f1]
    dsimp only
    rw [tab_put T]
    dsimp only
    unfold SetTable.orStandIn
    rw [isz, fit, if_pos rfl]
    rfl
  rw [lay]
  dsimp only
  refine wpAny_bind (wpAny_pure ?_)
  rw [if_pos hp, hashByValue_scannable 8 hsc]
  refine wpAny_bind (wpAny_pure ?_)
  rw [show plainKind (Value.int x tx) = true from rfl, if_pos rfl]
  refine wpAny_bind (wpAny_storeSet_of hS rfl ?_ (by rw [isz, sizeLine_eq]; omega))
  obtain ⟨t1, ht⟩ : ∃ t1 : SetTable, { t with place := SetTable.insertAt t.place (SetTable.below t.place (pth t.mask ((intKind prog w).hash x) rr).j) (pth t.mask ((intKind prog w).hash x) rr).j } = t1 := ⟨_, rfl⟩
  obtain ⟨es1, he⟩ : ∃ es1, SetTable.insertAt es (SetTable.below t.place (pth t.mask ((intKind prog w).hash x) rr).j) ((intKind prog w).hash x, Value.int x tx) = es1 := ⟨_, rfl⟩
  have pt := fun hr => put_tab (x := Value.int x tx) T n1 n2 n3 hr
  rw [ht] at fit pt
  rw [he] at ip isz pt
  rw [ht, he]
  have o1 : (s.heap.update S (Obj.putSet es1 t1)).get? S = some (stObj es1 (ep + 1) t1) := Heap.get?_update_self _ hS rfl
  have s1 : Heap.SameBut S s.heap (s.heap.update S (Obj.putSet es1 t1)) := Heap.SameBut.update ..
  have l1 : t1.led = t.led := by rw [← ht]
  have p1 : t1.plain = true := by rw [← ht]; exact hp
  have tf : t1.tooFull = decide ((es.size + 1) * 5 ≥ t.mask * 3) := by
    rw [← ht]
    unfold SetTable.tooFull SetTable.fill
    show decide (((SetTable.insertAt t.place _ _).size + t.dummies.size) * 5 ≥ t.mask * 3) = _
    rw [psz, T.dum]
    rfl
  obtain ⟨ns1, r1, pm1⟩ := IntsE.perm ip (.cons r)
  by_cases full : (es.size + 1) * 5 ≥ t.mask * 3
  · rw [tf, decide_eq_true full, if_pos (by decide)]
    obtain ⟨m', hm', wn, rm⟩ : ∃ m', Msk m' ∧ SetTable.sizeAbove (SetTable.grown (es.size + 1)) = m' + 1 ∧ (es.size + 1) * 5 < m' * 3 := by
      have := T.room
      rcases T.mask with h | h | h
      · have hn : es.size = 4 := by omega
        exact ⟨31, .inr (.inl rfl), by rw [hn]; decide +kernel, by omega⟩
      · have hn : es.size = 18 := by omega
        exact ⟨127, .inr (.inr rfl), by rw [hn]; decide +kernel, by omega⟩
      · omega
    rw [isz]
    obtain ⟨t2, ord, q1, q2, q3, q4, q5, q6, q7⟩ := relaid_of (t := t1) (es := es1) hm' wn (by rw [isz]; exact rm)
    have rel : relayAll t1 es1 (SetTable.grown (es.size + 1)) = (ord.filterMap (es1[·]?), t2, false) := by
      unfold relayAll
      rw [q1]
      dsimp only
      have c1 : coversAll ord es1.size = true := by unfold coversAll; rw [List.isPerm_iff]; exact q7
      rw [c1, q4.fits, if_pos (by decide)]
    rw [rel]
    dsimp only
    refine wpAny_bind (wpAny_pure ?_)
    refine wpAny_bind (wpAny_storeSet_of o1 rfl ?_ (by rw [q2, isz, sizeLine_eq]; omega))
    obtain ⟨ns2, r2, pm2⟩ := IntsE.perm q3 r1
    exact wpAny_pure (wpAny_pure (h2 hx _ _ t2 _ ns2 (s1.trans (Heap.SameBut.update ..)) (Heap.get?_update_self _ o1 rfl) q4 (q5.trans l1) (q6.trans p1) r2 (pm2.trans pm1)))
  · rw [tf, decide_eq_false full, if_neg (by decide)]
    exact wpAny_pure (wpAny_pure (h2 hx _ _ t1 _ ns1 s1 o1 (pt (by omega)) l1 p1 r1 pm1))
end
section
variable {w : World} {prog : Program} {A : Around}
variable {R : Result → Shared → Prop} {I : Addr} {fp wr : List Addr} {G : Array GenState → Array GenState → Prop} {n : Nat} {P : Nat → Value → Prop} {St : Nat → Shared → Prop}
theorem set_loopI (W : WalksS prog w A.in1 I fp wr G n P St) (S : Addr) (hSf : S ∉ fp) (ns ms : List Int) (hn : ns.length = n) (hm0 : ∀ n ∈ ns, n ∈ ms) (hb : ms.length ≤ 50) (hval : ∀ i v, P i v → ∃ t, v = .int (ns.getD i 0) t) :
    ∀ (k i : Nat) (s : Shared) (ks : List Int), n - i = k → i ≤ n → St i s → SetInts w s.heap S ks → (∀ n, n ∈ ks ↔ n ∈ ns.take i) →
      (∀ s' ks', Moved (S :: wr) G s s' → SetInts w s'.heap S ks' → (∀ n, n ∈ ks' ↔ n ∈ ns) → R (.ok (.ret .none)) s') →
      codeAny (model prog w) A (Code.builtin "set.update.loop" ⟨[.ref S, .ref I], []⟩) R s := by
  skip; have hSw : S ∉ wr := fun h => hSf (W.sub _ h)
  have sub2 : ∀ b ∈ wr, b ∈ S :: wr := fun b hb => List.mem_cons_of_mem _ hb
  intro k
  induction k with
  | zero =>
    intro i s ks hk hi hst hS hM hR
    obtain rfl : i = n := by omega
    refine codeAny_builtin PyProof.Rows.F.entry_set_update_loop ?_; rw [Around.under_plainId PyProof.Rows.F.plain_set_update_loop _]
    show wpAny _ A.in1 (pyNext (.ref I) >>= _) _ _ s; refine wpAny_bind (W.done s _ _ hst fun s' hm => ?_)
    obtain ⟨es, ep, t, g, r⟩ := hS
    exact wpAny_pure (hR s' ks (hm.mono sub2) ⟨es, ep, t, hm.heap S _ hSw g, r⟩ (by rw [← hn, List.take_length] at hM; exact hM))
  | succ k ih =>
    intro i s ks hk hi hst hS hM hR
    have hlt : i < n := by omega
    refine codeAny_builtin PyProof.Rows.F.entry_set_update_loop ?_; rw [Around.under_plainId PyProof.Rows.F.plain_set_update_loop _]
    show wpAny _ A.in1 (pyNext (.ref I) >>= _) _ _ s; refine wpAny_bind (W.item i s _ _ hlt hst fun v s' hP hst' hm => ?_)
    obtain ⟨tt, rfl⟩ := hval i v hP
    obtain ⟨es, ep, t, g, T, l, p, r, nd⟩ := hS
    have g' := hm.heap S _ hSw g
    have rl := r.length
    rw [Array.length_toList] at rl
    have tk : ns.take (i + 1) = ns.take i ++ [ns.getD i 0] := by
      rw [List.take_add_one, List.getD_eq_getElem?_getD, List.getElem?_eq_getElem (by omega)]
      rfl
    have few : ks.length ≤ 50 := Nat.le_trans (nd_few nd fun x hx => hm0 x (List.mem_of_mem_take ((hM x).mp hx))) hb
    show wpAny _ A.in1 (holding [Value.int (ns.getD i 0) tt] (setAdd S (.int (ns.getD i 0) tt)) >>= _) _ _ s'
    refine wpAny_bind (wpAny_holding ?_); unfold setAdd; refine wpAny_holding ?_
    refine wpAny_bind ((intKind prog w).pyHash (k := ns.getD i 0) (intKind_is _ _ _ _) ?_)
    have ht' : s'.toks ≤ s'.toks + 1 := by omega
    refine add_int (s := { s' with toks := s'.toks + 1 }) g' T p r (by omega) (fun hin => ?_) (fun hno h' es' t' ep' ks' sb g2 T2 l2 p2 r2 pm => ?_)
    · refine wpAny_pure ⟨plainId_quiet PyProof.Rows.F.plain_set_update_loop _, ih (i + 1) _ ks (by omega) hlt (W.frame _ s' _ _ hst' ht' fun b hb o e => e) ⟨es, ep, t, g', T, l, p, r, nd⟩ (fun x => ?_) fun s'' ks'' hm'' hS'' hM'' => ?_⟩
      · rw [tk, List.mem_append, List.mem_singleton, hM]
        exact ⟨.inl, fun z => z.elim id fun e => by rw [e, ← hM]; exact hin⟩
      · exact hR s'' ks'' (Moved.trans W.gtrans ((hm.mono sub2).then_heap ht' fun b o hb e => e) hm'') hS'' hM''
    · have sbk : ∀ b o, b ≠ S → s'.heap.get? b = some o → h'.get? b = some o := fun b o z e => by rw [sb.2 b z]; exact e
      refine wpAny_pure ⟨plainId_quiet PyProof.Rows.F.plain_set_update_loop _, ih (i + 1) _ ks' (by omega) hlt (W.frame _ s' _ _ hst' ht' fun b hb o e => sbk b o (fun z : b = S => hSf (by rw [← z]; exact hb)) e) ⟨es', ep', t', g2, T2, l2.trans l, p2, r2, pm.nodup_iff.mpr (List.nodup_cons.mpr ⟨hno, nd⟩)⟩ (fun x => ?_) fun s'' ks'' hm'' hS'' hM'' => ?_⟩
      · rw [tk, List.mem_append, List.mem_singleton, pm.mem_iff, List.mem_cons, hM]
        exact ⟨fun z => z.symm, fun z => z.symm⟩
      · refine hR s'' ks'' (Moved.trans W.gtrans ((hm.mono sub2).then_heap ht' fun b o hb e => ?_) hm'') hS'' hM''
        exact sbk b o (fun z => hb (by rw [z]; exact List.mem_cons_self)) e
end
section
variable {prog : Program} {w : World} {A : Around} {E : Value → Shared → Prop} {s : Shared}
set_option maxHeartbeats 8000000 in
theorem call_setI {l : Addr} {items : Array Value} {ns ms : List Int} {Q : Value → Shared → Prop} (hh : A.handled = none) (hl : s.heap.IsTuple l items) (hz : ns.length = items.size) (hi : ∀ (i : Nat) (v : Value), items[i]? = some v → ∃ t, v = .int (ns.getD i 0) t) (hm0 : ∀ n ∈ ns, n ∈ ms) (hb : ms.length ≤ 50)
    (h : ∀ (h' : Heap) (tk : Nat) (ks : List Int), SetInts w h' s.heap.objs.size ks → (∀ n, n ∈ ks ↔ n ∈ ns) → (∀ b o, b < s.heap.objs.size → s.heap.get? b = some o → h'.get? b = some o) → Q (.ref s.heap.objs.size) { s with heap := h', toks := tk }) :
    wpAny (model prog w) A (call (Value.type "set") [.ref l]) Q E s := by
  obtain ⟨c, tl, hmro⟩ := PySem.F.called_set.mro
  have hmade := PySem.F.called_set.made
  have hsub := PySem.F.called_set.sub
  refine wpAny_call (codeAny_of_tree ?_); show wpAny _ _ (callAny (.type "set") _) _ _ _; refine wpAny_pure ⟨Code.quiet_builtin _ (by decide +kernel), codeAny_builtin PySem.F.entry_type_call ?_⟩
  skip; rw [Around.under_plain (weight_type_call_type "set" [.ref l] []) rfl]
  have h1 := PySem.F.called_set.notType
  have h2 := PySem.F.called_set.canCreate
  have hct := PySem.F.typeCall_set_1 (.ref l)
  skip; repeat (any_goals (first | assumption | wp_step))
  refine codeAny_mono (set_newB (.ref l) (E := E) (QN := fun obj s₁ => obj = .ref s.heap.objs.size ∧ s₁ = { s with heap := s.heap.push (newSet (!byT w)) }) ⟨rfl, rfl⟩) fun r s₁ hr => ?_
  cases r with
  | error e => exact hr
  | ok fl =>
    cases fl with
    | ret obj =>
      obtain ⟨rfl, rfl⟩ := hr
      have hS : (s.heap.push (newSet (!byT w))).get? s.heap.objs.size = some (newSet (!byT w)) := Heap.get?_push_size _ rfl
      have hT : Shared.TypeIs { s with heap := s.heap.push (newSet (!byT w)) } (.ref s.heap.objs.size) "set" := ⟨_, hS, rfl⟩
      have hli := PySem.F.called_set.init.lookup
      have hbi := PySem.F.called_set.init.bind (.ref s.heap.objs.size)
      skip; repeat (any_goals (first | assumption | wp_step))
      refine codeAny_mono (codeAny_call_builtin (R := wants (fun r s₂ => r = .none ∧ ∃ h' tk ks, s₂ = { s with heap := h', toks := tk } ∧ SetInts w h' s.heap.objs.size ks ∧ (∀ n, n ∈ ks ↔ n ∈ ns) ∧ (∀ b o, b < s.heap.objs.size → s.heap.get? b = some o → h'.get? b = some o)) E) PySem.F.called_set.init.plain PySem.F.entry_set_init (check_set_init_1 hT ?_)) fun r₂ s₂ hr₂ => ?_
      · obtain ⟨⟨ocls, odict, odata, oslots⟩, hol, hcl, nl, hdl⟩ := hl
        replace hcl : ocls = .type "tuple" := hcl
        replace hdl : odata = .seq items nl := hdl
        subst hcl hdl
        have hol' : (s.heap.push (newSet (!byT w))).get? l = some { cls := .type "tuple", dict := odict, data := .seq items nl, slots := oslots } := Heap.get?_push_of_some _ hol
        have hsls := tup_noset
        have hslf := tup_nofset
        skip; have hne : (Value.type "tuple" == Value.type "dict") = false := by decide
        have hl1 : (s.heap.push (newSet (!byT w))).IsTuple l items := ⟨_, hol', rfl, nl, rfl⟩
        unfold Builtin.«set.__init__» noKeywords Builtin.Frozenset.updateFrom; generalize hPI : pyIter = PI; wp_walk; subst hPI
        refine wpAny_pyIter_tuple hl1 (wpAny_bind (wpAny_runValue ?_))
        skip; have hlS : l < s.heap.objs.size := Heap.lt_size hol
        have hh3 : A.in1.in1.in1.handled = none := hh
        have hneI : l ≠ (s.heap.push (newSet (!byT w))).objs.size := by rw [Heap.size_push]; exact Nat.ne_of_lt (Nat.lt_succ_of_lt hlS)
        have hSf : s.heap.objs.size ∉ [(s.heap.push (newSet (!byT w))).objs.size, l] := by
          rw [Heap.size_push]; simp only [List.mem_cons, List.mem_nil_iff, or_false, not_or]
          skip; exact ⟨Nat.ne_of_lt (Nat.lt_succ_self _), Nat.ne_of_gt hlS⟩
        refine set_loopI ((Walks.tuple hh3 _ l hneI items).toS) s.heap.objs.size hSf ns ms hz hm0 hb hi (items.size - 0) 0 _ [] (by omega) (Nat.zero_le _) ⟨⟨_, Heap.get?_push_size _ rfl, rfl, rfl⟩, ⟨_, Heap.get?_push_of_some _ hol', rfl, nl, rfl⟩⟩ ?hS0 (fun n => by simp) ?hR
        case hS0 => exact ⟨#[], 0, _, Heap.get?_push_of_some _ hS, ⟨.inl rfl, rfl, List.Pairwise.nil, rfl, by show 0 * 5 < 7 * 3; decide, fun j hj => by simp [SetTable.fresh] at hj, fun i hi => by simp at hi⟩, rfl, rfl, .nil, List.nodup_nil⟩
        case hR =>
          intro s' ks' hm hS' hmem
          obtain ⟨h', g', d', t', o'⟩ := s'
          skip; have eg : g' = s.gens := hm.gens
          skip; have ed : d' = s.drawn := hm.drawn
          have eo : o' = s.os := hm.os
          subst eg ed eo
          show wpAny _ _ _ _ _ _; refine wpAny_pure ?_; show wpAny _ _ (ret Value.none) _ _ _
          refine wpAny_pure ⟨rfl, h', t', ks', rfl, hS', hmem, fun b o hb e => ?_⟩
          have hb2 : b ≠ (s.heap.push (newSet (!byT w))).objs.size := by rw [Heap.size_push]; exact Nat.ne_of_lt (Nat.lt_succ_of_lt hb)
          refine hm.heap b o ?_ (Heap.get?_push_of_some _ (Heap.get?_push_of_some _ e))
          simp only [List.mem_cons, List.mem_nil_iff, or_false, not_or]
          exact ⟨Nat.ne_of_lt hb, hb2⟩
      · cases r₂ with
        | error e => exact hr₂
        | ok fl₂ =>
          cases fl₂ with
          | ret r =>
            skip; obtain ⟨rfl, h', tk, ks, rfl, hS', hmem, hk'⟩ := hr₂
            skip; repeat (any_goals (first | assumption | wp_step))
            exact h _ _ _ hS' hmem hk'
          | _ => exact hr₂.elim
    | _ => exact hr.elim
end
section
variable {X : Cx}
def rSortInts (K : PySem.W.Frag) : List V → Hp → VK → Prop := fun xs H Q => ∃ (p : Addr) (ns ms : List Int), xs = [.ref p] ∧ H p = some (.tup (ns.map V.int)) ∧ (∀ n ∈ ns, n ∈ ms) ∧ ms.length ≤ 50 ∧ ∀ l (ks : List Int), H l = none → ks.Pairwise (· < ·) → (∀ k, k ∈ ks ↔ k ∈ ns) → Q (.ref l) (upd H l (.lst (ks.map V.int)))
theorem strict_ints : ∀ {ks : List Int}, ks.Nodup → ks.Pairwise (· ≤ ·) → ks.Pairwise (· < ·) := fun n p => (p.and n).imp fun {a b} h => by have := h.1; have := h.2; omega
theorem pe_sortInts {a : Expr} {ta : TA} {p p' pos pos' : Pos} (hc : X.calm = true) (hg : Gl X "sorted") (hm : X.mg "sorted" = none) (hg2 : Gl X "set") (hm2 : X.mg "set" = none) (ha : PA X [a] ta) (hs : starEach [a] X.env = [(false, eval a X.env)] := by rfl)
    (ht : starEach [.Call (.Name "set" p') [a] [] pos'] X.env = [(false, eval (.Call (.Name "set" p') [a] [] pos') X.env)] := by rfl) :
    PE X (.Call (.Name "sorted" p) [.Call (.Name "set" p') [a] [] pos'] [] pos) (tCB (rSortInts X.K) ta) := by
  intro pins s σ H Q I h
  refine wpAny_Call_Name_kw (ld_blt I hg hm PyProof.Rows.boot_sorted (PyProof.Rows.callWith_builtin1 ?_ ht rfl) (by decide) (by decide))
  rw [ht]
  show wpAny _ _ (spliced ((false, eval (.Call (.Name "set" p') [a] [] pos') X.env) :: backTo pos [])) _ _ s
  refine Calls.spliced_cons (wpAny_Call_Name_kw (ld_blt I hg2 hm2 boot_set (PyProof.Rows.callWith_type1 (thn (ha pos' pins s σ H _ I h) fun us s1 ⟨vs, H1, I1, r1, q1⟩ => ?_) hs rfl) (by decide) (by decide)))
  obtain ⟨p1, ns, ms, e, hx, hin, hz, q⟩ := q1
  subst e
  obtain ⟨u, rfl, ru⟩ := vals1 r1
  cases ru
  obtain ⟨_, its, ri, pl, _⟩ := (show ObjOk X.prog X.w H1 s1.heap p1 (.tup (ns.map V.int)) from I1.hok p1 _ hx)
  have hl := ri.length
  rw [List.length_map] at hl
  refine call_setI (I1.ok.hd hc) pl (by rw [List.size_toArray]; exact hl) (fun i v hv => ?_) hin hz fun h' tk ks hS hmem hk => Calls.spliced_nil ?_
  · exact IntsAre.int_at (intsAre_of ri) i v (by simpa using hv)
  obtain ⟨es, ep, t, g, T, hled, hpl, rE, nd⟩ := hS
  have few := nd_few nd fun x hx => hin x ((hmem x).mp hx)
  have rl := rE.length
  rw [Array.length_toList] at rl
  refine st_sorted (s := { s1 with heap := h', toks := tk }) (I1.ok.hd hc) g (ris_rise T.fits hpl T.ris T.size) hled (by omega) rE.ints fun s' g' l out ex ns' hk2 hlt ho hI hp hw => ?_
  have kk : ∀ b u, s1.heap.get? b = some u → g'.get? b = some u := fun b u e => hk2 b u (hk b u (Heap.lt_size e) e)
  have ln := hp.length_eq
  refine ⟨.ref l, upd H1 l (.lst (ns'.map V.int)), I1.laid (t' := s'.toks) kk (Nat.le_of_lt hlt) (show ObjOk X.prog X.w _ _ _ (.lst (ns'.map V.int)) from ⟨by rw [List.length_map, sizeLine_eq]; omega, out, ex, vals_ints hI, ho⟩), rfl, q l ns' (I1.hok.fresh (Nat.le_of_lt hlt)) (strict_ints (hp.nodup_iff.mpr nd) hw) fun k => by rw [hp.mem_iff, hmem]⟩
theorem r_sortInts {K : PySem.W.Frag} {H : Hp} {Q : VK} {p : Addr} {ns : List Int} (ms : List Int) (h : H p = some (.tup (ns.map V.int))) (hin : ∀ n ∈ ns, n ∈ ms) (hn : ms.length ≤ 50) (q : ∀ l (ks : List Int) H', H l = none → H' l = some (.lst (ks.map V.int)) → ks.Pairwise (· < ·) → (∀ k, k ∈ ks ↔ k ∈ ns) → Ext H H' → Q (.ref l) H') : rSortInts K [.ref p] H Q := ⟨p, ns, ms, rfl, h, hin, hn, fun l ks nl pw mm => q l ks _ nl upd_same pw mm (ext_upd nl)⟩
end
theorem minRun_few : ∀ (fuel n r : Nat), n ≤ fuel → r ≤ 1 → minRun' fuel n r ≤ 64
  | 0, n, r, h, hr => by show n + r ≤ 64; omega
  | fuel + 1, n, r, h, hr => by
    rw [minRun'_succ]
    by_cases c : n < 64
    · rw [if_pos c]; omega
    · rw [if_neg c]
      exact minRun_few fuel _ _ (by omega) (by omega)
theorem minRun_le (n : Nat) (h : 1 ≤ n) : minRun' n n 0 ≤ n := by
  by_cases c : n < 64
  · obtain ⟨f, hf⟩ : ∃ f, n = f + 1 := ⟨n - 1, by omega⟩
    have : minRun' (f + 1) n 0 = n + 0 := by rw [minRun'_succ, if_pos c]
    rw [← hf] at this
    omega
  · have := minRun_few n n 0 (Nat.le_refl _) (by omega)
    omega
section
variable {prog : Program} {w : World} {A : Around} {E : Value → Shared → Prop} {s : Shared} {a₀ : Array PyProof.Rows.Keyed}
theorem runs_asc {st : SortSt} {Q : Unit → SortSt → Prop} (h0 : IntKeys a₀) (hB : SBase a₀ st) (h2 : 2 ≤ a₀.size) (ha : SortedTo (arrOf st) a₀.size) (h : ∀ st', (arrOf st').Perm a₀ → failedOf st' = none → SortedTo (arrOf st') a₀.size → Q () st') : wpS (model prog w) A E s sortRuns' Q st := by
  skip; rw [sortRuns'_eq]
  skip; refine wpS_bind (wpS_get ?_)
  dsimp only
  have hmr := minRun_le a₀.size (by omega)
  simp only [hB.size]
  generalize minRun' a₀.size a₀.size 0 = mr at hmr
  refine wpS_bind (wpS_mono (wpS_forRange (I := fun x c st' => (x = 0 ∧ c = (none, 0) ∧ st' = st) ∨ (1 ≤ x ∧ c = (none, a₀.size) ∧ SDone a₀ st')) (Q := fun c st' => c = (none, a₀.size) ∧ SDone a₀ st') ?step ?fin (.inl ⟨rfl, rfl, rfl⟩)) ?post)
  case fin =>
    skip; rintro c st' (⟨hx, _, _⟩ | ⟨_, hc, hD⟩)
    · omega
    · exact ⟨hc, hD⟩
  case step =>
    rintro x c st' _ hx (⟨rfl, rfl, rfl⟩ | ⟨hx1, rfl, hD⟩)
    · dsimp only
      rw [if_neg (by omega)]
      skip; simp only [Nat.sub_zero, Nat.min_self, Nat.zero_add]
      refine wpS_bind ?_
      rw [countRun0_eq]
      refine wpS_bind (wpS_ascLoop h0 (Nat.le_refl _) (Nat.le_refl 1) (by omega) hB (fun i j hij hj => by rw [show i = j by omega]; exact Int.le_refl _) fun n hn1 hn2 hsn hor => ?_)
      dsimp only
      have hn : n = a₀.size := by
        rcases hor with z | z
        · exact z
        · by_cases q : n = a₀.size
          · exact q
          · have := ha (n - 1) n (by omega) (by omega)
            omega
      subst hn
      rw [if_pos (by simp)]
      refine wpS_pure ?_
      dsimp only
      rw [if_neg (by omega)]
      skip; refine wpS_bind (wpS_get ?_)
      have hb : (pendingOf st').back? = none := by rw [hB.pend]; rfl
      rw [hb]
      dsimp only
      exact wpS_bind (wpS_modify (wpS_pure (.inr ⟨by omega, rfl, hB.done ha⟩)))
    · dsimp only
      rw [if_pos (Nat.le_refl _)]
      exact wpS_pure ⟨rfl, hD⟩
  case post =>
    rintro c st' ⟨rfl, hD⟩
    dsimp only
    refine wpS_bind (wpS_mono (wpS_forRange (I := fun _ c st'' => st'' = st' ∧ c = (none, ())) (Q := fun c st'' => st'' = st' ∧ c = (none, ())) (fun x c st'' _ _ hh => ?_) (fun _ _ hh => hh) ⟨rfl, rfl⟩) fun c st'' hh => ?_)
    · obtain ⟨rfl, rfl⟩ := hh
      skip; refine wpS_bind (wpS_get ?_)
      skip; rw [if_pos (by rw [hD.2.2.1]; exact Nat.le_refl 1)]
      exact wpS_pure ⟨rfl, rfl⟩
    · obtain ⟨rfl, rfl⟩ := hh
      skip; exact wpS_pure (h _ hD.1 hD.2.1 hD.2.2.2)
end
theorem K_ints {vs : List Value} {ns : List Int} (hI : IntsAre vs ns) : ∀ i, i < ns.length → PyProof.Rows.K (pairsOf vs) i = ns.getD i 0 := by
  intro i hi
  have hl := hI.length
  have h1 : i < (pairsOf vs).size := by rw [pairsOf_size]; omega
  rw [K_eq h1]
  have e : (pairsOf vs)[i].1 = vs[i]'(by omega) := by simp [pairsOf]
  rw [e]
  obtain ⟨t, ht⟩ := IntsAre.int_at hI i _ (List.getElem?_eq_getElem (by omega))
  rw [ht]
  rfl
section
variable {prog : Program} {w : World} {A : Around} {E : Value → Shared → Prop} {s : Shared}
theorem sort_asc {a : Addr} {vs : List Value} {ns : List Int} {n : Nat} {P : PySem.Fin → Shared → Prop} (ho : s.heap.get? a = some (seqObj "list" vs.toArray n)) (hI : IntsAre vs ns) (hz : vs.length ≤ 1000) (ha : ns.Pairwise (· ≤ ·))
    (h : ∀ (out : Array Value), IntsAre out.toList ns → P (.done (.ret .none)) { s with heap := sortedHeap s.heap a vs out }) : wpAny (model prog w) A (Builtin.«list.sort» ⟨[.ref a], []⟩) P E s := by
  by_cases h64 : vs.length < 64
  · refine list_sort_tree ho hI h64 fun out ns' a1 a2 a3 => ?_
    rw [sorted_uniq a2 (List.Perm.refl _) a3 ha] at a1
    exact h out a1
  skip; rw [list_sort_plain]
  have hla : a < s.heap.objs.size := Heap.lt_size ho
  have hsl : vs.toArray.size = vs.length := by simp
  refine wpAny_bind (listItems_at ho rfl (wpAny_bind (listUpdate_at ho rfl ?_ (by rw [hsl, sizeLine_eq]; omega))))
  skip; obtain ⟨e1, ho1⟩ : ∃ e1, (s.heap.update a (Obj.mapSeq fun _ => #[])).get? a = some (seqObj "list" #[] e1) := ⟨_, get?_update_seq ho (fun _ => #[])⟩
  refine wpAny_bind (seqEpoch_at ho1 rfl (wpAny_bind (wpAny_newTuple (wpAny_bind (wpAny_newList (wpAny_holding ?_))) (by rw [sizeLine_eq]; simp; omega))))
  have ho6 : (((s.heap.update a (Obj.mapSeq fun _ => #[])).push (seqObj "tuple" vs.toArray 0)).push (seqObj "list" #[] 0)).get? a = some (seqObj "list" #[] e1) := Heap.get?_push_of_some _ (Heap.get?_push_of_some _ ho1)
  skip; show wpAny (model prog w) A _ P E { s with heap := ((s.heap.update a (Obj.mapSeq fun _ => #[])).push (seqObj "tuple" vs.toArray 0)).push (seqObj "list" #[] 0) }
  dsimp only
  have h2 : ¬ vs.toArray.size < 2 := by omega
  rw [if_neg h2, if_neg h2]
  have two : ∃ v₁ v₂ rest, vs = v₁ :: v₂ :: rest := by
    match vs, h64 with
    | [], h64 => simp at h64
    | [_], h64 => simp at h64
    | u :: v :: l, _ => exact ⟨u, v, l, rfl⟩
  obtain ⟨v₁, v₂, rest, rfl⟩ := two
  rw [keyKind_ints hI]
  refine wpAny_bind (wpAny_pure ?_)
  have asc : SortedTo (pairsOf (v₁ :: v₂ :: rest)) (pairsOf (v₁ :: v₂ :: rest)).size := fun i j hij hj => by
    rw [pairsOf_size] at hj
    have hl := hI.length
    rw [K_ints hI i (by omega), K_ints hI j (by omega)]
    by_cases z : i = j
    · rw [z]; exact Int.le_refl _
    · have := List.pairwise_iff_getElem.mp ha i j (by omega) (by omega) (by omega)
      rw [List.getD_eq_getElem?_getD, List.getElem?_eq_getElem (by omega), List.getD_eq_getElem?_getD, List.getElem?_eq_getElem (by omega)]
      exact this
  refine wpAny_bind (wpAny_mono (runs_asc (a₀ := pairsOf (v₁ :: v₂ :: rest)) (st := SortSt.mk' oneType' ((v₁ :: v₂ :: rest).toArray.zip (v₁ :: v₂ :: rest).toArray) #[] 7 none) (Q := fun _ st' => (arrOf st').Perm (pairsOf (v₁ :: v₂ :: rest)) ∧ failedOf st' = none ∧ SortedTo (arrOf st') (pairsOf (v₁ :: v₂ :: rest)).size)
    hI.intKeys ⟨Array.Perm.refl _, rfl, rfl, rfl⟩ (by rw [pairsOf_size]; simp) asc fun st' a1 a2 a3 => ⟨a1, a2, a3⟩) ?_ fun _ _ e => e)
  skip; rintro ⟨⟨⟩, st'⟩ s' ⟨rfl, hp, hf, hs⟩
  dsimp only
  obtain ⟨ns', g1, g2, g3⟩ := sorted_out hI hp hs
  rw [sorted_uniq g2 (List.Perm.refl _) g3 ha] at g1
  refine wpAny_bind (seqEpoch_at ho6 rfl (wpAny_bind (listUpdate_at ho6 rfl ?_ (by rw [sizeLine_eq]; simp) (by rw [Array.size_map, hp.size_eq, pairsOf_size, sizeLine_eq]; omega))))
  rw [hf]
  skip; simp only [bne_self_eq_false, Bool.false_eq_true, if_false]
  exact wpAny_pure (h _ g1)
theorem sortedAsc {b : Bool} {l : Addr} {vs : List Value} {ns : List Int} {Q : Value → Shared → Prop} (hl : SqA b s.heap l vs.toArray) (hz : vs.length ≤ 1000) (hI : IntsAre vs ns) (ha : ns.Pairwise (· ≤ ·))
    (h : ∀ (out : Array Value), IntsAre out.toList ns → Q (.ref (s.heap.objs.size + 1)) { s with heap := sortedAll s.heap vs out }) : wpAny (model prog w) A (call (.builtin "sorted") [.ref l]) Q E s := by
  refine Calls.call_function_entry kind_sorted plain_sorted entry_sorted (args_sorted1 _) ?_; unfold Builtin.«sorted»
  refine wpAny_bind (m := checkCount "sorted" 1 1 _) (wpAny_pure (wpAny_bind (collectA hl (by rw [sizeLine_eq]; omega) (wpAny_bind (wpAny_newList ?_ (by rw [sizeLine_eq]; omega))))))
  have n1 : ((s.heap.push (seqObj "list" #[] 0)).update s.heap.objs.size (Obj.mapSeq (· ++ vs.toArray))).objs.size = s.heap.objs.size + 1 := by rw [Heap.size_update, size_push']
  have o1 : (((s.heap.push (seqObj "list" #[] 0)).update s.heap.objs.size (Obj.mapSeq (· ++ vs.toArray))).push (seqObj "list" vs.toArray 0)).get? (s.heap.objs.size + 1) = some (seqObj "list" vs.toArray 0) := by rw [← n1]; exact Heap.get?_push_size _ rfl
  show wpAny _ _ _ _ _ { s with heap := ((s.heap.push (seqObj "list" #[] 0)).update s.heap.objs.size (Obj.mapSeq (· ++ vs.toArray))).push (seqObj "list" vs.toArray 0) }; rw [n1]
  exact wpAny_bind (wpAny_holding (wpAny_call_entry slot_list_sort ⟨_, o1, rfl⟩ entry_list_sort (sort_asc o1 hI hz ha fun out a1 => ⟨_, rfl, wpAny_pure ⟨_, rfl, h out a1⟩⟩) (args_list_sort _)))
end
section
variable {X : Cx}
def rSortedA (K : PySem.W.Frag) : List V → Hp → VK → Prop := fun xs H Q => ∃ (p : Addr) (ns : List Int) (c : Bool), xs = [.ref p] ∧ SqE K H p (ns.map V.int) c ∧ ns.length ≤ 1000 ∧ ns.Pairwise (· ≤ ·) ∧ ∀ l, H l = none → Q (.ref l) (upd H l (.lst (ns.map V.int)))
theorem cSortedA : CallR X (.builtin "sorted") (rSortedA X.K) := by
  intro pins s σ H xs us Q I r h
  obtain ⟨p, ns, c, rfl, hq, hz, ha, q⟩ := h
  obtain ⟨u, rfl, rx⟩ := vals1 r
  cases rx
  obtain ⟨its, r', pl, _⟩ := I.sqe hq
  have hi : IntsAre its ns := intsAre_of r'
  have hlen := r'.length
  rw [List.length_map] at hlen
  refine sortedAsc pl (by omega) hi ha fun out a1 => ?_
  obtain ⟨e, he⟩ := sortedAll_at s.heap its out
  refine ⟨.ref (s.heap.objs.size + 1), _, I.laid (t' := s.toks) (fun b o q => sortedAll_old q) (Nat.le_succ _) (show ObjOk X.prog X.w _ _ _ (.lst (ns.map V.int)) from ⟨by rw [List.length_map, sizeLine_eq]; omega, out.toList, e, vals_ints a1, by simpa using he⟩), rfl, q _ (I.hok.fresh (Nat.le_succ _))⟩
def rSortX (K : PySem.W.Frag) : List V → Hp → VK → Prop := fun xs H Q => rSorted K xs H Q ∨ rSortedA K xs H Q
theorem cSortX : CallR X (.builtin "sorted") (rSortX X.K) := cSorted.or cSortedA
end
section
variable {K : PySem.W.Frag} {H : Hp} {Q : VK}
theorem r_sortXS {xs : List V} (q : rSorted K xs H Q) : rSortX K xs H Q := .inl q
theorem r_sortXT {p : Addr} {ns : List Int} (h : H p = some (.tup (ns.map V.int))) (hz : ns.length ≤ 1000) (ha : ns.Pairwise (· ≤ ·)) (q : ∀ l H', H l = none → H' l = some (.lst (ns.map V.int)) → Ext H H' → Q (.ref l) H') : rSortX K [.ref p] H Q := .inr ⟨p, ns, true, rfl, SqT.of h, hz, ha, fun l nl => q l _ nl upd_same (ext_upd nl)⟩
end
section
variable {prog : Program} {w : World} {A : Around} {E : Value → Shared → Prop} {s : Shared} {Z : Addr → List Int → Prop}
theorem pick_permI {acc : List Value} {M1 : List (List Int)} {p : Array Nat} (l1 : acc.length = M1.length) (ok : OkP acc.length p) : (p.toList.map fun i => M1.getD i []).Perm M1 := by
  refine (ok.map _).trans ?_
  have : (List.range acc.length).map (fun i => M1.getD i []) = M1 := by
    rw [l1]
    refine List.ext_getElem? fun i => ?_
    by_cases hi : i < M1.length
    · simp [hi]
    · simp [hi]
  rw [this]
theorem kd_sortedI {d : Addr} {o : Obj} {es : Array DictEntry} {ep : Nat} {Ls : List (List Int)} {Q : Value → Shared → Prop} (hh : A.handled = none) (lo : (d == sysModules) = false) (hS : s.heap.get? d = some o) (hc : o.ExactDict) (hd : o.data = .dict es ep) (h64 : es.size < 64) (hne : ∀ L ∈ Ls, L ≠ []) (hr : RowsV prog w Z s.heap (es.toList.map (·.key)) Ls)
    (h : ∀ (s' : Shared) (h' : Heap) (a : Addr) (out : List Value) (e : Nat) (Ks : List (List Int)), (∀ b o, s.heap.get? b = some o → h'.get? b = some o) → s.heap.objs.size ≤ a → h'.get? a = some (seqObj "list" out.toArray e) → RowsV prog w Z s.heap out Ks → Ks.Perm Ls → Ks.Pairwise (fun a b => ¬ b < a) → Q (.ref a) { s with heap := h', toks := s'.toks }) : wpAny (model prog w) A (call (.builtin "sorted") [.ref d]) Q E s := by
  have hz : es.size ≤ sizeLine := by rw [sizeLine_eq]; omega
  refine Calls.call_function_entry kind_sorted plain_sorted entry_sorted (args_sorted1 _) ?_; unfold Builtin.«sorted»
  refine wpAny_bind (m := checkCount "sorted" 1 1 _) (wpAny_pure (wpAny_bind (kd_collect hh lo hS hc hd hz fun s' acc hm le ha => ?_)))
  have rv : RowsV prog w Z s.heap acc.toList Ls := by rw [kd_keys ha]; exact hr
  have l1 := rv.length
  have l2 : acc.toList.length = es.size := by rw [kd_keys ha, List.length_map, Array.length_toList]
  skip; refine wpAny_bind (wpAny_newList ?_ (by rw [sizeLine_eq]; omega))
  have o1 : (s'.heap.push (seqObj "list" acc.toList.toArray 0)).get? s'.heap.objs.size = some (seqObj "list" acc.toList.toArray 0) := Heap.get?_push_size _ rfl
  have kt : ∀ b o, o.cls = .type "tuple" → s.heap.get? b = some o → (s'.heap.push (seqObj "list" acc.toList.toArray 0)).get? b = some o := fun b o c e => Heap.get?_push_of_some _ (hm.heap b o (by simp) e)
  refine wpAny_bind (wpAny_holding (wpAny_call_entry slot_list_sort ⟨_, o1, rfl⟩ entry_list_sort (rows_sort (s := { s' with heap := s'.heap.push (seqObj "list" acc.toList.toArray 0) }) o1 (by omega) ((rv.kept kt).at hne) fun p ok as => ⟨_, rfl, wpAny_pure ⟨_, rfl, ?_⟩⟩) (args_list_sort _)))
  obtain ⟨h', g', d', t', q'⟩ := s'
  skip; have eg : g' = s.gens := hm.gens
  skip; have ed : d' = s.drawn := hm.drawn
  have eo : q' = s.os := hm.os
  subst eg ed eo
  obtain ⟨e, he⟩ := sortedHeap_at (out := (p.toList.map fun i => acc.toList.getD i .none).toArray) o1
  refine h ⟨h', s.gens, s.drawn, t', s.os⟩ _ _ _ e _ (fun b o eb => ?_) (Nat.le_of_lt le) he (rv.pick p.toList fun i hi => List.mem_range.mp (ok.mem_iff.mp hi)) (pick_permI l1 ok) (asc_rows ok as)
  have hb := hm.heap b o (by simp) eb
  have lb := Heap.lt_size hb
  refine (sortedHeap_old (Nat.ne_of_lt lb) ?_).trans (Heap.get?_push_of_some _ hb)
  rw [Heap.size_push]
  exact Nat.lt_succ_of_lt lb
end
section
variable {X : Cx}
theorem tupKeyI {pins : List (Addr × Obj)} {σ : St} {H : Hp} {s : Shared} {b : Addr} {L : List Int} (I : Inv X pins σ H s) (hb : H b = some (.tup (L.map V.int))) : IsTupleKey (intKind X.prog X.w) s.heap L b := by
  obtain ⟨it2, r2, t2, _⟩ := I.tuple (SqT.of (K := X.K) hb)
  obtain ⟨o, ho, hcl, n, hd⟩ := t2
  exact ⟨o, _, n, ho, hcl, hd, by simpa using ints_items (intsAre_of r2)⟩
def rSortDI : List V → Hp → VK → Prop := fun xs H Q => ∃ (p : Addr) (o : Obj) (kvs : List (List Key × V)) (Ls : List (List Int)), xs = [.ref p] ∧ H p = some (.frz o (.dT kvs)) ∧ kvs.map (·.1) = Ls.map (·.map Sum.inl) ∧ kvs.length < 64 ∧ (∀ L ∈ Ls, L ≠ []) ∧ ∀ l vs' Ks, H l = none → RefsH H vs' Ks → Ks.Perm Ls → Ks.Pairwise (fun a b => ¬ b < a) → Q (.ref l) (upd H l (.lst vs'))
theorem kV_intsL (L : List Int) : (L.map (Sum.inl : Int → Key)).map kV = L.map V.int := by rw [List.map_map]; rfl
theorem rowsV_keysI {prog : Program} {w : World} {Z : Addr → List Int → Prop} {h : Heap} : ∀ {vs : List Value} {Ls : List (List Int)}, vs.length = Ls.length → (∀ (i : Nat) (L : List Int), Ls[i]? = some L → ∃ b, vs[i]? = some (.ref b) ∧ IsTupleKey (intKind prog w) h L b ∧ Z b L) → RowsV prog w Z h vs Ls
  | [], [], _, _ => .nil
  | [], _ :: _, hlen, _ => by simp at hlen
  | _ :: _, [], hlen, _ => by simp at hlen
  | v :: vs, L :: Ls, hlen, h => by
    obtain ⟨b, e, k, z⟩ := h 0 L rfl
    simp at e
    subst e
    exact .cons k z (rowsV_keysI (by simpa using hlen) fun i L hL => by simpa using h (i + 1) L (by simpa using hL))
theorem cSortDI (hc : X.calm = true) : CallR X (.builtin "sorted") rSortDI := by
  skip; intro pins s σ H xs us Q I r h
  obtain ⟨p, o, kvs, Ls, rfl, hp, hk, h64, hne, q⟩ := h
  obtain ⟨u, rfl, ru⟩ := vals1 r
  cases ru
  obtain ⟨g1, g2, g3, es, ep, g4, g5, g6⟩ := fz_t I.hok hp
  have hl : kvs.length = Ls.length := by have := congrArg List.length hk; simpa using this
  have le0 := Array.length_toList (xs := es)
  have rv : RowsV X.prog X.w (fun a L => H a = some (.tup (L.map V.int))) s.heap (es.toList.map (·.key)) Ls := rowsV_keysI (by rw [List.length_map]; omega) fun i L hL => by
    have hi : i < Ls.length := (List.getElem?_eq_some_iff.mp hL).1
    have hi2 : i < es.size := by omega
    obtain ⟨kv, b, k1, k2, k3⟩ := g6 i hi2
    have e : (kvs.map (·.1))[i]? = some (L.map Sum.inl) := by rw [hk, List.getElem?_map, hL]; rfl
    rw [List.getElem?_map, k1] at e
    have e' : kv.1 = L.map Sum.inl := Option.some.inj e
    rw [e', kV_intsL] at k3
    exact ⟨b, by rw [List.getElem?_map, Array.getElem?_toList, Array.getElem?_eq_getElem hi2, Option.map_some, k2], tupKeyI I k3, k3⟩
  refine kd_sortedI (I.ok.hd hc) g3 g1 g2 g4 (by omega) hne rv fun s' h' l out ex Ks kk le ho rv' hp' hw => ?_
  obtain ⟨vs', v1, v2⟩ := refs_out rv'
  have lv := v2.length
  have lk := hp'.length_eq
  exact ⟨.ref l, upd H l (.lst vs'), I.laid (t' := s'.toks) kk le (show ObjOk X.prog X.w _ _ _ (.lst vs') from ⟨by rw [sizeLine_eq]; omega, out, ex, v1, ho⟩), rfl, q l vs' Ks (I.hok.fresh le) v2 hp' hw⟩
end
section
variable {K : PySem.W.Frag} {H : Hp} {Q : VK} {p : Addr}
theorem r_sortDI {o : Obj} {kvs : List (List Key × V)} {Ls : List (List Int)} (h : H p = some (.frz o (.dT kvs))) (hk : kvs.map (·.1) = Ls.map (·.map Sum.inl)) (hn : kvs.length < 64) (hne : ∀ L ∈ Ls, L ≠ []) (q : ∀ l vs' Ks H', H l = none → H' l = some (.lst vs') → RefsH H' vs' Ks → Ks.Perm Ls → Ks.Pairwise (fun a b => ¬ b < a) → Ext H H' → Q (.ref l) H') : rSortDI [.ref p] H Q := ⟨p, o, kvs, Ls, rfl, h, hk, hn, hne, fun l vs' Ks nl r pm pw => q l vs' Ks _ nl upd_same (r.mono (ext_upd nl)) pm pw (ext_upd nl)⟩
end
section
variable {X : Cx}
def rInE : R2 := fun x y H Q => ∃ (p : Addr) (xs : List V) (ds : List L2.D) (a : L2.D), y = .ref p ∧ H p = some (.lst xs) ∧ RepL H ds xs ∧ Rep H a x ∧ D.eqOkL ds = true ∧ a.eqOk = true ∧ (∀ d ∈ ds, d.depth ≤ 20) ∧ Q (.bl (ds.any fun d => eqD d a)) H
open Classical in
theorem op_inE {k : Nat} (hr : Room k X.A) : OpR X (compareOp .In) rInE := by
  intro pins s σ H x y v u Q I rx ry h
  obtain ⟨p, xs, ds, a, rfl, hp, hd, ha, od, oa, dp, q⟩ := h
  cases ry
  obtain ⟨bs, r2⟩ := reads_of I a ha rx oa
  obtain ⟨its, r, pl, hz⟩ := I.list (SqL.of (K := X.K) hp)
  have hlen := hd.length
  have hl := r.length
  have eqs : ∀ (i : Nat) (w : Value) (d : L2.D), its[i]? = some w → ds[i]? = some d → SeqAt.EqAt X.A.in1 s w v (eqD d a) := by
    intro i w d hw hdi
    have hi : i < xs.length := by rw [hl]; exact (List.getElem?_eq_some_iff.mp hw).1
    obtain ⟨d', e1, e2⟩ := hd.get (List.getElem?_eq_getElem hi)
    rw [hdi] at e1
    cases e1
    obtain ⟨w', e3, e4⟩ := r.get (List.getElem?_eq_getElem hi)
    rw [hw] at e3
    cases e3
    have od' := eqOkL_mem od (List.mem_of_getElem? hdi)
    obtain ⟨as, r1⟩ := reads_of I d e2 e4 od'
    have h1 := D.pyDepth d
    have h2 := dp d (List.mem_of_getElem? hdi)
    exact SeqAt.eqAt_reads d.py a.py X.A.in1 s w v as bs r1 r2 (D.canLay d od') (D.canLay a oa) (by have := hr.units; show X.A.in1.units + _ < _; simp only [Around.in1]; omega)
  refine SeqAt.in_listAt (fun w => decide (∃ (i : Nat) (d : L2.D), its[i]? = some w ∧ ds[i]? = some d ∧ eqD d a = true)) pl.isList (fun w hw => ?_) ⟨.bl _, H, I, rfl, ?_⟩
  · obtain ⟨i, hi, rfl⟩ := List.getElem_of_mem (show w ∈ its by simpa using hw)
    by_cases c : ∃ (j : Nat) (d : L2.D), its[j]? = some its[i] ∧ ds[j]? = some d ∧ eqD d a = true
    · rw [decide_eq_true c]
      obtain ⟨j, d, c1, c2, c3⟩ := c
      have z := eqs j _ d c1 c2
      rw [c3] at z
      exact z
    · rw [decide_eq_false c]
      have z := eqs i its[i] ds[i] (List.getElem?_eq_getElem hi) (List.getElem?_eq_getElem (by omega))
      cases e : eqD (ds[i]'(by omega)) a with
      | true => exact (c ⟨i, _, List.getElem?_eq_getElem hi, List.getElem?_eq_getElem (by omega), e⟩).elim
      | false => rw [e] at z; exact z
  · have : its.toArray.any (fun w => decide (∃ (i : Nat) (d : L2.D), its[i]? = some w ∧ ds[i]? = some d ∧ eqD d a = true)) = ds.any fun d => eqD d a := by
      rw [show its.toArray.any (fun w => decide (∃ (i : Nat) (d : L2.D), its[i]? = some w ∧ ds[i]? = some d ∧ eqD d a = true)) = its.any (fun w => decide (∃ (i : Nat) (d : L2.D), its[i]? = some w ∧ ds[i]? = some d ∧ eqD d a = true)) by simp, Bool.eq_iff_iff, List.any_eq_true, List.any_eq_true]
      constructor
      · rintro ⟨w, _, hw⟩
        obtain ⟨i, d, c1, c2, c3⟩ := of_decide_eq_true hw
        exact ⟨d, List.mem_of_getElem? c2, c3⟩
      · rintro ⟨d, hm, he⟩
        skip; obtain ⟨i, hi, rfl⟩ := List.getElem_of_mem hm
        exact ⟨its[i]'(by omega), List.getElem_mem _, decide_eq_true ⟨i, _, List.getElem?_eq_getElem (by omega), List.getElem?_eq_getElem hi, he⟩⟩
    rw [this]
    exact q
theorem r_inE {H : Hp} {Q : VK} {p : Addr} {xs : List V} {ds : List L2.D} {x : V} {a : L2.D} (h : H p = some (.lst xs)) (hd : RepL H ds xs) (ha : Rep H a x) (od : D.eqOkL ds = true) (oa : a.eqOk = true) (dp : ∀ d ∈ ds, d.depth ≤ 20) (q : Q (.bl (ds.any fun d => eqD d a)) H) : rInE x (.ref p) H Q := ⟨p, xs, ds, a, rfl, h, hd, ha, od, oa, dp, q⟩
end
end L2
namespace Q
open PySem PySem.Spec PyProof.Rows L2
local macro_rules | `(tactic| walk_at "side") => `(tactic| first | exact ⟨by decide, by decide, by decide⟩ | exact Or.inl ⟨by omega, by omega⟩ | exact Or.inr (Or.inl ⟨by omega, by omega⟩) | exact ⟨by omega, by omega⟩ | omega | decide)
local macro_rules | `(tactic| walk_at "hp") => `(tactic| first | assumption | ((refine up (H := ?kH) ?ke ?kf); (case ke => assumption); (case kf => walk_at "hp")))
local macro_rules | `(tactic| walk_at "vs") => `(tactic| first
  | ((with_reducible refine r_var (v := ?kv) ?kh ?_); (case kh => exact rfl))
  | with_reducible refine r_op ?_
  | with_reducible refine r_c ?_
  | with_reducible refine r_seq ?_
  | with_reducible refine r_asg ?_
  | with_reducible refine r_gname ?_
  | with_reducible refine r_if ?_
  | with_reducible refine r_test ?_
  | with_reducible refine r_bl ?_
  | with_reducible refine r_I0 ?_
  | with_reducible refine r_addV ?_
  | with_reducible refine r_addWI ?_
  | with_reducible refine r_leWI ?_
  | with_reducible refine r_leWS ?_
  | ((with_reducible refine r_mulWI ?kc ?_); (case kc => walk_at "side"))
  | with_reducible refine r_pow18 ?_
  | with_reducible refine r_pow6 ?_
  | with_reducible refine r_pow9 ?_
  | with_reducible refine r_powM ?_
  | ((with_reducible refine r_I ?kc ?_); (case kc => walk_at "side"))
  | with_reducible refine r_eqUI ?_
  | with_reducible refine r_neI ?_
  | with_reducible refine r_neUI ?_
  | with_reducible refine r_ret ?_
  | with_reducible refine r_next ?_
  | with_reducible refine r_drop ?_
  | with_reducible refine r_not ?_
  | with_reducible refine r_truth ?_
  | with_reducible refine r_blT ?_
  | with_reducible refine r_and ?_
  | with_reducible refine r_or ?_
  | with_reducible refine r_andV ?_
  | with_reducible refine r_orV ?_
  | with_reducible refine r_notV ?_
  | with_reducible refine r_ifE ?_
  | with_reducible refine r_chain ?_
  | with_reducible refine r_un ?_
  | with_reducible refine r_rU ?_
  | with_reducible refine r_call ?_
  | with_reducible refine r_cb ?_
  | with_reducible refine r_cons ?_
  | with_reducible refine r_nil ?_
  | with_reducible refine r_meth ?_
  | ((with_reducible refine r_self (dx := ?kd) (fs := ?kf) ?kh ?kl ?_); (case kh => walk_at "hp"); (case kl => exact rfl))
  | with_reducible refine r_cmeth ?_
  | with_reducible refine r_cself ?_
  | with_reducible refine r_make ?_
  | with_reducible refine r_fldK ?_
  | ((with_reducible refine r_fat (C := ?kC) (dx := ?kd) (fs := ?kf) (v := ?kv) ?kh ?kc ?kn ?kl ?_); (case kh => walk_at "hp"); (case kc => assumption); (case kn => assumption); (case kl => exact rfl))
  | with_reducible refine r_sfld ?_
  | with_reducible refine r_tup ?_
  | with_reducible refine r_lst ?_
  | ((with_reducible refine r_newT ?kc ?_); (case kc => exact rfl))
  | ((with_reducible refine r_newL ?kc ?_); (case kc => exact rfl))
  | with_reducible refine r_dnew ?_
  | with_reducible refine r_retN ?_
  | with_reducible refine r_for ?_
  | with_reducible refine r_rng1 ?_
  | with_reducible refine r_rng2 ?_
  | with_reducible refine r_by2 ?_
  | with_reducible refine r_zip2 ?_
  | with_reducible refine r_enum ?_
  | with_reducible refine r_enum1 ?_
  | with_reducible refine r_comp ?_
  | with_reducible refine r_tests0 ?_
  | with_reducible refine r_tests1 ?_
  | with_reducible refine r_gsub ?_
  | with_reducible refine r_sl ?_
  | with_reducible refine r_nopart ?_
  | with_reducible refine r_part ?_
  | with_reducible refine r_partI ?_
  | with_reducible refine r_intT ?_
  | with_reducible refine r_ilist ?_
  | with_reducible refine r_itup ?_
  | with_reducible refine r_bm ?_
  | with_reducible refine r_bm0 ?_
  | ((with_reducible refine r_tyl (xs := ?kx) ?kh ?_); (case kh => walk_at "hp"))
  | with_reducible refine r_tm ?_
  | ((with_reducible refine r_tyT (xs := ?kx) ?kh ?_); (case kh => walk_at "hp"))
  | with_reducible refine r_sm ?_
  | with_reducible refine r_dget ?_
  | with_reducible refine r_dput ?_
  | with_reducible refine r_tyS ?_
  | with_reducible refine r_istr ?_
  | with_reducible refine r_gnil ?_
  | with_reducible refine r_gcons ?_
  | ((with_reducible refine r_gtup (xs := ?kx) ?kh ?kl ?_); (case kh => walk_at "hp"); (case kl => exact rfl))
  | with_reducible refine r_max ?_
  | with_reducible refine r_min ?_
  | with_reducible refine r_abs ?_
  | with_reducible refine r_intI ?_
  | with_reducible refine r_intB ?_
  | with_reducible refine r_isN ?_
  | with_reducible refine r_notN ?_
  | with_reducible refine r_try ?_
  | with_reducible refine r_gone ?_
  | with_reducible refine r_efldK ?_
  | with_reducible refine r_terr ?_
  | ((with_reducible refine iteTc ?kh ?_); (case kh => exact rfl))
  | ((with_reducible refine iteFc ?kh ?_); (case kh => exact rfl)))
def top (i : Nat) : Stmt := PySem.Challenge.pw_lateknow_k51_bags_prices.main.body.getD i (.Pass ⟨0, 0, 0, 0⟩)
abbrev s_law : Stmt := top 26
abbrev s_law_same : Stmt := top 15
abbrev s_law_whole : Stmt := top 14
abbrev s_Bags_moves : Stmt := inClass (top 9) 4
abbrev s_World_priced : Stmt := inClass (top 4) 4
abbrev s_Bags_price : Stmt := inClass (top 9) 3
abbrev s_filled : Stmt := top 8
abbrev s_opened : Stmt := top 7
abbrev s_Bags_init : Stmt := inClass (top 9) 0
abbrev s_law_moves : Stmt := top 25
abbrev s_law_due : Stmt := top 24
abbrev s_law_puts : Stmt := top 19
abbrev s_law_price : Stmt := top 20
abbrev s_law_behind : Stmt := top 23
abbrev s_law_loads : Stmt := top 18
abbrev s_law_size : Stmt := top 17
abbrev s_law_mixed : Stmt := top 11
abbrev s_law_raw : Stmt := top 12
abbrev s_law_kinds : Stmt := top 22
abbrev s_Bags_is_wish : Stmt := inClass (top 9) 2
abbrev s_is_from_one_to : Stmt := top 2
abbrev s_is_whole_number : Stmt := top 1
abbrev s_law_is_state : Stmt := top 21
abbrev s_Bags_is_state : Stmt := inClass (top 9) 1
abbrev s_law_mix : Stmt := top 13
abbrev s_law_room : Stmt := top 16
structure Adr where
  f_law : Addr
  d_law : FuncData
  f_law_same : Addr
  d_law_same : FuncData
  f_law_whole : Addr
  d_law_whole : FuncData
  f_Bags_moves : Addr
  d_Bags_moves : FuncData
  f_World_priced : Addr
  d_World_priced : FuncData
  f_Bags_price : Addr
  d_Bags_price : FuncData
  f_filled : Addr
  d_filled : FuncData
  f_opened : Addr
  d_opened : FuncData
  f_Bags_init : Addr
  d_Bags_init : FuncData
  f_law_moves : Addr
  d_law_moves : FuncData
  f_law_due : Addr
  d_law_due : FuncData
  f_law_puts : Addr
  d_law_puts : FuncData
  f_law_price : Addr
  d_law_price : FuncData
  f_law_behind : Addr
  d_law_behind : FuncData
  f_law_loads : Addr
  d_law_loads : FuncData
  f_law_size : Addr
  d_law_size : FuncData
  f_law_mixed : Addr
  d_law_mixed : FuncData
  f_law_raw : Addr
  d_law_raw : FuncData
  f_law_kinds : Addr
  d_law_kinds : FuncData
  f_Bags_is_wish : Addr
  d_Bags_is_wish : FuncData
  f_is_from_one_to : Addr
  d_is_from_one_to : FuncData
  f_is_whole_number : Addr
  d_is_whole_number : FuncData
  f_law_is_state : Addr
  d_law_is_state : FuncData
  f_Bags_is_state : Addr
  d_Bags_is_state : FuncData
  f_law_mix : Addr
  d_law_mix : FuncData
  f_law_room : Addr
  d_law_room : FuncData
  c_World : Addr
  c_Bags : Addr
  t_MOST_BAGS : Tok
structure Txt (K : PySem.W.Frag) (mg : Str → Option Value) (a : Adr) : Prop where
  F_law : Fun K "law" "law" s_law a.f_law a.d_law
  b_law : Binds K a.d_law ["_law_script"] []
  m_law : mg "law" = some (.ref a.f_law)
  F_law_same : Fun K "_law_same" "_law_same" s_law_same a.f_law_same a.d_law_same
  b_law_same : Binds K a.d_law_same ["_law_found", "_law_due_here"] []
  m_law_same : mg "_law_same" = some (.ref a.f_law_same)
  F_law_whole : Fun K "_law_whole" "_law_whole" s_law_whole a.f_law_whole a.d_law_whole
  b_law_whole : Binds K a.d_law_whole ["_law_found"] []
  m_law_whole : mg "_law_whole" = some (.ref a.f_law_whole)
  F_Bags_moves : Fun K "moves" "Bags.moves" s_Bags_moves a.f_Bags_moves a.d_Bags_moves
  b_Bags_moves : Binds K a.d_Bags_moves ["self", "before", "wish"] []
  F_World_priced : Fun K "priced" "World.priced" s_World_priced a.f_World_priced a.d_World_priced
  b_World_priced : Binds K a.d_World_priced ["self", "before", "wish", "states"] []
  F_Bags_price : Fun K "price" "Bags.price" s_Bags_price a.f_Bags_price a.d_Bags_price
  b_Bags_price : Binds K a.d_Bags_price ["self", "before", "wish", "after"] []
  F_filled : Fun K "filled" "filled" s_filled a.f_filled a.d_filled
  b_filled : Binds K a.d_filled ["loads", "at", "size"] []
  m_filled : mg "filled" = some (.ref a.f_filled)
  F_opened : Fun K "opened" "opened" s_opened a.f_opened a.d_opened
  b_opened : Binds K a.d_opened ["loads", "size"] []
  m_opened : mg "opened" = some (.ref a.f_opened)
  F_Bags_init : Fun K "__init__" "Bags.__init__" s_Bags_init a.f_Bags_init a.d_Bags_init
  b_Bags_init : Binds K a.d_Bags_init ["self", "room"] []
  F_law_moves : Fun K "_law_moves" "_law_moves" s_law_moves a.f_law_moves a.d_law_moves
  b_law_moves : Binds K a.d_law_moves ["_law_world", "_law_before", "_law_size_here", "_law_room_here"] []
  m_law_moves : mg "_law_moves" = some (.ref a.f_law_moves)
  F_law_due : Fun K "_law_due" "_law_due" s_law_due a.f_law_due a.d_law_due
  b_law_due : Binds K a.d_law_due ["_law_before", "_law_size_here", "_law_room_here"] []
  m_law_due : mg "_law_due" = some (.ref a.f_law_due)
  F_law_puts : Fun K "_law_puts" "_law_puts" s_law_puts a.f_law_puts a.d_law_puts
  b_law_puts : Binds K a.d_law_puts ["_law_before", "_law_size_here", "_law_room_here"] []
  m_law_puts : mg "_law_puts" = some (.ref a.f_law_puts)
  F_law_price : Fun K "_law_price" "_law_price" s_law_price a.f_law_price a.d_law_price
  b_law_price : Binds K a.d_law_price ["_law_before", "_law_size_here", "_law_after", "_law_room_here"] []
  m_law_price : mg "_law_price" = some (.ref a.f_law_price)
  F_law_behind : Fun K "_law_behind" "_law_behind" s_law_behind a.f_law_behind a.d_law_behind
  b_law_behind : Binds K a.d_law_behind ["_law_before", "_law_size_here", "_law_room_here", "_law_number"] []
  m_law_behind : mg "_law_behind" = some (.ref a.f_law_behind)
  F_law_loads : Fun K "_law_loads" "_law_loads" s_law_loads a.f_law_loads a.d_law_loads
  b_law_loads : Binds K a.d_law_loads ["_law_cell", "_law_room_here", "_law_many"] []
  m_law_loads : mg "_law_loads" = some (.ref a.f_law_loads)
  F_law_size : Fun K "_law_size" "_law_size" s_law_size a.f_law_size a.d_law_size
  b_law_size : Binds K a.d_law_size ["_law_cell", "_law_k", "_law_room_here"] []
  m_law_size : mg "_law_size" = some (.ref a.f_law_size)
  F_law_mixed : Fun K "_law_mixed" "_law_mixed" s_law_mixed a.f_law_mixed a.d_law_mixed
  b_law_mixed : Binds K a.d_law_mixed ["_law_cell", "_law_k"] []
  m_law_mixed : mg "_law_mixed" = some (.ref a.f_law_mixed)
  F_law_raw : Fun K "_law_raw" "_law_raw" s_law_raw a.f_law_raw a.d_law_raw
  b_law_raw : Binds K a.d_law_raw ["_law_script", "_law_k"] []
  m_law_raw : mg "_law_raw" = some (.ref a.f_law_raw)
  F_law_kinds : Fun K "_law_kinds" "_law_kinds" s_law_kinds a.f_law_kinds a.d_law_kinds
  b_law_kinds : Binds K a.d_law_kinds ["_law_world", "_law_state", "_law_room_here", "_law_number"] []
  m_law_kinds : mg "_law_kinds" = some (.ref a.f_law_kinds)
  F_Bags_is_wish : Fun K "is_wish" "Bags.is_wish" s_Bags_is_wish a.f_Bags_is_wish a.d_Bags_is_wish
  b_Bags_is_wish : Binds K a.d_Bags_is_wish ["self", "thing"] []
  F_is_from_one_to : Fun K "is_from_one_to" "is_from_one_to" s_is_from_one_to a.f_is_from_one_to a.d_is_from_one_to
  b_is_from_one_to : Binds K a.d_is_from_one_to ["thing", "most"] []
  m_is_from_one_to : mg "is_from_one_to" = some (.ref a.f_is_from_one_to)
  F_is_whole_number : Fun K "is_whole_number" "is_whole_number" s_is_whole_number a.f_is_whole_number a.d_is_whole_number
  b_is_whole_number : Binds K a.d_is_whole_number ["thing"] []
  m_is_whole_number : mg "is_whole_number" = some (.ref a.f_is_whole_number)
  F_law_is_state : Fun K "_law_is_state" "_law_is_state" s_law_is_state a.f_law_is_state a.d_law_is_state
  b_law_is_state : Binds K a.d_law_is_state ["_law_thing", "_law_room_here"] []
  m_law_is_state : mg "_law_is_state" = some (.ref a.f_law_is_state)
  F_Bags_is_state : Fun K "is_state" "Bags.is_state" s_Bags_is_state a.f_Bags_is_state a.d_Bags_is_state
  b_Bags_is_state : Binds K a.d_Bags_is_state ["self", "thing"] []
  F_law_mix : Fun K "_law_mix" "_law_mix" s_law_mix a.f_law_mix a.d_law_mix
  b_law_mix : Binds K a.d_law_mix ["_law_script", "_law_k"] []
  m_law_mix : mg "_law_mix" = some (.ref a.f_law_mix)
  F_law_room : Fun K "_law_room" "_law_room" s_law_room a.f_law_room a.d_law_room
  b_law_room : Binds K a.d_law_room ["_law_cell", "_law_number"] []
  m_law_room : mg "_law_room" = some (.ref a.f_law_room)
  m_Bags : mg "Bags" = some (.ref a.c_Bags)
  cl_Bags : Cls K a.c_Bags
  mk_Bags : Mk K a.c_Bags a.f_Bags_init
  na_Bags_room : NoAttr K a.c_Bags "room"
  me_Bags_is_state : Meth K a.c_Bags "is_state" a.f_Bags_is_state
  me_Bags_is_wish : Meth K a.c_Bags "is_wish" a.f_Bags_is_wish
  me_Bags_moves : Meth K a.c_Bags "moves" a.f_Bags_moves
  me_Bags_price : Meth K a.c_Bags "price" a.f_Bags_price
  me_Bags_priced : Meth K a.c_Bags "priced" a.f_World_priced
  n_all : mg "all" = none
  n_bool : mg "bool" = none
  n_int : mg "int" = none
  n_isinstance : mg "isinstance" = none
  n_len : mg "len" = none
  n_list : mg "list" = none
  n_max : mg "max" = none
  n_min : mg "min" = none
  n_range : mg "range" = none
  n_reversed : mg "reversed" = none
  n_set : mg "set" = none
  n_sorted : mg "sorted" = none
  n_str : mg "str" = none
  n_tuple : mg "tuple" = none
  n_zip : mg "zip" = none
  m_MOST_BAGS : mg "MOST_BAGS" = some (.int 500 a.t_MOST_BAGS)
section
variable {P : Program} {w : World} {K : PySem.W.Frag} {mg : Str → Option Value} {base : Heap} {a : Adr}
seal PA PE PS PSs PT
theorem sc_law : FnScope ["_law_script", "_law_room_here", "_law_world", "_law_k", "_law_cell", "_law_number", "_law_before", "_law_size_here", "_law_after", "_law_full"] ["_law_script"] (defScope s_law) := ⟨rfl, rfl, rfl, by decide +kernel, rfl, by decide +kernel, by decide +kernel⟩
theorem sc_law_same : FnScope ["_law_found", "_law_due_here", "_law_one", "_law_other"] ["_law_found", "_law_due_here"] (defScope s_law_same) := ⟨rfl, rfl, rfl, by decide +kernel, rfl, by decide +kernel, by decide +kernel⟩
theorem sc_law_whole : FnScope ["_law_found"] ["_law_found"] (defScope s_law_whole) := ⟨rfl, rfl, rfl, by decide +kernel, rfl, by decide +kernel, by decide +kernel⟩
theorem sc_Bags_moves : FnScope ["self", "before", "wish", "loads", "states"] ["self", "before", "wish"] (defScope s_Bags_moves) := ⟨rfl, rfl, rfl, by decide +kernel, rfl, by decide +kernel, by decide +kernel⟩
theorem sc_World_priced : FnScope ["self", "before", "wish", "states", "pairs"] ["self", "before", "wish", "states"] (defScope s_World_priced) := ⟨rfl, rfl, rfl, by decide +kernel, rfl, by decide +kernel, by decide +kernel⟩
theorem sc_Bags_price : FnScope ["self", "before", "wish", "after", "places"] ["self", "before", "wish", "after"] (defScope s_Bags_price) := ⟨rfl, rfl, rfl, by decide +kernel, rfl, by decide +kernel, by decide +kernel⟩
theorem sc_filled : FnScope ["loads", "at", "size"] ["loads", "at", "size"] (defScope s_filled) := ⟨rfl, rfl, rfl, by decide +kernel, rfl, by decide +kernel, by decide +kernel⟩
theorem sc_opened : FnScope ["loads", "size"] ["loads", "size"] (defScope s_opened) := ⟨rfl, rfl, rfl, by decide +kernel, rfl, by decide +kernel, by decide +kernel⟩
theorem sc_Bags_init : FnScope ["self", "room"] ["self", "room"] (defScope s_Bags_init) := ⟨rfl, rfl, rfl, by decide +kernel, rfl, by decide +kernel, by decide +kernel⟩
theorem sc_law_moves : FnScope ["_law_world", "_law_before", "_law_size_here", "_law_room_here", "_law_found"] ["_law_world", "_law_before", "_law_size_here", "_law_room_here"] (defScope s_law_moves) := ⟨rfl, rfl, rfl, by decide +kernel, rfl, by decide +kernel, by decide +kernel⟩
theorem sc_law_due : FnScope ["_law_before", "_law_size_here", "_law_room_here", "_law_found", "_law_after"] ["_law_before", "_law_size_here", "_law_room_here"] (defScope s_law_due) := ⟨rfl, rfl, rfl, by decide +kernel, rfl, by decide +kernel, by decide +kernel⟩
theorem sc_law_puts : FnScope ["_law_before", "_law_size_here", "_law_room_here", "_law_found", "_law_k"] ["_law_before", "_law_size_here", "_law_room_here"] (defScope s_law_puts) := ⟨rfl, rfl, rfl, by decide +kernel, rfl, by decide +kernel, by decide +kernel⟩
theorem sc_law_price : FnScope ["_law_before", "_law_size_here", "_law_after", "_law_room_here"] ["_law_before", "_law_size_here", "_law_after", "_law_room_here"] (defScope s_law_price) := ⟨rfl, rfl, rfl, by decide +kernel, rfl, by decide +kernel, by decide +kernel⟩
theorem sc_law_behind : FnScope ["_law_before", "_law_size_here", "_law_room_here", "_law_number", "_law_way", "_law_new", "_law_at", "_law_rest", "_law_some"] ["_law_before", "_law_size_here", "_law_room_here", "_law_number"] (defScope s_law_behind) := ⟨rfl, rfl, rfl, by decide +kernel, rfl, by decide +kernel, by decide +kernel⟩
theorem sc_law_loads : FnScope ["_law_cell", "_law_room_here", "_law_many"] ["_law_cell", "_law_room_here", "_law_many"] (defScope s_law_loads) := ⟨rfl, rfl, rfl, by decide +kernel, rfl, by decide +kernel, by decide +kernel⟩
theorem sc_law_size : FnScope ["_law_cell", "_law_k", "_law_room_here", "_law_number", "_law_some"] ["_law_cell", "_law_k", "_law_room_here"] (defScope s_law_size) := ⟨rfl, rfl, rfl, by decide +kernel, rfl, by decide +kernel, by decide +kernel⟩
theorem sc_law_mixed : FnScope ["_law_cell", "_law_k", "_law_number"] ["_law_cell", "_law_k"] (defScope s_law_mixed) := ⟨rfl, rfl, rfl, by decide +kernel, rfl, by decide +kernel, by decide +kernel⟩
theorem sc_law_raw : FnScope ["_law_script", "_law_k"] ["_law_script", "_law_k"] (defScope s_law_raw) := ⟨rfl, rfl, rfl, by decide +kernel, rfl, by decide +kernel, by decide +kernel⟩
theorem sc_law_kinds : FnScope ["_law_world", "_law_state", "_law_room_here", "_law_number", "_law_some", "_law_thing", "_law_truth"] ["_law_world", "_law_state", "_law_room_here", "_law_number"] (defScope s_law_kinds) := ⟨rfl, rfl, rfl, by decide +kernel, rfl, by decide +kernel, by decide +kernel⟩
theorem sc_Bags_is_wish : FnScope ["self", "thing"] ["self", "thing"] (defScope s_Bags_is_wish) := ⟨rfl, rfl, rfl, by decide +kernel, rfl, by decide +kernel, by decide +kernel⟩
theorem sc_is_from_one_to : FnScope ["thing", "most"] ["thing", "most"] (defScope s_is_from_one_to) := ⟨rfl, rfl, rfl, by decide +kernel, rfl, by decide +kernel, by decide +kernel⟩
theorem sc_is_whole_number : FnScope ["thing"] ["thing"] (defScope s_is_whole_number) := ⟨rfl, rfl, rfl, by decide +kernel, rfl, by decide +kernel, by decide +kernel⟩
theorem sc_law_is_state : FnScope ["_law_thing", "_law_room_here", "_law_k"] ["_law_thing", "_law_room_here"] (defScope s_law_is_state) := ⟨rfl, rfl, rfl, by decide +kernel, rfl, by decide +kernel, by decide +kernel⟩
theorem sc_Bags_is_state : FnScope ["self", "thing"] ["self", "thing"] (defScope s_Bags_is_state) := ⟨rfl, rfl, rfl, by decide +kernel, rfl, by decide +kernel, by decide +kernel⟩
theorem sc_law_mix : FnScope ["_law_script", "_law_k", "_law_turn"] ["_law_script", "_law_k"] (defScope s_law_mix) := ⟨rfl, rfl, rfl, by decide +kernel, rfl, by decide +kernel, by decide +kernel⟩
theorem sc_law_room : FnScope ["_law_cell", "_law_number"] ["_law_cell", "_law_number"] (defScope s_law_room) := ⟨rfl, rfl, rfl, by decide +kernel, rfl, by decide +kernel, by decide +kernel⟩
theorem set_perm : ∀ (l : List Int) (i : Nat) (w : Int), i < l.length → (l.set i w).Perm (w :: l.eraseIdx i)
  | [], _, _, h => by simp at h
  | x :: r, 0, w, _ => List.Perm.refl _
  | x :: r, i + 1, w, h => by
    have := set_perm r i w (by simpa using h)
    exact (this.cons x).trans (List.Perm.swap w x _)
theorem own_perm : ∀ (l : List Int) (i : Nat), i < l.length → l.Perm (l.getD i 0 :: l.eraseIdx i)
  | [], _, h => by simp at h
  | x :: r, 0, _ => List.Perm.refl _
  | x :: r, i + 1, h => by
    have := own_perm r i (by simpa using h)
    exact (this.cons x).trans (List.Perm.swap _ x _)
theorem set_same {l : List Int} {i j : Nat} {w : Int} (hi : i < l.length) (hj : j < l.length) (e : l.getD i 0 = l.getD j 0) : (l.set i w).Perm (l.set j w) := by
  have a := (own_perm l i hi).symm.trans (own_perm l j hj)
  rw [e] at a
  have b := (List.perm_cons _).mp a
  exact (set_perm l i w hi).trans ((b.cons w).trans (set_perm l j w hj).symm)
theorem sort_split (v : Int) : ∀ {l : List Int}, l.Pairwise (· ≤ ·) → l = (l.filter fun x => decide (x < v)) ++ l.filter fun x => !decide (x < v)
  | [], _ => rfl
  | x :: r, h => by
    have hr := sort_split v (List.Pairwise.of_cons h)
    by_cases c : x < v
    · simp only [List.filter_cons, decide_eq_true c, Bool.not_true, if_true, List.cons_append]
      rw [if_neg (by decide)]
      rw [← hr]
    · have hx := (List.pairwise_cons.mp h).1
      have e : r.filter (fun x => decide (x < v)) = [] := by
        rw [List.filter_eq_nil_iff]
        intro y hy
        have := hx y hy
        simp
        omega
      simp only [List.filter_cons, decide_eq_false c, Bool.not_false, if_true]
      rw [e] at hr
      rw [if_neg (by decide), e, List.nil_append]
      rw [List.nil_append] at hr
      rw [← hr]
theorem sorted_eq {a b : List Int} (h : a.Perm b) (s1 : a.Pairwise (· ≤ ·)) (s2 : b.Pairwise (· ≤ ·)) : a = b :=
  List.Perm.eq_of_pairwise (fun x y _ _ h1 h2 => Int.le_antisymm h1 h2) s1 s2 h
theorem getD_app {l m : List Int} {j : Nat} (h : j < l.length) : (l ++ m).getD j 0 = l.getD j 0 := by
  rw [List.getD_eq_getElem?_getD, List.getD_eq_getElem?_getD, List.getElem?_append_left h]
theorem getD_app2 {l m : List Int} {j : Nat} (h : ¬ j < l.length) (h2 : j < (l ++ m).length) : (l ++ m).getD j 0 ∈ m := by
  rw [List.getD_eq_getElem?_getD, List.getElem?_append_right (by omega), List.getElem?_eq_getElem (by rw [List.length_append] at h2; omega)]
  exact List.getElem_mem _
theorem mem_getD' {l : List Int} {j : Nat} (h : j < l.length) : l.getD j 0 ∈ l := by
  rw [List.getD_eq_getElem?_getD, List.getElem?_eq_getElem h]
  exact List.getElem_mem h
theorem first_diff {a b : List Int} {k j : Nat} {w : Int} (sa : a.Pairwise (· ≤ ·)) (sb : b.Pairwise (· ≤ ·)) (hk : k < a.length) (hw : a.getD k 0 < w) (hp : b.Perm (a.set k w)) (hj : j < a.length)
    (heq : ∀ i, i < j → a.getD i 0 = b.getD i 0) (hne : a.getD j 0 ≠ b.getD j 0) : a.getD j 0 = a.getD k 0 := by
  have hlen : b.length = a.length := by rw [hp.length_eq, List.length_set]
  generalize hv : a.getD k 0 = v at *
  have pb : b.Perm (w :: a.eraseIdx k) := hp.trans (set_perm a k w hk)
  have pa : a.Perm (v :: a.eraseIdx k) := by have := own_perm a k hk; rwa [hv] at this
  have c1 : ¬ a.getD j 0 < v := by
    intro q
    have f : (a.filter fun x => decide (x < v)) = b.filter fun x => decide (x < v) := by
      refine sorted_eq ?_ (sa.filter _) (sb.filter _)
      have e1 := pa.filter (fun x => decide (x < v))
      have e2 := pb.filter (fun x => decide (x < v))
      rw [List.filter_cons, if_neg (by simp)] at e1
      rw [List.filter_cons, if_neg (by simp; omega)] at e2
      exact e1.trans e2.symm
    have ea := sort_split v sa
    have eb := sort_split v sb
    by_cases hl : j < (a.filter fun x => decide (x < v)).length
    · refine hne ?_
      rw [ea, getD_app hl, f, ← getD_app (m := b.filter fun x => !decide (x < v)) (by rw [← f]; exact hl), ← eb]
    · have := getD_app2 (m := a.filter fun x => !decide (x < v)) hl (by rw [← ea]; exact hj)
      rw [← ea] at this
      have h3 := (List.mem_filter.mp this).2
      rw [decide_eq_true q] at h3
      cases h3
  by_cases c2 : v < a.getD j 0
  · exfalso
    have ct : ∀ l : List Int, l.count v = (l.take j).count v + (l.drop j).count v := fun l => by
      rw [← List.count_append, List.take_append_drop]
    have tk : a.take j = b.take j := by
      refine List.ext_getElem (by rw [List.length_take, List.length_take]; omega) fun i h1 h2 => ?_
      have hi : i < j := by rw [List.length_take] at h1; omega
      have := heq i hi
      rw [List.getD_eq_getElem?_getD, List.getD_eq_getElem?_getD, List.getElem?_eq_getElem (by omega), List.getElem?_eq_getElem (by omega)] at this
      rw [List.getElem_take, List.getElem_take]
      exact this
    have dz : (a.drop j).count v = 0 := by
      rw [List.count_eq_zero]
      intro hm
      obtain ⟨i, hi, e⟩ := List.getElem_of_mem hm
      rw [List.getElem_drop] at e
      have hij : j + i < a.length := by rw [List.length_drop] at hi; omega
      have le : a[j] ≤ a[j + i] := by
        by_cases z : i = 0
        · subst z; exact Int.le_refl _
        · exact List.pairwise_iff_getElem.mp sa j (j + i) hj hij (by omega)
      rw [List.getD_eq_getElem?_getD, List.getElem?_eq_getElem hj, Option.getD_some] at c2
      omega
    have n1 := pa.count_eq v
    have n2 := pb.count_eq v
    rw [List.count_cons_self] at n1
    rw [List.count_cons_of_ne (by omega)] at n2
    have n3 := ct a
    have n4 := ct b
    rw [tk] at n3
    omega
  · omega
theorem some_diff {a b : List Int} {k : Nat} {w : Int} (hk : k < a.length) (hw : a.getD k 0 < w) (hp : b.Perm (a.set k w)) : ∃ j, j < a.length ∧ a.getD j 0 ≠ b.getD j 0 := by
  have hlen : b.length = a.length := by rw [hp.length_eq, List.length_set]
  refine Classical.byContradiction fun no => ?_
  have e : a = b := by
    refine List.ext_getElem hlen.symm fun j h1 h2 => ?_
    refine Classical.byContradiction fun q => no ⟨j, h1, ?_⟩
    rw [List.getD_eq_getElem?_getD, List.getD_eq_getElem?_getD, List.getElem?_eq_getElem h1, List.getElem?_eq_getElem h2]
    exact q
  have pb : b.Perm (w :: a.eraseIdx k) := hp.trans (set_perm a k w hk)
  have pa := own_perm a k hk
  rw [← e] at pb
  have n1 := pa.count_eq w
  have n2 := pb.count_eq w
  rw [List.count_cons_self] at n2
  rw [List.count_cons_of_ne (by omega)] at n1
  omega
def Goes (R : Int) (os : List Int) (s : Int) (fs : List Int) (pr : Int) : Prop := fs.Pairwise (· ≤ ·) ∧ ((pr = 1 ∧ fs.Perm (os ++ [s])) ∨ (pr = 0 ∧ ∃ k, k < os.length ∧ os.getD k 0 + s ≤ R ∧ fs.Perm (os.set k (os.getD k 0 + s))))
def Lds (R : Int) (os : List Int) : Prop := os.Pairwise (· ≤ ·) ∧ ∀ x ∈ os, 1 ≤ x ∧ x ≤ R
theorem set_tk {l : List Int} {k : Nat} {w : Int} (h : k < l.length) : l.take k ++ [w] ++ l.drop (k + 1) = l.set k w := by
  rw [List.set_eq_take_append_cons_drop, if_pos h]
  simp
def TL (H : Hp) : List V → List (List Int) → Prop
  | [], [] => True
  | x :: r, t :: ts => (∃ q, x = .ref q ∧ H q = some (.tup (t.map V.int))) ∧ TL H r ts
  | _, _ => False
theorem TL.ext {H H' : Hp} (e : Ext H H') : ∀ {xs : List V} {ts : List (List Int)}, TL H xs ts → TL H' xs ts
  | [], [], _ => trivial
  | x :: r, t :: ts, ⟨⟨q, h1, h2⟩, h⟩ => ⟨⟨q, h1, e _ _ h2⟩, TL.ext e h⟩
  | [], _ :: _, h => h.elim
  | _ :: _, [], h => h.elim
theorem TL.but {H H' : Hp} {l : Addr} {ys : List V} (hl : H l = some (.lst ys)) (b : But l H H') : ∀ {xs : List V} {ts : List (List Int)}, TL H xs ts → TL H' xs ts
  | [], [], _ => trivial
  | x :: r, t :: ts, ⟨⟨q, h1, h2⟩, h⟩ => ⟨⟨q, h1, b _ _ (ne_of h2 hl (by intro z; cases z)) h2⟩, TL.but hl b h⟩
  | [], _ :: _, h => h.elim
  | _ :: _, [], h => h.elim
theorem TL.snoc {H : Hp} {q : Addr} {t : List Int} (hq : H q = some (.tup (t.map V.int))) : ∀ {xs : List V} {ts : List (List Int)}, TL H xs ts → TL H (xs ++ [.ref q]) (ts ++ [t])
  | [], [], _ => ⟨⟨q, rfl, hq⟩, trivial⟩
  | x :: r, u :: ts, ⟨h1, h⟩ => ⟨h1, TL.snoc hq h⟩
  | [], _ :: _, h => h.elim
  | _ :: _, [], h => h.elim
theorem TL.len {H : Hp} : ∀ {xs : List V} {ts : List (List Int)}, TL H xs ts → xs.length = ts.length
  | [], [], _ => rfl
  | x :: r, u :: ts, ⟨h1, h⟩ => by rw [List.length_cons, List.length_cons, TL.len h]
  | [], _ :: _, h => h.elim
  | _ :: _, [], h => h.elim
theorem TL.get {H : Hp} : ∀ {xs : List V} {ts : List (List Int)} {i : Nat}, TL H xs ts → i < xs.length → ∃ q t, xs[i]? = some (.ref q) ∧ t ∈ ts ∧ H q = some (.tup (t.map V.int))
  | [], [], i, _, h => by simp at h
  | x :: r, t :: ts, 0, ⟨⟨q, h1, h2⟩, h⟩, _ => ⟨q, t, by rw [h1]; rfl, List.mem_cons_self, h2⟩
  | x :: r, t :: ts, i + 1, ⟨h1, h⟩, hl => by
    obtain ⟨q, u, e1, e2, e3⟩ := TL.get h (i := i) (by simpa using hl)
    exact ⟨q, u, e1, List.mem_cons_of_mem _ e2, e3⟩
  | [], _ :: _, _, h, _ => h.elim
  | _ :: _, [], _, h, _ => h.elim
def dT (t : List Int) : L2.D := .tup (t.map D.int)
theorem TL.rep {H : Hp} : ∀ {xs : List V} {ts : List (List Int)}, TL H xs ts → RepL H (ts.map dT) xs
  | [], [], _ => RepL.nil
  | x :: r, t :: ts, ⟨⟨q, h1, h2⟩, h⟩ => by rw [h1]; exact RepL.cons (Rep.tupInts h2) (TL.rep h)
  | [], _ :: _, h => h.elim
  | _ :: _, [], h => h.elim
theorem okT : ∀ ts : List (List Int), D.eqOkL (ts.map dT) = true
  | [] => rfl
  | t :: ts => by show (D.eqOk (dT t) && D.eqOkL (ts.map dT)) = true; rw [okT ts, Bool.and_true]; exact eqOk_ints t
theorem depT (t : List Int) : (dT t).depth = 1 := by show D.depthL _ + 1 = 1; rw [depthL_ints]
theorem deplT : ∀ ts : List (List Int), D.depthL (ts.map dT) ≤ 1
  | [] => by simp [D.depthL]
  | t :: ts => by have := deplT ts; show max (dT t).depth (D.depthL (ts.map dT)) ≤ 1; rw [depT]; omega
theorem eqD_nil (ts : List (List Int)) : eqD (.lst (ts.map dT)) (.lst []) = decide (ts = []) := by
  cases ts with
  | nil => simp [eqD, D.py, D.pyL, PyData.eqv, PyData.eqvAll]
  | cons t r => simp [eqD, D.py, D.pyL, PyData.eqv, PyData.eqvAll]
def Puts (R : Int) (os : List Int) (s : Int) (i : Nat) (ts : List (List Int)) : Prop := (∀ t ∈ ts, Goes R os s t 0) ∧ ∀ k, k < i → os.getD k 0 + s ≤ R → ∃ t ∈ ts, t.Pairwise (· ≤ ·) ∧ t.Perm (os.set k (os.getD k 0 + s))
theorem PairsH.keep {H H' : Hp} (e : Kp H H') {vs : List V} {Ks : List (List Int × Int)} (r : PairsH H vs Ks) : PairsH H' vs Ks := by
  induction r with
  | nil => exact .nil
  | cons x y _ ih => exact .cons (e _ _ x rfl) (e _ _ y rfl) ih
theorem PairsH.snoc {H : Hp} {c a : Addr} {L : List Int} {x : Int} (hc : H c = some (.tup [.ref a, .int x])) (ha : H a = some (.tup (L.map V.int))) {vs : List V} {Ks : List (List Int × Int)} (r : PairsH H vs Ks) : PairsH H (vs ++ [.ref c]) (Ks ++ [(L, x)]) := by
  induction r with
  | nil => exact .cons hc ha .nil
  | cons x y _ ih => exact .cons x y ih
theorem RefsH.keep {H H' : Hp} (e : Kp H H') {vs : List V} {Ls : List (List Int)} (r : RefsH H vs Ls) : RefsH H' vs Ls := by
  induction r with
  | nil => exact .nil
  | cons x _ ih => exact .cons (e _ _ x rfl) ih
theorem RefsH.snoc {H H' : Hp} {a : Addr} {L : List Int} (e : Ext H H') (ha : H' a = some (.tup (L.map V.int))) {vs : List V} {Ls : List (List Int)} (r : RefsH H vs Ls) : RefsH H' (vs ++ [.ref a]) (Ls ++ [L]) := by
  induction r with
  | nil => exact .cons ha .nil
  | cons x _ ih => exact .cons (e _ _ x) ih
def prI (os L : List Int) : Int := if L.length = os.length then 0 else 1
theorem Goes.pr {R s pr : Int} {os L : List Int} (h : Goes R os s L pr) : pr = prI os L := by
  unfold prI
  rcases h.2 with ⟨e, p⟩ | ⟨e, k, hk, _, p⟩
  · have := p.length_eq
    rw [List.length_append, List.length_singleton] at this
    rw [if_neg (by omega), e]
  · have := p.length_eq
    rw [List.length_set] at this
    rw [if_pos this, e]
def prB (os L : List Int) : List Int × Int := (L, prI os L)
def LongOk (os : List Int) (s : Int) : Prop := os.length ≤ 60 ∨ (os.length ≤ 900 ∧ (os ++ [s]).Pairwise (· ≤ ·))
def PrV (R : Int) (os : List Int) (s : Int) (L : List Int) (v : V) : Prop := (∃ pr, Goes R os s L pr ∧ v = .int pr) ∨ ((∀ pr, ¬ Goes R os s L pr) ∧ v = .non)
def PrOk (R : Int) (os : List Int) (s : Int) (L : List Int) (v : V) : Prop := (Lds R os ∧ 1 ≤ s ∧ os.length ≤ 60 ∧ PrV R os s L v) ∨ (os.length ≤ 900 ∧ (os ++ [s]).Pairwise (· ≤ ·) ∧ L = os ++ [s] ∧ v = if os.length < 500 then .int 1 else .non)
theorem PrV.uniq {R s : Int} {os L : List Int} {v u : V} (h : PrV R os s L v) (k : PrV R os s L u) : v = u := by
  rcases h with ⟨p, h1, rfl⟩ | ⟨h1, rfl⟩ <;> rcases k with ⟨q, k1, rfl⟩ | ⟨k1, rfl⟩
  · rw [h1.pr, k1.pr]
  · exact absurd h1 (k1 p)
  · exact absurd k1 (h1 q)
  · rfl
theorem PrV.some (R s : Int) (os L : List Int) : ∃ v, PrV R os s L v := by
  by_cases h : ∃ pr, Goes R os s L pr
  · obtain ⟨pr, h⟩ := h
    exact ⟨_, .inl ⟨pr, h, rfl⟩⟩
  · exact ⟨_, .inr ⟨fun pr q => h ⟨pr, q⟩, rfl⟩⟩
theorem PrOk.val {R s : Int} {os L : List Int} {v : V} (h : PrOk R os s L v) : v = .non ∨ ∃ i, v = .int i := by
  rcases h with ⟨_, _, _, ⟨p, _, e⟩ | ⟨_, e⟩⟩ | ⟨_, _, _, e⟩
  · exact .inr ⟨p, e⟩
  · exact .inl e
  · rw [e]
    split
    · exact .inr ⟨_, rfl⟩
    · exact .inl rfl
inductive PairsV (H : Hp) : List V → List (List Int × V) → Prop
  | nil : PairsV H [] []
  | cons {c a : Addr} {L : List Int} {x : V} {vs : List V} {Ks : List (List Int × V)} : H c = some (.tup [.ref a, x]) → H a = some (.tup (L.map V.int)) → PairsV H vs Ks → PairsV H (.ref c :: vs) ((L, x) :: Ks)
theorem PairsV.length {H : Hp} {vs : List V} {Ks : List (List Int × V)} (r : PairsV H vs Ks) : vs.length = Ks.length := by
  induction r with
  | nil => rfl
  | cons _ _ _ ih => simp [ih]
theorem PairsV.mono {H H' : Hp} (e : Ext H H') {vs : List V} {Ks : List (List Int × V)} (r : PairsV H vs Ks) : PairsV H' vs Ks := by
  induction r with
  | nil => exact .nil
  | cons x y _ ih => exact .cons (e _ _ x) (e _ _ y) ih
theorem PairsV.keep {H H' : Hp} (e : Kp H H') {vs : List V} {Ks : List (List Int × V)} (r : PairsV H vs Ks) : PairsV H' vs Ks := by
  induction r with
  | nil => exact .nil
  | cons x y _ ih => exact .cons (e _ _ x rfl) (e _ _ y rfl) ih
theorem PairsV.snoc {H : Hp} {c a : Addr} {L : List Int} {x : V} (hc : H c = some (.tup [.ref a, x])) (ha : H a = some (.tup (L.map V.int))) {vs : List V} {Ks : List (List Int × V)} (r : PairsV H vs Ks) : PairsV H (vs ++ [.ref c]) (Ks ++ [(L, x)]) := by
  induction r with
  | nil => exact .cons hc ha .nil
  | cons x y _ ih => exact .cons x y ih
theorem PairsV.get {H : Hp} {vs : List V} {Ks : List (List Int × V)} (r : PairsV H vs Ks) : ∀ (i : Nat) (v : V), vs[i]? = some v → ∃ c a L x, v = .ref c ∧ Ks[i]? = some (L, x) ∧ H c = some (.tup [.ref a, x]) ∧ H a = some (.tup (L.map V.int)) := by
  induction r with
  | nil => exact fun i v h => by simp at h
  | cons x y _ ih =>
    intro i v h
    cases i with
    | zero => simp at h; subst h; exact ⟨_, _, _, _, rfl, rfl, x, y⟩
    | succ i => simpa using ih i v (by simpa using h)
theorem PairsV.ints {H : Hp} {vs : List V} {Ks : List (List Int × V)} (r : PairsV H vs Ks) : ∀ {Js : List (List Int × Int)}, Ks = Js.map (fun p => (p.1, V.int p.2)) → PairsH H vs Js := by
  induction r with
  | nil => intro Js e; cases Js with
    | nil => exact .nil
    | cons _ _ => cases e
  | cons x y _ ih =>
    intro Js e
    cases Js with
    | nil => cases e
    | cons p Js =>
      rw [List.map_cons] at e
      injection e with e1 e2
      injection e1 with e3 e4
      subst e3 e4
      exact .cons x y (ih e2)
def isNo : V → Bool
  | .non => true
  | _ => false
theorem rise_uniqI {a b : List (List Int)} (ha : a.Pairwise (· < ·)) (hb : b.Pairwise (· < ·)) (h : ∀ L, L ∈ a ↔ L ∈ b) : a = b := by
  have nd : ∀ {l : List (List Int)}, l.Pairwise (· < ·) → l.Nodup := fun h => h.imp fun z e => by rw [e] at z; exact List.lt_irrefl _ z
  have p : a.Perm b := (List.perm_ext_iff_of_nodup (nd ha) (nd hb)).mpr h
  exact List.Perm.eq_of_pairwise (le := fun x y : List Int => x < y) (fun x y _ _ h1 h2 => absurd (List.lt_trans h1 h2) (List.lt_irrefl _)) ha hb p
theorem ints_inj {xs ys : List Int} (h : xs.map V.int = ys.map V.int) : xs = ys := by
  have := congrArg (List.map fun v : V => match v with | .int i => i | _ => 0) h
  rw [List.map_map, List.map_map] at this
  simpa [Function.comp_def] using this
def StB (H : Hp) (R : Int) (x : V) (b : Bool) : Prop := (b = false ∧ ∃ k, HasK H x k ∧ k ≠ .tup) ∨ ∃ (p : Addr) (xs : List V), x = .ref p ∧ H p = some (.tup xs) ∧ (xs.length ≤ 60 ∨ ∃ n, n ≤ 900 ∧ xs = (List.replicate n (1 : Int)).map V.int) ∧ (∀ y ∈ xs, ∃ k, HasK H y k) ∧ (b = true ↔ xs.length ≤ 500 ∧ ∃ ns : List Int, xs = ns.map V.int ∧ Lds R ns)
theorem StB.mono {H H' : Hp} {R : Int} {x : V} {b : Bool} (e : Ext H H') (h : StB H R x b) : StB H' R x b := by
  rcases h with ⟨h, k, h1, h2⟩ | ⟨p, xs, h1, h2, h3, h4, h5⟩
  · exact .inl ⟨h, k, h1.mono e, h2⟩
  · exact .inr ⟨p, xs, h1, e _ _ h2, h3, fun y hy => by obtain ⟨k, hk⟩ := h4 y hy; exact ⟨k, hk.mono e⟩, h5⟩
theorem ones_asc (n : Nat) : (List.replicate n (1 : Int)).Pairwise (· ≤ ·) := List.pairwise_replicate.mpr (.inr (Int.le_refl _))
def sp_law_whole : Sp := fun vs H Q _ => ∃ x k, vs = [x] ∧ HasK H x k ∧ Q (.bl (k == .int)) H
theorem ok_law_whole (T : Txt K mg a) : FnOk P w K mg base (CXU P w) 1 a.f_law_whole a.d_law_whole ["_law_found"] (sp_law_whole) := by
  refine T.F_law_whole.okU sc_law_whole (fun vs H Q E h => ?_) (fun cdv A outer s H vs Q E hr h => ?_)
  · obtain ⟨x, k, rfl, hk, hq⟩ := h
    rfl
  · obtain ⟨x, k, rfl, hk, hq⟩ := h
    refine ⟨_, (pss_one (ps_ret (pe_and (pe_callB cIsin (by rfl) T.n_isinstance PyProof.Rows.boot_isinstance (pa_cons (pv 0) (pa_cons (pe_bltn (v := V.ty "int") (by rfl) T.n_int PyProof.Rows.boot_int rfl) pa_nil))) (pe_one (pe_not (pe_callB cIsin (by rfl) T.n_isinstance PyProof.Rows.boot_isinstance (pa_cons (pv 0) (pa_cons (pe_bltn (v := V.ty "bool") (by rfl) T.n_bool PyProof.Rows.boot_bool rfl) pa_nil)))))))), ?_⟩
    repeat walk_at "vs"
    refine r_isI hk ?_
    cases k <;> (repeat walk_at "vs") <;> first | exact hq | (refine r_isB hk ?_; (repeat walk_at "vs"); exact hq)
def sp_law_same (n : Nat) : Sp := fun vs H Q _ => ∃ x y d1 d2, vs = [x, y] ∧ Rep H d1 x ∧ Rep H d2 y ∧ d2.fine = true ∧ d2.depth ≤ n ∧ ∀ b H', (b = true ↔ d1 = d2) → Ext H H' → Q (.bl b) H'
theorem same_of {n k : Nat} {spA : Sp} (T : Txt K mg a) (hA : ∀ vs H Q E, (∃ m, n = m + 1 ∧ sp_law_same m vs H Q E) → spA vs H Q E) (G : FnOk P w K mg base (CXU P w) (k + 1) a.f_law_same a.d_law_same ["_law_found", "_law_due_here"] spA) :
    FnOk P w K mg base (CXU P w) (k + 2) a.f_law_same a.d_law_same ["_law_found", "_law_due_here"] (sp_law_same n) := by
  refine T.F_law_same.okU sc_law_same (fun vs H Q E h => ?_) (fun cdv A outer s H vs Q E hr h => ?_)
  · obtain ⟨x, y, d1, d2, rfl, _⟩ := h
    rfl
  · obtain ⟨x, y, d1, d2, rfl, h1, h2, hf, hn, hq⟩ := h
    refine ⟨_, (pss_cons (ps_if (pt_cmpR oIsN (pv 1) pe_non (nomark _)) (pss_one (ps_ret (pe_cmpR oIsN (pv 0) pe_non (nomark _)))) pss_nil)
      (pss_cons (ps_if (ptT (pe_callB cIsin (by rfl) T.n_isinstance PyProof.Rows.boot_isinstance (pa_cons (pv 1) (pa_cons (pe_bltn (v := V.ty "bool") (by rfl) T.n_bool PyProof.Rows.boot_bool rfl) pa_nil))) (fun _ => rfl)) (pss_one (ps_ret (pe_and (pe_callB cIsin (by rfl) T.n_isinstance PyProof.Rows.boot_isinstance (pa_cons (pv 0) (pa_cons (pe_bltn (v := V.ty "bool") (by rfl) T.n_bool PyProof.Rows.boot_bool rfl) pa_nil))) (pe_one (pe_cmpR (oEq hr) (pv 0) (pv 1) (nomark _)))))) pss_nil)
      (pss_cons (ps_if (ptT (pe_callB cIsin (by rfl) T.n_isinstance PyProof.Rows.boot_isinstance (pa_cons (pv 1) (pa_cons (pe_bltn (v := V.ty "int") (by rfl) T.n_int PyProof.Rows.boot_int rfl) pa_nil))) (fun _ => rfl)) (pss_one (ps_ret (pe_and (pe_call (ok_law_whole T) (hr.mono (by omega)) (by rfl) T.m_law_whole T.F_law_whole.kp T.b_law_whole .nil passU (pa_cons (pv 0) pa_nil)) (pe_one (pe_cmpR (oEq hr) (pv 0) (pv 1) (nomark _)))))) pss_nil)
      (pss_cons (ps_if (ptT (pe_callB cIsin (by rfl) T.n_isinstance PyProof.Rows.boot_isinstance (pa_cons (pv 1) (pa_cons (pe_bltn (v := V.ty "str") (by rfl) T.n_str PyProof.Rows.boot_str rfl) pa_nil))) (fun _ => rfl)) (pss_one (ps_ret (pe_and (pe_callB cIsin (by rfl) T.n_isinstance PyProof.Rows.boot_isinstance (pa_cons (pv 0) (pa_cons (pe_bltn (v := V.ty "str") (by rfl) T.n_str PyProof.Rows.boot_str rfl) pa_nil))) (pe_one (pe_cmpR (oEq hr) (pv 0) (pv 1) (nomark _)))))) pss_nil)
      (pss_cons (ps_if (PW.pt (pw_or (PW.pt (pw_and (ptT (pe_callB cIsin (by rfl) T.n_isinstance PyProof.Rows.boot_isinstance (pa_cons (pv 1) (pa_cons (pe_bltn (v := V.ty "tuple") (by rfl) T.n_tuple PyProof.Rows.boot_tuple rfl) pa_nil))) (fun _ => rfl)) (pw_and1 (pt_not (ptT (pe_callB cIsin (by rfl) T.n_isinstance PyProof.Rows.boot_isinstance (pa_cons (pv 0) (pa_cons (pe_bltn (v := V.ty "tuple") (by rfl) T.n_tuple PyProof.Rows.boot_tuple rfl) pa_nil))) (fun _ => rfl)))))) (pw_or1 (PW.pt (pw_and (ptT (pe_callB cIsin (by rfl) T.n_isinstance PyProof.Rows.boot_isinstance (pa_cons (pv 1) (pa_cons (pe_bltn (v := V.ty "list") (by rfl) T.n_list PyProof.Rows.boot_list rfl) pa_nil))) (fun _ => rfl)) (pw_and1 (pt_not (ptT (pe_callB cIsin (by rfl) T.n_isinstance PyProof.Rows.boot_isinstance (pa_cons (pv 0) (pa_cons (pe_bltn (v := V.ty "list") (by rfl) T.n_list PyProof.Rows.boot_list rfl) pa_nil))) (fun _ => rfl))))))))) (pss_one (ps_ret pe_bl)) pss_nil)
      (pss_cons (ps_if (pt_cmpR op_ne (pe_callB cLen (by rfl) T.n_len PySem.boot_len (pa_cons (pv 0) pa_nil)) (pe_callB cLen (by rfl) T.n_len PySem.boot_len (pa_cons (pv 1) pa_nil)) (nomark _)) (pss_one (ps_ret pe_bl)) pss_nil)
      (pss_cons (ps_for PassesOwn.never rfl (pi_zip2 rfl T.n_zip (pa_cons (pv 0) (pa_cons (pv 1) pa_nil))) (pg_tup rfl (pgs_cons (pg_name (i := 2) sc_law_same.nd rfl (by first | exact Or.inl rfl | exact Or.inr rfl)) (pgs_cons (pg_name (i := 3) sc_law_same.nd rfl (by first | exact Or.inl rfl | exact Or.inr rfl)) pgs_nil))) (pss_one (ps_if (pt_not (ptT (pe_call (G) hr (by rfl) T.m_law_same T.F_law_same.kp T.b_law_same .nil passU (pa_cons (pv 2) (pa_cons (pv 3) pa_nil))) (fun _ => rfl))) (pss_one (ps_ret pe_bl)) pss_nil)))
      (pss_one (ps_ret pe_bl))))))))), ?_⟩
    have k1 := h1.kd
    have k2 := h2.kd
    have no : ∀ {B : Prop}, ¬ B → (false = true ↔ B) := fun nb => ⟨fun z => Bool.noConfusion z, fun z => (nb z).elim⟩
    cases d2 with
    | non =>
      cases (show y = .non from h2)
      repeat walk_at "vs"
      refine hq _ H ?_ Ext.rfl'
      rw [decide_eq_true_iff]
      cases d1 with
      | non => exact ⟨fun _ => rfl, fun _ => h1⟩
      | bl c1 => cases (show x = .bl c1 from h1); exact ⟨fun z => (by cases z), fun z => (by cases z)⟩
      | int c1 => cases (show x = .int c1 from h1); exact ⟨fun z => (by cases z), fun z => (by cases z)⟩
      | str c1 => cases (show x = .str c1 from h1); exact ⟨fun z => (by cases z), fun z => (by cases z)⟩
      | tup c1 => obtain ⟨_, _, rfl, _⟩ := h1; exact ⟨fun z => (by cases z), fun z => (by cases z)⟩
      | lst c1 => obtain ⟨_, _, rfl, _⟩ := h1; exact ⟨fun z => (by cases z), fun z => (by cases z)⟩
      | dct => obtain ⟨_, _, rfl, _⟩ := h1; exact ⟨fun z => (by cases z), fun z => (by cases z)⟩
    | bl c =>
      cases (show y = .bl c from h2)
      repeat walk_at "vs"
      refine r_isB k2 ?_
      repeat walk_at "vs"
      refine r_isB k1 ?_
      cases d1 with
      | bl c1 =>
        cases (show x = .bl c1 from h1)
        repeat walk_at "vs"
        refine r_eqUB (hq _ H ?_ Ext.rfl')
        rw [decide_eq_true_iff]
        exact ⟨fun z => by rw [z], fun z => by cases z; rfl⟩
      | _ =>
        repeat walk_at "vs"
        exact hq false H (no fun z => by cases z) Ext.rfl'
    | int c =>
      cases (show y = .int c from h2)
      repeat walk_at "vs"
      refine r_isB k2 ?_
      repeat walk_at "vs"
      refine r_isI k2 ?_
      repeat walk_at "vs"
      refine ⟨x, _, rfl, k1, ?_⟩
      cases d1 with
      | int c1 =>
        cases (show x = .int c1 from h1)
        repeat walk_at "vs"
        refine hq _ H ?_ Ext.rfl'
        rw [decide_eq_true_iff]
        exact ⟨fun z => by rw [z], fun z => by cases z; rfl⟩
      | _ =>
        repeat walk_at "vs"
        exact hq false H (no fun z => by cases z) Ext.rfl'
    | str c =>
      cases (show y = .str c from h2)
      repeat walk_at "vs"
      refine r_isB k2 ?_
      repeat walk_at "vs"
      refine r_isI k2 ?_
      repeat walk_at "vs"
      refine r_isS k2 ?_
      repeat walk_at "vs"
      refine r_isS k1 ?_
      cases d1 with
      | str c1 =>
        cases (show x = .str c1 from h1)
        repeat walk_at "vs"
        refine r_eqUS (hq _ H ?_ Ext.rfl')
        rw [decide_eq_true_iff]
        exact ⟨fun z => by rw [z], fun z => by cases z; rfl⟩
      | _ =>
        repeat walk_at "vs"
        exact hq false H (no fun z => by cases z) Ext.rfl'
    | tup es =>
      obtain ⟨q, ys, rfl, hq', he⟩ := h2
      repeat walk_at "vs"
      refine r_isB k2 ?_
      repeat walk_at "vs"
      refine r_isI k2 ?_
      repeat walk_at "vs"
      refine r_isS k2 ?_
      repeat walk_at "vs"
      refine r_isT k2 ?_
      repeat walk_at "vs"
      refine r_isT k1 ?_
      cases d1 with
      | tup ds =>
        obtain ⟨p, xs, rfl, hp, hd⟩ := h1
        repeat walk_at "vs"
        refine r_isL k2 ?_
        repeat walk_at "vs"
        refine r_lenT hp ?_
        repeat walk_at "vs"
        refine r_lenT hq' ?_
        repeat walk_at "vs"
        have l1 := hd.length
        have l2 := he.length
        refine iteN (fun hl => ?_) (fun hl => ?_)
        · repeat walk_at "vs"
          refine hq false H (no fun z => hl ?_) Ext.rfl'
          cases z
          omega
        repeat walk_at "vs"
        refine ⟨p, q, xs, ys, true, true, rfl, SqT.of hp, SqT.of hq', for_zip2 (c := true) (d := true) (fun i σ H2 => (∃ u v, σ = [some (.ref p), some (.ref q), u, v]) ∧ Ext H H2 ∧ ds.take i = es.take i) (by omega) ⟨⟨none, none, rfl⟩, Ext.rfl', rfl⟩ (fun i σ H2 _ ⟨_, e, _⟩ => ⟨SqT.of (e _ _ hp), SqT.of (e _ _ hq')⟩) ?_ ?_⟩
        · rintro i x y σ H2 r hx hy ⟨⟨u, v, rfl⟩, e, ht⟩ hr0
          obtain ⟨d, d1, d2⟩ := hd.get hx
          obtain ⟨f, f1, f2⟩ := he.get hy
          refine r_gtup upd_same rfl ?_
          repeat walk_at "vs"
          have e2 : Ext H (upd H2 r (.tup [x, y])) := e.tr (ext_upd hr0)
          have hn' : D.depthL es + 1 ≤ n := hn
          refine hA _ _ _ _ ⟨n - 1, by omega, x, y, d, f, rfl, d2.mono e2, f2.mono e2, fineL_of hf f1, depthL_le (by omega) f1, fun b H3 hb e3 => ?_⟩
          repeat walk_at "vs"
          cases b with
          | true =>
            repeat walk_at "vs"
            refine ⟨⟨_, _, rfl⟩, e2.tr e3, ?_⟩
            rw [List.take_add_one, List.take_add_one, d1, f1, ht, hb.mp rfl]
          | false =>
            repeat walk_at "vs"
            refine hq false H3 ⟨fun z => Bool.noConfusion z, fun z => ?_⟩ (e2.tr e3)
            cases z
            rw [d1] at f1
            cases f1
            exact hb.mpr rfl
        · rintro σ H2 ⟨⟨u, v, rfl⟩, e, ht⟩
          repeat walk_at "vs"
          refine hq true H2 ⟨fun _ => ?_, fun _ => rfl⟩ e
          rw [List.take_of_length_le (by omega), List.take_of_length_le (by omega)] at ht
          rw [ht]
      | _ =>
        repeat walk_at "vs"
        exact hq false H (no fun z => by cases z) Ext.rfl'
    | lst es =>
      obtain ⟨q, ys, rfl, hq', he⟩ := h2
      repeat walk_at "vs"
      refine r_isB k2 ?_
      repeat walk_at "vs"
      refine r_isI k2 ?_
      repeat walk_at "vs"
      refine r_isS k2 ?_
      repeat walk_at "vs"
      refine r_isT k2 ?_
      repeat walk_at "vs"
      refine r_isL k2 ?_
      repeat walk_at "vs"
      refine r_isL k1 ?_
      cases d1 with
      | lst ds =>
        obtain ⟨p, xs, rfl, hp, hd⟩ := h1
        repeat walk_at "vs"
        refine r_lenL hp ?_
        repeat walk_at "vs"
        refine r_lenL hq' ?_
        repeat walk_at "vs"
        have l1 := hd.length
        have l2 := he.length
        refine iteN (fun hl => ?_) (fun hl => ?_)
        · repeat walk_at "vs"
          refine hq false H (no fun z => hl ?_) Ext.rfl'
          cases z
          omega
        repeat walk_at "vs"
        refine ⟨p, q, xs, ys, false, false, rfl, SqL.of hp, SqL.of hq', for_zip2 (c := false) (d := false) (fun i σ H2 => (∃ u v, σ = [some (.ref p), some (.ref q), u, v]) ∧ Ext H H2 ∧ ds.take i = es.take i) (by omega) ⟨⟨none, none, rfl⟩, Ext.rfl', rfl⟩ (fun i σ H2 _ ⟨_, e, _⟩ => ⟨SqL.of (e _ _ hp), SqL.of (e _ _ hq')⟩) ?_ ?_⟩
        · rintro i x y σ H2 r hx hy ⟨⟨u, v, rfl⟩, e, ht⟩ hr0
          obtain ⟨d, d1, d2⟩ := hd.get hx
          obtain ⟨f, f1, f2⟩ := he.get hy
          refine r_gtup upd_same rfl ?_
          repeat walk_at "vs"
          have e2 : Ext H (upd H2 r (.tup [x, y])) := e.tr (ext_upd hr0)
          have hn' : D.depthL es + 1 ≤ n := hn
          refine hA _ _ _ _ ⟨n - 1, by omega, x, y, d, f, rfl, d2.mono e2, f2.mono e2, fineL_of hf f1, depthL_le (by omega) f1, fun b H3 hb e3 => ?_⟩
          repeat walk_at "vs"
          cases b with
          | true =>
            repeat walk_at "vs"
            refine ⟨⟨_, _, rfl⟩, e2.tr e3, ?_⟩
            rw [List.take_add_one, List.take_add_one, d1, f1, ht, hb.mp rfl]
          | false =>
            repeat walk_at "vs"
            refine hq false H3 ⟨fun z => Bool.noConfusion z, fun z => ?_⟩ (e2.tr e3)
            cases z
            rw [d1] at f1
            cases f1
            exact hb.mpr rfl
        · rintro σ H2 ⟨⟨u, v, rfl⟩, e, ht⟩
          repeat walk_at "vs"
          refine hq true H2 ⟨fun _ => ?_, fun _ => rfl⟩ e
          rw [List.take_of_length_le (by omega), List.take_of_length_le (by omega)] at ht
          rw [ht]
      | _ =>
        repeat walk_at "vs"
        exact hq false H (no fun z => by cases z) Ext.rfl'
    | dct => cases hf
theorem ok_same_n (T : Txt K mg a) : ∀ n : Nat, FnOk P w K mg base (CXU P w) (n + 2) a.f_law_same a.d_law_same ["_law_found", "_law_due_here"] (sp_law_same n)
  | 0 => same_of (k := 0) (spA := fun _ _ _ _ => False) T (fun _ _ _ _ ⟨m, e, _⟩ => by omega) FnOk.no
  | n + 1 => same_of (n := n + 1) (k := n + 1) (spA := sp_law_same n) T (fun _ _ _ _ ⟨m, e, h⟩ => by cases e; exact h) (ok_same_n T n)
theorem ok_law_same (T : Txt K mg a) : FnOk P w K mg base (CXU P w) 7 a.f_law_same a.d_law_same ["_law_found", "_law_due_here"] (sp_law_same 5) := ok_same_n T 5
theorem same_yes {x y : V} {d : D} {H : Hp} {Q : VK} {E : XK} (h1 : Rep H d x) (h2 : Rep H d y) (hf : d.fine = true) (hd : Nat.ble d.depth 5 = true) (hq : ∀ H', Ext H H' → Q (.bl true) H') : sp_law_same 5 [x, y] H Q E :=
  ⟨x, y, d, d, rfl, h1, h2, hf, Nat.le_of_ble_eq_true hd, fun b H' hb e => by rw [hb.mpr rfl]; exact hq H' e⟩
def sp_filled : Sp := fun vs H Q _ => ∃ (p : Addr) (os : List Int) (s : Int) (kk : Nat), vs = [.ref p, .int (kk : Nat), .int s] ∧ H p = some (.tup (os.map V.int)) ∧ kk < os.length ∧ os.length ≤ 60 ∧ ∀ q (fs : List Int) H', fs.Perm (os.set kk (os.getD kk 0 + s)) → fs.Pairwise (· ≤ ·) → H' q = some (.tup (fs.map V.int)) → Ext H H' → Q (.ref q) H'
theorem ok_filled (T : Txt K mg a) : FnOk P w K mg base (CXU P w) 1 a.f_filled a.d_filled ["loads", "at", "size"] (sp_filled) := by
  refine T.F_filled.okU sc_filled (fun vs H Q E h => ?_) (fun cdv A outer s H vs Q E hr h => ?_)
  · obtain ⟨p, os, s, kk, rfl, hp, hkk, hl, hq⟩ := h
    rfl
  · obtain ⟨p, os, s, kk, rfl, hp, hkk, hl, hq⟩ := h
    refine ⟨_, (pss_one (ps_ret (pe_callTy cTuple (by rfl) T.n_tuple PyProof.Rows.boot_tuple (pa_cons (pe_callB cSorted (by rfl) T.n_sorted PyProof.Rows.boot_sorted (pa_cons (pe_op oAddV (pe_op oAddV (pe_slice oSl (pv 0) po_none (po_some (pv 1))) (pe_tup (pa_cons (pe_op oAddV (pe_ix oIx (pv 0) (pv 1) (fun _ _ => rfl)) (pv 2)) pa_nil))) (pe_slice oSl (pv 0) (po_some (pe_op oAddV (pv 1) pe_int)) po_none)) pa_nil)) pa_nil)))), ?_⟩
    have s1 : cutV (os.map V.int) none (some ((kk : Nat) : Int)) = (os.take kk).map V.int := by
      unfold cutV
      rw [HT.sIx_nat, HT.sIx_none, List.length_map, List.drop_zero, Nat.sub_zero, Nat.min_eq_left (Nat.le_of_lt hkk), List.map_take]
    have s2 : cutV (os.map V.int) (some (((kk : Nat) : Int) + 1)) none = (os.drop (kk + 1)).map V.int := by
      unfold cutV
      rw [show (((kk : Nat) : Int) + 1) = ((kk + 1 : Nat) : Int) by omega, HT.sIx_nat, HT.sIx_none, List.length_map, Nat.min_eq_left (show kk + 1 ≤ os.length by omega), ← List.map_drop, List.take_of_length_le (by rw [List.length_map, List.length_drop]; exact Nat.le_refl _)]
    have i1 := atI_ints (ns := os) (k := (kk : Nat)) (by omega) (by omega)
    rw [Int.toNat_natCast] at i1
    repeat walk_at "vs"
    refine r_slT hp (by rintro ⟨_, z⟩; rw [HT.sIx_nat, List.length_map] at z; omega) fun l1 H1 n1 q1 e1 => ?_
    rw [s1] at q1
    have hp1 := e1 _ _ hp
    repeat walk_at "vs"
    refine r_ixT hp1 i1 ?_
    repeat walk_at "vs"
    intro p2 H2 n2 q2 e2
    repeat walk_at "vs"
    refine r_catT (e2 _ _ q1) q2 (by simp; omega) fun p3 H3 q3 e3 => ?_
    have hp3 := e3 _ _ (e2 _ _ hp1)
    repeat walk_at "vs"
    refine r_slT hp3 (by rintro ⟨z, _⟩; rw [show (((kk : Nat) : Int) + 1) = ((kk + 1 : Nat) : Int) by omega, HT.sIx_nat, List.length_map] at z; omega) fun l4 H4 n4 q4 e4 => ?_
    rw [s2] at q4
    repeat walk_at "vs"
    refine r_catT (e4 _ _ q3) q4 (by simp; omega) fun p5 H5 q5 e5 => ?_
    rw [show (os.take kk).map V.int ++ [V.int (os.getD kk 0 + s)] ++ (os.drop (kk + 1)).map V.int = (os.set kk (os.getD kk 0 + s)).map V.int by rw [← set_tk hkk]; simp] at q5
    repeat walk_at "vs"
    refine r_sortedT q5 (by simp; omega) fun l6 ns' H6 n6 hp6 hs6 q6 e6 => ?_
    repeat walk_at "vs"
    refine r_tupleL q6 fun l7 H7 n7 q7 e7 => ?_
    exact hq l7 ns' H7 hp6 hs6 q7 ((((((e1.tr e2).tr e3).tr e4).tr e5).tr e6).tr e7)
def sp_opened : Sp := fun vs H Q _ => ∃ (p : Addr) (os : List Int) (s : Int), vs = [.ref p, .int s] ∧ H p = some (.tup (os.map V.int)) ∧ LongOk os s ∧ ∀ q (fs : List Int) H', fs.Perm (os ++ [s]) → fs.Pairwise (· ≤ ·) → H' q = some (.tup (fs.map V.int)) → Ext H H' → Q (.ref q) H'
theorem ok_opened (T : Txt K mg a) : FnOk P w K mg base (CXU P w) 1 a.f_opened a.d_opened ["loads", "size"] (sp_opened) := by
  refine T.F_opened.okU sc_opened (fun vs H Q E h => ?_) (fun cdv A outer s H vs Q E hr h => ?_)
  · obtain ⟨p, os, s, rfl, hp, hl, hq⟩ := h
    rfl
  · obtain ⟨p, os, s, rfl, hp, hl, hq⟩ := h
    refine ⟨_, (pss_one (ps_ret (pe_callTy cTuple (by rfl) T.n_tuple PyProof.Rows.boot_tuple (pa_cons (pe_callB cSortX (by rfl) T.n_sorted PyProof.Rows.boot_sorted (pa_cons (pe_op oAddV (pv 0) (pe_tup (pa_cons (pv 1) pa_nil))) pa_nil)) pa_nil)))), ?_⟩
    have l9 : os.length ≤ 900 := hl.elim (fun h => by omega) fun h => h.1
    repeat walk_at "vs"
    intro p1 H1 n1 q1 e1
    repeat walk_at "vs"
    refine r_catT (e1 _ _ hp) q1 (by simp; omega) fun p2 H2 q2 e2 => ?_
    rw [show os.map V.int ++ [V.int s] = (os ++ [s]).map V.int by simp] at q2
    repeat walk_at "vs"
    rcases hl with hl | ⟨_, ha⟩
    · refine r_sortXS (r_sortedT q2 (by simp; omega) fun l3 ns' H3 n3 hp3 hs3 q3 e3 => ?_)
      repeat walk_at "vs"
      refine r_tupleL q3 fun l4 H4 n4 q4 e4 => ?_
      exact hq l4 ns' H4 hp3 hs3 q4 (((e1.tr e2).tr e3).tr e4)
    · refine r_sortXT q2 (by simp; omega) ha fun l3 H3 n3 q3 e3 => ?_
      repeat walk_at "vs"
      refine r_tupleL q3 fun l4 H4 n4 q4 e4 => ?_
      exact hq l4 _ H4 (List.Perm.refl _) ha q4 (((e1.tr e2).tr e3).tr e4)
theorem fil_first {n j : Nat} {p : Nat → Bool} {r : List Nat} (h : (List.range n).filter p = j :: r) : j < n ∧ p j = true ∧ ∀ i, i < j → p i = false := by
  have hm : j ∈ (List.range n).filter p := by rw [h]; exact List.mem_cons_self
  obtain ⟨m1, m2⟩ := List.mem_filter.mp hm
  refine ⟨List.mem_range.mp m1, m2, fun i hi => ?_⟩
  cases e : p i with
  | false => rfl
  | true =>
    exfalso
    have hi' : i ∈ (List.range n).filter p := List.mem_filter.mpr ⟨List.mem_range.mpr (by have := List.mem_range.mp m1; omega), e⟩
    have sl : ((List.range n).filter p).Pairwise (· < ·) := List.Pairwise.filter _ List.pairwise_lt_range
    rw [h] at hi' sl
    rcases List.mem_cons.mp hi' with z | z
    · omega
    · have := (List.pairwise_cons.mp sl).1 i z
      omega
theorem PrV.one {R s : Int} {os L : List Int} {v : V} (h : PrV R os s L v) (hg : Goes R os s L 1) : v = .int 1 := h.uniq (.inl ⟨1, hg, rfl⟩)
theorem PrV.nought {R s : Int} {os L : List Int} {v : V} (h : PrV R os s L v) (hg : Goes R os s L 0) : v = .int 0 := h.uniq (.inl ⟨0, hg, rfl⟩)
theorem PrV.no {R s : Int} {os L : List Int} {v : V} (h : PrV R os s L v) (hg : ∀ pr, ¬ Goes R os s L pr) : v = .non := h.uniq (.inr ⟨hg, rfl⟩)
def sp_Bags_price (a : Adr) : Sp := fun vs H Q _ => ∃ (w dw b f : Addr) (os fs : List Int) (R s : Int) (v : V), vs = [.ref w, .ref b, .int s, .ref f] ∧ H w = some (.ins a.c_Bags dw [("room", .int R)]) ∧ H b = some (.tup (os.map V.int)) ∧ H f = some (.tup (fs.map V.int)) ∧ PrOk R os s fs v ∧ ∀ H', Ext H H' → Q v H'
theorem ok_Bags_price (T : Txt K mg a) : FnOk P w K mg base (CXU P w) 2 a.f_Bags_price a.d_Bags_price ["self", "before", "wish", "after"] (sp_Bags_price a) := by
  refine T.F_Bags_price.okU sc_Bags_price (fun vs H Q E h => ?_) (fun cdv A outer s H vs Q E hr h => ?_)
  · obtain ⟨w, dw, b, f, os, fs, R, s, v, rfl, hw, hb, hf, hg, hq⟩ := h
    rfl
  · obtain ⟨w, dw, b, f, os, fs, R, s, v, rfl, hw, hb, hf, hg, hq⟩ := h
    have zc_Bags := T.cl_Bags
    have zn_Bags_room := T.na_Bags_room
    refine ⟨_, (pss_cons (ps_if (pt_cmpR op_ne (pe_callB cLen (by rfl) T.n_len PySem.boot_len (pa_cons (pv 3) pa_nil)) (pe_callB cLen (by rfl) T.n_len PySem.boot_len (pa_cons (pv 1) pa_nil)) (nomark _)) (pss_one (ps_ret (pe_ifExp (PW.pt (pw_and (pt_cmpR op_lt (pe_callB cLen (by rfl) T.n_len PySem.boot_len (pa_cons (pv 1) pa_nil)) (pe_glob (v := V.int 500) (by rfl) T.m_MOST_BAGS ⟨_, rfl⟩) (nomark _)) (pw_and1 (pt_cmpR (oEq hr) (pv 3) (pe_call (ok_opened T) (hr.mono (by decide)) (by rfl) T.m_opened T.F_opened.kp T.b_opened .nil passU (pa_cons (pv 1) (pa_cons (pv 2) pa_nil))) (nomark _))))) pe_int pe_non))) pss_nil)
      (pss_cons (ps_setComp (i := 4) (["at"] : List Str) (["before", "after"] : List Str) [1, 3] sc_Bags_price.nd rfl (Or.inl rfl) rfl ⟨rfl, by decide +kernel, by decide +kernel, by rfl, ⟨⟨rfl, by first | exact Or.inl rfl | exact Or.inr rfl, by first | exact Or.inl rfl | exact Or.inr rfl⟩, ⟨rfl, by first | exact Or.inl rfl | exact Or.inr rfl, by first | exact Or.inl rfl | exact Or.inr rfl⟩, trivial⟩⟩ (pi_range1 rfl T.n_range (pa_cons (pe_callB cLen (by rfl) T.n_len PySem.boot_len (pa_cons (pv 1) pa_nil)) pa_nil)) (fun _ _ _ _ => ⟨(pg_name (i := 0) (by show ((["at"] : List Str) ++ (["before", "after"] : List Str)).Nodup; decide +kernel) rfl (by first | exact Or.inl rfl | exact Or.inr rfl)), (show PTs _ [_] [_] from ⟨(pt_cmpR op_ne (pe_ix oIx (pv 1) (pv 0) (fun _ _ => rfl)) (pe_ix oIx (pv 2) (pv 0) (fun _ _ => rfl)) (nomark _)), trivial⟩), (pv 0)⟩))
      (pss_cons (ps_if (PW.pt (pw_or (pt_not (ptT (pv 4) (fun _ => rfl))) (pw_or1 (pt_cmpR op_gt (pe_op oAddV (pe_ix oIx (pv 1) (pe_ix oIx (pv 4) pe_int (fun _ _ => rfl)) (fun _ _ => rfl)) (pv 2)) (pe_fld (pv 0) rfl) (nomark _))))) (pss_one (ps_ret pe_non)) pss_nil)
      (pss_one (ps_ret (pe_ifExp (pt_cmpR (oEq hr) (pv 3) (pe_call (ok_filled T) (hr.mono (by decide)) (by rfl) T.m_filled T.F_filled.kp T.b_filled .nil passU (pa_cons (pv 1) (pa_cons (pe_ix oIx (pv 4) pe_int (fun _ _ => rfl)) (pa_cons (pv 2) pa_nil)))) (nomark _)) pe_int pe_non)))))), ?_⟩
    repeat walk_at "vs"
    refine r_lenT hf ?_
    rw [List.length_map]
    repeat walk_at "vs"
    refine r_lenT hb ?_
    rw [List.length_map]
    repeat walk_at "vs"
    rcases hg with ⟨hos, s1, hl, hg⟩ | ⟨hl, ha, rfl, rfl⟩
    rotate_left
    · refine iteN (fun _ => ?_) (fun z => by rw [List.length_append, List.length_singleton] at z; omega)
      repeat walk_at "vs"
      refine r_lenT hb ?_
      rw [List.length_map]
      repeat walk_at "vs"
      refine iteD (fun c => ?_) (fun c => ?_)
      · repeat walk_at "vs"
        refine ⟨b, os, s, rfl, hb, .inr ⟨hl, ha⟩, fun q gs H1 hp1 hs1 q1 e1 => ?_⟩
        repeat walk_at "vs"
        refine r_eqTI (e1 _ _ hf) q1 ?_
        rw [decide_eq_true (sorted_eq hp1.symm ha hs1)]
        repeat walk_at "vs"
        have := hq H1 e1
        rw [if_pos (by omega)] at this
        exact this
      · repeat walk_at "vs"
        have := hq H Ext.rfl'
        rw [if_neg (by omega)] at this
        exact this
    refine iteN (fun nl => ?_) (fun nl => ?_)
    · repeat walk_at "vs"
      refine r_lenT hb ?_
      rw [List.length_map]
      repeat walk_at "vs"
      refine iteD (fun _ => ?_) (fun z => by omega)
      repeat walk_at "vs"
      refine ⟨b, os, s, rfl, hb, .inl hl, fun q gs H1 hp1 hs1 q1 e1 => ?_⟩
      repeat walk_at "vs"
      refine r_eqTI (e1 _ _ hf) q1 ?_
      by_cases c : fs = gs
      · subst c
        rw [decide_eq_true rfl]
        repeat walk_at "vs"
        rw [← hg.one ⟨hs1, .inl ⟨rfl, hp1⟩⟩]
        exact hq H1 e1
      · rw [decide_eq_false c]
        repeat walk_at "vs"
        rw [← hg.no fun pr ⟨z1, z⟩ => by
          rcases z with ⟨_, z⟩ | ⟨_, k, hk, _, z⟩
          · exact c (sorted_eq (z.trans hp1.symm) z1 hs1)
          · have := z.length_eq
            rw [List.length_set] at this
            omega]
        exact hq H1 e1
    · have fl : fs.length = os.length := by omega
      repeat walk_at "vs"
      refine r_lenT hb ?_
      rw [List.length_map]
      repeat walk_at "vs"
      refine ⟨_, rfl, by omega, by omega, fun acc hn _ _ _ _ => comp_range (by omega) hn (fun j ys _ => ys = ((List.range j).filter fun i => !decide (os.getD i 0 = fs.getD i 0)).map fun (i : Nat) => V.int (i : Nat)) rfl (fun _ _ _ _ _ h => h) (fun j ys H' _ h => by rw [h, List.length_map]; exact Nat.le_trans (List.length_filter_le _ _) (by simp)) ?_ ?_⟩
      · rintro j ys H2 hj e rfl Y N hY hN
        have hb2 := e _ _ hb
        have hf2 := e _ _ hf
        have i1 := atI_ints (ns := os) (k := 0 + (j : Nat)) (by omega) (by omega)
        have i2 := atI_ints (ns := fs) (k := 0 + (j : Nat)) (by omega) (by omega)
        rw [show ((0 : Int) + (j : Nat)).toNat = j by omega] at i1 i2
        repeat walk_at "vs"
        refine r_ixT hb2 i1 ?_
        repeat walk_at "vs"
        refine r_ixT hf2 i2 ?_
        repeat walk_at "vs"
        refine iteN (fun c => ?_) (fun c => ?_)
        · repeat walk_at "vs"
          refine hY _ _ Ext.rfl' ?_
          rw [List.range_succ, List.filter_append, List.map_append]
          simp only [List.filter_cons, List.filter_nil, decide_eq_false c, Bool.not_false, if_true, List.map_cons, List.map_nil]
          rw [show ((0 : Int) + (j : Nat)) = (j : Nat) by omega]
        · repeat walk_at "vs"
          refine hN _ Ext.rfl' ?_
          rw [List.range_succ, List.filter_append, List.map_append]
          simp only [List.filter_cons, List.filter_nil, decide_eq_true c, Bool.not_true, Bool.false_eq_true, if_false, List.map_nil, List.append_nil]
      rintro ys H2 e ha rfl
      rw [show ((os.length : Int).toNat) = os.length by omega] at ha
      have no1 : ¬ Goes R os s fs 1 := fun z => by
        rcases z.2 with ⟨_, z⟩ | ⟨z, _⟩
        · have := z.length_eq
          rw [List.length_append, List.length_singleton] at this
          omega
        · cases z
      cases hL : (List.range os.length).filter (fun i => !decide (os.getD i 0 = fs.getD i 0)) with
      | nil =>
        rw [hL] at ha
        repeat walk_at "vs"
        refine r_lstT (SqL.of ha) ?_
        repeat walk_at "vs"
        rw [← hg.no fun pr z => by
          rcases z.2 with ⟨e1, z2⟩ | ⟨_, k, hk, _, z2⟩
          · exact no1 ⟨z.1, .inl ⟨rfl, z2⟩⟩
          · obtain ⟨j0, hj0, hd0⟩ := some_diff hk (w := os.getD k 0 + s) (by omega) z2
            have : j0 ∈ (List.range os.length).filter (fun i => !decide (os.getD i 0 = fs.getD i 0)) := List.mem_filter.mpr ⟨List.mem_range.mpr hj0, by rw [decide_eq_false hd0]; rfl⟩
            rw [hL] at this
            cases this]
        exact hq H2 e
      | cons j rest =>
        rw [hL] at ha
        obtain ⟨jn, jp, jf⟩ := fil_first hL
        have jne : os.getD j 0 ≠ fs.getD j 0 := by
          intro z
          rw [decide_eq_true z] at jp
          cases jp
        have jeq : ∀ i, i < j → os.getD i 0 = fs.getD i 0 := fun i hi => by
          have := jf i hi
          simpa using this
        have ev : ∀ k, k < os.length → fs.Pairwise (· ≤ ·) → fs.Perm (os.set k (os.getD k 0 + s)) → os.getD j 0 = os.getD k 0 := fun k hk fsrt hpm => first_diff hos.1 fsrt hk (by omega) hpm jn jeq jne
        have hb2 := e _ _ hb
        have hf2 := e _ _ hf
        have hw2 := e _ _ hw
        have i1 := atI_ints (ns := os) (k := (j : Nat)) (by omega) (by omega)
        rw [Int.toNat_natCast] at i1
        repeat walk_at "vs"
        refine r_lstT (SqL.of ha) ?_
        repeat walk_at "vs"
        refine r_ixL ha (v := .int (j : Nat)) (atI_int (by decide) rfl) ?_
        repeat walk_at "vs"
        refine r_ixT hb2 i1 ?_
        repeat walk_at "vs"
        refine iteD (fun c => ?_) (fun c => ?_)
        · repeat walk_at "vs"
          rw [← hg.no fun pr z => by
            rcases z.2 with ⟨e1, z2⟩ | ⟨_, k, hk, hR, z2⟩
            · exact no1 ⟨z.1, .inl ⟨rfl, z2⟩⟩
            · have := ev k hk z.1 z2
              omega]
          exact hq H2 e
        repeat walk_at "vs"
        refine r_ixL ha (v := .int (j : Nat)) (atI_int (by decide) rfl) ?_
        repeat walk_at "vs"
        refine ⟨b, os, s, j, rfl, hb2, jn, hl, fun q gs H3 hp3 hs3 q3 e3 => ?_⟩
        repeat walk_at "vs"
        refine r_eqTI (e3 _ _ hf2) q3 ?_
        by_cases c2 : fs = gs
        · subst c2
          rw [decide_eq_true rfl]
          repeat walk_at "vs"
          rw [← hg.nought ⟨hs3, .inr ⟨rfl, j, jn, by omega, hp3⟩⟩]
          exact hq H3 (e.tr e3)
        · rw [decide_eq_false c2]
          repeat walk_at "vs"
          rw [← hg.no fun pr z => by
            rcases z.2 with ⟨e1, z2⟩ | ⟨_, k, hk, hR, z2⟩
            · exact no1 ⟨z.1, .inl ⟨rfl, z2⟩⟩
            · have ek := ev k hk z.1 z2
              rw [← ek] at z2
              exact c2 (sorted_eq (z2.trans ((set_same hk jn ek.symm).trans hp3.symm)) z.1 hs3)]
          exact hq H3 (e.tr e3)
def sp_World_priced (a : Adr) : Sp := fun us H Q _ => ∃ (r dw b p : Addr) (R : Int) (os : List Int) (vs : List V) (Ls : List (List Int)) (s : Int) (g : List Int → V), us = [.ref r, .ref b, .int s, .ref p] ∧ H r = some (.ins a.c_Bags dw [("room", .int R)]) ∧ H b = some (.tup (os.map V.int)) ∧ H p = some (.lst vs) ∧ RefsH H vs Ls ∧ vs.length ≤ 60 ∧ (∀ L ∈ Ls, L ≠ [] ∧ PrOk R os s L (g L)) ∧
  ∀ l ys (Ms : List (List Int)) H', H l = none → H' l = some (.lst ys) → PairsV H' ys ((Ms.map fun L => (L, g L)).filter fun p => !isNo p.2) → Ms.Pairwise (· < ·) → (∀ L, L ∈ Ms ↔ L ∈ Ls) → Ext H H' → Q (.ref l) H'
theorem ok_World_priced (T : Txt K mg a) : FnOk P w K mg base (CXU P w) 3 a.f_World_priced a.d_World_priced ["self", "before", "wish", "states"] (sp_World_priced a) := by
  refine T.F_World_priced.okU sc_World_priced (fun vs H Q E h => ?_) (fun cdv A outer s H vs Q E hr h => ?_)
  · obtain ⟨r, dw, b, p, R, os, vs, Ls, s, g, rfl, hr0, hb, hp, hrf, h60, hL, hq⟩ := h
    rfl
  · obtain ⟨r, dw, b, p, R, os, vs, Ls, s, g, rfl, hr0, hb, hp, hrf, h60, hL, hq⟩ := h
    have zc_Bags := T.cl_Bags
    have zn_Bags_room := T.na_Bags_room
    refine ⟨_, (pss_cons (ps_setComp (i := 4) (["after"] : List Str) (["self", "before", "wish"] : List Str) [0, 1, 2] sc_World_priced.nd rfl (Or.inl rfl) rfl ⟨rfl, by decide +kernel, by decide +kernel, by rfl, ⟨⟨rfl, by first | exact Or.inl rfl | exact Or.inr rfl, by first | exact Or.inl rfl | exact Or.inr rfl⟩, ⟨rfl, by first | exact Or.inl rfl | exact Or.inr rfl, by first | exact Or.inl rfl | exact Or.inr rfl⟩, ⟨rfl, by first | exact Or.inl rfl | exact Or.inr rfl, by first | exact Or.inl rfl | exact Or.inr rfl⟩, trivial⟩⟩ (pi_list (pe_sortRows hr rfl (by rfl) T.n_sorted (by rfl) T.n_set (pa_cons (pv 3) pa_nil))) (fun _ _ _ _ => ⟨(pg_name (i := 0) (by show ((["after"] : List Str) ++ (["self", "before", "wish"] : List Str)).Nodup; decide +kernel) rfl (by first | exact Or.inl rfl | exact Or.inr rfl)), (show PTs _ [] [] from trivial), (pe_tup (pa_cons (pv 0) (pa_cons (pe_meth (pv 1) T.cl_Bags T.me_Bags_price (ok_Bags_price T) (hr.mono (by decide)) T.b_Bags_price .nil passU (pa_cons (pv 2) (pa_cons (pv 3) (pa_cons (pv 0) pa_nil)))) pa_nil)))⟩))
      (pss_one (ps_ret (pe_comp (["pair"] : List Str) ([] : List Str) [] rfl ⟨rfl, by decide +kernel, by decide +kernel, by rfl, trivial⟩ (pi_list (pv 4)) (fun _ _ _ _ => ⟨(pg_name (i := 0) (by show ((["pair"] : List Str) ++ ([] : List Str)).Nodup; decide +kernel) rfl (by first | exact Or.inl rfl | exact Or.inr rfl)), (show PTs _ [_] [_] from ⟨(pt_cmpR oNotN (pe_ix oIx (pv 0) pe_int (fun _ _ => rfl)) pe_non (nomark _)), trivial⟩), (pv 0)⟩))))), ?_⟩
    repeat walk_at "vs"
    refine r_sortRowsU hp hrf h60 (fun L hL' => (hL L hL').1) fun lq H1 vs' Ms n1 q1 e1 rf pw mm l18 => ?_
    have hr1 := e1 _ _ hr0
    have hb1 := e1 _ _ hb
    have lv := rf.length
    refine ⟨lq, rfl, ⟨_, SqL.of q1⟩, fun acc hn _ _ _ _ => comp_list (SqL.of q1) (by omega) hn (fun j ys H2 => PairsV H2 ys ((Ms.take j).map fun L => (L, g L))) .nil (fun _ _ _ _ k h => PairsV.keep k h) (fun j ys H' _ h => by have := h.length; rw [List.length_map, List.length_take] at this; omega) ?_ ?_⟩
    · rintro j y ys H2 hy e hrep Y N hY hN
      obtain ⟨c, rfl, hc⟩ := rf.get j y hy
      have hj : j < Ms.length := by
        obtain ⟨z, _⟩ := List.getElem?_eq_some_iff.mp hy
        omega
      have hM : Ms.getD j [] ∈ Ms := by rw [List.getD_eq_getElem?_getD, List.getElem?_eq_getElem hj]; exact List.getElem_mem hj
      obtain ⟨_, g2⟩ := hL _ ((mm _).mp hM)
      have hr2 := e _ _ hr1
      repeat walk_at "vs"
      refine ⟨r, dw, b, c, os, Ms.getD j [], R, s, _, rfl, hr2, e _ _ hb1, e _ _ hc, g2, fun H3 e3 => ?_⟩
      repeat walk_at "vs"
      intro q H4 nq qq eq
      refine hY _ _ (e3.tr eq) ?_
      have et : (Ms.take (j + 1)).map (fun L => (L, g L)) = (Ms.take j).map (fun L => (L, g L)) ++ [(Ms.getD j [], g (Ms.getD j []))] := by
        rw [List.take_add_one, List.getElem?_eq_getElem hj, List.map_append, List.getD_eq_getElem?_getD, List.getElem?_eq_getElem hj]
        rfl
      rw [et]
      exact PairsV.snoc qq ((e.tr (e3.tr eq)) _ _ hc) (hrep.mono (e3.tr eq))
    rintro ys H2 e2 ha hrep
    rw [List.take_of_length_le (by omega)] at hrep
    have hl := hrep.length
    rw [List.length_map] at hl
    repeat walk_at "vs"
    refine ⟨acc, rfl, ⟨_, SqL.of ha⟩, fun acc2 hn2 _ _ _ _ => comp_list (SqL.of ha) (by omega) hn2 (fun j zs H3 => PairsV H3 zs (((Ms.map fun L => (L, g L)).take j).filter fun p => !isNo p.2)) .nil (fun _ _ _ _ k h => PairsV.keep k h) (fun j ys H' _ h => by have := h.length; rw [this]; exact Nat.le_trans (List.length_filter_le _ _) (by rw [List.length_take]; omega)) ?_ ?_⟩
    · rintro j y zs H3 hy e hz Y N hY hN
      obtain ⟨c, a', L, x, rfl, eK, hc, hL'⟩ := PairsV.get hrep j y hy
      have et : (Ms.map fun L => (L, g L)).take (j + 1) = (Ms.map fun L => (L, g L)).take j ++ [(L, x)] := by rw [List.take_add_one, eK]; rfl
      have hx : x = .non ∨ ∃ i, x = .int i := by
        have hm := List.mem_of_getElem? eK
        obtain ⟨M, hM, e'⟩ := List.mem_map.mp hm
        injection e' with e1' e2'
        rw [← e2']
        exact (hL M ((mm M).mp hM)).2.val
      repeat walk_at "vs"
      refine r_ixT (e _ _ hc) rfl ?_
      rcases hx with rfl | ⟨i, rfl⟩
      · repeat walk_at "vs"
        refine hN _ Ext.rfl' ?_
        rw [et, List.filter_append, List.filter_cons, if_neg (by simp [isNo]), List.filter_nil, List.append_nil]
        exact hz
      · repeat walk_at "vs"
        refine hY _ _ Ext.rfl' ?_
        rw [et, List.filter_append, List.filter_cons, if_pos (by simp [isNo]), List.filter_nil]
        exact PairsV.snoc (e _ _ hc) (e _ _ hL') hz
    rintro zs H3 e3 ha2 hz
    rw [List.take_of_length_le (by rw [List.length_map]; omega)] at hz
    have x2 := e1.tr e2
    exact hq acc2 _ Ms H3 (x2.free hn2) ha2 hz pw mm (x2.tr e3)
theorem one_row {Ms : List (List Int)} {L : List Int} (pw : Ms.Pairwise (· < ·)) (mm : ∀ M, M ∈ Ms ↔ M ∈ [L]) : Ms = [L] := rise_uniqI pw (List.pairwise_singleton _ _) mm
theorem PrOk.goes {R s : Int} {os L : List Int} {pr : Int} (hL : Lds R os) (s1 : 1 ≤ s) (hl : os.length ≤ 60) (h : Goes R os s L pr) : PrOk R os s L (.int (prI os L)) := .inl ⟨hL, s1, hl, .inl ⟨_, h, by rw [h.pr]⟩⟩
theorem filt_all {Ms : List (List Int)} {os : List Int} : ((Ms.map fun L => (L, V.int (prI os L))).filter fun p => !isNo p.2) = (Ms.map (prB os)).map fun p => (p.1, V.int p.2) := by
  rw [List.filter_eq_self.mpr (fun p hp => by obtain ⟨L, _, rfl⟩ := List.mem_map.mp hp; rfl), List.map_map]
  rfl
def sp_Bags_moves (a : Adr) : Sp := fun us H Q _ => ∃ (r dw b : Addr) (R : Int) (os : List Int) (s : Int), us = [.ref r, .ref b, .int s] ∧ H r = some (.ins a.c_Bags dw [("room", .int R)]) ∧ H b = some (.tup (os.map V.int)) ∧
  ((Lds R os ∧ 1 ≤ s ∧ os.length ≤ 40 ∧ ∀ l ys (Ms : List (List Int)) H', H l = none → H' l = some (.lst ys) → PairsH H' ys (Ms.map (prB os)) → Ms.Pairwise (· < ·) → (∀ L, L ∈ Ms ↔ ∃ pr, Goes R os s L pr) → Ext H H' → Q (.ref l) H') ∨
   (∃ n, n ≤ 900 ∧ os = List.replicate n 1 ∧ R = 1 ∧ s = 1 ∧ ∀ l ys H', H' l = some (.lst ys) → (n < 500 → PairsH H' ys [(List.replicate (n + 1) 1, 1)]) → (500 ≤ n → ys = []) → Ext H H' → Q (.ref l) H'))
theorem ok_Bags_moves (T : Txt K mg a) : FnOk P w K mg base (CXU P w) 4 a.f_Bags_moves a.d_Bags_moves ["self", "before", "wish"] (sp_Bags_moves a) := by
  refine T.F_Bags_moves.okU sc_Bags_moves (fun vs H Q E h => ?_) (fun cdv A outer s H vs Q E hr h => ?_)
  · obtain ⟨r, dw, b, R, os, s, rfl, hr0, hb, h⟩ := h
    rfl
  · obtain ⟨r, dw, b, R, os, s, rfl, hr0, hb, h⟩ := h
    have zc_Bags := T.cl_Bags
    have zn_Bags_room := T.na_Bags_room
    refine ⟨_, (pss_cons (ps_setComp (i := 3) (["load"] : List Str) (["wish", "self"] : List Str) [2, 0] sc_Bags_moves.nd rfl (Or.inl rfl) rfl ⟨rfl, by decide +kernel, by decide +kernel, by rfl, ⟨⟨rfl, by first | exact Or.inl rfl | exact Or.inr rfl, by first | exact Or.inl rfl | exact Or.inr rfl⟩, ⟨rfl, by first | exact Or.inl rfl | exact Or.inr rfl, by first | exact Or.inl rfl | exact Or.inr rfl⟩, trivial⟩⟩ (pi_list (pe_sortInts rfl (by rfl) T.n_sorted (by rfl) T.n_set (pa_cons (pv 1) pa_nil))) (fun _ _ _ _ => ⟨(pg_name (i := 0) (by show ((["load"] : List Str) ++ (["wish", "self"] : List Str)).Nodup; decide +kernel) rfl (by first | exact Or.inl rfl | exact Or.inr rfl)), (show PTs _ [_] [_] from ⟨(pt_cmpR op_le (pe_op oAddV (pv 0) (pv 1)) (pe_fld (pv 2) rfl) (nomark _)), trivial⟩), (pv 0)⟩))
      (pss_cons (ps_setComp (i := 4) (["load"] : List Str) (["before", "wish"] : List Str) [1, 2] sc_Bags_moves.nd rfl (Or.inl rfl) rfl ⟨rfl, by decide +kernel, by decide +kernel, by rfl, ⟨⟨rfl, by first | exact Or.inl rfl | exact Or.inr rfl, by first | exact Or.inl rfl | exact Or.inr rfl⟩, ⟨rfl, by first | exact Or.inl rfl | exact Or.inr rfl, by first | exact Or.inl rfl | exact Or.inr rfl⟩, trivial⟩⟩ (pi_list (pv 3)) (fun _ _ _ _ => ⟨(pg_name (i := 0) (by show ((["load"] : List Str) ++ (["before", "wish"] : List Str)).Nodup; decide +kernel) rfl (by first | exact Or.inl rfl | exact Or.inr rfl)), (show PTs _ [] [] from trivial), (pe_call (ok_filled T) (hr.mono (by decide)) (by rfl) T.m_filled T.F_filled.kp T.b_filled .nil passU (pa_cons (pv 1) (pa_cons (pe_tm PySem.F.plainAttrs_tuple PySem.F.slot_tuple_index PySem.F.type_tuple_index mt_tindexI (pv 1) (pa_cons (pv 0) pa_nil)) (pa_cons (pv 2) pa_nil))))⟩))
      (pss_one (ps_ret (pe_meth (pv 0) T.cl_Bags T.me_Bags_priced (ok_World_priced T) (hr.mono (by decide)) T.b_World_priced .nil passU (pa_cons (pv 1) (pa_cons (pv 2) (pa_cons (pe_op oAddV (pv 4) (pe_lst (pa_cons (pe_call (ok_opened T) (hr.mono (by decide)) (by rfl) T.m_opened T.F_opened.kp T.b_opened .nil passU (pa_cons (pv 1) (pa_cons (pv 2) pa_nil))) pa_nil))) pa_nil)))))))), ?_⟩
    rcases h with ⟨hL, s1, l4, hq⟩ | ⟨n, hn9, rfl, rfl, rfl, hq⟩
    · repeat walk_at "vs"
      refine r_sortInts os hb (fun n h => h) (by omega) fun lk ks H1 n1 q1 pwk mk e1 => ?_
      have hr1 := e1 _ _ hr0
      have hb1 := e1 _ _ hb
      have lk := nd_few (pwk.imp fun z e => by omega) fun x hx => (mk x).mp hx
      repeat walk_at "vs"
      refine ⟨_, rfl, ⟨_, SqL.of q1⟩, fun acc hn _ _ _ _ => comp_list (SqL.of q1) (by rw [List.length_map]; omega) hn (fun j ys _ => ys = ((ks.take j).filter fun k => decide (k + s ≤ R)).map V.int) rfl (fun _ _ _ _ _ h => h) (fun j ys H' _ h => by rw [h, List.length_map]; exact Nat.le_trans (List.length_filter_le _ _) (by rw [List.length_take]; omega)) ?_ ?_⟩
      · rintro j y ys H2 hy e rfl Y N hY hN
        obtain ⟨y, ey, rfl⟩ := get_int hy
        have hr2 := e _ _ hr1
        have et : ks.take (j + 1) = ks.take j ++ [y] := by rw [List.take_add_one, ey]; rfl
        repeat walk_at "vs"
        refine iteD (fun c => ?_) (fun c => ?_)
        · repeat walk_at "vs"
          refine hY _ _ Ext.rfl' ?_
          rw [et, List.filter_append, List.filter_cons, if_pos (decide_eq_true c), List.filter_nil, List.map_append]
          rfl
        · repeat walk_at "vs"
          refine hN _ Ext.rfl' ?_
          rw [et, List.filter_append, List.filter_cons, if_neg (fun z => c (of_decide_eq_true z)), List.filter_nil, List.append_nil]
      rintro ys H2 e2 ha rfl
      rw [List.length_map, List.take_length] at ha
      have hr2 := e2 _ _ hr1
      have hb2 := e2 _ _ hb1
      have lf := List.length_filter_le (fun k => decide (k + s ≤ R)) ks
      obtain ⟨fs, efs, hfs⟩ : ∃ fs, ks.filter (fun k => decide (k + s ≤ R)) = fs ∧ ∀ k, k ∈ fs ↔ k ∈ os ∧ k + s ≤ R := ⟨_, rfl, fun k => by rw [List.mem_filter, mk, decide_eq_true_iff]⟩
      rw [efs] at ha lf
      repeat walk_at "vs"
      refine ⟨_, rfl, ⟨_, SqL.of ha⟩, fun acc2 hn2 _ _ _ _ => comp_list (SqL.of ha) (by rw [List.length_map]; omega) hn2 (fun j ys H3 => ∃ Ls : List (List Int), RefsH H3 ys Ls ∧ Ls.length = j ∧ (∀ L ∈ Ls, Goes R os s L 0) ∧ ∀ i, i < j → (Ls.getD i []).Perm (os.set (os.idxOf (fs.getD i 0)) (fs.getD i 0 + s)) ∧ (Ls.getD i []).Pairwise (· ≤ ·)) ⟨[], .nil, rfl, (fun L hL => by cases hL), fun i hi => by omega⟩ (fun _ _ _ _ k h => ?_) (fun j ys H' _ h => ?_) ?_ ?_⟩
      · obtain ⟨Ls, h1, h2⟩ := h
        exact ⟨Ls, RefsH.keep k h1, h2⟩
      · obtain ⟨Ls, h1, h2, _⟩ := h
        have := h1.length
        omega
      · rintro j y ys H3 hy e ⟨Ls, h1, h2, h3, h4⟩ Y N hY hN
        obtain ⟨y, ey, rfl⟩ := get_int hy
        have gy : fs.getD j 0 = y := by rw [List.getD_eq_getElem?_getD, ey]; rfl
        obtain ⟨yo, yR⟩ := (hfs y).mp (List.mem_of_getElem? ey)
        have hb3 := e _ _ hb2
        have ix := List.idxOf_lt_length_iff.mpr yo
        have gi : os.getD (os.idxOf y) 0 = y := by rw [List.getD_eq_getElem?_getD, List.getElem?_eq_getElem ix, List.getElem_idxOf ix]; rfl
        repeat walk_at "vs"
        refine r_tindexI hb3 yo (by omega) ?_
        repeat walk_at "vs"
        refine ⟨b, os, s, os.idxOf y, rfl, hb3, ix, by omega, fun l ms H4 pm pw q4 e4 => ?_⟩
        rw [gi] at pm
        refine hY _ _ e4 ⟨Ls ++ [ms], RefsH.snoc e4 q4 h1, by simp [h2], fun L hL => ?_, fun i hi => ?_⟩
        · rcases List.mem_append.mp hL with z | z
          · exact h3 L z
          · rw [List.mem_singleton.mp z]
            exact ⟨pw, .inr ⟨rfl, _, ix, by rw [gi]; exact yR, by rw [gi]; exact pm⟩⟩
        · by_cases z : i < j
          · rw [List.getD_eq_getElem?_getD (l := Ls ++ [ms]), List.getElem?_append_left (by omega), ← List.getD_eq_getElem?_getD]
            exact h4 i z
          · obtain rfl : i = j := by omega
            rw [List.getD_eq_getElem?_getD (l := Ls ++ [ms]), List.getElem?_append_right (by omega), h2, Nat.sub_self, gy]
            exact ⟨pm, pw⟩
      rintro ys H3 e3 ha3 ⟨Ls, h1, h2, h3, h4⟩
      rw [List.length_map] at h2 h4
      have hr3 := e3 _ _ hr2
      have hb3 := e3 _ _ hb2
      have ly := h1.length
      repeat walk_at "vs"
      refine ⟨b, os, s, rfl, hb3, .inl (by omega), fun qo go H4 po wo q4 e4 => ?_⟩
      have hr4 := e4 _ _ hr3
      repeat walk_at "vs"
      intro l5 H5 n5 q5 e5
      repeat walk_at "vs"
      refine r_catL ((e4.tr e5) _ _ ha3) q5 (by simp; omega) fun l6 H6 n6 q6 e6 => ?_
      have x46 := e5.tr e6
      repeat walk_at "vs"
      have hgo : Goes R os s go 1 := ⟨wo, .inl ⟨rfl, po⟩⟩
      have hall : ∀ L ∈ Ls ++ [go], ∃ pr, Goes R os s L pr := fun L hL' => by
        rcases List.mem_append.mp hL' with z | z
        · exact ⟨0, h3 L z⟩
        · rw [List.mem_singleton.mp z]; exact ⟨1, hgo⟩
      refine ⟨r, dw, b, l6, R, os, _, Ls ++ [go], s, fun L => .int (prI os L), rfl, x46 _ _ hr4, (e4.tr x46) _ _ hb3, q6, RefsH.snoc e6 ((e5.tr e6) _ _ q4) (h1.mono (e4.tr e5)), by simp; omega, fun L hL' => ?_, fun l7 y7 Ms H7 n7 q7 p7 pw7 m7 e7 => ?_⟩
      · obtain ⟨pr, hg⟩ := hall L hL'
        refine ⟨fun z => ?_, PrOk.goes hL s1 (by omega) hg⟩
        rcases hg.2 with ⟨_, pm⟩ | ⟨_, k, hk, _, pm⟩
        · rw [z] at pm
          have := pm.length_eq
          simp at this
        · rw [z] at pm
          have := pm.length_eq
          rw [List.length_set] at this
          simp at this
          omega
      · have x6 := e1.tr (e2.tr (e3.tr (e4.tr x46)))
        rw [filt_all] at p7
        refine hq l7 y7 Ms H7 (x6.free n7) q7 (p7.ints rfl) pw7 (fun L => ?_) (x6.tr e7)
        rw [m7]
        refine ⟨hall L, fun ⟨pr, hg⟩ => ?_⟩
        rcases hg.2 with ⟨_, pm⟩ | ⟨_, k, hk, hR, pm⟩
        · exact List.mem_append_right _ (List.mem_singleton.mpr (sorted_eq (pm.trans po.symm) hg.1 wo))
        · have ko : os.getD k 0 ∈ os := mem_getD' hk
          obtain ⟨i, hi, ei⟩ := List.getElem_of_mem ((hfs _).mpr ⟨ko, hR⟩)
          have gi : fs.getD i 0 = os.getD k 0 := by rw [List.getD_eq_getElem?_getD, List.getElem?_eq_getElem hi]; exact ei
          obtain ⟨w1, w2⟩ := h4 i (by omega)
          rw [gi] at w1
          have ix := List.idxOf_lt_length_iff.mpr ko
          have gk : os.getD (os.idxOf (os.getD k 0)) 0 = os.getD k 0 := by rw [List.getD_eq_getElem?_getD, List.getElem?_eq_getElem ix, List.getElem_idxOf ix]; rfl
          refine List.mem_append_left _ (mem_iff_getD.mp ⟨i, by omega, ?_⟩)
          exact sorted_eq (w1.trans ((set_same ix hk gk).trans pm.symm)) w2 hg.1
    · repeat walk_at "vs"
      refine r_sortInts [1] hb (fun k hk => by rw [List.eq_of_mem_replicate hk]; exact List.mem_singleton.mpr rfl) (by decide) fun lk ks H1 n1 q1 pwk mk e1 => ?_
      have hr1 := e1 _ _ hr0
      have hb1 := e1 _ _ hb
      have k1 : ∀ k ∈ ks, k = 1 := fun k hk => List.eq_of_mem_replicate ((mk k).mp hk)
      have lk := nd_few (m := [1]) (pwk.imp fun z e => by omega) fun x hx => by rw [k1 x hx]; exact List.mem_singleton.mpr rfl
      rw [List.length_singleton] at lk
      repeat walk_at "vs"
      refine ⟨_, rfl, ⟨_, SqL.of q1⟩, fun acc hn _ _ _ _ => comp_list (SqL.of q1) (by rw [List.length_map]; omega) hn (fun j ys _ => ys = []) rfl (fun _ _ _ _ _ h => h) (fun j ys H' _ h => by rw [h]; exact Nat.zero_le _) ?_ ?_⟩
      · rintro j y ys H2 hy e rfl Y N hY hN
        obtain ⟨y, ey, rfl⟩ := get_int hy
        have := k1 y (List.mem_of_getElem? ey)
        subst this
        have hr2 := e _ _ hr1
        repeat walk_at "vs"
        exact hN _ Ext.rfl' rfl
      rintro ys H2 e2 ha rfl
      have ha' : H2 acc = some (.lst (([] : List Int).map V.int)) := ha
      have hr2 := e2 _ _ hr1
      have hb2 := e2 _ _ hb1
      repeat walk_at "vs"
      refine ⟨_, rfl, ⟨_, SqL.of ha⟩, fun acc2 hn2 _ _ _ _ => comp_list (SqL.of ha) (by decide) hn2 (fun j ys _ => ys = []) rfl (fun _ _ _ _ _ h => h) (fun j ys H' _ h => by rw [h]; exact Nat.zero_le _) (fun j y ys H3 hy => by simp at hy) ?_⟩
      rintro ys H3 e3 ha3 rfl
      have hr3 := e3 _ _ hr2
      have hb3 := e3 _ _ hb2
      have asc : (List.replicate n (1 : Int) ++ [1]).Pairwise (· ≤ ·) := by rw [show List.replicate n (1 : Int) ++ [1] = List.replicate (n + 1) 1 from List.replicate_succ'.symm]; exact ones_asc _
      repeat walk_at "vs"
      refine ⟨b, _, 1, rfl, hb3, .inr ⟨by rw [List.length_replicate]; exact hn9, asc⟩, fun qo go H4 po wo q4 e4 => ?_⟩
      have hr4 := e4 _ _ hr3
      obtain rfl : go = List.replicate n 1 ++ [1] := sorted_eq po wo asc
      repeat walk_at "vs"
      intro l5 H5 n5 q5 e5
      repeat walk_at "vs"
      refine r_catL ((e4.tr e5) _ _ ha3) q5 (by simp) fun l6 H6 n6 q6 e6 => ?_
      have x46 := e5.tr e6
      repeat walk_at "vs"
      refine ⟨r, dw, b, l6, 1, _, _, [List.replicate n 1 ++ [1]], 1, fun _ => if n < 500 then .int 1 else .non, rfl, x46 _ _ hr4, (e4.tr x46) _ _ hb3, q6, .cons (x46 _ _ q4) .nil, by simp, fun L hL' => ?_, fun l7 y7 Ms H7 n7 q7 p7 pw7 m7 e7 => ?_⟩
      · rw [List.mem_singleton.mp hL']
        exact ⟨by simp, .inr ⟨by rw [List.length_replicate]; exact hn9, asc, rfl, by rw [List.length_replicate]⟩⟩
      · have x6 := e1.tr (e2.tr (e3.tr (e4.tr x46)))
        rw [one_row pw7 m7] at p7
        refine hq l7 y7 H7 q7 (fun c => ?_) (fun c => ?_) (x6.tr e7)
        · refine p7.ints (Js := [(List.replicate (n + 1) 1, 1)]) ?_
          rw [show List.replicate (n + 1) (1 : Int) = List.replicate n 1 ++ [1] from List.replicate_succ']
          simp [c, isNo]
        · have := p7.length
          rw [show (([List.replicate n (1 : Int) ++ [1]].map fun L => (L, (if n < 500 then V.int 1 else V.non))).filter fun p => !isNo p.2) = [] by simp [show ¬ n < 500 by omega, isNo]] at this
          exact List.length_eq_zero_iff.mp this
def sp_Bags_init (a : Adr) : Sp := fun vs H Q _ => ∃ x dx v, vs = [.ref x, v] ∧ H x = some (.ins a.c_Bags dx []) ∧ ∀ H', H' x = some (.ins a.c_Bags dx [("room", v)]) → But x H H' → Q .non H'
theorem ok_Bags_init (T : Txt K mg a) : FnOk P w K mg base (CXU P w) 1 a.f_Bags_init a.d_Bags_init ["self", "room"] (sp_Bags_init a) := by
  refine T.F_Bags_init.okU sc_Bags_init (fun vs H Q E h => ?_) (fun cdv A outer s H vs Q E hr h => ?_)
  · obtain ⟨x, dx, v, rfl, hx, hq⟩ := h
    rfl
  · obtain ⟨x, dx, v, rfl, hx, hq⟩ := h
    have zc_Bags := T.cl_Bags
    have zn_Bags_room := T.na_Bags_room
    refine ⟨_, (pss_one (ps_fld (pv 0) (pv 1) rfl)), ?_⟩
    repeat walk_at "vs"
    refine r_sat hx T.cl_Bags T.na_Bags_room (lt1000 rfl) fun H' h1 h2 => ?_
    exact hq H' h1 h2
def sp_law_puts : Sp := fun vs H Q _ => ∃ (p : Addr) (os : List Int) (s R : Int), vs = [.ref p, .int s, .int R] ∧ H p = some (.tup (os.map V.int)) ∧ os.length ≤ 60 ∧ ∀ l xs ts H', Puts R os s os.length ts → xs.length ≤ 60 → H l = none → H' l = some (.lst xs) → TL H' xs ts → Ext H H' → Q (.ref l) H'
theorem ok_law_puts (T : Txt K mg a) : FnOk P w K mg base (CXU P w) 1 a.f_law_puts a.d_law_puts ["_law_before", "_law_size_here", "_law_room_here"] (sp_law_puts) := by
  refine T.F_law_puts.okU sc_law_puts (fun vs H Q E h => ?_) (fun cdv A outer s H vs Q E hr h => ?_)
  · obtain ⟨p, os, s, R, rfl, hp, hl, hq⟩ := h
    rfl
  · obtain ⟨p, os, s, R, rfl, hp, hl, hq⟩ := h
    have zc_Bags := T.cl_Bags
    have zn_Bags_room := T.na_Bags_room
    refine ⟨_, (pss_cons (ps_set (i := 3) sc_law_puts.nd rfl (by first | exact Or.inl rfl | exact Or.inr rfl) (pe_lst pa_nil))
      (pss_cons (ps_for PassesOwn.never rfl (pi_range1 rfl T.n_range (pa_cons (pe_callB cLen (by rfl) T.n_len PySem.boot_len (pa_cons (pv 0) pa_nil)) pa_nil)) (pg_name (i := 4) sc_law_puts.nd rfl (by first | exact Or.inl rfl | exact Or.inr rfl)) (pss_one (ps_if (pt_cmpR op_le (pe_op oAddV (pe_ix oIx (pv 0) (pv 4) (fun _ _ => rfl)) (pv 1)) (pv 2) (nomark _)) (pss_one (ps_expr (pe_bm PySem.F.plainAttrs_list PySem.F.slot_list_append PySem.F.type_list_append mt_append (pv 3) (pa_cons (pe_callTy cTuple (by rfl) T.n_tuple PyProof.Rows.boot_tuple (pa_cons (pe_callB cSorted (by rfl) T.n_sorted PyProof.Rows.boot_sorted (pa_cons (pe_op oAddV (pe_op oAddV (pe_slice oSl (pv 0) po_none (po_some (pv 4))) (pe_tup (pa_cons (pe_op oAddV (pe_ix oIx (pv 0) (pv 4) (fun _ _ => rfl)) (pv 1)) pa_nil))) (pe_slice oSl (pv 0) (po_some (pe_op oAddV (pv 4) pe_int)) po_none)) pa_nil)) pa_nil)) pa_nil)))) pss_nil)))
      (pss_one (ps_ret (pv 3))))), ?_⟩
    repeat walk_at "vs"
    intro l H1 n1 q1 e1
    have hp1 := e1 _ _ hp
    repeat walk_at "vs"
    refine r_lenT hp1 ?_
    rw [List.length_map]
    repeat walk_at "vs"
    refine ⟨_, rfl, by omega, by omega, for_range (fun i σ H3 => ∃ (u : Option V) (xs : List V) (ts : List (List Int)), σ = [some (.ref p), some (.int s), some (.int R), some (.ref l), u] ∧ Ext H H3 ∧ H3 l = some (.lst xs) ∧ TL H3 xs ts ∧ xs.length ≤ i ∧ Puts R os s i ts) ⟨none, [], [], rfl, e1, q1, trivial, Nat.le_refl _, (fun t ht => by cases ht), fun k hk => by omega⟩ ?_ ?_⟩
    · rintro i σ H3 hi ⟨u, xs, ts, rfl, x3, q3, tl, lx, pu⟩
      have hp3 := x3 _ _ hp
      obtain ⟨kk, ek⟩ : ∃ kk : Nat, kk = i := ⟨i, rfl⟩
      subst ek
      have hkk : kk < os.length := by omega
      have s1 : cutV (os.map V.int) none (some ((kk : Nat) : Int)) = (os.take kk).map V.int := by
        unfold cutV
        rw [HT.sIx_nat, HT.sIx_none, List.length_map, List.drop_zero, Nat.sub_zero, Nat.min_eq_left (Nat.le_of_lt hkk), List.map_take]
      have s2 : cutV (os.map V.int) (some (((kk : Nat) : Int) + 1)) none = (os.drop (kk + 1)).map V.int := by
        unfold cutV
        rw [show (((kk : Nat) : Int) + 1) = ((kk + 1 : Nat) : Int) by omega, HT.sIx_nat, HT.sIx_none, List.length_map, Nat.min_eq_left (show kk + 1 ≤ os.length by omega), ← List.map_drop, List.take_of_length_le (by rw [List.length_map, List.length_drop]; exact Nat.le_refl _)]
      have i1 := atI_ints (ns := os) (k := (kk : Nat)) (by omega) (by omega)
      rw [Int.toNat_natCast] at i1
      rw [show ((0 : Int) + (kk : Nat)) = (kk : Nat) by omega]
      repeat walk_at "vs"
      refine r_ixT hp3 i1 ?_
      repeat walk_at "vs"
      refine iteD (fun c => ?_) (fun c => ?_)
      · repeat walk_at "vs"
        refine r_slT hp3 (by rintro ⟨_, z⟩; rw [HT.sIx_nat, List.length_map] at z; omega) fun l4 H4 n4 q4 e4 => ?_
        rw [s1] at q4
        have hp4 := e4 _ _ hp3
        repeat walk_at "vs"
        refine r_ixT hp4 i1 ?_
        repeat walk_at "vs"
        intro p5 H5 n5 q5 e5
        repeat walk_at "vs"
        refine r_catT (e5 _ _ q4) q5 (by simp; omega) fun p6 H6 q6 e6 => ?_
        have hp6 := e6 _ _ (e5 _ _ hp4)
        repeat walk_at "vs"
        refine r_slT hp6 (by rintro ⟨z, _⟩; rw [show (((kk : Nat) : Int) + 1) = ((kk + 1 : Nat) : Int) by omega, HT.sIx_nat, List.length_map] at z; omega) fun l7 H7 n7 q7 e7 => ?_
        rw [s2] at q7
        repeat walk_at "vs"
        refine r_catT (e7 _ _ q6) q7 (by simp; omega) fun p8 H8 q8 e8 => ?_
        rw [show (os.take kk).map V.int ++ [V.int (os.getD kk 0 + s)] ++ (os.drop (kk + 1)).map V.int = (os.set kk (os.getD kk 0 + s)).map V.int by rw [← set_tk hkk]; simp] at q8
        repeat walk_at "vs"
        refine r_sortedT q8 (by simp; omega) fun l9 ns' H9 n9 hp9 hs9 q9 e9 => ?_
        repeat walk_at "vs"
        refine r_tupleL q9 fun l10 H10 n10 q10 e10 => ?_
        have x10 : Ext H3 H10 := (((((e4.tr e5).tr e6).tr e7).tr e8).tr e9).tr e10
        have q310 := x10 _ _ q3
        repeat walk_at "vs"
        refine r_append q310 (by omega) fun H11 q11 b11 => ?_
        have tl11 := ((tl.ext x10).snoc q10).but q310 b11
        refine ⟨_, _, ts ++ [ns'], rfl, Ext.but (x3.tr x10) b11 n1, q11, tl11, by simp; omega, fun t ht => ?_, fun k hk hR => ?_⟩
        · rcases List.mem_append.mp ht with z | z
          · exact pu.1 t z
          · rw [List.mem_singleton.mp z]; exact ⟨hs9, .inr ⟨rfl, kk, hkk, c, hp9⟩⟩
        · by_cases z : k = kk
          · subst z
            exact ⟨ns', List.mem_append_right _ (List.mem_singleton.mpr rfl), hs9, hp9⟩
          · obtain ⟨t, h1, h2⟩ := pu.2 k (by omega) hR
            exact ⟨t, List.mem_append_left _ h1, h2⟩
      · repeat walk_at "vs"
        refine ⟨_, xs, ts, rfl, x3, q3, tl, by omega, pu.1, fun k hk hR => ?_⟩
        by_cases z : k = kk
        · subst z; exact (c hR).elim
        · exact pu.2 k (by omega) hR
    · rintro σ H3 ⟨u, xs, ts, rfl, x3, q3, tl, lx, pu⟩
      rw [show ((os.length : Int).toNat) = os.length by omega] at lx pu
      repeat walk_at "vs"
      exact hq l xs ts H3 pu (by omega) n1 q3 tl x3
def kyI (L : List Int) : List Key := L.map Sum.inl
theorem kyI_inj {a b : List Int} (h : kyI a = kyI b) : a = b := by
  unfold kyI at h
  have := congrArg (List.map fun k : Key => match k with | .inl i => i | .inr _ => 0) h
  rw [List.map_map, List.map_map] at this
  simpa [Function.comp_def] using this
theorem keys_put {kvs : List (List Key × V)} {k : List Key} {v : V} : (k ∈ kvs.map (·.1) → (putK kvs k v).map (·.1) = kvs.map (·.1)) ∧ (k ∉ kvs.map (·.1) → (putK kvs k v).map (·.1) = kvs.map (·.1) ++ [k]) := by
  unfold putK
  have e : (kvs.any fun kv => decide (kv.1 = k)) = true ↔ k ∈ kvs.map (·.1) := by
    rw [List.any_eq_true, List.mem_map]
    exact ⟨fun ⟨x, h1, h2⟩ => ⟨x, h1, of_decide_eq_true h2⟩, fun ⟨x, h1, h2⟩ => ⟨x, h1, decide_eq_true h2⟩⟩
  constructor
  · intro h
    rw [if_pos (e.mpr h), List.map_map]
    refine List.map_congr_left fun kv _ => ?_
    show (if kv.1 = k then (kv.1, v) else kv).1 = kv.1
    split <;> rfl
  · intro h
    rw [if_neg (fun z => h (e.mp z)), List.map_append]
    rfl
def DueD (os : List Int) (kvs : List (List Key × V)) (Ks : List (List Int)) : Prop := kvs.map (·.1) = Ks.map kyI ∧ Ks.Nodup ∧ ∀ L ∈ Ks, valV kvs (kyI L) = some (.int (prI os L))
theorem DueD.put {os L : List Int} {kvs : List (List Key × V)} {Ks : List (List Int)} (h : DueD os kvs Ks) : ∃ Js, DueD os (putK kvs (kyI L) (.int (prI os L))) Js ∧ (∀ M, M ∈ Js ↔ M ∈ Ks ∨ M = L) ∧ Js.length ≤ Ks.length + 1 := by
  obtain ⟨h1, h2, h3⟩ := h
  have val : ∀ M, valV (putK kvs (kyI L) (.int (prI os L))) (kyI M) = if M = L then some (.int (prI os L)) else valV kvs (kyI M) := fun M => by
    rw [valV_put]
    by_cases e : M = L
    · rw [if_pos e, if_pos (by rw [e])]
    · rw [if_neg e, if_neg (fun z => e (kyI_inj z))]
  by_cases c : L ∈ Ks
  · refine ⟨Ks, ⟨?_, h2, fun M hM => ?_⟩, fun M => ⟨.inl, fun z => z.elim id fun e => e ▸ c⟩, Nat.le_succ _⟩
    · rw [keys_put.1 (by rw [h1]; exact List.mem_map.mpr ⟨L, c, rfl⟩), h1]
    · rw [val]
      split
      · rename_i e; rw [e]
      · exact h3 M hM
  · have c' : kyI L ∉ kvs.map (·.1) := by
      rw [h1]
      intro z
      obtain ⟨M, hM, e⟩ := List.mem_map.mp z
      exact c (kyI_inj e ▸ hM)
    refine ⟨Ks ++ [L], ⟨?_, List.nodup_append.mpr ⟨h2, by simp, fun a ha b hb e => c (by rw [← List.mem_singleton.mp hb, ← e]; exact ha)⟩, fun M hM => ?_⟩, fun M => by rw [List.mem_append, List.mem_singleton], by simp⟩
    · rw [keys_put.2 c', h1, List.map_append]
      rfl
    · rw [val]
      split
      · rename_i e; rw [e]
      · rename_i e
        exact h3 M ((List.mem_append.mp hM).elim id fun z => (e (List.mem_singleton.mp z)).elim)
theorem TL.butD {H H' : Hp} {l : Addr} {kvs : List (List Key × V)} (hl : H l = some (.dT kvs)) (b : But l H H') : ∀ {xs : List V} {ts : List (List Int)}, TL H xs ts → TL H' xs ts
  | [], [], _ => trivial
  | x :: r, t :: ts, ⟨⟨q, h1, h2⟩, h⟩ => ⟨⟨q, h1, b _ _ (ne_of h2 hl (by intro z; cases z)) h2⟩, TL.butD hl b h⟩
  | [], _ :: _, h => h.elim
  | _ :: _, [], h => h.elim
theorem TL.item {H : Hp} : ∀ {xs : List V} {ts : List (List Int)} {i : Nat} {x : V}, TL H xs ts → xs[i]? = some x → ∃ q t, x = .ref q ∧ ts[i]? = some t ∧ H q = some (.tup (t.map V.int))
  | [], [], i, x, _, h => by simp at h
  | x :: r, t :: ts, 0, y, ⟨⟨q, h1, h2⟩, h⟩, e => ⟨q, t, by simp at e; rw [← e]; exact h1, rfl, h2⟩
  | x :: r, t :: ts, i + 1, y, ⟨h1, h⟩, e => by simpa using TL.item (i := i) h (by simpa using e)
  | [], _ :: _, _, _, h, _ => h.elim
  | _ :: _, [], _, _, h, _ => h.elim
def sp_law_due : Sp := fun us H Q _ => ∃ (b : Addr) (R : Int) (os : List Int) (s : Int), us = [.ref b, .int s, .int R] ∧ H b = some (.tup (os.map V.int)) ∧ os.length ≤ 40 ∧
  ∀ l ys (Ms : List (List Int)) H', H' l = some (.lst ys) → PairsH H' ys (Ms.map (prB os)) → Ms.Pairwise (· < ·) → (∀ L, L ∈ Ms ↔ ∃ pr, Goes R os s L pr) → Ext H H' → Q (.ref l) H'
theorem ok_law_due (T : Txt K mg a) : FnOk P w K mg base (CXU P w) 2 a.f_law_due a.d_law_due ["_law_before", "_law_size_here", "_law_room_here"] (sp_law_due) := by
  refine T.F_law_due.okU sc_law_due (fun vs H Q E h => ?_) (fun cdv A outer s H vs Q E hr h => ?_)
  · obtain ⟨b, R, os, s, rfl, hb, l4, hq⟩ := h
    rfl
  · obtain ⟨b, R, os, s, rfl, hb, l4, hq⟩ := h
    refine ⟨_, (pss_cons (ps_set (i := 3) sc_law_due.nd rfl (by first | exact Or.inl rfl | exact Or.inr rfl) (pe_dispT hr (pe_callTy cTuple (by rfl) T.n_tuple PyProof.Rows.boot_tuple (pa_cons (pe_callB cSorted (by rfl) T.n_sorted PyProof.Rows.boot_sorted (pa_cons (pe_op oAddV (pv 0) (pe_tup (pa_cons (pv 1) pa_nil))) pa_nil)) pa_nil)) pe_int))
      (pss_cons (ps_for PassesOwn.never rfl (pi_list (pe_call (ok_law_puts T) (hr.mono (by decide)) (by rfl) T.m_law_puts T.F_law_puts.kp T.b_law_puts .nil passU (pa_cons (pv 0) (pa_cons (pv 1) (pa_cons (pv 2) pa_nil))))) (pg_name (i := 4) sc_law_due.nd rfl (by first | exact Or.inl rfl | exact Or.inr rfl)) (pss_one (ps_dputR hr (pv 3) (pv 4) pe_int rfl)))
      (pss_one (ps_ret (pe_comp (["_law_after"] : List Str) (["_law_found"] : List Str) [3] rfl ⟨rfl, by decide +kernel, by decide +kernel, by rfl, ⟨⟨rfl, by first | exact Or.inl rfl | exact Or.inr rfl, by first | exact Or.inl rfl | exact Or.inr rfl⟩, trivial⟩⟩ (pi_list (pe_callB (cSortDI rfl) (by rfl) T.n_sorted PyProof.Rows.boot_sorted (pa_cons (pe_frz (pv 3)) pa_nil))) (fun _ _ _ _ => ⟨(pg_name (i := 0) (by show ((["_law_after"] : List Str) ++ (["_law_found"] : List Str)).Nodup; decide +kernel) rfl (by first | exact Or.inl rfl | exact Or.inr rfl)), (show PTs _ [] [] from trivial), (pe_tup (pa_cons (pv 0) (pa_cons (pe_dgetR hr (pv 1) (pv 0) (fun _ _ => rfl)) pa_nil)))⟩)))))), ?_⟩
    repeat walk_at "vs"
    refine r_dispT fun d H1 n1 q1 e1 => ?_
    repeat walk_at "vs"
    intro p2 H2 n2 q2 e2
    repeat walk_at "vs"
    refine r_catT ((e1.tr e2) _ _ hb) q2 (by simp; omega) fun p3 H3 q3 e3 => ?_
    rw [show os.map V.int ++ [V.int s] = (os ++ [s]).map V.int by simp] at q3
    repeat walk_at "vs"
    refine r_sortedT q3 (by simp; omega) fun l4' go H4 n4 po wo q4 e4 => ?_
    repeat walk_at "vs"
    refine r_tupleL q4 fun l5 H5 n5 q5 e5 => ?_
    have x15 := e2.tr (e3.tr (e4.tr e5))
    repeat walk_at "vs"
    refine r_dispTK (ks := kyI go) (x15 _ _ q1) (by rw [show (kyI go).map kV = go.map V.int from kV_intsL go]; exact q5) fun H6 q6 b6 => ?_
    have x6 : Ext H H6 := Ext.but (e1.tr x15) b6 n1
    have hb6 := x6 _ _ hb
    have hgo : Goes R os s go 1 := ⟨wo, .inl ⟨rfl, po⟩⟩
    have d0 : DueD os [(kyI go, .int 1)] [go] := ⟨rfl, by simp, fun L hL => by rw [List.mem_singleton.mp hL, ← hgo.pr]; exact valV_pos rfl⟩
    repeat walk_at "vs"
    refine ⟨b, os, s, R, rfl, hb6, by omega, fun l7 xs ts H7 pu lx n7 q7 tl e7 => ?_⟩
    have q67 := e7 _ _ q6
    have lt := tl.len
    have nd7 : l7 ≠ d := fun z => by rw [z, q67] at q7; cases q7
    repeat walk_at "vs"
    refine ⟨l7, rfl, ⟨_, SqL.of q7⟩, for_list (xs := xs) (fun i σ H8 => ∃ (u : Option V) (kvs : List (List Key × V)) (Ks : List (List Int)), σ = [some (.ref b), some (.int s), some (.int R), some (.ref d), u] ∧ Ext H H8 ∧ H8 l7 = some (.lst xs) ∧ TL H8 xs ts ∧ H8 d = some (.dT kvs) ∧ DueD os kvs Ks ∧ (∀ L, L ∈ Ks ↔ L = go ∨ L ∈ ts.take i) ∧ Ks.length ≤ i + 1) ⟨none, _, [go], rfl, x6.tr e7, q7, tl, q67, d0, fun L => by simp, Nat.le_refl _⟩ (fun i σ H8 _ h => by obtain ⟨_, _, _, _, _, h, _⟩ := h; exact SqL.of h) ?_ ?_⟩
    · rintro i x σ H8 hx ⟨u, kvs, Ks, rfl, x8, q8, tl8, d8, D8, m8, l8⟩
      obtain ⟨q, t, rfl, et, hqt⟩ := TL.item tl8 hx
      have hi : i < xs.length := (List.getElem?_eq_some_iff.mp hx).1
      have gt := pu.1 t (List.mem_of_getElem? et)
      have lk : kvs.length = Ks.length := by have := congrArg List.length D8.1; simpa using this
      obtain ⟨Js, D9, m9, l9⟩ := D8.put (L := t)
      repeat walk_at "vs"
      refine r_dputT (k := kyI t) d8 (by rw [show (kyI t).map kV = t.map V.int from kV_intsL t]; exact hqt) (by omega) fun H9 q9 b9 => ?_
      repeat walk_at "vs"
      rw [← gt.pr] at D9
      refine ⟨_, _, Js, rfl, Ext.but x8 b9 n1, b9 _ _ nd7 q8, TL.butD d8 b9 tl8, q9, D9, fun L => ?_, by omega⟩
      rw [m9, m8, List.take_add_one, et]
      simp [or_assoc]
    · rintro σ H8 ⟨u, kvs, Ks, rfl, x8, q8, tl8, d8, D8, m8, l8⟩
      rw [show ts.take xs.length = ts by rw [lt]; exact List.take_length] at m8
      have lk : kvs.length = Ks.length := by have := congrArg List.length D8.1; simpa using this
      have mem : ∀ L, L ∈ Ks ↔ ∃ pr, Goes R os s L pr := fun L => by
        rw [m8]
        constructor
        · rintro (rfl | h)
          · exact ⟨1, hgo⟩
          · exact ⟨0, pu.1 L h⟩
        · rintro ⟨pr, hg⟩
          rcases hg.2 with ⟨_, pm⟩ | ⟨_, k, hk, hR, pm⟩
          · exact .inl (sorted_eq (pm.trans po.symm) hg.1 wo)
          · obtain ⟨t, ht, hs, hp⟩ := pu.2 k hk hR
            exact .inr (by rw [sorted_eq (pm.trans hp.symm) hg.1 hs]; exact ht)
      repeat walk_at "vs"
      refine r_frz ?_
      repeat walk_at "vs"
      refine r_frzT d8 fun o H9 q9 b9 => ?_
      have x9 : Ext H H9 := Ext.but x8 b9 n1
      repeat walk_at "vs"
      refine r_sortDI (Ls := Ks) q9 D8.1 (by omega) (fun L hL z => ?_) fun l10 vs10 Ms H10 n10 q10 rf pm pw e10 => ?_
      · obtain ⟨pr, hg⟩ := (mem L).mp hL
        rw [z] at hg
        rcases hg.2 with ⟨_, p⟩ | ⟨_, k, hk, _, p⟩
        · have := p.length_eq
          simp at this
        · have := p.length_eq
          rw [List.length_set] at this
          simp at this
          omega
      have lM := pm.length_eq
      have lv := rf.length
      repeat walk_at "vs"
      refine ⟨l10, rfl, ⟨_, SqL.of q10⟩, fun acc hn _ _ _ _ => comp_list (SqL.of q10) (by omega) hn (fun j ys H2 => PairsH H2 ys ((Ms.take j).map (prB os))) .nil (fun _ _ _ _ k h => PairsH.keep k h) (fun j ys H' _ h => by have := h.length; rw [List.length_map, List.length_take] at this; omega) ?_ ?_⟩
      · rintro j y ys H11 hy e hrep Y N hY hN
        obtain ⟨c, rfl, hc⟩ := rf.get j y hy
        have hj : j < Ms.length := by
          obtain ⟨z, _⟩ := List.getElem?_eq_some_iff.mp hy
          omega
        have hM : Ms.getD j [] ∈ Ms := by rw [List.getD_eq_getElem?_getD, List.getElem?_eq_getElem hj]; exact List.getElem_mem hj
        repeat walk_at "vs"
        refine r_dgetT (k := kyI (Ms.getD j [])) (.inr ⟨o, (e10.tr e) _ _ q9⟩) (by rw [show (kyI (Ms.getD j [])).map kV = (Ms.getD j []).map V.int from kV_intsL _]; exact e _ _ hc) (D8.2.2 _ (pm.mem_iff.mp hM)) ?_
        repeat walk_at "vs"
        intro q H12 nq qq eq
        refine hY _ _ eq ?_
        have et : (Ms.take (j + 1)).map (prB os) = (Ms.take j).map (prB os) ++ [(Ms.getD j [], prI os (Ms.getD j []))] := by
          rw [List.take_add_one, List.getElem?_eq_getElem hj, List.map_append, List.getD_eq_getElem?_getD, List.getElem?_eq_getElem hj]
          rfl
        rw [et]
        exact PairsH.snoc qq ((e.tr eq) _ _ hc) (hrep.mono eq)
      · rintro ys H11 e11 ha hrep
        rw [List.take_of_length_le (by omega)] at hrep
        exact hq acc _ Ms H11 ha hrep (strict_rows (pm.nodup_iff.mpr D8.2.1) pw) (fun L => by rw [pm.mem_iff, mem]) (x9.tr (e10.tr e11))
def dP (p : List Int × Int) : D := .tup [.tup (p.1.map D.int), .int p.2]
theorem dP_rep {H : Hp} {vs : List V} {Ks : List (List Int × Int)} (r : PairsH H vs Ks) : RepL H (Ks.map dP) vs := by
  induction r with
  | nil => exact RepL.nil
  | cons x y _ ih => exact RepL.cons (Rep.tupI x (RepL.cons (Rep.tupInts y) (RepL.cons .intI RepL.nil))) ih
theorem fineTI (l : List Int) : D.fineL (l.map D.int) = true := by
  induction l with
  | nil => rfl
  | cons x r ih => exact ih
theorem dP_fine : ∀ (Ks : List (List Int × Int)), D.fineL (Ks.map dP) = true
  | [] => rfl
  | p :: r => by
    show ((D.fineL (p.1.map D.int) && true) && D.fineL (r.map dP)) = true
    rw [dP_fine r, fineTI]
    rfl
theorem dP_depth : ∀ (Ks : List (List Int × Int)), D.depthL (Ks.map dP) ≤ 2
  | [] => by decide
  | p :: r => by
    have := dP_depth r
    show max (max (D.depthL (p.1.map D.int) + 1) (max 0 0) + 1) (D.depthL (r.map dP)) ≤ 2
    rw [depthL_ints]
    omega
theorem dP_dep (Ks : List (List Int × Int)) : Nat.ble (D.lst (Ks.map dP)).depth 5 = true := by
  have := dP_depth Ks
  refine Nat.ble_eq.mpr ?_
  show D.depthL (Ks.map dP) + 1 ≤ 5
  omega
def sp_law_moves (a : Adr) : Sp := fun us H Q _ => ∃ (r dw b : Addr) (R : Int) (os : List Int) (s : Int), us = [.ref r, .ref b, .int s, .int R] ∧ H r = some (.ins a.c_Bags dw [("room", .int R)]) ∧ H b = some (.tup (os.map V.int)) ∧ Lds R os ∧ 1 ≤ s ∧ os.length ≤ 40 ∧ ∀ H', Ext H H' → Q (.bl true) H'
theorem ok_law_moves (T : Txt K mg a) : FnOk P w K mg base (CXU P w) 8 a.f_law_moves a.d_law_moves ["_law_world", "_law_before", "_law_size_here", "_law_room_here"] (sp_law_moves a) := by
  refine T.F_law_moves.okU sc_law_moves (fun vs H Q E h => ?_) (fun cdv A outer s H vs Q E hr h => ?_)
  · obtain ⟨r, dw, b, R, os, s, rfl, hr0, hb, hL, s1, l4, hq⟩ := h
    rfl
  · obtain ⟨r, dw, b, R, os, s, rfl, hr0, hb, hL, s1, l4, hq⟩ := h
    have zc_Bags := T.cl_Bags
    have zn_Bags_room := T.na_Bags_room
    refine ⟨_, (pss_cons (ps_set (i := 4) sc_law_moves.nd rfl (by first | exact Or.inl rfl | exact Or.inr rfl) (pe_meth (pv 0) T.cl_Bags T.me_Bags_moves (ok_Bags_moves T) (hr.mono (by decide)) T.b_Bags_moves .nil passU (pa_cons (pv 1) (pa_cons (pv 2) pa_nil))))
      (pss_cons (ps_if (pt_not (ptT (pe_call (ok_law_same T) (hr.mono (by decide)) (by rfl) T.m_law_same T.F_law_same.kp T.b_law_same .nil passU (pa_cons (pv 4) (pa_cons (pe_call (ok_law_due T) (hr.mono (by decide)) (by rfl) T.m_law_due T.F_law_due.kp T.b_law_due .nil passU (pa_cons (pv 1) (pa_cons (pv 2) (pa_cons (pv 3) pa_nil)))) pa_nil))) (fun _ => rfl))) (pss_one (ps_ret pe_bl)) pss_nil)
      (pss_cons (ps_expr (pe_bm0 PySem.F.plainAttrs_list PySem.F.slot_list_clear PySem.F.type_list_clear mt_clear (pv 4)))
      (pss_one (ps_ret (pe_call (ok_law_same T) (hr.mono (by decide)) (by rfl) T.m_law_same T.F_law_same.kp T.b_law_same .nil passU (pa_cons (pe_meth (pv 0) T.cl_Bags T.me_Bags_moves (ok_Bags_moves T) (hr.mono (by decide)) T.b_Bags_moves .nil passU (pa_cons (pv 1) (pa_cons (pv 2) pa_nil))) (pa_cons (pe_call (ok_law_due T) (hr.mono (by decide)) (by rfl) T.m_law_due T.F_law_due.kp T.b_law_due .nil passU (pa_cons (pv 1) (pa_cons (pv 2) (pa_cons (pv 3) pa_nil)))) pa_nil)))))))), ?_⟩
    repeat walk_at "vs"
    refine ⟨r, dw, b, R, os, s, rfl, hr0, hb, .inl ⟨hL, s1, l4, fun l1 y1 M1 H1 n1 q1 p1 w1 g1 e1 => ?_⟩⟩
    repeat walk_at "vs"
    refine ⟨b, R, os, s, rfl, e1 _ _ hb, l4, fun l2' y2 M2 H2 q2 p2 w2 g2 e2 => ?_⟩
    have : M2 = M1 := rise_uniqI w2 w1 fun L => by rw [g1, g2]
    subst this
    repeat walk_at "vs"
    refine same_yes (d := .lst ((M2.map (prB os)).map dP)) (Rep.lstI (e2 _ _ q1) (dP_rep (p1.mono e2))) (Rep.lstI q2 (dP_rep p2)) (dP_fine _) (dP_dep _) fun H3 e3 => ?_
    have x3 := e1.tr (e2.tr e3)
    have c3 := (e2.tr e3) _ _ q1
    repeat walk_at "vs"
    refine r_clear c3 fun H4 q4 b4 => ?_
    have x4 : Ext H H4 := Ext.but x3 b4 n1
    repeat walk_at "vs"
    refine ⟨r, dw, b, R, os, s, rfl, x4 _ _ hr0, x4 _ _ hb, .inl ⟨hL, s1, l4, fun l5 y5 M5 H5 n5 q5 p5 w5 g5 e5 => ?_⟩⟩
    repeat walk_at "vs"
    refine ⟨b, R, os, s, rfl, (x4.tr e5) _ _ hb, l4, fun l6 y6 M6 H6 q6 p6 w6 g6 e6 => ?_⟩
    have : M6 = M5 := rise_uniqI w6 w5 fun L => by rw [g5, g6]
    subst this
    repeat walk_at "vs"
    exact same_yes (d := .lst ((M6.map (prB os)).map dP)) (Rep.lstI (e6 _ _ q5) (dP_rep (p5.mono e6))) (Rep.lstI q6 (dP_rep p6)) (dP_fine _) (dP_dep _) fun H7 e7 => hq H7 (x4.tr (e5.tr (e6.tr e7)))
theorem any_row {ts : List (List Int)} {fs : List Int} : ((ts.map dT).any fun d => eqD d (dT fs)) = decide (fs ∈ ts) := by
  rw [Bool.eq_iff_iff, List.any_map, List.any_eq_true, decide_eq_true_iff]
  constructor
  · rintro ⟨t, ht, e⟩
    have e' : eqD (.tup (t.map D.int)) (.tup (fs.map D.int)) = true := e
    rw [eqD_ints_t, decide_eq_true_iff] at e'
    rw [← e']
    exact ht
  · intro h
    refine ⟨fs, h, ?_⟩
    show eqD (.tup (fs.map D.int)) (.tup (fs.map D.int)) = true
    rw [eqD_ints_t, decide_eq_true rfl]
def sp_law_price : Sp := fun vs H Q _ => ∃ (b f : Addr) (os fs : List Int) (s R : Int) (v : V), vs = [.ref b, .int s, .ref f, .int R] ∧ H b = some (.tup (os.map V.int)) ∧ H f = some (.tup (fs.map V.int)) ∧ os.length ≤ 60 ∧ PrV R os s fs v ∧ ∀ H', Ext H H' → Q v H'
theorem ok_law_price (T : Txt K mg a) : FnOk P w K mg base (CXU P w) 2 a.f_law_price a.d_law_price ["_law_before", "_law_size_here", "_law_after", "_law_room_here"] (sp_law_price) := by
  refine T.F_law_price.okU sc_law_price (fun vs H Q E h => ?_) (fun cdv A outer s H vs Q E hr h => ?_)
  · obtain ⟨b, f, os, fs, s, R, v, rfl, hb, hf, hl, hg, hq⟩ := h
    rfl
  · obtain ⟨b, f, os, fs, s, R, v, rfl, hb, hf, hl, hg, hq⟩ := h
    refine ⟨_, (pss_cons (ps_if (pt_cmpR (oEq hr) (pv 2) (pe_callTy cTuple (by rfl) T.n_tuple PyProof.Rows.boot_tuple (pa_cons (pe_callB cSorted (by rfl) T.n_sorted PyProof.Rows.boot_sorted (pa_cons (pe_op oAddV (pv 0) (pe_tup (pa_cons (pv 1) pa_nil))) pa_nil)) pa_nil)) (nomark _)) (pss_one (ps_ret pe_int)) pss_nil)
      (pss_cons (ps_if (PW.pt (pw_and (pt_cmpR (oEq hr) (pe_callB cLen (by rfl) T.n_len PySem.boot_len (pa_cons (pv 2) pa_nil)) (pe_callB cLen (by rfl) T.n_len PySem.boot_len (pa_cons (pv 0) pa_nil)) (nomark _)) (pw_and1 (pt_cmpR (op_inE hr) (pv 2) (pe_call (ok_law_puts T) (hr.mono (by decide)) (by rfl) T.m_law_puts T.F_law_puts.kp T.b_law_puts .nil passU (pa_cons (pv 0) (pa_cons (pv 1) (pa_cons (pv 3) pa_nil)))) (by with_unfolding_all rfl))))) (pss_one (ps_ret pe_int)) pss_nil)
      (pss_one (ps_ret pe_non)))), ?_⟩
    repeat walk_at "vs"
    intro p1 H1 n1 q1 e1
    repeat walk_at "vs"
    refine r_catT (e1 _ _ hb) q1 (by simp; omega) fun p2 H2 q2 e2 => ?_
    rw [show os.map V.int ++ [V.int s] = (os ++ [s]).map V.int by simp] at q2
    repeat walk_at "vs"
    refine r_sortedT q2 (by simp; omega) fun l3 ns' H3 n3 hp3 hs3 q3 e3 => ?_
    repeat walk_at "vs"
    refine r_tupleL q3 fun l4 H4 n4 q4 e4 => ?_
    have x4 := ((e1.tr e2).tr e3).tr e4
    have hf4 := x4 _ _ hf
    have hb4 := x4 _ _ hb
    repeat walk_at "vs"
    refine r_eqTI hf4 q4 ?_
    by_cases c : fs = ns'
    · subst c
      rw [decide_eq_true rfl]
      repeat walk_at "vs"
      rw [← hg.one ⟨hs3, .inl ⟨rfl, hp3⟩⟩]
      exact hq H4 x4
    have no1 : ∀ z : fs.Pairwise (· ≤ ·), ¬ fs.Perm (os ++ [s]) := fun z1 z => c (sorted_eq (z.trans hp3.symm) z1 hs3)
    rw [decide_eq_false c]
    repeat walk_at "vs"
    refine r_lenT hf4 ?_
    rw [List.length_map]
    repeat walk_at "vs"
    refine r_lenT hb4 ?_
    rw [List.length_map]
    repeat walk_at "vs"
    refine iteD (fun el => ?_) (fun el => ?_)
    · repeat walk_at "vs"
      refine ⟨b, os, s, R, rfl, hb4, hl, fun l5 xs ts H5 pu lx n5 q5 tl e5 => ?_⟩
      repeat walk_at "vs"
      refine r_inE q5 tl.rep (Rep.tupInts (e5 _ _ hf4)) (okT _) (eqOk_ints _) (fun d hd => ?_) ?_
      · obtain ⟨u, _, rfl⟩ := List.mem_map.mp hd
        rw [depT]; decide
      rw [show ((ts.map dT).any fun d => eqD d (.tup (fs.map D.int))) = decide (fs ∈ ts) from any_row]
      by_cases c2 : fs ∈ ts
      · rw [decide_eq_true c2]
        repeat walk_at "vs"
        rw [← hg.nought (pu.1 fs c2)]
        exact hq H5 (x4.tr e5)
      · rw [decide_eq_false c2]
        repeat walk_at "vs"
        rw [← hg.no fun pr z => by
          rcases z.2 with ⟨_, z2⟩ | ⟨_, k, hk, hR, z2⟩
          · exact no1 z.1 z2
          · obtain ⟨t, ht, hs, hp⟩ := pu.2 k hk hR
            exact c2 (by rw [sorted_eq (z2.trans hp.symm) z.1 hs]; exact ht)]
        exact hq H5 (x4.tr e5)
    · repeat walk_at "vs"
      rw [← hg.no fun pr z => by
        rcases z.2 with ⟨_, z2⟩ | ⟨_, k, hk, hR, z2⟩
        · exact no1 z.1 z2
        · have := z2.length_eq
          rw [List.length_set] at this
          omega]
      exact hq H4 x4
def sp_law_mixed : Sp := fun vs H Q _ => ∃ c k, vs = [.int c, .int k] ∧ 0 ≤ k ∧ k ≤ 1000000 ∧ ∀ n, 0 ≤ n → n < 2147483629 → Q (.int n) H
theorem ok_law_mixed (T : Txt K mg a) : FnOk P w K mg base (CXU P w) 1 a.f_law_mixed a.d_law_mixed ["_law_cell", "_law_k"] (sp_law_mixed) := by
  refine T.F_law_mixed.okU sc_law_mixed (fun vs H Q E h => ?_) (fun cdv A outer s H vs Q E hr h => ?_)
  · obtain ⟨c, k, rfl, h0, h1, hq⟩ := h
    rfl
  · obtain ⟨c, k, rfl, h0, h1, hq⟩ := h
    refine ⟨_, (pss_cons (ps_set (i := 2) sc_law_mixed.nd rfl (by first | exact Or.inl rfl | exact Or.inr rfl) (pe_op op_mod (pe_op oAddV (pe_op oAddV (pe_op op_mulB (pe_op op_mod (pv 0) pe_int) pe_int) (pe_op op_mulB (pe_op op_mulB pe_int (pv 1)) (pv 1))) pe_int) pe_int))
      (pss_one (ps_ret (pe_op op_mod (pe_op op_mulB (pv 2) (pv 2)) pe_int)))), ?_⟩
    repeat walk_at "vs"
    exact hq _ (by omega) (by omega)
def sp_law_size : Sp := fun vs H Q _ => ∃ c k R, vs = [.int c, .int k, .int R] ∧ 0 ≤ k ∧ k ≤ 10000 ∧ 1 ≤ R ∧ R ≤ 1000000000000000000 ∧ ∀ s H', 1 ≤ s → s ≤ R → Ext H H' → Q (.int s) H'
theorem at5 {R : Int} (r1 : 1 ≤ R) (n : Int) : ∃ m : Int, atI [V.int (R / 2), V.int (R / 3), V.int R, V.int 1, V.int (R / 2 + 1)] (n % 5) = some (.int m) ∧ m ≤ R := by
  have h0 : n % 5 = 0 ∨ n % 5 = 1 ∨ n % 5 = 2 ∨ n % 5 = 3 ∨ n % 5 = 4 := by omega
  rcases h0 with e | e | e | e | e <;> rw [e]
  · exact ⟨R / 2, rfl, by omega⟩
  · exact ⟨R / 3, rfl, by omega⟩
  · exact ⟨R, rfl, by omega⟩
  · exact ⟨1, rfl, by omega⟩
  · exact ⟨R / 2 + 1, rfl, by omega⟩
theorem ok_law_size (T : Txt K mg a) : FnOk P w K mg base (CXU P w) 2 a.f_law_size a.d_law_size ["_law_cell", "_law_k", "_law_room_here"] (sp_law_size) := by
  refine T.F_law_size.okU sc_law_size (fun vs H Q E h => ?_) (fun cdv A outer s H vs Q E hr h => ?_)
  · obtain ⟨c, k, R, rfl, k0, k1, r1, r2, hq⟩ := h
    rfl
  · obtain ⟨c, k, R, rfl, k0, k1, r1, r2, hq⟩ := h
    refine ⟨_, (pss_cons (ps_set (i := 3) sc_law_size.nd rfl (by first | exact Or.inl rfl | exact Or.inr rfl) (pe_call (ok_law_mixed T) (hr.mono (by decide)) (by rfl) T.m_law_mixed T.F_law_mixed.kp T.b_law_mixed .nil passU (pa_cons (pv 0) (pa_cons (pe_op oAddV (pv 1) pe_int) pa_nil))))
      (pss_cons (ps_set (i := 4) sc_law_size.nd rfl (by first | exact Or.inl rfl | exact Or.inr rfl) (pe_lst (pa_cons (pe_op op_fdivB (pv 2) pe_int) (pa_cons (pe_op op_fdivB (pv 2) pe_int) (pa_cons (pv 2) (pa_cons pe_int (pa_cons (pe_op oAddV (pe_op op_fdivB (pv 2) pe_int) pe_int) pa_nil)))))))
      (pss_cons (ps_if (pt_cmpR (oEq hr) (pe_op op_mod (pv 3) pe_int) pe_int (nomark _)) (pss_one (ps_ret (pe_callB (cMax2 rfl) (by rfl) T.n_max PyProof.Rows.boot_max (pa_cons pe_int (pa_cons (pe_ix oIx (pv 4) (pe_op op_mod (pe_op op_fdivB (pv 3) pe_int) pe_int) (fun _ _ => rfl)) pa_nil))))) pss_nil)
      (pss_cons (ps_if (pt_cmpR (oEq hr) (pe_op op_mod (pv 3) pe_int) pe_int (nomark _)) (pss_one (ps_ret (pe_op oAddV pe_int (pe_op op_mod (pe_op op_fdivB (pv 3) pe_int) (pe_callB (cMax2 rfl) (by rfl) T.n_max PyProof.Rows.boot_max (pa_cons pe_int (pa_cons (pe_op op_fdivB (pv 2) pe_int) pa_nil))))))) pss_nil)
      (pss_one (ps_ret (pe_op oAddV pe_int (pe_op op_mod (pe_op oAddV (pe_op op_mulB (pe_op op_mod (pv 0) (pe_op op_pow pe_int pe_int)) pe_int) (pv 3)) (pv 2))))))))), ?_⟩
    repeat walk_at "vs"
    refine ⟨c, _, rfl, by omega, by omega, fun n n0 n1 => ?_⟩
    repeat walk_at "vs"
    intro p1 H1 n1 q1 e1
    repeat walk_at "vs"
    refine iteD (fun h => ?_) (fun h => ?_)
    · obtain ⟨m, hm, m1⟩ := at5 r1 (n / 3)
      repeat walk_at "vs"
      refine r_ixL q1 hm ?_
      repeat walk_at "vs"
      exact hq _ _ (by omega) (by omega) e1
    · repeat walk_at "vs"
      refine iteD (fun h => ?_) (fun h => ?_)
      · have a0 := Int.emod_nonneg (n / 3) (show max 1 (R / 3) ≠ 0 by omega)
        have a1 := Int.emod_lt_of_pos (n / 3) (show 0 < max 1 (R / 3) by omega)
        repeat walk_at "vs"
        exact hq _ _ (by omega) (by omega) e1
      · have a0 := Int.emod_nonneg (c % 1000000000000000000 * 69621 + n) (show R ≠ 0 by omega)
        have a1 := Int.emod_lt_of_pos (c % 1000000000000000000 * 69621 + n) (show 0 < R by omega)
        repeat walk_at "vs"
        exact hq _ _ (by omega) (by omega) e1
def sp_law_loads : Sp := fun vs H Q _ => ∃ c R m, vs = [.int c, .int R, .int m] ∧ 0 ≤ m ∧ m ≤ 10 ∧ 1 ≤ R ∧ R ≤ 1000000000000000000 ∧ ∀ p (os : List Int) H', (os.length : Int) = m → (∀ x ∈ os, 1 ≤ x ∧ x ≤ R) → os.Pairwise (· ≤ ·) → H p = none → H' p = some (.tup (os.map V.int)) → Ext H H' → Q (.ref p) H'
theorem ok_law_loads (T : Txt K mg a) : FnOk P w K mg base (CXU P w) 3 a.f_law_loads a.d_law_loads ["_law_cell", "_law_room_here", "_law_many"] (sp_law_loads) := by
  refine T.F_law_loads.okU sc_law_loads (fun vs H Q E h => ?_) (fun cdv A outer s H vs Q E hr h => ?_)
  · obtain ⟨c, R, m, rfl, m0, m1, r1, r2, hq⟩ := h
    rfl
  · obtain ⟨c, R, m, rfl, m0, m1, r1, r2, hq⟩ := h
    refine ⟨_, (pss_one (ps_ret (pe_callTy cTuple (by rfl) T.n_tuple PyProof.Rows.boot_tuple (pa_cons (pe_callB cSorted (by rfl) T.n_sorted PyProof.Rows.boot_sorted (pa_cons (pe_comp (["_law_k"] : List Str) (["_law_cell", "_law_room_here"] : List Str) [0, 1] rfl ⟨rfl, by decide +kernel, by decide +kernel, by rfl, ⟨⟨rfl, by first | exact Or.inl rfl | exact Or.inr rfl, by first | exact Or.inl rfl | exact Or.inr rfl⟩, ⟨rfl, by first | exact Or.inl rfl | exact Or.inr rfl, by first | exact Or.inl rfl | exact Or.inr rfl⟩, trivial⟩⟩ (pi_range1 rfl T.n_range (pa_cons (pv 2) pa_nil)) (fun _ _ _ _ => ⟨(pg_name (i := 0) (by show ((["_law_k"] : List Str) ++ (["_law_cell", "_law_room_here"] : List Str)).Nodup; decide +kernel) rfl (by first | exact Or.inl rfl | exact Or.inr rfl)), (show PTs _ [] [] from trivial), (pe_call (ok_law_size T) (hr.mono (by decide)) (by rfl) T.m_law_size T.F_law_size.kp T.b_law_size .nil passU (pa_cons (pv 1) (pa_cons (pe_op oAddV pe_int (pv 0)) (pa_cons (pv 2) pa_nil))))⟩)) pa_nil)) pa_nil)))), ?_⟩
    repeat walk_at "vs"
    refine ⟨_, rfl, by omega, by omega, fun acc hn _ _ _ _ => comp_someR (fun x => 1 ≤ x ∧ x ≤ R) (by omega) hn (fun i H2 Y hi e hY => ?_) fun xs H2 hl hx e ha => ?_⟩
    · repeat walk_at "vs"
      exact ⟨c, _, R, rfl, by omega, by omega, r1, r2, fun s H3 s1 s2 e3 => hY _ _ ⟨s1, s2⟩ e3⟩
    · repeat walk_at "vs"
      refine r_sortedL ha (by omega) fun l ns' H3 n3 hp hs h3 e3 => ?_
      repeat walk_at "vs"
      refine r_tupleL h3 fun q H4 n4 h4 e4 => ?_
      have ll := hp.length_eq
      exact hq q ns' H4 (by omega) (fun x hx' => hx x (hp.mem_iff.mp hx')) hs ((e.tr e3).free n4) h4 ((e.tr e3).tr e4)
def sp_law_behind : Sp := fun vs H Q _ => ∃ (b : Addr) (os : List Int) (s R n : Int), vs = [.ref b, .int s, .int R, .int n] ∧ H b = some (.tup (os.map V.int)) ∧ os.length ≤ 10 ∧ 1 ≤ R ∧ R ≤ 1000000000000000000 ∧ 0 ≤ n ∧ ∀ q (fs : List Int) H', H' q = some (.tup (fs.map V.int)) → Ext H H' → Q (.ref q) H'
theorem cutI_to {os : List Int} {i : Nat} (h : i ≤ os.length) : cutV (os.map V.int) none (some (i : Int)) = (os.take i).map V.int := by
  unfold cutV
  rw [HT.sIx_none, HT.sIx_nat, List.length_map, Nat.min_eq_left h, List.drop_zero, Nat.sub_zero, List.map_take]
theorem cutI_fr {os : List Int} {i : Nat} (h : i ≤ os.length) : cutV (os.map V.int) (some (i : Int)) none = (os.drop i).map V.int := by
  unfold cutV
  rw [HT.sIx_nat, HT.sIx_none, List.length_map, Nat.min_eq_left h, ← List.map_drop, List.take_of_length_le (by rw [List.length_map, List.length_drop]; exact Nat.le_refl _)]
theorem ok_law_behind (T : Txt K mg a) : FnOk P w K mg base (CXU P w) 4 a.f_law_behind a.d_law_behind ["_law_before", "_law_size_here", "_law_room_here", "_law_number"] (sp_law_behind) := by
  refine T.F_law_behind.okU sc_law_behind (fun vs H Q E h => ?_) (fun cdv A outer s H vs Q E hr h => ?_)
  · obtain ⟨b, os, s, R, n, rfl, hb, hl, r1, r2, n0, hq⟩ := h
    rfl
  · obtain ⟨b, os, s, R, n, rfl, hb, hl, r1, r2, n0, hq⟩ := h
    refine ⟨_, (pss_cons (ps_set (i := 4) sc_law_behind.nd rfl (by first | exact Or.inl rfl | exact Or.inr rfl) (pe_op op_mod (pv 3) pe_int))
      (pss_cons (ps_set (i := 5) sc_law_behind.nd rfl (by first | exact Or.inl rfl | exact Or.inr rfl) (pe_callTy cTuple (by rfl) T.n_tuple PyProof.Rows.boot_tuple (pa_cons (pe_callB cSorted (by rfl) T.n_sorted PyProof.Rows.boot_sorted (pa_cons (pe_op oAddV (pv 0) (pe_tup (pa_cons (pv 1) pa_nil))) pa_nil)) pa_nil)))
      (pss_cons (ps_if (PW.pt (pw_or (pt_cmpR (oEq hr) (pv 4) pe_int (nomark _)) (pw_or1 (pt_cmpR (oEq hr) (pv 0) (pe_tup pa_nil) (nomark _))))) (pss_one (ps_ret (pe_ix oIx (pe_lst (pa_cons (pv 5) (pa_cons (pv 0) pa_nil))) (pe_callTy cInt1 (by rfl) T.n_int PyProof.Rows.boot_int (pa_cons (pe_cmpR (oEq hr) (pe_op op_mod (pe_op op_fdivB (pv 3) pe_int) pe_int) pe_int (nomark _)) pa_nil)) (fun _ _ => rfl)))) pss_nil)
      (pss_cons (ps_set (i := 6) sc_law_behind.nd rfl (by first | exact Or.inl rfl | exact Or.inr rfl) (pe_op op_mod (pe_op op_fdivB (pv 3) pe_int) (pe_callB cLen (by rfl) T.n_len PySem.boot_len (pa_cons (pv 0) pa_nil))))
      (pss_cons (ps_set (i := 7) sc_law_behind.nd rfl (by first | exact Or.inl rfl | exact Or.inr rfl) (pe_op oAddV (pe_slice oSlV (pv 0) po_none (po_some (pv 6))) (pe_slice oSlV (pv 0) (po_some (pe_op oAddV (pv 6) pe_int)) po_none)))
      (pss_cons (ps_if (pt_cmpR (oEq hr) (pv 4) pe_int (nomark _)) (pss_one (ps_ret (pe_callTy cTuple (by rfl) T.n_tuple PyProof.Rows.boot_tuple (pa_cons (pe_callB cSorted (by rfl) T.n_sorted PyProof.Rows.boot_sorted (pa_cons (pe_op oAddV (pv 7) (pe_tup (pa_cons (pe_callB (cMin2 rfl) (by rfl) T.n_min PyProof.Rows.boot_min (pa_cons (pv 2) (pa_cons (pe_op oAddV (pe_ix oIx (pv 0) (pv 6) (fun _ _ => rfl)) (pv 1)) pa_nil))) pa_nil))) pa_nil)) pa_nil)))) pss_nil)
      (pss_cons (ps_if (pt_cmpR (oEq hr) (pv 4) pe_int (nomark _)) (pss_one (ps_ret (pe_callTy cTuple (by rfl) T.n_tuple PyProof.Rows.boot_tuple (pa_cons (pe_callB cSorted (by rfl) T.n_sorted PyProof.Rows.boot_sorted (pa_cons (pe_op oAddV (pv 7) (pe_tup (pa_cons (pv 1) pa_nil))) pa_nil)) pa_nil)))) pss_nil)
      (pss_cons (ps_if (pt_cmpR (oEq hr) (pv 4) pe_int (nomark _)) (pss_one (ps_ret (pe_callTy cTuple (by rfl) T.n_tuple PyProof.Rows.boot_tuple (pa_cons (pe_callB cSorted (by rfl) T.n_sorted PyProof.Rows.boot_sorted (pa_cons (pe_op oAddV (pv 7) (pe_tup (pa_cons (pe_ix oIx (pv 0) (pv 6) (fun _ _ => rfl)) (pa_cons (pv 1) (pa_cons pe_int pa_nil))))) pa_nil)) pa_nil)))) pss_nil)
      (pss_cons (ps_set (i := 8) sc_law_behind.nd rfl (by first | exact Or.inl rfl | exact Or.inr rfl) (pe_call (ok_law_puts T) (hr.mono (by decide)) (by rfl) T.m_law_puts T.F_law_puts.kp T.b_law_puts .nil passU (pa_cons (pv 0) (pa_cons (pv 1) (pa_cons (pv 2) pa_nil)))))
      (pss_cons (ps_if (PW.pt (pw_and (pt_cmpR op_lt (pv 4) pe_int (nomark _)) (pw_and1 (pt_cmpR (oNe hr) (pv 8) (pe_lst pa_nil) (nomark _))))) (pss_one (ps_ret (pe_ix oIx (pv 8) (pe_op op_mod (pe_op op_fdivB (pv 3) pe_int) (pe_callB cLen (by rfl) T.n_len PySem.boot_len (pa_cons (pv 8) pa_nil))) (fun _ _ => rfl)))) pss_nil)
      (pss_one (ps_ret (pe_call (ok_law_loads T) (hr.mono (by decide)) (by rfl) T.m_law_loads T.F_law_loads.kp T.b_law_loads .nil passU (pa_cons (pv 3) (pa_cons (pv 2) (pa_cons (pe_callB cLen (by rfl) T.n_len PySem.boot_len (pa_cons (pv 0) pa_nil)) pa_nil)))))))))))))))), ?_⟩
    repeat walk_at "vs"
    intro p1 H1 n1 q1 e1
    repeat walk_at "vs"
    refine r_catT (e1 _ _ hb) q1 (by simp; omega) fun p2 H2 q2 e2 => ?_
    rw [show os.map V.int ++ [V.int s] = (os ++ [s]).map V.int by simp] at q2
    repeat walk_at "vs"
    refine r_sortedT q2 (by simp; omega) fun l3 gs H3 n3 hp3 hs3 q3 e3 => ?_
    repeat walk_at "vs"
    refine r_tupleL q3 fun l4 H4 n4 q4 e4 => ?_
    have x4 := ((e1.tr e2).tr e3).tr e4
    have hb4 := x4 _ _ hb
    have first : ∀ (t : Addr) (H5 : Hp), H5 t = some (.lst [.ref l4, .ref b]) → Ext H4 H5 → ∀ i : Int, (i = 0 ∨ i = 1) → ∃ (q : Addr) (fs : List Int), atI [V.ref l4, V.ref b] i = some (.ref q) ∧ H5 q = some (.tup (fs.map V.int)) := fun t H5 _ e5 i hi => by
      rcases hi with rfl | rfl
      · exact ⟨l4, gs, rfl, e5 _ _ q4⟩
      · exact ⟨b, os, rfl, e5 _ _ hb4⟩
    repeat walk_at "vs"
    refine iteD (fun c0 => ?_) (fun c0 => ?_)
    · repeat walk_at "vs"
      intro t5 H5 n5 q5 e5
      repeat walk_at "vs"
      obtain ⟨q, fs, hq1, hq2⟩ := first t5 H5 q5 e5 (if n / 7 % 5 = 0 then 1 else 0) (by split <;> simp)
      refine r_ixL q5 (v := .ref q) ?_ ?_
      · by_cases c : n / 7 % 5 = 0
        · rw [if_pos c] at hq1
          simpa [c] using hq1
        · rw [if_neg c] at hq1
          simpa [c] using hq1
      repeat walk_at "vs"
      exact hq q fs H5 hq2 (x4.tr e5)
    repeat walk_at "vs"
    intro t5 H5 n5 q5 e5
    have hb5 := e5 _ _ hb4
    repeat walk_at "vs"
    refine r_eqTI (ms := []) hb5 q5 ?_
    by_cases ce : os = []
    · rw [decide_eq_true ce]
      repeat walk_at "vs"
      intro t6 H6 n6 q6 e6
      repeat walk_at "vs"
      obtain ⟨q, fs, hq1, hq2⟩ := first t6 H6 q6 (e5.tr e6) (if n / 7 % 5 = 0 then 1 else 0) (by split <;> simp)
      refine r_ixL q6 (v := .ref q) ?_ ?_
      · by_cases c : n / 7 % 5 = 0
        · rw [if_pos c] at hq1
          simpa [c] using hq1
        · rw [if_neg c] at hq1
          simpa [c] using hq1
      repeat walk_at "vs"
      exact hq q fs H6 hq2 (x4.tr (e5.tr e6))
    rw [decide_eq_false ce]
    have lp : 0 < os.length := List.length_pos_iff.mpr ce
    have a0 := Int.emod_nonneg (n / 7) (show (os.length : Int) ≠ 0 by omega)
    have a1 := Int.emod_lt_of_pos (n / 7) (show (0 : Int) < os.length by omega)
    obtain ⟨kk, ek, hkk⟩ : ∃ kk : Nat, n / 7 % (os.length : Int) = kk ∧ kk < os.length := ⟨(n / 7 % (os.length : Int)).toNat, by omega, by omega⟩
    have i1 := atI_ints (ns := os) (k := (kk : Nat)) (by omega) (by omega)
    rw [Int.toNat_natCast] at i1
    repeat walk_at "vs"
    refine r_lenT hb5 ?_
    rw [List.length_map]
    repeat walk_at "vs"
    rw [ek]
    refine r_slA hb5 fun l6 H6 q6 e6 => ?_
    rw [cutI_to (by omega)] at q6
    have hb6 := e6 _ _ hb5
    repeat walk_at "vs"
    refine r_slA hb6 fun l7 H7 q7 e7 => ?_
    rw [show (some ((kk : Int) + 1)) = some ((kk + 1 : Nat) : Int) from by rw [Int.natCast_add]; rfl, cutI_fr (by omega)] at q7
    have hb7 := e7 _ _ hb6
    repeat walk_at "vs"
    refine r_catT (e7 _ _ q6) q7 (by simp; omega) fun l8 H8 q8 e8 => ?_
    rw [← List.map_append] at q8
    have hb8 := e8 _ _ hb7
    have x8 := x4.tr (e5.tr (e6.tr (e7.tr e8)))
    repeat walk_at "vs"
    refine iteD (fun c1 => ?_) (fun c1 => ?_)
    · repeat walk_at "vs"
      refine r_ixT hb8 i1 ?_
      repeat walk_at "vs"
      intro t9 H9 n9 q9 e9
      repeat walk_at "vs"
      refine r_catT (zs := [_].map V.int) (e9 _ _ q8) q9 (by simp; omega) fun lz Hz qz ez => ?_
      have xz := x8.tr (e9.tr ez)
      rw [← List.map_append] at qz
      repeat walk_at "vs"
      refine r_sortedT qz (by simp only [List.length_append, List.length_take, List.length_drop, List.length_cons, List.length_nil]; omega) fun l6 ns' H6 n6 hp6 hs6 q6 e6 => ?_
      repeat walk_at "vs"
      refine r_tupleL q6 fun l7 H7 n7 q7 e7 => ?_
      exact hq l7 ns' H7 q7 (xz.tr (e6.tr e7))
    repeat walk_at "vs"
    refine iteD (fun c2 => ?_) (fun c2 => ?_)
    · repeat walk_at "vs"
      intro t9 H9 n9 q9 e9
      repeat walk_at "vs"
      refine r_catT (zs := [_].map V.int) (e9 _ _ q8) q9 (by simp; omega) fun lz Hz qz ez => ?_
      have xz := x8.tr (e9.tr ez)
      rw [← List.map_append] at qz
      repeat walk_at "vs"
      refine r_sortedT qz (by simp only [List.length_append, List.length_take, List.length_drop, List.length_cons, List.length_nil]; omega) fun l6 ns' H6 n6 hp6 hs6 q6 e6 => ?_
      repeat walk_at "vs"
      refine r_tupleL q6 fun l7 H7 n7 q7 e7 => ?_
      exact hq l7 ns' H7 q7 (xz.tr (e6.tr e7))
    repeat walk_at "vs"
    refine iteD (fun c3 => ?_) (fun c3 => ?_)
    · repeat walk_at "vs"
      refine r_ixT hb8 i1 ?_
      repeat walk_at "vs"
      intro t9 H9 n9 q9 e9
      repeat walk_at "vs"
      refine r_catT (zs := [_, _, _].map V.int) (e9 _ _ q8) q9 (by simp; omega) fun lz Hz qz ez => ?_
      have xz := x8.tr (e9.tr ez)
      rw [← List.map_append] at qz
      repeat walk_at "vs"
      refine r_sortedT qz (by simp only [List.length_append, List.length_take, List.length_drop, List.length_cons, List.length_nil]; omega) fun l6 ns' H6 n6 hp6 hs6 q6 e6 => ?_
      repeat walk_at "vs"
      refine r_tupleL q6 fun l7 H7 n7 q7 e7 => ?_
      exact hq l7 ns' H7 q7 (xz.tr (e6.tr e7))
    repeat walk_at "vs"
    refine ⟨b, os, s, R, rfl, hb8, by omega, fun l9 xs ts H9 pu lx n9 q9 tl e9 => ?_⟩
    have hb9 := e9 _ _ hb8
    have x9 := x8.tr e9
    have tail : ∀ (H10 : Hp), Ext H9 H10 → ∀ p (fs : List Int) H', H10 p = none → H' p = some (.tup (fs.map V.int)) → Ext H10 H' → Q (.ref p) H' := fun H10 e10 p fs H' _ h e => hq p fs H' h (x9.tr (e10.tr e))
    repeat walk_at "vs"
    refine iteD (fun c6 => ?_) (fun c6 => ?_)
    · repeat walk_at "vs"
      intro t10 H10 n10 q10 e10
      repeat walk_at "vs"
      refine r_neD (Rep.lstI (e10 _ _ q9) (tl.ext e10).rep) (Rep.lstI q10 RepL.nil) (okT _) rfl (by show D.depthL (ts.map dT) + 1 ≤ 20; have := deplT ts; omega) ?_
      rw [eqD_nil]
      by_cases ct : ts = []
      · rw [decide_eq_true ct]
        repeat walk_at "vs"
        refine r_lenT (e10 _ _ hb9) ?_
        rw [List.length_map]
        repeat walk_at "vs"
        exact ⟨_, _, _, rfl, by omega, by omega, r1, r2, fun p gs H11 _ _ _ np qp ep => tail H10 e10 p gs H11 np qp ep⟩
      · rw [decide_eq_false ct]
        have lt := tl.len
        have l1 : 0 < xs.length := by rw [lt]; exact List.length_pos_iff.mpr ct
        have b0 := Int.emod_nonneg (n / 7) (show (xs.length : Int) ≠ 0 by omega)
        have b1 := Int.emod_lt_of_pos (n / 7) (show (0 : Int) < xs.length by omega)
        obtain ⟨q, t, g1, _, g2⟩ := tl.get (i := (n / 7 % (xs.length : Int)).toNat) (by omega)
        repeat walk_at "vs"
        refine r_lenL (e10 _ _ q9) ?_
        repeat walk_at "vs"
        refine r_ixL (e10 _ _ q9) (v := .ref q) (atI_int b0 g1) ?_
        repeat walk_at "vs"
        exact hq q t H10 (e10 _ _ g2) (x9.tr e10)
    · repeat walk_at "vs"
      refine r_lenT hb9 ?_
      rw [List.length_map]
      repeat walk_at "vs"
      exact ⟨_, _, _, rfl, by omega, by omega, r1, r2, fun p gs H11 _ _ _ np qp ep => tail H9 Ext.rfl' p gs H11 np qp ep⟩
def sp_law_raw (K : PySem.W.Frag) : Sp := fun vs H Q _ => ∃ (p : Addr) (ns : List Int) (k : Int), vs = [.ref p, .int k] ∧ SqL K H p (ns.map V.int) ∧ ns.length ≤ 63 ∧ 0 ≤ k ∧ k ≤ 1000 ∧ (∀ z ∈ ns, ib z ≤ 1048576) ∧ ∀ c, ib c ≤ 1048576 → Q (.int c) H
theorem ok_law_raw (T : Txt K mg a) : FnOk P w K mg base (CXU P w) 1 a.f_law_raw a.d_law_raw ["_law_script", "_law_k"] (sp_law_raw K) := by
  refine T.F_law_raw.okU sc_law_raw (fun vs H Q E h => ?_) (fun cdv A outer s H vs Q E hr h => ?_)
  · obtain ⟨p, ns, k, rfl, hS, hz, h0, h1, hb, hq⟩ := h
    rfl
  · obtain ⟨p, ns, k, rfl, hS, hz, h0, h1, hb, hq⟩ := h
    refine ⟨_, (pss_cons (ps_if (pt_cmpR (oEq hr) (pe_callB cLen (by rfl) T.n_len PySem.boot_len (pa_cons (pv 0) pa_nil)) pe_int (nomark _)) (pss_one (ps_ret (pv 1))) pss_nil)
      (pss_one (ps_ret (pe_ix oIx (pv 0) (pe_op op_mod (pv 1) (pe_callB cLen (by rfl) T.n_len PySem.boot_len (pa_cons (pv 0) pa_nil))) (fun _ _ => rfl))))), ?_⟩
    repeat walk_at "vs"
    refine r_lenS hS ?_
    rw [List.length_map]
    repeat walk_at "vs"
    refine iteD (fun h => ?_) (fun h => ?_)
    · repeat walk_at "vs"
      exact hq _ (Nat.le_trans (intBits_le_64 (by omega) (by omega)) (by decide))
    · have hl : (0 : Int) < ns.length := by omega
      have a0 := Int.emod_nonneg k (show (ns.length : Int) ≠ 0 by omega)
      have a1 := Int.emod_lt_of_pos k hl
      repeat walk_at "vs"
      refine r_lenS hS ?_
      rw [List.length_map]
      repeat walk_at "vs"
      refine r_ixS hS (atI_ints a0 a1) ?_
      refine hq _ (hb _ ?_)
      rw [List.getD_eq_getElem?_getD, List.getElem?_eq_getElem (by omega)]
      exact List.getElem_mem _
def sp_is_whole_number : Sp := fun vs H Q _ => ∃ x k, vs = [x] ∧ HasK H x k ∧ Q (.bl (k == .int)) H
theorem ok_is_whole_number (T : Txt K mg a) : FnOk P w K mg base (CXU P w) 1 a.f_is_whole_number a.d_is_whole_number ["thing"] (sp_is_whole_number) := by
  refine T.F_is_whole_number.okU sc_is_whole_number (fun vs H Q E h => ?_) (fun cdv A outer s H vs Q E hr h => ?_)
  · obtain ⟨x, k, rfl, hk, hq⟩ := h
    rfl
  · obtain ⟨x, k, rfl, hk, hq⟩ := h
    refine ⟨_, (pss_one (ps_ret (pe_and (pe_callB cIsin (by rfl) T.n_isinstance PyProof.Rows.boot_isinstance (pa_cons (pv 0) (pa_cons (pe_bltn (v := V.ty "int") (by rfl) T.n_int PyProof.Rows.boot_int rfl) pa_nil))) (pe_one (pe_not (pe_callB cIsin (by rfl) T.n_isinstance PyProof.Rows.boot_isinstance (pa_cons (pv 0) (pa_cons (pe_bltn (v := V.ty "bool") (by rfl) T.n_bool PyProof.Rows.boot_bool rfl) pa_nil)))))))), ?_⟩
    repeat walk_at "vs"
    refine r_isI hk ?_
    cases k <;> (repeat walk_at "vs") <;> first | exact hq | (refine r_isB hk ?_; (repeat walk_at "vs"); exact hq)
def fot (m : Int) : V → Bool
  | .int i => decide (1 ≤ i) && decide (i ≤ m)
  | _ => false
def sp_is_from_one_to : Sp := fun vs H Q _ => ∃ x k m, vs = [x, .int m] ∧ HasK H x k ∧ Q (.bl (fot m x)) H
theorem ok_is_from_one_to (T : Txt K mg a) : FnOk P w K mg base (CXU P w) 2 a.f_is_from_one_to a.d_is_from_one_to ["thing", "most"] (sp_is_from_one_to) := by
  refine T.F_is_from_one_to.okU sc_is_from_one_to (fun vs H Q E h => ?_) (fun cdv A outer s H vs Q E hr h => ?_)
  · obtain ⟨x, k, m, rfl, hk, hq⟩ := h
    rfl
  · obtain ⟨x, k, m, rfl, hk, hq⟩ := h
    refine ⟨_, (pss_one (ps_ret (pe_and (pe_call (ok_is_whole_number T) (hr.mono (by decide)) (by rfl) T.m_is_whole_number T.F_is_whole_number.kp T.b_is_whole_number .nil passU (pa_cons (pv 0) pa_nil)) (pe_one (pe_chain op_le op_le pe_int (pv 0) (pv 1)))))), ?_⟩
    repeat walk_at "vs"
    refine ⟨x, k, rfl, hk, ?_⟩
    cases x with
    | int i =>
      cases (show k = .int from hk)
      repeat walk_at "vs"
      refine iteD (fun h => ?_) (fun h => ?_)
      · repeat walk_at "vs"
        have e : fot m (.int i) = decide (i ≤ m) := by show (decide (1 ≤ i) && _) = _; rw [decide_eq_true h, Bool.true_and]
        rw [← e]; exact hq
      · repeat walk_at "vs"
        have e : fot m (.int i) = false := by show (decide (1 ≤ i) && _) = _; rw [decide_eq_false h, Bool.false_and]
        rw [← e]; exact hq
    | non => cases (show k = .non from hk); (repeat walk_at "vs"); exact hq
    | bl b => cases (show k = .bl from hk); (repeat walk_at "vs"); exact hq
    | str b => cases (show k = .str from hk); (repeat walk_at "vs"); exact hq
    | ref b =>
      have e : (k == .int) = false := by rcases hk with ⟨_, _, rfl⟩ | ⟨_, _, rfl⟩ | ⟨_, _, rfl⟩ <;> rfl
      rw [e]; (repeat walk_at "vs"); exact hq
    | _ => exact hk.elim
def sp_Bags_is_wish (a : Adr) : Sp := fun vs H Q _ => ∃ (w dw : Addr) (R : Int) (x : V) (k : Kd), vs = [.ref w, x] ∧ H w = some (.ins a.c_Bags dw [("room", .int R)]) ∧ HasK H x k ∧ Q (.bl (fot R x)) H
theorem ok_Bags_is_wish (T : Txt K mg a) : FnOk P w K mg base (CXU P w) 3 a.f_Bags_is_wish a.d_Bags_is_wish ["self", "thing"] (sp_Bags_is_wish a) := by
  refine T.F_Bags_is_wish.okU sc_Bags_is_wish (fun vs H Q E h => ?_) (fun cdv A outer s H vs Q E hr h => ?_)
  · obtain ⟨w, dw, R, x, k, rfl, hw, hk, hq⟩ := h
    rfl
  · obtain ⟨w, dw, R, x, k, rfl, hw, hk, hq⟩ := h
    have zc_Bags := T.cl_Bags
    have zn_Bags_room := T.na_Bags_room
    refine ⟨_, (pss_one (ps_ret (pe_call (ok_is_from_one_to T) (hr.mono (by decide)) (by rfl) T.m_is_from_one_to T.F_is_from_one_to.kp T.b_is_from_one_to .nil passU (pa_cons (pv 1) (pa_cons (pe_fld (pv 0) rfl) pa_nil))))), ?_⟩
    repeat walk_at "vs"
    exact ⟨x, k, R, rfl, hk, hq⟩
theorem Lds.snoc {R z : Int} {ns : List Int} (h : Lds R ns) (z1 : 1 ≤ z) (z2 : z ≤ R) (z3 : 0 < ns.length → ns.getD (ns.length - 1) 0 ≤ z) : Lds R (ns ++ [z]) := by
  refine ⟨List.pairwise_append.mpr ⟨h.1, List.pairwise_singleton _ _, fun x hx y hy => ?_⟩, fun x hx => ?_⟩
  · rw [List.mem_singleton.mp hy]
    skip; obtain ⟨j, hj, rfl⟩ := List.getElem_of_mem hx
    have l0 := z3 (by omega)
    rw [List.getD_eq_getElem?_getD, List.getElem?_eq_getElem (by omega), Option.getD_some] at l0
    by_cases e : j = ns.length - 1
    · subst e; exact l0
    · have := List.pairwise_iff_getElem.mp h.1 j (ns.length - 1) hj (by omega) (by omega)
      omega
  · rcases List.mem_append.mp hx with q | q
    · exact h.2 x q
    · rw [List.mem_singleton.mp q]; exact ⟨z1, z2⟩
theorem at_V {xs : List V} {i : Nat} {y : V} (h : xs[i]? = some y) : atI xs (i : Nat) = some y := atI_int (by omega) (by rw [Int.toNat_natCast]; exact h)
def sp_law_is_state : Sp := fun vs H Q _ => ∃ (x : V) (R : Int) (b : Bool), vs = [x, .int R] ∧ StB H R x b ∧ Q (.bl b) H
theorem ok_law_is_state (T : Txt K mg a) : FnOk P w K mg base (CXU P w) 2 a.f_law_is_state a.d_law_is_state ["_law_thing", "_law_room_here"] (sp_law_is_state) := by
  refine T.F_law_is_state.okU sc_law_is_state (fun vs H Q E h => ?_) (fun cdv A outer s H vs Q E hr h => ?_)
  · obtain ⟨x, R, b, rfl, hs, hq⟩ := h
    rfl
  · obtain ⟨x, R, b, rfl, hs, hq⟩ := h
    refine ⟨_, (pss_cons (ps_if (PW.pt (pw_or (pt_not (ptT (pe_callB cIsin (by rfl) T.n_isinstance PyProof.Rows.boot_isinstance (pa_cons (pv 0) (pa_cons (pe_bltn (v := V.ty "tuple") (by rfl) T.n_tuple PyProof.Rows.boot_tuple rfl) pa_nil))) (fun _ => rfl))) (pw_or1 (pt_cmpR op_gt (pe_callB cLen (by rfl) T.n_len PySem.boot_len (pa_cons (pv 0) pa_nil)) pe_int (nomark _))))) (pss_one (ps_ret pe_bl)) pss_nil)
      (pss_cons (ps_for PassesOwn.never rfl (pi_range1 rfl T.n_range (pa_cons (pe_callB cLen (by rfl) T.n_len PySem.boot_len (pa_cons (pv 0) pa_nil)) pa_nil)) (pg_name (i := 2) sc_law_is_state.nd rfl (by first | exact Or.inl rfl | exact Or.inr rfl)) (pss_one (ps_if (PW.pt (pw_or (pt_not (ptT (pe_call (ok_law_whole T) (hr.mono (by decide)) (by rfl) T.m_law_whole T.F_law_whole.kp T.b_law_whole .nil passU (pa_cons (pe_ix oIx (pv 0) (pv 2) (fun _ _ => rfl)) pa_nil)) (fun _ => rfl))) (pw_or (pt_cmpR op_lt (pe_ix oIx (pv 0) (pv 2) (fun _ _ => rfl)) pe_int (nomark _)) (pw_or (pt_cmpR op_gt (pe_ix oIx (pv 0) (pv 2) (fun _ _ => rfl)) (pv 1) (nomark _)) (pw_or1 (PW.pt (pw_and (pt_cmpR op_gt (pv 2) pe_int (nomark _)) (pw_and1 (pt_cmpR op_gt (pe_ix oIx (pv 0) (pe_op op_sub (pv 2) pe_int) (fun _ _ => rfl)) (pe_ix oIx (pv 0) (pv 2) (fun _ _ => rfl)) (nomark _)))))))))) (pss_one (ps_ret pe_bl)) pss_nil)))
      (pss_one (ps_ret pe_bl)))), ?_⟩
    repeat walk_at "vs"
    rcases hs with ⟨rfl, k, hk, nk⟩ | ⟨p, xs, rfl, hp, hl, hi, hb⟩
    · refine r_isT hk ?_
      rw [show (k == Kd.tup) = false from beq_eq_false_iff_ne.mpr nk]
      repeat walk_at "vs"
      exact hq
    · have l9 : xs.length ≤ 900 := by
        rcases hl with h | ⟨n, h, rfl⟩
        · omega
        · simpa using h
      refine r_isT (HasK.t hp) ?_
      repeat walk_at "vs"
      refine r_lenT hp ?_
      repeat walk_at "vs"
      refine iteD (fun c => ?_) (fun c => ?_)
      · have e : b = false := Bool.eq_false_iff.mpr fun z => by have := (hb.mp z).1; omega
        subst e
        repeat walk_at "vs"
        exact hq
      repeat walk_at "vs"
      refine r_lenT hp ?_
      repeat walk_at "vs"
      refine ⟨_, rfl, by omega, by omega, for_range (fun i σ H3 => (∃ u, σ = [some (.ref p), some (.int R), u]) ∧ H3 = H ∧ ∃ ns : List Int, xs.take i = ns.map V.int ∧ Lds R ns) ⟨⟨none, rfl⟩, rfl, [], rfl, List.Pairwise.nil, fun x h => by cases h⟩ ?_ ?_⟩
      · rintro i σ H3 hi' ⟨⟨u, rfl⟩, rfl, ns, ens, hL⟩
        have hil : i < xs.length := by omega
        obtain ⟨y, hy⟩ : ∃ y, xs[i]? = some y := ⟨_, List.getElem?_eq_getElem hil⟩
        obtain ⟨k, hky⟩ := hi y (List.mem_of_getElem? hy)
        have ln : ns.length = i := by have := congrArg List.length ens; rw [List.length_map, List.length_take] at this; omega
        have bad : (∀ z : Int, y = .int z → ¬ (1 ≤ z ∧ z ≤ R ∧ (0 < i → ns.getD (i - 1) 0 ≤ z))) → b = false := fun hno => Bool.eq_false_iff.mpr fun zb => by
          obtain ⟨_, ms, rfl, hM⟩ := hb.mp zb
          rw [List.getElem?_map] at hy
          obtain ⟨z, hz, e⟩ := Option.map_eq_some_iff.mp hy
          have zm := hM.2 z (List.mem_of_getElem? hz)
          refine hno z e.symm ⟨zm.1, zm.2, fun i0 => ?_⟩
          rw [← List.map_take] at ens
          have en := ints_inj ens
          rw [← en, List.getD_eq_getElem?_getD, List.getElem?_take_of_lt (by omega)]
          obtain ⟨hi2, ez⟩ := List.getElem?_eq_some_iff.mp hz
          rw [List.getElem?_eq_getElem (by omega), Option.getD_some, ← ez]
          exact List.pairwise_iff_getElem.mp hM.1 (i - 1) i (by omega) hi2 (by omega)
        rw [show ((0 : Int) + (i : Nat)) = (i : Nat) by omega]
        repeat walk_at "vs"
        refine r_ixT hp (at_V hy) ?_
        repeat walk_at "vs"
        refine ⟨y, k, rfl, hky, ?_⟩
        by_cases ki : k = .int
        · subst ki
          obtain ⟨z, rfl⟩ : ∃ z, y = .int z := by
            cases y with
            | int z => exact ⟨z, rfl⟩
            | non => cases hky
            | bl b => cases hky
            | str b => cases hky
            | ref b => rcases hky with ⟨_, _, e⟩ | ⟨_, _, e⟩ | ⟨_, _, e⟩ <;> cases e
            | _ => exact hky.elim
          repeat walk_at "vs"
          refine r_ixT hp (at_V hy) ?_
          repeat walk_at "vs"
          refine iteD (fun c1 => ?_) (fun c1 => ?_)
          · have := bad fun w e => by cases e; omega
            subst this
            repeat walk_at "vs"
            exact hq
          repeat walk_at "vs"
          refine r_ixT hp (at_V hy) ?_
          repeat walk_at "vs"
          refine iteD (fun c2 => ?_) (fun c2 => ?_)
          · have := bad fun w e => by cases e; omega
            subst this
            repeat walk_at "vs"
            exact hq
          have et : xs.take (i + 1) = (ns ++ [z]).map V.int := by rw [List.take_add_one, hy, ens]; simp
          repeat walk_at "vs"
          refine iteD (fun c3 => ?_) (fun c3 => ?_)
          · have hp1 : xs[i - 1]? = some (.int (ns.getD (i - 1) 0)) := by
              have : (xs.take i)[i - 1]? = some (.int (ns.getD (i - 1) 0)) := by
                rw [ens, List.getElem?_map, List.getD_eq_getElem?_getD, List.getElem?_eq_getElem (by omega)]
                rfl
              rw [List.getElem?_take_of_lt (by omega)] at this
              exact this
            have i2 := at_V hp1
            rw [show (((i - 1 : Nat)) : Int) = (i : Int) - 1 by omega] at i2
            repeat walk_at "vs"
            refine r_ixT hp i2 ?_
            repeat walk_at "vs"
            refine r_ixT hp (at_V hy) ?_
            repeat walk_at "vs"
            refine iteD (fun c4 => ?_) (fun c4 => ?_)
            · have := bad fun w e q => by cases e; have := q.2.2 (by omega); omega
              subst this
              repeat walk_at "vs"
              exact hq
            · repeat walk_at "vs"
              exact ⟨⟨_, rfl⟩, rfl, _, et, hL.snoc (by omega) (by omega) fun _ => by rw [ln]; omega⟩
          · repeat walk_at "vs"
            exact ⟨⟨_, rfl⟩, rfl, _, et, hL.snoc (by omega) (by omega) fun z => by omega⟩
        · have := bad fun w e => by subst e; exact (ki hky).elim
          subst this
          rw [show (k == Kd.int) = false from beq_eq_false_iff_ne.mpr ki]
          repeat walk_at "vs"
          exact hq
      · rintro σ H3 ⟨⟨u, rfl⟩, rfl, ns, ens, hL⟩
        rw [show ((xs.length : Int).toNat) = xs.length by omega, List.take_length] at ens
        have e : b = true := hb.mpr ⟨by omega, ns, ens, hL⟩
        subst e
        repeat walk_at "vs"
        exact hq
theorem all_fot {R : Int} : ∀ {xs : List V}, (xs.map (fot R)).all id = true → ∃ ms : List Int, xs = ms.map V.int ∧ ∀ x ∈ ms, 1 ≤ x ∧ x ≤ R
  | [], _ => ⟨[], rfl, fun _ h => by cases h⟩
  | v :: r, h => by
    rw [List.map_cons, List.all_cons, Bool.and_eq_true] at h
    obtain ⟨ms, e, hm⟩ := all_fot h.2
    have h1 : fot R v = true := h.1
    cases v with
    | int i =>
      have h2 : (decide (1 ≤ i) && decide (i ≤ R)) = true := h1
      rw [Bool.and_eq_true, decide_eq_true_iff, decide_eq_true_iff] at h2
      refine ⟨i :: ms, by rw [e]; rfl, fun x hx => ?_⟩
      skip; rcases List.mem_cons.mp hx with rfl | hx
      · exact h2
      · exact hm x hx
    | _ => cases h1
def sp_Bags_is_state (a : Adr) : Sp := fun vs H Q _ => ∃ (w dw : Addr) (R : Int) (x : V) (b : Bool), vs = [.ref w, x] ∧ H w = some (.ins a.c_Bags dw [("room", .int R)]) ∧ StB H R x b ∧ ∀ H', Ext H H' → Q (.bl b) H'
theorem ok_Bags_is_state (T : Txt K mg a) : FnOk P w K mg base (CXU P w) 3 a.f_Bags_is_state a.d_Bags_is_state ["self", "thing"] (sp_Bags_is_state a) := by
  refine T.F_Bags_is_state.okU sc_Bags_is_state (fun vs H Q E h => ?_) (fun cdv A outer s H vs Q E hr h => ?_)
  · obtain ⟨w, dw, R, x, b, rfl, hw, hs, hq⟩ := h
    rfl
  · obtain ⟨w, dw, R, x, b, rfl, hw, hs, hq⟩ := h
    have zc_Bags := T.cl_Bags
    have zn_Bags_room := T.na_Bags_room
    refine ⟨_, (pss_cons (ps_if (PW.pt (pw_or (pt_not (ptT (pe_callB cIsin (by rfl) T.n_isinstance PyProof.Rows.boot_isinstance (pa_cons (pv 1) (pa_cons (pe_bltn (v := V.ty "tuple") (by rfl) T.n_tuple PyProof.Rows.boot_tuple rfl) pa_nil))) (fun _ => rfl))) (pw_or1 (pt_cmpR op_gt (pe_callB cLen (by rfl) T.n_len PySem.boot_len (pa_cons (pv 1) pa_nil)) (pe_glob (v := V.int 500) (by rfl) T.m_MOST_BAGS ⟨_, rfl⟩) (nomark _))))) (pss_one (ps_ret pe_bl)) pss_nil)
      (pss_cons (ps_if (pt_not (ptT (pe_callB (cAll rfl) (by rfl) T.n_all PyProof.Rows.boot_all (pa_cons (pe_comp (["load"] : List Str) (["self"] : List Str) [0] rfl ⟨rfl, by decide +kernel, by decide +kernel, by rfl, ⟨⟨rfl, by first | exact Or.inl rfl | exact Or.inr rfl, by first | exact Or.inl rfl | exact Or.inr rfl⟩, trivial⟩⟩ (pi_tup (pv 1)) (fun _ _ _ _ => ⟨(pg_name (i := 0) (by show ((["load"] : List Str) ++ (["self"] : List Str)).Nodup; decide +kernel) rfl (by first | exact Or.inl rfl | exact Or.inr rfl)), (show PTs _ [] [] from trivial), (pe_call (ok_is_from_one_to T) (hr.mono (by decide)) (by rfl) T.m_is_from_one_to T.F_is_from_one_to.kp T.b_is_from_one_to .nil passU (pa_cons (pv 0) (pa_cons (pe_fld (pv 1) rfl) pa_nil)))⟩)) pa_nil)) (fun _ => rfl))) (pss_one (ps_ret pe_bl)) pss_nil)
      (pss_one (ps_ret (pe_cmpR (oEq hr) (pe_callTy cList (by rfl) T.n_list PyProof.Rows.boot_list (pa_cons (pv 1) pa_nil)) (pe_callB cSortX (by rfl) T.n_sorted PyProof.Rows.boot_sorted (pa_cons (pv 1) pa_nil)) (nomark _)))))), ?_⟩
    repeat walk_at "vs"
    rcases hs with ⟨rfl, k, hk, nk⟩ | ⟨p, xs, rfl, hp, hl, hi, hb⟩
    · refine r_isT hk ?_
      rw [show (k == Kd.tup) = false from beq_eq_false_iff_ne.mpr nk]
      repeat walk_at "vs"
      exact hq H Ext.rfl'
    · have l9 : xs.length ≤ 900 := by
        rcases hl with h | ⟨n, h, rfl⟩
        · omega
        · simpa using h
      refine r_isT (HasK.t hp) ?_
      repeat walk_at "vs"
      refine r_lenT hp ?_
      repeat walk_at "vs"
      refine iteD (fun c => ?_) (fun c => ?_)
      · have e : b = false := Bool.eq_false_iff.mpr fun z => by have := (hb.mp z).1; omega
        subst e
        repeat walk_at "vs"
        exact hq H Ext.rfl'
      · repeat walk_at "vs"
        refine ⟨p, rfl, ⟨_, SqT.of hp⟩, fun acc hn _ _ _ _ => comp_tup (SqT.of hp) (by omega) hn (fun j ys _ => ys = ((xs.take j).map (fot R)).map V.bl) (by simp) (fun _ _ _ _ _ h => h) (fun j ys H' _ h => by rw [h, List.length_map, List.length_map, List.length_take]; omega) ?_ ?_⟩
        · rintro j y ys H2 hy e rfl Y N hY hN
          obtain ⟨k, hky⟩ := hi y (List.mem_of_getElem? hy)
          have hw2 := e _ _ hw
          repeat walk_at "vs"
          refine ⟨y, k, R, rfl, hky.mono e, ?_⟩
          refine hY _ _ Ext.rfl' ?_
          rw [List.take_add_one, hy]
          simp
        · rintro ys H2 e ha rfl
          rw [List.take_of_length_le (Nat.le_refl _)] at ha
          repeat walk_at "vs"
          refine r_all ha ?_
          cases eb : (xs.map (fot R)).all id with
          | false =>
            have e0 : b = false := Bool.eq_false_iff.mpr fun z => by
              obtain ⟨_, ns, rfl, hL⟩ := hb.mp z
              have : ((ns.map V.int).map (fot R)).all id = true := by
                rw [List.all_eq_true]
                intro t ht
                obtain ⟨v, hv, rfl⟩ := List.mem_map.mp ht
                obtain ⟨n, hn', rfl⟩ := List.mem_map.mp hv
                have := hL.2 n hn'
                show (decide (1 ≤ n) && decide (n ≤ R)) = true
                rw [decide_eq_true this.1, decide_eq_true this.2]
                rfl
              rw [this] at eb
              cases eb
            subst e0
            repeat walk_at "vs"
            exact hq H2 e
          | true =>
            obtain ⟨ns, rfl, hm⟩ := all_fot eb
            rw [List.length_map] at l9 c hl
            have key : ∀ ms : List Int, ms.Perm ns → ms.Pairwise (· ≤ ·) → b = decide (ns = ms) := fun ms pm pw => by
              rw [Bool.eq_iff_iff, hb, decide_eq_true_iff]
              constructor
              · rintro ⟨_, ks, ek, hL⟩
                rw [← ints_inj ek] at hL
                exact sorted_eq pm.symm hL.1 pw
              · rintro rfl
                exact ⟨by rw [List.length_map]; omega, ns, rfl, pw, hm⟩
            repeat walk_at "vs"
            refine r_listT (e _ _ hp) fun l H3 n3 h3 e3 => ?_
            have hp3 := e3 _ _ (e _ _ hp)
            repeat walk_at "vs"
            rcases hl with hl | ⟨n, hn, er⟩
            · refine r_sortXS (r_sortedT hp3 (by omega) fun l2 ns' H4 n4 hpm hs h4 e4 => ?_)
              repeat walk_at "vs"
              refine r_eqLI (e4 _ _ h3) h4 ?_
              rw [← key ns' hpm hs]
              exact hq H4 ((e.tr e3).tr e4)
            · have ea : ns.Pairwise (· ≤ ·) := by rw [ints_inj er]; exact ones_asc n
              refine r_sortXT hp3 (by omega) ea fun l2 H4 n4 h4 e4 => ?_
              repeat walk_at "vs"
              refine r_eqLI (e4 _ _ h3) h4 ?_
              rw [← key ns (List.Perm.refl _) ea]
              exact hq H4 ((e.tr e3).tr e4)
def Tg (H : Hp) (x : V) : Prop := (∃ k, HasK H x k ∧ k ≠ .tup) ∨ ∃ (p : Addr) (xs : List V), x = .ref p ∧ H p = some (.tup xs) ∧ (xs.length ≤ 60 ∨ ∃ n, n ≤ 900 ∧ xs = (List.replicate n (1 : Int)).map V.int) ∧ ∀ y ∈ xs, ∃ k, HasK H y k
theorem Tg.mono {H H' : Hp} {x : V} (e : Ext H H') (h : Tg H x) : Tg H' x := by
  rcases h with ⟨k, h1, h2⟩ | ⟨p, xs, h1, h2, h3, h4⟩
  · exact .inl ⟨k, h1.mono e, h2⟩
  · exact .inr ⟨p, xs, h1, e _ _ h2, h3, fun y hy => by obtain ⟨k, hk⟩ := h4 y hy; exact ⟨k, hk.mono e⟩⟩
theorem Tg.knd {H : Hp} {x : V} (h : Tg H x) : ∃ k, HasK H x k := by
  rcases h with ⟨k, h1, _⟩ | ⟨p, xs, rfl, h2, _⟩
  · exact ⟨k, h1⟩
  · exact ⟨.tup, HasK.t h2⟩
theorem Tg.st {H : Hp} {x : V} (R : Int) (h : Tg H x) : ∃ b, StB H R x b := by
  rcases h with h | ⟨p, xs, h1, h2, h3, h4⟩
  · exact ⟨false, .inl ⟨rfl, h⟩⟩
  · by_cases c : xs.length ≤ 500 ∧ ∃ ns : List Int, xs = ns.map V.int ∧ Lds R ns
    · exact ⟨true, .inr ⟨p, xs, h1, h2, h3, h4, fun _ => c, fun _ => rfl⟩⟩
    · exact ⟨false, .inr ⟨p, xs, h1, h2, h3, h4, fun z => (by cases z), fun z => (c z).elim⟩⟩
theorem Tg.kd {H : Hp} {x : V} {k : Kd} (h : HasK H x k) (n : k ≠ .tup) : Tg H x := .inl ⟨k, h, n⟩
theorem Tg.tp {H : Hp} {p : Addr} {xs : List V} (h : H p = some (.tup xs)) (l : xs.length ≤ 60 ∨ ∃ n, n ≤ 900 ∧ xs = (List.replicate n (1 : Int)).map V.int) (i : ∀ y ∈ xs, ∃ k, HasK H y k) : Tg H (.ref p) := .inr ⟨p, xs, rfl, h, l, i⟩
theorem io_ints {H : Hp} (ns : List Int) : ∀ y ∈ ns.map V.int, ∃ k, HasK H y k := fun y hy => by
  obtain ⟨n, _, rfl⟩ := List.mem_map.mp hy
  exact ⟨.int, rfl⟩
theorem ioa {H : Hp} {xs ys : List V} (h1 : ∀ y ∈ xs, ∃ k, HasK H y k) (h2 : ∀ y ∈ ys, ∃ k, HasK H y k) : ∀ y ∈ xs ++ ys, ∃ k, HasK H y k := fun y hy => (List.mem_append.mp hy).elim (h1 y) (h2 y)
theorem io1 {H : Hp} {x : V} (h : ∃ k, HasK H x k) : ∀ y ∈ [x], ∃ k, HasK H y k := fun y hy => by rw [List.mem_singleton.mp hy]; exact h
theorem io2 {H : Hp} {x x' : V} (h : ∃ k, HasK H x k) (h' : ∃ k, HasK H x' k) : ∀ y ∈ [x, x'], ∃ k, HasK H y k := fun y hy => (List.mem_cons.mp hy).elim (fun e => e ▸ h) (io1 h' y)
theorem io3 {H : Hp} {x x' x'' : V} (h : ∃ k, HasK H x k) (h' : ∃ k, HasK H x' k) (h'' : ∃ k, HasK H x'' k) : ∀ y ∈ [x, x', x''], ∃ k, HasK H y k := fun y hy => (List.mem_cons.mp hy).elim (fun e => e ▸ h) (io2 h' h'' y)
theorem tg_nil {H : Hp} : ∀ v ∈ ([] : List V), Tg H v := fun v h => by cases h
theorem tg_cons {H : Hp} {x : V} {xs : List V} (h : Tg H x) (r : ∀ v ∈ xs, Tg H v) : ∀ v ∈ x :: xs, Tg H v := fun v hv => (List.mem_cons.mp hv).elim (fun e => e ▸ h) (r v)
theorem tg_app {H : Hp} {xs ys : List V} (h1 : ∀ y ∈ xs, Tg H y) (h2 : ∀ y ∈ ys, Tg H y) : ∀ y ∈ xs ++ ys, Tg H y := fun y hy => (List.mem_append.mp hy).elim (h1 y) (h2 y)
theorem hasK_int {H : Hp} {x : V} (h : HasK H x .int) : ∃ z, x = .int z := by
  cases x with
  | int z => exact ⟨z, rfl⟩
  | non => cases h
  | bl b => cases h
  | str b => cases h
  | ref b => rcases h with ⟨_, _, e⟩ | ⟨_, _, e⟩ | ⟨_, _, e⟩ <;> cases e
  | _ => exact h.elim
theorem fot_kd {H : Hp} {x : V} {k : Kd} {R : Int} (h : HasK H x k) (n : k ≠ .int) : fot R x = false := by
  cases x with
  | int z => exact absurd h n
  | _ => rfl
def sp_law_kinds (a : Adr) : Sp := fun vs H Q _ => ∃ (r dw p : Addr) (os : List Int) (R n : Int), vs = [.ref r, .ref p, .int R, .int n] ∧ H r = some (.ins a.c_Bags dw [("room", .int R)]) ∧ H p = some (.tup (os.map V.int)) ∧ os.length ≤ 10 ∧ 0 ≤ n ∧ ∀ H', Ext H H' → Q (.bl true) H'
theorem ok_law_kinds (T : Txt K mg a) : FnOk P w K mg base (CXU P w) 8 a.f_law_kinds a.d_law_kinds ["_law_world", "_law_state", "_law_room_here", "_law_number"] (sp_law_kinds a) := by
  refine T.F_law_kinds.okU sc_law_kinds (fun vs H Q E h => ?_) (fun cdv A outer s H vs Q E hr h => ?_)
  · obtain ⟨r, dw, p, os, R, n, rfl, hr0, hp, l4, n0, hq⟩ := h
    rfl
  · obtain ⟨r, dw, p, os, R, n, rfl, hr0, hp, l4, n0, hq⟩ := h
    have zc_Bags := T.cl_Bags
    have zn_Bags_room := T.na_Bags_room
    refine ⟨_, (pss_cons (ps_set (i := 4) sc_law_kinds.nd rfl (by first | exact Or.inl rfl | exact Or.inr rfl) (pe_lst (pa_cons (pv 1) (pa_cons (pe_callTy cList (by rfl) T.n_list PyProof.Rows.boot_list (pa_cons (pv 1) pa_nil)) (pa_cons (pe_op oAddV (pv 1) (pe_tup (pa_cons (pv 2) pa_nil))) (pa_cons (pe_op oAddV (pv 1) (pe_tup (pa_cons (pe_op oAddV (pv 2) pe_int) pa_nil))) (pa_cons (pe_op oAddV (pe_tup (pa_cons pe_int pa_nil)) (pv 1)) (pa_cons (pe_op oAddV (pe_tup (pa_cons pe_bl pa_nil)) (pv 1)) (pa_cons (pe_tup (pa_cons pe_str pa_nil)) (pa_cons (pe_tup (pa_cons pe_non pa_nil)) pa_nil))))))))))
      (pss_cons (ps_set (i := 4) sc_law_kinds.nd rfl (by first | exact Or.inl rfl | exact Or.inr rfl) (pe_op oAddV (pv 4) (pe_lst (pa_cons (pe_tupRev rfl (by rfl) T.n_tuple (by rfl) T.n_reversed (pa_cons (pv 1) pa_nil)) (pa_cons (pe_tup pa_nil) (pa_cons pe_non (pa_cons pe_bl (pa_cons pe_int (pa_cons pe_int (pa_cons (pv 2) (pa_cons (pe_op oAddV (pv 2) pe_int) (pa_cons (pe_op op_sub pe_int pe_int) (pa_cons pe_str (pa_cons pe_dnewK (pa_cons (pe_tup (pa_cons pe_int (pa_cons (pv 2) pa_nil))) (pa_cons (pe_tup (pa_cons (pv 2) (pa_cons pe_int pa_nil))) pa_nil))))))))))))))))
      (pss_cons (ps_set (i := 4) sc_law_kinds.nd rfl (by first | exact Or.inl rfl | exact Or.inr rfl) (pe_op oAddV (pv 4) (pe_lst (pa_cons pe_bl (pa_cons (pe_lst (pa_cons pe_int pa_nil)) (pa_cons (pe_tup (pa_cons (pe_tup (pa_cons pe_int pa_nil)) pa_nil)) (pa_cons (pe_op op_repT (pe_tup (pa_cons pe_int pa_nil)) (pe_op oAddV pe_int (pe_op op_mod (pv 3) pe_int))) (pa_cons (pe_op op_sub pe_int (pv 2)) (pa_cons (pe_op op_sub (pe_op op_mod (pv 3) pe_int) pe_int) (pa_cons (pe_tup (pa_cons (pe_op op_sub (pe_op op_mod (pv 3) pe_int) pe_int) pa_nil)) pa_nil))))))))))
      (pss_cons (ps_set (i := 4) sc_law_kinds.nd rfl (by first | exact Or.inl rfl | exact Or.inr rfl) (pe_op oAddV (pv 4) (pe_lst (pa_cons (pe_op oAddV (pv 1) (pe_tup (pa_cons pe_str pa_nil))) (pa_cons (pe_op oAddV (pe_tup (pa_cons pe_str pa_nil)) (pv 1)) (pa_cons (pe_tup (pa_cons pe_int (pa_cons pe_non pa_nil))) (pa_cons (pe_tup (pa_cons pe_non (pa_cons pe_int pa_nil))) (pa_cons (pe_tup (pa_cons (pv 2) (pa_cons (pe_tup (pa_cons pe_int pa_nil)) pa_nil))) (pa_cons (pe_tup (pa_cons (pe_lst (pa_cons pe_int pa_nil)) (pa_cons pe_int pa_nil))) (pa_cons (pe_tup (pa_cons pe_int (pa_cons pe_dnewK pa_nil))) pa_nil))))))))))
      (pss_cons (ps_expr (pe_bm PySem.F.plainAttrs_list PySem.F.slot_list_append PySem.F.type_list_append mt_append (pv 4) (pa_cons (pe_tup (pa_cons pe_int (pa_cons pe_str (pa_cons (pv 2) pa_nil)))) pa_nil)))
      (pss_cons (ps_for PassesOwn.never rfl (pi_list (pv 4)) (pg_name (i := 5) sc_law_kinds.nd rfl (by first | exact Or.inl rfl | exact Or.inr rfl)) (pss_cons (ps_if (pt_not (ptT (pe_call (ok_law_same T) (hr.mono (by decide)) (by rfl) T.m_law_same T.F_law_same.kp T.b_law_same .nil passU (pa_cons (pe_meth (pv 0) T.cl_Bags T.me_Bags_is_state (ok_Bags_is_state T) (hr.mono (by decide)) T.b_Bags_is_state .nil passU (pa_cons (pv 5) pa_nil)) (pa_cons (pe_call (ok_law_is_state T) (hr.mono (by decide)) (by rfl) T.m_law_is_state T.F_law_is_state.kp T.b_law_is_state .nil passU (pa_cons (pv 5) (pa_cons (pv 2) pa_nil))) pa_nil))) (fun _ => rfl))) (pss_one (ps_ret pe_bl)) pss_nil)
      (pss_cons (ps_set (i := 6) sc_law_kinds.nd rfl (by first | exact Or.inl rfl | exact Or.inr rfl) (pe_and (pe_call (ok_law_whole T) (hr.mono (by decide)) (by rfl) T.m_law_whole T.F_law_whole.kp T.b_law_whole .nil passU (pa_cons (pv 5) pa_nil)) (pe_and (pe_cmpR op_le pe_int (pv 5) (nomark _)) (pe_one (pe_cmpR op_le (pv 5) (pv 2) (nomark _))))))
      (pss_one (ps_if (pt_not (ptT (pe_call (ok_law_same T) (hr.mono (by decide)) (by rfl) T.m_law_same T.F_law_same.kp T.b_law_same .nil passU (pa_cons (pe_meth (pv 0) T.cl_Bags T.me_Bags_is_wish (ok_Bags_is_wish T) (hr.mono (by decide)) T.b_Bags_is_wish .nil passU (pa_cons (pv 5) pa_nil)) (pa_cons (pv 6) pa_nil))) (fun _ => rfl))) (pss_one (ps_ret pe_bl)) pss_nil)))))
      (pss_one (ps_ret pe_bl)))))))), ?_⟩
    have hrep : (499 + n % 3).toNat ≤ 900 := by omega
    have hp0 := hp
    repeat walk_at "vs"
    refine r_listT hp0 fun l1 H1 n1 q1 e1 => ?_
    have hp1 := e1 _ _ hp0
    repeat walk_at "vs"
    intro t2 H2 n2 q2 e2
    have hp2 := e2 _ _ hp1
    repeat walk_at "vs"
    refine r_catT hp2 q2 (by simp; omega) fun t3 H3 q3 e3 => ?_
    have hp3 := e3 _ _ hp2
    repeat walk_at "vs"
    intro t4 H4 n4 q4 e4
    have hp4 := e4 _ _ hp3
    repeat walk_at "vs"
    refine r_catT hp4 q4 (by simp; omega) fun t5 H5 q5 e5 => ?_
    have hp5 := e5 _ _ hp4
    repeat walk_at "vs"
    intro t6 H6 n6 q6 e6
    have hp6 := e6 _ _ hp5
    repeat walk_at "vs"
    refine r_catT q6 hp6 (by simp; omega) fun t7 H7 q7 e7 => ?_
    have hp7 := e7 _ _ hp6
    repeat walk_at "vs"
    intro t8 H8 n8 q8 e8
    have hp8 := e8 _ _ hp7
    repeat walk_at "vs"
    refine r_catT q8 hp8 (by simp; omega) fun t9 H9 q9 e9 => ?_
    have hp9 := e9 _ _ hp8
    repeat walk_at "vs"
    intro t10 H10 n10 q10 e10
    have hp10 := e10 _ _ hp9
    repeat walk_at "vs"
    intro t11 H11 n11 q11 e11
    have hp11 := e11 _ _ hp10
    repeat walk_at "vs"
    intro l12 H12 n12 q12 e12
    have hp12 := e12 _ _ hp11
    repeat walk_at "vs"
    refine r_tupRev hp12 fun t13 H13 n13 q13 e13 => ?_
    have hp13 := e13 _ _ hp12
    repeat walk_at "vs"
    intro t14 H14 n14 q14 e14
    have hp14 := e14 _ _ hp13
    repeat walk_at "vs"
    intro d15 H15 n15 q15 e15
    have hp15 := e15 _ _ hp14
    repeat walk_at "vs"
    intro t16 H16 n16 q16 e16
    have hp16 := e16 _ _ hp15
    repeat walk_at "vs"
    intro t17 H17 n17 q17 e17
    have hp17 := e17 _ _ hp16
    repeat walk_at "vs"
    intro l18 H18 n18 q18 e18
    have hp18 := e18 _ _ hp17
    repeat walk_at "vs"
    refine r_catL (e18 _ _ (e17 _ _ (e16 _ _ (e15 _ _ (e14 _ _ (e13 _ _ q12)))))) q18 (by simp) fun l19 H19 n19 q19 e19 => ?_
    have hp19 := e19 _ _ hp18
    repeat walk_at "vs"
    intro l20 H20 n20 q20 e20
    have hp20 := e20 _ _ hp19
    repeat walk_at "vs"
    intro t21 H21 n21 q21 e21
    have hp21 := e21 _ _ hp20
    repeat walk_at "vs"
    intro t22 H22 n22 q22 e22
    have hp22 := e22 _ _ hp21
    repeat walk_at "vs"
    intro t23 H23 n23 q23 e23
    have hp23 := e23 _ _ hp22
    repeat walk_at "vs"
    refine r_repT q23 (by omega) (by omega) fun t24 H24 q24 e24 => ?_
    have hp24 := e24 _ _ hp23
    repeat walk_at "vs"
    intro t25 H25 n25 q25 e25
    have hp25 := e25 _ _ hp24
    repeat walk_at "vs"
    intro l26 H26 n26 q26 e26
    have hp26 := e26 _ _ hp25
    repeat walk_at "vs"
    refine r_catL (e26 _ _ (e25 _ _ (e24 _ _ (e23 _ _ (e22 _ _ (e21 _ _ (e20 _ _ q19))))))) q26 (by simp) fun l27 H27 n27 q27 e27 => ?_
    have hp27 := e27 _ _ hp26
    repeat walk_at "vs"
    intro t28 H28 n28 q28 e28
    have hp28 := e28 _ _ hp27
    repeat walk_at "vs"
    refine r_catT hp28 q28 (by simp; omega) fun t29 H29 q29 e29 => ?_
    have hp29 := e29 _ _ hp28
    repeat walk_at "vs"
    intro t30 H30 n30 q30 e30
    have hp30 := e30 _ _ hp29
    repeat walk_at "vs"
    refine r_catT q30 hp30 (by simp; omega) fun t31 H31 q31 e31 => ?_
    have hp31 := e31 _ _ hp30
    repeat walk_at "vs"
    intro t32 H32 n32 q32 e32
    have hp32 := e32 _ _ hp31
    repeat walk_at "vs"
    intro t33 H33 n33 q33 e33
    have hp33 := e33 _ _ hp32
    repeat walk_at "vs"
    intro t34 H34 n34 q34 e34
    have hp34 := e34 _ _ hp33
    repeat walk_at "vs"
    intro t35 H35 n35 q35 e35
    have hp35 := e35 _ _ hp34
    repeat walk_at "vs"
    intro l36 H36 n36 q36 e36
    have hp36 := e36 _ _ hp35
    repeat walk_at "vs"
    intro t37 H37 n37 q37 e37
    have hp37 := e37 _ _ hp36
    repeat walk_at "vs"
    intro d38 H38 n38 q38 e38
    have hp38 := e38 _ _ hp37
    repeat walk_at "vs"
    intro t39 H39 n39 q39 e39
    have hp39 := e39 _ _ hp38
    repeat walk_at "vs"
    intro l40 H40 n40 q40 e40
    have hp40 := e40 _ _ hp39
    repeat walk_at "vs"
    refine r_catL (e40 _ _ (e39 _ _ (e38 _ _ (e37 _ _ (e36 _ _ (e35 _ _ (e34 _ _ (e33 _ _ (e32 _ _ (e31 _ _ (e30 _ _ (e29 _ _ (e28 _ _ q27))))))))))))) q40 (by simp) fun l41 H41 n41 q41 e41 => ?_
    have hp41 := e41 _ _ hp40
    repeat walk_at "vs"
    intro t42 H42 n42 q42 e42
    have hp42 := e42 _ _ hp41
    repeat walk_at "vs"
    refine r_append ((e42 _ _ q41)) (by simp) fun Hz qz bz => ?_
    have x40 : Ext H40 H40 := Ext.rfl'
    have x39 : Ext H39 H40 := e40.tr x40
    have x38 : Ext H38 H40 := e39.tr x39
    have x37 : Ext H37 H40 := e38.tr x38
    have x36 : Ext H36 H40 := e37.tr x37
    have x35 : Ext H35 H40 := e36.tr x36
    have x34 : Ext H34 H40 := e35.tr x35
    have x33 : Ext H33 H40 := e34.tr x34
    have x32 : Ext H32 H40 := e33.tr x33
    have x31 : Ext H31 H40 := e32.tr x32
    have x30 : Ext H30 H40 := e31.tr x31
    have x29 : Ext H29 H40 := e30.tr x30
    have x28 : Ext H28 H40 := e29.tr x29
    have x27 : Ext H27 H40 := e28.tr x28
    have x26 : Ext H26 H40 := e27.tr x27
    have x25 : Ext H25 H40 := e26.tr x26
    have x24 : Ext H24 H40 := e25.tr x25
    have x23 : Ext H23 H40 := e24.tr x24
    have x22 : Ext H22 H40 := e23.tr x23
    have x21 : Ext H21 H40 := e22.tr x22
    have x20 : Ext H20 H40 := e21.tr x21
    have x19 : Ext H19 H40 := e20.tr x20
    have x18 : Ext H18 H40 := e19.tr x19
    have x17 : Ext H17 H40 := e18.tr x18
    have x16 : Ext H16 H40 := e17.tr x17
    have x15 : Ext H15 H40 := e16.tr x16
    have x14 : Ext H14 H40 := e15.tr x15
    have x13 : Ext H13 H40 := e14.tr x14
    have x12 : Ext H12 H40 := e13.tr x13
    have x11 : Ext H11 H40 := e12.tr x12
    have x10 : Ext H10 H40 := e11.tr x11
    have x9 : Ext H9 H40 := e10.tr x10
    have x8 : Ext H8 H40 := e9.tr x9
    have x7 : Ext H7 H40 := e8.tr x8
    have x6 : Ext H6 H40 := e7.tr x7
    have x5 : Ext H5 H40 := e6.tr x6
    have x4 : Ext H4 H40 := e5.tr x5
    have x3 : Ext H3 H40 := e4.tr x4
    have x2 : Ext H2 H40 := e3.tr x3
    have x1 : Ext H1 H40 := e2.tr x2
    have x0 : Ext H H40 := e1.tr x1
    have up : ∀ {Hk : Hp}, Ext Hk H40 → Ext Hk Hz := fun x => Ext.but (x.tr (e41.tr e42)) bz (x.free n41)
    have yz : Hz t42 = some (.tup [.int 1, .str "1", .int R]) := bz _ _ (fun z => by rw [z] at n42; rw [q41] at n42; cases n42) q42
    have hpz := up x0 _ _ hp
    have ki : ∀ y ∈ os.map V.int, ∃ k, HasK Hz y k := io_ints os
    obtain ⟨xs, exs, hall⟩ : ∃ xs, Hz l41 = some (.lst xs) ∧ (xs.length ≤ 1000 ∧ ∀ v ∈ xs, Tg Hz v) := by
      refine ⟨_, qz, by simp, tg_app (tg_app (tg_app (tg_app ?_ ?_) ?_) ?_) (tg_cons (.tp yz (.inl (by simp)) (io3 ⟨.int, rfl⟩ ⟨.str, rfl⟩ ⟨.int, rfl⟩)) tg_nil)⟩
      · refine tg_cons (.tp hpz (.inl (by simp <;> omega)) ki) ?_
        refine tg_cons (.kd (HasK.l (up x1 _ _ q1)) (by intro z; cases z)) ?_
        refine tg_cons (.tp (up x3 _ _ q3) (.inl (by simp <;> omega)) (ioa ki (io1 ⟨.int, rfl⟩))) ?_
        refine tg_cons (.tp (up x5 _ _ q5) (.inl (by simp <;> omega)) (ioa ki (io1 ⟨.int, rfl⟩))) ?_
        refine tg_cons (.tp (up x7 _ _ q7) (.inl (by simp <;> omega)) (ioa (io1 ⟨.int, rfl⟩) ki)) ?_
        refine tg_cons (.tp (up x9 _ _ q9) (.inl (by simp <;> omega)) (ioa (io1 ⟨.bl, rfl⟩) ki)) ?_
        refine tg_cons (.tp (up x10 _ _ q10) (.inl (by simp <;> omega)) (io1 ⟨.str, rfl⟩)) ?_
        refine tg_cons (.tp (up x11 _ _ q11) (.inl (by simp <;> omega)) (io1 ⟨.non, rfl⟩)) ?_
        exact tg_nil
      · refine tg_cons (.tp (up x13 _ _ q13) (.inl (by simp <;> omega)) (fun y hy => ki y (List.mem_reverse.mp hy))) ?_
        refine tg_cons (.tp (up x14 _ _ q14) (.inl (by simp <;> omega)) (fun y hy => by cases hy)) ?_
        refine tg_cons (.kd (k := .non) rfl (by intro z; cases z)) ?_
        refine tg_cons (.kd (k := .bl) rfl (by intro z; cases z)) ?_
        refine tg_cons (.kd (k := .int) rfl (by intro z; cases z)) ?_
        refine tg_cons (.kd (k := .int) rfl (by intro z; cases z)) ?_
        refine tg_cons (.kd (k := .int) rfl (by intro z; cases z)) ?_
        refine tg_cons (.kd (k := .int) rfl (by intro z; cases z)) ?_
        refine tg_cons (.kd (k := .int) rfl (by intro z; cases z)) ?_
        refine tg_cons (.kd (k := .str) rfl (by intro z; cases z)) ?_
        refine tg_cons (.kd (HasK.d (up x15 _ _ q15)) (by intro z; cases z)) ?_
        refine tg_cons (.tp (up x16 _ _ q16) (.inl (by simp <;> omega)) (io2 ⟨.int, rfl⟩ ⟨.int, rfl⟩)) ?_
        refine tg_cons (.tp (up x17 _ _ q17) (.inl (by simp <;> omega)) (io2 ⟨.int, rfl⟩ ⟨.int, rfl⟩)) ?_
        exact tg_nil
      · refine tg_cons (.kd (k := .bl) rfl (by intro z; cases z)) ?_
        refine tg_cons (.kd (HasK.l (up x20 _ _ q20)) (by intro z; cases z)) ?_
        refine tg_cons (.tp (up x22 _ _ q22) (.inl (by simp <;> omega)) (io1 ⟨.tup, HasK.t (up x21 _ _ q21)⟩)) ?_
        refine tg_cons (.tp (up x24 _ _ q24) (.inr ⟨_, hrep, by rw [List.map_replicate]⟩) (fun y hy => by rw [List.eq_of_mem_replicate hy]; exact ⟨.int, rfl⟩)) ?_
        refine tg_cons (.kd (k := .int) rfl (by intro z; cases z)) ?_
        refine tg_cons (.kd (k := .int) rfl (by intro z; cases z)) ?_
        refine tg_cons (.tp (up x25 _ _ q25) (.inl (by simp <;> omega)) (io1 ⟨.int, rfl⟩)) ?_
        exact tg_nil
      · refine tg_cons (.tp (up x29 _ _ q29) (.inl (by simp <;> omega)) (ioa ki (io1 ⟨.str, rfl⟩))) ?_
        refine tg_cons (.tp (up x31 _ _ q31) (.inl (by simp <;> omega)) (ioa (io1 ⟨.str, rfl⟩) ki)) ?_
        refine tg_cons (.tp (up x32 _ _ q32) (.inl (by simp <;> omega)) (io2 ⟨.int, rfl⟩ ⟨.non, rfl⟩)) ?_
        refine tg_cons (.tp (up x33 _ _ q33) (.inl (by simp <;> omega)) (io2 ⟨.non, rfl⟩ ⟨.int, rfl⟩)) ?_
        refine tg_cons (.tp (up x35 _ _ q35) (.inl (by simp <;> omega)) (io2 ⟨.int, rfl⟩ ⟨.tup, HasK.t (up x34 _ _ q34)⟩)) ?_
        refine tg_cons (.tp (up x37 _ _ q37) (.inl (by simp <;> omega)) (io2 ⟨.lst, HasK.l (up x36 _ _ q36)⟩ ⟨.int, rfl⟩)) ?_
        refine tg_cons (.tp (up x39 _ _ q39) (.inl (by simp <;> omega)) (io2 ⟨.int, rfl⟩ ⟨.dct, HasK.d (up x38 _ _ q38)⟩)) ?_
        exact tg_nil
    obtain ⟨xl, hall⟩ := hall
    have xx := up x0
    have hr1 := xx _ _ hr0
    clear q1 q2 q3 q4 q5 q6 q7 q8 q9 q10 q11 q12 q13 q14 q15 q16 q17 q18 q19 q20 q21 q22 q23 q24 q25 q26 q27 q28 q29 q30 q31 q32 q33 q34 q35 q36 q37 q38 q39 q40 q41 q42 hp1 hp2 hp3 hp4 hp5 hp6 hp7 hp8 hp9 hp10 hp11 hp12 hp13 hp14 hp15 hp16 hp17 hp18 hp19 hp20 hp21 hp22 hp23 hp24 hp25 hp26 hp27 hp28 hp29 hp30 hp31 hp32 hp33 hp34 hp35 hp36 hp37 hp38 hp39 hp40 hp41 hp42
    repeat walk_at "vs"
    refine ⟨l41, rfl, ⟨_, SqL.of exs⟩, for_list (xs := xs) (fun i σ H9' => (∃ u1 u2, σ = [some (.ref r), some (.ref p), some (.int R), some (.int n), some (.ref l41), u1, u2]) ∧ Ext Hz H9') ⟨⟨none, none, rfl⟩, Ext.rfl'⟩ (fun i σ H9' _ h => SqL.of (h.2 _ _ exs)) ?_ ?_⟩
    · rintro i x σ Hb hx ⟨⟨u1, u2, rfl⟩, xb⟩
      have ht := (hall x (List.mem_of_getElem? hx)).mono xb
      obtain ⟨k, hk⟩ := ht.knd
      obtain ⟨b, hb⟩ := ht.st R
      have hrb := xb _ _ hr1
      repeat walk_at "vs"
      refine ⟨r, dw, R, x, b, rfl, hrb, hb, fun Hc ec => ?_⟩
      repeat walk_at "vs"
      refine ⟨x, R, b, rfl, hb.mono ec, ?_⟩
      repeat walk_at "vs"
      refine same_yes (d := .bl b) .blI .blI rfl rfl fun He ee => ?_
      have xe := ec.tr ee
      have hre := xe _ _ hrb
      repeat walk_at "vs"
      refine ⟨x, k, rfl, hk.mono xe, ?_⟩
      by_cases ki : k = .int
      · subst ki
        obtain ⟨z, rfl⟩ := hasK_int hk
        repeat walk_at "vs"
        have fz : fot R (.int z) = (decide (1 ≤ z) && decide (z ≤ R)) := rfl
        refine iteD (fun c1 => ?_) (fun c1 => ?_)
        · repeat walk_at "vs"
          refine ⟨r, dw, R, _, .int, rfl, hre, rfl, ?_⟩
          rw [fz, decide_eq_true c1, Bool.true_and]
          repeat walk_at "vs"
          refine same_yes (d := .bl (decide (z ≤ R))) .blI .blI rfl rfl fun Hg eg => ?_
          repeat walk_at "vs"
          exact ⟨⟨_, _, rfl⟩, xb.tr (xe.tr eg)⟩
        · repeat walk_at "vs"
          refine ⟨r, dw, R, _, .int, rfl, hre, rfl, ?_⟩
          rw [fz, decide_eq_false c1, Bool.false_and]
          repeat walk_at "vs"
          refine same_yes (d := .bl false) .blI .blI rfl rfl fun Hg eg => ?_
          repeat walk_at "vs"
          exact ⟨⟨_, _, rfl⟩, xb.tr (xe.tr eg)⟩
      · rw [show (k == Kd.int) = false from beq_eq_false_iff_ne.mpr ki]
        repeat walk_at "vs"
        refine ⟨r, dw, R, _, k, rfl, hre, hk.mono xe, ?_⟩
        rw [fot_kd hk ki]
        repeat walk_at "vs"
        refine same_yes (d := .bl false) .blI .blI rfl rfl fun Hg eg => ?_
        repeat walk_at "vs"
        exact ⟨⟨_, _, rfl⟩, xb.tr (xe.tr eg)⟩
    · rintro σ Hb ⟨⟨u1, u2, rfl⟩, xb⟩
      repeat walk_at "vs"
      exact hq Hb (xx.tr xb)
def sp_law_mix (K : PySem.W.Frag) : Sp := fun vs H Q _ => ∃ (p : Addr) (ns : List Int) (k : Int), vs = [.ref p, .int k] ∧ SqL K H p (ns.map V.int) ∧ ns.length ≤ 63 ∧ 0 ≤ k ∧ k ≤ 1000 ∧ (∀ z ∈ ns, ib z ≤ 1048576) ∧ ∀ n, 0 ≤ n → n < 2147483647 → Q (.int n) H
theorem ok_law_mix (T : Txt K mg a) : FnOk P w K mg base (CXU P w) 2 a.f_law_mix a.d_law_mix ["_law_script", "_law_k"] (sp_law_mix K) := by
  refine T.F_law_mix.okU sc_law_mix (fun vs H Q E h => ?_) (fun cdv A outer s H vs Q E hr h => ?_)
  · obtain ⟨p, ns, k, rfl, hS, hz, h0, h1, hb, hq⟩ := h
    rfl
  · obtain ⟨p, ns, k, rfl, hS, hz, h0, h1, hb, hq⟩ := h
    refine ⟨_, (pss_cons (ps_if (pt_cmpR (oEq hr) (pe_callB cLen (by rfl) T.n_len PySem.boot_len (pa_cons (pv 0) pa_nil)) pe_int (nomark _)) (pss_one (ps_ret (pe_op op_mod (pe_op op_mulB (pe_op oAddV (pe_op op_mulB (pv 1) (pv 1)) pe_int) pe_int) pe_int))) pss_nil)
      (pss_cons (ps_set (i := 2) sc_law_mix.nd rfl (by first | exact Or.inl rfl | exact Or.inr rfl) (pe_op op_fdivB (pv 1) (pe_callB cLen (by rfl) T.n_len PySem.boot_len (pa_cons (pv 0) pa_nil))))
      (pss_one (ps_ret (pe_op op_mod (pe_op op_mulB (pe_op oAddV (pe_op op_mod (pe_call (ok_law_raw T) (hr.mono (by decide)) (by rfl) T.m_law_raw T.F_law_raw.kp T.b_law_raw .nil passU (pa_cons (pv 0) (pa_cons (pv 1) pa_nil))) pe_int) pe_int) (pe_op oAddV pe_int (pe_op op_mulB (pe_op op_mulB pe_int (pv 2)) (pv 2)))) pe_int))))), ?_⟩
    repeat walk_at "vs"
    refine r_lenS hS ?_
    rw [List.length_map]
    repeat walk_at "vs"
    refine iteD (fun h => ?_) (fun h => ?_)
    · repeat walk_at "vs"
      exact hq _ (by omega) (by omega)
    · have hl : (0 : Int) < ns.length := by omega
      have d0 : 0 ≤ k / (ns.length : Int) := Int.ediv_nonneg h0 (by omega)
      have d1 : k / (ns.length : Int) ≤ k := Int.ediv_le_self _ h0
      repeat walk_at "vs"
      refine r_lenS hS ?_
      rw [List.length_map]
      repeat walk_at "vs"
      generalize k / (ns.length : Int) = tn at *
      refine ⟨p, ns, k, rfl, hS, hz, h0, h1, hb, fun c hc => ?_⟩
      repeat walk_at "vs"
      exact hq _ (by omega) (by omega)
def sp_law_room : Sp := fun vs H Q _ => ∃ c n, vs = [.int c, .int n] ∧ 0 ≤ n ∧ ∀ r, 1 ≤ r → r ≤ 1000000000000000000 → Q (.int r) H
theorem ok_law_room (T : Txt K mg a) : FnOk P w K mg base (CXU P w) 1 a.f_law_room a.d_law_room ["_law_cell", "_law_number"] (sp_law_room) := by
  refine T.F_law_room.okU sc_law_room (fun vs H Q E h => ?_) (fun cdv A outer s H vs Q E hr h => ?_)
  · obtain ⟨c, n, rfl, n0, hq⟩ := h
    rfl
  · obtain ⟨c, n, rfl, n0, hq⟩ := h
    refine ⟨_, (pss_cons (ps_if (pt_cmpR (oEq hr) (pe_op op_mod (pv 1) pe_int) pe_int (nomark _)) (pss_one (ps_ret (pe_op oAddV pe_int (pe_op op_mod (pe_op op_fdivB (pv 1) pe_int) pe_int)))) pss_nil)
      (pss_cons (ps_if (pt_cmpR (oEq hr) (pe_op op_mod (pv 1) pe_int) pe_int (nomark _)) (pss_one (ps_ret (pe_op oAddV pe_int (pe_op op_mod (pe_op op_fdivB (pv 1) pe_int) (pe_op op_pow pe_int pe_int))))) pss_nil)
      (pss_one (ps_ret (pe_op oAddV pe_int (pe_op op_mod (pe_op oAddV (pe_op op_mulB (pe_op op_mod (pv 0) (pe_op op_pow pe_int pe_int)) pe_int) (pv 1)) (pe_op op_pow pe_int pe_int))))))), ?_⟩
    repeat walk_at "vs"
    refine iteD (fun h => ?_) (fun h => ?_)
    · repeat walk_at "vs"
      exact hq _ (by omega) (by omega)
    · repeat walk_at "vs"
      refine iteD (fun h => ?_) (fun h => ?_)
      · repeat walk_at "vs"
        exact hq _ (by omega) (by omega)
      · repeat walk_at "vs"
        exact hq _ (by omega) (by omega)
def sp_law (K : PySem.W.Frag) : Sp := fun vs H Q _ => ∃ (p : Addr) (ns : List Int), vs = [.ref p] ∧ SqL K H p (ns.map V.int) ∧ ns.length ≤ 63 ∧ (∀ z ∈ ns, ib z ≤ 1048576) ∧ ∀ H', Q (.bl true) H'
theorem ok_law (T : Txt K mg a) : FnOk P w K mg base (CXU P w) 9 a.f_law a.d_law ["_law_script"] (sp_law K) := by
  refine T.F_law.okU sc_law (fun vs H Q E h => ?_) (fun cdv A outer s H vs Q E hr h => ?_)
  · obtain ⟨p, cs, rfl, hS, hl, hb, hq⟩ := h
    rfl
  · obtain ⟨p, cs, rfl, hS, hl, hb, hq⟩ := h
    have zc_Bags := T.cl_Bags
    have zn_Bags_room := T.na_Bags_room
    refine ⟨_, (pss_cons (ps_set (i := 1) sc_law.nd rfl (by first | exact Or.inl rfl | exact Or.inr rfl) (pe_call (ok_law_room T) (hr.mono (by decide)) (by rfl) T.m_law_room T.F_law_room.kp T.b_law_room .nil passU (pa_cons (pe_call (ok_law_raw T) (hr.mono (by decide)) (by rfl) T.m_law_raw T.F_law_raw.kp T.b_law_raw .nil passU (pa_cons (pv 0) (pa_cons pe_int pa_nil))) (pa_cons (pe_op op_fdivB (pe_call (ok_law_mix T) (hr.mono (by decide)) (by rfl) T.m_law_mix T.F_law_mix.kp T.b_law_mix .nil passU (pa_cons (pv 0) (pa_cons pe_int pa_nil))) pe_int) pa_nil))))
      (pss_cons (ps_set (i := 2) sc_law.nd rfl (by first | exact Or.inl rfl | exact Or.inr rfl) (pe_make T.mk_Bags (ok_Bags_init T) (hr.mono (by decide)) (by rfl) T.m_Bags T.b_Bags_init .nil passU (pa_cons (pv 1) pa_nil)))
      (pss_cons (ps_if (pt_not (ptT (pe_call (ok_law_kinds T) (hr.mono (by decide)) (by rfl) T.m_law_kinds T.F_law_kinds.kp T.b_law_kinds .nil passU (pa_cons (pv 2) (pa_cons (pe_call (ok_law_loads T) (hr.mono (by decide)) (by rfl) T.m_law_loads T.F_law_loads.kp T.b_law_loads .nil passU (pa_cons (pe_call (ok_law_raw T) (hr.mono (by decide)) (by rfl) T.m_law_raw T.F_law_raw.kp T.b_law_raw .nil passU (pa_cons (pv 0) (pa_cons pe_int pa_nil))) (pa_cons (pv 1) (pa_cons pe_int pa_nil)))) (pa_cons (pv 1) (pa_cons (pe_call (ok_law_mix T) (hr.mono (by decide)) (by rfl) T.m_law_mix T.F_law_mix.kp T.b_law_mix .nil passU (pa_cons (pv 0) (pa_cons pe_int pa_nil))) pa_nil))))) (fun _ => rfl))) (pss_one (ps_ret pe_bl)) pss_nil)
      (pss_cons (ps_for PassesOwn.never rfl (pi_range1 rfl T.n_range (pa_cons (pe_callB (cMin2 rfl) (by rfl) T.n_min PyProof.Rows.boot_min (pa_cons (pe_callB (cMax2 rfl) (by rfl) T.n_max PyProof.Rows.boot_max (pa_cons (pe_callB cLen (by rfl) T.n_len PySem.boot_len (pa_cons (pv 0) pa_nil)) (pa_cons pe_int pa_nil))) (pa_cons pe_int pa_nil))) pa_nil)) (pg_name (i := 3) sc_law.nd rfl (by first | exact Or.inl rfl | exact Or.inr rfl)) (pss_cons (ps_set (i := 4) sc_law.nd rfl (by first | exact Or.inl rfl | exact Or.inr rfl) (pe_call (ok_law_raw T) (hr.mono (by decide)) (by rfl) T.m_law_raw T.F_law_raw.kp T.b_law_raw .nil passU (pa_cons (pv 0) (pa_cons (pv 3) pa_nil))))
      (pss_cons (ps_set (i := 5) sc_law.nd rfl (by first | exact Or.inl rfl | exact Or.inr rfl) (pe_call (ok_law_mixed T) (hr.mono (by decide)) (by rfl) T.m_law_mixed T.F_law_mixed.kp T.b_law_mixed .nil passU (pa_cons (pv 4) (pa_cons (pv 3) pa_nil))))
      (pss_cons (ps_set (i := 6) sc_law.nd rfl (by first | exact Or.inl rfl | exact Or.inr rfl) (pe_call (ok_law_loads T) (hr.mono (by decide)) (by rfl) T.m_law_loads T.F_law_loads.kp T.b_law_loads .nil passU (pa_cons (pv 4) (pa_cons (pv 1) (pa_cons (pe_op op_mod (pe_op op_fdivB (pv 5) pe_int) pe_int) pa_nil)))))
      (pss_cons (ps_set (i := 7) sc_law.nd rfl (by first | exact Or.inl rfl | exact Or.inr rfl) (pe_call (ok_law_size T) (hr.mono (by decide)) (by rfl) T.m_law_size T.F_law_size.kp T.b_law_size .nil passU (pa_cons (pv 4) (pa_cons (pv 3) (pa_cons (pv 1) pa_nil)))))
      (pss_cons (ps_set (i := 8) sc_law.nd rfl (by first | exact Or.inl rfl | exact Or.inr rfl) (pe_call (ok_law_behind T) (hr.mono (by decide)) (by rfl) T.m_law_behind T.F_law_behind.kp T.b_law_behind .nil passU (pa_cons (pv 6) (pa_cons (pv 7) (pa_cons (pv 1) (pa_cons (pe_op op_fdivB (pv 5) pe_int) pa_nil))))))
      (pss_cons (ps_if (pt_not (ptT (pe_call (ok_law_same T) (hr.mono (by decide)) (by rfl) T.m_law_same T.F_law_same.kp T.b_law_same .nil passU (pa_cons (pe_meth (pv 2) T.cl_Bags T.me_Bags_price (ok_Bags_price T) (hr.mono (by decide)) T.b_Bags_price .nil passU (pa_cons (pv 6) (pa_cons (pv 7) (pa_cons (pv 8) pa_nil)))) (pa_cons (pe_call (ok_law_price T) (hr.mono (by decide)) (by rfl) T.m_law_price T.F_law_price.kp T.b_law_price .nil passU (pa_cons (pv 6) (pa_cons (pv 7) (pa_cons (pv 8) (pa_cons (pv 1) pa_nil))))) pa_nil))) (fun _ => rfl))) (pss_one (ps_ret pe_bl)) pss_nil)
      (pss_one (ps_if (pt_not (ptT (pe_call (ok_law_moves T) (hr.mono (by decide)) (by rfl) T.m_law_moves T.F_law_moves.kp T.b_law_moves .nil passU (pa_cons (pv 2) (pa_cons (pv 6) (pa_cons (pv 7) (pa_cons (pv 1) pa_nil))))) (fun _ => rfl))) (pss_one (ps_ret pe_bl)) pss_nil)))))))))
      (pss_cons (ps_set (i := 9) sc_law.nd rfl (by first | exact Or.inl rfl | exact Or.inr rfl) (pe_meth (pe_make T.mk_Bags (ok_Bags_init T) (hr.mono (by decide)) (by rfl) T.m_Bags T.b_Bags_init .nil passU (pa_cons pe_int pa_nil)) T.cl_Bags T.me_Bags_moves (ok_Bags_moves T) (hr.mono (by decide)) T.b_Bags_moves .nil passU (pa_cons (pe_op op_repT (pe_tup (pa_cons pe_int pa_nil)) pe_int) (pa_cons pe_int pa_nil))))
      (pss_one (ps_ret (pe_and (pe_call (ok_law_same T) (hr.mono (by decide)) (by rfl) T.m_law_same T.F_law_same.kp T.b_law_same .nil passU (pa_cons (pv 9) (pa_cons (pe_lst pa_nil) pa_nil))) (pe_one (pe_call (ok_law_same T) (hr.mono (by decide)) (by rfl) T.m_law_same T.F_law_same.kp T.b_law_same .nil passU (pa_cons (pe_meth (pe_make T.mk_Bags (ok_Bags_init T) (hr.mono (by decide)) (by rfl) T.m_Bags T.b_Bags_init .nil passU (pa_cons pe_int pa_nil)) T.cl_Bags T.me_Bags_moves (ok_Bags_moves T) (hr.mono (by decide)) T.b_Bags_moves .nil passU (pa_cons (pe_op op_repT (pe_tup (pa_cons pe_int pa_nil)) pe_int) (pa_cons pe_int pa_nil))) (pa_cons (pe_lst (pa_cons (pe_tup (pa_cons (pe_op op_repT (pe_tup (pa_cons pe_int pa_nil)) pe_int) (pa_cons pe_int pa_nil))) pa_nil)) pa_nil)))))))))))), ?_⟩
    repeat walk_at "vs"
    refine ⟨p, cs, 0, rfl, hS, hl, by decide, by decide, hb, fun c0 hc0 => ?_⟩
    repeat walk_at "vs"
    refine ⟨p, cs, 0, rfl, hS, hl, by decide, by decide, hb, fun n n0 n1 => ?_⟩
    repeat walk_at "vs"
    refine ⟨_, _, rfl, by omega, fun R r1 r2 => ?_⟩
    repeat walk_at "vs"
    intro r dr k1 k2 k3
    refine ⟨r, dr, .int R, rfl, upd_same, fun H2 hr2 b2 => ⟨rfl, ?_⟩⟩
    have x2 : Ext H H2 := fun b o h => b2 b o (ne_of_none h k1) (by rw [upd_ne (ne_of_none h k1), upd_ne (ne_of_none h k2)]; exact h)
    repeat walk_at "vs"
    refine ⟨p, cs, 1, rfl, x2.seqL hS, hl, by decide, by decide, hb, fun c1 hc1 => ?_⟩
    repeat walk_at "vs"
    refine ⟨_, _, _, rfl, by decide, by decide, r1, r2, fun q3 os3 H3 l3 _ _ n3 h3 e3 => ?_⟩
    repeat walk_at "vs"
    refine ⟨p, cs, 2, rfl, (x2.tr e3).seqL hS, hl, by decide, by decide, hb, fun n2 n20 n21 => ?_⟩
    repeat walk_at "vs"
    refine ⟨r, dr, q3, os3, R, n2, rfl, e3 _ _ hr2, h3, by omega, n20, fun H4 e4 => ?_⟩
    have x4 := x2.tr (e3.tr e4)
    have hr4 := (e3.tr e4) _ _ hr2
    repeat walk_at "vs"
    refine r_lenS (x4.seqL hS) ?_
    rw [List.length_map]
    repeat walk_at "vs"
    refine ⟨_, rfl, by omega, by omega, for_range (fun i σ H5 => ∃ (u1 u2 u3 u4 u5 u6 : Option V), σ = [some (.ref p), some (.int R), some (.ref r), u1, u2, u3, u4, u5, u6, none] ∧ Ext H4 H5) ⟨none, none, none, none, none, none, rfl, Ext.rfl'⟩ ?_ ?_⟩
    · rintro i σ H5 hi ⟨u1, u2, u3, u4, u5, u6, rfl, x5⟩
      have hr5 := x5 _ _ hr4
      repeat walk_at "vs"
      refine ⟨p, cs, _, rfl, (x4.tr x5).seqL hS, hl, by omega, by omega, hb, fun c hc => ?_⟩
      repeat walk_at "vs"
      refine ⟨c, _, rfl, by omega, by omega, fun m m0 m1 => ?_⟩
      repeat walk_at "vs"
      refine ⟨_, _, _, rfl, by omega, by omega, r1, r2, fun qb os H6 lo ho so nb hb6 e6 => ?_⟩
      repeat walk_at "vs"
      refine ⟨_, _, _, rfl, by omega, by omega, r1, r2, fun s H7 s1 s2 e7 => ?_⟩
      have hb7 := e7 _ _ hb6
      repeat walk_at "vs"
      refine ⟨qb, os, s, R, _, rfl, hb7, by omega, r1, r2, by omega, fun qf fs H8 hf8 e8 => ?_⟩
      have hb8 := e8 _ _ hb7
      have hr8 := (e6.tr (e7.tr e8)) _ _ hr5
      have hL : Lds R os := ⟨so, ho⟩
      obtain ⟨v, hv⟩ := PrV.some R s os fs
      repeat walk_at "vs"
      refine ⟨r, dr, qb, qf, os, fs, R, s, v, rfl, hr8, hb8, hf8, .inl ⟨hL, s1, by omega, hv⟩, fun H9 e9 => ?_⟩
      repeat walk_at "vs"
      refine ⟨qb, qf, os, fs, s, R, v, rfl, e9 _ _ hb8, e9 _ _ hf8, by omega, hv, fun H10 e10 => ?_⟩
      repeat walk_at "vs"
      obtain ⟨dp, d1, d2, d3⟩ : ∃ d : D, Rep H10 d v ∧ d.fine = true ∧ Nat.ble d.depth 5 = true := by
        rcases hv with ⟨pr, _, rfl⟩ | ⟨_, rfl⟩
        · exact ⟨.int pr, .intI, rfl, rfl⟩
        · exact ⟨.non, .nonI, rfl, rfl⟩
      refine same_yes d1 d1 d2 d3 fun H11 e11 => ?_
      have x11 := e9.tr (e10.tr e11)
      repeat walk_at "vs"
      refine ⟨r, dr, qb, R, os, s, rfl, x11 _ _ hr8, x11 _ _ hb8, hL, s1, by omega, fun H12 e12 => ?_⟩
      repeat walk_at "vs"
      exact ⟨_, _, _, _, _, _, rfl, x5.tr (e6.tr (e7.tr (e8.tr (x11.tr e12))))⟩
    · rintro σ H5 ⟨u1, u2, u3, u4, u5, u6, rfl, x5⟩
      repeat walk_at "vs"
      intro ra da ka1 ka2 ka3
      refine ⟨ra, da, .int 1, rfl, upd_same, fun H6 hr6 b6 => ⟨rfl, ?_⟩⟩
      repeat walk_at "vs"
      intro t7 H7 n7 q7 e7
      repeat walk_at "vs"
      refine r_repT q7 (by decide) (by decide) fun t8 H8 q8 e8 => ?_
      have q8' : H8 t8 = some (.tup ((List.replicate 500 (1 : Int)).map V.int)) := by rw [q8, List.map_replicate]; rfl
      repeat walk_at "vs"
      refine ⟨ra, da, t8, 1, _, 1, rfl, (e7.tr e8) _ _ hr6, q8', .inr ⟨500, by decide, rfl, rfl, rfl, fun l9 ys H9 q9 _ g9 e9 => ?_⟩⟩
      rw [g9 (Nat.le_refl _)] at q9
      repeat walk_at "vs"
      intro l10 H10 n10 q10 e10
      repeat walk_at "vs"
      refine same_yes (d := .lst []) (Rep.lstI (e10 _ _ q9) RepL.nil) (Rep.lstI q10 RepL.nil) rfl rfl fun H11 e11 => ?_
      repeat walk_at "vs"
      intro rb db kb1 kb2 kb3
      refine ⟨rb, db, .int 1, rfl, upd_same, fun H12 hr12 b12 => ⟨rfl, ?_⟩⟩
      repeat walk_at "vs"
      intro t13 H13 n13 q13 e13
      repeat walk_at "vs"
      refine r_repT q13 (by decide) (by decide) fun t14 H14 q14 e14 => ?_
      have q14' : H14 t14 = some (.tup ((List.replicate 499 (1 : Int)).map V.int)) := by rw [q14, List.map_replicate]; rfl
      repeat walk_at "vs"
      refine ⟨rb, db, t14, 1, _, 1, rfl, (e13.tr e14) _ _ hr12, q14', .inr ⟨499, by decide, rfl, rfl, rfl, fun l15 ys H15 q15 g15 _ e15 => ?_⟩⟩
      have p15 := g15 (by decide)
      repeat walk_at "vs"
      intro t16 H16 n16 q16 e16
      repeat walk_at "vs"
      refine r_repT q16 (by decide) (by decide) fun t17 H17 q17 e17 => ?_
      have q17' : H17 t17 = some (.tup ((List.replicate 500 (1 : Int)).map V.int)) := by rw [q17, List.map_replicate]; rfl
      repeat walk_at "vs"
      intro t18 H18 n18 q18 e18
      repeat walk_at "vs"
      intro l19 H19 n19 q19 e19
      repeat walk_at "vs"
      have x19 := e16.tr (e17.tr (e18.tr e19))
      have p19 : PairsH H19 [.ref t18] [(List.replicate 500 1, 1)] := .cons (e19 _ _ q18) ((e18.tr e19) _ _ q17') .nil
      exact same_yes (d := .lst ([(List.replicate 500 (1 : Int), (1 : Int))].map dP)) (Rep.lstI (x19 _ _ q15) (dP_rep (p15.mono x19))) (Rep.lstI q19 (dP_rep p19)) (dP_fine _) (dP_dep _) fun H20 e20 => hq H20
end
theorem all_mk {l : PySem.W.OpenLaw} {w : World} {K : PySem.W.Frag} {h : Heap} {mg : Str → Option Value} {fa : Addr} (X : K.In h) (G : h.Ns mainGlobals mg) (hfa : mg "law" = some (.ref fa))
    {f_law : Addr} {od_law an_law : Option Addr} {sl_law : Array (Option Value)} {oc_law kV_law dc_law pm_law cd_law ct_law : Value}
    {f_law_same : Addr} {od_law_same an_law_same : Option Addr} {sl_law_same : Array (Option Value)} {oc_law_same kV_law_same dc_law_same pm_law_same cd_law_same ct_law_same : Value}
    {f_law_whole : Addr} {od_law_whole an_law_whole : Option Addr} {sl_law_whole : Array (Option Value)} {oc_law_whole kV_law_whole dc_law_whole pm_law_whole cd_law_whole ct_law_whole : Value}
    {f_Bags_moves : Addr} {od_Bags_moves an_Bags_moves : Option Addr} {sl_Bags_moves : Array (Option Value)} {oc_Bags_moves kV_Bags_moves dc_Bags_moves pm_Bags_moves cd_Bags_moves ct_Bags_moves : Value}
    {f_World_priced : Addr} {od_World_priced an_World_priced : Option Addr} {sl_World_priced : Array (Option Value)} {oc_World_priced kV_World_priced dc_World_priced pm_World_priced cd_World_priced ct_World_priced : Value}
    {f_Bags_price : Addr} {od_Bags_price an_Bags_price : Option Addr} {sl_Bags_price : Array (Option Value)} {oc_Bags_price kV_Bags_price dc_Bags_price pm_Bags_price cd_Bags_price ct_Bags_price : Value}
    {f_filled : Addr} {od_filled an_filled : Option Addr} {sl_filled : Array (Option Value)} {oc_filled kV_filled dc_filled pm_filled cd_filled ct_filled : Value}
    {f_opened : Addr} {od_opened an_opened : Option Addr} {sl_opened : Array (Option Value)} {oc_opened kV_opened dc_opened pm_opened cd_opened ct_opened : Value}
    {f_Bags_init : Addr} {od_Bags_init an_Bags_init : Option Addr} {sl_Bags_init : Array (Option Value)} {oc_Bags_init kV_Bags_init dc_Bags_init pm_Bags_init cd_Bags_init ct_Bags_init : Value}
    {f_law_moves : Addr} {od_law_moves an_law_moves : Option Addr} {sl_law_moves : Array (Option Value)} {oc_law_moves kV_law_moves dc_law_moves pm_law_moves cd_law_moves ct_law_moves : Value}
    {f_law_due : Addr} {od_law_due an_law_due : Option Addr} {sl_law_due : Array (Option Value)} {oc_law_due kV_law_due dc_law_due pm_law_due cd_law_due ct_law_due : Value}
    {f_law_puts : Addr} {od_law_puts an_law_puts : Option Addr} {sl_law_puts : Array (Option Value)} {oc_law_puts kV_law_puts dc_law_puts pm_law_puts cd_law_puts ct_law_puts : Value}
    {f_law_price : Addr} {od_law_price an_law_price : Option Addr} {sl_law_price : Array (Option Value)} {oc_law_price kV_law_price dc_law_price pm_law_price cd_law_price ct_law_price : Value}
    {f_law_behind : Addr} {od_law_behind an_law_behind : Option Addr} {sl_law_behind : Array (Option Value)} {oc_law_behind kV_law_behind dc_law_behind pm_law_behind cd_law_behind ct_law_behind : Value}
    {f_law_loads : Addr} {od_law_loads an_law_loads : Option Addr} {sl_law_loads : Array (Option Value)} {oc_law_loads kV_law_loads dc_law_loads pm_law_loads cd_law_loads ct_law_loads : Value}
    {f_law_size : Addr} {od_law_size an_law_size : Option Addr} {sl_law_size : Array (Option Value)} {oc_law_size kV_law_size dc_law_size pm_law_size cd_law_size ct_law_size : Value}
    {f_law_mixed : Addr} {od_law_mixed an_law_mixed : Option Addr} {sl_law_mixed : Array (Option Value)} {oc_law_mixed kV_law_mixed dc_law_mixed pm_law_mixed cd_law_mixed ct_law_mixed : Value}
    {f_law_raw : Addr} {od_law_raw an_law_raw : Option Addr} {sl_law_raw : Array (Option Value)} {oc_law_raw kV_law_raw dc_law_raw pm_law_raw cd_law_raw ct_law_raw : Value}
    {f_law_kinds : Addr} {od_law_kinds an_law_kinds : Option Addr} {sl_law_kinds : Array (Option Value)} {oc_law_kinds kV_law_kinds dc_law_kinds pm_law_kinds cd_law_kinds ct_law_kinds : Value}
    {f_Bags_is_wish : Addr} {od_Bags_is_wish an_Bags_is_wish : Option Addr} {sl_Bags_is_wish : Array (Option Value)} {oc_Bags_is_wish kV_Bags_is_wish dc_Bags_is_wish pm_Bags_is_wish cd_Bags_is_wish ct_Bags_is_wish : Value}
    {f_is_from_one_to : Addr} {od_is_from_one_to an_is_from_one_to : Option Addr} {sl_is_from_one_to : Array (Option Value)} {oc_is_from_one_to kV_is_from_one_to dc_is_from_one_to pm_is_from_one_to cd_is_from_one_to ct_is_from_one_to : Value}
    {f_is_whole_number : Addr} {od_is_whole_number an_is_whole_number : Option Addr} {sl_is_whole_number : Array (Option Value)} {oc_is_whole_number kV_is_whole_number dc_is_whole_number pm_is_whole_number cd_is_whole_number ct_is_whole_number : Value}
    {f_law_is_state : Addr} {od_law_is_state an_law_is_state : Option Addr} {sl_law_is_state : Array (Option Value)} {oc_law_is_state kV_law_is_state dc_law_is_state pm_law_is_state cd_law_is_state ct_law_is_state : Value}
    {f_Bags_is_state : Addr} {od_Bags_is_state an_Bags_is_state : Option Addr} {sl_Bags_is_state : Array (Option Value)} {oc_Bags_is_state kV_Bags_is_state dc_Bags_is_state pm_Bags_is_state cd_Bags_is_state ct_Bags_is_state : Value}
    {f_law_mix : Addr} {od_law_mix an_law_mix : Option Addr} {sl_law_mix : Array (Option Value)} {oc_law_mix kV_law_mix dc_law_mix pm_law_mix cd_law_mix ct_law_mix : Value}
    {f_law_room : Addr} {od_law_room an_law_room : Option Addr} {sl_law_room : Array (Option Value)} {oc_law_room kV_law_room dc_law_room pm_law_room cd_law_room ct_law_room : Value}
    {c_World : Addr}
    {c_Bags : Addr}
    {t_MOST_BAGS : Tok}
    (aC_World : PySem.W.nsIn K mainGlobals "World" = some (some (.ref c_World)))
    (aC_Bags : PySem.W.nsIn K mainGlobals "Bags" = some (some (.ref c_Bags)))
    (a_law : PySem.W.nsIn K mainGlobals "law" = some (some (.ref f_law)))
    (l_law : K.lookup f_law = some ⟨oc_law, od_law, .func (PySem.W.fnOf "law" "law" (defArgs s_law) (defBody s_law) (defScope s_law) (.none) kV_law dc_law pm_law an_law cd_law ct_law), sl_law⟩)
    (k_law : PySem.W.codeIn K cd_law "law" = true)
    (p_law : PySem.W.keepIn K (.ref f_law) = true)
    (a_law_same : PySem.W.nsIn K mainGlobals "_law_same" = some (some (.ref f_law_same)))
    (l_law_same : K.lookup f_law_same = some ⟨oc_law_same, od_law_same, .func (PySem.W.fnOf "_law_same" "_law_same" (defArgs s_law_same) (defBody s_law_same) (defScope s_law_same) (.none) kV_law_same dc_law_same pm_law_same an_law_same cd_law_same ct_law_same), sl_law_same⟩)
    (k_law_same : PySem.W.codeIn K cd_law_same "_law_same" = true)
    (p_law_same : PySem.W.keepIn K (.ref f_law_same) = true)
    (a_law_whole : PySem.W.nsIn K mainGlobals "_law_whole" = some (some (.ref f_law_whole)))
    (l_law_whole : K.lookup f_law_whole = some ⟨oc_law_whole, od_law_whole, .func (PySem.W.fnOf "_law_whole" "_law_whole" (defArgs s_law_whole) (defBody s_law_whole) (defScope s_law_whole) (.none) kV_law_whole dc_law_whole pm_law_whole an_law_whole cd_law_whole ct_law_whole), sl_law_whole⟩)
    (k_law_whole : PySem.W.codeIn K cd_law_whole "_law_whole" = true)
    (p_law_whole : PySem.W.keepIn K (.ref f_law_whole) = true)
    (a_Bags_moves : PySem.W.findIn K (.ref c_Bags) "moves" = some (some (.ref f_Bags_moves)))
    (l_Bags_moves : K.lookup f_Bags_moves = some ⟨oc_Bags_moves, od_Bags_moves, .func (PySem.W.fnOf "moves" "Bags.moves" (defArgs s_Bags_moves) (defBody s_Bags_moves) (defScope s_Bags_moves) (.none) kV_Bags_moves dc_Bags_moves pm_Bags_moves an_Bags_moves cd_Bags_moves ct_Bags_moves), sl_Bags_moves⟩)
    (k_Bags_moves : PySem.W.codeIn K cd_Bags_moves "Bags.moves" = true)
    (p_Bags_moves : PySem.W.keepIn K (.ref f_Bags_moves) = true)
    (a_World_priced : PySem.W.findIn K (.ref c_World) "priced" = some (some (.ref f_World_priced)))
    (l_World_priced : K.lookup f_World_priced = some ⟨oc_World_priced, od_World_priced, .func (PySem.W.fnOf "priced" "World.priced" (defArgs s_World_priced) (defBody s_World_priced) (defScope s_World_priced) (.none) kV_World_priced dc_World_priced pm_World_priced an_World_priced cd_World_priced ct_World_priced), sl_World_priced⟩)
    (k_World_priced : PySem.W.codeIn K cd_World_priced "World.priced" = true)
    (p_World_priced : PySem.W.keepIn K (.ref f_World_priced) = true)
    (a_Bags_price : PySem.W.findIn K (.ref c_Bags) "price" = some (some (.ref f_Bags_price)))
    (l_Bags_price : K.lookup f_Bags_price = some ⟨oc_Bags_price, od_Bags_price, .func (PySem.W.fnOf "price" "Bags.price" (defArgs s_Bags_price) (defBody s_Bags_price) (defScope s_Bags_price) (.none) kV_Bags_price dc_Bags_price pm_Bags_price an_Bags_price cd_Bags_price ct_Bags_price), sl_Bags_price⟩)
    (k_Bags_price : PySem.W.codeIn K cd_Bags_price "Bags.price" = true)
    (p_Bags_price : PySem.W.keepIn K (.ref f_Bags_price) = true)
    (a_filled : PySem.W.nsIn K mainGlobals "filled" = some (some (.ref f_filled)))
    (l_filled : K.lookup f_filled = some ⟨oc_filled, od_filled, .func (PySem.W.fnOf "filled" "filled" (defArgs s_filled) (defBody s_filled) (defScope s_filled) (.none) kV_filled dc_filled pm_filled an_filled cd_filled ct_filled), sl_filled⟩)
    (k_filled : PySem.W.codeIn K cd_filled "filled" = true)
    (p_filled : PySem.W.keepIn K (.ref f_filled) = true)
    (a_opened : PySem.W.nsIn K mainGlobals "opened" = some (some (.ref f_opened)))
    (l_opened : K.lookup f_opened = some ⟨oc_opened, od_opened, .func (PySem.W.fnOf "opened" "opened" (defArgs s_opened) (defBody s_opened) (defScope s_opened) (.none) kV_opened dc_opened pm_opened an_opened cd_opened ct_opened), sl_opened⟩)
    (k_opened : PySem.W.codeIn K cd_opened "opened" = true)
    (p_opened : PySem.W.keepIn K (.ref f_opened) = true)
    (a_Bags_init : PySem.W.findIn K (.ref c_Bags) "__init__" = some (some (.ref f_Bags_init)))
    (l_Bags_init : K.lookup f_Bags_init = some ⟨oc_Bags_init, od_Bags_init, .func (PySem.W.fnOf "__init__" "Bags.__init__" (defArgs s_Bags_init) (defBody s_Bags_init) (defScope s_Bags_init) (.none) kV_Bags_init dc_Bags_init pm_Bags_init an_Bags_init cd_Bags_init ct_Bags_init), sl_Bags_init⟩)
    (k_Bags_init : PySem.W.codeIn K cd_Bags_init "Bags.__init__" = true)
    (p_Bags_init : PySem.W.keepIn K (.ref f_Bags_init) = true)
    (a_law_moves : PySem.W.nsIn K mainGlobals "_law_moves" = some (some (.ref f_law_moves)))
    (l_law_moves : K.lookup f_law_moves = some ⟨oc_law_moves, od_law_moves, .func (PySem.W.fnOf "_law_moves" "_law_moves" (defArgs s_law_moves) (defBody s_law_moves) (defScope s_law_moves) (.none) kV_law_moves dc_law_moves pm_law_moves an_law_moves cd_law_moves ct_law_moves), sl_law_moves⟩)
    (k_law_moves : PySem.W.codeIn K cd_law_moves "_law_moves" = true)
    (p_law_moves : PySem.W.keepIn K (.ref f_law_moves) = true)
    (a_law_due : PySem.W.nsIn K mainGlobals "_law_due" = some (some (.ref f_law_due)))
    (l_law_due : K.lookup f_law_due = some ⟨oc_law_due, od_law_due, .func (PySem.W.fnOf "_law_due" "_law_due" (defArgs s_law_due) (defBody s_law_due) (defScope s_law_due) (.none) kV_law_due dc_law_due pm_law_due an_law_due cd_law_due ct_law_due), sl_law_due⟩)
    (k_law_due : PySem.W.codeIn K cd_law_due "_law_due" = true)
    (p_law_due : PySem.W.keepIn K (.ref f_law_due) = true)
    (a_law_puts : PySem.W.nsIn K mainGlobals "_law_puts" = some (some (.ref f_law_puts)))
    (l_law_puts : K.lookup f_law_puts = some ⟨oc_law_puts, od_law_puts, .func (PySem.W.fnOf "_law_puts" "_law_puts" (defArgs s_law_puts) (defBody s_law_puts) (defScope s_law_puts) (.none) kV_law_puts dc_law_puts pm_law_puts an_law_puts cd_law_puts ct_law_puts), sl_law_puts⟩)
    (k_law_puts : PySem.W.codeIn K cd_law_puts "_law_puts" = true)
    (p_law_puts : PySem.W.keepIn K (.ref f_law_puts) = true)
    (a_law_price : PySem.W.nsIn K mainGlobals "_law_price" = some (some (.ref f_law_price)))
    (l_law_price : K.lookup f_law_price = some ⟨oc_law_price, od_law_price, .func (PySem.W.fnOf "_law_price" "_law_price" (defArgs s_law_price) (defBody s_law_price) (defScope s_law_price) (.none) kV_law_price dc_law_price pm_law_price an_law_price cd_law_price ct_law_price), sl_law_price⟩)
    (k_law_price : PySem.W.codeIn K cd_law_price "_law_price" = true)
    (p_law_price : PySem.W.keepIn K (.ref f_law_price) = true)
    (a_law_behind : PySem.W.nsIn K mainGlobals "_law_behind" = some (some (.ref f_law_behind)))
    (l_law_behind : K.lookup f_law_behind = some ⟨oc_law_behind, od_law_behind, .func (PySem.W.fnOf "_law_behind" "_law_behind" (defArgs s_law_behind) (defBody s_law_behind) (defScope s_law_behind) (.none) kV_law_behind dc_law_behind pm_law_behind an_law_behind cd_law_behind ct_law_behind), sl_law_behind⟩)
    (k_law_behind : PySem.W.codeIn K cd_law_behind "_law_behind" = true)
    (p_law_behind : PySem.W.keepIn K (.ref f_law_behind) = true)
    (a_law_loads : PySem.W.nsIn K mainGlobals "_law_loads" = some (some (.ref f_law_loads)))
    (l_law_loads : K.lookup f_law_loads = some ⟨oc_law_loads, od_law_loads, .func (PySem.W.fnOf "_law_loads" "_law_loads" (defArgs s_law_loads) (defBody s_law_loads) (defScope s_law_loads) (.none) kV_law_loads dc_law_loads pm_law_loads an_law_loads cd_law_loads ct_law_loads), sl_law_loads⟩)
    (k_law_loads : PySem.W.codeIn K cd_law_loads "_law_loads" = true)
    (p_law_loads : PySem.W.keepIn K (.ref f_law_loads) = true)
    (a_law_size : PySem.W.nsIn K mainGlobals "_law_size" = some (some (.ref f_law_size)))
    (l_law_size : K.lookup f_law_size = some ⟨oc_law_size, od_law_size, .func (PySem.W.fnOf "_law_size" "_law_size" (defArgs s_law_size) (defBody s_law_size) (defScope s_law_size) (.none) kV_law_size dc_law_size pm_law_size an_law_size cd_law_size ct_law_size), sl_law_size⟩)
    (k_law_size : PySem.W.codeIn K cd_law_size "_law_size" = true)
    (p_law_size : PySem.W.keepIn K (.ref f_law_size) = true)
    (a_law_mixed : PySem.W.nsIn K mainGlobals "_law_mixed" = some (some (.ref f_law_mixed)))
    (l_law_mixed : K.lookup f_law_mixed = some ⟨oc_law_mixed, od_law_mixed, .func (PySem.W.fnOf "_law_mixed" "_law_mixed" (defArgs s_law_mixed) (defBody s_law_mixed) (defScope s_law_mixed) (.none) kV_law_mixed dc_law_mixed pm_law_mixed an_law_mixed cd_law_mixed ct_law_mixed), sl_law_mixed⟩)
    (k_law_mixed : PySem.W.codeIn K cd_law_mixed "_law_mixed" = true)
    (p_law_mixed : PySem.W.keepIn K (.ref f_law_mixed) = true)
    (a_law_raw : PySem.W.nsIn K mainGlobals "_law_raw" = some (some (.ref f_law_raw)))
    (l_law_raw : K.lookup f_law_raw = some ⟨oc_law_raw, od_law_raw, .func (PySem.W.fnOf "_law_raw" "_law_raw" (defArgs s_law_raw) (defBody s_law_raw) (defScope s_law_raw) (.none) kV_law_raw dc_law_raw pm_law_raw an_law_raw cd_law_raw ct_law_raw), sl_law_raw⟩)
    (k_law_raw : PySem.W.codeIn K cd_law_raw "_law_raw" = true)
    (p_law_raw : PySem.W.keepIn K (.ref f_law_raw) = true)
    (a_law_kinds : PySem.W.nsIn K mainGlobals "_law_kinds" = some (some (.ref f_law_kinds)))
    (l_law_kinds : K.lookup f_law_kinds = some ⟨oc_law_kinds, od_law_kinds, .func (PySem.W.fnOf "_law_kinds" "_law_kinds" (defArgs s_law_kinds) (defBody s_law_kinds) (defScope s_law_kinds) (.none) kV_law_kinds dc_law_kinds pm_law_kinds an_law_kinds cd_law_kinds ct_law_kinds), sl_law_kinds⟩)
    (k_law_kinds : PySem.W.codeIn K cd_law_kinds "_law_kinds" = true)
    (p_law_kinds : PySem.W.keepIn K (.ref f_law_kinds) = true)
    (a_Bags_is_wish : PySem.W.findIn K (.ref c_Bags) "is_wish" = some (some (.ref f_Bags_is_wish)))
    (l_Bags_is_wish : K.lookup f_Bags_is_wish = some ⟨oc_Bags_is_wish, od_Bags_is_wish, .func (PySem.W.fnOf "is_wish" "Bags.is_wish" (defArgs s_Bags_is_wish) (defBody s_Bags_is_wish) (defScope s_Bags_is_wish) (.none) kV_Bags_is_wish dc_Bags_is_wish pm_Bags_is_wish an_Bags_is_wish cd_Bags_is_wish ct_Bags_is_wish), sl_Bags_is_wish⟩)
    (k_Bags_is_wish : PySem.W.codeIn K cd_Bags_is_wish "Bags.is_wish" = true)
    (p_Bags_is_wish : PySem.W.keepIn K (.ref f_Bags_is_wish) = true)
    (a_is_from_one_to : PySem.W.nsIn K mainGlobals "is_from_one_to" = some (some (.ref f_is_from_one_to)))
    (l_is_from_one_to : K.lookup f_is_from_one_to = some ⟨oc_is_from_one_to, od_is_from_one_to, .func (PySem.W.fnOf "is_from_one_to" "is_from_one_to" (defArgs s_is_from_one_to) (defBody s_is_from_one_to) (defScope s_is_from_one_to) (.none) kV_is_from_one_to dc_is_from_one_to pm_is_from_one_to an_is_from_one_to cd_is_from_one_to ct_is_from_one_to), sl_is_from_one_to⟩)
    (k_is_from_one_to : PySem.W.codeIn K cd_is_from_one_to "is_from_one_to" = true)
    (p_is_from_one_to : PySem.W.keepIn K (.ref f_is_from_one_to) = true)
    (a_is_whole_number : PySem.W.nsIn K mainGlobals "is_whole_number" = some (some (.ref f_is_whole_number)))
    (l_is_whole_number : K.lookup f_is_whole_number = some ⟨oc_is_whole_number, od_is_whole_number, .func (PySem.W.fnOf "is_whole_number" "is_whole_number" (defArgs s_is_whole_number) (defBody s_is_whole_number) (defScope s_is_whole_number) (.none) kV_is_whole_number dc_is_whole_number pm_is_whole_number an_is_whole_number cd_is_whole_number ct_is_whole_number), sl_is_whole_number⟩)
    (k_is_whole_number : PySem.W.codeIn K cd_is_whole_number "is_whole_number" = true)
    (p_is_whole_number : PySem.W.keepIn K (.ref f_is_whole_number) = true)
    (a_law_is_state : PySem.W.nsIn K mainGlobals "_law_is_state" = some (some (.ref f_law_is_state)))
    (l_law_is_state : K.lookup f_law_is_state = some ⟨oc_law_is_state, od_law_is_state, .func (PySem.W.fnOf "_law_is_state" "_law_is_state" (defArgs s_law_is_state) (defBody s_law_is_state) (defScope s_law_is_state) (.none) kV_law_is_state dc_law_is_state pm_law_is_state an_law_is_state cd_law_is_state ct_law_is_state), sl_law_is_state⟩)
    (k_law_is_state : PySem.W.codeIn K cd_law_is_state "_law_is_state" = true)
    (p_law_is_state : PySem.W.keepIn K (.ref f_law_is_state) = true)
    (a_Bags_is_state : PySem.W.findIn K (.ref c_Bags) "is_state" = some (some (.ref f_Bags_is_state)))
    (l_Bags_is_state : K.lookup f_Bags_is_state = some ⟨oc_Bags_is_state, od_Bags_is_state, .func (PySem.W.fnOf "is_state" "Bags.is_state" (defArgs s_Bags_is_state) (defBody s_Bags_is_state) (defScope s_Bags_is_state) (.none) kV_Bags_is_state dc_Bags_is_state pm_Bags_is_state an_Bags_is_state cd_Bags_is_state ct_Bags_is_state), sl_Bags_is_state⟩)
    (k_Bags_is_state : PySem.W.codeIn K cd_Bags_is_state "Bags.is_state" = true)
    (p_Bags_is_state : PySem.W.keepIn K (.ref f_Bags_is_state) = true)
    (a_law_mix : PySem.W.nsIn K mainGlobals "_law_mix" = some (some (.ref f_law_mix)))
    (l_law_mix : K.lookup f_law_mix = some ⟨oc_law_mix, od_law_mix, .func (PySem.W.fnOf "_law_mix" "_law_mix" (defArgs s_law_mix) (defBody s_law_mix) (defScope s_law_mix) (.none) kV_law_mix dc_law_mix pm_law_mix an_law_mix cd_law_mix ct_law_mix), sl_law_mix⟩)
    (k_law_mix : PySem.W.codeIn K cd_law_mix "_law_mix" = true)
    (p_law_mix : PySem.W.keepIn K (.ref f_law_mix) = true)
    (a_law_room : PySem.W.nsIn K mainGlobals "_law_room" = some (some (.ref f_law_room)))
    (l_law_room : K.lookup f_law_room = some ⟨oc_law_room, od_law_room, .func (PySem.W.fnOf "_law_room" "_law_room" (defArgs s_law_room) (defBody s_law_room) (defScope s_law_room) (.none) kV_law_room dc_law_room pm_law_room an_law_room cd_law_room ct_law_room), sl_law_room⟩)
    (k_law_room : PySem.W.codeIn K cd_law_room "_law_room" = true)
    (p_law_room : PySem.W.keepIn K (.ref f_law_room) = true)
    (cg_Bags : PySem.W.plainGet K c_Bags Str.empty = true)
    (ch_Bags : PySem.W.hasDictIn K c_Bags = true)
    (co_Bags : PySem.W.plainOver K c_Bags = true)
    (cs_Bags : PySem.W.findIn K (.ref c_Bags) "__setattr__" = some (some (.builtin "object.__setattr__")))
    (mm_Bags : PySem.W.makesIn K c_Bags = true)
    (mi_Bags : PySem.W.findIn K (.ref c_Bags) "__init__" = some (some (.ref f_Bags_init)))
    (mf_Bags : PySem.W.isFn K (.ref f_Bags_init) = true)
    (mp_Bags : PySem.W.keepIn K (.ref c_Bags) = true)
    (na_Bags_room : PySem.W.findIn K (.ref c_Bags) "room" = some none)
    (ea_Bags_is_state : PySem.W.findIn K (.ref c_Bags) "is_state" = some (some (.ref f_Bags_is_state)))
    (ef_Bags_is_state : PySem.W.isFn K (.ref f_Bags_is_state) = true)
    (ea_Bags_is_wish : PySem.W.findIn K (.ref c_Bags) "is_wish" = some (some (.ref f_Bags_is_wish)))
    (ef_Bags_is_wish : PySem.W.isFn K (.ref f_Bags_is_wish) = true)
    (ea_Bags_moves : PySem.W.findIn K (.ref c_Bags) "moves" = some (some (.ref f_Bags_moves)))
    (ef_Bags_moves : PySem.W.isFn K (.ref f_Bags_moves) = true)
    (ea_Bags_price : PySem.W.findIn K (.ref c_Bags) "price" = some (some (.ref f_Bags_price)))
    (ef_Bags_price : PySem.W.isFn K (.ref f_Bags_price) = true)
    (ea_Bags_priced : PySem.W.findIn K (.ref c_Bags) "priced" = some (some (.ref f_World_priced)))
    (ef_Bags_priced : PySem.W.isFn K (.ref f_World_priced) = true)
    (z_all : PySem.W.nsIn K mainGlobals "all" = some none)
    (z_bool : PySem.W.nsIn K mainGlobals "bool" = some none)
    (z_int : PySem.W.nsIn K mainGlobals "int" = some none)
    (z_isinstance : PySem.W.nsIn K mainGlobals "isinstance" = some none)
    (z_len : PySem.W.nsIn K mainGlobals "len" = some none)
    (z_list : PySem.W.nsIn K mainGlobals "list" = some none)
    (z_max : PySem.W.nsIn K mainGlobals "max" = some none)
    (z_min : PySem.W.nsIn K mainGlobals "min" = some none)
    (z_range : PySem.W.nsIn K mainGlobals "range" = some none)
    (z_reversed : PySem.W.nsIn K mainGlobals "reversed" = some none)
    (z_set : PySem.W.nsIn K mainGlobals "set" = some none)
    (z_sorted : PySem.W.nsIn K mainGlobals "sorted" = some none)
    (z_str : PySem.W.nsIn K mainGlobals "str" = some none)
    (z_tuple : PySem.W.nsIn K mainGlobals "tuple" = some none)
    (z_zip : PySem.W.nsIn K mainGlobals "zip" = some none)
    (zk_MOST_BAGS : PySem.W.nsIn K mainGlobals "MOST_BAGS" = some (some (.int 500 t_MOST_BAGS))) :
    ∃ fd : FuncData, (∀ (s : Shared) (v : Value), BindsTo s fd ⟨[v], []⟩ [("_law_script", v)]) ∧ ∀ base : Heap, K.In base → base.Ns mainGlobals mg → FnOk l.prog w K mg base (CXU l.prog w) 9 fa fd ["_law_script"] (sp_law K) := by
  have e := hfa.symm.trans (PySem.W.mg_of X G a_law)
  cases e
  have F_law := fun_mk (st := s_law) l_law k_law p_law
  have F_law_same := fun_mk (st := s_law_same) l_law_same k_law_same p_law_same
  have F_law_whole := fun_mk (st := s_law_whole) l_law_whole k_law_whole p_law_whole
  have F_Bags_moves := fun_mk (st := s_Bags_moves) l_Bags_moves k_Bags_moves p_Bags_moves
  have F_World_priced := fun_mk (st := s_World_priced) l_World_priced k_World_priced p_World_priced
  have F_Bags_price := fun_mk (st := s_Bags_price) l_Bags_price k_Bags_price p_Bags_price
  have F_filled := fun_mk (st := s_filled) l_filled k_filled p_filled
  have F_opened := fun_mk (st := s_opened) l_opened k_opened p_opened
  have F_Bags_init := fun_mk (st := s_Bags_init) l_Bags_init k_Bags_init p_Bags_init
  have F_law_moves := fun_mk (st := s_law_moves) l_law_moves k_law_moves p_law_moves
  have F_law_due := fun_mk (st := s_law_due) l_law_due k_law_due p_law_due
  have F_law_puts := fun_mk (st := s_law_puts) l_law_puts k_law_puts p_law_puts
  have F_law_price := fun_mk (st := s_law_price) l_law_price k_law_price p_law_price
  have F_law_behind := fun_mk (st := s_law_behind) l_law_behind k_law_behind p_law_behind
  have F_law_loads := fun_mk (st := s_law_loads) l_law_loads k_law_loads p_law_loads
  have F_law_size := fun_mk (st := s_law_size) l_law_size k_law_size p_law_size
  have F_law_mixed := fun_mk (st := s_law_mixed) l_law_mixed k_law_mixed p_law_mixed
  have F_law_raw := fun_mk (st := s_law_raw) l_law_raw k_law_raw p_law_raw
  have F_law_kinds := fun_mk (st := s_law_kinds) l_law_kinds k_law_kinds p_law_kinds
  have F_Bags_is_wish := fun_mk (st := s_Bags_is_wish) l_Bags_is_wish k_Bags_is_wish p_Bags_is_wish
  have F_is_from_one_to := fun_mk (st := s_is_from_one_to) l_is_from_one_to k_is_from_one_to p_is_from_one_to
  have F_is_whole_number := fun_mk (st := s_is_whole_number) l_is_whole_number k_is_whole_number p_is_whole_number
  have F_law_is_state := fun_mk (st := s_law_is_state) l_law_is_state k_law_is_state p_law_is_state
  have F_Bags_is_state := fun_mk (st := s_Bags_is_state) l_Bags_is_state k_Bags_is_state p_Bags_is_state
  have F_law_mix := fun_mk (st := s_law_mix) l_law_mix k_law_mix p_law_mix
  have F_law_room := fun_mk (st := s_law_room) l_law_room k_law_room p_law_room
  have b_law := F_law.binds (ps := ["_law_script"]) fun _ _ _ _ _ _ us hl => match us, hl with | [_], _ => rfl
  have b_law_same := F_law_same.binds (ps := ["_law_found", "_law_due_here"]) fun _ _ _ _ _ _ us hl => match us, hl with | [_, _], _ => rfl
  have b_law_whole := F_law_whole.binds (ps := ["_law_found"]) fun _ _ _ _ _ _ us hl => match us, hl with | [_], _ => rfl
  have b_Bags_moves := F_Bags_moves.binds (ps := ["self", "before", "wish"]) fun _ _ _ _ _ _ us hl => match us, hl with | [_, _, _], _ => rfl
  have b_World_priced := F_World_priced.binds (ps := ["self", "before", "wish", "states"]) fun _ _ _ _ _ _ us hl => match us, hl with | [_, _, _, _], _ => rfl
  have b_Bags_price := F_Bags_price.binds (ps := ["self", "before", "wish", "after"]) fun _ _ _ _ _ _ us hl => match us, hl with | [_, _, _, _], _ => rfl
  have b_filled := F_filled.binds (ps := ["loads", "at", "size"]) fun _ _ _ _ _ _ us hl => match us, hl with | [_, _, _], _ => rfl
  have b_opened := F_opened.binds (ps := ["loads", "size"]) fun _ _ _ _ _ _ us hl => match us, hl with | [_, _], _ => rfl
  have b_Bags_init := F_Bags_init.binds (ps := ["self", "room"]) fun _ _ _ _ _ _ us hl => match us, hl with | [_, _], _ => rfl
  have b_law_moves := F_law_moves.binds (ps := ["_law_world", "_law_before", "_law_size_here", "_law_room_here"]) fun _ _ _ _ _ _ us hl => match us, hl with | [_, _, _, _], _ => rfl
  have b_law_due := F_law_due.binds (ps := ["_law_before", "_law_size_here", "_law_room_here"]) fun _ _ _ _ _ _ us hl => match us, hl with | [_, _, _], _ => rfl
  have b_law_puts := F_law_puts.binds (ps := ["_law_before", "_law_size_here", "_law_room_here"]) fun _ _ _ _ _ _ us hl => match us, hl with | [_, _, _], _ => rfl
  have b_law_price := F_law_price.binds (ps := ["_law_before", "_law_size_here", "_law_after", "_law_room_here"]) fun _ _ _ _ _ _ us hl => match us, hl with | [_, _, _, _], _ => rfl
  have b_law_behind := F_law_behind.binds (ps := ["_law_before", "_law_size_here", "_law_room_here", "_law_number"]) fun _ _ _ _ _ _ us hl => match us, hl with | [_, _, _, _], _ => rfl
  have b_law_loads := F_law_loads.binds (ps := ["_law_cell", "_law_room_here", "_law_many"]) fun _ _ _ _ _ _ us hl => match us, hl with | [_, _, _], _ => rfl
  have b_law_size := F_law_size.binds (ps := ["_law_cell", "_law_k", "_law_room_here"]) fun _ _ _ _ _ _ us hl => match us, hl with | [_, _, _], _ => rfl
  have b_law_mixed := F_law_mixed.binds (ps := ["_law_cell", "_law_k"]) fun _ _ _ _ _ _ us hl => match us, hl with | [_, _], _ => rfl
  have b_law_raw := F_law_raw.binds (ps := ["_law_script", "_law_k"]) fun _ _ _ _ _ _ us hl => match us, hl with | [_, _], _ => rfl
  have b_law_kinds := F_law_kinds.binds (ps := ["_law_world", "_law_state", "_law_room_here", "_law_number"]) fun _ _ _ _ _ _ us hl => match us, hl with | [_, _, _, _], _ => rfl
  have b_Bags_is_wish := F_Bags_is_wish.binds (ps := ["self", "thing"]) fun _ _ _ _ _ _ us hl => match us, hl with | [_, _], _ => rfl
  have b_is_from_one_to := F_is_from_one_to.binds (ps := ["thing", "most"]) fun _ _ _ _ _ _ us hl => match us, hl with | [_, _], _ => rfl
  have b_is_whole_number := F_is_whole_number.binds (ps := ["thing"]) fun _ _ _ _ _ _ us hl => match us, hl with | [_], _ => rfl
  have b_law_is_state := F_law_is_state.binds (ps := ["_law_thing", "_law_room_here"]) fun _ _ _ _ _ _ us hl => match us, hl with | [_, _], _ => rfl
  have b_Bags_is_state := F_Bags_is_state.binds (ps := ["self", "thing"]) fun _ _ _ _ _ _ us hl => match us, hl with | [_, _], _ => rfl
  have b_law_mix := F_law_mix.binds (ps := ["_law_script", "_law_k"]) fun _ _ _ _ _ _ us hl => match us, hl with | [_, _], _ => rfl
  have b_law_room := F_law_room.binds (ps := ["_law_cell", "_law_number"]) fun _ _ _ _ _ _ us hl => match us, hl with | [_, _], _ => rfl
  have T : Txt K mg ⟨fa, _, f_law_same, _, f_law_whole, _, f_Bags_moves, _, f_World_priced, _, f_Bags_price, _, f_filled, _, f_opened, _, f_Bags_init, _, f_law_moves, _, f_law_due, _, f_law_puts, _, f_law_price, _, f_law_behind, _, f_law_loads, _, f_law_size, _, f_law_mixed, _, f_law_raw, _, f_law_kinds, _, f_Bags_is_wish, _, f_is_from_one_to, _, f_is_whole_number, _, f_law_is_state, _, f_Bags_is_state, _, f_law_mix, _, f_law_room, _, c_World, c_Bags, _⟩ := ⟨F_law, b_law, PySem.W.mg_of X G a_law, F_law_same, b_law_same, PySem.W.mg_of X G a_law_same, F_law_whole, b_law_whole, PySem.W.mg_of X G a_law_whole, F_Bags_moves, b_Bags_moves, F_World_priced, b_World_priced, F_Bags_price, b_Bags_price, F_filled, b_filled, PySem.W.mg_of X G a_filled, F_opened, b_opened, PySem.W.mg_of X G a_opened, F_Bags_init, b_Bags_init, F_law_moves, b_law_moves, PySem.W.mg_of X G a_law_moves, F_law_due, b_law_due, PySem.W.mg_of X G a_law_due, F_law_puts, b_law_puts, PySem.W.mg_of X G a_law_puts, F_law_price, b_law_price, PySem.W.mg_of X G a_law_price, F_law_behind, b_law_behind, PySem.W.mg_of X G a_law_behind, F_law_loads, b_law_loads, PySem.W.mg_of X G a_law_loads, F_law_size, b_law_size, PySem.W.mg_of X G a_law_size, F_law_mixed, b_law_mixed, PySem.W.mg_of X G a_law_mixed, F_law_raw, b_law_raw, PySem.W.mg_of X G a_law_raw, F_law_kinds, b_law_kinds, PySem.W.mg_of X G a_law_kinds, F_Bags_is_wish, b_Bags_is_wish, F_is_from_one_to, b_is_from_one_to, PySem.W.mg_of X G a_is_from_one_to, F_is_whole_number, b_is_whole_number, PySem.W.mg_of X G a_is_whole_number, F_law_is_state, b_law_is_state, PySem.W.mg_of X G a_law_is_state, F_Bags_is_state, b_Bags_is_state, F_law_mix, b_law_mix, PySem.W.mg_of X G a_law_mix, F_law_room, b_law_room, PySem.W.mg_of X G a_law_room, PySem.W.mg_of X G aC_Bags, ⟨cg_Bags, ch_Bags, co_Bags, cs_Bags⟩, ⟨mm_Bags, mi_Bags, mf_Bags, mp_Bags⟩, na_Bags_room, ⟨ea_Bags_is_state, ef_Bags_is_state, p_Bags_is_state⟩, ⟨ea_Bags_is_wish, ef_Bags_is_wish, p_Bags_is_wish⟩, ⟨ea_Bags_moves, ef_Bags_moves, p_Bags_moves⟩, ⟨ea_Bags_price, ef_Bags_price, p_Bags_price⟩, ⟨ea_Bags_priced, ef_Bags_priced, p_World_priced⟩, PySem.W.mg_none_of X G z_all, PySem.W.mg_none_of X G z_bool, PySem.W.mg_none_of X G z_int, PySem.W.mg_none_of X G z_isinstance, PySem.W.mg_none_of X G z_len, PySem.W.mg_none_of X G z_list, PySem.W.mg_none_of X G z_max, PySem.W.mg_none_of X G z_min, PySem.W.mg_none_of X G z_range, PySem.W.mg_none_of X G z_reversed, PySem.W.mg_none_of X G z_set, PySem.W.mg_none_of X G z_sorted, PySem.W.mg_none_of X G z_str, PySem.W.mg_none_of X G z_tuple, PySem.W.mg_none_of X G z_zip, PySem.W.mg_of X G zk_MOST_BAGS⟩
  exact ⟨_, fun s v => .of_eq rfl, fun base _ _ => ok_law T⟩
theorem walk {l : PySem.W.OpenLaw} {q : Program} {loose : List Str} {XP : (Str → Option Value) → Heap → Prop} {YP : World → Heap → Prop} {d : DefRec} {K : Params → PySem.W.Frag} (hn : l.most = some 63) (hdf : d.params.defaults = [])
    (hY : ∀ (w : World) (h : Heap), YP w h → (K w.params).In h)
    (F : ∀ (w : World) (mg : Str → Option Value) (fa : Addr) (h : Heap), (K w.params).In h → h.Ns mainGlobals mg → mg d.name = some (.ref fa) →
      ∃ fd : FuncData, (∀ (s : Shared) (u : Value), BindsTo s fd ⟨[u], []⟩ [("_law_script", u)]) ∧ ∀ base : Heap, (K w.params).In base → base.Ns mainGlobals mg → FnOk l.prog w (K w.params) mg base (CXU l.prog w) 9 fa fd ["_law_script"] (sp_law (K w.params))) :
    PySem.W.WalkO q loose XP YP l.row.toRowW d [] (fun f vs => PySem.call f vs) :=
  L2.walk_ofB (n := 63) (k := 9) (x := "_law_script") (CX := fun w => CXU l.prog w) (sp := fun w => sp_law (K w.params)) hn (by decide) hdf ⟨rfl, by decide, by decide, rfl⟩ hY F (fun _ _ a ns hl hb _ hS => ⟨a, ns, rfl, hS, hl, hb, fun _ => rfl⟩) noneU
end Q
namespace PySem.W.Fast
def tw1797984260683472138 : Unit := ()
def tw16152497398104216609 : Unit := ()
def tw1382924338678278846 : Unit := ()
def tw16975603118496928145 : Unit := ()
def tw15668953736181084591 : Unit := ()
def tw7998130574661020483 : Unit := ()
def tw18049137513480224455 : Unit := ()
end PySem.W.Fast
open PySem PySem.W PyProof.Rows
set_option maxRecDepth 100000 in
set_option maxHeartbeats 0 in
theorem PySem.Challenge.cw_lateknow_k51_bags_prices_holds : PySem.Challenge.rw_lateknow_k51_bags_prices.Holds := by
  w_on; o_law; k_head; (case hw => w_witness2)
  k_fill
  first | refine Q.walk (l := PySem.Challenge.rw_lateknow_k51_bags_prices) rfl rfl (fun w h Y => PySem.W.kIn_of Y) ?F | refine Q.walk (l := PySem.Challenge.rw_lateknow_k51_bags_prices) rfl rfl (fun w h Y => PySem.W.km_in_of Y) ?F
  case F =>
    intro w mg fa h KX G hmg
    refine' Q.all_mk KX G hmg ?aC_World ?aC_Bags ?a_law ?l_law ?k_law ?p_law ?a_law_same ?l_law_same ?k_law_same ?p_law_same ?a_law_whole ?l_law_whole ?k_law_whole ?p_law_whole ?a_Bags_moves ?l_Bags_moves ?k_Bags_moves ?p_Bags_moves ?a_World_priced ?l_World_priced ?k_World_priced ?p_World_priced ?a_Bags_price ?l_Bags_price ?k_Bags_price ?p_Bags_price ?a_filled ?l_filled ?k_filled ?p_filled ?a_opened ?l_opened ?k_opened ?p_opened ?a_Bags_init ?l_Bags_init ?k_Bags_init ?p_Bags_init ?a_law_moves ?l_law_moves ?k_law_moves ?p_law_moves ?a_law_due ?l_law_due ?k_law_due ?p_law_due ?a_law_puts ?l_law_puts ?k_law_puts ?p_law_puts ?a_law_price ?l_law_price ?k_law_price ?p_law_price ?a_law_behind ?l_law_behind ?k_law_behind ?p_law_behind ?a_law_loads ?l_law_loads ?k_law_loads ?p_law_loads ?a_law_size ?l_law_size ?k_law_size ?p_law_size ?a_law_mixed ?l_law_mixed ?k_law_mixed ?p_law_mixed ?a_law_raw ?l_law_raw ?k_law_raw ?p_law_raw ?a_law_kinds ?l_law_kinds ?k_law_kinds ?p_law_kinds ?a_Bags_is_wish ?l_Bags_is_wish ?k_Bags_is_wish ?p_Bags_is_wish ?a_is_from_one_to ?l_is_from_one_to ?k_is_from_one_to ?p_is_from_one_to ?a_is_whole_number ?l_is_whole_number ?k_is_whole_number ?p_is_whole_number ?a_law_is_state ?l_law_is_state ?k_law_is_state ?p_law_is_state ?a_Bags_is_state ?l_Bags_is_state ?k_Bags_is_state ?p_Bags_is_state ?a_law_mix ?l_law_mix ?k_law_mix ?p_law_mix ?a_law_room ?l_law_room ?k_law_room ?p_law_room ?cg_Bags ?ch_Bags ?co_Bags ?cs_Bags ?mm_Bags ?mi_Bags ?mf_Bags ?mp_Bags ?na_Bags_room ?ea_Bags_is_state ?ef_Bags_is_state ?ea_Bags_is_wish ?ef_Bags_is_wish ?ea_Bags_moves ?ef_Bags_moves ?ea_Bags_price ?ef_Bags_price ?ea_Bags_priced ?ef_Bags_priced ?z_all ?z_bool ?z_int ?z_isinstance ?z_len ?z_list ?z_max ?z_min ?z_range ?z_reversed ?z_set ?z_sorted ?z_str ?z_tuple ?z_zip ?zk_MOST_BAGS
    (case aC_World => k_is)
    (case aC_Bags => k_is)
    (case a_law => k_is)
    (case l_law => k_is)
    (case k_law => k_is)
    (case p_law => k_is)
    (case a_law_same => k_is)
    (case l_law_same => k_is)
    (case k_law_same => k_is)
    (case p_law_same => k_is)
    (case a_law_whole => k_is)
    (case l_law_whole => k_is)
    (case k_law_whole => k_is)
    (case p_law_whole => k_is)
    (case a_Bags_moves => k_is)
    (case l_Bags_moves => k_is)
    (case k_Bags_moves => k_is)
    (case p_Bags_moves => k_is)
    (case a_World_priced => k_is)
    (case l_World_priced => k_is)
    (case k_World_priced => k_is)
    (case p_World_priced => k_is)
    (case a_Bags_price => k_is)
    (case l_Bags_price => k_is)
    (case k_Bags_price => k_is)
    (case p_Bags_price => k_is)
    (case a_filled => k_is)
    (case l_filled => k_is)
    (case k_filled => k_is)
    (case p_filled => k_is)
    (case a_opened => k_is)
    (case l_opened => k_is)
    (case k_opened => k_is)
    (case p_opened => k_is)
    (case a_Bags_init => k_is)
    (case l_Bags_init => k_is)
    (case k_Bags_init => k_is)
    (case p_Bags_init => k_is)
    (case a_law_moves => k_is)
    (case l_law_moves => k_is)
    (case k_law_moves => k_is)
    (case p_law_moves => k_is)
    (case a_law_due => k_is)
    (case l_law_due => k_is)
    (case k_law_due => k_is)
    (case p_law_due => k_is)
    (case a_law_puts => k_is)
    (case l_law_puts => k_is)
    (case k_law_puts => k_is)
    (case p_law_puts => k_is)
    (case a_law_price => k_is)
    (case l_law_price => k_is)
    (case k_law_price => k_is)
    (case p_law_price => k_is)
    (case a_law_behind => k_is)
    (case l_law_behind => k_is)
    (case k_law_behind => k_is)
    (case p_law_behind => k_is)
    (case a_law_loads => k_is)
    (case l_law_loads => k_is)
    (case k_law_loads => k_is)
    (case p_law_loads => k_is)
    (case a_law_size => k_is)
    (case l_law_size => k_is)
    (case k_law_size => k_is)
    (case p_law_size => k_is)
    (case a_law_mixed => k_is)
    (case l_law_mixed => k_is)
    (case k_law_mixed => k_is)
    (case p_law_mixed => k_is)
    (case a_law_raw => k_is)
    (case l_law_raw => k_is)
    (case k_law_raw => k_is)
    (case p_law_raw => k_is)
    (case a_law_kinds => k_is)
    (case l_law_kinds => k_is)
    (case k_law_kinds => k_is)
    (case p_law_kinds => k_is)
    (case a_Bags_is_wish => k_is)
    (case l_Bags_is_wish => k_is)
    (case k_Bags_is_wish => k_is)
    (case p_Bags_is_wish => k_is)
    (case a_is_from_one_to => k_is)
    (case l_is_from_one_to => k_is)
    (case k_is_from_one_to => k_is)
    (case p_is_from_one_to => k_is)
    (case a_is_whole_number => k_is)
    (case l_is_whole_number => k_is)
    (case k_is_whole_number => k_is)
    (case p_is_whole_number => k_is)
    (case a_law_is_state => k_is)
    (case l_law_is_state => k_is)
    (case k_law_is_state => k_is)
    (case p_law_is_state => k_is)
    (case a_Bags_is_state => k_is)
    (case l_Bags_is_state => k_is)
    (case k_Bags_is_state => k_is)
    (case p_Bags_is_state => k_is)
    (case a_law_mix => k_is)
    (case l_law_mix => k_is)
    (case k_law_mix => k_is)
    (case p_law_mix => k_is)
    (case a_law_room => k_is)
    (case l_law_room => k_is)
    (case k_law_room => k_is)
    (case p_law_room => k_is)
    (case cg_Bags => k_is)
    (case ch_Bags => k_is)
    (case co_Bags => k_is)
    (case cs_Bags => k_is)
    (case mm_Bags => k_is)
    (case mi_Bags => k_is)
    (case mf_Bags => k_is)
    (case mp_Bags => k_is)
    (case na_Bags_room => k_is)
    (case ea_Bags_is_state => k_is)
    (case ef_Bags_is_state => k_is)
    (case ea_Bags_is_wish => k_is)
    (case ef_Bags_is_wish => k_is)
    (case ea_Bags_moves => k_is)
    (case ef_Bags_moves => k_is)
    (case ea_Bags_price => k_is)
    (case ef_Bags_price => k_is)
    (case ea_Bags_priced => k_is)
    (case ef_Bags_priced => k_is)
    (case z_all => k_is)
    (case z_bool => k_is)
    (case z_int => k_is)
    (case z_isinstance => k_is)
    (case z_len => k_is)
    (case z_list => k_is)
    (case z_max => k_is)
    (case z_min => k_is)
    (case z_range => k_is)
    (case z_reversed => k_is)
    (case z_set => k_is)
    (case z_sorted => k_is)
    (case z_str => k_is)
    (case z_tuple => k_is)
    (case z_zip => k_is)
    (case zk_MOST_BAGS => k_is)
