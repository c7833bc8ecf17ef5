import PyProof.Rows.All
import Wide.All
import OpenK.AllK
import Wide.FinOn
import Lean
import PyProof.EqAt
import PyProof.EqKinds
import PyProof.TupleCall
import PyProof.ExcClass3
import PyProof.InstStoreFacts
import PyProof.RulesAs
import PyProof.NsDelKeeps
import PyProof.ExcArgsOwn
import PyProof.ExcAttrAll.ValueError
import PyProof.ExcBaseAll.ValueError
import PySem.Challenge.RW_lateknow_k81_game_read
set_option Elab.async false
set_option linter.all false
set_option maxRecDepth 100000
set_option maxHeartbeats 4000000
set_option Elab.async false
set_option linter.all false
set_option maxRecDepth 100000
namespace L2
open PySem PySem.Spec PyProof.Rows
abbrev Key := Sum Int Str
def keyIs : Key → Value → Bool
  | .inl k, v => Value.isInt k v
  | .inr x, v => Value.isStrOf x v
def keyH (w : World) : Key → Int
  | .inl k => hashInt k
  | .inr x => hashStr w x
theorem keyIs_shape : ∀ {k : Key} {v : Value}, keyIs k v = true → (∃ i t, k = Sum.inl i ∧ v = Value.int i t) ∨ (∃ x t, k = Sum.inr x ∧ v = Value.str x t)
  | .inl i, v, h => by
    obtain ⟨t, e⟩ := Value.isInt_shape (k := i) (v := v) h
    exact .inl ⟨i, t, rfl, e⟩
  | .inr x, v, h => by
    obtain ⟨t, e⟩ := Value.isStrOf_shape (x := x) (v := v) h
    exact .inr ⟨x, t, rfl, e⟩
theorem keyIs_int (i : Int) (t : Tok) : keyIs (.inl i) (.int i t) = true := by simp [keyIs, Value.isInt]
theorem keyIs_str (x : Str) (t : Tok) : keyIs (.inr x) (.str x t) = true := by simp [keyIs, Value.isStrOf]
theorem key_ll (a b : Int) : decide ((Sum.inl a : Key) = Sum.inl b) = (a == b) := by
  by_cases e : a = b
  · subst e; simp
  · have h : ¬ (Sum.inl a : Key) = Sum.inl b := fun q => e (Sum.inl.inj q)
    rw [decide_eq_false h]
    exact (beq_eq_false_iff_ne.mpr e).symm
theorem key_rr (a b : Str) : decide ((Sum.inr a : Key) = Sum.inr b) = decide (a = b) := by
  by_cases e : a = b
  · subst e; simp
  · have h : ¬ (Sum.inr a : Key) = Sum.inr b := fun q => e (Sum.inr.inj q)
    rw [decide_eq_false h, decide_eq_false e]
theorem key_lr (a : Int) (b : Str) : decide ((Sum.inl a : Key) = Sum.inr b) = false := decide_eq_false (fun q => nomatch q)
theorem key_rl (a : Str) (b : Int) : decide ((Sum.inr a : Key) = Sum.inl b) = false := decide_eq_false (fun q => nomatch q)
def mixKind (prog : Program) (w : World) : PySem.KeyKind prog w Key where
  is := keyIs
  hash := keyH w
  inj := fun v a b ha hb => by
    rcases keyIs_shape ha with ⟨i, t, rfl, rfl⟩ | ⟨x, t, rfl, rfl⟩
    · rcases keyIs_shape hb with ⟨j, u, rfl, e⟩ | ⟨y, u, rfl, e⟩
      · injection e with e1 _; rw [e1]
      · exact nomatch e
    · rcases keyIs_shape hb with ⟨j, u, rfl, e⟩ | ⟨y, u, rfl, e⟩
      · exact nomatch e
      · injection e with e1 _; rw [e1]
  byValue := fun k v h => by
    rcases keyIs_shape h with ⟨i, t, rfl, rfl⟩ | ⟨x, t, rfl, rfl⟩ <;> rfl
  pyHash := fun hv h => by
    rcases keyIs_shape hv with ⟨i, t, rfl, rfl⟩ | ⟨x, t, rfl, rfl⟩
    · exact wpAny_pyHash_int h
    · exact wpAny_pyHash_str h
  eqBool := fun hu hv h => by
    rcases keyIs_shape hu with ⟨i, t, rfl, rfl⟩ | ⟨x, t, rfl, rfl⟩
    · rcases keyIs_shape hv with ⟨j, u, rfl, rfl⟩ | ⟨y, u, rfl, rfl⟩
      · rw [key_ll] at h; exact wpAny_eqBool_int h
      · rw [key_lr] at h; exact SeqAt.EqAt.int_str i t y u _ _ _ _ h
    · rcases keyIs_shape hv with ⟨j, u, rfl, rfl⟩ | ⟨y, u, rfl, rfl⟩
      · rw [key_rl] at h; exact SeqAt.EqAt.str_int x t j u _ _ _ _ h
      · rw [key_rr] at h; exact wpAny_eqBool_str h
  «strs» := fun k x t v h => by
    rcases keyIs_shape h with ⟨i, u, rfl, e⟩ | ⟨y, u, rfl, e⟩
    · exact nomatch e
    · injection e with e1 _
      subst e1
      cases v <;> rfl
theorem mixKind_int (prog : Program) (w : World) (i : Int) (t : Tok) : (mixKind prog w).is (.inl i) (.int i t) = true := keyIs_int i t
theorem mixKind_str (prog : Program) (w : World) (x : Str) (t : Tok) : (mixKind prog w).is (.inr x) (.str x t) = true := keyIs_str x t
inductive V where
  | non | bl (b : Bool) | int (i : Int) | str (x : Str) | byt (b : Array UInt8) | flt (b : UInt64) | ref (a : Addr) | ty (n : String)
  deriving DecidableEq
def RelV : V → Value → Prop
  | .non, u => u = Value.none
  | .bl b, u => u = Value.bool b
  | .int i, u => ∃ t, u = Value.int i t
  | .str x, u => ∃ t, u = Value.str x t
  | .byt b, u => ∃ t, u = Value.bytes b t
  | .flt b, u => ∃ t, u = Value.float b t
  | .ref a, u => u = Value.ref a
  | .ty n, u => u = Value.type n
abbrev Vals : List V → List Value → Prop := Paired RelV
theorem Vals.length {xs : List V} {us : List Value} (r : Vals xs us) : xs.length = us.length := Paired.length r
theorem Vals.get : ∀ {xs : List V} {us : List Value} {i : Nat} {x : V}, Vals xs us → xs[i]? = some x → ∃ u, us[i]? = some u ∧ RelV x u
  | _, _, _, _, .nil, e => by simp at e
  | _, _, 0, _, .cons r _, e => by simp at e; subst e; exact ⟨_, rfl, r⟩
  | _, _, i + 1, x, .cons _ t, e => by
    obtain ⟨u, h1, h2⟩ := Vals.get (i := i) (x := x) t (by simpa using e)
    exact ⟨u, by simpa using h1, h2⟩
theorem Vals.append : ∀ {xs ys : List V} {us ws : List Value}, Vals xs us → Vals ys ws → Vals (xs ++ ys) (us ++ ws)
  | _, _, _, _, .nil, s => s
  | _, _, _, _, .cons r t, s => .cons r (Vals.append t s)
theorem Vals.take : ∀ {xs : List V} {us : List Value} (n : Nat), Vals xs us → Vals (xs.take n) (us.take n)
  | _, _, 0, _ => .nil
  | _, _, _ + 1, .nil => .nil
  | _, _, n + 1, .cons r t => .cons r (Vals.take n t)
theorem Vals.drop : ∀ {xs : List V} {us : List Value} (n : Nat), Vals xs us → Vals (xs.drop n) (us.drop n)
  | _, _, 0, r => r
  | _, _, _ + 1, .nil => .nil
  | _, _, n + 1, .cons _ t => Vals.drop n t
def RelO : Option V → Option Value → Prop
  | some v, some u => RelV v u
  | none, none => True
  | _, _ => False
def KV {κ : Type} : List (κ × V) → List (κ × Value) → Prop := Paired fun (p : κ × V) (q : κ × Value) => p.1 = q.1 ∧ RelV p.2 q.2
def kV : Key → V
  | .inl i => .int i
  | .inr x => .str x
def TupN (h : Heap) (a : Addr) (xs : Array Value) : Prop := IsTup h a xs ∧ ∃ o, h.get? a = some o ∧ o.dict = none
theorem TupN.new (h : Heap) (xs : Array Value) : TupN (h.push { cls := .type "tuple", data := .seq xs }) h.objs.size xs := ⟨IsTup.new _ _, _, Heap.get?_push_size _ rfl, rfl⟩
inductive HO where
    | lst (xs : List V)
    | tup (xs : List V)
    | dK (kvs : List (Key × V)) | dT (kvs : List (List Key × V))
    | set (S : Int → Bool) (n : Nat)
    | ins (C dx : Addr) (fs : List (Str × V))
    | own (x : Addr)
    | xd (fs : List (Str × V))
    | met (f x : Addr)
    | rng (lo hi : Int)
    | frz (o : Obj) (u : HO)
    | tbl (ps : Array Value)
    | ext (φ : Heap → Prop)
abbrev Hp := Addr → Option HO
def upd (H : Hp) (a : Addr) (o : HO) : Hp := fun b => if b = a then some o else H b
theorem upd_same {H : Hp} {a : Addr} {o : HO} : upd H a o a = some o := by unfold upd; rw [if_pos rfl]
theorem upd_ne {H : Hp} {a b : Addr} {o : HO} (h : b ≠ a) : upd H a o b = H b := by unfold upd; rw [if_neg h]
theorem upd_upd {H : Hp} {a : Addr} {o u : HO} : upd (upd H a o) a u = upd H a u := by
  funext b; unfold upd; split <;> rfl
theorem ne_of {H : Hp} {a b : Addr} {o u : HO} (h : H a = some o) (h' : H b = some u) (d : o ≠ u) : a ≠ b := by
  intro e; subst e; rw [h] at h'; exact d (Option.some.inj h')
theorem ne_of_none {H : Hp} {a b : Addr} {o : HO} (h : H a = some o) (h' : H b = none) : a ≠ b := by
  intro e; subst e; rw [h] at h'; cases h'
section
variable (P : Program) (w : World)
def ObjOk (H : Hp) (h : Heap) (a : Addr) : HO → Prop
  | .lst xs => xs.length ≤ sizeLine ∧ ∃ (its : List Value) (n : Nat), Vals xs its ∧ h.get? a = some { cls := .type "list", data := .seq its.toArray n }
  | .tup xs => xs.length ≤ sizeLine ∧ ∃ its : List Value, Vals xs its ∧ TupN h a its.toArray
  | .dK kvs => kvs.length ≤ sizeLine ∧ (a == sysModules) = false ∧ ∃ vs, KV kvs vs ∧ h.DictOf (mixKind P w) a vs
  | .dT kvs => kvs.length ≤ sizeLine ∧ (a == sysModules) = false ∧ ∃ xs : List (List Key × Addr × Value),
      Paired (fun (p : List Key × V) (q : List Key × Addr × Value) => p.1 = q.1 ∧ H q.2.1 = some (.tup (p.1.map kV)) ∧ RelV p.2 q.2.2) kvs xs ∧
      ∃ o es ep, h.get? a = some o ∧ o.ExactDict ∧ o.data = .dict es ep ∧ es.toList = xs.map (entryOfKey (tupleKind (mixKind P w))) ∧ (xs.map (·.1)).Nodup
  | .set S n => h.SetOf (intKind P w) a S n
  | .ins C dx fs => H dx = some (.own a) ∧ fs.length ≤ 1000 ∧ dx ≠ a ∧ h.get? a = some (PySem.W.instObj C dx) ∧
      ∃ mA, h.Ns1 dx mA ∧ (∀ f, RelO (fs.lookup f) (mA f)) ∧ PySem.Within mA (fs.map (·.1))
  | .own _ => ∃ o, h.get? a = some o
  | .xd fs => ∃ mA, h.Ns1 a mA ∧ ∀ f, RelO (fs.lookup f) (mA f)
  | .rng lo hi => ∃ t u v, h.get? a = some { cls := .type "range", data := .fields #[.int lo t, .int hi u, .int 1 v] }
  | .frz o u => h.get? a = some o ∧ ObjOk H h a u
  | .tbl ps => h.get? a = some { cls := .none, data := .fields ps }
  | .met f x => h.get? a = some (PySem.W.methodObj (.ref f) (.ref x))
  | .ext φ => φ h ∧ (∃ o, h.get? a = some o) ∧ ∀ h1 h2 : Heap, φ h1 → (∀ o, h1.get? a = some o → h2.get? a = some o) → φ h2
def HOk (H : Hp) (h : Heap) : Prop := ∀ a o, H a = some o → ObjOk P w H h a o
end
section
variable {P : Program} {w : World} {H H' : Hp} {h h' : Heap} {a : Addr} {o : HO}
theorem ObjOk.lt (x : ObjOk P w H h a o) : a < h.objs.size := by
  cases o with
  | lst xs => obtain ⟨_, _, _, _, e⟩ := x; exact Heap.lt_size e
  | tup xs => obtain ⟨_, _, _, p⟩ := x; exact p.1.lt
  | dK kvs => obtain ⟨_, _, _, _, o, _, _, e, _⟩ := x; exact Heap.lt_size e
  | dT kvs => obtain ⟨_, _, _, _, o, _, _, e, _⟩ := x; exact Heap.lt_size e
  | set S n => obtain ⟨o, _, _, _, e, _⟩ := x; exact Heap.lt_size e
  | ins C dx fs => obtain ⟨_, _, _, e, _⟩ := x; exact Heap.lt_size e
  | own y => obtain ⟨_, e⟩ := x; exact Heap.lt_size e
  | xd fs => obtain ⟨_, ⟨_, _, _, e, _⟩, _⟩ := x; exact Heap.lt_size e
  | rng lo hi => obtain ⟨_, _, _, e⟩ := x; exact Heap.lt_size e
  | frz ob u => obtain ⟨e, _⟩ := x; exact Heap.lt_size e
  | tbl ps => exact Heap.lt_size (show h.get? a = some _ from x)
  | met f y => exact Heap.lt_size (show h.get? a = some _ from x)
  | ext φ => obtain ⟨_, ⟨_, e⟩, _⟩ := x; exact Heap.lt_size e
theorem Paired.mapP {α β : Type} {F G : α → β → Prop} : ∀ {l₁ : List α} {l₂ : List β}, Paired F l₁ l₂ → (∀ a b, F a b → G a b) → Paired G l₁ l₂
  | _, _, .nil, _ => .nil
  | _, _, .cons r t, f => .cons (f _ _ r) (Paired.mapP t f)
theorem ObjOk.stay (x : ObjOk P w H h a o) (k : ∀ b u, (b = a ∨ H b = some (.own a)) → h.get? b = some u → h'.get? b = some u)
    (ho : ∀ b, H b = some (.own a) → H' b = some (.own a)) (ht : ∀ b xs, H b = some (.tup xs) → H' b = some (.tup xs)) : ObjOk P w H' h' a o := by
  induction o with
  | lst xs => obtain ⟨z, its, n, r, e⟩ := x; exact ⟨z, its, n, r, k _ _ (.inl rfl) e⟩
  | tup xs => obtain ⟨z, its, r, ⟨ob, e, c⟩, od, f, d⟩ := x; exact ⟨z, its, r, ⟨ob, k _ _ (.inl rfl) e, c⟩, od, k _ _ (.inl rfl) f, d⟩
  | dK kvs => obtain ⟨z, y, vs, r, ob, es, ep, e, c⟩ := x; exact ⟨z, y, vs, r, ob, es, ep, k _ _ (.inl rfl) e, c⟩
  | dT kvs =>
    obtain ⟨z, y, xs, r, ob, es, ep, e, c⟩ := x
    exact ⟨z, y, xs, Paired.mapP r fun p q z => ⟨z.1, ht _ _ z.2.1, z.2.2⟩, ob, es, ep, k _ _ (.inl rfl) e, c⟩
  | set S n => obtain ⟨ob, es, ep, t, e, c⟩ := x; exact ⟨ob, es, ep, t, k _ _ (.inl rfl) e, c⟩
  | ins C dx fs =>
    obtain ⟨d, z, ne, e, mA, ⟨od, es, ep, e2, c⟩, r⟩ := x
    exact ⟨ho _ d, z, ne, k _ _ (.inl rfl) e, mA, ⟨od, es, ep, k _ _ (.inr d) e2, c⟩, r⟩
  | own y => obtain ⟨ob, e⟩ := x; exact ⟨ob, k _ _ (.inl rfl) e⟩
  | xd fs => obtain ⟨mA, ⟨od, es, ep, e, c⟩, r⟩ := x; exact ⟨mA, ⟨od, es, ep, k _ _ (.inl rfl) e, c⟩, r⟩
  | rng lo hi => obtain ⟨t, u, v, e⟩ := x; exact ⟨t, u, v, k _ _ (.inl rfl) e⟩
  | frz ob u ih => obtain ⟨e, q⟩ := x; exact ⟨k _ _ (.inl rfl) e, ih q⟩
  | tbl ps =>
    have e : h.get? a = some { cls := .none, data := .fields ps } := x
    show h'.get? a = some { cls := .none, data := .fields ps }
    exact k a _ (.inl rfl) e
  | met f y =>
    have e : h.get? a = some (PySem.W.methodObj (.ref f) (.ref y)) := x
    show h'.get? a = some (PySem.W.methodObj (.ref f) (.ref y))
    exact k a _ (.inl rfl) e
  | ext φ => obtain ⟨p, ⟨o, e⟩, st⟩ := x; exact ⟨st _ _ p fun o q => k _ _ (.inl rfl) q, ⟨o, k _ _ (.inl rfl) e⟩, st⟩
theorem HOk.lt (x : HOk P w H h) (e : H a = some o) : a < h.objs.size := (x a o e).lt
theorem HOk.fresh (x : HOk P w H h) (e : h.objs.size ≤ a) : H a = none := by
  cases q : H a with
  | none => rfl
  | some u => exact absurd (Nat.lt_of_lt_of_le (x.lt q) e) (Nat.lt_irrefl _)
theorem HOk.kept (x : HOk P w H h) (k : ∀ b u, h.get? b = some u → h'.get? b = some u) : HOk P w H h' := fun a o e =>
  (x a o e).stay (fun b u _ q => k b u q) (fun _ q => q) fun _ _ q => q
theorem HOk.laid (x : HOk P w H h) (k : ∀ b u, h.get? b = some u → h'.get? b = some u) (hp : h.objs.size ≤ a) (new : ObjOk P w (upd H a o) h' a o) : HOk P w (upd H a o) h' := fun b u e => by
  have hn := x.fresh hp
  by_cases hb : b = a
  · subst hb; rw [upd_same] at e; cases e; exact new
  · rw [upd_ne hb] at e
    exact (x b u e).stay (fun c v _ q => k c v q) (fun c q => by rw [upd_ne (ne_of_none q hn)]; exact q) fun c xs q => by rw [upd_ne (ne_of_none q hn)]; exact q
end
def Rd (H : Hp) (a : Addr) (u : HO) : Prop := H a = some u ∨ ∃ o, H a = some (.frz o u)
theorem Rd.ok {P : Program} {w : World} {H : Hp} {h : Heap} {a : Addr} {u : HO} (r : Rd H a u) (x : HOk P w H h) : ObjOk P w H h a u := by
  rcases r with r | ⟨o, r⟩
  · exact x a u r
  · obtain ⟨_, q⟩ := x a _ r
    exact q
def Mut : Option HO → Prop
  | some (.lst _) => True
  | some (.dK _) => True
  | some (.dT _) => True
  | some (.set _ _) => True
  | some (.ins _ _ _) => True
  | some (.ext _) => True
  | _ => False
section
variable {P : Program} {w : World} {H : Hp} {h h' : Heap} {x e : Addr} {o' : HO}
theorem HOk.write (ok : HOk P w H h) (mu : Mut (H x)) (he : e = x ∨ H e = some (.own x)) (k : ∀ b u, b ≠ e → h.get? b = some u → h'.get? b = some u) (heo : ∃ u, h'.get? e = some u)
    (new : ObjOk P w (upd H x o') h' x o') : HOk P w (upd H x o') h' := fun b u q => by
  have nown : ∀ c y, H c = some (.own y) → c ≠ x := fun c y r z => by subst z; rw [r] at mu; exact mu
  have ntup : ∀ c xs, H c = some (.tup xs) → c ≠ x := fun c xs r z => by subst z; rw [r] at mu; exact mu
  by_cases hb : b = x
  · subst hb; rw [upd_same] at q; cases q; exact new
  · rw [upd_ne hb] at q
    by_cases hbe : b = e
    · have q' : H b = some (.own x) := by
        rcases he with z | z
        · exact absurd (hbe.trans z) hb
        · rw [hbe]; exact z
      rw [q] at q'; cases q'
      obtain ⟨v, hv⟩ := heo
      exact ⟨v, by rw [hbe]; exact hv⟩
    · refine (ok b u q).stay (fun c v hc r => k c v ?_ r) (fun c r => by rw [upd_ne (nown c b r)]; exact r) fun c xs r => by rw [upd_ne (ntup c xs r)]; exact r
      rcases hc with rfl | hc
      · exact hbe
      · rintro rfl
        rcases he with z | z
        · exact nown c b hc z
        · rw [hc] at z; cases z; exact hb rfl
end
structure Un (fs ex : List Addr) (H H' : Hp) (h h' : Heap) : Prop where
  keep : ∀ b o, h.get? b = some o → H b = none → b ∉ fs → b ∉ ex → h'.get? b = some o
  slot : ∀ b o, h.get? b = some o → H b = none → b ∈ fs → b ∉ ex → ∃ sl, h'.get? b = some { o with slots := sl }
  free : ∀ b o, h.get? b = some o → H b = none → b ∉ ex → H' b = none
  there : ∀ b o, h.get? b = some o → b ∉ ex → ∃ o', h'.get? b = some o'
  tups : ∀ b xs, H b = some (.tup xs) → H' b = some (.tup xs)
  frzs : ∀ b o u, H b = some (.frz o u) → H' b = some (.frz o u)
  tbls : ∀ b ps, H b = some (.tbl ps) → ∃ more, H' b = some (.tbl (ps ++ more))
section
variable {fs fs' ex ex' : List Addr} {H H1 H2 : Hp} {h h1 h2 h' : Heap} {a x e : Addr} {o : HO}
theorem Un.any (u : Un fs ex H H1 h h1) {b : Addr} {ob : Obj} (q : h.get? b = some ob) (n : H b = none) (hx : b ∉ ex) : ∃ sl, h1.get? b = some { ob with slots := sl } := by
  by_cases hb : b ∈ fs
  · exact u.slot b ob q n hb hx
  · exact ⟨ob.slots, u.keep b ob q n hb hx⟩
theorem Un.kept (k : ∀ b u, h.get? b = some u → h'.get? b = some u) : Un fs ex H H h h' :=
  ⟨fun b ob q _ _ _ => k b ob q, fun b ob q _ _ _ => ⟨ob.slots, k b ob q⟩, fun _ _ _ n _ => n, fun b ob q _ => ⟨ob, k b ob q⟩, fun _ _ q => q, fun _ _ _ q => q, fun _ ps q => ⟨#[], by rw [q]; simp⟩⟩
theorem Un.refl : Un fs ex H H h h := Un.kept fun _ _ q => q
theorem Un.laid (k : ∀ b u, h.get? b = some u → h'.get? b = some u) (hp : h.objs.size ≤ a) (hn : H a = none) : Un fs ex H (upd H a o) h h' where
  keep := fun b u q _ _ _ => k b u q
  slot := fun b u q _ _ _ => ⟨u.slots, k b u q⟩
  free := fun b u q n _ => by rw [upd_ne (Nat.ne_of_lt (Nat.lt_of_lt_of_le (Heap.lt_size q) hp))]; exact n
  there := fun b u q _ => ⟨u, k b u q⟩
  tups := fun b xs q => by rw [upd_ne (ne_of_none q hn)]; exact q
  frzs := fun b u xs q => by rw [upd_ne (ne_of_none q hn)]; exact q
  tbls := fun b ps q => ⟨#[], by rw [upd_ne (ne_of_none q hn), q]; simp⟩
theorem Un.write (mu : Mut (H x)) (he : e = x ∨ H e = some (.own x)) (k : ∀ b u, b ≠ e → h.get? b = some u → h'.get? b = some u) (heo : ∃ u, h'.get? e = some u) : Un fs ex H (upd H x o) h h' := by
  have hx : ∀ b, H b = none → b ≠ x := fun b n z => by subst z; rw [n] at mu; exact mu
  have hb : ∀ b, H b = none → b ≠ e := fun b n z => by
    subst z
    rcases he with r | r
    · exact hx b n r
    · rw [n] at r; cases r
  have hm : ∀ b u, H b = some u → ¬ Mut (some u) → b ≠ x := fun b u q nm z => by subst z; rw [q] at mu; exact nm mu
  refine ⟨fun b u q n _ _ => k b u (hb b n) q, fun b u q n _ _ => ⟨u.slots, k b u (hb b n) q⟩, fun b u q n _ => by rw [upd_ne (hx b n)]; exact n, fun b u q _ => ?_,
    fun b xs q => by rw [upd_ne (hm b _ q fun z => z)]; exact q, fun b u xs q => by rw [upd_ne (hm b _ q fun z => z)]; exact q, fun b ps q => ⟨#[], by rw [upd_ne (hm b _ q fun z => z), q]; simp⟩⟩
  by_cases hbe : b = e
  · subst hbe; exact heo
  · exact ⟨u, k b u hbe q⟩
end
def trk (h : Heap) (H : Hp) : List Addr := (List.range h.objs.size).filter fun a => (H a).isSome
def hidT (h : Heap) (H : Hp) : Heap := PySem.W.hideAll h (trk h H)
theorem hidT_size (h : Heap) (H : Hp) : (hidT h H).objs.size = h.objs.size := PySem.W.hideAll_size _ _
theorem hidT_get {h : Heap} {H : Hp} {b : Addr} {o : Obj} (e : h.get? b = some o) (n : H b = none) : (hidT h H).get? b = some o :=
  PySem.W.hideAll_get _ e fun hm => by
    have q : (H b).isSome = true := (List.mem_filter.mp hm).2
    rw [n] at q; simp at q
theorem of_hidT {h : Heap} {H : Hp} {b : Addr} {o : Obj} (e : (hidT h H).get? b = some o) : h.get? b = some o ∧ H b = none := by
  have e' : h.get? b = some o := PySem.W.of_hideAll (trk h H) e
  refine ⟨e', ?_⟩
  cases q : H b with
  | none => rfl
  | some x =>
    have hm : b ∈ trk h H := List.mem_filter.mpr ⟨List.mem_range.mpr (Heap.lt_size e'), by simp [q]⟩
    have z : (hidT h H).get? b = none := PySem.W.hideAll_none (trk h H) hm
    rw [z] at e; cases e
def allNews (g h : Heap) (L : Addr) : List (Addr × Obj) := (List.range h.objs.size).filterMap fun a => if a = L ∨ (g.get? a).isSome = true then none else (h.get? a).map fun o => (a, o)
def rest (g h : Heap) (L d : Addr) : List (Addr × Obj) := (allNews g h L).filter fun p => decide (p.1 ≠ d)
structure Mod (K : PySem.W.Frag) (mg : Str → Option Value) (base : Heap) : Prop where
  kin : K.In base
  glob : base.Ns mainGlobals mg
  blt : ∃ mb, base.Ns builtinsNs mb ∧ ∀ x : Str, x ≠ "__name__" → mb x = bootBuiltins x
  nolimit : base.NoLimit
  bmain : ∃ bm ob, mg "__builtins__" = some (.ref bm) ∧ bm ≠ builtinsNs ∧ base.get? bm = some ob ∧ ob.cls = .type "module" ∧ ob.dict = some builtinsNs ∧ ob.data = .plain
structure Cx where
  prog : Program
  w : World
  K : PySem.W.Frag
  mg : Str → Option Value
  base : Heap
  A : Around
  N : List Str
  s₀ : Shared
  H₀ : Hp
  env : Env
  outer : List Env
  stack : List Env
  ex : List Addr
  fn : Str → Bool
  calm : Bool
  pn : List (Addr × Obj)
  xe : Value → Shared → Prop
def frs (l : List Env) : List Addr := l.filterMap (·.frame)
abbrev Cx.fs (X : Cx) : List Addr := frs X.outer
def Vis (sc : Scope) (x : Str) : Prop := sc.names.lookup x = some .local ∨ sc.names.lookup x = some .cell ∨ sc.names.lookup x = some .free
def Loc (sc : Scope) (x : Str) : Prop := sc.names.lookup x = some .local ∨ sc.names.lookup x = some .cell
def Look (env : Env) (h : Heap) (m : Str → Option Value) (x : Str) (u : Value) : Prop :=
  (env.kindOf x = some .local ∧ m x = some u) ∨ ((env.kindOf x = some .cell ∨ env.kindOf x = some .free) ∧ ∃ c, env.cells.lookup x = some c ∧ h.IsCell c (some u))
structure Cx.Ok (X : Cx) : Prop where
  mod : Mod X.K X.mg X.base
  kind : X.env.scope.kind = .function
  glob : X.env.globals = mainGlobals
  blt : X.env.builtins = builtinsNs
  above : X.s₀.heap.objs.size ≤ X.env.locals
  inj : ∀ x y c, X.env.cells.lookup x = some c → X.env.cells.lookup y = some c → x = y
  has : ∀ x, (X.env.kindOf x = some .cell ∨ X.env.kindOf x = some .free) → ∃ c, X.env.cells.lookup x = some c
  cab : ∀ x c, X.fn x = true → X.env.cells.lookup x = some c → X.s₀.heap.objs.size ≤ c
  hd : X.calm = true → X.A.handled = none
  frames : X.A.frames = some X.stack
  stk : X.stack = X.outer ∨ (X.stack = X.env :: X.outer ∧ X.env.frame = some X.env.locals)
  exf : ∀ b ∈ X.ex, b ≠ X.env.locals ∧ ∀ x c, X.env.cells.lookup x = some c → c ≠ b
  bs : ∀ b o, X.base.get? b = some o → X.s₀.heap.get? b = some o ∧ X.H₀ b = none
  bsz : X.base.objs.size ≤ X.s₀.heap.objs.size
  noex : ∀ b o, X.base.get? b = some o → b ∉ X.ex
  exfs : ∀ b ∈ X.ex, b ∉ X.fs
  funs : X.s₀.heap.FunFrames X.base X.outer
  frf : ∀ b ∈ X.fs, X.H₀ b = none
structure Inv (X : Cx) (pins : List (Addr × Obj)) (σ : List (Option V)) (H : Hp) (s : Shared) : Prop where
  ok : X.Ok
  os : s.os = X.s₀.os
  bare : AllBare s.gens
  base : Un X.fs X.ex X.H₀ H X.s₀.heap s.heap
  loc : ∃ m, s.heap.Ns X.env.locals m ∧ ∀ (i : Nat) (x : Str) (v : V), X.N[i]? = some x → σ[i]? = some (some v) → Vis X.env.scope x → ∃ u, RelV v u ∧ Look X.env s.heap m x u
  cell : ∀ x c, X.env.cells.lookup x = some c → ∃ v, s.heap.IsCell c v
  free : H X.env.locals = none
  freeC : ∀ x c, X.env.cells.lookup x = some c → H c = none
  pin : ∀ p ∈ X.pn ++ pins, s.heap.get? p.1 = some p.2 ∧ H p.1 = none ∧ p.1 ≠ X.env.locals ∧ p.1 ∉ X.fs ∧ ∀ v, p.2.data ≠ .cell v
  hok : HOk X.prog X.w H s.heap
  len : σ.length = X.N.length
section
variable {X : Cx} {pins : List (Addr × Obj)} {σ : List (Option V)} {H H' : Hp} {s : Shared} {h' : Heap}
theorem Cx.Ok.nofr (ok : X.Ok) {b : Addr} {o : Obj} (e : X.base.get? b = some o) : b ∉ X.fs := fun hb => by
  have := (ok.funs.mem hb).1
  rw [e] at this; cases this
theorem Inv.bs (I : Inv X pins σ H s) : ∀ b o, X.base.get? b = some o → s.heap.get? b = some o ∧ H b = none := fun b o e =>
  ⟨I.base.keep b o (I.ok.bs b o e).1 (I.ok.bs b o e).2 (I.ok.nofr e) (I.ok.noex b o e), I.base.free b o (I.ok.bs b o e).1 (I.ok.bs b o e).2 (I.ok.noex b o e)⟩
theorem Inv.bk (I : Inv X pins σ H s) : ∀ b o, X.base.get? b = some o → s.heap.get? b = some o := fun b o e => (I.bs b o e).1
theorem Inv.mod (I : Inv X pins σ H s) : Mod X.K X.mg X.base := I.ok.mod
theorem Inv.kIn (I : Inv X pins σ H s) : X.K.In s.heap := I.ok.mod.kin.keeps I.bk
theorem Inv.lt (I : Inv X pins σ H s) : X.env.locals < s.heap.objs.size := let ⟨_, hn, _⟩ := I.loc; hn.lt
theorem Inv.sz (I : Inv X pins σ H s) : X.s₀.heap.objs.size ≤ s.heap.objs.size := Nat.le_trans I.ok.above (Nat.le_of_lt I.lt)
theorem Inv.nofs (I : Inv X pins σ H s) {a : Addr} (h : s.heap.objs.size ≤ a) : a ∉ X.fs := fun hb => by
  obtain ⟨_, o, ho, _⟩ := I.ok.funs.mem hb
  exact absurd (Nat.lt_of_lt_of_le (Heap.lt_size ho) (Nat.le_trans I.sz h)) (Nat.lt_irrefl _)
theorem Inv.cne (I : Inv X pins σ H s) : ∀ x c, X.env.cells.lookup x = some c → c ≠ X.env.locals := fun x c e z => by
  obtain ⟨v, o, ho, hd⟩ := I.cell x c e
  obtain ⟨m, ⟨o', es, ep, ho', hd', _⟩, _⟩ := I.loc
  rw [z, ho'] at ho; cases ho; rw [hd'] at hd; cases hd
theorem Inv.funs (I : Inv X pins σ H s) : s.heap.FunFrames X.base X.outer := by
  have all : ∀ (l : List Env), (∀ b ∈ frs l, b ∈ X.fs) → X.s₀.heap.FunFrames X.base l → s.heap.FunFrames X.base l := by
    intro l
    induction l with
    | nil => intro _ _; trivial
    | cons env r ih =>
      intro hs hl
      obtain ⟨hk, ⟨L, o, hf, hn, ho, hd⟩, hr⟩ := hl
      have hL : L ∈ X.fs := hs L (by unfold frs; rw [List.filterMap_cons, hf]; exact List.mem_cons_self)
      obtain ⟨sl, e⟩ := I.base.slot L o ho (I.ok.frf L hL) hL fun z => I.ok.exfs L z hL
      exact ⟨hk, ⟨L, _, hf, hn, e, hd⟩, ih (fun b hb => hs b (by unfold frs; rw [List.filterMap_cons, hf]; exact List.mem_cons_of_mem _ hb)) hr⟩
  exact all X.outer (fun _ hb => hb) I.ok.funs
theorem Inv.stack (I : Inv X pins σ H s) : s.heap.FunFrames X.base X.stack := by
  rcases I.ok.stk with e | ⟨e, hf⟩
  · rw [e]; exact I.funs
  · rw [e]
    obtain ⟨m, hn, _⟩ := I.loc
    refine .cons (by rw [I.ok.kind]; decide) hf hn ?_ I.funs
    exact Heap.get?_none_of_le (Nat.le_trans I.ok.bsz I.ok.above)
theorem Inv.stkSub (I : Inv X pins σ H s) : ∀ b ∈ frs X.stack, b ∈ X.env.locals :: X.fs := fun b hb => by
  rcases I.ok.stk with e | ⟨e, hf⟩
  · rw [e] at hb; exact List.mem_cons_of_mem _ hb
  · rw [e] at hb
    unfold frs at hb
    rw [List.filterMap_cons, hf] at hb
    exact hb
theorem Inv.stkFree (I : Inv X pins σ H s) : ∀ b ∈ frs X.stack, H b = none := fun b hb => by
  rcases List.mem_cons.mp (I.stkSub b hb) with e | hb
  · rw [e]; exact I.free
  · obtain ⟨_, o, ho, _⟩ := I.ok.funs.mem hb
    exact I.base.free b o ho (I.ok.frf b hb) fun z => I.ok.exfs b z hb
theorem Inv.step {g' : Array GenState} {t' : Nat} {d' : Drawn} {ch : List Addr} (I : Inv X pins σ H s)
    (hch : ∀ b ∈ ch, (b ∈ X.ex ∨ X.s₀.heap.objs.size ≤ b) ∧ b ≠ X.env.locals ∧ (∀ x c, X.env.cells.lookup x = some c → c ≠ b) ∧ ∀ p ∈ X.pn ++ pins, p.1 ≠ b)
    (keep : ∀ b o, b ≠ X.env.locals → b ∉ X.fs → b ∉ ch → s.heap.get? b = some o → H b = none → h'.get? b = some o)
    (slot : ∀ b o, b ≠ X.env.locals → b ∈ X.fs → b ∉ ch → s.heap.get? b = some o → H b = none → ∃ sl, h'.get? b = some { o with slots := sl }) (free : ∀ b o, b ∉ ch → s.heap.get? b = some o → H b = none → H' b = none)
    (there : ∀ b o, b ∉ ch → s.heap.get? b = some o → ∃ o', h'.get? b = some o')
    (tups : ∀ b xs, H b = some (.tup xs) → H' b = some (.tup xs)) (frzs : ∀ b o u, H b = some (.frz o u) → H' b = some (.frz o u)) (tbls : ∀ b ps, H b = some (.tbl ps) → ∃ more, H' b = some (.tbl (ps ++ more)))
    (ns : ∀ m, s.heap.Ns X.env.locals m → h'.Ns X.env.locals m) (hok : HOk X.prog X.w H' h') (hg : AllBare g') :
    Inv X pins σ H' { s with heap := h', gens := g', drawn := d', toks := t' } := by
  have neL : ∀ b o, X.s₀.heap.get? b = some o → b ≠ X.env.locals := fun b o e => Nat.ne_of_lt (Nat.lt_of_lt_of_le (Heap.lt_size e) I.ok.above)
  have neC : ∀ b o, X.s₀.heap.get? b = some o → b ∉ X.ex → b ∉ ch := fun b o e hx hb => by
    rcases (hch b hb).1 with z | z
    · exact hx z
    · exact absurd (Nat.lt_of_lt_of_le (Heap.lt_size e) z) (Nat.lt_irrefl _)
  have cellK : ∀ x c, X.env.cells.lookup x = some c → ∀ v, s.heap.IsCell c v → h'.IsCell c v := fun x c e v ⟨o, ho, hd⟩ => by
    have nch : c ∉ ch := fun z => (hch c z).2.2.1 x c e rfl
    by_cases hc : c ∈ X.fs
    · obtain ⟨sl, q⟩ := slot c o (I.cne x c e) hc nch ho (I.freeC x c e)
      exact ⟨_, q, hd⟩
    · exact ⟨o, keep c o (I.cne x c e) hc nch ho (I.freeC x c e), hd⟩
  refine ⟨I.ok, I.os, hg, ⟨fun b o e n hb hx => ?_, fun b o e n hb hx => ?_, fun b o e n hx => ?_, fun b o e hx => ?_, fun b xs e => tups b xs (I.base.tups b xs e), fun b o xs e => frzs b o xs (I.base.frzs b o xs e), fun b ps e => ?_⟩, ?_, fun x c e => ?_, ?_, fun x c e => ?_, fun p hp => ?_, hok, I.len⟩
  · exact keep b o (neL b o e) hb (neC b o e hx) (I.base.keep b o e n hb hx) (I.base.free b o e n hx)
  · obtain ⟨sl, e1⟩ := I.base.slot b o e n hb hx
    obtain ⟨sl', e2⟩ := slot b _ (neL b o e) hb (neC b o e hx) e1 (I.base.free b o e n hx)
    exact ⟨sl', e2⟩
  · obtain ⟨o', e1⟩ := I.base.there b o e hx
    exact free b o' (neC b o e hx) e1 (I.base.free b o e n hx)
  · obtain ⟨o', e1⟩ := I.base.there b o e hx
    exact there b o' (neC b o e hx) e1
  · obtain ⟨m1, e1⟩ := I.base.tbls b ps e
    obtain ⟨m2, e2⟩ := tbls b _ e1
    exact ⟨m1 ++ m2, by rw [e2, Array.append_assoc]⟩
  · obtain ⟨m, hn, hl⟩ := I.loc
    refine ⟨m, ns m hn, fun i x v e1 e2 e3 => ?_⟩
    obtain ⟨u, r, l⟩ := hl i x v e1 e2 e3
    refine ⟨u, r, ?_⟩
    rcases l with l | ⟨k, c, e, z⟩
    · exact .inl l
    · exact .inr ⟨k, c, e, cellK x c e _ z⟩
  · obtain ⟨v, z⟩ := I.cell x c e
    exact ⟨v, cellK x c e v z⟩
  · obtain ⟨m, ⟨o, _, _, ho, _⟩, _⟩ := I.loc
    exact free _ o (fun z => (hch _ z).2.1 rfl) ho I.free
  · obtain ⟨v, o, ho, hd⟩ := I.cell x c e
    exact free c o (fun z => (hch c z).2.2.1 x c e rfl) ho (I.freeC x c e)
  · obtain ⟨e, n, ne, nf, d⟩ := I.pin p hp
    have nch : p.1 ∉ ch := fun z => (hch p.1 z).2.2.2 p hp rfl
    exact ⟨keep p.1 p.2 ne nf nch e n, free p.1 p.2 nch e n, ne, nf, d⟩
theorem Inv.un {t' : Nat} (I : Inv X pins σ H s) (u : Un X.fs [] H H' s.heap h') (hok : HOk X.prog X.w H' h') : Inv X pins σ H' { s with heap := h', toks := t' } := by
  obtain ⟨m, ⟨o, es, ep, ho, r⟩, _⟩ := id I.loc
  obtain ⟨sl, hL⟩ := u.any ho I.free (by simp)
  exact I.step (g' := s.gens) (d' := s.drawn) (ch := []) (fun _ z => nomatch z) (fun b o _ hb _ e n => u.keep b o e n hb (by simp)) (fun b o _ hb _ e n => u.slot b o e n hb (by simp)) (fun b o _ e n => u.free b o e n (by simp)) (fun b o _ e => u.there b o e (by simp)) u.tups u.frzs u.tbls (fun m' hm => by
    obtain ⟨o', es', ep', ho', r'⟩ := hm
    rw [ho] at ho'; cases ho'
    exact ⟨_, es', ep', hL, r'⟩) hok I.bare
theorem Inv.call {g' : Array GenState} {t' : Nat} {d' : Drawn} {ch : List Addr} (I : Inv X pins σ H s) (u : Un (frs X.stack) ch H H' s.heap h') (hok : HOk X.prog X.w H' h') (hg : AllBare g')
    (hch : ∀ b ∈ ch, (b ∈ X.ex ∨ X.s₀.heap.objs.size ≤ b) ∧ b ≠ X.env.locals ∧ (∀ x c, X.env.cells.lookup x = some c → c ≠ b) ∧ ∀ p ∈ X.pn ++ pins, p.1 ≠ b) :
    Inv X pins σ H' { s with heap := h', gens := g', drawn := d', toks := t' } := by
  obtain ⟨m, ⟨o, es, ep, ho, r⟩, _⟩ := id I.loc
  obtain ⟨sl, hL⟩ := u.any ho I.free fun z => (hch _ z).2.1 rfl
  exact I.step (ch := ch) hch (fun b o hL hb hc e n => u.keep b o e n (fun z => (List.mem_cons.mp (I.stkSub b z)).elim hL hb) hc) (fun b o _ _ hc e n => u.any e n hc) (fun b o hc e n => u.free b o e n hc) (fun b o hc e => u.there b o e hc) u.tups u.frzs u.tbls (fun m' hm => by
    obtain ⟨o', es', ep', ho', r'⟩ := hm
    rw [ho] at ho'; cases ho'
    exact ⟨_, es', ep', hL, r'⟩) hok hg
theorem Inv.turned {t' : Nat} {it : Addr} (I : Inv X pins σ H s) (k : ∀ b o, b ≠ it → s.heap.get? b = some o → h'.get? b = some o) (hn : H it = none) (hL : it ≠ X.env.locals)
    (h1 : it ∈ X.ex ∨ X.s₀.heap.objs.size ≤ it) (h2 : ∀ x c, X.env.cells.lookup x = some c → c ≠ it) (h3 : ∀ p ∈ X.pn ++ pins, p.1 ≠ it) : Inv X pins σ H { s with heap := h', toks := t' } := by
  have nit : ∀ b u, H b = some u → b ≠ it := fun b u e z => by rw [z, hn] at e; cases e
  refine I.step (g' := s.gens) (d' := s.drawn) (ch := [it]) (fun b hb => ?_) (fun b o _ _ hc e _ => k b o (fun z => hc (by simp [z])) e) (fun b o _ _ hc e _ => ⟨o.slots, k b o (fun z => hc (by simp [z])) e⟩) (fun _ _ _ _ n => n)
    (fun b o hc e => ⟨o, k b o (fun z => hc (by simp [z])) e⟩) (fun _ _ e => e) (fun _ _ _ e => e) (fun b ps e => ⟨#[], by rw [e]; simp⟩) (fun m hm => ?_) (fun b u e => ?_) I.bare
  · have e : b = it := by simpa using hb
    subst e
    exact ⟨h1, hL, h2, h3⟩
  · obtain ⟨o, es, ep, ho, r⟩ := hm
    exact ⟨o, es, ep, k _ o (Ne.symm hL) ho, r⟩
  · refine (I.hok b u e).stay (fun c v hc q => k c v ?_ q) (fun _ q => q) fun _ _ q => q
    rcases hc with z | z
    · rw [z]; exact nit b u e
    · exact nit c _ z
theorem Inv.tok (I : Inv X pins σ H s) (t : Nat) : Inv X pins σ H { s with toks := t } := I.un (h' := s.heap) (t' := t) Un.refl I.hok
theorem Inv.kept {t' : Nat} (I : Inv X pins σ H s) (k : ∀ b u, s.heap.get? b = some u → h'.get? b = some u) : Inv X pins σ H { s with heap := h', toks := t' } := I.un (Un.kept k) (I.hok.kept k)
theorem Inv.laid {a : Addr} {o : HO} {t' : Nat} (I : Inv X pins σ H s) (k : ∀ b u, s.heap.get? b = some u → h'.get? b = some u) (hp : s.heap.objs.size ≤ a) (new : ObjOk X.prog X.w (upd H a o) h' a o) :
    Inv X pins σ (upd H a o) { s with heap := h', toks := t' } := I.un (Un.laid k hp (I.hok.fresh hp)) (I.hok.laid k hp new)
theorem Inv.write {x e : Addr} {o : HO} {t' : Nat} (I : Inv X pins σ H s) (mu : Mut (H x)) (he : e = x ∨ H e = some (.own x)) (k : ∀ b u, b ≠ e → s.heap.get? b = some u → h'.get? b = some u) (heo : ∃ u, h'.get? e = some u)
    (new : ObjOk X.prog X.w (upd H x o) h' x o) : Inv X pins σ (upd H x o) { s with heap := h', toks := t' } := I.un (Un.write mu he k heo) (I.hok.write mu he k heo new)
theorem Inv.pins_of {pins' : List (Addr × Obj)} (I : Inv X pins σ H s) (h : ∀ p ∈ pins', s.heap.get? p.1 = some p.2 ∧ H p.1 = none ∧ p.1 ≠ X.env.locals ∧ p.1 ∉ X.fs ∧ ∀ v, p.2.data ≠ .cell v) : Inv X pins' σ H s :=
  ⟨I.ok, I.os, I.bare, I.base, I.loc, I.cell, I.free, I.freeC, fun p hp => (List.mem_append.mp hp).elim (fun z => I.pin p (List.mem_append_left _ z)) (h p), I.hok, I.len⟩
theorem nodup_ix {N : List Str} (hN : N.Nodup) {i j : Nat} {x : Str} (a : N[i]? = some x) (b : N[j]? = some x) : i = j := by
  obtain ⟨h1, e1⟩ := List.getElem?_eq_some_iff.mp a
  obtain ⟨h2, e2⟩ := List.getElem?_eq_some_iff.mp b
  exact (List.getElem_inj hN).mp (e1.trans e2.symm)
theorem store_ok2 {M : Model} {A : Around} {E : Value → Shared → Prop} {i : Nat} {x : Str} {v : V} {u : Value} {Q : Unit → Shared → Prop} (I : Inv X pins σ H s) (hN : X.N.Nodup) (hi : X.N[i]? = some x) (hx : Loc X.env.scope x) (r : RelV v u)
    (h : ∀ s', Inv X pins (σ.set i (some v)) H s' → (∃ a, Heap.SameBut a s.heap s'.heap ∧ (a = X.env.locals ∨ X.env.cells.lookup x = some a)) → Q () s') (hf : X.fn x = true ∨ X.env.scope.names.lookup x = some .local := by first | exact .inl rfl | exact .inr rfl | assumption) : wpAny M A (storeName X.env x u) Q E s := by
  obtain ⟨m, hn, hl⟩ := id I.loc
  have hcls : (X.env.scope.kind == .class || (X.env.scope.kind == .module && X.env.locals != X.env.globals)) = false := by rw [I.ok.kind]; rfl
  have hiσ : i < σ.length := by rw [I.len]; exact (List.getElem?_eq_some_iff.mp hi).1
  have cne := I.cne
  have tracked : ∀ {a : Addr} {h' : Heap}, (∃ o, s.heap.get? a = some o ∧ H a = none) → Heap.SameBut a s.heap h' → HOk X.prog X.w H h' := fun {a h'} ha hs b ob e => by
    obtain ⟨_, _, hfree⟩ := ha
    refine (I.hok b ob e).stay (fun c w' hc q => (hs.2 c ?_).trans q) (fun _ q => q) fun _ _ q => q
    rintro rfl
    rcases hc with rfl | hc
    · rw [hfree] at e; cases e
    · rw [hfree] at hc; cases hc
  rcases hx with hk | hk
  · refine wpAny_storeName_local hk hn (fun h' hn' hs => ?_) hcls
    obtain ⟨oL, _, _, hoL, _⟩ := id hn
    refine h _ ⟨I.ok, I.os, I.bare, ⟨fun b o e n hb hx => ?_, fun b o e n hb hx => ?_, I.base.free, fun b o e hx => ?_, I.base.tups, I.base.frzs, I.base.tbls⟩, ⟨_, hn', fun j y v' e1 e2 e3 => ?_⟩, fun y c e => ?_, I.free, I.freeC, fun p hp => ?_, tracked ⟨oL, hoL, I.free⟩ hs, by simpa using I.len⟩ ⟨_, hs, .inl rfl⟩
    · exact (hs.2 b (Nat.ne_of_lt (Nat.lt_of_lt_of_le (Heap.lt_size e) I.ok.above))).trans (I.base.keep b o e n hb hx)
    · obtain ⟨sl, e1⟩ := I.base.slot b o e n hb hx
      exact ⟨sl, (hs.2 b (Nat.ne_of_lt (Nat.lt_of_lt_of_le (Heap.lt_size e) I.ok.above))).trans e1⟩
    · obtain ⟨o', e1⟩ := I.base.there b o e hx
      exact ⟨o', (hs.2 b (Nat.ne_of_lt (Nat.lt_of_lt_of_le (Heap.lt_size e) I.ok.above))).trans e1⟩
    · by_cases hj : j = i
      · subst hj
        rw [hi] at e1; cases e1
        rw [List.getElem?_set_self hiσ] at e2
        cases e2
        exact ⟨u, r, .inl ⟨hk, by simp⟩⟩
      · rw [List.getElem?_set_ne (Ne.symm hj)] at e2
        obtain ⟨u', r', q⟩ := hl j y v' e1 e2 e3
        refine ⟨u', r', ?_⟩
        rcases q with ⟨k, e⟩ | ⟨k, c, e, z⟩
        · refine .inl ⟨k, ?_⟩
          have : y ≠ x := fun e => hj (nodup_ix hN e1 (e ▸ hi))
          simp [this, e]
        · exact .inr ⟨k, c, e, z.sameBut hs (cne y c e)⟩
    · obtain ⟨w', z⟩ := I.cell y c e
      exact ⟨w', z.sameBut hs (cne y c e)⟩
    · obtain ⟨e, n, ne, nf, d⟩ := I.pin p hp
      exact ⟨(hs.2 p.1 ne).trans e, n, ne, nf, d⟩
  · have hfn : X.fn x = true := by
      rcases hf with z | z
      · exact z
      · rw [z] at hk; cases hk
    obtain ⟨c, hc⟩ := I.ok.has x (.inl hk)
    obtain ⟨w', z⟩ := I.cell x c hc
    refine wpAny_storeName_cell I.ok.kind hk hc z (fun h' hc' hs => ?_)
    obtain ⟨oc, hoc, hocd⟩ := id z
    refine h { s with heap := h' } ⟨I.ok, I.os, I.bare, ⟨fun b o e n hb hx => ?_, fun b o e n hb hx => ?_, I.base.free, fun b o e hx => ?_, I.base.tups, I.base.frzs, I.base.tbls⟩, ⟨m, hn.sameBut hs (Ne.symm (cne x c hc)), fun j y v' e1 e2 e3 => ?_⟩, fun y c' e => ?_, I.free, I.freeC, fun p hp => ?_, tracked ⟨oc, hoc, I.freeC x c hc⟩ hs, by simpa using I.len⟩ ⟨c, hs, .inr hc⟩
    · exact (hs.2 b (Nat.ne_of_lt (Nat.lt_of_lt_of_le (Heap.lt_size e) (I.ok.cab x c hfn hc)))).trans (I.base.keep b o e n hb hx)
    · obtain ⟨sl, e1⟩ := I.base.slot b o e n hb hx
      exact ⟨sl, (hs.2 b (Nat.ne_of_lt (Nat.lt_of_lt_of_le (Heap.lt_size e) (I.ok.cab x c hfn hc)))).trans e1⟩
    · obtain ⟨o', e1⟩ := I.base.there b o e hx
      exact ⟨o', (hs.2 b (Nat.ne_of_lt (Nat.lt_of_lt_of_le (Heap.lt_size e) (I.ok.cab x c hfn hc)))).trans e1⟩
    · by_cases hj : j = i
      · subst hj
        rw [hi] at e1; cases e1
        rw [List.getElem?_set_self hiσ] at e2
        cases e2
        exact ⟨u, r, .inr ⟨.inl hk, c, hc, hc'⟩⟩
      · rw [List.getElem?_set_ne (Ne.symm hj)] at e2
        obtain ⟨u', r', q⟩ := hl j y v' e1 e2 e3
        refine ⟨u', r', ?_⟩
        rcases q with q | ⟨k, c', e, z'⟩
        · exact .inl q
        · refine .inr ⟨k, c', e, z'.sameBut hs ?_⟩
          rintro rfl
          exact hj (nodup_ix hN e1 (I.ok.inj _ _ _ e hc ▸ hi))
    · by_cases hcc : c' = c
      · subst hcc; exact ⟨_, hc'⟩
      · obtain ⟨w2, z2⟩ := I.cell y c' e
        exact ⟨w2, z2.sameBut hs hcc⟩
    · obtain ⟨e, n, ne, nf, d⟩ := I.pin p hp
      refine ⟨(hs.2 p.1 ?_).trans e, n, ne, nf, d⟩
      intro q
      rw [q, hoc] at e
      have q' : oc = p.2 := Option.some.inj e
      exact d w' (by rw [← q']; exact hocd)
theorem store_ok {M : Model} {A : Around} {E : Value → Shared → Prop} {i : Nat} {x : Str} {v : V} {u : Value} {Q : Unit → Shared → Prop} (I : Inv X pins σ H s) (hN : X.N.Nodup) (hi : X.N[i]? = some x) (hx : Loc X.env.scope x) (r : RelV v u)
    (h : ∀ s', Inv X pins (σ.set i (some v)) H s' → Q () s') (hf : X.fn x = true ∨ X.env.scope.names.lookup x = some .local := by first | exact .inl rfl | exact .inr rfl | assumption) : wpAny M A (storeName X.env x u) Q E s :=
  store_ok2 I hN hi hx r (fun s' I' _ => h s' I') hf
theorem Inv.call' {s' : Shared} {ch : List Addr} (I : Inv X pins σ H s) (ho : s'.os = s.os) (u : Un (frs X.stack) ch H H' s.heap s'.heap) (hok : HOk X.prog X.w H' s'.heap) (hg : AllBare s'.gens)
    (hch : ∀ b ∈ ch, (b ∈ X.ex ∨ X.s₀.heap.objs.size ≤ b) ∧ b ≠ X.env.locals ∧ (∀ x c, X.env.cells.lookup x = some c → c ≠ b) ∧ ∀ p ∈ X.pn ++ pins, p.1 ≠ b) : Inv X pins σ H' s' := by
  obtain ⟨h', g', d', t', o'⟩ := s'
  have e : o' = s.os := ho
  subst e
  exact I.call (g' := g') (t' := t') (d' := d') u hok hg hch
end
abbrev XK := Value → Option Addr → Hp → Prop
abbrev St := List (Option V)
abbrev VK := V → Hp → Prop
abbrev TE := St → Hp → VK → Prop
abbrev TT := St → Hp → (Bool → Hp → Prop) → Prop
abbrev TA := St → Hp → (List V → Hp → Prop) → Prop
structure Ends where
  nx : St → Hp → Prop
  rt : VK
  bk : St → Hp → Prop := fun _ _ => False
  ct : St → Hp → Prop := fun _ _ => False
abbrev TS := Ends → St → Hp → Prop
def EP (X : Cx) (pins : List (Addr × Obj)) (σ : St) (Q : VK) (u : Value) (s' : Shared) : Prop := ∃ v H', Inv X pins σ H' s' ∧ RelV v u ∧ Q v H'
def TP (X : Cx) (pins : List (Addr × Obj)) (σ : St) (Q : Bool → Hp → Prop) (b : Bool) (s' : Shared) : Prop := ∃ H', Inv X pins σ H' s' ∧ Q b H'
def AP (X : Cx) (pins : List (Addr × Obj)) (σ : St) (Q : List V → Hp → Prop) (us : List Value) (s' : Shared) : Prop := ∃ vs H', Inv X pins σ H' s' ∧ Vals vs us ∧ Q vs H'
def SP (X : Cx) (pins : List (Addr × Obj)) (D : Ends) (f : Flow) (s' : Shared) : Prop :=
  match f with
  | .next => ∃ σ' H', Inv X pins σ' H' s' ∧ D.nx σ' H'
  | .brk => ∃ σ' H', Inv X pins σ' H' s' ∧ D.bk σ' H'
  | .cont => ∃ σ' H', Inv X pins σ' H' s' ∧ D.ct σ' H'
  | .ret u => ∃ v σ' H', Inv X pins σ' H' s' ∧ RelV v u ∧ D.rt v H'
def PE (X : Cx) (e : Expr) (t : TE) : Prop :=
  ∀ (pins : List (Addr × Obj)) (s : Shared) (σ : St) (H : Hp) (Q : VK), Inv X pins σ H s → t σ H Q → wpAny (model X.prog X.w) X.A (eval e X.env) (EP X pins σ Q) X.xe s
def PT (X : Cx) (e : Expr) (t : TT) : Prop :=
  ∀ (pins : List (Addr × Obj)) (s : Shared) (σ : St) (H : Hp) (Q : Bool → Hp → Prop), Inv X pins σ H s → t σ H Q → wpAny (model X.prog X.w) X.A (isTrue e X.env (eval e X.env)) (TP X pins σ Q) X.xe s
def PW (X : Cx) (e : Expr) (t : TT) : Prop :=
  ∀ (whole : Sem Value) (pins : List (Addr × Obj)) (s : Shared) (σ : St) (H : Hp) (Q : Bool → Hp → Prop), Inv X pins σ H s → t σ H Q → wpAny (model X.prog X.w) X.A (isTrue e X.env whole) (TP X pins σ Q) X.xe s
theorem PW.pt {X : Cx} {e : Expr} {t : TT} (h : PW X e t) : PT X e t := h _
def PA (X : Cx) (es : List Expr) (t : TA) : Prop :=
  ∀ (pos : Pos) (pins : List (Addr × Obj)) (s : Shared) (σ : St) (H : Hp) (Q : List V → Hp → Prop), Inv X pins σ H s → t σ H Q → wpAny (model X.prog X.w) X.A (spliced (backTo pos (starEach es X.env))) (AP X pins σ Q) X.xe s
def PS (X : Cx) (st : Stmt) (t : TS) : Prop :=
  ∀ (pins : List (Addr × Obj)) (s : Shared) (σ : St) (H : Hp) (D : Ends), Inv X pins σ H s → t D σ H → wpAny (model X.prog X.w) X.A (exec st X.env) (SP X pins D) X.xe s
def PSs (X : Cx) (st : List Stmt) (t : TS) : Prop :=
  ∀ (pins : List (Addr × Obj)) (s : Shared) (σ : St) (H : Hp) (D : Ends), Inv X pins σ H s → t D σ H → wpAny (model X.prog X.w) X.A (execs st X.env) (SP X pins D) X.xe s
theorem thn {α : Type} {t : Sem α} {Q Q' : α → Shared → Prop} {M : Model} {A : Around} {E : Value → Shared → Prop} {s : Shared} (h : wpAny M A t Q E s) (hQ : ∀ a s, Q a s → Q' a s) : wpAny M A t Q' E s := wpAny_mono h hQ fun _ _ x => x
section
variable {X : Cx}
def tVar (i : Nat) : TE := fun σ H Q => ∃ v, σ[i]? = some (some v) ∧ Q v H
def tC (v : V) : TE := fun _ H Q => Q v H
theorem pe_var {i : Nat} {x : Str} {pos : Pos} (hN : X.N[i]? = some x) (hv : Vis X.env.scope x) (hd : (x == ("__debug__" : Str)) = false := by decide) (hcd : (x == ("__classdict__" : Str)) = false := by decide) : PE X (.Name x pos) (tVar i) := by
  intro pins s σ H Q I h
  obtain ⟨v, e, h⟩ := h
  obtain ⟨m, hn, hl⟩ := I.loc
  obtain ⟨u, r, l⟩ := hl i x v hN e hv
  have fin : EP X pins σ Q u s := ⟨v, H, I, r, h⟩
  rcases l with ⟨hk, hm⟩ | ⟨hk, c, hc, hcell⟩
  · exact wpAny_Name (wpAny_loadName_local I.ok.kind hk hn hm fin) hd
  · rcases hk with hk | hk
    · exact wpAny_Name (wpAny_loadName_cell I.ok.kind hk hc hcell fin) hd
    · exact wpAny_Name (wpAny_loadName_free I.ok.kind hk hc hcell fin hcd) hd
theorem pe_int {i j pos} : PE X (.Constant (.int i) j pos) (tC (.int i)) := fun _ _ _ H _ I h => wpAny_Constant_int ⟨.int i, H, I.tok _, ⟨_, rfl⟩, h⟩
theorem pe_bl {b j pos} : PE X (.Constant (.bool b) j pos) (tC (.bl b)) := fun _ _ _ H _ I h => Constant_bool ⟨.bl b, H, I, rfl, h⟩
theorem pe_non {j pos} : PE X (.Constant .none j pos) (tC .non) := fun _ _ _ H _ I h => Constant_none ⟨.non, H, I, rfl, h⟩
theorem pe_str {x j pos} : PE X (.Constant (.str x) j pos) (tC (.str x)) := fun _ _ _ H _ I h => Calls.Constant_str ⟨.str x, H, I.tok _, ⟨_, rfl⟩, h⟩
def Gl (X : Cx) (x : Str) : Prop := X.env.kindOf x = some .globalImplicit
theorem ld_glob {E : Value → Shared → Prop} {pins : List (Addr × Obj)} {s : Shared} {σ : St} {H : Hp} {x : Str} {u : Value} {pos : Pos} {Q : Value → Shared → Prop} (I : Inv X pins σ H s) (hg : Gl X x) (hm : X.mg x = some u) (h : Q u s)
    (hd : (x == ("__debug__" : Str)) = false := by decide) : wpAny (model X.prog X.w) X.A (eval (.Name x pos) X.env) Q E s :=
  Calls.Name_function_global I.ok.kind hg (Calls.loadGlobal_global (by rw [I.ok.glob]; exact I.mod.glob.keeps I.bk) hm h) hd
theorem ld_blt {E : Value → Shared → Prop} {pins : List (Addr × Obj)} {s : Shared} {σ : St} {H : Hp} {x : Str} {u : Value} {pos : Pos} {Q : Value → Shared → Prop} (I : Inv X pins σ H s) (hg : Gl X x) (hm : X.mg x = none) (hv : bootBuiltins x = some u) (h : Q u s)
    (hn : x ≠ "__name__" := by decide) (hd : (x == ("__debug__" : Str)) = false := by decide) : wpAny (model X.prog X.w) X.A (eval (.Name x pos) X.env) Q E s := by
  obtain ⟨mb, h1, h2⟩ := I.mod.blt
  exact Calls.Name_function_global I.ok.kind hg (Calls.loadGlobal_builtin (by rw [I.ok.glob]; exact I.mod.glob.keeps I.bk) hm (by rw [I.ok.blt]; exact h1.keeps I.bk) ((h2 x hn).trans hv) h) hd
theorem pe_glob {x : Str} {v : V} {u : Value} {pos : Pos} (hg : Gl X x) (hm : X.mg x = some u) (r : RelV v u) (hd : (x == ("__debug__" : Str)) = false := by decide) : PE X (.Name x pos) (tC v) :=
  fun _ _ _ H _ I h => ld_glob I hg hm ⟨v, H, I, r, h⟩ hd
theorem pe_bltn {x : Str} {v : V} {u : Value} {pos : Pos} (hg : Gl X x) (hm : X.mg x = none) (hv : bootBuiltins x = some u) (r : RelV v u) (hn : x ≠ "__name__" := by decide) (hd : (x == ("__debug__" : Str)) = false := by decide) : PE X (.Name x pos) (tC v) :=
  fun _ _ _ H _ I h => ld_blt I hg hm hv ⟨v, H, I, r, h⟩ hn hd
variable {a b : Expr} {ta tb : TE} {pos : Pos}
variable {tA tB' : TT} {rest : List Expr}
def tAnd (t u : TT) : TT := fun σ H Q => t σ H fun c H1 => if c = true then u σ H1 Q else Q false H1
def tOr (t u : TT) : TT := fun σ H Q => t σ H fun c H1 => if c = true then Q true H1 else u σ H1 Q
def tNot (t : TT) : TT := fun σ H Q => t σ H fun c H1 => Q (!c) H1
theorem pw_and1 (ha : PT X a tA) : PW X (.BoolOp .And [a] pos) tA := by
  intro wh pins s σ H Q I h
  refine isTrue_and (thn (ha pins s σ H Q I h) fun c s1 e => ?_)
  cases c with
  | true => exact isTrue_and_nil e
  | false => exact e
theorem pw_or1 (ha : PT X a tA) : PW X (.BoolOp .Or [a] pos) tA := by
  intro wh pins s σ H Q I h
  refine isTrue_or (thn (ha pins s σ H Q I h) fun c s1 e => ?_)
  cases c with
  | false => exact isTrue_or_nil e
  | true => exact e
theorem pw_and (ha : PT X a tA) (hb : PW X (.BoolOp .And (b :: rest) pos) tB') : PW X (.BoolOp .And (a :: b :: rest) pos) (tAnd tA tB') := by
  intro wh pins s σ H Q I h
  refine isTrue_and (thn (ha pins s σ H _ I h) fun c s1 ⟨H1, I1, q1⟩ => ?_)
  cases c with
  | true => exact hb wh pins s1 σ H1 Q I1 q1
  | false => exact ⟨H1, I1, q1⟩
theorem pw_or (ha : PT X a tA) (hb : PW X (.BoolOp .Or (b :: rest) pos) tB') : PW X (.BoolOp .Or (a :: b :: rest) pos) (tOr tA tB') := by
  intro wh pins s σ H Q I h
  refine isTrue_or (thn (ha pins s σ H _ I h) fun c s1 ⟨H1, I1, q1⟩ => ?_)
  cases c with
  | true => exact ⟨H1, I1, q1⟩
  | false => exact hb wh pins s1 σ H1 Q I1 q1
theorem pt_not (ha : PT X a tA) : PT X (.UnaryOp .Not a pos) (tNot tA) := by
  intro pins s σ H Q I h
  exact isTrue_not (ha pins s σ H (fun c H1 => Q (!c) H1) I h)
def tAndV (ta tb : TE) : TE := fun σ H Q => ta σ H fun x H1 => ∃ c, x = .bl c ∧ if c = true then tb σ H1 Q else Q (.bl false) H1
def tOrV (ta tb : TE) : TE := fun σ H Q => ta σ H fun x H1 => ∃ c, x = .bl c ∧ if c = true then Q (.bl true) H1 else tb σ H1 Q
def tNotV (ta : TE) : TE := fun σ H Q => ta σ H fun x H1 => ∃ c, x = .bl c ∧ Q (.bl (!c)) H1
theorem pe_one {op} {t : TE} (h : PE X a t) : PE X (.BoolOp op [a] pos) t := fun pins s σ H Q I hw => BoolOp_one (h pins s σ H Q I hw)
theorem pe_and (ha : PE X a ta) (hb : PE X (.BoolOp .And (b :: rest) pos) tb) : PE X (.BoolOp .And (a :: b :: rest) pos) (tAndV ta tb) := by
  intro pins s σ H Q I h
  refine BoolOp_and (thn (ha pins s σ H _ I h) fun v s1 ⟨x, H1, I1, r1, q1⟩ => ?_)
  obtain ⟨c, rfl, q1⟩ := q1
  cases r1
  refine wpAny_truthy_bool ?_
  cases c with
  | true => exact hb pins s1 σ H1 Q I1 q1
  | false => exact ⟨.bl false, H1, I1, rfl, q1⟩
theorem pe_or (ha : PE X a ta) (hb : PE X (.BoolOp .Or (b :: rest) pos) tb) : PE X (.BoolOp .Or (a :: b :: rest) pos) (tOrV ta tb) := by
  intro pins s σ H Q I h
  refine BoolOp_or (thn (ha pins s σ H _ I h) fun v s1 ⟨x, H1, I1, r1, q1⟩ => ?_)
  obtain ⟨c, rfl, q1⟩ := q1
  cases r1
  refine wpAny_truthy_bool ?_
  cases c with
  | false => exact hb pins s1 σ H1 Q I1 q1
  | true => exact ⟨.bl true, H1, I1, rfl, q1⟩
theorem pe_not (ha : PE X a ta) : PE X (.UnaryOp .Not a pos) (tNotV ta) := by
  intro pins s σ H Q I h
  refine UnaryOp_ (thn (ha pins s σ H _ I h) fun v s1 ⟨x, H1, I1, r1, q1⟩ => ?_)
  obtain ⟨c, rfl, q1⟩ := q1
  cases r1
  exact not_of (wpAny_truthy_bool ⟨.bl (!c), H1, I1, rfl, q1⟩)
def tIf (t : TT) (ta tb : TE) : TE := fun σ H Q => t σ H fun c H1 => if c = true then ta σ H1 Q else tb σ H1 Q
theorem pe_ifExp {c : Expr} (hc : PT X c tA) (ha : PE X a ta) (hb : PE X b tb) : PE X (.IfExp c a b pos) (tIf tA ta tb) := by
  intro pins s σ H Q I h
  refine wpAny_IfExp (thn (hc pins s σ H _ I h) fun d s1 ⟨H1, I1, q1⟩ => ?_)
  cases d with
  | true => exact ha pins s1 σ H1 Q I1 q1
  | false => exact hb pins s1 σ H1 Q I1 q1
end
def SqL (K : PySem.W.Frag) (H : Hp) (a : Addr) (xs : List V) : Prop :=
  Rd H a (.lst xs) ∨
    ∃ (o : Obj) (its : Array Value) (n : Nat), K.lookup a = some o ∧ o.cls = .type "list" ∧ o.dict = none ∧ o.data = .seq its n ∧ its.size ≤ sizeLine ∧ Vals xs its.toList
def SqT (K : PySem.W.Frag) (H : Hp) (a : Addr) (xs : List V) : Prop :=
  Rd H a (.tup xs) ∨
    ∃ (o : Obj) (its : Array Value) (n : Nat), K.lookup a = some o ∧ o.cls = .type "tuple" ∧ o.data = .seq its n ∧ its.size ≤ sizeLine ∧ Vals xs its.toList
def absV : Value → Option V
  | .none => some .non
  | .bool b => some (.bl b)
  | .int i _ => some (.int i)
  | .str x _ => some (.str x)
  | .bytes b _ => some (.byt b)
  | .float b _ => some (.flt b)
  | .ref a => some (.ref a)
  | .type n => some (.ty n)
  | _ => none
theorem RelV.abs {x : V} {u : Value} (r : RelV x u) : absV u = some x := by
  cases x with
  | non => cases r; rfl
  | bl _ => cases r; rfl
  | int _ => obtain ⟨t, rfl⟩ := r; rfl
  | str _ => obtain ⟨t, rfl⟩ := r; rfl
  | byt _ => obtain ⟨t, rfl⟩ := r; rfl
  | flt _ => obtain ⟨t, rfl⟩ := r; rfl
  | ref _ => cases r; rfl
  | ty _ => cases r; rfl
theorem RelV.inj {x y : V} {u : Value} (r : RelV x u) (q : RelV y u) : x = y := Option.some.inj (r.abs.symm.trans q.abs)
theorem Vals.inj : ∀ {xs ys : List V} {us : List Value}, Vals xs us → Vals ys us → xs = ys
  | _, _, _, .nil, .nil => rfl
  | _, _, _, .cons r t, .cons r' t' => by rw [r.inj r', Vals.inj t t']
section
variable {X : Cx} {pins : List (Addr × Obj)} {σ : St} {H : Hp} {s : Shared} {a : Addr} {xs ys : List V}
theorem SqL.of {K : PySem.W.Frag} (h : H a = some (.lst xs)) : SqL K H a xs := .inl (.inl h)
theorem SqT.of {K : PySem.W.Frag} (h : H a = some (.tup xs)) : SqT K H a xs := .inl (.inl h)
theorem Inv.list (I : Inv X pins σ H s) (h : SqL X.K H a xs) : ∃ its : List Value, Vals xs its ∧ PlainL s.heap a its.toArray ∧ xs.length ≤ sizeLine := by
  rcases h with h | ⟨o, its, n, hk, hc, hd, hs, hz, r⟩
  · obtain ⟨z, its, n, r, e⟩ := h.ok I.hok
    exact ⟨its, r, ⟨_, n, e, rfl, rfl, rfl⟩, z⟩
  · refine ⟨its.toList, r, ⟨o, n, I.kIn a o hk, hc, hd, by simpa using hs⟩, ?_⟩
    have e := r.length
    simp only [Array.length_toList] at e
    omega
theorem Inv.tuple (I : Inv X pins σ H s) (h : SqT X.K H a xs) : ∃ its : List Value, Vals xs its ∧ IsTup s.heap a its.toArray ∧ xs.length ≤ sizeLine := by
  rcases h with h | ⟨o, its, n, hk, hc, hs, hz, r⟩
  · obtain ⟨z, its, r, p⟩ := h.ok I.hok
    exact ⟨its, r, p.1, z⟩
  · refine ⟨its.toList, r, ⟨o, I.kIn a o hk, hc, n, by simpa using hs⟩, ?_⟩
    have e := r.length
    simp only [Array.length_toList] at e
    omega
theorem Inv.list_inj (I : Inv X pins σ H s) (h : SqL X.K H a xs) (h' : SqL X.K H a ys) : xs = ys := by
  obtain ⟨its, r, ⟨o, n, e, _, _, d⟩, _⟩ := I.list h
  obtain ⟨its', r', ⟨o', n', e', _, _, d'⟩, _⟩ := I.list h'
  rw [e] at e'; cases e'
  rw [d] at d'
  injection d' with d1 _
  have : its = its' := by simpa using congrArg Array.toList d1
  subst this
  exact r.inj r'
theorem Inv.tuple_inj (I : Inv X pins σ H s) (h : SqT X.K H a xs) (h' : SqT X.K H a ys) : xs = ys := by
  obtain ⟨its, r, ⟨o, e, _, n, d⟩, _⟩ := I.tuple h
  obtain ⟨its', r', ⟨o', e', _, n', d'⟩, _⟩ := I.tuple h'
  rw [e] at e'; cases e'
  rw [d] at d'
  injection d' with d1 _
  have : its = its' := by simpa using congrArg Array.toList d1
  subst this
  exact r.inj r'
end
abbrev Cx.wish (X : Cx) (E : Value → Shared → Prop) : Cx := { X with xe := E }
abbrev Cx.nox (X : Cx) : Cx := X.wish fun _ _ => False
theorem Cx.Ok.wish {X : Cx} (ok : X.Ok) (E : Value → Shared → Prop) : (X.wish E).Ok :=
  ⟨ok.mod, ok.kind, ok.glob, ok.blt, ok.above, ok.inj, ok.has, ok.cab, ok.hd, ok.frames, ok.stk, ok.exf, ok.bs, ok.bsz, ok.noex, ok.exfs, ok.funs, ok.frf⟩
theorem Cx.Ok.unwish {X : Cx} {E : Value → Shared → Prop} (ok : (X.wish E).Ok) : X.Ok :=
  ⟨ok.mod, ok.kind, ok.glob, ok.blt, ok.above, ok.inj, ok.has, ok.cab, ok.hd, ok.frames, ok.stk, ok.exf, ok.bs, ok.bsz, ok.noex, ok.exfs, ok.funs, ok.frf⟩
section
variable {X : Cx} {pins : List (Addr × Obj)} {σ : St} {H : Hp} {s : Shared} {E : Value → Shared → Prop}
theorem Inv.wish (I : Inv X pins σ H s) (E : Value → Shared → Prop) : Inv (X.wish E) pins σ H s := ⟨I.ok.wish E, I.os, I.bare, I.base, I.loc, I.cell, I.free, I.freeC, I.pin, I.hok, I.len⟩
theorem Inv.unwish (I : Inv (X.wish E) pins σ H s) : Inv X pins σ H s := ⟨I.ok.unwish, I.os, I.bare, I.base, I.loc, I.cell, I.free, I.freeC, I.pin, I.hok, I.len⟩
theorem SP.unwish {D : Ends} {f : Flow} {s' : Shared} (h : SP (X.wish E) pins D f s') : SP X pins D f s' := by
  cases f with
  | next => obtain ⟨σ', H', I, q⟩ := h; exact ⟨σ', H', I.unwish, q⟩
  | brk => obtain ⟨σ', H', I, q⟩ := h; exact ⟨σ', H', I.unwish, q⟩
  | cont => obtain ⟨σ', H', I, q⟩ := h; exact ⟨σ', H', I.unwish, q⟩
  | ret u => obtain ⟨v, σ', H', I, r, q⟩ := h; exact ⟨v, σ', H', I.unwish, r, q⟩
theorem PSs.nox {st : List Stmt} {t : TS} (h : PSs X.nox st t) : PSs X st t := fun pins s σ H D I hw =>
  wpAny_mono (h pins s σ H D (I.wish _) hw) (fun _ _ q => q.unwish) fun _ _ z => False.elim z
end
section
variable {X : Cx} {st : Stmt} {rest : List Stmt} {t u : TS} {e : Expr} {te : TE} {pos : Pos}
def tNext : TS := fun D σ H => D.nx σ H
def tSeq (t u : TS) : TS := fun D σ H => t { D with nx := u D } σ H
theorem pss_nil : PSs X [] tNext := fun _ _ σ H _ I h => wpAny_execs_nil ⟨σ, H, I, h⟩
theorem pss_cons (h1 : PS X st t) (h2 : PSs X rest u) : PSs X (st :: rest) (tSeq t u) := by
  intro pins s σ H D I h
  refine wpAny_execs_cons (thn (h1 pins s σ H { D with nx := u D } I h) fun f s1 q => ?_)
  cases f with
  | next =>
    obtain ⟨σ', H', I', q⟩ := q
    exact h2 pins s1 σ' H' D I' q
  | ret v => exact q
  | brk => exact q
  | cont => exact q
theorem pss_one (h1 : PS X st t) : PSs X [st] t := by
  intro pins s σ H D I h
  refine wpAny_execs_cons (thn (h1 pins s σ H D I h) fun f s1 q => ?_)
  cases f with
  | next => exact wpAny_execs_nil q
  | ret v => exact q
  | brk => exact q
  | cont => exact q
theorem Inv.quiet {pins : List (Addr × Obj)} {σ : St} {H : Hp} {s : Shared} (I : Inv X pins σ H s) : interactive X.env = false := by simp [interactive, I.ok.kind]
def tDrop (te : TE) : TS := fun D σ H => te σ H fun _ H1 => D.nx σ H1
theorem ps_expr (he : PE X e te) (hs : swapsWith e none pos.line X.env = pure false := by rfl) : PS X (.Expr e pos) (tDrop te) := by
  intro pins s σ H D I h
  exact wpAny_Expr_any (thn (he pins s σ H _ I h) fun v s1 ⟨x, H1, I1, r1, q1⟩ => ⟨σ, H1, I1, q1⟩) I.quiet hs
def tRet (te : TE) : TS := fun D σ H => te σ H D.rt
theorem ps_ret (he : PE X e te) : PS X (.Return (some e) pos) (tRet te) := by
  intro pins s σ H D I h
  exact wpAny_Return_some (thn (he pins s σ H _ I h) fun v s1 ⟨x, H1, I1, r1, q1⟩ => ⟨x, σ, H1, I1, r1, q1⟩)
def tIfS (c : TT) (t u : TS) : TS := fun D σ H => c σ H fun b H1 => if b = true then t D σ H1 else u D σ H1
theorem ps_if {c : Expr} {a b : List Stmt} {tc : TT} (hc : PT X c tc) (ha : PSs X a t) (hb : PSs X b u) : PS X (.If c a b pos) (tIfS tc t u) := by
  intro pins s σ H D I h
  refine wpAny_If (thn (hc pins s σ H _ I h) fun d s1 ⟨H1, I1, q1⟩ => ?_)
  cases d with
  | true => exact ha pins s1 σ H1 D I1 q1
  | false => exact hb pins s1 σ H1 D I1 q1
def tNever : TS := fun _ _ _ => False
theorem ps_never : PS X st tNever := fun _ _ _ _ _ _ h => h.elim
end
abbrev TG := V → St → Hp → (St → Hp → Prop) → Prop
abbrev TGs := List V → St → Hp → (St → Hp → Prop) → Prop
def PG (X : Cx) (target : Expr) (t : TG) : Prop :=
  ∀ (pins : List (Addr × Obj)) (s : Shared) (σ : St) (H : Hp) (v : V) (u : Value) (Q : St → Hp → Prop), Inv X pins σ H s → RelV v u → t v σ H Q →
    wpAny (model X.prog X.w) X.A (assign target X.env u) (fun _ s' => ∃ σ' H', Inv X pins σ' H' s' ∧ Q σ' H') X.xe s
def PGs (X : Cx) (ts : List Expr) (t : TGs) : Prop :=
  ∀ (pins : List (Addr × Obj)) (s : Shared) (σ : St) (H : Hp) (vs : List V) (us : List Value) (Q : St → Hp → Prop), Inv X pins σ H s → Vals vs us → t vs σ H Q →
    wpAny (model X.prog X.w) X.A (assignInOrder ((assignEach ts X.env).map (·.2)) us) (fun _ s' => ∃ σ' H', Inv X pins σ' H' s' ∧ Q σ' H') X.xe s
section
variable {X : Cx} {pos : Pos}
def gName (i : Nat) : TG := fun v σ H Q => Q (σ.set i (some v)) H
theorem pg_name {i : Nat} {x : Str} (hN : X.N.Nodup) (hi : X.N[i]? = some x) (hx : Loc X.env.scope x) (hf : X.fn x = true ∨ X.env.scope.names.lookup x = some .local := by first | exact .inl rfl | exact .inr rfl | assumption) : PG X (.Name x pos) (gName i) := by
  intro pins s σ H v u Q I r h
  exact wpAny_assign_Name (store_ok I hN hi hx r (fun s' I' => ⟨_, H, I', h⟩) hf)
def gNil : TGs := fun vs σ H Q => vs = [] ∧ Q σ H
def gCons (t : TG) (u : TGs) : TGs := fun vs σ H Q => ∃ v r, vs = v :: r ∧ t v σ H fun σ' H' => u r σ' H' Q
theorem pgs_nil : PGs X [] gNil := by
  intro pins s σ H vs us Q I r h
  obtain ⟨e, h⟩ := h
  subst e
  cases r
  exact assignInOrder_nil ⟨σ, H, I, h⟩
theorem pgs_cons {e : Expr} {es : List Expr} {t : TG} {u : TGs} (h1 : PG X e t) (h2 : PGs X es u)
    (hs : (assignEach (e :: es) X.env).map (·.2) = assign e X.env :: (assignEach es X.env).map (·.2) := by rfl) : PGs X (e :: es) (gCons t u) := by
  intro pins s σ H vs us Q I r h
  obtain ⟨v, vr, e1, h⟩ := h
  subst e1
  cases r with
  | cons r rr =>
    rw [hs]
    refine assignInOrder_cons (thn (h1 pins s σ H _ _ _ I r h) fun _ s1 ⟨σ1, H1, I1, q1⟩ => ?_)
    exact h2 pins s1 σ1 H1 _ _ Q I1 rr q1
def gTup (K : PySem.W.Frag) (n : Nat) (t : TGs) : TG := fun v σ H Q => ∃ a xs, v = .ref a ∧ SqT K H a xs ∧ xs.length = n ∧ t xs σ H Q
theorem pg_tup {es : List Expr} {k : Nat} {t : TGs} {n : Nat} (hc : X.calm = true) (h : PGs X es t)
    (hn : (assignEach es X.env).length = n := by rfl) (hst : (assignEach es X.env).findIdx? (·.1) = none := by rfl) : PG X (.Tuple es k pos) (gTup X.K n t) := by
  intro pins s σ H v u Q I r hw
  obtain ⟨a, xs, e1, hq, hl, hw⟩ := hw
  subst e1
  cases r
  obtain ⟨its, rv, ht, hz⟩ := I.tuple hq
  refine assign_Tuple_tuple (I.ok.hd hc) ht (by simp [hn, ← hl, rv.length]) hst fun h' hx => ?_
  have I1 : Inv X pins σ H { s with heap := h' } := I.kept (t' := s.toks) fun b o e => hx b o (Nat.ne_of_lt (Heap.lt_size e)) e
  exact h pins _ σ H xs _ Q I1 (by simpa using rv) hw
def tAsg (te : TE) (g : TG) : TS := fun D σ H => te σ H fun x H1 => g x σ H1 D.nx
theorem ps_asg {tg e : Expr} {te : TE} {g : TG} (he : PE X e te) (hg : PG X tg g) (hs : swapsWithSole [tg] e pos.line X.env = pure false := by rfl) (hw : swappedStores [tg] e X.env = pure none := by rfl)
    (h1 : (assignEach [tg] X.env).map (·.2) = [assign tg X.env] := by rfl) : PS X (.Assign [tg] e pos) (tAsg te g) := by
  intro pins s σ H D I h
  refine wpAny_Assign_stores (thn (he pins s σ H _ I h) fun v s1 ⟨x, H1, I1, r1, q1⟩ => ?_) hs hw
  rw [h1]
  exact thn (hg pins s1 σ H1 x v _ I1 r1 q1) fun _ s2 q => q
theorem ps_set {i : Nat} {x : Str} {e : Expr} {te : TE} {pos' : Pos} (hN : X.N.Nodup) (hi : X.N[i]? = some x) (hx : Loc X.env.scope x) (he : PE X e te) (hs : swapsWith e (some (.Name x pos')) pos.line X.env = pure false := by rfl) (hf : X.fn x = true ∨ X.env.scope.names.lookup x = some .local := by first | exact .inl rfl | exact .inr rfl | assumption) :
    PS X (.Assign [.Name x pos'] e pos) (tAsg te (gName i)) := by
  intro pins s σ H D I h
  refine wpAny_Assign_Name (thn (he pins s σ H _ I h) fun v s1 ⟨y, H1, I1, r1, q1⟩ => ?_) hs
  exact store_ok I1 hN hi hx r1 (fun s2 I2 => ⟨_, H1, I2, q1⟩) hf
end
structure It where
  go : Nat → Hp → Prop
  yld : Nat → Hp → V → Hp → Prop
  stop : Nat → Hp → Prop
def FpOk (X : Cx) (pins : List (Addr × Obj)) (H : Hp) (b : Addr) : Prop :=
  H b = none ∧ b ≠ X.env.locals ∧ b ∉ X.fs ∧ (b ∈ X.ex ∨ X.s₀.heap.objs.size ≤ b) ∧ (∀ x c, X.env.cells.lookup x = some c → c ≠ b) ∧ ∀ p ∈ X.pn ++ pins, p.1 ≠ b
theorem Inv.fpOk {X : Cx} {pins : List (Addr × Obj)} {σ : St} {H H' : Hp} {s : Shared} {b : Addr} (I : Inv X pins σ H s) (hb : s.heap.objs.size ≤ b) (hn : H' b = none) : FpOk X pins H' b := by
  refine ⟨hn, Nat.ne_of_gt (Nat.lt_of_lt_of_le I.lt hb), I.nofs hb, .inr (Nat.le_trans I.sz hb), fun x c e z => ?_, fun p hp z => ?_⟩
  · obtain ⟨v, q⟩ := I.cell x c e
    exact absurd (Nat.lt_of_lt_of_le q.lt (by rw [z]; exact hb)) (Nat.lt_irrefl _)
  · exact absurd (Nat.lt_of_lt_of_le (Heap.lt_size (I.pin p hp).1) (by rw [z]; exact hb)) (Nat.lt_irrefl _)
structure Turn (P : Program) (w : World) (K : PySem.W.Frag) (tg : Expr) (J : It) (fp : List Addr) (it : Addr) (tn : Nat → Heap → Prop) : Prop where
  mem : it ∈ fp
  obj : ∀ i h, tn i h → ∀ b ∈ fp, ∃ o, h.get? b = some o ∧ ∀ v, o.data ≠ .cell v
  keep : ∀ i h h', tn i h → (∀ b ∈ fp, ∀ o, h.get? b = some o → h'.get? b = some o) → tn i h'
  item : ∀ (X : Cx), X.prog = P → X.w = w → X.K = K → X.calm = true → ∀ (i : Nat) (pins : List (Addr × Obj)) (s : Shared) (σ : St) (H : Hp) (E : Value → Shared → Prop), Inv X pins σ H s → (∀ b ∈ fp, FpOk X pins H b) → tn i s.heap → J.go i H →
    wpAny (model P w) X.A (pyNext (.ref it)) (fun r s1 => ∃ u, r = some u ∧
      wpAny (model P w) X.A (letOwnedTupleGo tg (.ref it) u) (fun _ s2 => ∃ x H', Inv X pins σ H' s2 ∧ RelV x u ∧ J.yld i H x H' ∧ tn (i + 1) s2.heap ∧ ∀ b ∈ fp, H' b = none) E s1) E s
  done : ∀ (X : Cx), X.prog = P → X.w = w → X.K = K → X.calm = true → ∀ (i : Nat) (pins : List (Addr × Obj)) (s : Shared) (σ : St) (H : Hp) (E : Value → Shared → Prop), Inv X pins σ H s → (∀ b ∈ fp, FpOk X pins H b) → tn i s.heap → J.stop i H →
    wpAny (model P w) X.A (pyNext (.ref it)) (fun r s1 => r = none ∧ Inv X pins σ H s1) E s
  self : ∀ (A : Around) (i : Nat) (s : Shared) (Q : Value → Shared → Prop) (E : Value → Shared → Prop), tn i s.heap → Q (.ref it) s → wpAny (model P w) A (pyIter (.ref it)) Q E s
abbrev TI := St → Hp → (It → Hp → Prop) → Prop
def PIE (X : Cx) (pins : List (Addr × Obj)) (σ : St) (tg : Expr) (R : It → Hp → Prop) (itv : Value) (s2 : Shared) : Prop :=
  ∃ (it : Addr) (fp : List Addr) (tn : Nat → Heap → Prop) (J : It) (H' : Hp), itv = .ref it ∧ Inv X pins σ H' s2 ∧ Turn X.prog X.w X.K tg J fp it tn ∧ tn 0 s2.heap ∧ (∀ b ∈ fp, FpOk X pins H' b) ∧ R J H'
def PI (X : Cx) (tg iter : Expr) (wi : TI) : Prop :=
  ∀ (pins : List (Addr × Obj)) (s : Shared) (σ : St) (H : Hp) (R : It → Hp → Prop), Inv X pins σ H s → wi σ H R →
    wpAny (model X.prog X.w) X.A (eval iter X.env) (fun v s1 => wpAny (model X.prog X.w) X.A (pyIter v) (PIE X pins σ tg R) X.xe s1) X.xe s
theorem go_of {M : Model} {A : Around} {E : Value → Shared → Prop} {s : Shared} {tg : Expr} {it : Addr} {u : Value} {o : Obj} {n : String} {vs : Array Value} {Q : Unit → Shared → Prop} (ho : s.heap.get? it = some o) (hc : o.cls = .type n) (hd : o.data = .fields vs)
    (hn : ["enumerate", "zip", "dict_itemiterator", "dict_reverseitemiterator", "odict_iterator", "itertools.zip_longest", "itertools.pairwise"].contains n = false) (hQ : Q () s) : wpAny M A (letOwnedTupleGo tg (.ref it) u) Q E s := by
  unfold letOwnedTupleGo
  cases tg <;> first
    | exact wpAny_pure hQ
    | (cases u <;> first
        | exact wpAny_pure hQ
        | (refine wpAny_bind (wpAny_load ho ?_)
           rw [hc, hd]
           show wpAny M A (if (["enumerate", "zip", "dict_itemiterator", "dict_reverseitemiterator", "odict_iterator", "itertools.zip_longest", "itertools.pairwise"].contains n && vs[0]? == some (rawInt _)) = true then _ else _) Q E s
           rw [if_neg (by intro h; rw [hn, Bool.false_and] at h; cases h)]
           exact wpAny_pure hQ))
def Itl (K : PySem.W.Frag) (a : Addr) : It :=
  ⟨fun i H => ∃ xs x, SqL K H a xs ∧ xs[i]? = some x, fun i H x H' => H' = H ∧ ∀ xs, SqL K H a xs → xs[i]? = some x, fun i H => ∃ xs, SqL K H a xs ∧ xs.length ≤ i⟩
def Itt (K : PySem.W.Frag) (a : Addr) : It :=
  ⟨fun i H => ∃ xs x, SqT K H a xs ∧ xs[i]? = some x, fun i H x H' => H' = H ∧ ∀ xs, SqT K H a xs → xs[i]? = some x, fun i H => ∃ xs, SqT K H a xs ∧ xs.length ≤ i⟩
def Itr (lo : Int) (n : Nat) : It := ⟨fun i _ => i < n, fun i H x H' => H' = H ∧ x = .int (lo + i), fun i _ => n ≤ i⟩
theorem turn_list {P : Program} {w : World} {K : PySem.W.Frag} {tg : Expr} (a it : Addr) : Turn P w K tg (Itl K a) [it] it (fun i h => h.IsListIter it a i) where
  mem := by simp
  obj := fun i h st b hb => by
    have e : b = it := by simpa using hb
    subst e
    obtain ⟨o, e, c, d⟩ := st
    exact ⟨o, e, fun v z => by rw [d] at z; cases z⟩
  keep := fun i h h' st k => st.at fun o e => k it (by simp) o e
  item := by
    intro X hP hw hK hc i pins s σ H E I hf st hg
    subst hP hw hK
    obtain ⟨xs, x, hq, hx⟩ := hg
    obtain ⟨its, rv, p, hz⟩ := I.list hq
    obtain ⟨u, hu, ru⟩ := rv.get hx
    obtain ⟨f0, f1, f2, f3, f4, f5⟩ := hf it (by simp)
    refine wpAny_pyNext_list_item st p.isList (x := u) (by simpa using hu) fun h' st' sb => ?_
    have I1 : Inv X pins σ H { s with heap := h' } := I.turned (t' := s.toks) (fun b o hb e => (sb.2 b hb).trans e) f0 f1 f3 f4 f5
    obtain ⟨o, e, c, d⟩ := id st'
    exact ⟨u, rfl, go_of (s := { s with heap := h' }) e c d (by decide) ⟨x, H, I1, ru, ⟨rfl, fun ys hy => by rw [I.list_inj hy hq]; exact hx⟩, st', fun b hb => (hf b hb).1⟩⟩
  done := by
    intro X hP hw hK hc i pins s σ H E I hf st hg
    subst hP hw hK
    obtain ⟨xs, hq, hx⟩ := hg
    obtain ⟨its, rv, p, hz⟩ := I.list hq
    obtain ⟨f0, f1, f2, f3, f4, f5⟩ := hf it (by simp)
    have hl := rv.length
    exact wpAny_pyNext_list_end (I.ok.hd hc) st p.isList (by simp; omega) fun h' eb => ⟨rfl, I.turned (t' := s.toks) (fun b o hb e => eb b o hb e) f0 f1 f3 f4 f5⟩
  self := fun _ _ _ _ _ st h => wpAny_pyIter_listiter st h
theorem turn_tuple {P : Program} {w : World} {K : PySem.W.Frag} {tg : Expr} (a it : Addr) : Turn P w K tg (Itt K a) [it] it (fun i h => h.IsTupleIter it a i) where
  mem := by simp
  obj := fun i h st b hb => by
    have e : b = it := by simpa using hb
    subst e
    obtain ⟨o, e, c, d⟩ := st
    exact ⟨o, e, fun v z => by rw [d] at z; cases z⟩
  keep := fun i h h' st k => st.at fun o e => k it (by simp) o e
  item := by
    intro X hP hw hK hc i pins s σ H E I hf st hg
    subst hP hw hK
    obtain ⟨xs, x, hq, hx⟩ := hg
    obtain ⟨its, rv, p, hz⟩ := I.tuple hq
    obtain ⟨u, hu, ru⟩ := rv.get hx
    obtain ⟨f0, f1, f2, f3, f4, f5⟩ := hf it (by simp)
    refine wpAny_pyNext_tuple_item st (show s.heap.IsTuple a its.toArray from p) (x := u) (by simpa using hu) fun h' st' sb => ?_
    have I1 : Inv X pins σ H { s with heap := h' } := I.turned (t' := s.toks) (fun b o hb e => (sb.2 b hb).trans e) f0 f1 f3 f4 f5
    obtain ⟨o, e, c, d⟩ := id st'
    exact ⟨u, rfl, go_of (s := { s with heap := h' }) e c d (by decide) ⟨x, H, I1, ru, ⟨rfl, fun ys hy => by rw [I.tuple_inj hy hq]; exact hx⟩, st', fun b hb => (hf b hb).1⟩⟩
  done := by
    intro X hP hw hK hc i pins s σ H E I hf st hg
    subst hP hw hK
    obtain ⟨xs, hq, hx⟩ := hg
    obtain ⟨its, rv, p, hz⟩ := I.tuple hq
    obtain ⟨f0, f1, f2, f3, f4, f5⟩ := hf it (by simp)
    have hl := rv.length
    exact wpAny_pyNext_tuple_end (I.ok.hd hc) st (show s.heap.IsTuple a its.toArray from p) (by simp; omega) fun h' eb => ⟨rfl, I.turned (t' := s.toks) (fun b o hb e => eb b o hb e) f0 f1 f3 f4 f5⟩
  self := fun _ _ _ _ _ st h => wpAny_pyIter_tupleiter st h
theorem turn_range {P : Program} {w : World} {K : PySem.W.Frag} {tg : Expr} (it : Addr) (lo : Int) (n : Nat) : Turn P w K tg (Itr lo n) [it] it (fun i h => IsRangeIter h it (lo + (i : Nat) * 1) ((n : Int) - (i : Nat)) 1) where
  mem := by simp
  obj := fun i h st b hb => by
    have e : b = it := by simpa using hb
    subst e
    exact ⟨_, st, fun v z => by
      have z' : Data.fields _ = Data.cell v := z
      cases z'⟩
  keep := fun i h h' st k => k it (by simp) _ st
  item := by
    intro X hP hw hK hc i pins s σ H E I hf st hg
    subst hP hw hK
    obtain ⟨f0, f1, f2, f3, f4, f5⟩ := hf it (by simp)
    have W := Walks.range (prog := X.prog) (w := X.w) (I.ok.hd hc) it lo 1 n
    refine W.item i s _ _ hg st fun v h' tk hv st' kk => ?_
    obtain ⟨t, rfl⟩ := hv
    have I1 : Inv X pins σ H { s with heap := h', toks := tk } := I.turned (fun b o hb e => kk b o (by simpa using hb) e) f0 f1 f3 f4 f5
    refine ⟨_, rfl, go_of (s := { s with heap := h', toks := tk }) (n := "range_iterator") st' rfl rfl (by decide) ⟨.int (lo + i), H, I1, ⟨t, ?_⟩, ⟨rfl, rfl⟩, st', fun b hb => (hf b hb).1⟩⟩
    rw [Int.mul_one]
  done := by
    intro X hP hw hK hc i pins s σ H E I hf st hg
    subst hP hw hK
    obtain ⟨f0, f1, f2, f3, f4, f5⟩ := hf it (by simp)
    exact wpAny_pyNext_range_end (I.ok.hd hc) st (by have : n ≤ i := hg; omega) fun h' eb => ⟨rfl, I.turned (t' := s.toks) (fun b o hb e => eb b o hb e) f0 f1 f3 f4 f5⟩
  self := fun _ _ _ _ _ st h => wpAny_pyIter_rangeiter st h
section
variable {X : Cx} {tg : Expr}
def iList (K : PySem.W.Frag) (tl : TE) : TI := fun σ H R => tl σ H fun x H1 => ∃ a, x = .ref a ∧ (∃ xs, SqL K H1 a xs) ∧ R (Itl K a) H1
def iTup (K : PySem.W.Frag) (tl : TE) : TI := fun σ H R => tl σ H fun x H1 => ∃ a, x = .ref a ∧ (∃ xs, SqT K H1 a xs) ∧ R (Itt K a) H1
theorem pi_list {l : Expr} {tl : TE} (hl : PE X l tl) : PI X tg l (iList X.K tl) := by
  intro pins s σ H R I h
  refine thn (hl pins s σ H _ I h) fun v s1 ⟨x, H1, I1, r1, q1⟩ => ?_
  obtain ⟨a, e, ⟨xs, hq⟩, q⟩ := q1
  subst e
  cases r1
  obtain ⟨its, rv, p, hz⟩ := I1.list hq
  refine wpAny_pyIter_list p.isList ?_
  refine ⟨s1.heap.objs.size, [s1.heap.objs.size], _, _, H1, rfl, I1.kept (t' := s1.toks) fun b o e => Heap.get?_push_of_some _ e, turn_list a _, ⟨_, Heap.get?_push_size _ rfl, rfl, rfl⟩, fun b hb => ?_, q⟩
  have e : b = s1.heap.objs.size := by simpa using hb
  subst e
  exact I1.fpOk (Nat.le_refl _) (I1.hok.fresh (Nat.le_refl _))
theorem pi_tup {l : Expr} {tl : TE} (hl : PE X l tl) : PI X tg l (iTup X.K tl) := by
  intro pins s σ H R I h
  refine thn (hl pins s σ H _ I h) fun v s1 ⟨x, H1, I1, r1, q1⟩ => ?_
  obtain ⟨a, e, ⟨xs, hq⟩, q⟩ := q1
  subst e
  cases r1
  obtain ⟨its, rv, p, hz⟩ := I1.tuple hq
  refine wpAny_pyIter_tuple (show s1.heap.IsTuple a its.toArray from p) ?_
  refine ⟨s1.heap.objs.size, [s1.heap.objs.size], _, _, H1, rfl, I1.kept (t' := s1.toks) fun b o e => Heap.get?_push_of_some _ e, turn_tuple a _, ⟨_, Heap.get?_push_size _ rfl, rfl, rfl⟩, fun b hb => ?_, q⟩
  have e : b = s1.heap.objs.size := by simpa using hb
  subst e
  exact I1.fpOk (Nat.le_refl _) (I1.hok.fresh (Nat.le_refl _))
theorem range_it {pins : List (Addr × Obj)} {σ : St} {H : Hp} {s : Shared} {R : It → Hp → Prop} {E : Value → Shared → Prop} {lo hi : Int} {t u v : Tok} {tk : Nat} (I : Inv X pins σ H s) (h1 : -(2 ^ 62) ≤ lo) (h2 : lo < 2 ^ 62) (h3 : -(2 ^ 62) ≤ hi) (h4 : hi < 2 ^ 62)
    (q : R (Itr lo (hi - lo).toNat) H) : wpAny (model X.prog X.w) X.A (pyIter (.ref s.heap.objs.size)) (PIE X pins σ tg R) E { s with heap := s.heap.push { cls := .type "range", data := .fields #[.int lo t, .int hi u, .int 1 v] }, toks := tk } := by
  refine wpAny_pyIter_range (IsRange.new ..) (small_one h1 h2 h3 h4) ?_
  have I1 : Inv X pins σ H { s with heap := s.heap.push { cls := .type "range", data := .fields #[.int lo t, .int hi u, .int 1 v] }, toks := tk } := I.kept fun b o e => Heap.get?_push_of_some _ e
  refine ⟨(s.heap.push { cls := .type "range", data := .fields #[.int lo t, .int hi u, .int 1 v] }).objs.size, [(s.heap.push { cls := .type "range", data := .fields #[.int lo t, .int hi u, .int 1 v] }).objs.size], _, _, H, rfl,
    I1.kept (t' := tk) fun b o e => Heap.get?_push_of_some _ e, turn_range _ lo (hi - lo).toNat, ?_, fun b hb => ?_, q⟩
  · have e1 : lo + ((0 : Nat) : Int) * 1 = lo := by simp
    have e2 : (((hi - lo).toNat : Nat) : Int) - ((0 : Nat) : Int) = Builtin.Range.rangeSize lo hi 1 := by rw [rangeSize_one]; split <;> omega
    show IsRangeIter _ _ (lo + ((0 : Nat) : Int) * 1) ((((hi - lo).toNat : Nat) : Int) - ((0 : Nat) : Int)) 1
    rw [e1, e2]
    exact Heap.get?_push_size _ rfl
  · have e : b = (s.heap.push { cls := .type "range", data := .fields #[.int lo t, .int hi u, .int 1 v] }).objs.size := by simpa using hb
    subst e
    exact I1.fpOk (Nat.le_refl _) (I1.hok.fresh (Nat.le_refl _))
def iRng1 (ta : TA) : TI := fun σ H R => ta σ H fun vs H1 => ∃ j : Int, vs = [.int j] ∧ -(2 ^ 62) ≤ j ∧ j < 2 ^ 62 ∧ R (Itr 0 j.toNat) H1
theorem pi_range1 {a : Expr} {ta : TA} {p pos : Pos} (hg : Gl X "range") (hm : X.mg "range" = none) (ha : PA X [a] ta) (hs : starEach [a] X.env = [(false, eval a X.env)] := by rfl) : PI X tg (.Call (.Name "range" p) [a] [] pos) (iRng1 ta) := by
  intro pins s σ H R I h
  refine Call_ (ld_blt I hg hm boot_range (PyProof.Rows.callWith_type1 (thn (ha pos pins s σ H _ I h) fun us s1 ⟨vs, H1, I1, r1, q1⟩ => ?_) hs rfl))
  obtain ⟨j, e, q1, q2, q⟩ := q1
  subst e
  cases r1 with
  | cons r rr =>
    cases rr
    obtain ⟨t, rfl⟩ := r
    exact call_range_1 (range_it I1 (by omega) (by omega) q1 q2 (by simpa using q))
def tFor (wi : TI) (g : TG) (tb : TS) : TS := fun D σ H => wi σ H fun J H1 => ∃ W : Nat → Nat → St → Hp → Prop, (∃ m, W 0 m σ H1) ∧ ∀ i m σ H, W i m σ H →
  (J.stop i H ∧ D.nx σ H) ∨ (J.go i H ∧ ∃ N : St → Hp → Prop, (∀ σ' H', N σ' H' → ∃ m', m' < m ∧ W (i + 1) m' σ' H') ∧ ∀ x H', J.yld i H x H' → g x σ H' fun σ2 H2 => tb { D with nx := N, ct := N, bk := D.nx } σ2 H2)
def pinsAt (fp : List Addr) (h : Heap) : List (Addr × Obj) := fp.filterMap fun b => (h.get? b).map fun o => (b, o)
theorem mem_pinsAt {fp : List Addr} {h : Heap} {b : Addr} {o : Obj} (hb : b ∈ fp) (e : h.get? b = some o) : (b, o) ∈ pinsAt fp h := List.mem_filterMap.mpr ⟨b, hb, by rw [e]; rfl⟩
theorem of_pinsAt {fp : List Addr} {h : Heap} {p : Addr × Obj} (hp : p ∈ pinsAt fp h) : p.1 ∈ fp ∧ h.get? p.1 = some p.2 := by
  obtain ⟨b, hb, e⟩ := List.mem_filterMap.mp hp
  cases q : h.get? b with
  | none => rw [q] at e; cases e
  | some o =>
    rw [q] at e
    have e' : (b, o) = p := Option.some.inj e
    subst e'
    exact ⟨hb, q⟩
theorem Inv.pinned {pins : List (Addr × Obj)} {σ : St} {H : Hp} {s : Shared} {fp : List Addr} (I : Inv X pins σ H s) (hf : ∀ b ∈ fp, FpOk X pins H b) (ho : ∀ b ∈ fp, ∃ o, s.heap.get? b = some o ∧ ∀ v, o.data ≠ .cell v) : Inv X (pins ++ pinsAt fp s.heap) σ H s :=
  I.pins_of fun p hp => (List.mem_append.mp hp).elim (fun z => I.pin p (List.mem_append_right _ z)) fun z => by
    obtain ⟨hb, e⟩ := of_pinsAt z
    obtain ⟨f0, f1, f2, _⟩ := hf p.1 hb
    obtain ⟨o, e', d⟩ := ho p.1 hb
    rw [e] at e'; cases e'
    exact ⟨e, f0, f1, f2, d⟩
theorem Inv.unpinned {pins pl : List (Addr × Obj)} {σ : St} {H : Hp} {s : Shared} (I : Inv X (pins ++ pl) σ H s) : Inv X pins σ H s := I.pins_of fun p hp => I.pin p (List.mem_append_right _ (List.mem_append_left _ hp))
theorem ps_for {iter : Expr} {body : List Stmt} {wi : TI} {g : TG} {tb : TS} {pos : Pos} (hp : PassesOwn (model X.prog X.w) X.A X.env X.xe) (hc : X.calm = true) (hi : PI X tg iter wi) (hg : PG X tg g) (hb : PSs X body tb)
    (hs : ∀ x, foldedSetIterable iter X.env x = pure x := by intro _; rfl) : PS X (.For tg iter body [] pos) (tFor wi g tb) := by
  intro pins s σ H D I h
  refine wpAny_For (thn (hi pins s σ H _ I h) fun v s1 h1 => thn h1 fun itv s2 h2 => ?_) hs
  obtain ⟨it, fp, tn, J, H2, e, I2, T, st2, f2, W, ⟨m0, w0⟩, turn⟩ := h2
  subst e
  have stat : ∀ {H' : Hp}, (∀ b ∈ fp, H' b = none) → ∀ b ∈ fp, FpOk X pins H' b := fun hn b hb => ⟨hn b hb, (f2 b hb).2⟩
  refine codeAny_forLoop_any (fun n s' => ∃ i σ' H', Inv X pins σ' H' s' ∧ tn i s'.heap ∧ (∀ b ∈ fp, H' b = none) ∧ W i n σ' H') ?_ m0 ⟨0, σ, H2, I2, st2, fun b hb => (f2 b hb).1, w0⟩
  rintro n s3 ⟨i, σ3, H3, I3, st3, fr3, w3⟩
  rcases turn i n σ3 H3 w3 with ⟨stop, qn⟩ | ⟨go, N, hN, step⟩
  · refine wpAny_passesOwn hp (thn (T.done X rfl rfl rfl hc i pins s3 σ3 H3 X.xe I3 (stat fr3) st3 stop) fun r s4 ⟨hr, I4⟩ => ?_)
    subst hr
    exact wpAny_execs_nil ⟨σ3, H3, I4, qn⟩
  · refine wpAny_passesOwn hp (thn (T.item X rfl rfl rfl hc i pins s3 σ3 H3 X.xe I3 (stat fr3) st3 go) fun r s4 ⟨u, hr, h4⟩ => ?_)
    subst hr
    refine wpAny_passesOwn hp (thn h4 fun _ s5 ⟨x, H5, I5, r5, y5, st5, fr5⟩ => ?_)
    have I5' := I5.pinned (stat fr5) (T.obj _ _ st5)
    refine wpAny_passesOwn hp (thn (hg _ s5 σ3 H5 x u _ I5' r5 (step x H5 y5)) fun _ s6 ⟨σ6, H6, I6, q6⟩ => ?_)
    refine wpAny_passesOwn hp (thn (hb _ s6 σ6 H6 _ I6 q6) fun f s7 q7 => ?_)
    have again : ∀ {σ7 : St} {H7 : Hp}, Inv X (pins ++ pinsAt fp s5.heap) σ7 H7 s7 → N σ7 H7 → ∃ m, m < n ∧ ∃ i σ' H', Inv X pins σ' H' s7 ∧ tn i s7.heap ∧ (∀ b ∈ fp, H' b = none) ∧ W i m σ' H' := fun {σ7 H7} I7 n7 => by
      obtain ⟨m', hm, w7⟩ := hN σ7 H7 n7
      refine ⟨m', hm, i + 1, σ7, H7, I7.unpinned, T.keep _ _ _ st5 fun b hb o e => (I7.pin (b, o) (List.mem_append_right _ (List.mem_append_right _ (mem_pinsAt hb e)))).1, fun b hb => ?_, w7⟩
      obtain ⟨o, e, d⟩ := T.obj _ _ st5 b hb
      exact (I7.pin (b, o) (List.mem_append_right _ (List.mem_append_right _ (mem_pinsAt hb e)))).2.1
    cases f with
    | next => obtain ⟨σ7, H7, I7, n7⟩ := q7; exact again I7 n7
    | cont => obtain ⟨σ7, H7, I7, n7⟩ := q7; exact again I7 n7
    | brk => obtain ⟨σ7, H7, I7, q7⟩ := q7; exact ⟨σ7, H7, I7.unpinned, q7⟩
    | ret v => obtain ⟨x7, σ7, H7, I7, r7, q7⟩ := q7; exact ⟨x7, σ7, H7, I7.unpinned, r7, q7⟩
end
theorem for_list {K : PySem.W.Frag} {a : Addr} {xs : List V} {g : TG} {tb : TS} {D : Ends} {σ : St} {H : Hp} (Pv : Nat → St → Hp → Prop) (h0 : Pv 0 σ H) (hl : ∀ i σ H, i ≤ xs.length → Pv i σ H → SqL K H a xs)
    (hs : ∀ i x σ H, xs[i]? = some x → Pv i σ H → g x σ H fun σ2 H2 => tb { D with nx := Pv (i + 1), ct := Pv (i + 1), bk := D.nx } σ2 H2) (hd : ∀ σ H, Pv xs.length σ H → D.nx σ H) :
    ∃ W : Nat → Nat → St → Hp → Prop, (∃ m, W 0 m σ H) ∧ ∀ i m σ H, W i m σ H →
      ((Itl K a).stop i H ∧ D.nx σ H) ∨ ((Itl K a).go i H ∧ ∃ N : St → Hp → Prop, (∀ σ' H', N σ' H' → ∃ m', m' < m ∧ W (i + 1) m' σ' H') ∧ ∀ x H', (Itl K a).yld i H x H' → g x σ H' fun σ2 H2 => tb { D with nx := N, ct := N, bk := D.nx } σ2 H2) := by
  refine ⟨fun i m σ H => m = xs.length - i ∧ i ≤ xs.length ∧ Pv i σ H, ⟨xs.length, by simp, Nat.zero_le _, h0⟩, ?_⟩
  rintro i m σ H ⟨rfl, hi, p⟩
  have q := hl i σ H hi p
  by_cases hlt : i < xs.length
  · refine .inr ⟨⟨xs, xs[i], q, by simp [hlt]⟩, Pv (i + 1), fun σ' H' p' => ⟨xs.length - (i + 1), by omega, rfl, hlt, p'⟩, fun x H' y => ?_⟩
    obtain ⟨e, y⟩ := y
    subst e
    exact hs i x σ _ (y xs q) p
  · have e : i = xs.length := by omega
    subst e
    exact .inl ⟨⟨xs, q, Nat.le_refl _⟩, hd σ H p⟩
theorem for_range {lo : Int} {n : Nat} {g : TG} {tb : TS} {D : Ends} {σ : St} {H : Hp} (Pv : Nat → St → Hp → Prop) (h0 : Pv 0 σ H)
    (hs : ∀ i σ H, i < n → Pv i σ H → g (.int (lo + i)) σ H fun σ2 H2 => tb { D with nx := Pv (i + 1), ct := Pv (i + 1), bk := D.nx } σ2 H2) (hd : ∀ σ H, Pv n σ H → D.nx σ H) :
    ∃ W : Nat → Nat → St → Hp → Prop, (∃ m, W 0 m σ H) ∧ ∀ i m σ H, W i m σ H →
      ((Itr lo n).stop i H ∧ D.nx σ H) ∨ ((Itr lo n).go i H ∧ ∃ N : St → Hp → Prop, (∀ σ' H', N σ' H' → ∃ m', m' < m ∧ W (i + 1) m' σ' H') ∧ ∀ x H', (Itr lo n).yld i H x H' → g x σ H' fun σ2 H2 => tb { D with nx := N, ct := N, bk := D.nx } σ2 H2) := by
  refine ⟨fun i m σ H => m = n - i ∧ i ≤ n ∧ Pv i σ H, ⟨n, by simp, Nat.zero_le _, h0⟩, ?_⟩
  rintro i m σ H ⟨rfl, hi, p⟩
  by_cases hlt : i < n
  · refine .inr ⟨hlt, Pv (i + 1), fun σ' H' p' => ⟨n - (i + 1), by omega, rfl, hlt, p'⟩, fun x H' y => ?_⟩
    obtain ⟨e, y⟩ := y
    subst e y
    exact hs i σ _ hlt p
  · have e : i = n := by omega
    subst e
    exact .inl ⟨Nat.le_refl _, hd σ H p⟩
abbrev R2 := V → V → Hp → VK → Prop
def OpR (X : Cx) (f : Value → Value → Sem Value) (r : R2) : Prop :=
  ∀ (pins : List (Addr × Obj)) (s : Shared) (σ : St) (H : Hp) (x y : V) (v u : Value) (Q : VK), Inv X pins σ H s → RelV x v → RelV y u → r x y H Q →
    wpAny (model X.prog X.w) X.A (f v u) (EP X pins σ Q) X.xe s
def UnR (X : Cx) (f : Value → Sem Value) (r : V → Hp → VK → Prop) : Prop :=
  ∀ (pins : List (Addr × Obj)) (s : Shared) (σ : St) (H : Hp) (x : V) (v : Value) (Q : VK), Inv X pins σ H s → RelV x v → r x H Q →
    wpAny (model X.prog X.w) X.A (f v) (EP X pins σ Q) X.xe s
def CallR (X : Cx) (f : Value) (r : List V → Hp → VK → Prop) : Prop :=
  ∀ (pins : List (Addr × Obj)) (s : Shared) (σ : St) (H : Hp) (xs : List V) (us : List Value) (Q : VK), Inv X pins σ H s → Vals xs us → r xs H Q →
    wpAny (model X.prog X.w) X.A (call f us) (EP X pins σ Q) X.xe s
def TruR (X : Cx) (r : V → Hp → (Bool → Hp → Prop) → Prop) : Prop :=
  ∀ (pins : List (Addr × Obj)) (s : Shared) (σ : St) (H : Hp) (x : V) (v : Value) (Q : Bool → Hp → Prop), Inv X pins σ H s → RelV x v → r x H Q →
    wpAny (model X.prog X.w) X.A (truthy v) (TP X pins σ Q) X.xe s
def tOp (r : R2) (ta tb : TE) : TE := fun σ H Q => ta σ H fun x H1 => tb σ H1 fun y H2 => r x y H2 Q
def tUn (r : V → Hp → VK → Prop) (ta : TE) : TE := fun σ H Q => ta σ H fun x H1 => r x H1 Q
def rI (C : Int → Int → Prop) (g : Int → Int → V) : R2 := fun x y H Q => ∃ i j, x = .int i ∧ y = .int j ∧ C i j ∧ Q (g i j) H
def rI0 (g : Int → Int → V) : R2 := fun x y H Q => ∃ i j, x = .int i ∧ y = .int j ∧ Q (g i j) H
def rU (g : Int → V) : V → Hp → VK → Prop := fun x H Q => ∃ i, x = .int i ∧ Q (g i) H
section
variable {X : Cx} {a b c : Expr} {ta tb tc : TE} {pos : Pos}
theorem binT (ha : PE X a ta) (hb : PE X b tb) {pins : List (Addr × Obj)} {s : Shared} {σ : St} {H : Hp} {R : V → V → Hp → Prop} (I : Inv X pins σ H s)
    (h : ta σ H fun x H1 => tb σ H1 fun y H2 => R x y H2) {Q : Value → Shared → Prop} {f : Value → Value → Sem Value}
    (hf : ∀ v u s2 x y H2, Inv X pins σ H2 s2 → RelV x v → RelV y u → R x y H2 → wpAny (model X.prog X.w) X.A (f v u) Q X.xe s2) :
    wpAny (model X.prog X.w) X.A (eval a X.env) (fun v s₁ => wpAny (model X.prog X.w) X.A (eval b X.env) (fun u s₂ => wpAny (model X.prog X.w) X.A (f v u) Q X.xe s₂) X.xe s₁) X.xe s := by
  refine thn (ha pins s σ H _ I h) fun v s1 ⟨x, H1, I1, r1, q1⟩ => ?_
  refine thn (hb pins s1 σ H1 _ I1 q1) fun u s2 ⟨y, H2, I2, r2, q2⟩ => ?_
  exact hf v u s2 x y H2 I2 r1 r2 q2
theorem pe_op {op : Operator} {r : R2} (ho : OpR X (binaryOp op) r) (ha : PE X a ta) (hb : PE X b tb) : PE X (.BinOp a op b pos) (tOp r ta tb) := by
  intro pins s σ H Q I h
  exact wpAny_BinOp (binT ha hb I h fun v u s2 x y H2 I2 rx ry q => ho pins s2 σ H2 x y v u Q I2 rx ry q)
theorem pe_un {op : UnaryOp} {r : V → Hp → VK → Prop} (ho : UnR X (unaryOp op) r) (ha : PE X a ta) : PE X (.UnaryOp op a pos) (tUn r ta) := by
  intro pins s σ H Q I h
  exact UnaryOp_ (thn (ha pins s σ H _ I h) fun v s1 ⟨x, H1, I1, r1, q1⟩ => ho pins s1 σ H1 x v Q I1 r1 q1)
theorem opI {f : Value → Value → Sem Value} {C : Int → Int → Prop} {g : Int → Int → Int}
    (rule : ∀ (i j : Int) (t u : Tok) (s : Shared) (Q : Value → Shared → Prop) (E : Value → Shared → Prop), C i j → Q (.int (g i j) s.toks) { s with toks := s.toks + 1 } → wpAny (model X.prog X.w) X.A (f (.int i t) (.int j u)) Q E s) :
    OpR X f (rI C fun i j => .int (g i j)) := by
  intro pins s σ H x y v u Q I rx ry h
  obtain ⟨i, j, rfl, rfl, hc, q⟩ := h
  obtain ⟨t, rfl⟩ := rx
  obtain ⟨t', rfl⟩ := ry
  exact rule i j t t' s _ _ hc ⟨.int (g i j), H, I.tok _, ⟨_, rfl⟩, q⟩
theorem opI0 {f : Value → Value → Sem Value} {g : Int → Int → Int}
    (rule : ∀ (i j : Int) (t u : Tok) (s : Shared) (Q : Value → Shared → Prop) (E : Value → Shared → Prop), Q (.int (g i j) s.toks) { s with toks := s.toks + 1 } → wpAny (model X.prog X.w) X.A (f (.int i t) (.int j u)) Q E s) :
    OpR X f (rI0 fun i j => .int (g i j)) := by
  intro pins s σ H x y v u Q I rx ry h
  obtain ⟨i, j, rfl, rfl, q⟩ := h
  obtain ⟨t, rfl⟩ := rx
  obtain ⟨t', rfl⟩ := ry
  exact rule i j t t' s _ _ ⟨.int (g i j), H, I.tok _, ⟨_, rfl⟩, q⟩
theorem opB0 {f : Value → Value → Sem Value} {g : Int → Int → Bool}
    (rule : ∀ (i j : Int) (t u : Tok) (s : Shared) (Q : Value → Shared → Prop) (E : Value → Shared → Prop), Q (.bool (g i j)) s → wpAny (model X.prog X.w) X.A (f (.int i t) (.int j u)) Q E s) :
    OpR X f (rI0 fun i j => .bl (g i j)) := by
  intro pins s σ H x y v u Q I rx ry h
  obtain ⟨i, j, rfl, rfl, q⟩ := h
  obtain ⟨t, rfl⟩ := rx
  obtain ⟨t', rfl⟩ := ry
  exact rule i j t t' s _ _ ⟨.bl (g i j), H, I, rfl, q⟩
def CPow (i j : Int) : Prop := 0 ≤ j ∧ j ≤ 1000000 ∧ i.natAbs < 2 ^ 64
theorem op_add : OpR X (binaryOp .Add) (rI0 fun i j => .int (i + j)) := opI0 fun _ _ _ _ _ _ _ q => add_int q
theorem op_sub : OpR X (binaryOp .Sub) (rI0 fun i j => .int (i - j)) := opI0 fun _ _ _ _ _ _ _ q => sub_int q
theorem op_mod : OpR X (binaryOp .Mod) (rI (fun _ j => 0 < j) fun i j => .int (i % j)) := opI fun i j _ _ _ _ _ hc q => by
  have h1 : (0 : Int) < j := hc
  exact mod_int' (by omega) (by rw [Int.fmod_eq_emod_of_nonneg i (by omega)]; exact q)
theorem op_pow : OpR X (binaryOp .Pow) (rI CPow fun i j => .int (i ^ j.toNat)) := opI fun _ _ _ _ _ _ _ hc q => pow_int_small hc.1 hc.2.1 hc.2.2 q
theorem unI {f : Value → Sem Value} {g : Int → Int}
    (rule : ∀ (i : Int) (t : Tok) (s : Shared) (Q : Value → Shared → Prop) (E : Value → Shared → Prop), Q (.int (g i) s.toks) { s with toks := s.toks + 1 } → wpAny (model X.prog X.w) X.A (f (.int i t)) Q E s) :
    UnR X f (rU fun i => .int (g i)) := by
  intro pins s σ H x v Q I rx h
  obtain ⟨i, rfl, q⟩ := h
  obtain ⟨t, rfl⟩ := rx
  exact rule i t s _ _ ⟨.int (g i), H, I.tok _, ⟨_, rfl⟩, q⟩
theorem un_neg : UnR X (unaryOp .USub) (rU fun i => .int (-i)) := unI fun _ _ _ _ _ q => neg_int q
end
def scal : V → V → Bool
  | .non, .non => true | .non, .int _ => true | .int _, .non => true | .non, .bl _ => true | .bl _, .non => true | .non, .str _ => true | .str _, .non => true
  | .int _, .int _ => true | .bl _, .bl _ => true | .str _, .str _ => true | .byt _, .byt _ => true
  | .int _, .str _ => true | .str _, .int _ => true | .bl _, .str _ => true | .str _, .bl _ => true
  | _, _ => false
def rEq : R2 := fun x y H Q => scal x y = true ∧ Q (.bl (decide (x = y))) H
def rNe : R2 := fun x y H Q => scal x y = true ∧ Q (.bl (!decide (x = y))) H
theorem dec_int {i j : Int} : decide (V.int i = V.int j) = (i == j) := by
  rw [Bool.eq_iff_iff]
  simp
theorem dec_bl {i j : Bool} : decide (V.bl i = V.bl j) = (i == j) := by
  rw [Bool.eq_iff_iff]
  simp
theorem dec_str {i j : Str} : decide (V.str i = V.str j) = (i == j) := by
  rw [Bool.eq_iff_iff]
  simp
theorem dec_byt {i j : Array UInt8} : decide (V.byt i = V.byt j) = (i.toList == j.toList) := by
  rw [Bool.eq_iff_iff]
  cases i
  cases j
  simp
section
variable {X : Cx} {a b c : Expr} {ta tb tc : TE} {pos : Pos}
theorem fin_bl {pins : List (Addr × Obj)} {σ : St} {H : Hp} {s : Shared} {Q : VK} {k k' : Bool} (I : Inv X pins σ H s) (q : Q (.bl k) H) (e : k = k') : EP X pins σ Q (.bool k') s := by
  subst e
  exact ⟨.bl k, H, I, rfl, q⟩
theorem op_eq : OpR X (compareOp .Eq) rEq := by
  intro pins s σ H x y v u Q I rx ry h
  obtain ⟨hs, q⟩ := h
  cases x with
  | non =>
    cases rx
    cases y with
    | non => cases ry; exact PySem.EqNone.eq_none_none (fin_bl I q (by simp))
    | bl j => cases ry; exact PySem.EqNone.eq_none_bool (fin_bl I q (by simp))
    | int j => obtain ⟨t', rfl⟩ := ry; exact PySem.EqNone.eq_none_int (fin_bl I q (by simp))
    | str j => obtain ⟨t', rfl⟩ := ry; exact PySem.EqNone.eq_none_str (fin_bl I q (by simp))
    | _ => exact absurd (show false = true from hs) Bool.false_ne_true
  | bl i =>
    cases rx
    cases y with
    | non => cases ry; exact PySem.EqNone.eq_bool_none (fin_bl I q (by simp))
    | bl j => cases ry; exact eq_bool (fin_bl I q dec_bl)
    | str j => obtain ⟨t', rfl⟩ := ry; exact PySem.EqMixed.eq_bool_str (fin_bl I q (by simp))
    | _ => exact absurd (show false = true from hs) Bool.false_ne_true
  | int i =>
    obtain ⟨t, rfl⟩ := rx
    cases y with
    | non => cases ry; exact PySem.EqNone.eq_int_none (fin_bl I q (by simp))
    | int j => obtain ⟨t', rfl⟩ := ry; exact eq_int (fin_bl I q dec_int)
    | str j => obtain ⟨t', rfl⟩ := ry; exact PySem.EqMixed.eq_int_str (fin_bl I q (by simp))
    | _ => exact absurd (show false = true from hs) Bool.false_ne_true
  | str i =>
    obtain ⟨t, rfl⟩ := rx
    cases y with
    | non => cases ry; exact PySem.EqNone.eq_str_none (fin_bl I q (by simp))
    | bl j => cases ry; exact PySem.EqMixed.eq_str_bool (fin_bl I q (by simp))
    | int j => obtain ⟨t', rfl⟩ := ry; exact PySem.EqMixed.eq_str_int (fin_bl I q (by simp))
    | str j => obtain ⟨t', rfl⟩ := ry; exact eq_str (fin_bl I q dec_str)
    | _ => exact absurd (show false = true from hs) Bool.false_ne_true
  | byt i =>
    obtain ⟨t, rfl⟩ := rx
    cases y with
    | byt j => obtain ⟨t', rfl⟩ := ry; exact PySem.W.eq_bytes (fin_bl I q dec_byt)
    | _ => exact absurd (show false = true from hs) Bool.false_ne_true
  | _ => cases y <;> exact absurd (show false = true from hs) Bool.false_ne_true
theorem op_ne : OpR X (compareOp .NotEq) rNe := by
  intro pins s σ H x y v u Q I rx ry h
  obtain ⟨hs, q⟩ := h
  cases x with
  | non =>
    cases rx
    cases y with
    | non => cases ry; exact PySem.EqNone.ne_none_none (fin_bl I q (by simp))
    | bl j => cases ry; exact PySem.EqNone.ne_none_bool (fin_bl I q (by simp))
    | int j => obtain ⟨t', rfl⟩ := ry; exact PySem.EqNone.ne_none_int (fin_bl I q (by simp))
    | str j => obtain ⟨t', rfl⟩ := ry; exact PySem.EqNone.ne_none_str (fin_bl I q (by simp))
    | _ => exact absurd (show false = true from hs) Bool.false_ne_true
  | bl i =>
    cases rx
    cases y with
    | non => cases ry; exact PySem.EqNone.ne_bool_none (fin_bl I q (by simp))
    | bl j => cases ry; exact ne_bool (fin_bl I q (congrArg not dec_bl))
    | str j => obtain ⟨t', rfl⟩ := ry; exact PySem.EqMixed.ne_bool_str (fin_bl I q (by simp))
    | _ => exact absurd (show false = true from hs) Bool.false_ne_true
  | int i =>
    obtain ⟨t, rfl⟩ := rx
    cases y with
    | non => cases ry; exact PySem.EqNone.ne_int_none (fin_bl I q (by simp))
    | int j => obtain ⟨t', rfl⟩ := ry; exact ne_int (fin_bl I q (congrArg not dec_int))
    | str j => obtain ⟨t', rfl⟩ := ry; exact PySem.EqMixed.ne_int_str (fin_bl I q (by simp))
    | _ => exact absurd (show false = true from hs) Bool.false_ne_true
  | str i =>
    obtain ⟨t, rfl⟩ := rx
    cases y with
    | non => cases ry; exact PySem.EqNone.ne_str_none (fin_bl I q (by simp))
    | bl j => cases ry; exact PySem.EqMixed.ne_str_bool (fin_bl I q (by simp))
    | int j => obtain ⟨t', rfl⟩ := ry; exact PySem.EqMixed.ne_str_int (fin_bl I q (by simp))
    | str j => obtain ⟨t', rfl⟩ := ry; exact ne_str (fin_bl I q (congrArg not dec_str))
    | _ => exact absurd (show false = true from hs) Bool.false_ne_true
  | byt i =>
    obtain ⟨t, rfl⟩ := rx
    cases y with
    | byt j => obtain ⟨t', rfl⟩ := ry; exact PySem.W.ne_bytes (fin_bl I q (congrArg not dec_byt))
    | _ => exact absurd (show false = true from hs) Bool.false_ne_true
  | _ => cases y <;> exact absurd (show false = true from hs) Bool.false_ne_true
theorem op_lt : OpR X (compareOp .Lt) (rI0 fun i j => .bl (decide (i < j))) := opB0 fun _ _ _ _ _ _ _ q => lt_int q
theorem op_le : OpR X (compareOp .LtE) (rI0 fun i j => .bl (decide (i ≤ j))) := opB0 fun _ _ _ _ _ _ _ q => le_int q
theorem op_gt : OpR X (compareOp .Gt) (rI0 fun i j => .bl (decide (j < i))) := opB0 fun _ _ _ _ _ _ _ q => gt_int q
theorem op_isN : OpR X (compareOp .Is) (fun x y H Q => y = .non ∧ Q (.bl (decide (x = .non))) H) := by
  intro pins s σ H x y v u Q I rx ry h
  obtain ⟨rfl, q⟩ := h
  cases ry
  refine is_none_gen (fin_bl I q ?_)
  cases x <;> first
    | (cases rx; rfl)
    | (obtain ⟨t, rfl⟩ := rx; rfl)
theorem OpR.or {f : Value → Value → Sem Value} {r r' : R2} (h : OpR X f r) (h' : OpR X f r') : OpR X f (fun x y H Q => r x y H Q ∨ r' x y H Q) := by
  intro pins s σ H x y v u Q I rx ry q
  rcases q with q | q
  · exact h pins s σ H x y v u Q I rx ry q
  · exact h' pins s σ H x y v u Q I rx ry q
theorem nomark (b : Expr) {op : CmpOp} (h : op ≠ .In := by decide) (h2 : op ≠ .NotIn := by decide) : behindInMarks op b = false := by
  have e1 : (op == CmpOp.In) = false := by cases op <;> first | rfl | exact absurd rfl h
  have e2 : (op == CmpOp.NotIn) = false := by cases op <;> first | rfl | exact absurd rfl h2
  cases b <;> simp [behindInMarks, e1, e2]
theorem pe_cmpR {op : CmpOp} {r : R2} (ho : OpR X (compareOp op) r) (ha : PE X a ta) (hb : PE X b tb) (hm : behindInMarks op b = false) : PE X (.Compare a [op] [b] pos) (tOp r ta tb) := by
  intro pins s σ H Q I h
  exact wpAny_Compare1 (binT ha hb I h fun v u s2 x y H2 I2 rx ry q => ho pins s2 σ H2 x y v u Q I2 rx ry q) hm
def tTest (t : TE) : TT := fun σ H Q => t σ H fun x H' => ∃ k, x = .bl k ∧ Q k H'
theorem pt_cmpR {op : CmpOp} {r : R2} (ho : OpR X (compareOp op) r) (ha : PE X a ta) (hb : PE X b tb) (hm : behindInMarks op b = false) : PT X (.Compare a [op] [b] pos) (tTest (tOp r ta tb)) := by
  intro pins s σ H Q I h
  refine wpAny_isTrue_Compare1 (thn (ha pins s σ H _ I h) fun v s1 ⟨x, H1, I1, r1, q1⟩ => thn (hb pins s1 σ H1 _ I1 q1) fun u s2 ⟨y, H2, I2, r2, q2⟩ =>
    thn (ho pins s2 σ H2 x y v u _ I2 r1 r2 q2) fun c s3 ⟨z, H3, I3, r3, k, e, q3⟩ => ?_) hm
  subst e
  cases r3
  exact wpAny_truthy_bool ⟨H3, I3, q3⟩
def tChain (r r' : R2) (ta tb tc : TE) : TE := fun σ H Q => ta σ H fun x H1 => tb σ H1 fun y H2 => r x y H2 fun z H3 => ∃ k, z = .bl k ∧
  (if k = true then tc σ H3 fun w' H4 => r' y w' H4 Q else Q (.bl false) H3)
theorem pe_chain {op op' : CmpOp} {r r' : R2} (ho : OpR X (compareOp op) r) (ho' : OpR X (compareOp op') r') (ha : PE X a ta) (hb : PE X b tb) (hc : PE X c tc)
    (hm : lastMarks [op, op'] [b, c] = false := by with_unfolding_all rfl) : PE X (.Compare a [op, op'] [b, c] pos) (tChain r r' ta tb tc) := by
  intro pins s σ H Q I h
  refine Compare_chain (thn (ha pins s σ H _ I h) fun v s1 ⟨x, H1, I1, r1, q1⟩ => chain_link (thn (hb pins s1 σ H1 _ I1 q1) fun u s2 ⟨y, H2, I2, r2, q2⟩ =>
    thn (ho pins s2 σ H2 x y v u _ I2 r1 r2 q2) fun d s3 ⟨z, H3, I3, r3, k, e, q3⟩ => ?_)) hm
  subst e
  cases r3
  refine wpAny_truthy_bool ?_
  cases k with
  | false => exact ite_ff ⟨.bl false, H3, I3, rfl, q3⟩
  | true => exact ite_tt (chain_last (thn (hc pins s3 σ H3 _ I3 q3) fun w' s4 ⟨z', H4, I4, r4, q4⟩ => ho' pins s4 σ H4 y z' u w' Q I4 r2 r4 q4))
theorem pt_chain {op op' : CmpOp} {r r' : R2} (ho : OpR X (compareOp op) r) (ho' : OpR X (compareOp op') r') (ha : PE X a ta) (hb : PE X b tb) (hc : PE X c tc)
    (hm : lastMarks [op, op'] [b, c] = false := by with_unfolding_all rfl) : PT X (.Compare a [op, op'] [b, c] pos) (tTest (tChain r r' ta tb tc)) := by
  intro pins s σ H Q I h
  refine isTrue_chain (thn (ha pins s σ H _ I h) fun v s1 ⟨x, H1, I1, r1, q1⟩ => test_link (thn (hb pins s1 σ H1 _ I1 q1) fun u s2 ⟨y, H2, I2, r2, q2⟩ =>
    thn (ho pins s2 σ H2 x y v u _ I2 r1 r2 q2) fun d s3 ⟨z, H3, I3, r3, k, e, q3⟩ => ?_)) hm
  subst e
  cases r3
  refine wpAny_truthy_bool ?_
  cases k with
  | false =>
    obtain ⟨k', e', q'⟩ := q3
    cases e'
    exact ite_ff ⟨H3, I3, q'⟩
  | true =>
    refine ite_tt (test_last (thn (hc pins s3 σ H3 _ I3 q3) fun w' s4 ⟨z', H4, I4, r4, q4⟩ => thn (ho' pins s4 σ H4 y z' u w' _ I4 r2 r4 q4) fun d' s5 ⟨z2, H5, I5, r5, k2, e2, q5⟩ => ?_))
    subst e2
    cases r5
    exact wpAny_truthy_bool ⟨H5, I5, q5⟩
def TruV (K : PySem.W.Frag) (x : V) (H : Hp) (k : Bool) : Prop :=
  match x with
  | .non => k = false
  | .bl b => k = b
  | .int i => k = (i != 0)
  | .str y => y.length ≤ sizeLine ∧ k = ((y.length : Int) != 0)
  | .byt y => y.size ≤ sizeLine ∧ k = ((y.size : Int) != 0)
  | .ref p => (∃ xs, SqL K H p xs ∧ k = !xs.isEmpty) ∨ (∃ xs, SqT K H p xs ∧ k = !xs.isEmpty) ∨ ∃ kvs, H p = some (.dK kvs) ∧ k = !kvs.isEmpty
  | _ => False
theorem isEmpty_kv {κ : Type} {kvs : List (κ × V)} {vs : List (κ × Value)} (r : KV kvs vs) : (!vs.isEmpty) = !kvs.isEmpty := by
  cases r <;> rfl
theorem isEmpty_of {xs : List V} {its : List Value} (r : Vals xs its) : (!its.toArray.isEmpty) = !xs.isEmpty := by
  cases r <;> simp
theorem line63 : (sizeLine : Nat) < 2 ^ 63 := by rw [sizeLine_eq]; decide
theorem tru_ok : TruR X (fun x H Q => ∃ k, TruV X.K x H k ∧ Q k H) := by
  intro pins s σ H x v Q I rx h
  obtain ⟨k, e, q⟩ := h
  have hl := line63
  have hs : sizeLine = 16777216 := sizeLine_eq
  cases x with
  | non =>
    cases rx
    have e' : k = false := e
    subst e'
    exact truthy_none ⟨H, I, q⟩
  | bl b =>
    cases rx
    have e' : k = b := e
    subst e'
    exact wpAny_truthy_bool ⟨H, I, q⟩
  | int i =>
    obtain ⟨t, rfl⟩ := rx
    have e' : k = (i != 0) := e
    subst e'
    exact PySem.P.truthy_int ⟨H, I, q⟩
  | str y =>
    obtain ⟨t, rfl⟩ := rx
    obtain ⟨hy, e'⟩ : y.length ≤ sizeLine ∧ k = ((y.length : Int) != 0) := e
    subst e'
    exact PySem.P.truthy_str (by omega) ⟨H, I.tok _, q⟩
  | byt y =>
    obtain ⟨t, rfl⟩ := rx
    obtain ⟨hy, e'⟩ : y.size ≤ sizeLine ∧ k = ((y.size : Int) != 0) := e
    subst e'
    exact PySem.W.truthy_bytes (by omega) ⟨H, I.tok _, q⟩
  | ref p =>
    cases rx
    have e' : (∃ xs, SqL X.K H p xs ∧ k = !xs.isEmpty) ∨ (∃ xs, SqT X.K H p xs ∧ k = !xs.isEmpty) ∨ ∃ kvs, H p = some (.dK kvs) ∧ k = !kvs.isEmpty := e
    rcases e' with ⟨xs, hx, e'⟩ | ⟨xs, hx, e'⟩ | ⟨kvs, hx, e'⟩
    · subst e'
      obtain ⟨its, r, pl, hz⟩ := I.list hx
      have hlen := r.length
      exact wpAny_truthy_list pl.isList (by simp only [List.size_toArray]; omega) ⟨H, I.tok _, by rw [isEmpty_of r]; exact q⟩
    · subst e'
      obtain ⟨its, r, pl, hz⟩ := I.tuple hx
      have hlen := r.length
      exact truthy_tuple pl (by simp only [List.size_toArray]; omega) ⟨H, I.tok _, by rw [isEmpty_of r]; exact q⟩
    · subst e'
      obtain ⟨hz, hS, vs, r, m⟩ : kvs.length ≤ sizeLine ∧ (p == sysModules) = false ∧ ∃ vs, KV kvs vs ∧ s.heap.DictOf (mixKind X.prog X.w) p vs := I.hok p _ hx
      have hlen : kvs.length = vs.length := Paired.length r
      exact wpAny_truthy_dict hS m (by omega) ⟨H, I.tok _, by rw [isEmpty_kv r]; exact q⟩
  | _ => exact (show False from e).elim
theorem pt_truth (ha : PE X a ta) (he : ∀ whole, isTrue a X.env whole = (do let v ← whole; standAt a.pos; holding [v] (truthy v))) :
    PT X a (fun σ H Q => ta σ H fun x H' => ∃ k, TruV X.K x H' k ∧ Q k H') := by
  intro pins s σ H Q I h
  exact isTrue_plain (thn (ha pins s σ H _ I h) fun v s1 ⟨x, H1, I1, r1, q1⟩ => tru_ok pins s1 σ H1 x v Q I1 r1 q1) (he _)
theorem op_add_str : OpR X (binaryOp .Add) (fun x y H Q => ∃ i j, x = .str i ∧ y = .str j ∧ i.length + j.length ≤ sizeLine ∧ Q (.str (i ++ j)) H) := by
  intro pins s σ H x y v u Q I rx ry h
  obtain ⟨i, j, rfl, rfl, hz, q⟩ := h
  obtain ⟨t, rfl⟩ := rx
  obtain ⟨t', rfl⟩ := ry
  exact add_str (fun t' tk => ⟨.str (i ++ j), H, I.tok _, ⟨_, rfl⟩, q⟩) hz
theorem vals1 {x : V} {us : List Value} (r : Vals [x] us) : ∃ u, us = [u] ∧ RelV x u := by
  cases r with
  | cons r1 r2 => cases r2; exact ⟨_, rfl, r1⟩
theorem vals2 {x y : V} {us : List Value} (r : Vals [x, y] us) : ∃ u w', us = [u, w'] ∧ RelV x u ∧ RelV y w' := by
  cases r with
  | cons r1 r2 =>
    cases r2 with
    | cons r3 r4 => cases r4; exact ⟨_, _, rfl, r1, r3⟩
theorem call_abs : CallR X (.builtin "abs") (fun xs H Q => ∃ i, xs = [.int i] ∧ Q (.int (if i < 0 then -i else i)) H) := by
  intro pins s σ H xs us Q I r h
  obtain ⟨i, rfl, q⟩ := h
  obtain ⟨u, rfl, t, rfl⟩ := vals1 r
  exact call_abs_int fun u tk => ⟨.int (if i < 0 then -i else i), H, I.tok _, ⟨_, rfl⟩, q⟩
theorem call_max2 (hc : X.calm = true) : CallR X (.builtin "max") (fun xs H Q => ∃ i j, xs = [.int i, .int j] ∧ Q (.int (if j > i then j else i)) H) := by
  intro pins s σ H xs us Q I r h
  obtain ⟨i, j, rfl, q⟩ := h
  obtain ⟨u, w', rfl, ⟨t, rfl⟩, ⟨t', rfl⟩⟩ := vals2 r
  refine max_two_ints (I.ok.hd hc) fun h' tk k => ⟨_, H, I.kept k, ?_, q⟩
  by_cases hj : j > i
  · rw [if_pos hj, if_pos hj]; exact ⟨_, rfl⟩
  · rw [if_neg hj, if_neg hj]; exact ⟨_, rfl⟩
def LenV (K : PySem.W.Frag) (x : V) (H : Hp) (n : Nat) : Prop :=
  match x with
  | .str y => y.length ≤ sizeLine ∧ n = y.length
  | .byt y => y.size ≤ sizeLine ∧ n = y.size
  | .ref p => (∃ xs, SqL K H p xs ∧ n = xs.length) ∨ ∃ xs, SqT K H p xs ∧ n = xs.length
  | _ => False
theorem call_len : CallR X (.builtin "len") (fun xs H Q => ∃ x n, xs = [x] ∧ LenV X.K x H n ∧ Q (.int n) H) := by
  intro pins s σ H xs us Q I r h
  obtain ⟨x, n, rfl, e, q⟩ := h
  obtain ⟨u, rfl, rx⟩ := vals1 r
  have hl := line63
  have hs : sizeLine = 16777216 := sizeLine_eq
  cases x with
  | str y =>
    obtain ⟨t, rfl⟩ := rx
    obtain ⟨hy, e'⟩ : y.length ≤ sizeLine ∧ n = y.length := e
    subst e'
    exact len_str (by omega) ⟨.int _, H, I.tok _, ⟨_, rfl⟩, q⟩
  | byt y =>
    obtain ⟨t, rfl⟩ := rx
    obtain ⟨hy, e'⟩ : y.size ≤ sizeLine ∧ n = y.size := e
    subst e'
    exact PySem.W.len_bytes (by omega) ⟨.int _, H, I.tok _, ⟨_, rfl⟩, q⟩
  | ref p =>
    cases rx
    have e' : (∃ xs, SqL X.K H p xs ∧ n = xs.length) ∨ ∃ xs, SqT X.K H p xs ∧ n = xs.length := e
    rcases e' with ⟨xs, hx, e'⟩ | ⟨xs, hx, e'⟩
    · subst e'
      obtain ⟨its, r', pl, hz⟩ := I.list hx
      have hlen := r'.length
      exact Calls.call_len_list pl.isList (by simp only [List.size_toArray]; omega) ⟨.int xs.length, H, I.tok _, ⟨_, by simp only [List.size_toArray]; rw [hlen]⟩, q⟩
    · subst e'
      obtain ⟨its, r', pl, hz⟩ := I.tuple hx
      have hlen := r'.length
      exact len_tuple pl (by simp only [List.size_toArray]; omega) ⟨.int xs.length, H, I.tok _, ⟨_, by simp only [List.size_toArray]; rw [hlen]⟩, q⟩
  | _ => exact (show False from e).elim
end
structure ObjM (h : Heap) (x dx C : Addr) (mA : Str → Option Value) : Prop where
  obj : h.get? x = some (PySem.W.instObj C dx)
  ns : h.Ns1 dx mA
  ne : dx ≠ x
theorem lookIn_ns {h : Heap} {dx : Addr} {mA : Str → Option Value} (n : h.Ns1 dx mA) : ∃ od, h.get? dx = some od ∧ ∀ name, PySem.W.lookIn name od = some (mA name) := by
  obtain ⟨o, es, ep, ho, hd, hk, _, hm⟩ := n
  refine ⟨o, ho, fun name => ?_⟩
  have e := hm name
  unfold nsFind findBy at e
  rw [← Array.find?_toList] at e
  unfold PySem.W.lookIn
  rw [hd]
  dsimp only
  split
  · rename_i y q
    rw [q] at e
    exact congrArg some e
  · rename_i q
    rw [q] at e
    have a : es.toList.any (·.refKey) = false := by
      rw [List.any_eq_false]
      intro y hy
      obtain ⟨z, t, hkey⟩ := hk y (Array.mem_toList_iff.mp hy)
      simp [DictEntry.refKey, hkey]
    have a' : ¬ es.toList.any (·.refKey) = true := by rw [a]; exact Bool.false_ne_true
    rw [if_neg a']
    exact congrArg some e
theorem ObjM.look {h : Heap} {x dx C : Addr} {mA : Str → Option Value} (I : ObjM h x dx C mA) : ∃ od, PySem.W.InstAt h x (PySem.W.instObj C dx) C (some od) ∧ ∀ name, PySem.W.lookIn name od = some (mA name) :=
  let ⟨od, ho, hl⟩ := lookIn_ns I.ns
  ⟨od, ⟨I.obj, rfl, rfl, ho⟩, hl⟩
section
variable {prog : Program} {w : World} {A : Around} {E : Value → Shared → Prop} {s : Shared} {K : PySem.W.Frag} {x dx C f : Addr} {mA : Str → Option Value} {name : Str} {v : Value}
theorem get_map {expr : Bool} {Q : Value → Shared → Prop} (X : K.In s.heap) (I : ObjM s.heap x dx C mA) (hg : PySem.W.plainGet K C name = true) (hh : PySem.W.hasDictIn K C = true)
    (ha : PySem.W.findIn K (.ref C) name = some none) (hv : mA name = some v) (hv' : PySem.W.handedIn v = true) (h : Q v { s with toks := s.toks + 1 }) :
    wpAny (model prog w) A (getAttr (.ref x) name expr) Q E s := by
  obtain ⟨od, J, hl⟩ := I.look
  exact PySem.W.get_value X J (PySem.W.plainGet_of hg).1 (PySem.W.findObj_own hh ha rfl (by rw [hl, hv])) hv' h
theorem get_meth {pl : Sem Bool} {Q : Value × List Value → Shared → Prop} (X : K.In s.heap) (I : ObjM s.heap x dx C mA) (hg : PySem.W.plainGet K C name = true)
    (hf : PySem.W.findIn K (.ref C) name = some (some (.ref f))) (ht : PySem.W.isFn K (.ref f) = true) (hv : mA name = none) (h : Q (.ref f, [.ref x]) s) :
    wpAny (model prog w) A (getMethod (.ref x) name pl) Q E s := by
  obtain ⟨od, J, hl⟩ := I.look
  exact PySem.W.method_fn X J (PySem.W.plainGet_of hg).1 (PySem.W.plainGet_of hg).2 hf (beq_iff_eq.mp ht) (by show (PySem.W.lookIn name od).map (·.isSome) = some false; rw [hl, hv]; rfl) h
theorem set_map {ns : List Str} {Q : Unit → Shared → Prop} (X : K.In s.heap) (I : ObjM s.heap x dx C mA)
    (hs : PySem.W.findIn K (.ref C) "__setattr__" = some (some (.builtin "object.__setattr__"))) (hp : PySem.W.plainOver K C = true) (ht : PySem.W.takerIn K C name = some none) (hh : PySem.W.hasDictIn K C = true)
    (hw : PySem.Within mA ns) (hsz : ns.length ≤ sizeLine)
    (h : ∀ h', ObjM h' x dx C (fun y => if y = name then some v else mA y) → Heap.SameBut dx s.heap h' → Q () { s with heap := h', toks := s.toks + 2 }) :
    wpAny (model prog w) A (setAttr (.ref x) name v) Q E s := by
  obtain ⟨od, J, hl⟩ := I.look
  refine PySem.W.set_plain X J hs (PySem.W.osa_open (s := { s with toks := s.toks + 1 }) (r := none) X J hp ht fun b => ?_)
  obtain ⟨cd, hc, hd'⟩ := PySem.W.any_some hh
  have hx : s.heap.get? x = some ⟨.ref C, some dx, .plain, #[]⟩ := I.obj
  refine wpAny_bind (wpAny_pure (wpAny_bind (wpAny_bind (wpAny_loadPart hx (wpAny_bind (PySem.W.Looks.here (s := { s with toks := s.toks + 1 }) (PySem.W.looks_clsIn X hc) ?_))))))
  rw [hd']
  refine wpAny_pure (a := some dx) (wpAny_bind (wpAny_pure (wpAny_bind ?_)))
  refine wpAny_nsSet1 (s := { s with toks := s.toks + 1 }) I.ns fun h' hn2 hs2 => ?_
  obtain ⟨oD, esD, epD, hoD, hdD, hcD⟩ := hn2.count (PySem.Within.cons name v hw)
  refine wpAny_bind (wpAny_lookBehind hoD (by rw [hdD]; exact pastItsLine_dict (Nat.le_trans hcD (by rw [List.length_cons]; omega))) ?_)
  exact wpAny_pure (h _ ⟨(hs2.2 _ (Ne.symm I.ne)).trans I.obj, hn2, I.ne⟩ hs2)
theorem make_map {R : Result → Shared → Prop} {vs : List Value} {kw : List (Str × Value)} (X : K.In s.heap) (hm : PySem.W.makesIn K C = true)
    (hi : PySem.W.findIn K (.ref C) "__init__" = some (some (.ref f))) (hf : PySem.W.typeIn K (.ref f) = some (.type "function"))
    (h : codeAny (model prog w) (A.under (.builtin "type.__call__" ⟨.ref C :: vs, kw⟩)) (.call (.ref f) ⟨.ref (s.heap.objs.size + 1) :: vs, kw⟩) (PySem.W.InitBack (s.heap.objs.size + 1) R)
      { s with heap := (s.heap.push PySem.W.emptyDict).push (PySem.W.instObj C s.heap.objs.size) }) :
    codeAny (model prog w) A (.call (.ref C) ⟨vs, kw⟩) R s := by
  obtain ⟨hh, g, d, t, os⟩ := s
  exact PySem.W.make_core (PySem.W.makes_of X hm) (PySem.W.looks_findIn X hi) (fun self => PySem.W.bind_fn X self hf) (.inl rfl) h
end
def putF (f : Str) (v : V) : List (Str × V) → List (Str × V)
  | [] => [(f, v)]
  | (g, x) :: r => if g = f then (g, v) :: r else (g, x) :: putF f v r
theorem lookup_putF (f g : Str) (v : V) : ∀ fs : List (Str × V), (putF f v fs).lookup g = if g = f then some v else fs.lookup g
  | [] => by
    show List.lookup g [(f, v)] = _
    by_cases h : g = f
    · have hb : (g == f) = true := beq_iff_eq.mpr h
      simp only [List.lookup, hb, if_pos h]
    · have hb : (g == f) = false := beq_eq_false_iff_ne.mpr h
      simp only [List.lookup, hb, if_neg h]
  | (k, x) :: r => by
    have ih := lookup_putF f g v r
    rw [show putF f v ((k, x) :: r) = (if k = f then (k, v) :: r else (k, x) :: putF f v r) from rfl]
    by_cases hk : k = f
    · rw [if_pos hk]
      by_cases h : g = k
      · have hb : (g == k) = true := beq_iff_eq.mpr h
        simp only [List.lookup, hb, if_pos (h.trans hk)]
      · have hb : (g == k) = false := beq_eq_false_iff_ne.mpr h
        simp only [List.lookup, hb, if_neg (fun e : g = f => h (e.trans hk.symm))]
    · rw [if_neg hk]
      by_cases h : g = k
      · have hb : (g == k) = true := beq_iff_eq.mpr h
        simp only [List.lookup, hb, if_neg (fun e : g = f => hk (h.symm.trans e))]
      · have hb : (g == k) = false := beq_eq_false_iff_ne.mpr h
        simp only [List.lookup, hb]
        exact ih
theorem keys_putF (f : Str) (v : V) : ∀ fs : List (Str × V), f ∈ (putF f v fs).map (·.1) ∧ ∀ g, g ∈ fs.map (·.1) → g ∈ (putF f v fs).map (·.1)
  | [] => ⟨by simp [putF], fun g h => by simp at h⟩
  | (k, x) :: r => by
    obtain ⟨i1, i2⟩ := keys_putF f v r
    rw [show putF f v ((k, x) :: r) = (if k = f then (k, v) :: r else (k, x) :: putF f v r) from rfl]
    by_cases hk : k = f
    · rw [if_pos hk]
      subst hk
      exact ⟨by simp, fun g h => by simpa using h⟩
    · rw [if_neg hk]
      refine ⟨?_, fun g h => ?_⟩
      · rw [List.map_cons]
        exact List.mem_cons_of_mem _ i1
      · rw [List.map_cons] at h ⊢
        rcases List.mem_cons.mp h with e | e
        · exact List.mem_cons.mpr (.inl e)
        · exact List.mem_cons_of_mem _ (i2 g e)
theorem length_putF (f : Str) (v : V) : ∀ fs : List (Str × V), (putF f v fs).length ≤ fs.length + 1
  | [] => by simp [putF]
  | (k, x) :: r => by
    have ih := length_putF f v r
    rw [show putF f v ((k, x) :: r) = (if k = f then (k, v) :: r else (k, x) :: putF f v r) from rfl]
    by_cases hk : k = f
    · rw [if_pos hk, List.length_cons, List.length_cons]; omega
    · rw [if_neg hk, List.length_cons, List.length_cons]; omega
theorem RelO.some_of {v : V} {o : Option Value} (r : RelO (some v) o) : ∃ u, o = some u ∧ RelV v u := by
  cases o with
  | none => exact (show False from r).elim
  | some u => exact ⟨u, rfl, r⟩
theorem RelO.none_of {o : Option Value} (r : RelO none o) : o = none := by
  cases o with
  | none => rfl
  | some u => exact (show False from r).elim
theorem handed_of {v : V} {u : Value} (r : RelV v u) : PySem.W.handedIn u = true := by
  cases v with
  | non => cases (show u = Value.none from r); rfl
  | bl b => cases (show u = Value.bool b from r); rfl
  | int i => obtain ⟨t, e⟩ := (show ∃ t, u = Value.int i t from r); cases e; rfl
  | str x => obtain ⟨t, e⟩ := (show ∃ t, u = Value.str x t from r); cases e; rfl
  | byt b => obtain ⟨t, e⟩ := (show ∃ t, u = Value.bytes b t from r); cases e; rfl
  | flt b => obtain ⟨t, e⟩ := (show ∃ t, u = Value.float b t from r); cases e; rfl
  | ref a => cases (show u = Value.ref a from r); rfl
  | ty n => cases (show u = Value.type n from r); rfl
section
variable {P : Program} {w : World} {H H' : Hp} {h h' : Heap} {a C dx : Addr} {fs fs' : List (Str × V)}
theorem ins_get (hok : HOk P w H h) (e : H a = some (.ins C dx fs)) : ∃ mA, ObjM h a dx C mA ∧ (∀ f, RelO (fs.lookup f) (mA f)) ∧ PySem.Within mA (fs.map (·.1)) ∧ fs.length ≤ 1000 ∧ H dx = some (.own a) := by
  obtain ⟨d, z, ne, ob, mA, n, r, q⟩ := (show ObjOk P w H h a (.ins C dx fs) from hok a _ e)
  exact ⟨mA, ⟨ob, n, ne⟩, r, q, z, d⟩
end
structure Cls (K : PySem.W.Frag) (C : Addr) : Prop where
  pg : PySem.W.plainGet K C Str.empty = true
  hd : PySem.W.hasDictIn K C = true
  po : PySem.W.plainOver K C = true
  sa : PySem.W.findIn K (.ref C) "__setattr__" = some (some (.builtin "object.__setattr__"))
theorem Cls.get {K : PySem.W.Frag} {C : Addr} (c : Cls K C) (f : Str) : PySem.W.plainGet K C f = true := c.pg
def NoAttr (K : PySem.W.Frag) (C : Addr) (f : Str) : Prop := PySem.W.findIn K (.ref C) f = some none
theorem NoAttr.taker {K : PySem.W.Frag} {C : Addr} {f : Str} (n : NoAttr K C f) : PySem.W.takerIn K C f = some none := by
  unfold PySem.W.takerIn
  rw [show PySem.W.findIn K (.ref C) f = some none from n]
  rfl
structure Con (K : PySem.W.Frag) (C : Addr) (f : Str) (v : V) (u : Value) : Prop where
  at_ : PySem.W.findIn K (.ref C) f = some (some u)
  rel : RelV v u
  get : PySem.W.specialIn K u "__get__" = some none
  cp : PySem.W.copiedNames.contains f = false
structure Meth (K : PySem.W.Frag) (C : Addr) (m : Str) (f : Addr) : Prop where
  at_ : PySem.W.findIn K (.ref C) m = some (some (.ref f))
  fn : PySem.W.isFn K (.ref f) = true
  kp : PySem.W.keepIn K (.ref f) = true
section
variable {X : Cx} {pins : List (Addr × Obj)} {σ : St} {H : Hp} {s : Shared} {a C dx : Addr} {fs : List (Str × V)} {f : Str} {v : V} {A : Around} {E : Value → Shared → Prop}
theorem getattr_ok {b : Bool} {Q : Value → Shared → Prop} (I : Inv X pins σ H s) (e : H a = some (.ins C dx fs)) (c : Cls X.K C) (n : NoAttr X.K C f) (l : fs.lookup f = some v)
    (h : ∀ u s', Inv X pins σ H s' → RelV v u → Q u s') : wpAny (model X.prog X.w) A (getAttr (.ref a) f b) Q E s := by
  obtain ⟨mA, O, r, _, _, _⟩ := ins_get I.hok e
  obtain ⟨u, hu, ru⟩ := RelO.some_of (v := v) (o := mA f) (by rw [← l]; exact r f)
  exact get_map I.kIn O (c.get f) c.hd n hu (handed_of ru) (h u _ (I.tok _) ru)
theorem getmeth_ok {m : Str} {g : Addr} {pl : Sem Bool} {Q : Value × List Value → Shared → Prop} (I : Inv X pins σ H s) (e : H a = some (.ins C dx fs)) (c : Cls X.K C) (k : Meth X.K C m g) (l : fs.lookup m = none)
    (h : Q (.ref g, [.ref a]) s) : wpAny (model X.prog X.w) A (getMethod (.ref a) m pl) Q E s := by
  obtain ⟨mA, O, r, _, _, _⟩ := ins_get I.hok e
  have hn : mA m = none := RelO.none_of (by rw [← l]; exact r m)
  exact get_meth I.kIn O (c.get m) k.at_ k.fn hn h
theorem setattr_ok {y : V} {u : Value} {Q : Unit → Shared → Prop} (I : Inv X pins σ H s) (e : H a = some (.ins C dx fs)) (c : Cls X.K C) (n : NoAttr X.K C f) (hl : fs.length < 1000) (ry : RelV y u)
    (h : ∀ s', Inv X pins σ (upd H a (.ins C dx (putF f y fs))) s' → Q () s') : wpAny (model X.prog X.w) A (setAttr (.ref a) f u) Q E s := by
  obtain ⟨mA, O, r, wi, _, ho⟩ := ins_get I.hok e
  have hz : (fs.map (·.1)).length ≤ sizeLine := by rw [List.length_map, sizeLine_eq]; omega
  refine set_map I.kIn O c.sa c.po n.taker c.hd wi hz fun h' O' sb => h _ ?_
  have hd : ∃ o, h'.get? dx = some o := let ⟨o, _, _, e', _⟩ := O'.ns; ⟨o, e'⟩
  refine I.write (x := a) (e := dx) (by rw [e]; exact True.intro) (.inr ho) (fun b q hb z => (sb.2 b hb).trans z) hd ?_
  refine ⟨by rw [upd_ne O.ne]; exact ho, ?_, O.ne, O'.obj, _, O'.ns, fun g => ?_, fun g hg => ?_⟩
  · have := length_putF f y fs; omega
  · show RelO ((putF f y fs).lookup g) (if g = f then some u else mA g)
    rw [lookup_putF]
    by_cases q : g = f
    · rw [if_pos q, if_pos q]; exact ry
    · rw [if_neg q, if_neg q]; exact r g
  · by_cases q : g = f
    · rw [q]; exact (keys_putF f y fs).1
    · refine (keys_putF f y fs).2 g (wi g fun z => hg ?_)
      show (if g = f then some u else mA g) = none
      rw [if_neg q]; exact z
theorem Inv.made (I : Inv X pins σ H s) : Inv X pins σ (upd (upd H s.heap.objs.size (.own (s.heap.objs.size + 1))) (s.heap.objs.size + 1) (.ins C s.heap.objs.size []))
    { s with heap := (s.heap.push PySem.W.emptyDict).push (PySem.W.instObj C s.heap.objs.size) } := by
  have e1 : (s.heap.push PySem.W.emptyDict).get? s.heap.objs.size = some PySem.W.emptyDict := Heap.get?_push_size s.heap rfl
  have e2 : ((s.heap.push PySem.W.emptyDict).push (PySem.W.instObj C s.heap.objs.size)).get? (s.heap.objs.size + 1) = some (PySem.W.instObj C s.heap.objs.size) := by
    have := Heap.get?_push_size (s.heap.push PySem.W.emptyDict) (o := PySem.W.instObj C s.heap.objs.size) rfl
    rwa [Heap.size_push] at this
  have e3 : (s.heap.push PySem.W.emptyDict).Ns s.heap.objs.size (fun _ => none) := ⟨PySem.W.emptyDict, #[], _, e1, rfl, (fun e he => absurd he (by simp)), fun _ => rfl⟩
  have I1 := I.laid (a := s.heap.objs.size) (o := .own (s.heap.objs.size + 1)) (h' := s.heap.push PySem.W.emptyDict) (t' := s.toks) (fun b u q => Heap.get?_push_of_some _ q) (Nat.le_refl _) ⟨_, e1⟩
  refine I1.laid (a := s.heap.objs.size + 1) (o := .ins C s.heap.objs.size []) (t' := s.toks) (fun b u q => Heap.get?_push_of_some _ q) (Nat.le_of_eq (Heap.size_push _ _)) ?_
  have ne : s.heap.objs.size ≠ s.heap.objs.size + 1 := Nat.ne_of_lt (Nat.lt_succ_self _)
  refine ⟨by rw [upd_ne ne, upd_same], Nat.zero_le _, ne, e2, fun _ => none, (Heap.Ns1.of_empty e3).at fun o q => Heap.get?_push_of_some _ q, fun _ => True.intro, fun y hy => absurd rfl hy⟩
theorem attr_of {prog : Program} {w : World} {env : Env} {e : Expr} {f : Str} {pos : Pos} {s : Shared} {Q : Value → Shared → Prop} (hb : attributeBase e f env (eval e env) = eval e env)
    (h : wpAny (model prog w) A (eval e env) (fun o s₁ => wpAny (model prog w) A (getAttr o f true) Q E s₁) E s) : wpAny (model prog w) A (eval (.Attribute e f pos) env) Q E s :=
  Attribute_any_ h (by rw [arm_eval_Attribute, hb])
end
def tFld (K : PySem.W.Frag) (ta : TE) (f : Str) : TE := fun σ H Q => ta σ H fun x H1 => ∃ a C dx fs v, x = .ref a ∧ H1 a = some (.ins C dx fs) ∧ Cls K C ∧ NoAttr K C f ∧ fs.lookup f = some v ∧ Q v H1
def sFld (K : PySem.W.Frag) (ta tv : TE) (f : Str) : TS := fun D σ H => tv σ H fun y H1 => ta σ H1 fun x H2 => ∃ a C dx fs, x = .ref a ∧ H2 a = some (.ins C dx fs) ∧ Cls K C ∧ NoAttr K C f ∧ fs.length < 1000 ∧
  D.nx σ (upd H2 a (.ins C dx (putF f y fs)))
section
variable {X : Cx} {o e value : Expr} {f : Str} {pos pos' tpos : Pos} {ta tv : TE}
theorem pe_fld (he : PE X e ta) (hb : attributeBase e f X.env (eval e X.env) = eval e X.env) : PE X (.Attribute e f pos) (tFld X.K ta f) := by
  intro pins s σ H Q I h
  refine attr_of hb (thn (he pins s σ H _ I h) fun u s1 ⟨x, H1, I1, rx, a, C, dx, fs, v, ex, ea, c, n, l, q⟩ => ?_)
  subst ex
  obtain rfl : u = Value.ref a := rx
  exact getattr_ok I1 ea c n l fun u' s2 I2 ru => ⟨v, H1, I2, ru, q⟩
theorem ps_fld (ha : PE X o ta) (hv : PE X value tv) (hs : swapsWith value (some (.Attribute o f pos')) pos.line X.env = pure false) : PS X (.Assign [.Attribute o f pos'] value pos) (sFld X.K ta tv f) := by
  intro pins s σ H D I h
  refine plainObj_wpAny_Assign_Attribute (thn (hv pins s σ H _ I h) fun u s1 ⟨y, H1, I1, ry, q⟩ => thn (ha pins s1 σ H1 _ I1 q) fun ov s2 ⟨x, H2, I2, rx, a, C, dx, fs, ex, ea, c, n, l, q2⟩ => ?_) hs
  subst ex
  obtain rfl : ov = Value.ref a := rx
  exact setattr_ok I2 ea c n l ry fun s3 I3 => ⟨σ, _, I3, q2⟩
end
section
variable {X : Cx} {pins : List (Addr × Obj)} {σ : St} {H : Hp} {s : Shared} {A : Around} {E : Value → Shared → Prop} {Q : Value → Shared → Prop} {c : Value} {b : Bool}
inductive TyOf (K : PySem.W.Frag) (H : Hp) : V → Value → Prop where
  | non : TyOf K H .non (.type "NoneType")
  | bl (x : Bool) : TyOf K H (.bl x) (.type "bool")
  | int (i : Int) : TyOf K H (.int i) (.type "int")
  | str (x : Str) : TyOf K H (.str x) (.type "str")
  | flt (x : UInt64) : TyOf K H (.flt x) (.type "float")
  | lst {a : Addr} {xs : List V} (e : H a = some (.lst xs)) : TyOf K H (.ref a) (.type "list")
  | frz {a : Addr} {o : Obj} {xs : List V} (e : H a = some (.frz o (.lst xs))) : TyOf K H (.ref a) (.type "list")
  | tup {a : Addr} {xs : List V} (e : H a = some (.tup xs)) : TyOf K H (.ref a) (.type "tuple")
  | dK {a : Addr} {kvs : List (Key × V)} (e : H a = some (.dK kvs)) : TyOf K H (.ref a) (.type "dict")
  | dT {a : Addr} {kvs : List (List Key × V)} (e : H a = some (.dT kvs)) : TyOf K H (.ref a) (.type "dict")
  | ins {a C dx : Addr} {fs : List (Str × V)} (e : H a = some (.ins C dx fs)) (cl : Cls K C) (ha : PySem.W.findIn K (.ref C) "__class__" = some (some (.builtin "object.__class__")))
      (hn : PySem.W.specialIn K (.builtin "object.__class__") "__get__" = some (some (.builtin "getset_descriptor.__get__"))) (htk : PySem.W.takesIn K (.builtin "object.__class__") = some true)
      (hm : PySem.W.mroIn K C (.type "object") = some true) : TyOf K H (.ref a) (.ref C)
theorem isinst_ok {x : V} {u t : Value} (I : Inv X pins σ H s) (rx : RelV x u) (ty : TyOf X.K H x t) (e : PySem.W.kitOne X.K t c = some b) (h : ∀ tk, Q (.bool b) { s with toks := tk }) :
    wpAny (model X.prog X.w) A (call (.builtin "isinstance") [u, c]) Q E s := by
  cases ty with
  | non => cases (show u = Value.none from rx); exact PySem.W.kia_one PySem.W.kitx_none I.kIn True.intro e (fun z => nomatch z) h
  | bl y => cases (show u = Value.bool y from rx); exact PySem.W.kia_one PySem.W.kitx_bool I.kIn True.intro e (fun z => nomatch z) h
  | int i => obtain ⟨t, q⟩ := (show ∃ t, u = Value.int i t from rx); cases q; exact PySem.W.kia_one PySem.W.kitx_int I.kIn True.intro e (fun z => nomatch z) h
  | str y => obtain ⟨t, q⟩ := (show ∃ t, u = Value.str y t from rx); cases q; exact PySem.W.kia_one PySem.W.kitx_str I.kIn True.intro e (fun z => nomatch z) h
  | flt y => obtain ⟨t, q⟩ := (show ∃ t, u = Value.float y t from rx); cases q; exact PySem.W.kia_one PySem.W.kitx_float I.kIn True.intro e (fun z => nomatch z) h
  | @lst a xs ea =>
    cases (show u = Value.ref a from rx)
    obtain ⟨_, _, n, _, h1⟩ := (show ObjOk X.prog X.w H s.heap a (.lst xs) from I.hok a _ ea)
    exact PySem.W.kia_one PySem.W.kitx_list I.kIn ⟨_, h1, rfl⟩ e (fun z => nomatch z) h
  | @frz a ob xs ea =>
    cases (show u = Value.ref a from rx)
    obtain ⟨_, _, _, n, _, h1⟩ := (show ObjOk X.prog X.w H s.heap a (.frz ob (.lst xs)) from I.hok a _ ea)
    exact PySem.W.kia_one PySem.W.kitx_list I.kIn ⟨_, h1, rfl⟩ e (fun z => nomatch z) h
  | @tup a xs ea =>
    cases (show u = Value.ref a from rx)
    obtain ⟨_, _, _, p⟩ := (show ObjOk X.prog X.w H s.heap a (.tup xs) from I.hok a _ ea)
    obtain ⟨o, h1, h2, _⟩ := p.1
    exact PySem.W.kia_one PySem.W.kitx_tuple I.kIn ⟨o, h1, h2⟩ e (fun z => nomatch z) h
  | @dK a kvs ea =>
    cases (show u = Value.ref a from rx)
    obtain ⟨_, _, vs, _, p⟩ := (show ObjOk X.prog X.w H s.heap a (.dK kvs) from I.hok a _ ea)
    obtain ⟨o, es, ep, h1, h2, _⟩ := p
    exact PySem.W.kia_one PySem.W.kitx_dict I.kIn ⟨o, h1, h2.1⟩ e (fun z => nomatch z) h
  | @dT a kvs ea =>
    cases (show u = Value.ref a from rx)
    obtain ⟨_, _, xs, _, o, es, ep, h1, h2, _⟩ := (show ObjOk X.prog X.w H s.heap a (.dT kvs) from I.hok a _ ea)
    exact PySem.W.kia_one PySem.W.kitx_dict I.kIn ⟨o, h1, h2.1⟩ e (fun z => nomatch z) h
  | @ins a C dx fs ea cl ha hn htk hm =>
    cases (show u = Value.ref a from rx)
    obtain ⟨mA, O, _⟩ := ins_get I.hok ea
    obtain ⟨od, J, _⟩ := O.look
    exact PySem.W.kia_one (PySem.W.kitx_own (cl.get _) cl.hd ha hn htk hm) I.kIn J e (fun z => nomatch z) h
end
structure Room (k : Nat) (A : Around) : Prop where
  hd : A.handled = none
  dp : A.depth + 3 * k + 5 < recursionLimit
  un : A.units + 16 * k + 200 < cLine
  gd : A.guards = some []
theorem Room.mono {j k : Nat} {A : Around} (r : Room k A) (h : j ≤ k) : Room j A := ⟨r.hd, by have := r.dp; omega, by have := r.un; omega, r.gd⟩
theorem Room.deeper {k : Nat} {A : Around} (r : Room (k + 1) A) (env : Env) : Room k (A.deeper env) :=
  ⟨r.hd, by have := r.dp; show A.depth + 1 + 3 * k + 5 < _; omega, by have := r.un; show A.units + 3 + 16 * k + 200 < _; omega, r.gd⟩
theorem make_depth {A : Around} {C : Addr} {us : List Value} {kw : List (Str × Value)} : (A.under (.builtin "type.__call__" ⟨.ref C :: us, kw⟩)).depth = A.depth + 1 := by
  first | rfl | simp [Around.under, Code.weight, Code.isCreation, Code.isGuard, Code.isCaller, Code.frames, Code.isFrame, guardIds]
theorem make_units {A : Around} {C : Addr} {us : List Value} {kw : List (Str × Value)} : (A.under (.builtin "type.__call__" ⟨.ref C :: us, kw⟩)).units = A.units + 1 := by
  first | rfl | simp [Around.under, Code.cUnits, Code.frames, Code.isFrame]
theorem make_guards {A : Around} {C : Addr} {us : List Value} {kw : List (Str × Value)} : (A.under (.builtin "type.__call__" ⟨.ref C :: us, kw⟩)).guards = A.guards := by
  have hg : (Code.builtin "type.__call__" ⟨.ref C :: us, kw⟩).guards = [] := by first | rfl | simp [Code.guards, Code.isGuard, guardIds]
  show pushGuards (Code.builtin "type.__call__" ⟨.ref C :: us, kw⟩).guards A.guards = A.guards
  rw [hg]
  cases A.guards <;> rfl
theorem Room.make {k : Nat} {A : Around} (r : Room (k + 1) A) (C : Addr) (us : List Value) (kw : List (Str × Value)) : Room k (A.under (.builtin "type.__call__" ⟨.ref C :: us, kw⟩)) :=
  ⟨r.hd, by have := r.dp; rw [make_depth]; omega, by have := r.un; rw [make_units]; omega, by rw [make_guards]; exact r.gd⟩
theorem Room.depth {k : Nat} {A : Around} (r : Room k A) : A.depth < recursionLimit := by have := r.dp; omega
theorem Room.units {k : Nat} {A : Around} (r : Room k A) : A.units + 64 < cLine := by have := r.un; omega
def tNil : TA := fun _ H Q => Q [] H
def tCons (ta : TE) (tr : TA) : TA := fun σ H Q => ta σ H fun x H1 => tr σ H1 fun xs H2 => Q (x :: xs) H2
section
variable {X : Cx} {e : Expr} {es : List Expr} {te : TE} {t : TA} {pos : Pos}
theorem pa_nil : PA X [] tNil := fun _ _ _ _ H Q I h => Calls.spliced_nil ⟨[], H, I, .nil, h⟩
theorem pa_cons (ha : PE X e te) (hr : PA X es t) (hs : starEach (e :: es) X.env = (false, eval e X.env) :: starEach es X.env := by rfl) : PA X (e :: es) (tCons te t) := by
  intro pos pins s σ H Q I h
  rw [hs]
  show wpAny _ _ (spliced ((false, eval e X.env) :: backTo pos (starEach es X.env))) _ _ s
  refine Calls.spliced_cons (thn (ha pins s σ H _ I h) fun u s1 ⟨x, H1, I1, r1, q1⟩ => ?_)
  exact thn (hr pos pins s1 σ H1 _ I1 q1) fun us s2 ⟨xs, H2, I2, r2, q2⟩ => ⟨x :: xs, H2, I2, .cons r1 r2, q2⟩
def tTup (t : TA) : TE := fun σ H Q => t σ H fun xs H1 => xs.length ≤ sizeLine ∧ ∀ p, H1 p = none → Q (.ref p) (upd H1 p (.tup xs))
def tLst (t : TA) : TE := fun σ H Q => t σ H fun xs H1 => xs.length ≤ sizeLine ∧ ∀ p, H1 p = none → Q (.ref p) (upd H1 p (.lst xs))
theorem pe_tup {x1} (h : PA X es t) : PE X (.Tuple es x1 pos) (tTup t) := by
  intro pins s σ H Q I hq
  refine wpAny_Tuple_spliced (thn (h pos pins s σ H _ I hq) fun us s1 ⟨xs, H1, I1, r, z, q⟩ => ⟨by rw [← r.length]; exact z, ?_⟩)
  have hf : H1 s1.heap.objs.size = none := I1.hok.fresh (Nat.le_refl _)
  refine ⟨.ref s1.heap.objs.size, upd H1 s1.heap.objs.size (.tup xs), I1.laid (t' := s1.toks) (fun b u e => Heap.get?_push_of_some _ e) (Nat.le_refl _) ?_, rfl, q _ hf⟩
  exact ⟨z, us, r, TupN.new _ _⟩
theorem pe_lst (h : PA X es t) : PE X (.List es pos) (tLst t) := by
  intro pins s σ H Q I hq
  refine wpAny_List_spliced (thn (h pos pins s σ H _ I hq) fun us s1 ⟨xs, H1, I1, r, z, q⟩ => ⟨by rw [← r.length]; exact z, ?_⟩)
  have hf : H1 s1.heap.objs.size = none := I1.hok.fresh (Nat.le_refl _)
  refine ⟨.ref s1.heap.objs.size, upd H1 s1.heap.objs.size (.lst xs), I1.laid (t' := s1.toks) (fun b u e => Heap.get?_push_of_some _ e) (Nat.le_refl _) ?_, rfl, q _ hf⟩
  exact ⟨z, us, 0, r, Heap.get?_push_size _ rfl⟩
end
abbrev Sp := List V → Hp → VK → XK → Prop
abbrev CXT := List Env → Hp → Shared → XK → Value → Shared → Prop
structure Env0 (P : Program) (w : World) (K : PySem.W.Frag) (mg : Str → Option Value) (base : Heap) (A : Around) (outer : List Env) (s : Shared) (H : Hp) : Prop where
  frames : A.frames = some outer
  mod : Mod K mg base
  bs : ∀ b o, base.get? b = some o → s.heap.get? b = some o ∧ H b = none
  bsz : base.objs.size ≤ s.heap.objs.size
  funs : s.heap.FunFrames base outer
  frf : ∀ b ∈ frs outer, H b = none
  hok : HOk P w H s.heap
  bare : AllBare s.gens
def CE (outer : List Env) (P : Program) (w : World) (H : Hp) (s : Shared) (Q : VK) (u : Value) (s' : Shared) : Prop :=
  ∃ v H', s'.os = s.os ∧ AllBare s'.gens ∧ Un (frs outer) [] H H' s.heap s'.heap ∧ HOk P w H' s'.heap ∧ RelV v u ∧ Q v H'
def CR (CX : CXT) (outer : List Env) (P : Program) (w : World) (H : Hp) (s : Shared) (Q : VK) (E : XK) (r : Result) (s' : Shared) : Prop :=
  match r with
  | .ok (.ret u) => CE outer P w H s Q u s'
  | .ok _ => False
  | .error e => CX outer H s E e s'
structure FnOk (P : Program) (w : World) (K : PySem.W.Frag) (mg : Str → Option Value) (base : Heap) (CX : CXT) (k : Nat) (f : Addr) (fd : FuncData) (ps : List Str) (sp : Sp) : Prop where
  len : ∀ vs H Q E, sp vs H Q E → vs.length = ps.length
  run : ∀ (A : Around) (outer : List Env) (s : Shared) (H : Hp) (args : Args) (us : List Value) (vs : List V) (Q : VK) (E : XK), Room k A → Env0 P w K mg base A outer s H → BindsTo s fd args (ps.zip us) → Vals vs us → sp vs H Q E →
    codeAny (model P w) A (.call (.ref f) args) (CR CX outer P w H s Q E) s
theorem Env0.make {P : Program} {w : World} {K : PySem.W.Frag} {mg : Str → Option Value} {base : Heap} {A : Around} {outer : List Env} {s : Shared} {H : Hp} (e : Env0 P w K mg base A outer s H) (C : Addr) (us : List Value) (kw : List (Str × Value)) :
    Env0 P w K mg base (A.under (.builtin "type.__call__" ⟨.ref C :: us, kw⟩)) outer s H := ⟨by first | exact e.frames | (simpa [Around.under, Code.envs, Code.isFrame, pushEnvs] using e.frames), e.mod, e.bs, e.bsz, e.funs, e.frf, e.hok, e.bare⟩
section
variable {X : Cx} {pins : List (Addr × Obj)} {σ : St} {H : Hp} {s s' : Shared}
theorem Inv.env0 (I : Inv X pins σ H s) : Env0 X.prog X.w X.K X.mg X.base X.A X.stack s H :=
  ⟨I.ok.frames, I.ok.mod, I.bs, Nat.le_trans I.ok.bsz I.sz, I.stack, I.stkFree, I.hok, I.bare⟩
theorem Inv.after {Q : VK} {u : Value} (I : Inv X pins σ H s) (h : CE X.stack X.prog X.w H s Q u s') : EP X pins σ Q u s' := by
  obtain ⟨v, H', os, bare, un, hok, r, q⟩ := h
  obtain ⟨hh, g, d, t, os'⟩ := s'
  obtain rfl : os' = s.os := os
  exact ⟨v, H', I.call (h' := hh) (g' := g) (d' := d) (t' := t) (ch := []) un hok bare (fun b z => absurd z (by simp)), r, q⟩
end
def tCall (sp : Sp) (dvs : List V) (E : XK) (t : TA) : TE := fun σ H Q => t σ H fun vs H1 => sp (vs ++ dvs) H1 Q E
def tMeth (C : Addr) (m : Str) (sp : Sp) (dvs : List V) (E : XK) (ta : TE) (t : TA) : TE := fun σ H Q => ta σ H fun x H1 => ∃ a dx fs, x = .ref a ∧ H1 a = some (.ins C dx fs) ∧ fs.lookup m = none ∧
  t σ H1 fun vs H2 => sp (x :: (vs ++ dvs)) H2 Q E
def tMake (C : Addr) (sp : Sp) (dvs : List V) (E : XK) (t : TA) : TE := fun σ H Q => t σ H fun vs H1 => ∀ x dx, H1 x = none → H1 dx = none → dx ≠ x →
  sp (.ref x :: (vs ++ dvs)) (upd (upd H1 dx (.own x)) x (.ins C dx [])) (fun v H2 => v = .non ∧ Q (.ref x) H2) E
def Binds (K : PySem.W.Frag) (fd : FuncData) (ps : List Str) (ds : List Value) : Prop :=
  ∀ (s : Shared) (us : List Value), K.In s.heap → (us ++ ds).length = ps.length → BindsTo s fd ⟨us, []⟩ (ps.zip (us ++ ds))
theorem Binds.all {K : PySem.W.Frag} {fd : FuncData} {ps : List Str} (h : ∀ us : List Value, us.length = ps.length → bindArgs fd ⟨us, []⟩ = pure (ps.zip us)) : Binds K fd ps [] := fun s us _ hl => by
  rw [List.append_nil] at hl ⊢
  exact .of_eq (h us hl)
def Passes (CX : CXT) (X : Cx) (E : XK) : Prop := ∀ (pins : List (Addr × Obj)) (σ : St) (H : Hp) (s : Shared) (e : Value) (s' : Shared), Inv X pins σ H s → CX X.stack H s E e s' → X.xe e s'
section
variable {X : Cx} {CX : CXT} {k : Nat} {f C : Addr} {fd : FuncData} {ps : List Str} {sp : Sp} {dvs : List V} {ds : List Value} {E : XK} {x m : Str} {p pos apos : Pos} {e o : Expr} {es : List Expr} {ta : TE} {t : TA}
theorem run_fn {pins : List (Addr × Obj)} {σ : St} {H : Hp} {s : Shared} {Q : VK} {us : List Value} {vs : List V} (F : FnOk X.prog X.w X.K X.mg X.base CX k f fd ps sp) (hr : Room k X.A) (hb : Binds X.K fd ps ds) (hd : Vals dvs ds) (hx : Passes CX X E)
    (I : Inv X pins σ H s) (r : Vals vs us) (h : sp (vs ++ dvs) H Q E) : wpAny (model X.prog X.w) X.A (call (.ref f) us) (EP X pins σ Q) X.xe s := by
  have r2 : Vals (vs ++ dvs) (us ++ ds) := r.append hd
  have hl : (us ++ ds).length = ps.length := by rw [← r2.length]; exact F.len _ _ _ _ h
  refine wpAny_call (codeAny_mono (F.run X.A X.stack s H ⟨us, []⟩ (us ++ ds) (vs ++ dvs) Q E hr I.env0 (hb s us I.kIn hl) r2 h) fun r s' hq => ?_)
  cases r with
  | error e => exact hx pins σ H s e s' I hq
  | ok fl =>
    cases fl with
    | ret u => exact I.after hq
    | next => exact False.elim hq
    | brk => exact False.elim hq
    | cont => exact False.elim hq
theorem pe_call (F : FnOk X.prog X.w X.K X.mg X.base CX k f fd ps sp) (hr : Room k X.A) (hg : Gl X x) (hm : X.mg x = some (.ref f)) (hk : PySem.W.keepIn X.K (.ref f) = true) (hb : Binds X.K fd ps ds) (hd : Vals dvs ds) (hx : Passes CX X E)
    (ha : PA X (e :: es) t) (hdb : (x == ("__debug__" : Str)) = false := by decide) (he : starEach (e :: es) X.env = (false, eval e X.env) :: starEach es X.env := by rfl) (hpl : (backTo pos (starEach es X.env)).any (·.1) = false := by rfl) :
    PE X (.Call (.Name x p) (e :: es) [] pos) (tCall sp dvs E t) := by
  intro pins s σ H Q I h
  refine wpAny_Call_Name_kw (ld_glob I hg hm ?_ hdb)
  refine PySem.W.callWith_K (h₀ := X.base) I.ok.mod.kin hk (thn (ha pos pins s σ H _ I h) fun us s1 ⟨vs, H1, I1, r, q⟩ => ⟨I1.kIn, ?_⟩) he hpl
  exact run_fn F hr hb hd hx I1 r q
theorem pe_meth {pl : Sem Bool} (he : PE X o ta) (c : Cls X.K C) (hm : Meth X.K C m f) (F : FnOk X.prog X.w X.K X.mg X.base CX k f fd ps sp) (hr : Room k X.A) (hb : Binds X.K fd ps ds) (hd : Vals dvs ds) (hx : Passes CX X E) (ha : PA X (e :: es) t)
    (hst : starEach (e :: es) X.env = (false, eval e X.env) :: starEach es X.env := by rfl) (hpl : (backTo pos (starEach es X.env)).any (·.1) = false := by rfl)
    (ht : eval (.Call (.Attribute o m apos) (e :: es) [] pos) X.env = (do
      let ov ← eval o X.env
      standAt apos.atName
      let (f, first) ← holding [ov] (getMethod ov m pl)
      callWith pos f first (backTo pos (starEach (e :: es) X.env)) (backToKw pos (keywordEach [] X.env))) := by rfl) :
    PE X (.Call (.Attribute o m apos) (e :: es) [] pos) (tMeth C m sp dvs E ta t) := by
  intro pins s σ H Q I h
  refine PySem.W.methodCall_KW (pl := pl) (thn (he pins s σ H _ I h) fun u s1 ⟨x, H1, I1, rx, a, dx, fs, ex, ea, l, q⟩ => ?_) ht
  subst ex
  obtain rfl : u = Value.ref a := rx
  refine getmeth_ok I1 ea c hm l ?_
  refine PySem.W.callWith_K (first := [.ref a]) (h₀ := X.base) I.ok.mod.kin hm.kp (thn (ha pos pins s1 σ H1 _ I1 q) fun us s2 ⟨vs, H2, I2, r, q2⟩ => ⟨I2.kIn, ?_⟩) hst hpl
  exact run_fn (us := .ref a :: us) (vs := .ref a :: vs) F hr hb hd hx I2 (.cons rfl r) q2
theorem pe_meth0 {pl : Sem Bool} (he : PE X o ta) (c : Cls X.K C) (hm : Meth X.K C m f) (F : FnOk X.prog X.w X.K X.mg X.base CX k f fd ps sp) (hr : Room k X.A) (hb : Binds X.K fd ps ds) (hd : Vals dvs ds) (hx : Passes CX X E)
    (ht : eval (.Call (.Attribute o m apos) [] [] pos) X.env = (do
      let ov ← eval o X.env
      standAt apos.atName
      let (f, first) ← holding [ov] (getMethod ov m pl)
      callWith pos f first (backTo pos (starEach [] X.env)) (backToKw pos (keywordEach [] X.env))) := by rfl) :
    PE X (.Call (.Attribute o m apos) [] [] pos) (tMeth C m sp dvs E ta tNil) := by
  intro pins s σ H Q I h
  refine PySem.W.methodCall_KW (pl := pl) (thn (he pins s σ H _ I h) fun u s1 ⟨x, H1, I1, rx, a, dx, fs, ex, ea, l, q⟩ => ?_) ht
  subst ex
  obtain rfl : u = Value.ref a := rx
  refine getmeth_ok I1 ea c hm l ?_
  exact PySem.W.callWith_K0 (first := [.ref a]) I1.kIn hm.kp (run_fn (us := [.ref a]) (vs := [.ref a]) F hr hb hd hx I1 (.cons rfl .nil) q)
structure Mk (K : PySem.W.Frag) (C f : Addr) : Prop where
  makes : PySem.W.makesIn K C = true
  init : PySem.W.findIn K (.ref C) "__init__" = some (some (.ref f))
  fn : PySem.W.isFn K (.ref f) = true
  kp : PySem.W.keepIn K (.ref C) = true
theorem run_make {pins : List (Addr × Obj)} {σ : St} {H : Hp} {s : Shared} {Q : VK} {us : List Value} {vs : List V} (M : Mk X.K C f) (F : FnOk X.prog X.w X.K X.mg X.base CX k f fd ps sp) (hr : Room (k + 1) X.A) (hb : Binds X.K fd ps ds) (hd : Vals dvs ds)
    (hx : Passes CX X E) (I : Inv X pins σ H s) (r : Vals vs us)
    (h : ∀ x dx, H x = none → H dx = none → dx ≠ x → sp (.ref x :: (vs ++ dvs)) (upd (upd H dx (.own x)) x (.ins C dx [])) (fun v H2 => v = .non ∧ Q (.ref x) H2) E) :
    wpAny (model X.prog X.w) X.A (call (.ref C) us) (EP X pins σ Q) X.xe s := by
  have hq := h (s.heap.objs.size + 1) s.heap.objs.size (I.hok.fresh (Nat.le_succ _)) (I.hok.fresh (Nat.le_refl _)) (Nat.ne_of_lt (Nat.lt_succ_self _))
  have I2 := Inv.made (C := C) I
  have r2 : Vals (V.ref (s.heap.objs.size + 1) :: (vs ++ dvs)) (Value.ref (s.heap.objs.size + 1) :: (us ++ ds)) := .cons rfl (r.append hd)
  have hl : (Value.ref (s.heap.objs.size + 1) :: us ++ ds).length = ps.length := by
    have e := r2.length
    rw [F.len _ _ _ _ hq] at e
    exact e.symm
  refine wpAny_call (make_map (f := f) I.kIn M.makes M.init (beq_iff_eq.mp M.fn) (codeAny_mono (F.run _ X.stack _ _ ⟨Value.ref (s.heap.objs.size + 1) :: us, []⟩ (Value.ref (s.heap.objs.size + 1) :: (us ++ ds)) _ _ E (hr.make C us [])
    (I2.env0.make C us []) (hb _ (Value.ref (s.heap.objs.size + 1) :: us) I2.kIn hl) r2 hq) fun r s' hq' => ?_))
  cases r with
  | error e => exact hx pins σ _ _ e s' I2 hq'
  | ok fl =>
    cases fl with
    | ret u =>
      obtain ⟨v, H', I3, rv, ev, q3⟩ := I2.after hq'
      subst ev
      exact ⟨rv, ⟨V.ref (s.heap.objs.size + 1), H', I3, rfl, q3⟩⟩
    | next => exact False.elim hq'
    | brk => exact False.elim hq'
    | cont => exact False.elim hq'
theorem pe_make (M : Mk X.K C f) (F : FnOk X.prog X.w X.K X.mg X.base CX k f fd ps sp) (hr : Room (k + 1) X.A) (hg : Gl X x) (hm : X.mg x = some (.ref C)) (hb : Binds X.K fd ps ds) (hd : Vals dvs ds) (hx : Passes CX X E)
    (ha : PA X (e :: es) t) (hdb : (x == ("__debug__" : Str)) = false := by decide) (he : starEach (e :: es) X.env = (false, eval e X.env) :: starEach es X.env := by rfl) (hpl : (backTo pos (starEach es X.env)).any (·.1) = false := by rfl) :
    PE X (.Call (.Name x p) (e :: es) [] pos) (tMake C sp dvs E t) := by
  intro pins s σ H Q I h
  refine wpAny_Call_Name_kw (ld_glob I hg hm ?_ hdb)
  refine PySem.W.callWith_K (h₀ := X.base) I.ok.mod.kin M.kp (thn (ha pos pins s σ H _ I h) fun us s1 ⟨vs, H1, I1, r, q⟩ => ⟨I1.kIn, ?_⟩) he hpl
  exact run_make M F hr hb hd hx I1 r q
end
section
variable {X : Cx} {CX : CXT} {k : Nat} {f C : Addr} {fd : FuncData} {ps ks : List Str} {sp : Sp} {E : XK} {x m : Str} {p pos apos kpos : Pos} {e o : Expr} {es : List Expr} {kws : List Keyword} {te ta : TE} {t tk : TA} {nm : Option Str}
structure KBinds (K : PySem.W.Frag) (fd : FuncData) (ps ks : List Str) (g : List Value → List Value → List Value) (gV : List V → List V → List V) : Prop where
  to : ∀ (s : Shared) (us ws : List Value), K.In s.heap → (g us ws).length = ps.length → BindsTo s fd ⟨us, ks.zip ws⟩ (ps.zip (g us ws))
  rel : ∀ {vs : List V} {us : List Value} {zs : List V} {ws : List Value}, Vals vs us → Vals zs ws → Vals (gV vs zs) (g us ws)
variable {g : List Value → List Value → List Value} {gV : List V → List V → List V}
end
structure FnScope (N P : List Str) (sc : Scope) : Prop where
  kind : sc.kind = .function
  co : sc.isCoroutine = false
  gen : sc.isGenerator = false
  nd : N.Nodup
  pre : N.take P.length = P
  par : ∀ x ∈ P, sc.names.lookup x = some .local ∨ sc.names.lookup x = some .cell
  nofree : ∀ y ∈ sc.names, y.2 ≠ .free
theorem bindL_out {kindOf : Str → Option NameKind} {x : Str} : ∀ {binds : List (Str × Value)} {m : Str → Option Value}, (∀ v, (x, v) ∉ binds) → bindL kindOf binds m x = m x
  | [], _, _ => rfl
  | (n, v) :: r, m, h => by
    unfold bindL
    rw [bindL_out fun w hw => h w (List.mem_cons_of_mem _ hw)]
    split
    · have : x ≠ n := by rintro rfl; exact h v List.mem_cons_self
      simp [this]
    · rfl
theorem bindC_out {kindOf : Str → Option NameKind} {x : Str} : ∀ {binds : List (Str × Value)} {m : Str → Option Value}, (∀ v, (x, v) ∉ binds) → bindC kindOf binds m x = m x
  | [], _, _ => rfl
  | (n, v) :: r, m, h => by
    unfold bindC
    rw [bindC_out fun w hw => h w (List.mem_cons_of_mem _ hw)]
    split
    · rfl
    · have : x ≠ n := by rintro rfl; exact h v List.mem_cons_self
      simp [this]
theorem bindL_get {kindOf : Str → Option NameKind} {x : Str} {v : Value} : ∀ {P : List Str} {vs : List Value} {i : Nat} {m : Str → Option Value}, P.Nodup → P[i]? = some x → vs[i]? = some v → kindOf x = some .local →
    bindL kindOf (P.zip vs) m x = some v
  | [], _, _, _, _, h, _, _ => by simp at h
  | _ :: _, [], _, _, _, _, h, _ => by simp at h
  | p :: P, w :: vs, 0, m, nd, h1, h2, hk => by
    simp at h1 h2; subst h1; subst h2
    show bindL kindOf ((p, w) :: P.zip vs) m p = _
    unfold bindL
    rw [bindL_out fun v hv => (List.nodup_cons.mp nd).1 (List.of_mem_zip hv).1, if_pos hk]
    simp
  | p :: P, w :: vs, i + 1, m, nd, h1, h2, hk => by
    show bindL kindOf ((p, w) :: P.zip vs) m x = _
    unfold bindL
    exact bindL_get (i := i) (List.nodup_cons.mp nd).2 (by simpa using h1) (by simpa using h2) hk
theorem bindC_get {kindOf : Str → Option NameKind} {x : Str} {v : Value} : ∀ {P : List Str} {vs : List Value} {i : Nat} {m : Str → Option Value}, P.Nodup → P[i]? = some x → vs[i]? = some v → kindOf x ≠ some .local →
    bindC kindOf (P.zip vs) m x = some v
  | [], _, _, _, _, h, _, _ => by simp at h
  | _ :: _, [], _, _, _, _, h, _ => by simp at h
  | p :: P, w :: vs, 0, m, nd, h1, h2, hk => by
    simp at h1 h2; subst h1; subst h2
    show bindC kindOf ((p, w) :: P.zip vs) m p = _
    unfold bindC
    rw [bindC_out fun v hv => (List.nodup_cons.mp nd).1 (List.of_mem_zip hv).1, if_neg hk]
    simp
  | p :: P, w :: vs, i + 1, m, nd, h1, h2, hk => by
    show bindC kindOf ((p, w) :: P.zip vs) m x = _
    unfold bindC
    exact bindC_get (i := i) (List.nodup_cons.mp nd).2 (by simpa using h1) (by simpa using h2) hk
def start (N : List Str) (vs : List V) : St := vs.map some ++ List.replicate (N.length - vs.length) none
def cxOf (CX : CXT) (P : Program) (w : World) (K : PySem.W.Frag) (mg : Str → Option Value) (base : Heap) (N : List Str) (qual : Str) (scope : Scope) (f : Addr) (cd : Value) (A : Around) (outer : List Env) (s : Shared) (H : Hp) (E : XK) : Cx where
  prog := P
  w := w
  K := K
  mg := mg
  base := base
  A := A.deeper (envOfC qual scope s.heap.objs.size f cd)
  N := N
  s₀ := s
  H₀ := H
  env := envOfC qual scope s.heap.objs.size f cd
  outer := outer
  stack := envOfC qual scope s.heap.objs.size f cd :: outer
  ex := []
  calm := true
  fn := fun _ => true
  pn := []
  xe := fun e s' => wpAny (model P w) (A.deeper (envOfC qual scope s.heap.objs.size f cd)) (leaving (envOfC qual scope s.heap.objs.size f cd) e) (fun _ s'' => CX outer H s E e s'') (fun e' s'' => CX outer H s E e' s'') s'
theorem cell_has {sc : Scope} {n : Nat} {x : Str} (h : sc.names.lookup x = some .cell) : ∃ c, (cellsFrom n sc.names []).lookup x = some c := by
  have q := PySem.W.cellsFrom_some sc.names n [] (.inl h)
  exact Option.isSome_iff_exists.mp q
theorem inv_start {CX : CXT} {P : Program} {w : World} {K : PySem.W.Frag} {mg : Str → Option Value} {base : Heap} {N ps : List Str} {qual : Str} {scope : Scope} {f : Addr} {cd : Value} {A : Around} {outer : List Env} {s s1 : Shared} {H : Hp} {E : XK} {us : List Value} {vs : List V}
    (S : FnScope N ps scope) (hd : A.handled = none) (e0 : Env0 P w K mg base A outer s H) (hl : vs.length = ps.length) (r : Vals vs us)
    (x : InCallC s s.heap.objs.size (bindL (envOfC qual scope s.heap.objs.size f cd).kindOf (ps.zip us) fun _ => none) (cellsFrom (s.heap.objs.size + 1) scope.names []) (bindC (envOfC qual scope s.heap.objs.size f cd).kindOf (ps.zip us) fun _ => none) s1) :
    Inv (cxOf CX P w K mg base N qual scope f cd A outer s H E) [] (start N vs) H s1 := by
  have hpl : ps.length ≤ N.length := by have := congrArg List.length S.pre; rw [List.length_take] at this; omega
  obtain ⟨h1, tk, rfl, hk⟩ := x.done
  have noA : ∀ b : Addr, b ∉ (cxOf CX P w K mg base N qual scope f cd A outer s H E).ex := fun b z => absurd (show b ∈ ([] : List Addr) from z) (by simp)
  refine ⟨⟨e0.mod, S.kind, rfl, rfl, Nat.le_refl _, fun y z c h1 h2 => ?_, fun y hy => ?_, fun y c _ h => ?_, fun _ => hd, Around.frames_deeper e0.frames, .inr ⟨rfl, rfl⟩, fun b z => absurd z (noA b), e0.bs, e0.bsz, fun b _ _ => noA b, fun b z => absurd z (noA b), e0.funs, e0.frf⟩,
    rfl, e0.bare, Un.kept hk, ⟨_, x.toInCall.ns, fun i y v h1 h2 h3 => ?_⟩, fun y c h => ⟨_, x.cell y c h⟩, e0.hok.fresh (Nat.le_refl _), fun y c h => ?_, fun p hp => absurd (show p ∈ ([] : List (Addr × Obj)) from hp) (by simp), e0.hok.kept hk, ?_⟩
  · exact name_of_addr x.apart (PySem.mem_of_lookup h1) (PySem.mem_of_lookup h2)
  · have hy : scope.names.lookup y = some .cell ∨ scope.names.lookup y = some .free := hy
    rcases hy with hy | hy
    · exact cell_has hy
    · exact absurd rfl (S.nofree _ (PySem.mem_of_lookup hy))
  · exact Nat.le_of_lt (x.above y c (PySem.mem_of_lookup h))
  · have hi : i < vs.length := by
      unfold start at h2
      by_cases hi : i < vs.length
      · exact hi
      · rw [List.getElem?_append_right (by simpa using hi)] at h2
        rw [List.getElem?_replicate] at h2
        split at h2 <;> cases h2
    have ha : vs[i]? = some v := by
      unfold start at h2
      rw [List.getElem?_append_left (by simpa using hi), List.getElem?_map] at h2
      cases e : vs[i]? with
      | none => rw [e] at h2; cases h2
      | some a => rw [e] at h2; cases h2; rfl
    obtain ⟨u, hu, rv⟩ := r.get ha
    have hp : ps[i]? = some y := by
      rw [← S.pre, List.getElem?_take_of_lt (by omega)]; exact h1
    have ndP : ps.Nodup := by rw [← S.pre]; exact S.nd.sublist (List.take_sublist _ _)
    refine ⟨u, rv, ?_⟩
    rcases S.par y (List.mem_of_getElem? hp) with k | k
    · exact .inl ⟨k, bindL_get ndP hp hu k⟩
    · obtain ⟨c, e⟩ := cell_has (n := s.heap.objs.size + 1) k
      refine .inr ⟨.inl k, c, e, ?_⟩
      have q := x.cell y c e
      rw [bindC_get ndP hp hu (by show scope.names.lookup y ≠ _; rw [k]; decide)] at q
      exact q
  · exact e0.hok.fresh (Nat.le_of_lt (x.above y c (PySem.mem_of_lookup h)))
  · unfold start
    show _ = N.length
    rw [List.length_append, List.length_map, List.length_replicate]
    omega
theorem fn_of {CX : CXT} {P : Program} {w : World} {K : PySem.W.Frag} {mg : Str → Option Value} {base : Heap} {k : Nat} {f : Addr} {name qual : Str} {params : Arguments} {body : List Stmt} {scope : Scope} {dV kV doc pm cdv ct oc : Value} {an od : Option Addr}
    {osl : Array (Option Value)} {N ps : List Str} {sp : Sp} (lk : K.lookup f = some ⟨oc, od, .func (PySem.W.fnOf name qual params body scope dV kV doc pm an cdv ct), osl⟩) (hcd : PySem.W.codeIn K cdv qual = true) (S : FnScope N ps scope)
    (len : ∀ vs H Q E, sp vs H Q E → vs.length = ps.length)
    (hbody : ∀ (A : Around) (outer : List Env) (s : Shared) (H : Hp) (vs : List V) (Q : VK) (E : XK), Room k (A.deeper (envOfC qual scope s.heap.objs.size f cdv)) → sp vs H Q E →
      ∃ t, PSs (cxOf CX P w K mg base N qual scope f cdv A outer s H E) body t ∧ t { nx := fun _ H' => Q .non H', rt := Q } (start N vs) H) :
    FnOk P w K mg base CX (k + 1) f (PySem.W.fnOf name qual params body scope dV kV doc pm an cdv ct) ps sp := by
  refine ⟨len, fun A outer s H args us vs Q E hr e0 hb r hsp => ?_⟩
  have hl := len _ _ _ _ hsp
  have KX : K.In s.heap := e0.mod.kin.keeps fun b o e => (e0.bs b o e).1
  have lim : s.heap.NoLimit := e0.mod.nolimit.keeps fun b o e => (e0.bs b o e).1
  have hkind : ∀ y ∈ ps.zip us, scope.names.lookup y.1 = some .local ∨ (scope.names.lookup y.1 = some .cell ∧ ((cellsFrom (s.heap.objs.size + 1) scope.names []).lookup y.1).isSome = true) := fun ⟨n, v⟩ hy => by
    rcases S.par n (List.of_mem_zip hy).1 with q | q
    · exact .inl q
    · exact .inr ⟨q, PySem.W.cellsFrom_some _ _ _ (.inl q)⟩
  refine codeAny_call_function hr.depth (KX _ _ lk) rfl S.co S.gen rfl (PySem.W.codeRec_of KX hcd) (hb _ _ _ _ ?_)
  refine wpAny_newFunctionEnv_cells S.kind hkind fun env he s1 x => ?_
  subst he
  refine ⟨lim.keeps x.toInCall.keep, codeAny_func ?_⟩
  obtain ⟨t, ht, hq⟩ := hbody A outer s H vs Q E (hr.deeper _) hsp
  have I : Inv (cxOf CX P w K mg base N qual scope f cdv A outer s H E) [] (start N vs) H s1 := inv_start S hr.hd e0 hl r x
  refine wpAny_mono (ht [] s1 (start N vs) H _ I hq) (fun fl s' hs => ?_) fun e s' hs => hs
  have fin : ∀ {σ' : St} {H' : Hp} {v : V} {u : Value}, Inv (cxOf CX P w K mg base N qual scope f cdv A outer s H E) [] σ' H' s' → RelV v u → Q v H' → CE outer P w H s Q u s' :=
    fun {σ' H' v u} J rv q => ⟨v, H', J.os, J.bare, J.base, J.hok, rv, q⟩
  cases fl with
  | ret u =>
    obtain ⟨v, σ', H', J, rv, q⟩ := hs
    exact fin J rv q
  | next =>
    obtain ⟨σ', H', J, q⟩ := hs
    exact fin (v := V.non) (u := Value.none) J rfl q
  | brk =>
    obtain ⟨_, _, _, q⟩ := hs
    exact False.elim q
  | cont =>
    obtain ⟨_, _, _, q⟩ := hs
    exact False.elim q
section
variable {X : Cx} {x : Str} {p pos : Pos} {e : Expr} {es : List Expr} {t : TA} {id T : String} {r : List V → Hp → VK → Prop}
def tCB (r : List V → Hp → VK → Prop) (t : TA) : TE := fun σ H Q => t σ H fun vs H1 => r vs H1 Q
theorem pe_callB (hc : CallR X (.builtin id) r) (hg : Gl X x) (hm : X.mg x = none) (hv : bootBuiltins x = some (.builtin id)) (ha : PA X (e :: es) t) (hn : x ≠ "__name__" := by decide) (hdb : (x == ("__debug__" : Str)) = false := by decide)
    (he : starEach (e :: es) X.env = (false, eval e X.env) :: starEach es X.env := by rfl) (hpl : (backTo pos (starEach es X.env)).any (·.1) = false := by rfl) : PE X (.Call (.Name x p) (e :: es) [] pos) (tCB r t) := by
  intro pins s σ H Q I h
  refine wpAny_Call_Name_kw (ld_blt I hg hm hv ?_ hn hdb)
  exact PyProof.Rows.callWith_builtin1 (thn (ha pos pins s σ H _ I h) fun us s1 ⟨vs, H1, I1, r1, q1⟩ => hc pins s1 σ H1 vs us Q I1 r1 q1) he hpl
theorem pe_callTy (hc : CallR X (.type T) r) (hg : Gl X x) (hm : X.mg x = none) (hv : bootBuiltins x = some (.type T)) (ha : PA X (e :: es) t) (hn : x ≠ "__name__" := by decide) (hdb : (x == ("__debug__" : Str)) = false := by decide)
    (he : starEach (e :: es) X.env = (false, eval e X.env) :: starEach es X.env := by rfl) (hpl : (backTo pos (starEach es X.env)).any (·.1) = false := by rfl) : PE X (.Call (.Name x p) (e :: es) [] pos) (tCB r t) := by
  intro pins s σ H Q I h
  refine wpAny_Call_Name_kw (ld_blt I hg hm hv ?_ hn hdb)
  exact PyProof.Rows.callWith_type1 (thn (ha pos pins s σ H _ I h) fun us s1 ⟨vs, H1, I1, r1, q1⟩ => hc pins s1 σ H1 vs us Q I1 r1 q1) he hpl
end
end L2
namespace HT
open PySem PyProof.Rows
section
open PySem.SeqAt
open PySem.AutoSeq1 (wpAny_loadPart')
open PySem.MeetsSeq PySem.MeetsSeq2 PySem.MeetsSeq3
end
section
variable {prog : Program} {w : World} {A : Around} {E : Value → Shared → Prop} {s : Shared}
theorem cat_tup {t b : Addr} {vs ws : List Value} {Q : Value → Shared → Prop} (ht : IsTup s.heap t vs.toArray) (hb : IsTup s.heap b ws.toArray) (hv : vs ≠ [])
    (h1 : ws = [] → Q (.ref t) s) (h2 : ws ≠ [] → Q (.ref s.heap.objs.size) { s with heap := s.heap.push { cls := .type "tuple", data := .seq (vs ++ ws).toArray } })
    (hsz : vs.length + ws.length ≤ sizeLine) : wpAny (model prog w) A (binaryOp .Add (.ref t) (.ref b)) Q E s := by
  obtain ⟨⟨cls, dd, data, sl⟩, ho, hc, n, hd⟩ := id ht
  obtain ⟨⟨cls2, dd2, data2, sl2⟩, ho2, hc2, n2, hd2⟩ := id hb
  simp only at hc hd hc2 hd2
  subst hc hd hc2 hd2
  have e : vs.toArray ++ ws.toArray = (vs ++ ws).toArray := by simp
  by_cases hw : ws = []
  · exact concat_meets ⟨_, ho, rfl⟩ ⟨_, ho2, rfl⟩ noFill_tuple_add seq_tuple_add PySem.F.slot_tuple_add PySem.F.entry_tuple_add (PySem.F.args_tuple_add_2 _ _)
      (tuple_addW1 t b vs.toArray ws.toArray n n2 dd dd2 sl sl2 (by simpa using hv) (by simp [hw])) ⟨ho, ho2, h1 hw⟩
  · refine concat_meets ⟨_, ho, rfl⟩ ⟨_, ho2, rfl⟩ noFill_tuple_add seq_tuple_add PySem.F.slot_tuple_add PySem.F.entry_tuple_add (PySem.F.args_tuple_add_2 _ _)
      (tuple_addW2 t b vs.toArray ws.toArray n n2 dd dd2 sl sl2 (by simpa using hv) (by simpa using hw) (by rw [List.size_toArray, List.size_toArray]; exact hsz)) ⟨ho, ho2, ?_⟩
    rw [e]
    exact h2 hw
def sIx (n d : Nat) : Option Int → Nat
  | none => d
  | some v => if v < 0 then (v + (n : Int)).toNat else min v.toNat n
theorem sIx_none (n d : Nat) : sIx n d none = d := rfl
theorem sIx_nat (n d k : Nat) : sIx n d (some (k : Int)) = min k n := by
  show (if (k : Int) < 0 then ((k : Int) + (n : Int)).toNat else min (k : Int).toNat n) = min k n
  rw [if_neg (by omega), Int.toNat_natCast]
theorem sIx_le (n d : Nat) (hd : d ≤ n) (o : Option Int) : sIx n d o ≤ n := by
  cases o with
  | none => exact hd
  | some v =>
    show (if v < 0 then (v + (n : Int)).toNat else min v.toNat n) ≤ n
    by_cases hv : v < 0
    · rw [if_pos hv]; omega
    · rw [if_neg hv]; exact Nat.min_le_right _ _
theorem clip_eq (v : Int) (n d : Nat) : (if v < 0 then max (v + (n : Int)) 0 else min v (n : Int)) = ((sIx n d (some v) : Nat) : Int) := by
  show (if v < 0 then max (v + (n : Int)) 0 else min v (n : Int)) = (((if v < 0 then (v + (n : Int)).toNat else min v.toNat n) : Nat) : Int)
  by_cases hv : v < 0
  · simp only [if_pos hv]; omega
  · simp only [if_neg hv]; omega
theorem adjust_gen (lo hi : Option Int) (n : Nat) : Builtin.Slice.sliceAdjust lo hi 1 (n : Int) = (((sIx n 0 lo : Nat) : Int), ((sIx n n hi : Nat) : Int)) := by
  have h1 : ¬ ((1 : Int) < 0) := by omega
  unfold Builtin.Slice.sliceAdjust
  simp only [h1, if_false]
  refine Prod.ext ?_ ?_
  · cases lo with
    | none => rfl
    | some v => exact clip_eq v n 0
  · cases hi with
    | none => rfl
    | some v => exact clip_eq v n n
theorem places_gen (i j : Nat) : Builtin.Slice.slicePlaces (i : Int) (j : Int) 1 = j - i := by
  unfold Builtin.Slice.slicePlaces
  have h1 : (1 : Int) > 0 := by omega
  simp only [h1, if_true, Int.ediv_one]
  split <;> omega
theorem slicePart_ {v : Value} {o : Option Int} {Q : Option Int → Shared → Prop} (p : IsPart v o) (h : Q o s) : wpAny (model prog w) A (Builtin.Slice.slicePartIndex v) Q E s := by
  cases p with
  | none => exact slicePart_none h
  | int i t => exact slicePart_int h
theorem sliceApplied_gen {sl : Addr} {vl vu : Value} {lo hi : Option Int} {n : Nat} {Q : Int × Int × Nat → Shared → Prop} (hs : s.heap.IsSliceOf sl vl vu .none) (pl : IsPart vl lo) (pu : IsPart vu hi)
    (h : Q (((sIx n 0 lo : Nat) : Int), 1, sIx n n hi - sIx n 0 lo) s) : wpAny (model prog w) A (Builtin.Slice.sliceApplied (.ref sl) (pure (n : Int))) Q E s := by
  obtain ⟨os, hos, hcs, hds⟩ := id hs
  unfold Builtin.Slice.sliceApplied Builtin.Slice.sliceFields
  refine wpAny_bind (wpAny_bind (wpAny_field hos hds (x := vl) rfl (wpAny_bind (wpAny_field hos hds (x := vu) rfl (wpAny_bind (wpAny_field hos hds (x := .none) rfl (wpAny_pure ?_)))))))
  refine wpAny_bind (slicePart_none ?_)
  show wpAny _ _ (if ((1 : Int) == 0) = true then _ else _) _ _ s
  rw [if_neg (by decide)]
  refine wpAny_bind (slicePart_ pl (wpAny_bind (slicePart_ pu (wpAny_bind (wpAny_pure ?_)))))
  show wpAny _ _ (match Builtin.Slice.sliceAdjust lo hi 1 (n : Int) with | (lo, hi) => pure (lo, (1 : Int), Builtin.Slice.slicePlaces lo hi 1)) _ _ s
  rw [adjust_gen lo hi n]
  show wpAny _ _ (pure (((sIx n 0 lo : Nat) : Int), (1 : Int), Builtin.Slice.slicePlaces ((sIx n 0 lo : Nat) : Int) ((sIx n n hi : Nat) : Int) 1)) _ _ s
  rw [places_gen]
  exact wpAny_pure h
theorem pick_gen (xs : Array Value) (i k : Nat) : ((List.range k).filterMap fun (m : Nat) => xs[((i : Int) + (m : Int) * 1).toNat]?).toArray = ((xs.toList.drop i).take k).toArray := by
  have e : (fun (m : Nat) => xs[((i : Int) + (m : Int) * 1).toNat]?) = fun m => xs[i + m]? := by
    funext m
    have : ((i : Int) + (m : Int) * 1).toNat = i + m := by omega
    rw [this]
  rw [e]
  have := pick_run xs i k
  rw [List.filterMap_map] at this
  have e2 : ((fun x => xs[x]?) ∘ fun x => i + x) = fun m => xs[i + m]? := rfl
  rw [e2] at this
  rw [this]
theorem getItem_tuple_cut {t sl : Addr} {items : Array Value} {vl vu : Value} {lo hi : Option Int} {Q : Value → Shared → Prop} (ht : IsTup s.heap t items) (hs : s.heap.IsSliceOf sl vl vu .none) (pl : IsPart vl lo) (pu : IsPart vu hi)
    (hw : ¬ (sIx items.size 0 lo = 0 ∧ sIx items.size items.size hi = items.size))
    (h : Q (.ref s.heap.objs.size) { s with heap := s.heap.push { cls := .type "tuple", data := .seq ((items.toList.drop (sIx items.size 0 lo)).take (sIx items.size items.size hi - sIx items.size 0 lo)).toArray } })
    (hsz : items.size ≤ sizeLine) : wpAny (model prog w) A (getItem (.ref t) (.ref sl)) Q E s := by
  have htake : sizeOk (.seq ((items.toList.drop (sIx items.size 0 lo)).take (sIx items.size items.size hi - sIx items.size 0 lo)).toArray) := by
    show ((items.toList.drop (sIx items.size 0 lo)).take (sIx items.size items.size hi - sIx items.size 0 lo)).toArray.size ≤ sizeLine
    rw [List.size_toArray, List.length_take, List.length_drop, Array.length_toList]
    omega
  have hj : sIx items.size items.size hi ≤ items.size := sIx_le _ _ (Nat.le_refl _) hi
  obtain ⟨os, hos, hcs, hds⟩ := id hs
  have hTs : s.TypeIs (.ref sl) "slice" := ⟨os, hos, hcs⟩
  unfold getItem
  try with_reducible refine wpAny_holding ?_
  first | refine wpAny_bind (wpAny_pure ?_) | skip
  refine wpAny_bind (wpAny_sequenceKey ht.typeIs (by decide) ?_)
  refine wpAny_bind (wpAny_callSpecial?_slot (name := Str.ofString "__getitem__") ht.typeIs PyProof.Rows.slot_tuple_getitem
    (wpAny_call_entry PyProof.Rows.slot_tuple_getitem ht.typeIs entry_tuple_getitem ?_ (args_tuple_getitem _ _)))
  show wpAny _ _ (Builtin.Tuple.tupleItemsOf (.ref t) >>= _) _ _ s
  refine wpAny_bind (tupleItemsOf_ ht ?_)
  refine wpAny_bind (wpAny_typeOf hTs ?_)
  rw [if_pos (by decide)]
  refine wpAny_bind (sliceApplied_gen hs pl pu ?_)
  have hno : ¬ ((((sIx items.size 0 lo : Nat) : Int) == 0 && (1 : Int) == 1 && (sIx items.size items.size hi - sIx items.size 0 lo) == items.size) = true) := by
    intro q
    rw [Bool.and_eq_true, Bool.and_eq_true] at q
    have q1 : ((sIx items.size 0 lo : Nat) : Int) = 0 := eq_of_beq q.1.1
    have q2 : sIx items.size items.size hi - sIx items.size 0 lo = items.size := eq_of_beq q.2
    exact hw ⟨by omega, by omega⟩
  show wpAny _ _ (if (((sIx items.size 0 lo : Nat) : Int) == 0 && (1 : Int) == 1 && (sIx items.size items.size hi - sIx items.size 0 lo) == items.size) = true then _ else _) _ _ s
  rw [if_neg hno, pick_gen]
  first
    | exact wpAny_bind (m := Builtin.Tuple.tupleExact _) (wpAny_newObj_type (wpAny_pure ⟨_, rfl, wpAny_pure h⟩) htake)
    | exact wpAny_bind (m := Builtin.Tuple.tupleExact _) (wpAny_newObj_type (wpAny_bind (wpAny_pure (wpAny_pure ⟨_, rfl, wpAny_pure h⟩))) htake)
    | exact wpAny_bind (wpAny_bind (m := Builtin.Tuple.tupleExact _) (wpAny_newObj_type (wpAny_pure (wpAny_pure ⟨_, rfl, wpAny_pure h⟩)) htake))
    | exact wpAny_bind (wpAny_bind (m := Builtin.Tuple.tupleExact _) (wpAny_newObj_type (wpAny_pure ⟨_, rfl, wpAny_pure h⟩) htake))
end
end HT
namespace L2
open PySem PySem.Spec PyProof.Rows
abbrev TO := St → Hp → (Option Int → Hp → Prop) → Prop
def PO (X : Cx) (e : Option Expr) (t : TO) : Prop :=
  ∀ (pins : List (Addr × Obj)) (s : Shared) (σ : St) (H : Hp) (Q : Option Int → Hp → Prop), Inv X pins σ H s → t σ H Q →
    wpAny (model X.prog X.w) X.A (evalPart e X.env) (fun u s' => ∃ o H', Inv X pins σ H' s' ∧ IsPart u o ∧ Q o H') X.xe s
def tNoPart : TO := fun _ H Q => Q none H
def tPart (t : TE) : TO := fun σ H Q => t σ H fun x H1 => ∃ i, x = .int i ∧ Q (some i) H1
theorem intsAre_of {ns : List Int} : ∀ {us : List Value}, Vals (ns.map V.int) us → IntsAre us ns := by
  induction ns with
  | nil => intro us r; rw [List.map_nil] at r; cases r; exact .nil
  | cons n ns ih =>
    intro us r
    rw [List.map_cons] at r
    cases r with
    | cons r1 r2 =>
      obtain ⟨t, e⟩ := r1
      subst e
      exact .cons n t (ih r2)
section
variable {X : Cx} {e : Expr} {te : TE} {lo hi : Option Expr} {tl th : TO} {pos p2 : Pos}
theorem po_none : PO X none tNoPart := by
  intro pins s σ H Q I h
  rw [evalPart_none]
  exact wpAny_pure ⟨none, H, I, .none, h⟩
theorem po_some (h : PE X e te) : PO X (some e) (tPart te) := by
  intro pins s σ H Q I hw
  rw [evalPart_some]
  refine thn (h pins s σ H _ I hw) fun u s1 ⟨x, H1, I1, r1, q1⟩ => ?_
  obtain ⟨i, rfl, q⟩ := q1
  obtain ⟨t, rfl⟩ := r1
  exact ⟨some i, H1, I1, .int i t, q⟩
def SlR (X : Cx) (r : V → Option Int → Option Int → Hp → VK → Prop) : Prop :=
  ∀ (pins : List (Addr × Obj)) (s : Shared) (σ : St) (H : Hp) (x : V) (v vl vu : Value) (lo hi : Option Int) (sl : Addr) (Q : VK), Inv X pins σ H s → RelV x v → s.heap.IsSliceOf sl vl vu .none → IsPart vl lo → IsPart vu hi → r x lo hi H Q →
    ∃ T id, typeLookup (.type T) "__getitem__" = pure (some (.builtin id)) ∧ s.TypeIs v T ∧ wpAny (model X.prog X.w) X.A (getItem v (.ref sl)) (EP X pins σ Q) X.xe s
theorem SlR.or {r r' : V → Option Int → Option Int → Hp → VK → Prop} (h : SlR X r) (h' : SlR X r') : SlR X (fun x lo hi H Q => r x lo hi H Q ∨ r' x lo hi H Q) := by
  intro pins s σ H x v vl vu lo hi sl Q I rx hs pl pu q
  rcases q with q | q
  · exact h pins s σ H x v vl vu lo hi sl Q I rx hs pl pu q
  · exact h' pins s σ H x v vl vu lo hi sl Q I rx hs pl pu q
def tSl (r : V → Option Int → Option Int → Hp → VK → Prop) (te : TE) (tl th : TO) : TE := fun σ H Q => te σ H fun x H1 => tl σ H1 fun l H2 => th σ H2 fun u H3 => r x l u H3 Q
theorem pe_slice {r : V → Option Int → Option Int → Hp → VK → Prop} (hr : SlR X r) (he : PE X e te) (hl : PO X lo tl) (hu : PO X hi th) : PE X (.Subscript e (.Slice lo hi none p2) pos) (tSl r te tl th) := by
  intro pins s σ H Q I h
  refine Subscript_ (thn (he pins s σ H _ I h) fun v s1 ⟨x, H1, I1, r1, q1⟩ => ?_)
  refine wpAny_Slice (thn (hl pins s1 σ H1 _ I1 q1) fun vl s2 ⟨l, H2, I2, pl, q2⟩ => thn (hu pins s2 σ H2 _ I2 q2) fun vu s3 ⟨u, H3, I3, pu, q3⟩ => ?_)
  rw [evalPart_none]
  refine wpAny_pure ?_
  have I4 : Inv X pins σ H3 { s3 with heap := s3.heap.push { cls := .type "slice", data := .fields #[vl, vu, .none] } } := I3.kept (t' := s3.toks) fun b ob q => Heap.get?_push_of_some _ q
  obtain ⟨T, id, hT, ht, hg⟩ := hr pins { s3 with heap := s3.heap.push { cls := .type "slice", data := .fields #[vl, vu, .none] } } σ H3 x v vl vu l u s3.heap.objs.size Q I4 r1 (Heap.IsSliceOf.new ..) pl pu q3
  show wpAny (model X.prog X.w) X.A (subscriptTail e (.Slice lo hi none p2) v (.ref s3.heap.objs.size)) (EP X pins σ Q) X.xe { s3 with heap := s3.heap.push { cls := .type "slice", data := .fields #[vl, vu, .none] } }
  exact tail_any (ops := [.ref s3.heap.objs.size, v]) ht hT hg (by with_unfolding_all rfl)
def cutV (xs : List V) (lo hi : Option Int) : List V := (xs.drop (HT.sIx xs.length 0 lo)).take (HT.sIx xs.length xs.length hi - HT.sIx xs.length 0 lo)
theorem cutV_length (xs : List V) (lo hi : Option Int) : (cutV xs lo hi).length ≤ xs.length := by
  unfold cutV
  rw [List.length_take, List.length_drop]
  omega
def rSlT (K : PySem.W.Frag) : V → Option Int → Option Int → Hp → VK → Prop := fun x lo hi H Q => ∃ a xs, x = .ref a ∧ SqT K H a xs ∧
  ¬ (HT.sIx xs.length 0 lo = 0 ∧ HT.sIx xs.length xs.length hi = xs.length) ∧ ∀ p, H p = none → Q (.ref p) (upd H p (.tup (cutV xs lo hi)))
theorem sl_tup : SlR X (rSlT X.K) := by
  intro pins s σ H x v vl vu lo hi sl Q I rx hs pl pu h
  obtain ⟨a, xs, rfl, hx, hw, q⟩ := h
  cases rx
  obtain ⟨its, r, ht, hz⟩ := I.tuple hx
  have hlen : its.toArray.size = xs.length := by rw [List.size_toArray]; exact r.length.symm
  refine ⟨"tuple", _, PyProof.Rows.slot_tuple_getitem.lookup, ht.typeIs, ?_⟩
  refine HT.getItem_tuple_cut ht hs pl pu (by rw [hlen]; exact hw) ?_ (by rw [hlen]; exact hz)
  rw [hlen]
  refine ⟨.ref s.heap.objs.size, _, I.laid (t' := s.toks) (o := .tup (cutV xs lo hi)) (fun b ob q => Heap.get?_push_of_some _ q) (Nat.le_refl _) ?_, rfl, q _ (I.hok.fresh (Nat.le_refl _))⟩
  exact ⟨Nat.le_trans (cutV_length xs lo hi) hz, _, (r.drop (HT.sIx xs.length 0 lo)).take (HT.sIx xs.length xs.length hi - HT.sIx xs.length 0 lo), TupN.new _ _⟩
end
def ixN (n : Nat) (i : Int) : Option Nat := if 0 ≤ i then (if i < n then some i.toNat else none) else if -(n : Int) ≤ i then some (i + n).toNat else none
def atI {α : Type} (xs : List α) (i : Int) : Option α := (ixN xs.length i).bind fun j => xs[j]?
theorem ixN_seq {n : Nat} {i : Int} {j : Nat} (h : ixN n i = some j) : seqIndex? i n = some j ∧ j < n ∧ -(n : Int) ≤ i ∧ i < n := by
  unfold ixN at h
  by_cases h0 : 0 ≤ i
  · rw [if_pos h0] at h
    by_cases h1 : i < n
    · rw [if_pos h1] at h
      have e : i.toNat = j := Option.some.inj h
      exact ⟨by rw [seqIndex_of h0 h1, e], by omega, by omega, h1⟩
    · rw [if_neg h1] at h; cases h
  · rw [if_neg h0] at h
    by_cases h1 : -(n : Int) ≤ i
    · rw [if_pos h1] at h
      have e : (i + n).toNat = j := Option.some.inj h
      exact ⟨by rw [seqIndex_neg (by omega) h1, e], by omega, h1, by omega⟩
    · rw [if_neg h1] at h; cases h
theorem atI_get {α : Type} {xs : List α} {i : Int} {v : α} (h : atI xs i = some v) : ∃ j, seqIndex? i xs.length = some j ∧ xs[j]? = some v ∧ j < xs.length ∧ -(xs.length : Int) ≤ i ∧ i < xs.length := by
  unfold atI at h
  cases e : ixN xs.length i with
  | none => rw [e] at h; cases h
  | some j =>
    rw [e] at h
    obtain ⟨h1, h2, h3, h4⟩ := ixN_seq e
    exact ⟨j, h1, h, h2, h3, h4⟩
theorem atI_nat {α : Type} {xs : List α} {j : Nat} {v : α} (h : xs[j]? = some v) : atI xs (j : Int) = some v := by
  have hj : j < xs.length := (List.getElem?_eq_some_iff.mp h).1
  have e : ixN xs.length (j : Int) = some j := by
    unfold ixN
    rw [if_pos (by omega), if_pos (by omega)]; simp
  unfold atI; rw [e]; exact h
def PlainIx (b : Expr) : Prop := ∀ o i, subscripted b false o i = operate [o, i] (getItem o i)
def IxR (X : Cx) (r : R2) : Prop :=
  ∀ (value slice : Expr) (pins : List (Addr × Obj)) (s : Shared) (σ : St) (H : Hp) (x y : V) (v u : Value) (Q : VK), Inv X pins σ H s → RelV x v → RelV y u → r x y H Q →
    subscripted slice false v u = operate [v, u] (getItem v u) → wpAny (model X.prog X.w) X.A (subscriptTail value slice v u) (EP X pins σ Q) X.xe s
def MtR (X : Cx) (id : String) (r : V → List V → Hp → VK → Prop) : Prop :=
  ∀ (pins : List (Addr × Obj)) (s : Shared) (σ : St) (H : Hp) (x : V) (xs : List V) (v : Value) (us : List Value) (Q : VK), Inv X pins σ H s → RelV x v → Vals xs us → r x xs H Q →
    wpAny (model X.prog X.w) X.A (call (.builtin id) (v :: us)) (EP X pins σ Q) X.xe s
section
variable {X : Cx} {a b : Expr} {ta tb : TE} {pos : Pos}
theorem IxR.or {r r' : R2} (h : IxR X r) (h' : IxR X r') : IxR X (fun x y H Q => r x y H Q ∨ r' x y H Q) := by
  intro value slice pins s σ H x y v u Q I rx ry q hs
  rcases q with q | q
  · exact h value slice pins s σ H x y v u Q I rx ry q hs
  · exact h' value slice pins s σ H x y v u Q I rx ry q hs
theorem pe_ix {r : R2} (hr : IxR X r) (ha : PE X a ta) (hb : PE X b tb) (hs : PlainIx b) : PE X (.Subscript a b pos) (tOp r ta tb) := by
  intro pins s σ H Q I h
  exact Subscript_ (binT ha hb I h fun v u s2 x y H2 I2 rx ry q => hr a b pins s2 σ H2 x y v u Q I2 rx ry q (hs _ _))
def rIxL (K : PySem.W.Frag) : R2 := fun x y H Q => ∃ p xs i v, x = .ref p ∧ y = .int i ∧ SqL K H p xs ∧ atI xs i = some v ∧ Q v H
def rIxT (K : PySem.W.Frag) : R2 := fun x y H Q => ∃ p xs i v, x = .ref p ∧ y = .int i ∧ SqT K H p xs ∧ atI xs i = some v ∧ Q v H
def rIxS : R2 := fun x y H Q => ∃ z i c, x = .str z ∧ y = .int i ∧ z.length ≤ sizeLine ∧ atI z.cps.toList i = some c ∧ Q (.str ⟨#[c]⟩) H
theorem ix_list : IxR X (rIxL X.K) := by
  intro value slice pins s σ H x y v u Q I rx ry h hs
  obtain ⟨p, xs, i, z, rfl, rfl, hq, he, q⟩ := h
  cases rx
  obtain ⟨t, rfl⟩ := ry
  obtain ⟨its, r, pl, hz⟩ := I.list hq
  obtain ⟨j, h1, h2, h3, h4, h5⟩ := atI_get he
  obtain ⟨w, ew, rw'⟩ := r.get h2
  have hl := r.length
  have hn := line63
  have fin : EP X pins σ Q w s := ⟨z, H, I, rw', q⟩
  by_cases h0 : 0 ≤ i
  · have hj : i.toNat = j := by
      rw [seqIndex_of h0 h5] at h1
      exact Option.some.inj h1
    exact item_listR pl.isList h0 (by omega) (by rw [hj]; simpa using ew) fin hs
  · have hj : (i + (its.toArray.size : Int)).toNat = j := by
      rw [seqIndex_neg (by omega) h4] at h1
      rw [List.size_toArray, ← hl]
      exact Option.some.inj h1
    exact subscriptTail_builtinR (x := w) pl.isList.typeIs slot_list_getitem.lookup
      (wpAny_getItem_list_neg (Q := fun r s' => r = w ∧ EP X pins σ Q r s') pl.isList (by omega) (by rw [List.size_toArray] <;> omega) (by omega) (by rw [hj]; simpa using ew) ⟨rfl, fin⟩) hs
theorem ix_tup : IxR X (rIxT X.K) := by
  intro value slice pins s σ H x y v u Q I rx ry h hs
  obtain ⟨p, xs, i, z, rfl, rfl, hq, he, q⟩ := h
  cases rx
  obtain ⟨t, rfl⟩ := ry
  obtain ⟨its, r, pl, hz⟩ := I.tuple hq
  obtain ⟨j, h1, h2, h3, h4, h5⟩ := atI_get he
  obtain ⟨w, ew, rw'⟩ := r.get h2
  have hl := r.length
  have hn := line63
  have fin : EP X pins σ Q w s := ⟨z, H, I, rw', q⟩
  exact subscriptTail_builtinR (x := w) pl.typeIs slot_tuple_getitem.lookup
    (getItem_tuple (j := j) (Q := fun r s' => r = w ∧ EP X pins σ Q r s') pl (by omega) (by omega) (by rw [List.size_toArray, ← hl]; exact h1) (by simpa using ew) ⟨rfl, fin⟩) hs
theorem ix_str : IxR X rIxS := by
  intro value slice pins s σ H x y v u Q I rx ry h hs
  obtain ⟨z, i, c, rfl, rfl, hz, he, q⟩ := h
  obtain ⟨t, rfl⟩ := rx
  obtain ⟨t', rfl⟩ := ry
  obtain ⟨j, h1, h2, h3, h4, h5⟩ := atI_get he
  have hl : z.cps.toList.length = z.length := by simp [Str.length]
  rw [hl] at h1 h4 h5
  have hn := line63
  exact tail_any (typeIs_str s z t) slot_str_getitem.lookup (getItem_str (c := c) (by
    have e1 : decide (i < -(2 ^ 63 : Int)) = false := decide_eq_false (by omega)
    have e2 : decide (i ≥ 2 ^ 63) = false := decide_eq_false (by omega)
    rw [e1, e2, Bool.or_false]) (by rw [h1]; simpa using h2) ⟨.str ⟨#[c]⟩, H, I.tok _, ⟨_, rfl⟩, q⟩) hs
def rIx (K : PySem.W.Frag) : R2 := fun x y H Q => rIxL K x y H Q ∨ rIxT K x y H Q ∨ rIxS x y H Q
theorem ix_seq : IxR X (rIx X.K) := ix_list.or (ix_tup.or ix_str)
theorem slice_bounds (lo hi : Option Int) (n : Nat) : (sliceBounds lo hi none n).1 = ((HT.sIx n 0 lo : Nat) : Int) ∧ (sliceBounds lo hi none n).2.1 = ((HT.sIx n n hi : Nat) : Int) ∧ (sliceBounds lo hi none n).2.2 = 1 := by
  refine ⟨?_, ?_, rfl⟩
  · cases lo with
    | none => simp [sliceBounds, HT.sIx]
    | some i =>
      simp only [sliceBounds, HT.sIx, Option.getD_none, show (1 : Int) > 0 by decide, if_true]
      by_cases h : i < 0
      · simp only [h, if_true] <;> omega
      · simp only [h, if_false] <;> omega
  · cases hi with
    | none => simp [sliceBounds, HT.sIx]
    | some i =>
      simp only [sliceBounds, HT.sIx, Option.getD_none, show (1 : Int) > 0 by decide, if_true]
      by_cases h : i < 0
      · simp only [h, if_true] <;> omega
      · simp only [h, if_false] <;> omega
theorem slicePick_cut (its : List Value) (lo hi : Option Int) : slicePick its.toArray lo hi none = ((its.drop (HT.sIx its.length 0 lo)).take (HT.sIx its.length its.length hi - HT.sIx its.length 0 lo)).toArray := by
  obtain ⟨h1, h2, h3⟩ := slice_bounds lo hi its.toArray.size
  unfold slicePick
  rw [h1, h2, h3]
  simp only [sliceRange_one, pick_run, List.size_toArray] <;> rfl
def rSlL (K : PySem.W.Frag) : V → Option Int → Option Int → Hp → VK → Prop := fun x lo hi H Q => ∃ a xs, x = .ref a ∧ SqL K H a xs ∧ ∀ p, H p = none → Q (.ref p) (upd H p (.lst (cutV xs lo hi)))
theorem sl_list : SlR X (rSlL X.K) := by
  intro pins s σ H x v vl vu lo hi sl Q I rx hs pl pu h
  obtain ⟨a, xs, rfl, hx, q⟩ := h
  cases rx
  obtain ⟨its, r, ht, hz⟩ := I.list hx
  have hlen := r.length
  refine ⟨"list", _, slot_list_getitem.lookup, ht.isList.typeIs, ?_⟩
  refine wpAny_getItem_list_slice ht.isList hs pl pu .none (by simp) ?_ (by rw [List.size_toArray] <;> omega)
  rw [slicePick_cut, ← hlen]
  refine ⟨.ref s.heap.objs.size, _, I.laid (t' := s.toks) (o := .lst (cutV xs lo hi)) (fun b ob q => Heap.get?_push_of_some _ q) (Nat.le_refl _) ?_, rfl, q _ (I.hok.fresh (Nat.le_refl _))⟩
  exact ⟨Nat.le_trans (cutV_length xs lo hi) hz, _, 0, (r.drop (HT.sIx xs.length 0 lo)).take (HT.sIx xs.length xs.length hi - HT.sIx xs.length 0 lo), Heap.get?_push_size _ rfl⟩
def flatV : V → Bool
  | .non => true
  | .bl _ => true
  | .int _ => true
  | .str _ => true
  | _ => false
def eqV : V → V → Bool
  | .non, .non => true
  | .bl a, .bl b => a == b
  | .bl a, .int b => (if a then 1 else 0) == b
  | .int a, .bl b => a == (if b then 1 else 0)
  | .int a, .int b => a == b
  | .str a, .str b => a == b
  | _, _ => false
theorem eqAt_V {A : Around} {s : Shared} {y x : V} {u v : Value} (ry : RelV y u) (rx : RelV x v) (fy : flatV y = true) (fx : flatV x = true) : SeqAt.EqAt A s u v (eqV y x) := by
  cases y with
  | non =>
    cases ry
    cases x with
    | non => cases rx; exact SeqAt.EqAt.same _
    | bl b => cases rx; exact SeqAt.EqAt.none_bool b
    | int b => obtain ⟨t, rfl⟩ := rx; exact SeqAt.EqAt.none_int b t
    | str b => obtain ⟨t, rfl⟩ := rx; exact SeqAt.EqAt.none_str b t
    | _ => exact absurd (show false = true from fx) Bool.false_ne_true
  | bl a =>
    cases ry
    cases x with
    | non => cases rx; exact SeqAt.EqAt.bool_none a
    | bl b => cases rx; exact SeqAt.EqAt.bool_bool a b
    | int b => obtain ⟨t, rfl⟩ := rx; exact SeqAt.EqAt.bool_int a b t
    | str b => obtain ⟨t, rfl⟩ := rx; exact SeqAt.EqAt.bool_str a b t
    | _ => exact absurd (show false = true from fx) Bool.false_ne_true
  | int a =>
    obtain ⟨t', rfl⟩ := ry
    cases x with
    | non => cases rx; exact SeqAt.EqAt.int_none a t'
    | bl b => cases rx; exact SeqAt.EqAt.int_bool a t' b
    | int b => obtain ⟨t, rfl⟩ := rx; exact SeqAt.EqAt.int_int a t' b t
    | str b => obtain ⟨t, rfl⟩ := rx; exact SeqAt.EqAt.int_str a t' b t
    | _ => exact absurd (show false = true from fx) Bool.false_ne_true
  | str a =>
    obtain ⟨t', rfl⟩ := ry
    cases x with
    | non => cases rx; exact SeqAt.EqAt.str_none a t'
    | bl b => cases rx; exact SeqAt.EqAt.str_bool a t' b
    | int b => obtain ⟨t, rfl⟩ := rx; exact SeqAt.EqAt.str_int a t' b t
    | str b => obtain ⟨t, rfl⟩ := rx; exact SeqAt.EqAt.str_str a t' b t
    | _ => exact absurd (show false = true from fx) Bool.false_ne_true
  | _ => exact absurd (show false = true from fy) Bool.false_ne_true
def eqU (x : V) (u : Value) : Bool := match u with
  | .none => eqV .non x
  | .bool b => eqV (.bl b) x
  | .int i _ => eqV (.int i) x
  | .str z _ => eqV (.str z) x
  | _ => false
theorem eqU_of {x y : V} {u : Value} (r : RelV y u) (f : flatV y = true) : eqU x u = eqV y x := by
  cases y with
  | non => cases r; rfl
  | bl b => cases r; rfl
  | int i => obtain ⟨t, rfl⟩ := r; rfl
  | str z => obtain ⟨t, rfl⟩ := r; rfl
  | _ => exact absurd (show false = true from f) Bool.false_ne_true
theorem any_eqU {x : V} : ∀ {xs : List V} {us : List Value}, Vals xs us → xs.all flatV = true → us.any (eqU x) = xs.any fun y => eqV y x
  | _, _, .nil, _ => rfl
  | y :: xs, u :: us, .cons r t, f => by
    rw [List.all_cons, Bool.and_eq_true] at f
    rw [List.any_cons, List.any_cons, eqU_of r f.1, any_eqU t f.2]
theorem mem_eqAt {A : Around} {s : Shared} {x : V} {v : Value} (rx : RelV x v) (fx : flatV x = true) : ∀ {xs : List V} {us : List Value}, Vals xs us → xs.all flatV = true → ∀ u ∈ us, SeqAt.EqAt A s u v (eqU x u)
  | _, _, .nil, _ => fun u hu => by cases hu
  | y :: xs, u :: us, .cons r t, f => fun u' hu => by
    rw [List.all_cons, Bool.and_eq_true] at f
    rcases List.mem_cons.mp hu with rfl | hu
    · rw [eqU_of r f.1]; exact eqAt_V r rx f.1 fx
    · exact mem_eqAt rx fx t f.2 u' hu
def inV (x : V) (xs : List V) : Bool := xs.any fun y => eqV y x
def rIn (K : PySem.W.Frag) (neg : Bool) : R2 := fun x y H Q => ∃ p xs, y = .ref p ∧ (SqL K H p xs ∨ SqT K H p xs) ∧ flatV x = true ∧ xs.all flatV = true ∧ Q (.bl (if neg then !inV x xs else inV x xs)) H
theorem op_in_seq : OpR X (compareOp .In) (rIn X.K false) := by
  intro pins s σ H x y v u Q I rx ry h
  obtain ⟨p, xs, rfl, hq, fx, fs, q⟩ := h
  cases ry
  rcases hq with hq | hq
  · obtain ⟨its, r, pl, hz⟩ := I.list hq
    refine SeqAt.in_listAt (eqU x) pl.isList (fun w hw => mem_eqAt rx fx r fs w (by simpa using hw)) ⟨.bl _, H, I, rfl, ?_⟩
    rw [show its.toArray.any (eqU x) = its.any (eqU x) by simp, any_eqU r fs]
    exact q
  · obtain ⟨its, r, pl, hz⟩ := I.tuple hq
    refine SeqAt.in_tupleAt (eqU x) pl (fun w hw => mem_eqAt rx fx r fs w (by simpa using hw)) ⟨.bl _, H, I, rfl, ?_⟩
    rw [show its.toArray.any (eqU x) = its.any (eqU x) by simp, any_eqU r fs]
    exact q
theorem op_notIn_seq : OpR X (compareOp .NotIn) (rIn X.K true) := by
  intro pins s σ H x y v u Q I rx ry h
  obtain ⟨p, xs, rfl, hq, fx, fs, q⟩ := h
  cases ry
  rcases hq with hq | hq
  · obtain ⟨its, r, pl, hz⟩ := I.list hq
    refine SeqAt.notIn_listAt (eqU x) pl.isList (fun w hw => mem_eqAt rx fx r fs w (by simpa using hw)) ⟨.bl _, H, I, rfl, ?_⟩
    rw [show its.toArray.any (eqU x) = its.any (eqU x) by simp, any_eqU r fs]
    exact q
  · obtain ⟨its, r, pl, hz⟩ := I.tuple hq
    refine SeqAt.notIn_tupleAt (eqU x) pl (fun w hw => mem_eqAt rx fx r fs w (by simpa using hw)) ⟨.bl _, H, I, rfl, ?_⟩
    rw [show its.toArray.any (eqU x) = its.any (eqU x) by simp, any_eqU r fs]
    exact q
theorem call_len_str : CallR X (.builtin "len") (fun xs H Q => ∃ z, xs = [.str z] ∧ z.length ≤ sizeLine ∧ Q (.int z.length) H) := by
  intro pins s σ H xs us Q I r h
  obtain ⟨z, rfl, hz, q⟩ := h
  obtain ⟨u, rfl, t, rfl⟩ := vals1 r
  have hn := line63
  exact len_str (by omega) ⟨.int z.length, H, I.tok _, ⟨_, rfl⟩, q⟩
theorem CallR.or {f : Value} {r r' : List V → Hp → VK → Prop} (h : CallR X f r) (h' : CallR X f r') : CallR X f (fun xs H Q => r xs H Q ∨ r' xs H Q) := by
  intro pins s σ H xs us Q I rs q
  rcases q with q | q
  · exact h pins s σ H xs us Q I rs q
  · exact h' pins s σ H xs us Q I rs q
theorem call_list_of : CallR X (.type "list") (fun xs H Q => ∃ p ys, xs = [.ref p] ∧ (SqL X.K H p ys ∨ SqT X.K H p ys) ∧ ∀ l, H l = none → Q (.ref l) (upd H l (.lst ys))) := by
  intro pins s σ H xs us Q I r h
  obtain ⟨p, ys, rfl, hq, q⟩ := h
  obtain ⟨u, rfl, rx⟩ := vals1 r
  cases rx
  have fin : ∀ (its : List Value), Vals ys its → ys.length ≤ sizeLine → ∀ (h' : Heap) (c' : Nat), (∀ b o', s.heap.get? b = some o' → h'.get? b = some o') →
      h'.get? s.heap.objs.size = some { cls := .type "list", dict := none, data := .seq its.toArray c', slots := #[] } → EP X pins σ Q (.ref s.heap.objs.size) { s with heap := h' } := fun its r' hz h' c' kp e =>
    ⟨.ref s.heap.objs.size, _, I.laid (t' := s.toks) kp (Nat.le_refl _) (show ObjOk X.prog X.w _ h' _ (.lst ys) from ⟨hz, its, c', r', e⟩), rfl, q _ (I.hok.fresh (Nat.le_refl _))⟩
  rcases hq with hq | hq
  · obtain ⟨its, r', pl, hz⟩ := I.list hq
    have hlen := r'.length
    obtain ⟨o, ho, hc, n, hd⟩ := pl.isList
    exact call_list_seq p (.inl rfl) ho hc hd (fun h' c' kp e => fin its r' hz h' c' kp e) (by simp only [List.size_toArray] <;> omega)
  · obtain ⟨its, r', pl, hz⟩ := I.tuple hq
    have hlen := r'.length
    obtain ⟨o, ho, hc, n, hd⟩ := pl
    exact call_list_seq p (.inr rfl) ho hc hd (fun h' c' kp e => fin its r' hz h' c' kp e) (by simp only [List.size_toArray] <;> omega)
theorem call_tuple_of : CallR X (.type "tuple") (fun xs H Q => ∃ p ys, xs = [.ref p] ∧ ((SqL X.K H p ys ∧ ∀ l, H l = none → Q (.ref l) (upd H l (.tup ys))) ∨ (SqT X.K H p ys ∧ Q (.ref p) H))) := by
  intro pins s σ H xs us Q I r h
  obtain ⟨p, ys, rfl, h⟩ := h
  obtain ⟨u, rfl, rx⟩ := vals1 r
  cases rx
  rcases h with ⟨hq, q⟩ | ⟨hq, q⟩
  · obtain ⟨its, r', pl, hz⟩ := I.list hq
    have hlen := r'.length
    refine call_tuple_list pl.isList (fun h' kp => ?_) (by simp only [List.size_toArray] <;> omega)
    have I1 : Inv X pins σ H { s with heap := h' } := I.kept (t' := s.toks) kp
    have I2 : Inv X pins σ (upd H h'.objs.size (.tup ys)) { s with heap := h'.push { cls := .type "tuple", data := .seq its.toArray } } :=
      I1.laid (t' := s.toks) (fun b o e => Heap.get?_push_of_some _ e) (Nat.le_refl _) (show ObjOk X.prog X.w _ _ _ (.tup ys) from ⟨hz, its, r', TupN.new _ _⟩)
    exact ⟨.ref h'.objs.size, _, I2, rfl, q _ (I1.hok.fresh (Nat.le_refl _))⟩
  · obtain ⟨its, r', pl, hz⟩ := I.tuple hq
    exact call_tuple_same pl ⟨.ref p, H, I, rfl, q⟩
def tyV (K : PySem.W.Frag) (T : String) (x : V) (H : Hp) : Prop := match x with
  | .str _ => T = "str"
  | .int _ => T = "int"
  | .ref p => (T = "list" ∧ ∃ xs, SqL K H p xs) ∨ (T = "tuple" ∧ ∃ o, K.lookup p = some o ∧ o.cls = .type "tuple" ∧ o.dict = none) ∨
      (T = "dict" ∧ ((∃ kvs, H p = some (.dK kvs)) ∨ ∃ kvs, H p = some (.dT kvs))) ∨ (T = "set" ∧ ∃ S n, H p = some (.set S n))
  | _ => False
theorem tyV_is {pins : List (Addr × Obj)} {σ : St} {H : Hp} {s : Shared} {T : String} {x : V} {v : Value} (I : Inv X pins σ H s) (r : RelV x v) (ty : tyV X.K T x H) :
    s.TypeIs v T ∧ ∀ a, v = .ref a → ∃ ob, s.heap.get? a = some ob ∧ ob.dict = none := by
  cases x with
  | str z =>
    obtain ⟨t, rfl⟩ := r
    cases (show T = "str" from ty)
    exact ⟨typeIs_str s z t, fun _ e => nomatch e⟩
  | int i =>
    obtain ⟨t, rfl⟩ := r
    cases (show T = "int" from ty)
    exact ⟨typeIs_int s i t, fun _ e => nomatch e⟩
  | ref p =>
    cases r
    rcases ty with ⟨rfl, xs, hq⟩ | ⟨rfl, o, hk, hc, hd⟩ | ⟨rfl, hk⟩ | ⟨rfl, S, n, hk⟩
    · obtain ⟨its, _, pl, _⟩ := I.list hq
      refine ⟨pl.isList.typeIs, fun a e => ?_⟩
      cases e
      obtain ⟨o, n, e, c, hd, _⟩ := pl
      exact ⟨o, e, hd⟩
    · refine ⟨⟨o, I.kIn p o hk, hc⟩, fun a e => ?_⟩
      cases e
      exact ⟨o, I.kIn _ o hk, hd⟩
    · have z : ∃ o, s.heap.get? p = some o ∧ o.ExactDict := by
        rcases hk with ⟨kvs, hk⟩ | ⟨kvs, hk⟩
        · obtain ⟨_, _, _, _, o, _, _, e, ex, _⟩ := I.hok p _ hk
          exact ⟨o, e, ex⟩
        · obtain ⟨_, _, _, _, o, _, _, e, ex, _⟩ := I.hok p _ hk
          exact ⟨o, e, ex⟩
      obtain ⟨o, e, ex⟩ := z
      refine ⟨⟨o, e, ex.1⟩, fun a e2 => ?_⟩
      cases e2
      exact ⟨o, e, ex.2.1⟩
    · obtain ⟨o, _, _, _, e, ex, _⟩ := I.hok p _ hk
      refine ⟨⟨o, e, ex.1⟩, fun a e2 => ?_⟩
      cases e2
      exact ⟨o, e, ex.2.1⟩
  | _ => exact False.elim ty
def tBM (K : PySem.W.Frag) (T : String) (r : V → List V → Hp → VK → Prop) (to : TE) (t : TA) : TE := fun σ H Q => to σ H fun x H1 => tyV K T x H1 ∧ t σ H1 fun xs H2 => r x xs H2 Q
variable {o e : Expr} {es : List Expr} {to : TE} {t : TA} {name : Str} {apos cpos : Pos} {T id : String} {r : V → List V → Hp → VK → Prop}
theorem pe_bm (pa : PlainAttrs T) (slot : Slot T name id) (hty : typeOf (.builtin id) = pure (.type "method_descriptor")) (hm : MtR X id r) (ho : PE X o to) (ha : PA X (e :: es) t)
    (hbase : attributeBase o name X.env (eval o X.env) = eval o X.env := by rfl)
    (hfew : ((backTo cpos (starEach (e :: es) X.env)).all (fun x => !x.1) && (backToKw cpos (keywordEach [] X.env)).all (fun x => x.1.isSome)
      && decide ((e :: es).length + ([] : List Keyword).length + (if ([] : List Keyword).isEmpty then 0 else 1) < 30)) = true := by rfl)
    (hline : (apos.endLine == cpos.line) = true := by rfl) (hs : starEach (e :: es) X.env = (false, eval e X.env) :: starEach es X.env := by rfl) (hplain : (backTo cpos (starEach es X.env)).any (·.1) = false := by rfl) :
    PE X (.Call (.Attribute o name apos) (e :: es) [] cpos) (tBM X.K T r to t) := by
  intro pins s σ H Q I h
  refine wpAny_Call_method_late hbase hfew hline rfl (thn (ho pins s σ H _ I h) fun v s1 ⟨x, H1, I1, r1, ty, q1⟩ => ?_)
  obtain ⟨h1, h2⟩ := tyV_is I1 r1 ty
  refine ⟨T, id, pa, slot, hty, h1, h2, ?_⟩
  have hA := ha cpos pins s1 σ H1 _ I1 q1
  rw [hs] at hA ⊢
  refine Calls.callWith_builtin (by show (false || (backTo cpos (starEach es X.env)).any (·.1)) = false; rw [hplain] <;> rfl) (Calls.evalArgs_plain ?_)
  exact thn hA fun us s2 ⟨vs, H2, I2, r2, q2⟩ => hm pins s2 σ H2 x vs v us Q I2 r1 r2 q2
end
def MtM (X : Cx) (id : String) (r : V → List V → Hp → VK → Prop) : Prop :=
  ∀ (pins : List (Addr × Obj)) (s : Shared) (σ : St) (H : Hp) (x : V) (xs : List V) (v : Value) (us : List Value) (Q : VK), Inv X pins σ H s → RelV x v → Vals xs us → r x xs H Q →
    wpAny (model X.prog X.w) X.A (call (.builtin id) (v :: us)) (EP X pins σ Q) X.xe s
theorem Vals.one : ∀ {x : V} {us : List Value}, Vals [x] us → ∃ u, us = [u] ∧ RelV x u
  | _, _, .cons r .nil => ⟨_, rfl, r⟩
theorem Vals.rep {xs : List V} {us : List Value} (h : Vals xs us) : ∀ k : Nat, Vals (List.replicate k xs).flatten (List.replicate k us).flatten
  | 0 => .nil
  | k + 1 => by
    rw [List.replicate_succ, List.replicate_succ, List.flatten_cons, List.flatten_cons]
    exact Vals.append h (Vals.rep h k)
theorem foldl_rep (its : List Value) : ∀ (k : Nat) (acc : List Value),
    List.foldl (fun x1 x2 => x1 ++ x2) acc.toArray (List.replicate k its.toArray) = (acc ++ (List.replicate k its).flatten).toArray
  | 0, acc => by simp
  | k + 1, acc => by
    have e : acc.toArray ++ its.toArray = (acc ++ its).toArray := by simp
    have e2 : (acc ++ its) ++ (List.replicate k its).flatten = acc ++ (List.replicate (k + 1) its).flatten := by
      rw [List.replicate_succ, List.flatten_cons, List.append_assoc]
    rw [← e2, ← foldl_rep its k (acc ++ its), ← e, List.replicate_succ, List.foldl_cons]
section
variable {X : Cx} {pins : List (Addr × Obj)} {σ : St} {H : Hp} {s : Shared} {l b : Addr} {xs ys zs : List V}
theorem Inv.lset {its its' : List Value} {n : Nat} {f : Array Value → Array Value} {t' : Nat} (I : Inv X pins σ H s) (hH : H l = some (.lst xs))
    (e : s.heap.get? l = some { cls := .type "list", data := .seq its.toArray n }) (hf : f its.toArray = its'.toArray) (hv : Vals ys its') (hz : ys.length ≤ sizeLine) :
    Inv X pins σ (upd H l (.lst ys)) { s with heap := s.heap.update l (Obj.mapSeq f), toks := t' } := by
  have q := PySem.IsL.update e f
  rw [hf] at q
  refine I.write (x := l) (e := l) (by rw [hH]; exact trivial) (.inl rfl) (fun b' u hb hu => (Heap.get?_update_other s.heap (Obj.mapSeq f) (Ne.symm hb)).trans hu) ⟨_, q⟩ ?_
  exact ⟨hz, its', _, hv, q⟩
theorem Inv.lnew {its : List Value} {t' : Nat} (I : Inv X pins σ H s) (hv : Vals ys its) (hz : ys.length ≤ sizeLine) :
    Inv X pins σ (upd H s.heap.objs.size (.lst ys)) { s with heap := s.heap.push { cls := .type "list", data := .seq its.toArray }, toks := t' } :=
  I.laid (fun _ _ q => Heap.get?_push_of_some _ q) (Nat.le_refl _) ⟨hz, its, 0, hv, Heap.get?_push_size _ rfl⟩
theorem Inv.fresh (I : Inv X pins σ H s) : H s.heap.objs.size = none := I.hok.fresh (Nat.le_refl _)
theorem Inv.lstM (I : Inv X pins σ H s) (hH : H l = some (.lst xs)) : xs.length ≤ sizeLine ∧ ∃ (its : List Value) (n : Nat), Vals xs its ∧ xs.length = its.length ∧ s.heap.get? l = some { cls := .type "list", data := .seq its.toArray n } := by
  obtain ⟨z, its, n, r, e⟩ := I.hok l _ hH
  exact ⟨z, its, n, r, r.length, e⟩
theorem notLongL {n : Nat} (h : n ≤ sizeLine) : Builtin.List.listTooLong n = false := by
  unfold Builtin.List.listTooLong
  exact decide_eq_false (by omega)
end
section
variable {X : Cx}
def rAppend : V → List V → Hp → VK → Prop := fun x vs H Q => ∃ l xs y, x = .ref l ∧ vs = [y] ∧ H l = some (.lst xs) ∧ xs.length < sizeLine ∧ Q .non (upd H l (.lst (xs ++ [y])))
theorem mt_append : MtM X "list.append" rAppend := by
  intro pins s σ H x vs v us Q I rx rv h
  obtain ⟨l, xs, y, rfl, rfl, hH, hz, q⟩ := h
  cases rx
  obtain ⟨u, rfl, ru⟩ := rv.one
  obtain ⟨z, its, n, r, hl, e⟩ := I.lstM hH
  refine call_meets F.slot_list_append ⟨_, e, rfl⟩ F.entry_list_append (F.args_list_append_2 _ _) (PySem.list_append l its.toArray n u (by rw [List.size_toArray]; omega)) ⟨e, ?_⟩
  refine ⟨.non, _, I.lset (its' := its ++ [u]) hH e (by simp) (r.append (.cons ru .nil)) ?_, rfl, q⟩
  rw [List.length_append, List.length_singleton]
  omega
def rCat : R2 := fun x y H Q => ∃ l b xs zs, x = .ref l ∧ y = .ref b ∧ H l = some (.lst xs) ∧ H b = some (.lst zs) ∧ xs.length + zs.length ≤ sizeLine ∧ ∀ p, H p = none → Q (.ref p) (upd H p (.lst (xs ++ zs)))
theorem op_cat : OpR X (binaryOp .Add) rCat := by
  intro pins s σ H x y v u Q I rx ry h
  obtain ⟨l, b, xs, zs, rfl, rfl, hH, hB, hz, q⟩ := h
  cases rx
  cases ry
  obtain ⟨z, its, n, r, hl, e⟩ := I.lstM hH
  obtain ⟨z2, its2, n2, r2, hl2, e2⟩ := I.lstM hB
  refine PySem.P.add_list e e2 ?_ (by rw [List.size_toArray, List.size_toArray]; omega)
  have ea : its.toArray ++ its2.toArray = (its ++ its2).toArray := by simp
  rw [ea]
  exact ⟨.ref _, _, I.lnew (t' := s.toks) (r.append r2) (by rw [List.length_append]; omega), rfl, q _ I.fresh⟩
def rRep : R2 := fun x y H Q => ∃ l k xs, x = .ref l ∧ y = .int k ∧ H l = some (.lst xs) ∧ -(2 ^ 63) ≤ k ∧ k < 2 ^ 63 ∧ xs.length * k.toNat ≤ sizeLine ∧
  ∀ p, H p = none → Q (.ref p) (upd H p (.lst (List.replicate k.toNat xs).flatten))
theorem len_rep {α : Type} (xs : List α) (k : Nat) : (List.replicate k xs).flatten.length = k * xs.length := by
  induction k with
  | zero => simp
  | succ k ih => rw [List.replicate_succ, List.flatten_cons, List.length_append, ih, Nat.succ_mul, Nat.add_comm]
theorem op_rep : OpR X (binaryOp .Mult) rRep := by
  intro pins s σ H x y v u Q I rx ry h
  obtain ⟨l, k, xs, rfl, rfl, hH, h1, h2, hz, q⟩ := h
  cases rx
  obtain ⟨t, rfl⟩ := ry
  obtain ⟨z, its, n, r, hl, e⟩ := I.lstM hH
  have hlen : its.toArray.size * k.toNat ≤ sizeLine := by rw [List.size_toArray, ← hl]; exact hz
  have hcap : ¬ its.toArray.size * k.toNat > (2 ^ 63 - 1) / 8 := by
    have : (sizeLine : Nat) ≤ (2 ^ 63 - 1) / 8 := by decide
    omega
  have hfit : ¬ (!Builtin.List.listFitsIndex k) = true := by
    rw [fitsIndex_both h1 h2]
    exact Bool.false_ne_true
  have hlong : ¬ Builtin.List.listTooLong (its.toArray.size * k.toNat) = true := by
    rw [notLongL hlen]
    exact Bool.false_ne_true
  have hnew : List.foldl (fun x1 x2 => x1 ++ x2) #[] (List.replicate (if its.toArray.isEmpty = true then 0 else k.toNat) its.toArray) = (List.replicate k.toNat its).flatten.toArray := by
    have f0 : ∀ m : Nat, List.foldl (fun x1 x2 => x1 ++ x2) #[] (List.replicate m its.toArray) = (List.replicate m its).flatten.toArray := fun m => by
      have := foldl_rep its m []
      rw [List.nil_append] at this
      exact this
    rw [f0]
    cases its with
    | nil => simp
    | cons a r' => rw [if_neg (by simp)]
  refine wpAny_binaryOp_repeat_ref (T := "list") (U := "int") (by decide) ⟨_, e, rfl⟩ (fun s' => typeIs_int s' k t) noFill_list_mul F.fills_int_mul F.slot_int_rmul repeat_list F.slot_int_index.lookup
    (call_meets F.slot_int_rmul (typeIs_int s k t) F.entry_int_rmul (F.args_int_rmul_2 _ _) (int___rmul___int_list k t l its.toArray n)
      ⟨e, rfl, ⟨_, e, rfl⟩, call_meets F.slot_list_mul ⟨_, e, rfl⟩ F.entry_list_mul (F.args_list_mul_2 _ _) (AutoListH.list___mul___list_int_3 l its.toArray n k t hfit hcap hlong) ⟨e, ?_⟩⟩)
  rw [hnew]
  exact ⟨.ref _, _, I.lnew (t' := s.toks) (r.rep k.toNat) (by rw [len_rep, Nat.mul_comm]; exact hz), rfl, q _ I.fresh⟩
end
theorem kV_is {P : Program} {w : World} {k : Key} {u : Value} (r : RelV (kV k) u) : (mixKind P w).is k u = true := by
  cases k with
  | inl i => obtain ⟨t, e⟩ := (show ∃ t, u = Value.int i t from r); subst e; exact mixKind_int P w i t
  | inr x => obtain ⟨t, e⟩ := (show ∃ t, u = Value.str x t from r); subst e; exact mixKind_str P w x t
structure M1 (X : Cx) (o : Expr) (m : Str) (apos : Pos) (e : Expr) (cpos : Pos) : Prop where
  base : attributeBase o m X.env (eval o X.env) = eval o X.env
  few : ((backTo cpos (starEach [e] X.env)).all (fun x => !x.1) && (backToKw cpos (keywordEach [] X.env)).all (fun x => x.1.isSome)
    && decide (([e] : List Expr).length + ([] : List Keyword).length + (if ([] : List Keyword).isEmpty then 0 else 1) < 30)) = true
  line : (apos.endLine == cpos.line) = true
  trees : backTo cpos (starEach [e] X.env) = [(false, eval e X.env)]
structure M2 (X : Cx) (o : Expr) (m : Str) (apos : Pos) (e f : Expr) (cpos : Pos) : Prop where
  base : attributeBase o m X.env (eval o X.env) = eval o X.env
  few : ((backTo cpos (starEach [e, f] X.env)).all (fun x => !x.1) && (backToKw cpos (keywordEach [] X.env)).all (fun x => x.1.isSome)
    && decide (([e, f] : List Expr).length + ([] : List Keyword).length + (if ([] : List Keyword).isEmpty then 0 else 1) < 30)) = true
  line : (apos.endLine == cpos.line) = true
  trees : backTo cpos (starEach [e, f] X.env) = [(false, eval e X.env), (false, eval f X.env)]
end L2
namespace Att
open PySem PySem.W PySem.Calls PyProof.Rows
theorem ints_of_wellAll {P : Params} {h : Heap} : ∀ (ns : List Int) (vs : List Value), WellAll P h vs (ns.map WData.int) → IntsAre vs ns := by
  intro ns
  induction ns with
  | nil =>
    intro vs w
    rw [List.map_nil] at w
    cases w
    exact .nil
  | cons n ns ih =>
    intro vs w
    rw [List.map_cons] at w
    cases w with
    | cons a b =>
      cases a
      exact .cons _ _ (ih _ b)
theorem script_of {l : OpenLaw} {n : Nat} (hn : l.most = some n) {P : Params} {h : Heap} {args : List WData} {vals : List Value}
    (hpre : l.row.toRowW.claim.pre args = true) (hwl : WellAll P h vals args) :
    ∃ a vs ns, vals = [Value.ref a] ∧ args = [WData.list (ns.map WData.int)] ∧ h.get? a = some { cls := .type "list", data := .seq vs.toArray } ∧ IntsAre vs ns ∧ ns.length ≤ n := by
  have hsh : WShape.hasAll [] args [.list .int] = true := (pre_splitW hpre).1
  have hc : l.pre.holds [] { args := args } = true := (pre_splitW hpre).2
  obtain ⟨d, r, rfl, h1, h2⟩ := hasAllW_cons hsh
  obtain rfl := hasAllW_nil h2
  obtain ⟨xs, rfl, h3⟩ := hasW_list h1
  obtain ⟨ns, rfl⟩ := items_int h3
  have hlen : ns.length ≤ n := by
    unfold OpenLaw.pre at hc
    have h4 : (WTm.not (.lt (.lit (.int (n : Int))) (.len (.arg 0)))).holds [] { args := [.list (ns.map .int)] } = true := by
      have h4 := (holds_andW hc).1
      rw [hn] at h4
      exact h4
    have h5 := condW_of h4 (w_not (w_lt w_lit (w_len_list (w_arg rfl))))
    rw [List.length_map] at h5
    refine Nat.le_of_not_lt fun q => ?_
    have q' : (n : Int) < ((ns.length : Nat) : Int) := by omega
    first
      | (rw [decide_eq_true q'] at h5; exact absurd h5 (by decide))
      | (simp at h5; omega)
  cases hwl with
  | cons w1 w2 =>
    cases w2
    cases w1 with
    | list ho hall => exact ⟨_, _, ns, rfl, rfl, ho, ints_of_wellAll ns _ hall, hlen⟩
theorem post_true (l : OpenLaw) (args : List WData) : l.row.toRowW.claim.post args (.bool true) args = true :=
  postW_of (r := l.row.toRowW) (X := (true == true))
    (show WShape.has [] (.bool true) .bool = true by first | rfl | decide | simp [WShape.has, WShape.arms, WShape.armsAll])
    (show (WTm.eq .res (.lit (.bool true))).value [] { args := args, res := some (.bool true), after := args } = some (.bool (true == true)) from w_eq_bool (w_res rfl) w_lit) rfl
theorem attach_call {l : OpenLaw} {n : Nat} {q : Program} {loose : List Str} {XP : (Str → Option Value) → Heap → Prop} {YP : World → Heap → Prop} {d : DefRec}
    (hn : l.most = some n) (hdf : d.params.defaults = [])
    (call : ∀ (w : World) (s₀ s₁ : Shared) (mg mb : Str → Option Value) (fa : Addr) (o : Obj) (pm cd doc : Value) (a : Addr) (vs : List Value) (ns : List Int),
      Ground q loose [] XP w s₀ mg mb s₁.heap → YP w s₁.heap →
      s₁.heap.get? fa = some o → o.data = .func (docDef d.name d.params d.body d.scope pm cd doc) → s₁.heap.CodeRec cd d.name → mg d.name = some (.ref fa) →
      s₁.heap.get? a = some { cls := .type "list", data := .seq vs.toArray } → IntsAre vs ns → ns.length ≤ n → s₁.gens = #[] →
      codeAny (model l.prog w) callerA (.call (.ref fa) ⟨[.ref a], []⟩) (fun r s' => r = .ok (.ret (.bool true)) ∧ OldK s₁.heap s'.heap ∧ s'.os = s₁.os ∧ AllBare s'.gens) s₁) :
    WalkO q loose XP YP l.row.toRowW d [] (fun f vs => PySem.call f vs) := by
  intro w s₀ s₁ mg mb G Y fa o pm cd doc dV kV ho hd hcd hD hmg hg args vals as hpre hlay hrd hwl hlo
  obtain rfl : dV = .none := Dflts.none hD hdf
  obtain rfl : kV = .none := Dflts.noKw hD
  obtain ⟨a, vs, ns, rfl, rfl, hobj, hints, hlen⟩ := script_of hn hpre hwl
  refine enter_call (codeAny_mono (call w s₀ s₁ mg mb fa o pm cd doc a vs ns G Y ho (fd_plain hd) hcd hmg hobj hints hlen hg) fun r s' hq => ?_)
  obtain ⟨rfl, h2, h3, h4⟩ := hq
  exact ⟨.inl ⟨.bool true, .bool true, [], rfl, fun _ => rfl, .bool true, post_true l _, fun _ => ⟨List.Pairwise.nil, fun _ hm => (nomatch hm)⟩⟩, h2, h3, h4⟩
end Att
namespace L2
open PySem PySem.Spec PyProof.Rows
theorem vals_ints : ∀ {vs : List Value} {ns : List Int}, IntsAre vs ns → Vals (ns.map V.int) vs
  | _, _, .nil => .nil
  | _, _, .cons n t h => .cons ⟨t, rfl⟩ (vals_ints h)
def Only (H : Hp) : Prop := ∀ b, H b = none ∨ ∃ o xs, H b = some (.frz o (.lst xs))
theorem law_call {P : Program} {w : World} {K : PySem.W.Frag} {mg mb : Str → Option Value} {CX : CXT} {k : Nat} {fa a : Addr} {fd : FuncData} {x : Str} {sp : Sp} {s₁ : Shared} {vs : List Value} {ns : List Int}
    (KX : K.In s₁.heap) (hns : s₁.heap.Ns mainGlobals mg) (hb : s₁.heap.Ns builtinsNs mb) (hbb : ∀ x : Str, x ≠ "__name__" → mb x = bootBuiltins x) (hlim : s₁.heap.NoLimit) (hbm : ∃ bm ob, mg "__builtins__" = some (.ref bm) ∧ bm ≠ builtinsNs ∧ s₁.heap.get? bm = some ob ∧ ob.cls = .type "module" ∧ ob.dict = some builtinsNs ∧ ob.data = .plain) (hg : s₁.gens = #[])
    (ha : s₁.heap.get? a = some { cls := .type "list", data := .seq vs.toArray }) (hi : IntsAre vs ns) (hl : ns.length ≤ sizeLine) (hr : Room k callerA)
    (F : ∀ base : Heap, K.In base → base.Ns mainGlobals mg → FnOk P w K mg base CX k fa fd [x] sp) (hbind : ∀ (s : Shared) (u : Value), BindsTo s fd ⟨[u], []⟩ [(x, u)])
    (hsp : ∀ H : Hp, Only H → SqL K H a (ns.map V.int) → sp [.ref a] H (fun v _ => v = .bl true) fun _ _ _ => False)
    (hCX : ∀ H e s', CX [] H s₁ (fun _ _ _ => False) e s' → False) :
    codeAny (model P w) callerA (.call (.ref fa) ⟨[.ref a], []⟩) (fun r s' => r = .ok (.ret (.bool true)) ∧ OldK s₁.heap s'.heap ∧ s'.os = s₁.os ∧ AllBare s'.gens) s₁ := by
  have rv := vals_ints hi
  have lenV := hi.length
  have core : ∀ H : Hp, Only H → SqL K H a (ns.map V.int) → HOk P w H s₁.heap → (∀ b, H b ≠ none → b = a) → (H a ≠ none → K.lookup a = none) →
      codeAny (model P w) callerA (.call (.ref fa) ⟨[.ref a], []⟩) (fun r s' => r = .ok (.ret (.bool true)) ∧ OldK s₁.heap s'.heap ∧ s'.os = s₁.os ∧ AllBare s'.gens) s₁ := by
    intro H hO hS hok hA hK
    have base_of : ∀ {b : Addr} {o : Obj}, s₁.heap.get? b = some o → H b = none → (hidT s₁.heap H).get? b = some o := fun e n => hidT_get e n
    have noA : ∀ {b : Addr} {o : Obj} {es : Array DictEntry} {ep : Nat}, s₁.heap.get? b = some o → o.data = .dict es ep → H b = none := fun {b o es ep} e d => by
      cases q : H b with
      | none => rfl
      | some u =>
        have e' : b = a := hA b (by rw [q]; simp)
        subst e'
        rw [ha] at e; cases e
        have d' : Data.seq vs.toArray _ = Data.dict es ep := d
        cases d'
    have nsK : ∀ {b : Addr} {m : Str → Option Value}, s₁.heap.Ns b m → (hidT s₁.heap H).Ns b m := fun {b m} ⟨o, es, ep, e, d, r⟩ => ⟨o, es, ep, base_of e (noA e d), d, r⟩
    have hKb : K.In (hidT s₁.heap H) := fun b o e => base_of (KX b o e) (by
      cases q : H b with
      | none => rfl
      | some u =>
        have e' : b = a := hA b (by rw [q]; simp)
        subst e'
        rw [hK (by rw [q]; simp)] at e; cases e)
    have hM : Mod K mg (hidT s₁.heap H) := ⟨hKb, nsK hns, ⟨mb, nsK hb, hbb⟩, let ⟨mc, h1, h2⟩ := hlim; ⟨mc, nsK h1, h2⟩, by
      obtain ⟨bm, ob, b1, b2, b3, b4, b5⟩ := hbm
      refine ⟨bm, ob, b1, b2, base_of b3 ?_, b4, b5⟩
      cases q : H bm with
      | none => rfl
      | some u =>
        have e' : bm = a := hA bm (by rw [q]; simp)
        subst e'
        rw [ha] at b3
        cases b3
        injection b4 with b4
        exact absurd b4 (by decide)⟩
    have e0 : Env0 P w K mg (hidT s₁.heap H) callerA [] s₁ H := ⟨rfl, hM, fun b o e => of_hidT e, Nat.le_of_eq (hidT_size _ _), trivial, fun b hb => absurd (show b ∈ ([] : List Addr) from hb) (by simp), hok, .of_eq hg⟩
    refine codeAny_mono ((F _ hKb (nsK hns)).run callerA [] s₁ H ⟨[.ref a], []⟩ [.ref a] [.ref a] _ _ hr e0 (hbind s₁ (.ref a)) (.cons rfl .nil) (hsp H hO hS)) fun r s' h => ?_
    cases r with
    | error e => exact (hCX H e s' h).elim
    | ok fl =>
      cases fl with
      | next => exact False.elim h
      | brk => exact False.elim h
      | cont => exact False.elim h
      | ret u =>
        obtain ⟨v, H', os, bare, un, hok', r', q⟩ := h
        have q' : v = .bl true := q
        subst q'
        obtain rfl : u = Value.bool true := r'
        refine ⟨rfl, OldK.of_keep fun b o e => ?_, os, bare⟩
        cases q : H b with
        | none => exact un.keep b o e q (by intro z; exact absurd (show b ∈ ([] : List Addr) from z) (by simp)) (by simp)
        | some u =>
          rcases hO b with z | ⟨ob, xs, z⟩
          · rw [q] at z; cases z
          · have z2 := un.frzs b ob _ z
            obtain ⟨e1, _⟩ := hok b _ z
            obtain ⟨e2, _⟩ := hok' b _ z2
            rw [e] at e1; cases e1
            exact e2
  cases hk : K.lookup a with
  | some o =>
    have e := KX a o hk
    rw [ha] at e
    cases e
    refine core (fun _ => none) (fun _ => .inl rfl) (.inr ⟨_, vs.toArray, _, hk, rfl, rfl, rfl, by rw [List.size_toArray, lenV]; exact hl, by simpa using rv⟩) (fun b u z => by have z' : (none : Option HO) = some u := z; cases z') (fun b z => absurd rfl z) fun z => absurd rfl z
  | none =>
    refine core (fun b => if b = a then some (.frz { cls := .type "list", data := .seq vs.toArray } (.lst (ns.map V.int))) else none) (fun b => ?_) (.inl (.inr ⟨{ cls := .type "list", data := .seq vs.toArray }, if_pos rfl⟩)) (fun b u z => ?_) (fun b z => ?_) fun _ => hk
    · by_cases hb : b = a
      · exact .inr ⟨_, _, if_pos hb⟩
      · exact .inl (if_neg hb)
    · by_cases hb : b = a
      · have z' := (if_pos hb).symm.trans z
        cases z'
        subst hb
        exact ⟨ha, by rw [List.length_map]; exact hl, vs, _, rv, ha⟩
      · have z' := (if_neg hb).symm.trans z
        cases z'
    · by_cases hb : b = a
      · exact hb
      · exact absurd (if_neg hb) z
abbrev KOf {K : PySem.W.Frag} {h : Heap} (_ : K.In h) : PySem.W.Frag := K
theorem walk_of {l : PySem.W.OpenLaw} {n k : Nat} {q : Program} {loose : List Str} {XP : (Str → Option Value) → Heap → Prop} {YP : World → Heap → Prop} {d : DefRec} {K : Params → PySem.W.Frag} {CX : World → CXT} {sp : World → Sp} {x : Str}
    (hn : l.most = some n) (hn2 : n ≤ sizeLine) (hdf : d.params.defaults = []) (hr : Room k callerA)
    (hY : ∀ (w : World) (h : Heap), YP w h → (K w.params).In h)
    (F : ∀ (w : World) (mg : Str → Option Value) (fa : Addr) (h : Heap), (K w.params).In h → h.Ns mainGlobals mg → mg d.name = some (.ref fa) →
      ∃ fd : FuncData, (∀ (s : Shared) (u : Value), BindsTo s fd ⟨[u], []⟩ [(x, u)]) ∧
        ∀ base : Heap, (K w.params).In base → base.Ns mainGlobals mg → FnOk l.prog w (K w.params) mg base (CX w) k fa fd [x] (sp w))
    (hsp : ∀ (w : World) (H : Hp) (a : Addr) (ns : List Int), ns.length ≤ n → Only H → SqL (K w.params) H a (ns.map V.int) → sp w [.ref a] H (fun v _ => v = .bl true) fun _ _ _ => False)
    (hCX : ∀ (w : World) (H : Hp) (s : Shared) (e : Value) (s' : Shared), CX w [] H s (fun _ _ _ => False) e s' → False) :
    PySem.W.WalkO q loose XP YP l.row.toRowW d [] (fun f vs => PySem.call f vs) := by
  refine Att.attach_call hn hdf fun w s₀ s₁ mg mb fa o pm cd doc a vs ns G Y ho hd hcd hmg hobj hints hlen hg => ?_
  have KX := hY w _ Y
  obtain ⟨fd, hb, hF⟩ := F w mg fa _ KX G.T.g hmg
  exact law_call KX G.T.g G.T.b G.T.builtins G.T.nolimit G.T.bmain hg hobj hints (Nat.le_trans hlen hn2) hr hF hb (fun H hO hS => hsp w H a ns hlen hO hS) fun H e s' => hCX w H s₁ e s'
def inClass (s : Stmt) (j : Nat) : Stmt := match s with
  | .ClassDef _ _ _ body _ _ _ _ _ _ _ => body.getD j (.Pass ⟨0, 0, 0, 0⟩)
  | _ => .Pass ⟨0, 0, 0, 0⟩
def defArgs (s : Stmt) : Arguments := match s with
  | .FunctionDef _ a _ _ _ _ _ _ _ _ => a
  | _ => { posonlyargs := [], args := [], vararg := none, kwonlyargs := [], kw_defaults := [], kwarg := none, defaults := [] }
def defBody (s : Stmt) : List Stmt := match s with
  | .FunctionDef _ _ b _ _ _ _ _ _ _ => b
  | _ => []
def defScope (s : Stmt) : Scope := match s with
  | .FunctionDef _ _ _ _ _ _ sc _ _ _ => sc
  | _ => { kind := .function, names := [], isGenerator := false, isCoroutine := false }
abbrev E0 : XK := fun _ _ _ => False
structure Fun (K : PySem.W.Frag) (x qual : Str) (st : Stmt) (f : Addr) (fd : FuncData) : Prop where
  ex : ∃ (oc : Value) (od : Option Addr) (kV doc pm : Value) (an : Option Addr) (cdv ct : Value) (osl : Array (Option Value)),
    fd = PySem.W.fnOf x qual (defArgs st) (defBody st) (defScope st) .none kV doc pm an cdv ct ∧ K.lookup f = some ⟨oc, od, .func fd, osl⟩ ∧ PySem.W.codeIn K cdv qual = true
  kp : PySem.W.keepIn K (.ref f) = true
section
variable {P : Program} {w : World} {K : PySem.W.Frag} {mg : Str → Option Value} {base : Heap}
theorem Fun.binds {x qual : Str} {st : Stmt} {f : Addr} {fd : FuncData} {ps : List Str} (F : Fun K x qual st f fd)
    (h : ∀ (kV doc pm : Value) (an : Option Addr) (cdv ct : Value) (us : List Value), us.length = ps.length → bindArgs (PySem.W.fnOf x qual (defArgs st) (defBody st) (defScope st) .none kV doc pm an cdv ct) ⟨us, []⟩ = pure (ps.zip us)) : Binds K fd ps [] := by
  obtain ⟨oc, od, kV, doc, pm, an, cdv, ct, osl, rfl, lk, hcd⟩ := F.ex
  exact .all (h kV doc pm an cdv ct)
theorem fun_mk {x qual : Str} {st : Stmt} {f : Addr} {oc : Value} {od an : Option Addr} {osl : Array (Option Value)} {kV doc pm cdv ct : Value} (l : K.lookup f = some ⟨oc, od, .func (PySem.W.fnOf x qual (defArgs st) (defBody st) (defScope st) .none kV doc pm an cdv ct), osl⟩)
    (c : PySem.W.codeIn K cdv qual = true) (k : PySem.W.keepIn K (.ref f) = true) : Fun K x qual st f (PySem.W.fnOf x qual (defArgs st) (defBody st) (defScope st) .none kV doc pm an cdv ct) := ⟨⟨oc, od, kV, doc, pm, an, cdv, ct, osl, rfl, l, c⟩, k⟩
end
section
variable {X : Cx}
theorem pv (i : Nat) {x : Str} {pos : Pos} (hN : X.N[i]? = some x := by rfl) (hv : Vis X.env.scope x := by first | exact Or.inl rfl | exact Or.inr (Or.inl rfl) | exact Or.inr (Or.inr rfl)) (hd : (x == ("__debug__" : Str)) = false := by decide)
    (hcd : (x == ("__classdict__" : Str)) = false := by decide) : PE X (.Name x pos) (tVar i) := pe_var hN hv hd hcd
end
theorem iteF {A B : Prop} (h : B) : if false = true then A else B := by
  rw [if_neg Bool.false_ne_true]
  exact h
theorem iteT {A B : Prop} (h : A) : if true = true then A else B := by
  rw [if_pos rfl]
  exact h
structure Pass (fs : List Addr) (n : Nat) (H : Hp) (h h' : Heap) : Prop where
  keep : ∀ b o, h.get? b = some o → b ∉ fs → (b < n ∨ H b ≠ none ∨ ∀ vs, o.data ≠ .fields vs) → h'.get? b = some o
  slot : ∀ b o, h.get? b = some o → b ∈ fs → ∃ sl, h'.get? b = some { o with slots := sl }
  there : ∀ b o, h.get? b = some o → ∃ o', h'.get? b = some o'
theorem Pass.refl {fs : List Addr} {n : Nat} {H : Hp} {h : Heap} : Pass fs n H h h := ⟨fun _ _ e _ _ => e, fun _ o e _ => ⟨o.slots, e⟩, fun _ o e => ⟨o, e⟩⟩
theorem Pass.trans {fs : List Addr} {n : Nat} {H : Hp} {h h1 h2 : Heap} (x : Pass fs n H h h1) (y : Pass fs n H h1 h2) : Pass fs n H h h2 :=
  ⟨fun b o e f g => y.keep b o (x.keep b o e f g) f g, fun b o e f => by
    obtain ⟨sl, e1⟩ := x.slot b o e f
    obtain ⟨sl2, e2⟩ := y.slot b _ e1 f
    exact ⟨sl2, e2⟩, fun b o e => by
    obtain ⟨o1, e1⟩ := x.there b o e
    exact y.there b o1 e1⟩
def Head (n : Nat) (H : Hp) (h : Heap) (a : Addr) (vs : Array Value) (fl : Value) : Prop :=
  (vs[1]? = some .none ∧ fl = .none) ∨ ∃ T oT ts, vs[1]? = some (.ref T) ∧ n ≤ T ∧ H T = none ∧ T ≠ a ∧ h.get? T = some oT ∧ oT.data = .fields ts ∧ ts[3]? = some fl
structure Err (n : Nat) (H : Hp) (h : Heap) (a : Addr) (C : Value) (dx : Option Addr) (fl : Value) : Prop where
  new : n ≤ a
  un : H a = none
  obj : ∃ oe vs, h.get? a = some oe ∧ oe.cls = C ∧ oe.dict = dx ∧ oe.data = .fields vs ∧ 1 < vs.size ∧ Head n H h a vs fl
theorem mapF_cls (f : Array Value → Array Value) (o : Obj) : (o.mapFields f).cls = o.cls := by
  obtain ⟨c, d, dt, sl⟩ := o
  cases dt <;> rfl
theorem mapF_dict (f : Array Value → Array Value) (o : Obj) : (o.mapFields f).dict = o.dict := by
  obtain ⟨c, d, dt, sl⟩ := o
  cases dt <;> rfl
theorem mapF_data {o : Obj} {vs : Array Value} (f : Array Value → Array Value) (e : o.data = .fields vs) : (o.mapFields f).data = .fields (f vs) := by
  obtain ⟨c, d, dt, sl⟩ := o
  cases e
  rfl
theorem ref_some (T : Addr) : (Value.ref T != Value.none) = true := by simp
theorem raw_no (L : Addr) : ¬ ((Value.none == rawInt L) = true) := by simp [rawInt]
section
variable {M : Model} {A : Around} {E : Value → Shared → Prop} {s : Shared} {env : Env} {outer : List Env} {base : Heap} {n : Nat} {H : Hp} {a L : Addr} {C : Value} {dx : Option Addr} {fl : Value}
theorem no_frame (hl : s.heap.FunFrames base (env :: outer)) {b : Addr} {o : Obj} {vs : Array Value} (e : s.heap.get? b = some o) (hd : o.data = .fields vs) : b ∉ frs (env :: outer) := fun hm => by
  obtain ⟨_, o2, e2, nf⟩ := hl.mem hm
  rw [e] at e2
  cases e2
  exact nf vs hd
theorem entry_err {Q : Unit → Shared → Prop} {hd : Value} {had : Bool} (hfr : A.frames = some (env :: outer)) (hl : s.heap.FunFrames base (env :: outer)) (hf : env.frame = some L)
    (nw : n ≤ a) (un : H a = none) {oe : Obj} {vs : Array Value} (ea : s.heap.get? a = some oe) (edat : oe.data = .fields vs) (sz : 1 < vs.size) (fresh : ∀ b, s.heap.objs.size ≤ b → H b = none)
    (h : ∀ h', Pass (frs (env :: outer)) n H s.heap h' → Err n H h' a oe.cls oe.dict (rawInt L) → (∃ o2 us T, h'.get? a = some o2 ∧ o2.data = .fields us ∧ us[1]? = some (.ref T)) → Q () { s with heap := h' }) :
    wpAny M A (do setField (.ref a) 1 (← EntryCells.newEntry hd (← frameOf env) .none (rawInt L) .none (← entryPlaceOf L had))) Q E s := by
  have na := no_frame hl ea edat
  refine wpAny_bind (wpAny_frameOf_fun hfr hl hf fun h1 so => ?_)
  refine wpAny_bind (wpAny_entryPlaceOf fun where_ isP => ?_)
  unfold EntryCells.newEntry
  unfold newFields
  refine wpAny_bind (wpAny_newObj_type ?_ (isP.sizeOk5 _ _ _ _ _))
  have ea1 : h1.get? a = some oe := (so.2.1 a na).trans ea
  have lt1 : a < h1.objs.size := Heap.lt_size ea1
  refine wpAny_setField (Heap.get?_push_of_some (h := h1) _ ea1) edat sz (h _ ⟨fun b o e nb hb => ?_, fun b o e hb => ?_, fun b o e => ?_⟩
    ⟨nw, un, _, _, Heap.get?_update_self _ (Heap.get?_push_of_some (h := h1) _ ea1) (Obj.isFreed_of_fields (mapF_data _ edat)), mapF_cls _ _, mapF_dict _ _, mapF_data _ edat, by simpa using sz,
      .inr ⟨h1.objs.size, ?oT, ?ts, by simp [sz], Nat.le_trans nw (Nat.le_of_lt lt1), fresh _ (Nat.le_of_eq so.1.symm), Nat.ne_of_gt lt1, ?eT, ?dT, ?e3⟩⟩ ⟨_, _, h1.objs.size, Heap.get?_update_self _ (Heap.get?_push_of_some (h := h1) _ ea1) (Obj.isFreed_of_fields (mapF_data _ edat)), mapF_data _ edat, by simp [sz]⟩)
  · have q : a ≠ b := fun q => by
      subst q
      rw [e] at ea
      cases ea
      rcases hb with hb | hb | hb
      · exact absurd nw (Nat.not_le.mpr hb)
      · exact hb un
      · exact hb vs edat
    rw [Heap.get?_update_other _ _ q]
    exact Heap.get?_push_of_some _ ((so.2.1 b nb).trans e)
  · have q : a ≠ b := fun q => by subst q; exact na hb
    obtain ⟨sl, e2⟩ := so.2.2 b o e
    rw [Heap.get?_update_other _ _ q]
    exact ⟨sl, Heap.get?_push_of_some _ e2⟩
  · obtain ⟨sl, e2⟩ := so.2.2 b o e
    by_cases q : a = b
    · subst q; exact ⟨_, Heap.get?_update_self _ (Heap.get?_push_of_some (h := h1) _ ea1) (Obj.isFreed_of_fields (mapF_data _ edat))⟩
    · exact ⟨_, by rw [Heap.get?_update_other _ _ q]; exact Heap.get?_push_of_some _ e2⟩
  case eT =>
    rw [Heap.get?_update_other _ _ (Nat.ne_of_lt lt1)]
    refine Heap.get?_push_size h1 ?_
    rfl
  case dT => rfl
  case e3 => first | (simp; done) | (rcases isP with rfl | ⟨_, _, _, _, _, _, _, rfl⟩ <;> simp)
theorem note_err {Q : Unit → Shared → Prop} (hfr : A.frames = some (env :: outer)) (hl : s.heap.FunFrames base (env :: outer)) (hf : env.frame = some L)
    (x : Err n H s.heap a C dx fl) (hm : fl = .none ∨ fl = rawInt L) (fresh : ∀ b, s.heap.objs.size ≤ b → H b = none)
    (h : ∀ h', Pass (frs (env :: outer)) n H s.heap h' → Err n H h' a C dx (rawInt L) → (∃ o2 us T, h'.get? a = some o2 ∧ o2.data = .fields us ∧ us[1]? = some (.ref T)) → Q () { s with heap := h' }) :
    wpAny M A (noteFrame (.ref a) env) Q E s := by
  obtain ⟨new, un, oe, vs, ea, ec, ed, edat, sz, hd⟩ := id x
  unfold noteFrame
  simp only [hf]
  rcases hd with ⟨e1, _⟩ | ⟨T, oT, ts, e1, nT, uT, neT, eT, dT, e3⟩
  · refine wpAny_bind (wpAny_field ea edat e1 ?_)
    rw [if_neg (by decide)]
    refine entry_err hfr hl hf new un ea edat sz fresh fun h' ps er nh => h h' ps ?_ nh
    rw [← ec, ← ed]; exact er
  · refine wpAny_bind (wpAny_field ea edat e1 ?_)
    rw [if_pos (ref_some T)]
    refine wpAny_bind (wpAny_field eT dT e3 ?_)
    rcases hm with hm | hm
    · subst hm
      rw [if_neg (raw_no L)]
      have h3 : 3 < ts.size := (Array.getElem?_eq_some_iff.mp e3).1
      refine wpAny_bind (wpAny_setField eT dT h3 ?_)
      have oth : ∀ b, b ≠ T → (s.heap.update T (Obj.mapFields (·.setIfInBounds 3 Value.none))).get? b = s.heap.get? b := fun b hb => Heap.get?_update_other _ _ (Ne.symm hb)
      have nT' := no_frame hl eT dT
      refine entry_err (s := { s with heap := s.heap.update T (Obj.mapFields (·.setIfInBounds 3 Value.none)) }) hfr (hl.of_keeps fun b o e nf => ⟨o, ?_, rfl⟩) hf new un ((oth a (Ne.symm neT)).trans ea) edat sz (fun b hb => fresh b ?_) fun h' ps er nh => h h' ?_ ?_ nh
      · refine (oth b fun q => ?_).trans e
        subst q
        rw [e] at eT
        cases eT
        exact nf ts dT
      · have : (s.heap.update T (Obj.mapFields (·.setIfInBounds 3 Value.none))).objs.size = s.heap.objs.size := by simp
        exact this ▸ hb
      · refine Pass.trans ⟨fun b o e _ hb => ?_, fun b o e hb => ?_, fun b o e => ?_⟩ ps
        · refine (oth b fun q => ?_).trans e
          subst q
          rw [e] at eT
          cases eT
          rcases hb with hb | hb | hb
          · exact absurd nT (Nat.not_le.mpr hb)
          · exact hb uT
          · exact hb ts dT
        · exact ⟨o.slots, (oth b fun q => nT' (q ▸ hb)).trans e⟩
        · by_cases q : b = T
          · subst q; exact ⟨_, Heap.get?_update_self _ eT (Obj.isFreed_of_fields (mapF_data _ dT))⟩
          · exact ⟨o, (oth b q).trans e⟩
      · rw [← ec, ← ed]; exact er
    · subst hm
      rw [if_pos (by simp)]
      exact wpAny_pure (h s.heap .refl x ⟨oe, vs, T, ea, edat, e1⟩)
end
section
variable {X : Cx} {pins : List (Addr × Obj)} {σ : St} {H : Hp} {s : Shared} {h' : Heap}
open Classical in
end
def CXE (P : Program) (w : World) : CXT := fun outer H s E e s' =>
  ∃ a C dx H', e = .ref a ∧ s'.os = s.os ∧ AllBare s'.gens ∧ Un (frs outer) [] H H' s.heap s'.heap ∧ HOk P w H' s'.heap ∧ Err s.heap.objs.size H' s'.heap a C dx .none ∧ E C dx H'
theorem passE0 {X : Cx} {P : Program} {w : World} : Passes (CXE P w) X E0 := fun _ _ _ _ _ _ _ h => by
  obtain ⟨_, _, _, _, _, _, _, _, _, _, q⟩ := h
  exact q.elim
section
variable {X : Cx} {E : XK}
structure Own (X : Cx) : Prop where
  stk : X.stack = X.env :: X.outer
  frm : X.env.frame = some X.env.locals
  pn : X.pn = []
end
open PySem.Builtin PySem.Builtin.ObjectAttr
section
variable {X : Cx} {pins : List (Addr × Obj)} {σ : St} {H : Hp} {s : Shared} {a : Addr} {φ : Heap → Prop}
abbrev errH (a : Addr) (C : Value) (dx : Option Addr) : HO := .ext fun h => ∃ o vs, h.get? a = some o ∧ o.cls = C ∧ o.dict = dx ∧ o.data = .fields vs
end
structure ErrC (K : PySem.W.Frag) (C : Addr) (bm : List Value) : Prop where
  at_ : ∃ nm q N bs hdct sn sub ab col dd k0 k1 k2 k3 k5 newId, K.lookup C = some (excClassObj nm q C N bs bm hdct sn sub ab col dd k0 k1 k2 k3 k5 newId)
  base : bm.contains (.type "BaseException") = true
structure ErrM (K : PySem.W.Frag) (C f : Addr) (bm bmB : List Value) (B newId initId : String) : Prop where
  at_ : ∃ nm q N bs hdct sn sub ab col dd k0 k1 k2 k3 k5, K.lookup C = some (excClassObj nm q C N bs bm hdct sn sub ab col dd k0 k1 k2 k3 k5 newId)
  facts : ExcBaseFacts B newId initId bmB
  hasB : bm.contains (.type B) = true
  noA : bm.contains (.type "AttributeError") = false
  noN : bm.contains (.type "NameError") = false
  base : bm.contains (.type "BaseException") = true
  init : PySem.W.findIn K (.ref C) "__init__" = some (some (.ref f))
  fn : PySem.W.isFn K (.ref f) = true
  kp : PySem.W.keepIn K (.ref C) = true
structure ErrS (K : PySem.W.Frag) (C : Addr) (f : Str) (bm : List Value) : Prop where
  at_ : ∃ nm q N bs sn sub ab col dd k0 k1 k2 k3 k5 newId, K.lookup C = some (excClassObj nm q C N bs bm true sn sub ab col dd k0 k1 k2 k3 k5 newId)
  passes : ∀ x : Addr, refuseLoop (.ref x) "__setattr__" bm = pure ()
  obj : bm.contains (.type "object") = true
  set : PySem.W.findIn K (.ref C) "__setattr__" = some (some (.builtin "object.__setattr__"))
  none : PySem.W.findIn K (.ref C) f = some none
def Ext (H H' : Hp) : Prop := ∀ b o, H b = some o → H' b = some o
theorem Ext.rfl' {H : Hp} : Ext H H := fun _ _ h => h
theorem Ext.tr {H H1 H2 : Hp} (a : Ext H H1) (b : Ext H1 H2) : Ext H H2 := fun c o h => b c o (a c o h)
theorem ext_upd {H : Hp} {p : Addr} {o : HO} (n : H p = none) : Ext H (upd H p o) := fun b u h => by
  rw [upd_ne (ne_of_none h n)]; exact h
theorem Ext.free {H H' : Hp} (e : Ext H H') {l : Addr} (h : H' l = none) : H l = none := by
  cases q : H l with
  | none => rfl
  | some o => rw [e l o q] at h; cases h
theorem Ext.rd {H H' : Hp} {a : Addr} {u : HO} (e : Ext H H') (h : Rd H a u) : Rd H' a u := by
  rcases h with h | ⟨o, h⟩
  · exact .inl (e _ _ h)
  · exact .inr ⟨o, e _ _ h⟩
theorem Ext.seqL {K : PySem.W.Frag} {H H' : Hp} {a : Addr} {xs : List V} (e : Ext H H') (h : SqL K H a xs) : SqL K H' a xs := h.elim (fun h => .inl (e.rd h)) .inr
theorem Ext.seqT {K : PySem.W.Frag} {H H' : Hp} {a : Addr} {xs : List V} (e : Ext H H') (h : SqT K H a xs) : SqT K H' a xs := h.elim (fun h => .inl (e.rd h)) .inr
theorem up {H H' : Hp} {p : Addr} {o : HO} (e : Ext H H') (h : H p = some o) : H' p = some o := e _ _ h
def But (x : Addr) (H H' : Hp) : Prop := ∀ b o, b ≠ x → H b = some o → H' b = some o
theorem But.tr {x : Addr} {H H1 H2 : Hp} (a : But x H H1) (b : But x H1 H2) : But x H H2 := fun c o n h => b c o n (a c o n h)
theorem Ext.toBut {x : Addr} {H H1 H2 : Hp} (a : Ext H H1) (b : But x H1 H2) : But x H H2 := fun c o n h => b c o n (a c o h)
theorem Ext.but {x : Addr} {H H1 H2 : Hp} (a : Ext H H1) (b : But x H1 H2) (n : H x = none) : Ext H H2 := fun c o h => b c o (ne_of_none h n) (a c o h)
theorem but_upd {H : Hp} {p : Addr} {o : HO} : But p H (upd H p o) := fun b u n h => by rw [upd_ne n]; exact h
inductive Kd where | non | bl | int | str | tup | lst | dct
  deriving DecidableEq
def Kd.ty : Kd → String
  | .non => "NoneType" | .bl => "bool" | .int => "int" | .str => "str" | .tup => "tuple" | .lst => "list" | .dct => "dict"
def HasK (H : Hp) : V → Kd → Prop
  | .non, k => k = .non
  | .bl _, k => k = .bl
  | .int _, k => k = .int
  | .str _, k => k = .str
  | .ref a, k => (∃ xs, H a = some (.tup xs) ∧ k = .tup) ∨ (∃ xs, H a = some (.lst xs) ∧ k = .lst) ∨ (∃ kvs, H a = some (.dK kvs) ∧ k = .dct)
  | _, _ => False
theorem HasK.t {H : Hp} {a : Addr} {xs : List V} (h : H a = some (.tup xs)) : HasK H (.ref a) .tup := .inl ⟨xs, h, rfl⟩
theorem HasK.l {H : Hp} {a : Addr} {xs : List V} (h : H a = some (.lst xs)) : HasK H (.ref a) .lst := .inr (.inl ⟨xs, h, rfl⟩)
theorem HasK.d {H : Hp} {a : Addr} {kvs : List (Key × V)} (h : H a = some (.dK kvs)) : HasK H (.ref a) .dct := .inr (.inr ⟨kvs, h, rfl⟩)
theorem HasK.tyOf {K : PySem.W.Frag} {H : Hp} {x : V} {k : Kd} (h : HasK H x k) : TyOf K H x (.type k.ty) := by
  cases x with
  | non => cases (show k = .non from h); exact .non
  | bl b => cases (show k = .bl from h); exact .bl b
  | int b => cases (show k = .int from h); exact .int b
  | str b => cases (show k = .str from h); exact .str b
  | ref a =>
    rcases h with ⟨xs, h, rfl⟩ | ⟨xs, h, rfl⟩ | ⟨xs, h, rfl⟩
    · exact .tup h
    · exact .lst h
    · exact .dK h
  | _ => exact (show False from h).elim
inductive D where
  | non | bl (b : Bool) | int (i : Int) | str (x : Str) | tup (l : List D) | lst (l : List D) | dct
def D.kd : D → Kd
  | .non => .non | .bl _ => .bl | .int _ => .int | .str _ => .str | .tup _ => .tup | .lst _ => .lst | .dct => .dct
mutual
def Rep (H : Hp) : D → V → Prop
  | .non, v => v = .non
  | .bl b, v => v = .bl b
  | .int i, v => v = .int i
  | .str x, v => v = .str x
  | .tup l, v => ∃ p xs, v = .ref p ∧ H p = some (.tup xs) ∧ RepL H l xs
  | .lst l, v => ∃ p xs, v = .ref p ∧ H p = some (.lst xs) ∧ RepL H l xs
  | .dct, v => ∃ p kvs, v = .ref p ∧ H p = some (.dK kvs)
def RepL (H : Hp) : List D → List V → Prop
  | [], xs => xs = []
  | d :: r, xs => ∃ x t, xs = x :: t ∧ Rep H d x ∧ RepL H r t
end
def isData : HO → Bool
  | .tup _ => true | .lst _ => true | .dK _ => true | _ => false
def Kp (H H' : Hp) : Prop := ∀ b o, H b = some o → isData o = true → H' b = some o
theorem Ext.kp {H H' : Hp} (e : Ext H H') : Kp H H' := fun b o h _ => e b o h
mutual
theorem Rep.keep' {H H' : Hp} (e : Kp H H') : ∀ (d : D) {v : V}, Rep H d v → Rep H' d v
  | .non, _, h => by unfold Rep at h ⊢; exact h
  | .bl _, _, h => by unfold Rep at h ⊢; exact h
  | .int _, _, h => by unfold Rep at h ⊢; exact h
  | .str _, _, h => by unfold Rep at h ⊢; exact h
  | .tup l, _, h => by unfold Rep at h ⊢; obtain ⟨p, xs, h1, h2, h3⟩ := h; exact ⟨p, xs, h1, e _ _ h2 rfl, RepL.keep' e l h3⟩
  | .lst l, _, h => by unfold Rep at h ⊢; obtain ⟨p, xs, h1, h2, h3⟩ := h; exact ⟨p, xs, h1, e _ _ h2 rfl, RepL.keep' e l h3⟩
  | .dct, _, h => by unfold Rep at h ⊢; obtain ⟨p, xs, h1, h2⟩ := h; exact ⟨p, xs, h1, e _ _ h2 rfl⟩
theorem RepL.keep' {H H' : Hp} (e : Kp H H') : ∀ (l : List D) {xs : List V}, RepL H l xs → RepL H' l xs
  | [], _, h => by unfold RepL at h ⊢; exact h
  | d :: r, _, h => by unfold RepL at h ⊢; obtain ⟨x, t, h1, h2, h3⟩ := h; exact ⟨x, t, h1, Rep.keep' e d h2, RepL.keep' e r h3⟩
end
theorem Rep.keep {H H' : Hp} {d : D} {v : V} (h : Rep H d v) (e : Kp H H') : Rep H' d v := Rep.keep' e d h
theorem RepL.keep {H H' : Hp} {d : List D} {v : List V} (h : RepL H d v) (e : Kp H H') : RepL H' d v := RepL.keep' e d h
theorem Rep.mono {H H' : Hp} {d : D} {v : V} (h : Rep H d v) (e : Ext H H') : Rep H' d v := h.keep e.kp
theorem RepL.mono {H H' : Hp} {d : List D} {v : List V} (h : RepL H d v) (e : Ext H H') : RepL H' d v := h.keep e.kp
theorem RepL.length {H : Hp} : ∀ {l : List D} {xs : List V}, RepL H l xs → l.length = xs.length
  | [], _, h => by unfold RepL at h; rw [h]; rfl
  | d :: r, _, h => by unfold RepL at h; obtain ⟨x, t, rfl, _, h3⟩ := h; rw [List.length_cons, List.length_cons, RepL.length h3]
theorem RepL.get {H : Hp} : ∀ {l : List D} {xs : List V} {i : Nat} {x : V}, RepL H l xs → xs[i]? = some x → ∃ d, l[i]? = some d ∧ Rep H d x
  | [], _, i, x, h, e => by unfold RepL at h; subst h; simp at e
  | d :: r, _, 0, x, h, e => by unfold RepL at h; obtain ⟨y, t, rfl, h2, _⟩ := h; simp at e; subst e; exact ⟨d, rfl, h2⟩
  | d :: r, _, i + 1, x, h, e => by unfold RepL at h; obtain ⟨y, t, rfl, _, h3⟩ := h; obtain ⟨z, z1, z2⟩ := RepL.get (i := i) h3 (by simpa using e); exact ⟨z, by simpa using z1, z2⟩
theorem RepL.nil {H : Hp} : RepL H [] [] := by unfold RepL; rfl
theorem RepL.cons {H : Hp} {d : D} {x : V} {l : List D} {xs : List V} (h : Rep H d x) (t : RepL H l xs) : RepL H (d :: l) (x :: xs) := by unfold RepL; exact ⟨x, xs, rfl, h, t⟩
theorem Rep.intI {H : Hp} {i : Int} : Rep H (.int i) (.int i) := by unfold Rep; rfl
theorem Rep.strI {H : Hp} {b : Str} : Rep H (.str b) (.str b) := by unfold Rep; rfl
theorem Rep.tupI {H : Hp} {p : Addr} {xs : List V} {l : List D} (h : H p = some (.tup xs)) (r : RepL H l xs) : Rep H (.tup l) (.ref p) := by unfold Rep; exact ⟨p, xs, rfl, h, r⟩
theorem Rep.lstI {H : Hp} {p : Addr} {xs : List V} {l : List D} (h : H p = some (.lst xs)) (r : RepL H l xs) : Rep H (.lst l) (.ref p) := by unfold Rep; exact ⟨p, xs, rfl, h, r⟩
theorem RepL.ints {H : Hp} : ∀ ns : List Int, RepL H (ns.map D.int) (ns.map V.int)
  | [] => .nil
  | _ :: r => .cons .intI (RepL.ints r)
theorem Rep.kd {H : Hp} {d : D} {v : V} (h : Rep H d v) : HasK H v d.kd := by
  cases d with
  | tup l => unfold Rep at h; obtain ⟨p, xs, rfl, h, _⟩ := h; exact .t h
  | lst l => unfold Rep at h; obtain ⟨p, xs, rfl, h, _⟩ := h; exact .l h
  | dct => unfold Rep at h; obtain ⟨p, xs, rfl, h⟩ := h; exact .d h
  | _ => unfold Rep at h; subst h; exact rfl
mutual
def D.fine : D → Bool
  | .tup l => D.fineL l
  | .lst l => D.fineL l
  | .dct => false
  | _ => true
def D.fineL : List D → Bool
  | [] => true
  | d :: r => d.fine && D.fineL r
def D.depth : D → Nat
  | .tup l => D.depthL l + 1
  | .lst l => D.depthL l + 1
  | _ => 0
def D.depthL : List D → Nat
  | [] => 0
  | d :: r => max d.depth (D.depthL r)
end
theorem depthL_le : ∀ {l : List D} {n i : Nat} {d : D}, D.depthL l ≤ n → l[i]? = some d → d.depth ≤ n
  | [], _, _, _, _, e => by simp at e
  | x :: r, n, 0, d, h, e => by simp at e; subst e; unfold D.depthL at h; omega
  | x :: r, n, i + 1, d, h, e => by unfold D.depthL at h; exact depthL_le (l := r) (by omega) (by simpa using e)
theorem depthL_ints (ns : List Int) : D.depthL (ns.map D.int) = 0 := by
  induction ns with
  | nil => rfl
  | cons n r ih => show max (D.depth (.int n)) (D.depthL (r.map D.int)) = 0; rw [ih]; rfl
abbrev CXU (P : Program) (w : World) : CXT := CXE P w
theorem passU {X : Cx} {P : Program} {w : World} : Passes (CXU P w) X E0 := passE0
theorem noneU {P : Program} : ∀ (w : World) (H : Hp) (s : Shared) (e : Value) (s' : Shared), CXU P w [] H s (fun _ _ _ => False) e s' → False := fun _ _ _ _ _ h => by
  obtain ⟨_, _, _, _, _, _, _, _, _, _, q⟩ := h
  exact q
theorem FnOk.no {P : Program} {w : World} {K : PySem.W.Frag} {mg : Str → Option Value} {base : Heap} {CX : CXT} {k : Nat} {f : Addr} {fd : FuncData} {ps : List Str} : FnOk P w K mg base CX k f fd ps (fun _ _ _ _ => False) :=
  ⟨fun _ _ _ _ h => h.elim, fun _ _ _ _ _ _ _ _ _ _ _ _ _ h => h.elim⟩
section
variable {P : Program} {w : World} {K : PySem.W.Frag} {mg : Str → Option Value} {base : Heap}
theorem Fun.okU {x qual : Str} {st : Stmt} {f : Addr} {fd : FuncData} {N ps : List Str} {k : Nat} {sp : Sp} (F : Fun K x qual st f fd) (S : FnScope N ps (defScope st)) (len : ∀ vs H Q E, sp vs H Q E → vs.length = ps.length)
    (hbody : ∀ (cdv : Value) (A : Around) (outer : List Env) (s : Shared) (H : Hp) (vs : List V) (Q : VK) (E : XK), Room k (A.deeper (envOfC qual (defScope st) s.heap.objs.size f cdv)) → sp vs H Q E →
      ∃ t, PSs (cxOf (CXU P w) P w K mg base N qual (defScope st) f cdv A outer s H E).nox (defBody st) t ∧ t { nx := fun _ H' => Q .non H', rt := Q } (start N vs) H) : FnOk P w K mg base (CXU P w) (k + 1) f fd ps sp := by
  obtain ⟨oc, od, kV, doc, pm, an, cdv, ct, osl, rfl, lk, hcd⟩ := F.ex
  refine fn_of lk hcd S len fun A outer s H vs Q E hr hsp => ?_
  obtain ⟨t, h, q⟩ := hbody cdv A outer s H vs Q E hr hsp
  exact ⟨t, h.nox, q⟩
end
abbrev ib : Int → Nat := Builtin.Int.intBits
theorem bits_of_lay {ns : List Int} (h : PySem.W.WData.layableAll [.list (ns.map .int)] = true) : ∀ z ∈ ns, ib z ≤ 1048576 := fun z hz => by
  have h1 := PySem.W.layableW_arg h _ (List.mem_singleton.mpr rfl)
  have h2 := PySem.W.layableW_item h1 (.int z) (List.mem_map.mpr ⟨z, hz, rfl⟩)
  have h3 := (PySem.W.layableW_iff.mp h2).2.2
  simpa [PySem.W.WData.weight, ib, Builtin.Int.intBits] using h3
end L2
namespace L2
open PySem PySem.W PySem.Calls PyProof.Rows
theorem attach_callB {l : OpenLaw} {n : Nat} {q : Program} {loose : List Str} {XP : (Str → Option Value) → Heap → Prop} {YP : World → Heap → Prop} {d : DefRec}
    (hn : l.most = some n) (hdf : d.params.defaults = [])
    (call : ∀ (w : World) (s₀ s₁ : Shared) (mg mb : Str → Option Value) (fa : Addr) (o : Obj) (pm cd doc : Value) (a : Addr) (vs : List Value) (ns : List Int),
      Ground q loose [] XP w s₀ mg mb s₁.heap → YP w s₁.heap →
      s₁.heap.get? fa = some o → o.data = .func (docDef d.name d.params d.body d.scope pm cd doc) → s₁.heap.CodeRec cd d.name → mg d.name = some (.ref fa) →
      s₁.heap.get? a = some { cls := .type "list", data := .seq vs.toArray } → IntsAre vs ns → ns.length ≤ n → (∀ z ∈ ns, ib z ≤ 1048576) → s₁.gens = #[] →
      codeAny (model l.prog w) callerA (.call (.ref fa) ⟨[.ref a], []⟩) (fun r s' => r = .ok (.ret (.bool true)) ∧ OldK s₁.heap s'.heap ∧ s'.os = s₁.os ∧ AllBare s'.gens) s₁) :
    WalkO q loose XP YP l.row.toRowW d [] (fun f vs => PySem.call f vs) := by
  intro w s₀ s₁ mg mb G Y fa o pm cd doc dV kV ho hd hcd hD hmg hg args vals as hpre hlay hrd hwl hlo
  obtain rfl : dV = .none := Dflts.none hD hdf
  obtain rfl : kV = .none := Dflts.noKw hD
  obtain ⟨a, vs, ns, rfl, rfl, hobj, hints, hlen⟩ := Att.script_of hn hpre hwl
  refine enter_call (codeAny_mono (call w s₀ s₁ mg mb fa o pm cd doc a vs ns G Y ho (fd_plain hd) hcd hmg hobj hints hlen (bits_of_lay hlay) hg) fun r s' hq => ?_)
  obtain ⟨rfl, h2, h3, h4⟩ := hq
  exact ⟨.inl ⟨.bool true, .bool true, [], rfl, fun _ => rfl, .bool true, Att.post_true l _, fun _ => ⟨List.Pairwise.nil, fun _ hm => (nomatch hm)⟩⟩, h2, h3, h4⟩
theorem walk_ofB {l : PySem.W.OpenLaw} {n k : Nat} {q : Program} {loose : List Str} {XP : (Str → Option Value) → Heap → Prop} {YP : World → Heap → Prop} {d : DefRec} {K : Params → PySem.W.Frag} {CX : World → CXT} {sp : World → Sp} {x : Str}
    (hn : l.most = some n) (hn2 : n ≤ sizeLine) (hdf : d.params.defaults = []) (hr : Room k callerA)
    (hY : ∀ (w : World) (h : Heap), YP w h → (K w.params).In h)
    (F : ∀ (w : World) (mg : Str → Option Value) (fa : Addr) (h : Heap), (K w.params).In h → h.Ns mainGlobals mg → mg d.name = some (.ref fa) →
      ∃ fd : FuncData, (∀ (s : Shared) (u : Value), BindsTo s fd ⟨[u], []⟩ [(x, u)]) ∧
        ∀ base : Heap, (K w.params).In base → base.Ns mainGlobals mg → FnOk l.prog w (K w.params) mg base (CX w) k fa fd [x] (sp w))
    (hsp : ∀ (w : World) (H : Hp) (a : Addr) (ns : List Int), ns.length ≤ n → (∀ z ∈ ns, ib z ≤ 1048576) → Only H → SqL (K w.params) H a (ns.map V.int) → sp w [.ref a] H (fun v _ => v = .bl true) fun _ _ _ => False)
    (hCX : ∀ (w : World) (H : Hp) (s : Shared) (e : Value) (s' : Shared), CX w [] H s (fun _ _ _ => False) e s' → False) :
    PySem.W.WalkO q loose XP YP l.row.toRowW d [] (fun f vs => PySem.call f vs) := by
  refine attach_callB hn hdf fun w s₀ s₁ mg mb fa o pm cd doc a vs ns G Y ho hd hcd hmg hobj hints hlen hbit hg => ?_
  have KX := hY w _ Y
  obtain ⟨fd, hb, hF⟩ := F w mg fa _ KX G.T.g hmg
  exact law_call KX G.T.g G.T.b G.T.builtins G.T.nolimit G.T.bmain hg hobj hints (Nat.le_trans hlen hn2) hr hF hb (fun H hO hS => hsp w H a ns hlen hbit hO hS) fun H e s' => hCX w H s₁ e s'
section
variable {X : Cx}
def CMulB (i j : Int) : Prop := (-18446744073709551616 < i ∧ i < 18446744073709551616) ∨ (-18446744073709551616 < j ∧ j < 18446744073709551616) ∨ IntMulOk i j
theorem CMulB.ok {i j : Int} (h : CMulB i j) : IntMulOk i j := by
  rcases h with ⟨h1, h2⟩ | ⟨h1, h2⟩ | h
  · exact .of_left (intBits_le_64 (by omega) (by omega))
  · exact .of_right (intBits_le_64 (by omega) (by omega))
  · exact h
theorem op_mulB : OpR X (binaryOp .Mult) (rI CMulB fun i j => .int (i * j)) := opI fun _ _ _ _ _ _ _ hc q => mul_int q hc.ok
def CDivB (i j : Int) : Prop := 0 < j ∧ j < 1000000000000000000000000000000000000000000000000000000000000
theorem CDivB.no {i j : Int} (h : CDivB i j) : Builtin.divisionGoesByPylong i j = false := by
  refine PyProof.noPylong_of_log2 ?_
  have h1 := h.1
  have h2 := h.2
  have h0 : j.natAbs ≠ 0 := by omega
  refine (Nat.log2_lt h0).mpr ?_
  have e : (1000000000000000000000000000000000000000000000000000000000000 : Nat) < 2 ^ 9000 := by decide +kernel
  omega
theorem op_fdivB : OpR X (binaryOp .FloorDiv) (rI CDivB fun i j => .int (i / j)) := opI fun i j _ _ _ _ _ hc q => by
  have h1 := hc.1
  exact floordiv_int (by omega) (by rw [Int.fdiv_eq_ediv_of_nonneg i (by omega)]; exact q) (.inl hc.no)
def rIsin (K : PySem.W.Frag) : List V → Hp → VK → Prop := fun xs H Q => ∃ x t b, ((∃ n, xs = [x, .ty n] ∧ PySem.W.kitOne K t (.type n) = some b) ∨ ∃ C, xs = [x, .ref C] ∧ PySem.W.kitOne K t (.ref C) = some b) ∧ TyOf K H x t ∧ Q (.bl b) H
theorem cIsin : CallR X (.builtin "isinstance") (rIsin X.K) := by
  intro pins s σ H xs us Q I r h
  obtain ⟨x, t, b, hx, ty, q⟩ := h
  rcases hx with ⟨n, rfl, e⟩ | ⟨n, rfl, e⟩
  · obtain ⟨u, w', rfl, ru, rw'⟩ := vals2 r
    obtain rfl : w' = Value.type n := rw'
    exact isinst_ok I ru ty e fun tk => ⟨.bl b, H, I.tok _, rfl, q⟩
  · obtain ⟨u, w', rfl, ru, rw'⟩ := vals2 r
    obtain rfl : w' = Value.ref n := rw'
    exact isinst_ok I ru ty e fun tk => ⟨.bl b, H, I.tok _, rfl, q⟩
theorem kit_int {K : PySem.W.Frag} (k : Kd) : PySem.W.kitOne K (.type k.ty) (.type "int") = some (k == .int || k == .bl) := by cases k <;> rfl
theorem kit_bool {K : PySem.W.Frag} (k : Kd) : PySem.W.kitOne K (.type k.ty) (.type "bool") = some (k == .bl) := by cases k <;> rfl
theorem kit_str {K : PySem.W.Frag} (k : Kd) : PySem.W.kitOne K (.type k.ty) (.type "str") = some (k == .str) := by cases k <;> rfl
theorem kit_tuple {K : PySem.W.Frag} (k : Kd) : PySem.W.kitOne K (.type k.ty) (.type "tuple") = some (k == .tup) := by cases k <;> rfl
theorem kit_list {K : PySem.W.Frag} (k : Kd) : PySem.W.kitOne K (.type k.ty) (.type "list") = some (k == .lst) := by cases k <;> rfl
def rMax2 : List V → Hp → VK → Prop := fun xs H Q => ∃ i j, xs = [.int i, .int j] ∧ Q (.int (max i j)) H
theorem cMax2 (hc : X.calm = true) : CallR X (.builtin "max") rMax2 := by
  intro pins s σ H xs us Q I r h
  obtain ⟨i, j, rfl, q⟩ := h
  refine call_max2 hc pins s σ H _ us Q I r ⟨i, j, rfl, ?_⟩
  have e : (if j > i then j else i) = max i j := by split <;> omega
  rw [e]; exact q
def rAbs : List V → Hp → VK → Prop := fun xs H Q => ∃ i : Int, xs = [.int i] ∧ Q (.int (i.natAbs : Int)) H
theorem cAbs : CallR X (.builtin "abs") rAbs := by
  intro pins s σ H xs us Q I r h
  obtain ⟨i, rfl, q⟩ := h
  refine call_abs pins s σ H _ us Q I r ⟨i, rfl, ?_⟩
  have e : (if i < 0 then -i else i) = (i.natAbs : Int) := by split <;> omega
  rw [e]; exact q
def rLen (K : PySem.W.Frag) : List V → Hp → VK → Prop := fun xs H Q => ∃ x n, xs = [x] ∧ LenV K x H n ∧ Q (.int n) H
theorem cLen : CallR X (.builtin "len") (rLen X.K) := call_len
def rList (K : PySem.W.Frag) : List V → Hp → VK → Prop := fun xs H Q => ∃ p ys, xs = [.ref p] ∧ (SqL K H p ys ∨ SqT K H p ys) ∧ ∀ l, H l = none → Q (.ref l) (upd H l (.lst ys))
theorem cList : CallR X (.type "list") (rList X.K) := call_list_of
def rTuple (K : PySem.W.Frag) : List V → Hp → VK → Prop := fun xs H Q => ∃ p ys, xs = [.ref p] ∧ ((SqL K H p ys ∧ ∀ l, H l = none → Q (.ref l) (upd H l (.tup ys))) ∨ (SqT K H p ys ∧ Q (.ref p) H))
theorem cTuple : CallR X (.type "tuple") (rTuple X.K) := call_tuple_of
def rInU (K : PySem.W.Frag) (neg : Bool) : R2 := rIn K neg
theorem oIn : OpR X (compareOp .In) (rInU X.K false) := op_in_seq
theorem oNotIn : OpR X (compareOp .NotIn) (rInU X.K true) := op_notIn_seq
def rIsNo : R2 := fun x y H Q => y = .non ∧ Q (.bl (decide (x = .non))) H
theorem oIsN : OpR X (compareOp .Is) rIsNo := op_isN
theorem oIx : IxR X (rIx X.K) := ix_seq
def rSlU (K : PySem.W.Frag) : V → Option Int → Option Int → Hp → VK → Prop := fun x lo hi H Q => rSlT K x lo hi H Q ∨ rSlL K x lo hi H Q
theorem oSl : SlR X (rSlU X.K) := sl_tup.or sl_list
def tTru (K : PySem.W.Frag) (ta : TE) : TT := fun σ H Q => ta σ H fun x H' => ∃ k, TruV K x H' k ∧ Q k H'
theorem ptT {a : Expr} {ta : TE} (ha : PE X a ta) (he : ∀ whole, isTrue a X.env whole = (do let v ← whole; standAt a.pos; holding [v] (truthy v))) : PT X a (tTru X.K ta) := pt_truth ha he
structure CMeth (K : PySem.W.Frag) (C : Addr) (m : Str) (f : Addr) : Prop where
  ga : PySem.W.specialIn K (.ref C) "__getattribute__" = some (some (.builtin "type.__getattribute__"))
  rd : PySem.W.readsIn K C (.type "type") = true
  at_ : PySem.W.findCls K (.ref C) (.type "type") m = some (.val (.ref f))
  kp : PySem.W.keepIn K (.ref f) = true
def tCMeth (C : Addr) (sp : Sp) (dvs : List V) (E : XK) (ta : TE) (t : TA) : TE := fun σ H Q => ta σ H fun x H1 => x = .ref C ∧ t σ H1 fun vs H2 => sp (vs ++ dvs) H2 Q E
theorem pe_cmeth {CX : CXT} {k : Nat} {f C : Addr} {fd : FuncData} {ps : List Str} {sp : Sp} {dvs : List V} {ds : List Value} {E : XK} {m : Str} {pos apos : Pos} {e o : Expr} {es : List Expr} {ta : TE} {t : TA} {pl : Sem Bool}
    (he : PE X o ta) (hm : CMeth X.K C m f) (F : FnOk X.prog X.w X.K X.mg X.base CX k f fd ps sp) (hr : Room k X.A) (hb : Binds X.K fd ps ds) (hd : Vals dvs ds) (hx : Passes CX X E) (ha : PA X (e :: es) t)
    (hst : starEach (e :: es) X.env = (false, eval e X.env) :: starEach es X.env := by rfl) (hpl : (backTo pos (starEach es X.env)).any (·.1) = false := by rfl)
    (ht : eval (.Call (.Attribute o m apos) (e :: es) [] pos) X.env = (do
      let ov ← eval o X.env
      standAt apos.atName
      let (f, first) ← holding [ov] (getMethod ov m pl)
      callWith pos f first (backTo pos (starEach (e :: es) X.env)) (backToKw pos (keywordEach [] X.env))) := by rfl) :
    PE X (.Call (.Attribute o m apos) (e :: es) [] pos) (tCMeth C sp dvs E ta t) := by
  intro pins s σ H Q I h
  refine PySem.W.methodCall_KW (pl := pl) (thn (he pins s σ H _ I h) fun u s1 ⟨x, H1, I1, rx, ex, q⟩ => ?_) ht
  subst ex
  obtain rfl : u = Value.ref C := rx
  refine PySem.W.method_cls I1.kIn hm.ga (PySem.W.cls_value I1.kIn hm.rd hm.at_ (handed_of (v := .ref f) rfl) ?_)
  refine PySem.W.callWith_K (first := []) (h₀ := X.base) I.ok.mod.kin hm.kp (thn (ha pos pins _ σ H1 _ (I1.tok _) q) fun us s2 ⟨vs, H2, I2, r, q2⟩ => ⟨I2.kIn, ?_⟩) hst hpl
  exact run_fn (us := us) (vs := vs) F hr hb hd hx I2 r q2
end
section
variable {X : Cx} {pins : List (Addr × Obj)} {σ : St} {H : Hp} {s : Shared} {h' : Heap}
theorem Inv.turnLaid {t' : Nat} {ch : List Addr} {a : Addr} {o : HO} (I : Inv X pins σ H s) (k : ∀ b u, b ∉ ch → s.heap.get? b = some u → h'.get? b = some u) (hf : ∀ b ∈ ch, FpOk X pins H b)
    (hp : s.heap.objs.size ≤ a) (new : ObjOk X.prog X.w (upd H a o) h' a o) : Inv X pins σ (upd H a o) { s with heap := h', toks := t' } := by
  have hn : H a = none := I.hok.fresh hp
  have nit : ∀ b u, H b = some u → b ∉ ch := fun b u e z => by rw [(hf b z).1] at e; cases e
  have old : ∀ b u, H b = some u → upd H a o b = some u := fun b u e => by rw [upd_ne (ne_of_none e hn)]; exact e
  refine I.step (g' := s.gens) (d' := s.drawn) (ch := ch) (fun b hb => ?_) (fun b u _ _ hc e _ => k b u hc e) (fun b u _ _ hc e _ => ⟨u.slots, k b u hc e⟩) (fun b u _ e n => ?_)
    (fun b u hc e => ⟨u, k b u hc e⟩) (fun b xs e => old _ _ e) (fun b _ _ e => old _ _ e) (fun b ps e => ⟨#[], by rw [old _ _ e]; simp⟩) (fun m hm => ?_) (fun b u e => ?_) I.bare
  · obtain ⟨_, f1, _, f3, f4, f5⟩ := hf b hb
    exact ⟨f3, f1, f4, f5⟩
  · rw [upd_ne (fun z => by subst z; exact absurd (Heap.lt_size e) (Nat.not_lt.mpr hp))]; exact n
  · obtain ⟨ol, es, ep, ho, r⟩ := hm
    exact ⟨ol, es, ep, k _ ol (fun z => (hf _ z).2.1 rfl) ho, r⟩
  · by_cases hb : b = a
    · subst hb; rw [upd_same] at e; cases e; exact new
    · rw [upd_ne hb] at e
      refine (I.hok b u e).stay (fun c v hc q => k c v ?_ q) (fun c q => old _ _ q) fun c xs q => old _ _ q
      rcases hc with z | z
      · rw [z]; exact nit b u e
      · exact nit c _ z
theorem Inv.turns {t' : Nat} {ch : List Addr} (I : Inv X pins σ H s) (k : ∀ b u, b ∉ ch → s.heap.get? b = some u → h'.get? b = some u) (hf : ∀ b ∈ ch, FpOk X pins H b) : Inv X pins σ H { s with heap := h', toks := t' } := by
  have nit : ∀ b u, H b = some u → b ∉ ch := fun b u e z => by rw [(hf b z).1] at e; cases e
  refine I.step (g' := s.gens) (d' := s.drawn) (ch := ch) (fun b hb => ?_) (fun b u _ _ hc e _ => k b u hc e) (fun b u _ _ hc e _ => ⟨u.slots, k b u hc e⟩) (fun b u _ e n => n)
    (fun b u hc e => ⟨u, k b u hc e⟩) (fun b xs e => e) (fun b _ _ e => e) (fun b ps e => ⟨#[], by rw [e]; simp⟩) (fun m hm => ?_) (fun b u e => ?_) I.bare
  · obtain ⟨_, f1, _, f3, f4, f5⟩ := hf b hb
    exact ⟨f3, f1, f4, f5⟩
  · obtain ⟨ol, es, ep, ho, r⟩ := hm
    exact ⟨ol, es, ep, k _ ol (fun z => (hf _ z).2.1 rfl) ho, r⟩
  · refine (I.hok b u e).stay (fun c v hc q => k c v ?_ q) (fun c q => q) fun c xs q => q
    rcases hc with z | z
    · rw [z]; exact nit b u e
    · exact nit c _ z
end
section
variable {K : PySem.W.Frag} {σ : St} {H : Hp} {Q : VK} {D : Ends}
theorem r_var {i : Nat} {v : V} (h : σ[i]? = some (some v)) (q : Q v H) : tVar i σ H Q := ⟨v, h, q⟩
theorem r_c {v : V} (q : Q v H) : tC v σ H Q := q
theorem r_op {r : R2} {ta tb : TE} (q : ta σ H fun x H1 => tb σ H1 fun y H2 => r x y H2 Q) : tOp r ta tb σ H Q := q
theorem r_seq {t u : TS} (q : t { D with nx := u D } σ H) : tSeq t u D σ H := q
theorem r_asg {te : TE} {g : TG} (q : te σ H fun x H1 => g x σ H1 D.nx) : tAsg te g D σ H := q
theorem r_gname {i : Nat} {v : V} {R : St → Hp → Prop} (q : R (σ.set i (some v)) H) : gName i v σ H R := q
theorem r_if {c : TT} {t u : TS} (q : c σ H fun b H1 => if b = true then t D σ H1 else u D σ H1) : tIfS c t u D σ H := q
theorem r_test {t : TE} {R : Bool → Hp → Prop} (q : t σ H fun x H' => ∃ k, x = .bl k ∧ R k H') : tTest t σ H R := q
theorem r_bl {b : Bool} {R : Bool → Prop} (q : R b) : ∃ k, V.bl b = .bl k ∧ R k := ⟨b, rfl, q⟩
theorem r_I0 {g : Int → Int → V} {i j : Int} (q : Q (g i j) H) : rI0 g (.int i) (.int j) H Q := ⟨i, j, rfl, rfl, q⟩
theorem r_I {C : Int → Int → Prop} {g : Int → Int → V} {i j : Int} (c : C i j) (q : Q (g i j) H) : rI C g (.int i) (.int j) H Q := ⟨i, j, rfl, rfl, c, q⟩
theorem pow_ok {i : Int} {j n : Nat} {v : Int} (hi : i.natAbs < 18446744073709551616) (hj : j ≤ 1000) (e : i ^ j = v) (q : Q (.int v) H) : rI CPow (fun i j => .int (i ^ j.toNat)) (.int i) (.int (j : Int)) H Q :=
  ⟨i, j, rfl, rfl, ⟨by omega, by omega, Nat.lt_of_lt_of_le hi (by decide)⟩, by show Q (.int (i ^ (j : Int).toNat)) H; rw [Int.toNat_natCast, e]; exact q⟩
theorem r_pow18 (q : Q (.int 1000000000000000000) H) : rI CPow (fun i j => .int (i ^ j.toNat)) (.int 10) (.int 18) H Q := pow_ok (n := 0) (j := 18) (by decide) (by decide) (by decide) q
theorem r_powM (q : Q (.int 948273388530662767682822077) H) : rI CPow (fun i j => .int (i ^ j.toNat)) (.int 982451653) (.int 3) H Q := pow_ok (n := 0) (j := 3) (by decide) (by decide) (by decide) q
theorem r_eqI {i j : Int} (q : Q (.bl (decide (i = j))) H) : rEq (.int i) (.int j) H Q := ⟨rfl, by
  rw [show decide (V.int i = V.int j) = decide (i = j) from decide_eq_decide.mpr ⟨fun z => by cases z; rfl, fun z => by rw [z]⟩]; exact q⟩
theorem r_neI {i j : Int} (q : Q (.bl (!decide (i = j))) H) : rNe (.int i) (.int j) H Q := ⟨rfl, by
  rw [show decide (V.int i = V.int j) = decide (i = j) from decide_eq_decide.mpr ⟨fun z => by cases z; rfl, fun z => by rw [z]⟩]; exact q⟩
theorem r_eqS {i j : Str} (q : Q (.bl (decide (i = j))) H) : rEq (.str i) (.str j) H Q := ⟨rfl, by
  rw [show decide (V.str i = V.str j) = decide (i = j) from decide_eq_decide.mpr ⟨fun z => by cases z; rfl, fun z => by rw [z]⟩]; exact q⟩
theorem r_ret {te : TE} (q : te σ H D.rt) : tRet te D σ H := q
theorem r_next (q : D.nx σ H) : tNext D σ H := q
theorem r_drop {te : TE} (q : te σ H fun _ H1 => D.nx σ H1) : tDrop te D σ H := q
theorem r_not {t : TT} {R : Bool → Hp → Prop} (q : t σ H fun c H1 => R (!c) H1) : tNot t σ H R := q
theorem r_truth {te : TE} {R : Bool → Hp → Prop} (q : te σ H fun x H' => ∃ k, TruV K x H' k ∧ R k H') : tTru K te σ H R := q
theorem r_blT {b : Bool} {R : Bool → Prop} (q : R b) : ∃ k, TruV K (.bl b) H k ∧ R k := ⟨b, rfl, q⟩
theorem r_and {t u : TT} {R : Bool → Hp → Prop} (q : t σ H fun c H1 => if c = true then u σ H1 R else R false H1) : tAnd t u σ H R := q
theorem r_or {t u : TT} {R : Bool → Hp → Prop} (q : t σ H fun c H1 => if c = true then R true H1 else u σ H1 R) : tOr t u σ H R := q
theorem r_andV {ta tb : TE} (q : ta σ H fun x H1 => ∃ c, x = .bl c ∧ if c = true then tb σ H1 Q else Q (.bl false) H1) : tAndV ta tb σ H Q := q
theorem r_orV {ta tb : TE} (q : ta σ H fun x H1 => ∃ c, x = .bl c ∧ if c = true then Q (.bl true) H1 else tb σ H1 Q) : tOrV ta tb σ H Q := q
theorem r_notV {ta : TE} (q : ta σ H fun x H1 => ∃ c, x = .bl c ∧ Q (.bl (!c)) H1) : tNotV ta σ H Q := q
theorem r_ifE {t : TT} {ta tb : TE} (q : t σ H fun c H1 => if c = true then ta σ H1 Q else tb σ H1 Q) : tIf t ta tb σ H Q := q
theorem r_chain {r r' : R2} {ta tb tc : TE} (q : ta σ H fun x H1 => tb σ H1 fun y H2 => r x y H2 fun z H3 => ∃ k, z = .bl k ∧ if k = true then tc σ H3 fun w H4 => r' y w H4 Q else Q (.bl false) H3) : tChain r r' ta tb tc σ H Q := q
theorem r_un {r : V → Hp → VK → Prop} {ta : TE} (q : ta σ H fun x H1 => r x H1 Q) : tUn r ta σ H Q := q
theorem r_rU {g : Int → V} {i : Int} (q : Q (g i) H) : rU g (.int i) H Q := ⟨i, rfl, q⟩
theorem r_call {sp : Sp} {dvs : List V} {E : XK} {t : TA} (q : t σ H fun vs H1 => sp (vs ++ dvs) H1 Q E) : tCall sp dvs E t σ H Q := q
theorem r_cb {r : List V → Hp → VK → Prop} {t : TA} (q : t σ H fun vs H1 => r vs H1 Q) : tCB r t σ H Q := q
theorem r_cons {ta : TE} {tr : TA} {R : List V → Hp → Prop} (q : ta σ H fun x H1 => tr σ H1 fun xs H2 => R (x :: xs) H2) : tCons ta tr σ H R := q
theorem r_nil {R : List V → Hp → Prop} (q : R [] H) : tNil σ H R := q
theorem r_meth {C : Addr} {m : Str} {sp : Sp} {dvs : List V} {E : XK} {ta : TE} {t : TA} (q : ta σ H fun x H1 => ∃ a dx fs, x = .ref a ∧ H1 a = some (.ins C dx fs) ∧ fs.lookup m = none ∧ t σ H1 fun vs H2 => sp (x :: (vs ++ dvs)) H2 Q E) : tMeth C m sp dvs E ta t σ H Q := q
theorem r_self {C : Addr} {m : Str} {sp : Sp} {dvs : List V} {E : XK} {t : TA} {a dx : Addr} {fs : List (Str × V)} (h : H a = some (.ins C dx fs)) (l : fs.lookup m = none) (q : t σ H fun vs H2 => sp (.ref a :: (vs ++ dvs)) H2 Q E) :
    ∃ b dx fs, V.ref a = .ref b ∧ H b = some (.ins C dx fs) ∧ fs.lookup m = none ∧ t σ H fun vs H2 => sp (.ref a :: (vs ++ dvs)) H2 Q E := ⟨a, dx, fs, rfl, h, l, q⟩
theorem r_cmeth {C : Addr} {sp : Sp} {dvs : List V} {E : XK} {ta : TE} {t : TA} (q : ta σ H fun x H1 => x = .ref C ∧ t σ H1 fun vs H2 => sp (vs ++ dvs) H2 Q E) : tCMeth C sp dvs E ta t σ H Q := q
theorem r_cself {C : Addr} {R : Prop} (q : R) : V.ref C = .ref C ∧ R := ⟨rfl, q⟩
theorem r_make {C : Addr} {sp : Sp} {dvs : List V} {E : XK} {t : TA} (q : t σ H fun vs H1 => ∀ x dx, H1 x = none → H1 dx = none → dx ≠ x →
  sp (.ref x :: (vs ++ dvs)) (upd (upd H1 dx (.own x)) x (.ins C dx [])) (fun v H2 => v = .non ∧ Q (.ref x) H2) E) : tMake C sp dvs E t σ H Q := q
def rFld (K : PySem.W.Frag) (f : Str) : V → Hp → VK → Prop := fun x H Q => ∃ a C dx fs v, x = .ref a ∧ H a = some (.ins C dx fs) ∧ Cls K C ∧ NoAttr K C f ∧ fs.lookup f = some v ∧ Q v H
theorem r_fldK {ta : TE} {f : Str} (q : ta σ H fun x H1 => rFld K f x H1 Q) : tFld K ta f σ H Q := q
theorem r_fat {f : Str} {a C dx : Addr} {fs : List (Str × V)} {v : V} (h : H a = some (.ins C dx fs)) (c : Cls K C) (n : NoAttr K C f) (l : fs.lookup f = some v) (q : Q v H) : rFld K f (.ref a) H Q := ⟨a, C, dx, fs, v, rfl, h, c, n, l, q⟩
def rSat (K : PySem.W.Frag) (f : Str) (y : V) : V → Hp → (Hp → Prop) → Prop := fun x H Q => ∃ a C dx fs, x = .ref a ∧ H a = some (.ins C dx fs) ∧ Cls K C ∧ NoAttr K C f ∧ fs.length < 1000 ∧ Q (upd H a (.ins C dx (putF f y fs)))
theorem r_sfld {ta tv : TE} {f : Str} (q : tv σ H fun y H1 => ta σ H1 fun x H2 => rSat K f y x H2 fun H3 => D.nx σ H3) : sFld K ta tv f D σ H := q
theorem r_sat {f : Str} {y : V} {a C dx : Addr} {fs : List (Str × V)} {R : Hp → Prop} (h : H a = some (.ins C dx fs)) (c : Cls K C) (n : NoAttr K C f) (l : fs.length < 1000) (q : ∀ H', H' a = some (.ins C dx (putF f y fs)) → But a H H' → R H') : rSat K f y (.ref a) H R :=
  ⟨a, C, dx, fs, rfl, h, c, n, l, q _ upd_same but_upd⟩
theorem lt1000 {n : Nat} (h : Nat.ble (n + 1) 1000 = true) : n < 1000 := Nat.le_of_ble_eq_true h
def rNewT (xs : List V) (H : Hp) (Q : VK) : Prop := xs.length ≤ sizeLine ∧ ∀ p, H p = none → Q (.ref p) (upd H p (.tup xs))
def rNewL (xs : List V) (H : Hp) (Q : VK) : Prop := xs.length ≤ sizeLine ∧ ∀ p, H p = none → Q (.ref p) (upd H p (.lst xs))
theorem r_tup {t : TA} (q : t σ H fun xs H1 => rNewT xs H1 Q) : tTup t σ H Q := q
theorem r_lst {t : TA} (q : t σ H fun xs H1 => rNewL xs H1 Q) : tLst t σ H Q := q
theorem r_newT {xs : List V} (c : Nat.ble xs.length 1000 = true) (q : ∀ p H', H p = none → H' p = some (.tup xs) → Ext H H' → Q (.ref p) H') : rNewT xs H Q :=
  ⟨Nat.le_trans (Nat.le_of_ble_eq_true c) (by rw [sizeLine_eq]; decide), fun p n => q p _ n upd_same (ext_upd n)⟩
theorem r_newL {xs : List V} (c : Nat.ble xs.length 1000 = true) (q : ∀ p H', H p = none → H' p = some (.lst xs) → Ext H H' → Q (.ref p) H') : rNewL xs H Q :=
  ⟨Nat.le_trans (Nat.le_of_ble_eq_true c) (by rw [sizeLine_eq]; decide), fun p n => q p _ n upd_same (ext_upd n)⟩
theorem r_for {wi : TI} {g : TG} {tb : TS} (q : wi σ H fun J H1 => ∃ W : Nat → Nat → St → Hp → Prop, (∃ m, W 0 m σ H1) ∧ ∀ i m σ H, W i m σ H →
  (J.stop i H ∧ D.nx σ H) ∨ (J.go i H ∧ ∃ N : St → Hp → Prop, (∀ σ' H', N σ' H' → ∃ m', m' < m ∧ W (i + 1) m' σ' H') ∧ ∀ x H', J.yld i H x H' → g x σ H' fun σ2 H2 => tb { D with nx := N, ct := N, bk := D.nx } σ2 H2)) : tFor wi g tb D σ H := q
theorem r_rng1 {ta : TA} {R : It → Hp → Prop} (q : ta σ H fun vs H1 => ∃ j : Int, vs = [.int j] ∧ -(2 ^ 62) ≤ j ∧ j < 2 ^ 62 ∧ R (Itr 0 j.toNat) H1) : iRng1 ta σ H R := q
theorem r_ilist {tl : TE} {R : It → Hp → Prop} (q : tl σ H fun x H1 => ∃ a, x = .ref a ∧ (∃ xs, SqL K H1 a xs) ∧ R (Itl K a) H1) : iList K tl σ H R := q
theorem r_itup {tl : TE} {R : It → Hp → Prop} (q : tl σ H fun x H1 => ∃ a, x = .ref a ∧ (∃ xs, SqT K H1 a xs) ∧ R (Itt K a) H1) : iTup K tl σ H R := q
theorem r_bm {T : String} {r : V → List V → Hp → VK → Prop} {to : TE} {t : TA} (q : to σ H fun x H1 => tyV K T x H1 ∧ t σ H1 fun vs H2 => r x vs H2 Q) : tBM K T r to t σ H Q := q
theorem r_tyl {p : Addr} {xs : List V} {R : Prop} (h : H p = some (.lst xs)) (q : R) : tyV K "list" (.ref p) H ∧ R := ⟨.inl ⟨rfl, xs, SqL.of h⟩, q⟩
theorem r_append {p : Addr} {xs : List V} {y : V} (h : H p = some (.lst xs)) (l : xs.length < 1000000) (q : ∀ H', H' p = some (.lst (xs ++ [y])) → But p H H' → Q .non H') : rAppend (.ref p) [y] H Q :=
  ⟨p, xs, y, rfl, rfl, h, Nat.lt_of_lt_of_le l (by rw [sizeLine_eq]; decide), q _ upd_same but_upd⟩
theorem r_gnil {R : St → Hp → Prop} (q : R σ H) : gNil [] σ H R := ⟨rfl, q⟩
theorem r_gcons {t : TG} {u : TGs} {v : V} {r : List V} {R : St → Hp → Prop} (q : t v σ H fun σ' H' => u r σ' H' R) : gCons t u (v :: r) σ H R := ⟨v, r, rfl, q⟩
theorem r_gtup {n : Nat} {t : TGs} {a : Addr} {xs : List V} {R : St → Hp → Prop} (h : H a = some (.tup xs)) (l : xs.length = n) (q : t xs σ H R) : gTup K n t (.ref a) σ H R := ⟨a, xs, rfl, SqT.of h, l, q⟩
theorem r_max {i j : Int} (q : Q (.int (max i j)) H) : rMax2 [.int i, .int j] H Q := ⟨i, j, rfl, q⟩
theorem r_abs {i : Int} (q : Q (.int (i.natAbs : Int)) H) : rAbs [.int i] H Q := ⟨i, rfl, q⟩
theorem r_isN {x : V} (q : Q (.bl (decide (x = .non))) H) : rIsNo x .non H Q := ⟨rfl, q⟩
theorem r_isI {x : V} {k : Kd} (h : HasK H x k) (q : Q (.bl (k == .int || k == .bl)) H) : rIsin K [x, .ty "int"] H Q := ⟨x, _, _, .inl ⟨_, rfl, kit_int k⟩, h.tyOf, q⟩
theorem r_isB {x : V} {k : Kd} (h : HasK H x k) (q : Q (.bl (k == .bl)) H) : rIsin K [x, .ty "bool"] H Q := ⟨x, _, _, .inl ⟨_, rfl, kit_bool k⟩, h.tyOf, q⟩
theorem r_isS {x : V} {k : Kd} (h : HasK H x k) (q : Q (.bl (k == .str)) H) : rIsin K [x, .ty "str"] H Q := ⟨x, _, _, .inl ⟨_, rfl, kit_str k⟩, h.tyOf, q⟩
theorem r_isT {x : V} {k : Kd} (h : HasK H x k) (q : Q (.bl (k == .tup)) H) : rIsin K [x, .ty "tuple"] H Q := ⟨x, _, _, .inl ⟨_, rfl, kit_tuple k⟩, h.tyOf, q⟩
theorem r_isL {x : V} {k : Kd} (h : HasK H x k) (q : Q (.bl (k == .lst)) H) : rIsin K [x, .ty "list"] H Q := ⟨x, _, _, .inl ⟨_, rfl, kit_list k⟩, h.tyOf, q⟩
theorem r_lenS {p : Addr} {xs : List V} (h : SqL K H p xs) (q : Q (.int xs.length) H) : rLen K [.ref p] H Q := ⟨_, _, rfl, .inl ⟨xs, h, rfl⟩, q⟩
theorem r_lenL {p : Addr} {xs : List V} (h : H p = some (.lst xs)) (q : Q (.int xs.length) H) : rLen K [.ref p] H Q := ⟨_, _, rfl, .inl ⟨xs, SqL.of h, rfl⟩, q⟩
theorem r_lenT {p : Addr} {xs : List V} (h : H p = some (.tup xs)) (q : Q (.int xs.length) H) : rLen K [.ref p] H Q := ⟨_, _, rfl, .inr ⟨xs, SqT.of h, rfl⟩, q⟩
theorem r_ixS {p : Addr} {xs : List V} {i : Int} {v : V} (h : SqL K H p xs) (e : atI xs i = some v) (q : Q v H) : rIx K (.ref p) (.int i) H Q := .inl ⟨p, xs, i, v, rfl, rfl, h, e, q⟩
theorem r_ixL {p : Addr} {xs : List V} {i : Int} {v : V} (h : H p = some (.lst xs)) (e : atI xs i = some v) (q : Q v H) : rIx K (.ref p) (.int i) H Q := .inl ⟨p, xs, i, v, rfl, rfl, SqL.of h, e, q⟩
theorem r_ixT {p : Addr} {xs : List V} {i : Int} {v : V} (h : H p = some (.tup xs)) (e : atI xs i = some v) (q : Q v H) : rIx K (.ref p) (.int i) H Q := .inr (.inl ⟨p, xs, i, v, rfl, rfl, SqT.of h, e, q⟩)
theorem atI_int {α : Type} {xs : List α} {i : Int} {v : α} (h0 : 0 ≤ i) (h : xs[i.toNat]? = some v) : atI xs i = some v := by
  have := atI_nat h
  rwa [Int.toNat_of_nonneg h0] at this
theorem r_listT {p : Addr} {xs : List V} (h : H p = some (.tup xs)) (q : ∀ l H', H l = none → H' l = some (.lst xs) → Ext H H' → Q (.ref l) H') : rList K [.ref p] H Q := ⟨p, xs, rfl, .inr (SqT.of h), fun l n => q l _ n upd_same (ext_upd n)⟩
theorem r_tupleL {p : Addr} {xs : List V} (h : H p = some (.lst xs)) (q : ∀ l H', H l = none → H' l = some (.tup xs) → Ext H H' → Q (.ref l) H') : rTuple K [.ref p] H Q := ⟨p, xs, rfl, .inl ⟨SqL.of h, fun l n => q l _ n upd_same (ext_upd n)⟩⟩
end
theorem iteD {c A B : Prop} [Decidable c] (h1 : c → A) (h2 : ¬ c → B) : if decide c = true then A else B := by
  by_cases h : c
  · rw [decide_eq_true h]; exact iteT (h1 h)
  · rw [decide_eq_false h]; exact iteF (h2 h)
theorem iteN {c A B : Prop} [Decidable c] (h1 : ¬ c → A) (h2 : c → B) : if (!decide c) = true then A else B := by
  by_cases h : c
  · rw [decide_eq_true h]; exact iteF (h2 h)
  · rw [decide_eq_false h]; exact iteT (h1 h)
theorem mulM {c n : Int} (hb : ib c ≤ 1048577) (n0 : 0 ≤ n) (n1 : n < 2147483629) : CMulB (c + n) 948273388530662767682822077 := by
  refine .inr (.inr ?_)
  have h1 : ib n ≤ 31 := intBits_le (by omega)
  have h2 : ib (c + n) ≤ 1048578 := by
    exact Nat.le_trans (PySem.intBits_add_le hb h1) (by decide)
  have h3 : ib 948273388530662767682822077 ≤ 100 := intBits_le (by decide)
  unfold IntMulOk
  have h : Builtin.Int.intTooBig (Builtin.Int.intBits (c + n) + Builtin.Int.intBits 948273388530662767682822077) = false := by
    unfold Builtin.Int.intTooBig bitsLine
    have h4 : Builtin.Int.intBits (c + n) ≤ 1048578 := h2
    have h5 : Builtin.Int.intBits 948273388530662767682822077 ≤ 100 := h3
    exact decide_eq_false (by omega)
  rw [h]
  simp
abbrev NoX : Value → Shared → Prop := fun _ _ => False
def tTests : List TT → TT
  | [] => fun _ H Q => Q true H
  | t :: r => fun σ H Q => t σ H fun b H1 => if b = true then tTests r σ H1 Q else Q false H1
def PTs (X : Cx) : List Expr → List TT → Prop
  | [], [] => True
  | e :: es, t :: ts => PT X e t ∧ PTs X es ts
  | _, _ => False
def testsRun (env : Env) (ifs : List Expr) (b : Bool) : Sem Bool := forIn ifs b fun c r => if r = true then do let ok ← isTrue c env (eval c env); pure (ForInStep.yield ok) else pure (ForInStep.yield r)
theorem tests_off {M : Model} {A : Around} {E : Value → Shared → Prop} {s : Shared} {env : Env} {Q : Bool → Shared → Prop} (h : Q false s) : ∀ ifs : List Expr, wpAny M A (testsRun env ifs false) Q E s
  | [] => wpAny_pure h
  | c :: r => by
    unfold testsRun
    rw [List.forIn_cons]
    simp only [Bool.false_eq_true, if_false]
    exact wpAny_bind (wpAny_pure (tests_off h r))
theorem tests_ok {X : Cx} {pins : List (Addr × Obj)} {σ : St} {Q : Bool → Hp → Prop} : ∀ (ifs : List Expr) (ts : List TT) (s : Shared) (H : Hp), PTs X ifs ts → Inv X pins σ H s → tTests ts σ H Q → wpAny (model X.prog X.w) X.A (testsRun X.env ifs true) (TP X pins σ Q) X.xe s
  | [], [], s, H, _, I, h => wpAny_pure ⟨H, I, h⟩
  | [], _ :: _, _, _, p, _, _ => p.elim
  | _ :: _, [], _, _, p, _, _ => p.elim
  | c :: r, t :: ts, s, H, p, I, h => by
    unfold testsRun
    rw [List.forIn_cons]
    simp only [if_true]
    refine wpAny_bind (wpAny_bind (thn (p.1 pins s σ H _ I h) fun b s1 ⟨H1, I1, q1⟩ => wpAny_pure ?_))
    cases b with
    | true => exact tests_ok r ts s1 H1 p.2 I1 (by simpa using q1)
    | false => exact tests_off ⟨H1, I1, by simpa using q1⟩ r
section
variable {prog : Program} {w : World} {A : Around} {R : Result → Shared → Prop}
theorem comp_loop {elt tg iter : Expr} {ifs : List Expr} {scope : Scope} {pos : Pos} {it acc : Value} {env : Env} (J : Nat → Shared → Prop)
    (turn : ∀ n s, J n s → wpAny (model prog w) A (pyNext it) (fun r s1 => match r with
      | none => R (.ok .next) s1
      | some v => wpAny (model prog w) A (letOwnedTupleGo tg it v) (fun _ s2 => wpAny (model prog w) A (assign tg env v) (fun _ s3 => wpAny (model prog w) A (testsRun env ifs true) (fun ok s4 =>
          if ok = true then wpAny (model prog w) A (eval elt env) (fun x s5 => wpAny (model prog w) A (call (.builtin "list.append") [acc, x]) (fun _ s6 => ∃ m, m < n ∧ J m s6) NoX s5) NoX s4
          else ∃ m, m < n ∧ J m s4) NoX s3) NoX s2) NoX s1) NoX s) (n : Nat) {s : Shared} (h : J n s) :
    codeAny (model prog w) A (.compLoop (.ListComp elt [⟨tg, iter, ifs, 0⟩] scope pos) 0 it acc env) R s := by
  refine codeAny_loop rfl J (fun n s hJ => ?_) n h
  show wpAny _ A ((compTurn (.ListComp elt [⟨tg, iter, ifs, 0⟩] scope pos) 0 it acc env).onRaise _) _ _ s
  refine wpAny_noted ?_
  have nx : ∀ {E : Value → Shared → Prop} (e : Value) (s : Shared), NoX e s → E e s := fun _ _ f => f.elim
  rw [compTurn_list]
  refine wpAny_bind (wpAny_standAt (wpAny_bind (wpAny_mono (turn n s hJ) (fun r s1 q1 => ?_) nx)))
  cases r with
  | none => exact wpAny_pure q1
  | some v =>
    refine wpAny_bind (wpAny_mono q1 (fun _ s2 q2 => ?_) nx)
    refine wpAny_bind (wpAny_mono q2 (fun _ s3 q3 => ?_) nx)
    refine wpAny_bind (wpAny_mono (show wpAny _ _ (testsRun env ifs true) _ _ _ from q3) (fun ok s4 q4 => ?_) nx)
    cases ok with
    | false => exact wpAny_pure ⟨rfl, q4⟩
    | true =>
      refine wpAny_bind (wpAny_bind (wpAny_mono q4 (fun x s5 q5 => ?_) nx))
      exact wpAny_bind (wpAny_mono q5 (fun _ s6 q6 => wpAny_pure (wpAny_pure ⟨rfl, q6⟩)) nx)
end
def closOf (cells : List (Str × Addr)) : List (Str × NameKind) → List (Str × Addr) → Option (List (Str × Addr))
  | [], cs => some cs
  | (n, k) :: r, cs => if (k == .free) = true then (match cells.lookup n with | some a => closOf cells r ((n, a) :: cs) | none => none) else closOf cells r cs
theorem clos_run {env : Env} : ∀ (names : List (Str × NameKind)) (cs cl : List (Str × Addr)), closOf env.cells names cs = some cl →
    (forIn names cs fun x r => match x with | (name, kind) => if (kind == .free) = true then do let a ← cellOf env name; pure (ForInStep.yield ((name, a) :: r)) else pure (ForInStep.yield r) : Sem (List (Str × Addr))) = pure cl
  | [], cs, cl, h => by
    cases h
    rfl
  | (n, k) :: r, cs, cl, h => by
    rw [List.forIn_cons]
    unfold closOf at h
    by_cases hk : (k == NameKind.free) = true
    · rw [if_pos hk] at h
      dsimp only
      rw [if_pos hk]
      unfold cellOf
      cases e : env.cells.lookup n with
      | none => rw [e] at h; cases h
      | some a =>
        rw [e] at h
        exact clos_run r _ cl h
    · rw [if_neg hk] at h
      dsimp only
      rw [if_neg hk]
      exact clos_run r cs cl h
theorem closureFor_of {scope : Scope} {env : Env} {cl : List (Str × Addr)} (h : closOf env.cells scope.names [] = some cl) : closureFor scope env = pure cl := by
  have e : closureFor scope env = ((forIn scope.names ([] : List (Str × Addr)) fun x r => match x with | (name, kind) => if (kind == .free) = true then do let a ← cellOf env name; pure (ForInStep.yield ((name, a) :: r)) else pure (ForInStep.yield r) : Sem (List (Str × Addr))) >>= fun cs => pure cs) := by
    first | rfl | (unfold closureFor; rfl)
  rw [e, clos_run _ _ _ h]
  rfl
theorem clos_sub {cells : List (Str × Addr)} : ∀ (names : List (Str × NameKind)) (cs cl : List (Str × Addr)), closOf cells names cs = some cl → (∀ x c, cs.lookup x = some c → cells.lookup x = some c) → ∀ x c, cl.lookup x = some c → cells.lookup x = some c
  | [], cs, cl, h, p => by cases h; exact p
  | (n, k) :: r, cs, cl, h, p => by
    unfold closOf at h
    split at h
    · split at h
      · rename_i a e
        refine clos_sub r _ cl h fun x c q => ?_
        rw [List.lookup_cons] at q
        by_cases hx : (x == n) = true
        · rw [hx] at q
          have : x = n := by simpa using hx
          subst this
          cases q
          exact e
        · have hx' : (x == n) = false := by simpa using hx
          rw [hx'] at q
          exact p x c q
      · cases h
    · exact clos_sub r cs cl h p
theorem clos_has {cells : List (Str × Addr)} : ∀ (names : List (Str × NameKind)) (cs cl : List (Str × Addr)), closOf cells names cs = some cl → ∀ x, ((∃ c, cs.lookup x = some c) ∨ (x, NameKind.free) ∈ names) → ∃ c, cl.lookup x = some c
  | [], cs, cl, h, x, p => by
    cases h
    rcases p with p | p
    · exact p
    · simp at p
  | (n, k) :: r, cs, cl, h, x, p => by
    unfold closOf at h
    split at h
    · split at h
      · rename_i a e
        refine clos_has r _ cl h x ?_
        by_cases hx : x = n
        · exact .inl ⟨a, by rw [List.lookup_cons, hx]; simp⟩
        · have hx' : (x == n) = false := by simpa using hx
          rcases p with ⟨c, p⟩ | p
          · exact .inl ⟨c, by rw [List.lookup_cons, hx']; exact p⟩
          · rcases List.mem_cons.mp p with q | q
            · cases q; exact absurd rfl hx
            · exact .inr q
      · cases h
    · rename_i hk
      refine clos_has r _ cl h x ?_
      rcases p with p | p
      · exact .inl p
      · rcases List.mem_cons.mp p with q | q
        · cases q; exact absurd rfl hk
        · exact .inr q
theorem relabel_mem {scope : Scope} {env : Env} (hc : ∀ y ∈ scope.names, y.2 ≠ .cell) {x : Str} (h : (relabel scope env).names.lookup x = some .cell ∨ (relabel scope env).names.lookup x = some .free) : (x, NameKind.free) ∈ scope.names := by
  have key : ∀ k, (k = .cell ∨ k = .free) → (relabel scope env).names.lookup x = some k → (x, NameKind.free) ∈ scope.names := fun k hk e => by
    have m := PySem.mem_of_lookup e
    obtain ⟨⟨n, k'⟩, hm, e2⟩ := List.mem_map.mp m
    dsimp only at e2
    split at e2
    · rename_i q
      cases e2
      have : k' = .free := by
        have := (Bool.and_eq_true_iff.mp (Bool.and_eq_true_iff.mp q).1).1
        simpa using this
      subst this
      exact hm
    · cases e2
      rcases hk with rfl | rfl
      · exact absurd rfl (hc _ hm)
      · exact hm
  exact h.elim (key _ (.inl rfl)) (key _ (.inr rfl))
def cxComp (X : Cx) (pins : List (Addr × Obj)) (N : List Str) (scope : Scope) (cl : List (Str × Addr)) (fp : List Addr) (s : Shared) (H : Hp) : Cx where
  prog := X.prog
  w := X.w
  K := X.K
  mg := X.mg
  base := X.base
  A := X.A
  N := N
  s₀ := s
  H₀ := H
  env := compEnvC scope cl s.heap.objs.size X.env
  outer := X.stack
  stack := X.stack
  ex := fp
  fn := fun _ => false
  calm := X.calm
  pn := X.pn ++ pins
  xe := NoX
def Frees (X : Cx) (sc : Scope) : List Str → List Nat → Prop
  | [], [] => True
  | y :: ys, j :: js => (X.N[j]? = some y ∧ (X.env.kindOf y = some .cell ∨ X.env.kindOf y = some .free) ∧ (sc.names.lookup y = some .cell ∨ sc.names.lookup y = some .free)) ∧ Frees X sc ys js
  | _, _ => False
theorem Frees.get {X : Cx} {sc : Scope} : ∀ {ys : List Str} {js : List Nat} {i : Nat} {y : Str}, Frees X sc ys js → ys[i]? = some y → ∃ j, js[i]? = some j ∧ X.N[j]? = some y ∧ (X.env.kindOf y = some .cell ∨ X.env.kindOf y = some .free) ∧ (sc.names.lookup y = some .cell ∨ sc.names.lookup y = some .free)
  | [], _, _, _, _, e => by simp at e
  | _ :: _, [], _, _, h, _ => h.elim
  | y :: ys, j :: js, 0, z, h, e => by
    simp at e
    subst e
    exact ⟨j, rfl, h.1⟩
  | y :: ys, j :: js, i + 1, z, h, e => Frees.get (ys := ys) (js := js) (i := i) h.2 (by simpa using e)
theorem Frees.len {X : Cx} {sc : Scope} : ∀ {ys : List Str} {js : List Nat}, Frees X sc ys js → ys.length = js.length
  | [], [], _ => rfl
  | [], _ :: _, h => h.elim
  | _ :: _, [], h => h.elim
  | _ :: ys, _ :: js, h => by rw [List.length_cons, List.length_cons, Frees.len h.2]
def slotAt (σ : St) (j : Nat) : Option V := match σ[j]? with | some o => o | none => none
def cSt (own : List Str) (js : List Nat) (σ : St) : St := own.map (fun _ => none) ++ js.map (slotAt σ)
section
variable {X : Cx} {pins : List (Addr × Obj)} {σ : St} {H : Hp} {s : Shared}
theorem comp_start {own fr : List Str} {js : List Nat} {scope : Scope} {cl : List (Str × Addr)} {fp : List Addr} {h' : Heap} {tk : Nat} (I : Inv X pins σ H s) (hkind : scope.kind = .function) (hc : ∀ y ∈ scope.names, y.2 ≠ .cell)
    (hcl : closOf X.env.cells scope.names [] = some cl) (hF : Frees X (relabel scope X.env) fr js) (hfp : ∀ b ∈ fp, FpOk X pins H b) (hlt : ∀ b ∈ fp, b < s.heap.objs.size)
    (hn : h'.Ns s.heap.objs.size (fun _ => none)) (hk : ∀ b o, s.heap.get? b = some o → h'.get? b = some o) :
    Inv (cxComp X pins (own ++ fr) scope cl fp s H) [] (cSt own js σ) H { s with heap := h', toks := tk } := by
  have sub := clos_sub _ _ _ hcl (fun _ _ q => by simp at q)
  have clt : ∀ x c, X.env.cells.lookup x = some c → c < s.heap.objs.size := fun x c e => by obtain ⟨v, q⟩ := I.cell x c e; exact q.lt
  refine ⟨⟨I.ok.mod, hkind, I.ok.glob, I.ok.blt, Nat.le_refl _, fun x y c e1 e2 => I.ok.inj x y c (sub _ _ e1) (sub _ _ e2), fun x hx => ?_, (fun x c q => Bool.noConfusion (show false = true from q)), I.ok.hd, I.ok.frames, .inl rfl, fun b hb => ⟨Nat.ne_of_lt (hlt b hb), fun x c e => (hfp b hb).2.2.2.2.1 x c (sub x c e)⟩,
    I.bs, Nat.le_trans I.ok.bsz I.sz, fun b o e hb => ?_, fun b hb hq => ?_, I.stack, I.stkFree⟩, rfl, I.bare, Un.kept hk, ⟨_, hn, fun i x v e1 e2 e3 => ?_⟩, fun x c e => ?_, I.hok.fresh (Nat.le_refl _), fun x c e => I.freeC x c (sub x c e), fun p hp => ?_, I.hok.kept hk, ?_⟩
  · exact clos_has _ _ _ hcl x (.inr (relabel_mem hc hx))
  · rcases (hfp b hb).2.2.2.1 with q | q
    · exact I.ok.noex b o e q
    · exact absurd (Heap.lt_size (I.ok.bs b o e).1) (Nat.not_lt.mpr q)
  · have := I.stkSub b hq
    rcases List.mem_cons.mp this with z | z
    · exact (hfp b hb).2.1 z
    · exact (hfp b hb).2.2.1 z
  · have hi : own.length ≤ i := by
      refine Nat.le_of_not_lt fun q => ?_
      unfold cSt at e2
      rw [List.getElem?_append_left (by simpa using q), List.getElem?_map] at e2
      cases z : own[i]? with
      | none => rw [z] at e2; cases e2
      | some y => rw [z] at e2; cases e2
    have e1' : fr[i - own.length]? = some x := by
      have : (own ++ fr)[i]? = some x := e1
      rwa [List.getElem?_append_right hi] at this
    obtain ⟨j, hj, nj, kj, lj⟩ := hF.get e1'
    have e2' : slotAt σ j = some v := by
      unfold cSt at e2
      rw [List.getElem?_append_right (by simpa using hi), List.length_map, List.getElem?_map, hj] at e2
      exact Option.some.inj e2
    have e4 : σ[j]? = some (some v) := by
      unfold slotAt at e2'
      split at e2'
      · rename_i o q; rw [q, e2']
      · cases e2'
    obtain ⟨m, hm, hl⟩ := I.loc
    obtain ⟨u, ru, lk⟩ := hl j x v nj e4 (kj.elim (fun q => .inr (.inl q)) fun q => .inr (.inr q))
    refine ⟨u, ru, .inr ⟨lj, ?_⟩⟩
    rcases lk with ⟨q, _⟩ | ⟨_, c, ec, ic⟩
    · rcases kj with k | k <;> (rw [q] at k; cases k)
    · obtain ⟨c', ec'⟩ := clos_has _ _ _ hcl x (.inr (relabel_mem hc lj))
      have := sub _ _ ec'
      rw [ec] at this
      cases this
      exact ⟨c, ec', ic.keeps hk⟩
  · obtain ⟨v, q⟩ := I.cell x c (sub x c e)
    exact ⟨v, q.keeps hk⟩
  · have hp' : p ∈ X.pn ++ pins := by
      rcases List.mem_append.mp hp with q | q
      · exact q
      · simp at q
    obtain ⟨q1, q2, q3, q4, q5⟩ := I.pin p hp'
    refine ⟨hk _ _ q1, q2, Nat.ne_of_lt (Heap.lt_size q1), fun z => ?_, q5⟩
    rcases List.mem_cons.mp (I.stkSub _ z) with y | y
    · exact q3 y
    · exact q4 y
  · show (cSt own js σ).length = (own ++ fr).length
    unfold cSt
    rw [List.length_append, List.length_append, List.length_map, List.length_map, hF.len]
theorem comp_back {N : List Str} {scope : Scope} {cl : List (Str × Addr)} {fp : List Addr} {σ' : St} {H' : Hp} {s' : Shared} {ps : List (Addr × Obj)} (I : Inv X pins σ H s) (hfp : ∀ b ∈ fp, FpOk X pins H b)
    (J : Inv (cxComp X pins N scope cl fp s H) ps σ' H' s') : Inv X pins σ H' s' := by
  refine I.call' (ch := fp) J.os J.base J.hok J.bare fun b hb => ?_
  obtain ⟨_, f1, _, f3, f4, f5⟩ := hfp b hb
  exact ⟨f3, f1, f4, f5⟩
end
def accO (a : Addr) (ys : List V) : HO := .ext fun h => ys.length ≤ sizeLine ∧ ∃ (its : List Value) (n : Nat), Vals ys its ∧ h.get? a = some { cls := .type "list", data := .seq its.toArray n }
theorem acc_of {P : Program} {w : World} {H : Hp} {h : Heap} {a : Addr} {ys : List V} (o : ObjOk P w H h a (.lst ys)) : ObjOk P w H h a (accO a ys) := by
  obtain ⟨z, its, n, r, e⟩ := o
  exact ⟨⟨z, its, n, r, e⟩, ⟨_, e⟩, fun h1 h2 ⟨z, its, n, r, e⟩ k => ⟨z, its, n, r, k _ e⟩⟩
theorem of_acc {P : Program} {w : World} {H : Hp} {h : Heap} {a : Addr} {ys : List V} (o : ObjOk P w H h a (accO a ys)) : ObjOk P w H h a (.lst ys) := by
  obtain ⟨⟨z, its, n, r, e⟩, _⟩ := o
  exact ⟨z, its, n, r, e⟩
def plainO : HO → Bool
  | .lst _ => true | .ext _ => true | _ => false
theorem Inv.retrack {X : Cx} {pins : List (Addr × Obj)} {σ : St} {H : Hp} {s : Shared} {a : Addr} {o o' : HO} (I : Inv X pins σ H s) (h : H a = some o) (hp : plainO o = true) (new : ∀ H', ObjOk X.prog X.w H' s.heap a o') : Inv X pins σ (upd H a o') s := by
  have ne : ∀ {b : Addr} {u : HO}, H b = some u → plainO u = false → b ≠ a := fun hb hu z => by subst z; rw [h] at hb; cases hb; rw [hp] at hu; cases hu
  have I' := I.un (h' := s.heap) (t' := s.toks) (H' := upd H a o') ⟨fun _ _ e _ _ _ => e, fun b u e _ _ _ => ⟨u.slots, e⟩, fun b u _ n _ => by rw [upd_ne (fun z => by subst z; rw [h] at n; cases n)]; exact n, fun b u e _ => ⟨u, e⟩,
    fun b xs e => by rw [upd_ne (ne e rfl)]; exact e, fun b ob u e => by rw [upd_ne (ne e rfl)]; exact e, fun b ps e => ⟨#[], by rw [upd_ne (ne e rfl), e]; simp⟩⟩ (fun b u e => by
      by_cases hb : b = a
      · subst hb; rw [upd_same] at e; cases e; exact new _
      · rw [upd_ne hb] at e
        exact (I.hok b u e).stay (fun _ _ _ q => q) (fun c q => by rw [upd_ne (ne q rfl)]; exact q) fun c xs q => by rw [upd_ne (ne q rfl)]; exact q)
  exact I'
theorem kp_upd {H : Hp} {a : Addr} {o o' : HO} (h : H a = some o) (hd : isData o = false) : Kp H (upd H a o') := fun b u e d => by
  rw [upd_ne (fun z => by subst z; rw [h] at e; cases e; rw [hd] at d; cases d)]; exact e
def rComp (J : It) (g : TG) (ts : List TT) (te : TE) (acc : Addr) (σ0 : St) (H0 : Hp) (Q : Hp → Prop) : Prop :=
  ∃ W : Nat → Nat → St → List V → Hp → Prop, (∃ m, W 0 m σ0 [] (upd H0 acc (accO acc []))) ∧ ∀ i m σ ys H, W i m σ ys H → H acc = some (accO acc ys) →
    (J.stop i H ∧ Q (upd H acc (.lst ys))) ∨ (J.go i H ∧ ∀ x H', J.yld i H x H' → g x σ H' fun σ2 H2 => tTests ts σ2 H2 fun b H3 =>
      if b = true then te σ2 H3 fun y H4 => H4 acc = some (accO acc ys) ∧ ys.length < sizeLine ∧ ∃ m', m' < m ∧ W (i + 1) m' σ2 (ys ++ [y]) (upd H4 acc (accO acc (ys ++ [y])))
      else H3 acc = some (accO acc ys) ∧ ∃ m', m' < m ∧ W (i + 1) m' σ2 ys H3)
abbrev CA (α : Type) := List (Addr × Obj) → List Addr → Shared → Hp → α
def tComp (wi : TI) (own : List Str) (js : List Nat) (g : CA TG) (ts : CA (List TT)) (te : CA TE) : TE := fun σ H Q => wi σ H fun J H1 => ∀ acc, H1 acc = none → ∀ pins fp s Hc, rComp J (g pins fp s Hc) (ts pins fp s Hc) (te pins fp s Hc) acc (cSt own js σ) H1 fun H' => Q (.ref acc) H'
structure CompOk (X : Cx) (scope : Scope) (cl : List (Str × Addr)) (own fr : List Str) (js : List Nat) : Prop where
  kind : scope.kind = .function
  nc : ∀ y ∈ scope.names, y.2 ≠ .cell
  nl : ∀ y ∈ scope.names, y.2 = .local → scope.names.lookup y.1 = some .local
  clos : closOf X.env.cells scope.names [] = some cl
  frees : Frees X (relabel scope X.env) fr js
section
variable {X : Cx} {pins : List (Addr × Obj)} {σ : St} {H : Hp} {s : Shared}
theorem comp_core {elt tg iter : Expr} {ifs : List Expr} {scope : Scope} {pos : Pos} {cl : List (Str × Addr)} {own fr : List Str} {js : List Nat} {g : CA TG} {ts : CA (List TT)} {te : CA TE} {R : Hp → Addr → Prop} {RR : Value → Addr → Result → Shared → Prop} {it : Addr} {fp : List Addr} {tn : Nat → Heap → Prop} {J : It} {E : Value → Shared → Prop}
    (O : CompOk X scope cl own fr js) (hcalm : X.calm = true)
    (hb : ∀ pins fp s Hc, PG (cxComp X pins (own ++ fr) scope cl fp s Hc) tg (g pins fp s Hc) ∧ PTs (cxComp X pins (own ++ fr) scope cl fp s Hc) ifs (ts pins fp s Hc) ∧ PE (cxComp X pins (own ++ fr) scope cl fp s Hc) elt (te pins fp s Hc))
    (I : Inv X pins σ H s) (T : Turn X.prog X.w X.K tg J fp it tn) (t0 : tn 0 s.heap) (hf : ∀ b ∈ fp, FpOk X pins H b)
    (h : ∀ acc, H acc = none → ∀ pins fp s Hc, rComp J (g pins fp s Hc) (ts pins fp s Hc) (te pins fp s Hc) acc (cSt own js σ) H fun H' => R H' acc)
    (fin : ∀ acc C H' s' m, Inv X pins σ H' s' → R H' acc → s'.heap.Ns C m → FpOk X pins H' C → RR (.ref acc) C (.ok .next) s') :
    wpAny (model X.prog X.w) X.A (newList []) (fun acc s3 => wpAny (model X.prog X.w) X.A (newFunctionEnv scope X.env.globals cl [] X.env.qual none .none (some X.env)) (fun cenv s4 =>
      codeAny (model X.prog X.w) X.A (.compStart (.ListComp elt [⟨tg, iter, ifs, 0⟩] scope pos) 0 (.ref it) acc { cenv with scope := relabel scope X.env }) (RR acc cenv.locals) s4) E s3) E s := by
  have n0 : H s.heap.objs.size = none := I.hok.fresh (Nat.le_refl _)
  have flt : ∀ b ∈ fp, b < s.heap.objs.size := fun b hb => by obtain ⟨o, e, _⟩ := T.obj 0 _ t0 b hb; exact Heap.lt_size e
  refine wpAny_newList ?_
  have I3 : Inv X pins σ (upd H s.heap.objs.size (accO s.heap.objs.size [])) { s with heap := s.heap.push { cls := .type "list", data := .seq ([] : List Value).toArray } } :=
    I.laid (t' := s.toks) (fun b o e => Heap.get?_push_of_some _ e) (Nat.le_refl _) (acc_of (show ObjOk X.prog X.w _ _ _ (.lst []) from ⟨Nat.zero_le _, [], 0, .nil, Heap.get?_push_size _ rfl⟩))
  have hf3 : ∀ b ∈ fp, FpOk X pins (upd H s.heap.objs.size (accO s.heap.objs.size [])) b := fun b hb => ⟨by rw [upd_ne (Nat.ne_of_lt (flt b hb))]; exact (hf b hb).1, (hf b hb).2⟩
  have t3 : tn 0 (s.heap.push { cls := .type "list", data := .seq ([] : List Value).toArray }) := T.keep _ _ _ t0 fun b _ o e => Heap.get?_push_of_some _ e
  specialize h s.heap.objs.size n0
  generalize hs3 : ({ s with heap := s.heap.push { cls := .type "list", data := .seq ([] : List Value).toArray } } : Shared) = s3 at I3 ⊢
  have t3' : tn 0 s3.heap := by rw [← hs3]; exact t3
  have lt3 : ∀ b ∈ fp, b < s3.heap.objs.size := fun b hb => by rw [← hs3]; exact Nat.lt_of_lt_of_le (flt b hb) (by rw [Heap.size_push]; exact Nat.le_succ _)
  generalize hH3 : upd H s.heap.objs.size (accO s.heap.objs.size []) = H3 at I3 hf3
  generalize hacc : s.heap.objs.size = acc at *
  refine wpAny_newFunctionEnv O.nc (by intro x hx; simp at hx) (fun h1 hns hsb => ?_) O.kind
  have hk : ∀ b o, s3.heap.get? b = some o → h1.get? b = some o := fun b o e => (hsb.2 b (Nat.ne_of_lt (Heap.lt_size e))).trans (Heap.get?_push_of_some _ e)
  have Ic : Inv (cxComp X pins (own ++ fr) scope cl fp s3 H3) [] (cSt own js σ) H3 { s3 with heap := h1, toks := s3.toks + 0 } := comp_start I3 O.kind O.nc O.clos O.frees hf3 lt3 hns hk
  obtain ⟨W, ⟨m0, w0⟩, turn⟩ := h pins fp s3 H3
  obtain ⟨hg, ht, he⟩ := hb pins fp s3 H3
  have stat : ∀ {H' : Hp} {ps : List (Addr × Obj)}, ps = [] → (∀ b ∈ fp, H' b = none) → ∀ b ∈ fp, FpOk (cxComp X pins (own ++ fr) scope cl fp s3 H3) ps H' b := fun {H' ps} hps hn b hb => by
    obtain ⟨f0, f1, f2, f3, f4, f5⟩ := hf3 b hb
    refine ⟨hn b hb, Nat.ne_of_lt (lt3 b hb), fun z => ?_, .inl hb, fun x c e => f4 x c (clos_sub _ _ _ O.clos (fun _ _ q => by simp at q) x c e), fun p hp => ?_⟩
    · rcases List.mem_cons.mp (I3.stkSub b z) with q | q
      · exact f1 q
      · exact f2 q
    · subst hps
      rcases List.mem_append.mp hp with q | q
      · exact f5 p q
      · simp at q
  have loop : ∀ {sx : Shared}, Inv (cxComp X pins (own ++ fr) scope cl fp s3 H3) [] (cSt own js σ) H3 sx → tn 0 sx.heap →
      codeAny (model X.prog X.w) X.A (.compLoop (.ListComp elt [⟨tg, iter, ifs, 0⟩] scope pos) 0 (.ref it) (.ref acc) (compEnvC scope cl s3.heap.objs.size X.env)) (RR (.ref acc) s3.heap.objs.size) sx := fun {sx} Jx tx => by
    refine comp_loop (fun n s' => ∃ i σc ys H', Inv (cxComp X pins (own ++ fr) scope cl fp s3 H3) [] σc H' s' ∧ tn i s'.heap ∧ (∀ b ∈ fp, H' b = none) ∧ H' acc = some (accO acc ys) ∧ W i n σc ys H') ?_ m0 ⟨0, _, [], H3, Jx, tx, fun b hb => (hf3 b hb).1, by rw [← hH3]; exact upd_same, by rw [← hH3]; exact w0⟩
    rintro n s4 ⟨i, σ4, ys, H4, I4, t4, fr4, a4, w4⟩
    rcases turn i n σ4 ys H4 w4 a4 with ⟨stop, qn⟩ | ⟨go, step⟩
    · refine thn (T.done (cxComp X pins (own ++ fr) scope cl fp s3 H3) rfl rfl rfl hcalm i [] s4 σ4 H4 NoX I4 (stat rfl fr4) t4 stop) fun r s5 ⟨hr, I5⟩ => ?_
      subst hr
      obtain ⟨m, hm, _⟩ := id I5.loc
      have IX := comp_back I3 hf3 I5
      have IL := IX.retrack (o' := .lst ys) a4 rfl fun H' => of_acc (H := H') (by obtain ⟨p1, p2, p3⟩ := IX.hok acc _ a4; exact ⟨p1, p2, p3⟩)
      refine fin acc s3.heap.objs.size _ s5 m IL qn hm (I3.fpOk (Nat.le_refl _) ?_)
      have c4 : H4 s3.heap.objs.size = none := I5.free
      rw [upd_ne (fun z => by rw [z, a4] at c4; cases c4)]; exact c4
    · refine thn (T.item (cxComp X pins (own ++ fr) scope cl fp s3 H3) rfl rfl rfl hcalm i [] s4 σ4 H4 NoX I4 (stat rfl fr4) t4 go) fun r s5 ⟨u, hr, q5⟩ => ?_
      subst hr
      refine thn q5 fun _ s6 ⟨x, H6, I6, r6, y6, t6, fr6⟩ => ?_
      have I6' := I6.pinned (stat rfl fr6) (T.obj _ _ t6)
      refine thn (hg _ s6 σ4 H6 x u _ I6' r6 (step x H6 y6)) fun _ s7 ⟨σ7, H7, I7, q7⟩ => ?_
      refine thn (tests_ok ifs _ s7 H7 ht I7 q7) fun ok s8 ⟨H8, I8, q8⟩ => ?_
      have again : ∀ {σ9 : St} {H9 : Hp} {s9 : Shared} {zs : List V} {m : Nat}, Inv (cxComp X pins (own ++ fr) scope cl fp s3 H3) ([] ++ pinsAt fp s6.heap) σ9 H9 s9 → H9 acc = some (accO acc zs) → m < n → W (i + 1) m σ9 zs H9 →
          ∃ m, m < n ∧ ∃ i σc ys H', Inv (cxComp X pins (own ++ fr) scope cl fp s3 H3) [] σc H' s9 ∧ tn i s9.heap ∧ (∀ b ∈ fp, H' b = none) ∧ H' acc = some (accO acc ys) ∧ W i m σc ys H' := fun {σ9 H9 s9 zs m} I9 a9 hm w9 => by
        refine ⟨m, hm, i + 1, σ9, zs, H9, I9.unpinned, T.keep _ _ _ t6 fun b hb o e => (I9.pin (b, o) (List.mem_append_right _ (List.mem_append_right _ (mem_pinsAt hb e)))).1, fun b hb => ?_, a9, w9⟩
        obtain ⟨o, e, d⟩ := T.obj _ _ t6 b hb
        exact (I9.pin (b, o) (List.mem_append_right _ (List.mem_append_right _ (mem_pinsAt hb e)))).2.1
      cases ok with
      | false =>
        obtain ⟨a8, m', hm, w8⟩ := (show H8 acc = some (accO acc ys) ∧ ∃ m', m' < n ∧ W (i + 1) m' σ7 ys H8 by simpa using q8)
        exact again I8 a8 hm w8
      | true =>
        have q8' : te pins fp s3 H3 σ7 H8 fun y H4 => H4 acc = some (accO acc ys) ∧ ys.length < sizeLine ∧ ∃ m', m' < n ∧ W (i + 1) m' σ7 (ys ++ [y]) (upd H4 acc (accO acc (ys ++ [y]))) := by simpa using q8
        refine thn (he _ s8 σ7 H8 _ I8 q8') fun v s9 ⟨y, H9, I9, r9, a9, hl, m', hm, w9⟩ => ?_
        have IL := I9.retrack (o' := .lst ys) a9 rfl fun H' => of_acc (H := H') (by obtain ⟨p1, p2, p3⟩ := I9.hok acc _ a9; exact ⟨p1, p2, p3⟩)
        refine thn (mt_append _ s9 σ7 _ (.ref acc) [y] (.ref acc) [v] (fun _ H' => H' = upd H9 acc (.lst (ys ++ [y]))) IL rfl (.cons r9 .nil) ⟨acc, ys, y, rfl, rfl, upd_same, hl, by rw [upd_upd]⟩) fun _ s10 ⟨_, H10, I10, _, e10⟩ => ?_
        subst e10
        have I11 := I10.retrack (o' := accO acc (ys ++ [y])) upd_same rfl fun H' => acc_of (H := H') (by obtain ⟨p1, p2, p3⟩ := I10.hok acc _ upd_same; exact ⟨p1, p2, p3⟩)
        rw [upd_upd] at I11
        exact again I11 upd_same hm w9
  exact codeAny_compStart_list (loop Ic (T.keep _ _ _ t3' fun b _ o e => hk b o e)) (T.self _ 0 _ _ _ (T.keep _ _ _ t3' fun b _ o e => hk b o e) (loop Ic (T.keep _ _ _ t3' fun b _ o e => hk b o e)))
theorem pe_comp {elt tg iter : Expr} {ifs : List Expr} {scope : Scope} {pos : Pos} {cl : List (Str × Addr)} (own fr : List Str) (js : List Nat) {wi : TI} {g : CA TG} {ts : CA (List TT)} {te : CA TE}
    (hcalm : X.calm = true) (O : CompOk X scope cl own fr js) (hi : PI X tg iter wi)
    (hb : ∀ pins fp s Hc, PG (cxComp X pins (own ++ fr) scope cl fp s Hc) tg (g pins fp s Hc) ∧ PTs (cxComp X pins (own ++ fr) scope cl fp s Hc) ifs (ts pins fp s Hc) ∧ PE (cxComp X pins (own ++ fr) scope cl fp s Hc) elt (te pins fp s Hc))
    (hs : ∀ x, foldedSetIterable iter X.env x = pure x := by intro _; rfl) :
    PE X (.ListComp elt [⟨tg, iter, ifs, 0⟩] scope pos) (tComp wi own js g ts te) := by
  intro pins s σ H Q I h
  rw [eval_ListComp]
  refine wpAny_comprehension_free (use := none) rfl hs (closureFor_of O.clos) O.kind O.nl (thn (hi pins s σ H _ I h) fun xv s1 q1 => thn q1 fun itv s2 q2 => ?_)
  obtain ⟨it, fp, tn, J, H2, rfl, I2, T, t2, f2, q⟩ := q2
  refine comp_core (RR := fun acc C => compPost (model X.prog X.w) X.A X.xe none (EP X pins σ Q) acc C) O hcalm hb I2 T t2 f2 q fun acc C H' s' m I' r' hm hC => ⟨m, hm, fun h' sb => ?_⟩
  obtain ⟨f0, f1, f2, f3, f4, f5⟩ := hC
  exact ⟨.ref acc, H', I'.turned (t' := s'.toks) (fun b o hb e => (sb.2 b hb).trans e) f0 f1 f3 f4 f5, rfl, r'⟩
theorem ps_setComp {i : Nat} {x : Str} {elt tg iter : Expr} {ifs : List Expr} {scope : Scope} {pos pos' spos : Pos} {cl : List (Str × Addr)} (own fr : List Str) (js : List Nat) {wi : TI} {g : CA TG} {ts : CA (List TT)} {te : CA TE}
    (hN : X.N.Nodup) (hix : X.N[i]? = some x) (hx : Loc X.env.scope x) (hcalm : X.calm = true) (O : CompOk X scope cl own fr js) (hi : PI X tg iter wi)
    (hb : ∀ pins fp s Hc, PG (cxComp X pins (own ++ fr) scope cl fp s Hc) tg (g pins fp s Hc) ∧ PTs (cxComp X pins (own ++ fr) scope cl fp s Hc) ifs (ts pins fp s Hc) ∧ PE (cxComp X pins (own ++ fr) scope cl fp s Hc) elt (te pins fp s Hc))
    (hsw : swapsWith (.ListComp elt [⟨tg, iter, ifs, 0⟩] scope pos) (some (.Name x pos')) spos.line X.env = pure true := by rfl)
    (hs : ∀ x, foldedSetIterable iter X.env x = pure x := by intro _; rfl) (hf : X.fn x = true ∨ X.env.scope.names.lookup x = some .local := by first | exact .inl rfl | exact .inr rfl | assumption) :
    PS X (.Assign [.Name x pos'] (.ListComp elt [⟨tg, iter, ifs, 0⟩] scope pos) spos) (tAsg (tComp wi own js g ts te) (gName i)) := by
  intro pins s σ H D I h
  rw [exec_Assign_Name_used _ _ _ _ hsw]
  refine wpAny_bind (wpAny_standAt (wpAny_bind ?_))
  show wpAny _ _ (comprehension (.ListComp elt [⟨tg, iter, ifs, 0⟩] scope pos) scope X.env (firstIterPos [⟨tg, iter, ifs, 0⟩] pos) (newList []) false (eval iter X.env) (some (assign (.Name x pos') X.env)) >>= _) _ _ _
  refine wpAny_bind ?_
  have h' : wi σ H fun J H1 => ∀ acc, H1 acc = none → ∀ pins fp s Hc, rComp J (g pins fp s Hc) (ts pins fp s Hc) (te pins fp s Hc) acc (cSt own js σ) H1 fun H' => D.nx (σ.set i (some (.ref acc))) H' := h
  refine wpAny_comprehension_free (use := some (assign (.Name x pos') X.env)) rfl hs (closureFor_of O.clos) O.kind O.nl (thn (hi pins s σ H _ I h') fun xv s1 q1 => thn q1 fun itv s2 q2 => ?_)
  obtain ⟨it, fp, tn, J, H2, rfl, I2, T, t2, f2, q⟩ := q2
  refine comp_core (RR := fun acc C => compPost (model X.prog X.w) X.A X.xe (some (assign (.Name x pos') X.env)) _ acc C) O hcalm hb I2 T t2 f2 q fun acc C H' s' m I' r' hm hC => ?_
  obtain ⟨f0, f1, f2, f3, f4, f5⟩ := hC
  obtain ⟨oc, es, ep, ho, hd, hr⟩ := id hm
  have IP : Inv X (pins ++ [(C, oc)]) σ H' s' := I'.pins_of fun p hp => by
    rcases List.mem_append.mp hp with q | q
    · exact I'.pin p (List.mem_append_right _ q)
    · obtain rfl : p = (C, oc) := by simpa using q
      exact ⟨ho, f0, f1, f2, fun v z => by rw [hd] at z; cases z⟩
  refine wpAny_assign_Name (store_ok IP hN hix hx (v := .ref acc) (u := .ref acc) rfl (fun s'' I'' => ?_) hf)
  have hC'' := (I''.pin (C, oc) (List.mem_append_right _ (List.mem_append_right _ (by simp)))).1
  refine ⟨m, ⟨oc, es, ep, hC'', hd, hr⟩, fun h' sb => ?_⟩
  exact wpAny_pure (wpAny_pure ⟨_, H', (I''.unpinned).turned (t' := s''.toks) (fun b o hb e => (sb.2 b hb).trans e) f0 f1 f3 f4 f5, r'⟩)
end
section
variable {K : PySem.W.Frag} {ts : List TT} {te : TE} {acc : Addr} {fr : St} {H1 : Hp} {R : Hp → Prop} {xs ys : List V}
theorem r_comp {wi : TI} {own : List Str} {js : List Nat} {g : CA TG} {ts : CA (List TT)} {te : CA TE} {σ : St} {H : Hp} {Q : VK} (q : wi σ H fun J H1 => ∀ acc, H1 acc = none → ∀ pins fp s Hc, rComp J (g pins fp s Hc) (ts pins fp s Hc) (te pins fp s Hc) acc (cSt own js σ) H1 fun H' => Q (.ref acc) H') : tComp wi own js g ts te σ H Q := q
def Turned (ts : List TT) (te : TE) (Pv : List V → Hp → Prop) (ys : List V) (H : Hp) (σ2 : St) (H2 : Hp) : Prop :=
  ∀ (Y : V → Hp → Prop) (N : Hp → Prop), (∀ y H', Ext H H' → Pv (ys ++ [y]) H' → Y y H') → (∀ H', Ext H H' → Pv ys H' → N H') → tTests ts σ2 H2 fun b H3 => if b = true then te σ2 H3 Y else N H3
theorem comp_gen {J : It} {g : TG} {σ0 : St} (n : Nat) (hz : n ≤ 1000000) (hn : H1 acc = none) (Sv : St → Prop) (Pv : Nat → List V → Hp → Prop) (s0 : Sv σ0) (h0 : Pv 0 [] H1) (kp : ∀ i ys H H', Kp H H' → Pv i ys H → Pv i ys H')
    (hgo : ∀ i H, i < n → Ext H1 H → J.go i H) (hst : ∀ H, Ext H1 H → J.stop n H) (len : ∀ i ys H, i ≤ n → Pv i ys H → ys.length ≤ i)
    (turn : ∀ i σ ys H x H' (G : St → Hp → Prop), i < n → Ext H1 H → Sv σ → Pv i ys H → J.yld i H x H' → (∀ σ2 H2, Sv σ2 → Turned ts te (Pv (i + 1)) ys H σ2 H2 → G σ2 H2) → g x σ H' G)
    (fin : ∀ ys H, Ext H1 H → H acc = some (.lst ys) → Pv n ys H → R H) : rComp J g ts te acc σ0 H1 R := by
  have e0 : Ext H1 (upd H1 acc (accO acc [])) := ext_upd hn
  refine ⟨fun i m σ ys H => m = n - i ∧ i ≤ n ∧ Ext H1 H ∧ Sv σ ∧ Pv i ys H, ⟨n, by omega, Nat.zero_le _, e0, s0, kp _ _ _ _ e0.kp h0⟩, ?_⟩
  rintro i m σ ys H ⟨rfl, hi, e, sv, pv⟩ ha
  by_cases hlt : i < n
  · refine .inr ⟨hgo i H hlt e, fun x H' y => turn i σ ys H x H' _ hlt e sv pv y fun σ2 H2 s2 q2 => ?_⟩
    refine q2 _ _ (fun y H4 e4 p4 => ?_) fun H3 e3 p3 => ?_
    · have a4 : H4 acc = some (accO acc ys) := e4 _ _ ha
      have z : ys.length < sizeLine := by have := len _ _ _ hi pv; rw [sizeLine_eq]; omega
      refine ⟨a4, z, n - (i + 1), by omega, rfl, hlt, fun b o hb => ?_, s2, kp _ _ _ _ (kp_upd a4 rfl) p4⟩
      rw [upd_ne (ne_of_none hb hn)]
      exact e4 _ _ (e _ _ hb)
    · exact ⟨e3 _ _ ha, n - (i + 1), by omega, rfl, hlt, e.tr e3, s2, p3⟩
  · have hn' : i = n := by omega
    subst hn'
    refine .inl ⟨hst H e, fin ys _ (fun b o hb => ?_) upd_same (kp _ _ _ _ (kp_upd ha rfl) pv)⟩
    rw [upd_ne (ne_of_none hb hn)]
    exact e _ _ hb
theorem comp_list {a : Addr} {u : Option V} (hx : SqL K H1 a xs) (hz : xs.length ≤ 1000000) (hn : H1 acc = none) (Pv : Nat → List V → Hp → Prop) (h0 : Pv 0 [] H1) (kp : ∀ i ys H H', Kp H H' → Pv i ys H → Pv i ys H') (len : ∀ i ys H, i ≤ xs.length → Pv i ys H → ys.length ≤ i)
    (turn : ∀ i x ys H, xs[i]? = some x → Ext H1 H → Pv i ys H → Turned ts te (Pv (i + 1)) ys H (some x :: fr) H)
    (fin : ∀ ys H, Ext H1 H → H acc = some (.lst ys) → Pv xs.length ys H → R H) : rComp (Itl K a) (gName 0) ts te acc (u :: fr) H1 R := by
  refine comp_gen xs.length hz hn (fun σ => ∃ u, σ = u :: fr) Pv ⟨u, rfl⟩ h0 kp (fun i H hi e => ⟨xs, xs[i], e.seqL hx, List.getElem?_eq_getElem hi⟩) (fun H e => ⟨xs, e.seqL hx, Nat.le_refl _⟩) len ?_ fin
  rintro i σ ys H x H' G hi e ⟨u, rfl⟩ pv ⟨rfl, y⟩ hG
  have := y xs (e.seqL hx)
  exact hG _ _ ⟨some x, rfl⟩ (turn i x ys _ this e pv)
theorem comp_tup {a : Addr} {u : Option V} (hx : SqT K H1 a xs) (hz : xs.length ≤ 1000000) (hn : H1 acc = none) (Pv : Nat → List V → Hp → Prop) (h0 : Pv 0 [] H1) (kp : ∀ i ys H H', Kp H H' → Pv i ys H → Pv i ys H') (len : ∀ i ys H, i ≤ xs.length → Pv i ys H → ys.length ≤ i)
    (turn : ∀ i x ys H, xs[i]? = some x → Ext H1 H → Pv i ys H → Turned ts te (Pv (i + 1)) ys H (some x :: fr) H)
    (fin : ∀ ys H, Ext H1 H → H acc = some (.lst ys) → Pv xs.length ys H → R H) : rComp (Itt K a) (gName 0) ts te acc (u :: fr) H1 R := by
  refine comp_gen xs.length hz hn (fun σ => ∃ u, σ = u :: fr) Pv ⟨u, rfl⟩ h0 kp (fun i H hi e => ⟨xs, xs[i], e.seqT hx, List.getElem?_eq_getElem hi⟩) (fun H e => ⟨xs, e.seqT hx, Nat.le_refl _⟩) len ?_ fin
  rintro i σ ys H x H' G hi e ⟨u, rfl⟩ pv ⟨rfl, y⟩ hG
  have := y xs (e.seqT hx)
  exact hG _ _ ⟨some x, rfl⟩ (turn i x ys _ this e pv)
theorem comp_range {lo : Int} {n : Nat} {u : Option V} (hz : n ≤ 1000000) (hn : H1 acc = none) (Pv : Nat → List V → Hp → Prop) (h0 : Pv 0 [] H1) (kp : ∀ i ys H H', Kp H H' → Pv i ys H → Pv i ys H') (len : ∀ i ys H, i ≤ n → Pv i ys H → ys.length ≤ i)
    (turn : ∀ i ys H, i < n → Ext H1 H → Pv i ys H → Turned ts te (Pv (i + 1)) ys H (some (.int (lo + i)) :: fr) H)
    (fin : ∀ ys H, Ext H1 H → H acc = some (.lst ys) → Pv n ys H → R H) : rComp (Itr lo n) (gName 0) ts te acc (u :: fr) H1 R := by
  refine comp_gen n hz hn (fun σ => ∃ u, σ = u :: fr) Pv ⟨u, rfl⟩ h0 kp (fun i H hi e => hi) (fun H e => Nat.le_refl _) len ?_ fin
  rintro i σ ys H x H' G hi e ⟨u, rfl⟩ pv ⟨rfl, rfl⟩ hG
  exact hG _ _ ⟨_, rfl⟩ (turn i ys _ hi e pv)
end
def ItA (b : Bool) (h : Heap) (it l : Addr) (k : Nat) : Prop := match b with | false => h.IsListIter it l k | true => h.IsTupleIter it l k
def SqA (b : Bool) (h : Heap) (l : Addr) (xs : Array Value) : Prop := match b with | false => h.IsList l xs | true => h.IsTuple l xs
theorem ItA.ex {b : Bool} {h : Heap} {it l : Addr} {k : Nat} (x : ItA b h it l k) : ∃ o, h.get? it = some o ∧ ∀ v, o.data ≠ .cell v := by
  cases b <;> (obtain ⟨o, e, _, d⟩ := x; exact ⟨o, e, fun v z => by rw [d] at z; cases z⟩)
theorem ItA.at {b : Bool} {h h' : Heap} {it l : Addr} {k : Nat} (x : ItA b h it l k) (f : ∀ o, h.get? it = some o → h'.get? it = some o) : ItA b h' it l k := by
  cases b <;> (obtain ⟨o, e, r⟩ := x; exact ⟨o, f o e, r⟩)
theorem SqA.at {b : Bool} {h h' : Heap} {l : Addr} {xs : Array Value} (x : SqA b h l xs) (f : ∀ o, h.get? l = some o → h'.get? l = some o) : SqA b h' l xs := by
  cases b <;> (obtain ⟨o, e, r⟩ := x; exact ⟨o, f o e, r⟩)
theorem SqA.lt {b : Bool} {h : Heap} {l : Addr} {xs : Array Value} (x : SqA b h l xs) : l < h.objs.size := by
  cases b <;> (obtain ⟨o, e, _⟩ := x; exact Heap.lt_size e)
theorem ItA.lt {b : Bool} {h : Heap} {it l : Addr} {k : Nat} (x : ItA b h it l k) : it < h.objs.size := by
  obtain ⟨o, e, _⟩ := x.ex; exact Heap.lt_size e
section
variable {prog : Program} {w : World} {A : Around} {E : Value → Shared → Prop} {s : Shared}
theorem nextT_item {it l : Addr} {k : Nat} {xs : Array Value} {x : Value} {Q : Value → Shared → Prop} (i0 : s.heap.IsTupleIter it l k) (l0 : s.heap.IsTuple l xs) (hx : xs[k]? = some x)
    (q : ∀ h', h'.IsTupleIter it l (k + 1) → Heap.SameBut it s.heap h' → Q x { s with heap := h' }) : wpAny (model prog w) A (Builtin.SmallTypes.nextOf (.ref it)) Q E s := by
  obtain ⟨oi, ei, ci, di⟩ := id i0
  obtain ⟨ol, el, _, nl, dl⟩ := l0
  unfold Builtin.SmallTypes.nextOf
  refine wpAny_bind (wpAny_callSpecial?_slot (name := Str.ofString "__next__") i0.typeIs F.slot_tuple_iterator_next (wpAny_call_entry F.slot_tuple_iterator_next i0.typeIs F.entry_tuple_iterator_next ?_ (F.args_tuple_iterator_next_1 _)))
  show wpAny _ _ (field (.ref it) 0 >>= _) _ _ _; refine wpAny_bind (wpAny_field ei di (x := .ref l) rfl ?_)
  show wpAny _ _ (if (Value.ref l == Value.none) = true then _ else _) _ _ _; rw [if_neg (show ¬ ((Value.ref l == Value.none) = true) from fun z => Bool.false_ne_true z)]
  show wpAny _ _ (field (.ref it) 1 >>= _) _ _ _; refine wpAny_bind (wpAny_field ei di (x := .int k 0) rfl ?_)
  show wpAny _ _ (seqItems? (.ref l) >>= _) _ _ _; refine wpAny_bind (wpAny_seqItems el dl ?_)
  simp only [Int.toNat_natCast, hx]; refine wpAny_bind (wpAny_setField ei di (by simp) (wpAny_pure ⟨x, rfl, wpAny_pure (q _ ⟨_, Heap.get?_update_self _ ei (Obj.isFreed_of_fields (Obj.data_mapFields di _)), (Obj.cls_mapFields ..).trans ci, ?_⟩ (Heap.SameBut.update ..))⟩))
  rw [Obj.data_mapFields di]; simp [rawInt]
theorem nextT_end {it l : Addr} {k : Nat} {xs : Array Value} {Q : Value → Shared → Prop} (hh : A.handled = none) (i0 : s.heap.IsTupleIter it l k) (l0 : s.heap.IsTuple l xs) (hx : xs[k]? = none)
    (q : ∀ h' e, Heap.ExtBut it s.heap h' → (∃ o, h'.get? e = some o ∧ o.cls = .type "StopIteration") → E (.ref e) { s with heap := h' }) : wpAny (model prog w) A (Builtin.SmallTypes.nextOf (.ref it)) Q E s := by
  obtain ⟨oi, ei, ci, di⟩ := id i0
  obtain ⟨ol, el, _, nl, dl⟩ := l0
  unfold Builtin.SmallTypes.nextOf
  refine wpAny_bind (wpAny_callSpecial?_slot (name := Str.ofString "__next__") i0.typeIs F.slot_tuple_iterator_next (wpAny_call_entry F.slot_tuple_iterator_next i0.typeIs F.entry_tuple_iterator_next ?_ (F.args_tuple_iterator_next_1 _)))
  show wpAny _ _ (field (.ref it) 0 >>= _) _ _ _; refine wpAny_bind (wpAny_field ei di (x := .ref l) rfl ?_)
  show wpAny _ _ (if (Value.ref l == Value.none) = true then _ else _) _ _ _; rw [if_neg (show ¬ ((Value.ref l == Value.none) = true) from fun z => Bool.false_ne_true z)]
  show wpAny _ _ (field (.ref it) 1 >>= _) _ _ _; refine wpAny_bind (wpAny_field ei di (x := .int k 0) rfl ?_)
  show wpAny _ _ (seqItems? (.ref l) >>= _) _ _ _; refine wpAny_bind (wpAny_seqItems el dl ?_)
  simp only [Int.toNat_natCast, hx]; refine wpAny_bind (wpAny_rule (wpAny_bind (wpAny_setField ei di (by simp) ?_)))
  show wpAny _ _ (newExc (.type "StopIteration") [] >>= _) _ _ _; refine wpAny_bind ?_; simp only [newExc, newTuple]
  refine wpAny_bind (wpAny_newObj_type ?_ (by size_fits)); refine wpAny_bind (m := firstArgMember _ _) (wpAny_of_eq (a := Value.none) (by first | rfl | (simp only [firstArgMember]; rfl)) ?_)
  refine wpAny_newObj_type ?_ (by size_fits); simp only [raiseNew]; refine wpAny_bind (wpAny_handled ?_)
  first | rw [show A.in1.handled = none from hh] | rw [hh]
  refine wpAny_bind (wpAny_pure (wpAny_throw ?_)); exact q _ _ (((Heap.SameBut.update ..).extBut.push _).push _) ⟨_, Heap.get?_push_size _ rfl, rfl⟩
theorem nextA_item {b : Bool} {it l : Addr} {k : Nat} {xs : Array Value} {x : Value} {Q : Value → Shared → Prop} (i0 : ItA b s.heap it l k) (l0 : SqA b s.heap l xs) (hx : xs[k]? = some x)
    (q : ∀ h', ItA b h' it l (k + 1) → Heap.SameBut it s.heap h' → Q x { s with heap := h' }) : wpAny (model prog w) A (Builtin.SmallTypes.nextOf (.ref it)) Q E s := by
  cases b
  · exact wpAny_nextOf_list_item i0 l0 hx q
  · exact nextT_item i0 l0 hx q
theorem nextA_end {b : Bool} {it l : Addr} {k : Nat} {xs : Array Value} {Q : Value → Shared → Prop} (hh : A.handled = none) (i0 : ItA b s.heap it l k) (l0 : SqA b s.heap l xs) (hx : xs[k]? = none)
    (q : ∀ h' e, Heap.ExtBut it s.heap h' → (∃ o, h'.get? e = some o ∧ o.cls = .type "StopIteration") → E (.ref e) { s with heap := h' }) : wpAny (model prog w) A (Builtin.SmallTypes.nextOf (.ref it)) Q E s := by
  cases b
  · exact wpAny_nextOf_list_end hh i0 l0 hx q
  · exact nextT_end hh i0 l0 hx q
theorem zipA_item {c d : Bool} {z TI TO i1 i2 l1 l2 : Addr} {k : Nat} {xs ys : Array Value} {x y p q : Value} {Q : Option Value → Shared → Prop} (D : ZipApart z TI TO i1 i2 l1 l2)
    (hz : IsZip s.heap z TI TO .none) (hI : IsPair s.heap TI (.ref i1) (.ref i2)) (hO : IsPair s.heap TO p q) (a1 : ItA c s.heap i1 l1 k) (a2 : ItA d s.heap i2 l2 k) (b1 : SqA c s.heap l1 xs) (b2 : SqA d s.heap l2 ys) (hx : xs[k]? = some x) (hy : ys[k]? = some y)
    (hQ : ∀ h', IsZip h' z TI TO (rawInt s.heap.objs.size) → IsPair h' TO x y → ItA c h' i1 l1 (k + 1) → ItA d h' i2 l2 (k + 1) → IsPair h' s.heap.objs.size x y →
      (∀ e o, e ≠ z → e ≠ TO → e ≠ i1 → e ≠ i2 → s.heap.get? e = some o → h'.get? e = some o) → Q (some (.ref s.heap.objs.size)) { s with heap := h' }) : wpAny (model prog w) A (pyNext (.ref z)) Q E s := by
  have tz : s.TypeIs (.ref z) "zip" := ⟨_, hz, rfl⟩
  unfold pyNext
  refine wpAny_bind (wpAny_attempt (wpAny_callSpecial?_slot (name := Str.ofString "__next__") tz F.slot_zip_next (wpAny_call_entry F.slot_zip_next tz F.entry_zip_next ?_ (F.args_zip_next_1 _))))
  show wpAny _ _ (field (.ref z) 2 >>= _) _ _ _; refine wpAny_bind (wpAny_field hz rfl (x := .bool false) rfl ?_)
  show wpAny _ _ (field (.ref z) 3 >>= _) _ _ _; refine wpAny_bind (wpAny_field hz rfl (x := .ref TI) rfl (wpAny_bind (wpAny_seqItems hI rfl ?_)))
  show wpAny _ _ (Builtin.SmallTypes.ownedTupleIsFree (.ref z) >>= _) _ _ _; refine wpAny_bind ?_; unfold Builtin.SmallTypes.ownedTupleIsFree
  refine wpAny_bind (wpAny_field hz rfl (x := .none) rfl (wpAny_pure ?_)); simp only [if_true]
  refine wpAny_bind (wpAny_rule (wpAny_bind (wpAny_field hz rfl (x := .ref TO) rfl (wpAny_bind (wpAny_setField_rec hz (by simp) fun g1 z1 s1 => ?_)))))
  replace z1 : IsZip g1 z TI TO .ellipsis := z1
  refine wpAny_bind ?_; simp only [List.zipIdx_cons, List.zipIdx_nil, List.forIn_cons, List.forIn_nil]
  refine wpAny_bind (wpAny_bind (wpAny_onRaise ?_))
  show wpAny _ _ (Builtin.SmallTypes.nextOf (.ref i1) >>= _) _ _ _
  refine wpAny_bind (nextA_item (a1.at fun o e => s1.extBut _ o D.i1z e) (b1.at fun o e => s1.extBut _ o D.l1z e) hx fun g2 j1 s2 => wpAny_pure ?_)
  have o2 : IsPair g2 TO p q := s2.extBut _ _ D.TOi1 (s1.extBut _ _ D.TOz hO)
  refine wpAny_bind (wpAny_seqItems o2 rfl (wpAny_bind (wpAny_updateSeq_pair o2 fun g3 o3 s3 => wpAny_bind (wpAny_letGo (wpAny_pure ?_)))))
  replace o3 : IsPair g3 TO x q := o3
  refine wpAny_bind (wpAny_bind (wpAny_onRaise ?_))
  show wpAny _ _ (Builtin.SmallTypes.nextOf (.ref i2) >>= _) _ _ _
  refine wpAny_bind (nextA_item (a2.at fun o e => s3.extBut _ o D.TOi2.symm (s2.extBut _ o D.i12.symm (s1.extBut _ o D.i2z e))) (b2.at fun o e => s3.extBut _ o D.l2TO (s2.extBut _ o D.l2i1 (s1.extBut _ o D.l2z e))) hy fun g4 j2 s4 => wpAny_pure ?_)
  have o4 : IsPair g4 TO x q := s4.extBut _ _ D.TOi2 o3
  refine wpAny_bind (wpAny_seqItems o4 rfl (wpAny_bind (wpAny_updateSeq_pair o4 fun g5 o5 s5 => wpAny_bind (wpAny_letGo (wpAny_pure (wpAny_pure ?_))))))
  replace o5 : IsPair g5 TO x y := o5
  refine wpAny_bind (wpAny_seqItems o5 rfl (wpAny_bind (wpAny_newTuple ?_)))
  have n5 : g5.objs.size = s.heap.objs.size := by rw [s5.1, s4.1, s3.1, s2.1, s1.1]
  have z5 : IsZip g5 z TI TO .ellipsis := s5.extBut _ _ D.TOz.symm (s4.extBut _ _ D.i2z.symm (s3.extBut _ _ D.TOz.symm (s2.extBut _ _ D.i1z.symm z1)))
  have k5 : ∀ e o, e ≠ z → e ≠ TO → e ≠ i1 → e ≠ i2 → s.heap.get? e = some o → g5.get? e = some o := fun e o q1 q2 q3 q4 h => s5.extBut _ _ q2 (s4.extBut _ _ q4 (s3.extBut _ _ q2 (s2.extBut _ _ q3 (s1.extBut _ _ q1 h))))
  have j5 : ItA c g5 i1 l1 (k + 1) := j1.at fun o e => s5.extBut _ o D.TOi1.symm (s4.extBut _ o D.i12 (s3.extBut _ o D.TOi1.symm e))
  have m5 : ItA d g5 i2 l2 (k + 1) := j2.at fun o e => s5.extBut _ o D.TOi2.symm e
  have lz : z < g5.objs.size := Heap.lt_size z5
  show wpAny _ _ (Builtin.SmallTypes.ownedTupleHandOut (.ref z) (.ref g5.objs.size) >>= _) _ _ _; refine wpAny_bind ?_; unfold Builtin.SmallTypes.ownedTupleHandOut
  have z6 : IsZip (g5.push { cls := .type "tuple", data := .seq #[x, y] }) z TI TO .ellipsis := Heap.get?_push_of_some _ z5
  refine wpAny_bind (wpAny_setField_rec z6 (by simp) fun g7 z7 s7 => ?_)
  replace z7 : IsZip g7 z TI TO (rawInt g5.objs.size) := z7
  refine wpAny_setField_rec z7 (by simp) fun g8 z8 s8 => ?_
  replace z8 : IsZip g8 z TI TO (rawInt g5.objs.size) := z8
  have k8 : ∀ e o, e ≠ z → g5.get? e = some o → g8.get? e = some o := fun e o q1 h => s8.extBut _ _ q1 (s7.extBut _ _ q1 (Heap.get?_push_of_some _ h))
  have t8 : IsPair g8 g5.objs.size x y := s8.extBut _ _ (Nat.ne_of_gt lz) (s7.extBut _ _ (Nat.ne_of_gt lz) (Heap.get?_push_size _ rfl))
  refine wpAny_pure ⟨_, rfl, wpAny_pure ?_⟩
  rw [n5] at z8 t8
  show Q (some (.ref g5.objs.size)) _
  rw [n5]
  exact hQ g8 z8 (k8 _ _ D.TOz o5) (j5.at fun o e => k8 _ o D.i1z e) (m5.at fun o e => k8 _ o D.i2z e) t8 fun e o q1 q2 q3 q4 h => k8 e o q1 (k5 e o q1 q2 q3 q4 h)
theorem zipA_end {c d : Bool} {z TI TO i1 i2 l1 l2 : Addr} {k : Nat} {xs ys : Array Value} {p q : Value} {Q : Option Value → Shared → Prop} (hh : A.handled = none) (D : ZipApart z TI TO i1 i2 l1 l2)
    (hz : IsZip s.heap z TI TO .none) (hI : IsPair s.heap TI (.ref i1) (.ref i2)) (hO : IsPair s.heap TO p q) (a1 : ItA c s.heap i1 l1 k) (a2 : ItA d s.heap i2 l2 k) (b1 : SqA c s.heap l1 xs) (b2 : SqA d s.heap l2 ys) (hend : xs[k]? = none ∨ ys[k]? = none)
    (hQ : ∀ h', (∀ e o, e ≠ z → e ≠ TO → e ≠ i1 → e ≠ i2 → s.heap.get? e = some o → h'.get? e = some o) → Q none { s with heap := h' }) : wpAny (model prog w) A (pyNext (.ref z)) Q E s := by
  have tz : s.TypeIs (.ref z) "zip" := ⟨_, hz, rfl⟩
  have stopped : ∀ {h' : Heap} {e : Addr}, (∃ o, h'.get? e = some o ∧ o.cls = .type "StopIteration") → (∀ e o, e ≠ z → e ≠ TO → e ≠ i1 → e ≠ i2 → s.heap.get? e = some o → h'.get? e = some o) →
      wpAny (model prog w) A (do if ← isInstance (.ref e) (.type "StopIteration") then pure (none : Option Value) else throw (.ref e)) Q E { s with heap := h' } := fun {h' e} ⟨o, ho, hc⟩ hk =>
    wpAny_bind (wpAny_isInstance (T := "StopIteration") (b := true) ⟨o, ho, hc⟩ isSubtype_stop (wpAny_pure (hQ _ hk)))
  unfold pyNext
  refine wpAny_bind (wpAny_attempt (wpAny_callSpecial?_slot (name := Str.ofString "__next__") tz F.slot_zip_next (wpAny_call_entry F.slot_zip_next tz F.entry_zip_next ?_ (F.args_zip_next_1 _))))
  show wpAny _ _ (field (.ref z) 2 >>= _) _ _ _; refine wpAny_bind (wpAny_field hz rfl (x := .bool false) rfl ?_)
  show wpAny _ _ (field (.ref z) 3 >>= _) _ _ _; refine wpAny_bind (wpAny_field hz rfl (x := .ref TI) rfl (wpAny_bind (wpAny_seqItems hI rfl ?_)))
  show wpAny _ _ (Builtin.SmallTypes.ownedTupleIsFree (.ref z) >>= _) _ _ _; refine wpAny_bind ?_; unfold Builtin.SmallTypes.ownedTupleIsFree
  refine wpAny_bind (wpAny_field hz rfl (x := .none) rfl (wpAny_pure ?_)); simp only [if_true]
  refine wpAny_bind (wpAny_rule (wpAny_bind (wpAny_field hz rfl (x := .ref TO) rfl (wpAny_bind (wpAny_setField_rec hz (by simp) fun g1 z1 s1 => ?_)))))
  replace z1 : IsZip g1 z TI TO .ellipsis := z1
  refine wpAny_bind ?_; simp only [List.zipIdx_cons, List.zipIdx_nil, List.forIn_cons, List.forIn_nil]
  refine wpAny_bind (wpAny_bind (wpAny_onRaise ?_))
  show wpAny _ _ (Builtin.SmallTypes.nextOf (.ref i1) >>= _) _ _ _
  cases hx : xs[k]? with
  | none =>
    refine wpAny_bind (nextA_end hh (a1.at fun o e => s1.extBut _ o D.i1z e) (b1.at fun o e => s1.extBut _ o D.l1z e) hx fun g2 e s2 ⟨oe, he, ce⟩ => ?_)
    have z2 : IsZip g2 z TI TO .ellipsis := s2 _ _ D.i1z.symm z1
    have ez : e ≠ z := fun y => by subst y; rw [z2] at he; cases he; simp at ce
    exact wpAny_setField_rec z2 (by simp) fun g3 _ s3 => stopped ⟨oe, s3.extBut _ _ ez he, ce⟩ fun e o q1 _ q3 _ h => s3.extBut _ _ q1 (s2 _ _ q3 (s1.extBut _ _ q1 h))
  | some x =>
    have hy : ys[k]? = none := hend.resolve_left (by rw [hx]; simp)
    refine wpAny_bind (nextA_item (a1.at fun o e => s1.extBut _ o D.i1z e) (b1.at fun o e => s1.extBut _ o D.l1z e) hx fun g2 j1 s2 => wpAny_pure ?_)
    have o2 : IsPair g2 TO p q := s2.extBut _ _ D.TOi1 (s1.extBut _ _ D.TOz hO)
    refine wpAny_bind (wpAny_seqItems o2 rfl (wpAny_bind (wpAny_updateSeq_pair o2 fun g3 o3 s3 => wpAny_bind (wpAny_letGo (wpAny_pure ?_)))))
    refine wpAny_bind (wpAny_bind (wpAny_onRaise ?_))
    show wpAny _ _ (Builtin.SmallTypes.nextOf (.ref i2) >>= _) _ _ _
    refine wpAny_bind (nextA_end hh (a2.at fun o e => s3.extBut _ o D.TOi2.symm (s2.extBut _ o D.i12.symm (s1.extBut _ o D.i2z e))) (b2.at fun o e => s3.extBut _ o D.l2TO (s2.extBut _ o D.l2i1 (s1.extBut _ o D.l2z e))) hy fun g4 e s4 ⟨oe, he, ce⟩ => ?_)
    have z4 : IsZip g4 z TI TO .ellipsis := s4 _ _ D.i2z.symm (s3.extBut _ _ D.TOz.symm (s2.extBut _ _ D.i1z.symm z1))
    have ez : e ≠ z := fun y => by subst y; rw [z4] at he; cases he; simp at ce
    exact wpAny_setField_rec z4 (by simp) fun g5 _ s5 => stopped ⟨oe, s5.extBut _ _ ez he, ce⟩ fun e o q1 q2 q3 q4 h => s5.extBut _ _ q1 (s4 _ _ q4 (s3.extBut _ _ q2 (s2.extBut _ _ q3 (s1.extBut _ _ q1 h))))
def itO (b : Bool) (l : Addr) : Obj := { cls := .type (if b then "tuple_iterator" else "list_iterator"), data := .fields #[.ref l, .int 0 0] }
theorem iterA {b : Bool} {l : Addr} {xs : Array Value} {Q : Value → Shared → Prop} (h : SqA b s.heap l xs) (q : Q (.ref s.heap.objs.size) { s with heap := s.heap.push (itO b l) }) : wpAny (model prog w) A (pyIter (.ref l)) Q E s := by
  cases b
  · exact wpAny_pyIter_list h q
  · exact wpAny_pyIter_tuple h q
theorem itO_at {b : Bool} {l it : Addr} {h : Heap} (e : h.get? it = some (itO b l)) : ItA b h it l 0 := by
  cases b <;> exact ⟨_, e, rfl, rfl⟩
abbrev zh1 (c : Bool) (h : Heap) (l1 : Addr) : Heap := h.push (itO c l1)
abbrev zh2 (c d : Bool) (h : Heap) (l1 l2 : Addr) : Heap := (zh1 c h l1).push (itO d l2)
abbrev zh3 (c d : Bool) (h : Heap) (l1 l2 : Addr) : Heap := (zh2 c d h l1 l2).push { cls := .type "tuple", data := .seq #[.ref h.objs.size, .ref (zh1 c h l1).objs.size] }
abbrev zh4 (c d : Bool) (h : Heap) (l1 l2 : Addr) : Heap := (zh3 c d h l1 l2).push { cls := .type "tuple", data := .seq #[.none, .none] }
abbrev zh5 (c d : Bool) (h : Heap) (l1 l2 : Addr) : Heap := (zh4 c d h l1 l2).push { cls := .type "zip", data := .fields #[.none, .bool false, .bool false, .ref (zh2 c d h l1 l2).objs.size, .ref (zh3 c d h l1 l2).objs.size] }
theorem zipA_new (c d : Bool) (l1 l2 : Addr) (xs ys : Array Value) : Meets (Builtin.«zip.__new__» ⟨[.type "zip", .ref l1, .ref l2], []⟩) (fun _ R s => SqA c s.heap l1 xs ∧ SqA d s.heap l2 ys ∧ R (.ok (.ret (.ref (zh4 c d s.heap l1 l2).objs.size))) { s with heap := zh5 c d s.heap l1 l2 }) :=
  .of_wp fun prog w A R s h => by
    obtain ⟨hp, g, dd, tk, os⟩ := s
    obtain ⟨m1, m2, h⟩ := h
    have hsub := PySem.sub_zip
    have M1 : SqA c (Shared.heap ⟨hp, g, dd, tk, os⟩) l1 xs := m1
    have M2 : SqA d (Shared.heap ⟨hp.push (itO c l1), g, dd, tk, os⟩) l2 ys := m2.at fun o e => Heap.get?_push_of_some _ e
    wp_walk using iterA M1, iterA M2
    exact ⟨_, rfl, h⟩
theorem call_zipA {c d : Bool} {l1 l2 : Addr} {xs ys : Array Value} {Q : Value → Shared → Prop} (m1 : SqA c s.heap l1 xs) (m2 : SqA d s.heap l2 ys)
    (h : ∀ h', IsZip h' (s.heap.objs.size + 4) (s.heap.objs.size + 2) (s.heap.objs.size + 3) .none → IsPair h' (s.heap.objs.size + 2) (.ref s.heap.objs.size) (.ref (s.heap.objs.size + 1)) →
      IsPair h' (s.heap.objs.size + 3) .none .none → ItA c h' s.heap.objs.size l1 0 → ItA d h' (s.heap.objs.size + 1) l2 0 → (∀ e o, s.heap.get? e = some o → h'.get? e = some o) → Q (.ref (s.heap.objs.size + 4)) { s with heap := h' }) :
    wpAny (model prog w) A (call (.type "zip") [.ref l1, .ref l2]) Q E s := by
  refine callType_new F.called_zip (by decide) (F.typeCall_zip_2 _ _) (F.newCall_zip_2 _ _) (fun obj => F.args_object_init_3 obj _ _) F.entry_zip_new (zipA_new c d l1 l2 xs ys) ⟨m1, m2, ?_⟩
  have n1 : (zh1 c s.heap l1).objs.size = s.heap.objs.size + 1 := Heap.size_push ..
  have n2 : (zh2 c d s.heap l1 l2).objs.size = s.heap.objs.size + 2 := by rw [Heap.size_push, n1]
  have n3 : (zh3 c d s.heap l1 l2).objs.size = s.heap.objs.size + 3 := by rw [Heap.size_push, n2]
  have n4 : (zh4 c d s.heap l1 l2).objs.size = s.heap.objs.size + 4 := by rw [Heap.size_push, n3]
  have up1 : ∀ {h : Heap} {o u : Obj} {e : Addr}, h.get? e = some u → (h.push o).get? e = some u := fun q => Heap.get?_push_of_some _ q
  have g5 : (zh5 c d s.heap l1 l2).get? (zh4 c d s.heap l1 l2).objs.size = some _ := Heap.get?_push_size _ rfl
  have g4 : (zh5 c d s.heap l1 l2).get? (zh3 c d s.heap l1 l2).objs.size = some _ := up1 (Heap.get?_push_size _ rfl)
  have g3 : (zh5 c d s.heap l1 l2).get? (zh2 c d s.heap l1 l2).objs.size = some _ := up1 (up1 (Heap.get?_push_size _ rfl))
  have g2 : (zh5 c d s.heap l1 l2).get? (zh1 c s.heap l1).objs.size = some (itO d l2) := up1 (up1 (up1 (Heap.get?_push_size _ (by cases d <;> rfl))))
  have g1 : (zh5 c d s.heap l1 l2).get? s.heap.objs.size = some (itO c l1) := up1 (up1 (up1 (up1 (Heap.get?_push_size _ (by cases c <;> rfl)))))
  show _ ∧ _
  rw [n2, n3, n4] at g5
  rw [n1, n2] at g3
  rw [n3] at g4
  rw [n1] at g2
  rw [n4]
  exact ⟨⟨_, g5, rfl⟩, h _ g5 g3 g4 (itO_at g1) (itO_at g2) fun e o q => up1 (up1 (up1 (up1 (up1 q))))⟩
end
def SqE (K : PySem.W.Frag) (H : Hp) (a : Addr) (xs : List V) : Bool → Prop
  | false => SqL K H a xs
  | true => SqT K H a xs
theorem Inv.sqe {X : Cx} {pins : List (Addr × Obj)} {σ : St} {H : Hp} {s : Shared} {a : Addr} {xs : List V} {b : Bool} (I : Inv X pins σ H s) (h : SqE X.K H a xs b) : ∃ its : List Value, Vals xs its ∧ SqA b s.heap a its.toArray ∧ xs.length ≤ sizeLine := by
  cases b
  · obtain ⟨its, r, p, z⟩ := I.list h; exact ⟨its, r, p.isList, z⟩
  · obtain ⟨its, r, p, z⟩ := I.tuple h; exact ⟨its, r, p, z⟩
theorem Inv.sqe_inj {X : Cx} {pins : List (Addr × Obj)} {σ : St} {H : Hp} {s : Shared} {a : Addr} {xs ys : List V} {b : Bool} (I : Inv X pins σ H s) (h : SqE X.K H a xs b) (h' : SqE X.K H a ys b) : xs = ys := by
  cases b
  · exact I.list_inj h h'
  · exact I.tuple_inj h h'
def Itz2 (K : PySem.W.Frag) (c d : Bool) (p q : Addr) : It :=
  ⟨fun i H => ∃ xs ys, SqE K H p xs c ∧ SqE K H q ys d ∧ i < xs.length ∧ i < ys.length,
   fun i H x H' => ∃ r u v, H r = none ∧ x = .ref r ∧ H' = upd H r (.tup [u, v]) ∧ ∀ xs ys, SqE K H p xs c → SqE K H q ys d → xs[i]? = some u ∧ ys[i]? = some v,
   fun i H => ∃ xs ys, SqE K H p xs c ∧ SqE K H q ys d ∧ (xs.length ≤ i ∨ ys.length ≤ i)⟩
def zst (c d : Bool) (z TI TO i1 i2 l1 l2 : Addr) (i : Nat) (h : Heap) : Prop := IsZip h z TI TO .none ∧ IsPair h TI (.ref i1) (.ref i2) ∧ (∃ a b, IsPair h TO a b) ∧ ItA c h i1 l1 i ∧ ItA d h i2 l2 i
theorem turn_zip2 {P : Program} {w : World} {K : PySem.W.Frag} {es : List Expr} {kx : Nat} {tp : Pos} {cc dd : Bool} {z TI TO i1 i2 l1 l2 : Addr} (D : ZipApart z TI TO i1 i2 l1 l2) :
    Turn P w K (.Tuple es kx tp) (Itz2 K cc dd l1 l2) [z, TI, TO, i1, i2] z (zst cc dd z TI TO i1 i2 l1 l2) where
  mem := by simp
  obj := fun i h st b hb => by
    obtain ⟨hz, hTI, ⟨a, c, hTO⟩, s1, s2⟩ := st
    simp only [List.mem_cons, List.mem_nil_iff, or_false] at hb
    rcases hb with rfl | rfl | rfl | rfl | rfl
    · exact ⟨_, hz, fun v q => by cases q⟩
    · exact ⟨_, hTI, fun v q => by cases q⟩
    · exact ⟨_, hTO, fun v q => by cases q⟩
    · exact s1.ex
    · exact s2.ex
  keep := fun i h h' st k => by
    obtain ⟨hz, hTI, ⟨a, c, hTO⟩, s1, s2⟩ := st
    exact ⟨k z (by simp) _ hz, k TI (by simp) _ hTI, ⟨a, c, k TO (by simp) _ hTO⟩, s1.at fun o e => k i1 (by simp) o e, s2.at fun o e => k i2 (by simp) o e⟩
  item := by
    intro X hP hw hK hc i pins s σ H E I hf st hg
    subst hP hw hK
    obtain ⟨xs, ys, hx, hy, lx, ly⟩ := hg
    obtain ⟨hz, hTI, ⟨a, c, hTO⟩, s1, s2⟩ := id st
    obtain ⟨us, ru, pu, zu⟩ := I.sqe hx
    obtain ⟨ws, rw', pw, zw⟩ := I.sqe hy
    obtain ⟨u, eu, r1⟩ := ru.get (List.getElem?_eq_getElem lx)
    obtain ⟨v, ev, r2⟩ := rw'.get (List.getElem?_eq_getElem ly)
    refine zipA_item D hz hTI hTO s1 s2 pu pw (x := u) (y := v) (by simpa using eu) (by simpa using ev) fun h1 z1 t1 j1 j2 np kk => ⟨_, rfl, ?_⟩
    refine wpAny_letOwnedTupleGo_zip z1 fun h2 z2 sb => ?_
    have nT : s.heap.objs.size ≠ z := Nat.ne_of_gt (Heap.lt_size hz)
    have kk2 : ∀ b o, b ∉ [z, TI, TO, i1, i2] → s.heap.get? b = some o → h2.get? b = some o := fun b o hb e => by
      simp only [List.mem_cons, List.mem_nil_iff, or_false, not_or] at hb
      exact sb.extBut b o hb.1 (kk b o hb.1 hb.2.2.1 hb.2.2.2.1 hb.2.2.2.2 e)
    have np2 : IsPair h2 s.heap.objs.size u v := sb.extBut _ _ nT np
    have I2 := I.turnLaid (t' := s.toks) (a := s.heap.objs.size) (o := .tup [xs[i], ys[i]]) kk2 hf (Nat.le_refl _) (show ObjOk X.prog X.w _ h2 _ (.tup [xs[i], ys[i]]) from ⟨by show 2 ≤ sizeLine; rw [sizeLine_eq]; decide, [u, v], .cons r1 (.cons r2 .nil), ⟨⟨_, np2, rfl, 0, rfl⟩, _, np2, rfl⟩⟩)
    refine ⟨.ref s.heap.objs.size, _, I2, rfl, ⟨_, _, _, I.hok.fresh (Nat.le_refl _), rfl, rfl, fun xs' ys' e1 e2 => ?_⟩, ?_, fun b hb => ?_⟩
    · rw [I.sqe_inj e1 hx, I.sqe_inj e2 hy]
      exact ⟨List.getElem?_eq_getElem lx, List.getElem?_eq_getElem ly⟩
    · exact ⟨z2, sb.extBut _ _ D.TIz (kk TI _ D.TIz D.TITO D.TIi1 D.TIi2 hTI), ⟨_, _, sb.extBut _ _ D.TOz t1⟩, j1.at fun o e => sb.extBut _ o D.i1z e, j2.at fun o e => sb.extBut _ o D.i2z e⟩
    · rw [upd_ne (fun q => ?_)]
      · exact (hf b hb).1
      · have lt : b < s.heap.objs.size := by
          simp only [List.mem_cons, List.mem_nil_iff, or_false] at hb
          rcases hb with rfl | rfl | rfl | rfl | rfl
          · exact Heap.lt_size hz
          · exact Heap.lt_size hTI
          · exact Heap.lt_size hTO
          · exact s1.lt
          · exact s2.lt
        exact absurd lt (by rw [q]; exact Nat.lt_irrefl _)
  done := by
    intro X hP hw hK hc i pins s σ H E I hf st hg
    subst hP hw hK
    obtain ⟨xs, ys, hx, hy, hl⟩ := hg
    obtain ⟨hz, hTI, ⟨a, c, hTO⟩, s1, s2⟩ := st
    obtain ⟨us, ru, pu, zu⟩ := I.sqe hx
    obtain ⟨ws, rw', pw, zw⟩ := I.sqe hy
    have l1 := ru.length
    have l2 := rw'.length
    refine zipA_end (I.ok.hd hc) D hz hTI hTO s1 s2 pu pw ?_ fun h1 kk => ⟨rfl, I.turns (t' := s.toks) (ch := [z, TI, TO, i1, i2]) (fun b o hb e => ?_) hf⟩
    · rcases hl with q | q
      · exact .inl (by simp; omega)
      · exact .inr (by simp; omega)
    · simp only [List.mem_cons, List.mem_nil_iff, or_false, not_or] at hb
      exact kk b o hb.1 hb.2.2.1 hb.2.2.2.1 hb.2.2.2.2 e
  self := fun _ _ _ _ _ st h => wpAny_pyIter_zip st.1 h
section
variable {X : Cx}
def iZip2 (K : PySem.W.Frag) (ta : TA) : TI := fun σ H R => ta σ H fun vs H1 => ∃ p q xs ys c d, vs = [.ref p, .ref q] ∧ SqE K H1 p xs c ∧ SqE K H1 q ys d ∧ R (Itz2 K c d p q) H1
theorem pi_zip2 {es : List Expr} {kx : Nat} {tp : Pos} {a b : Expr} {ta : TA} {p pos : Pos} (hg : Gl X "zip") (hm : X.mg "zip" = none) (ha : PA X [a, b] ta) (hs : starEach [a, b] X.env = [(false, eval a X.env), (false, eval b X.env)] := by rfl) (hs2 : starEach [b] X.env = [(false, eval b X.env)] := by rfl) :
    PI X (.Tuple es kx tp) (.Call (.Name "zip" p) [a, b] [] pos) (iZip2 X.K ta) := by
  intro pins s σ H R I h
  refine Call_ (ld_blt I hg hm boot_zip (PyProof.Rows.callWith_type1 (thn (ha pos pins s σ H _ I h) fun us s1 ⟨vs, H1, I1, r1, q1⟩ => ?_) (by rw [hs, hs2]) (by rw [hs2]; rfl)))
  obtain ⟨p1, p2, xs, ys, c, d, e, hx, hy, q⟩ := q1
  subst e
  obtain ⟨u, v, rfl, ru, rv⟩ := vals2 r1
  cases ru
  cases rv
  obtain ⟨i1, ri1, pl1, z1⟩ := I1.sqe hx
  obtain ⟨i2, ri2, pl2, z2⟩ := I1.sqe hy
  refine call_zipA pl1 pl2 fun h' hz hTI hTO j1 j2 hk => ?_
  have I2 : Inv X pins σ H1 { s1 with heap := h' } := I1.kept (t' := s1.toks) hk
  refine wpAny_pyIter_zip (s := { s1 with heap := h' }) hz ⟨_, [s1.heap.objs.size + 4, s1.heap.objs.size + 2, s1.heap.objs.size + 3, s1.heap.objs.size, s1.heap.objs.size + 1], _, _, H1, rfl, I2, turn_zip2 (zipApart_new pl1.lt pl2.lt), ⟨hz, hTI, ⟨_, _, hTO⟩, j1, j2⟩, fun b hb => ?_, q⟩
  have hb' : s1.heap.objs.size ≤ b := by
    simp only [List.mem_cons, List.mem_nil_iff, or_false] at hb
    rcases hb with rfl | rfl | rfl | rfl | rfl <;> omega
  exact I1.fpOk hb' (I1.hok.fresh hb')
end
theorem for_zip2 {K : PySem.W.Frag} {p q : Addr} {c d : Bool} {xs ys : List V} {g : TG} {tb : TS} {D : Ends} {σ : St} {H : Hp} (Pv : Nat → St → Hp → Prop) (hl : xs.length = ys.length) (h0 : Pv 0 σ H) (hq : ∀ i σ H, i ≤ xs.length → Pv i σ H → SqE K H p xs c ∧ SqE K H q ys d)
    (hs : ∀ i x y σ H r, xs[i]? = some x → ys[i]? = some y → Pv i σ H → H r = none → g (.ref r) σ (upd H r (.tup [x, y])) fun σ2 H2 => tb { D with nx := Pv (i + 1), ct := Pv (i + 1), bk := D.nx } σ2 H2) (hd : ∀ σ H, Pv xs.length σ H → D.nx σ H) :
    ∃ W : Nat → Nat → St → Hp → Prop, (∃ m, W 0 m σ H) ∧ ∀ i m σ H, W i m σ H →
      ((Itz2 K c d p q).stop i H ∧ D.nx σ H) ∨ ((Itz2 K c d p q).go i H ∧ ∃ N : St → Hp → Prop, (∀ σ' H', N σ' H' → ∃ m', m' < m ∧ W (i + 1) m' σ' H') ∧ ∀ x H', (Itz2 K c d p q).yld i H x H' → g x σ H' fun σ2 H2 => tb { D with nx := N, ct := N, bk := D.nx } σ2 H2) := by
  refine ⟨fun i m σ H => m = xs.length - i ∧ i ≤ xs.length ∧ Pv i σ H, ⟨xs.length, by simp, Nat.zero_le _, h0⟩, ?_⟩
  rintro i m σ H ⟨rfl, hi, pv⟩
  obtain ⟨q1, q2⟩ := hq i σ H hi pv
  by_cases hlt : i < xs.length
  · refine .inr ⟨⟨xs, ys, q1, q2, hlt, by omega⟩, Pv (i + 1), fun σ' H' p' => ⟨xs.length - (i + 1), by omega, rfl, hlt, p'⟩, fun x H' y => ?_⟩
    obtain ⟨r, u, v, n, rfl, rfl, y⟩ := y
    obtain ⟨e1, e2⟩ := y xs ys q1 q2
    exact hs i u v σ _ r e1 e2 pv n
  · have e : i = xs.length := by omega
    subst e
    exact .inl ⟨⟨xs, ys, q1, q2, .inl (Nat.le_refl _)⟩, hd σ H pv⟩
section
variable {prog : Program} {w : World} {A : Around} {E : Value → Shared → Prop} {s : Shared}
theorem enumA_item {c : Bool} {e it l : Addr} {k : Nat} {xs : Array Value} {x old : Value} {Q : Option Value → Shared → Prop} (he : IsEnum s.heap e it k old) (a1 : ItA c s.heap it l k) (b1 : SqA c s.heap l xs) (hx : xs[k]? = some x) (ne : e ≠ it)
    (hQ : ∀ h', IsEnumOut h' e it ((k : Int) + 1) x s.heap.objs.size → ItA c h' it l (k + 1) → h'.get? s.heap.objs.size = some { cls := .type "tuple", data := .seq #[.int k s.toks, x] } →
      (∀ b o, b ≠ e → b ≠ it → s.heap.get? b = some o → h'.get? b = some o) → Q (some (.ref s.heap.objs.size)) { s with heap := h', toks := s.toks + 1 }) : wpAny (model prog w) A (pyNext (.ref e)) Q E s := by
  have te : s.TypeIs (.ref e) "enumerate" := ⟨_, he, rfl⟩
  unfold pyNext
  refine wpAny_bind (wpAny_attempt (wpAny_callSpecial?_slot (name := Str.ofString "__next__") te F.slot_enumerate_next (wpAny_call_entry F.slot_enumerate_next te F.entry_enumerate_next ?_ (F.args_enumerate_next_1 _))))
  obtain ⟨hp, gg, dd, tk, os⟩ := s
  show wpAny _ _ (field (.ref e) 2 >>= _) _ _ _; refine wpAny_bind (wpAny_field he rfl (x := .ref it) rfl (wpAny_bind (nextA_item a1 b1 hx fun g1 j1 s1 => ?_)))
  replace s1 : Heap.SameBut it hp g1 := s1
  have e1 : IsEnum g1 e it k old := (s1.2 e ne).trans he
  show wpAny _ _ (field (.ref e) 3 >>= _) _ _ ⟨g1, gg, dd, tk, os⟩; refine wpAny_bind (wpAny_field e1 rfl (x := rawInt k) rfl ?_)
  show wpAny _ _ (field (.ref e) 4 >>= _) _ _ ⟨g1, gg, dd, tk, os⟩; refine wpAny_bind (wpAny_field e1 rfl (x := .none) rfl ?_)
  show wpAny _ _ (mkInt k >>= _) _ _ ⟨g1, gg, dd, tk, os⟩; refine wpAny_bind (wpAny_mkInt ?_)
  show wpAny _ _ (setField (.ref e) 3 (rawInt ((k : Int) + 1)) >>= _) _ _ ⟨g1, gg, dd, tk + 1, os⟩; refine wpAny_bind (wpAny_setField_rec e1 (by simp) fun g2 e2 s2 => ?_)
  replace s2 : Heap.SameBut e g1 g2 := s2
  replace e2 : IsEnum g2 e it ((k : Int) + 1) old := e2
  show wpAny _ _ (setField (.ref e) 4 .none >>= _) _ _ ⟨g2, gg, dd, tk + 1, os⟩; refine wpAny_bind (wpAny_setField_rec e2 (by simp) fun g3 e3 s3 => ?_)
  replace s3 : Heap.SameBut e g2 g3 := s3
  replace e3 : IsEnum g3 e it ((k : Int) + 1) old := e3
  show wpAny _ _ (newTuple [.int k tk, x] >>= _) _ _ ⟨g3, gg, dd, tk + 1, os⟩; refine wpAny_bind (wpAny_newTuple ?_)
  have n3 : g3.objs.size = hp.objs.size := by rw [s3.1, s2.1, s1.1]
  have le : e < hp.objs.size := Heap.lt_size he
  have e4 : IsEnum (g3.push { cls := .type "tuple", data := .seq #[.int k tk, x] }) e it ((k : Int) + 1) old := Heap.get?_push_of_some _ e3
  have t4 : (g3.push { cls := .type "tuple", data := .seq #[.int k tk, x] }).get? hp.objs.size = some { cls := .type "tuple", data := .seq #[.int k tk, x] } := by rw [← n3]; exact Heap.get?_push_size _ rfl
  have k4 : ∀ b o, b ≠ e → b ≠ it → hp.get? b = some o → (g3.push { cls := .type "tuple", data := .seq #[.int k tk, x] }).get? b = some o := fun b o q1 q2 h => Heap.get?_push_of_some _ (s3.extBut b o q1 (s2.extBut b o q1 (s1.extBut b o q2 h)))
  have j4 : ItA c (g3.push { cls := .type "tuple", data := .seq #[.int k tk, x] }) it l (k + 1) := j1.at fun o h => Heap.get?_push_of_some _ (s3.extBut _ o ne.symm (s2.extBut _ o ne.symm h))
  show wpAny _ _ (Builtin.SmallTypes.ownedTupleIsFree (.ref e) >>= _) _ _ ⟨g3.push { cls := .type "tuple", data := .seq #[.int k tk, x] }, gg, dd, tk + 1, os⟩
  generalize g3.push { cls := .type "tuple", data := .seq #[.int k tk, x] } = g4 at *
  rw [n3]
  refine wpAny_bind ?_; unfold Builtin.SmallTypes.ownedTupleIsFree
  refine wpAny_bind (wpAny_field e4 rfl (x := .none) rfl (wpAny_pure ?_)); simp only [if_true]
  refine wpAny_bind (wpAny_rule (wpAny_bind (wpAny_field e4 rfl (x := old) rfl (wpAny_bind (wpAny_setField_rec e4 (by simp) fun g5 e5 s5 => ?_)))))
  replace s5 : Heap.SameBut e g4 g5 := s5
  replace e5 : IsEnum g5 e it ((k : Int) + 1) x := e5
  show wpAny _ _ (Builtin.SmallTypes.ownedTupleHandOut (.ref e) (.ref hp.objs.size) >>= _) _ _ ⟨g5, gg, dd, tk + 1, os⟩
  refine wpAny_bind ?_; unfold Builtin.SmallTypes.ownedTupleHandOut
  refine wpAny_bind (wpAny_setField_rec e5 (by simp) fun g6 e6 s6 => ?_)
  replace s6 : Heap.SameBut e g5 g6 := s6
  replace e6 : IsEnumOut g6 e it ((k : Int) + 1) x hp.objs.size := e6
  refine wpAny_setField_rec e6 (by simp) fun g7 e7 s7 => ?_
  replace s7 : Heap.SameBut e g6 g7 := s7
  replace e7 : IsEnumOut g7 e it ((k : Int) + 1) x hp.objs.size := e7
  have k7 : ∀ b o, b ≠ e → g4.get? b = some o → g7.get? b = some o := fun b o q h => s7.extBut b o q (s6.extBut b o q (s5.extBut b o q h))
  exact wpAny_bind (wpAny_letGo (wpAny_pure ⟨_, rfl, wpAny_pure (hQ g7 e7 (j4.at fun o h => k7 _ o ne.symm h) (k7 _ _ (Nat.ne_of_gt le) t4) fun b o q1 q2 h => k7 b o q1 (k4 b o q1 q2 h))⟩))
theorem enumA_end {c : Bool} {e it l : Addr} {k : Nat} {xs : Array Value} {old : Value} {Q : Option Value → Shared → Prop} (hh : A.handled = none) (he : IsEnum s.heap e it k old) (a1 : ItA c s.heap it l k) (b1 : SqA c s.heap l xs) (hx : xs[k]? = none)
    (hQ : ∀ h', Heap.ExtBut it s.heap h' → Q none { s with heap := h' }) : wpAny (model prog w) A (pyNext (.ref e)) Q E s := by
  have te : s.TypeIs (.ref e) "enumerate" := ⟨_, he, rfl⟩
  unfold pyNext
  refine wpAny_bind (wpAny_attempt (wpAny_callSpecial?_slot (name := Str.ofString "__next__") te F.slot_enumerate_next (wpAny_call_entry F.slot_enumerate_next te F.entry_enumerate_next ?_ (F.args_enumerate_next_1 _))))
  show wpAny _ _ (field (.ref e) 2 >>= _) _ _ _; refine wpAny_bind (wpAny_field he rfl (x := .ref it) rfl (wpAny_bind (nextA_end hh a1 b1 hx fun h' y ex ⟨o, ho, hc⟩ => ?_)))
  exact wpAny_bind (wpAny_isInstance (T := "StopIteration") (b := true) ⟨o, ho, hc⟩ isSubtype_stop (wpAny_pure (hQ _ ex)))
theorem enumT_new (l : Addr) (items : Array Value) (n : Nat) (dct : Option Addr) (sl : Array (Option Value)) :
    Meets (Builtin.«enumerate.__new__» ⟨[.type "enumerate", .ref l], []⟩) (fun _ R s => s.heap.get? l = some { cls := .type "tuple", dict := dct, data := .seq items n, slots := sl } ∧
      R (.ok (.ret (.ref (s.heap.push (itO true l)).objs.size))) { s with heap := (s.heap.push (itO true l)).push { cls := .type "enumerate", data := .fields #[.none, .bool false, .ref s.heap.objs.size, rawInt 0, .none, .none] } }) :=
  .of_wp fun prog w A R s h => by
    obtain ⟨hp, g, d, tk, os⟩ := s
    obtain ⟨hl, h⟩ := h
    have hsub := PySem.sub_enumerate
    have hT : Heap.IsTuple (Shared.heap ⟨hp, g, d, tk, os⟩) l items := ⟨_, hl, rfl, n, rfl⟩
    wp_walk using AutoSeq1.wpAny_loadPart' hl
    refine wpAny_stack_any fun st => wpAny_pure ?_
    split
    · rename_i c _ _ _ _ _; cases (c == Value.type "enumerate") <;> (wp_walk using AutoSeq1.wpAny_loadPart' hl, wpAny_pyIter_tuple hT; exact ⟨_, rfl, h⟩)
    · wp_walk using AutoSeq1.wpAny_loadPart' hl, wpAny_pyIter_tuple hT; exact ⟨_, rfl, h⟩
theorem call_enumA {c : Bool} {l : Addr} {xs : Array Value} {Q : Value → Shared → Prop} (b1 : SqA c s.heap l xs)
    (h : ∀ h', IsEnum h' (s.heap.objs.size + 1) s.heap.objs.size 0 .none → ItA c h' s.heap.objs.size l 0 → (∀ b o, s.heap.get? b = some o → h'.get? b = some o) → Q (.ref (s.heap.objs.size + 1)) { s with heap := h' }) :
    wpAny (model prog w) A (call (.type "enumerate") [.ref l]) Q E s := by
  cases c with
  | false => exact call_enumerate_list b1 fun h' a1 a2 _ a4 => h h' a1 a2 a4
  | true =>
    obtain ⟨⟨cl, dct, dt, sl⟩, hl, hc, n, hd⟩ := b1
    replace hc : cl = .type "tuple" := hc
    replace hd : dt = .seq xs n := hd
    subst hc hd
    refine callType_new F.called_enumerate (by decide) (F.typeCall_enumerate_1 _) (F.newCall_enumerate_1 _) (fun obj => F.args_object_init_2 obj _) F.entry_enumerate_new (enumT_new l xs n dct sl) ⟨hl, ?_⟩
    have hz : (s.heap.push (itO true l)).objs.size = s.heap.objs.size + 1 := Heap.size_push ..
    show _ ∧ _
    rw [hz]
    have he : IsEnum ((s.heap.push (itO true l)).push { cls := .type "enumerate", data := .fields #[.none, .bool false, .ref s.heap.objs.size, rawInt 0, .none, .none] }) (s.heap.objs.size + 1) s.heap.objs.size 0 .none := by
      have := Heap.get?_push_size (s.heap.push (itO true l)) (o := { cls := .type "enumerate", data := .fields #[.none, .bool false, .ref s.heap.objs.size, rawInt 0, .none, .none] }) rfl
      rwa [hz] at this
    exact ⟨⟨_, he, rfl⟩, h _ he (itO_at (b := true) (Heap.get?_push_of_some _ (Heap.get?_push_size _ rfl))) fun b o x => Heap.get?_push_of_some _ (Heap.get?_push_of_some _ x)⟩
end
def Ite2 (K : PySem.W.Frag) (c : Bool) (p : Addr) : It :=
  ⟨fun i H => ∃ xs, SqE K H p xs c ∧ i < xs.length, fun i H x H' => ∃ r v, H r = none ∧ x = .ref r ∧ H' = upd H r (.tup [.int i, v]) ∧ ∀ xs, SqE K H p xs c → xs[i]? = some v, fun i H => ∃ xs, SqE K H p xs c ∧ xs.length ≤ i⟩
theorem turn_enum {P : Program} {w : World} {K : PySem.W.Frag} {es : List Expr} {kx : Nat} {tp : Pos} {cc : Bool} {e it l : Addr} (ne : e ≠ it) :
    Turn P w K (.Tuple es kx tp) (Ite2 K cc l) [e, it] e (fun i h => (∃ old, IsEnum h e it i old) ∧ ItA cc h it l i) where
  mem := by simp
  obj := fun i h st b hb => by
    obtain ⟨⟨old, he⟩, s1⟩ := st
    simp only [List.mem_cons, List.mem_nil_iff, or_false] at hb
    rcases hb with rfl | rfl
    · exact ⟨_, he, fun v q => by cases q⟩
    · exact s1.ex
  keep := fun i h h' st k => by
    obtain ⟨⟨old, he⟩, s1⟩ := st
    exact ⟨⟨old, k e (by simp) _ he⟩, s1.at fun o q => k it (by simp) o q⟩
  item := by
    intro X hP hw hK hc i pins s σ H E I hf st hg
    subst hP hw hK
    obtain ⟨xs, hx, lx⟩ := hg
    obtain ⟨⟨old, he⟩, s1⟩ := id st
    obtain ⟨us, ru, pu, zu⟩ := I.sqe hx
    obtain ⟨u, eu, r1⟩ := ru.get (List.getElem?_eq_getElem lx)
    refine enumA_item he s1 pu (x := u) (by simpa using eu) ne fun h1 z1 j1 np kk => ⟨_, rfl, ?_⟩
    refine wpAny_letOwnedTupleGo_enum z1 fun h2 z2 sb => ?_
    have nT : s.heap.objs.size ≠ e := Nat.ne_of_gt (Heap.lt_size he)
    have kk2 : ∀ b o, b ∉ [e, it] → s.heap.get? b = some o → h2.get? b = some o := fun b o hb q => by
      simp only [List.mem_cons, List.mem_nil_iff, or_false, not_or] at hb
      exact sb.extBut b o hb.1 (kk b o hb.1 hb.2 q)
    have I2 := I.turnLaid (t' := s.toks + 1) (a := s.heap.objs.size) (o := .tup [.int i, xs[i]]) kk2 hf (Nat.le_refl _) (show ObjOk X.prog X.w _ h2 _ (.tup [.int i, xs[i]]) from ⟨by show 2 ≤ sizeLine; rw [sizeLine_eq]; decide, [.int i s.toks, u], .cons ⟨_, rfl⟩ (.cons r1 .nil), ⟨⟨_, sb.extBut _ _ nT np, rfl, 0, rfl⟩, _, sb.extBut _ _ nT np, rfl⟩⟩)
    refine ⟨.ref s.heap.objs.size, _, I2, rfl, ⟨_, _, I.hok.fresh (Nat.le_refl _), rfl, rfl, fun xs' e1 => ?_⟩, ⟨⟨_, by simpa using z2⟩, j1.at fun o q => sb.extBut _ o ne.symm q⟩, fun b hb => ?_⟩
    · rw [I.sqe_inj e1 hx]; exact List.getElem?_eq_getElem lx
    · have lt : b < s.heap.objs.size := by
        simp only [List.mem_cons, List.mem_nil_iff, or_false] at hb
        rcases hb with rfl | rfl
        · exact Heap.lt_size he
        · exact s1.lt
      rw [upd_ne (Nat.ne_of_lt lt)]; exact (hf b hb).1
  done := by
    intro X hP hw hK hc i pins s σ H E I hf st hg
    subst hP hw hK
    obtain ⟨xs, hx, hl⟩ := hg
    obtain ⟨⟨old, he⟩, s1⟩ := st
    obtain ⟨us, ru, pu, zu⟩ := I.sqe hx
    have l1 := ru.length
    refine enumA_end (I.ok.hd hc) he s1 pu (by simp; omega) fun h1 kk => ⟨rfl, I.turns (t' := s.toks) (ch := [e, it]) (fun b o hb q => kk b o ?_ q) hf⟩
    simp only [List.mem_cons, List.mem_nil_iff, or_false, not_or] at hb
    exact hb.2
  self := fun _ _ _ _ _ st h => let ⟨_, he⟩ := st.1; wpAny_pyIter_enum he h
section
variable {X : Cx}
def iEnum (K : PySem.W.Frag) (ta : TA) : TI := fun σ H R => ta σ H fun vs H1 => ∃ p xs c, vs = [.ref p] ∧ SqE K H1 p xs c ∧ R (Ite2 K c p) H1
theorem pi_enum {es : List Expr} {kx : Nat} {tp : Pos} {a : Expr} {ta : TA} {p pos : Pos} (hg : Gl X "enumerate") (hm : X.mg "enumerate" = none) (ha : PA X [a] ta) (hs : starEach [a] X.env = [(false, eval a X.env)] := by rfl) :
    PI X (.Tuple es kx tp) (.Call (.Name "enumerate" p) [a] [] pos) (iEnum X.K ta) := by
  intro pins s σ H R I h
  refine Call_ (ld_blt I hg hm boot_enumerate (PyProof.Rows.callWith_type1 (thn (ha pos pins s σ H _ I h) fun us s1 ⟨vs, H1, I1, r1, q1⟩ => ?_) hs rfl))
  obtain ⟨p1, xs, c, e, hx, q⟩ := q1
  subst e
  obtain ⟨u, rfl, ru⟩ := vals1 r1
  cases ru
  obtain ⟨i1, ri1, pl1, z1⟩ := I1.sqe hx
  refine call_enumA pl1 fun h' he j1 hk => ?_
  have I2 : Inv X pins σ H1 { s1 with heap := h' } := I1.kept (t' := s1.toks) hk
  refine wpAny_pyIter_enum (s := { s1 with heap := h' }) he ⟨_, [s1.heap.objs.size + 1, s1.heap.objs.size], _, _, H1, rfl, I2, turn_enum (Nat.ne_of_gt (Nat.lt_succ_self _)), ⟨⟨_, he⟩, j1⟩, fun b hb => ?_, q⟩
  have hb' : s1.heap.objs.size ≤ b := by
    simp only [List.mem_cons, List.mem_nil_iff, or_false] at hb
    rcases hb with rfl | rfl <;> omega
  exact I1.fpOk hb' (I1.hok.fresh hb')
end
section
variable {prog : Program} {w : World} {A : Around} {E : Value → Shared → Prop} {s : Shared}
theorem collectA {b : Bool} {l : Addr} {vs : List Value} {Q : List Value → Shared → Prop} (hl : SqA b s.heap l vs.toArray) (hz : vs.length ≤ sizeLine)
    (h : Q vs { s with heap := (s.heap.push (seqObj "list" #[] 0)).update s.heap.objs.size (Obj.mapSeq (· ++ vs.toArray)) }) : wpAny (model prog w) A (collect (.ref l)) Q E s := by
  cases b with
  | false => exact collect_list hl h hz
  | true =>
    obtain ⟨ob, eb, cb, nb, db⟩ := id hl
    unfold collect; refine wpAny_bind (wpAny_runValue (codeAny_builtin entry_proto_collect' ?_))
    show wpAny _ _ (do again (.builtin "list.__iadd__" ⟨[← newList [], .ref l], []⟩)) _ _ _; refine wpAny_bind (wpAny_newList (wpAny_pure ⟨Code.quiet_builtin _ (by decide +kernel), codeAny_builtin entry_list_iadd' ?_⟩))
    show wpAny _ _ (Builtin.List.listExtendWith (.ref s.heap.objs.size) (.ref l) (.ref s.heap.objs.size)) _ _ { s with heap := s.heap.push (seqObj "list" #[] 0) }; unfold Builtin.List.listExtendWith
    have eb' : (s.heap.push (seqObj "list" #[] 0)).get? l = some ob := Heap.get?_push_of_some _ eb
    refine wpAny_bind (wpAny_typeOf (T := "tuple") ⟨ob, eb', cb⟩ ?_)
    rw [if_pos (by rw [show (Value.type "tuple" == Value.type "tuple") = true from rfl]; simp)]
    refine wpAny_bind (listItems_at eb' db (wpAny_bind (listItems_at (xs := #[]) (n := 0) (Heap.get?_push_size _ rfl) rfl ?_))); rw [if_neg (by simp)]
    refine wpAny_bind (listUpdate_at (xs := #[]) (n := 0) (Heap.get?_push_size _ rfl) rfl (wpAny_pure ?_) (Nat.zero_le _) (by show (#[] ++ vs.toArray).size ≤ sizeLine + 1; simp only [Array.size_append, List.size_toArray, List.length_nil]; omega))
    show wpAny (model prog w) A (do let o ← load s.heap.objs.size; match o.data with | .seq xs _ => pure xs.toList | _ => unsupported "internal:collect") Q E { s with heap := (s.heap.push (seqObj "list" #[] 0)).update s.heap.objs.size (Obj.mapSeq (· ++ vs.toArray)) }
    refine wpAny_bind (wpAny_load (get?_update_seq (Heap.get?_push_size _ rfl) _) ?_)
    show wpAny _ _ (pure ((#[] : Array Value) ++ vs.toArray).toList) Q E _; rw [show ((#[] : Array Value) ++ vs.toArray).toList = vs by simp]; exact wpAny_pure h
theorem sortedA {b : Bool} {l : Addr} {vs : List Value} {ns : List Int} {Q : Value → Shared → Prop} (hl : SqA b s.heap l vs.toArray) (hz : vs.length ≤ sizeLine) (hI : IntsAre vs ns) (h64 : vs.length < 64)
    (h : ∀ (out : Array Value) (ns' : List Int), IntsAre out.toList ns' → ns'.Perm ns → ns'.Pairwise (· ≤ ·) → Q (.ref (s.heap.objs.size + 1)) { s with heap := sortedAll s.heap vs out }) : wpAny (model prog w) A (call (.builtin "sorted") [.ref l]) Q E s := by
  refine Calls.call_function_entry kind_sorted plain_sorted entry_sorted (args_sorted1 _) ?_; unfold Builtin.«sorted»
  refine wpAny_bind (m := checkCount "sorted" 1 1 _) (wpAny_pure (wpAny_bind (collectA hl hz (wpAny_bind (wpAny_newList ?_)))))
  have n1 : ((s.heap.push (seqObj "list" #[] 0)).update s.heap.objs.size (Obj.mapSeq (· ++ vs.toArray))).objs.size = s.heap.objs.size + 1 := by rw [Heap.size_update, size_push']
  have o1 : (((s.heap.push (seqObj "list" #[] 0)).update s.heap.objs.size (Obj.mapSeq (· ++ vs.toArray))).push (seqObj "list" vs.toArray 0)).get? (s.heap.objs.size + 1) = some (seqObj "list" vs.toArray 0) := by rw [← n1]; exact Heap.get?_push_size _ rfl
  show wpAny _ _ _ _ _ { s with heap := ((s.heap.push (seqObj "list" #[] 0)).update s.heap.objs.size (Obj.mapSeq (· ++ vs.toArray))).push (seqObj "list" vs.toArray 0) }; rw [n1]
  exact wpAny_bind (wpAny_holding (wpAny_call_entry slot_list_sort ⟨_, o1, rfl⟩ entry_list_sort (list_sort_tree o1 hI h64 fun out ns' a1 a2 a3 => ⟨_, rfl, wpAny_pure ⟨_, rfl, h out ns' a1 a2 a3⟩⟩) (args_list_sort _)))
end
section
variable {X : Cx}
def rSorted (K : PySem.W.Frag) : List V → Hp → VK → Prop := fun xs H Q => ∃ (p : Addr) (ns : List Int) (c : Bool), xs = [.ref p] ∧ SqE K H p (ns.map V.int) c ∧ ns.length < 64 ∧ ∀ l (ns' : List Int), H l = none → ns'.Perm ns → ns'.Pairwise (· ≤ ·) → Q (.ref l) (upd H l (.lst (ns'.map V.int)))
theorem cSorted : CallR X (.builtin "sorted") (rSorted X.K) := by
  intro pins s σ H xs us Q I r h
  obtain ⟨p, ns, c, rfl, hq, h64, q⟩ := h
  obtain ⟨u, rfl, rx⟩ := vals1 r
  cases rx
  obtain ⟨its, r', pl, hz⟩ := I.sqe hq
  have hi : IntsAre its ns := intsAre_of r'
  have hlen := r'.length
  rw [List.length_map] at hlen hz
  refine sortedA pl (by omega) hi (by omega) fun out ns' a1 a2 a3 => ?_
  obtain ⟨e, he⟩ := sortedAll_at s.heap its out
  refine ⟨.ref (s.heap.objs.size + 1), _, I.laid (t' := s.toks) (fun b o q => sortedAll_old q) (Nat.le_succ _) (show ObjOk X.prog X.w _ _ _ (.lst (ns'.map V.int)) from ⟨by rw [List.length_map, a2.length_eq]; exact hz, out.toList, e, vals_ints a1, by simpa using he⟩), rfl, q _ ns' (I.hok.fresh (Nat.le_succ _)) a2 a3⟩
def rAll (K : PySem.W.Frag) : List V → Hp → VK → Prop := fun xs H Q => ∃ (p : Addr) (bs : List Bool), xs = [.ref p] ∧ SqL K H p (bs.map V.bl) ∧ Q (.bl (bs.all id)) H
theorem bools_of : ∀ {bs : List Bool} {us : List Value}, Vals (bs.map V.bl) us → us = bs.map Value.bool
  | [], us, r => by cases r; rfl
  | b :: bs, us, r => by
    cases r with
    | cons r1 r2 => rw [bools_of r2, show _ = Value.bool b from r1]; rfl
theorem all_range : ∀ bs : List Bool, (List.range bs.length).all (fun i => bs.getD i true) = bs.all id := by
  intro bs
  rw [Bool.eq_iff_iff, List.all_eq_true, List.all_eq_true]
  constructor
  · intro h x hx
    obtain ⟨i, hi, rfl⟩ := List.getElem_of_mem hx
    have := h i (List.mem_range.mpr hi)
    rwa [List.getD_eq_getElem?_getD, List.getElem?_eq_getElem hi] at this
  · intro h i hi
    have hi' := List.mem_range.mp hi
    rw [List.getD_eq_getElem?_getD, List.getElem?_eq_getElem hi']
    exact h _ (List.getElem_mem hi')
theorem cAll (hc : X.calm = true) : CallR X (.builtin "all") (rAll X.K) := by
  intro pins s σ H xs us Q I r h
  obtain ⟨p, bs, rfl, hq, q⟩ := h
  obtain ⟨u, rfl, rx⟩ := vals1 r
  cases rx
  obtain ⟨its, r', pl, hz⟩ := I.list hq
  have e := bools_of r'
  subst e
  refine call_all_walk (wpAny_pyIter_list pl.isList ?_)
  have ne : p ≠ s.heap.objs.size := by obtain ⟨_, e, _⟩ := pl.isList; exact Nat.ne_of_lt (Heap.lt_size e)
  refine ⟨s.heap.objs.size, _, _, _, _, _, fun i => bs.getD i true, rfl, Walks.list (A := X.A.in1) (I.ok.hd hc) _ p ne (bs.map Value.bool).toArray, ⟨⟨_, Heap.get?_push_size _ rfl, rfl, rfl⟩, Heap.IsList.push pl.isList _⟩, fun i v s' Q' E' hv hQ => ?_, fun h' tk hk => ?_⟩
  · have hv' : (bs.map Value.bool)[i]? = some v := by simpa using hv
    rw [List.getElem?_map] at hv'
    cases e : bs[i]? with
    | none => rw [e] at hv'; cases hv'
    | some b =>
      rw [e] at hv'
      cases hv'
      refine wpAny_truthy_bool ?_
      have : bs.getD i true = b := by rw [List.getD_eq_getElem?_getD, e]; rfl
      have hQ' : Q' (bs.getD i true) s' := hQ
      rw [this] at hQ'
      exact hQ'
  · refine ⟨.bl (bs.all id), H, I.kept (t' := tk) fun b o q => hk b o (by simp; exact Nat.ne_of_lt (Heap.lt_size q)) (Heap.get?_push_of_some _ q), ?_, q⟩
    show Value.bool _ = Value.bool _
    rw [← all_range bs]
    simp
end
mutual
def D.py : D → PyData
  | .non => .none | .bl b => .bool b | .int i => .int i | .str x => .str x | .tup l => .tuple (D.pyL l) | .lst l => .list (D.pyL l) | .dct => .dict []
def D.pyL : List D → List PyData
  | [] => []
  | d :: r => d.py :: D.pyL r
def D.eqOk : D → Bool
  | .str x => PyData.strOk x
  | .tup l => D.eqOkL l
  | .lst l => D.eqOkL l
  | .dct => false
  | _ => true
def D.eqOkL : List D → Bool
  | [] => true
  | d :: r => d.eqOk && D.eqOkL r
end
mutual
theorem D.canLay : ∀ d : D, d.eqOk = true → d.py.canLay0 = true
  | .non, _ => by simp [D.py, PyData.canLay0]
  | .bl _, _ => by simp [D.py, PyData.canLay0]
  | .int _, _ => by simp [D.py, PyData.canLay0]
  | .str x, h => by simp only [D.eqOk] at h; simpa [D.py, PyData.canLay0] using h
  | .tup l, h => by simp only [D.eqOk] at h; simpa [D.py, PyData.canLay0] using D.canLayL l h
  | .lst l, h => by simp only [D.eqOk] at h; simpa [D.py, PyData.canLay0] using D.canLayL l h
  | .dct, h => by simp [D.eqOk] at h
theorem D.canLayL : ∀ l : List D, D.eqOkL l = true → PyData.canLayAll0 (D.pyL l) = true
  | [], _ => by simp [D.pyL, PyData.canLayAll0]
  | d :: r, h => by
    simp only [D.eqOkL, Bool.and_eq_true] at h
    simp [D.pyL, PyData.canLayAll0, D.canLay d h.1, D.canLayL r h.2]
theorem D.pyDepth : ∀ d : D, d.py.depth ≤ d.depth + 1
  | .non => by simp [D.py, PyData.depth]
  | .bl _ => by simp [D.py, PyData.depth]
  | .int _ => by simp [D.py, PyData.depth]
  | .str _ => by simp [D.py, PyData.depth]
  | .tup l => by have := D.pyDepthL l; simp only [D.py, PyData.depth, D.depth]; omega
  | .lst l => by have := D.pyDepthL l; simp only [D.py, PyData.depth, D.depth]; omega
  | .dct => by simp [D.py, PyData.depth, PyData.depthKv, D.depth]
theorem D.pyDepthL : ∀ l : List D, PyData.depthAll (D.pyL l) ≤ D.depthL l + 1
  | [] => by simp [D.pyL, PyData.depthAll]
  | d :: r => by have a := D.pyDepth d; have b := D.pyDepthL r; simp only [D.pyL, PyData.depthAll, D.depthL]; omega
end
section
variable {X : Cx} {pins : List (Addr × Obj)} {σ : St} {H : Hp} {s : Shared}
mutual
theorem reads_of (I : Inv X pins σ H s) : ∀ (d : D) {v : V} {u : Value}, Rep H d v → RelV v u → d.eqOk = true → ∃ as, Reads s.heap u d.py as
  | .non, v, u, h, r, _ => by unfold Rep at h; subst h; cases (show u = Value.none from r); exact ⟨_, .none⟩
  | .bl b, v, u, h, r, _ => by unfold Rep at h; subst h; cases (show u = Value.bool b from r); exact ⟨_, .bool b⟩
  | .int i, v, u, h, r, _ => by unfold Rep at h; subst h; obtain ⟨t, rfl⟩ := r; exact ⟨_, .int i t⟩
  | .str x, v, u, h, r, _ => by unfold Rep at h; subst h; obtain ⟨t, rfl⟩ := r; exact ⟨_, .str x t⟩
  | .tup l, v, u, h, r, ok => by
    unfold Rep at h
    obtain ⟨p, xs, rfl, hp, hl⟩ := h
    cases (show u = Value.ref p from r)
    obtain ⟨its, rv, ht, hz⟩ := I.tuple (SqT.of (K := X.K) hp)
    obtain ⟨as, ra⟩ := readsL_of I l hl rv (by simpa [D.eqOk] using ok)
    obtain ⟨o, e, c, n, dt⟩ := ht
    exact ⟨as, .tuple e c dt (by simpa using ra)⟩
  | .lst l, v, u, h, r, ok => by
    unfold Rep at h
    obtain ⟨p, xs, rfl, hp, hl⟩ := h
    cases (show u = Value.ref p from r)
    obtain ⟨its, rv, ht, hz⟩ := I.list (SqL.of (K := X.K) hp)
    obtain ⟨as, ra⟩ := readsL_of I l hl rv (by simpa [D.eqOk] using ok)
    obtain ⟨o, e, c, n, dt⟩ := ht.isList
    exact ⟨_, .list e c dt (by simpa using ra)⟩
  | .dct, v, u, h, r, ok => by simp [D.eqOk] at ok
theorem readsL_of (I : Inv X pins σ H s) : ∀ (l : List D) {vs : List V} {us : List Value}, RepL H l vs → Vals vs us → D.eqOkL l = true → ∃ as, ReadsAll s.heap us (D.pyL l) as
  | [], vs, us, h, r, _ => by unfold RepL at h; subst h; cases r; exact ⟨_, .nil⟩
  | d :: l, vs, us, h, r, ok => by
    unfold RepL at h
    obtain ⟨x, t, rfl, hd, hl⟩ := h
    simp only [D.eqOkL, Bool.and_eq_true] at ok
    cases r with
    | cons r1 r2 =>
      obtain ⟨as, a1⟩ := reads_of I d hd r1 ok.1
      obtain ⟨bs, b1⟩ := readsL_of I l hl r2 ok.2
      exact ⟨_, .cons a1 b1⟩
end
def eqD (a b : D) : Bool := PyData.eqv a.py b.py
def rEqD (neg : Bool) : R2 := fun x y H Q => ∃ a b, Rep H a x ∧ Rep H b y ∧ a.eqOk = true ∧ b.eqOk = true ∧ a.depth ≤ 20 ∧ Q (.bl (if neg then !eqD a b else eqD a b)) H
def rEqU : R2 := fun x y H Q => rEq x y H Q ∨ rEqD false x y H Q
def rNeU : R2 := fun x y H Q => rNe x y H Q ∨ rEqD true x y H Q
theorem op_eqD {k : Nat} (hr : Room k X.A) : OpR X (compareOp .Eq) (rEqD false) := by
  intro pins s σ H x y v u Q I rx ry h
  obtain ⟨a, b, ha, hb, oa, ob, hd, q⟩ := h
  obtain ⟨as, r1⟩ := reads_of I a ha rx oa
  obtain ⟨bs, r2⟩ := reads_of I b hb ry ob
  have h1 := D.pyDepth a
  exact SeqAt.compareEq_reads r1 r2 (D.canLay a oa) (D.canLay b ob) (by have := hr.units; omega) ⟨.bl (eqD a b), H, I, rfl, q⟩
theorem oEq {k : Nat} (hr : Room k X.A) : OpR X (compareOp .Eq) rEqU := op_eq.or (op_eqD hr)
end
section
variable {X : Cx}
def rCatT2 (K : PySem.W.Frag) : R2 := fun x y H Q => ∃ a b xs ys, x = .ref a ∧ y = .ref b ∧ SqT K H a xs ∧ SqT K H b ys ∧ xs.length + ys.length ≤ 1000000 ∧
  (xs = [] → Q (.ref b) H) ∧ (xs ≠ [] → ys = [] → Q (.ref a) H) ∧ (xs ≠ [] → ys ≠ [] → ∀ p, H p = none → Q (.ref p) (upd H p (.tup (xs ++ ys))))
theorem op_catT2 : OpR X (binaryOp .Add) (rCatT2 X.K) := by
  intro pins s σ H x y v u Q I rx ry h
  obtain ⟨a, b, xs, ys, rfl, rfl, ha, hb, hl, q0, q1, q2⟩ := h
  cases rx
  cases ry
  obtain ⟨is1, r1, t1, z1⟩ := I.tuple ha
  obtain ⟨is2, r2, t2, z2⟩ := I.tuple hb
  have l1 := r1.length
  have l2 := r2.length
  have hz : is1.length + is2.length ≤ sizeLine := by rw [sizeLine_eq]; omega
  by_cases e : is1 = []
  · subst e
    have ex : xs = [] := List.length_eq_zero_iff.mp (by simpa using l1)
    obtain ⟨⟨cls, dd, data, sl⟩, ho, hc, n, hd⟩ := id t1
    obtain ⟨⟨cls2, dd2, data2, sl2⟩, ho2, hc2, n2, hd2⟩ := id t2
    simp only at hc hd hc2 hd2
    subst hc hd hc2 hd2
    exact concat_meets ⟨_, ho, rfl⟩ ⟨_, ho2, rfl⟩ noFill_tuple_add seq_tuple_add PySem.F.slot_tuple_add PySem.F.entry_tuple_add (PySem.F.args_tuple_add_2 _ _)
      (tuple_addW0 a b _ is2.toArray n n2 dd dd2 sl sl2 (by simp)) ⟨ho, ho2, ⟨.ref b, H, I, rfl, q0 ex⟩⟩
  · have ex : xs ≠ [] := fun z => e (List.length_eq_zero_iff.mp (by rw [← l1, z]; rfl))
    refine HT.cat_tup t1 t2 e (fun w => ⟨.ref a, H, I, rfl, q1 ex (List.length_eq_zero_iff.mp (by rw [l2, w]; rfl))⟩) (fun w => ?_) hz
    have ey : ys ≠ [] := fun z => w (List.length_eq_zero_iff.mp (by rw [← l2, z]; rfl))
    refine ⟨.ref s.heap.objs.size, _, I.laid (t' := s.toks) (fun b o e => Heap.get?_push_of_some _ e) (Nat.le_refl _) (show ObjOk X.prog X.w _ _ _ (.tup (xs ++ ys)) from ⟨by rw [List.length_append]; omega, is1 ++ is2, r1.append r2, TupN.new _ _⟩), rfl, q2 ex ey _ (I.hok.fresh (Nat.le_refl _))⟩
def rAddV (K : PySem.W.Frag) : R2 := fun x y H Q => (rI0 (fun i j => .int (i + j)) x y H Q ∨ rCat x y H Q) ∨ rCatT2 K x y H Q
theorem oAddV : OpR X (binaryOp .Add) (rAddV X.K) := (op_add.or op_cat).or op_catT2
end
section
variable {K : PySem.W.Frag} {σ : St} {H : Hp} {Q : VK} {D : Ends}
theorem r_addV {i j : Int} (q : Q (.int (i + j)) H) : rAddV K (.int i) (.int j) H Q := .inl (.inl ⟨i, j, rfl, rfl, q⟩)
theorem r_catL {l b : Addr} {xs zs : List V} (h1 : H l = some (.lst xs)) (h2 : H b = some (.lst zs)) (hl : xs.length + zs.length ≤ 1000000) (q : ∀ p H', H p = none → H' p = some (.lst (xs ++ zs)) → Ext H H' → Q (.ref p) H') : rAddV K (.ref l) (.ref b) H Q :=
  .inl (.inr ⟨l, b, xs, zs, rfl, rfl, h1, h2, Nat.le_trans hl (by rw [sizeLine_eq]; decide), fun p n => q p _ n upd_same (ext_upd n)⟩)
theorem r_sl {r : V → Option Int → Option Int → Hp → VK → Prop} {te : TE} {tl th : TO} (q : te σ H fun x H1 => tl σ H1 fun l H2 => th σ H2 fun u H3 => r x l u H3 Q) : tSl r te tl th σ H Q := q
theorem r_nopart {R : Option Int → Hp → Prop} (q : R none H) : tNoPart σ H R := q
def rPart (x : V) (R : Option Int → Hp → Prop) (H : Hp) : Prop := ∃ i, x = .int i ∧ R (some i) H
theorem r_part {te : TE} {R : Option Int → Hp → Prop} (q : te σ H fun x H1 => rPart x R H1) : tPart te σ H R := q
theorem r_partI {i : Int} {R : Option Int → Hp → Prop} (q : R (some i) H) : rPart (.int i) R H := ⟨i, rfl, q⟩
theorem r_slL {p : Addr} {xs : List V} {lo hi : Option Int} (h : H p = some (.lst xs)) (q : ∀ l H', H l = none → H' l = some (.lst (cutV xs lo hi)) → Ext H H' → Q (.ref l) H') : rSlU K (.ref p) lo hi H Q := .inr ⟨p, xs, rfl, SqL.of h, fun l n => q l _ n upd_same (ext_upd n)⟩
theorem r_zip2 {ta : TA} {R : It → Hp → Prop} (q : ta σ H fun vs H1 => ∃ p q xs ys c d, vs = [.ref p, .ref q] ∧ SqE K H1 p xs c ∧ SqE K H1 q ys d ∧ R (Itz2 K c d p q) H1) : iZip2 K ta σ H R := q
theorem r_enum {ta : TA} {R : It → Hp → Prop} (q : ta σ H fun vs H1 => ∃ p xs c, vs = [.ref p] ∧ SqE K H1 p xs c ∧ R (Ite2 K c p) H1) : iEnum K ta σ H R := q
theorem r_sortedL {p : Addr} {ns : List Int} (h : H p = some (.lst (ns.map V.int))) (hl : ns.length < 64) (q : ∀ l (ns' : List Int) H', H l = none → ns'.Perm ns → ns'.Pairwise (· ≤ ·) → H' l = some (.lst (ns'.map V.int)) → Ext H H' → Q (.ref l) H') : rSorted K [.ref p] H Q :=
  ⟨p, ns, false, rfl, SqL.of h, hl, fun l ns' n a b => q l ns' _ n a b upd_same (ext_upd n)⟩
theorem r_sortedT {p : Addr} {ns : List Int} (h : H p = some (.tup (ns.map V.int))) (hl : ns.length < 64) (q : ∀ l (ns' : List Int) H', H l = none → ns'.Perm ns → ns'.Pairwise (· ≤ ·) → H' l = some (.lst (ns'.map V.int)) → Ext H H' → Q (.ref l) H') : rSorted K [.ref p] H Q :=
  ⟨p, ns, true, rfl, SqT.of h, hl, fun l ns' n a b => q l ns' _ n a b upd_same (ext_upd n)⟩
theorem r_all {p : Addr} {bs : List Bool} (h : H p = some (.lst (bs.map V.bl))) (q : Q (.bl (bs.all id)) H) : rAll K [.ref p] H Q := ⟨p, bs, rfl, SqL.of h, q⟩
theorem r_eqUI {i j : Int} (q : Q (.bl (decide (i = j))) H) : rEqU (.int i) (.int j) H Q := .inl (r_eqI q)
theorem r_eqUS {i j : Str} (q : Q (.bl (decide (i = j))) H) : rEqU (.str i) (.str j) H Q := .inl (r_eqS q)
theorem r_eqD {x y : V} {a b : L2.D} (ha : Rep H a x) (hb : Rep H b y) (oa : a.eqOk = true) (ob : b.eqOk = true) (hd : a.depth ≤ 20) (q : Q (.bl (eqD a b)) H) : rEqU x y H Q := .inr ⟨a, b, ha, hb, oa, ob, hd, q⟩
theorem r_inT {p : Addr} {x : V} {xs : List V} (h : H p = some (.tup xs)) (fx : flatV x = true) (fl : xs.all flatV = true) (q : Q (.bl (inV x xs)) H) : rInU K false x (.ref p) H Q := ⟨p, xs, rfl, .inr (SqT.of h), fx, fl, q⟩
theorem r_tests0 {te : TE} {Y : V → Hp → Prop} {N : Hp → Prop} (q : te σ H Y) : tTests [] σ H fun b H3 => if b = true then te σ H3 Y else N H3 := by
  show (if true = true then te σ H Y else N H)
  rw [if_pos rfl]
  exact q
theorem r_tests1 {t : TT} {R : Bool → Hp → Prop} (q : t σ H fun b H1 => if b = true then R true H1 else R false H1) : tTests [t] σ H R := q
end
theorem eqv_ints : ∀ ns ms : List Int, PyData.eqvAll (D.pyL (ns.map D.int)) (D.pyL (ms.map D.int)) = decide (ns = ms)
  | [], [] => by simp [D.pyL, PyData.eqvAll]
  | [], _ :: _ => by simp [D.pyL, PyData.eqvAll]
  | _ :: _, [] => by simp [D.pyL, PyData.eqvAll]
  | a :: r, b :: t => by
    simp only [List.map_cons, D.pyL, PyData.eqvAll, D.py, PyData.eqv, eqv_ints r t]
    rw [Bool.eq_iff_iff]
    simp
theorem eqD_ints_l (ns ms : List Int) : eqD (.lst (ns.map D.int)) (.lst (ms.map D.int)) = decide (ns = ms) := by
  unfold eqD; simp only [D.py, PyData.eqv]; exact eqv_ints ns ms
theorem eqOk_ints (ns : List Int) : D.eqOkL (ns.map D.int) = true := by
  induction ns with
  | nil => rfl
  | cons n r ih => show (D.eqOk (.int n) && D.eqOkL (r.map D.int)) = true; rw [ih]; rfl
theorem Rep.tupInts {H : Hp} {p : Addr} {ns : List Int} (h : H p = some (.tup (ns.map V.int))) : Rep H (.tup (ns.map D.int)) (.ref p) := Rep.tupI h (RepL.ints ns)
theorem Rep.lstInts {H : Hp} {p : Addr} {ns : List Int} (h : H p = some (.lst (ns.map V.int))) : Rep H (.lst (ns.map D.int)) (.ref p) := Rep.lstI h (RepL.ints ns)
theorem r_eqLI {H : Hp} {Q : VK} {p q : Addr} {ns ms : List Int} (h1 : H p = some (.lst (ns.map V.int))) (h2 : H q = some (.lst (ms.map V.int))) (k : Q (.bl (decide (ns = ms))) H) : rEqU (.ref p) (.ref q) H Q :=
  r_eqD (Rep.lstInts h1) (Rep.lstInts h2) (eqOk_ints _) (eqOk_ints _) (by show D.depthL _ + 1 ≤ 20; rw [depthL_ints]; decide) (by rw [eqD_ints_l]; exact k)
theorem get_int {ns : List Int} {i : Nat} {x : V} (h : (ns.map V.int)[i]? = some x) : ∃ n, ns[i]? = some n ∧ x = .int n := by
  rw [List.getElem?_map] at h
  cases e : ns[i]? with
  | none => rw [e] at h; cases h
  | some n => rw [e] at h; cases h; exact ⟨n, rfl, rfl⟩
theorem atI_ints {ns : List Int} {k : Int} (h0 : 0 ≤ k) (h1 : k < ns.length) : atI (ns.map V.int) k = some (.int (ns.getD k.toNat 0)) := by
  refine atI_int h0 ?_
  rw [List.getElem?_map, List.getElem?_eq_getElem (by omega), List.getD_eq_getElem?_getD, List.getElem?_eq_getElem (by omega)]
  rfl
theorem sorted_uniq {a b c : List Int} (h1 : a.Perm c) (h2 : b.Perm c) (s1 : a.Pairwise (· ≤ ·)) (s2 : b.Pairwise (· ≤ ·)) : a = b :=
  List.Perm.eq_of_pairwise (fun x y _ _ h1 h2 => Int.le_antisymm h1 h2) s1 s2 (h1.trans h2.symm)
section
variable {X : Cx}
def mn : List Int → Int
  | [] => 0
  | [x] => x
  | x :: y :: r => min x (mn (y :: r))
end
structure FunD (K : PySem.W.Frag) (x qual : Str) (st : Stmt) (f : Addr) (fd : FuncData) (ds : List Value) : Prop where
  ex : ∃ (oc : Value) (od : Option Addr) (T : Addr) (kV doc pm : Value) (an : Option Addr) (cdv ct : Value) (osl : Array (Option Value)) (tc : Value) (td : Option Addr) (tn : Nat) (tsl : Array (Option Value)),
    fd = PySem.W.fnOf x qual (defArgs st) (defBody st) (defScope st) (.ref T) kV doc pm an cdv ct ∧ K.lookup f = some ⟨oc, od, .func fd, osl⟩ ∧ PySem.W.codeIn K cdv qual = true ∧ K.lookup T = some ⟨tc, td, .seq ds.toArray tn, tsl⟩
  kp : PySem.W.keepIn K (.ref f) = true
section
variable {P : Program} {w : World} {K : PySem.W.Frag} {mg : Str → Option Value} {base : Heap} {ds : List Value}
theorem FunD.okU {x qual : Str} {st : Stmt} {f : Addr} {fd : FuncData} {N ps : List Str} {k : Nat} {sp : Sp} (F : FunD K x qual st f fd ds) (S : FnScope N ps (defScope st)) (len : ∀ vs H Q E, sp vs H Q E → vs.length = ps.length)
    (hbody : ∀ (cdv : Value) (A : Around) (outer : List Env) (s : Shared) (H : Hp) (vs : List V) (Q : VK) (E : XK), Room k (A.deeper (envOfC qual (defScope st) s.heap.objs.size f cdv)) → sp vs H Q E →
      ∃ t, PSs (cxOf (CXU P w) P w K mg base N qual (defScope st) f cdv A outer s H E).nox (defBody st) t ∧ t { nx := fun _ H' => Q .non H', rt := Q } (start N vs) H) : FnOk P w K mg base (CXU P w) (k + 1) f fd ps sp := by
  obtain ⟨oc, od, T, kV, doc, pm, an, cdv, ct, osl, tc, td, tn, tsl, rfl, lk, hcd, _⟩ := F.ex
  refine fn_of lk hcd S len fun A outer s H vs Q E hr hsp => ?_
  obtain ⟨t, h, q⟩ := hbody cdv A outer s H vs Q E hr hsp
  exact ⟨t, h.nox, q⟩
theorem FunD.binds {x qual : Str} {st : Stmt} {f : Addr} {fd : FuncData} {ps : List Str} {es : List Value} (F : FunD K x qual st f fd ds)
    (h : ∀ (T : Addr) (kV doc pm : Value) (an : Option Addr) (cdv ct : Value) (us : List Value), (us ++ es).length = ps.length → ∃ k : Option (Array Value) → Sem (List (Str × Value)), bindArgs (PySem.W.fnOf x qual (defArgs st) (defBody st) (defScope st) (.ref T) kV doc pm an cdv ct) ⟨us, []⟩ = (seqItems? (.ref T) >>= k) ∧ k (some ds.toArray) = pure (ps.zip (us ++ es))) : Binds K fd ps es := by
  obtain ⟨oc, od, T, kV, doc, pm, an, cdv, ct, osl, tc, td, tn, tsl, rfl, lk, hcd, hT⟩ := F.ex
  intro s us KX hl
  obtain ⟨k, h1, h2⟩ := h T kV doc pm an cdv ct us hl
  exact PySem.W.binds_K (T := T) KX rfl hT rfl h1 h2
theorem funD_mk {x qual : Str} {st : Stmt} {f T : Addr} {oc tc : Value} {od an td : Option Addr} {osl tsl : Array (Option Value)} {tn : Nat} {kV doc pm cdv ct : Value} (l : K.lookup f = some ⟨oc, od, .func (PySem.W.fnOf x qual (defArgs st) (defBody st) (defScope st) (.ref T) kV doc pm an cdv ct), osl⟩)
    (c : PySem.W.codeIn K cdv qual = true) (k : PySem.W.keepIn K (.ref f) = true) (t : K.lookup T = some ⟨tc, td, .seq ds.toArray tn, tsl⟩) : FunD K x qual st f (PySem.W.fnOf x qual (defArgs st) (defBody st) (defScope st) (.ref T) kV doc pm an cdv ct) ds :=
  ⟨⟨oc, od, T, kV, doc, pm, an, cdv, ct, osl, tc, td, tn, tsl, rfl, l, c, t⟩, k⟩
end
structure IsC (K : PySem.W.Frag) (C B : Addr) : Prop where
  ha : PySem.W.findIn K (.ref C) "__class__" = some (some (.builtin "object.__class__"))
  hn : PySem.W.specialIn K (.builtin "object.__class__") "__get__" = some (some (.builtin "getset_descriptor.__get__"))
  htk : PySem.W.takesIn K (.builtin "object.__class__") = some true
  hm : PySem.W.mroIn K C (.type "object") = some true
  ki : PySem.W.kitOne K (.ref C) (.ref B) = some true
theorem get_src {α : Type} {src : α → V} {l : List α} {i : Nat} {x : V} (h : (l.map src)[i]? = some x) : ∃ y, l[i]? = some y ∧ x = src y := by
  rw [List.getElem?_map] at h
  cases e : l[i]? with
  | none => rw [e] at h; cases h
  | some n => rw [e] at h; cases h; exact ⟨n, rfl, rfl⟩
section
variable {K : PySem.W.Frag} {α β γ : Type} {te : TE} {acc : Addr} {fr : St} {H1 : Hp} {R : Hp → Prop}
theorem comp_mapL (src : α → V) (mk : β → V) (f : α → β) {a : Addr} {u : Option V} {l : List α} (hx : SqL K H1 a (l.map src)) (hz : l.length ≤ 1000000) (hn : H1 acc = none)
    (turn : ∀ (i : Nat) x H (Y : V → Hp → Prop), l[i]? = some x → Ext H1 H → (∀ H', Ext H H' → Y (mk (f x)) H') → te (some (src x) :: fr) H Y)
    (fin : ∀ H, Ext H1 H → H acc = some (.lst ((l.map f).map mk)) → R H) : rComp (Itl K a) (gName 0) [] te acc (u :: fr) H1 R := by
  refine comp_list hx (by rw [List.length_map]; exact hz) hn (fun j ys _ => ys = ((l.take j).map f).map mk) (by simp) (fun _ _ _ _ _ h => h) (fun j ys H _ h => by rw [h]; simp; omega) ?_ ?_
  · intro j y ys H hy e h Y N hY hN
    obtain ⟨y, ey, rfl⟩ := get_src hy
    refine r_tests0 (turn j y H Y ey e fun H' e' => hY _ _ e' ?_)
    rw [List.take_add_one, ey, h]
    simp
  · intro ys H e ha h
    refine fin H e ?_
    rw [ha, h, List.length_map, List.take_of_length_le (Nat.le_refl _)]
theorem comp_mapT (src : α → V) (mk : β → V) (f : α → β) {a : Addr} {u : Option V} {l : List α} (hx : SqT K H1 a (l.map src)) (hz : l.length ≤ 1000000) (hn : H1 acc = none)
    (turn : ∀ (i : Nat) x H (Y : V → Hp → Prop), l[i]? = some x → Ext H1 H → (∀ H', Ext H H' → Y (mk (f x)) H') → te (some (src x) :: fr) H Y)
    (fin : ∀ H, Ext H1 H → H acc = some (.lst ((l.map f).map mk)) → R H) : rComp (Itt K a) (gName 0) [] te acc (u :: fr) H1 R := by
  refine comp_tup hx (by rw [List.length_map]; exact hz) hn (fun j ys _ => ys = ((l.take j).map f).map mk) (by simp) (fun _ _ _ _ _ h => h) (fun j ys H _ h => by rw [h]; simp; omega) ?_ ?_
  · intro j y ys H hy e h Y N hY hN
    obtain ⟨y, ey, rfl⟩ := get_src hy
    refine r_tests0 (turn j y H Y ey e fun H' e' => hY _ _ e' ?_)
    rw [List.take_add_one, ey, h]
    simp
  · intro ys H e ha h
    refine fin H e ?_
    rw [ha, h, List.length_map, List.take_of_length_le (Nat.le_refl _)]
theorem comp_mapR (mk : β → V) (f : Nat → β) {n : Nat} {u : Option V} (hz : n ≤ 1000000) (hn : H1 acc = none)
    (turn : ∀ (i : Nat) H (Y : V → Hp → Prop), i < n → Ext H1 H → (∀ H', Ext H H' → Y (mk (f i)) H') → te (some (.int (i : Nat)) :: fr) H Y)
    (fin : ∀ H, Ext H1 H → H acc = some (.lst (((List.range n).map f).map mk)) → R H) : rComp (Itr 0 n) (gName 0) [] te acc (u :: fr) H1 R := by
  refine comp_range hz hn (fun j ys _ => ys = ((List.range j).map f).map mk) rfl (fun _ _ _ _ _ h => h) (fun j ys H _ h => by rw [h]; simp) ?_ ?_
  · intro j ys H hj e h Y N hY hN
    rw [show ((0 : Int) + (j : Nat)) = (j : Nat) by omega]
    refine r_tests0 (turn j H Y hj e fun H' e' => hY _ _ e' ?_)
    rw [List.range_succ, h]
    simp
  · intro ys H e ha h
    refine fin H e ?_
    rw [ha, h]
theorem comp_someR (P : Int → Prop) {n : Nat} {u : Option V} (hz : n ≤ 1000000) (hn : H1 acc = none)
    (turn : ∀ (i : Nat) H (Y : V → Hp → Prop), i < n → Ext H1 H → (∀ x H', P x → Ext H H' → Y (.int x) H') → te (some (.int (i : Nat)) :: fr) H Y)
    (fin : ∀ (xs : List Int) H, xs.length = n → (∀ x ∈ xs, P x) → Ext H1 H → H acc = some (.lst (xs.map V.int)) → R H) : rComp (Itr 0 n) (gName 0) [] te acc (u :: fr) H1 R := by
  refine comp_range hz hn (fun j ys _ => ∃ xs : List Int, ys = xs.map V.int ∧ xs.length = j ∧ ∀ x ∈ xs, P x) ⟨[], rfl, rfl, by simp⟩ (fun _ _ _ _ _ h => h) (fun j ys H _ ⟨xs, h, l, _⟩ => by rw [h, List.length_map]; omega) ?_ ?_
  · rintro j ys H hj e ⟨xs, rfl, hl, hp⟩ Y N hY hN
    rw [show ((0 : Int) + (j : Nat)) = (j : Nat) by omega]
    refine r_tests0 (turn j H Y hj e fun x H' hx e' => hY _ _ e' ⟨xs ++ [x], by simp, by simp [hl], fun y hy => ?_⟩)
    rcases List.mem_append.mp hy with z | z
    · exact hp y z
    · rw [List.mem_singleton.mp z]; exact hx
  · rintro ys H e ha ⟨xs, rfl, hl, hp⟩
    exact fin xs H hl hp e ha
end
section
variable {X : Cx}
open Classical in
theorem op_neD {k : Nat} (hr : Room k X.A) : OpR X (compareOp .NotEq) (rEqD true) := by
  intro pins s σ H x y v u Q I rx ry h
  obtain ⟨a, b, ha, hb, oa, ob, hd, q⟩ := h
  obtain ⟨as, r1⟩ := reads_of I a ha rx oa
  obtain ⟨bs, r2⟩ := reads_of I b hb ry ob
  have h1 := D.pyDepth a
  exact SeqAt.compareNe_reads r1 r2 (D.canLay a oa) (D.canLay b ob) (by have := hr.units; omega) ⟨.bl (!eqD a b), H, I, rfl, q⟩
theorem oNe {k : Nat} (hr : Room k X.A) : OpR X (compareOp .NotEq) rNeU := op_ne.or (op_neD hr)
end
section
variable {K : PySem.W.Frag} {σ : St} {H : Hp} {Q : VK}
theorem r_neUS {i j : Str} (q : Q (.bl (!decide (i = j))) H) : rNeU (.str i) (.str j) H Q := .inl ⟨rfl, by
  rw [show decide (V.str i = V.str j) = decide (i = j) from decide_eq_decide.mpr ⟨fun z => by cases z; rfl, fun z => by rw [z]⟩]; exact q⟩
theorem r_neD {x y : V} {a b : L2.D} (ha : Rep H a x) (hb : Rep H b y) (oa : a.eqOk = true) (ob : b.eqOk = true) (hd : a.depth ≤ 20) (q : Q (.bl (!eqD a b)) H) : rNeU x y H Q := .inr ⟨a, b, ha, hb, oa, ob, hd, q⟩
end
section
variable {X : Cx} {pins : List (Addr × Obj)} {σ : St} {H : Hp} {s : Shared} {h' : Heap} {n : Nat}
open Classical in
theorem Inv.passedN (I : Inv X pins σ H s) (hs : X.s₀.heap.objs.size ≤ n) (hn : ∀ p ∈ X.pn ++ pins, p.1 < n) (u : Pass (frs X.stack) n H s.heap h') : Inv X pins σ H { s with heap := h' } := by
  let ch := (List.range s.heap.objs.size).filter fun b => decide (n ≤ b ∧ H b = none ∧ ∃ o vs, s.heap.get? b = some o ∧ o.data = .fields vs)
  have out : ∀ b o, s.heap.get? b = some o → b ∉ ch → b < n ∨ H b ≠ none ∨ ∀ vs, o.data ≠ .fields vs := fun b o e hb => by
    by_cases h1 : b < n
    · exact .inl h1
    by_cases h2 : H b ≠ none
    · exact .inr (.inl h2)
    refine .inr (.inr fun vs q => hb (List.mem_filter.mpr ⟨List.mem_range.mpr (Heap.lt_size e), decide_eq_true ⟨Nat.le_of_not_lt h1, Classical.not_not.mp h2, o, vs, e, q⟩⟩))
  refine I.call (ch := ch) (g' := s.gens) (d' := s.drawn) (t' := s.toks) ⟨fun b o e z hb hx => u.keep b o e hb (out b o e hx), fun b o e z hb hx => u.slot b o e hb, fun _ _ _ z _ => z, fun b o e _ => u.there b o e, fun _ _ q => q, fun _ _ _ q => q, fun _ ps q => ⟨#[], by rw [q]; simp⟩⟩ (fun b o e => ?_) I.bare fun b hb => ?_
  · refine (I.hok b o e).stay (fun c w hc q => ?_) (fun _ q => q) fun _ _ q => q
    have tr : H c ≠ none := by
      rcases hc with rfl | hc
      · rw [e]; simp
      · rw [hc]; simp
    exact u.keep c w q (fun z => tr (I.stkFree c z)) (.inr (.inl tr))
  · obtain ⟨h1, _, o, vs, e, d⟩ := of_decide_eq_true (List.mem_filter.mp hb).2
    refine ⟨.inr (Nat.le_trans hs h1), fun q => ?_, fun x c hc q => ?_, fun p hp q => ?_⟩
    · subst q
      obtain ⟨m, ⟨o2, es, ep, e2, d2, _⟩, _⟩ := I.loc
      rw [e] at e2; cases e2
      rw [d] at d2; cases d2
    · subst q
      obtain ⟨v, o2, e2, d2⟩ := I.cell x c hc
      rw [e] at e2; cases e2
      rw [d] at d2; cases d2
    · have := hn p hp
      rw [q] at this
      exact absurd h1 (Nat.not_le.mpr this)
theorem Inv.heldN {a : Addr} {C : Value} {dx : Option Addr} {fl : Value} (I : Inv X pins σ H s) (hs : X.s₀.heap.objs.size ≤ n) (hn : ∀ p ∈ X.pn ++ pins, p.1 < n) (er : Err n H s.heap a C dx fl) : Inv X pins σ (upd H a (errH a C dx)) s := by
  obtain ⟨new, un, oe, vs, ea, ec, ed, edat, sz, hd⟩ := er
  have keep : ∀ c u, H c = some u → upd H a (errH a C dx) c = some u := fun c u q => by
    rw [upd_ne fun z => by rw [z, un] at q; cases q]; exact q
  have nl : X.env.locals ≠ a := fun q => by
    obtain ⟨m, ⟨o2, es, ep, e2, d2, _⟩, _⟩ := I.loc
    rw [q, ea] at e2; cases e2
    rw [edat] at d2; cases d2
  have nc : ∀ x c, X.env.cells.lookup x = some c → c ≠ a := fun x c hc q => by
    obtain ⟨v, o2, e2, d2⟩ := I.cell x c hc
    rw [q, ea] at e2; cases e2
    rw [edat] at d2; cases d2
  refine ⟨I.ok, I.os, I.bare, ⟨I.base.keep, I.base.slot, fun b o e z hx => ?_, I.base.there, fun b xs q => keep b _ (I.base.tups b xs q), fun b o u q => keep b _ (I.base.frzs b o u q), fun b ps q => ?_⟩,
    I.loc, I.cell, by rw [upd_ne nl]; exact I.free, fun x c h => by rw [upd_ne (nc x c h)]; exact I.freeC x c h, fun p hp => ?_, fun b o e => ?_, I.len⟩
  · rw [upd_ne fun q => ?_]
    · exact I.base.free b o e z hx
    · subst q; exact absurd (Heap.lt_size e) (Nat.not_lt.mpr (Nat.le_trans hs new))
  · obtain ⟨m, e⟩ := I.base.tbls b ps q
    exact ⟨m, keep b _ e⟩
  · obtain ⟨p1, p2, p3, p4, p5⟩ := I.pin p hp
    refine ⟨p1, ?_, p3, p4, p5⟩
    rw [upd_ne fun q => ?_]
    · exact p2
    · have := hn p hp; rw [q] at this; exact absurd new (Nat.not_le.mpr this)
  · by_cases q : b = a
    · subst q
      rw [upd_same] at e
      cases e
      exact ⟨⟨oe, vs, ea, ec, ed, edat⟩, ⟨oe, ea⟩, fun h1 h2 ⟨o, us, z1, z2⟩ k => ⟨o, us, k _ z1, z2⟩⟩
    · rw [upd_ne q] at e
      exact (I.hok b o e).stay (fun c u _ z => z) (fun c z => keep c _ z) fun c xs z => keep c _ z
end
def XP (X : Cx) (pins : List (Addr × Obj)) (σ : St) (E : XK) (e : Value) (s : Shared) : Prop :=
  ∃ n H a C dx, e = .ref a ∧ X.s₀.heap.objs.size ≤ n ∧ (∀ p ∈ X.pn ++ pins, p.1 < n) ∧ Inv X pins σ H s ∧ Err n H s.heap a C dx .none ∧ E C dx H
section
variable {X : Cx} {k : Nat} {f C : Addr} {fd : FuncData} {ps : List Str} {sp : Sp} {dvs : List V} {ds : List Value} {E : XK}
theorem XP.of {pins : List (Addr × Obj)} {σ : St} {H : Hp} {s s' : Shared} {e : Value} (I : Inv X pins σ H s) (h : CXE X.prog X.w X.stack H s E e s') : XP X pins σ E e s' := by
  obtain ⟨a, C, dx, H', rfl, ho, hg, u, hok, er, q⟩ := h
  exact ⟨_, H', a, C, dx, rfl, I.sz, fun p hp => Heap.lt_size (I.pin p hp).1, I.call' (ch := []) ho u hok hg fun b z => absurd z (by simp), er, q⟩
theorem run_fnX {pins : List (Addr × Obj)} {σ : St} {H : Hp} {s : Shared} {Q : VK} {us : List Value} {vs : List V} (F : FnOk X.prog X.w X.K X.mg X.base (CXE X.prog X.w) k f fd ps sp) (hr : Room k X.A) (hb : Binds X.K fd ps ds) (hd : Vals dvs ds)
    (I : Inv X pins σ H s) (r : Vals vs us) (h : sp (vs ++ dvs) H Q E) : wpAny (model X.prog X.w) X.A (call (.ref f) us) (EP X pins σ Q) (XP X pins σ E) s := by
  have r2 : Vals (vs ++ dvs) (us ++ ds) := r.append hd
  have hl : (us ++ ds).length = ps.length := by rw [← r2.length]; exact F.len _ _ _ _ h
  refine wpAny_call (codeAny_mono (F.run X.A X.stack s H ⟨us, []⟩ (us ++ ds) (vs ++ dvs) Q E hr I.env0 (hb s us I.kIn hl) r2 h) fun r s' hq => ?_)
  cases r with
  | error e => exact XP.of I hq
  | ok fl =>
    cases fl with
    | ret u => exact I.after hq
    | next => exact False.elim hq
    | brk => exact False.elim hq
    | cont => exact False.elim hq
end
def PEX (X : Cx) (e : Expr) (t : XK → TE) : Prop := ∀ (pins : List (Addr × Obj)) (s : Shared) (σ : St) (H : Hp) (Q : VK) (E : XK), Inv X pins σ H s → t E σ H Q → wpAny (model X.prog X.w) X.A (eval e X.env) (EP X pins σ Q) (XP X pins σ E) s
def PSX (X : Cx) (st : Stmt) (t : XK → TS) : Prop := ∀ (pins : List (Addr × Obj)) (s : Shared) (σ : St) (H : Hp) (D : Ends) (E : XK), Inv X pins σ H s → t E D σ H → wpAny (model X.prog X.w) X.A (exec st X.env) (SP X pins D) (XP X pins σ E) s
def PSXs (X : Cx) (st : List Stmt) (t : XK → TS) : Prop := ∀ (pins : List (Addr × Obj)) (s : Shared) (σ : St) (H : Hp) (D : Ends) (E : XK), Inv X pins σ H s → t E D σ H → wpAny (model X.prog X.w) X.A (execs st X.env) (SP X pins D) (XP X pins σ E) s
section
variable {X : Cx} {k : Nat} {f C : Addr} {fd : FuncData} {ps : List Str} {sp : Sp} {dvs : List V} {ds : List Value} {x m : Str} {p pos apos : Pos} {e o : Expr} {es : List Expr} {ta : TE} {t : TA}
theorem pa_any {E' : Value → Shared → Prop} (h : PA X.nox es t) (pos : Pos) {pins : List (Addr × Obj)} {s : Shared} {σ : St} {H : Hp} {Q : List V → Hp → Prop} (I : Inv X pins σ H s) (q : t σ H Q) : wpAny (model X.prog X.w) X.A (spliced (backTo pos (starEach es X.env))) (AP X pins σ Q) E' s :=
  wpAny_mono (h pos pins s σ H Q (I.wish _) q) (fun _ _ ⟨v, H', I', r, q⟩ => ⟨v, H', I'.unwish, r, q⟩) fun _ _ z => False.elim z
theorem psx_expr {te : XK → TE} (he : PEX X e te) (hs : swapsWith e none pos.line X.env = pure false := by rfl) : PSX X (.Expr e pos) (fun E => tDrop (te E)) := by
  intro pins s σ H D E I h
  exact wpAny_Expr_any (thn (he pins s σ H _ E I h) fun v s1 ⟨x, H1, I1, r1, q1⟩ => ⟨σ, H1, I1, q1⟩) I.quiet hs
theorem psxs_one {st : Stmt} {ti : XK → TS} (h : PSX X st ti) : PSXs X [st] ti := by
  intro pins s σ H D E I q
  refine wpAny_execs_cons (wpAny_mono (h pins s σ H D E I q) (fun f s1 z => ?_) fun _ _ z => z)
  cases f with
  | next => exact wpAny_execs_nil z
  | brk => exact z
  | cont => exact z
  | ret u => exact z
end
section
variable {M : Model} {A : Around} {E : Value → Shared → Prop} {s : Shared} {n : Nat} {H : Hp} {a : Addr} {C : Value} {dx : Option Addr} {fl : Value}
def Topped (h : Heap) (a : Addr) : Prop := ∃ oe vs T, h.get? a = some oe ∧ oe.data = .fields vs ∧ vs[1]? = some (.ref T)
theorem unmark_err {Q : Unit → Shared → Prop} {fs : List Addr} (x : Err n H s.heap a C dx fl) (nh : Topped s.heap a) (nf : ∀ b o vs, s.heap.get? b = some o → o.data = .fields vs → b ∉ fs)
    (h : ∀ h', Pass fs n H s.heap h' → Err n H h' a C dx .none → Topped h' a → Q () { s with heap := h' }) : wpAny M A (setFlight (.ref a) none) Q E s := by
  obtain ⟨new, un, oe, vs, ea, ec, ed, edat, sz, hd⟩ := x
  obtain ⟨oe2, vs2, T2, ea2, ed2, e12⟩ := nh
  rw [ea] at ea2; cases ea2
  rw [edat] at ed2; cases ed2
  rcases hd with ⟨e0, _⟩ | ⟨T, oT, ts, e1, nT, uT, neT, eT, dT, e3⟩
  · rw [e0] at e12; cases e12
  have h3 : 3 < ts.size := (Array.getElem?_eq_some_iff.mp e3).1
  have ea' : (s.heap.update T (Obj.mapFields (·.setIfInBounds 3 .none))).get? a = some oe := by rw [Heap.get?_update_other _ _ neT]; exact ea
  refine wpAny_setFlight_none ea edat e1 eT dT h3 (h _ ⟨fun b o e _ hb => ?_, fun b o e hb => ?_, fun b o e => ?_⟩ ⟨new, un, oe, vs, ea', ec, ed, edat, sz, .inr ⟨T, _, _, e1, nT, uT, neT, Heap.get?_update_self _ eT (Obj.isFreed_of_fields (mapF_data _ dT)), mapF_data _ dT, by simp [h3]⟩⟩ ⟨oe, vs, T, ea', edat, e1⟩)
  · rw [Heap.get?_update_other _ _ fun q => ?_]
    · exact e
    · subst q
      rw [e] at eT
      cases eT
      rcases hb with hb | hb | hb
      · exact absurd nT (Nat.not_le.mpr hb)
      · exact hb uT
      · exact hb ts dT
  · have q : T ≠ b := fun q => by subst q; exact nf T oT ts eT dT hb
    rw [Heap.get?_update_other _ _ q]
    exact ⟨o.slots, e⟩
  · by_cases q : T = b
    · subst q; exact ⟨_, Heap.get?_update_self _ eT (Obj.isFreed_of_fields (mapF_data _ dT))⟩
    · exact ⟨o, by rw [Heap.get?_update_other _ _ q]; exact e⟩
end
structure Catch (K : PySem.W.Frag) (C L : Addr) : Prop where
  ex : ∃ bm bl, ErrC K C bm ∧ ErrC K L bl ∧ (Value.ref C :: bm).contains (.ref L) = true
theorem exc_hit {M : Model} {A : Around} {E : Value → Shared → Prop} {K : PySem.W.Frag} {C L a : Addr} {s : Shared} {oe : Obj} {Q : Bool → Shared → Prop} (KX : K.In s.heap) (c : Catch K C L) (he : s.heap.get? a = some oe) (hcls : oe.cls = .ref C) (hq : Q true s) :
    wpAny M A (excMatches (.ref a) (.ref L)) Q E s := by
  obtain ⟨bm, bl, ⟨⟨nm, q, N, bs, hdct, sn, sub, ab, col, dd, k0, k1, k2, k3, k5, newId, lk⟩, cb⟩, ⟨⟨nm', q', N', bs', hdct', sn', sub', ab', col', dd', k0', k1', k2', k3', k5', newId', lk'⟩, cb'⟩, hs⟩ := c.ex
  have hC := KX _ _ lk
  have hL := KX _ _ lk'
  have hB : (Value.ref L :: bl).contains (.type "BaseException") = true := by rw [List.contains_cons, cb', Bool.or_true]
  have f := tc_notTuple
  obtain ⟨h, g, d, t, os⟩ := s
  unfold excMatches
  repeat (first | (with_reducible refine wpAny_loadPart_at he ?_; rw [hcls]) | with_reducible refine wpAny_loadPart_at hL ?_ | (with_reducible refine wpAny_isSubtype_exc hL ?_; rw [hB]) | (with_reducible refine wpAny_isSubtype_exc hC ?_; rw [hs]) | wp_step)
  exact hq
section
variable {X : Cx} {pins : List (Addr × Obj)} {σ : St} {H : Hp} {s : Shared}
abbrev Cx.inEx (X : Cx) (a : Addr) : Cx := { X with A := X.A.mark (some (.ref a)), calm := false }
theorem Cx.Ok.inEx (ok : X.Ok) (a : Addr) : (X.inEx a).Ok :=
  ⟨ok.mod, ok.kind, ok.glob, ok.blt, ok.above, ok.inj, ok.has, ok.cab, fun z => Bool.noConfusion z, ok.frames, ok.stk, ok.exf, ok.bs, ok.bsz, ok.noex, ok.exfs, ok.funs, ok.frf⟩
theorem Inv.inEx (I : Inv X pins σ H s) (a : Addr) : Inv (X.inEx a) pins σ H s := ⟨I.ok.inEx a, I.os, I.bare, I.base, I.loc, I.cell, I.free, I.freeC, I.pin, I.hok, I.len⟩
theorem Inv.outEx {a : Addr} (ok : X.Ok) (I : Inv (X.inEx a) pins σ H s) : Inv X pins σ H s := ⟨ok, I.os, I.bare, I.base, I.loc, I.cell, I.free, I.freeC, I.pin, I.hok, I.len⟩
end
open PySem.Builtin PySem.Builtin.ObjectAttr
structure ErrI (K : PySem.W.Frag) (C : Addr) : Prop where
  at_ : ∃ nm q N bs bm sn sub ab col dd k0 k1 k2 k3 k5 newId, K.lookup C = some (excClassObj nm q C N bs bm true sn sub ab col dd k0 k1 k2 k3 k5 newId) ∧ bm.contains (.type "BaseException") = true
  ga : PySem.W.findIn K (.ref C) "__getattribute__" = some (some (.builtin "BaseException.__getattribute__"))
  gh : PySem.W.findIn K (.ref C) "__getattr__" = some none
  ca : PySem.W.findIn K (.ref C) "__class__" = some (some (.builtin "object.__class__"))
  cn : PySem.W.specialIn K (.builtin "object.__class__") "__get__" = some (some (.builtin "getset_descriptor.__get__"))
  ct : PySem.W.takesIn K (.builtin "object.__class__") = some true
  cm : PySem.W.mroIn K C (.type "object") = some true
structure ErrK (K : PySem.W.Frag) (C : Addr) (bm : List Value) (f : Addr) : Prop where
  lk : ∃ nm q N bs sn sub ab col dd k0 k1 k2 k3 k5, K.lookup C = some (excClassObj nm q C N bs bm true sn sub ab col dd k0 k1 k2 k3 k5 "ValueError.__new__")
  init : PySem.W.findIn K (.ref C) "__init__" = some (some (.ref f))
  fn : PySem.W.isFn K (.ref f) = true
  kp : PySem.W.keepIn K (.ref C) = true
  set : PySem.W.findIn K (.ref C) "__setattr__" = some (some (.builtin "object.__setattr__"))
  row : PySem.W.findIn K (.ref C) "row" = some none
  ga : PySem.W.findIn K (.ref C) "__getattribute__" = some (some (.builtin "BaseException.__getattribute__"))
  gh : PySem.W.findIn K (.ref C) "__getattr__" = some none
  ca : PySem.W.findIn K (.ref C) "__class__" = some (some (.builtin "object.__class__"))
  cn : PySem.W.specialIn K (.builtin "object.__class__") "__get__" = some (some (.builtin "getset_descriptor.__get__"))
  ct : PySem.W.takesIn K (.builtin "object.__class__") = some true
  cm : PySem.W.mroIn K C (.type "object") = some true
section
variable {K : PySem.W.Frag} {σ : St} {H : Hp} {Q : VK}
theorem flat_one {α : Type} (x : α) : ∀ k : Nat, (List.replicate k [x]).flatten = List.replicate k x
  | 0 => rfl
  | k + 1 => by rw [List.replicate_succ, List.flatten_cons, flat_one x k, List.replicate_succ]; rfl
theorem r_rep1 {l : Addr} {x : V} {k : Int} (h : H l = some (.lst [x])) (k0 : 0 ≤ k) (k1 : k ≤ 1000000) (q : ∀ p H', H p = none → H' p = some (.lst (List.replicate k.toNat x)) → Ext H H' → Q (.ref p) H') : rRep (.ref l) (.int k) H Q :=
  ⟨l, k, [x], rfl, rfl, h, by omega, by omega, by rw [sizeLine_eq]; show 1 * k.toNat ≤ _; omega, fun p n => q p _ n (by rw [flat_one]; exact upd_same) (ext_upd n)⟩
end
theorem iteTc {c : Bool} {A B : Prop} (h : c = true) (q : A) : if c = true then A else B := by rw [h]; exact iteT q
theorem iteFc {c : Bool} {A B : Prop} (h : c = false) (q : B) : if c = true then A else B := by rw [h]; exact iteF q
structure RoomW (k : Nat) (A : Around) : Prop where
  dp : A.depth + 3 * k + 5 < recursionLimit
  un : A.units + 16 * k + 200 < cLine
structure FnOkW (P : Program) (w : World) (K : PySem.W.Frag) (mg : Str → Option Value) (base : Heap) (CX : CXT) (k : Nat) (f : Addr) (fd : FuncData) (ps : List Str) (sp : Sp) : Prop where
  len : ∀ vs H Q E, sp vs H Q E → vs.length = ps.length
  run : ∀ (A : Around) (outer : List Env) (s : Shared) (H : Hp) (args : Args) (us : List Value) (vs : List V) (Q : VK) (E : XK), RoomW k A → Env0 P w K mg base A outer s H → BindsTo s fd args (ps.zip us) → Vals vs us → sp vs H Q E →
    codeAny (model P w) A (.call (.ref f) args) (CR CX outer P w H s Q E) s
def mulS (x : Str) (n : Nat) : Str := ⟨((List.replicate n x.cps.toList).flatten).toArray⟩
theorem foldA (its : List Nat) : ∀ (k : Nat) (acc : List Nat), List.foldl (fun x1 x2 => x1 ++ x2) acc.toArray (List.replicate k its.toArray) = (acc ++ (List.replicate k its).flatten).toArray
  | 0, acc => by simp
  | k + 1, acc => by
    rw [List.replicate_succ, List.foldl_cons, show acc.toArray ++ its.toArray = (acc ++ its).toArray by simp, foldA its k (acc ++ its), List.replicate_succ, List.flatten_cons, List.append_assoc]
theorem txt_mul (x : Str) (n : Nat) : Txt.mul x n = mulS x n := by
  unfold Txt.mul mulS
  by_cases h1 : (n : Int) < 1
  · have : n = 0 := by omega
    subst this
    rfl
  · rw [if_neg h1]
    by_cases h2 : ((n : Int) == 1 || x.length == 0) = true
    · rw [if_pos h2]
      rw [Bool.or_eq_true, beq_iff_eq, beq_iff_eq] at h2
      rcases h2 with h2 | h2
      · have : n = 1 := by omega
        subst this
        simp
      · have e : x.cps.toList = [] := by
          have : x.cps.toList.length = 0 := h2
          exact List.length_eq_zero_iff.mp this
        have e2 : x.cps = #[] := by rw [← Array.toArray_toList (xs := x.cps), e]
        rw [e]
        have : (List.replicate n ([] : List Nat)).flatten = [] := by simp
        rw [this, ← e2]
    · rw [if_neg h2, Int.toNat_natCast]
      have := foldA x.cps.toList n []
      simp only [Array.toArray_toList, List.nil_append] at this
      rw [← this]
section
variable {X : Cx}
def rAddS : R2 := fun x y H Q => ∃ i j, x = .str i ∧ y = .str j ∧ i.length + j.length ≤ sizeLine ∧ Q (.str (i ++ j)) H
def rAddW (K : PySem.W.Frag) : R2 := fun x y H Q => rAddV K x y H Q ∨ rAddS x y H Q
theorem oAddW : OpR X (binaryOp .Add) (rAddW X.K) := oAddV.or op_add_str
def rMulS : R2 := fun x y H Q => ∃ (i : Str) (k : Int), x = .str i ∧ y = .int k ∧ 0 ≤ k ∧ k ≤ 1000 ∧ i.length ≤ 1000 ∧ Q (.str (mulS i k.toNat)) H
theorem op_mulS : OpR X (binaryOp .Mult) rMulS := by
  intro pins s σ H x y v u Q I rx ry h
  obtain ⟨i, k, rfl, rfl, k0, k1, hl, q⟩ := h
  obtain ⟨t, rfl⟩ := rx
  obtain ⟨t', rfl⟩ := ry
  obtain ⟨n, rfl⟩ : ∃ n : Nat, k = n := ⟨k.toNat, by omega⟩
  rw [Int.toNat_natCast] at q
  refine SB.mul ⟨?_, fun h1 _ => ?_, fun _ _ => ?_⟩ fun t2 tk => ⟨.str (mulS i n), H, I.tok _, ⟨t2, by rw [txt_mul]⟩, q⟩
  · rw [Bool.or_eq_false_iff, decide_eq_false_iff_not, decide_eq_false_iff_not]; omega
  · have h3 : (i.length : Int) * n ≤ 1000000 := by
      have : i.length * n ≤ 1000 * 1000 := Nat.mul_le_mul hl (by omega)
      have := Int.ofNat_le.mpr this
      rw [Int.natCast_mul] at this
      omega
    have h4 : (i.length : Int) ≤ (2 ^ 63 - 1) / n := Int.le_ediv_of_mul_le (by omega) (by omega)
    omega
  · rw [Int.toNat_natCast]
    unfold Builtin.Str.tooLong
    have : i.length * n ≤ 1000 * 1000 := Nat.mul_le_mul hl (by omega)
    rw [decide_eq_false_iff_not, sizeLine_eq]
    omega
def rMulW : R2 := fun x y H Q => rI CMulB (fun i j => .int (i * j)) x y H Q ∨ rMulS x y H Q
theorem oMulW : OpR X (binaryOp .Mult) rMulW := op_mulB.or op_mulS
def rLeS : R2 := fun x y H Q => ∃ i j, x = .str i ∧ y = .str j ∧ Q (.bl (!decide (j.cps.toList < i.cps.toList))) H
theorem op_leS : OpR X (compareOp .LtE) rLeS := by
  intro pins s σ H x y v u Q I rx ry h
  obtain ⟨i, j, rfl, rfl, q⟩ := h
  obtain ⟨t, rfl⟩ := rx
  obtain ⟨t', rfl⟩ := ry
  exact PySem.P.le_str ⟨.bl _, H, I, rfl, q⟩
def rLeW : R2 := fun x y H Q => rI0 (fun i j => .bl (decide (i ≤ j))) x y H Q ∨ rLeS x y H Q
theorem oLeW : OpR X (compareOp .LtE) rLeW := op_le.or op_leS
def rLenW (K : PySem.W.Frag) : List V → Hp → VK → Prop := fun xs H Q => rLen K xs H Q ∨ ∃ z : Str, xs = [.str z] ∧ z.length ≤ sizeLine ∧ Q (.int z.length) H
theorem cLenW : CallR X (.builtin "len") (rLenW X.K) := cLen.or call_len_str
end
def AscS (x : Str) : Prop := x.cps.all (· < 128) = true
def Its (x : Str) : It := ⟨fun i _ => i < x.cps.size, fun i H v H' => H' = H ∧ ∃ c, x.cps[i]? = some c ∧ v = .str ⟨#[c]⟩, fun i _ => x.cps.size ≤ i⟩
theorem turn_str {P : Program} {w : World} {K : PySem.W.Frag} {tg : Expr} (x : Str) (t : Tok) (it : Addr) : Turn P w K tg (Its x) [it] it (fun i h => h.IsStrIter it "str_ascii_iterator" x t i) where
  mem := List.mem_singleton.mpr rfl
  obj := fun i h st b hb => by
    cases List.mem_singleton.mp hb
    obtain ⟨o, e, c, d⟩ := st
    exact ⟨o, e, fun v z => by rw [d] at z; cases z⟩
  keep := fun i h h' st k => let ⟨o, e, r⟩ := st; ⟨o, k it (List.mem_singleton.mpr rfl) o e, r⟩
  item := by
    intro X hP hw hK hc i pins s σ H E I hf st hg
    subst hP hw hK
    have hx : x.cps[i]? = some (x.cps[i]'hg) := Array.getElem?_eq_getElem hg
    obtain ⟨f0, f1, f2, f3, f4, f5⟩ := hf it (List.mem_singleton.mpr rfl)
    refine wpAny_pyNext_ascii_item st hx fun h' st' sb => ?_
    have I1 : Inv X pins σ H { s with heap := h', toks := s.toks + 1 } := I.turned (t' := s.toks + 1) (fun b o hb e => (sb.2 b hb).trans e) f0 f1 f3 f4 f5
    obtain ⟨o, e, c, d⟩ := id st'
    exact ⟨_, rfl, go_of (s := { s with heap := h', toks := s.toks + 1 }) e c d (by decide) ⟨.str ⟨#[x.cps[i]'hg]⟩, H, I1, ⟨_, rfl⟩, ⟨rfl, _, hx, rfl⟩, st', fun b hb => (hf b hb).1⟩⟩
  done := by
    intro X hP hw hK hc i pins s σ H E I hf st hg
    subst hP hw hK
    obtain ⟨f0, f1, f2, f3, f4, f5⟩ := hf it (List.mem_singleton.mpr rfl)
    exact wpAny_pyNext_ascii_end (I.ok.hd hc) st (Array.getElem?_eq_none hg) fun h' eb => ⟨rfl, I.turned (t' := s.toks) (fun b o hb e => eb b o hb e) f0 f1 f3 f4 f5⟩
  self := fun _ _ _ _ _ st h => wpAny_pyIter_striter_ascii st h
section
variable {X : Cx} {tg : Expr}
def iStr (tl : TE) : TI := fun σ H R => tl σ H fun x H1 => ∃ z, x = .str z ∧ AscS z ∧ R (Its z) H1
theorem pi_str {l : Expr} {tl : TE} (hl : PE X l tl) : PI X tg l (iStr tl) := by
  intro pins s σ H R I h
  refine thn (hl pins s σ H _ I h) fun v s1 ⟨x, H1, I1, r1, q1⟩ => ?_
  obtain ⟨z, e, ha, q⟩ := q1
  subst e
  obtain ⟨t, rfl⟩ := r1
  refine wpAny_pyIter_ascii ha ?_
  refine ⟨s1.heap.objs.size, [s1.heap.objs.size], _, _, H1, rfl, I1.kept (t' := s1.toks) fun b o e => Heap.get?_push_of_some _ e, turn_str z t _, ⟨_, Heap.get?_push_size _ rfl, rfl, rfl⟩, fun b hb => ?_, q⟩
  cases List.mem_singleton.mp hb
  exact I1.fpOk (Nat.le_refl _) (I1.hok.fresh (Nat.le_refl _))
end
section
variable {K : PySem.W.Frag} {ts : List TT} {te : TE} {acc : Addr} {fr : St} {H1 : Hp} {R : Hp → Prop}
theorem comp_str {β : Type} (mk : β → V) (f : Nat → β) {x : Str} {u : Option V} (hz : x.cps.size ≤ 1000000) (hn : H1 acc = none)
    (turn : ∀ (i c : Nat) H (Y : V → Hp → Prop), x.cps[i]? = some c → Ext H1 H → (∀ H', Ext H H' → Y (mk (f c)) H') → te (some (.str ⟨#[c]⟩) :: fr) H Y)
    (fin : ∀ H, Ext H1 H → H acc = some (.lst ((x.cps.toList.map f).map mk)) → R H) : rComp (Its x) (gName 0) [] te acc (u :: fr) H1 R := by
  refine comp_gen x.cps.size hz hn (fun σ => ∃ u, σ = u :: fr) (fun j ys _ => ys = ((x.cps.toList.take j).map f).map mk) ⟨u, rfl⟩ (by simp) (fun _ _ _ _ _ h => h) (fun i H hi e => hi) (fun H e => Nat.le_refl _) (fun i ys H _ h => by rw [h]; simp; omega) ?_ ?_
  · rintro i σ ys H v H' G hi e ⟨u, rfl⟩ pv ⟨rfl, c, hc, rfl⟩ hG
    refine hG _ _ ⟨_, rfl⟩ ?_
    intro Y N hY hN
    refine r_tests0 (turn i c _ _ hc e fun H2 e2 => hY _ H2 e2 ?_)
    have hc' : x.cps.toList[i]? = some c := by rw [Array.getElem?_toList]; exact hc
    rw [pv, List.take_add_one, hc']
    simp
  · intro ys H e ha pv
    subst pv
    refine fin H e ?_
    rw [ha, List.take_of_length_le (by rw [Array.length_toList]; exact Nat.le_refl _)]
end
def putS (l : List Str) (x : Str) : List Str := if x ∈ l then l else l ++ [x]
def metS (ss : List Str) : List Str := ss.foldl putS []
theorem metS_snoc (ss : List Str) (x : Str) : metS (ss ++ [x]) = putS (metS ss) x := by unfold metS; rw [List.foldl_append]; rfl
theorem putS_len (l : List Str) (x : Str) : (putS l x).length = if x ∈ l then l.length else l.length + 1 := by unfold putS; split <;> simp
theorem putS_mem (l : List Str) (x y : Str) : y ∈ putS l x ↔ y ∈ l ∨ y = x := by
  unfold putS
  split
  · rename_i h
    exact ⟨.inl, fun z => z.elim id (fun e => by rw [e]; exact h)⟩
  · simp
theorem snocRec {P : List Str → Prop} (h0 : P []) (h1 : ∀ l x, P l → P (l ++ [x])) (l : List Str) : P l := by
  have k : ∀ m : List Str, P m.reverse := fun m => by
    induction m with
    | nil => exact h0
    | cons a r ih => rw [List.reverse_cons]; exact h1 _ _ ih
  have := k l.reverse
  rwa [List.reverse_reverse] at this
theorem metS_le (ss : List Str) : (metS ss).length ≤ ss.length := by
  induction ss using snocRec with
  | h0 => exact Nat.le_refl _
  | h1 l x ih =>
    rw [metS_snoc, putS_len, List.length_append, List.length_singleton]
    split <;> omega
theorem metS_mem (ss : List Str) (y : Str) : y ∈ metS ss ↔ y ∈ ss := by
  induction ss using snocRec with
  | h0 => exact Iff.rfl
  | h1 l x ih => rw [metS_snoc, putS_mem, ih, List.mem_append, List.mem_singleton]
theorem metS_nodup {ss : List Str} (h : ss.Nodup) : (metS ss).length = ss.length := by
  induction ss using snocRec with
  | h0 => rfl
  | h1 l x ih =>
    obtain ⟨h1, h2, h3⟩ := List.nodup_append.mp h
    have nx : x ∉ metS l := fun z => h3 x ((metS_mem l x).mp z) x (List.mem_singleton.mpr rfl) rfl
    rw [metS_snoc, putS_len, if_neg nx, ih h1, List.length_append, List.length_singleton]
section
variable {w : World} {prog : Program} {A : Around}
variable {R : Result → Shared → Prop} {I : Addr} {fp wr : List Addr} {G : Array GenState → Array GenState → Prop} {n : Nat} {P : Nat → Value → Prop} {St : Nat → Shared → Prop}
theorem set_loopS (W : WalksS prog w A.in1 I fp wr G n P St) (S : Addr) (hSf : S ∉ fp) (ss : List Str) (hn : ss.length = n) (hval : ∀ i v, P i v → ∃ x t, ss[i]? = some x ∧ v = .str x t) (hb : n + 1 < scanBound) :
    ∀ (k i : Nat) (s : Shared), n - i = k → i ≤ n → St i s → s.heap.SetOf (PySem.strKind prog w) S (fun x => decide (x ∈ metS (ss.take i))) (metS (ss.take i)).length →
      (∀ s', Moved (S :: wr) G s s' → s'.heap.SetOf (PySem.strKind prog w) S (fun x => decide (x ∈ metS ss)) (metS ss).length → R (.ok (.ret .none)) s') →
      codeAny (model prog w) A (Code.builtin "set.update.loop" ⟨[.ref S, .ref I], []⟩) R s := by
  skip; have hSw : S ∉ wr := fun h => hSf (W.sub _ h)
  have sub2 : ∀ b ∈ wr, b ∈ S :: wr := fun b hb => List.mem_cons_of_mem _ hb
  intro k
  induction k with
  | zero =>
    intro i s hk hi hst hS hR
    obtain rfl : i = n := by omega
    refine codeAny_builtin PyProof.Rows.F.entry_set_update_loop ?_; rw [Around.under_plainId PyProof.Rows.F.plain_set_update_loop _]
    show wpAny _ A.in1 (pyNext (.ref I) >>= _) _ _ s; refine wpAny_bind (W.done s _ _ hst fun s' hm => ?_)
    rw [← hn, List.take_length] at hS
    refine wpAny_pure (hR s' (hm.mono sub2) ?_)
    skip; obtain ⟨o, es, ep, t, ho, rest⟩ := hS
    exact ⟨o, es, ep, t, hm.heap S _ hSw ho, rest⟩
  | succ k ih =>
    intro i s hk hi hst hS hR
    have hlt : i < n := by omega
    refine codeAny_builtin PyProof.Rows.F.entry_set_update_loop ?_; rw [Around.under_plainId PyProof.Rows.F.plain_set_update_loop _]
    show wpAny _ A.in1 (pyNext (.ref I) >>= _) _ _ s; refine wpAny_bind (W.item i s _ _ hlt hst fun v s' hP hst' hm => ?_)
    obtain ⟨x, t, hx, rfl⟩ := hval i v hP
    have hS' : s'.heap.SetOf (PySem.strKind prog w) S (fun x => decide (x ∈ metS (ss.take i))) (metS (ss.take i)).length := by
      skip; obtain ⟨o, es, ep, tb, ho, rest⟩ := hS
      skip; exact ⟨o, es, ep, tb, hm.heap S _ hSw ho, rest⟩
    show wpAny _ A.in1 (holding [Value.str x t] (setAdd S (.str x t)) >>= _) _ _ s'
    refine wpAny_bind (wpAny_holding ?_); unfold setAdd; refine wpAny_holding ?_
    have hkey : (PySem.strKind prog w).is x (.str x t) = true := by simp [PySem.strKind, Value.isStrOf]
    refine wpAny_bind ((PySem.strKind prog w).pyHash (k := x) hkey ?_)
    have le := metS_le (ss.take i)
    rw [List.length_take] at le
    refine wpAny_setAddHashed_of (knd := PySem.strKind prog w) hkey rfl hS' (by omega) fun h' hsb hS2 => ?_
    have et : ss.take (i + 1) = ss.take i ++ [x] := by rw [List.take_add_one, hx]; rfl
    have hSi : h'.SetOf (PySem.strKind prog w) S (fun x => decide (x ∈ metS (ss.take (i + 1)))) (metS (ss.take (i + 1))).length := by
      refine SetOf_congr hS2 (fun y => ?_) ?_
      · rw [et, metS_snoc, decide_eq_decide.mpr (putS_mem _ _ _), Bool.decide_or]
      · rw [et, metS_snoc, putS_len]
        simp
    refine wpAny_pure ⟨plainId_quiet PyProof.Rows.F.plain_set_update_loop _, ih (i + 1) _ (by omega) hlt (W.frame _ s' _ _ hst' (by first | exact Nat.le_succ _ | exact Nat.le_refl _) fun b hb o e => ?_) hSi fun s'' hm'' hS'' => ?_⟩
    · skip; rw [hsb.2 b (fun h : b = S => hSf (by rw [← h]; exact hb))]; exact e
    · refine hR s'' (Moved.trans W.gtrans ((hm.mono sub2).then_heap (by first | exact Nat.le_succ _ | exact Nat.le_refl _) fun b o hb e => ?_) hm'') hS''
      skip; rw [hsb.2 b (fun h : b = S => hb (by rw [h]; exact List.mem_cons_self))]; exact e
end
theorem tup_noset : isSubtype (.type "tuple") (.type "set") = pure false := by rw [isSubtype_type]; kernel_rfl
theorem tup_nofset : isSubtype (.type "tuple") (.type "frozenset") = pure false := by rw [isSubtype_type]; kernel_rfl
abbrev newSet (led : Bool) : Obj := { cls := .type "set", dict := none, data := .set #[] 0 (.fresh 0 0 led) }
section
variable {prog : Program} {w : World} {A : Around} {E : Value → Shared → Prop} {s : Shared}
set_option maxHeartbeats 8000000 in
theorem call_set_tupS {l : Addr} {items : Array Value} {ss : List Str} {Q : Value → Shared → Prop} (hh : A.handled = none) (hl : s.heap.IsTuple l items) (hi : ∀ (i : Nat) (v : Value), items[i]? = some v → ∃ x t, ss[i]? = some x ∧ v = .str x t) (hz : ss.length = items.size) (hb : items.size + 1 < scanBound)
    (h : ∀ (h' : Heap) (tk : Nat), h'.SetOf (PySem.strKind prog w) s.heap.objs.size (fun x => decide (x ∈ metS ss)) (metS ss).length → (∀ b o, b < s.heap.objs.size → s.heap.get? b = some o → h'.get? b = some o) → Q (.ref s.heap.objs.size) { s with heap := h', toks := tk }) :
    wpAny (model prog w) A (call (Value.type "set") [.ref l]) Q E s := by
  obtain ⟨c, tl, hmro⟩ := PySem.F.called_set.mro
  have hmade := PySem.F.called_set.made
  have hsub := PySem.F.called_set.sub
  refine wpAny_call (codeAny_of_tree ?_); show wpAny _ _ (callAny (.type "set") _) _ _ _; refine wpAny_pure ⟨Code.quiet_builtin _ (by decide +kernel), codeAny_builtin PySem.F.entry_type_call ?_⟩
  skip; rw [Around.under_plain (weight_type_call_type "set" [.ref l] []) rfl]
  have h1 := PySem.F.called_set.notType
  have h2 := PySem.F.called_set.canCreate
  have hct := PySem.F.typeCall_set_1 (.ref l)
  skip; repeat (any_goals (first | assumption | wp_step))
  refine codeAny_mono (code_set_new_1 (.ref l) (E := E) (Q₁ := fun obj s₁ => ∃ led : Bool, obj = .ref s.heap.objs.size ∧ s₁ = { s with heap := s.heap.push (newSet led) }) fun led => ⟨led, rfl, rfl⟩) fun r s₁ hr => ?_
  cases r with
  | error e => exact hr
  | ok fl =>
    cases fl with
    | ret obj =>
      obtain ⟨led, rfl, rfl⟩ := hr
      have hS : (s.heap.push (newSet led)).get? s.heap.objs.size = some (newSet led) := Heap.get?_push_size _ rfl
      have hT : Shared.TypeIs { s with heap := s.heap.push (newSet led) } (.ref s.heap.objs.size) "set" := ⟨_, hS, rfl⟩
      have hli := PySem.F.called_set.init.lookup
      have hbi := PySem.F.called_set.init.bind (.ref s.heap.objs.size)
      skip; repeat (any_goals (first | assumption | wp_step))
      refine codeAny_mono (codeAny_call_builtin (R := wants (fun r s₂ => r = .none ∧ ∃ h' tk, s₂ = { s with heap := h', toks := tk } ∧ h'.SetOf (PySem.strKind prog w) s.heap.objs.size (fun x => decide (x ∈ metS ss)) (metS ss).length ∧ (∀ b o, b < s.heap.objs.size → s.heap.get? b = some o → h'.get? b = some o)) E) PySem.F.called_set.init.plain PySem.F.entry_set_init (check_set_init_1 hT ?_)) fun r₂ s₂ hr₂ => ?_
      · obtain ⟨⟨ocls, odict, odata, oslots⟩, hol, hcl, nl, hdl⟩ := hl
        replace hcl : ocls = .type "tuple" := hcl
        replace hdl : odata = .seq items nl := hdl
        subst hcl hdl
        have hol' : (s.heap.push (newSet led)).get? l = some { cls := .type "tuple", dict := odict, data := .seq items nl, slots := oslots } := Heap.get?_push_of_some _ hol
        have hsls := tup_noset
        have hslf := tup_nofset
        have hne : (Value.type "tuple" == Value.type "dict") = false := by decide
        have hl1 : (s.heap.push (newSet led)).IsTuple l items := ⟨_, hol', rfl, nl, rfl⟩
        unfold Builtin.«set.__init__» noKeywords Builtin.Frozenset.updateFrom; generalize hPI : pyIter = PI; wp_walk; subst hPI
        refine wpAny_pyIter_tuple hl1 (wpAny_bind (wpAny_runValue ?_))
        skip; have hlS : l < s.heap.objs.size := Heap.lt_size hol
        have hh3 : A.in1.in1.in1.handled = none := hh
        have hneI : l ≠ (s.heap.push (newSet led)).objs.size := by rw [Heap.size_push]; exact Nat.ne_of_lt (Nat.lt_succ_of_lt hlS)
        have hSf : s.heap.objs.size ∉ [(s.heap.push (newSet led)).objs.size, l] := by
          rw [Heap.size_push]; simp only [List.mem_cons, List.mem_nil_iff, or_false, not_or]
          skip; exact ⟨Nat.ne_of_lt (Nat.lt_succ_self _), Nat.ne_of_gt hlS⟩
        refine set_loopS ((Walks.tuple hh3 _ l hneI items).toS) s.heap.objs.size hSf ss hz hi hb (items.size - 0) 0 _ (by omega) (Nat.zero_le _) ⟨⟨_, Heap.get?_push_size _ rfl, rfl, rfl⟩, ⟨_, Heap.get?_push_of_some _ hol', rfl, nl, rfl⟩⟩ ?hS0 ?hR
        case hS0 =>
          exact SetOf_congr ((setObjOf_fresh (knd := PySem.strKind prog w) led).setOf (Heap.get?_push_of_some _ hS) (by unfold scanBound; omega)) (fun _ => rfl) rfl
        case hR =>
          intro s' hm hS'
          obtain ⟨h', g', d', t', o'⟩ := s'
          skip; have eg : g' = s.gens := hm.gens
          skip; have ed : d' = s.drawn := hm.drawn
          have eo : o' = s.os := hm.os
          subst eg ed eo
          show wpAny _ _ _ _ _ _; refine wpAny_pure ?_; show wpAny _ _ (ret Value.none) _ _ _
          refine wpAny_pure ⟨rfl, h', t', rfl, hS', fun b o hb e => ?_⟩
          have hb2 : b ≠ (s.heap.push (newSet led)).objs.size := by rw [Heap.size_push]; exact Nat.ne_of_lt (Nat.lt_succ_of_lt hb)
          refine hm.heap b o ?_ (Heap.get?_push_of_some _ (Heap.get?_push_of_some _ e))
          simp only [List.mem_cons, List.mem_nil_iff, or_false, not_or]
          exact ⟨Nat.ne_of_lt hb, hb2⟩
      · cases r₂ with
        | error e => exact hr₂
        | ok fl₂ =>
          cases fl₂ with
          | ret r =>
            skip; obtain ⟨rfl, h', tk, rfl, hS', hk'⟩ := hr₂
            skip; repeat (any_goals (first | assumption | wp_step))
            exact h _ _ hS' hk'
          | _ => exact hr₂.elim
    | _ => exact hr.elim
end
theorem strs_at : ∀ {ss : List Str} {us : List Value}, Vals (ss.map V.str) us → ∀ (i : Nat) (v : Value), us[i]? = some v → ∃ x t, ss[i]? = some x ∧ v = .str x t
  | [], us, r, i, v, h => by cases r; simp at h
  | x :: ss, us, r, i, v, h => by
    cases r with
    | cons r1 r2 =>
      cases i with
      | zero =>
        obtain ⟨t, e⟩ := r1
        simp at h
        exact ⟨x, t, rfl, by rw [← h, e]⟩
      | succ i => exact strs_at r2 i v (by simpa using h)
theorem strsAre_of : ∀ {ss : List Str} {us : List Value}, Vals (ss.map V.str) us → StrsAre us ss
  | [], us, r => by cases r; exact .nil
  | x :: ss, us, r => by
    cases r with
    | cons r1 r2 =>
      obtain ⟨t, e⟩ := r1
      subst e
      exact .cons x t (strsAre_of r2)
theorem vals_strs : ∀ {us : List Value} {ss : List Str}, StrsAre us ss → Vals (ss.map V.str) us
  | _, _, .nil => .nil
  | _, _, .cons x t h => .cons ⟨t, rfl⟩ (vals_strs h)
section
variable {X : Cx}
def rLenSet (K : PySem.W.Frag) : List V → Hp → VK → Prop := fun xs H Q => ∃ (p : Addr) (ss : List Str), xs = [.ref p] ∧ SqT K H p (ss.map V.str) ∧ ss.length ≤ 1000 ∧ Q (.int ((metS ss).length : Nat)) H
theorem pe_lenSet {a : Expr} {ta : TA} {p p' pos pos' : Pos} (hc : X.calm = true) (hg : Gl X "len") (hm : X.mg "len" = none) (hg2 : Gl X "set") (hm2 : X.mg "set" = none) (ha : PA X [a] ta) (hs : starEach [a] X.env = [(false, eval a X.env)] := by rfl)
    (ht : starEach [.Call (.Name "set" p') [a] [] pos'] X.env = [(false, eval (.Call (.Name "set" p') [a] [] pos') X.env)] := by rfl) :
    PE X (.Call (.Name "len" p) [.Call (.Name "set" p') [a] [] pos'] [] pos) (tCB (rLenSet X.K) ta) := by
  intro pins s σ H Q I h
  refine wpAny_Call_Name_kw (ld_blt I hg hm PySem.boot_len (PyProof.Rows.callWith_builtin1 ?_ ht rfl) (by decide) (by decide))
  rw [ht]
  show wpAny _ _ (spliced ((false, eval (.Call (.Name "set" p') [a] [] pos') X.env) :: backTo pos [])) _ _ s
  refine Calls.spliced_cons (wpAny_Call_Name_kw (ld_blt I hg2 hm2 boot_set (PyProof.Rows.callWith_type1 (thn (ha pos' pins s σ H _ I h) fun us s1 ⟨vs, H1, I1, r1, q1⟩ => ?_) hs rfl) (by decide) (by decide)))
  obtain ⟨p1, ss, e, hx, hz, q⟩ := q1
  subst e
  obtain ⟨u, rfl, ru⟩ := vals1 r1
  cases ru
  obtain ⟨its, ri, pl, _⟩ := I1.tuple hx
  have hl := ri.length
  rw [List.length_map] at hl
  have le := metS_le ss
  refine call_set_tupS (ss := ss) (I1.ok.hd hc) pl (fun i v hv => strs_at ri i v (by simpa using hv)) (by rw [List.size_toArray]; exact hl) (by rw [List.size_toArray]; unfold scanBound; omega) fun h' tk hS hk => Calls.spliced_nil ?_
  obtain ⟨o, es, ep, t, ho, hex, hd, _, _, _, hf, hn⟩ := hS
  refine call_len_set ho hex hd hf (by omega) ⟨.int ((metS ss).length : Nat), H1, ?_, ⟨_, by rw [hn]⟩, q⟩
  exact I1.kept (t' := tk + 1 + 1) fun b o e => hk b o (Heap.lt_size e) e
theorem r_lenSet {K : PySem.W.Frag} {H : Hp} {Q : VK} {p : Addr} {ss : List Str} (h : H p = some (.tup (ss.map V.str))) (hz : ss.length ≤ 1000) (q : Q (.int ((metS ss).length : Nat)) H) : rLenSet K [.ref p] H Q := ⟨p, ss, rfl, SqT.of h, hz, q⟩
end
section
variable {prog : Program} {w : World} {A : Around} {E : Value → Shared → Prop} {s : Shared}
theorem sortedSA {b : Bool} {l : Addr} {vs : List Value} {ss : List Str} {Q : Value → Shared → Prop} (hl : SqA b s.heap l vs.toArray) (hz : vs.length ≤ sizeLine) (hS : StrsAre vs ss) (h64 : vs.length < 64)
    (h : ∀ (out : Array Value) (ss' : List Str), StrsAre out.toList ss' → ss'.Perm ss → sortedS ss' = true → Q (.ref (s.heap.objs.size + 1)) { s with heap := sortedAll s.heap vs out }) : wpAny (model prog w) A (call (.builtin "sorted") [.ref l]) Q E s := by
  refine Calls.call_function_entry kind_sorted plain_sorted entry_sorted (args_sorted1 _) ?_; unfold Builtin.«sorted»
  refine wpAny_bind (m := checkCount "sorted" 1 1 _) (wpAny_pure (wpAny_bind (collectA hl hz (wpAny_bind (wpAny_newList ?_)))))
  have n1 : ((s.heap.push (seqObj "list" #[] 0)).update s.heap.objs.size (Obj.mapSeq (· ++ vs.toArray))).objs.size = s.heap.objs.size + 1 := by rw [Heap.size_update, size_push']
  have o1 : (((s.heap.push (seqObj "list" #[] 0)).update s.heap.objs.size (Obj.mapSeq (· ++ vs.toArray))).push (seqObj "list" vs.toArray 0)).get? (s.heap.objs.size + 1) = some (seqObj "list" vs.toArray 0) := by rw [← n1]; exact Heap.get?_push_size _ rfl
  show wpAny _ _ _ _ _ { s with heap := ((s.heap.push (seqObj "list" #[] 0)).update s.heap.objs.size (Obj.mapSeq (· ++ vs.toArray))).push (seqObj "list" vs.toArray 0) }; rw [n1]
  refine wpAny_bind (wpAny_holding (wpAny_call_entry slot_list_sort ⟨_, o1, rfl⟩ entry_list_sort (list_sort_treeK strKind_oneLt o1 hS.keysOf (fun v₁ v₂ rest e => keyKind_strs (by rw [← e]; exact hS)) h64 fun st' a1 a2 => ⟨_, rfl, ?_⟩) (args_list_sort _)))
  obtain ⟨ss', e1, e2, e3⟩ := sorted_out_str hS a1 a2
  exact wpAny_pure ⟨_, rfl, h _ ss' e1 e2 e3⟩
end
section
variable {X : Cx}
def rSortS (K : PySem.W.Frag) : List V → Hp → VK → Prop := fun xs H Q => ∃ (p : Addr) (ss : List Str) (c : Bool), xs = [.ref p] ∧ SqE K H p (ss.map V.str) c ∧ ss.length < 64 ∧ ∀ l (ss' : List Str), H l = none → ss'.Perm ss → sortedS ss' = true → Q (.ref l) (upd H l (.lst (ss'.map V.str)))
theorem cSortS : CallR X (.builtin "sorted") (rSortS X.K) := by
  intro pins s σ H xs us Q I r h
  obtain ⟨p, ss, c, rfl, hq, h64, q⟩ := h
  obtain ⟨u, rfl, rx⟩ := vals1 r
  cases rx
  obtain ⟨its, r', pl, hz⟩ := I.sqe hq
  have hlen := r'.length
  rw [List.length_map] at hlen hz
  refine sortedSA pl (by omega) (strsAre_of r') (by omega) fun out ss' a1 a2 a3 => ?_
  obtain ⟨e, he⟩ := sortedAll_at s.heap its out
  refine ⟨.ref (s.heap.objs.size + 1), _, I.laid (t' := s.toks) (fun b o q => sortedAll_old q) (Nat.le_succ _) (show ObjOk X.prog X.w _ _ _ (.lst (ss'.map V.str)) from ⟨by rw [List.length_map, a2.length_eq]; exact hz, out.toList, e, vals_strs a1, by simpa using he⟩), rfl, q _ ss' (I.hok.fresh (Nat.le_succ _)) a2 a3⟩
def rSortW (K : PySem.W.Frag) : List V → Hp → VK → Prop := fun xs H Q => rSorted K xs H Q ∨ rSortS K xs H Q
theorem cSortW : CallR X (.builtin "sorted") (rSortW X.K) := cSorted.or cSortS
end
section
variable {K : PySem.W.Frag} {σ : St} {H : Hp} {Q : VK}
theorem r_addWI {i j : Int} (q : Q (.int (i + j)) H) : rAddW K (.int i) (.int j) H Q := .inl (r_addV q)
theorem r_addWS {i j : Str} (h : i.length + j.length ≤ 1000000) (q : Q (.str (i ++ j)) H) : rAddW K (.str i) (.str j) H Q := .inr ⟨i, j, rfl, rfl, by rw [sizeLine_eq]; omega, q⟩
theorem r_addWL {l b : Addr} {xs zs : List V} (h1 : H l = some (.lst xs)) (h2 : H b = some (.lst zs)) (hl : xs.length + zs.length ≤ 1000000) (q : ∀ p H', H p = none → H' p = some (.lst (xs ++ zs)) → Ext H H' → Q (.ref p) H') : rAddW K (.ref l) (.ref b) H Q := .inl (r_catL h1 h2 hl q)
theorem r_mulWI {i j : Int} (c : CMulB i j) (q : Q (.int (i * j)) H) : rMulW (.int i) (.int j) H Q := .inl (r_I c q)
theorem r_leWI {i j : Int} (q : Q (.bl (decide (i ≤ j))) H) : rLeW (.int i) (.int j) H Q := .inl (r_I0 q)
theorem r_leWS {i j : Str} (q : Q (.bl (!decide (j.cps.toList < i.cps.toList))) H) : rLeW (.str i) (.str j) H Q := .inr ⟨i, j, rfl, rfl, q⟩
theorem r_lenWS {z : Str} (h : z.length ≤ 1000000) (q : Q (.int z.length) H) : rLenW K [.str z] H Q := .inr ⟨z, rfl, by rw [sizeLine_eq]; omega, q⟩
theorem r_lenWL {p : Addr} {xs : List V} (h : H p = some (.lst xs)) (q : Q (.int xs.length) H) : rLenW K [.ref p] H Q := .inl (r_lenL h q)
theorem r_lenWT {p : Addr} {xs : List V} (h : H p = some (.tup xs)) (q : Q (.int xs.length) H) : rLenW K [.ref p] H Q := .inl (r_lenT h q)
theorem r_lenWQ {p : Addr} {xs : List V} (h : SqL K H p xs) (q : Q (.int xs.length) H) : rLenW K [.ref p] H Q := .inl (r_lenS h q)
theorem r_ixS1 {z : Str} {i : Int} {c : Nat} (h : z.length ≤ 1000000) (e : atI z.cps.toList i = some c) (q : Q (.str ⟨#[c]⟩) H) : rIx K (.str z) (.int i) H Q := .inr (.inr ⟨z, i, c, rfl, rfl, by rw [sizeLine_eq]; omega, e, q⟩)
theorem r_sortWT {p : Addr} {ss : List Str} (h : H p = some (.tup (ss.map V.str))) (hl : ss.length < 64) (q : ∀ l (ss' : List Str) H', H l = none → ss'.Perm ss → sortedS ss' = true → H' l = some (.lst (ss'.map V.str)) → Ext H H' → Q (.ref l) H') : rSortW K [.ref p] H Q :=
  .inr ⟨p, ss, true, rfl, SqT.of h, hl, fun l ss' n h1 h2 => q l ss' _ n h1 h2 upd_same (ext_upd n)⟩
theorem r_istr {tl : TE} {R : It → Hp → Prop} (q : tl σ H fun x H1 => ∃ z, x = .str z ∧ AscS z ∧ R (Its z) H1) : iStr tl σ H R := q
end
section
variable {X : Cx}
def tSM (r : V → List V → Hp → VK → Prop) (to : TE) (t : TA) : TE := fun σ H Q => to σ H fun x H1 => (∃ z, x = .str z) ∧ t σ H1 fun vs H2 => r x vs H2 Q
theorem pe_sm {o e : Expr} {es : List Expr} {name : Str} {id : String} {apos cpos : Pos} {r : V → List V → Hp → VK → Prop} {to : TE} {t : TA} (pa : PlainAttrs "str") (slot : Slot "str" name id) (hty : typeOf (.builtin id) = pure (.type "method_descriptor")) (hm : MtM X id r) (ho : PE X o to) (ha : PA X (e :: es) t)
    (hbase : attributeBase o name X.env (eval o X.env) = eval o X.env := by rfl)
    (hfew : ((backTo cpos (starEach (e :: es) X.env)).all (fun x => !x.1) && (backToKw cpos (keywordEach [] X.env)).all (fun x => x.1.isSome)
      && decide ((e :: es).length + ([] : List Keyword).length + (if ([] : List Keyword).isEmpty then 0 else 1) < 30)) = true := by rfl)
    (hline : (apos.endLine == cpos.line) = true := by rfl) (hs : starEach (e :: es) X.env = (false, eval e X.env) :: starEach es X.env := by rfl) (hplain : (backTo cpos (starEach es X.env)).any (·.1) = false := by rfl) :
    PE X (.Call (.Attribute o name apos) (e :: es) [] cpos) (tSM r to t) := by
  intro pins s σ H Q I h
  refine wpAny_Call_method_late hbase hfew hline rfl (thn (ho pins s σ H _ I h) fun v s1 ⟨x, H1, I1, r1, ⟨z, ex⟩, q1⟩ => ?_)
  subst ex
  obtain ⟨t0, rfl⟩ := r1
  refine ⟨"str", id, pa, slot, hty, typeIs_str _ _ _, (fun a e => nomatch e), ?_⟩
  have hA := ha cpos pins s1 σ H1 _ I1 q1
  rw [hs] at hA ⊢
  refine Calls.callWith_builtin (by show (false || (backTo cpos (starEach es X.env)).any (·.1)) = false; rw [hplain] <;> rfl) (Calls.evalArgs_plain ?_)
  exact thn hA fun us s2 ⟨vs, H2, I2, r2, q2⟩ => hm pins s2 σ H2 (.str z) vs (.str z t0) us Q I2 ⟨t0, rfl⟩ r2 q2
end
section
variable {σ : St} {H : Hp} {Q : VK}
theorem r_sm {r : V → List V → Hp → VK → Prop} {to : TE} {t : TA} (q : to σ H fun x H1 => (∃ z, x = .str z) ∧ t σ H1 fun vs H2 => r x vs H2 Q) : tSM r to t σ H Q := q
theorem r_tyS {z : Str} {R : Prop} (q : R) : (∃ z', V.str z = .str z') ∧ R := ⟨⟨z, rfl⟩, q⟩
end
section
variable {X : Cx}
def tOr2 (t u : TE) : TE := fun σ H Q => t σ H Q ∨ u σ H Q
theorem pe_or2 {e : Expr} {t u : TE} (h1 : PE X e t) (h2 : PE X e u) : PE X e (tOr2 t u) := fun pins s σ H Q I h => h.elim (fun z => h1 pins s σ H Q I z) fun z => h2 pins s σ H Q I z
theorem r_or2L {t u : TE} {σ : St} {H : Hp} {Q : VK} (q : t σ H Q) : tOr2 t u σ H Q := .inl q
theorem r_or2R {t u : TE} {σ : St} {H : Hp} {Q : VK} (q : u σ H Q) : tOr2 t u σ H Q := .inr q
end
def byT (w : World) : Bool := w.params.followText "set-order"
structure Rise (t : SetTable) (n : Nat) (sl : Nat → Nat) : Prop where
  fits : t.fits n = true
  plain : t.plain = true
  zero : sl 0 = 0
  low : ∀ i, i ≤ n → SetTable.below t.place (sl i) = i
  step : ∀ i, i < n → ∃ j, t.place[i]? = some j ∧ j + 1 = sl (i + 1)
end L2
set_option Elab.async false
set_option linter.all false
set_option maxRecDepth 100000
set_option maxHeartbeats 4000000
namespace L2
open PySem PySem.Spec PyProof.Rows PySem.W
end L2
set_option Elab.async false
set_option linter.all false
set_option maxRecDepth 100000
set_option maxHeartbeats 4000000
namespace L2
open PySem PySem.Spec PyProof.Rows PySem.W
def Ris (xs : Array Nat) : Prop := xs.toList.Pairwise (· < ·)
structure Low (xs : Array Nat) (j r : Nat) : Prop where
  le : r ≤ xs.size
  lo : ∀ i, i < r → xs.getD i 0 < j
  hi : ∀ i, r ≤ i → i < xs.size → j ≤ xs.getD i 0
def adv (m : Nat) (p : SetTable.Probe) : SetTable.Probe :=
  if p.more > 0 then { p with more := p.more - 1, j := p.j + 1 } else
  { p with j := (SetTable.leap m p.i p.perturb).1, more := SetTable.runEnd m (SetTable.leap m p.i p.perturb).1 - (SetTable.leap m p.i p.perturb).1, i := (SetTable.leap m p.i p.perturb).1, perturb := (SetTable.leap m p.i p.perturb).2 }
def st0 (m : Nat) (h : Int) : SetTable.Probe := { j := SetTable.bits h % (m + 1), more := SetTable.runEnd m (SetTable.bits h % (m + 1)) - SetTable.bits h % (m + 1), i := SetTable.bits h % (m + 1), perturb := SetTable.bits h, dummy := none }
def pth (m : Nat) (h : Int) : Nat → SetTable.Probe
  | 0 => st0 m h
  | n + 1 => adv m (pth m h n)
theorem pth_run {m : Nat} {h : Int} {n : Nat} {p : SetTable.Probe} (e : pth m h n = p) : ∀ c, c ≤ p.more → pth m h (n + c) = { p with j := p.j + c, more := p.more - c }
  | 0, _ => e
  | c + 1, hc => by
    show adv m (pth m h (n + c)) = _
    rw [pth_run e c (by omega)]
    unfold adv
    rw [if_pos (show p.more - c > 0 by omega)]
    congr 1 <;> omega
def lp (m : Nat) (h : Int) : Nat → Nat × Nat
  | 0 => (SetTable.bits h % (m + 1), SetTable.bits h)
  | L + 1 => SetTable.leap m (lp m h L).1 (lp m h L).2
theorem run_le (m i : Nat) : SetTable.runEnd m i - i ≤ 9 := by unfold SetTable.runEnd; split <;> omega
theorem pth_lp (m : Nat) (h : Int) : ∀ L, ∃ n, n ≤ 10 * L ∧ pth m h n = { j := (lp m h L).1, more := SetTable.runEnd m (lp m h L).1 - (lp m h L).1, i := (lp m h L).1, perturb := (lp m h L).2, dummy := none }
  | 0 => ⟨0, Nat.le_refl _, rfl⟩
  | L + 1 => by
    obtain ⟨n, hn, e⟩ := pth_lp m h L
    have r := run_le m (lp m h L).1
    refine ⟨n + (SetTable.runEnd m (lp m h L).1 - (lp m h L).1) + 1, by omega, ?_⟩
    show adv m (pth m h (n + _)) = _
    rw [pth_run e _ (Nat.le_refl _)]
    unfold adv
    rw [if_neg (by simp)]
    rfl
theorem lp_pert (m : Nat) (h : Int) : ∀ L, (lp m h L).2 = SetTable.bits h / 32 ^ L
  | 0 => by show SetTable.bits h = _; simp
  | L + 1 => by
    show (lp m h L).2 / 32 = _
    rw [lp_pert m h L, Nat.div_div_eq_div_mul, Nat.pow_succ]
theorem bits_lt (h : Int) : SetTable.bits h < 2 ^ 64 := by unfold SetTable.bits; omega
theorem lp_zero (m : Nat) (h : Int) (L : Nat) (hL : 13 ≤ L) : (lp m h L).2 = 0 := by
  rw [lp_pert]
  refine Nat.div_eq_of_lt (Nat.lt_of_lt_of_le (bits_lt h) ?_)
  exact Nat.le_trans (by decide) (Nat.pow_le_pow_right (by decide) hL)
def cyc (m : Nat) : Nat → Nat → Nat
  | 0, x => x
  | d + 1, x => (cyc m d x * 5 + 1) % (m + 1)
theorem lp_cyc (m : Nat) (h : Int) : ∀ d, (lp m h (13 + d)).1 = cyc m d (lp m h 13).1
  | 0 => rfl
  | d + 1 => by
    show ((lp m h (13 + d)).1 * 5 + 1 + (lp m h (13 + d)).2 / 32) % (m + 1) = _
    rw [lp_zero m h _ (by omega), lp_cyc m h d]
    rfl
theorem cyc7 : ∀ x, x < 8 → ∀ e, e < 8 → ∃ d, d < 8 ∧ cyc 7 d x = e := by decide +kernel
theorem cyc31 : ∀ x, x < 32 → ∀ e, e < 32 → ∃ d, d < 32 ∧ cyc 31 d x = e := by decide +kernel
theorem cyc_add (m : Nat) : ∀ (a b x : Nat), cyc m (a + b) x = cyc m a (cyc m b x)
  | 0, b, x => by rw [Nat.zero_add]; rfl
  | a + 1, b, x => by
    rw [show a + 1 + b = (a + b) + 1 by omega]
    show (cyc m (a + b) x * 5 + 1) % (m + 1) = _
    rw [cyc_add m a b x]
    rfl
theorem cyc00 : ∀ e, e < 128 → ∃ d, d < 128 ∧ cyc 127 d 0 = e := by decide +kernel
theorem cyc127 : ∀ x, x < 128 → ∀ e, e < 128 → ∃ d, d < 128 ∧ cyc 127 d x = e := fun x hx e he => by
  obtain ⟨p, hp, rfl⟩ := cyc00 x hx
  obtain ⟨q, hq, rfl⟩ := cyc00 e he
  by_cases h : p ≤ q
  · exact ⟨q - p, by omega, by rw [← cyc_add, Nat.sub_add_cancel h]⟩
  · refine ⟨q + 128 - p, by omega, ?_⟩
    rw [← cyc_add, show q + 128 - p + p = q + 128 by omega, cyc_add, show cyc 127 128 0 = 0 by decide +kernel]
def Msk (m : Nat) : Prop := m = 7 ∨ m = 31 ∨ m = 127
theorem cyc_any {m : Nat} (hm : Msk m) {x e : Nat} (hx : x < m + 1) (he : e ≤ m) : ∃ d, d < m + 1 ∧ cyc m d x = e := by
  rcases hm with rfl | rfl | rfl
  · exact cyc7 _ hx _ (by omega)
  · exact cyc31 _ hx _ (by omega)
  · exact cyc127 _ hx _ (by omega)
theorem lp_lt (m : Nat) (h : Int) : ∀ L, (lp m h L).1 < m + 1
  | 0 => Nat.mod_lt _ (Nat.succ_pos _)
  | L + 1 => Nat.mod_lt _ (Nat.succ_pos _)
theorem meets {m : Nat} (hm : Msk m) (h : Int) {e : Nat} (he : e ≤ m) : ∃ n, n < 10 * (m + 14) ∧ (pth m h n).j = e := by
  have l := lp_lt m h 13
  obtain ⟨d, hd, hc⟩ := cyc_any hm l he
  obtain ⟨n, hn, q⟩ := pth_lp m h (13 + d)
  exact ⟨n, by omega, by rw [q]; show (lp m h (13 + d)).1 = e; rw [lp_cyc, hc]⟩
structure Tab (t : SetTable) (es : Array (Int × Value)) : Prop where
  mask : Msk t.mask
  dum : t.dummies = #[]
  ris : Ris t.place
  size : t.place.size = es.size
  room : es.size * 5 < t.mask * 3
  top : ∀ j ∈ t.place.toList, j ≤ t.mask
  way : ∀ (i : Nat) (hi : i < es.size), ∃ N, (pth t.mask es[i].1 N).j = t.place.getD i 0 ∧ ∀ m, m < N → (pth t.mask es[i].1 m).j ∈ t.place.toList
section
variable {prog : Program} {w : World} {A : Around} {E : Value → Shared → Prop} {s : Shared}
structure Asks (prog : Program) (w : World) (A : Around) (E : Value → Shared → Prop) (s : Shared) (es : Array (Int × Value)) (x : Value) (hash : Int) {K : Type} [DecidableEq K] (key : Nat → K) (k : K) : Prop where
  hsh : ∀ (i : Nat) (hi : i < es.size), key i = k → es[i].1 = hash
  eq : ∀ (i : Nat) (hi : i < es.size) (Q : Bool → Shared → Prop), Q (decide (key i = k)) s → wpAny (model prog w) A (eqBool es[i].2 x) Q E s
  ref : ∀ (i : Nat) (hi : i < es.size), ∃ a, es[i].2 = .ref a
  seen : ∀ (l : List Value), (∀ y ∈ l, ∃ (i : Nat) (hi : i < es.size), y = es[i].2) → ∀ Q : Bool → Shared → Prop, Q false s → wpAny (model prog w) A (searchCouldBeSeen x l) Q E s
end
abbrev OwnA := Array (Option Nat)
structure LaidT (m : Nat) (hs : List Int) (ow : OwnA) : Prop where
  size : ow.size = m + 1
  perm : (ow.toList.filterMap id).Perm (List.range hs.length)
  way : ∀ j i, ow[j]? = some (some i) → ∃ h, hs[i]? = some h ∧ ∃ N, (pth m h N).j = j ∧ ∀ q, q < N → (ow.getD (pth m h q).j (some 0)).isNone = false
section
variable {prog : Program} {w : World} {A : Around} {E : Value → Shared → Prop} {s : Shared}
def RowE (prog : Program) (w : World) (Z : Addr → List Int → Prop) (h : Heap) (e : Int × Value) (L : List Int) : Prop := ∃ a, e.2 = .ref a ∧ IsTupleKey (intKind prog w) h L a ∧ e.1 = tupleKeyHash (intKind prog w) L ∧ Z a L
inductive RowsE (prog : Program) (w : World) (Z : Addr → List Int → Prop) (h : Heap) : List (Int × Value) → List (List Int) → Prop
  | nil : RowsE prog w Z h [] []
  | cons {e : Int × Value} {L : List Int} {es : List (Int × Value)} {Ls : List (List Int)} : RowE prog w Z h e L → RowsE prog w Z h es Ls → RowsE prog w Z h (e :: es) (L :: Ls)
end
end L2
set_option Elab.async false
set_option linter.all false
set_option maxRecDepth 100000
set_option maxHeartbeats 4000000
namespace L2
open PySem PySem.Spec PyProof.Rows PySem.W
inductive RowsV (prog : Program) (w : World) (Z : Addr → List Int → Prop) (h : Heap) : List Value → List (List Int) → Prop
  | nil : RowsV prog w Z h [] []
  | cons {a : Addr} {L : List Int} {vs : List Value} {Ls : List (List Int)} : IsTupleKey (intKind prog w) h L a → Z a L → RowsV prog w Z h vs Ls → RowsV prog w Z h (.ref a :: vs) (L :: Ls)
inductive RefsH (H : Hp) : List V → List (List Int) → Prop
  | nil : RefsH H [] []
  | cons {a : Addr} {L : List Int} {vs : List V} {Ls : List (List Int)} : H a = some (.tup (L.map V.int)) → RefsH H vs Ls → RefsH H (.ref a :: vs) (L :: Ls)
end L2
set_option Elab.async false
set_option linter.all false
set_option maxRecDepth 100000
set_option maxHeartbeats 4000000
namespace L2
open PySem PySem.Spec PyProof.Rows PySem.W
def pairLt (p q : List Int × Int) : Prop := p.1 < q.1 ∨ (p.1 = q.1 ∧ p.2 < q.2)
instance (p q : List Int × Int) : Decidable (pairLt p q) := by unfold pairLt; infer_instance
inductive PairsAt (prog : Program) (w : World) (h : Heap) : List Value → List (List Int × Int) → Prop
  | nil : PairsAt prog w h [] []
  | cons {c a : Addr} {L : List Int} {x : Int} {t : Tok} {vs : List Value} {Ks : List (List Int × Int)} : IsTup h c #[.ref a, .int x t] → IsTupleKey (intKind prog w) h L a → PairsAt prog w h vs Ks → PairsAt prog w h (.ref c :: vs) ((L, x) :: Ks)
end L2
set_option Elab.async false
set_option linter.all false
set_option maxRecDepth 100000
set_option maxHeartbeats 4000000
namespace L2
open PySem PySem.Spec PyProof.Rows PySem.W
inductive PairsH (H : Hp) : List V → List (List Int × Int) → Prop
  | nil : PairsH H [] []
  | cons {c a : Addr} {L : List Int} {x : Int} {vs : List V} {Ks : List (List Int × Int)} : H c = some (.tup [.ref a, .int x]) → H a = some (.tup (L.map V.int)) → PairsH H vs Ks → PairsH H (.ref c :: vs) ((L, x) :: Ks)
section
variable {X : Cx}
open Classical in
end
structure LamOk (X : Cx) (scope : Scope) (cl : List (Str × Addr)) (x : Str) (fr : List Str) (js : List Nat) : Prop where
  kind : scope.kind = .function
  co : scope.isCoroutine = false
  gen : scope.isGenerator = false
  nc : ∀ y ∈ scope.names, y.2 ≠ .cell
  par : scope.names.lookup x = some .local
  clos : closOf X.env.cells scope.names [] = some cl
  frees : Frees X scope fr js
section
variable {X : Cx} {pins : List (Addr × Obj)} {σ : St} {H : Hp} {s : Shared}
structure Keyed (X : Cx) (A : Around) (σ : St) (KR : Hp → V → Nat → Prop) (lt : Nat → Nat → Bool) : Prop where
  ext : ∀ {H H' : Hp} {v : V} {i : Nat}, Ext H H' → KR H v i → KR H' v i
  cmp : ∀ {pins : List (Addr × Obj)} {H : Hp} {s : Shared} {v1 v2 : V} {u1 u2 : Value} {i j : Nat} {Q : Value → Shared → Prop} {E : Value → Shared → Prop}, Inv X pins σ H s → KR H v1 i → RelV v1 u1 → KR H v2 j → RelV v2 u2 → Q (.bool (lt i j)) s →
    wpAny (model X.prog X.w) A (richCompare .Lt u1 u2) Q E s
structure Turns (X : Cx) (A : Around) (pins : List (Addr × Obj)) (σ : St) (KR : Hp → V → Nat → Prop) (G : Hp → Prop) (q l : Addr) (xs : List V) (tp : Bool) : Prop where
  ext : ∀ {H H' : Hp}, Ext H H' → G H → G H'
  src : ∀ {H : Hp}, G H → SqE X.K H l xs tp
  turn : ∀ {ps : List (Addr × Obj)} {H : Hp} {s : Shared} {i : Nat} {x : V} {u : Value} {E : Value → Shared → Prop}, (∀ p ∈ pins, p ∈ ps) → Inv X ps σ H s → G H → xs[i]? = some x → RelV x u →
    wpAny (model X.prog X.w) A (call (.ref q) [u]) (EP X ps σ fun kv H' => KR H' kv i ∧ Ext H H') E s
variable {A : Around} {KR : Hp → V → Nat → Prop} {lt : Nat → Nat → Bool} {G : Hp → Prop} {l q It S : Addr} {xs : List V} {tp : Bool} {R : Result → Shared → Prop}
end
abbrev LA (α : Type) := List (Addr × Obj) → Addr → Addr → Shared → Hp → α
structure NoC (K : PySem.W.Frag) (C B : Addr) : Prop where
  ha : PySem.W.findIn K (.ref C) "__class__" = some (some (.builtin "object.__class__"))
  hn : PySem.W.specialIn K (.builtin "object.__class__") "__get__" = some (some (.builtin "getset_descriptor.__get__"))
  htk : PySem.W.takesIn K (.builtin "object.__class__") = some true
  hm : PySem.W.mroIn K C (.type "object") = some true
  ki : PySem.W.kitOne K (.ref C) (.ref B) = some false
structure RiseG (w : World) (t : SetTable) (n : Nat) (sl : Nat → Nat) : Prop where
  fits : t.fits n = true
  dr : byT w = false → (!t.plain && decide (n > 1)) = false
  zero : sl 0 = 0
  low : ∀ i, i ≤ n → SetTable.below t.place (sl i) = i
  step : ∀ i, i < n → ∃ j, t.place[i]? = some j ∧ j + 1 = sl (i + 1)
section
variable {prog : Program} {w : World} {A : Around} {E : Value → Shared → Prop} {s : Shared}
def RowET (prog : Program) (w : World) (Z : Addr → List Str → Prop) (h : Heap) (e : Int × Value) (L : List Str) : Prop := ∃ a, e.2 = .ref a ∧ IsTupleKey (PySem.strKind prog w) h L a ∧ e.1 = tupleKeyHash (PySem.strKind prog w) L ∧ Z a L
inductive RowsET (prog : Program) (w : World) (Z : Addr → List Str → Prop) (h : Heap) : List (Int × Value) → List (List Str) → Prop
  | nil : RowsET prog w Z h [] []
  | cons {e : Int × Value} {L : List Str} {es : List (Int × Value)} {Ls : List (List Str)} : RowET prog w Z h e L → RowsET prog w Z h es Ls → RowsET prog w Z h (e :: es) (L :: Ls)
end
end L2
set_option Elab.async false
set_option linter.all false
set_option maxRecDepth 100000
set_option maxHeartbeats 4000000
namespace L2
open PySem PySem.Spec PyProof.Rows PySem.W
def cpm (L : List Str) : List (List Nat) := L.map fun x => x.cps.toList
inductive StrsV : List Value → List Str → Prop
  | nil : StrsV [] []
  | cons (n : Str) (t : Tok) {vs : List Value} {ns : List Str} : StrsV vs ns → StrsV (.str n t :: vs) (n :: ns)
inductive RowsVT (prog : Program) (w : World) (Z : Addr → List Str → Prop) (h : Heap) : List Value → List (List Str) → Prop
  | nil : RowsVT prog w Z h [] []
  | cons {a : Addr} {L : List Str} {vs : List Value} {Ls : List (List Str)} : IsTupleKey (PySem.strKind prog w) h L a → Z a L → RowsVT prog w Z h vs Ls → RowsVT prog w Z h (.ref a :: vs) (L :: Ls)
inductive RefsHT (H : Hp) : List V → List (List Str) → Prop
  | nil : RefsHT H [] []
  | cons {a : Addr} {L : List Str} {vs : List V} {Ls : List (List Str)} : H a = some (.tup (L.map V.str)) → RefsHT H vs Ls → RefsHT H (.ref a :: vs) (L :: Ls)
section
open PySem.SeqAt
open PySem.AutoSeq1 (wpAny_loadPart')
open PySem.MeetsSeq PySem.MeetsSeq2 PySem.MeetsSeq3
end
end L2
set_option Elab.async false
set_option linter.all false
set_option maxRecDepth 100000
set_option maxHeartbeats 4000000
namespace L2
open PySem PySem.Spec PyProof.Rows PySem.W
def pairLtT (p q : List Str × Int) : Prop := cpm p.1 < cpm q.1 ∨ (p.1 = q.1 ∧ p.2 < q.2)
instance (p q : List Str × Int) : Decidable (pairLtT p q) := by unfold pairLtT; infer_instance
inductive PairsAtT (prog : Program) (w : World) (h : Heap) : List Value → List (List Str × Int) → Prop
  | nil : PairsAtT prog w h [] []
  | cons {c a : Addr} {L : List Str} {x : Int} {t : Tok} {vs : List Value} {Ks : List (List Str × Int)} : IsTup h c #[.ref a, .int x t] → IsTupleKey (PySem.strKind prog w) h L a → PairsAtT prog w h vs Ks → PairsAtT prog w h (.ref c :: vs) ((L, x) :: Ks)
inductive PairsHT (H : Hp) : List V → List (List Str × Int) → Prop
  | nil : PairsHT H [] []
  | cons {c a : Addr} {L : List Str} {x : Int} {vs : List V} {Ks : List (List Str × Int)} : H c = some (.tup [.ref a, .int x]) → H a = some (.tup (L.map V.str)) → PairsHT H vs Ks → PairsHT H (.ref c :: vs) ((L, x) :: Ks)
section
open PySem.SeqAt
open PySem.AutoSeq1 (wpAny_loadPart')
open PySem.MeetsSeq PySem.MeetsSeq2 PySem.MeetsSeq3
end
inductive IsDc : HO → Prop
  | k (kvs : List (Key × V)) : IsDc (.dK kvs)
  | t (kvs : List (List Key × V)) : IsDc (.dT kvs)
structure LamC1 (sc : Scope) (x y : Str) : Prop where
  kind : sc.kind = .function
  co : sc.isCoroutine = false
  gen : sc.isGenerator = false
  nc : ∀ z ∈ sc.names, z.2 ≠ .cell
  par : sc.names.lookup x = some .local
  fre : sc.names.lookup y = some .free
  only : ∀ z ∈ sc.names, z.2 = .free → z.1 = y
structure LamC2 (sc : Scope) (x y : Str) (rest : List (Str × NameKind)) : Prop where
  kind : sc.kind = .function
  co : sc.isCoroutine = false
  gen : sc.isGenerator = false
  names : sc.names = (x, .cell) :: rest
  nc : ∀ z ∈ rest, z.2 ≠ .cell
  ne : x ≠ y
  fre : sc.names.lookup y = some .free
  only : ∀ z ∈ sc.names, z.2 = .free → z.1 = y
abbrev LAC (α : Type) := List (Addr × Obj) → Addr → Addr → Shared → Addr → Hp → α
inductive IntsE : List (Int × Value) → List Int → Prop
  | nil : IntsE [] []
  | cons {n : Int} {t : Tok} {es : List (Int × Value)} {ns : List Int} : IntsE es ns → IntsE ((hashInt n, .int n t) :: es) (n :: ns)
section
variable {X : Cx}
open Classical in
end
section
variable {X : Cx}
theorem r_srtT {K : PySem.W.Frag} {H : Hp} {Q : VK} {p : Addr} {ns : List Int} (h : H p = some (.tup (ns.map V.int))) (hl : ns.length < 64) (q : ∀ l (ns' : List Int) H', H l = none → ns'.Perm ns → ns'.Pairwise (· ≤ ·) → H' l = some (.lst (ns'.map V.int)) → Ext H H' → Q (.ref l) H') : rSortW K [.ref p] H Q := .inl (r_sortedT h hl q)
end
end L2
set_option Elab.async false
set_option linter.all false
set_option maxRecDepth 100000
set_option maxHeartbeats 4000000
namespace L2
open PySem PySem.Spec PyProof.Rows PySem.W
section
variable {X : Cx} {k : Nat} {f : Addr} {fd : FuncData} {ps : List Str} {sp : Sp} {dvs : List V} {ds : List Value} {x : Str} {p pos : Pos} {e : Expr} {es : List Expr} {t : TA}
theorem pex_call (F : FnOk X.prog X.w X.K X.mg X.base (CXE X.prog X.w) k f fd ps sp) (hr : Room k X.A) (hg : Gl X x) (hm : X.mg x = some (.ref f)) (hk : PySem.W.keepIn X.K (.ref f) = true) (hb : Binds X.K fd ps ds) (hd : Vals dvs ds)
    (ha : PA X.nox (e :: es) t) (hdb : (x == ("__debug__" : Str)) = false := by decide) (he : starEach (e :: es) X.env = (false, eval e X.env) :: starEach es X.env := by rfl) (hpl : (backTo pos (starEach es X.env)).any (·.1) = false := by rfl) :
    PEX X (.Call (.Name x p) (e :: es) [] pos) (fun E => tCall sp dvs E t) := by
  intro pins s σ H Q E I h
  skip; refine wpAny_Call_Name_kw (ld_glob I hg hm ?_ hdb)
  skip; refine PySem.W.callWith_K (h₀ := X.base) I.ok.mod.kin hk (thn (pa_any ha pos I h) fun us s1 ⟨vs, H1, I1, r, q⟩ => ⟨I1.kIn, ?_⟩) he hpl
  exact run_fnX F hr hb hd I1 r q
end
theorem r_srtL {K : PySem.W.Frag} {H : Hp} {Q : VK} {p : Addr} {ns : List Int} (h : H p = some (.lst (ns.map V.int))) (hl : ns.length < 64) (q : ∀ l (ns' : List Int) H', H l = none → ns'.Perm ns → ns'.Pairwise (· ≤ ·) → H' l = some (.lst (ns'.map V.int)) → Ext H H' → Q (.ref l) H') : rSortW K [.ref p] H Q := .inl (r_sortedL h hl q)
def outS (z : Str) (lo hi : Option Int) : Str := if ((Builtin.Str.strSliceIndices lo hi 1 z.length).length == z.length) = true then z else ⟨((Builtin.Str.strSliceIndices lo hi 1 z.length).filterMap (z.cps[·]?)).toArray⟩
section
variable {X : Cx}
def rSlE : V → Option Int → Option Int → Hp → VK → Prop := fun x lo hi H Q => ∃ z : Str, x = .str z ∧ z.length ≤ 1000000 ∧ Q (.str (outS z lo hi)) H
theorem sl_strE : SlR X rSlE := by
  skip; intro pins s σ H x v vl vu lo hi sl Q I rx hs pl pu h
  obtain ⟨z, rfl, hz, q⟩ := h
  obtain ⟨t, rfl⟩ := rx
  refine ⟨"str", _, F.slot_str_getitem.lookup, typeIs_str _ _ _, ?_⟩
  have part : ∀ {v : Value} {o : Option Int}, IsPart v o → ∃ l : Option (Int × Tok), v = partValue l ∧ l.map (·.1) = o := fun p => by
    cases p with
    | none => exact ⟨none, rfl, rfl⟩
    | int i t => exact ⟨some (i, t), rfl, rfl⟩
  obtain ⟨l, e1, f1⟩ := part pl
  obtain ⟨u, e2, f2⟩ := part pu
  have hs' : s.heap.IsSlice sl l u none := by
    obtain ⟨o, h1, h2, h3⟩ := hs
    exact ⟨o, h1, h2, by rw [h3, e1, e2]; rfl⟩
  refine wpAny_getItem_str_slice hs' rfl ?_
  have hp : slicePicked z l u none = Builtin.Str.strSliceIndices lo hi 1 z.length := by
    unfold slicePicked
    rw [f1, f2]
    rfl
  unfold sliceMade
  rw [hp]
  unfold outS at q
  have he : (((Option.map (fun x : Int × Tok => x.fst) none).getD 1 == 1 && (Builtin.Str.strSliceIndices lo hi 1 z.length).length == z.length) : Bool) = ((Builtin.Str.strSliceIndices lo hi 1 z.length).length == z.length) := rfl
  rw [he]
  split
  · rename_i c
    rw [if_pos c] at q
    exact ⟨.str z, H, I, ⟨t, rfl⟩, q⟩
  · rename_i c
    rw [if_neg c] at q
    have hle : ((Builtin.Str.strSliceIndices lo hi 1 z.length).filterMap (z.cps[·]?)).length ≤ z.length := Nat.le_trans (List.length_filterMap_le _ _) (sliceIndices_le _ _ _)
    refine ⟨?_, .str _, H, I.tok _, ⟨_, rfl⟩, q⟩
    rw [sizeLine_eq]
    show ((Builtin.Str.strSliceIndices lo hi 1 z.length).filterMap (z.cps[·]?)).toArray.size ≤ _
    rw [List.size_toArray]
    omega
theorem r_slE {H : Hp} {Q : VK} {z : Str} {lo hi : Option Int} (h : z.length ≤ 1000000) (q : Q (.str (outS z lo hi)) H) : rSlE (.str z) lo hi H Q := ⟨z, rfl, h, q⟩
end
theorem valsQ : ∀ l : List (Str × Tok), Vals ((l.map (·.1)).map V.str) (strValues l)
  | [] => .nil
  | (x, t) :: r => .cons ⟨t, rfl⟩ (valsQ r)
theorem qVals : ∀ {zs : List Str} {us : List Value}, Vals (zs.map V.str) us → ∃ l : List (Str × Tok), us = strValues l ∧ l.map (·.1) = zs
  | [], _, h => by cases h; exact ⟨[], rfl, rfl⟩
  | z :: r, _, h => by
    cases h with
    | cons h1 h2 =>
      obtain ⟨t, rfl⟩ := h1
      obtain ⟨l, rfl, e⟩ := qVals h2
      exact ⟨(z, t) :: l, rfl, by rw [List.map_cons, e]⟩
theorem call_split {prog : Program} {w : World} {A : Around} {E : Value → Shared → Prop} {s : Shared} {Q : Value → Shared → Prop} {x : Str} {c : Nat} {t u : Tok} (hx : x.length ≤ 1000000)
    (h : ∀ (l : List (Str × Tok)) (k : Nat), l.map (·.1) = Txt.split x ⟨#[c]⟩ → Q (.ref s.heap.objs.size) { s with toks := k, heap := s.heap.push { cls := .type "list", data := .seq (strValues l).toArray } }) :
    wpAny (model prog w) A (call (.builtin "str.split") [.str x t, .str ⟨#[c]⟩ u]) Q E s := by
  have one : ∀ m : Meets (Builtin.«str.split» ⟨[.str x t, .str ⟨#[c]⟩ u], []⟩) (listOfItself x t), [x] = Txt.split x ⟨#[c]⟩ → wpAny (model prog w) A (call (.builtin "str.split") [.str x t, .str ⟨#[c]⟩ u]) Q E s := fun m e =>
    call_meets F.slot_str_split (typeIs_str _ _ _) F.entry_str_split (F.args_str_split_2 _ _) m (h [(x, t)] s.toks e)
  cases h1 : (decide (x.length < (⟨#[c]⟩ : Str).length) || decide (Builtin.Str.strKind x < Builtin.Str.strKind ⟨#[c]⟩)) with
  | true => exact one (meets_str_split_cannot_occur x _ t u h1) (if_pos h1).symm
  | false =>
    cases hf : (Builtin.Str.occurrences x ⟨#[c]⟩ 0 x.length (x.length + 1)).isEmpty with
    | true => exact one (meets_str_split_not_found x _ t u h1 rfl hf) ((if_neg (ne_true_of_eq_false h1)).trans (if_pos hf)).symm
    | false =>
      have e : Txt.split x ⟨#[c]⟩ = Builtin.Str.partsBetween x (Builtin.Str.occurrences x ⟨#[c]⟩ 0 x.length (x.length + 1)) (⟨#[c]⟩ : Str).length := (if_neg (ne_true_of_eq_false h1)).trans (if_neg (ne_true_of_eq_false hf))
      have hn := split_le x ⟨#[c]⟩
      rw [e] at hn
      refine call_meets F.slot_str_split (typeIs_str _ _ _) F.entry_str_split (F.args_str_split_2 _ _) (meets_str_split_sep x _ t u h1 rfl hf (by rw [sizeLine_eq]; omega) (by rw [sizeLine_eq]; omega)) ?_
      have q := h (numbered s.toks (Builtin.Str.partsBetween x (Builtin.Str.occurrences x ⟨#[c]⟩ 0 x.length (x.length + 1)) (⟨#[c]⟩ : Str).length)) (s.toks + (Builtin.Str.partsBetween x (Builtin.Str.occurrences x ⟨#[c]⟩ 0 x.length (x.length + 1)) (⟨#[c]⟩ : Str).length).length) ((numbered_texts _ _).trans e.symm)
      rw [← strsFrom_eq] at q
      exact q
section
variable {X : Cx}
def rSplit : V → List V → Hp → VK → Prop := fun x vs H Q => ∃ (z : Str) (c : Nat), x = .str z ∧ vs = [.str ⟨#[c]⟩] ∧ z.length ≤ 1000000 ∧ ∀ p, H p = none → Q (.ref p) (upd H p (.lst ((Txt.split z ⟨#[c]⟩).map V.str)))
theorem mt_split : MtM X "str.split" rSplit := by
  intro pins s σ H x vs v us Q I rx rv h
  obtain ⟨z, c, rfl, rfl, hz, q⟩ := h
  obtain ⟨t0, rfl⟩ := rx
  obtain ⟨u, rfl, t, rfl⟩ := rv.one
  refine call_split hz fun l k e => ?_
  have hf : H s.heap.objs.size = none := I.hok.fresh (Nat.le_refl _)
  refine ⟨.ref s.heap.objs.size, _, I.laid (t' := k) (o := .lst ((Txt.split z ⟨#[c]⟩).map V.str)) (fun b u e => Heap.get?_push_of_some _ e) (Nat.le_refl _) ?_, rfl, q _ hf⟩
  refine ⟨?_, strValues l, 0, ?_, Heap.get?_push_size _ rfl⟩
  · have := split_le z ⟨#[c]⟩
    rw [List.length_map, sizeLine_eq]
    omega
  · rw [← e]
    exact valsQ l
def rStarts : V → List V → Hp → VK → Prop := fun x vs H Q => ∃ z y : Str, x = .str z ∧ vs = [.str y] ∧ Q (.bl (Txt.startswith z y)) H
theorem mt_starts : MtM X "str.startswith" rStarts := by
  intro pins s σ H x vs v us Q I rx rv h
  obtain ⟨z, y, rfl, rfl, q⟩ := h
  obtain ⟨t0, rfl⟩ := rx
  obtain ⟨u, rfl, t, rfl⟩ := rv.one
  exact SC.startswith ⟨.bl _, H, I, rfl, q⟩
def rJoin : V → List V → Hp → VK → Prop := fun x vs H Q => ∃ (z : Str) (p : Addr) (zs : List Str), x = .str z ∧ vs = [.ref p] ∧ H p = some (.lst (zs.map V.str)) ∧ JoinOk z zs = true ∧ Q (.str (Str.join z zs)) H
theorem mt_join : MtM X "str.join" rJoin := by
  intro pins s σ H x vs v us Q I rx rv h
  obtain ⟨z, p, zs, rfl, rfl, hp, ok, q⟩ := h
  obtain ⟨t0, rfl⟩ := rx
  obtain ⟨u, rfl, ru⟩ := rv.one
  cases ru
  obtain ⟨its, r, l2, _⟩ := I.list (SqL.of (K := X.K) hp)
  obtain ⟨l, rfl, e⟩ := qVals r
  refine SC.join l2.isList e ok fun t' k => ?_
  have eq : Txt.join z zs = Str.join z zs := StrLaws.glued_eq_join z zs
  rw [eq]
  exact ⟨.str _, H, I.tok _, ⟨t', rfl⟩, q⟩
def rIntS : List V → Hp → VK → Prop := fun xs H Q => ∃ (z : Str) (n : Int), xs = [.str z] ∧ PySem.intText? z = some n ∧ z.length ≤ 640 ∧ Q (.int n) H
theorem cIntS : CallR X (.type "int") rIntS := by
  intro pins s σ H xs us Q I r h
  obtain ⟨z, n, rfl, hn, hl, q⟩ := h
  obtain ⟨u, rfl, t, rfl⟩ := vals1 r
  exact PySem.W.KIN.call_text hn hl ⟨.int n, H, I.tok _, ⟨_, rfl⟩, q⟩
def txI (n : Int) : Str := Str.ofString (toString n)
def rStrA : List V → Hp → VK → Prop := fun xs H Q => (∃ n : Int, xs = [.int n] ∧ n.natAbs.log2 < 1920 ∧ Q (.str (txI n)) H) ∨ ∃ z : Str, xs = [.str z] ∧ Q (.str z) H
theorem cStrA : CallR X (.type "str") rStrA := by
  intro pins s σ H xs us Q I r h
  rcases h with ⟨n, rfl, hl, q⟩ | ⟨z, rfl, q⟩
  · obtain ⟨u, rfl, t, rfl⟩ := vals1 r
    exact P.str_of_int hl ⟨.str (txI n), H, I.tok _, ⟨_, rfl⟩, q⟩
  · obtain ⟨u, rfl, t, rfl⟩ := vals1 r
    exact P.str_of_str ⟨.str z, H, I, ⟨t, rfl⟩, q⟩
end
section
variable {H : Hp} {Q : VK}
theorem r_split {z : Str} {c : Nat} (hz : z.length ≤ 1000000) (q : ∀ p H', H p = none → H' p = some (.lst ((Txt.split z ⟨#[c]⟩).map V.str)) → Ext H H' → Q (.ref p) H') : rSplit (.str z) [.str ⟨#[c]⟩] H Q := ⟨z, c, rfl, rfl, hz, fun p n => q p _ n upd_same (ext_upd n)⟩
theorem r_starts {z y : Str} (q : Q (.bl (Txt.startswith z y)) H) : rStarts (.str z) [.str y] H Q := ⟨z, y, rfl, rfl, q⟩
theorem r_join {z : Str} {p : Addr} {zs : List Str} (h : H p = some (.lst (zs.map V.str))) (ok : JoinOk z zs = true) (q : Q (.str (Str.join z zs)) H) : rJoin (.str z) [.ref p] H Q := ⟨z, p, zs, rfl, rfl, h, ok, q⟩
theorem r_intS {z : Str} {n : Int} (h : PySem.intText? z = some n) (hl : z.length ≤ 640) (q : Q (.int n) H) : rIntS [.str z] H Q := ⟨z, n, rfl, h, hl, q⟩
theorem r_strAI {n : Int} (h : n.natAbs.log2 < 1920) (q : Q (.str (txI n)) H) : rStrA [.int n] H Q := .inl ⟨n, rfl, h, q⟩
theorem r_strAS {z : Str} (q : Q (.str z) H) : rStrA [.str z] H Q := .inr ⟨z, rfl, q⟩
end
def valS (kvs : List (Str × Int)) (k : Str) : Option V := (kvs.find? fun kv => decide (kv.1 = k)).map fun kv => .int kv.2
def GD (w : World) (K : PySem.W.Frag) (v : Addr) (kvs : List (Str × Int)) : Prop :=
  (v == sysModules) = false ∧ ∃ (es : Array DictEntry) (n : Nat), K.lookup v = some { cls := .type "dict", dict := none, data := .dict es n, slots := #[] } ∧
    Paired (fun (e : DictEntry) (kv : Str × Int) => e.hash = hashStr w kv.1 ∧ (∃ t, e.key = .str kv.1 t) ∧ ∃ t, e.val = .int kv.2 t) es.toList kvs
theorem gd_find {w : World} : ∀ {es : List DictEntry} {kvs : List (Str × Int)}, Paired (fun (e : DictEntry) (kv : Str × Int) => e.hash = hashStr w kv.1 ∧ (∃ t, e.key = .str kv.1 t) ∧ ∃ t, e.val = .int kv.2 t) es kvs → ∀ k : Str,
    (∀ n, (kvs.find? fun kv => decide (kv.1 = k)).map (·.2) = some n → ∃ t, (es.find? fun e => Value.isStrOf k e.key).map (·.val) = some (.int n t)) ∧ ((kvs.find? fun kv => decide (kv.1 = k)) = none → (es.find? fun e => Value.isStrOf k e.key) = none) := by
  intro es kvs h k
  induction h with
  | nil => exact ⟨fun n e => by simp at e, fun _ => rfl⟩
  | @cons e kv es kvs h1 h2 ih =>
    obtain ⟨_, ⟨t, hk⟩, u, hv⟩ := h1
    have hb : Value.isStrOf k e.key = decide (kv.1 = k) := by rw [hk]; show (kv.1 == k) = _; by_cases c : kv.1 = k <;> simp [c]
    by_cases c : kv.1 = k
    · rw [List.find?_cons_of_pos (by simpa using c), List.find?_cons_of_pos (by rw [hb]; simpa using c)]
      exact ⟨fun n e' => ⟨u, by injection e' with e'; subst e'; exact congrArg some hv⟩, fun z => by cases z⟩
    · rw [List.find?_cons_of_neg (by simpa using c), List.find?_cons_of_neg (by rw [hb]; simpa using c)]
      exact ih
section
variable {X : Cx}
def tGetG (kvs : List (Str × Int)) (ty tx : TE) : TE := fun σ H Q => ty σ H fun y H1 => tx σ H1 fun z H2 => ∃ k : Str, y = .str k ∧ Q ((valS kvs k).getD z) H2
theorem pe_getG {o e f : Expr} {apos cpos : Pos} {v : Addr} {kvs : List (Str × Int)} {ty tx : TE} (g : GD X.w X.K v kvs) (ho : PE X o (tC (.ref v))) (he : PE X e ty) (hf : PE X f tx) (m : M2 X o "get" apos e f cpos) : PE X (.Call (.Attribute o "get" apos) [e, f] [] cpos) (tGetG kvs ty tx) := by
  intro pins s σ H Q I h
  refine wpAny_Call_method m.base m.few m.line PySem.F.plainAttrs_dict PySem.F.slot_dict_get PySem.F.type_dict_get (thn (ho pins s σ H (fun x H1 => x = .ref v ∧ ty σ H1 fun y H1 => tx σ H1 fun z H2 => ∃ k : Str, y = .str k ∧ Q ((valS kvs k).getD z) H2) I ⟨rfl, h⟩) fun u s1 ⟨x, H1, I1, rx, ex, q1⟩ => ?_)
  subst ex
  obtain rfl : u = Value.ref v := rx
  obtain ⟨hs, es, n, hl, pr⟩ := g
  have at1 := I1.kIn _ _ hl
  refine ⟨⟨_, at1, rfl⟩, fun b q => by cases q; exact ⟨_, at1, rfl⟩, ?_⟩
  rw [m.trees]
  refine Calls.callWith_builtin rfl (Calls.evalArgs_plain (Calls.spliced_cons (thn (he pins s1 σ H1 _ I1 q1) fun iv s2 ⟨y, H2, I2, ry, q2⟩ =>
    Calls.spliced_cons (thn (hf pins s2 σ H2 _ I2 q2) fun fv s3 ⟨z, H3, I3, rz, k, ey, q3⟩ => Calls.spliced_nil ?_))))
  subst ey
  have at3 := I3.kIn _ _ hl
  have mp : s3.heap.MapOf (mixKind X.prog X.w) v (findBy (mixKind X.prog X.w).is es) := by
    refine ⟨_, es, n, at3, ⟨rfl, rfl, rfl⟩, rfl, fun e he => ?_, fun _ => rfl⟩
    have all : ∀ {l : List DictEntry} {m : List (Str × Int)}, Paired (fun (e : DictEntry) (kv : Str × Int) => e.hash = hashStr X.w kv.1 ∧ (∃ t, e.key = .str kv.1 t) ∧ ∃ t, e.val = .int kv.2 t) l m → ∀ e ∈ l, ∃ k, (mixKind X.prog X.w).is k e.key = true ∧ e.hash = (mixKind X.prog X.w).hash k := by
      intro l m q
      induction q with
      | nil => intro x hx; exact nomatch hx
      | @cons p q ps qs hq t ih =>
        intro x hx
        rcases List.mem_cons.mp hx with e | hx
        · subst e
          obtain ⟨h1, ⟨t, h2⟩, _⟩ := hq
          exact ⟨.inr q.1, by rw [h2]; exact keyIs_str q.1 t, h1⟩
        · exact ih x hx
    exact all pr e (Array.mem_toList_iff.mpr he)
  refine call_meetsIn PySem.F.slot_dict_get ⟨_, at3, rfl⟩ PySem.F.entry_dict_get (PySem.F.args_dict_get_3 _ _ _) (meets_dict_get_default (mixKind X.prog X.w) v (kV_is (k := .inr k) ry) hs fv) ⟨_, mp, _, H3, I3.tok _, ?_, q3⟩
  obtain ⟨f1, f2⟩ := gd_find pr k
  have e0 : findBy (mixKind X.prog X.w).is es (Sum.inr k) = (es.toList.find? fun e => Value.isStrOf k e.key).map (·.val) := by
    obtain ⟨l⟩ := es
    show ((l.toArray.find? fun e => Value.isStrOf k e.key).map (·.val)) = _
    rw [List.find?_toArray]
  rw [e0]
  unfold valS
  cases c : kvs.find? fun kv => decide (kv.1 = k) with
  | none => rw [f2 c]; exact rz
  | some kv =>
    obtain ⟨t, e1⟩ := f1 kv.2 (by rw [c]; rfl)
    rw [e1]
    exact ⟨t, rfl⟩
end
section
variable {σ : St} {H : Hp} {Q : VK}
theorem r_getG {kvs : List (Str × Int)} {ty tx : TE} (q : ty σ H fun y H1 => tx σ H1 fun z H2 => ∃ k : Str, y = .str k ∧ Q ((valS kvs k).getD z) H2) : tGetG kvs ty tx σ H Q := q
end
theorem comp_enum {K : PySem.W.Frag} {ts : List TT} {te : TE} {acc : Addr} {fr : St} {H1 : Hp} {R : Hp → Prop} {xs : List V} {p : Addr} {u v : Option V} (hx : H1 p = some (.lst xs)) (hz : xs.length ≤ 1000000) (hn : H1 acc = none) (Pv : Nat → List V → Hp → Prop) (h0 : Pv 0 [] H1) (kp : ∀ i ys H H', Kp H H' → Pv i ys H → Pv i ys H') (len : ∀ i ys H, i ≤ xs.length → Pv i ys H → ys.length ≤ i)
    (turn : ∀ i x ys H H', xs[i]? = some x → Ext H1 H → Ext H H' → Pv i ys H → Turned ts te (Pv (i + 1)) ys H (some (.int (i : Nat)) :: some x :: fr) H')
    (fin : ∀ ys H, Ext H1 H → H acc = some (.lst ys) → Pv xs.length ys H → R H) : rComp (Ite2 K false p) (gTup K 2 (gCons (gName 0) (gCons (gName 1) gNil))) ts te acc (u :: v :: fr) H1 R := by
  have hq : ∀ H, Ext H1 H → SqE K H p xs false := fun H e => SqL.of (K := K) (e _ _ hx)
  refine comp_gen xs.length hz hn (fun σ => ∃ u v, σ = u :: v :: fr) Pv ⟨u, v, rfl⟩ h0 kp (fun i H hi e => ⟨xs, hq H e, hi⟩) (fun H e => ⟨xs, hq H e, Nat.le_refl _⟩) len ?_ fin
  rintro i σ ys H x H' G hi e ⟨u, v, rfl⟩ pv ⟨r, y1, nr, rfl, rfl, y⟩ hG
  exact ⟨r, [.int (i : Nat), y1], rfl, SqT.of upd_same, rfl, _, [y1], rfl, y1, [], rfl, rfl, hG _ _ ⟨_, _, rfl⟩ (turn i y1 ys _ _ (y xs (hq H e)) e (ext_upd nr) pv)⟩
def tTryN (K : PySem.W.Frag) (L : Addr) (tb : XK → TS) (ts : Addr → TS) : TS := fun D σ H =>
  tb (fun C dx H' => ∃ c, C = .ref c ∧ Catch K c L ∧ ∀ x, H' x = none → ts x D σ (upd H' x (errH x C dx))) D σ H
theorem ps_tryN {X : Cx} {body suite : List Stmt} {b₀ : Stmt} {lx : Str} {L : Addr} {tb : XK → TS} {ts : Addr → TS} {p0 pos pos' : Pos} (O : Own X) (hg : Gl X lx) (hm : X.mg lx = some (.ref L))
    (hb : PSXs X body tb) (hs : ∀ a, PSs (X.inEx a).nox (b₀ :: suite) (ts a)) (hdb : (lx == ("__debug__" : Str)) = false := by decide) :
    PS X (.Try body [.ExceptHandler (some (.Name lx p0)) none (b₀ :: suite) pos'] [] [] pos) (tTryN X.K L tb ts) := by
  intro pins s σ H D I h
  refine wpAny_Try_except (wpAny_mono (hb pins s σ H D _ I h) (fun f s1 z => ?_) fun e s1 z => ?_)
  · cases f with
    | next => exact wpAny_execs_nil z
    | brk => exact z
    | cont => exact z
    | ret u => exact z
  obtain ⟨n, H1, a, C, dx, rfl, hsz, hpn, I1, er, c, rfl, hc, q⟩ := z
  have fr : X.A.frames = some (X.env :: X.outer) := by rw [← O.stk]; exact I.ok.frames
  have fs : ∀ {σ' : St} {H' : Hp} {s' : Shared}, Inv X pins σ' H' s' → s'.heap.FunFrames X.base (X.env :: X.outer) := fun J => by rw [← O.stk]; exact J.stack
  refine note_err fr (fs I1) O.frm er (.inl rfl) (fun b hb => I1.hok.fresh hb) fun h2 p2 er2 nh2 => ?_
  rw [← O.stk] at p2
  have I2 := I1.passedN hsz hpn p2
  have nfr : ∀ {σ' : St} {H' : Hp} {s' : Shared}, Inv X pins σ' H' s' → ∀ b o vs, s'.heap.get? b = some o → o.data = .fields vs → b ∉ frs X.stack := fun J b o vs e d hb => by
    obtain ⟨_, o0, e0, nf⟩ := J.stack.mem hb
    rw [e] at e0; cases e0
    exact nf vs d
  refine unmark_err (s := { s1 with heap := h2 }) (fs := frs X.stack) er2 nh2 (nfr I2) fun h3 p3 er3 nh3 => ?_
  have I3 := I2.passedN hsz hpn p3
  refine wpAny_handleBy_cons (codeAny_handlers_test (ld_glob (X := X.inEx a) (I3.inEx a) hg hm ?_ hdb)) (by intro z; cases z)
  obtain ⟨new3, un3, oe3, vs3, ea3, ec3, rest3⟩ := id er3
  refine exc_hit I3.kIn hc ea3 ec3 ?_
  refine codeAny_handlers_suite (unmark_err (s := { s1 with heap := h3 }) (fs := frs X.stack) er3 nh3 (nfr I3) fun h4 p4 er4 nh4 => ?_)
  have I4 := (I3.passedN hsz hpn p4).heldN hsz hpn er4
  refine wpAny_mono (hs a pins _ _ _ D ((I4.inEx a).wish _) (q a er4.un)) (fun f s6 z => ?_) fun _ _ z => False.elim z
  cases f with
  | next =>
    obtain ⟨σ', H', J, k⟩ := z
    exact ⟨_, H', J.unwish.outEx I.ok, k⟩
  | brk =>
    obtain ⟨σ', H', J, k⟩ := z
    exact ⟨_, H', J.unwish.outEx I.ok, k⟩
  | cont =>
    obtain ⟨σ', H', J, k⟩ := z
    exact ⟨_, H', J.unwish.outEx I.ok, k⟩
  | ret u =>
    obtain ⟨v, σ', H', J, r, k⟩ := z
    exact ⟨v, _, H', J.unwish.outEx I.ok, r, k⟩
theorem r_tryN {K : PySem.W.Frag} {σ : St} {H : Hp} {D : Ends} {L : Addr} {tb : XK → TS} {ts : Addr → TS} (q : tb (fun C dx H' => ∃ c, C = .ref c ∧ Catch K c L ∧ ∀ x, H' x = none → ts x D σ (upd H' x (errH x C dx))) D σ H) : tTryN K L tb ts D σ H := q
def FnN (K : PySem.W.Frag) (x : Str) (st : Stmt) (f : Addr) : Prop := PySem.W.nsIn K mainGlobals x = some (some (.ref f)) ∧ ∃ fd, Fun K x x st f fd
def FnM (K : PySem.W.Frag) (C : Addr) (x q : Str) (st : Stmt) (f : Addr) : Prop := PySem.W.findIn K (.ref C) x = some (some (.ref f)) ∧ ∃ fd, Fun K x q st f fd
def NsC (K : PySem.W.Frag) (x : Str) (C : Addr) : Prop := PySem.W.nsIn K mainGlobals x = some (some (.ref C))
def NsB (K : PySem.W.Frag) (x : Str) : Prop := PySem.W.nsIn K mainGlobals x = some none
theorem Fun.one {K : PySem.W.Frag} {x qual : Str} {st : Stmt} {f : Addr} {fd : FuncData} {n : Str} (F : Fun K x qual st f fd)
    (h : ∀ (kV doc pm : Value) (an : Option Addr) (cdv ct : Value) (s : Shared) (v : Value), bindArgs (PySem.W.fnOf x qual (defArgs st) (defBody st) (defScope st) .none kV doc pm an cdv ct) ⟨[v], []⟩ = pure [(n, v)]) (s : Shared) (v : Value) : BindsTo s fd ⟨[v], []⟩ [(n, v)] := by
  obtain ⟨oc, od, kV, doc, pm, an, cdv, ct, osl, rfl, lk, hcd⟩ := F.ex
  exact .of_eq (h kV doc pm an cdv ct s v)
end L2
namespace Q
open PySem PySem.Spec PyProof.Rows L2
def top (i : Nat) : Stmt := PySem.Challenge.pw_lateknow_k81_game_read.main.body.getD i (.Pass ⟨0, 0, 0, 0⟩)
abbrev s_law : Stmt := top 69
abbrev s_law_same : Stmt := top 59
abbrev s_law_whole : Stmt := top 58
abbrev s_law_all_same : Stmt := top 60
abbrev s_read_game : Stmt := top 54
abbrev s_asked_wishes : Stmt := top 52
abbrev s_asked_wish : Stmt := top 51
abbrev s_Bags_is_wish : Stmt := inClass (top 19) 2
abbrev s_is_from_one_to : Stmt := top 9
abbrev s_is_whole_number : Stmt := top 6
abbrev s_Store_is_wish : Stmt := inClass (top 35) 2
abbrev s_is_name : Stmt := top 10
abbrev s_Ways_is_wish : Stmt := inClass (top 38) 2
abbrev s_is_amount : Stmt := top 7
abbrev s_Hire_is_wish : Stmt := inClass (top 22) 2
abbrev s_Shelf_is_wish : Stmt := inClass (top 32) 2
abbrev s_Line_is_wish : Stmt := inClass (top 28) 2
abbrev s_is_place : Stmt := top 8
abbrev s_parted : Stmt := top 49
abbrev s_written : Stmt := top 48
abbrev s_are_figures : Stmt := top 47
abbrev s_world_start : Stmt := top 46
abbrev s_Rule_state : Stmt := inClass (top 15) 4
abbrev s_rule_of : Stmt := top 45
abbrev s_Filler_init : Stmt := inClass (top 20) 0
abbrev s_Rule_init : Stmt := inClass (top 15) 0
abbrev s_Bags_is_state : Stmt := inClass (top 19) 1
abbrev s_Bags_init : Stmt := inClass (top 19) 0
abbrev s_Keeper_init : Stmt := inClass (top 36) 0
abbrev s_Store_is_state : Stmt := inClass (top 35) 1
abbrev s_are_names : Stmt := top 11
abbrev s_Store_init : Stmt := inClass (top 35) 0
abbrev s_is_row_of_names : Stmt := top 12
abbrev s_Changer_init : Stmt := inClass (top 39) 0
abbrev s_Ways_is_state : Stmt := inClass (top 38) 1
abbrev s_Ways_init : Stmt := inClass (top 38) 0
abbrev s_Buyer_init : Stmt := inClass (top 23) 0
abbrev s_Hire_is_state : Stmt := inClass (top 22) 1
abbrev s_Hire_init : Stmt := inClass (top 22) 0
abbrev s_Front_init : Stmt := inClass (top 33) 0
abbrev s_Shelf_is_state : Stmt := inClass (top 32) 1
abbrev s_Shelf_init : Stmt := inClass (top 32) 0
abbrev s_Both_init : Stmt := inClass (top 29) 0
abbrev s_Line_is_state : Stmt := inClass (top 28) 1
abbrev s_line_of : Stmt := top 27
abbrev s_Line_init : Stmt := inClass (top 28) 0
abbrev s_is_opening : Stmt := top 50
abbrev s_rows_with_signs : Stmt := top 53
abbrev s_law_text : Stmt := top 68
abbrev s_law_mixed : Stmt := top 57
abbrev s_law_cell : Stmt := top 56
abbrev s_law_lines : Stmt := top 67
abbrev s_law_words : Stmt := top 66
abbrev s_law_wish : Stmt := top 65
abbrev s_law_amount : Stmt := top 61
abbrev s_law_names : Stmt := top 63
abbrev s_law_place : Stmt := top 62
abbrev s_law_start : Stmt := top 64
structure Adr where
  f_law : Addr
  d_law : FuncData
  f_law_same : Addr
  d_law_same : FuncData
  f_law_whole : Addr
  d_law_whole : FuncData
  f_law_all_same : Addr
  d_law_all_same : FuncData
  f_read_game : Addr
  d_read_game : FuncData
  f_asked_wishes : Addr
  d_asked_wishes : FuncData
  f_asked_wish : Addr
  d_asked_wish : FuncData
  f_Bags_is_wish : Addr
  d_Bags_is_wish : FuncData
  f_is_from_one_to : Addr
  d_is_from_one_to : FuncData
  f_is_whole_number : Addr
  d_is_whole_number : FuncData
  f_Store_is_wish : Addr
  d_Store_is_wish : FuncData
  f_is_name : Addr
  d_is_name : FuncData
  f_Ways_is_wish : Addr
  d_Ways_is_wish : FuncData
  f_is_amount : Addr
  d_is_amount : FuncData
  f_Hire_is_wish : Addr
  d_Hire_is_wish : FuncData
  f_Shelf_is_wish : Addr
  d_Shelf_is_wish : FuncData
  f_Line_is_wish : Addr
  d_Line_is_wish : FuncData
  f_is_place : Addr
  d_is_place : FuncData
  f_parted : Addr
  d_parted : FuncData
  f_written : Addr
  d_written : FuncData
  f_are_figures : Addr
  d_are_figures : FuncData
  f_world_start : Addr
  d_world_start : FuncData
  f_Rule_state : Addr
  d_Rule_state : FuncData
  f_rule_of : Addr
  d_rule_of : FuncData
  f_Filler_init : Addr
  d_Filler_init : FuncData
  f_Rule_init : Addr
  d_Rule_init : FuncData
  f_Bags_is_state : Addr
  d_Bags_is_state : FuncData
  f_Bags_init : Addr
  d_Bags_init : FuncData
  f_Keeper_init : Addr
  d_Keeper_init : FuncData
  f_Store_is_state : Addr
  d_Store_is_state : FuncData
  f_are_names : Addr
  d_are_names : FuncData
  f_Store_init : Addr
  d_Store_init : FuncData
  f_is_row_of_names : Addr
  d_is_row_of_names : FuncData
  f_Changer_init : Addr
  d_Changer_init : FuncData
  e_Changer_init : List Value
  f_Ways_is_state : Addr
  d_Ways_is_state : FuncData
  f_Ways_init : Addr
  d_Ways_init : FuncData
  f_Buyer_init : Addr
  d_Buyer_init : FuncData
  f_Hire_is_state : Addr
  d_Hire_is_state : FuncData
  f_Hire_init : Addr
  d_Hire_init : FuncData
  f_Front_init : Addr
  d_Front_init : FuncData
  f_Shelf_is_state : Addr
  d_Shelf_is_state : FuncData
  f_Shelf_init : Addr
  d_Shelf_init : FuncData
  f_Both_init : Addr
  d_Both_init : FuncData
  f_Line_is_state : Addr
  d_Line_is_state : FuncData
  f_line_of : Addr
  d_line_of : FuncData
  f_Line_init : Addr
  d_Line_init : FuncData
  f_is_opening : Addr
  d_is_opening : FuncData
  f_rows_with_signs : Addr
  d_rows_with_signs : FuncData
  f_law_text : Addr
  d_law_text : FuncData
  f_law_mixed : Addr
  d_law_mixed : FuncData
  f_law_cell : Addr
  d_law_cell : FuncData
  f_law_lines : Addr
  d_law_lines : FuncData
  f_law_words : Addr
  d_law_words : FuncData
  f_law_wish : Addr
  d_law_wish : FuncData
  f_law_amount : Addr
  d_law_amount : FuncData
  f_law_names : Addr
  d_law_names : FuncData
  f_law_place : Addr
  d_law_place : FuncData
  f_law_start : Addr
  d_law_start : FuncData
  c_LateError : Addr
  c_NoState : Addr
  c_Rule : Addr
  c_Bound : Addr
  c_Bags : Addr
  c_Filler : Addr
  c_Hire : Addr
  c_Buyer : Addr
  c_Line : Addr
  c_Both : Addr
  c_Shelf : Addr
  c_Front : Addr
  c_Store : Addr
  c_Keeper : Addr
  c_Ways : Addr
  c_Changer : Addr
  t_MOST_BAGS : Tok
  t_MOST_ASKS : Tok
  t_MOST_FIGURES : Tok
  v_FIRST_WORDS : Addr
  v_LENGTHS : Addr
structure Txt (w : World) (K : PySem.W.Frag) (mg : Str → Option Value) (a : Adr) : Prop where
  F_law : Fun K "law" "law" s_law a.f_law a.d_law
  b_law : Binds K a.d_law ["_law_script"] []
  m_law : mg "law" = some (.ref a.f_law)
  F_law_same : Fun K "_law_same" "_law_same" s_law_same a.f_law_same a.d_law_same
  b_law_same : Binds K a.d_law_same ["_law_found", "_law_due"] []
  m_law_same : mg "_law_same" = some (.ref a.f_law_same)
  F_law_whole : Fun K "_law_whole" "_law_whole" s_law_whole a.f_law_whole a.d_law_whole
  b_law_whole : Binds K a.d_law_whole ["_law_found"] []
  m_law_whole : mg "_law_whole" = some (.ref a.f_law_whole)
  F_law_all_same : Fun K "_law_all_same" "_law_all_same" s_law_all_same a.f_law_all_same a.d_law_all_same
  b_law_all_same : Binds K a.d_law_all_same ["_law_found", "_law_due"] []
  m_law_all_same : mg "_law_all_same" = some (.ref a.f_law_all_same)
  F_read_game : Fun K "read_game" "read_game" s_read_game a.f_read_game a.d_read_game
  b_read_game : Binds K a.d_read_game ["text"] []
  m_read_game : mg "read_game" = some (.ref a.f_read_game)
  F_asked_wishes : Fun K "asked_wishes" "asked_wishes" s_asked_wishes a.f_asked_wishes a.d_asked_wishes
  b_asked_wishes : Binds K a.d_asked_wishes ["word", "world", "rows"] []
  m_asked_wishes : mg "asked_wishes" = some (.ref a.f_asked_wishes)
  F_asked_wish : Fun K "asked_wish" "asked_wish" s_asked_wish a.f_asked_wish a.d_asked_wish
  b_asked_wish : Binds K a.d_asked_wish ["word", "world", "line"] []
  m_asked_wish : mg "asked_wish" = some (.ref a.f_asked_wish)
  F_Bags_is_wish : Fun K "is_wish" "Bags.is_wish" s_Bags_is_wish a.f_Bags_is_wish a.d_Bags_is_wish
  b_Bags_is_wish : Binds K a.d_Bags_is_wish ["self", "thing"] []
  F_is_from_one_to : Fun K "is_from_one_to" "is_from_one_to" s_is_from_one_to a.f_is_from_one_to a.d_is_from_one_to
  b_is_from_one_to : Binds K a.d_is_from_one_to ["thing", "most"] []
  m_is_from_one_to : mg "is_from_one_to" = some (.ref a.f_is_from_one_to)
  F_is_whole_number : Fun K "is_whole_number" "is_whole_number" s_is_whole_number a.f_is_whole_number a.d_is_whole_number
  b_is_whole_number : Binds K a.d_is_whole_number ["thing"] []
  m_is_whole_number : mg "is_whole_number" = some (.ref a.f_is_whole_number)
  F_Store_is_wish : Fun K "is_wish" "Store.is_wish" s_Store_is_wish a.f_Store_is_wish a.d_Store_is_wish
  b_Store_is_wish : Binds K a.d_Store_is_wish ["self", "thing"] []
  F_is_name : Fun K "is_name" "is_name" s_is_name a.f_is_name a.d_is_name
  b_is_name : Binds K a.d_is_name ["thing"] []
  m_is_name : mg "is_name" = some (.ref a.f_is_name)
  F_Ways_is_wish : Fun K "is_wish" "Ways.is_wish" s_Ways_is_wish a.f_Ways_is_wish a.d_Ways_is_wish
  b_Ways_is_wish : Binds K a.d_Ways_is_wish ["self", "thing"] []
  F_is_amount : Fun K "is_amount" "is_amount" s_is_amount a.f_is_amount a.d_is_amount
  b_is_amount : Binds K a.d_is_amount ["thing"] []
  m_is_amount : mg "is_amount" = some (.ref a.f_is_amount)
  F_Hire_is_wish : Fun K "is_wish" "Hire.is_wish" s_Hire_is_wish a.f_Hire_is_wish a.d_Hire_is_wish
  b_Hire_is_wish : Binds K a.d_Hire_is_wish ["self", "thing"] []
  F_Shelf_is_wish : Fun K "is_wish" "Shelf.is_wish" s_Shelf_is_wish a.f_Shelf_is_wish a.d_Shelf_is_wish
  b_Shelf_is_wish : Binds K a.d_Shelf_is_wish ["self", "thing"] []
  F_Line_is_wish : Fun K "is_wish" "Line.is_wish" s_Line_is_wish a.f_Line_is_wish a.d_Line_is_wish
  b_Line_is_wish : Binds K a.d_Line_is_wish ["self", "thing"] []
  F_is_place : Fun K "is_place" "is_place" s_is_place a.f_is_place a.d_is_place
  b_is_place : Binds K a.d_is_place ["thing"] []
  m_is_place : mg "is_place" = some (.ref a.f_is_place)
  F_parted : Fun K "parted" "parted" s_parted a.f_parted a.d_parted
  b_parted : Binds K a.d_parted ["line"] []
  m_parted : mg "parted" = some (.ref a.f_parted)
  F_written : Fun K "written" "written" s_written a.f_written a.d_written
  b_written : Binds K a.d_written ["word"] []
  m_written : mg "written" = some (.ref a.f_written)
  F_are_figures : Fun K "are_figures" "are_figures" s_are_figures a.f_are_figures a.d_are_figures
  b_are_figures : Binds K a.d_are_figures ["text"] []
  m_are_figures : mg "are_figures" = some (.ref a.f_are_figures)
  F_world_start : Fun K "world_start" "world_start" s_world_start a.f_world_start a.d_world_start
  b_world_start : Binds K a.d_world_start ["word", "start"] []
  m_world_start : mg "world_start" = some (.ref a.f_world_start)
  F_Rule_state : Fun K "state" "Rule.state" s_Rule_state a.f_Rule_state a.d_Rule_state
  b_Rule_state : Binds K a.d_Rule_state ["self"] []
  F_rule_of : Fun K "rule_of" "rule_of" s_rule_of a.f_rule_of a.d_rule_of
  b_rule_of : Binds K a.d_rule_of ["word", "start"] []
  m_rule_of : mg "rule_of" = some (.ref a.f_rule_of)
  F_Filler_init : Fun K "__init__" "Filler.__init__" s_Filler_init a.f_Filler_init a.d_Filler_init
  b_Filler_init : Binds K a.d_Filler_init ["self", "room"] []
  F_Rule_init : Fun K "__init__" "Rule.__init__" s_Rule_init a.f_Rule_init a.d_Rule_init
  b_Rule_init : Binds K a.d_Rule_init ["self", "world", "start"] []
  F_Bags_is_state : Fun K "is_state" "Bags.is_state" s_Bags_is_state a.f_Bags_is_state a.d_Bags_is_state
  b_Bags_is_state : Binds K a.d_Bags_is_state ["self", "thing"] []
  F_Bags_init : Fun K "__init__" "Bags.__init__" s_Bags_init a.f_Bags_init a.d_Bags_init
  b_Bags_init : Binds K a.d_Bags_init ["self", "room"] []
  F_Keeper_init : Fun K "__init__" "Keeper.__init__" s_Keeper_init a.f_Keeper_init a.d_Keeper_init
  b_Keeper_init : Binds K a.d_Keeper_init ["self", "pages"] []
  F_Store_is_state : Fun K "is_state" "Store.is_state" s_Store_is_state a.f_Store_is_state a.d_Store_is_state
  b_Store_is_state : Binds K a.d_Store_is_state ["self", "thing"] []
  F_are_names : Fun K "are_names" "are_names" s_are_names a.f_are_names a.d_are_names
  b_are_names : Binds K a.d_are_names ["thing"] []
  m_are_names : mg "are_names" = some (.ref a.f_are_names)
  F_Store_init : Fun K "__init__" "Store.__init__" s_Store_init a.f_Store_init a.d_Store_init
  b_Store_init : Binds K a.d_Store_init ["self", "many"] []
  F_is_row_of_names : Fun K "is_row_of_names" "is_row_of_names" s_is_row_of_names a.f_is_row_of_names a.d_is_row_of_names
  b_is_row_of_names : Binds K a.d_is_row_of_names ["thing"] []
  m_is_row_of_names : mg "is_row_of_names" = some (.ref a.f_is_row_of_names)
  F_Changer_init : FunD K "__init__" "Changer.__init__" s_Changer_init a.f_Changer_init a.d_Changer_init a.e_Changer_init
  b_Changer_init : Binds K a.d_Changer_init ["self", "many", "toll", "start"] []
  F_Ways_is_state : Fun K "is_state" "Ways.is_state" s_Ways_is_state a.f_Ways_is_state a.d_Ways_is_state
  b_Ways_is_state : Binds K a.d_Ways_is_state ["self", "thing"] []
  F_Ways_init : Fun K "__init__" "Ways.__init__" s_Ways_init a.f_Ways_init a.d_Ways_init
  b_Ways_init : Binds K a.d_Ways_init ["self", "many", "toll"] []
  F_Buyer_init : Fun K "__init__" "Buyer.__init__" s_Buyer_init a.f_Buyer_init a.d_Buyer_init
  b_Buyer_init : Binds K a.d_Buyer_init ["self", "whole"] []
  F_Hire_is_state : Fun K "is_state" "Hire.is_state" s_Hire_is_state a.f_Hire_is_state a.d_Hire_is_state
  b_Hire_is_state : Binds K a.d_Hire_is_state ["self", "thing"] []
  F_Hire_init : Fun K "__init__" "Hire.__init__" s_Hire_init a.f_Hire_init a.d_Hire_init
  b_Hire_init : Binds K a.d_Hire_init ["self", "whole"] []
  F_Front_init : Fun K "__init__" "Front.__init__" s_Front_init a.f_Front_init a.d_Front_init
  b_Front_init : Binds K a.d_Front_init ["self", "start"] []
  F_Shelf_is_state : Fun K "is_state" "Shelf.is_state" s_Shelf_is_state a.f_Shelf_is_state a.d_Shelf_is_state
  b_Shelf_is_state : Binds K a.d_Shelf_is_state ["self", "thing"] []
  F_Shelf_init : Fun K "__init__" "Shelf.__init__" s_Shelf_init a.f_Shelf_init a.d_Shelf_init
  b_Shelf_init : Binds K a.d_Shelf_init ["self", "things"] []
  F_Both_init : Fun K "__init__" "Both.__init__" s_Both_init a.f_Both_init a.d_Both_init
  b_Both_init : Binds K a.d_Both_init ["self", "start"] []
  F_Line_is_state : Fun K "is_state" "Line.is_state" s_Line_is_state a.f_Line_is_state a.d_Line_is_state
  b_Line_is_state : Binds K a.d_Line_is_state ["self", "thing"] []
  F_line_of : Fun K "line_of" "line_of" s_line_of a.f_line_of a.d_line_of
  b_line_of : Binds K a.d_line_of ["start"] []
  m_line_of : mg "line_of" = some (.ref a.f_line_of)
  F_Line_init : Fun K "__init__" "Line.__init__" s_Line_init a.f_Line_init a.d_Line_init
  b_Line_init : Binds K a.d_Line_init ["self", "many"] []
  F_is_opening : Fun K "is_opening" "is_opening" s_is_opening a.f_is_opening a.d_is_opening
  b_is_opening : Binds K a.d_is_opening ["word", "start"] []
  m_is_opening : mg "is_opening" = some (.ref a.f_is_opening)
  F_rows_with_signs : Fun K "rows_with_signs" "rows_with_signs" s_rows_with_signs a.f_rows_with_signs a.d_rows_with_signs
  b_rows_with_signs : Binds K a.d_rows_with_signs ["text"] []
  m_rows_with_signs : mg "rows_with_signs" = some (.ref a.f_rows_with_signs)
  F_law_text : Fun K "_law_text" "_law_text" s_law_text a.f_law_text a.d_law_text
  b_law_text : Binds K a.d_law_text ["_law_script", "_law_lines_here"] []
  m_law_text : mg "_law_text" = some (.ref a.f_law_text)
  F_law_mixed : Fun K "_law_mixed" "_law_mixed" s_law_mixed a.f_law_mixed a.d_law_mixed
  b_law_mixed : Binds K a.d_law_mixed ["_law_cell_here", "_law_k"] []
  m_law_mixed : mg "_law_mixed" = some (.ref a.f_law_mixed)
  F_law_cell : Fun K "_law_cell" "_law_cell" s_law_cell a.f_law_cell a.d_law_cell
  b_law_cell : Binds K a.d_law_cell ["_law_script", "_law_k"] []
  m_law_cell : mg "_law_cell" = some (.ref a.f_law_cell)
  F_law_lines : Fun K "_law_lines" "_law_lines" s_law_lines a.f_law_lines a.d_law_lines
  b_law_lines : Binds K a.d_law_lines ["_law_word", "_law_start_here", "_law_wishes"] []
  m_law_lines : mg "_law_lines" = some (.ref a.f_law_lines)
  F_law_words : Fun K "_law_words" "_law_words" s_law_words a.f_law_words a.d_law_words
  b_law_words : Binds K a.d_law_words ["_law_thing"] []
  m_law_words : mg "_law_words" = some (.ref a.f_law_words)
  F_law_wish : Fun K "_law_wish" "_law_wish" s_law_wish a.f_law_wish a.d_law_wish
  b_law_wish : Binds K a.d_law_wish ["_law_word", "_law_start_here", "_law_cell_here", "_law_k"] []
  m_law_wish : mg "_law_wish" = some (.ref a.f_law_wish)
  F_law_amount : Fun K "_law_amount" "_law_amount" s_law_amount a.f_law_amount a.d_law_amount
  b_law_amount : Binds K a.d_law_amount ["_law_cell_here", "_law_k"] []
  m_law_amount : mg "_law_amount" = some (.ref a.f_law_amount)
  F_law_names : Fun K "_law_names" "_law_names" s_law_names a.f_law_names a.d_law_names
  b_law_names : Binds K a.d_law_names ["_law_number", "_law_many"] []
  m_law_names : mg "_law_names" = some (.ref a.f_law_names)
  F_law_place : Fun K "_law_place" "_law_place" s_law_place a.f_law_place a.d_law_place
  b_law_place : Binds K a.d_law_place ["_law_cell_here", "_law_k"] []
  m_law_place : mg "_law_place" = some (.ref a.f_law_place)
  F_law_start : Fun K "_law_start" "_law_start" s_law_start a.f_law_start a.d_law_start
  b_law_start : Binds K a.d_law_start ["_law_script"] []
  m_law_start : mg "_law_start" = some (.ref a.f_law_start)
  m_NoState : mg "NoState" = some (.ref a.c_NoState)
  m_Bound : mg "Bound" = some (.ref a.c_Bound)
  cm_Bound_init : CMeth K a.c_Bound "__init__" a.f_Rule_init
  m_Bags : mg "Bags" = some (.ref a.c_Bags)
  cl_Bags : Cls K a.c_Bags
  mk_Bags : Mk K a.c_Bags a.f_Bags_init
  na_Bags_room : NoAttr K a.c_Bags "room"
  me_Bags_is_state : Meth K a.c_Bags "is_state" a.f_Bags_is_state
  me_Bags_is_wish : Meth K a.c_Bags "is_wish" a.f_Bags_is_wish
  m_Filler : mg "Filler" = some (.ref a.c_Filler)
  cl_Filler : Cls K a.c_Filler
  mk_Filler : Mk K a.c_Filler a.f_Filler_init
  na_Filler_packed : NoAttr K a.c_Filler "packed"
  na_Filler_spent : NoAttr K a.c_Filler "spent"
  na_Filler_standing : NoAttr K a.c_Filler "standing"
  na_Filler_world : NoAttr K a.c_Filler "world"
  me_Filler_state : Meth K a.c_Filler "state" a.f_Rule_state
  m_Hire : mg "Hire" = some (.ref a.c_Hire)
  cl_Hire : Cls K a.c_Hire
  mk_Hire : Mk K a.c_Hire a.f_Hire_init
  na_Hire_whole : NoAttr K a.c_Hire "whole"
  me_Hire_is_state : Meth K a.c_Hire "is_state" a.f_Hire_is_state
  me_Hire_is_wish : Meth K a.c_Hire "is_wish" a.f_Hire_is_wish
  m_Buyer : mg "Buyer" = some (.ref a.c_Buyer)
  cl_Buyer : Cls K a.c_Buyer
  mk_Buyer : Mk K a.c_Buyer a.f_Buyer_init
  na_Buyer_spent : NoAttr K a.c_Buyer "spent"
  na_Buyer_standing : NoAttr K a.c_Buyer "standing"
  na_Buyer_world : NoAttr K a.c_Buyer "world"
  me_Buyer_state : Meth K a.c_Buyer "state" a.f_Rule_state
  m_Line : mg "Line" = some (.ref a.c_Line)
  cl_Line : Cls K a.c_Line
  mk_Line : Mk K a.c_Line a.f_Line_init
  na_Line_many : NoAttr K a.c_Line "many"
  me_Line_is_state : Meth K a.c_Line "is_state" a.f_Line_is_state
  me_Line_is_wish : Meth K a.c_Line "is_wish" a.f_Line_is_wish
  m_Both : mg "Both" = some (.ref a.c_Both)
  cl_Both : Cls K a.c_Both
  mk_Both : Mk K a.c_Both a.f_Both_init
  na_Both_spent : NoAttr K a.c_Both "spent"
  na_Both_standing : NoAttr K a.c_Both "standing"
  na_Both_world : NoAttr K a.c_Both "world"
  me_Both_state : Meth K a.c_Both "state" a.f_Rule_state
  m_Shelf : mg "Shelf" = some (.ref a.c_Shelf)
  cl_Shelf : Cls K a.c_Shelf
  mk_Shelf : Mk K a.c_Shelf a.f_Shelf_init
  na_Shelf_things : NoAttr K a.c_Shelf "things"
  me_Shelf_is_state : Meth K a.c_Shelf "is_state" a.f_Shelf_is_state
  me_Shelf_is_wish : Meth K a.c_Shelf "is_wish" a.f_Shelf_is_wish
  m_Front : mg "Front" = some (.ref a.c_Front)
  cl_Front : Cls K a.c_Front
  mk_Front : Mk K a.c_Front a.f_Front_init
  na_Front_spent : NoAttr K a.c_Front "spent"
  na_Front_standing : NoAttr K a.c_Front "standing"
  na_Front_world : NoAttr K a.c_Front "world"
  me_Front_state : Meth K a.c_Front "state" a.f_Rule_state
  m_Store : mg "Store" = some (.ref a.c_Store)
  cl_Store : Cls K a.c_Store
  mk_Store : Mk K a.c_Store a.f_Store_init
  na_Store_many : NoAttr K a.c_Store "many"
  me_Store_is_state : Meth K a.c_Store "is_state" a.f_Store_is_state
  me_Store_is_wish : Meth K a.c_Store "is_wish" a.f_Store_is_wish
  m_Keeper : mg "Keeper" = some (.ref a.c_Keeper)
  cl_Keeper : Cls K a.c_Keeper
  mk_Keeper : Mk K a.c_Keeper a.f_Keeper_init
  na_Keeper_row : NoAttr K a.c_Keeper "row"
  na_Keeper_spent : NoAttr K a.c_Keeper "spent"
  na_Keeper_standing : NoAttr K a.c_Keeper "standing"
  na_Keeper_world : NoAttr K a.c_Keeper "world"
  me_Keeper_state : Meth K a.c_Keeper "state" a.f_Rule_state
  m_Ways : mg "Ways" = some (.ref a.c_Ways)
  cl_Ways : Cls K a.c_Ways
  mk_Ways : Mk K a.c_Ways a.f_Ways_init
  na_Ways_many : NoAttr K a.c_Ways "many"
  na_Ways_toll : NoAttr K a.c_Ways "toll"
  me_Ways_is_state : Meth K a.c_Ways "is_state" a.f_Ways_is_state
  me_Ways_is_wish : Meth K a.c_Ways "is_wish" a.f_Ways_is_wish
  m_Changer : mg "Changer" = some (.ref a.c_Changer)
  cl_Changer : Cls K a.c_Changer
  mk_Changer : Mk K a.c_Changer a.f_Changer_init
  na_Changer_reckoned : NoAttr K a.c_Changer "reckoned"
  na_Changer_spent : NoAttr K a.c_Changer "spent"
  na_Changer_standing : NoAttr K a.c_Changer "standing"
  na_Changer_world : NoAttr K a.c_Changer "world"
  me_Changer_state : Meth K a.c_Changer "state" a.f_Rule_state
  n_abs : mg "abs" = none
  n_all : mg "all" = none
  n_bool : mg "bool" = none
  n_enumerate : mg "enumerate" = none
  n_int : mg "int" = none
  n_isinstance : mg "isinstance" = none
  n_len : mg "len" = none
  n_list : mg "list" = none
  n_max : mg "max" = none
  n_range : mg "range" = none
  n_set : mg "set" = none
  n_sorted : mg "sorted" = none
  n_str : mg "str" = none
  n_tuple : mg "tuple" = none
  n_zip : mg "zip" = none
  m_MOST_BAGS : mg "MOST_BAGS" = some (.int 500 a.t_MOST_BAGS)
  m_MOST_ASKS : mg "MOST_ASKS" = some (.int 200 a.t_MOST_ASKS)
  m_MOST_FIGURES : mg "MOST_FIGURES" = some (.int 19 a.t_MOST_FIGURES)
  m_FIRST_WORDS : mg "FIRST_WORDS" = some (.ref a.v_FIRST_WORDS)
  q_FIRST_WORDS : ∀ H, SqT K H a.v_FIRST_WORDS ((["line", "shelf", "hire", "ways", "store", "bags"] : List Str).map V.str)
  m_LENGTHS : mg "LENGTHS" = some (.ref a.v_LENGTHS)
  g_LENGTHS : GD w K a.v_LENGTHS [("hire", 1), ("ways", 3), ("bags", 1)]
theorem all_mk {l : PySem.W.OpenLaw} {w : World} {K : PySem.W.Frag} {h : Heap} {mg : Str → Option Value} {fa : Addr} (sp : PySem.W.Frag → Sp) (ok : ∀ (a : Adr) (base : Heap), Txt w K mg a → FnOk l.prog w K mg base (CXU l.prog w) 13 a.f_law a.d_law ["_law_script"] (sp K)) (X : K.In h) (G : h.Ns mainGlobals mg) (hfa : mg "law" = some (.ref fa))
    {f_law f_law_same f_law_whole f_law_all_same f_read_game f_asked_wishes f_asked_wish f_Bags_is_wish f_is_from_one_to f_is_whole_number f_Store_is_wish f_is_name f_Ways_is_wish f_is_amount f_Hire_is_wish f_Shelf_is_wish f_Line_is_wish f_is_place f_parted f_written f_are_figures f_world_start f_Rule_state f_rule_of f_Filler_init f_Rule_init f_Bags_is_state f_Bags_init f_Keeper_init f_Store_is_state f_are_names f_Store_init f_is_row_of_names f_Changer_init f_Ways_is_state f_Ways_init f_Buyer_init f_Hire_is_state f_Hire_init f_Front_init f_Shelf_is_state f_Shelf_init f_Both_init f_Line_is_state f_line_of f_Line_init f_is_opening f_rows_with_signs f_law_text f_law_mixed f_law_cell f_law_lines f_law_words f_law_wish f_law_amount f_law_names f_law_place f_law_start c_LateError c_NoState c_Rule c_Bound c_Bags c_Filler c_Hire c_Buyer c_Line c_Both c_Shelf c_Front c_Store c_Keeper c_Ways c_Changer v_FIRST_WORDS v_LENGTHS : Addr}
    {dk_Changer_init_0 : Tok}
    {t_MOST_BAGS : Tok}
    {t_MOST_ASKS : Tok}
    {t_MOST_FIGURES : Tok}
    {vd_FIRST_WORDS : Option Addr} {vn_FIRST_WORDS : Nat} {vs_FIRST_WORDS : Array (Option Value)} {vt_FIRST_WORDS_0 vt_FIRST_WORDS_1 vt_FIRST_WORDS_2 vt_FIRST_WORDS_3 vt_FIRST_WORDS_4 vt_FIRST_WORDS_5 : Tok}
    {vn_LENGTHS : Nat} {vk_LENGTHS_0 vu_LENGTHS_0 vk_LENGTHS_1 vu_LENGTHS_1 vk_LENGTHS_2 vu_LENGTHS_2 : Tok}
    (aC_LateError : NsC K "LateError" c_LateError)
    (aC_NoState : NsC K "NoState" c_NoState)
    (aC_Rule : NsC K "Rule" c_Rule)
    (aC_Bound : NsC K "Bound" c_Bound)
    (aC_Bags : NsC K "Bags" c_Bags)
    (aC_Filler : NsC K "Filler" c_Filler)
    (aC_Hire : NsC K "Hire" c_Hire)
    (aC_Buyer : NsC K "Buyer" c_Buyer)
    (aC_Line : NsC K "Line" c_Line)
    (aC_Both : NsC K "Both" c_Both)
    (aC_Shelf : NsC K "Shelf" c_Shelf)
    (aC_Front : NsC K "Front" c_Front)
    (aC_Store : NsC K "Store" c_Store)
    (aC_Keeper : NsC K "Keeper" c_Keeper)
    (aC_Ways : NsC K "Ways" c_Ways)
    (aC_Changer : NsC K "Changer" c_Changer)
    (l_law : FnN K "law" s_law f_law)
    (l_law_same : FnN K "_law_same" s_law_same f_law_same)
    (l_law_whole : FnN K "_law_whole" s_law_whole f_law_whole)
    (l_law_all_same : FnN K "_law_all_same" s_law_all_same f_law_all_same)
    (l_read_game : FnN K "read_game" s_read_game f_read_game)
    (l_asked_wishes : FnN K "asked_wishes" s_asked_wishes f_asked_wishes)
    (l_asked_wish : FnN K "asked_wish" s_asked_wish f_asked_wish)
    (l_Bags_is_wish : FnM K c_Bags "is_wish" "Bags.is_wish" s_Bags_is_wish f_Bags_is_wish)
    (l_is_from_one_to : FnN K "is_from_one_to" s_is_from_one_to f_is_from_one_to)
    (l_is_whole_number : FnN K "is_whole_number" s_is_whole_number f_is_whole_number)
    (l_Store_is_wish : FnM K c_Store "is_wish" "Store.is_wish" s_Store_is_wish f_Store_is_wish)
    (l_is_name : FnN K "is_name" s_is_name f_is_name)
    (l_Ways_is_wish : FnM K c_Ways "is_wish" "Ways.is_wish" s_Ways_is_wish f_Ways_is_wish)
    (l_is_amount : FnN K "is_amount" s_is_amount f_is_amount)
    (l_Hire_is_wish : FnM K c_Hire "is_wish" "Hire.is_wish" s_Hire_is_wish f_Hire_is_wish)
    (l_Shelf_is_wish : FnM K c_Shelf "is_wish" "Shelf.is_wish" s_Shelf_is_wish f_Shelf_is_wish)
    (l_Line_is_wish : FnM K c_Line "is_wish" "Line.is_wish" s_Line_is_wish f_Line_is_wish)
    (l_is_place : FnN K "is_place" s_is_place f_is_place)
    (l_parted : FnN K "parted" s_parted f_parted)
    (l_written : FnN K "written" s_written f_written)
    (l_are_figures : FnN K "are_figures" s_are_figures f_are_figures)
    (l_world_start : FnN K "world_start" s_world_start f_world_start)
    (l_Rule_state : FnM K c_Rule "state" "Rule.state" s_Rule_state f_Rule_state)
    (l_rule_of : FnN K "rule_of" s_rule_of f_rule_of)
    (l_Filler_init : FnM K c_Filler "__init__" "Filler.__init__" s_Filler_init f_Filler_init)
    (l_Rule_init : FnM K c_Rule "__init__" "Rule.__init__" s_Rule_init f_Rule_init)
    (l_Bags_is_state : FnM K c_Bags "is_state" "Bags.is_state" s_Bags_is_state f_Bags_is_state)
    (l_Bags_init : FnM K c_Bags "__init__" "Bags.__init__" s_Bags_init f_Bags_init)
    (l_Keeper_init : FnM K c_Keeper "__init__" "Keeper.__init__" s_Keeper_init f_Keeper_init)
    (l_Store_is_state : FnM K c_Store "is_state" "Store.is_state" s_Store_is_state f_Store_is_state)
    (l_are_names : FnN K "are_names" s_are_names f_are_names)
    (l_Store_init : FnM K c_Store "__init__" "Store.__init__" s_Store_init f_Store_init)
    (l_is_row_of_names : FnN K "is_row_of_names" s_is_row_of_names f_is_row_of_names)
    (l_Changer_init : PySem.W.findIn K (.ref c_Changer) "__init__" = some (some (.ref f_Changer_init)) ∧ ∃ fd, FunD K "__init__" "Changer.__init__" s_Changer_init f_Changer_init fd [.int 0 dk_Changer_init_0])
    (l_Ways_is_state : FnM K c_Ways "is_state" "Ways.is_state" s_Ways_is_state f_Ways_is_state)
    (l_Ways_init : FnM K c_Ways "__init__" "Ways.__init__" s_Ways_init f_Ways_init)
    (l_Buyer_init : FnM K c_Buyer "__init__" "Buyer.__init__" s_Buyer_init f_Buyer_init)
    (l_Hire_is_state : FnM K c_Hire "is_state" "Hire.is_state" s_Hire_is_state f_Hire_is_state)
    (l_Hire_init : FnM K c_Hire "__init__" "Hire.__init__" s_Hire_init f_Hire_init)
    (l_Front_init : FnM K c_Front "__init__" "Front.__init__" s_Front_init f_Front_init)
    (l_Shelf_is_state : FnM K c_Shelf "is_state" "Shelf.is_state" s_Shelf_is_state f_Shelf_is_state)
    (l_Shelf_init : FnM K c_Shelf "__init__" "Shelf.__init__" s_Shelf_init f_Shelf_init)
    (l_Both_init : FnM K c_Both "__init__" "Both.__init__" s_Both_init f_Both_init)
    (l_Line_is_state : FnM K c_Line "is_state" "Line.is_state" s_Line_is_state f_Line_is_state)
    (l_line_of : FnN K "line_of" s_line_of f_line_of)
    (l_Line_init : FnM K c_Line "__init__" "Line.__init__" s_Line_init f_Line_init)
    (l_is_opening : FnN K "is_opening" s_is_opening f_is_opening)
    (l_rows_with_signs : FnN K "rows_with_signs" s_rows_with_signs f_rows_with_signs)
    (l_law_text : FnN K "_law_text" s_law_text f_law_text)
    (l_law_mixed : FnN K "_law_mixed" s_law_mixed f_law_mixed)
    (l_law_cell : FnN K "_law_cell" s_law_cell f_law_cell)
    (l_law_lines : FnN K "_law_lines" s_law_lines f_law_lines)
    (l_law_words : FnN K "_law_words" s_law_words f_law_words)
    (l_law_wish : FnN K "_law_wish" s_law_wish f_law_wish)
    (l_law_amount : FnN K "_law_amount" s_law_amount f_law_amount)
    (l_law_names : FnN K "_law_names" s_law_names f_law_names)
    (l_law_place : FnN K "_law_place" s_law_place f_law_place)
    (l_law_start : FnN K "_law_start" s_law_start f_law_start)
    (cm_Bound_init : CMeth K c_Bound "__init__" f_Rule_init)
    (cl_Bags : Cls K c_Bags)
    (mk_Bags : Mk K c_Bags f_Bags_init)
    (na_Bags_room : NoAttr K c_Bags "room")
    (me_Bags_is_state : Meth K c_Bags "is_state" f_Bags_is_state)
    (me_Bags_is_wish : Meth K c_Bags "is_wish" f_Bags_is_wish)
    (cl_Filler : Cls K c_Filler)
    (mk_Filler : Mk K c_Filler f_Filler_init)
    (na_Filler_packed : NoAttr K c_Filler "packed")
    (na_Filler_spent : NoAttr K c_Filler "spent")
    (na_Filler_standing : NoAttr K c_Filler "standing")
    (na_Filler_world : NoAttr K c_Filler "world")
    (me_Filler_state : Meth K c_Filler "state" f_Rule_state)
    (cl_Hire : Cls K c_Hire)
    (mk_Hire : Mk K c_Hire f_Hire_init)
    (na_Hire_whole : NoAttr K c_Hire "whole")
    (me_Hire_is_state : Meth K c_Hire "is_state" f_Hire_is_state)
    (me_Hire_is_wish : Meth K c_Hire "is_wish" f_Hire_is_wish)
    (cl_Buyer : Cls K c_Buyer)
    (mk_Buyer : Mk K c_Buyer f_Buyer_init)
    (na_Buyer_spent : NoAttr K c_Buyer "spent")
    (na_Buyer_standing : NoAttr K c_Buyer "standing")
    (na_Buyer_world : NoAttr K c_Buyer "world")
    (me_Buyer_state : Meth K c_Buyer "state" f_Rule_state)
    (cl_Line : Cls K c_Line)
    (mk_Line : Mk K c_Line f_Line_init)
    (na_Line_many : NoAttr K c_Line "many")
    (me_Line_is_state : Meth K c_Line "is_state" f_Line_is_state)
    (me_Line_is_wish : Meth K c_Line "is_wish" f_Line_is_wish)
    (cl_Both : Cls K c_Both)
    (mk_Both : Mk K c_Both f_Both_init)
    (na_Both_spent : NoAttr K c_Both "spent")
    (na_Both_standing : NoAttr K c_Both "standing")
    (na_Both_world : NoAttr K c_Both "world")
    (me_Both_state : Meth K c_Both "state" f_Rule_state)
    (cl_Shelf : Cls K c_Shelf)
    (mk_Shelf : Mk K c_Shelf f_Shelf_init)
    (na_Shelf_things : NoAttr K c_Shelf "things")
    (me_Shelf_is_state : Meth K c_Shelf "is_state" f_Shelf_is_state)
    (me_Shelf_is_wish : Meth K c_Shelf "is_wish" f_Shelf_is_wish)
    (cl_Front : Cls K c_Front)
    (mk_Front : Mk K c_Front f_Front_init)
    (na_Front_spent : NoAttr K c_Front "spent")
    (na_Front_standing : NoAttr K c_Front "standing")
    (na_Front_world : NoAttr K c_Front "world")
    (me_Front_state : Meth K c_Front "state" f_Rule_state)
    (cl_Store : Cls K c_Store)
    (mk_Store : Mk K c_Store f_Store_init)
    (na_Store_many : NoAttr K c_Store "many")
    (me_Store_is_state : Meth K c_Store "is_state" f_Store_is_state)
    (me_Store_is_wish : Meth K c_Store "is_wish" f_Store_is_wish)
    (cl_Keeper : Cls K c_Keeper)
    (mk_Keeper : Mk K c_Keeper f_Keeper_init)
    (na_Keeper_row : NoAttr K c_Keeper "row")
    (na_Keeper_spent : NoAttr K c_Keeper "spent")
    (na_Keeper_standing : NoAttr K c_Keeper "standing")
    (na_Keeper_world : NoAttr K c_Keeper "world")
    (me_Keeper_state : Meth K c_Keeper "state" f_Rule_state)
    (cl_Ways : Cls K c_Ways)
    (mk_Ways : Mk K c_Ways f_Ways_init)
    (na_Ways_many : NoAttr K c_Ways "many")
    (na_Ways_toll : NoAttr K c_Ways "toll")
    (me_Ways_is_state : Meth K c_Ways "is_state" f_Ways_is_state)
    (me_Ways_is_wish : Meth K c_Ways "is_wish" f_Ways_is_wish)
    (cl_Changer : Cls K c_Changer)
    (mk_Changer : Mk K c_Changer f_Changer_init)
    (na_Changer_reckoned : NoAttr K c_Changer "reckoned")
    (na_Changer_spent : NoAttr K c_Changer "spent")
    (na_Changer_standing : NoAttr K c_Changer "standing")
    (na_Changer_world : NoAttr K c_Changer "world")
    (me_Changer_state : Meth K c_Changer "state" f_Rule_state)
    (z_abs : NsB K "abs")
    (z_all : NsB K "all")
    (z_bool : NsB K "bool")
    (z_enumerate : NsB K "enumerate")
    (z_int : NsB K "int")
    (z_isinstance : NsB K "isinstance")
    (z_len : NsB K "len")
    (z_list : NsB K "list")
    (z_max : NsB K "max")
    (z_range : NsB K "range")
    (z_set : NsB K "set")
    (z_sorted : NsB K "sorted")
    (z_str : NsB K "str")
    (z_tuple : NsB K "tuple")
    (z_zip : NsB K "zip")
    (zk_MOST_BAGS : PySem.W.nsIn K mainGlobals "MOST_BAGS" = some (some (.int 500 t_MOST_BAGS)))
    (zk_MOST_ASKS : PySem.W.nsIn K mainGlobals "MOST_ASKS" = some (some (.int 200 t_MOST_ASKS)))
    (zk_MOST_FIGURES : PySem.W.nsIn K mainGlobals "MOST_FIGURES" = some (some (.int 19 t_MOST_FIGURES)))
    (va_FIRST_WORDS : NsC K "FIRST_WORDS" v_FIRST_WORDS)
    (vl_FIRST_WORDS : K.lookup v_FIRST_WORDS = some ⟨.type "tuple", vd_FIRST_WORDS, .seq ([.str "line" vt_FIRST_WORDS_0, .str "shelf" vt_FIRST_WORDS_1, .str "hire" vt_FIRST_WORDS_2, .str "ways" vt_FIRST_WORDS_3, .str "store" vt_FIRST_WORDS_4, .str "bags" vt_FIRST_WORDS_5] : List Value).toArray vn_FIRST_WORDS, vs_FIRST_WORDS⟩)
    (va_LENGTHS : NsC K "LENGTHS" v_LENGTHS)
    (vl_LENGTHS : K.lookup v_LENGTHS = some { cls := .type "dict", dict := none, data := .dict #[⟨PyData.keyHash w.params "hire", .str "hire" vk_LENGTHS_0, .int 1 vu_LENGTHS_0⟩, ⟨PyData.keyHash w.params "ways", .str "ways" vk_LENGTHS_1, .int 3 vu_LENGTHS_1⟩, ⟨PyData.keyHash w.params "bags", .str "bags" vk_LENGTHS_2, .int 1 vu_LENGTHS_2⟩] vn_LENGTHS, slots := #[] })
    (vs_LENGTHS : (v_LENGTHS == sysModules) = false) :
    ∃ fd : FuncData, (∀ (s : Shared) (v : Value), BindsTo s fd ⟨[v], []⟩ [("_law_script", v)]) ∧ ∀ base : Heap, K.In base → base.Ns mainGlobals mg → FnOk l.prog w K mg base (CXU l.prog w) 13 fa fd ["_law_script"] (sp K) := by
  obtain ⟨a_law, d_law, F_law⟩ := l_law
  have b_law := F_law.binds (ps := ["_law_script"]) fun _ _ _ _ _ _ us hl => match us, hl with | [_], _ => rfl
  obtain ⟨a_law_same, d_law_same, F_law_same⟩ := l_law_same
  have b_law_same := F_law_same.binds (ps := ["_law_found", "_law_due"]) fun _ _ _ _ _ _ us hl => match us, hl with | [_, _], _ => rfl
  obtain ⟨a_law_whole, d_law_whole, F_law_whole⟩ := l_law_whole
  have b_law_whole := F_law_whole.binds (ps := ["_law_found"]) fun _ _ _ _ _ _ us hl => match us, hl with | [_], _ => rfl
  obtain ⟨a_law_all_same, d_law_all_same, F_law_all_same⟩ := l_law_all_same
  have b_law_all_same := F_law_all_same.binds (ps := ["_law_found", "_law_due"]) fun _ _ _ _ _ _ us hl => match us, hl with | [_, _], _ => rfl
  obtain ⟨a_read_game, d_read_game, F_read_game⟩ := l_read_game
  have b_read_game := F_read_game.binds (ps := ["text"]) fun _ _ _ _ _ _ us hl => match us, hl with | [_], _ => rfl
  obtain ⟨a_asked_wishes, d_asked_wishes, F_asked_wishes⟩ := l_asked_wishes
  have b_asked_wishes := F_asked_wishes.binds (ps := ["word", "world", "rows"]) fun _ _ _ _ _ _ us hl => match us, hl with | [_, _, _], _ => rfl
  obtain ⟨a_asked_wish, d_asked_wish, F_asked_wish⟩ := l_asked_wish
  have b_asked_wish := F_asked_wish.binds (ps := ["word", "world", "line"]) fun _ _ _ _ _ _ us hl => match us, hl with | [_, _, _], _ => rfl
  obtain ⟨a_Bags_is_wish, d_Bags_is_wish, F_Bags_is_wish⟩ := l_Bags_is_wish
  have b_Bags_is_wish := F_Bags_is_wish.binds (ps := ["self", "thing"]) fun _ _ _ _ _ _ us hl => match us, hl with | [_, _], _ => rfl
  obtain ⟨a_is_from_one_to, d_is_from_one_to, F_is_from_one_to⟩ := l_is_from_one_to
  have b_is_from_one_to := F_is_from_one_to.binds (ps := ["thing", "most"]) fun _ _ _ _ _ _ us hl => match us, hl with | [_, _], _ => rfl
  obtain ⟨a_is_whole_number, d_is_whole_number, F_is_whole_number⟩ := l_is_whole_number
  have b_is_whole_number := F_is_whole_number.binds (ps := ["thing"]) fun _ _ _ _ _ _ us hl => match us, hl with | [_], _ => rfl
  obtain ⟨a_Store_is_wish, d_Store_is_wish, F_Store_is_wish⟩ := l_Store_is_wish
  have b_Store_is_wish := F_Store_is_wish.binds (ps := ["self", "thing"]) fun _ _ _ _ _ _ us hl => match us, hl with | [_, _], _ => rfl
  obtain ⟨a_is_name, d_is_name, F_is_name⟩ := l_is_name
  have b_is_name := F_is_name.binds (ps := ["thing"]) fun _ _ _ _ _ _ us hl => match us, hl with | [_], _ => rfl
  obtain ⟨a_Ways_is_wish, d_Ways_is_wish, F_Ways_is_wish⟩ := l_Ways_is_wish
  have b_Ways_is_wish := F_Ways_is_wish.binds (ps := ["self", "thing"]) fun _ _ _ _ _ _ us hl => match us, hl with | [_, _], _ => rfl
  obtain ⟨a_is_amount, d_is_amount, F_is_amount⟩ := l_is_amount
  have b_is_amount := F_is_amount.binds (ps := ["thing"]) fun _ _ _ _ _ _ us hl => match us, hl with | [_], _ => rfl
  obtain ⟨a_Hire_is_wish, d_Hire_is_wish, F_Hire_is_wish⟩ := l_Hire_is_wish
  have b_Hire_is_wish := F_Hire_is_wish.binds (ps := ["self", "thing"]) fun _ _ _ _ _ _ us hl => match us, hl with | [_, _], _ => rfl
  obtain ⟨a_Shelf_is_wish, d_Shelf_is_wish, F_Shelf_is_wish⟩ := l_Shelf_is_wish
  have b_Shelf_is_wish := F_Shelf_is_wish.binds (ps := ["self", "thing"]) fun _ _ _ _ _ _ us hl => match us, hl with | [_, _], _ => rfl
  obtain ⟨a_Line_is_wish, d_Line_is_wish, F_Line_is_wish⟩ := l_Line_is_wish
  have b_Line_is_wish := F_Line_is_wish.binds (ps := ["self", "thing"]) fun _ _ _ _ _ _ us hl => match us, hl with | [_, _], _ => rfl
  obtain ⟨a_is_place, d_is_place, F_is_place⟩ := l_is_place
  have b_is_place := F_is_place.binds (ps := ["thing"]) fun _ _ _ _ _ _ us hl => match us, hl with | [_], _ => rfl
  obtain ⟨a_parted, d_parted, F_parted⟩ := l_parted
  have b_parted := F_parted.binds (ps := ["line"]) fun _ _ _ _ _ _ us hl => match us, hl with | [_], _ => rfl
  obtain ⟨a_written, d_written, F_written⟩ := l_written
  have b_written := F_written.binds (ps := ["word"]) fun _ _ _ _ _ _ us hl => match us, hl with | [_], _ => rfl
  obtain ⟨a_are_figures, d_are_figures, F_are_figures⟩ := l_are_figures
  have b_are_figures := F_are_figures.binds (ps := ["text"]) fun _ _ _ _ _ _ us hl => match us, hl with | [_], _ => rfl
  obtain ⟨a_world_start, d_world_start, F_world_start⟩ := l_world_start
  have b_world_start := F_world_start.binds (ps := ["word", "start"]) fun _ _ _ _ _ _ us hl => match us, hl with | [_, _], _ => rfl
  obtain ⟨a_Rule_state, d_Rule_state, F_Rule_state⟩ := l_Rule_state
  have b_Rule_state := F_Rule_state.binds (ps := ["self"]) fun _ _ _ _ _ _ us hl => match us, hl with | [_], _ => rfl
  obtain ⟨a_rule_of, d_rule_of, F_rule_of⟩ := l_rule_of
  have b_rule_of := F_rule_of.binds (ps := ["word", "start"]) fun _ _ _ _ _ _ us hl => match us, hl with | [_, _], _ => rfl
  obtain ⟨a_Filler_init, d_Filler_init, F_Filler_init⟩ := l_Filler_init
  have b_Filler_init := F_Filler_init.binds (ps := ["self", "room"]) fun _ _ _ _ _ _ us hl => match us, hl with | [_, _], _ => rfl
  obtain ⟨a_Rule_init, d_Rule_init, F_Rule_init⟩ := l_Rule_init
  have b_Rule_init := F_Rule_init.binds (ps := ["self", "world", "start"]) fun _ _ _ _ _ _ us hl => match us, hl with | [_, _, _], _ => rfl
  obtain ⟨a_Bags_is_state, d_Bags_is_state, F_Bags_is_state⟩ := l_Bags_is_state
  have b_Bags_is_state := F_Bags_is_state.binds (ps := ["self", "thing"]) fun _ _ _ _ _ _ us hl => match us, hl with | [_, _], _ => rfl
  obtain ⟨a_Bags_init, d_Bags_init, F_Bags_init⟩ := l_Bags_init
  have b_Bags_init := F_Bags_init.binds (ps := ["self", "room"]) fun _ _ _ _ _ _ us hl => match us, hl with | [_, _], _ => rfl
  obtain ⟨a_Keeper_init, d_Keeper_init, F_Keeper_init⟩ := l_Keeper_init
  have b_Keeper_init := F_Keeper_init.binds (ps := ["self", "pages"]) fun _ _ _ _ _ _ us hl => match us, hl with | [_, _], _ => rfl
  obtain ⟨a_Store_is_state, d_Store_is_state, F_Store_is_state⟩ := l_Store_is_state
  have b_Store_is_state := F_Store_is_state.binds (ps := ["self", "thing"]) fun _ _ _ _ _ _ us hl => match us, hl with | [_, _], _ => rfl
  obtain ⟨a_are_names, d_are_names, F_are_names⟩ := l_are_names
  have b_are_names := F_are_names.binds (ps := ["thing"]) fun _ _ _ _ _ _ us hl => match us, hl with | [_], _ => rfl
  obtain ⟨a_Store_init, d_Store_init, F_Store_init⟩ := l_Store_init
  have b_Store_init := F_Store_init.binds (ps := ["self", "many"]) fun _ _ _ _ _ _ us hl => match us, hl with | [_, _], _ => rfl
  obtain ⟨a_is_row_of_names, d_is_row_of_names, F_is_row_of_names⟩ := l_is_row_of_names
  have b_is_row_of_names := F_is_row_of_names.binds (ps := ["thing"]) fun _ _ _ _ _ _ us hl => match us, hl with | [_], _ => rfl
  obtain ⟨a_Changer_init, d_Changer_init, F_Changer_init⟩ := l_Changer_init
  have b_Changer_init := F_Changer_init.binds (ps := ["self", "many", "toll", "start"]) (es := []) fun _ _ _ _ _ _ _ us hl => match us, hl with | [_, _, _, _], _ => ⟨_, rfl, rfl⟩
  obtain ⟨a_Ways_is_state, d_Ways_is_state, F_Ways_is_state⟩ := l_Ways_is_state
  have b_Ways_is_state := F_Ways_is_state.binds (ps := ["self", "thing"]) fun _ _ _ _ _ _ us hl => match us, hl with | [_, _], _ => rfl
  obtain ⟨a_Ways_init, d_Ways_init, F_Ways_init⟩ := l_Ways_init
  have b_Ways_init := F_Ways_init.binds (ps := ["self", "many", "toll"]) fun _ _ _ _ _ _ us hl => match us, hl with | [_, _, _], _ => rfl
  obtain ⟨a_Buyer_init, d_Buyer_init, F_Buyer_init⟩ := l_Buyer_init
  have b_Buyer_init := F_Buyer_init.binds (ps := ["self", "whole"]) fun _ _ _ _ _ _ us hl => match us, hl with | [_, _], _ => rfl
  obtain ⟨a_Hire_is_state, d_Hire_is_state, F_Hire_is_state⟩ := l_Hire_is_state
  have b_Hire_is_state := F_Hire_is_state.binds (ps := ["self", "thing"]) fun _ _ _ _ _ _ us hl => match us, hl with | [_, _], _ => rfl
  obtain ⟨a_Hire_init, d_Hire_init, F_Hire_init⟩ := l_Hire_init
  have b_Hire_init := F_Hire_init.binds (ps := ["self", "whole"]) fun _ _ _ _ _ _ us hl => match us, hl with | [_, _], _ => rfl
  obtain ⟨a_Front_init, d_Front_init, F_Front_init⟩ := l_Front_init
  have b_Front_init := F_Front_init.binds (ps := ["self", "start"]) fun _ _ _ _ _ _ us hl => match us, hl with | [_, _], _ => rfl
  obtain ⟨a_Shelf_is_state, d_Shelf_is_state, F_Shelf_is_state⟩ := l_Shelf_is_state
  have b_Shelf_is_state := F_Shelf_is_state.binds (ps := ["self", "thing"]) fun _ _ _ _ _ _ us hl => match us, hl with | [_, _], _ => rfl
  obtain ⟨a_Shelf_init, d_Shelf_init, F_Shelf_init⟩ := l_Shelf_init
  have b_Shelf_init := F_Shelf_init.binds (ps := ["self", "things"]) fun _ _ _ _ _ _ us hl => match us, hl with | [_, _], _ => rfl
  obtain ⟨a_Both_init, d_Both_init, F_Both_init⟩ := l_Both_init
  have b_Both_init := F_Both_init.binds (ps := ["self", "start"]) fun _ _ _ _ _ _ us hl => match us, hl with | [_, _], _ => rfl
  obtain ⟨a_Line_is_state, d_Line_is_state, F_Line_is_state⟩ := l_Line_is_state
  have b_Line_is_state := F_Line_is_state.binds (ps := ["self", "thing"]) fun _ _ _ _ _ _ us hl => match us, hl with | [_, _], _ => rfl
  obtain ⟨a_line_of, d_line_of, F_line_of⟩ := l_line_of
  have b_line_of := F_line_of.binds (ps := ["start"]) fun _ _ _ _ _ _ us hl => match us, hl with | [_], _ => rfl
  obtain ⟨a_Line_init, d_Line_init, F_Line_init⟩ := l_Line_init
  have b_Line_init := F_Line_init.binds (ps := ["self", "many"]) fun _ _ _ _ _ _ us hl => match us, hl with | [_, _], _ => rfl
  obtain ⟨a_is_opening, d_is_opening, F_is_opening⟩ := l_is_opening
  have b_is_opening := F_is_opening.binds (ps := ["word", "start"]) fun _ _ _ _ _ _ us hl => match us, hl with | [_, _], _ => rfl
  obtain ⟨a_rows_with_signs, d_rows_with_signs, F_rows_with_signs⟩ := l_rows_with_signs
  have b_rows_with_signs := F_rows_with_signs.binds (ps := ["text"]) fun _ _ _ _ _ _ us hl => match us, hl with | [_], _ => rfl
  obtain ⟨a_law_text, d_law_text, F_law_text⟩ := l_law_text
  have b_law_text := F_law_text.binds (ps := ["_law_script", "_law_lines_here"]) fun _ _ _ _ _ _ us hl => match us, hl with | [_, _], _ => rfl
  obtain ⟨a_law_mixed, d_law_mixed, F_law_mixed⟩ := l_law_mixed
  have b_law_mixed := F_law_mixed.binds (ps := ["_law_cell_here", "_law_k"]) fun _ _ _ _ _ _ us hl => match us, hl with | [_, _], _ => rfl
  obtain ⟨a_law_cell, d_law_cell, F_law_cell⟩ := l_law_cell
  have b_law_cell := F_law_cell.binds (ps := ["_law_script", "_law_k"]) fun _ _ _ _ _ _ us hl => match us, hl with | [_, _], _ => rfl
  obtain ⟨a_law_lines, d_law_lines, F_law_lines⟩ := l_law_lines
  have b_law_lines := F_law_lines.binds (ps := ["_law_word", "_law_start_here", "_law_wishes"]) fun _ _ _ _ _ _ us hl => match us, hl with | [_, _, _], _ => rfl
  obtain ⟨a_law_words, d_law_words, F_law_words⟩ := l_law_words
  have b_law_words := F_law_words.binds (ps := ["_law_thing"]) fun _ _ _ _ _ _ us hl => match us, hl with | [_], _ => rfl
  obtain ⟨a_law_wish, d_law_wish, F_law_wish⟩ := l_law_wish
  have b_law_wish := F_law_wish.binds (ps := ["_law_word", "_law_start_here", "_law_cell_here", "_law_k"]) fun _ _ _ _ _ _ us hl => match us, hl with | [_, _, _, _], _ => rfl
  obtain ⟨a_law_amount, d_law_amount, F_law_amount⟩ := l_law_amount
  have b_law_amount := F_law_amount.binds (ps := ["_law_cell_here", "_law_k"]) fun _ _ _ _ _ _ us hl => match us, hl with | [_, _], _ => rfl
  obtain ⟨a_law_names, d_law_names, F_law_names⟩ := l_law_names
  have b_law_names := F_law_names.binds (ps := ["_law_number", "_law_many"]) fun _ _ _ _ _ _ us hl => match us, hl with | [_, _], _ => rfl
  obtain ⟨a_law_place, d_law_place, F_law_place⟩ := l_law_place
  have b_law_place := F_law_place.binds (ps := ["_law_cell_here", "_law_k"]) fun _ _ _ _ _ _ us hl => match us, hl with | [_, _], _ => rfl
  obtain ⟨a_law_start, d_law_start, F_law_start⟩ := l_law_start
  have b_law_start := F_law_start.binds (ps := ["_law_script"]) fun _ _ _ _ _ _ us hl => match us, hl with | [_], _ => rfl
  have e := hfa.symm.trans (PySem.W.mg_of X G a_law)
  cases e
  have T : Txt w K mg ⟨fa, d_law, f_law_same, d_law_same, f_law_whole, d_law_whole, f_law_all_same, d_law_all_same, f_read_game, d_read_game, f_asked_wishes, d_asked_wishes, f_asked_wish, d_asked_wish, f_Bags_is_wish, d_Bags_is_wish, f_is_from_one_to, d_is_from_one_to, f_is_whole_number, d_is_whole_number, f_Store_is_wish, d_Store_is_wish, f_is_name, d_is_name, f_Ways_is_wish, d_Ways_is_wish, f_is_amount, d_is_amount, f_Hire_is_wish, d_Hire_is_wish, f_Shelf_is_wish, d_Shelf_is_wish, f_Line_is_wish, d_Line_is_wish, f_is_place, d_is_place, f_parted, d_parted, f_written, d_written, f_are_figures, d_are_figures, f_world_start, d_world_start, f_Rule_state, d_Rule_state, f_rule_of, d_rule_of, f_Filler_init, d_Filler_init, f_Rule_init, d_Rule_init, f_Bags_is_state, d_Bags_is_state, f_Bags_init, d_Bags_init, f_Keeper_init, d_Keeper_init, f_Store_is_state, d_Store_is_state, f_are_names, d_are_names, f_Store_init, d_Store_init, f_is_row_of_names, d_is_row_of_names, f_Changer_init, d_Changer_init, _, f_Ways_is_state, d_Ways_is_state, f_Ways_init, d_Ways_init, f_Buyer_init, d_Buyer_init, f_Hire_is_state, d_Hire_is_state, f_Hire_init, d_Hire_init, f_Front_init, d_Front_init, f_Shelf_is_state, d_Shelf_is_state, f_Shelf_init, d_Shelf_init, f_Both_init, d_Both_init, f_Line_is_state, d_Line_is_state, f_line_of, d_line_of, f_Line_init, d_Line_init, f_is_opening, d_is_opening, f_rows_with_signs, d_rows_with_signs, f_law_text, d_law_text, f_law_mixed, d_law_mixed, f_law_cell, d_law_cell, f_law_lines, d_law_lines, f_law_words, d_law_words, f_law_wish, d_law_wish, f_law_amount, d_law_amount, f_law_names, d_law_names, f_law_place, d_law_place, f_law_start, d_law_start, c_LateError, c_NoState, c_Rule, c_Bound, c_Bags, c_Filler, c_Hire, c_Buyer, c_Line, c_Both, c_Shelf, c_Front, c_Store, c_Keeper, c_Ways, c_Changer, _, _, _, v_FIRST_WORDS, v_LENGTHS⟩ := ⟨F_law, b_law, PySem.W.mg_of X G a_law, F_law_same, b_law_same, PySem.W.mg_of X G a_law_same, F_law_whole, b_law_whole, PySem.W.mg_of X G a_law_whole, F_law_all_same, b_law_all_same, PySem.W.mg_of X G a_law_all_same, F_read_game, b_read_game, PySem.W.mg_of X G a_read_game, F_asked_wishes, b_asked_wishes, PySem.W.mg_of X G a_asked_wishes, F_asked_wish, b_asked_wish, PySem.W.mg_of X G a_asked_wish, F_Bags_is_wish, b_Bags_is_wish, F_is_from_one_to, b_is_from_one_to, PySem.W.mg_of X G a_is_from_one_to, F_is_whole_number, b_is_whole_number, PySem.W.mg_of X G a_is_whole_number, F_Store_is_wish, b_Store_is_wish, F_is_name, b_is_name, PySem.W.mg_of X G a_is_name, F_Ways_is_wish, b_Ways_is_wish, F_is_amount, b_is_amount, PySem.W.mg_of X G a_is_amount, F_Hire_is_wish, b_Hire_is_wish, F_Shelf_is_wish, b_Shelf_is_wish, F_Line_is_wish, b_Line_is_wish, F_is_place, b_is_place, PySem.W.mg_of X G a_is_place, F_parted, b_parted, PySem.W.mg_of X G a_parted, F_written, b_written, PySem.W.mg_of X G a_written, F_are_figures, b_are_figures, PySem.W.mg_of X G a_are_figures, F_world_start, b_world_start, PySem.W.mg_of X G a_world_start, F_Rule_state, b_Rule_state, F_rule_of, b_rule_of, PySem.W.mg_of X G a_rule_of, F_Filler_init, b_Filler_init, F_Rule_init, b_Rule_init, F_Bags_is_state, b_Bags_is_state, F_Bags_init, b_Bags_init, F_Keeper_init, b_Keeper_init, F_Store_is_state, b_Store_is_state, F_are_names, b_are_names, PySem.W.mg_of X G a_are_names, F_Store_init, b_Store_init, F_is_row_of_names, b_is_row_of_names, PySem.W.mg_of X G a_is_row_of_names, F_Changer_init, b_Changer_init, F_Ways_is_state, b_Ways_is_state, F_Ways_init, b_Ways_init, F_Buyer_init, b_Buyer_init, F_Hire_is_state, b_Hire_is_state, F_Hire_init, b_Hire_init, F_Front_init, b_Front_init, F_Shelf_is_state, b_Shelf_is_state, F_Shelf_init, b_Shelf_init, F_Both_init, b_Both_init, F_Line_is_state, b_Line_is_state, F_line_of, b_line_of, PySem.W.mg_of X G a_line_of, F_Line_init, b_Line_init, F_is_opening, b_is_opening, PySem.W.mg_of X G a_is_opening, F_rows_with_signs, b_rows_with_signs, PySem.W.mg_of X G a_rows_with_signs, F_law_text, b_law_text, PySem.W.mg_of X G a_law_text, F_law_mixed, b_law_mixed, PySem.W.mg_of X G a_law_mixed, F_law_cell, b_law_cell, PySem.W.mg_of X G a_law_cell, F_law_lines, b_law_lines, PySem.W.mg_of X G a_law_lines, F_law_words, b_law_words, PySem.W.mg_of X G a_law_words, F_law_wish, b_law_wish, PySem.W.mg_of X G a_law_wish, F_law_amount, b_law_amount, PySem.W.mg_of X G a_law_amount, F_law_names, b_law_names, PySem.W.mg_of X G a_law_names, F_law_place, b_law_place, PySem.W.mg_of X G a_law_place, F_law_start, b_law_start, PySem.W.mg_of X G a_law_start, PySem.W.mg_of X G aC_NoState, PySem.W.mg_of X G aC_Bound, cm_Bound_init, PySem.W.mg_of X G aC_Bags, cl_Bags, mk_Bags, na_Bags_room, me_Bags_is_state, me_Bags_is_wish, PySem.W.mg_of X G aC_Filler, cl_Filler, mk_Filler, na_Filler_packed, na_Filler_spent, na_Filler_standing, na_Filler_world, me_Filler_state, PySem.W.mg_of X G aC_Hire, cl_Hire, mk_Hire, na_Hire_whole, me_Hire_is_state, me_Hire_is_wish, PySem.W.mg_of X G aC_Buyer, cl_Buyer, mk_Buyer, na_Buyer_spent, na_Buyer_standing, na_Buyer_world, me_Buyer_state, PySem.W.mg_of X G aC_Line, cl_Line, mk_Line, na_Line_many, me_Line_is_state, me_Line_is_wish, PySem.W.mg_of X G aC_Both, cl_Both, mk_Both, na_Both_spent, na_Both_standing, na_Both_world, me_Both_state, PySem.W.mg_of X G aC_Shelf, cl_Shelf, mk_Shelf, na_Shelf_things, me_Shelf_is_state, me_Shelf_is_wish, PySem.W.mg_of X G aC_Front, cl_Front, mk_Front, na_Front_spent, na_Front_standing, na_Front_world, me_Front_state, PySem.W.mg_of X G aC_Store, cl_Store, mk_Store, na_Store_many, me_Store_is_state, me_Store_is_wish, PySem.W.mg_of X G aC_Keeper, cl_Keeper, mk_Keeper, na_Keeper_row, na_Keeper_spent, na_Keeper_standing, na_Keeper_world, me_Keeper_state, PySem.W.mg_of X G aC_Ways, cl_Ways, mk_Ways, na_Ways_many, na_Ways_toll, me_Ways_is_state, me_Ways_is_wish, PySem.W.mg_of X G aC_Changer, cl_Changer, mk_Changer, na_Changer_reckoned, na_Changer_spent, na_Changer_standing, na_Changer_world, me_Changer_state, PySem.W.mg_none_of X G z_abs, PySem.W.mg_none_of X G z_all, PySem.W.mg_none_of X G z_bool, PySem.W.mg_none_of X G z_enumerate, PySem.W.mg_none_of X G z_int, PySem.W.mg_none_of X G z_isinstance, PySem.W.mg_none_of X G z_len, PySem.W.mg_none_of X G z_list, PySem.W.mg_none_of X G z_max, PySem.W.mg_none_of X G z_range, PySem.W.mg_none_of X G z_set, PySem.W.mg_none_of X G z_sorted, PySem.W.mg_none_of X G z_str, PySem.W.mg_none_of X G z_tuple, PySem.W.mg_none_of X G z_zip, PySem.W.mg_of X G zk_MOST_BAGS, PySem.W.mg_of X G zk_MOST_ASKS, PySem.W.mg_of X G zk_MOST_FIGURES, PySem.W.mg_of X G va_FIRST_WORDS, (fun H => .inr ⟨_, _, _, vl_FIRST_WORDS, rfl, rfl, (by show 6 ≤ sizeLine; decide), .cons ⟨_, rfl⟩ (.cons ⟨_, rfl⟩ (.cons ⟨_, rfl⟩ (.cons ⟨_, rfl⟩ (.cons ⟨_, rfl⟩ (.cons ⟨_, rfl⟩ (.nil))))))⟩), PySem.W.mg_of X G va_LENGTHS, ⟨vs_LENGTHS, _, _, vl_LENGTHS, .cons ⟨rfl, ⟨_, rfl⟩, _, rfl⟩ (.cons ⟨rfl, ⟨_, rfl⟩, _, rfl⟩ (.cons ⟨rfl, ⟨_, rfl⟩, _, rfl⟩ (.nil)))⟩⟩
  exact ⟨_, F_law.one fun _ _ _ _ _ _ _ _ => rfl, fun base _ _ => ok _ base T⟩
theorem walk {l : PySem.W.OpenLaw} {q : Program} {loose : List Str} {XP : (Str → Option Value) → Heap → Prop} {YP : World → Heap → Prop} {d : DefRec} {K : Params → PySem.W.Frag} (sp : PySem.W.Frag → Sp) (hsp : ∀ (K : PySem.W.Frag) (H : Hp) (a : Addr) (ns : List Int), ns.length ≤ 63 → (∀ z ∈ ns, ib z ≤ 1048576) → SqL K H a (ns.map V.int) → sp K [.ref a] H (fun v _ => v = .bl true) fun _ _ _ => False) (hn : l.most = some 63) (hdf : d.params.defaults = [])
    (hY : ∀ (w : World) (h : Heap), YP w h → (K w.params).In h)
    (F : ∀ (w : World) (mg : Str → Option Value) (fa : Addr) (h : Heap), (K w.params).In h → h.Ns mainGlobals mg → mg d.name = some (.ref fa) →
      ∃ fd : FuncData, (∀ (s : Shared) (u : Value), BindsTo s fd ⟨[u], []⟩ [("_law_script", u)]) ∧ ∀ base : Heap, (K w.params).In base → base.Ns mainGlobals mg → FnOk l.prog w (K w.params) mg base (CXU l.prog w) 13 fa fd ["_law_script"] (sp (K w.params))) :
    PySem.W.WalkO q loose XP YP l.row.toRowW d [] (fun f vs => PySem.call f vs) :=
  L2.walk_ofB (n := 63) (k := 13) (x := "_law_script") (CX := fun w => CXU l.prog w) (sp := fun w => sp (K w.params)) hn (by decide) hdf ⟨rfl, by decide, by decide, rfl⟩ hY F (fun _ _ a ns hl hb _ hS => hsp _ _ a ns hl hb hS) noneU
end Q
section
namespace PySem.W.Fast
def tw18058007854988735311 : Unit := ()
def tw11542936403024306173 : Unit := ()
def tw1295073821578597346 : Unit := ()
def tw4438820744333559766 : Unit := ()
def tw12578453439369330600 : Unit := ()
def tw17452814850289685470 : Unit := ()
def tw2942552635960700600 : Unit := ()
def tw2757966436965558863 : Unit := ()
def tw10086949352846233033 : Unit := ()
def tw8945286085902027696 : Unit := ()
def tw1826598437181007068 : Unit := ()
def tw3029501783859409766 : Unit := ()
def tw9508126816189321534 : Unit := ()
def tw16789744340055651238 : Unit := ()
def tw12758505962533461597 : Unit := ()
def tw9121372062742168497 : Unit := ()
def tw346907685329789697 : Unit := ()
def tw14305770095950943209 : Unit := ()
def tw12553311423019708114 : Unit := ()
def tw2483422622584672209 : Unit := ()
def tw18132233866328889847 : Unit := ()
def tw4186001155776244442 : Unit := ()
def tw10771156808123167935 : Unit := ()
def tw8098754223621439065 : Unit := ()
def tw3482297615619972075 : Unit := ()
end PySem.W.Fast
open PySem PySem.W PyProof.Rows
set_option maxRecDepth 100000 in
set_option maxHeartbeats 0 in
open_top PySem.Challenge.cw_lateknow_k81_game_read_hd for PySem.Challenge.rw_lateknow_k81_game_read
local macro_rules | `(tactic| walk_at "k0") => `(tactic| first | ((with_reducible show L2.NsC _ _ _); unfold L2.NsC; k_is) | (unfold L2.NsB; k_is))
local macro_rules | `(tactic| walk_at "kn") => `(tactic| (unfold L2.NoAttr; k_is))
local macro_rules | `(tactic| walk_at "kf") => `(tactic| (refine' ⟨?ka, _, L2.fun_mk ?kb ?kc ?kd⟩; (case ka => k_is); (case kb => k_is); (case kc => k_is); (case kd => k_is)))
local macro_rules | `(tactic| walk_at "kd") => `(tactic| (refine' ⟨?ka, _, L2.funD_mk ?kb ?kc ?kd ?ke⟩; (case ka => k_is); (case kb => k_is); (case kc => k_is); (case kd => k_is); (case ke => k_is)))
local macro_rules | `(tactic| walk_at "k3") => `(tactic| (refine' ⟨?ka, ?kb, ?kc⟩; (case ka => k_is); (case kb => k_is); (case kc => k_is)))
local macro_rules | `(tactic| walk_at "k4") => `(tactic| (refine' ⟨?ka, ?kb, ?kc, ?kd⟩; (case ka => k_is); (case kb => k_is); (case kc => k_is); (case kd => k_is)))
set_option maxRecDepth 100000 in
set_option maxHeartbeats 0 in
theorem PySem.Challenge.cw_lateknow_k81_game_read_pre (sp : PySem.W.Frag → L2.Sp) (hsp : ∀ (K : PySem.W.Frag) (H : L2.Hp) (a : Addr) (ns : List Int), ns.length ≤ 63 → (∀ z ∈ ns, L2.ib z ≤ 1048576) → L2.SqL K H a (ns.map L2.V.int) → sp K [.ref a] H (fun v _ => v = .bl true) fun _ _ _ => False)
    (ok : ∀ (w : World) (K : PySem.W.Frag) (mg : Str → Option Value) (a : Q.Adr) (base : Heap), Q.Txt w K mg a → L2.FnOk PySem.Challenge.rw_lateknow_k81_game_read.prog w K mg base (L2.CXU PySem.Challenge.rw_lateknow_k81_game_read.prog w) 13 a.f_law a.d_law ["_law_script"] (sp K)) : PySem.Challenge.rw_lateknow_k81_game_read.Holds := by
  refine PySem.Challenge.cw_lateknow_k81_game_read_hd ?_
  k_fill
  first | refine Q.walk (l := PySem.Challenge.rw_lateknow_k81_game_read) sp hsp rfl rfl (fun w h Y => PySem.W.kIn_of Y) ?F | refine Q.walk (l := PySem.Challenge.rw_lateknow_k81_game_read) sp hsp rfl rfl (fun w h Y => PySem.W.km_in_of Y) ?F
  case F =>
    intro w mg fa h KX G hmg
    refine' Q.all_mk sp (fun a base T => ok w _ mg a base T) KX G hmg ?aC_LateError ?aC_NoState ?aC_Rule ?aC_Bound ?aC_Bags ?aC_Filler ?aC_Hire ?aC_Buyer ?aC_Line ?aC_Both ?aC_Shelf ?aC_Front ?aC_Store ?aC_Keeper ?aC_Ways ?aC_Changer ?l_law ?l_law_same ?l_law_whole ?l_law_all_same ?l_read_game ?l_asked_wishes ?l_asked_wish ?l_Bags_is_wish ?l_is_from_one_to ?l_is_whole_number ?l_Store_is_wish ?l_is_name ?l_Ways_is_wish ?l_is_amount ?l_Hire_is_wish ?l_Shelf_is_wish ?l_Line_is_wish ?l_is_place ?l_parted ?l_written ?l_are_figures ?l_world_start ?l_Rule_state ?l_rule_of ?l_Filler_init ?l_Rule_init ?l_Bags_is_state ?l_Bags_init ?l_Keeper_init ?l_Store_is_state ?l_are_names ?l_Store_init ?l_is_row_of_names ?l_Changer_init ?l_Ways_is_state ?l_Ways_init ?l_Buyer_init ?l_Hire_is_state ?l_Hire_init ?l_Front_init ?l_Shelf_is_state ?l_Shelf_init ?l_Both_init ?l_Line_is_state ?l_line_of ?l_Line_init ?l_is_opening ?l_rows_with_signs ?l_law_text ?l_law_mixed ?l_law_cell ?l_law_lines ?l_law_words ?l_law_wish ?l_law_amount ?l_law_names ?l_law_place ?l_law_start ?cm_Bound_init ?cl_Bags ?mk_Bags ?na_Bags_room ?me_Bags_is_state ?me_Bags_is_wish ?cl_Filler ?mk_Filler ?na_Filler_packed ?na_Filler_spent ?na_Filler_standing ?na_Filler_world ?me_Filler_state ?cl_Hire ?mk_Hire ?na_Hire_whole ?me_Hire_is_state ?me_Hire_is_wish ?cl_Buyer ?mk_Buyer ?na_Buyer_spent ?na_Buyer_standing ?na_Buyer_world ?me_Buyer_state ?cl_Line ?mk_Line ?na_Line_many ?me_Line_is_state ?me_Line_is_wish ?cl_Both ?mk_Both ?na_Both_spent ?na_Both_standing ?na_Both_world ?me_Both_state ?cl_Shelf ?mk_Shelf ?na_Shelf_things ?me_Shelf_is_state ?me_Shelf_is_wish ?cl_Front ?mk_Front ?na_Front_spent ?na_Front_standing ?na_Front_world ?me_Front_state ?cl_Store ?mk_Store ?na_Store_many ?me_Store_is_state ?me_Store_is_wish ?cl_Keeper ?mk_Keeper ?na_Keeper_row ?na_Keeper_spent ?na_Keeper_standing ?na_Keeper_world ?me_Keeper_state ?cl_Ways ?mk_Ways ?na_Ways_many ?na_Ways_toll ?me_Ways_is_state ?me_Ways_is_wish ?cl_Changer ?mk_Changer ?na_Changer_reckoned ?na_Changer_spent ?na_Changer_standing ?na_Changer_world ?me_Changer_state ?z_abs ?z_all ?z_bool ?z_enumerate ?z_int ?z_isinstance ?z_len ?z_list ?z_max ?z_range ?z_set ?z_sorted ?z_str ?z_tuple ?z_zip ?zk_MOST_BAGS ?zk_MOST_ASKS ?zk_MOST_FIGURES ?va_FIRST_WORDS ?vl_FIRST_WORDS ?va_LENGTHS ?vl_LENGTHS ?vs_LENGTHS
    (case aC_LateError => walk_at "k0")
    (case aC_NoState => walk_at "k0")
    (case aC_Rule => walk_at "k0")
    (case aC_Bound => walk_at "k0")
    (case aC_Bags => walk_at "k0")
    (case aC_Filler => walk_at "k0")
    (case aC_Hire => walk_at "k0")
    (case aC_Buyer => walk_at "k0")
    (case aC_Line => walk_at "k0")
    (case aC_Both => walk_at "k0")
    (case aC_Shelf => walk_at "k0")
    (case aC_Front => walk_at "k0")
    (case aC_Store => walk_at "k0")
    (case aC_Keeper => walk_at "k0")
    (case aC_Ways => walk_at "k0")
    (case aC_Changer => walk_at "k0")
    (case l_law => walk_at "kf")
    (case l_law_same => walk_at "kf")
    (case l_law_whole => walk_at "kf")
    (case l_law_all_same => walk_at "kf")
    (case l_read_game => walk_at "kf")
    (case l_asked_wishes => walk_at "kf")
    (case l_asked_wish => walk_at "kf")
    (case l_Bags_is_wish => walk_at "kf")
    (case l_is_from_one_to => walk_at "kf")
    (case l_is_whole_number => walk_at "kf")
    (case l_Store_is_wish => walk_at "kf")
    (case l_is_name => walk_at "kf")
    (case l_Ways_is_wish => walk_at "kf")
    (case l_is_amount => walk_at "kf")
    (case l_Hire_is_wish => walk_at "kf")
    (case l_Shelf_is_wish => walk_at "kf")
    (case l_Line_is_wish => walk_at "kf")
    (case l_is_place => walk_at "kf")
    (case l_parted => walk_at "kf")
    (case l_written => walk_at "kf")
    (case l_are_figures => walk_at "kf")
    (case l_world_start => walk_at "kf")
    (case l_Rule_state => walk_at "kf")
    (case l_rule_of => walk_at "kf")
    (case l_Filler_init => walk_at "kf")
    (case l_Rule_init => walk_at "kf")
    (case l_Bags_is_state => walk_at "kf")
    (case l_Bags_init => walk_at "kf")
    (case l_Keeper_init => walk_at "kf")
    (case l_Store_is_state => walk_at "kf")
    (case l_are_names => walk_at "kf")
    (case l_Store_init => walk_at "kf")
    (case l_is_row_of_names => walk_at "kf")
    (case l_Changer_init => walk_at "kd")
    (case l_Ways_is_state => walk_at "kf")
    (case l_Ways_init => walk_at "kf")
    (case l_Buyer_init => walk_at "kf")
    (case l_Hire_is_state => walk_at "kf")
    (case l_Hire_init => walk_at "kf")
    (case l_Front_init => walk_at "kf")
    (case l_Shelf_is_state => walk_at "kf")
    (case l_Shelf_init => walk_at "kf")
    (case l_Both_init => walk_at "kf")
    (case l_Line_is_state => walk_at "kf")
    (case l_line_of => walk_at "kf")
    (case l_Line_init => walk_at "kf")
    (case l_is_opening => walk_at "kf")
    (case l_rows_with_signs => walk_at "kf")
    (case l_law_text => walk_at "kf")
    (case l_law_mixed => walk_at "kf")
    (case l_law_cell => walk_at "kf")
    (case l_law_lines => walk_at "kf")
    (case l_law_words => walk_at "kf")
    (case l_law_wish => walk_at "kf")
    (case l_law_amount => walk_at "kf")
    (case l_law_names => walk_at "kf")
    (case l_law_place => walk_at "kf")
    (case l_law_start => walk_at "kf")
    (case cm_Bound_init => walk_at "k4")
    (case cl_Bags => walk_at "k4")
    (case mk_Bags => walk_at "k4")
    (case na_Bags_room => walk_at "kn")
    (case me_Bags_is_state => walk_at "k3")
    (case me_Bags_is_wish => walk_at "k3")
    (case cl_Filler => walk_at "k4")
    (case mk_Filler => walk_at "k4")
    (case na_Filler_packed => walk_at "kn")
    (case na_Filler_spent => walk_at "kn")
    (case na_Filler_standing => walk_at "kn")
    (case na_Filler_world => walk_at "kn")
    (case me_Filler_state => walk_at "k3")
    (case cl_Hire => walk_at "k4")
    (case mk_Hire => walk_at "k4")
    (case na_Hire_whole => walk_at "kn")
    (case me_Hire_is_state => walk_at "k3")
    (case me_Hire_is_wish => walk_at "k3")
    (case cl_Buyer => walk_at "k4")
    (case mk_Buyer => walk_at "k4")
    (case na_Buyer_spent => walk_at "kn")
    (case na_Buyer_standing => walk_at "kn")
    (case na_Buyer_world => walk_at "kn")
    (case me_Buyer_state => walk_at "k3")
    (case cl_Line => walk_at "k4")
    (case mk_Line => walk_at "k4")
    (case na_Line_many => walk_at "kn")
    (case me_Line_is_state => walk_at "k3")
    (case me_Line_is_wish => walk_at "k3")
    (case cl_Both => walk_at "k4")
    (case mk_Both => walk_at "k4")
    (case na_Both_spent => walk_at "kn")
    (case na_Both_standing => walk_at "kn")
    (case na_Both_world => walk_at "kn")
    (case me_Both_state => walk_at "k3")
    (case cl_Shelf => walk_at "k4")
    (case mk_Shelf => walk_at "k4")
    (case na_Shelf_things => walk_at "kn")
    (case me_Shelf_is_state => walk_at "k3")
    (case me_Shelf_is_wish => walk_at "k3")
    (case cl_Front => walk_at "k4")
    (case mk_Front => walk_at "k4")
    (case na_Front_spent => walk_at "kn")
    (case na_Front_standing => walk_at "kn")
    (case na_Front_world => walk_at "kn")
    (case me_Front_state => walk_at "k3")
    (case cl_Store => walk_at "k4")
    (case mk_Store => walk_at "k4")
    (case na_Store_many => walk_at "kn")
    (case me_Store_is_state => walk_at "k3")
    (case me_Store_is_wish => walk_at "k3")
    (case cl_Keeper => walk_at "k4")
    (case mk_Keeper => walk_at "k4")
    (case na_Keeper_row => walk_at "kn")
    (case na_Keeper_spent => walk_at "kn")
    (case na_Keeper_standing => walk_at "kn")
    (case na_Keeper_world => walk_at "kn")
    (case me_Keeper_state => walk_at "k3")
    (case cl_Ways => walk_at "k4")
    (case mk_Ways => walk_at "k4")
    (case na_Ways_many => walk_at "kn")
    (case na_Ways_toll => walk_at "kn")
    (case me_Ways_is_state => walk_at "k3")
    (case me_Ways_is_wish => walk_at "k3")
    (case cl_Changer => walk_at "k4")
    (case mk_Changer => walk_at "k4")
    (case na_Changer_reckoned => walk_at "kn")
    (case na_Changer_spent => walk_at "kn")
    (case na_Changer_standing => walk_at "kn")
    (case na_Changer_world => walk_at "kn")
    (case me_Changer_state => walk_at "k3")
    (case z_abs => walk_at "k0")
    (case z_all => walk_at "k0")
    (case z_bool => walk_at "k0")
    (case z_enumerate => walk_at "k0")
    (case z_int => walk_at "k0")
    (case z_isinstance => walk_at "k0")
    (case z_len => walk_at "k0")
    (case z_list => walk_at "k0")
    (case z_max => walk_at "k0")
    (case z_range => walk_at "k0")
    (case z_set => walk_at "k0")
    (case z_sorted => walk_at "k0")
    (case z_str => walk_at "k0")
    (case z_tuple => walk_at "k0")
    (case z_zip => walk_at "k0")
    (case zk_MOST_BAGS => k_is)
    (case zk_MOST_ASKS => k_is)
    (case zk_MOST_FIGURES => k_is)
    (case va_FIRST_WORDS => walk_at "k0")
    (case vl_FIRST_WORDS => k_is)
    (case va_LENGTHS => walk_at "k0")
    (case vl_LENGTHS => k_is)
    (case vs_LENGTHS => rfl)
end
namespace Q
open PySem PySem.Spec PyProof.Rows L2
local macro_rules | `(tactic| walk_at "side") => `(tactic| first | exact ⟨by decide, by decide, by decide⟩ | exact Or.inl ⟨by omega, by omega⟩ | exact Or.inr (Or.inl ⟨by omega, by omega⟩) | exact ⟨by omega, by omega⟩ | omega | decide)
local macro_rules | `(tactic| walk_at "hp") => `(tactic| first | assumption | ((refine up (H := ?kH) ?ke ?kf); (case ke => assumption); (case kf => walk_at "hp")))
local macro_rules | `(tactic| walk_at "vs") => `(tactic| first
  | ((with_reducible refine r_var (v := ?kv) ?kh ?_); (case kh => exact rfl))
  | with_reducible refine r_op ?_
  | with_reducible refine r_c ?_
  | with_reducible refine r_seq ?_
  | with_reducible refine r_asg ?_
  | with_reducible refine r_gname ?_
  | with_reducible refine r_if ?_
  | with_reducible refine r_test ?_
  | with_reducible refine r_bl ?_
  | with_reducible refine r_I0 ?_
  | with_reducible refine r_addV ?_
  | with_reducible refine r_addWI ?_
  | with_reducible refine r_leWI ?_
  | with_reducible refine r_leWS ?_
  | ((with_reducible refine r_mulWI ?kc ?_); (case kc => walk_at "side"))
  | with_reducible refine r_pow18 ?_
  | with_reducible refine r_pow6 ?_
  | with_reducible refine r_pow9 ?_
  | with_reducible refine r_powM ?_
  | ((with_reducible refine r_I ?kc ?_); (case kc => walk_at "side"))
  | with_reducible refine r_eqUI ?_
  | with_reducible refine r_neI ?_
  | with_reducible refine r_neUI ?_
  | with_reducible refine r_ret ?_
  | with_reducible refine r_next ?_
  | with_reducible refine r_drop ?_
  | with_reducible refine r_not ?_
  | with_reducible refine r_truth ?_
  | with_reducible refine r_blT ?_
  | with_reducible refine r_and ?_
  | with_reducible refine r_or ?_
  | with_reducible refine r_andV ?_
  | with_reducible refine r_orV ?_
  | with_reducible refine r_notV ?_
  | with_reducible refine r_ifE ?_
  | with_reducible refine r_chain ?_
  | with_reducible refine r_un ?_
  | with_reducible refine r_rU ?_
  | with_reducible refine r_call ?_
  | with_reducible refine r_cb ?_
  | with_reducible refine r_cons ?_
  | with_reducible refine r_nil ?_
  | with_reducible refine r_meth ?_
  | ((with_reducible refine r_self (dx := ?kd) (fs := ?kf) ?kh ?kl ?_); (case kh => walk_at "hp"); (case kl => exact rfl))
  | with_reducible refine r_cmeth ?_
  | with_reducible refine r_cself ?_
  | with_reducible refine r_make ?_
  | with_reducible refine r_fldK ?_
  | ((with_reducible refine r_fat (C := ?kC) (dx := ?kd) (fs := ?kf) (v := ?kv) ?kh ?kc ?kn ?kl ?_); (case kh => walk_at "hp"); (case kc => assumption); (case kn => assumption); (case kl => exact rfl))
  | with_reducible refine r_sfld ?_
  | with_reducible refine r_tup ?_
  | with_reducible refine r_lst ?_
  | ((with_reducible refine r_newT ?kc ?_); (case kc => exact rfl))
  | ((with_reducible refine r_newL ?kc ?_); (case kc => exact rfl))
  | with_reducible refine r_dnew ?_
  | with_reducible refine r_retN ?_
  | with_reducible refine r_for ?_
  | with_reducible refine r_rng1 ?_
  | with_reducible refine r_rng2 ?_
  | with_reducible refine r_by2 ?_
  | with_reducible refine r_zip2 ?_
  | with_reducible refine r_enum ?_
  | with_reducible refine r_enum1 ?_
  | with_reducible refine r_comp ?_
  | with_reducible refine r_tests0 ?_
  | with_reducible refine r_tests1 ?_
  | with_reducible refine r_gsub ?_
  | with_reducible refine r_sl ?_
  | with_reducible refine r_nopart ?_
  | with_reducible refine r_part ?_
  | with_reducible refine r_partI ?_
  | with_reducible refine r_intT ?_
  | with_reducible refine r_ilist ?_
  | with_reducible refine r_itup ?_
  | with_reducible refine r_bm ?_
  | with_reducible refine r_bm0 ?_
  | ((with_reducible refine r_tyl (xs := ?kx) ?kh ?_); (case kh => walk_at "hp"))
  | with_reducible refine r_tm ?_
  | ((with_reducible refine r_tyT (xs := ?kx) ?kh ?_); (case kh => walk_at "hp"))
  | with_reducible refine r_sm ?_
  | with_reducible refine r_dget ?_
  | with_reducible refine r_dput ?_
  | with_reducible refine r_tyS ?_
  | with_reducible refine r_istr ?_
  | with_reducible refine r_gnil ?_
  | with_reducible refine r_gcons ?_
  | ((with_reducible refine r_gtup (xs := ?kx) ?kh ?kl ?_); (case kh => walk_at "hp"); (case kl => exact rfl))
  | with_reducible refine r_max ?_
  | with_reducible refine r_min ?_
  | with_reducible refine r_abs ?_
  | with_reducible refine r_intI ?_
  | with_reducible refine r_intB ?_
  | with_reducible refine r_isN ?_
  | with_reducible refine r_notN ?_
  | with_reducible refine r_try ?_
  | with_reducible refine r_tryN ?_
  | with_reducible refine r_raiseT ?_
  | with_reducible refine r_getG ?_
  | with_reducible refine r_gone ?_
  | with_reducible refine r_efldK ?_
  | with_reducible refine r_terr ?_
  | ((with_reducible refine iteTc ?kh ?_); (case kh => exact rfl))
  | ((with_reducible refine iteFc ?kh ?_); (case kh => exact rfl)))
section
variable {P : Program} {w : World} {K : PySem.W.Frag} {mg : Str → Option Value} {base : Heap} {a : Adr}
seal PA PE PS PSs PT
theorem sc_law : FnScope ["_law_script", "_law_word", "_law_start_here", "_law_cells", "_law_wishes", "_law_number", "_law_signs", "_law_found"] ["_law_script"] (defScope s_law) := ⟨rfl, rfl, rfl, by decide +kernel, rfl, by decide +kernel, by decide +kernel⟩
theorem sc_law_same : FnScope ["_law_found", "_law_due"] ["_law_found", "_law_due"] (defScope s_law_same) := ⟨rfl, rfl, rfl, by decide +kernel, rfl, by decide +kernel, by decide +kernel⟩
theorem sc_law_whole : FnScope ["_law_found"] ["_law_found"] (defScope s_law_whole) := ⟨rfl, rfl, rfl, by decide +kernel, rfl, by decide +kernel, by decide +kernel⟩
theorem sc_law_all_same : FnScope ["_law_found", "_law_due", "_law_one", "_law_other"] ["_law_found", "_law_due"] (defScope s_law_all_same) := ⟨rfl, rfl, rfl, by decide +kernel, rfl, by decide +kernel, by decide +kernel⟩
theorem sc_read_game : FnScope ["text", "rows", "first", "word", "start"] ["text"] (defScope s_read_game) := ⟨rfl, rfl, rfl, by decide +kernel, rfl, by decide +kernel, by decide +kernel⟩
theorem sc_asked_wishes : FnScope ["word", "world", "rows", "wishes", "row", "line", "wish"] ["word", "world", "rows"] (defScope s_asked_wishes) := ⟨rfl, rfl, rfl, by decide +kernel, rfl, by decide +kernel, by decide +kernel⟩
theorem sc_asked_wish : FnScope ["word", "world", "line", "ask", "wish"] ["word", "world", "line"] (defScope s_asked_wish) := ⟨rfl, rfl, rfl, by decide +kernel, rfl, by decide +kernel, by decide +kernel⟩
theorem sc_Bags_is_wish : FnScope ["self", "thing"] ["self", "thing"] (defScope s_Bags_is_wish) := ⟨rfl, rfl, rfl, by decide +kernel, rfl, by decide +kernel, by decide +kernel⟩
theorem sc_is_from_one_to : FnScope ["thing", "most"] ["thing", "most"] (defScope s_is_from_one_to) := ⟨rfl, rfl, rfl, by decide +kernel, rfl, by decide +kernel, by decide +kernel⟩
theorem sc_is_whole_number : FnScope ["thing"] ["thing"] (defScope s_is_whole_number) := ⟨rfl, rfl, rfl, by decide +kernel, rfl, by decide +kernel, by decide +kernel⟩
theorem sc_Store_is_wish : FnScope ["self", "thing"] ["self", "thing"] (defScope s_Store_is_wish) := ⟨rfl, rfl, rfl, by decide +kernel, rfl, by decide +kernel, by decide +kernel⟩
theorem sc_is_name : FnScope ["thing"] ["thing"] (defScope s_is_name) := ⟨rfl, rfl, rfl, by decide +kernel, rfl, by decide +kernel, by decide +kernel⟩
theorem sc_Ways_is_wish : FnScope ["self", "thing"] ["self", "thing"] (defScope s_Ways_is_wish) := ⟨rfl, rfl, rfl, by decide +kernel, rfl, by decide +kernel, by decide +kernel⟩
theorem sc_is_amount : FnScope ["thing"] ["thing"] (defScope s_is_amount) := ⟨rfl, rfl, rfl, by decide +kernel, rfl, by decide +kernel, by decide +kernel⟩
theorem sc_Hire_is_wish : FnScope ["self", "thing"] ["self", "thing"] (defScope s_Hire_is_wish) := ⟨rfl, rfl, rfl, by decide +kernel, rfl, by decide +kernel, by decide +kernel⟩
theorem sc_Shelf_is_wish : FnScope ["self", "thing"] ["self", "thing"] (defScope s_Shelf_is_wish) := ⟨rfl, rfl, rfl, by decide +kernel, rfl, by decide +kernel, by decide +kernel⟩
theorem sc_Line_is_wish : FnScope ["self", "thing"] ["self", "thing"] (defScope s_Line_is_wish) := ⟨rfl, rfl, rfl, by decide +kernel, rfl, by decide +kernel, by decide +kernel⟩
theorem sc_is_place : FnScope ["thing"] ["thing"] (defScope s_is_place) := ⟨rfl, rfl, rfl, by decide +kernel, rfl, by decide +kernel, by decide +kernel⟩
theorem sc_parted : FnScope ["line", "words"] ["line"] (defScope s_parted) := ⟨rfl, rfl, rfl, by decide +kernel, rfl, by decide +kernel, by decide +kernel⟩
theorem sc_written : FnScope ["word"] ["word"] (defScope s_written) := ⟨rfl, rfl, rfl, by decide +kernel, rfl, by decide +kernel, by decide +kernel⟩
theorem sc_are_figures : FnScope ["text"] ["text"] (defScope s_are_figures) := ⟨rfl, rfl, rfl, by decide +kernel, rfl, by decide +kernel, by decide +kernel⟩
theorem sc_world_start : FnScope ["word", "start", "rule"] ["word", "start"] (defScope s_world_start) := ⟨rfl, rfl, rfl, by decide +kernel, rfl, by decide +kernel, by decide +kernel⟩
theorem sc_Rule_state : FnScope ["self"] ["self"] (defScope s_Rule_state) := ⟨rfl, rfl, rfl, by decide +kernel, rfl, by decide +kernel, by decide +kernel⟩
theorem sc_rule_of : FnScope ["word", "start"] ["word", "start"] (defScope s_rule_of) := ⟨rfl, rfl, rfl, by decide +kernel, rfl, by decide +kernel, by decide +kernel⟩
theorem sc_Filler_init : FnScope ["self", "room"] ["self", "room"] (defScope s_Filler_init) := ⟨rfl, rfl, rfl, by decide +kernel, rfl, by decide +kernel, by decide +kernel⟩
theorem sc_Rule_init : FnScope ["self", "world", "start"] ["self", "world", "start"] (defScope s_Rule_init) := ⟨rfl, rfl, rfl, by decide +kernel, rfl, by decide +kernel, by decide +kernel⟩
theorem sc_Bags_is_state : FnScope ["self", "thing"] ["self", "thing"] (defScope s_Bags_is_state) := ⟨rfl, rfl, rfl, by decide +kernel, rfl, by decide +kernel, by decide +kernel⟩
theorem sc_Bags_init : FnScope ["self", "room"] ["self", "room"] (defScope s_Bags_init) := ⟨rfl, rfl, rfl, by decide +kernel, rfl, by decide +kernel, by decide +kernel⟩
theorem sc_Keeper_init : FnScope ["self", "pages"] ["self", "pages"] (defScope s_Keeper_init) := ⟨rfl, rfl, rfl, by decide +kernel, rfl, by decide +kernel, by decide +kernel⟩
theorem sc_Store_is_state : FnScope ["self", "thing"] ["self", "thing"] (defScope s_Store_is_state) := ⟨rfl, rfl, rfl, by decide +kernel, rfl, by decide +kernel, by decide +kernel⟩
theorem sc_are_names : FnScope ["thing"] ["thing"] (defScope s_are_names) := ⟨rfl, rfl, rfl, by decide +kernel, rfl, by decide +kernel, by decide +kernel⟩
theorem sc_Store_init : FnScope ["self", "many"] ["self", "many"] (defScope s_Store_init) := ⟨rfl, rfl, rfl, by decide +kernel, rfl, by decide +kernel, by decide +kernel⟩
theorem sc_is_row_of_names : FnScope ["thing"] ["thing"] (defScope s_is_row_of_names) := ⟨rfl, rfl, rfl, by decide +kernel, rfl, by decide +kernel, by decide +kernel⟩
theorem sc_Changer_init : FnScope ["self", "many", "toll", "start"] ["self", "many", "toll", "start"] (defScope s_Changer_init) := ⟨rfl, rfl, rfl, by decide +kernel, rfl, by decide +kernel, by decide +kernel⟩
theorem sc_Ways_is_state : FnScope ["self", "thing"] ["self", "thing"] (defScope s_Ways_is_state) := ⟨rfl, rfl, rfl, by decide +kernel, rfl, by decide +kernel, by decide +kernel⟩
theorem sc_Ways_init : FnScope ["self", "many", "toll"] ["self", "many", "toll"] (defScope s_Ways_init) := ⟨rfl, rfl, rfl, by decide +kernel, rfl, by decide +kernel, by decide +kernel⟩
theorem sc_Buyer_init : FnScope ["self", "whole"] ["self", "whole"] (defScope s_Buyer_init) := ⟨rfl, rfl, rfl, by decide +kernel, rfl, by decide +kernel, by decide +kernel⟩
theorem sc_Hire_is_state : FnScope ["self", "thing"] ["self", "thing"] (defScope s_Hire_is_state) := ⟨rfl, rfl, rfl, by decide +kernel, rfl, by decide +kernel, by decide +kernel⟩
theorem sc_Hire_init : FnScope ["self", "whole"] ["self", "whole"] (defScope s_Hire_init) := ⟨rfl, rfl, rfl, by decide +kernel, rfl, by decide +kernel, by decide +kernel⟩
theorem sc_Front_init : FnScope ["self", "start"] ["self", "start"] (defScope s_Front_init) := ⟨rfl, rfl, rfl, by decide +kernel, rfl, by decide +kernel, by decide +kernel⟩
theorem sc_Shelf_is_state : FnScope ["self", "thing"] ["self", "thing"] (defScope s_Shelf_is_state) := ⟨rfl, rfl, rfl, by decide +kernel, rfl, by decide +kernel, by decide +kernel⟩
theorem sc_Shelf_init : FnScope ["self", "things"] ["self", "things"] (defScope s_Shelf_init) := ⟨rfl, rfl, rfl, by decide +kernel, rfl, by decide +kernel, by decide +kernel⟩
theorem sc_Both_init : FnScope ["self", "start"] ["self", "start"] (defScope s_Both_init) := ⟨rfl, rfl, rfl, by decide +kernel, rfl, by decide +kernel, by decide +kernel⟩
theorem sc_Line_is_state : FnScope ["self", "thing"] ["self", "thing"] (defScope s_Line_is_state) := ⟨rfl, rfl, rfl, by decide +kernel, rfl, by decide +kernel, by decide +kernel⟩
theorem sc_line_of : FnScope ["start"] ["start"] (defScope s_line_of) := ⟨rfl, rfl, rfl, by decide +kernel, rfl, by decide +kernel, by decide +kernel⟩
theorem sc_Line_init : FnScope ["self", "many"] ["self", "many"] (defScope s_Line_init) := ⟨rfl, rfl, rfl, by decide +kernel, rfl, by decide +kernel, by decide +kernel⟩
theorem sc_is_opening : FnScope ["word", "start"] ["word", "start"] (defScope s_is_opening) := ⟨rfl, rfl, rfl, by decide +kernel, rfl, by decide +kernel, by decide +kernel⟩
theorem sc_rows_with_signs : FnScope ["text"] ["text"] (defScope s_rows_with_signs) := ⟨rfl, rfl, rfl, by decide +kernel, rfl, by decide +kernel, by decide +kernel⟩
theorem sc_law_text : FnScope ["_law_script", "_law_lines_here", "_law_found", "_law_k"] ["_law_script", "_law_lines_here"] (defScope s_law_text) := ⟨rfl, rfl, rfl, by decide +kernel, rfl, by decide +kernel, by decide +kernel⟩
theorem sc_law_mixed : FnScope ["_law_cell_here", "_law_k", "_law_number"] ["_law_cell_here", "_law_k"] (defScope s_law_mixed) := ⟨rfl, rfl, rfl, by decide +kernel, rfl, by decide +kernel, by decide +kernel⟩
theorem sc_law_cell : FnScope ["_law_script", "_law_k"] ["_law_script", "_law_k"] (defScope s_law_cell) := ⟨rfl, rfl, rfl, by decide +kernel, rfl, by decide +kernel, by decide +kernel⟩
theorem sc_law_lines : FnScope ["_law_word", "_law_start_here", "_law_wishes"] ["_law_word", "_law_start_here", "_law_wishes"] (defScope s_law_lines) := ⟨rfl, rfl, rfl, by decide +kernel, rfl, by decide +kernel, by decide +kernel⟩
theorem sc_law_words : FnScope ["_law_thing"] ["_law_thing"] (defScope s_law_words) := ⟨rfl, rfl, rfl, by decide +kernel, rfl, by decide +kernel, by decide +kernel⟩
theorem sc_law_wish : FnScope ["_law_word", "_law_start_here", "_law_cell_here", "_law_k", "_law_number"] ["_law_word", "_law_start_here", "_law_cell_here", "_law_k"] (defScope s_law_wish) := ⟨rfl, rfl, rfl, by decide +kernel, rfl, by decide +kernel, by decide +kernel⟩
theorem sc_law_amount : FnScope ["_law_cell_here", "_law_k", "_law_number"] ["_law_cell_here", "_law_k"] (defScope s_law_amount) := ⟨rfl, rfl, rfl, by decide +kernel, rfl, by decide +kernel, by decide +kernel⟩
theorem sc_law_names : FnScope ["_law_number", "_law_many", "_law_stem", "_law_at", "_law_names_here", "_law_j", "_law_sign"] ["_law_number", "_law_many"] (defScope s_law_names) := ⟨rfl, rfl, rfl, by decide +kernel, rfl, by decide +kernel, by decide +kernel⟩
theorem sc_law_place : FnScope ["_law_cell_here", "_law_k"] ["_law_cell_here", "_law_k"] (defScope s_law_place) := ⟨rfl, rfl, rfl, by decide +kernel, rfl, by decide +kernel, by decide +kernel⟩
theorem sc_law_start : FnScope ["_law_script", "_law_cell_here", "_law_number", "_law_word"] ["_law_script"] (defScope s_law_start) := ⟨rfl, rfl, rfl, by decide +kernel, rfl, by decide +kernel, by decide +kernel⟩
namespace Nb
end Nb
namespace Nb
def gfl (wo st q : Addr) (z : Int) : List (Str × V) := [("world", .ref wo), ("standing", .ref st), ("spent", .int z), ("packed", .ref q)]
structure BagAt (a : Adr) (H : Hp) (r : Addr) (R : Int) (ps ss : List Int) (z : Int) : Prop where
  ex : ∃ dx wo dw st q, H r = some (.ins a.c_Filler dx (gfl wo st q z)) ∧ H wo = some (.ins a.c_Bags dw [("room", .int R)]) ∧ H st = some (.tup (ss.map V.int)) ∧ H q = some (.lst (ps.map V.int))
structure BagQ (a : Adr) (H : Hp) (r : Addr) (R : Int) (ps ss : List Int) (z : Int) (q : Addr) : Prop where
  ex : ∃ dx wo dw st, H r = some (.ins a.c_Filler dx (gfl wo st q z)) ∧ H wo = some (.ins a.c_Bags dw [("room", .int R)]) ∧ H st = some (.tup (ss.map V.int)) ∧ H q = some (.lst (ps.map V.int))
end Nb
namespace Nb
theorem sorted_eq {a b : List Int} (h : a.Perm b) (s1 : a.Pairwise (· ≤ ·)) (s2 : b.Pairwise (· ≤ ·)) : a = b :=
  List.Perm.eq_of_pairwise (fun x y _ _ h1 h2 => Int.le_antisymm h1 h2) s1 s2 h
def Goes (R : Int) (os : List Int) (s : Int) (fs : List Int) (pr : Int) : Prop := fs.Pairwise (· ≤ ·) ∧ ((pr = 1 ∧ fs.Perm (os ++ [s])) ∨ (pr = 0 ∧ ∃ k, k < os.length ∧ os.getD k 0 + s ≤ R ∧ fs.Perm (os.set k (os.getD k 0 + s))))
end Nb
namespace Nh
def bfl (wo : Addr) (st z : Int) : List (Str × V) := [("world", .ref wo), ("standing", .int st), ("spent", .int z)]
def hfl (W : Int) : List (Str × V) := [("whole", .int W)]
structure BuyAt (a : Adr) (H : Hp) (r : Addr) (W st z : Int) : Prop where
  ex : ∃ dx wo dw, H r = some (.ins a.c_Buyer dx (bfl wo st z)) ∧ H wo = some (.ins a.c_Hire dw (hfl W))
end Nh
namespace Nl
def lfl (wo st : Addr) (z : Int) : List (Str × V) := [("world", .ref wo), ("standing", .ref st), ("spent", .int z)]
structure LineAt (a : Adr) (C : Addr) (H : Hp) (r : Addr) (ns : List Int) (z : Int) : Prop where
  ex : ∃ dx wo dw st, H r = some (.ins C dx (lfl wo st z)) ∧ H wo = some (.ins a.c_Line dw [("many", .int ns.length)]) ∧ H st = some (.tup (ns.map V.int))
structure Good (ns : List Int) : Prop where
  lo : 1 ≤ ns.length
  hi : ns.length ≤ 6
  srt : ns.Pairwise (· ≤ ·)
  pl : ∀ x ∈ ns, -1000000000000000000 ≤ x ∧ x ≤ 1000000000000000000
def ways (ns ms : List Int) : Int := (List.zipWith (fun a b : Int => ((a - b).natAbs : Int)) ns ms).sum
inductive Goes (w : Int) : List Int → List Int → Prop where
  | stay {ns : List Int} (h : w ∈ ns) : Goes w ns ns
  | up {L : List Int} {l : Int} (h : l < w) : Goes w (L ++ [l]) (L ++ [w])
  | down {R : List Int} {r : Int} (h : w < r) : Goes w (r :: R) (w :: R)
  | both {L R : List Int} {l r s : Int} (h1 : l < w) (h2 : w < r) (hs : s = min (w - l) (r - w)) : Goes w (L ++ l :: r :: R) (L ++ (l + s) :: (r - s) :: R)
end Nl
def nmL (c : Nat) : Bool := decide (97 ≤ c) && decide (c ≤ 122)
def nmS (z : Str) : Bool := decide (1 ≤ z.length) && decide (z.length ≤ 8) && z.cps.toList.all nmL
theorem nmS_asc {z : Str} (h : nmS z = true) : AscS z := by
  unfold nmS at h
  rw [Bool.and_eq_true] at h
  unfold AscS
  rw [Array.all_eq_true_iff_forall_mem]
  intro c hc
  have := List.all_eq_true.mp h.2 c (by simpa using hc)
  unfold nmL at this
  rw [Bool.and_eq_true, decide_eq_true_iff, decide_eq_true_iff] at this
  exact decide_eq_true (by omega)
theorem nmS_len {z : Str} (h : nmS z = true) : 1 ≤ z.length ∧ z.length ≤ 8 := by
  unfold nmS at h
  rw [Bool.and_eq_true, Bool.and_eq_true, decide_eq_true_iff, decide_eq_true_iff] at h
  exact h.1
theorem cps_a : (Str.ofString "a").cps.toList = [97] := by decide
theorem cps_z : (Str.ofString "z").cps.toList = [122] := by decide
theorem le_a (c : Nat) : (!decide (([c] : List Nat) < [97])) = decide (97 ≤ c) := by
  rw [← decide_not]
  apply decide_eq_decide.mpr
  rw [List.cons_lt_cons_iff]
  simp
theorem le_z (c : Nat) : (!decide (([122] : List Nat) < [c])) = decide (c ≤ 122) := by
  rw [← decide_not]
  apply decide_eq_decide.mpr
  rw [List.cons_lt_cons_iff]
  simp
def nmV : V → Bool
  | .str z => nmS z
  | _ => false
structure Names (ss : List Str) : Prop where
  nm : ∀ s ∈ ss, nmS s = true
  nd : ss.Nodup
  lo : 1 ≤ ss.length
  hi : ss.length ≤ 8
theorem Names.perm {ss qs : List Str} (h : Names ss) (p : qs.Perm ss) : Names qs := ⟨fun s hs => h.nm s (p.mem_iff.mp hs), p.nodup_iff.mpr h.nd, by rw [p.length_eq]; exact h.lo, by rw [p.length_eq]; exact h.hi⟩
theorem sortedS_pw : ∀ {l : List Str}, sortedS l = true → l.Pairwise fun a b => ¬ b.cps.toList < a.cps.toList
  | [], _ => List.Pairwise.nil
  | x :: r, h => by
    have key : ∀ (p : Str) (l : List Str), risingS p l = true → (p :: l).Pairwise fun a b => ¬ b.cps.toList < a.cps.toList := by
      intro p l
      induction l generalizing p with
      | nil => intro _; simp
      | cons y r ih =>
        intro h
        have h' : (!ltCps y.cps.toList p.cps.toList && risingS y r) = true := h
        rw [Bool.and_eq_true] at h'
        have h2 := ih y h'.2
        have h1 : ¬ y.cps.toList < p.cps.toList := by
          have := h'.1
          rw [ltCps_eq] at this
          simpa using this
        refine List.pairwise_cons.mpr ⟨fun z hz => ?_, h2⟩
        rcases List.mem_cons.mp hz with rfl | hz
        · exact h1
        · have h3 := (List.pairwise_cons.mp h2).1 z hz
          exact fun q => h1 (List.lt_of_le_of_lt (List.not_lt.mp h3) q)
    exact key x r h
theorem str_ext {a b : Str} (h : a.cps.toList = b.cps.toList) : a = b := by
  cases a; cases b
  congr 1
  exact Array.toList_inj.mp h
theorem sortedS_uniq {a b : List Str} (p : a.Perm b) (ha : sortedS a = true) (hb : sortedS b = true) : a = b :=
  List.Perm.eq_of_pairwise (fun x y _ _ h1 h2 => str_ext (List.le_antisymm (List.not_lt.mp h1) (List.not_lt.mp h2))) (sortedS_pw ha) (sortedS_pw hb) p
theorem inV_strs (x : Str) (ss : List Str) : inV (.str x) (ss.map V.str) = decide (x ∈ ss) := by
  unfold inV
  rw [List.any_map, Bool.eq_iff_iff, List.any_eq_true, decide_eq_true_iff]
  constructor
  · rintro ⟨y, hy, e⟩
    have : y = x := by simpa [eqV] using e
    exact this ▸ hy
  · intro h
    exact ⟨x, h, by simp [eqV]⟩
theorem flat_strs (ss : List Str) : (ss.map V.str).all flatV = true := by rw [List.all_map, List.all_eq_true]; intro x _; rfl
theorem atI_strs {ss : List Str} {k : Int} (h0 : 0 ≤ k) (h1 : k < ss.length) : atI (ss.map V.str) k = some (.str (ss.getD k.toNat ⟨#[]⟩)) := by
  refine atI_int h0 ?_
  rw [List.getElem?_map, List.getD_eq_getElem?_getD, List.getElem?_eq_getElem (show k.toNat < ss.length by omega)]
  rfl
theorem strs_lrep {H : Hp} {p : Addr} {ss : List Str} (h : H p = some (.lst (ss.map V.str))) : Rep H (.lst (ss.map D.str)) (.ref p) := Rep.lstI h (by
  clear h
  induction ss with
  | nil => exact .nil
  | cons x r ih => exact .cons .strI ih)
theorem depS (ss : List Str) : D.depthL (ss.map D.str) = 0 := by
  induction ss with
  | nil => rfl
  | cons x r ih => show max 0 (D.depthL (r.map D.str)) = 0; rw [ih]; rfl
theorem nmS_ok {z : Str} (h : nmS z = true) : PyData.strOk z = true := by
  have h1 := nmS_asc h
  unfold AscS at h1
  unfold PyData.strOk
  rw [Array.all_eq_true_iff_forall_mem] at h1 ⊢
  intro c hc
  have := of_decide_eq_true (h1 c hc)
  exact decide_eq_true (by omega)
theorem eqOkS : ∀ {ss : List Str}, (∀ s ∈ ss, nmS s = true) → (D.lst (ss.map D.str)).eqOk = true
  | [], _ => rfl
  | x :: r, h => by
    show (PyData.strOk x && D.eqOkL (r.map D.str)) = true
    rw [nmS_ok (h x List.mem_cons_self), Bool.true_and]
    exact eqOkS (ss := r) fun s hs => h s (List.mem_cons_of_mem _ hs)
theorem eqD_self {ss : List Str} (h : ∀ s ∈ ss, nmS s = true) : eqD (.lst (ss.map D.str)) (.lst (ss.map D.str)) = true := SeqAt.eqv_refl _ (D.canLay _ (eqOkS h))
mutual
def plD : D → Bool
  | .int _ => true
  | .str _ => true
  | .tup l => plDL l
  | .lst l => plDL l
  | _ => false
def plDL : List D → Bool
  | [] => true
  | d :: r => plD d && plDL r
end
theorem plDL_of : ∀ {l : List D} {i : Nat} {d : D}, plDL l = true → l[i]? = some d → plD d = true
  | [], _, _, _, e => by simp at e
  | x :: r, 0, d, h, e => by simp at e; subst e; unfold plDL at h; exact (Bool.and_eq_true_iff.mp h).1
  | x :: r, i + 1, d, h, e => by unfold plDL at h; exact plDL_of (Bool.and_eq_true_iff.mp h).2 (by simpa using e)
theorem plI (ns : List Int) : plD (.tup (ns.map D.int)) = true := by
  show plDL (ns.map D.int) = true
  induction ns with
  | nil => rfl
  | cons n r ih => show (plD (.int n) && plDL (r.map D.int)) = true; rw [ih]; rfl
namespace Ns
def sfl (wo st : Addr) (z : Int) : List (Str × V) := [("world", .ref wo), ("standing", .ref st), ("spent", .int z)]
structure ShelfAt (a : Adr) (H : Hp) (r : Addr) (ss ts : List Str) (z : Int) : Prop where
  ex : ∃ dx wo dw st tp, H r = some (.ins a.c_Front dx (sfl wo st z)) ∧ H wo = some (.ins a.c_Shelf dw [("things", .ref tp)]) ∧ H st = some (.tup (ss.map V.str)) ∧ H tp = some (.tup (ts.map V.str))
end Ns
namespace Nk
end Nk
namespace Nk
def kfl (wo st : Addr) (z : Int) (rw : Addr) : List (Str × V) := [("world", .ref wo), ("standing", .ref st), ("spent", .int z), ("row", .ref rw)]
structure KeepR (a : Adr) (H : Hp) (r : Addr) (row : List Str) (z : Int) (dx wo dw st q : Addr) (ss : List Str) : Prop where
  hr : H r = some (.ins a.c_Keeper dx (kfl wo st z q))
  hw : H wo = some (.ins a.c_Store dw [("many", .int (row.length : Nat))])
  hs : H st = some (.tup (ss.map V.str))
  hq : H q = some (.lst (row.map V.str))
  pm : ss.Perm row
  so : sortedS ss = true
structure KeepAt (a : Adr) (H : Hp) (r : Addr) (row : List Str) (z : Int) : Prop where
  ex : ∃ dx wo dw st q ss, KeepR a H r row z dx wo dw st q ss
end Nk
namespace Nw
def wfl (wo q : Addr) (h z : Int) : List (Str × V) := [("world", .ref wo), ("standing", .int h), ("spent", .int z), ("reckoned", .ref q)]
structure WaysAt (a : Adr) (H : Hp) (r : Addr) (ns : List Int) (h t z : Int) : Prop where
  ex : ∃ dx wo dw q, H r = some (.ins a.c_Changer dx (wfl wo q h z)) ∧ H wo = some (.ins a.c_Ways dw [("many", .int ns.length), ("toll", .int t)]) ∧ H q = some (.lst (ns.map V.int))
def fstW (n : Nat) (t h : Int) : List Int := (List.range n).map fun (i : Nat) => if (i : Int) = h then (0 : Int) else t
structure WOk (ns : List Int) (h t : Int) : Prop where
  lo : 1 ≤ ns.length
  hi : ns.length ≤ 8
  h0 : 0 ≤ h
  h1 : h < ns.length
  t0 : 0 ≤ t
  t1 : t ≤ 1000000000000000000
  near : ∀ x ∈ ns, x ≤ mn ns + t
structure ChOk (ns cs : List Int) : Prop where
  len : cs.length = ns.length
  am : ∀ c ∈ cs, 0 ≤ c ∧ c ≤ 1000000000000000000
theorem fst_len {n : Nat} {t h : Int} : (fstW n t h).length = n := by unfold fstW; simp
end Nw
inductive W83
  | i (z : Int)
  | s (x : Str)
  | l (cs : List Int)
def W83.at_ (H : Hp) : W83 → V → Prop
  | .i z, v => v = .int z
  | .s x, v => v = .str x
  | .l cs, v => ∃ p, v = .ref p ∧ H p = some (.tup (cs.map V.int))
theorem W83.mono {H H' : Hp} (e : ∀ p cs, H p = some (.tup cs) → H' p = some (.tup cs)) {w : W83} {v : V} (h : w.at_ H v) : w.at_ H' v := by
  cases w with
  | l cs => obtain ⟨p, h1, h2⟩ := h; exact ⟨p, h1, e _ _ h2⟩
  | _ => exact h
inductive RS
  | line (m : Nat) (ns : List Int) (z : Int)
  | shelf (ts ss : List Str) (z : Int)
  | hire (W st z : Int)
  | ways (n : Nat) (t : Int) (ns : List Int) (h z : Int)
  | store (m : Nat) (row : List Str) (z : Int)
  | bags (R : Int) (ps : List Int) (z : Int)
def RS.at_ (a : Adr) (H : Hp) (r : Addr) : RS → Prop
  | .line _ ns z => Nl.LineAt a a.c_Both H r ns z
  | .shelf ts ss z => Ns.ShelfAt a H r ss ts z
  | .hire W st z => Nh.BuyAt a H r W st z
  | .ways _ t ns h z => Nw.WaysAt a H r ns h t z
  | .store _ row z => Nk.KeepAt a H r row z
  | .bags R ps z => ∃ ss, Nb.BagAt a H r R ps ss z ∧ ss.Perm ps ∧ ss.Pairwise (· ≤ ·)
def RS.wo (a : Adr) (H : Hp) (w : Addr) : RS → Prop
  | .line m _ _ => ∃ dw, H w = some (.ins a.c_Line dw [("many", .int (m : Nat))])
  | .shelf ts _ _ => ∃ dw tp, H w = some (.ins a.c_Shelf dw [("things", .ref tp)]) ∧ H tp = some (.tup (ts.map V.str))
  | .hire W _ _ => ∃ dw, H w = some (.ins a.c_Hire dw [("whole", .int W)])
  | .ways n t _ _ _ => ∃ dw, H w = some (.ins a.c_Ways dw [("many", .int (n : Nat)), ("toll", .int t)])
  | .store m _ _ => ∃ dw, H w = some (.ins a.c_Store dw [("many", .int (m : Nat))])
  | .bags R _ _ => ∃ dw, H w = some (.ins a.c_Bags dw [("room", .int R)])
theorem RS.woM {a : Adr} {H H' : Hp} {w : Addr} (e : ∀ p o, (p = w ∨ ∃ xs, o = .tup xs) → H p = some o → H' p = some o) {s : RS} (h : s.wo a H w) : s.wo a H' w := by
  cases s with
  | shelf ts ss z => obtain ⟨dw, tp, h1, h2⟩ := h; exact ⟨dw, tp, e _ _ (.inl rfl) h1, e _ _ (.inr ⟨_, rfl⟩) h2⟩
  | _ => obtain ⟨dw, h1⟩ := h; exact ⟨dw, e _ _ (.inl rfl) h1⟩
theorem RS.woE {a : Adr} {H H' : Hp} {w : Addr} (e : Ext H H') {s : RS} (h : s.wo a H w) : s.wo a H' w := RS.woM (fun p o _ h => e _ _ h) h
def RS.st (H : Hp) : RS → V → Prop
  | .line _ ns _, v => ∃ p, v = .ref p ∧ H p = some (.tup (ns.map V.int))
  | .shelf _ ss _, v => ∃ p, v = .ref p ∧ H p = some (.tup (ss.map V.str))
  | .hire _ st _, v => v = .int st
  | .ways _ _ _ h _, v => v = .int h
  | .store _ row _, v => ∃ (p : Addr) (ss : List Str), v = .ref p ∧ H p = some (.tup (ss.map V.str)) ∧ ss.Perm row ∧ sortedS ss = true
  | .bags _ ps _, v => ∃ (p : Addr) (ss : List Int), v = .ref p ∧ H p = some (.tup (ss.map V.int)) ∧ ss.Perm ps ∧ ss.Pairwise (· ≤ ·)
def RS.okW : RS → W83 → Prop
  | .line _ _ _, w => ∃ z, w = .i z ∧ -1000000000000000000 ≤ z ∧ z ≤ 1000000000000000000
  | .shelf ts _ _, w => ∃ x, w = .s x ∧ x ∈ ts
  | .hire _ _ _, w => ∃ z, w = .i z ∧ 0 ≤ z ∧ z ≤ 1000000000000000000
  | .ways n _ _ _ _, w => ∃ cs, w = .l cs ∧ cs.length = n ∧ ∀ c ∈ cs, 0 ≤ c ∧ c ≤ 1000000000000000000
  | .store _ _ _, w => ∃ x, w = .s x ∧ nmS x = true
  | .bags R _ _, w => ∃ z, w = .i z ∧ 1 ≤ z ∧ z ≤ R
inductive G83
  | line (ns : List Int) | shelf (ss : List Str) | hire (W : Int) | ways (n : Nat) (t h : Int) | store (ss : List Str) | bags (R : Int)
def G83.word : G83 → Str
  | .line _ => Str.ofString "line" | .shelf _ => Str.ofString "shelf" | .hire _ => Str.ofString "hire" | .ways _ _ _ => Str.ofString "ways" | .store _ => Str.ofString "store" | .bags _ => Str.ofString "bags"
def G83.tup : G83 → List V
  | .line ns => ns.map V.int | .shelf ss => ss.map V.str | .hire W => [.int W] | .ways n t h => [.int (n : Nat), .int t, .int h] | .store ss => ss.map V.str | .bags R => [.int R]
def G83.rs : G83 → RS
  | .line ns => .line ns.length ns 0 | .shelf ss => .shelf ss ss 0 | .hire W => .hire W 0 0 | .ways n t h => .ways n t (Nw.fstW n t h) h 0 | .store ss => .store ss.length ss 0 | .bags R => .bags R [] 0
def G83.ok : G83 → Prop
  | .line ns => Nl.Good ns | .shelf ss => Names ss | .hire W => 1 ≤ W ∧ W ≤ 1000000000000000000
  | .ways n t h => 1 ≤ n ∧ n ≤ 8 ∧ 0 ≤ h ∧ h < n ∧ 0 ≤ t ∧ t ≤ 1000000000000000000 | .store ss => Names ss | .bags R => 1 ≤ R ∧ R ≤ 1000000000000000000
def GAt (H : Hp) (g : G83) (wd : Str) (p : Addr) : Prop := wd = g.word ∧ H p = some (.tup g.tup) ∧ g.ok
theorem GAt.ext {H H' : Hp} (e : Ext H H') {g : G83} {wd : Str} {p : Addr} (h : GAt H g wd p) : GAt H' g wd p := ⟨h.1, e _ _ h.2.1, h.2.2⟩
theorem r_slQ {K : PySem.W.Frag} {H : Hp} {Q : VK} {p : Addr} {xs : List V} {lo hi : Option Int} (h : SqL K H p xs) (q : ∀ l H', H l = none → H' l = some (.lst (cutV xs lo hi)) → Ext H H' → Q (.ref l) H') : rSlU K (.ref p) lo hi H Q := .inr ⟨p, xs, rfl, h, fun l nl => q l _ nl upd_same (ext_upd nl)⟩
def W83.d : W83 → D
  | .i z => .int z
  | .s x => .str x
  | .l cs => .tup (cs.map D.int)
def AllW (H : Hp) : List W83 → List V → Prop
  | [], [] => True
  | w :: ws, v :: vs => w.at_ H v ∧ AllW H ws vs
  | _, _ => False
theorem AllW.mono {H H' : Hp} (e : ∀ p cs, H p = some (.tup cs) → H' p = some (.tup cs)) : ∀ {ws : List W83} {vs : List V}, AllW H ws vs → AllW H' ws vs
  | [], [], _ => trivial
  | _ :: _, _ :: _, ⟨h1, h⟩ => ⟨W83.mono e h1, AllW.mono e h⟩
  | [], _ :: _, h => h.elim
  | _ :: _, [], h => h.elim
theorem AllW.len {H : Hp} : ∀ {ws : List W83} {vs : List V}, AllW H ws vs → vs.length = ws.length
  | [], [], _ => rfl
  | _ :: _, _ :: _, ⟨_, h⟩ => by simp [AllW.len h]
  | [], _ :: _, h => h.elim
  | _ :: _, [], h => h.elim
theorem AllW.get {H : Hp} : ∀ {ws : List W83} {vs : List V} {i : Nat} {w : W83}, AllW H ws vs → ws[i]? = some w → ∃ v, vs[i]? = some v ∧ w.at_ H v
  | _ :: _, v :: _, 0, w, ⟨h1, _⟩, e => by simp at e; subst e; exact ⟨v, rfl, h1⟩
  | _ :: _, _ :: _, i + 1, w, ⟨_, h⟩, e => by obtain ⟨v, h1, h2⟩ := AllW.get h (by simpa using e); exact ⟨v, by simpa using h1, h2⟩
  | [], _, _, _, _, e => by simp at e
  | _ :: _, [], _, _, h, _ => h.elim
theorem AllW.snoc {H : Hp} {w : W83} {v : V} (k : w.at_ H v) : ∀ {ws : List W83} {vs : List V}, AllW H ws vs → AllW H (ws ++ [w]) (vs ++ [v])
  | [], [], _ => ⟨k, trivial⟩
  | _ :: _, _ :: _, ⟨h1, h⟩ => ⟨h1, AllW.snoc k h⟩
  | [], _ :: _, h => h.elim
  | _ :: _, [], h => h.elim
theorem AllW.rep {H : Hp} : ∀ {ws : List W83} {vs : List V}, AllW H ws vs → RepL H (ws.map W83.d) vs
  | [], [], _ => RepL.nil
  | w :: _, _ :: _, ⟨h1, h⟩ => by
    refine RepL.cons ?_ (AllW.rep h)
    cases w with
    | i z => exact h1
    | s x => exact h1
    | l cs => obtain ⟨q, rfl, hq⟩ := h1; exact Rep.tupInts hq
  | [], _ :: _, h => h.elim
  | _ :: _, [], h => h.elim
theorem okW_d {g : G83} {w : W83} (h : g.ok) (hw : g.rs.okW w) : w.d.eqOk = true := by
  cases g with
  | line ns => obtain ⟨x, rfl, _⟩ := hw; rfl
  | shelf ss => obtain ⟨x, rfl, hx⟩ := hw; exact nmS_ok (h.nm x hx)
  | hire W => obtain ⟨x, rfl, _⟩ := hw; rfl
  | ways n t h' => obtain ⟨cs, rfl, _⟩ := hw; exact eqOk_ints cs
  | store ss => obtain ⟨x, rfl, hx⟩ := hw; exact nmS_ok hx
  | bags R => obtain ⟨x, rfl, _⟩ := hw; rfl
theorem okW_ds {g : G83} (h : g.ok) : ∀ {ws : List W83}, (∀ w ∈ ws, g.rs.okW w) → D.eqOkL (ws.map W83.d) = true ∧ D.depthL (ws.map W83.d) ≤ 1
  | [], _ => ⟨rfl, by decide⟩
  | w :: ws, hw => by
    obtain ⟨i1, i2⟩ := okW_ds h (ws := ws) fun x hx => hw x (List.mem_cons_of_mem _ hx)
    refine ⟨?_, ?_⟩
    · show (w.d.eqOk && D.eqOkL (ws.map W83.d)) = true
      rw [okW_d h (hw w List.mem_cons_self), i1]
      rfl
    · show max w.d.depth (D.depthL (ws.map W83.d)) ≤ 1
      have : w.d.depth ≤ 1 := by
        cases w with
        | i z => show 0 ≤ 1; decide
        | s x => show 0 ≤ 1; decide
        | l cs => show D.depthL (cs.map D.int) + 1 ≤ 1; rw [depthL_ints]; decide
      omega
theorem eqD_nilW (ws : List W83) : eqD (.lst (ws.map W83.d)) (.lst []) = decide (ws = []) := by
  cases ws with
  | nil => simp [eqD, D.py, D.pyL, PyData.eqv, PyData.eqvAll]
  | cons t r => simp [eqD, D.py, D.pyL, PyData.eqv, PyData.eqvAll]
theorem cut_uniq {c : Nat} : ∀ {y z A B : List Nat}, c ∉ y → c ∉ z → y ++ c :: A = z ++ c :: B → y = z ∧ A = B
  | [], [], A, B, _, _, e => by simp at e; exact ⟨rfl, e⟩
  | [], b :: z, A, B, _, hz, e => by simp at e; exact absurd e.1 (fun q => hz (by rw [q]; exact List.mem_cons_self))
  | a :: y, [], A, B, hy, _, e => by simp at e; exact absurd e.1.symm (fun q => hy (by rw [q]; exact List.mem_cons_self))
  | a :: y, b :: z, A, B, hy, hz, e => by
    simp at e
    obtain ⟨h1, h2⟩ := cut_uniq (fun q => hy (List.mem_cons_of_mem _ q)) (fun q => hz (List.mem_cons_of_mem _ q)) e.2
    exact ⟨by rw [e.1, h1], h2⟩
theorem strE {a b : Str} (h : a.cps.toList = b.cps.toList) : a = b := by
  obtain ⟨a⟩ := a
  obtain ⟨b⟩ := b
  exact congrArg Str.mk (Array.toList_inj.mp h)
theorem appE (a b : Str) : (a ++ b).cps.toList = a.cps.toList ++ b.cps.toList := Array.toList_append
theorem joinE (c : Nat) (x y : Str) (r : List Str) : (Str.join ⟨#[c]⟩ (x :: y :: r)).cps.toList = x.cps.toList ++ c :: (Str.join ⟨#[c]⟩ (y :: r)).cps.toList := by
  show ((x ++ (⟨#[c]⟩ : Str)) ++ Str.join ⟨#[c]⟩ (y :: r)).cps.toList = _
  rw [appE, appE, List.append_assoc]
  rfl
theorem join_uniq {c : Nat} : ∀ {ys zs : List Str}, ys ≠ [] → zs ≠ [] → (∀ z ∈ ys, c ∉ z.cps.toList) → (∀ z ∈ zs, c ∉ z.cps.toList) → Str.join ⟨#[c]⟩ ys = Str.join ⟨#[c]⟩ zs → ys = zs
  | [], _, h, _, _, _, _ => absurd rfl h
  | _, [], _, h, _, _, _ => absurd rfl h
  | [y], [z], _, _, _, _, e => by rw [show y = z from e]
  | [y], z :: z2 :: r, _, _, hy, _, e => by
    have e1 := congrArg (fun s : Str => s.cps.toList) e
    simp only [joinE] at e1
    have e2 : y.cps.toList = z.cps.toList ++ c :: (Str.join ⟨#[c]⟩ (z2 :: r)).cps.toList := e1
    exact absurd (by rw [e2]; simp) (hy y List.mem_cons_self)
  | y :: y2 :: r, [z], _, _, _, hz, e => by
    have e1 := congrArg (fun s : Str => s.cps.toList) e
    simp only [joinE] at e1
    have e2 : y.cps.toList ++ c :: (Str.join ⟨#[c]⟩ (y2 :: r)).cps.toList = z.cps.toList := e1
    exact absurd (by rw [← e2]; simp) (hz z List.mem_cons_self)
  | y :: y2 :: r, z :: z2 :: q, _, _, hy, hz, e => by
    have e1 := congrArg (fun s : Str => s.cps.toList) e
    simp only [joinE] at e1
    obtain ⟨h1, h2⟩ := cut_uniq (hy y List.mem_cons_self) (hz z List.mem_cons_self) e1
    rw [strE h1, join_uniq (ys := y2 :: r) (zs := z2 :: q) (List.cons_ne_nil _ _) (List.cons_ne_nil _ _) (fun x hx => hy x (List.mem_cons_of_mem _ hx)) (fun x hx => hz x (List.mem_cons_of_mem _ hx)) (strE h2)]
theorem split_join {c : Nat} {zs : List Str} (hn : zs ≠ []) (hf : ∀ z ∈ zs, c ∉ z.cps.toList) : Txt.split (Str.join ⟨#[c]⟩ zs) ⟨#[c]⟩ = zs := by
  refine join_uniq (c := c) (fun e => ?_) hn (StrLaws.split_free _ c) hf (StrLaws.join_split _ _)
  have := split_pos (Str.join ⟨#[c]⟩ zs) ⟨#[c]⟩
  rw [e] at this
  exact absurd this (by decide)
theorem join_len (c : Nat) {k : Nat} : ∀ {zs : List Str}, (∀ z ∈ zs, z.length ≤ k) → (Str.join ⟨#[c]⟩ zs).length ≤ (k + 1) * zs.length
  | [], _ => Nat.zero_le _
  | [z], h => by have := h z List.mem_cons_self; show z.length ≤ (k + 1) * 1; omega
  | z :: y :: r, h => by
    have h1 := h z List.mem_cons_self
    have h2 := join_len c (zs := y :: r) fun x hx => h x (List.mem_cons_of_mem _ hx)
    have e := congrArg List.length (joinE c z y r)
    rw [List.length_append, List.length_cons] at e
    have e' : (Str.join ⟨#[c]⟩ (z :: y :: r)).length = z.length + ((Str.join ⟨#[c]⟩ (y :: r)).length + 1) := e
    rw [e', show (z :: y :: r).length = (y :: r).length + 1 from rfl, Nat.mul_add]
    omega
theorem join_ok (c : Nat) {k n : Nat} {zs : List Str} (h : ∀ z ∈ zs, z.length ≤ k) (hl : zs.length ≤ n) (hb : (k + 1) * n ≤ 1000000) : JoinOk ⟨#[c]⟩ zs = true := by
  have go : ∀ (l : List Str) (acc : Nat), (∀ z ∈ l, z.length ≤ k) → l.foldl (fun a z => a + z.length + (⟨#[c]⟩ : Str).length) acc ≤ acc + (k + 1) * l.length := by
    intro l
    induction l with
    | nil => intro acc _; exact Nat.le_add_right _ _
    | cons z r ih =>
      intro acc hz
      have h1 := hz z List.mem_cons_self
      have := ih (acc + z.length + (⟨#[c]⟩ : Str).length) fun x hx => hz x (List.mem_cons_of_mem _ hx)
      have e1 : (⟨#[c]⟩ : Str).length = 1 := rfl
      rw [List.foldl_cons, List.length_cons, Nat.mul_add]
      omega
  unfold JoinOk Builtin.Str.tooLong
  have g := go zs 0 h
  have e : zs.toArray.foldl (fun a z => a + z.length + (⟨#[c]⟩ : Str).length) 0 = zs.foldl (fun a z => a + z.length + (⟨#[c]⟩ : Str).length) 0 := by simp
  have m : (k + 1) * zs.length ≤ (k + 1) * n := Nat.mul_le_mul_left _ hl
  rw [e, sizeLine_eq]
  skip; simp only [Bool.not_eq_true', decide_eq_false_iff_not]
  omega
open PySem.NumText in
abbrev dVal : List Nat → Nat := digitsVal
def dig (c : Nat) : Bool := decide (48 ≤ c) && decide (c ≤ 57)
def figB (z : Str) : Bool := (decide (1 ≤ z.length) && decide (z.length ≤ 19)) && z.cps.toList.all dig && (decide (z = ⟨#[48]⟩) || !decide (z.cps.toList.head? = some 48))
def tlS (z : Str) : Str := ⟨z.cps.toList.tail.toArray⟩
def negB (z : Str) : Bool := decide (z.cps.toList.head? = some 45) && figB (tlS z) && !decide (z = ⟨#[45, 48]⟩)
def wrV (z : Str) : V := if figB z then .int (dVal z.cps.toList : Nat) else if negB z then .int (-(dVal (tlS z).cps.toList : Nat)) else .str z
theorem fig_int {z : Str} (h : figB z = true) : PySem.intText? z = some ((dVal z.cps.toList : Nat) : Int) ∧ z.length ≤ 19 := by
  unfold figB at h
  simp only [Bool.and_eq_true, decide_eq_true_eq] at h
  obtain ⟨⟨⟨h1, h2⟩, h3⟩, _⟩ := h
  refine ⟨PySem.intText_digits (fun c hc => ?_) (fun e => ?_) (by omega), h2⟩
  · have := List.all_eq_true.mp h3 c hc
    unfold dig at this
    simpa using this
  · have : z.cps.toList.length = z.length := Array.length_toList
    rw [e] at this
    simp at this
    omega
theorem dig_len : ∀ (k m : Nat), m < 10 ^ (k + 1) → (Nat.toDigits 10 m).length ≤ k + 1
  | 0, m, h => by rw [Nat.toDigits_of_lt_base (by omega)]; exact Nat.le_refl _
  | k + 1, m, h => by
    by_cases c : m < 10
    · rw [Nat.toDigits_of_lt_base c]; simp
    · skip; have hm : m % 10 < 10 := Nat.mod_lt m (by decide)
      skip; have t : Nat.toDigits 10 (m / 10) ++ Nat.toDigits 10 (m % 10) = Nat.toDigits 10 (10 * (m / 10) + m % 10) := Nat.toDigits_append_toDigits (by decide) (by omega) hm
      rw [Nat.div_add_mod] at t
      rw [← t, List.length_append, Nat.toDigits_of_lt_base hm]
      have := dig_len k (m / 10) (by rw [Nat.pow_succ] at h; omega)
      skip; simp only [List.length_cons, List.length_nil]
      omega
theorem dig_head (mv : Nat) (h : 1 ≤ mv) : ∃ d r, Nat.toDigits 10 mv = Nat.digitChar d :: r ∧ 1 ≤ d ∧ d < 10 := by
  induction mv using Nat.strongRecOn with
  | _ m ih =>
    by_cases c : m < 10
    · exact ⟨m, [], Nat.toDigits_of_lt_base c, h, c⟩
    · skip; have hm : m % 10 < 10 := Nat.mod_lt m (by decide)
      skip; have t : Nat.toDigits 10 (m / 10) ++ Nat.toDigits 10 (m % 10) = Nat.toDigits 10 (10 * (m / 10) + m % 10) := Nat.toDigits_append_toDigits (by decide) (by omega) hm
      rw [Nat.div_add_mod] at t
      obtain ⟨d, r, e, h1, h2⟩ := ih (m / 10) (by omega) (by omega)
      rw [e] at t
      exact ⟨d, r ++ Nat.toDigits 10 (m % 10), t.symm, h1, h2⟩
theorem txI_nat (m : Nat) : (txI (m : Nat)).cps.toList = (Nat.toDigits 10 m).map Char.toNat := PySem.W.KIN.signs_num m
theorem txI_dig (m : Nat) : ∀ c ∈ (txI (m : Nat)).cps.toList, 48 ≤ c ∧ c ≤ 57 := by
  intro c hc
  rw [txI_nat] at hc
  skip; obtain ⟨ch, hch, e⟩ := List.mem_map.mp hc
  skip; have r := digit_range (Nat.isDigit_of_mem_toDigits (by decide) (by decide) hch)
  rw [← e]
  exact r
theorem figB_nat {m : Nat} (h : m ≤ 1000000000000000001) : figB (txI (m : Nat)) = true ∧ dVal (txI (m : Nat)).cps.toList = m := by
  have hv : dVal (txI (m : Nat)).cps.toList = m := by rw [txI_nat]; exact PySem.W.KIN.val_back m
  refine ⟨?_, hv⟩
  have hl : (txI (m : Nat)).length = (Nat.toDigits 10 m).length := by
    have := congrArg List.length (txI_nat m)
    rw [List.length_map] at this
    exact this
  have l2 := dig_len 18 m (by have : (10 : Nat) ^ (18 + 1) = 10000000000000000000 := by decide
                              omega)
  unfold figB
  rcases Nat.eq_zero_or_pos m with rfl | hp
  · decide +kernel
  · obtain ⟨d, r, e, h1, h2⟩ := dig_head m hp
    have hh : (txI (m : Nat)).cps.toList.head? = some (Nat.digitChar d).toNat := by rw [txI_nat, e]; rfl
    have hd : ∀ d : Fin 10, 1 ≤ d.val → (Nat.digitChar d.val).toNat ≠ 48 := by decide
    have hne := hd ⟨d, h2⟩ h1
    have hall : (txI (m : Nat)).cps.toList.all dig = true := List.all_eq_true.mpr fun c hc => by
      have := txI_dig m c hc
      unfold dig
      simp [this.1, this.2]
    rw [hl, hall, hh, e, List.length_cons]
    rw [e, List.length_cons] at l2
    simp only [Option.some.injEq, decide_eq_false hne, Bool.not_false, Bool.or_true, Bool.and_true]
    skip; simp only [Bool.and_eq_true, decide_eq_true_eq]
    omega
theorem txI_neg (m : Nat) (h : 1 ≤ m) : (txI (-(m : Nat) : Int)).cps.toList = 45 :: (txI (m : Nat)).cps.toList := by
  obtain ⟨k, rfl⟩ : ∃ k, m = k + 1 := ⟨m - 1, by omega⟩
  unfold txI
  rw [signs_ofString, signs_ofString]
  have e : toString (-((k + 1 : Nat) : Int)) = "-" ++ toString ((k + 1 : Nat) : Int) := rfl
  rw [e, String.toList_append]
  rfl
theorem notFig {z : Str} {c : Nat} (hc : c ∈ z.cps.toList) (hd : dig c = false) : figB z = false := by
  unfold figB
  have : z.cps.toList.all dig = false := by
    rw [List.all_eq_false]
    exact ⟨c, hc, by rw [hd]; decide⟩
  rw [this]
  simp
theorem wrW_int {n : Int} (h0 : -1000000000000000001 ≤ n) (h1 : n ≤ 1000000000000000001) : wrV (txI n) = .int n := by
  unfold wrV
  by_cases c : 0 ≤ n
  · obtain ⟨m, rfl⟩ := Int.eq_ofNat_of_zero_le c
    obtain ⟨e1, e2⟩ := figB_nat (m := m) (by omega)
    rw [if_pos e1, e2]
  · obtain ⟨m, rfl, hm⟩ : ∃ m : Nat, n = -(m : Int) ∧ 1 ≤ m := ⟨n.natAbs, by omega, by omega⟩
    obtain ⟨e1, e2⟩ := figB_nat (m := m) (by omega)
    have ec := txI_neg m hm
    have et : tlS (txI (-(m : Int))) = txI (m : Nat) := strE (by unfold tlS; rw [ec]; rfl)
    have hz : txI (-(m : Int)) ≠ ⟨#[45, 48]⟩ := fun q => by
      have q2 : (45 : Nat) :: (txI (m : Nat)).cps.toList = [45, 48] := by rw [← ec, q]
      injection q2 with _ q2
      rw [q2] at e2
      have : dVal [48] = 0 := rfl
      omega
    rw [if_neg (by rw [notFig (c := 45) (by rw [ec]; exact List.mem_cons_self) rfl]; decide), if_pos, et, e2]
    unfold negB
    rw [et, e1, ec, decide_eq_false hz]
    rfl
theorem wrV_int {n : Int} (h0 : -1000000000000000000 ≤ n) (h1 : n ≤ 1000000000000000000) : wrV (txI n) = .int n := wrW_int (by omega) (by omega)
def okSg (c : Nat) : Prop := (48 ≤ c ∧ c ≤ 57) ∨ c = 45 ∨ (97 ≤ c ∧ c ≤ 122)
theorem txW_sg {n : Int} (h0 : -1000000000000000001 ≤ n) (h1 : n ≤ 1000000000000000001) : (∀ c ∈ (txI n).cps.toList, okSg c) ∧ 1 ≤ (txI n).length ∧ (txI n).length ≤ 20 := by
  have nat : ∀ m : Nat, m ≤ 1000000000000000001 → 1 ≤ (txI (m : Nat)).length ∧ (txI (m : Nat)).length ≤ 19 := fun m hm => by
    have := (figB_nat hm).1
    unfold figB at this
    simp only [Bool.and_eq_true, decide_eq_true_eq] at this
    exact this.1.1
  by_cases c : 0 ≤ n
  · obtain ⟨m, rfl⟩ := Int.eq_ofNat_of_zero_le c
    have := nat m (by omega)
    exact ⟨fun c hc => .inl (txI_dig m c hc), this.1, by omega⟩
  · obtain ⟨m, rfl, hm⟩ : ∃ m : Nat, n = -(m : Int) ∧ 1 ≤ m := ⟨n.natAbs, by omega, by omega⟩
    have ec := txI_neg m hm
    have := nat m (by omega)
    have hl : (txI (-(m : Int))).length = (txI (m : Nat)).length + 1 := by
      have := congrArg List.length ec
      exact this
    refine ⟨fun c hc => ?_, by omega, by omega⟩
    rw [ec] at hc
    skip; rcases List.mem_cons.mp hc with rfl | hc
    · exact .inr (.inl rfl)
    · exact .inl (txI_dig m c hc)
theorem txI_sg {n : Int} (h0 : -1000000000000000000 ≤ n) (h1 : n ≤ 1000000000000000000) : (∀ c ∈ (txI n).cps.toList, okSg c) ∧ 1 ≤ (txI n).length ∧ (txI n).length ≤ 20 := txW_sg (by omega) (by omega)
theorem wrV_name {z : Str} (h1 : 1 ≤ z.length) (h : ∀ c ∈ z.cps.toList, 97 ≤ c ∧ c ≤ 122) : wrV z = .str z := by
  obtain ⟨c, r, e⟩ : ∃ c r, z.cps.toList = c :: r := by
    cases q : z.cps.toList with
    | nil => have : z.cps.toList.length = z.length := Array.length_toList
             rw [q] at this
             simp at this
             omega
    | cons c r => exact ⟨c, r, rfl⟩
  have hc := h c (by rw [e]; exact List.mem_cons_self)
  unfold wrV
  rw [if_neg, if_neg]
  · unfold negB
    rw [e]
    have : ¬ (c :: r).head? = some 45 := by simp only [List.head?_cons, Option.some.injEq]; omega
    rw [decide_eq_false this]
    simp
  · rw [notFig (c := c) (by rw [e]; exact List.mem_cons_self) (by unfold dig; simp; omega)]
    decide
def ClV : V → Prop
  | .int n => -1000000000000000000 ≤ n ∧ n ≤ 1000000000000000000
  | .str z => nmS z = true
  | _ => False
def txV : V → Str
  | .int n => txI n
  | .str z => z
  | _ => ⟨#[]⟩
theorem nmS_l {z : Str} (h : nmS z = true) : ∀ c ∈ z.cps.toList, 97 ≤ c ∧ c ≤ 122 := fun c hc => by
  unfold nmS at h
  rw [Bool.and_eq_true] at h
  have := List.all_eq_true.mp h.2 c hc
  unfold nmL at this
  rw [Bool.and_eq_true, decide_eq_true_iff, decide_eq_true_iff] at this
  exact this
theorem ClV.wr {v : V} (h : ClV v) : wrV (txV v) = v := by
  cases v with
  | int n => exact wrV_int h.1 h.2
  | str z => exact wrV_name (nmS_len h).1 (nmS_l h)
  | _ => exact h.elim
theorem ClV.sg {v : V} (h : ClV v) : (∀ c ∈ (txV v).cps.toList, okSg c) ∧ 1 ≤ (txV v).length ∧ (txV v).length ≤ 20 := by
  cases v with
  | int n => exact txI_sg h.1 h.2
  | str z => have := nmS_len h; exact ⟨fun c hc => .inr (.inr (nmS_l h c hc)), this.1, by show z.length ≤ 20; omega⟩
  | _ => exact h.elim
def W83.ps : W83 → List V
  | .i z => [.int z]
  | .s x => [.str x]
  | .l cs => cs.map V.int
theorem G83.cl {g : G83} (h : g.ok) : (∀ v ∈ g.tup, ClV v) ∧ 1 ≤ g.tup.length ∧ g.tup.length ≤ 8 := by
  cases g with
  | line ns =>
    obtain ⟨l1, l6, _, hb⟩ := h
    refine ⟨fun v hv => ?_, by show 1 ≤ (ns.map V.int).length; rw [List.length_map]; omega, by show (ns.map V.int).length ≤ 8; rw [List.length_map]; omega⟩
    obtain ⟨n, hn, rfl⟩ := List.mem_map.mp hv
    exact hb n hn
  | shelf ss =>
    refine ⟨fun v hv => ?_, by show 1 ≤ (ss.map V.str).length; rw [List.length_map]; exact h.lo, by show (ss.map V.str).length ≤ 8; rw [List.length_map]; exact h.hi⟩
    obtain ⟨n, hn, rfl⟩ := List.mem_map.mp hv
    exact h.nm n hn
  | hire W => exact ⟨fun v hv => by rw [List.mem_singleton.mp hv]; exact ⟨by have := h.1; omega, h.2⟩, Nat.le_refl 1, (by decide : 1 ≤ 8)⟩
  | ways n t h' =>
    obtain ⟨n1, n8, h0, h1, t0, t1⟩ := h
    refine ⟨fun v hv => ?_, by show 1 ≤ 3; decide, by show 3 ≤ 8; decide⟩
    rcases List.mem_cons.mp hv with rfl | hv
    · exact ⟨by omega, by omega⟩
    rcases List.mem_cons.mp hv with rfl | hv
    · exact ⟨by omega, by omega⟩
    rw [List.mem_singleton.mp hv]
    exact ⟨by omega, by omega⟩
  | store ss =>
    refine ⟨fun v hv => ?_, by show 1 ≤ (ss.map V.str).length; rw [List.length_map]; exact h.lo, by show (ss.map V.str).length ≤ 8; rw [List.length_map]; exact h.hi⟩
    obtain ⟨n, hn, rfl⟩ := List.mem_map.mp hv
    exact h.nm n hn
  | bags R => exact ⟨fun v hv => by rw [List.mem_singleton.mp hv]; exact ⟨by have := h.1; omega, h.2⟩, Nat.le_refl 1, (by decide : 1 ≤ 8)⟩
theorem okW_cl {g : G83} {w : W83} (h : g.ok) (hw : g.rs.okW w) : (∀ v ∈ w.ps, ClV v) ∧ 1 ≤ w.ps.length ∧ w.ps.length ≤ 8 := by
  have one : ∀ {v : V}, ClV v → (∀ u ∈ [v], ClV u) ∧ 1 ≤ [v].length ∧ [v].length ≤ 8 := fun k => ⟨fun u hu => by rw [List.mem_singleton.mp hu]; exact k, by simp, by simp⟩
  cases g with
  | line ns => obtain ⟨x, rfl, h0, h1⟩ := hw; exact one ⟨h0, h1⟩
  | shelf ss => obtain ⟨x, rfl, hx⟩ := hw; exact one (h.nm x hx)
  | hire W => obtain ⟨x, rfl, h0, h1⟩ := hw; exact one ⟨by omega, h1⟩
  | ways n t h' =>
    obtain ⟨cs, rfl, hl, hc⟩ := hw
    obtain ⟨n1, n8, _⟩ := h
    refine ⟨fun v hv => ?_, by show 1 ≤ (cs.map V.int).length; rw [List.length_map]; omega, by show (cs.map V.int).length ≤ 8; rw [List.length_map]; omega⟩
    obtain ⟨c, hc', rfl⟩ := List.mem_map.mp hv
    exact ⟨by have := (hc c hc').1; omega, (hc c hc').2⟩
  | store ss => obtain ⟨x, rfl, hx⟩ := hw; exact one hx
  | bags R => obtain ⟨x, rfl, h0, h1⟩ := hw; exact one ⟨by omega, by have := h.2; omega⟩
theorem join_mem (c0 : Nat) : ∀ {zs : List Str} {c : Nat}, c ∈ (Str.join ⟨#[c0]⟩ zs).cps.toList → c = c0 ∨ ∃ z ∈ zs, c ∈ z.cps.toList
  | [], c, h => by cases h
  | [z], c, h => .inr ⟨z, List.mem_cons_self, h⟩
  | z :: y :: r, c, h => by
    rw [joinE] at h
    rcases List.mem_append.mp h with h | h
    · exact .inr ⟨z, List.mem_cons_self, h⟩
    rcases List.mem_cons.mp h with h | h
    · exact .inl h
    rcases join_mem c0 h with h | ⟨x, hx, h⟩
    · exact .inl h
    · exact .inr ⟨x, List.mem_cons_of_mem _ hx, h⟩
theorem mem_join (c0 : Nat) : ∀ {zs : List Str} {z : Str} {c : Nat}, z ∈ zs → c ∈ z.cps.toList → c ∈ (Str.join ⟨#[c0]⟩ zs).cps.toList
  | [], _, _, h, _ => by cases h
  | [y], z, c, h, hc => by rw [List.mem_singleton.mp h] at hc; exact hc
  | x :: y :: r, z, c, h, hc => by
    rw [joinE]
    rcases List.mem_cons.mp h with rfl | h
    · exact List.mem_append_left _ hc
    · exact List.mem_append_right _ (List.mem_cons_of_mem _ (mem_join c0 h hc))
theorem join_fst (c0 : Nat) (z : Str) (r : List Str) : z.length ≤ (Str.join ⟨#[c0]⟩ (z :: r)).length := by
  cases r with
  | nil => exact Nat.le_refl _
  | cons y r =>
    have e := congrArg List.length (joinE c0 z y r)
    rw [List.length_append, List.length_cons] at e
    have e' : (Str.join ⟨#[c0]⟩ (z :: y :: r)).length = z.length + ((Str.join ⟨#[c0]⟩ (y :: r)).length + 1) := e
    omega
def LnOk (z : Str) : Prop := (∀ c ∈ z.cps.toList, okSg c ∨ c = 32) ∧ 1 ≤ z.length ∧ z.length ≤ 200
theorem ln_ok {k : Str} {vs : List V} (hk : nmS k = true) (hv : ∀ v ∈ vs, ClV v) (hl : vs.length ≤ 8) : Txt.split (Str.join ⟨#[32]⟩ (k :: vs.map txV)) ⟨#[32]⟩ = k :: vs.map txV ∧ LnOk (Str.join ⟨#[32]⟩ (k :: vs.map txV)) := by
  have all : ∀ z ∈ k :: vs.map txV, (∀ c ∈ z.cps.toList, okSg c) ∧ 1 ≤ z.length ∧ z.length ≤ 20 := fun z hz => by
    rcases List.mem_cons.mp hz with rfl | hz
    · have := nmS_len hk; exact ⟨fun c hc => .inr (.inr (nmS_l hk c hc)), this.1, by omega⟩
    · obtain ⟨v, h1, rfl⟩ := List.mem_map.mp hz
      exact (hv v h1).sg
  refine ⟨split_join (List.cons_ne_nil _ _) fun z hz hc => ?_, fun c hc => ?_, ?_, ?_⟩
  · rcases (all z hz).1 32 hc with h | h | h <;> omega
  · rcases join_mem 32 hc with h | ⟨z, hz, h⟩
    · exact .inr h
    · exact .inl ((all z hz).1 c h)
  · have := join_fst 32 k (vs.map txV)
    have := (nmS_len hk).1
    omega
  · have := join_len 32 (k := 20) (zs := k :: vs.map txV) fun z hz => (all z hz).2.2
    rw [List.length_cons, List.length_map] at this
    omega
theorem ClV.wrs : ∀ {vs : List V}, (∀ v ∈ vs, ClV v) → (vs.map txV).map wrV = vs
  | [], _ => rfl
  | v :: r, h => by rw [List.map_cons, List.map_cons, (h v List.mem_cons_self).wr, ClV.wrs fun u hu => h u (List.mem_cons_of_mem _ hu)]
def askS : Str := Str.ofString "ask"
theorem nm_ask : nmS askS = true := by decide
theorem G83.nmw (g : G83) : nmS g.word = true := by
  cases g with
  | line ns => exact (by decide : nmS (Str.ofString "line") = true)
  | shelf ss => exact (by decide : nmS (Str.ofString "shelf") = true)
  | hire W => exact (by decide : nmS (Str.ofString "hire") = true)
  | ways n t h => exact (by decide : nmS (Str.ofString "ways") = true)
  | store ss => exact (by decide : nmS (Str.ofString "store") = true)
  | bags R => exact (by decide : nmS (Str.ofString "bags") = true)
def lnG (g : G83) : Str := Str.join ⟨#[32]⟩ (g.word :: g.tup.map txV)
def lnW (w : W83) : Str := Str.join ⟨#[32]⟩ (askS :: w.ps.map txV)
theorem lnG_ok {g : G83} (h : g.ok) : Txt.split (lnG g) ⟨#[32]⟩ = g.word :: g.tup.map txV ∧ LnOk (lnG g) := ln_ok g.nmw (G83.cl h).1 (G83.cl h).2.2
theorem lnW_ok {g : G83} {w : W83} (h : g.ok) (hw : g.rs.okW w) : Txt.split (lnW w) ⟨#[32]⟩ = askS :: w.ps.map txV ∧ LnOk (lnW w) := ln_ok nm_ask (okW_cl h hw).1 (okW_cl h hw).2.2
theorem asc_of {z : Str} (h : ∀ c ∈ z.cps.toList, c < 128) : AscS z := by
  unfold AscS
  rw [Array.all_eq_true_iff_forall_mem]
  exact fun c hc => decide_eq_true (h c (by simpa using hc))
theorem of_asc {z : Str} (h : AscS z) : ∀ c ∈ z.cps.toList, c < 128 := fun c hc => by
  unfold AscS at h
  rw [Array.all_eq_true_iff_forall_mem] at h
  simpa using h c (by simpa using hc)
theorem LnOk.asc {z : Str} (h : LnOk z) : AscS z := asc_of fun c hc => by rcases h.1 c hc with (h | h | h) | h <;> omega
theorem split_asc {z : Str} {c0 : Nat} (h : AscS z) (hl : z.length ≤ 1000000) : ∀ x ∈ Txt.split z ⟨#[c0]⟩, AscS x ∧ x.length ≤ 1000000 := fun x hx => by
  refine ⟨asc_of fun c hc => of_asc h c ?_, Nat.le_trans (part_short hx) hl⟩
  have := mem_join c0 hx hc
  rwa [StrLaws.join_split] at this
theorem cut_one (xs : List V) (h : 1 ≤ xs.length) : cutV xs (some 1) none = xs.drop 1 := by
  unfold cutV
  rw [show (some (1 : Int)) = some ((1 : Nat) : Int) from rfl, HT.sIx_nat, HT.sIx_none, Nat.min_eq_left h]
  exact List.take_of_length_le (by rw [List.length_drop]; exact Nat.le_refl _)
def nzRows : List Str → Nat → List (Nat × Str)
  | [], _ => []
  | z :: r, i => if z = ⟨#[]⟩ then nzRows r (i + 1) else (i, z) :: nzRows r (i + 1)
theorem nz_snd : ∀ (zs : List Str) (i : Nat), (nzRows zs i).map (·.2) = zs.filter fun z => !decide (z = ⟨#[]⟩)
  | [], _ => rfl
  | z :: r, i => by
    unfold nzRows
    by_cases h : z = ⟨#[]⟩
    · rw [if_pos h, nz_snd r, List.filter_cons_of_neg (by simp [h])]
    · rw [if_neg h, List.map_cons, nz_snd r, List.filter_cons_of_pos (by simp [h])]
def RwAt (H : Hp) : List (Nat × Str) → List V → Prop
  | [], [] => True
  | p :: ps, v :: vs => (∃ a, v = .ref a ∧ H a = some (.tup [.int (p.1 : Nat), .str p.2])) ∧ RwAt H ps vs
  | _, _ => False
theorem RwAt.kp {H H' : Hp} (e : Kp H H') : ∀ {ps : List (Nat × Str)} {vs : List V}, RwAt H ps vs → RwAt H' ps vs
  | [], [], _ => trivial
  | _ :: _, _ :: _, ⟨⟨a, h1, h2⟩, h⟩ => ⟨⟨a, h1, e _ _ h2 rfl⟩, RwAt.kp e h⟩
  | [], _ :: _, h => h.elim
  | _ :: _, [], h => h.elim
theorem RwAt.len {H : Hp} : ∀ {ps : List (Nat × Str)} {vs : List V}, RwAt H ps vs → vs.length = ps.length
  | [], [], _ => rfl
  | _ :: _, _ :: _, ⟨_, h⟩ => by simp [RwAt.len h]
  | [], _ :: _, h => h.elim
  | _ :: _, [], h => h.elim
theorem RwAt.get {H : Hp} : ∀ {ps : List (Nat × Str)} {vs : List V} {i : Nat} {v : V}, RwAt H ps vs → vs[i]? = some v → ∃ p a, ps[i]? = some p ∧ v = .ref a ∧ H a = some (.tup [.int (p.1 : Nat), .str p.2])
  | p :: _, v :: _, 0, w, ⟨⟨a, h1, h2⟩, _⟩, e => by simp at e; subst e; exact ⟨p, a, rfl, h1, h2⟩
  | _ :: _, _ :: _, i + 1, w, ⟨_, h⟩, e => by obtain ⟨p, a, h1, h2⟩ := RwAt.get h (by simpa using e); exact ⟨p, a, by simpa using h1, h2⟩
  | [], [], _, _, _, e => by simp at e
  | [], _ :: _, _, _, h, _ => h.elim
  | _ :: _, [], _, _, h, _ => h.elim
theorem RwAt.snoc {H : Hp} {p : Nat × Str} {a : Addr} (k : H a = some (.tup [.int (p.1 : Nat), .str p.2])) : ∀ {ps : List (Nat × Str)} {vs : List V}, RwAt H ps vs → RwAt H (ps ++ [p]) (vs ++ [.ref a])
  | [], [], _ => ⟨⟨a, rfl, k⟩, trivial⟩
  | _ :: _, _ :: _, ⟨h1, h⟩ => ⟨h1, RwAt.snoc k h⟩
  | [], _ :: _, h => h.elim
  | _ :: _, [], h => h.elim
theorem RwAt.tail {H : Hp} {p : Nat × Str} {ps : List (Nat × Str)} {vs : List V} (h : RwAt H (p :: ps) vs) : ∃ a us, vs = .ref a :: us ∧ H a = some (.tup [.int (p.1 : Nat), .str p.2]) ∧ RwAt H ps us := by
  cases vs with
  | nil => exact h.elim
  | cons v us => obtain ⟨⟨a, rfl, h1⟩, h2⟩ := h; exact ⟨a, us, rfl, h1, h2⟩
theorem fmr : ∀ r : List Nat, (List.range r.length).filterMap (r[·]?) = r
  | [] => rfl
  | a :: r => by
    have ih := fmr r
    rw [List.length_cons, List.range_succ_eq_map, List.filterMap_cons]
    simp only [List.getElem?_cons_zero, List.filterMap_map]
    rw [show ((fun x => (a :: r)[x]?) ∘ Nat.succ) = (fun x => r[x]?) from funext fun x => by simp, ih]
theorem outS_tl {z : Str} (h : 1 ≤ z.length) : outS z (some 1) none = tlS z := by
  have hi : Builtin.Str.strSliceIndices (some 1) none 1 z.length = (List.range (z.length - 1)).map (1 + ·) := by
    have e := sliceRange_one 1 z.length
    unfold Builtin.Str.strSliceIndices
    simp only [show ¬ ((1 : Int) < 0) by decide, if_false, show ((1 : Int) > 0) from by decide, if_true]
    rw [show max (0 : Int) (min 1 (z.length : Int)) = ((1 : Nat) : Int) by omega]
    exact e
  obtain ⟨c, r, ez⟩ : ∃ c r, z.cps.toList = c :: r := by
    cases q : z.cps.toList with
    | nil => have : z.cps.toList.length = z.length := Array.length_toList
             rw [q] at this
             simp at this
             omega
    | cons c r => exact ⟨c, r, rfl⟩
  have hl : z.length = r.length + 1 := by have : z.cps.toList.length = z.length := Array.length_toList
                                          rw [ez] at this
                                          exact this.symm
  unfold outS
  rw [hi, if_neg (by simp; omega)]
  apply strE
  show ((List.range (z.length - 1)).map (1 + ·)).filterMap (z.cps[·]?) = (tlS z).cps.toList
  unfold tlS
  rw [ez, hl, show r.length + 1 - 1 = r.length by omega, List.filterMap_map]
  rw [show ((fun x => z.cps[x]?) ∘ fun x => 1 + x) = (fun x => r[x]?) from funext fun x => by
    show z.cps[1 + x]? = r[x]?
    rw [← Array.getElem?_toList, ez, Nat.add_comm]
    rfl]
  exact fmr r
theorem starts_neg (z : Str) : Txt.startswith z (Str.ofString "-") = decide (z.cps.toList.head? = some 45) := by
  obtain ⟨⟨l⟩⟩ := z
  cases l with
  | nil => decide
  | cons c r =>
    rw [show Str.ofString "-" = (⟨#[45]⟩ : Str) by decide]
    show (decide (0 + 1 ≤ (c :: r).length) && ((c :: r).toArray.extract 0 (0 + 1) == #[45])) = decide (some c = some 45)
    rw [show (c :: r).toArray.extract 0 (0 + 1) = #[c] by simp]
    by_cases h : c = 45
    · subst h
      simp
    · simp [h]
theorem cps_0 : (Str.ofString "0").cps.toList = [48] := by decide
theorem cps_9 : (Str.ofString "9").cps.toList = [57] := by decide
theorem le_0 (c : Nat) : (!decide (([c] : List Nat) < [48])) = decide (48 ≤ c) := by
  rw [← decide_not]
  apply decide_eq_decide.mpr
  rw [List.cons_lt_cons_iff]
  simp
theorem le_9 (c : Nat) : (!decide (([57] : List Nat) < [c])) = decide (c ≤ 57) := by
  rw [← decide_not]
  apply decide_eq_decide.mpr
  rw [List.cons_lt_cons_iff]
  simp
def sp_law_whole : Sp := fun vs H Q _ => ∃ x k, vs = [x] ∧ HasK H x k ∧ Q (.bl (k == .int)) H
theorem ok_law_whole (T : Txt w K mg a) : FnOk P w K mg base (CXU P w) 1 a.f_law_whole a.d_law_whole ["_law_found"] (sp_law_whole) := by
  refine T.F_law_whole.okU sc_law_whole (fun vs H Q E h => ?_) (fun cdv A outer s H vs Q E hr h => ?_)
  · obtain ⟨x, k, rfl, hk, hq⟩ := h
    rfl
  · obtain ⟨x, k, rfl, hk, hq⟩ := h
    refine ⟨_, (pss_one (ps_ret (pe_and (pe_callB cIsin (by rfl) T.n_isinstance PyProof.Rows.boot_isinstance (pa_cons (pv 0) (pa_cons (pe_bltn (v := V.ty "int") (by rfl) T.n_int PyProof.Rows.boot_int rfl) pa_nil))) (pe_one (pe_not (pe_callB cIsin (by rfl) T.n_isinstance PyProof.Rows.boot_isinstance (pa_cons (pv 0) (pa_cons (pe_bltn (v := V.ty "bool") (by rfl) T.n_bool PyProof.Rows.boot_bool rfl) pa_nil)))))))), ?_⟩
    repeat walk_at "vs"
    refine r_isI hk ?_
    cases k <;> (repeat walk_at "vs") <;> first | exact hq | (refine r_isB hk ?_; (repeat walk_at "vs"); exact hq)
def sp_law_same (n : Nat) : Sp := fun vs H Q _ => ∃ x y d, vs = [x, y] ∧ Rep H d x ∧ Rep H d y ∧ plD d = true ∧ d.depth ≤ n ∧ ∀ H', Ext H H' → Q (.bl true) H'
def sp_law_all_same (n : Nat) : Sp := fun vs H Q _ => ∃ p q xs ys ds, vs = [.ref p, .ref q] ∧ H p = some (.lst xs) ∧ H q = some (.lst ys) ∧ RepL H ds xs ∧ RepL H ds ys ∧ plDL ds = true ∧ D.depthL ds ≤ n ∧ ∀ H', Ext H H' → Q (.bl true) H'
theorem all_same_of {n k : Nat} (T : Txt w K mg a) (G : FnOk P w K mg base (CXU P w) k a.f_law_same a.d_law_same ["_law_found", "_law_due"] (sp_law_same n)) :
    FnOk P w K mg base (CXU P w) (k + 1) a.f_law_all_same a.d_law_all_same ["_law_found", "_law_due"] (sp_law_all_same n) := by
  refine T.F_law_all_same.okU sc_law_all_same (fun vs H Q E h => ?_) (fun cdv A outer s H vs Q E hr h => ?_)
  · obtain ⟨p, q, xs, ys, ds, rfl, _⟩ := h
    rfl
  · obtain ⟨p, q, xs, ys, ds, rfl, hp, hq', hd, he, hf, hn, hq⟩ := h
    refine ⟨_, (pss_cons (ps_for PassesOwn.never rfl (pi_zip2 rfl T.n_zip (pa_cons (pv 0) (pa_cons (pv 1) pa_nil))) (pg_tup rfl (pgs_cons (pg_name (i := 2) sc_law_all_same.nd rfl (by first | exact Or.inl rfl | exact Or.inr rfl)) (pgs_cons (pg_name (i := 3) sc_law_all_same.nd rfl (by first | exact Or.inl rfl | exact Or.inr rfl)) pgs_nil))) (pss_one (ps_if (pt_not (ptT (pe_call (G) hr (by rfl) T.m_law_same T.F_law_same.kp T.b_law_same .nil passU (pa_cons (pv 2) (pa_cons (pv 3) pa_nil))) (fun _ => rfl))) (pss_one (ps_ret pe_bl)) pss_nil)))
      (pss_one (ps_ret pe_bl))), ?_⟩
    have l1 := hd.length
    have l2 := he.length
    repeat walk_at "vs"
    refine ⟨p, q, xs, ys, false, false, rfl, SqL.of hp, SqL.of hq', for_zip2 (fun i σ H2 => (∃ u v, σ = [some (.ref p), some (.ref q), u, v]) ∧ Ext H H2) (show xs.length = ys.length by omega) ⟨⟨none, none, rfl⟩, Ext.rfl'⟩ (fun i σ H2 _ ⟨_, e⟩ => ⟨SqL.of (e _ _ hp), SqL.of (e _ _ hq')⟩) ?_ ?_⟩
    · rintro i x y σ H2 r hx hy ⟨⟨u, v, rfl⟩, e⟩ hr0
      obtain ⟨d, d1, d2⟩ := hd.get hx
      obtain ⟨f, f1, f2⟩ := he.get hy
      rw [d1] at f1
      cases f1
      refine r_gtup upd_same rfl ?_
      repeat walk_at "vs"
      have e2 : Ext H (upd H2 r (.tup [x, y])) := e.tr (ext_upd hr0)
      refine ⟨x, y, d, rfl, d2.mono e2, f2.mono e2, plDL_of hf d1, depthL_le hn d1, fun H3 e3 => ?_⟩
      repeat walk_at "vs"
      exact ⟨⟨_, _, rfl⟩, e2.tr e3⟩
    · rintro σ H2 ⟨⟨u, v, rfl⟩, e⟩
      repeat walk_at "vs"
      exact hq H2 e
theorem same_of {n k : Nat} {spA : Sp} (T : Txt w K mg a) (hA : ∀ vs H Q E, (∃ m, n = m + 1 ∧ sp_law_all_same m vs H Q E) → spA vs H Q E) (GA : FnOk P w K mg base (CXU P w) (k + 1) a.f_law_all_same a.d_law_all_same ["_law_found", "_law_due"] spA) :
    FnOk P w K mg base (CXU P w) (k + 2) a.f_law_same a.d_law_same ["_law_found", "_law_due"] (sp_law_same n) := by
  refine T.F_law_same.okU sc_law_same (fun vs H Q E h => ?_) (fun cdv A outer s H vs Q E hr h => ?_)
  · obtain ⟨x, y, d, rfl, _⟩ := h
    rfl
  · obtain ⟨x, y, d, rfl, h1, h2, hf, hn, hq⟩ := h
    refine ⟨_, (pss_cons (ps_if (ptT (pe_callB cIsin (by rfl) T.n_isinstance PyProof.Rows.boot_isinstance (pa_cons (pv 1) (pa_cons (pe_bltn (v := V.ty "tuple") (by rfl) T.n_tuple PyProof.Rows.boot_tuple rfl) pa_nil))) (fun _ => rfl)) (pss_one (ps_ret (pe_and (pe_callB cIsin (by rfl) T.n_isinstance PyProof.Rows.boot_isinstance (pa_cons (pv 0) (pa_cons (pe_bltn (v := V.ty "tuple") (by rfl) T.n_tuple PyProof.Rows.boot_tuple rfl) pa_nil))) (pe_and (pe_cmpR (oEq hr) (pe_callB cLenW (by rfl) T.n_len PySem.boot_len (pa_cons (pv 0) pa_nil)) (pe_callB cLenW (by rfl) T.n_len PySem.boot_len (pa_cons (pv 1) pa_nil)) (nomark _)) (pe_one (pe_call (GA) (hr.mono (by omega)) (by rfl) T.m_law_all_same T.F_law_all_same.kp T.b_law_all_same .nil passU (pa_cons (pe_callTy cList (by rfl) T.n_list PyProof.Rows.boot_list (pa_cons (pv 0) pa_nil)) (pa_cons (pe_callTy cList (by rfl) T.n_list PyProof.Rows.boot_list (pa_cons (pv 1) pa_nil)) pa_nil)))))))) pss_nil)
      (pss_cons (ps_if (ptT (pe_callB cIsin (by rfl) T.n_isinstance PyProof.Rows.boot_isinstance (pa_cons (pv 1) (pa_cons (pe_bltn (v := V.ty "list") (by rfl) T.n_list PyProof.Rows.boot_list rfl) pa_nil))) (fun _ => rfl)) (pss_one (ps_ret (pe_and (pe_callB cIsin (by rfl) T.n_isinstance PyProof.Rows.boot_isinstance (pa_cons (pv 0) (pa_cons (pe_bltn (v := V.ty "list") (by rfl) T.n_list PyProof.Rows.boot_list rfl) pa_nil))) (pe_and (pe_cmpR (oEq hr) (pe_callB cLenW (by rfl) T.n_len PySem.boot_len (pa_cons (pv 0) pa_nil)) (pe_callB cLenW (by rfl) T.n_len PySem.boot_len (pa_cons (pv 1) pa_nil)) (nomark _)) (pe_one (pe_call (GA) (hr.mono (by omega)) (by rfl) T.m_law_all_same T.F_law_all_same.kp T.b_law_all_same .nil passU (pa_cons (pv 0) (pa_cons (pv 1) pa_nil)))))))) pss_nil)
      (pss_cons (ps_if (ptT (pe_callB cIsin (by rfl) T.n_isinstance PyProof.Rows.boot_isinstance (pa_cons (pv 1) (pa_cons (pe_bltn (v := V.ty "str") (by rfl) T.n_str PyProof.Rows.boot_str rfl) pa_nil))) (fun _ => rfl)) (pss_one (ps_ret (pe_and (pe_callB cIsin (by rfl) T.n_isinstance PyProof.Rows.boot_isinstance (pa_cons (pv 0) (pa_cons (pe_bltn (v := V.ty "str") (by rfl) T.n_str PyProof.Rows.boot_str rfl) pa_nil))) (pe_one (pe_cmpR (oEq hr) (pv 0) (pv 1) (nomark _)))))) pss_nil)
      (pss_one (ps_ret (pe_and (pe_call (ok_law_whole T) (hr.mono (by omega)) (by rfl) T.m_law_whole T.F_law_whole.kp T.b_law_whole .nil passU (pa_cons (pv 0) pa_nil)) (pe_one (pe_cmpR (oEq hr) (pv 0) (pv 1) (nomark _))))))))), ?_⟩
    have k1 := h1.kd
    have k2 := h2.kd
    repeat walk_at "vs"
    refine r_isT k2 ?_
    cases d with
    | tup ds =>
      obtain ⟨p, xs, rfl, hp, hd⟩ := h1
      obtain ⟨q, ys, rfl, hq', he⟩ := h2
      have l1 := hd.length
      have l2 := he.length
      repeat walk_at "vs"
      refine r_isT k1 ?_
      repeat walk_at "vs"
      refine r_lenWT hp ?_
      repeat walk_at "vs"
      refine r_lenWT hq' ?_
      repeat walk_at "vs"
      refine iteD (fun hl => ?_) (fun hl => absurd (show (xs.length : Int) = ys.length by omega) hl)
      repeat walk_at "vs"
      refine r_listT hp fun p2 H2 n2 hp2 e2 => ?_
      repeat walk_at "vs"
      refine r_listT (e2 _ _ hq') fun q2 H3 n3 hq3 e3 => ?_
      repeat walk_at "vs"
      have hn' : D.depthL ds + 1 ≤ n := hn
      exact hA _ _ _ _ ⟨n - 1, by omega, p2, q2, xs, ys, ds, rfl, e3 _ _ hp2, hq3, hd.mono (e2.tr e3), he.mono (e2.tr e3), hf, by omega, fun H4 e4 => hq H4 ((e2.tr e3).tr e4)⟩
    | lst ds =>
      obtain ⟨p, xs, rfl, hp, hd⟩ := h1
      obtain ⟨q, ys, rfl, hq', he⟩ := h2
      have l1 := hd.length
      have l2 := he.length
      repeat walk_at "vs"
      refine r_isL k2 ?_
      repeat walk_at "vs"
      refine r_isL k1 ?_
      repeat walk_at "vs"
      refine r_lenWL hp ?_
      repeat walk_at "vs"
      refine r_lenWL hq' ?_
      repeat walk_at "vs"
      refine iteD (fun hl => ?_) (fun hl => absurd (show (xs.length : Int) = ys.length by omega) hl)
      repeat walk_at "vs"
      have hn' : D.depthL ds + 1 ≤ n := hn
      exact hA _ _ _ _ ⟨n - 1, by omega, p, q, xs, ys, ds, rfl, hp, hq', hd, he, hf, by omega, hq⟩
    | str c =>
      cases (show y = .str c from h2)
      cases (show x = .str c from h1)
      repeat walk_at "vs"
      refine r_isL k2 ?_
      repeat walk_at "vs"
      refine r_isS k2 ?_
      repeat walk_at "vs"
      refine r_isS k1 ?_
      repeat walk_at "vs"
      refine r_eqUS ?_
      rw [decide_eq_true rfl]
      exact hq H Ext.rfl'
    | int c =>
      cases (show y = .int c from h2)
      cases (show x = .int c from h1)
      repeat walk_at "vs"
      refine r_isL k2 ?_
      repeat walk_at "vs"
      refine r_isS k2 ?_
      repeat walk_at "vs"
      refine ⟨.int c, _, rfl, k1, ?_⟩
      repeat walk_at "vs"
      rw [decide_eq_true rfl]
      exact hq H Ext.rfl'
    | bl c => cases hf
    | non => cases hf
    | dct => cases hf
theorem ok_same_n (T : Txt w K mg a) : ∀ n : Nat, FnOk P w K mg base (CXU P w) (2 * n + 2) a.f_law_same a.d_law_same ["_law_found", "_law_due"] (sp_law_same n)
  | 0 => same_of (k := 0) (spA := fun _ _ _ _ => False) T (fun _ _ _ _ ⟨m, e, _⟩ => by omega) FnOk.no
  | n + 1 => by
    have G := all_same_of T (ok_same_n T n)
    have z := same_of (n := n + 1) (k := 2 * n + 2) (spA := sp_law_all_same n) T (fun _ _ _ _ ⟨m, e, h⟩ => by cases e; exact h) G
    exact z
theorem ok_law_same (T : Txt w K mg a) : FnOk P w K mg base (CXU P w) 12 a.f_law_same a.d_law_same ["_law_found", "_law_due"] (sp_law_same 5) := ok_same_n T 5
theorem same_yes {x y : V} {d : D} {H : Hp} {Q : VK} {E : XK} (h1 : Rep H d x) (h2 : Rep H d y) (hf : plD d = true) (hd : Nat.ble d.depth 5 = true) (hq : ∀ H', Ext H H' → Q (.bl true) H') : sp_law_same 5 [x, y] H Q E :=
  ⟨x, y, d, rfl, h1, h2, hf, Nat.le_of_ble_eq_true hd, hq⟩
def sp_is_whole_number : Sp := fun vs H Q _ => ∃ x k, vs = [x] ∧ HasK H x k ∧ Q (.bl (k == .int)) H
theorem ok_is_whole_number (T : Txt w K mg a) : FnOk P w K mg base (CXU P w) 1 a.f_is_whole_number a.d_is_whole_number ["thing"] (sp_is_whole_number) := by
  refine T.F_is_whole_number.okU sc_is_whole_number (fun vs H Q E h => ?_) (fun cdv A outer s H vs Q E hr h => ?_)
  · obtain ⟨x, k, rfl, hk, hq⟩ := h
    rfl
  · obtain ⟨x, k, rfl, hk, hq⟩ := h
    refine ⟨_, (pss_one (ps_ret (pe_and (pe_callB cIsin (by rfl) T.n_isinstance PyProof.Rows.boot_isinstance (pa_cons (pv 0) (pa_cons (pe_bltn (v := V.ty "int") (by rfl) T.n_int PyProof.Rows.boot_int rfl) pa_nil))) (pe_one (pe_not (pe_callB cIsin (by rfl) T.n_isinstance PyProof.Rows.boot_isinstance (pa_cons (pv 0) (pa_cons (pe_bltn (v := V.ty "bool") (by rfl) T.n_bool PyProof.Rows.boot_bool rfl) pa_nil)))))))), ?_⟩
    repeat walk_at "vs"
    refine r_isI hk ?_
    cases k <;> (repeat walk_at "vs") <;> first | exact hq | (refine r_isB hk ?_; (repeat walk_at "vs"); exact hq)
def fot (m : Int) : V → Bool
  | .int i => decide (1 ≤ i) && decide (i ≤ m)
  | _ => false
def sp_is_from_one_to : Sp := fun vs H Q _ => ∃ x k m, vs = [x, .int m] ∧ HasK H x k ∧ Q (.bl (fot m x)) H
theorem ok_is_from_one_to (T : Txt w K mg a) : FnOk P w K mg base (CXU P w) 2 a.f_is_from_one_to a.d_is_from_one_to ["thing", "most"] (sp_is_from_one_to) := by
  refine T.F_is_from_one_to.okU sc_is_from_one_to (fun vs H Q E h => ?_) (fun cdv A outer s H vs Q E hr h => ?_)
  · obtain ⟨x, k, m, rfl, hk, hq⟩ := h
    rfl
  · obtain ⟨x, k, m, rfl, hk, hq⟩ := h
    refine ⟨_, (pss_one (ps_ret (pe_and (pe_call (ok_is_whole_number T) (hr.mono (by decide)) (by rfl) T.m_is_whole_number T.F_is_whole_number.kp T.b_is_whole_number .nil passU (pa_cons (pv 0) pa_nil)) (pe_one (pe_chain oLeW oLeW pe_int (pv 0) (pv 1)))))), ?_⟩
    repeat walk_at "vs"
    refine ⟨x, k, rfl, hk, ?_⟩
    cases x with
    | int i =>
      cases (show k = .int from hk)
      repeat walk_at "vs"
      refine iteD (fun h => ?_) (fun h => ?_)
      · repeat walk_at "vs"
        have e : fot m (.int i) = decide (i ≤ m) := by show (decide (1 ≤ i) && _) = _; rw [decide_eq_true h, Bool.true_and]
        rw [← e]; exact hq
      · repeat walk_at "vs"
        have e : fot m (.int i) = false := by show (decide (1 ≤ i) && _) = _; rw [decide_eq_false h, Bool.false_and]
        rw [← e]; exact hq
    | non => cases (show k = .non from hk); (repeat walk_at "vs"); exact hq
    | bl b => cases (show k = .bl from hk); (repeat walk_at "vs"); exact hq
    | str b => cases (show k = .str from hk); (repeat walk_at "vs"); exact hq
    | ref b =>
      have e : (k == .int) = false := by rcases hk with ⟨_, _, rfl⟩ | ⟨_, _, rfl⟩ | ⟨_, _, rfl⟩ <;> rfl
      rw [e]; (repeat walk_at "vs"); exact hq
    | _ => exact hk.elim
namespace Nb
def sp_Bags_is_wish (a : Adr) : Sp := fun vs H Q _ => ∃ (w dw : Addr) (R : Int) (x : V) (k : Kd), vs = [.ref w, x] ∧ H w = some (.ins a.c_Bags dw [("room", .int R)]) ∧ HasK H x k ∧ Q (.bl (fot R x)) H
theorem ok_Bags_is_wish (T : Txt w K mg a) : FnOk P w K mg base (CXU P w) 3 a.f_Bags_is_wish a.d_Bags_is_wish ["self", "thing"] (sp_Bags_is_wish a) := by
  refine T.F_Bags_is_wish.okU sc_Bags_is_wish (fun vs H Q E h => ?_) (fun cdv A outer s H vs Q E hr h => ?_)
  · obtain ⟨w, dw, R, x, k, rfl, hw, hk, hq⟩ := h
    rfl
  · obtain ⟨w, dw, R, x, k, rfl, hw, hk, hq⟩ := h
    have zc_Bags := T.cl_Bags
    have zn_Bags_room := T.na_Bags_room
    refine ⟨_, (pss_one (ps_ret (pe_call (ok_is_from_one_to T) (hr.mono (by decide)) (by rfl) T.m_is_from_one_to T.F_is_from_one_to.kp T.b_is_from_one_to .nil passU (pa_cons (pv 1) (pa_cons (pe_fld (pv 0) rfl) pa_nil))))), ?_⟩
    repeat walk_at "vs"
    exact ⟨x, k, R, rfl, hk, hq⟩
end Nb
def sp_is_name : Sp := fun vs H Q _ => ∃ x k, vs = [x] ∧ HasK H x k ∧ (∀ z, x = .str z → AscS z ∧ z.length ≤ 1000) ∧ ∀ H', Ext H H' → Q (.bl (nmV x)) H'
theorem ok_is_name (T : Txt w K mg a) : FnOk P w K mg base (CXU P w) 1 a.f_is_name a.d_is_name ["thing"] (sp_is_name) := by
  refine T.F_is_name.okU sc_is_name (fun vs H Q E h => ?_) (fun cdv A outer s H vs Q E hr h => ?_)
  · obtain ⟨x, k, rfl, hk, hz, hq⟩ := h
    rfl
  · obtain ⟨x, k, rfl, hk, hz, hq⟩ := h
    refine ⟨_, (pss_cons (ps_if (PW.pt (pw_or (pt_not (ptT (pe_callB cIsin (by rfl) T.n_isinstance PyProof.Rows.boot_isinstance (pa_cons (pv 0) (pa_cons (pe_bltn (v := V.ty "str") (by rfl) T.n_str PyProof.Rows.boot_str rfl) pa_nil))) (fun _ => rfl))) (pw_or1 (pt_not (pt_chain oLeW oLeW pe_int (pe_callB cLenW (by rfl) T.n_len PySem.boot_len (pa_cons (pv 0) pa_nil)) pe_int))))) (pss_one (ps_ret pe_bl)) pss_nil)
      (pss_one (ps_ret (pe_callB (cAll rfl) (by rfl) T.n_all PyProof.Rows.boot_all (pa_cons (pe_comp (["sign"] : List Str) ([] : List Str) [] rfl ⟨rfl, by decide +kernel, by decide +kernel, by rfl, trivial⟩ (pi_str (pv 0)) (fun _ _ _ _ => ⟨(pg_name (i := 0) (by show ((["sign"] : List Str) ++ ([] : List Str)).Nodup; decide +kernel) rfl (by first | exact Or.inl rfl | exact Or.inr rfl)), (show PTs _ [] [] from trivial), (pe_chain oLeW oLeW pe_str (pv 0) pe_str)⟩)) pa_nil))))), ?_⟩
    repeat walk_at "vs"
    refine r_isS hk ?_
    cases x with
    | str z =>
      cases (show k = .str from hk)
      obtain ⟨ha, hl⟩ := hz z rfl
      repeat walk_at "vs"
      refine r_lenWS (by omega) ?_
      repeat walk_at "vs"
      refine iteD (fun c1 => ?_) (fun c1 => ?_)
      rotate_left
      · repeat walk_at "vs"
        have e : nmV (.str z) = false := by show nmS z = false; unfold nmS; rw [show decide (1 ≤ z.length) = false from decide_eq_false (by omega)]; rfl
        rw [← e]; exact hq H Ext.rfl'
      repeat walk_at "vs"
      refine iteN (fun c2 => ?_) (fun c2 => ?_)
      · repeat walk_at "vs"
        have e : nmV (.str z) = false := by show nmS z = false; unfold nmS; rw [show decide (z.length ≤ 8) = false from decide_eq_false (by omega), Bool.and_false]; rfl
        rw [← e]; exact hq H Ext.rfl'
      repeat walk_at "vs"
      refine ⟨z, rfl, ha, fun acc hn _ _ _ _ => comp_str V.bl nmL (by show z.length ≤ 1000000; omega) hn (fun i c H3 Y hc e hY => ?_) fun H2 e2 hacc => ?_⟩
      · repeat walk_at "vs"
        rw [cps_a, le_a]
        refine iteD (fun g1 => ?_) (fun g1 => ?_)
        · repeat walk_at "vs"
          rw [cps_z, le_z]
          have e : nmL c = decide (c ≤ 122) := by unfold nmL; rw [decide_eq_true g1, Bool.true_and]
          rw [← e]; exact hY _ Ext.rfl'
        · have e : nmL c = false := by unfold nmL; rw [decide_eq_false g1, Bool.false_and]
          rw [← e]; exact hY _ Ext.rfl'
      · repeat walk_at "vs"
        refine r_all hacc ?_
        have e : nmV (.str z) = (z.cps.toList.map nmL).all id := by
          show nmS z = _
          unfold nmS
          rw [show decide (1 ≤ z.length) = true from decide_eq_true (by omega), show decide (z.length ≤ 8) = true from decide_eq_true (by omega), List.all_map]
          rfl
        rw [← e]; exact hq H2 e2
    | non => cases (show k = .non from hk); (repeat walk_at "vs"); exact hq H Ext.rfl'
    | bl b => cases (show k = .bl from hk); (repeat walk_at "vs"); exact hq H Ext.rfl'
    | int b => cases (show k = .int from hk); (repeat walk_at "vs"); exact hq H Ext.rfl'
    | ref b =>
      have e : (k == .str) = false := by rcases hk with ⟨_, _, rfl⟩ | ⟨_, _, rfl⟩ | ⟨_, _, rfl⟩ <;> rfl
      rw [e]; (repeat walk_at "vs"); exact hq H Ext.rfl'
    | _ => exact hk.elim
namespace Nk
def sp_Store_is_wish : Sp := fun vs H Q _ => ∃ (w : Addr) (x : Str), vs = [.ref w, .str x] ∧ nmS x = true ∧ ∀ H', Ext H H' → Q (.bl true) H'
theorem ok_Store_is_wish (T : Txt w K mg a) : FnOk P w K mg base (CXU P w) 2 a.f_Store_is_wish a.d_Store_is_wish ["self", "thing"] (sp_Store_is_wish) := by
  refine T.F_Store_is_wish.okU sc_Store_is_wish (fun vs H Q E h => ?_) (fun cdv A outer s H vs Q E hr h => ?_)
  · obtain ⟨w, x, rfl, hx, hq⟩ := h
    rfl
  · obtain ⟨w, x, rfl, hx, hq⟩ := h
    refine ⟨_, (pss_one (ps_ret (pe_call (ok_is_name T) (hr.mono (by decide)) (by rfl) T.m_is_name T.F_is_name.kp T.b_is_name .nil passU (pa_cons (pv 1) pa_nil)))), ?_⟩
    repeat walk_at "vs"
    refine ⟨.str x, .str, rfl, rfl, fun z ez => by cases ez; exact ⟨nmS_asc hx, by have := nmS_len hx; omega⟩, fun H1 e1 => ?_⟩
    rw [show nmV (.str x) = true from hx]
    exact hq H1 e1
end Nk
def amt : V → Bool
  | .int i => decide (0 ≤ i) && decide (i ≤ 1000000000000000000)
  | _ => false
def sp_is_amount : Sp := fun vs H Q _ => ∃ x k, vs = [x] ∧ HasK H x k ∧ Q (.bl (amt x)) H
theorem ok_is_amount (T : Txt w K mg a) : FnOk P w K mg base (CXU P w) 2 a.f_is_amount a.d_is_amount ["thing"] (sp_is_amount) := by
  refine T.F_is_amount.okU sc_is_amount (fun vs H Q E h => ?_) (fun cdv A outer s H vs Q E hr h => ?_)
  · obtain ⟨x, k, rfl, hk, hq⟩ := h
    rfl
  · obtain ⟨x, k, rfl, hk, hq⟩ := h
    refine ⟨_, (pss_one (ps_ret (pe_and (pe_call (ok_is_whole_number T) (hr.mono (by decide)) (by rfl) T.m_is_whole_number T.F_is_whole_number.kp T.b_is_whole_number .nil passU (pa_cons (pv 0) pa_nil)) (pe_one (pe_chain oLeW oLeW pe_int (pv 0) (pe_op op_pow pe_int pe_int)))))), ?_⟩
    repeat walk_at "vs"
    refine ⟨x, k, rfl, hk, ?_⟩
    cases x with
    | int i =>
      cases (show k = .int from hk)
      repeat walk_at "vs"
      refine iteD (fun h => ?_) (fun h => ?_)
      · repeat walk_at "vs"
        have e : amt (.int i) = decide (i ≤ 1000000000000000000) := by show (decide (0 ≤ i) && _) = _; rw [decide_eq_true h, Bool.true_and]
        rw [← e]; exact hq
      · repeat walk_at "vs"
        have e : amt (.int i) = false := by show (decide (0 ≤ i) && _) = _; rw [decide_eq_false h, Bool.false_and]
        rw [← e]; exact hq
    | non => cases (show k = .non from hk); (repeat walk_at "vs"); exact hq
    | bl b => cases (show k = .bl from hk); (repeat walk_at "vs"); exact hq
    | str b => cases (show k = .str from hk); (repeat walk_at "vs"); exact hq
    | ref b =>
      have e : (k == .int) = false := by rcases hk with ⟨_, _, rfl⟩ | ⟨_, _, rfl⟩ | ⟨_, _, rfl⟩ <;> rfl
      rw [e]; (repeat walk_at "vs"); exact hq
    | _ => exact hk.elim
namespace Nw
def sp_Ways_is_wish (a : Adr) : Sp := fun vs H Q _ => ∃ (w dw p : Addr) (cs : List Int) (t : Int), vs = [.ref w, .ref p] ∧ H w = some (.ins a.c_Ways dw [("many", .int cs.length), ("toll", .int t)]) ∧ H p = some (.tup (cs.map V.int)) ∧ cs.length ≤ 8 ∧ (∀ c ∈ cs, 0 ≤ c ∧ c ≤ 1000000000000000000) ∧ ∀ H', Ext H H' → Q (.bl true) H'
theorem ok_Ways_is_wish (T : Txt w K mg a) : FnOk P w K mg base (CXU P w) 3 a.f_Ways_is_wish a.d_Ways_is_wish ["self", "thing"] (sp_Ways_is_wish a) := by
  refine T.F_Ways_is_wish.okU sc_Ways_is_wish (fun vs H Q E h => ?_) (fun cdv A outer s H vs Q E hr h => ?_)
  · obtain ⟨w, dw, p, cs, t, rfl, hw, hp, h8, ham, hq⟩ := h
    rfl
  · obtain ⟨w, dw, p, cs, t, rfl, hw, hp, h8, ham, hq⟩ := h
    have zc_Line := T.cl_Line
    have zn_Line_many := T.na_Line_many
    have zc_Store := T.cl_Store
    have zn_Store_many := T.na_Store_many
    have zc_Ways := T.cl_Ways
    have zn_Ways_many := T.na_Ways_many
    refine ⟨_, (pss_cons (ps_if (PW.pt (pw_or (pt_not (ptT (pe_callB cIsin (by rfl) T.n_isinstance PyProof.Rows.boot_isinstance (pa_cons (pv 1) (pa_cons (pe_bltn (v := V.ty "tuple") (by rfl) T.n_tuple PyProof.Rows.boot_tuple rfl) pa_nil))) (fun _ => rfl))) (pw_or1 (pt_cmpR op_ne (pe_callB cLenW (by rfl) T.n_len PySem.boot_len (pa_cons (pv 1) pa_nil)) (pe_fld (pv 0) rfl) (nomark _))))) (pss_one (ps_ret pe_bl)) pss_nil)
      (pss_one (ps_ret (pe_callB (cAll rfl) (by rfl) T.n_all PyProof.Rows.boot_all (pa_cons (pe_comp (["charge"] : List Str) ([] : List Str) [] rfl ⟨rfl, by decide +kernel, by decide +kernel, by rfl, trivial⟩ (pi_tup (pv 1)) (fun _ _ _ _ => ⟨(pg_name (i := 0) (by show ((["charge"] : List Str) ++ ([] : List Str)).Nodup; decide +kernel) rfl (by first | exact Or.inl rfl | exact Or.inr rfl)), (show PTs _ [] [] from trivial), (pe_call (ok_is_amount T) (hr.mono (by decide)) (by rfl) T.m_is_amount T.F_is_amount.kp T.b_is_amount .nil passU (pa_cons (pv 0) pa_nil))⟩)) pa_nil))))), ?_⟩
    repeat walk_at "vs"
    refine r_isT (HasK.t hp) ?_
    repeat walk_at "vs"
    refine r_lenWT hp ?_
    rw [List.length_map]
    repeat walk_at "vs"
    refine iteN (fun q => (q rfl).elim) (fun _ => ?_)
    repeat walk_at "vs"
    refine ⟨p, rfl, ⟨_, SqT.of hp⟩, fun acc hn _ _ _ _ => comp_mapT V.int V.bl (fun _ => true) (SqT.of hp) (by omega) hn (fun i x H2 Y hx e hY => ?_) fun H2 e ha => ?_⟩
    · repeat walk_at "vs"
      refine ⟨.int x, .int, rfl, rfl, ?_⟩
      have hm := ham x (List.mem_of_getElem? hx)
      have hpl : amt (.int x) = true := by show (decide (0 ≤ x) && decide (x ≤ 1000000000000000000)) = true; rw [decide_eq_true hm.1, decide_eq_true hm.2]; rfl
      rw [hpl]
      exact hY _ Ext.rfl'
    · repeat walk_at "vs"
      refine r_all ha ?_
      have ea : (cs.map fun _ => true).all id = true := by rw [List.all_eq_true]; intro x hx; obtain ⟨_, _, rfl⟩ := List.mem_map.mp hx; rfl
      rw [ea]
      exact hq H2 e
end Nw
namespace Nh
def sp_Hire_is_wish : Sp := fun vs H Q _ => ∃ r x k, vs = [.ref r, x] ∧ HasK H x k ∧ Q (.bl (amt x)) H
theorem ok_Hire_is_wish (T : Txt w K mg a) : FnOk P w K mg base (CXU P w) 3 a.f_Hire_is_wish a.d_Hire_is_wish ["self", "thing"] (sp_Hire_is_wish) := by
  refine T.F_Hire_is_wish.okU sc_Hire_is_wish (fun vs H Q E h => ?_) (fun cdv A outer s H vs Q E hr h => ?_)
  · obtain ⟨r, x, k, rfl, hk, hq⟩ := h
    rfl
  · obtain ⟨r, x, k, rfl, hk, hq⟩ := h
    refine ⟨_, (pss_one (ps_ret (pe_call (ok_is_amount T) (hr.mono (by decide)) (by rfl) T.m_is_amount T.F_is_amount.kp T.b_is_amount .nil passU (pa_cons (pv 1) pa_nil)))), ?_⟩
    repeat walk_at "vs"
    exact ⟨x, k, rfl, hk, hq⟩
end Nh
namespace Ns
def sp_Shelf_is_wish (a : Adr) : Sp := fun vs H Q _ => ∃ (w dw tp : Addr) (ts : List Str) (x : Str), vs = [.ref w, .str x] ∧ H w = some (.ins a.c_Shelf dw [("things", .ref tp)]) ∧ H tp = some (.tup (ts.map V.str)) ∧ nmS x = true ∧ x ∈ ts ∧ ∀ H', Ext H H' → Q (.bl true) H'
theorem ok_Shelf_is_wish (T : Txt w K mg a) : FnOk P w K mg base (CXU P w) 2 a.f_Shelf_is_wish a.d_Shelf_is_wish ["self", "thing"] (sp_Shelf_is_wish a) := by
  refine T.F_Shelf_is_wish.okU sc_Shelf_is_wish (fun vs H Q E h => ?_) (fun cdv A outer s H vs Q E hr h => ?_)
  · obtain ⟨w, dw, tp, ts, x, rfl, hw, ht, hx, hm, hq⟩ := h
    rfl
  · obtain ⟨w, dw, tp, ts, x, rfl, hw, ht, hx, hm, hq⟩ := h
    have zc_Shelf := T.cl_Shelf
    have zn_Shelf_things := T.na_Shelf_things
    refine ⟨_, (pss_one (ps_ret (pe_and (pe_call (ok_is_name T) (hr.mono (by decide)) (by rfl) T.m_is_name T.F_is_name.kp T.b_is_name .nil passU (pa_cons (pv 1) pa_nil)) (pe_one (pe_cmpR oIn (pv 1) (pe_fld (pv 0) rfl) (by with_unfolding_all rfl)))))), ?_⟩
    repeat walk_at "vs"
    refine ⟨.str x, .str, rfl, rfl, fun z ez => by cases ez; exact ⟨nmS_asc hx, by have := nmS_len hx; omega⟩, fun H1 e1 => ?_⟩
    rw [show nmV (.str x) = true from hx]
    have hw1 := e1 _ _ hw
    repeat walk_at "vs"
    refine r_inT (e1 _ _ ht) rfl (flat_strs _) ?_
    rw [inV_strs, decide_eq_true hm]
    exact hq H1 e1
end Ns
def plc : V → Bool
  | .int i => decide ((i.natAbs : Int) ≤ 1000000000000000000)
  | _ => false
def sp_is_place : Sp := fun vs H Q _ => ∃ x k, vs = [x] ∧ HasK H x k ∧ Q (.bl (plc x)) H
theorem ok_is_place (T : Txt w K mg a) : FnOk P w K mg base (CXU P w) 2 a.f_is_place a.d_is_place ["thing"] (sp_is_place) := by
  refine T.F_is_place.okU sc_is_place (fun vs H Q E h => ?_) (fun cdv A outer s H vs Q E hr h => ?_)
  · obtain ⟨x, k, rfl, hk, hq⟩ := h
    rfl
  · obtain ⟨x, k, rfl, hk, hq⟩ := h
    refine ⟨_, (pss_one (ps_ret (pe_and (pe_call (ok_is_whole_number T) (hr.mono (by decide)) (by rfl) T.m_is_whole_number T.F_is_whole_number.kp T.b_is_whole_number .nil passU (pa_cons (pv 0) pa_nil)) (pe_one (pe_cmpR oLeW (pe_callB cAbs (by rfl) T.n_abs PyProof.Rows.boot_abs (pa_cons (pv 0) pa_nil)) (pe_op op_pow pe_int pe_int) (nomark _)))))), ?_⟩
    repeat walk_at "vs"
    refine ⟨x, k, rfl, hk, ?_⟩
    cases x with
    | int i =>
      cases (show k = .int from hk)
      repeat walk_at "vs"
      exact hq
    | non => cases (show k = .non from hk); (repeat walk_at "vs"); exact hq
    | bl b => cases (show k = .bl from hk); (repeat walk_at "vs"); exact hq
    | str b => cases (show k = .str from hk); (repeat walk_at "vs"); exact hq
    | ref b =>
      have e : (k == .int) = false := by rcases hk with ⟨_, _, rfl⟩ | ⟨_, _, rfl⟩ | ⟨_, _, rfl⟩ <;> rfl
      rw [e]; (repeat walk_at "vs"); exact hq
    | _ => exact hk.elim
namespace Nl
def sp_Line_is_wish : Sp := fun vs H Q _ => ∃ r x k, vs = [.ref r, x] ∧ HasK H x k ∧ Q (.bl (plc x)) H
theorem ok_Line_is_wish (T : Txt w K mg a) : FnOk P w K mg base (CXU P w) 3 a.f_Line_is_wish a.d_Line_is_wish ["self", "thing"] (sp_Line_is_wish) := by
  refine T.F_Line_is_wish.okU sc_Line_is_wish (fun vs H Q E h => ?_) (fun cdv A outer s H vs Q E hr h => ?_)
  · obtain ⟨r, x, k, rfl, hk, hq⟩ := h
    rfl
  · obtain ⟨r, x, k, rfl, hk, hq⟩ := h
    refine ⟨_, (pss_one (ps_ret (pe_call (ok_is_place T) (hr.mono (by decide)) (by rfl) T.m_is_place T.F_is_place.kp T.b_is_place .nil passU (pa_cons (pv 1) pa_nil)))), ?_⟩
    repeat walk_at "vs"
    exact ⟨x, k, rfl, hk, hq⟩
end Nl
def sp_are_figures : Sp := fun vs H Q _ => ∃ z : Str, vs = [.str z] ∧ AscS z ∧ z.length ≤ 1000000 ∧ ∀ H', Ext H H' → Q (.bl (figB z)) H'
theorem ok_are_figures (T : Txt w K mg a) : FnOk P w K mg base (CXU P w) 1 a.f_are_figures a.d_are_figures ["text"] (sp_are_figures) := by
  refine T.F_are_figures.okU sc_are_figures (fun vs H Q E h => ?_) (fun cdv A outer s H vs Q E hr h => ?_)
  · obtain ⟨z, rfl, ha, hl, hq⟩ := h
    rfl
  · obtain ⟨z, rfl, ha, hl, hq⟩ := h
    refine ⟨_, (pss_cons (ps_if (PW.pt (pw_or (pt_not (pt_chain oLeW oLeW pe_int (pe_callB cLenW (by rfl) T.n_len PySem.boot_len (pa_cons (pv 0) pa_nil)) (pe_glob (v := V.int 19) (by rfl) T.m_MOST_FIGURES ⟨_, rfl⟩))) (pw_or1 (pt_not (ptT (pe_callB (cAll rfl) (by rfl) T.n_all PyProof.Rows.boot_all (pa_cons (pe_comp (["sign"] : List Str) ([] : List Str) [] rfl ⟨rfl, by decide +kernel, by decide +kernel, by rfl, trivial⟩ (pi_str (pv 0)) (fun _ _ _ _ => ⟨(pg_name (i := 0) (by show ((["sign"] : List Str) ++ ([] : List Str)).Nodup; decide +kernel) rfl (by first | exact Or.inl rfl | exact Or.inr rfl)), (show PTs _ [] [] from trivial), (pe_chain oLeW oLeW pe_str (pv 0) pe_str)⟩)) pa_nil)) (fun _ => rfl)))))) (pss_one (ps_ret pe_bl)) pss_nil)
      (pss_one (ps_ret (pe_or (pe_cmpR (oEq hr) (pv 0) pe_str (nomark _)) (pe_one (pe_cmpR (oNe hr) (pe_ix oIx (pv 0) pe_int (fun _ _ => rfl)) pe_str (nomark _))))))), ?_⟩
    repeat walk_at "vs"
    refine r_lenWS hl ?_
    repeat walk_at "vs"
    refine iteD (fun c1 => ?_) (fun c1 => ?_)
    rotate_left
    · repeat walk_at "vs"
      have e : figB z = false := by unfold figB; rw [show decide (1 ≤ z.length) = false from decide_eq_false (by omega)]; rfl
      rw [← e]; exact hq H Ext.rfl'
    repeat walk_at "vs"
    refine iteN (fun c2 => ?_) (fun c2 => ?_)
    · repeat walk_at "vs"
      have e : figB z = false := by unfold figB; rw [show decide (z.length ≤ 19) = false from decide_eq_false (by omega), Bool.and_false]; rfl
      rw [← e]; exact hq H Ext.rfl'
    repeat walk_at "vs"
    refine ⟨z, rfl, ha, fun acc hn _ _ _ _ => comp_str V.bl dig (by show z.length ≤ 1000000; omega) hn (fun i c H3 Y hc e hY => ?_) fun H2 e2 hacc => ?_⟩
    · repeat walk_at "vs"
      rw [cps_0, le_0]
      refine iteD (fun g1 => ?_) (fun g1 => ?_)
      · repeat walk_at "vs"
        rw [cps_9, le_9]
        have e : dig c = decide (c ≤ 57) := by unfold dig; rw [decide_eq_true g1, Bool.true_and]
        rw [← e]; exact hY _ Ext.rfl'
      · have e : dig c = false := by unfold dig; rw [decide_eq_false g1, Bool.false_and]
        rw [← e]; exact hY _ Ext.rfl'
    repeat walk_at "vs"
    refine r_all hacc ?_
    have ea : (z.cps.toList.map dig).all id = z.cps.toList.all dig := by rw [List.all_map]; rfl
    rw [ea]
    have e0 : figB z = (z.cps.toList.all dig && (decide (z = ⟨#[48]⟩) || !decide (z.cps.toList.head? = some 48))) := by unfold figB; rw [decide_eq_true (show 1 ≤ z.length by omega), decide_eq_true (show z.length ≤ 19 by omega), Bool.true_and, Bool.true_and]
    cases hb : z.cps.toList.all dig with
    | false =>
      repeat walk_at "vs"
      have e : figB z = false := by rw [e0, hb]; rfl
      rw [← e]; exact hq H2 e2
    | true =>
      rw [hb, Bool.true_and] at e0
      obtain ⟨c, r, ez⟩ : ∃ c r, z.cps.toList = c :: r := by
        cases q : z.cps.toList with
        | nil => have : z.cps.toList.length = z.length := Array.length_toList
                 rw [q] at this
                 simp at this
                 omega
        | cons c r => exact ⟨c, r, rfl⟩
      repeat walk_at "vs"
      refine r_eqUS ?_
      rw [show Str.ofString "0" = (⟨#[48]⟩ : Str) by decide]
      repeat walk_at "vs"
      refine iteD (fun c3 => ?_) (fun c3 => ?_)
      · have e : figB z = true := by rw [e0, decide_eq_true c3]; rfl
        rw [← e]; exact hq H2 e2
      · repeat walk_at "vs"
        refine r_ixS1 hl (c := c) (by rw [ez]; exact atI_int (by decide) rfl) ?_
        repeat walk_at "vs"
        refine r_neUS ?_
        have e : figB z = !decide ((⟨#[c]⟩ : Str) = ⟨#[48]⟩) := by
          rw [e0, decide_eq_false c3, Bool.false_or, ez]
          congr 1
          apply decide_eq_decide.mpr
          simp
        rw [← e]; exact hq H2 e2
def sp_written : Sp := fun vs H Q _ => ∃ z : Str, vs = [.str z] ∧ AscS z ∧ z.length ≤ 1000000 ∧ ∀ H', Ext H H' → Q (wrV z) H'
theorem ok_written (T : Txt w K mg a) : FnOk P w K mg base (CXU P w) 2 a.f_written a.d_written ["word"] (sp_written) := by
  refine T.F_written.okU sc_written (fun vs H Q E h => ?_) (fun cdv A outer s H vs Q E hr h => ?_)
  · obtain ⟨z, rfl, ha, hl, hq⟩ := h
    rfl
  · obtain ⟨z, rfl, ha, hl, hq⟩ := h
    refine ⟨_, (pss_cons (ps_if (ptT (pe_call (ok_are_figures T) (hr.mono (by decide)) (by rfl) T.m_are_figures T.F_are_figures.kp T.b_are_figures .nil passU (pa_cons (pv 0) pa_nil)) (fun _ => rfl)) (pss_one (ps_ret (pe_callTy cIntS (by rfl) T.n_int PyProof.Rows.boot_int (pa_cons (pv 0) pa_nil)))) pss_nil)
      (pss_cons (ps_if (PW.pt (pw_and (ptT (pe_sm PySem.F.plainAttrs_str PySem.F.slot_str_startswith PySem.F.type_str_startswith mt_starts (pv 0) (pa_cons pe_str pa_nil)) (fun _ => rfl)) (pw_and (ptT (pe_call (ok_are_figures T) (hr.mono (by decide)) (by rfl) T.m_are_figures T.F_are_figures.kp T.b_are_figures .nil passU (pa_cons (pe_slice sl_strE (pv 0) (po_some pe_int) po_none) pa_nil)) (fun _ => rfl)) (pw_and1 (pt_cmpR (oNe hr) (pv 0) pe_str (nomark _)))))) (pss_one (ps_ret (pe_un un_neg (pe_callTy cIntS (by rfl) T.n_int PyProof.Rows.boot_int (pa_cons (pe_slice sl_strE (pv 0) (po_some pe_int) po_none) pa_nil))))) pss_nil)
      (pss_one (ps_ret (pv 0))))), ?_⟩
    repeat walk_at "vs"
    refine ⟨z, rfl, ha, hl, fun H1 e1 => ?_⟩
    cases hf : figB z with
    | true =>
      repeat walk_at "vs"
      obtain ⟨hi, l19⟩ := fig_int hf
      refine r_intS hi (by omega) ?_
      have e : wrV z = .int (dVal z.cps.toList : Nat) := by unfold wrV; rw [if_pos hf]
      rw [← e]; exact hq H1 e1
    | false =>
      have e0 : wrV z = if negB z then .int (-(dVal (tlS z).cps.toList : Nat)) else .str z := by unfold wrV; rw [if_neg (by rw [hf]; decide)]
      repeat walk_at "vs"
      refine r_starts ?_
      rw [starts_neg]
      repeat walk_at "vs"
      refine iteD (fun c1 => ?_) (fun c1 => ?_)
      rotate_left
      · repeat walk_at "vs"
        have e : wrV z = .str z := by rw [e0, if_neg]; unfold negB; rw [decide_eq_false c1]; simp
        rw [← e]; exact hq H1 e1
      have h1 : 1 ≤ z.length := by
        cases q : z.cps.toList with
        | nil => rw [q] at c1; simp at c1
        | cons c r => have : z.cps.toList.length = z.length := Array.length_toList
                      rw [q] at this
                      simp at this
                      omega
      have ht : AscS (tlS z) ∧ (tlS z).length ≤ 1000000 := by
        refine ⟨asc_of fun c hc => of_asc ha c (List.mem_of_mem_tail hc), ?_⟩
        show (z.cps.toList.tail.toArray).size ≤ 1000000
        rw [List.size_toArray, List.length_tail]
        have : z.cps.toList.length = z.length := Array.length_toList
        omega
      repeat walk_at "vs"
      refine r_slE hl ?_
      rw [outS_tl h1]
      repeat walk_at "vs"
      refine ⟨tlS z, rfl, ht.1, ht.2, fun H2 e2 => ?_⟩
      cases hg : figB (tlS z) with
      | false =>
        repeat walk_at "vs"
        have e : wrV z = .str z := by rw [e0, if_neg]; unfold negB; rw [hg]; simp
        rw [← e]; exact hq H2 (e1.tr e2)
      | true =>
        repeat walk_at "vs"
        refine r_neUS ?_
        rw [show Str.ofString "-0" = (⟨#[45, 48]⟩ : Str) by decide]
        repeat walk_at "vs"
        refine iteN (fun c2 => ?_) (fun c2 => ?_)
        · repeat walk_at "vs"
          refine r_slE hl ?_
          rw [outS_tl h1]
          obtain ⟨hi, l19⟩ := fig_int hg
          repeat walk_at "vs"
          refine r_intS hi (by omega) ?_
          repeat walk_at "vs"
          have e : wrV z = .int (-(dVal (tlS z).cps.toList : Nat)) := by rw [e0, if_pos]; unfold negB; rw [hg, decide_eq_true c1, decide_eq_false c2]; rfl
          rw [← e]; exact hq H2 (e1.tr e2)
        · repeat walk_at "vs"
          have e : wrV z = .str z := by rw [e0, if_neg]; unfold negB; rw [decide_eq_true c2]; simp
          rw [← e]; exact hq H2 (e1.tr e2)
def sp_parted : Sp := fun vs H Q _ => ∃ (z w0 : Str) (ws : List Str), vs = [.str z] ∧ AscS z ∧ z.length ≤ 999990 ∧ Txt.split z ⟨#[32]⟩ = w0 :: ws ∧ ∀ t q H', H' t = some (.tup [.str w0, .ref q]) → H' q = some (.tup (ws.map wrV)) → Ext H H' → Q (.ref t) H'
theorem ok_parted (T : Txt w K mg a) : FnOk P w K mg base (CXU P w) 3 a.f_parted a.d_parted ["line"] (sp_parted) := by
  refine T.F_parted.okU sc_parted (fun vs H Q E h => ?_) (fun cdv A outer s H vs Q E hr h => ?_)
  · obtain ⟨z, w0, ws, rfl, ha, hl, hs, hq⟩ := h
    rfl
  · obtain ⟨z, w0, ws, rfl, ha, hl, hs, hq⟩ := h
    refine ⟨_, (pss_cons (ps_set (i := 1) sc_parted.nd rfl (by first | exact Or.inl rfl | exact Or.inr rfl) (pe_sm PySem.F.plainAttrs_str PySem.F.slot_str_split PySem.F.type_str_split mt_split (pv 0) (pa_cons pe_str pa_nil)))
      (pss_one (ps_ret (pe_tup (pa_cons (pe_ix oIx (pv 1) pe_int (fun _ _ => rfl)) (pa_cons (pe_callTy cTuple (by rfl) T.n_tuple PyProof.Rows.boot_tuple (pa_cons (pe_comp (["word"] : List Str) ([] : List Str) [] rfl ⟨rfl, by decide +kernel, by decide +kernel, by rfl, trivial⟩ (pi_list (pe_slice oSl (pv 1) (po_some pe_int) po_none)) (fun _ _ _ _ => ⟨(pg_name (i := 0) (by show ((["word"] : List Str) ++ ([] : List Str)).Nodup; decide +kernel) rfl (by first | exact Or.inl rfl | exact Or.inr rfl)), (show PTs _ [] [] from trivial), (pe_call (ok_written T) (hr.mono (by decide)) (by rfl) T.m_written T.F_written.kp T.b_written .nil passU (pa_cons (pv 0) pa_nil))⟩)) pa_nil)) pa_nil)))))), ?_⟩
    have hw := split_asc (c0 := 32) ha (show z.length ≤ 1000000 by omega)
    have hln := split_le z ⟨#[32]⟩
    rw [hs] at hw hln
    repeat walk_at "vs"
    rw [show Str.ofString " " = (⟨#[32]⟩ : Str) by decide]
    refine r_split (by omega) fun p H1 n1 q1 e1 => ?_
    rw [hs] at q1
    repeat walk_at "vs"
    refine r_ixL q1 (v := .str w0) (atI_int (by decide) rfl) ?_
    repeat walk_at "vs"
    refine r_slL q1 fun l2 H2 n2 q2 e2 => ?_
    rw [cut_one _ (by simp), List.map_cons, List.drop_one, List.tail_cons] at q2
    repeat walk_at "vs"
    refine ⟨l2, rfl, ⟨_, SqL.of q2⟩, fun acc hn _ _ _ _ => comp_mapL V.str id wrV (SqL.of q2) (by simp at hln; omega) hn (fun i x H3 Y hx e hY => ?_) fun H3 e3 hacc => ?_⟩
    · repeat walk_at "vs"
      have hm := hw x (List.mem_cons_of_mem _ (List.mem_of_getElem? hx))
      exact ⟨x, rfl, hm.1, hm.2, fun H4 e4 => hY H4 e4⟩
    rw [List.map_id] at hacc
    repeat walk_at "vs"
    refine r_tupleL hacc fun t4 H4 n4 q4 e4 => ?_
    repeat walk_at "vs"
    intro t5 H5 n5 q5 e5
    exact hq t5 t4 H5 q5 (e5 _ _ q4) (e1.tr (e2.tr (e3.tr (e4.tr e5))))
def sp_asked_wish (a : Adr) : Sp := fun vs H Q _ => ∃ (g : G83) (wd : Str) (pw : Addr) (ww : W83), vs = [.str wd, .ref pw, .str (lnW ww)] ∧ wd = g.word ∧ g.ok ∧ g.rs.wo a H pw ∧ g.rs.okW ww ∧ ∀ v H', ww.at_ H' v → Ext H H' → Q v H'
theorem ok_asked_wish (T : Txt w K mg a) : FnOk P w K mg base (CXU P w) 4 a.f_asked_wish a.d_asked_wish ["word", "world", "line"] (sp_asked_wish a) := by
  refine T.F_asked_wish.okU sc_asked_wish (fun vs H Q E h => ?_) (fun cdv A outer s H vs Q E hr h => ?_)
  · obtain ⟨g, wd, pw, ww, rfl, hwd, hok, hW, hww, hq⟩ := h
    rfl
  · obtain ⟨g, wd, pw, ww, rfl, hwd, hok, hW, hww, hq⟩ := h
    refine ⟨_, (pss_cons (ps_set (i := 3) sc_asked_wish.nd rfl (by first | exact Or.inl rfl | exact Or.inr rfl) (pe_call (ok_parted T) (hr.mono (by decide)) (by rfl) T.m_parted T.F_parted.kp T.b_parted .nil passU (pa_cons (pv 2) pa_nil)))
      (pss_cons (ps_if (pt_cmpR (oNe hr) (pe_ix oIx (pv 3) pe_int (fun _ _ => rfl)) pe_str (nomark _)) (pss_one (ps_ret pe_non)) pss_nil)
      (pss_cons (ps_if (pt_cmpR (oEq hr) (pv 0) pe_str (nomark _)) (pss_one (ps_set (i := 4) sc_asked_wish.nd rfl (by first | exact Or.inl rfl | exact Or.inr rfl) (pe_ix oIx (pv 3) pe_int (fun _ _ => rfl)))) (pss_one (ps_set (i := 4) sc_asked_wish.nd rfl (by first | exact Or.inl rfl | exact Or.inr rfl) (pe_ifExp (pt_cmpR (oEq hr) (pe_callB cLenW (by rfl) T.n_len PySem.boot_len (pa_cons (pe_ix oIx (pv 3) pe_int (fun _ _ => rfl)) pa_nil)) pe_int (nomark _)) (pe_ix oIx (pe_ix oIx (pv 3) pe_int (fun _ _ => rfl)) pe_int (fun _ _ => rfl)) pe_non))))
      (pss_one (ps_ret (pe_ifExp (ptT (pe_or2 (pe_meth (pv 1) T.cl_Line T.me_Line_is_wish (Nl.ok_Line_is_wish T) (hr.mono (by decide)) T.b_Line_is_wish .nil passU (pa_cons (pv 4) pa_nil)) (pe_or2 (pe_meth (pv 1) T.cl_Shelf T.me_Shelf_is_wish (Ns.ok_Shelf_is_wish T) (hr.mono (by decide)) T.b_Shelf_is_wish .nil passU (pa_cons (pv 4) pa_nil)) (pe_or2 (pe_meth (pv 1) T.cl_Hire T.me_Hire_is_wish (Nh.ok_Hire_is_wish T) (hr.mono (by decide)) T.b_Hire_is_wish .nil passU (pa_cons (pv 4) pa_nil)) (pe_or2 (pe_meth (pv 1) T.cl_Ways T.me_Ways_is_wish (Nw.ok_Ways_is_wish T) (hr.mono (by decide)) T.b_Ways_is_wish .nil passU (pa_cons (pv 4) pa_nil)) (pe_or2 (pe_meth (pv 1) T.cl_Store T.me_Store_is_wish (Nk.ok_Store_is_wish T) (hr.mono (by decide)) T.b_Store_is_wish .nil passU (pa_cons (pv 4) pa_nil)) (pe_meth (pv 1) T.cl_Bags T.me_Bags_is_wish (Nb.ok_Bags_is_wish T) (hr.mono (by decide)) T.b_Bags_is_wish .nil passU (pa_cons (pv 4) pa_nil))))))) (fun _ => rfl)) (pv 4) pe_non)))))), ?_⟩
    obtain ⟨hsp, hln⟩ := lnW_ok hok hww
    have hps := ClV.wrs (okW_cl hok hww).1
    repeat walk_at "vs"
    refine ⟨_, _, _, rfl, hln.asc, by have := hln.2.2; omega, hsp, fun t q H1 q1 q2 e1 => ?_⟩
    rw [hps] at q2
    have hW1 := RS.woE e1 hW
    repeat walk_at "vs"
    refine r_ixT q1 rfl ?_
    repeat walk_at "vs"
    refine r_neUS ?_
    rw [show decide (askS = Str.ofString "ask") = true from decide_eq_true rfl]
    repeat walk_at "vs"
    cases g with
    | line ns =>
      have hwd : wd = Str.ofString "line" := hwd
      obtain ⟨x, rfl, w0, w1⟩ := hww
      skip
      refine r_eqUS ?_
      rw [show decide (wd = Str.ofString "ways") = false by rw [hwd]; decide]
      repeat walk_at "vs"
      refine r_ixT q1 rfl ?_
      repeat walk_at "vs"
      refine r_lenWT q2 ?_
      repeat walk_at "vs"
      refine r_ixT q1 rfl ?_
      repeat walk_at "vs"
      refine r_ixT q2 rfl ?_
      repeat walk_at "vs"
      refine r_or2L ?_
      obtain ⟨dw, kw⟩ := hW1
      repeat walk_at "vs"
      refine ⟨_, .int x, .int, rfl, rfl, ?_⟩
      rw [show plc (.int x) = true by show decide ((x.natAbs : Int) ≤ 1000000000000000000) = true; exact decide_eq_true (by omega)]
      repeat walk_at "vs"
      exact hq _ H1 rfl e1
    | shelf ss =>
      have hwd : wd = Str.ofString "shelf" := hwd
      obtain ⟨x, rfl, hx⟩ := hww
      skip
      refine r_eqUS ?_
      rw [show decide (wd = Str.ofString "ways") = false by rw [hwd]; decide]
      repeat walk_at "vs"
      refine r_ixT q1 rfl ?_
      repeat walk_at "vs"
      refine r_lenWT q2 ?_
      repeat walk_at "vs"
      refine r_ixT q1 rfl ?_
      repeat walk_at "vs"
      refine r_ixT q2 rfl ?_
      repeat walk_at "vs"
      refine r_or2R (r_or2L ?_)
      obtain ⟨dw, tp, kw, kt⟩ := hW1
      repeat walk_at "vs"
      refine ⟨_, _, _, _, x, rfl, kw, kt, hok.nm x hx, hx, fun H2 e2 => ?_⟩
      repeat walk_at "vs"
      exact hq _ H2 rfl (e1.tr e2)
    | hire W =>
      have hwd : wd = Str.ofString "hire" := hwd
      obtain ⟨x, rfl, w0, w1⟩ := hww
      obtain ⟨W1, W2⟩ := hok
      refine r_eqUS ?_
      rw [show decide (wd = Str.ofString "ways") = false by rw [hwd]; decide]
      repeat walk_at "vs"
      refine r_ixT q1 rfl ?_
      repeat walk_at "vs"
      refine r_lenWT q2 ?_
      repeat walk_at "vs"
      refine r_ixT q1 rfl ?_
      repeat walk_at "vs"
      refine r_ixT q2 rfl ?_
      repeat walk_at "vs"
      refine r_or2R (r_or2R (r_or2L ?_))
      obtain ⟨dw, kw⟩ := hW1
      repeat walk_at "vs"
      refine ⟨_, .int x, .int, rfl, rfl, ?_⟩
      rw [show amt (.int x) = true by show (decide (0 ≤ x) && decide (x ≤ 1000000000000000000)) = true; rw [decide_eq_true w0, decide_eq_true w1]; rfl]
      repeat walk_at "vs"
      exact hq _ H1 rfl e1
    | ways n t h =>
      have hwd : wd = Str.ofString "ways" := hwd
      obtain ⟨cs, rfl, hcl, hcs⟩ := hww
      skip
      refine r_eqUS ?_
      rw [show decide (wd = Str.ofString "ways") = true by rw [hwd]; decide]
      repeat walk_at "vs"
      refine r_ixT q1 rfl ?_
      repeat walk_at "vs"
      refine r_or2R (r_or2R (r_or2R (r_or2L ?_)))
      obtain ⟨dw, kw⟩ := hW1
      repeat walk_at "vs"
      refine ⟨_, _, q, cs, _, rfl, by rw [hcl]; exact kw, q2, by rw [hcl]; exact hok.2.1, hcs, fun H2 e2 => ?_⟩
      repeat walk_at "vs"
      exact hq _ H2 ⟨q, rfl, e2 _ _ q2⟩ (e1.tr e2)
    | store ss =>
      have hwd : wd = Str.ofString "store" := hwd
      obtain ⟨x, rfl, hx⟩ := hww
      skip
      refine r_eqUS ?_
      rw [show decide (wd = Str.ofString "ways") = false by rw [hwd]; decide]
      repeat walk_at "vs"
      refine r_ixT q1 rfl ?_
      repeat walk_at "vs"
      refine r_lenWT q2 ?_
      repeat walk_at "vs"
      refine r_ixT q1 rfl ?_
      repeat walk_at "vs"
      refine r_ixT q2 rfl ?_
      repeat walk_at "vs"
      refine r_or2R (r_or2R (r_or2R (r_or2R (r_or2L ?_))))
      obtain ⟨dw, kw⟩ := hW1
      repeat walk_at "vs"
      refine ⟨_, x, rfl, hx, fun H2 e2 => ?_⟩
      repeat walk_at "vs"
      exact hq _ H2 rfl (e1.tr e2)
    | bags R =>
      have hwd : wd = Str.ofString "bags" := hwd
      obtain ⟨x, rfl, w0, w1⟩ := hww
      obtain ⟨R1, R2⟩ := hok
      refine r_eqUS ?_
      rw [show decide (wd = Str.ofString "ways") = false by rw [hwd]; decide]
      repeat walk_at "vs"
      refine r_ixT q1 rfl ?_
      repeat walk_at "vs"
      refine r_lenWT q2 ?_
      repeat walk_at "vs"
      refine r_ixT q1 rfl ?_
      repeat walk_at "vs"
      refine r_ixT q2 rfl ?_
      repeat walk_at "vs"
      refine r_or2R (r_or2R (r_or2R (r_or2R (r_or2R ?_))))
      obtain ⟨dw, kw⟩ := hW1
      repeat walk_at "vs"
      refine ⟨_, _, R, .int x, .int, rfl, kw, rfl, ?_⟩
      rw [show fot R (.int x) = true by show (decide (1 ≤ x) && decide (x ≤ R)) = true; rw [decide_eq_true w0, decide_eq_true w1]; rfl]
      repeat walk_at "vs"
      exact hq _ H1 rfl e1
def sp_asked_wishes (a : Adr) : Sp := fun vs H Q _ => ∃ (g : G83) (wd : Str) (pw rp : Addr) (ws : List W83) (rs : List (Nat × Str)) (ys : List V), vs = [.str wd, .ref pw, .ref rp] ∧ wd = g.word ∧ g.ok ∧ g.rs.wo a H pw ∧ (∀ w ∈ ws, g.rs.okW w) ∧ ws.length ≤ 200 ∧ H rp = some (.lst ys) ∧ RwAt H rs ys ∧ rs.map (·.2) = ws.map lnW ∧ ∀ l wvs H', H l = none → H' l = some (.lst wvs) → AllW H' ws wvs → Ext H H' → Q (.ref l) H'
theorem ok_asked_wishes (T : Txt w K mg a) : FnOk P w K mg base (CXU P w) 5 a.f_asked_wishes a.d_asked_wishes ["word", "world", "rows"] (sp_asked_wishes a) := by
  refine T.F_asked_wishes.okU sc_asked_wishes (fun vs H Q E h => ?_) (fun cdv A outer s H vs Q E hr h => ?_)
  · obtain ⟨g, wd, pw, rp, ws, rs, ys, rfl, hwd, hok, hW, hws, hl, hr0, hrw, hrs, hq⟩ := h
    rfl
  · obtain ⟨g, wd, pw, rp, ws, rs, ys, rfl, hwd, hok, hW, hws, hl, hr0, hrw, hrs, hq⟩ := h
    refine ⟨_, (pss_cons (ps_set (i := 3) sc_asked_wishes.nd rfl (by first | exact Or.inl rfl | exact Or.inr rfl) (pe_lst pa_nil))
      (pss_cons (ps_for PassesOwn.never rfl (pi_list (pv 2)) (pg_tup rfl (pgs_cons (pg_name (i := 4) sc_asked_wishes.nd rfl (by first | exact Or.inl rfl | exact Or.inr rfl)) (pgs_cons (pg_name (i := 5) sc_asked_wishes.nd rfl (by first | exact Or.inl rfl | exact Or.inr rfl)) pgs_nil))) (pss_cons (ps_set (i := 6) sc_asked_wishes.nd rfl (by first | exact Or.inl rfl | exact Or.inr rfl) (pe_call (ok_asked_wish T) (hr.mono (by decide)) (by rfl) T.m_asked_wish T.F_asked_wish.kp T.b_asked_wish .nil passU (pa_cons (pv 0) (pa_cons (pv 1) (pa_cons (pv 5) pa_nil)))))
      (pss_cons (ps_if (PW.pt (pw_or (pt_cmpR oIsN (pv 6) pe_non (nomark _)) (pw_or1 (pt_cmpR (oEq hr) (pe_callB cLenW (by rfl) T.n_len PySem.boot_len (pa_cons (pv 3) pa_nil)) (pe_glob (v := V.int 200) (by rfl) T.m_MOST_ASKS ⟨_, rfl⟩) (nomark _))))) (pss_one ps_never) pss_nil)
      (pss_one (ps_expr (pe_bm PySem.F.plainAttrs_list PySem.F.slot_list_append PySem.F.type_list_append mt_append (pv 3) (pa_cons (pv 6) pa_nil)))))))
      (pss_one (ps_ret (pv 3))))), ?_⟩
    have ly := hrw.len
    have lr : rs.length = ws.length := by have := congrArg List.length hrs; simpa using this
    repeat walk_at "vs"
    intro l H1 n1 q1 e1
    have nrl : rp ≠ l := fun z => by rw [z, n1] at hr0; cases hr0
    repeat walk_at "vs"
    refine ⟨rp, rfl, ⟨_, SqL.of (e1 _ _ hr0)⟩, for_list (xs := ys) (fun i σ H2 => ∃ (u1 u2 u3 : Option V) (wvs : List V), σ = [some (.str wd), some (.ref pw), some (.ref rp), some (.ref l), u1, u2, u3] ∧ Ext H H2 ∧ H2 l = some (.lst wvs) ∧ AllW H2 (ws.take i) wvs) ⟨none, none, none, [], rfl, e1, q1, trivial⟩ (fun i σ H2 _ h => by obtain ⟨_, _, _, _, _, x, _⟩ := h; exact SqL.of (x _ _ hr0)) ?_ ?_⟩
    · rintro i x σ H2 hx ⟨u1, u2, u3, wvs, rfl, x2, q2, aw⟩
      obtain ⟨⟨n, z⟩, ta, hp, rfl, hta⟩ := RwAt.get hrw hx
      have hi : i < ws.length := by rw [← lr]; exact (List.getElem?_eq_some_iff.mp hp).1
      have hz : z = lnW ws[i] := by
        have e := congrArg (fun l => l[i]?) hrs
        simp only [List.getElem?_map, hp, List.getElem?_eq_getElem hi] at e
        simpa using e
      have okx := hws _ (List.getElem_mem hi)
      have etk : ws.take (i + 1) = ws.take i ++ [ws[i]] := by rw [List.take_succ, List.getElem?_eq_getElem hi]; rfl
      subst hz
      have hta2 := x2 _ _ hta
      have hta3 : H2 ta = some (.tup [.int (n : Nat), .str (lnW ws[i])]) := hta2
      have lwv := aw.len
      generalize ws[i] = ww at *
      repeat walk_at "vs"
      refine ⟨g, wd, pw, ww, rfl, hwd, hok, RS.woE x2 hW, okx, fun v H3 a3 e3 => ?_⟩
      have hv : v ≠ .non := by
        cases ww with
        | i z => rw [show v = .int z from a3]; simp
        | s z => rw [show v = .str z from a3]; simp
        | l cs => obtain ⟨q, rfl, _⟩ := a3; simp
      repeat walk_at "vs"
      rw [decide_eq_false hv]
      repeat walk_at "vs"
      refine r_lenWL (e3 _ _ q2) ?_
      repeat walk_at "vs"
      rw [decide_eq_false (show ¬ (wvs.length : Int) = 200 by rw [lwv, List.length_take]; omega)]
      repeat walk_at "vs"
      refine r_append (e3 _ _ q2) (by rw [lwv, List.length_take]; omega) fun H4 q4 b4 => ?_
      refine ⟨_, _, _, wvs ++ [v], rfl, Ext.but (x2.tr e3) b4 n1, q4, ?_⟩
      rw [etk]
      have tk : ∀ p xs, H3 p = some (.tup xs) → H4 p = some (.tup xs) := fun p xs hh => b4 _ _ (fun z => by rw [z, e3 _ _ q2] at hh; cases hh) hh
      exact (AllW.snoc a3 (aw.mono fun _ _ zz => e3 _ _ zz)).mono tk
    · rintro σ H2 ⟨u1, u2, u3, wvs, rfl, x2, q2, aw⟩
      rw [ly, lr, List.take_length] at aw
      repeat walk_at "vs"
      exact hq l wvs H2 n1 q2 aw x2
namespace Nb
def sp_Rule_state (a : Adr) : Sp := fun vs H Q _ => ∃ (r : Addr) (R z : Int) (ps ss : List Int), vs = [.ref r] ∧ BagAt a H r R ps ss z ∧ ∀ st, H st = some (.tup (ss.map V.int)) → Q (.ref st) H
theorem ok_Rule_state (T : Txt w K mg a) : FnOk P w K mg base (CXU P w) 1 a.f_Rule_state a.d_Rule_state ["self"] (sp_Rule_state a) := by
  refine T.F_Rule_state.okU sc_Rule_state (fun vs H Q E h => ?_) (fun cdv A outer s H vs Q E hr h => ?_)
  · obtain ⟨r, R, z, ps, ss, rfl, hB, hq⟩ := h
    rfl
  · obtain ⟨r, R, z, ps, ss, rfl, hB, hq⟩ := h
    have zc_Both := T.cl_Both
    have zn_Both_standing := T.na_Both_standing
    have zc_Buyer := T.cl_Buyer
    have zn_Buyer_standing := T.na_Buyer_standing
    have zc_Changer := T.cl_Changer
    have zn_Changer_standing := T.na_Changer_standing
    have zc_Filler := T.cl_Filler
    have zn_Filler_standing := T.na_Filler_standing
    have zc_Front := T.cl_Front
    have zn_Front_standing := T.na_Front_standing
    have zc_Keeper := T.cl_Keeper
    have zn_Keeper_standing := T.na_Keeper_standing
    refine ⟨_, (pss_one (ps_ret (pe_fld (pv 0) rfl))), ?_⟩
    obtain ⟨dx, wo, dw, st, q, h1, h2, h3, h4⟩ := hB.ex
    repeat walk_at "vs"
    exact hq st h3
end Nb
namespace Nk
def sp_Rule_state (a : Adr) : Sp := fun vs H Q _ => ∃ (r : Addr) (row : List Str) (z : Int), vs = [.ref r] ∧ KeepAt a H r row z ∧ ∀ st (ss : List Str), ss.Perm row → sortedS ss = true → H st = some (.tup (ss.map V.str)) → Q (.ref st) H
theorem ok_Rule_state (T : Txt w K mg a) : FnOk P w K mg base (CXU P w) 1 a.f_Rule_state a.d_Rule_state ["self"] (sp_Rule_state a) := by
  refine T.F_Rule_state.okU sc_Rule_state (fun vs H Q E h => ?_) (fun cdv A outer s H vs Q E hr h => ?_)
  · obtain ⟨r, row, z, rfl, hB, hq⟩ := h
    rfl
  · obtain ⟨r, row, z, rfl, hB, hq⟩ := h
    have zc_Both := T.cl_Both
    have zn_Both_standing := T.na_Both_standing
    have zc_Buyer := T.cl_Buyer
    have zn_Buyer_standing := T.na_Buyer_standing
    have zc_Changer := T.cl_Changer
    have zn_Changer_standing := T.na_Changer_standing
    have zc_Filler := T.cl_Filler
    have zn_Filler_standing := T.na_Filler_standing
    have zc_Front := T.cl_Front
    have zn_Front_standing := T.na_Front_standing
    have zc_Keeper := T.cl_Keeper
    have zn_Keeper_standing := T.na_Keeper_standing
    refine ⟨_, (pss_one (ps_ret (pe_fld (pv 0) rfl))), ?_⟩
    obtain ⟨dx, wo, dw, st, q, ss, k⟩ := hB.ex
    have h1 := k.hr
    repeat walk_at "vs"
    exact hq st ss k.pm k.so k.hs
end Nk
namespace Nw
def sp_Rule_state (a : Adr) : Sp := fun vs H Q _ => ∃ (r : Addr) (ns : List Int) (h t z : Int), vs = [.ref r] ∧ WaysAt a H r ns h t z ∧ Q (.int h) H
theorem ok_Rule_state (T : Txt w K mg a) : FnOk P w K mg base (CXU P w) 1 a.f_Rule_state a.d_Rule_state ["self"] (sp_Rule_state a) := by
  refine T.F_Rule_state.okU sc_Rule_state (fun vs H Q E h => ?_) (fun cdv A outer s H vs Q E hr h => ?_)
  · obtain ⟨r, ns, h, t, z, rfl, hB, hq⟩ := h
    rfl
  · obtain ⟨r, ns, h, t, z, rfl, hB, hq⟩ := h
    have zc_Both := T.cl_Both
    have zn_Both_standing := T.na_Both_standing
    have zc_Buyer := T.cl_Buyer
    have zn_Buyer_standing := T.na_Buyer_standing
    have zc_Changer := T.cl_Changer
    have zn_Changer_standing := T.na_Changer_standing
    have zc_Filler := T.cl_Filler
    have zn_Filler_standing := T.na_Filler_standing
    have zc_Front := T.cl_Front
    have zn_Front_standing := T.na_Front_standing
    have zc_Keeper := T.cl_Keeper
    have zn_Keeper_standing := T.na_Keeper_standing
    refine ⟨_, (pss_one (ps_ret (pe_fld (pv 0) rfl))), ?_⟩
    obtain ⟨dx, wo, dw, q, h1, h2, h3⟩ := hB.ex
    repeat walk_at "vs"
    exact hq
end Nw
namespace Nh
def sp_Rule_state (a : Adr) : Sp := fun vs H Q _ => ∃ r W st z, vs = [.ref r] ∧ BuyAt a H r W st z ∧ Q (.int st) H
theorem ok_Rule_state (T : Txt w K mg a) : FnOk P w K mg base (CXU P w) 1 a.f_Rule_state a.d_Rule_state ["self"] (sp_Rule_state a) := by
  refine T.F_Rule_state.okU sc_Rule_state (fun vs H Q E h => ?_) (fun cdv A outer s H vs Q E hr h => ?_)
  · obtain ⟨r, W, st, z, rfl, hB, hq⟩ := h
    rfl
  · obtain ⟨r, W, st, z, rfl, hB, hq⟩ := h
    have zc_Both := T.cl_Both
    have zn_Both_standing := T.na_Both_standing
    have zc_Buyer := T.cl_Buyer
    have zn_Buyer_standing := T.na_Buyer_standing
    have zc_Changer := T.cl_Changer
    have zn_Changer_standing := T.na_Changer_standing
    have zc_Filler := T.cl_Filler
    have zn_Filler_standing := T.na_Filler_standing
    have zc_Front := T.cl_Front
    have zn_Front_standing := T.na_Front_standing
    have zc_Keeper := T.cl_Keeper
    have zn_Keeper_standing := T.na_Keeper_standing
    refine ⟨_, (pss_one (ps_ret (pe_fld (pv 0) rfl))), ?_⟩
    obtain ⟨dx, wo, dw, h2, h3⟩ := hB.ex
    repeat walk_at "vs"
    exact hq
end Nh
namespace Ns
def sp_Rule_state (a : Adr) : Sp := fun vs H Q _ => ∃ (r : Addr) (ss ts : List Str) (z : Int), vs = [.ref r] ∧ ShelfAt a H r ss ts z ∧ ∀ st, H st = some (.tup (ss.map V.str)) → Q (.ref st) H
theorem ok_Rule_state (T : Txt w K mg a) : FnOk P w K mg base (CXU P w) 1 a.f_Rule_state a.d_Rule_state ["self"] (sp_Rule_state a) := by
  refine T.F_Rule_state.okU sc_Rule_state (fun vs H Q E h => ?_) (fun cdv A outer s H vs Q E hr h => ?_)
  · obtain ⟨r, ss, ts, z, rfl, hB, hq⟩ := h
    rfl
  · obtain ⟨r, ss, ts, z, rfl, hB, hq⟩ := h
    have zc_Both := T.cl_Both
    have zn_Both_standing := T.na_Both_standing
    have zc_Buyer := T.cl_Buyer
    have zn_Buyer_standing := T.na_Buyer_standing
    have zc_Changer := T.cl_Changer
    have zn_Changer_standing := T.na_Changer_standing
    have zc_Filler := T.cl_Filler
    have zn_Filler_standing := T.na_Filler_standing
    have zc_Front := T.cl_Front
    have zn_Front_standing := T.na_Front_standing
    have zc_Keeper := T.cl_Keeper
    have zn_Keeper_standing := T.na_Keeper_standing
    refine ⟨_, (pss_one (ps_ret (pe_fld (pv 0) rfl))), ?_⟩
    obtain ⟨dx, wo, dw, st, tp, h1, h2, h3, h4⟩ := hB.ex
    repeat walk_at "vs"
    exact hq st h3
end Ns
namespace Nl
def sp_Rule_state (a : Adr) : Sp := fun vs H Q _ => ∃ (r : Addr) (ns : List Int) (z : Int), vs = [.ref r] ∧ LineAt a a.c_Both H r ns z ∧ ∀ st, H st = some (.tup (ns.map V.int)) → Q (.ref st) H
theorem ok_Rule_state (T : Txt w K mg a) : FnOk P w K mg base (CXU P w) 1 a.f_Rule_state a.d_Rule_state ["self"] (sp_Rule_state a) := by
  refine T.F_Rule_state.okU sc_Rule_state (fun vs H Q E h => ?_) (fun cdv A outer s H vs Q E hr h => ?_)
  · obtain ⟨r, ns, z, rfl, hB, hq⟩ := h
    rfl
  · obtain ⟨r, ns, z, rfl, hB, hq⟩ := h
    have zc_Both := T.cl_Both
    have zn_Both_standing := T.na_Both_standing
    have zc_Buyer := T.cl_Buyer
    have zn_Buyer_standing := T.na_Buyer_standing
    have zc_Changer := T.cl_Changer
    have zn_Changer_standing := T.na_Changer_standing
    have zc_Filler := T.cl_Filler
    have zn_Filler_standing := T.na_Filler_standing
    have zc_Front := T.cl_Front
    have zn_Front_standing := T.na_Front_standing
    have zc_Keeper := T.cl_Keeper
    have zn_Keeper_standing := T.na_Keeper_standing
    refine ⟨_, (pss_one (ps_ret (pe_fld (pv 0) rfl))), ?_⟩
    obtain ⟨dx, wo, dw, st, h1, h2, h3⟩ := hB.ex
    repeat walk_at "vs"
    exact hq st h3
end Nl
namespace Nb
def sp_Bags_is_state (a : Adr) : Sp := fun vs H Q _ => ∃ (w dw p : Addr) (R : Int) (ss : List Int), vs = [.ref w, .ref p] ∧ H w = some (.ins a.c_Bags dw [("room", .int R)]) ∧ H p = some (.tup (ss.map V.int)) ∧ ss.length ≤ 60 ∧ (∀ x ∈ ss, 1 ≤ x ∧ x ≤ R) ∧ ss.Pairwise (· ≤ ·) ∧ ∀ H', Ext H H' → Q (.bl true) H'
theorem ok_Bags_is_state (T : Txt w K mg a) : FnOk P w K mg base (CXU P w) 3 a.f_Bags_is_state a.d_Bags_is_state ["self", "thing"] (sp_Bags_is_state a) := by
  refine T.F_Bags_is_state.okU sc_Bags_is_state (fun vs H Q E h => ?_) (fun cdv A outer s H vs Q E hr h => ?_)
  · obtain ⟨w, dw, p, R, ss, rfl, hw, hp, hl, hb, hs, hq⟩ := h
    rfl
  · obtain ⟨w, dw, p, R, ss, rfl, hw, hp, hl, hb, hs, hq⟩ := h
    have zc_Bags := T.cl_Bags
    have zn_Bags_room := T.na_Bags_room
    refine ⟨_, (pss_cons (ps_if (PW.pt (pw_or (pt_not (ptT (pe_callB cIsin (by rfl) T.n_isinstance PyProof.Rows.boot_isinstance (pa_cons (pv 1) (pa_cons (pe_bltn (v := V.ty "tuple") (by rfl) T.n_tuple PyProof.Rows.boot_tuple rfl) pa_nil))) (fun _ => rfl))) (pw_or1 (pt_cmpR op_gt (pe_callB cLenW (by rfl) T.n_len PySem.boot_len (pa_cons (pv 1) pa_nil)) (pe_glob (v := V.int 500) (by rfl) T.m_MOST_BAGS ⟨_, rfl⟩) (nomark _))))) (pss_one (ps_ret pe_bl)) pss_nil)
      (pss_cons (ps_if (pt_not (ptT (pe_callB (cAll rfl) (by rfl) T.n_all PyProof.Rows.boot_all (pa_cons (pe_comp (["load"] : List Str) (["self"] : List Str) [0] rfl ⟨rfl, by decide +kernel, by decide +kernel, by rfl, ⟨⟨rfl, by first | exact Or.inl rfl | exact Or.inr rfl, by first | exact Or.inl rfl | exact Or.inr rfl⟩, trivial⟩⟩ (pi_tup (pv 1)) (fun _ _ _ _ => ⟨(pg_name (i := 0) (by show ((["load"] : List Str) ++ (["self"] : List Str)).Nodup; decide +kernel) rfl (by first | exact Or.inl rfl | exact Or.inr rfl)), (show PTs _ [] [] from trivial), (pe_call (ok_is_from_one_to T) (hr.mono (by decide)) (by rfl) T.m_is_from_one_to T.F_is_from_one_to.kp T.b_is_from_one_to .nil passU (pa_cons (pv 0) (pa_cons (pe_fld (pv 1) rfl) pa_nil)))⟩)) pa_nil)) (fun _ => rfl))) (pss_one (ps_ret pe_bl)) pss_nil)
      (pss_one (ps_ret (pe_cmpR (oEq hr) (pe_callTy cList (by rfl) T.n_list PyProof.Rows.boot_list (pa_cons (pv 1) pa_nil)) (pe_callB cSortW (by rfl) T.n_sorted PyProof.Rows.boot_sorted (pa_cons (pv 1) pa_nil)) (nomark _)))))), ?_⟩
    repeat walk_at "vs"
    refine r_isT (HasK.t hp) ?_
    repeat walk_at "vs"
    refine r_lenWT hp ?_
    rw [List.length_map]
    repeat walk_at "vs"
    refine iteD (fun c => absurd c (by omega)) (fun _ => ?_)
    repeat walk_at "vs"
    refine ⟨p, rfl, ⟨_, SqT.of hp⟩, fun acc hn _ _ _ _ => comp_mapT V.int V.bl (fun _ => true) (SqT.of hp) (by omega) hn (fun i x H2 Y hx e hY => ?_) fun H2 e ha => ?_⟩
    · have hx' := hb x (List.mem_of_getElem? hx)
      have hw2 := e _ _ hw
      repeat walk_at "vs"
      refine ⟨.int x, .int, R, rfl, rfl, ?_⟩
      rw [show fot R (.int x) = true by show (decide (1 ≤ x) && decide (x ≤ R)) = true; rw [decide_eq_true hx'.1, decide_eq_true hx'.2]; rfl]
      exact hY _ Ext.rfl'
    repeat walk_at "vs"
    refine r_all (bs := ss.map fun _ => true) ha ?_
    rw [show (ss.map fun _ => true).all id = true by rw [List.all_map, List.all_eq_true]; intro x _; rfl]
    repeat walk_at "vs"
    refine r_listT (e _ _ hp) fun l H3 n3 h3 e3 => ?_
    repeat walk_at "vs"
    refine r_srtT (e3 _ _ (e _ _ hp)) (by omega) fun l2 ns' H4 n4 hpm hs' h4 e4 => ?_
    obtain rfl := sorted_eq hpm hs' hs
    repeat walk_at "vs"
    refine r_eqLI (e4 _ _ h3) h4 ?_
    rw [decide_eq_true rfl]
    exact hq H4 ((e.tr e3).tr e4)
end Nb
namespace Nb
def sp_Rule_init (a : Adr) : Sp := fun vs H Q _ => ∃ (x dx w dw p : Addr) (R : Int), vs = [.ref x, .ref w, .ref p] ∧ H x = some (.ins a.c_Filler dx []) ∧ H w = some (.ins a.c_Bags dw [("room", .int R)]) ∧ H p = some (.tup []) ∧ ∀ H', H' x = some (.ins a.c_Filler dx [("world", .ref w), ("standing", .ref p), ("spent", .int 0)]) → But x H H' → Q .non H'
theorem ok_Rule_init (T : Txt w K mg a) : FnOk P w K mg base (CXU P w) 4 a.f_Rule_init a.d_Rule_init ["self", "world", "start"] (sp_Rule_init a) := by
  refine T.F_Rule_init.okU sc_Rule_init (fun vs H Q E h => ?_) (fun cdv A outer s H vs Q E hr h => ?_)
  · obtain ⟨x, dx, w, dw, p, R, rfl, hx, hw, hp, hq⟩ := h
    rfl
  · obtain ⟨x, dx, w, dw, p, R, rfl, hx, hw, hp, hq⟩ := h
    have zc_Both := T.cl_Both
    have zn_Both_world := T.na_Both_world
    have zn_Both_standing := T.na_Both_standing
    have zn_Both_spent := T.na_Both_spent
    have zc_Buyer := T.cl_Buyer
    have zn_Buyer_world := T.na_Buyer_world
    have zn_Buyer_standing := T.na_Buyer_standing
    have zn_Buyer_spent := T.na_Buyer_spent
    have zc_Changer := T.cl_Changer
    have zn_Changer_world := T.na_Changer_world
    have zn_Changer_standing := T.na_Changer_standing
    have zn_Changer_spent := T.na_Changer_spent
    have zc_Filler := T.cl_Filler
    have zn_Filler_world := T.na_Filler_world
    have zn_Filler_standing := T.na_Filler_standing
    have zn_Filler_spent := T.na_Filler_spent
    have zc_Front := T.cl_Front
    have zn_Front_world := T.na_Front_world
    have zn_Front_standing := T.na_Front_standing
    have zn_Front_spent := T.na_Front_spent
    have zc_Keeper := T.cl_Keeper
    have zn_Keeper_world := T.na_Keeper_world
    have zn_Keeper_standing := T.na_Keeper_standing
    have zn_Keeper_spent := T.na_Keeper_spent
    refine ⟨_, (pss_cons (ps_if (pt_not (ptT (pe_meth (pv 1) T.cl_Bags T.me_Bags_is_state (Nb.ok_Bags_is_state T) (hr.mono (by decide)) T.b_Bags_is_state .nil passU (pa_cons (pv 2) pa_nil)) (fun _ => rfl))) (pss_one ps_never) pss_nil)
      (pss_cons (ps_fld (pv 0) (pv 1) rfl)
      (pss_cons (ps_fld (pv 0) (pv 2) rfl)
      (pss_one (ps_fld (pv 0) pe_int rfl))))), ?_⟩
    repeat walk_at "vs"
    refine ⟨w, dw, p, R, [], rfl, hw, hp, by decide, (fun x hx => by cases hx), .nil, fun H1 e1 => ?_⟩
    repeat walk_at "vs"
    refine r_sat (e1 _ _ hx) T.cl_Filler T.na_Filler_world (lt1000 rfl) fun H2 h2 b2 => ?_
    repeat walk_at "vs"
    refine r_sat h2 T.cl_Filler T.na_Filler_standing (lt1000 rfl) fun H3 h3 b3 => ?_
    repeat walk_at "vs"
    refine r_sat h3 T.cl_Filler T.na_Filler_spent (lt1000 rfl) fun H4 h4 b4 => ?_
    exact hq H4 h4 (Ext.toBut e1 (But.tr (But.tr b2 b3) b4))
end Nb
namespace Nb
def sp_Bags_init (a : Adr) : Sp := fun vs H Q _ => ∃ x dx v, vs = [.ref x, v] ∧ H x = some (.ins a.c_Bags dx []) ∧ ∀ H', H' x = some (.ins a.c_Bags dx [("room", v)]) → But x H H' → Q .non H'
theorem ok_Bags_init (T : Txt w K mg a) : FnOk P w K mg base (CXU P w) 1 a.f_Bags_init a.d_Bags_init ["self", "room"] (sp_Bags_init a) := by
  refine T.F_Bags_init.okU sc_Bags_init (fun vs H Q E h => ?_) (fun cdv A outer s H vs Q E hr h => ?_)
  · obtain ⟨x, dx, v, rfl, hx, hq⟩ := h
    rfl
  · obtain ⟨x, dx, v, rfl, hx, hq⟩ := h
    have zc_Bags := T.cl_Bags
    have zn_Bags_room := T.na_Bags_room
    refine ⟨_, (pss_one (ps_fld (pv 0) (pv 1) rfl)), ?_⟩
    repeat walk_at "vs"
    refine r_sat hx T.cl_Bags T.na_Bags_room (lt1000 rfl) fun H' h1 h2 => ?_
    exact hq H' h1 h2
end Nb
namespace Nb
def sp_Filler_init (a : Adr) : Sp := fun vs H Q _ => ∃ (x dx : Addr) (R : Int), vs = [.ref x, .int R] ∧ H x = some (.ins a.c_Filler dx []) ∧ 1 ≤ R ∧ R ≤ 1000000000000000000 ∧ ∀ H', BagAt a H' x R [] [] 0 → But x H H' → Q .non H'
theorem ok_Filler_init (T : Txt w K mg a) : FnOk P w K mg base (CXU P w) 6 a.f_Filler_init a.d_Filler_init ["self", "room"] (sp_Filler_init a) := by
  refine T.F_Filler_init.okU sc_Filler_init (fun vs H Q E h => ?_) (fun cdv A outer s H vs Q E hr h => ?_)
  · obtain ⟨x, dx, R, rfl, hx, r1, r2, hq⟩ := h
    rfl
  · obtain ⟨x, dx, R, rfl, hx, r1, r2, hq⟩ := h
    have zc_Filler := T.cl_Filler
    have zn_Filler_packed := T.na_Filler_packed
    refine ⟨_, (pss_cons (ps_if (PW.pt (pw_or (pt_not (ptT (pe_call (ok_is_amount T) (hr.mono (by decide)) (by rfl) T.m_is_amount T.F_is_amount.kp T.b_is_amount .nil passU (pa_cons (pv 1) pa_nil)) (fun _ => rfl))) (pw_or1 (pt_cmpR (oEq hr) (pv 1) pe_int (nomark _))))) (pss_one ps_never) pss_nil)
      (pss_cons (ps_expr (pe_cmeth (C := a.c_Bound) (pe_glob (v := V.ref a.c_Bound) (by rfl) T.m_Bound rfl) T.cm_Bound_init (Nb.ok_Rule_init T) (hr.mono (by decide)) T.b_Rule_init .nil passU (pa_cons (pv 0) (pa_cons (pe_make T.mk_Bags (Nb.ok_Bags_init T) (hr.mono (by decide)) (by rfl) T.m_Bags T.b_Bags_init .nil passU (pa_cons (pv 1) pa_nil)) (pa_cons (pe_tup pa_nil) pa_nil)))))
      (pss_one (ps_fld (pv 0) (pe_lst pa_nil) rfl)))), ?_⟩
    repeat walk_at "vs"
    refine ⟨.int R, .int, rfl, rfl, ?_⟩
    rw [show amt (.int R) = true by show (decide (0 ≤ R) && decide (R ≤ 1000000000000000000)) = true; rw [decide_eq_true (by omega), decide_eq_true r2]; rfl]
    repeat walk_at "vs"
    refine iteD (fun c => ?_) (fun c => ?_)
    · omega
    repeat walk_at "vs"
    intro w dw k1 k2 k3
    have nx : w ≠ x := (ne_of_none hx k1).symm
    refine ⟨w, dw, .int R, rfl, upd_same, fun H1 h1' b1 => ⟨rfl, ?_⟩⟩
    have x1 : Ext H H1 := fun b o hb => b1 b o (ne_of_none hb k1) (by rw [upd_ne (ne_of_none hb k1), upd_ne (ne_of_none hb k2)]; exact hb)
    repeat walk_at "vs"
    intro p2 H2 n2 q2 e2
    repeat walk_at "vs"
    refine ⟨x, dx, w, dw, p2, R, rfl, e2 _ _ (x1 _ _ hx), e2 _ _ h1', q2, fun H3 h3 b3 => ?_⟩
    have np : p2 ≠ x := (ne_of_none (x1 _ _ hx) n2).symm
    repeat walk_at "vs"
    intro p4 H4 n4 q4 e4
    repeat walk_at "vs"
    refine r_sat (e4 _ _ h3) T.cl_Filler T.na_Filler_packed (lt1000 rfl) fun H5 h5 b5 => ?_
    have n5 : p4 ≠ x := (ne_of_none h3 n4).symm
    refine hq H5 ⟨dx, w, dw, p2, p4, h5, b5 _ _ nx (e4 _ _ (b3 _ _ nx (e2 _ _ h1'))), b5 _ _ np (e4 _ _ (b3 _ _ np q2)), b5 _ _ n5 q4⟩ ?_
    exact Ext.toBut (x1.tr e2) (b3.tr (Ext.toBut e4 b5))
end Nb
def sp_are_names : Sp := fun vs H Q _ => ∃ (p : Addr) (ss : List Str), vs = [.ref p] ∧ H p = some (.tup (ss.map V.str)) ∧ (∀ s ∈ ss, nmS s = true) ∧ ss.Nodup ∧ ss.length ≤ 1000 ∧ ∀ H', Ext H H' → Q (.bl true) H'
theorem ok_are_names (T : Txt w K mg a) : FnOk P w K mg base (CXU P w) 2 a.f_are_names a.d_are_names ["thing"] (sp_are_names) := by
  refine T.F_are_names.okU sc_are_names (fun vs H Q E h => ?_) (fun cdv A outer s H vs Q E hr h => ?_)
  · obtain ⟨p, ss, rfl, hp, hn', hd, hl, hq⟩ := h
    rfl
  · obtain ⟨p, ss, rfl, hp, hn', hd, hl, hq⟩ := h
    refine ⟨_, (pss_cons (ps_if (PW.pt (pw_or (pt_not (ptT (pe_callB cIsin (by rfl) T.n_isinstance PyProof.Rows.boot_isinstance (pa_cons (pv 0) (pa_cons (pe_bltn (v := V.ty "tuple") (by rfl) T.n_tuple PyProof.Rows.boot_tuple rfl) pa_nil))) (fun _ => rfl))) (pw_or1 (pt_not (ptT (pe_callB (cAll rfl) (by rfl) T.n_all PyProof.Rows.boot_all (pa_cons (pe_comp (["name"] : List Str) ([] : List Str) [] rfl ⟨rfl, by decide +kernel, by decide +kernel, by rfl, trivial⟩ (pi_tup (pv 0)) (fun _ _ _ _ => ⟨(pg_name (i := 0) (by show ((["name"] : List Str) ++ ([] : List Str)).Nodup; decide +kernel) rfl (by first | exact Or.inl rfl | exact Or.inr rfl)), (show PTs _ [] [] from trivial), (pe_call (ok_is_name T) (hr.mono (by decide)) (by rfl) T.m_is_name T.F_is_name.kp T.b_is_name .nil passU (pa_cons (pv 0) pa_nil))⟩)) pa_nil)) (fun _ => rfl)))))) (pss_one (ps_ret pe_bl)) pss_nil)
      (pss_one (ps_ret (pe_cmpR (oEq hr) (pe_lenSet rfl (by rfl) T.n_len (by rfl) T.n_set (pa_cons (pv 0) pa_nil)) (pe_callB cLenW (by rfl) T.n_len PySem.boot_len (pa_cons (pv 0) pa_nil)) (nomark _))))), ?_⟩
    repeat walk_at "vs"
    refine r_isT (HasK.t hp) ?_
    repeat walk_at "vs"
    refine ⟨p, rfl, ⟨_, SqT.of hp⟩, fun acc hn _ _ _ _ => comp_mapT V.str V.bl (fun _ => true) (SqT.of hp) (by omega) hn (fun i x H2 Y hx e hY => ?_) fun H2 e ha => ?_⟩
    · have hx' := hn' x (List.mem_of_getElem? hx)
      repeat walk_at "vs"
      refine ⟨.str x, .str, rfl, rfl, fun z ez => by cases ez; exact ⟨nmS_asc hx', by have := nmS_len hx'; omega⟩, fun H3 e3 => ?_⟩
      rw [show nmV (.str x) = true from hx']
      exact hY _ e3
    repeat walk_at "vs"
    refine r_all ha ?_
    have ea : (ss.map fun _ => true).all id = true := by rw [List.all_eq_true]; intro x hx; obtain ⟨_, _, rfl⟩ := List.mem_map.mp hx; rfl
    rw [ea]
    repeat walk_at "vs"
    refine r_lenSet (e _ _ hp) hl ?_
    repeat walk_at "vs"
    refine r_lenWT (e _ _ hp) ?_
    rw [List.length_map, metS_nodup hd]
    repeat walk_at "vs"
    rw [show decide ((ss.length : Int) = (ss.length : Int)) = true from decide_eq_true rfl]
    exact hq H2 e
namespace Nk
def sp_Store_is_state (a : Adr) : Sp := fun vs H Q _ => ∃ (w dw p : Addr) (ss : List Str), vs = [.ref w, .ref p] ∧ H w = some (.ins a.c_Store dw [("many", .int (ss.length : Nat))]) ∧ H p = some (.tup (ss.map V.str)) ∧ Names ss ∧ sortedS ss = true ∧ ∀ H', Ext H H' → Q (.bl true) H'
theorem ok_Store_is_state (T : Txt w K mg a) : FnOk P w K mg base (CXU P w) 3 a.f_Store_is_state a.d_Store_is_state ["self", "thing"] (sp_Store_is_state a) := by
  refine T.F_Store_is_state.okU sc_Store_is_state (fun vs H Q E h => ?_) (fun cdv A outer s H vs Q E hr h => ?_)
  · obtain ⟨w, dw, p, ss, rfl, hw, hp, hN, hso, hq⟩ := h
    rfl
  · obtain ⟨w, dw, p, ss, rfl, hw, hp, hN, hso, hq⟩ := h
    have zc_Line := T.cl_Line
    have zn_Line_many := T.na_Line_many
    have zc_Store := T.cl_Store
    have zn_Store_many := T.na_Store_many
    have zc_Ways := T.cl_Ways
    have zn_Ways_many := T.na_Ways_many
    refine ⟨_, (pss_one (ps_ret (pe_and (pe_call (ok_are_names T) (hr.mono (by decide)) (by rfl) T.m_are_names T.F_are_names.kp T.b_are_names .nil passU (pa_cons (pv 1) pa_nil)) (pe_and (pe_cmpR (oEq hr) (pe_callB cLenW (by rfl) T.n_len PySem.boot_len (pa_cons (pv 1) pa_nil)) (pe_fld (pv 0) rfl) (nomark _)) (pe_one (pe_cmpR (oEq hr) (pe_callTy cList (by rfl) T.n_list PyProof.Rows.boot_list (pa_cons (pv 1) pa_nil)) (pe_callB cSortW (by rfl) T.n_sorted PyProof.Rows.boot_sorted (pa_cons (pv 1) pa_nil)) (nomark _))))))), ?_⟩
    have g8 := hN.hi
    repeat walk_at "vs"
    refine ⟨p, ss, rfl, hp, hN.nm, hN.nd, by omega, fun H1 e1 => ?_⟩
    have hw1 := e1 _ _ hw
    have hp1 := e1 _ _ hp
    repeat walk_at "vs"
    refine r_lenWT hp1 ?_
    rw [List.length_map]
    repeat walk_at "vs"
    refine iteD (fun _ => ?_) (fun q => (q rfl).elim)
    repeat walk_at "vs"
    refine r_listT hp1 fun l2 H2 n2 q2 e2 => ?_
    repeat walk_at "vs"
    refine r_sortWT (e2 _ _ hp1) (by omega) fun l3 s3 H3 n3 p3 o3 q3 e3 => ?_
    have : s3 = ss := sortedS_uniq p3 o3 hso
    subst this
    repeat walk_at "vs"
    refine r_eqD (strs_lrep (e3 _ _ q2)) (strs_lrep q3) (eqOkS hN.nm) (eqOkS hN.nm) (by show D.depthL (s3.map D.str) + 1 ≤ 20; rw [depS]; omega) ?_
    rw [eqD_self hN.nm]
    exact hq H3 ((e1.tr e2).tr e3)
end Nk
namespace Nk
def sp_Rule_init (a : Adr) : Sp := fun vs H Q _ => ∃ (x dx w dw p : Addr) (ss : List Str), vs = [.ref x, .ref w, .ref p] ∧ H x = some (.ins a.c_Keeper dx []) ∧ H w = some (.ins a.c_Store dw [("many", .int (ss.length : Nat))]) ∧ H p = some (.tup (ss.map V.str)) ∧ Names ss ∧ sortedS ss = true ∧ ∀ H', H' x = some (.ins a.c_Keeper dx [("world", .ref w), ("standing", .ref p), ("spent", .int 0)]) → But x H H' → Q .non H'
theorem ok_Rule_init (T : Txt w K mg a) : FnOk P w K mg base (CXU P w) 4 a.f_Rule_init a.d_Rule_init ["self", "world", "start"] (sp_Rule_init a) := by
  refine T.F_Rule_init.okU sc_Rule_init (fun vs H Q E h => ?_) (fun cdv A outer s H vs Q E hr h => ?_)
  · obtain ⟨x, dx, w, dw, p, ss, rfl, hx, hw, hp, hN, hso, hq⟩ := h
    rfl
  · obtain ⟨x, dx, w, dw, p, ss, rfl, hx, hw, hp, hN, hso, hq⟩ := h
    have zc_Both := T.cl_Both
    have zn_Both_world := T.na_Both_world
    have zn_Both_standing := T.na_Both_standing
    have zn_Both_spent := T.na_Both_spent
    have zc_Buyer := T.cl_Buyer
    have zn_Buyer_world := T.na_Buyer_world
    have zn_Buyer_standing := T.na_Buyer_standing
    have zn_Buyer_spent := T.na_Buyer_spent
    have zc_Changer := T.cl_Changer
    have zn_Changer_world := T.na_Changer_world
    have zn_Changer_standing := T.na_Changer_standing
    have zn_Changer_spent := T.na_Changer_spent
    have zc_Filler := T.cl_Filler
    have zn_Filler_world := T.na_Filler_world
    have zn_Filler_standing := T.na_Filler_standing
    have zn_Filler_spent := T.na_Filler_spent
    have zc_Front := T.cl_Front
    have zn_Front_world := T.na_Front_world
    have zn_Front_standing := T.na_Front_standing
    have zn_Front_spent := T.na_Front_spent
    have zc_Keeper := T.cl_Keeper
    have zn_Keeper_world := T.na_Keeper_world
    have zn_Keeper_standing := T.na_Keeper_standing
    have zn_Keeper_spent := T.na_Keeper_spent
    refine ⟨_, (pss_cons (ps_if (pt_not (ptT (pe_meth (pv 1) T.cl_Store T.me_Store_is_state (Nk.ok_Store_is_state T) (hr.mono (by decide)) T.b_Store_is_state .nil passU (pa_cons (pv 2) pa_nil)) (fun _ => rfl))) (pss_one ps_never) pss_nil)
      (pss_cons (ps_fld (pv 0) (pv 1) rfl)
      (pss_cons (ps_fld (pv 0) (pv 2) rfl)
      (pss_one (ps_fld (pv 0) pe_int rfl))))), ?_⟩
    repeat walk_at "vs"
    refine ⟨w, dw, p, ss, rfl, hw, hp, hN, hso, fun H1 e1 => ?_⟩
    repeat walk_at "vs"
    refine r_sat (e1 _ _ hx) T.cl_Keeper T.na_Keeper_world (lt1000 rfl) fun H2 h2 b2 => ?_
    repeat walk_at "vs"
    refine r_sat h2 T.cl_Keeper T.na_Keeper_standing (lt1000 rfl) fun H3 h3 b3 => ?_
    repeat walk_at "vs"
    refine r_sat h3 T.cl_Keeper T.na_Keeper_spent (lt1000 rfl) fun H4 h4 b4 => ?_
    exact hq H4 h4 (Ext.toBut e1 (But.tr (But.tr b2 b3) b4))
end Nk
namespace Nk
def sp_Store_init (a : Adr) : Sp := fun vs H Q _ => ∃ x dx v, vs = [.ref x, v] ∧ H x = some (.ins a.c_Store dx []) ∧ ∀ H', H' x = some (.ins a.c_Store dx [("many", v)]) → But x H H' → Q .non H'
theorem ok_Store_init (T : Txt w K mg a) : FnOk P w K mg base (CXU P w) 1 a.f_Store_init a.d_Store_init ["self", "many"] (sp_Store_init a) := by
  refine T.F_Store_init.okU sc_Store_init (fun vs H Q E h => ?_) (fun cdv A outer s H vs Q E hr h => ?_)
  · obtain ⟨x, dx, v, rfl, hx, hq⟩ := h
    rfl
  · obtain ⟨x, dx, v, rfl, hx, hq⟩ := h
    have zc_Line := T.cl_Line
    have zn_Line_many := T.na_Line_many
    have zc_Store := T.cl_Store
    have zn_Store_many := T.na_Store_many
    have zc_Ways := T.cl_Ways
    have zn_Ways_many := T.na_Ways_many
    refine ⟨_, (pss_one (ps_fld (pv 0) (pv 1) rfl)), ?_⟩
    repeat walk_at "vs"
    refine r_sat hx T.cl_Store T.na_Store_many (lt1000 rfl) fun H' h1 h2 => ?_
    exact hq H' h1 h2
end Nk
def sp_is_row_of_names : Sp := fun vs H Q _ => ∃ (p : Addr) (ss : List Str), vs = [.ref p] ∧ H p = some (.tup (ss.map V.str)) ∧ (∀ s ∈ ss, nmS s = true) ∧ ss.Nodup ∧ 1 ≤ ss.length ∧ ss.length ≤ 8 ∧ ∀ H', Ext H H' → Q (.bl true) H'
theorem ok_is_row_of_names (T : Txt w K mg a) : FnOk P w K mg base (CXU P w) 3 a.f_is_row_of_names a.d_is_row_of_names ["thing"] (sp_is_row_of_names) := by
  refine T.F_is_row_of_names.okU sc_is_row_of_names (fun vs H Q E h => ?_) (fun cdv A outer s H vs Q E hr h => ?_)
  · obtain ⟨p, ss, rfl, hp, hn', hd, l1, l8, hq⟩ := h
    rfl
  · obtain ⟨p, ss, rfl, hp, hn', hd, l1, l8, hq⟩ := h
    refine ⟨_, (pss_one (ps_ret (pe_and (pe_call (ok_are_names T) (hr.mono (by decide)) (by rfl) T.m_are_names T.F_are_names.kp T.b_are_names .nil passU (pa_cons (pv 0) pa_nil)) (pe_one (pe_chain oLeW oLeW pe_int (pe_callB cLenW (by rfl) T.n_len PySem.boot_len (pa_cons (pv 0) pa_nil)) pe_int))))), ?_⟩
    repeat walk_at "vs"
    refine ⟨p, ss, rfl, hp, hn', hd, by omega, fun H1 e1 => ?_⟩
    repeat walk_at "vs"
    refine r_lenWT (e1 _ _ hp) ?_
    rw [List.length_map]
    repeat walk_at "vs"
    refine iteD (fun _ => ?_) (fun q => (q (by omega)).elim)
    repeat walk_at "vs"
    rw [decide_eq_true (show (ss.length : Int) ≤ 8 by omega)]
    exact hq H1 e1
namespace Nk
def sp_Keeper_init (a : Adr) : Sp := fun vs H Q _ => ∃ (x dx p : Addr) (row : List Str), vs = [.ref x, .ref p] ∧ H x = some (.ins a.c_Keeper dx []) ∧ H p = some (.tup (row.map V.str)) ∧ Names row ∧ ∀ H', KeepAt a H' x row 0 → But x H H' → Q .non H'
theorem ok_Keeper_init (T : Txt w K mg a) : FnOk P w K mg base (CXU P w) 6 a.f_Keeper_init a.d_Keeper_init ["self", "pages"] (sp_Keeper_init a) := by
  refine T.F_Keeper_init.okU sc_Keeper_init (fun vs H Q E h => ?_) (fun cdv A outer s H vs Q E hr h => ?_)
  · obtain ⟨x, dx, p, row, rfl, hx, hp, hN, hq⟩ := h
    rfl
  · obtain ⟨x, dx, p, row, rfl, hx, hp, hN, hq⟩ := h
    have zc_Keeper := T.cl_Keeper
    have zn_Keeper_row := T.na_Keeper_row
    refine ⟨_, (pss_cons (ps_if (pt_not (ptT (pe_call (ok_is_row_of_names T) (hr.mono (by decide)) (by rfl) T.m_is_row_of_names T.F_is_row_of_names.kp T.b_is_row_of_names .nil passU (pa_cons (pv 1) pa_nil)) (fun _ => rfl))) (pss_one ps_never) pss_nil)
      (pss_cons (ps_expr (pe_cmeth (C := a.c_Bound) (pe_glob (v := V.ref a.c_Bound) (by rfl) T.m_Bound rfl) T.cm_Bound_init (Nk.ok_Rule_init T) (hr.mono (by decide)) T.b_Rule_init .nil passU (pa_cons (pv 0) (pa_cons (pe_make T.mk_Store (Nk.ok_Store_init T) (hr.mono (by decide)) (by rfl) T.m_Store T.b_Store_init .nil passU (pa_cons (pe_callB cLenW (by rfl) T.n_len PySem.boot_len (pa_cons (pv 1) pa_nil)) pa_nil)) (pa_cons (pe_callTy cTuple (by rfl) T.n_tuple PyProof.Rows.boot_tuple (pa_cons (pe_callB cSortW (by rfl) T.n_sorted PyProof.Rows.boot_sorted (pa_cons (pv 1) pa_nil)) pa_nil)) pa_nil)))))
      (pss_one (ps_fld (pv 0) (pe_callTy cList (by rfl) T.n_list PyProof.Rows.boot_list (pa_cons (pv 1) pa_nil)) rfl)))), ?_⟩
    have g8 := hN.hi
    repeat walk_at "vs"
    refine ⟨p, row, rfl, hp, hN.nm, hN.nd, hN.lo, hN.hi, fun H1 e1 => ?_⟩
    have hx1 := e1 _ _ hx
    have hp1 := e1 _ _ hp
    repeat walk_at "vs"
    refine r_lenWT hp1 ?_
    rw [List.length_map]
    repeat walk_at "vs"
    intro w dw k1 k2 k3
    have nx : w ≠ x := (ne_of_none hx1 k1).symm
    refine ⟨w, dw, _, rfl, upd_same, fun H2 h2 b2 => ⟨rfl, ?_⟩⟩
    have x2 : Ext H1 H2 := fun b o hb => b2 b o (ne_of_none hb k1) (by rw [upd_ne (ne_of_none hb k1), upd_ne (ne_of_none hb k2)]; exact hb)
    have hp2 := x2 _ _ hp1
    repeat walk_at "vs"
    refine r_sortWT hp2 (by omega) fun l3 s3 H3 n3 p3 o3 q3 e3 => ?_
    repeat walk_at "vs"
    refine r_tupleL q3 fun t4 H4 n4 q4 e4 => ?_
    have e34 := e3.tr e4
    have hx4 := e34 _ _ (x2 _ _ hx1)
    have hw4 := e34 _ _ h2
    have hp4 := e34 _ _ hp2
    repeat walk_at "vs"
    refine ⟨x, dx, w, dw, t4, s3, rfl, hx4, by rw [p3.length_eq]; exact hw4, q4, hN.perm p3, o3, fun H5 h5 b5 => ?_⟩
    have np : p ≠ x := ne_of hp hx (by intro z; cases z)
    have hp5 := b5 _ _ np hp4
    repeat walk_at "vs"
    refine r_listT hp5 fun l6 H6 n6 q6 e6 => ?_
    repeat walk_at "vs"
    refine r_sat (e6 _ _ h5) T.cl_Keeper T.na_Keeper_row (lt1000 rfl) fun H7 h7 b7 => ?_
    have nt : t4 ≠ x := ne_of q4 hx4 (by intro z; cases z)
    have nl : l6 ≠ x := (ne_of_none h5 n6).symm
    exact hq H7 ⟨dx, w, dw, t4, l6, s3, h7, b7 _ _ nx (e6 _ _ (b5 _ _ nx hw4)), b7 _ _ nt (e6 _ _ (b5 _ _ nt q4)), b7 _ _ nl q6, p3, o3⟩ (Ext.toBut (e1.tr (x2.tr e34)) (b5.tr (Ext.toBut e6 b7)))
end Nk
namespace Nw
def sp_Ways_is_state (a : Adr) : Sp := fun vs H Q _ => ∃ (w dw : Addr) (n h t : Int), vs = [.ref w, .int h] ∧ H w = some (.ins a.c_Ways dw [("many", .int n), ("toll", .int t)]) ∧ 0 ≤ h ∧ h < n ∧ Q (.bl true) H
theorem ok_Ways_is_state (T : Txt w K mg a) : FnOk P w K mg base (CXU P w) 2 a.f_Ways_is_state a.d_Ways_is_state ["self", "thing"] (sp_Ways_is_state a) := by
  refine T.F_Ways_is_state.okU sc_Ways_is_state (fun vs H Q E h => ?_) (fun cdv A outer s H vs Q E hr h => ?_)
  · obtain ⟨w, dw, n, h, t, rfl, hw, h0, h1, hq⟩ := h
    rfl
  · obtain ⟨w, dw, n, h, t, rfl, hw, h0, h1, hq⟩ := h
    have zc_Line := T.cl_Line
    have zn_Line_many := T.na_Line_many
    have zc_Store := T.cl_Store
    have zn_Store_many := T.na_Store_many
    have zc_Ways := T.cl_Ways
    have zn_Ways_many := T.na_Ways_many
    refine ⟨_, (pss_one (ps_ret (pe_and (pe_call (ok_is_whole_number T) (hr.mono (by decide)) (by rfl) T.m_is_whole_number T.F_is_whole_number.kp T.b_is_whole_number .nil passU (pa_cons (pv 1) pa_nil)) (pe_one (pe_chain oLeW op_lt pe_int (pv 1) (pe_fld (pv 0) rfl)))))), ?_⟩
    repeat walk_at "vs"
    refine ⟨.int h, .int, rfl, rfl, ?_⟩
    repeat walk_at "vs"
    rw [decide_eq_true h0]
    repeat walk_at "vs"
    rw [decide_eq_true h1]
    exact hq
end Nw
namespace Nw
def sp_Rule_init (a : Adr) : Sp := fun vs H Q _ => ∃ (x dx w dw : Addr) (n h t : Int), vs = [.ref x, .ref w, .int h] ∧ H x = some (.ins a.c_Changer dx []) ∧ H w = some (.ins a.c_Ways dw [("many", .int n), ("toll", .int t)]) ∧ 0 ≤ h ∧ h < n ∧ ∀ H', H' x = some (.ins a.c_Changer dx [("world", .ref w), ("standing", .int h), ("spent", .int 0)]) → But x H H' → Q .non H'
theorem ok_Rule_init (T : Txt w K mg a) : FnOk P w K mg base (CXU P w) 3 a.f_Rule_init a.d_Rule_init ["self", "world", "start"] (sp_Rule_init a) := by
  refine T.F_Rule_init.okU sc_Rule_init (fun vs H Q E h => ?_) (fun cdv A outer s H vs Q E hr h => ?_)
  · obtain ⟨x, dx, w, dw, n, h, t, rfl, hx, hw, h0, h1, hq⟩ := h
    rfl
  · obtain ⟨x, dx, w, dw, n, h, t, rfl, hx, hw, h0, h1, hq⟩ := h
    have zc_Both := T.cl_Both
    have zn_Both_world := T.na_Both_world
    have zn_Both_standing := T.na_Both_standing
    have zn_Both_spent := T.na_Both_spent
    have zc_Buyer := T.cl_Buyer
    have zn_Buyer_world := T.na_Buyer_world
    have zn_Buyer_standing := T.na_Buyer_standing
    have zn_Buyer_spent := T.na_Buyer_spent
    have zc_Changer := T.cl_Changer
    have zn_Changer_world := T.na_Changer_world
    have zn_Changer_standing := T.na_Changer_standing
    have zn_Changer_spent := T.na_Changer_spent
    have zc_Filler := T.cl_Filler
    have zn_Filler_world := T.na_Filler_world
    have zn_Filler_standing := T.na_Filler_standing
    have zn_Filler_spent := T.na_Filler_spent
    have zc_Front := T.cl_Front
    have zn_Front_world := T.na_Front_world
    have zn_Front_standing := T.na_Front_standing
    have zn_Front_spent := T.na_Front_spent
    have zc_Keeper := T.cl_Keeper
    have zn_Keeper_world := T.na_Keeper_world
    have zn_Keeper_standing := T.na_Keeper_standing
    have zn_Keeper_spent := T.na_Keeper_spent
    refine ⟨_, (pss_cons (ps_if (pt_not (ptT (pe_meth (pv 1) T.cl_Ways T.me_Ways_is_state (Nw.ok_Ways_is_state T) (hr.mono (by decide)) T.b_Ways_is_state .nil passU (pa_cons (pv 2) pa_nil)) (fun _ => rfl))) (pss_one ps_never) pss_nil)
      (pss_cons (ps_fld (pv 0) (pv 1) rfl)
      (pss_cons (ps_fld (pv 0) (pv 2) rfl)
      (pss_one (ps_fld (pv 0) pe_int rfl))))), ?_⟩
    repeat walk_at "vs"
    refine ⟨w, dw, n, h, t, rfl, hw, h0, h1, ?_⟩
    repeat walk_at "vs"
    refine r_sat hx T.cl_Changer T.na_Changer_world (lt1000 rfl) fun H2 h2 b2 => ?_
    repeat walk_at "vs"
    refine r_sat h2 T.cl_Changer T.na_Changer_standing (lt1000 rfl) fun H3 h3 b3 => ?_
    repeat walk_at "vs"
    refine r_sat h3 T.cl_Changer T.na_Changer_spent (lt1000 rfl) fun H4 h4 b4 => ?_
    exact hq H4 h4 (But.tr (But.tr b2 b3) b4)
end Nw
namespace Nw
def sp_Ways_init (a : Adr) : Sp := fun vs H Q _ => ∃ x dx v u, vs = [.ref x, v, u] ∧ H x = some (.ins a.c_Ways dx []) ∧ ∀ H', H' x = some (.ins a.c_Ways dx [("many", v), ("toll", u)]) → But x H H' → Q .non H'
theorem ok_Ways_init (T : Txt w K mg a) : FnOk P w K mg base (CXU P w) 1 a.f_Ways_init a.d_Ways_init ["self", "many", "toll"] (sp_Ways_init a) := by
  refine T.F_Ways_init.okU sc_Ways_init (fun vs H Q E h => ?_) (fun cdv A outer s H vs Q E hr h => ?_)
  · obtain ⟨x, dx, v, u, rfl, hx, hq⟩ := h
    rfl
  · obtain ⟨x, dx, v, u, rfl, hx, hq⟩ := h
    have zc_Line := T.cl_Line
    have zn_Line_many := T.na_Line_many
    have zc_Store := T.cl_Store
    have zn_Store_many := T.na_Store_many
    have zc_Ways := T.cl_Ways
    have zn_Ways_many := T.na_Ways_many
    have zn_Ways_toll := T.na_Ways_toll
    refine ⟨_, (pss_cons (ps_fld (pv 0) (pv 1) rfl)
      (pss_one (ps_fld (pv 0) (pv 2) rfl))), ?_⟩
    repeat walk_at "vs"
    refine r_sat hx T.cl_Ways T.na_Ways_many (lt1000 rfl) fun H1 h1 b1 => ?_
    repeat walk_at "vs"
    refine r_sat h1 T.cl_Ways T.na_Ways_toll (lt1000 rfl) fun H2 h2 b2 => ?_
    exact hq H2 h2 (b1.tr b2)
end Nw
namespace Nw
def sp_Changer_init (a : Adr) : Sp := fun vs H Q _ => ∃ (x dx : Addr) (n h t : Int), vs = [.ref x, .int n, .int t, .int h] ∧ H x = some (.ins a.c_Changer dx []) ∧ 1 ≤ n ∧ n ≤ 8 ∧ 0 ≤ h ∧ h < n ∧ 0 ≤ t ∧ t ≤ 1000000000000000000 ∧ ∀ H', WaysAt a H' x (fstW n.toNat t h) h t 0 → But x H H' → Q .non H'
theorem ok_Changer_init (T : Txt w K mg a) : FnOk P w K mg base (CXU P w) 5 a.f_Changer_init a.d_Changer_init ["self", "many", "toll", "start"] (sp_Changer_init a) := by
  refine T.F_Changer_init.okU sc_Changer_init (fun vs H Q E h => ?_) (fun cdv A outer s H vs Q E hr h => ?_)
  · obtain ⟨x, dx, n, h, t, rfl, hx, n1, n8, h0, h1, t0, t1, hq⟩ := h
    rfl
  · obtain ⟨x, dx, n, h, t, rfl, hx, n1, n8, h0, h1, t0, t1, hq⟩ := h
    have zc_Changer := T.cl_Changer
    have zn_Changer_reckoned := T.na_Changer_reckoned
    refine ⟨_, (pss_cons (ps_if (PW.pt (pw_or (pt_not (ptT (pe_call (ok_is_from_one_to T) (hr.mono (by decide)) (by rfl) T.m_is_from_one_to T.F_is_from_one_to.kp T.b_is_from_one_to .nil passU (pa_cons (pv 1) (pa_cons pe_int pa_nil))) (fun _ => rfl))) (pw_or1 (pt_not (ptT (pe_call (ok_is_amount T) (hr.mono (by decide)) (by rfl) T.m_is_amount T.F_is_amount.kp T.b_is_amount .nil passU (pa_cons (pv 2) pa_nil)) (fun _ => rfl)))))) (pss_one ps_never) pss_nil)
      (pss_cons (ps_expr (pe_cmeth (C := a.c_Bound) (pe_glob (v := V.ref a.c_Bound) (by rfl) T.m_Bound rfl) T.cm_Bound_init (Nw.ok_Rule_init T) (hr.mono (by decide)) T.b_Rule_init .nil passU (pa_cons (pv 0) (pa_cons (pe_make T.mk_Ways (Nw.ok_Ways_init T) (hr.mono (by decide)) (by rfl) T.m_Ways T.b_Ways_init .nil passU (pa_cons (pv 1) (pa_cons (pv 2) pa_nil))) (pa_cons (pv 3) pa_nil)))))
      (pss_one (ps_fld (pv 0) (pe_comp (["way"] : List Str) (["start", "toll"] : List Str) [3, 2] rfl ⟨rfl, by decide +kernel, by decide +kernel, by rfl, ⟨⟨rfl, by first | exact Or.inl rfl | exact Or.inr rfl, by first | exact Or.inl rfl | exact Or.inr rfl⟩, ⟨rfl, by first | exact Or.inl rfl | exact Or.inr rfl, by first | exact Or.inl rfl | exact Or.inr rfl⟩, trivial⟩⟩ (pi_range1 rfl T.n_range (pa_cons (pv 1) pa_nil)) (fun _ _ _ _ => ⟨(pg_name (i := 0) (by show ((["way"] : List Str) ++ (["start", "toll"] : List Str)).Nodup; decide +kernel) rfl (by first | exact Or.inl rfl | exact Or.inr rfl)), (show PTs _ [] [] from trivial), (pe_ifExp (pt_cmpR (oEq hr) (pv 0) (pv 1) (nomark _)) pe_int (pv 2))⟩)) rfl)))), ?_⟩
    repeat walk_at "vs"
    refine ⟨.int n, .int, 8, rfl, rfl, ?_⟩
    rw [show fot 8 (.int n) = true by show (decide (1 ≤ n) && decide (n ≤ 8)) = true; rw [decide_eq_true n1, decide_eq_true n8]; rfl]
    repeat walk_at "vs"
    refine ⟨.int t, .int, rfl, rfl, ?_⟩
    rw [show amt (.int t) = true by show (decide (0 ≤ t) && decide (t ≤ 1000000000000000000)) = true; rw [decide_eq_true t0, decide_eq_true t1]; rfl]
    repeat walk_at "vs"
    intro w dw k1 k2 k3
    have nx : w ≠ x := (ne_of_none hx k1).symm
    have nx2 : dw ≠ x := (ne_of_none hx k2).symm
    refine ⟨w, dw, .int n, .int t, rfl, upd_same, fun H1 h1' b1 => ⟨rfl, ?_⟩⟩
    have x1 : Ext H H1 := fun b o hb => b1 b o (ne_of_none hb k1) (by rw [upd_ne (ne_of_none hb k1), upd_ne (ne_of_none hb k2)]; exact hb)
    repeat walk_at "vs"
    refine ⟨x, dx, w, dw, n, h, t, rfl, x1 _ _ hx, h1', h0, h1, fun H2 h2 b2 => ?_⟩
    repeat walk_at "vs"
    refine ⟨_, rfl, by omega, by omega, fun acc hn _ _ _ _ => comp_mapR V.int (fun (i : Nat) => if (i : Int) = h then (0 : Int) else t) (by omega) hn (fun i H3 Y hi e hY => ?_) fun H3 e3 ha => ?_⟩
    · repeat walk_at "vs"
      refine iteD (fun c => ?_) (fun c => ?_)
      · rw [if_pos c] at hY
        repeat walk_at "vs"
        exact hY _ Ext.rfl'
      · rw [if_neg c] at hY
        repeat walk_at "vs"
        exact hY _ Ext.rfl'
    · have h23 := e3 _ _ h2
      repeat walk_at "vs"
      refine r_sat h23 T.cl_Changer T.na_Changer_reckoned (lt1000 rfl) fun H4 h4 b4 => ?_
      have nw : acc ≠ x := (ne_of_none h2 hn).symm
      refine hq H4 ⟨dx, w, dw, acc, h4, ?_, b4 _ _ nw ha⟩ (Ext.toBut x1 (b2.tr (Ext.toBut e3 b4)))
      rw [fst_len, show ((n.toNat : Nat) : Int) = n by omega]
      exact b4 _ _ nx (e3 _ _ (b2 _ _ nx h1'))
end Nw
namespace Nh
def st01 : V → Bool
  | .int i => decide (0 ≤ i) && decide (i ≤ 1)
  | _ => false
def sp_Hire_is_state : Sp := fun vs H Q _ => ∃ r x k, vs = [.ref r, x] ∧ HasK H x k ∧ Q (.bl (st01 x)) H
theorem ok_Hire_is_state (T : Txt w K mg a) : FnOk P w K mg base (CXU P w) 2 a.f_Hire_is_state a.d_Hire_is_state ["self", "thing"] (sp_Hire_is_state) := by
  refine T.F_Hire_is_state.okU sc_Hire_is_state (fun vs H Q E h => ?_) (fun cdv A outer s H vs Q E hr h => ?_)
  · obtain ⟨r, x, k, rfl, hk, hq⟩ := h
    rfl
  · obtain ⟨r, x, k, rfl, hk, hq⟩ := h
    refine ⟨_, (pss_one (ps_ret (pe_and (pe_call (ok_is_whole_number T) (hr.mono (by decide)) (by rfl) T.m_is_whole_number T.F_is_whole_number.kp T.b_is_whole_number .nil passU (pa_cons (pv 1) pa_nil)) (pe_one (pe_chain oLeW oLeW pe_int (pv 1) pe_int))))), ?_⟩
    repeat walk_at "vs"
    refine ⟨x, k, rfl, hk, ?_⟩
    cases x with
    | int i =>
      cases (show k = .int from hk)
      repeat walk_at "vs"
      refine iteD (fun h => ?_) (fun h => ?_)
      · repeat walk_at "vs"
        have e : st01 (.int i) = decide (i ≤ 1) := by show (decide (0 ≤ i) && _) = _; rw [decide_eq_true h, Bool.true_and]
        rw [← e]; exact hq
      · repeat walk_at "vs"
        have e : st01 (.int i) = false := by show (decide (0 ≤ i) && _) = _; rw [decide_eq_false h, Bool.false_and]
        rw [← e]; exact hq
    | non => cases (show k = .non from hk); (repeat walk_at "vs"); exact hq
    | bl b => cases (show k = .bl from hk); (repeat walk_at "vs"); exact hq
    | str b => cases (show k = .str from hk); (repeat walk_at "vs"); exact hq
    | ref b =>
      have e : (k == .int) = false := by rcases hk with ⟨_, _, rfl⟩ | ⟨_, _, rfl⟩ | ⟨_, _, rfl⟩ <;> rfl
      rw [e]; (repeat walk_at "vs"); exact hq
    | _ => exact hk.elim
end Nh
namespace Nh
def sp_Rule_init (a : Adr) : Sp := fun vs H Q _ => ∃ x dx wo dw W, vs = [.ref x, .ref wo, .int 0] ∧ H x = some (.ins a.c_Buyer dx []) ∧ H wo = some (.ins a.c_Hire dw (hfl W)) ∧ ∀ H', H' x = some (.ins a.c_Buyer dx (bfl wo 0 0)) → But x H H' → Q .non H'
theorem ok_Rule_init (T : Txt w K mg a) : FnOk P w K mg base (CXU P w) 3 a.f_Rule_init a.d_Rule_init ["self", "world", "start"] (sp_Rule_init a) := by
  refine T.F_Rule_init.okU sc_Rule_init (fun vs H Q E h => ?_) (fun cdv A outer s H vs Q E hr h => ?_)
  · obtain ⟨x, dx, wo, dw, W, rfl, hx, hw, hq⟩ := h
    rfl
  · obtain ⟨x, dx, wo, dw, W, rfl, hx, hw, hq⟩ := h
    have zc_Both := T.cl_Both
    have zn_Both_world := T.na_Both_world
    have zn_Both_standing := T.na_Both_standing
    have zn_Both_spent := T.na_Both_spent
    have zc_Buyer := T.cl_Buyer
    have zn_Buyer_world := T.na_Buyer_world
    have zn_Buyer_standing := T.na_Buyer_standing
    have zn_Buyer_spent := T.na_Buyer_spent
    have zc_Changer := T.cl_Changer
    have zn_Changer_world := T.na_Changer_world
    have zn_Changer_standing := T.na_Changer_standing
    have zn_Changer_spent := T.na_Changer_spent
    have zc_Filler := T.cl_Filler
    have zn_Filler_world := T.na_Filler_world
    have zn_Filler_standing := T.na_Filler_standing
    have zn_Filler_spent := T.na_Filler_spent
    have zc_Front := T.cl_Front
    have zn_Front_world := T.na_Front_world
    have zn_Front_standing := T.na_Front_standing
    have zn_Front_spent := T.na_Front_spent
    have zc_Keeper := T.cl_Keeper
    have zn_Keeper_world := T.na_Keeper_world
    have zn_Keeper_standing := T.na_Keeper_standing
    have zn_Keeper_spent := T.na_Keeper_spent
    refine ⟨_, (pss_cons (ps_if (pt_not (ptT (pe_meth (pv 1) T.cl_Hire T.me_Hire_is_state (Nh.ok_Hire_is_state T) (hr.mono (by decide)) T.b_Hire_is_state .nil passU (pa_cons (pv 2) pa_nil)) (fun _ => rfl))) (pss_one ps_never) pss_nil)
      (pss_cons (ps_fld (pv 0) (pv 1) rfl)
      (pss_cons (ps_fld (pv 0) (pv 2) rfl)
      (pss_one (ps_fld (pv 0) pe_int rfl))))), ?_⟩
    repeat walk_at "vs"
    refine ⟨wo, .int 0, .int, rfl, rfl, ?_⟩
    repeat walk_at "vs"
    refine r_sat hx T.cl_Buyer T.na_Buyer_world (lt1000 rfl) fun H1 h1 b1 => ?_
    repeat walk_at "vs"
    refine r_sat h1 T.cl_Buyer T.na_Buyer_standing (lt1000 rfl) fun H2 h2 b2 => ?_
    repeat walk_at "vs"
    refine r_sat h2 T.cl_Buyer T.na_Buyer_spent (lt1000 rfl) fun H3 h3 b3 => ?_
    exact hq H3 h3 (But.tr (But.tr b1 b2) b3)
end Nh
namespace Nh
def sp_Hire_init (a : Adr) : Sp := fun vs H Q _ => ∃ x dx v, vs = [.ref x, v] ∧ H x = some (.ins a.c_Hire dx []) ∧ ∀ H', H' x = some (.ins a.c_Hire dx [("whole", v)]) → But x H H' → Q .non H'
theorem ok_Hire_init (T : Txt w K mg a) : FnOk P w K mg base (CXU P w) 1 a.f_Hire_init a.d_Hire_init ["self", "whole"] (sp_Hire_init a) := by
  refine T.F_Hire_init.okU sc_Hire_init (fun vs H Q E h => ?_) (fun cdv A outer s H vs Q E hr h => ?_)
  · obtain ⟨x, dx, v, rfl, hx, hq⟩ := h
    rfl
  · obtain ⟨x, dx, v, rfl, hx, hq⟩ := h
    have zc_Hire := T.cl_Hire
    have zn_Hire_whole := T.na_Hire_whole
    refine ⟨_, (pss_one (ps_fld (pv 0) (pv 1) rfl)), ?_⟩
    repeat walk_at "vs"
    refine r_sat hx T.cl_Hire T.na_Hire_whole (lt1000 rfl) fun H' h1 h2 => ?_
    exact hq H' h1 h2
end Nh
namespace Nh
def sp_Buyer_init (a : Adr) : Sp := fun vs H Q _ => ∃ x dx W, vs = [.ref x, .int W] ∧ H x = some (.ins a.c_Buyer dx []) ∧ 1 ≤ W ∧ W ≤ 1000000000000000000 ∧
  ∀ wo dw H', H wo = none → wo ≠ x → H' x = some (.ins a.c_Buyer dx (bfl wo 0 0)) → H' wo = some (.ins a.c_Hire dw (hfl W)) → But x H H' → Q .non H'
theorem ok_Buyer_init (T : Txt w K mg a) : FnOk P w K mg base (CXU P w) 5 a.f_Buyer_init a.d_Buyer_init ["self", "whole"] (sp_Buyer_init a) := by
  refine T.F_Buyer_init.okU sc_Buyer_init (fun vs H Q E h => ?_) (fun cdv A outer s H vs Q E hr h => ?_)
  · obtain ⟨x, dx, W, rfl, hx, h0, h1, hq⟩ := h
    rfl
  · obtain ⟨x, dx, W, rfl, hx, h0, h1, hq⟩ := h
    refine ⟨_, (pss_cons (ps_if (PW.pt (pw_or (pt_not (ptT (pe_call (ok_is_amount T) (hr.mono (by decide)) (by rfl) T.m_is_amount T.F_is_amount.kp T.b_is_amount .nil passU (pa_cons (pv 1) pa_nil)) (fun _ => rfl))) (pw_or1 (pt_cmpR (oEq hr) (pv 1) pe_int (nomark _))))) (pss_one ps_never) pss_nil)
      (pss_one (ps_expr (pe_cmeth (C := a.c_Bound) (pe_glob (v := V.ref a.c_Bound) (by rfl) T.m_Bound rfl) T.cm_Bound_init (Nh.ok_Rule_init T) (hr.mono (by decide)) T.b_Rule_init .nil passU (pa_cons (pv 0) (pa_cons (pe_make T.mk_Hire (Nh.ok_Hire_init T) (hr.mono (by decide)) (by rfl) T.m_Hire T.b_Hire_init .nil passU (pa_cons (pv 1) pa_nil)) (pa_cons pe_int pa_nil))))))), ?_⟩
    repeat walk_at "vs"
    refine ⟨.int W, .int, rfl, rfl, ?_⟩
    have e : amt (.int W) = true := by show (decide (0 ≤ W) && decide _) = true; rw [decide_eq_true (by omega), decide_eq_true (by omega)]; rfl
    rw [e]
    repeat walk_at "vs"
    refine iteD (fun h => by omega) (fun _ => ?_)
    repeat walk_at "vs"
    intro wo dw n1 n2 n3
    refine ⟨wo, dw, .int W, rfl, upd_same, fun H1 h1' b1 => ⟨rfl, ?_⟩⟩
    repeat walk_at "vs"
    have nx : x ≠ wo := ne_of_none hx n1
    have nd : x ≠ dw := ne_of_none hx n2
    have x1 : H1 x = some (.ins a.c_Buyer dx []) := b1 x _ nx (by rw [upd_ne nx, upd_ne nd]; exact hx)
    refine ⟨x, dx, wo, dw, W, rfl, x1, h1', fun H2 h2 b2 => ?_⟩
    exact hq wo dw H2 n1 nx.symm h2 (b2 wo _ nx.symm h1') fun b o hb hbo => b2 b o hb (b1 b o (ne_of_none hbo n1) (by rw [upd_ne (ne_of_none hbo n1), upd_ne (ne_of_none hbo n2)]; exact hbo))
end Nh
namespace Ns
def sp_Shelf_is_state (a : Adr) : Sp := fun vs H Q _ => ∃ (w dw tp p : Addr) (ss ts : List Str), vs = [.ref w, .ref p] ∧ H w = some (.ins a.c_Shelf dw [("things", .ref tp)]) ∧ H tp = some (.tup (ts.map V.str)) ∧ H p = some (.tup (ss.map V.str)) ∧ Names ss ∧ ts.Perm ss ∧ ∀ H', Ext H H' → Q (.bl true) H'
theorem ok_Shelf_is_state (T : Txt w K mg a) : FnOk P w K mg base (CXU P w) 3 a.f_Shelf_is_state a.d_Shelf_is_state ["self", "thing"] (sp_Shelf_is_state a) := by
  refine T.F_Shelf_is_state.okU sc_Shelf_is_state (fun vs H Q E h => ?_) (fun cdv A outer s H vs Q E hr h => ?_)
  · obtain ⟨w, dw, tp, p, ss, ts, rfl, hw, ht, hp, hN, hpm, hq⟩ := h
    rfl
  · obtain ⟨w, dw, tp, p, ss, ts, rfl, hw, ht, hp, hN, hpm, hq⟩ := h
    have zc_Shelf := T.cl_Shelf
    have zn_Shelf_things := T.na_Shelf_things
    refine ⟨_, (pss_one (ps_ret (pe_and (pe_call (ok_are_names T) (hr.mono (by decide)) (by rfl) T.m_are_names T.F_are_names.kp T.b_are_names .nil passU (pa_cons (pv 1) pa_nil)) (pe_one (pe_cmpR (oEq hr) (pe_callB cSortW (by rfl) T.n_sorted PyProof.Rows.boot_sorted (pa_cons (pv 1) pa_nil)) (pe_callB cSortW (by rfl) T.n_sorted PyProof.Rows.boot_sorted (pa_cons (pe_fld (pv 0) rfl) pa_nil)) (nomark _)))))), ?_⟩
    have g8 := hN.hi
    have gl := hpm.length_eq
    repeat walk_at "vs"
    refine ⟨p, ss, rfl, hp, hN.nm, hN.nd, by omega, fun H1 e1 => ?_⟩
    have hw1 := e1 _ _ hw
    repeat walk_at "vs"
    refine r_sortWT (e1 _ _ hp) (by omega) fun l2 s2 H2 n2 p2 o2 q2 e2 => ?_
    have hw2 := e2 _ _ hw1
    repeat walk_at "vs"
    refine r_sortWT (e2 _ _ (e1 _ _ ht)) (by omega) fun l3 s3 H3 n3 p3 o3 q3 e3 => ?_
    have : s3 = s2 := sortedS_uniq ((p3.trans hpm).trans p2.symm) o3 o2
    subst this
    repeat walk_at "vs"
    have nm3 : ∀ s ∈ s3, nmS s = true := fun s hs => hN.nm s (hpm.mem_iff.mp (p3.mem_iff.mp hs))
    refine r_eqD (strs_lrep (e3 _ _ q2)) (strs_lrep q3) (eqOkS nm3) (eqOkS nm3) (by show D.depthL (s3.map D.str) + 1 ≤ 20; rw [depS]; omega) ?_
    rw [eqD_self nm3]
    exact hq H3 ((e1.tr e2).tr e3)
end Ns
namespace Ns
def sp_Rule_init (a : Adr) : Sp := fun vs H Q _ => ∃ (x dx w dw tp p : Addr) (ss : List Str), vs = [.ref x, .ref w, .ref p] ∧ H x = some (.ins a.c_Front dx []) ∧ H w = some (.ins a.c_Shelf dw [("things", .ref tp)]) ∧ H tp = some (.tup (ss.map V.str)) ∧ H p = some (.tup (ss.map V.str)) ∧ Names ss ∧ ∀ H', H' x = some (.ins a.c_Front dx (sfl w p 0)) → But x H H' → Q .non H'
theorem ok_Rule_init (T : Txt w K mg a) : FnOk P w K mg base (CXU P w) 4 a.f_Rule_init a.d_Rule_init ["self", "world", "start"] (sp_Rule_init a) := by
  refine T.F_Rule_init.okU sc_Rule_init (fun vs H Q E h => ?_) (fun cdv A outer s H vs Q E hr h => ?_)
  · obtain ⟨x, dx, w, dw, tp, p, ss, rfl, hx, hw, ht, hp, hN, hq⟩ := h
    rfl
  · obtain ⟨x, dx, w, dw, tp, p, ss, rfl, hx, hw, ht, hp, hN, hq⟩ := h
    have zc_Both := T.cl_Both
    have zn_Both_world := T.na_Both_world
    have zn_Both_standing := T.na_Both_standing
    have zn_Both_spent := T.na_Both_spent
    have zc_Buyer := T.cl_Buyer
    have zn_Buyer_world := T.na_Buyer_world
    have zn_Buyer_standing := T.na_Buyer_standing
    have zn_Buyer_spent := T.na_Buyer_spent
    have zc_Changer := T.cl_Changer
    have zn_Changer_world := T.na_Changer_world
    have zn_Changer_standing := T.na_Changer_standing
    have zn_Changer_spent := T.na_Changer_spent
    have zc_Filler := T.cl_Filler
    have zn_Filler_world := T.na_Filler_world
    have zn_Filler_standing := T.na_Filler_standing
    have zn_Filler_spent := T.na_Filler_spent
    have zc_Front := T.cl_Front
    have zn_Front_world := T.na_Front_world
    have zn_Front_standing := T.na_Front_standing
    have zn_Front_spent := T.na_Front_spent
    have zc_Keeper := T.cl_Keeper
    have zn_Keeper_world := T.na_Keeper_world
    have zn_Keeper_standing := T.na_Keeper_standing
    have zn_Keeper_spent := T.na_Keeper_spent
    refine ⟨_, (pss_cons (ps_if (pt_not (ptT (pe_meth (pv 1) T.cl_Shelf T.me_Shelf_is_state (Ns.ok_Shelf_is_state T) (hr.mono (by decide)) T.b_Shelf_is_state .nil passU (pa_cons (pv 2) pa_nil)) (fun _ => rfl))) (pss_one ps_never) pss_nil)
      (pss_cons (ps_fld (pv 0) (pv 1) rfl)
      (pss_cons (ps_fld (pv 0) (pv 2) rfl)
      (pss_one (ps_fld (pv 0) pe_int rfl))))), ?_⟩
    repeat walk_at "vs"
    refine ⟨w, dw, tp, p, ss, ss, rfl, hw, ht, hp, hN, .refl _, fun H1 e1 => ?_⟩
    repeat walk_at "vs"
    refine r_sat (e1 _ _ hx) T.cl_Front T.na_Front_world (lt1000 rfl) fun H2 h2 b2 => ?_
    repeat walk_at "vs"
    refine r_sat h2 T.cl_Front T.na_Front_standing (lt1000 rfl) fun H3 h3 b3 => ?_
    repeat walk_at "vs"
    refine r_sat h3 T.cl_Front T.na_Front_spent (lt1000 rfl) fun H4 h4 b4 => ?_
    exact hq H4 h4 (Ext.toBut e1 (But.tr (But.tr b2 b3) b4))
end Ns
namespace Ns
def sp_Shelf_init (a : Adr) : Sp := fun vs H Q _ => ∃ x dx v, vs = [.ref x, v] ∧ H x = some (.ins a.c_Shelf dx []) ∧ ∀ H', H' x = some (.ins a.c_Shelf dx [("things", v)]) → But x H H' → Q .non H'
theorem ok_Shelf_init (T : Txt w K mg a) : FnOk P w K mg base (CXU P w) 1 a.f_Shelf_init a.d_Shelf_init ["self", "things"] (sp_Shelf_init a) := by
  refine T.F_Shelf_init.okU sc_Shelf_init (fun vs H Q E h => ?_) (fun cdv A outer s H vs Q E hr h => ?_)
  · obtain ⟨x, dx, v, rfl, hx, hq⟩ := h
    rfl
  · obtain ⟨x, dx, v, rfl, hx, hq⟩ := h
    have zc_Shelf := T.cl_Shelf
    have zn_Shelf_things := T.na_Shelf_things
    refine ⟨_, (pss_one (ps_fld (pv 0) (pv 1) rfl)), ?_⟩
    repeat walk_at "vs"
    refine r_sat hx T.cl_Shelf T.na_Shelf_things (lt1000 rfl) fun H' h1 h2 => ?_
    exact hq H' h1 h2
end Ns
namespace Ns
def sp_Front_init (a : Adr) : Sp := fun vs H Q _ => ∃ (x dx p : Addr) (ss : List Str), vs = [.ref x, .ref p] ∧ H x = some (.ins a.c_Front dx []) ∧ H p = some (.tup (ss.map V.str)) ∧ Names ss ∧ ∀ H', ShelfAt a H' x ss ss 0 → But x H H' → Q .non H'
theorem ok_Front_init (T : Txt w K mg a) : FnOk P w K mg base (CXU P w) 6 a.f_Front_init a.d_Front_init ["self", "start"] (sp_Front_init a) := by
  refine T.F_Front_init.okU sc_Front_init (fun vs H Q E h => ?_) (fun cdv A outer s H vs Q E hr h => ?_)
  · obtain ⟨x, dx, p, ss, rfl, hx, hp, hN, hq⟩ := h
    rfl
  · obtain ⟨x, dx, p, ss, rfl, hx, hp, hN, hq⟩ := h
    refine ⟨_, (pss_cons (ps_if (pt_not (ptT (pe_call (ok_is_row_of_names T) (hr.mono (by decide)) (by rfl) T.m_is_row_of_names T.F_is_row_of_names.kp T.b_is_row_of_names .nil passU (pa_cons (pv 1) pa_nil)) (fun _ => rfl))) (pss_one ps_never) pss_nil)
      (pss_one (ps_expr (pe_cmeth (C := a.c_Bound) (pe_glob (v := V.ref a.c_Bound) (by rfl) T.m_Bound rfl) T.cm_Bound_init (Ns.ok_Rule_init T) (hr.mono (by decide)) T.b_Rule_init .nil passU (pa_cons (pv 0) (pa_cons (pe_make T.mk_Shelf (Ns.ok_Shelf_init T) (hr.mono (by decide)) (by rfl) T.m_Shelf T.b_Shelf_init .nil passU (pa_cons (pv 1) pa_nil)) (pa_cons (pv 1) pa_nil))))))), ?_⟩
    repeat walk_at "vs"
    refine ⟨p, ss, rfl, hp, hN.nm, hN.nd, hN.lo, hN.hi, fun H1 e1 => ?_⟩
    have hx1 := e1 _ _ hx
    repeat walk_at "vs"
    intro w dw k1 k2 k3
    have nx : w ≠ x := (ne_of_none hx1 k1).symm
    refine ⟨w, dw, .ref p, rfl, upd_same, fun H2 h2 b2 => ⟨rfl, ?_⟩⟩
    have x2 : Ext H1 H2 := fun b o hb => b2 b o (ne_of_none hb k1) (by rw [upd_ne (ne_of_none hb k1), upd_ne (ne_of_none hb k2)]; exact hb)
    repeat walk_at "vs"
    have hp2 := x2 _ _ (e1 _ _ hp)
    refine ⟨x, dx, w, dw, p, p, ss, rfl, x2 _ _ hx1, h2, hp2, hp2, hN, fun H3 h3 b3 => ?_⟩
    have np : p ≠ x := ne_of hp hx (by intro z; cases z)
    exact hq H3 ⟨dx, w, dw, p, p, h3, b3 _ _ nx h2, b3 _ _ np hp2, b3 _ _ np hp2⟩ (Ext.toBut (e1.tr x2) b3)
end Ns
namespace Nl
def sp_Line_is_state (a : Adr) : Sp := fun vs H Q _ => ∃ (w dw p : Addr) (ns : List Int), vs = [.ref w, .ref p] ∧ H w = some (.ins a.c_Line dw [("many", .int ns.length)]) ∧ H p = some (.tup (ns.map V.int)) ∧ Good ns ∧ ∀ H', Ext H H' → Q (.bl true) H'
theorem ok_Line_is_state (T : Txt w K mg a) : FnOk P w K mg base (CXU P w) 3 a.f_Line_is_state a.d_Line_is_state ["self", "thing"] (sp_Line_is_state a) := by
  refine T.F_Line_is_state.okU sc_Line_is_state (fun vs H Q E h => ?_) (fun cdv A outer s H vs Q E hr h => ?_)
  · obtain ⟨w, dw, p, ns, rfl, hw, hp, hg, hq⟩ := h
    rfl
  · obtain ⟨w, dw, p, ns, rfl, hw, hp, hg, hq⟩ := h
    have zc_Line := T.cl_Line
    have zn_Line_many := T.na_Line_many
    have zc_Store := T.cl_Store
    have zn_Store_many := T.na_Store_many
    have zc_Ways := T.cl_Ways
    have zn_Ways_many := T.na_Ways_many
    refine ⟨_, (pss_cons (ps_if (PW.pt (pw_or (pt_not (ptT (pe_callB cIsin (by rfl) T.n_isinstance PyProof.Rows.boot_isinstance (pa_cons (pv 1) (pa_cons (pe_bltn (v := V.ty "tuple") (by rfl) T.n_tuple PyProof.Rows.boot_tuple rfl) pa_nil))) (fun _ => rfl))) (pw_or1 (pt_cmpR op_ne (pe_callB cLenW (by rfl) T.n_len PySem.boot_len (pa_cons (pv 1) pa_nil)) (pe_fld (pv 0) rfl) (nomark _))))) (pss_one (ps_ret pe_bl)) pss_nil)
      (pss_cons (ps_if (pt_not (ptT (pe_callB (cAll rfl) (by rfl) T.n_all PyProof.Rows.boot_all (pa_cons (pe_comp (["place"] : List Str) ([] : List Str) [] rfl ⟨rfl, by decide +kernel, by decide +kernel, by rfl, trivial⟩ (pi_tup (pv 1)) (fun _ _ _ _ => ⟨(pg_name (i := 0) (by show ((["place"] : List Str) ++ ([] : List Str)).Nodup; decide +kernel) rfl (by first | exact Or.inl rfl | exact Or.inr rfl)), (show PTs _ [] [] from trivial), (pe_call (ok_is_place T) (hr.mono (by decide)) (by rfl) T.m_is_place T.F_is_place.kp T.b_is_place .nil passU (pa_cons (pv 0) pa_nil))⟩)) pa_nil)) (fun _ => rfl))) (pss_one (ps_ret pe_bl)) pss_nil)
      (pss_one (ps_ret (pe_cmpR (oEq hr) (pe_callTy cList (by rfl) T.n_list PyProof.Rows.boot_list (pa_cons (pv 1) pa_nil)) (pe_callB cSortW (by rfl) T.n_sorted PyProof.Rows.boot_sorted (pa_cons (pv 1) pa_nil)) (nomark _)))))), ?_⟩
    have h6 := hg.hi
    repeat walk_at "vs"
    refine r_isT (HasK.t hp) ?_
    repeat walk_at "vs"
    refine r_lenWT hp ?_
    rw [List.length_map]
    repeat walk_at "vs"
    refine iteN (fun q => (q rfl).elim) (fun _ => ?_)
    repeat walk_at "vs"
    refine ⟨p, rfl, ⟨_, SqT.of hp⟩, fun acc hn _ _ _ _ => comp_tup (SqT.of hp) (by rw [List.length_map]; omega) hn (fun j ys _ => ys = ((ns.take j).map fun _ => true).map V.bl) (by simp) (fun _ _ _ _ _ h => h) (fun j ys H' _ h => by rw [h]; simp; omega) ?_ ?_⟩
    · rintro j y ys H2 hy e rfl Y N hY hN
      obtain ⟨y, ey, rfl⟩ := get_int hy
      repeat walk_at "vs"
      refine ⟨.int y, .int, rfl, rfl, ?_⟩
      have hm := hg.pl y (List.mem_of_getElem? ey)
      have hpl : plc (.int y) = true := decide_eq_true (by omega)
      rw [hpl]
      refine hY _ _ Ext.rfl' ?_
      rw [List.take_add_one, ey]
      simp
    · rintro ys H2 e ha rfl
      rw [List.length_map, List.take_of_length_le (Nat.le_refl _)] at ha
      repeat walk_at "vs"
      refine r_all ha ?_
      have ea : (ns.map fun _ => true).all id = true := by rw [List.all_eq_true]; intro x hx; obtain ⟨_, _, rfl⟩ := List.mem_map.mp hx; rfl
      rw [ea]
      repeat walk_at "vs"
      refine r_listT (e _ _ hp) fun l H3 n3 h3 e3 => ?_
      repeat walk_at "vs"
      refine r_srtT (e3 _ _ (e _ _ hp)) (by omega) fun l2 ns' H4 n4 hpm hs h4 e4 => ?_
      have : ns' = ns := sorted_uniq hpm (List.Perm.refl _) hs hg.srt
      subst this
      repeat walk_at "vs"
      refine r_eqLI (e4 _ _ h3) h4 ?_
      rw [decide_eq_true rfl]
      exact hq H4 ((e.tr e3).tr e4)
end Nl
namespace Nl
def sp_Rule_init (a : Adr) : Sp := fun vs H Q _ => ∃ (x dx w dw p : Addr) (ns : List Int), vs = [.ref x, .ref w, .ref p] ∧ H x = some (.ins a.c_Both dx []) ∧ H w = some (.ins a.c_Line dw [("many", .int ns.length)]) ∧ H p = some (.tup (ns.map V.int)) ∧ Good ns ∧ ∀ H', H' x = some (.ins a.c_Both dx (lfl w p 0)) → But x H H' → Q .non H'
theorem ok_Rule_init (T : Txt w K mg a) : FnOk P w K mg base (CXU P w) 4 a.f_Rule_init a.d_Rule_init ["self", "world", "start"] (sp_Rule_init a) := by
  refine T.F_Rule_init.okU sc_Rule_init (fun vs H Q E h => ?_) (fun cdv A outer s H vs Q E hr h => ?_)
  · obtain ⟨x, dx, w, dw, p, ns, rfl, hx, hw, hp, hg, hq⟩ := h
    rfl
  · obtain ⟨x, dx, w, dw, p, ns, rfl, hx, hw, hp, hg, hq⟩ := h
    have zc_Both := T.cl_Both
    have zn_Both_world := T.na_Both_world
    have zn_Both_standing := T.na_Both_standing
    have zn_Both_spent := T.na_Both_spent
    have zc_Buyer := T.cl_Buyer
    have zn_Buyer_world := T.na_Buyer_world
    have zn_Buyer_standing := T.na_Buyer_standing
    have zn_Buyer_spent := T.na_Buyer_spent
    have zc_Changer := T.cl_Changer
    have zn_Changer_world := T.na_Changer_world
    have zn_Changer_standing := T.na_Changer_standing
    have zn_Changer_spent := T.na_Changer_spent
    have zc_Filler := T.cl_Filler
    have zn_Filler_world := T.na_Filler_world
    have zn_Filler_standing := T.na_Filler_standing
    have zn_Filler_spent := T.na_Filler_spent
    have zc_Front := T.cl_Front
    have zn_Front_world := T.na_Front_world
    have zn_Front_standing := T.na_Front_standing
    have zn_Front_spent := T.na_Front_spent
    have zc_Keeper := T.cl_Keeper
    have zn_Keeper_world := T.na_Keeper_world
    have zn_Keeper_standing := T.na_Keeper_standing
    have zn_Keeper_spent := T.na_Keeper_spent
    refine ⟨_, (pss_cons (ps_if (pt_not (ptT (pe_meth (pv 1) T.cl_Line T.me_Line_is_state (Nl.ok_Line_is_state T) (hr.mono (by decide)) T.b_Line_is_state .nil passU (pa_cons (pv 2) pa_nil)) (fun _ => rfl))) (pss_one ps_never) pss_nil)
      (pss_cons (ps_fld (pv 0) (pv 1) rfl)
      (pss_cons (ps_fld (pv 0) (pv 2) rfl)
      (pss_one (ps_fld (pv 0) pe_int rfl))))), ?_⟩
    repeat walk_at "vs"
    refine ⟨w, dw, p, ns, rfl, hw, hp, hg, fun H1 e1 => ?_⟩
    repeat walk_at "vs"
    refine r_sat (e1 _ _ hx) T.cl_Both T.na_Both_world (lt1000 rfl) fun H2 h2 b2 => ?_
    repeat walk_at "vs"
    refine r_sat h2 T.cl_Both T.na_Both_standing (lt1000 rfl) fun H3 h3 b3 => ?_
    repeat walk_at "vs"
    refine r_sat h3 T.cl_Both T.na_Both_spent (lt1000 rfl) fun H4 h4 b4 => ?_
    exact hq H4 h4 (Ext.toBut e1 (But.tr (But.tr b2 b3) b4))
end Nl
namespace Nl
def sp_Line_init (a : Adr) : Sp := fun vs H Q _ => ∃ x dx v, vs = [.ref x, v] ∧ H x = some (.ins a.c_Line dx []) ∧ ∀ H', H' x = some (.ins a.c_Line dx [("many", v)]) → But x H H' → Q .non H'
theorem ok_Line_init (T : Txt w K mg a) : FnOk P w K mg base (CXU P w) 1 a.f_Line_init a.d_Line_init ["self", "many"] (sp_Line_init a) := by
  refine T.F_Line_init.okU sc_Line_init (fun vs H Q E h => ?_) (fun cdv A outer s H vs Q E hr h => ?_)
  · obtain ⟨x, dx, v, rfl, hx, hq⟩ := h
    rfl
  · obtain ⟨x, dx, v, rfl, hx, hq⟩ := h
    have zc_Line := T.cl_Line
    have zn_Line_many := T.na_Line_many
    have zc_Store := T.cl_Store
    have zn_Store_many := T.na_Store_many
    have zc_Ways := T.cl_Ways
    have zn_Ways_many := T.na_Ways_many
    refine ⟨_, (pss_one (ps_fld (pv 0) (pv 1) rfl)), ?_⟩
    repeat walk_at "vs"
    refine r_sat hx T.cl_Line T.na_Line_many (lt1000 rfl) fun H' h1 h2 => ?_
    exact hq H' h1 h2
end Nl
namespace Nl
def sp_line_of (a : Adr) : Sp := fun vs H Q _ => ∃ (p : Addr) (ns : List Int), vs = [.ref p] ∧ H p = some (.tup (ns.map V.int)) ∧ 1 ≤ ns.length ∧ ns.length ≤ 6 ∧ ∀ w dw H', H w = none → H' w = some (.ins a.c_Line dw [("many", .int ns.length)]) → Ext H H' → Q (.ref w) H'
theorem ok_line_of (T : Txt w K mg a) : FnOk P w K mg base (CXU P w) 3 a.f_line_of a.d_line_of ["start"] (sp_line_of a) := by
  refine T.F_line_of.okU sc_line_of (fun vs H Q E h => ?_) (fun cdv A outer s H vs Q E hr h => ?_)
  · obtain ⟨p, ns, rfl, hp, h1, h6, hq⟩ := h
    rfl
  · obtain ⟨p, ns, rfl, hp, h1, h6, hq⟩ := h
    refine ⟨_, (pss_cons (ps_if (PW.pt (pw_or (pt_not (ptT (pe_callB cIsin (by rfl) T.n_isinstance PyProof.Rows.boot_isinstance (pa_cons (pv 0) (pa_cons (pe_bltn (v := V.ty "tuple") (by rfl) T.n_tuple PyProof.Rows.boot_tuple rfl) pa_nil))) (fun _ => rfl))) (pw_or1 (pt_not (pt_chain oLeW oLeW pe_int (pe_callB cLenW (by rfl) T.n_len PySem.boot_len (pa_cons (pv 0) pa_nil)) pe_int))))) (pss_one ps_never) pss_nil)
      (pss_one (ps_ret (pe_make T.mk_Line (Nl.ok_Line_init T) (hr.mono (by decide)) (by rfl) T.m_Line T.b_Line_init .nil passU (pa_cons (pe_callB cLenW (by rfl) T.n_len PySem.boot_len (pa_cons (pv 0) pa_nil)) pa_nil))))), ?_⟩
    repeat walk_at "vs"
    refine r_isT (HasK.t hp) ?_
    repeat walk_at "vs"
    refine r_lenWT hp ?_
    rw [List.length_map]
    repeat walk_at "vs"
    rw [decide_eq_true (show (1 : Int) ≤ ns.length by omega)]
    repeat walk_at "vs"
    rw [decide_eq_true (show (ns.length : Int) ≤ 6 by omega)]
    repeat walk_at "vs"
    refine r_lenWT hp ?_
    rw [List.length_map]
    repeat walk_at "vs"
    intro w dw n1 n2 n3
    refine ⟨w, dw, _, rfl, upd_same, fun H1 h1' b1 => ⟨rfl, hq w dw H1 n1 h1' fun b o hb => ?_⟩⟩
    have nb : b ≠ w := ne_of_none hb n1
    have nd : b ≠ dw := ne_of_none hb n2
    exact b1 b o nb (by rw [upd_ne nb, upd_ne nd]; exact hb)
end Nl
namespace Nl
def sp_Both_init (a : Adr) : Sp := fun vs H Q _ => ∃ (x dx p : Addr) (ns : List Int), vs = [.ref x, .ref p] ∧ H x = some (.ins a.c_Both dx []) ∧ H p = some (.tup (ns.map V.int)) ∧ Good ns ∧ ∀ H', LineAt a a.c_Both H' x ns 0 → But x H H' → Q .non H'
theorem ok_Both_init (T : Txt w K mg a) : FnOk P w K mg base (CXU P w) 6 a.f_Both_init a.d_Both_init ["self", "start"] (sp_Both_init a) := by
  refine T.F_Both_init.okU sc_Both_init (fun vs H Q E h => ?_) (fun cdv A outer s H vs Q E hr h => ?_)
  · obtain ⟨x, dx, p, ns, rfl, hx, hp, hg, hq⟩ := h
    rfl
  · obtain ⟨x, dx, p, ns, rfl, hx, hp, hg, hq⟩ := h
    refine ⟨_, (pss_one (ps_expr (pe_cmeth (C := a.c_Bound) (pe_glob (v := V.ref a.c_Bound) (by rfl) T.m_Bound rfl) T.cm_Bound_init (Nl.ok_Rule_init T) (hr.mono (by decide)) T.b_Rule_init .nil passU (pa_cons (pv 0) (pa_cons (pe_call (Nl.ok_line_of T) (hr.mono (by decide)) (by rfl) T.m_line_of T.F_line_of.kp T.b_line_of .nil passU (pa_cons (pv 1) pa_nil)) (pa_cons (pv 1) pa_nil)))))), ?_⟩
    have g1 := hg.lo
    have g6 := hg.hi
    repeat walk_at "vs"
    refine ⟨p, ns, rfl, hp, g1, g6, fun w dw H1 nw hw e1 => ?_⟩
    repeat walk_at "vs"
    refine ⟨x, dx, w, dw, p, ns, rfl, e1 _ _ hx, hw, e1 _ _ hp, hg, fun H2 h2 b2 => ?_⟩
    have nx : w ≠ x := (ne_of_none hx nw).symm
    have np : p ≠ x := ne_of hp hx (by intro z; cases z)
    exact hq H2 ⟨dx, w, dw, p, h2, b2 _ _ nx hw, b2 _ _ np (e1 _ _ hp)⟩ (Ext.toBut e1 b2)
end Nl
def sp_rule_of (a : Adr) : Sp := fun vs H Q _ => ∃ (g : G83) (wd : Str) (p : Addr), vs = [.str wd, .ref p] ∧ GAt H g wd p ∧ ∀ r H', H r = none → g.rs.at_ a H' r → Ext H H' → Q (.ref r) H'
theorem ok_rule_of (T : Txt w K mg a) : FnOk P w K mg base (CXU P w) 8 a.f_rule_of a.d_rule_of ["word", "start"] (sp_rule_of a) := by
  refine T.F_rule_of.okU sc_rule_of (fun vs H Q E h => ?_) (fun cdv A outer s H vs Q E hr h => ?_)
  · obtain ⟨g, wd, p, rfl, ⟨hwd, hp, hok⟩, hq⟩ := h
    rfl
  · obtain ⟨g, wd, p, rfl, ⟨hwd, hp, hok⟩, hq⟩ := h
    refine ⟨_, (pss_cons (ps_if (pt_cmpR (oEq hr) (pv 0) pe_str (nomark _)) (pss_one (ps_ret (pe_make T.mk_Both (Nl.ok_Both_init T) (hr.mono (by decide)) (by rfl) T.m_Both T.b_Both_init .nil passU (pa_cons (pv 1) pa_nil)))) pss_nil)
      (pss_cons (ps_if (pt_cmpR (oEq hr) (pv 0) pe_str (nomark _)) (pss_one (ps_ret (pe_make T.mk_Front (Ns.ok_Front_init T) (hr.mono (by decide)) (by rfl) T.m_Front T.b_Front_init .nil passU (pa_cons (pv 1) pa_nil)))) pss_nil)
      (pss_cons (ps_if (pt_cmpR (oEq hr) (pv 0) pe_str (nomark _)) (pss_one (ps_ret (pe_make T.mk_Buyer (Nh.ok_Buyer_init T) (hr.mono (by decide)) (by rfl) T.m_Buyer T.b_Buyer_init .nil passU (pa_cons (pe_ix oIx (pv 1) pe_int (fun _ _ => rfl)) pa_nil)))) pss_nil)
      (pss_cons (ps_if (pt_cmpR (oEq hr) (pv 0) pe_str (nomark _)) (pss_one (ps_ret (pe_make T.mk_Changer (Nw.ok_Changer_init T) (hr.mono (by decide)) (by rfl) T.m_Changer T.b_Changer_init .nil passU (pa_cons (pe_ix oIx (pv 1) pe_int (fun _ _ => rfl)) (pa_cons (pe_ix oIx (pv 1) pe_int (fun _ _ => rfl)) (pa_cons (pe_ix oIx (pv 1) pe_int (fun _ _ => rfl)) pa_nil)))))) pss_nil)
      (pss_cons (ps_if (pt_cmpR (oEq hr) (pv 0) pe_str (nomark _)) (pss_one (ps_ret (pe_make T.mk_Keeper (Nk.ok_Keeper_init T) (hr.mono (by decide)) (by rfl) T.m_Keeper T.b_Keeper_init .nil passU (pa_cons (pv 1) pa_nil)))) pss_nil)
      (pss_one (ps_ret (pe_make T.mk_Filler (Nb.ok_Filler_init T) (hr.mono (by decide)) (by rfl) T.m_Filler T.b_Filler_init .nil passU (pa_cons (pe_ix oIx (pv 1) pe_int (fun _ _ => rfl)) pa_nil))))))))), ?_⟩
    cases g with
    | line ns =>
      have hwd : wd = Str.ofString "line" := hwd
      repeat walk_at "vs"
      refine r_eqUS ?_
      rw [show decide (wd = Str.ofString "line") = true by rw [hwd]; decide]
      repeat walk_at "vs"
      intro r dr k1 k2 k3
      have y1 : Ext H (upd (upd H dr (.own r)) r (.ins a.c_Both dr [])) := fun b o hb => by rw [upd_ne (ne_of_none hb k1), upd_ne (ne_of_none hb k2)]; exact hb
      refine ⟨r, dr, p, ns, rfl, upd_same, y1 _ _ hp, hok, fun H2 B2 b2 => ⟨rfl, ?_⟩⟩
      exact hq r H2 k1 B2 (fun b o h => b2 b o (ne_of_none h k1) (y1 _ _ h))
    | shelf ss =>
      have hwd : wd = Str.ofString "shelf" := hwd
      repeat walk_at "vs"
      refine r_eqUS ?_
      rw [show decide (wd = Str.ofString "line") = false by rw [hwd]; decide]
      repeat walk_at "vs"
      refine r_eqUS ?_
      rw [show decide (wd = Str.ofString "shelf") = true by rw [hwd]; decide]
      repeat walk_at "vs"
      intro r dr k1 k2 k3
      have y1 : Ext H (upd (upd H dr (.own r)) r (.ins a.c_Front dr [])) := fun b o hb => by rw [upd_ne (ne_of_none hb k1), upd_ne (ne_of_none hb k2)]; exact hb
      refine ⟨r, dr, p, ss, rfl, upd_same, y1 _ _ hp, hok, fun H2 B2 b2 => ⟨rfl, ?_⟩⟩
      exact hq r H2 k1 B2 (fun b o h => b2 b o (ne_of_none h k1) (y1 _ _ h))
    | hire W =>
      obtain ⟨w1, w2⟩ := hok
      have hwd : wd = Str.ofString "hire" := hwd
      repeat walk_at "vs"
      refine r_eqUS ?_
      rw [show decide (wd = Str.ofString "line") = false by rw [hwd]; decide]
      repeat walk_at "vs"
      refine r_eqUS ?_
      rw [show decide (wd = Str.ofString "shelf") = false by rw [hwd]; decide]
      repeat walk_at "vs"
      refine r_eqUS ?_
      rw [show decide (wd = Str.ofString "hire") = true by rw [hwd]; decide]
      repeat walk_at "vs"
      refine r_ixT hp rfl ?_
      repeat walk_at "vs"
      intro r dr k1 k2 k3
      have y1 : Ext H (upd (upd H dr (.own r)) r (.ins a.c_Buyer dr [])) := fun b o hb => by rw [upd_ne (ne_of_none hb k1), upd_ne (ne_of_none hb k2)]; exact hb
      refine ⟨r, dr, W, rfl, upd_same, w1, w2, fun wo dw H2 nwo hne h1 h2 b2 => ⟨rfl, ?_⟩⟩
      exact hq r H2 k1 ⟨dr, wo, dw, h1, h2⟩ (fun b o h => b2 b o (ne_of_none h k1) (y1 _ _ h))
    | ways n t h =>
      obtain ⟨n1, n8, h0, h1, t0, t1⟩ := hok
      have hwd : wd = Str.ofString "ways" := hwd
      repeat walk_at "vs"
      refine r_eqUS ?_
      rw [show decide (wd = Str.ofString "line") = false by rw [hwd]; decide]
      repeat walk_at "vs"
      refine r_eqUS ?_
      rw [show decide (wd = Str.ofString "shelf") = false by rw [hwd]; decide]
      repeat walk_at "vs"
      refine r_eqUS ?_
      rw [show decide (wd = Str.ofString "hire") = false by rw [hwd]; decide]
      repeat walk_at "vs"
      refine r_eqUS ?_
      rw [show decide (wd = Str.ofString "ways") = true by rw [hwd]; decide]
      repeat walk_at "vs"
      refine r_ixT hp rfl ?_
      repeat walk_at "vs"
      refine r_ixT hp rfl ?_
      repeat walk_at "vs"
      refine r_ixT hp rfl ?_
      repeat walk_at "vs"
      intro r dr k1 k2 k3
      have y1 : Ext H (upd (upd H dr (.own r)) r (.ins a.c_Changer dr [])) := fun b o hb => by rw [upd_ne (ne_of_none hb k1), upd_ne (ne_of_none hb k2)]; exact hb
      refine ⟨r, dr, (n : Nat), h, t, rfl, upd_same, by omega, by omega, h0, h1, t0, t1, fun H2 B2 b2 => ⟨rfl, ?_⟩⟩
      exact hq r H2 k1 B2 (fun b o h => b2 b o (ne_of_none h k1) (y1 _ _ h))
    | store ss =>
      have hwd : wd = Str.ofString "store" := hwd
      repeat walk_at "vs"
      refine r_eqUS ?_
      rw [show decide (wd = Str.ofString "line") = false by rw [hwd]; decide]
      repeat walk_at "vs"
      refine r_eqUS ?_
      rw [show decide (wd = Str.ofString "shelf") = false by rw [hwd]; decide]
      repeat walk_at "vs"
      refine r_eqUS ?_
      rw [show decide (wd = Str.ofString "hire") = false by rw [hwd]; decide]
      repeat walk_at "vs"
      refine r_eqUS ?_
      rw [show decide (wd = Str.ofString "ways") = false by rw [hwd]; decide]
      repeat walk_at "vs"
      refine r_eqUS ?_
      rw [show decide (wd = Str.ofString "store") = true by rw [hwd]; decide]
      repeat walk_at "vs"
      intro r dr k1 k2 k3
      have y1 : Ext H (upd (upd H dr (.own r)) r (.ins a.c_Keeper dr [])) := fun b o hb => by rw [upd_ne (ne_of_none hb k1), upd_ne (ne_of_none hb k2)]; exact hb
      refine ⟨r, dr, p, ss, rfl, upd_same, y1 _ _ hp, hok, fun H2 B2 b2 => ⟨rfl, ?_⟩⟩
      exact hq r H2 k1 B2 (fun b o h => b2 b o (ne_of_none h k1) (y1 _ _ h))
    | bags R =>
      obtain ⟨r1, r2⟩ := hok
      have hwd : wd = Str.ofString "bags" := hwd
      repeat walk_at "vs"
      refine r_eqUS ?_
      rw [show decide (wd = Str.ofString "line") = false by rw [hwd]; decide]
      repeat walk_at "vs"
      refine r_eqUS ?_
      rw [show decide (wd = Str.ofString "shelf") = false by rw [hwd]; decide]
      repeat walk_at "vs"
      refine r_eqUS ?_
      rw [show decide (wd = Str.ofString "hire") = false by rw [hwd]; decide]
      repeat walk_at "vs"
      refine r_eqUS ?_
      rw [show decide (wd = Str.ofString "ways") = false by rw [hwd]; decide]
      repeat walk_at "vs"
      refine r_eqUS ?_
      rw [show decide (wd = Str.ofString "store") = false by rw [hwd]; decide]
      repeat walk_at "vs"
      refine r_ixT hp rfl ?_
      repeat walk_at "vs"
      intro r dr k1 k2 k3
      have y1 : Ext H (upd (upd H dr (.own r)) r (.ins a.c_Filler dr [])) := fun b o hb => by rw [upd_ne (ne_of_none hb k1), upd_ne (ne_of_none hb k2)]; exact hb
      refine ⟨r, dr, R, rfl, upd_same, r1, r2, fun H2 B2 b2 => ⟨rfl, ?_⟩⟩
      exact hq r H2 k1 ⟨[], B2, .refl _, .nil⟩ (fun b o h => b2 b o (ne_of_none h k1) (y1 _ _ h))
def sp_world_start (a : Adr) : Sp := fun vs H Q _ => ∃ (g : G83) (wd : Str) (p : Addr), vs = [.str wd, .ref p] ∧ GAt H g wd p ∧ ∀ t w v H', H' t = some (.tup [.ref w, v]) → g.rs.wo a H' w → g.rs.st H' v → Ext H H' → Q (.ref t) H'
theorem ok_world_start (T : Txt w K mg a) : FnOk P w K mg base (CXU P w) 9 a.f_world_start a.d_world_start ["word", "start"] (sp_world_start a) := by
  refine T.F_world_start.okU sc_world_start (fun vs H Q E h => ?_) (fun cdv A outer s H vs Q E hr h => ?_)
  · obtain ⟨g, wd, p, rfl, hg, hq⟩ := h
    rfl
  · obtain ⟨g, wd, p, rfl, hg, hq⟩ := h
    have zc_Both := T.cl_Both
    have zn_Both_world := T.na_Both_world
    have zc_Buyer := T.cl_Buyer
    have zn_Buyer_world := T.na_Buyer_world
    have zc_Changer := T.cl_Changer
    have zn_Changer_world := T.na_Changer_world
    have zc_Filler := T.cl_Filler
    have zn_Filler_world := T.na_Filler_world
    have zc_Front := T.cl_Front
    have zn_Front_world := T.na_Front_world
    have zc_Keeper := T.cl_Keeper
    have zn_Keeper_world := T.na_Keeper_world
    refine ⟨_, (pss_cons (ps_set (i := 2) sc_world_start.nd rfl (by first | exact Or.inl rfl | exact Or.inr rfl) (pe_call (ok_rule_of T) (hr.mono (by decide)) (by rfl) T.m_rule_of T.F_rule_of.kp T.b_rule_of .nil passU (pa_cons (pv 0) (pa_cons (pv 1) pa_nil))))
      (pss_one (ps_ret (pe_tup (pa_cons (pe_fld (pv 2) rfl) (pa_cons (pe_or2 (pe_meth0 (pv 2) T.cl_Both T.me_Both_state (Nl.ok_Rule_state T) (hr.mono (by decide)) T.b_Rule_state .nil passU) (pe_or2 (pe_meth0 (pv 2) T.cl_Front T.me_Front_state (Ns.ok_Rule_state T) (hr.mono (by decide)) T.b_Rule_state .nil passU) (pe_or2 (pe_meth0 (pv 2) T.cl_Buyer T.me_Buyer_state (Nh.ok_Rule_state T) (hr.mono (by decide)) T.b_Rule_state .nil passU) (pe_or2 (pe_meth0 (pv 2) T.cl_Changer T.me_Changer_state (Nw.ok_Rule_state T) (hr.mono (by decide)) T.b_Rule_state .nil passU) (pe_or2 (pe_meth0 (pv 2) T.cl_Keeper T.me_Keeper_state (Nk.ok_Rule_state T) (hr.mono (by decide)) T.b_Rule_state .nil passU) (pe_meth0 (pv 2) T.cl_Filler T.me_Filler_state (Nb.ok_Rule_state T) (hr.mono (by decide)) T.b_Rule_state .nil passU)))))) pa_nil)))))), ?_⟩
    repeat walk_at "vs"
    refine ⟨g, wd, p, rfl, hg, fun r H1 n1 B e1 => ?_⟩
    cases g with
    | line ns =>
      obtain ⟨dx, wo, dw, sp, h1, h2, h3⟩ := Nl.LineAt.ex B
      repeat walk_at "vs"
      refine r_or2L ?_
      repeat walk_at "vs"
      refine ⟨r, _, _, rfl, B, fun v hv => ?_⟩
      repeat walk_at "vs"
      intro t' H2 n2 q2 e2
      exact hq t' wo _ H2 q2 ⟨dw, e2 _ _ h2⟩ ⟨v, rfl, (e2 _ _ hv)⟩ (e1.tr e2)
    | shelf ss =>
      obtain ⟨dx, wo, dw, sp, tp, h1, h2, h3, h4⟩ := Ns.ShelfAt.ex B
      repeat walk_at "vs"
      refine r_or2R (r_or2L ?_)
      repeat walk_at "vs"
      refine ⟨r, _, _, _, rfl, B, fun v hv => ?_⟩
      repeat walk_at "vs"
      intro t' H2 n2 q2 e2
      exact hq t' wo _ H2 q2 ⟨dw, tp, e2 _ _ h2, e2 _ _ h4⟩ ⟨v, rfl, (e2 _ _ hv)⟩ (e1.tr e2)
    | hire W =>
      obtain ⟨dx, wo, dw, h1, h2⟩ := Nh.BuyAt.ex B
      repeat walk_at "vs"
      refine r_or2R (r_or2R (r_or2L ?_))
      repeat walk_at "vs"
      refine ⟨r, _, _, _, rfl, B, ?_⟩
      repeat walk_at "vs"
      intro t' H2 n2 q2 e2
      exact hq t' wo _ H2 q2 ⟨dw, e2 _ _ h2⟩ rfl (e1.tr e2)
    | ways n t h =>
      obtain ⟨dx, wo, dw, q, h1, h2, h3⟩ := Nw.WaysAt.ex B
      repeat walk_at "vs"
      refine r_or2R (r_or2R (r_or2R (r_or2L ?_)))
      repeat walk_at "vs"
      refine ⟨r, _, _, _, _, rfl, B, ?_⟩
      repeat walk_at "vs"
      intro t' H2 n2 q2 e2
      exact hq t' wo _ H2 q2 ⟨dw, by have := h2; rw [Nw.fst_len] at this; exact e2 _ _ this⟩ rfl (e1.tr e2)
    | store ss =>
      obtain ⟨dx, wo, dw, sp, q, ss0, kk⟩ := Nk.KeepAt.ex B
      have h1 := kk.hr
      have h2 := kk.hw
      repeat walk_at "vs"
      refine r_or2R (r_or2R (r_or2R (r_or2R (r_or2L ?_))))
      repeat walk_at "vs"
      refine ⟨r, _, _, rfl, B, fun v vs vp vo hv => ?_⟩
      repeat walk_at "vs"
      intro t' H2 n2 q2 e2
      exact hq t' wo _ H2 q2 ⟨dw, e2 _ _ h2⟩ ⟨v, vs, rfl, (e2 _ _ hv), vp, vo⟩ (e1.tr e2)
    | bags R =>
      obtain ⟨ss0, B0, pm0, pw0⟩ := B
      obtain ⟨dx, wo, dw, sp, q, h1, h2, h3, h4⟩ := Nb.BagAt.ex B0
      repeat walk_at "vs"
      refine r_or2R (r_or2R (r_or2R (r_or2R (r_or2R ?_))))
      repeat walk_at "vs"
      refine ⟨r, _, _, _, _, rfl, B0, fun v hv => ?_⟩
      repeat walk_at "vs"
      intro t' H2 n2 q2 e2
      exact hq t' wo _ H2 q2 ⟨dw, e2 _ _ h2⟩ ⟨v, _, rfl, (e2 _ _ hv), pm0, pw0⟩ (e1.tr e2)
def sp_is_opening (a : Adr) : Sp := fun vs H Q _ => ∃ (g : G83) (wd : Str) (p : Addr), vs = [.str wd, .ref p] ∧ GAt H g wd p ∧ ∀ H', Ext H H' → Q (.bl true) H'
theorem ok_is_opening (T : Txt w K mg a) : FnOk P w K mg base (CXU P w) 9 a.f_is_opening a.d_is_opening ["word", "start"] (sp_is_opening a) := by
  refine T.F_is_opening.okU sc_is_opening (fun vs H Q E h => ?_) (fun cdv A outer s H vs Q E hr h => ?_)
  · obtain ⟨g, wd, p, rfl, hg, hq⟩ := h
    rfl
  · obtain ⟨g, wd, p, rfl, hg, hq⟩ := h
    refine ⟨_, (pss_cons (ps_if (PW.pt (pw_or (pt_cmpR oNotIn (pv 0) (pe_glob (v := V.ref a.v_FIRST_WORDS) (by rfl) T.m_FIRST_WORDS rfl) (by with_unfolding_all rfl)) (pw_or1 (pt_cmpR op_ne (pe_callB cLenW (by rfl) T.n_len PySem.boot_len (pa_cons (pv 1) pa_nil)) (pe_getG T.g_LENGTHS (pe_glob (v := V.ref a.v_LENGTHS) (by rfl) T.m_LENGTHS rfl) (pv 0) (pe_callB cLenW (by rfl) T.n_len PySem.boot_len (pa_cons (pv 1) pa_nil)) ⟨rfl, rfl, rfl, rfl⟩) (nomark _))))) (pss_one (ps_ret pe_bl)) pss_nil)
      (pss_cons (ps_tryN (L := a.c_NoState) ⟨rfl, rfl, rfl⟩ (by rfl) T.m_NoState (psxs_one (psx_expr (pex_call (ok_rule_of T) (hr.mono (by decide)) (by rfl) T.m_rule_of T.F_rule_of.kp T.b_rule_of .nil (pa_cons (pv 0) (pa_cons (pv 1) pa_nil))))) (fun _ => (pss_one (ps_ret pe_bl))))
      (pss_one (ps_ret pe_bl)))), ?_⟩
    obtain ⟨hwd, hp, hok⟩ := id hg
    have tl : ∀ H1, H1 = H → sp_rule_of a [.str wd, .ref p] H1 (fun v H2 => Ext H H2) fun _ _ _ => False := fun H1 e => by subst e; exact ⟨g, wd, p, rfl, hg, fun r H2 n2 B2 e2 => e2⟩
    have len : ∀ k : Nat, valS [("hire", 1), ("ways", 3), ("bags", 1)] wd = none ∨ valS [("hire", 1), ("ways", 3), ("bags", 1)] wd = some (.int (g.tup.length : Nat)) := fun _ => by
      rw [hwd]
      cases g with
      | line ns => exact .inl rfl
      | shelf ss => exact .inl rfl
      | store ss => exact .inl rfl
      | _ => exact .inr rfl
    have hin : inV (.str wd) ((["line", "shelf", "hire", "ways", "store", "bags"] : List Str).map V.str) = true := by rw [hwd]; cases g <;> rfl
    repeat walk_at "vs"
    refine ⟨_, _, rfl, .inr (T.q_FIRST_WORDS _), rfl, rfl, ?_⟩
    rw [hin]
    repeat walk_at "vs"
    refine r_lenWT hp ?_
    repeat walk_at "vs"
    refine r_lenWT hp ?_
    repeat walk_at "vs"
    have hv : (valS [("hire", 1), ("ways", 3), ("bags", 1)] wd).getD (.int (g.tup.length : Nat)) = .int (g.tup.length : Nat) := by rcases len 0 with e | e <;> rw [e] <;> rfl
    refine ⟨wd, rfl, ?_⟩
    rw [hv]
    repeat walk_at "vs"
    rw [decide_eq_true rfl]
    repeat walk_at "vs"
    refine ⟨g, wd, p, rfl, hg, fun r H2 n2 B2 e2 => ?_⟩
    repeat walk_at "vs"
    exact hq H2 e2
def sp_rows_with_signs : Sp := fun vs H Q _ => ∃ z : Str, vs = [.str z] ∧ z.length ≤ 999990 ∧ ∀ l ys H', H l = none → H' l = some (.lst ys) → RwAt H' (nzRows (Txt.split z ⟨#[10]⟩) 0) ys → Ext H H' → Q (.ref l) H'
theorem ok_rows_with_signs (T : Txt w K mg a) : FnOk P w K mg base (CXU P w) 1 a.f_rows_with_signs a.d_rows_with_signs ["text"] (sp_rows_with_signs) := by
  refine T.F_rows_with_signs.okU sc_rows_with_signs (fun vs H Q E h => ?_) (fun cdv A outer s H vs Q E hr h => ?_)
  · obtain ⟨z, rfl, hl, hq⟩ := h
    rfl
  · obtain ⟨z, rfl, hl, hq⟩ := h
    refine ⟨_, (pss_cons (ps_if (pt_not (ptT (pe_callB cIsin (by rfl) T.n_isinstance PyProof.Rows.boot_isinstance (pa_cons (pv 0) (pa_cons (pe_bltn (v := V.ty "str") (by rfl) T.n_str PyProof.Rows.boot_str rfl) pa_nil))) (fun _ => rfl))) (pss_one (ps_ret (pe_lst pa_nil))) pss_nil)
      (pss_one (ps_ret (pe_comp (["row", "line"] : List Str) ([] : List Str) [] rfl ⟨rfl, by decide +kernel, by decide +kernel, by rfl, trivial⟩ (pi_enum rfl T.n_enumerate (pa_cons (pe_sm PySem.F.plainAttrs_str PySem.F.slot_str_split PySem.F.type_str_split mt_split (pv 0) (pa_cons pe_str pa_nil)) pa_nil)) (fun _ _ _ _ => ⟨(pg_tup rfl (pgs_cons (pg_name (i := 0) (by show ((["row", "line"] : List Str) ++ ([] : List Str)).Nodup; decide +kernel) rfl (by first | exact Or.inl rfl | exact Or.inr rfl)) (pgs_cons (pg_name (i := 1) (by show ((["row", "line"] : List Str) ++ ([] : List Str)).Nodup; decide +kernel) rfl (by first | exact Or.inl rfl | exact Or.inr rfl)) pgs_nil))), (show PTs _ [_] [_] from ⟨(pt_cmpR (oNe hr) (pv 1) pe_str (nomark _)), trivial⟩), (pe_tup (pa_cons (pv 0) (pa_cons (pv 1) pa_nil)))⟩))))), ?_⟩
    have hln := split_le z ⟨#[10]⟩
    repeat walk_at "vs"
    refine r_isS (k := .str) rfl ?_
    repeat walk_at "vs"
    rw [show Str.ofString "\n" = (⟨#[10]⟩ : Str) by decide]
    refine r_split (by omega) fun p H1 n1 q1 e1 => ?_
    generalize Txt.split z ⟨#[10]⟩ = zs at *
    repeat walk_at "vs"
    refine ⟨p, _, false, rfl, SqL.of q1, fun acc hn _ _ _ _ => comp_enum q1 (by rw [List.length_map]; omega) hn (fun i ys H2 => ∃ rs, RwAt H2 rs ys ∧ rs.length ≤ i ∧ rs ++ nzRows (zs.drop i) i = nzRows zs 0) ⟨[], trivial, Nat.le_refl _, rfl⟩ (fun _ _ _ _ k ⟨rs, h1, h2⟩ => ⟨rs, h1.kp k, h2⟩) (fun i ys H2 _ ⟨rs, h1, h2, _⟩ => by rw [h1.len]; exact h2) ?_ ?_⟩
    · rintro i x ys H2 H3 hx e e' ⟨rs, h1, h2, h3⟩ Y N hY hN
      rw [List.getElem?_map] at hx
      obtain ⟨y, hy, rfl⟩ := Option.map_eq_some_iff.mp hx
      have hd : zs.drop i = y :: zs.drop (i + 1) := by
        obtain ⟨hi, hy'⟩ := List.getElem?_eq_some_iff.mp hy
        rw [List.drop_eq_getElem_cons hi, hy']
      rw [hd] at h3
      repeat walk_at "vs"
      refine r_neUS ?_
      rw [show Str.ofString "" = (⟨#[]⟩ : Str) by decide]
      repeat walk_at "vs"
      have h3 : rs ++ (if y = ⟨#[]⟩ then nzRows (zs.drop (i + 1)) (i + 1) else (i, y) :: nzRows (zs.drop (i + 1)) (i + 1)) = nzRows zs 0 := h3
      refine iteN (fun c => ?_) (fun c => ?_)
      · repeat walk_at "vs"
        intro t H4 n4 q4 e4
        rw [if_neg c] at h3
        exact hY _ _ (e'.tr e4) ⟨rs ++ [(i, y)], RwAt.snoc q4 (h1.kp (e'.tr e4).kp), by simp; omega, by rw [List.append_assoc]; exact h3⟩
      · rw [if_pos c] at h3
        exact hN _ e' ⟨rs, h1.kp e'.kp, by omega, h3⟩
    · rintro ys H2 e2 q2 ⟨rs, h1, _, h3⟩
      rw [List.length_map, List.drop_length] at h3
      have h3 : rs ++ [] = nzRows zs 0 := h3
      rw [List.append_nil] at h3
      rw [h3] at h1
      repeat walk_at "vs"
      exact hq acc ys H2 (e1.free hn) q2 h1 (e1.tr e2)
def sp_read_game (a : Adr) : Sp := fun vs H Q _ => ∃ (z : Str) (g : G83) (ws : List W83), vs = [.str z] ∧ z.length ≤ 999990 ∧ g.ok ∧ (∀ w ∈ ws, g.rs.okW w) ∧ ws.length ≤ 200 ∧ ((Txt.split z ⟨#[10]⟩).filter fun x => !decide (x = ⟨#[]⟩)) = lnG g :: ws.map lnW ∧ ∀ t q l wvs H', H' t = some (.tup [.str g.word, .ref q, .ref l]) → H' q = some (.tup g.tup) → H l = none → H' l = some (.lst wvs) → AllW H' ws wvs → Ext H H' → Q (.ref t) H'
theorem ok_read_game (T : Txt w K mg a) : FnOk P w K mg base (CXU P w) 10 a.f_read_game a.d_read_game ["text"] (sp_read_game a) := by
  refine T.F_read_game.okU sc_read_game (fun vs H Q E h => ?_) (fun cdv A outer s H vs Q E hr h => ?_)
  · obtain ⟨z, g, ws, rfl, hl, hok, hws, hl2, hf, hq⟩ := h
    rfl
  · obtain ⟨z, g, ws, rfl, hl, hok, hws, hl2, hf, hq⟩ := h
    refine ⟨_, (pss_cons (ps_set (i := 1) sc_read_game.nd rfl (by first | exact Or.inl rfl | exact Or.inr rfl) (pe_call (ok_rows_with_signs T) (hr.mono (by decide)) (by rfl) T.m_rows_with_signs T.F_rows_with_signs.kp T.b_rows_with_signs .nil passU (pa_cons (pv 0) pa_nil)))
      (pss_cons (ps_if (pt_not (ptT (pv 1) (fun _ => rfl))) (pss_one ps_never) pss_nil)
      (pss_cons (ps_set (i := 2) sc_read_game.nd rfl (by first | exact Or.inl rfl | exact Or.inr rfl) (pe_call (ok_parted T) (hr.mono (by decide)) (by rfl) T.m_parted T.F_parted.kp T.b_parted .nil passU (pa_cons (pe_ix oIx (pe_ix oIx (pv 1) pe_int (fun _ _ => rfl)) pe_int (fun _ _ => rfl)) pa_nil)))
      (pss_cons (ps_set (i := 3) sc_read_game.nd rfl (by first | exact Or.inl rfl | exact Or.inr rfl) (pe_ix oIx (pv 2) pe_int (fun _ _ => rfl)))
      (pss_cons (ps_set (i := 4) sc_read_game.nd rfl (by first | exact Or.inl rfl | exact Or.inr rfl) (pe_ix oIx (pv 2) pe_int (fun _ _ => rfl)))
      (pss_cons (ps_if (pt_not (ptT (pe_call (ok_is_opening T) (hr.mono (by decide)) (by rfl) T.m_is_opening T.F_is_opening.kp T.b_is_opening .nil passU (pa_cons (pv 3) (pa_cons (pv 4) pa_nil))) (fun _ => rfl))) (pss_one ps_never) pss_nil)
      (pss_one (ps_ret (pe_tup (pa_cons (pv 3) (pa_cons (pv 4) (pa_cons (pe_call (ok_asked_wishes T) (hr.mono (by decide)) (by rfl) T.m_asked_wishes T.F_asked_wishes.kp T.b_asked_wishes .nil passU (pa_cons (pv 3) (pa_cons (pe_ix oIx (pe_call (ok_world_start T) (hr.mono (by decide)) (by rfl) T.m_world_start T.F_world_start.kp T.b_world_start .nil passU (pa_cons (pv 3) (pa_cons (pv 4) pa_nil))) pe_int (fun _ _ => rfl)) (pa_cons (pe_slice oSl (pv 1) (po_some pe_int) po_none) pa_nil)))) pa_nil)))))))))))), ?_⟩
    rw [← nz_snd _ 0] at hf
    obtain ⟨hsp, hln⟩ := lnG_ok hok
    have hps := ClV.wrs (G83.cl hok).1
    repeat walk_at "vs"
    refine ⟨z, rfl, hl, fun l ys H1 n1 q1 rw1 e1 => ?_⟩
    generalize nzRows (Txt.split z ⟨#[10]⟩) 0 = rs at *
    cases rs with
    | nil => cases hf
    | cons p rs =>
      rw [List.map_cons] at hf
      injection hf with hf1 hf2
      obtain ⟨n, zl⟩ := p
      have hf1 : zl = lnG g := hf1
      subst hf1
      obtain ⟨ta, us, rfl, hta, rw2⟩ := RwAt.tail rw1
      have hta : H1 ta = some (.tup [.int (n : Nat), .str (lnG g)]) := hta
      repeat walk_at "vs"
      refine ⟨_, .inl ⟨_, SqL.of q1, rfl⟩, ?_⟩
      repeat walk_at "vs"
      refine r_ixL q1 (atI_int (by decide) rfl) ?_
      repeat walk_at "vs"
      refine r_ixT hta rfl ?_
      repeat walk_at "vs"
      refine ⟨_, _, _, rfl, hln.asc, by have := hln.2.2; omega, hsp, fun t q H2 q2 qq2 e2 => ?_⟩
      rw [hps] at qq2
      repeat walk_at "vs"
      refine r_ixT q2 rfl ?_
      repeat walk_at "vs"
      refine r_ixT q2 rfl ?_
      repeat walk_at "vs"
      refine ⟨g, g.word, q, rfl, ⟨rfl, qq2, hok⟩, fun H3 e3 => ?_⟩
      repeat walk_at "vs"
      refine ⟨g, g.word, q, rfl, ⟨rfl, e3 _ _ qq2, hok⟩, fun t4 w v4 H4 q4 w4 _ e4 => ?_⟩
      repeat walk_at "vs"
      refine r_ixT q4 rfl ?_
      have x4 := e2.tr (e3.tr e4)
      repeat walk_at "vs"
      refine r_slL (x4 _ _ q1) fun l5 H5 n5 q5 e5 => ?_
      rw [cut_one _ (by simp), List.drop_one, List.tail_cons] at q5
      repeat walk_at "vs"
      refine ⟨g, g.word, w, l5, ws, rs, us, rfl, rfl, hok, RS.woE e5 w4, hws, hl2, q5, rw2.kp (x4.tr e5).kp, hf2, fun l6 wvs H6 n6 q6 a6 e6 => ?_⟩
      repeat walk_at "vs"
      intro t7 H7 n7 q7 e7
      have xx := e1.tr (x4.tr e5)
      exact hq t7 q l6 wvs H7 q7 ((((e3.tr e4).tr e5).tr (e6.tr e7)) _ _ qq2) (xx.free n6) (e7 _ _ q6) (a6.mono fun _ _ zz => e7 _ _ zz) (xx.tr (e6.tr e7))
def sp_law_mixed : Sp := fun vs H Q _ => ∃ c k, vs = [.int c, .int k] ∧ 0 ≤ k ∧ k ≤ 1000000 ∧ ∀ n, 0 ≤ n → n < 2147483629 → Q (.int n) H
theorem ok_law_mixed (T : Txt w K mg a) : FnOk P w K mg base (CXU P w) 1 a.f_law_mixed a.d_law_mixed ["_law_cell_here", "_law_k"] (sp_law_mixed) := by
  refine T.F_law_mixed.okU sc_law_mixed (fun vs H Q E h => ?_) (fun cdv A outer s H vs Q E hr h => ?_)
  · obtain ⟨c, k, rfl, h0, h1, hq⟩ := h
    rfl
  · obtain ⟨c, k, rfl, h0, h1, hq⟩ := h
    refine ⟨_, (pss_cons (ps_set (i := 2) sc_law_mixed.nd rfl (by first | exact Or.inl rfl | exact Or.inr rfl) (pe_op op_mod (pe_op oAddW (pe_op oAddW (pe_op oMulW (pe_op op_mod (pv 0) pe_int) pe_int) (pe_op oMulW (pe_op oMulW pe_int (pv 1)) (pv 1))) pe_int) pe_int))
      (pss_one (ps_ret (pe_op op_mod (pe_op oMulW (pv 2) (pv 2)) pe_int)))), ?_⟩
    repeat walk_at "vs"
    exact hq _ (by omega) (by omega)
def sp_law_cell (K : PySem.W.Frag) : Sp := fun vs H Q _ => ∃ (p : Addr) (ns : List Int) (k : Int), vs = [.ref p, .int k] ∧ SqL K H p (ns.map V.int) ∧ 0 ≤ k ∧ (∀ z ∈ ns, ib z ≤ 1048576) ∧ ∀ c, ib c ≤ 1048576 → Q (.int c) H
theorem ok_law_cell (T : Txt w K mg a) : FnOk P w K mg base (CXU P w) 1 a.f_law_cell a.d_law_cell ["_law_script", "_law_k"] (sp_law_cell K) := by
  refine T.F_law_cell.okU sc_law_cell (fun vs H Q E h => ?_) (fun cdv A outer s H vs Q E hr h => ?_)
  · obtain ⟨p, ns, k, rfl, hS, hk, hb, hq⟩ := h
    rfl
  · obtain ⟨p, ns, k, rfl, hS, hk, hb, hq⟩ := h
    refine ⟨_, (pss_cons (ps_if (pt_cmpR op_lt (pv 1) (pe_callB cLenW (by rfl) T.n_len PySem.boot_len (pa_cons (pv 0) pa_nil)) (nomark _)) (pss_one (ps_ret (pe_ix oIx (pv 0) (pv 1) (fun _ _ => rfl)))) pss_nil)
      (pss_one (ps_ret pe_int))), ?_⟩
    repeat walk_at "vs"
    refine r_lenWQ hS ?_
    repeat walk_at "vs"
    rw [List.length_map]
    refine iteD (fun h => ?_) (fun h => ?_)
    · repeat walk_at "vs"
      have hl : k.toNat < ns.length := by omega
      refine r_ixS hS (v := .int ns[k.toNat]) (atI_int hk (by rw [List.getElem?_map, List.getElem?_eq_getElem hl]; rfl)) ?_
      exact hq _ (hb _ (List.getElem_mem hl))
    · repeat walk_at "vs"
      exact hq 0 (by decide)
theorem nz_app (a b : List Str) : ((a ++ b).filter fun x => !decide (x = (⟨#[]⟩ : Str))) = (a.filter fun x => !decide (x = ⟨#[]⟩)) ++ b.filter fun x => !decide (x = ⟨#[]⟩) := List.filter_append ..
theorem nz_rep (k : Nat) : ((List.replicate k (⟨#[]⟩ : Str)).filter fun x => !decide (x = ⟨#[]⟩)) = [] := by
  rw [List.filter_eq_nil_iff]
  intro x hx
  rw [(List.mem_replicate.mp hx).2]
  simp
theorem nz_ln {z : Str} (h : 1 ≤ z.length) : z ≠ ⟨#[]⟩ := fun e => by rw [e] at h; exact absurd h (by decide)
def sp_law_text (K : PySem.W.Frag) : Sp := fun vs H Q _ => ∃ (p lp : Addr) (cs : List Int) (zs : List Str), vs = [.ref p, .ref lp] ∧ SqL K H p (cs.map V.int) ∧ (∀ z ∈ cs, ib z ≤ 1048576) ∧ H lp = some (.lst (zs.map V.str)) ∧ (∀ z ∈ zs, LnOk z) ∧ 1 ≤ zs.length ∧ zs.length ≤ 201 ∧ ∀ z H', z.length ≤ 999990 → ((Txt.split z ⟨#[10]⟩).filter fun x => !decide (x = ⟨#[]⟩)) = zs → Ext H H' → Q (.str z) H'
theorem ok_law_text (T : Txt w K mg a) : FnOk P w K mg base (CXU P w) 2 a.f_law_text a.d_law_text ["_law_script", "_law_lines_here"] (sp_law_text K) := by
  refine T.F_law_text.okU sc_law_text (fun vs H Q E h => ?_) (fun cdv A outer s H vs Q E hr h => ?_)
  · obtain ⟨p, lp, cs, zs, rfl, hS, hb, hlp, hz, h1, h2, hq⟩ := h
    rfl
  · obtain ⟨p, lp, cs, zs, rfl, hS, hb, hlp, hz, h1, h2, hq⟩ := h
    refine ⟨_, (pss_cons (ps_set (i := 2) sc_law_text.nd rfl (by first | exact Or.inl rfl | exact Or.inr rfl) (pe_lst pa_nil))
      (pss_cons (ps_for PassesOwn.never rfl (pi_range1 rfl T.n_range (pa_cons (pe_callB cLenW (by rfl) T.n_len PySem.boot_len (pa_cons (pv 1) pa_nil)) pa_nil)) (pg_name (i := 3) sc_law_text.nd rfl (by first | exact Or.inl rfl | exact Or.inr rfl)) (pss_cons (ps_set (i := 2) sc_law_text.nd rfl (by first | exact Or.inl rfl | exact Or.inr rfl) (pe_op oAddW (pv 2) (pe_op op_rep (pe_lst (pa_cons pe_str pa_nil)) (pe_ix oIx (pe_lst (pa_cons pe_int (pa_cons pe_int (pa_cons pe_int (pa_cons pe_int (pa_cons pe_int pa_nil)))))) (pe_op op_mod (pe_call (ok_law_mixed T) (hr.mono (by decide)) (by rfl) T.m_law_mixed T.F_law_mixed.kp T.b_law_mixed .nil passU (pa_cons (pe_call (ok_law_cell T) (hr.mono (by decide)) (by rfl) T.m_law_cell T.F_law_cell.kp T.b_law_cell .nil passU (pa_cons (pv 0) (pa_cons pe_int pa_nil))) (pa_cons (pe_op oAddW pe_int (pv 3)) pa_nil))) pe_int) (fun _ _ => rfl)))))
      (pss_one (ps_expr (pe_bm PySem.F.plainAttrs_list PySem.F.slot_list_append PySem.F.type_list_append mt_append (pv 2) (pa_cons (pe_ix oIx (pv 1) (pv 3) (fun _ _ => rfl)) pa_nil))))))
      (pss_one (ps_ret (pe_sm PySem.F.plainAttrs_str PySem.F.slot_str_join PySem.F.type_str_join mt_join pe_str (pa_cons (pe_op oAddW (pv 2) (pe_op op_rep (pe_lst (pa_cons pe_str pa_nil)) (pe_op op_mod (pe_call (ok_law_mixed T) (hr.mono (by decide)) (by rfl) T.m_law_mixed T.F_law_mixed.kp T.b_law_mixed .nil passU (pa_cons (pe_call (ok_law_cell T) (hr.mono (by decide)) (by rfl) T.m_law_cell T.F_law_cell.kp T.b_law_cell .nil passU (pa_cons (pv 0) (pa_cons pe_int pa_nil))) (pa_cons pe_int pa_nil))) pe_int))) pa_nil)))))), ?_⟩
    have e0 : Str.ofString "" = (⟨#[]⟩ : Str) := by decide
    repeat walk_at "vs"
    intro l1 H1 n1 q1 e1
    repeat walk_at "vs"
    refine r_lenWL (e1 _ _ hlp) ?_
    rw [List.length_map]
    repeat walk_at "vs"
    refine ⟨_, rfl, by omega, by omega, for_range (fun i σ H2 => ∃ (u : Option V) (f : Addr) (fs : List Str), σ = [some (.ref p), some (.ref lp), some (.ref f), u] ∧ Ext H H2 ∧ H2 f = some (.lst (fs.map V.str)) ∧ H f = none ∧ (∀ x ∈ fs, x = ⟨#[]⟩ ∨ x ∈ zs) ∧ (fs.filter fun x => !decide (x = ⟨#[]⟩)) = zs.take i ∧ fs.length ≤ 3 * i) ⟨none, l1, [], rfl, e1, q1, n1, (fun x hx => by cases hx), by simp, by simp⟩ ?_ ?_⟩
    · rintro i σ H2 hi ⟨u, f, fs, rfl, x2, q2, nf, hm, hfl, hln⟩
      rw [show ((0 : Int) + (i : Nat)) = (i : Nat) by omega]
      have hi' : i < zs.length := by omega
      repeat walk_at "vs"
      intro l3 H3 n3 q3 e3
      repeat walk_at "vs"
      intro l4 H4 n4 q4 e4
      have x4 := x2.tr (e3.tr e4)
      repeat walk_at "vs"
      refine ⟨p, cs, 0, rfl, x4.seqL hS, by decide, hb, fun c hc => ?_⟩
      repeat walk_at "vs"
      refine ⟨_, _, rfl, by omega, by omega, fun n n0 n1' => ?_⟩
      repeat walk_at "vs"
      obtain ⟨k, hk, k2⟩ : ∃ k : Nat, atI [V.int 0, V.int 0, V.int 0, V.int 1, V.int 2] (n % 5) = some (.int (k : Nat)) ∧ k ≤ 2 := by
        have h5 : n % 5 = 0 ∨ n % 5 = 1 ∨ n % 5 = 2 ∨ n % 5 = 3 ∨ n % 5 = 4 := by omega
        rcases h5 with e | e | e | e | e <;> rw [e]
        · exact ⟨0, rfl, by decide⟩
        · exact ⟨0, rfl, by decide⟩
        · exact ⟨0, rfl, by decide⟩
        · exact ⟨1, rfl, by decide⟩
        · exact ⟨2, rfl, by decide⟩
      refine r_ixL q4 hk ?_
      repeat walk_at "vs"
      refine r_rep1 (e4 _ _ q3) (by omega) (by omega) fun l5 H5 n5 q5 e5 => ?_
      have x5 := x4.tr e5
      rw [Int.toNat_natCast, e0, show List.replicate k (V.str ⟨#[]⟩) = (List.replicate k (⟨#[]⟩ : Str)).map V.str by rw [List.map_replicate]] at q5
      have q25 := ((e3.tr e4).tr e5) _ _ q2
      repeat walk_at "vs"
      refine r_addWL q25 q5 (by simp; omega) fun l6 H6 n6 q6 e6 => ?_
      have x6 := x5.tr e6
      rw [← List.map_append] at q6
      repeat walk_at "vs"
      refine r_ixL (x6 _ _ hlp) (v := .str zs[i]) (atI_int (by omega) (by rw [Int.toNat_natCast, List.getElem?_map, List.getElem?_eq_getElem hi']; rfl)) ?_
      have hzi := hz _ (List.getElem_mem hi')
      have hmi := List.getElem_mem hi'
      have etk : zs.take (i + 1) = zs.take i ++ [zs[i]] := by rw [List.take_succ, List.getElem?_eq_getElem hi']; rfl
      generalize zs[i] = y at *
      repeat walk_at "vs"
      refine r_append q6 (by simp; omega) fun H7 q7 b7 => ?_
      refine ⟨_, l6, fs ++ List.replicate k ⟨#[]⟩ ++ [y], rfl, Ext.but x6 b7 (x5.free n6), by rw [q7]; simp, x5.free n6, fun x hx => ?_, ?_, by simp; omega⟩
      · rcases List.mem_append.mp hx with hx | hx
        · rcases List.mem_append.mp hx with hx | hx
          · exact hm x hx
          · exact .inl (List.mem_replicate.mp hx).2
        · rw [List.mem_singleton.mp hx]; exact .inr hmi
      · rw [nz_app, nz_app, nz_rep, hfl, etk, List.append_nil, List.filter_cons_of_pos (by simp [nz_ln hzi.2.1]), List.filter_nil]
    · rintro σ H2 ⟨u, f, fs, rfl, x2, q2, nf, hm, hfl, hln⟩
      rw [Int.toNat_natCast, List.take_length] at hfl
      rw [Int.toNat_natCast] at hln
      repeat walk_at "vs"
      intro l3 H3 n3 q3 e3
      have x3 := x2.tr e3
      repeat walk_at "vs"
      refine ⟨p, cs, 0, rfl, x3.seqL hS, by decide, hb, fun c hc => ?_⟩
      repeat walk_at "vs"
      refine ⟨_, _, rfl, by omega, by omega, fun n n0 n1' => ?_⟩
      obtain ⟨k, ek, k2⟩ : ∃ k : Nat, n % 3 = k ∧ k ≤ 2 := ⟨(n % 3).toNat, by omega, by omega⟩
      repeat walk_at "vs"
      rw [ek]
      refine r_rep1 q3 (by omega) (by omega) fun l5 H5 n5 q5 e5 => ?_
      rw [Int.toNat_natCast, e0, show List.replicate k (V.str ⟨#[]⟩) = (List.replicate k (⟨#[]⟩ : Str)).map V.str by rw [List.map_replicate]] at q5
      repeat walk_at "vs"
      refine r_addWL ((e3.tr e5) _ _ q2) q5 (by simp; omega) fun l6 H6 n6 q6 e6 => ?_
      rw [← List.map_append] at q6
      have hall : ∀ x ∈ fs ++ List.replicate k (⟨#[]⟩ : Str), x = ⟨#[]⟩ ∨ x ∈ zs := fun x hx => by
        rcases List.mem_append.mp hx with hx | hx
        · exact hm x hx
        · exact .inl (List.mem_replicate.mp hx).2
      have hlen : ∀ x ∈ fs ++ List.replicate k (⟨#[]⟩ : Str), x.length ≤ 200 := fun x hx => by
        rcases hall x hx with rfl | hx
        · decide
        · exact (hz x hx).2.2
      have hll : (fs ++ List.replicate k (⟨#[]⟩ : Str)).length ≤ 605 := by simp; omega
      repeat walk_at "vs"
      rw [show Str.ofString "\n" = (⟨#[10]⟩ : Str) by decide]
      refine r_join q6 (join_ok 10 (k := 200) (n := 605) hlen hll (by decide)) ?_
      refine hq _ H6 ?_ ?_ (x3.tr (e5.tr e6))
      · exact Nat.le_trans (join_len 10 (k := 200) hlen) (Nat.le_trans (Nat.mul_le_mul_left 201 hll) (by decide))
      · rw [split_join, nz_app, nz_rep, hfl, List.append_nil]
        · intro e
          rw [(List.append_eq_nil_iff.mp e).1] at hfl
          rw [← hfl] at h1
          exact absurd h1 (by decide)
        · intro x hx hc
          rcases hall x hx with rfl | hx
          · cases hc
          · rcases (hz x hx).1 10 hc with (h | h | h) | h <;> omega
def sp_law_words : Sp := fun vs H Q _ => ∃ v, vs = [v] ∧ ((∃ (p : Addr) (xs : List V), v = .ref p ∧ H p = some (.tup xs) ∧ (∀ x ∈ xs, ClV x) ∧ xs.length ≤ 8 ∧ ∀ H', Ext H H' → Q (.str (Str.join ⟨#[32]⟩ (xs.map txV))) H') ∨ (ClV v ∧ Q (.str (txV v)) H))
theorem ok_law_words (T : Txt w K mg a) : FnOk P w K mg base (CXU P w) 1 a.f_law_words a.d_law_words ["_law_thing"] (sp_law_words) := by
  refine T.F_law_words.okU sc_law_words (fun vs H Q E h => ?_) (fun cdv A outer s H vs Q E hr h => ?_)
  · obtain ⟨v, rfl, hv⟩ := h
    rfl
  · obtain ⟨v, rfl, hv⟩ := h
    refine ⟨_, (pss_cons (ps_if (ptT (pe_callB cIsin (by rfl) T.n_isinstance PyProof.Rows.boot_isinstance (pa_cons (pv 0) (pa_cons (pe_bltn (v := V.ty "tuple") (by rfl) T.n_tuple PyProof.Rows.boot_tuple rfl) pa_nil))) (fun _ => rfl)) (pss_one (ps_ret (pe_sm PySem.F.plainAttrs_str PySem.F.slot_str_join PySem.F.type_str_join mt_join pe_str (pa_cons (pe_comp (["_law_part"] : List Str) ([] : List Str) [] rfl ⟨rfl, by decide +kernel, by decide +kernel, by rfl, trivial⟩ (pi_tup (pv 0)) (fun _ _ _ _ => ⟨(pg_name (i := 0) (by show ((["_law_part"] : List Str) ++ ([] : List Str)).Nodup; decide +kernel) rfl (by first | exact Or.inl rfl | exact Or.inr rfl)), (show PTs _ [] [] from trivial), (pe_callTy cStrA (by rfl) T.n_str PyProof.Rows.boot_str (pa_cons (pv 0) pa_nil))⟩)) pa_nil)))) pss_nil)
      (pss_one (ps_ret (pe_callTy cStrA (by rfl) T.n_str PyProof.Rows.boot_str (pa_cons (pv 0) pa_nil))))), ?_⟩
    have big : ∀ n : Int, -1000000000000000000 ≤ n → n ≤ 1000000000000000000 → n.natAbs.log2 < 1920 := fun n h0 h1 => by
      rcases Nat.eq_zero_or_pos n.natAbs with e | e
      · rw [e]; decide
      · rw [Nat.log2_lt (by omega)]
        have : (1000000000000000000 : Nat) < 2 ^ 1920 := by decide +kernel
        omega
    rcases hv with ⟨p, xs, rfl, hp, hx, hl, hq⟩ | ⟨hv, hq⟩
    · repeat walk_at "vs"
      refine r_isT (HasK.t hp) ?_
      repeat walk_at "vs"
      refine ⟨p, rfl, ⟨_, SqT.of hp⟩, fun acc hn _ _ _ _ => comp_tup (SqT.of hp) (by omega) hn (fun i ys _ => ys = ((xs.take i).map txV).map V.str) (by simp) (fun _ _ _ _ _ h => h) (fun i ys H' _ h => by rw [h]; simp; omega) ?_ ?_⟩
      · intro i x ys H2 hx2 e h Y N hY hN
        have hc := hx x (List.mem_of_getElem? hx2)
        have et : ((xs.take (i + 1)).map txV).map V.str = ys ++ [.str (txV x)] := by rw [List.take_succ, hx2, h]; simp
        repeat walk_at "vs"
        cases x with
        | int n =>
          refine r_strAI (big n hc.1 hc.2) ?_
          exact hY _ _ Ext.rfl' et.symm
        | str z =>
          refine r_strAS ?_
          exact hY _ _ Ext.rfl' et.symm
        | _ => exact hc.elim
      · intro ys H2 e2 q2 h
        rw [List.take_length] at h
        subst h
        repeat walk_at "vs"
        rw [show Str.ofString " " = (⟨#[32]⟩ : Str) by decide]
        refine r_join q2 (join_ok 32 (k := 20) (n := 8) (fun z hz => ?_) (by rw [List.length_map]; exact hl) (by decide)) ?_
        · obtain ⟨v, h1, rfl⟩ := List.mem_map.mp hz
          exact (hx v h1).sg.2.2
        exact hq H2 e2
    · cases v with
      | int n =>
        repeat walk_at "vs"
        refine r_isT (k := .int) rfl ?_
        repeat walk_at "vs"
        refine r_strAI (big n hv.1 hv.2) ?_
        exact hq
      | str z =>
        repeat walk_at "vs"
        refine r_isT (k := .str) rfl ?_
        repeat walk_at "vs"
        refine r_strAS ?_
        exact hq
      | _ => exact hv.elim
def sp_law_lines : Sp := fun vs H Q _ => ∃ (g : G83) (wd : Str) (p wl : Addr) (ws : List W83) (wvs : List V), vs = [.str wd, .ref p, .ref wl] ∧ GAt H g wd p ∧ H wl = some (.lst wvs) ∧ AllW H ws wvs ∧ (∀ w ∈ ws, g.rs.okW w) ∧ ws.length ≤ 200 ∧ ∀ l H', H l = none → H' l = some (.lst ((lnG g :: ws.map lnW).map V.str)) → Ext H H' → Q (.ref l) H'
theorem ok_law_lines (T : Txt w K mg a) : FnOk P w K mg base (CXU P w) 2 a.f_law_lines a.d_law_lines ["_law_word", "_law_start_here", "_law_wishes"] (sp_law_lines) := by
  refine T.F_law_lines.okU sc_law_lines (fun vs H Q E h => ?_) (fun cdv A outer s H vs Q E hr h => ?_)
  · obtain ⟨g, wd, p, wl, ws, wvs, rfl, ⟨hwd, hp, hok⟩, hwl, haw, hws, hl, hq⟩ := h
    rfl
  · obtain ⟨g, wd, p, wl, ws, wvs, rfl, ⟨hwd, hp, hok⟩, hwl, haw, hws, hl, hq⟩ := h
    refine ⟨_, (pss_one (ps_ret (pe_op oAddW (pe_lst (pa_cons (pe_op oAddW (pe_op oAddW (pv 0) pe_str) (pe_call (ok_law_words T) (hr.mono (by decide)) (by rfl) T.m_law_words T.F_law_words.kp T.b_law_words .nil passU (pa_cons (pv 1) pa_nil))) pa_nil)) (pe_comp (["_law_wish_here"] : List Str) ([] : List Str) [] rfl ⟨rfl, by decide +kernel, by decide +kernel, by rfl, trivial⟩ (pi_list (pv 2)) (fun _ _ _ _ => ⟨(pg_name (i := 0) (by show ((["_law_wish_here"] : List Str) ++ ([] : List Str)).Nodup; decide +kernel) rfl (by first | exact Or.inl rfl | exact Or.inr rfl)), (show PTs _ [] [] from trivial), (pe_op oAddW pe_str (pe_call (ok_law_words T) (hr.mono (by decide)) (by rfl) T.m_law_words T.F_law_words.kp T.b_law_words .nil passU (pa_cons (pv 0) pa_nil)))⟩))))), ?_⟩
    obtain ⟨cl, c1, c8⟩ := G83.cl hok
    have lw := haw.len
    have wdl := nmS_len (G83.nmw g)
    have jl : ∀ xs : List V, (∀ x ∈ xs, ClV x) → xs.length ≤ 8 → (Str.join ⟨#[32]⟩ (xs.map txV)).length ≤ 168 := fun xs hx h8 => by
      have := join_len 32 (k := 20) (zs := xs.map txV) fun z hz => by
        obtain ⟨v, h1, rfl⟩ := List.mem_map.mp hz
        exact (hx v h1).sg.2.2
      rw [List.length_map] at this
      omega
    have jn : ∀ (k : Str) (xs : List V), 1 ≤ xs.length → k ++ (⟨#[32]⟩ : Str) ++ Str.join ⟨#[32]⟩ (xs.map txV) = Str.join ⟨#[32]⟩ (k :: xs.map txV) := fun k xs h => by
      cases xs with
      | nil => simp at h
      | cons x r => rfl
    have j1 := jl g.tup cl c8
    have apl : ∀ (x y : Str), (x ++ y).length = x.length + y.length := Str.length_append
    repeat walk_at "vs"
    rw [show Str.ofString " " = (⟨#[32]⟩ : Str) by decide]
    refine r_addWS (by rw [hwd]; show _ + 1 ≤ _; omega) ?_
    repeat walk_at "vs"
    refine ⟨_, rfl, .inl ⟨p, g.tup, rfl, hp, cl, c8, fun H1 e1 => ?_⟩⟩
    repeat walk_at "vs"
    refine r_addWS (by rw [apl, hwd]; show _ + 1 + _ ≤ _; omega) ?_
    rw [jn _ _ c1, hwd]
    repeat walk_at "vs"
    intro l2 H2 n2 q2 e2
    have x2 := e1.tr e2
    repeat walk_at "vs"
    refine ⟨wl, rfl, ⟨_, SqL.of (x2 _ _ hwl)⟩, fun acc hn _ _ _ _ => comp_list (SqL.of (x2 _ _ hwl)) (by omega) hn (fun i ys _ => ys = ((ws.take i).map lnW).map V.str) (by simp) (fun _ _ _ _ _ h => h) (fun i ys H' _ h => by rw [h]; simp; omega) ?_ ?_⟩
    · intro i x ys H3 hx e h Y N hY hN
      have hi : i < ws.length := by rw [← lw]; exact (List.getElem?_eq_some_iff.mp hx).1
      obtain ⟨v, hv1, hv2⟩ := AllW.get (haw.mono fun _ _ zz => (x2.tr e) _ _ zz) (List.getElem?_eq_getElem hi)
      rw [hx] at hv1
      cases hv1
      have et : ((ws.take (i + 1)).map lnW).map V.str = ys ++ [.str (lnW ws[i])] := by
        rw [show ws.take (i + 1) = ws.take i ++ [ws[i]] by rw [List.take_succ, List.getElem?_eq_getElem hi]; rfl, List.map_append, List.map_append, h]
        rfl
      obtain ⟨wc, w1, w8⟩ := okW_cl hok (hws _ (List.getElem_mem hi))
      have j2 := jl _ wc w8
      have en : askS ++ (⟨#[32]⟩ : Str) ++ Str.join ⟨#[32]⟩ (ws[i].ps.map txV) = lnW ws[i] := jn askS _ w1
      rw [← en] at et
      generalize ws[i] = ww at *
      have fin : ∀ H4, Ext H3 H4 → Y (.str (askS ++ (⟨#[32]⟩ : Str) ++ Str.join ⟨#[32]⟩ (ww.ps.map txV))) H4 := fun H4 e4 => hY _ _ e4 et.symm
      have ea : Str.ofString "ask " = askS ++ (⟨#[32]⟩ : Str) := by decide
      have al : (askS ++ (⟨#[32]⟩ : Str)).length = 4 := by decide
      repeat walk_at "vs"
      rw [ea]
      cases ww with
      | l cs =>
        obtain ⟨q, rfl, hq2⟩ := hv2
        refine ⟨_, rfl, .inl ⟨q, _, rfl, hq2, wc, w8, fun H4 e4 => ?_⟩⟩
        repeat walk_at "vs"
        refine r_addWS (by rw [al]; exact Nat.le_trans (Nat.add_le_add_left j2 4) (by decide)) ?_
        exact fin H4 e4
      | i z =>
        obtain rfl : x = .int z := hv2
        refine ⟨_, rfl, .inr ⟨wc _ List.mem_cons_self, ?_⟩⟩
        repeat walk_at "vs"
        refine r_addWS (by rw [al]; exact Nat.le_trans (Nat.add_le_add_left j2 4) (by decide)) ?_
        exact fin H3 Ext.rfl'
      | s z =>
        obtain rfl : x = .str z := hv2
        refine ⟨_, rfl, .inr ⟨wc _ List.mem_cons_self, ?_⟩⟩
        repeat walk_at "vs"
        refine r_addWS (by rw [al]; exact Nat.le_trans (Nat.add_le_add_left j2 4) (by decide)) ?_
        exact fin H3 Ext.rfl'
    · intro ys H3 e3 q3 h
      rw [lw, List.take_length] at h
      subst h
      repeat walk_at "vs"
      refine r_addWL (e3 _ _ q2) q3 (by simp; omega) fun l4 H4 n4 q4 e4 => ?_
      exact hq l4 H4 ((x2.tr e3).free n4) q4 ((x2.tr e3).tr e4)
theorem at4p {x y z u lo hi : Int} (n : Int) (h : lo ≤ x ∧ x ≤ hi) (h2 : lo ≤ y ∧ y ≤ hi) (h3 : lo ≤ z ∧ z ≤ hi) (h4 : lo ≤ u ∧ u ≤ hi) : ∃ m : Int, atI [V.int x, V.int y, V.int z, V.int u] (n % 4) = some (.int m) ∧ lo ≤ m ∧ m ≤ hi := by
  have h0 : n % 4 = 0 ∨ n % 4 = 1 ∨ n % 4 = 2 ∨ n % 4 = 3 := by omega
  rcases h0 with e | e | e | e <;> rw [e]
  · exact ⟨x, rfl, h⟩
  · exact ⟨y, rfl, h2⟩
  · exact ⟨z, rfl, h3⟩
  · exact ⟨u, rfl, h4⟩
def sp_law_amount : Sp := fun vs H Q _ => ∃ c k, vs = [.int c, .int k] ∧ 0 ≤ k ∧ k ≤ 1000000 ∧ ib c ≤ 1048577 ∧ ∀ n H', 0 ≤ n → n ≤ 1000000000000000000 → Ext H H' → Q (.int n) H'
theorem ok_law_amount (T : Txt w K mg a) : FnOk P w K mg base (CXU P w) 2 a.f_law_amount a.d_law_amount ["_law_cell_here", "_law_k"] (sp_law_amount) := by
  refine T.F_law_amount.okU sc_law_amount (fun vs H Q E h => ?_) (fun cdv A outer s H vs Q E hr h => ?_)
  · obtain ⟨c, k, rfl, k0, k1, hb, hq⟩ := h
    rfl
  · obtain ⟨c, k, rfl, k0, k1, hb, hq⟩ := h
    refine ⟨_, (pss_cons (ps_set (i := 2) sc_law_amount.nd rfl (by first | exact Or.inl rfl | exact Or.inr rfl) (pe_call (ok_law_mixed T) (hr.mono (by decide)) (by rfl) T.m_law_mixed T.F_law_mixed.kp T.b_law_mixed .nil passU (pa_cons (pv 0) (pa_cons (pv 1) pa_nil))))
      (pss_cons (ps_if (pt_cmpR op_lt (pe_op op_mod (pv 2) pe_int) pe_int (nomark _)) (pss_one (ps_ret (pe_op op_mod (pe_op op_fdivB (pv 2) pe_int) pe_int))) pss_nil)
      (pss_cons (ps_if (pt_cmpR (oEq hr) (pe_op op_mod (pv 2) pe_int) pe_int (nomark _)) (pss_one (ps_ret (pe_ix oIx (pe_lst (pa_cons (pe_op op_pow pe_int pe_int) (pa_cons (pe_op op_sub (pe_op op_pow pe_int pe_int) pe_int) (pa_cons pe_int (pa_cons pe_int pa_nil))))) (pe_op op_mod (pe_op op_fdivB (pv 2) pe_int) pe_int) (fun _ _ => rfl)))) pss_nil)
      (pss_one (ps_ret (pe_op op_mod (pe_op oMulW (pe_op oAddW (pv 0) (pv 2)) (pe_op op_pow pe_int pe_int)) (pe_op oAddW (pe_op op_pow pe_int pe_int) pe_int))))))), ?_⟩
    repeat walk_at "vs"
    refine ⟨c, k, rfl, k0, k1, fun n n0 n1 => ?_⟩
    repeat walk_at "vs"
    refine iteD (fun h => ?_) (fun h => ?_)
    · repeat walk_at "vs"
      exact hq _ _ (by omega) (by omega) Ext.rfl'
    · repeat walk_at "vs"
      refine iteD (fun h => ?_) (fun h => ?_)
      · repeat walk_at "vs"
        intro l H1 nl q1 e1
        repeat walk_at "vs"
        obtain ⟨m, hm, m0, m1⟩ := at4p (lo := 0) (hi := 1000000000000000000) (x := 1000000000000000000) (y := 1000000000000000000 - 1) (z := 0) (u := 1) (n / 4) (by omega) (by omega) (by omega) (by omega)
        refine r_ixL q1 hm ?_
        repeat walk_at "vs"
        exact hq _ _ m0 m1 e1
      · repeat walk_at "vs"
        refine r_mulWI (mulM hb n0 n1) ?_
        repeat walk_at "vs"
        exact hq _ _ (by omega) (by omega) Ext.rfl'
def stm (q : Nat) : Str := match q with | 0 => Str.ofString "abcdefgh" | 1 => Str.ofString "stopstop" | 2 => Str.ofString "zyxwvuts" | _ => Str.ofString "aaaaaaaa"
theorem stm_8 : ∀ q : Nat, q < 4 → (stm q).length = 8 := by decide +kernel
theorem stm_len : ∀ q : Nat, q < 4 → ∀ l : Nat, l < 8 → (outS (stm q) none (some ((1 + l : Nat) : Int))).length = 1 + l := by decide +kernel
theorem stm_ok : ∀ q : Nat, q < 4 → ∀ l : Nat, l < 8 → ∀ k : Nat, k < 1 + l → (outS (outS (stm q) none (some ((1 + l : Nat) : Int))) none (some (k : Int))).length + (outS (outS (stm q) none (some ((1 + l : Nat) : Int))) (some ((k : Int) + 1)) none).length + 1 ≤ 8 ∧ (outS (outS (stm q) none (some ((1 + l : Nat) : Int))) none (some (k : Int))).cps.toList.all nmL = true ∧ (outS (outS (stm q) none (some ((1 + l : Nat) : Int))) (some ((k : Int) + 1)) none).cps.toList.all nmL = true := by decide +kernel
theorem stm_at (n : Int) : ∃ q : Nat, q < 4 ∧ atI [V.str (Str.ofString "abcdefgh"), V.str (Str.ofString "stopstop"), V.str (Str.ofString "zyxwvuts"), V.str (Str.ofString "aaaaaaaa")] (n % 4) = some (.str (stm q)) := by
  have h0 : n % 4 = 0 ∨ n % 4 = 1 ∨ n % 4 = 2 ∨ n % 4 = 3 := by omega
  rcases h0 with e | e | e | e <;> rw [e]
  · exact ⟨0, by decide, rfl⟩
  · exact ⟨1, by decide, rfl⟩
  · exact ⟨2, by decide, rfl⟩
  · exact ⟨3, by decide, rfl⟩
theorem abc83_len : (Str.ofString "abcdefghijklmnopqrstuvwxyz").length = 26 := by decide
theorem abc83_at {i : Int} (h0 : 0 ≤ i) (h1 : i < 26) : atI (Str.ofString "abcdefghijklmnopqrstuvwxyz").cps.toList i = some (97 + i.toNat) := by
  have e : (Str.ofString "abcdefghijklmnopqrstuvwxyz").cps.toList = (List.range 26).map (97 + ·) := by decide
  rw [e]
  refine atI_int h0 ?_
  rw [List.getElem?_map, List.getElem?_range (by omega)]
  rfl
theorem app83 (a b : Str) : (a ++ b).cps.toList = a.cps.toList ++ b.cps.toList := by
  show (a.cps ++ b.cps).toList = _
  simp
def nm83 (x y : Str) (c j : Nat) : Str := x ++ (⟨#[97 + (c + 3 * j) % 26]⟩ : Str) ++ y
theorem nm83_l (x y : Str) (c j : Nat) : (nm83 x y c j).cps.toList = x.cps.toList ++ [97 + (c + 3 * j) % 26] ++ y.cps.toList := by
  unfold nm83
  rw [app83, app83]
theorem nm83_n {x y : Str} {c j : Nat} (hl : x.length + y.length + 1 ≤ 8) (hx : x.cps.toList.all nmL = true) (hy : y.cps.toList.all nmL = true) : nmS (nm83 x y c j) = true := by
  have l : (nm83 x y c j).length = x.length + 1 + y.length := by
    show (nm83 x y c j).cps.size = _
    rw [← Array.length_toList, nm83_l]
    simp
    show x.cps.size + (y.cps.size + 1) = x.cps.size + 1 + y.cps.size
    omega
  unfold nmS
  rw [l, nm83_l, decide_eq_true (show 1 ≤ x.length + 1 + y.length by omega), decide_eq_true (show x.length + 1 + y.length ≤ 8 by omega), Bool.true_and, Bool.true_and, List.all_append, List.all_append, hx, hy]
  have : nmL (97 + (c + 3 * j) % 26) = true := by unfold nmL; rw [decide_eq_true (by omega), decide_eq_true (by omega)]; rfl
  simp [this]
theorem nm83_inj {x y : Str} {c i j : Nat} (hi : i < 8) (hj : j < 8) (e : nm83 x y c i = nm83 x y c j) : i = j := by
  have h : (nm83 x y c i).cps.toList = (nm83 x y c j).cps.toList := congrArg (fun z : Str => z.cps.toList) e
  rw [nm83_l, nm83_l] at h
  have h2 := List.append_cancel_right h
  have h3 := List.append_cancel_left h2
  have h4 : 97 + (c + 3 * i) % 26 = 97 + (c + 3 * j) % 26 := by simpa using h3
  omega
theorem nm83_nd {x y : Str} {c : Nat} : ∀ {m : Nat}, m ≤ 8 → ((List.range m).map (nm83 x y c)).Nodup
  | 0, _ => by simp
  | m + 1, h => by
    rw [List.range_succ, List.map_append, List.nodup_append]
    refine ⟨nm83_nd (by omega), by simp, fun a ha b hb e => ?_⟩
    obtain ⟨i, hi, rfl⟩ := List.mem_map.mp ha
    have hb' : b = nm83 x y c m := by simpa using hb
    rw [hb'] at e
    have := nm83_inj (by have := List.mem_range.mp hi; omega) (by omega) e
    have := List.mem_range.mp hi
    omega
def sp_law_names : Sp := fun vs H Q _ => ∃ (n m : Int), vs = [.int n, .int m] ∧ 0 ≤ n ∧ 1 ≤ m ∧ m ≤ 8 ∧ ∀ l (ss : List Str) H', H l = none → H' l = some (.lst (ss.map V.str)) → Names ss → (ss.length : Int) = m → Ext H H' → Q (.ref l) H'
theorem ok_law_names (T : Txt w K mg a) : FnOk P w K mg base (CXU P w) 1 a.f_law_names a.d_law_names ["_law_number", "_law_many"] (sp_law_names) := by
  refine T.F_law_names.okU sc_law_names (fun vs H Q E h => ?_) (fun cdv A outer s H vs Q E hr h => ?_)
  · obtain ⟨n, m, rfl, n0, m1, m8, hq⟩ := h
    rfl
  · obtain ⟨n, m, rfl, n0, m1, m8, hq⟩ := h
    refine ⟨_, (pss_cons (ps_set (i := 2) sc_law_names.nd rfl (by first | exact Or.inl rfl | exact Or.inr rfl) (pe_slice sl_strE (pe_ix oIx (pe_lst (pa_cons pe_str (pa_cons pe_str (pa_cons pe_str (pa_cons pe_str pa_nil))))) (pe_op op_mod (pv 0) pe_int) (fun _ _ => rfl)) po_none (po_some (pe_op oAddW pe_int (pe_op op_mod (pe_op op_fdivB (pv 0) pe_int) pe_int)))))
      (pss_cons (ps_set (i := 3) sc_law_names.nd rfl (by first | exact Or.inl rfl | exact Or.inr rfl) (pe_op op_mod (pe_op op_fdivB (pv 0) pe_int) (pe_callB cLenW (by rfl) T.n_len PySem.boot_len (pa_cons (pv 2) pa_nil))))
      (pss_cons (ps_set (i := 4) sc_law_names.nd rfl (by first | exact Or.inl rfl | exact Or.inr rfl) (pe_lst pa_nil))
      (pss_cons (ps_for PassesOwn.never rfl (pi_range1 rfl T.n_range (pa_cons (pv 1) pa_nil)) (pg_name (i := 5) sc_law_names.nd rfl (by first | exact Or.inl rfl | exact Or.inr rfl)) (pss_cons (ps_set (i := 6) sc_law_names.nd rfl (by first | exact Or.inl rfl | exact Or.inr rfl) (pe_ix oIx pe_str (pe_op op_mod (pe_op oAddW (pe_op op_fdivB (pv 0) pe_int) (pe_op oMulW pe_int (pv 5))) pe_int) (fun _ _ => rfl)))
      (pss_one (ps_expr (pe_bm PySem.F.plainAttrs_list PySem.F.slot_list_append PySem.F.type_list_append mt_append (pv 4) (pa_cons (pe_op oAddW (pe_op oAddW (pe_slice sl_strE (pv 2) po_none (po_some (pv 3))) (pv 6)) (pe_slice sl_strE (pv 2) (po_some (pe_op oAddW (pv 3) pe_int)) po_none)) pa_nil))))))
      (pss_one (ps_ret (pv 4))))))), ?_⟩
    obtain ⟨q, q4, hq4⟩ := stm_at n
    obtain ⟨l, el, l8⟩ : ∃ l : Nat, n / 4 % 8 = l ∧ l < 8 := ⟨(n / 4 % 8).toNat, by omega, by omega⟩
    have s8 := stm_8 q q4
    have sl := stm_len q q4 l l8
    have sk := stm_ok q q4 l l8
    repeat walk_at "vs"
    intro l1 H1 nl1 q1 e1
    repeat walk_at "vs"
    refine r_ixL q1 hq4 ?_
    repeat walk_at "vs"
    rw [el, show (1 : Int) + (l : Nat) = ((1 + l : Nat) : Int) by omega]
    refine r_slE (by omega) ?_
    generalize outS (stm q) none (some ((1 + l : Nat) : Int)) = z at *
    repeat walk_at "vs"
    refine r_lenWS (by omega) ?_
    rw [sl]
    have b0 := Int.emod_nonneg (n / 32) (show ((1 + l : Nat) : Int) ≠ 0 by omega)
    have b1 := Int.emod_lt_of_pos (n / 32) (show (0 : Int) < ((1 + l : Nat) : Int) by omega)
    obtain ⟨k, ek, k1⟩ : ∃ k : Nat, n / 32 % ((1 + l : Nat) : Int) = k ∧ k < 1 + l := ⟨(n / 32 % ((1 + l : Nat) : Int)).toNat, by omega, by omega⟩
    obtain ⟨ok1, ok2, ok3⟩ := sk k k1
    obtain ⟨c0, ec⟩ : ∃ c0 : Nat, n / 256 = c0 := ⟨(n / 256).toNat, by omega⟩
    repeat walk_at "vs"
    rw [ek]
    intro l2 H2 n2 q2 e2
    repeat walk_at "vs"
    refine ⟨_, rfl, by omega, by omega, for_range (fun i σ H3 => (∃ u1 u2, σ = [some (.int n), some (.int m), some (.str z), some (.int (k : Nat)), some (.ref l2), u1, u2]) ∧ Ext H H3 ∧ H3 l2 = some (.lst (((List.range i).map (nm83 (outS z none (some (k : Int))) (outS z (some ((k : Int) + 1)) none) c0)).map V.str))) ⟨⟨none, none, rfl⟩, e1.tr e2, q2⟩ ?_ ?_⟩
    · rintro i σ H3 hi ⟨⟨u1, u2, rfl⟩, x3, q3⟩
      rw [show ((0 : Int) + (i : Nat)) = (i : Nat) by omega]
      repeat walk_at "vs"
      rw [ec]
      refine r_ixS1 (by rw [abc83_len]; omega) (abc83_at (i := ((c0 : Int) + 3 * (i : Int)) % 26) (by omega) (by omega)) ?_
      rw [show 97 + (((c0 : Int) + 3 * (i : Int)) % 26).toNat = 97 + (c0 + 3 * i) % 26 by omega]
      repeat walk_at "vs"
      refine r_slE (by omega) ?_
      repeat walk_at "vs"
      refine r_addWS (by show _ + 1 ≤ _; omega) ?_
      repeat walk_at "vs"
      refine r_slE (by omega) ?_
      repeat walk_at "vs"
      refine r_addWS (by
        have : (outS z none (some (k : Int)) ++ (⟨#[97 + (c0 + 3 * i) % 26]⟩ : Str)).length = (outS z none (some (k : Int))).length + 1 := by
          show (outS z none (some (k : Int)) ++ (⟨#[97 + (c0 + 3 * i) % 26]⟩ : Str)).cps.size = _
          rw [← Array.length_toList, app83]
          simp
          rfl
        omega) ?_
      repeat walk_at "vs"
      refine r_append q3 (by simp; omega) fun H4 q4' b4 => ?_
      refine ⟨⟨_, _, rfl⟩, Ext.but x3 b4 (e1.free n2), ?_⟩
      rw [List.range_succ, List.map_append, List.map_append]
      exact q4'
    · rintro σ H3 ⟨⟨u1, u2, rfl⟩, x3, q3⟩
      repeat walk_at "vs"
      refine hq l2 _ H3 (e1.free n2) q3 ⟨fun s hs => ?_, nm83_nd (by omega), by simp; omega, by simp; omega⟩ (by simp; omega) x3
      obtain ⟨j, _, rfl⟩ := List.mem_map.mp hs
      exact nm83_n ok1 ok2 ok3
def sp_law_place : Sp := fun vs H Q _ => ∃ c k, vs = [.int c, .int k] ∧ 0 ≤ k ∧ k ≤ 999990 ∧ ib c ≤ 1048577 ∧ ∀ n H', -1000000000000000000 ≤ n → n ≤ 1000000000000000000 → Ext H H' → Q (.int n) H'
theorem ok_law_place (T : Txt w K mg a) : FnOk P w K mg base (CXU P w) 3 a.f_law_place a.d_law_place ["_law_cell_here", "_law_k"] (sp_law_place) := by
  refine T.F_law_place.okU sc_law_place (fun vs H Q E h => ?_) (fun cdv A outer s H vs Q E hr h => ?_)
  · obtain ⟨c, k, rfl, k0, k1, hb, hq⟩ := h
    rfl
  · obtain ⟨c, k, rfl, k0, k1, hb, hq⟩ := h
    refine ⟨_, (pss_one (ps_ret (pe_op oMulW (pe_call (ok_law_amount T) (hr.mono (by decide)) (by rfl) T.m_law_amount T.F_law_amount.kp T.b_law_amount .nil passU (pa_cons (pv 0) (pa_cons (pv 1) pa_nil))) (pe_op op_sub pe_int (pe_op oMulW pe_int (pe_op op_mod (pe_op op_fdivB (pe_call (ok_law_mixed T) (hr.mono (by decide)) (by rfl) T.m_law_mixed T.F_law_mixed.kp T.b_law_mixed .nil passU (pa_cons (pv 0) (pa_cons (pe_op oAddW (pv 1) pe_int) pa_nil))) pe_int) pe_int)))))), ?_⟩
    repeat walk_at "vs"
    refine ⟨c, k, rfl, k0, by omega, hb, fun n H1 n0 n1 e1 => ?_⟩
    repeat walk_at "vs"
    refine ⟨c, _, rfl, by omega, by omega, fun m m0 m1 => ?_⟩
    repeat walk_at "vs"
    have h2 : m / 8 % 2 = 0 ∨ m / 8 % 2 = 1 := by omega
    refine hq _ H1 ?_ ?_ e1 <;> (rcases h2 with e | e <;> rw [e] <;> omega)
def sp_law_wish : Sp := fun vs H Q _ => ∃ (g : G83) (wd : Str) (p : Addr) (c k : Int), vs = [.str wd, .ref p, .int c, .int k] ∧ GAt H g wd p ∧ ib c ≤ 1048576 ∧ 0 ≤ k ∧ k ≤ 1000 ∧ ∀ v (ww : W83) H', ww.at_ H' v → g.rs.okW ww → Ext H H' → Q v H'
theorem ok_law_wish (T : Txt w K mg a) : FnOk P w K mg base (CXU P w) 4 a.f_law_wish a.d_law_wish ["_law_word", "_law_start_here", "_law_cell_here", "_law_k"] (sp_law_wish) := by
  refine T.F_law_wish.okU sc_law_wish (fun vs H Q E h => ?_) (fun cdv A outer s H vs Q E hr h => ?_)
  · obtain ⟨g, wd, p, c, k, rfl, ⟨hwd, hp, hok⟩, hc, k0, k1, hq⟩ := h
    rfl
  · obtain ⟨g, wd, p, c, k, rfl, ⟨hwd, hp, hok⟩, hc, k0, k1, hq⟩ := h
    refine ⟨_, (pss_cons (ps_set (i := 4) sc_law_wish.nd rfl (by first | exact Or.inl rfl | exact Or.inr rfl) (pe_call (ok_law_mixed T) (hr.mono (by decide)) (by rfl) T.m_law_mixed T.F_law_mixed.kp T.b_law_mixed .nil passU (pa_cons (pv 2) (pa_cons (pv 3) pa_nil))))
      (pss_cons (ps_if (pt_cmpR (oEq hr) (pv 0) pe_str (nomark _)) (pss_one (ps_ret (pe_ix oIx (pe_lst (pa_cons (pe_ix oIx (pv 1) (pe_op op_mod (pe_op op_fdivB (pv 4) pe_int) (pe_callB cLenW (by rfl) T.n_len PySem.boot_len (pa_cons (pv 1) pa_nil))) (fun _ _ => rfl)) (pa_cons (pe_call (ok_law_place T) (hr.mono (by decide)) (by rfl) T.m_law_place T.F_law_place.kp T.b_law_place .nil passU (pa_cons (pv 2) (pa_cons (pe_op oAddW (pv 3) pe_int) pa_nil))) pa_nil))) (pe_op op_mod (pv 4) pe_int) (fun _ _ => rfl)))) pss_nil)
      (pss_cons (ps_if (pt_cmpR (oEq hr) (pv 0) pe_str (nomark _)) (pss_one (ps_ret (pe_ix oIx (pv 1) (pe_op op_mod (pv 4) (pe_callB cLenW (by rfl) T.n_len PySem.boot_len (pa_cons (pv 1) pa_nil))) (fun _ _ => rfl)))) pss_nil)
      (pss_cons (ps_if (pt_cmpR (oEq hr) (pv 0) pe_str (nomark _)) (pss_one (ps_ret (pe_ix oIx (pe_op oAddW (pe_callTy cList (by rfl) T.n_list PyProof.Rows.boot_list (pa_cons (pv 1) pa_nil)) (pe_call (ok_law_names T) (hr.mono (by decide)) (by rfl) T.m_law_names T.F_law_names.kp T.b_law_names .nil passU (pa_cons (pe_op op_fdivB (pv 4) pe_int) (pa_cons pe_int pa_nil)))) (pe_op op_mod (pv 4) (pe_op oAddW (pe_callB cLenW (by rfl) T.n_len PySem.boot_len (pa_cons (pv 1) pa_nil)) pe_int)) (fun _ _ => rfl)))) pss_nil)
      (pss_cons (ps_if (pt_cmpR (oEq hr) (pv 0) pe_str (nomark _)) (pss_one (ps_ret (pe_call (ok_law_amount T) (hr.mono (by decide)) (by rfl) T.m_law_amount T.F_law_amount.kp T.b_law_amount .nil passU (pa_cons (pv 2) (pa_cons (pe_op oAddW (pv 3) pe_int) pa_nil))))) pss_nil)
      (pss_cons (ps_if (pt_cmpR (oEq hr) (pv 0) pe_str (nomark _)) (pss_one (ps_ret (pe_callTy cTuple (by rfl) T.n_tuple PyProof.Rows.boot_tuple (pa_cons (pe_comp (["_law_j"] : List Str) (["_law_cell_here", "_law_k"] : List Str) [2, 3] rfl ⟨rfl, by decide +kernel, by decide +kernel, by rfl, ⟨⟨rfl, by first | exact Or.inl rfl | exact Or.inr rfl, by first | exact Or.inl rfl | exact Or.inr rfl⟩, ⟨rfl, by first | exact Or.inl rfl | exact Or.inr rfl, by first | exact Or.inl rfl | exact Or.inr rfl⟩, trivial⟩⟩ (pi_range1 rfl T.n_range (pa_cons (pe_ix oIx (pv 1) pe_int (fun _ _ => rfl)) pa_nil)) (fun _ _ _ _ => ⟨(pg_name (i := 0) (by show ((["_law_j"] : List Str) ++ (["_law_cell_here", "_law_k"] : List Str)).Nodup; decide +kernel) rfl (by first | exact Or.inl rfl | exact Or.inr rfl)), (show PTs _ [] [] from trivial), (pe_call (ok_law_amount T) (hr.mono (by decide)) (by rfl) T.m_law_amount T.F_law_amount.kp T.b_law_amount .nil passU (pa_cons (pv 1) (pa_cons (pe_op oAddW (pe_op oAddW (pe_op oMulW pe_int (pv 2)) pe_int) (pv 0)) pa_nil)))⟩)) pa_nil)))) pss_nil)
      (pss_one (ps_ret (pe_op oAddW pe_int (pe_op op_mod (pe_call (ok_law_amount T) (hr.mono (by decide)) (by rfl) T.m_law_amount T.F_law_amount.kp T.b_law_amount .nil passU (pa_cons (pv 2) (pa_cons (pe_op oAddW (pv 3) pe_int) pa_nil))) (pe_ix oIx (pv 1) pe_int (fun _ _ => rfl)))))))))))), ?_⟩
    have hc1 := Nat.le_succ_of_le hc
    repeat walk_at "vs"
    refine ⟨_, _, rfl, by omega, by omega, fun n n0 n1 => ?_⟩
    cases g with
    | line ns =>
      have hwd : wd = Str.ofString "line" := hwd
      repeat walk_at "vs"
      refine r_eqUS ?_
      rw [show decide (wd = Str.ofString "line") = true by rw [hwd]; decide]
      repeat walk_at "vs"
      have hp : H p = some (.tup (ns.map V.int)) := hp
      have lo := hok.lo
      refine r_lenWT hp ?_
      rw [List.length_map]
      have c0 := Int.emod_nonneg (n / 2) (show (ns.length : Int) ≠ 0 by omega)
      have c1 := Int.emod_lt_of_pos (n / 2) (show (0 : Int) < ns.length by omega)
      repeat walk_at "vs"
      refine r_ixT hp (atI_ints c0 c1) ?_
      repeat walk_at "vs"
      refine ⟨c, _, rfl, by omega, by omega, hc1, fun z H1 z0 z1 e1 => ?_⟩
      repeat walk_at "vs"
      intro l2 H2 n2 q2 e2
      repeat walk_at "vs"
      have hb := hok.pl (ns.getD (n / 2 % (ns.length : Int)).toNat 0) (by rw [List.getD_eq_getElem?_getD, List.getElem?_eq_getElem (show (n / 2 % (ns.length : Int)).toNat < ns.length by omega)]; exact List.getElem_mem _)
      have h2 : n % 2 = 0 ∨ n % 2 = 1 := by omega
      rcases h2 with e | e
      · refine r_ixL q2 (v := .int (ns.getD (n / 2 % (ns.length : Int)).toNat 0)) (by rw [e]; rfl) ?_
        repeat walk_at "vs"
        exact hq _ (.i _) H2 rfl ⟨_, rfl, hb⟩ (e1.tr e2)
      · refine r_ixL q2 (v := .int z) (by rw [e]; rfl) ?_
        repeat walk_at "vs"
        exact hq _ (.i _) H2 rfl ⟨_, rfl, z0, z1⟩ (e1.tr e2)
    | shelf ss =>
      have hwd : wd = Str.ofString "shelf" := hwd
      repeat walk_at "vs"
      refine r_eqUS ?_
      rw [show decide (wd = Str.ofString "line") = false by rw [hwd]; decide]
      repeat walk_at "vs"
      refine r_eqUS ?_
      rw [show decide (wd = Str.ofString "shelf") = true by rw [hwd]; decide]
      repeat walk_at "vs"
      have hp : H p = some (.tup (ss.map V.str)) := hp
      have lo := hok.lo
      refine r_lenWT hp ?_
      rw [List.length_map]
      have c0 := Int.emod_nonneg n (show (ss.length : Int) ≠ 0 by omega)
      have c1 := Int.emod_lt_of_pos n (show (0 : Int) < ss.length by omega)
      repeat walk_at "vs"
      refine r_ixT hp (atI_strs c0 c1) ?_
      repeat walk_at "vs"
      exact hq _ (.s _) H rfl ⟨_, rfl, by rw [List.getD_eq_getElem?_getD, List.getElem?_eq_getElem (show (n % (ss.length : Int)).toNat < ss.length by omega)]; exact List.getElem_mem _⟩ Ext.rfl'
    | hire W =>
      have hwd : wd = Str.ofString "hire" := hwd
      repeat walk_at "vs"
      refine r_eqUS ?_
      rw [show decide (wd = Str.ofString "line") = false by rw [hwd]; decide]
      repeat walk_at "vs"
      refine r_eqUS ?_
      rw [show decide (wd = Str.ofString "shelf") = false by rw [hwd]; decide]
      repeat walk_at "vs"
      refine r_eqUS ?_
      rw [show decide (wd = Str.ofString "store") = false by rw [hwd]; decide]
      repeat walk_at "vs"
      refine r_eqUS ?_
      rw [show decide (wd = Str.ofString "hire") = true by rw [hwd]; decide]
      repeat walk_at "vs"
      refine ⟨c, _, rfl, by omega, by omega, hc1, fun z H1 z0 z1 e1 => ?_⟩
      exact hq _ (.i z) H1 rfl ⟨_, rfl, z0, z1⟩ e1
    | ways n' t h =>
      have hwd : wd = Str.ofString "ways" := hwd
      repeat walk_at "vs"
      refine r_eqUS ?_
      rw [show decide (wd = Str.ofString "line") = false by rw [hwd]; decide]
      repeat walk_at "vs"
      refine r_eqUS ?_
      rw [show decide (wd = Str.ofString "shelf") = false by rw [hwd]; decide]
      repeat walk_at "vs"
      refine r_eqUS ?_
      rw [show decide (wd = Str.ofString "store") = false by rw [hwd]; decide]
      repeat walk_at "vs"
      refine r_eqUS ?_
      rw [show decide (wd = Str.ofString "hire") = false by rw [hwd]; decide]
      repeat walk_at "vs"
      refine r_eqUS ?_
      rw [show decide (wd = Str.ofString "ways") = true by rw [hwd]; decide]
      repeat walk_at "vs"
      obtain ⟨n1', n8, h0, h1, t0, t1⟩ := hok
      refine r_ixT hp rfl ?_
      repeat walk_at "vs"
      refine ⟨_, rfl, by omega, by omega, fun acc hn _ _ _ _ => comp_someR (fun x => 0 ≤ x ∧ x ≤ 1000000000000000000) (by omega) hn (fun i H3 Y hi e hY => ?_) fun xs H2 lx hx e2 ha => ?_⟩
      · repeat walk_at "vs"
        exact ⟨c, _, rfl, by omega, by omega, hc1, fun z H4 z0 z1 e4 => hY _ _ ⟨z0, z1⟩ e4⟩
      repeat walk_at "vs"
      refine r_tupleL ha fun t4 H4 n4 q4 e4 => ?_
      exact hq _ (.l xs) H4 ⟨t4, rfl, q4⟩ ⟨xs, rfl, by omega, hx⟩ (e2.tr e4)
    | store ss =>
      have hwd : wd = Str.ofString "store" := hwd
      repeat walk_at "vs"
      refine r_eqUS ?_
      rw [show decide (wd = Str.ofString "line") = false by rw [hwd]; decide]
      repeat walk_at "vs"
      refine r_eqUS ?_
      rw [show decide (wd = Str.ofString "shelf") = false by rw [hwd]; decide]
      repeat walk_at "vs"
      refine r_eqUS ?_
      rw [show decide (wd = Str.ofString "store") = true by rw [hwd]; decide]
      repeat walk_at "vs"
      have hp : H p = some (.tup (ss.map V.str)) := hp
      have lo := hok.lo
      have hi8 := hok.hi
      refine r_listT hp fun l1 H1 nl1 q1 e1 => ?_
      repeat walk_at "vs"
      refine ⟨_, 8, rfl, by omega, by omega, by omega, fun l2 qs H2 n2 q2 hN hl e2 => ?_⟩
      repeat walk_at "vs"
      refine r_addWL (e2 _ _ q1) q2 (by simp; omega) fun l3 H3 n3 q3 e3 => ?_
      rw [show ss.map V.str ++ qs.map V.str = (ss ++ qs).map V.str by simp] at q3
      repeat walk_at "vs"
      refine r_lenWT ((e1.tr (e2.tr e3)) _ _ hp) ?_
      rw [List.length_map]
      have c0 := Int.emod_nonneg n (show (ss.length : Int) + 8 ≠ 0 by omega)
      have c1 := Int.emod_lt_of_pos n (show (0 : Int) < (ss.length : Int) + 8 by omega)
      have la : (ss ++ qs).length = ss.length + 8 := by rw [List.length_append]; omega
      repeat walk_at "vs"
      refine r_ixL q3 (atI_strs c0 (by rw [la]; omega)) ?_
      repeat walk_at "vs"
      refine hq _ (.s _) H3 rfl ⟨_, rfl, ?_⟩ (e1.tr (e2.tr e3))
      have hm : (ss ++ qs).getD (n % ((ss.length : Int) + 8)).toNat ⟨#[]⟩ ∈ ss ++ qs := by rw [List.getD_eq_getElem?_getD, List.getElem?_eq_getElem (show (n % ((ss.length : Int) + 8)).toNat < (ss ++ qs).length by omega)]; exact List.getElem_mem _
      exact (List.mem_append.mp hm).elim (fun z => hok.nm _ z) fun z => hN.nm _ z
    | bags R =>
      have hwd : wd = Str.ofString "bags" := hwd
      repeat walk_at "vs"
      refine r_eqUS ?_
      rw [show decide (wd = Str.ofString "line") = false by rw [hwd]; decide]
      repeat walk_at "vs"
      refine r_eqUS ?_
      rw [show decide (wd = Str.ofString "shelf") = false by rw [hwd]; decide]
      repeat walk_at "vs"
      refine r_eqUS ?_
      rw [show decide (wd = Str.ofString "store") = false by rw [hwd]; decide]
      repeat walk_at "vs"
      refine r_eqUS ?_
      rw [show decide (wd = Str.ofString "hire") = false by rw [hwd]; decide]
      repeat walk_at "vs"
      refine r_eqUS ?_
      rw [show decide (wd = Str.ofString "ways") = false by rw [hwd]; decide]
      repeat walk_at "vs"
      obtain ⟨r1, r2⟩ := hok
      refine ⟨c, _, rfl, by omega, by omega, hc1, fun z H1 z0 z1 e1 => ?_⟩
      repeat walk_at "vs"
      refine r_ixT (e1 _ _ hp) rfl ?_
      have c0 := Int.emod_nonneg z (show R ≠ 0 by omega)
      have c1 := Int.emod_lt_of_pos z (show (0 : Int) < R by omega)
      repeat walk_at "vs"
      exact hq _ (.i _) H1 rfl ⟨_, rfl, by omega, by omega⟩ e1
def sp_law_start (K : PySem.W.Frag) : Sp := fun vs H Q _ => ∃ (p : Addr) (cs : List Int), vs = [.ref p] ∧ SqL K H p (cs.map V.int) ∧ (∀ z ∈ cs, ib z ≤ 1048576) ∧ ∀ t wd q (g : G83) H', H' t = some (.tup [.str wd, .ref q]) → GAt H' g wd q → Ext H H' → Q (.ref t) H'
theorem ok_law_start (T : Txt w K mg a) : FnOk P w K mg base (CXU P w) 4 a.f_law_start a.d_law_start ["_law_script"] (sp_law_start K) := by
  refine T.F_law_start.okU sc_law_start (fun vs H Q E h => ?_) (fun cdv A outer s H vs Q E hr h => ?_)
  · obtain ⟨p, cs, rfl, hS, hb, hq⟩ := h
    rfl
  · obtain ⟨p, cs, rfl, hS, hb, hq⟩ := h
    refine ⟨_, (pss_cons (ps_set (i := 1) sc_law_start.nd rfl (by first | exact Or.inl rfl | exact Or.inr rfl) (pe_call (ok_law_cell T) (hr.mono (by decide)) (by rfl) T.m_law_cell T.F_law_cell.kp T.b_law_cell .nil passU (pa_cons (pv 0) (pa_cons pe_int pa_nil))))
      (pss_cons (ps_set (i := 2) sc_law_start.nd rfl (by first | exact Or.inl rfl | exact Or.inr rfl) (pe_call (ok_law_mixed T) (hr.mono (by decide)) (by rfl) T.m_law_mixed T.F_law_mixed.kp T.b_law_mixed .nil passU (pa_cons (pv 1) (pa_cons pe_int pa_nil))))
      (pss_cons (ps_set (i := 3) sc_law_start.nd rfl (by first | exact Or.inl rfl | exact Or.inr rfl) (pe_ix oIx (pe_lst (pa_cons pe_str (pa_cons pe_str (pa_cons pe_str (pa_cons pe_str (pa_cons pe_str (pa_cons pe_str pa_nil))))))) (pe_op op_mod (pe_call (ok_law_mixed T) (hr.mono (by decide)) (by rfl) T.m_law_mixed T.F_law_mixed.kp T.b_law_mixed .nil passU (pa_cons (pe_call (ok_law_cell T) (hr.mono (by decide)) (by rfl) T.m_law_cell T.F_law_cell.kp T.b_law_cell .nil passU (pa_cons (pv 0) (pa_cons pe_int pa_nil))) (pa_cons pe_int pa_nil))) pe_int) (fun _ _ => rfl)))
      (pss_cons (ps_if (pt_cmpR (oEq hr) (pv 3) pe_str (nomark _)) (pss_one (ps_ret (pe_tup (pa_cons (pv 3) (pa_cons (pe_callTy cTuple (by rfl) T.n_tuple PyProof.Rows.boot_tuple (pa_cons (pe_callB cSortW (by rfl) T.n_sorted PyProof.Rows.boot_sorted (pa_cons (pe_comp (["_law_j"] : List Str) (["_law_cell_here"] : List Str) [1] rfl ⟨rfl, by decide +kernel, by decide +kernel, by rfl, ⟨⟨rfl, by first | exact Or.inl rfl | exact Or.inr rfl, by first | exact Or.inl rfl | exact Or.inr rfl⟩, trivial⟩⟩ (pi_range1 rfl T.n_range (pa_cons (pe_op oAddW pe_int (pe_op op_mod (pv 2) pe_int)) pa_nil)) (fun _ _ _ _ => ⟨(pg_name (i := 0) (by show ((["_law_j"] : List Str) ++ (["_law_cell_here"] : List Str)).Nodup; decide +kernel) rfl (by first | exact Or.inl rfl | exact Or.inr rfl)), (show PTs _ [] [] from trivial), (pe_call (ok_law_place T) (hr.mono (by decide)) (by rfl) T.m_law_place T.F_law_place.kp T.b_law_place .nil passU (pa_cons (pv 1) (pa_cons (pe_op oAddW pe_int (pv 0)) pa_nil)))⟩)) pa_nil)) pa_nil)) pa_nil))))) pss_nil)
      (pss_cons (ps_if (PW.pt (pw_or (pt_cmpR (oEq hr) (pv 3) pe_str (nomark _)) (pw_or1 (pt_cmpR (oEq hr) (pv 3) pe_str (nomark _))))) (pss_one (ps_ret (pe_tup (pa_cons (pv 3) (pa_cons (pe_callTy cTuple (by rfl) T.n_tuple PyProof.Rows.boot_tuple (pa_cons (pe_call (ok_law_names T) (hr.mono (by decide)) (by rfl) T.m_law_names T.F_law_names.kp T.b_law_names .nil passU (pa_cons (pe_op op_fdivB (pv 2) pe_int) (pa_cons (pe_op oAddW pe_int (pe_op op_mod (pv 2) pe_int)) pa_nil))) pa_nil)) pa_nil))))) pss_nil)
      (pss_cons (ps_if (pt_cmpR (oEq hr) (pv 3) pe_str (nomark _)) (pss_one (ps_ret (pe_tup (pa_cons (pv 3) (pa_cons (pe_tup (pa_cons (pe_op oAddW pe_int (pe_op op_mod (pv 2) pe_int)) (pa_cons (pe_call (ok_law_amount T) (hr.mono (by decide)) (by rfl) T.m_law_amount T.F_law_amount.kp T.b_law_amount .nil passU (pa_cons (pv 1) (pa_cons pe_int pa_nil))) (pa_cons (pe_op op_mod (pe_op op_fdivB (pv 2) pe_int) (pe_op oAddW pe_int (pe_op op_mod (pv 2) pe_int))) pa_nil)))) pa_nil))))) pss_nil)
      (pss_one (ps_ret (pe_tup (pa_cons (pv 3) (pa_cons (pe_tup (pa_cons (pe_callB (cMax2 rfl) (by rfl) T.n_max PyProof.Rows.boot_max (pa_cons pe_int (pa_cons (pe_call (ok_law_amount T) (hr.mono (by decide)) (by rfl) T.m_law_amount T.F_law_amount.kp T.b_law_amount .nil passU (pa_cons (pv 1) (pa_cons pe_int pa_nil))) pa_nil))) pa_nil)) pa_nil))))))))))), ?_⟩
    repeat walk_at "vs"
    refine ⟨p, cs, 1, rfl, hS, by decide, hb, fun c hc => ?_⟩
    have hc1 := Nat.le_succ_of_le hc
    repeat walk_at "vs"
    refine ⟨_, _, rfl, by decide, by decide, fun n n0 n1 => ?_⟩
    repeat walk_at "vs"
    intro l1 H1 nn1 q1 e1
    repeat walk_at "vs"
    refine ⟨p, cs, 0, rfl, e1.seqL hS, by decide, hb, fun c0 hc0 => ?_⟩
    repeat walk_at "vs"
    refine ⟨_, _, rfl, by decide, by decide, fun u u0 u1 => ?_⟩
    repeat walk_at "vs"
    have h6 : u % 6 = 0 ∨ u % 6 = 1 ∨ u % 6 = 2 ∨ u % 6 = 3 ∨ u % 6 = 4 ∨ u % 6 = 5 := by omega
    rcases h6 with e6 | e6 | e6 | e6 | e6 | e6
    · obtain ⟨wd, hwd⟩ : ∃ wd, wd = Str.ofString "line" := ⟨_, rfl⟩
      refine r_ixL q1 (v := .str wd) (by rw [e6, hwd]; rfl) ?_
      repeat walk_at "vs"
      refine r_eqUS ?_
      rw [show decide (wd = Str.ofString "line") = true by rw [hwd]; decide]
      repeat walk_at "vs"
      obtain ⟨m, em, m1, m6⟩ : ∃ m : Nat, 1 + n % 6 = m ∧ 1 ≤ m ∧ m ≤ 6 := ⟨(1 + n % 6).toNat, by omega, by omega, by omega⟩
      rw [em]
      refine ⟨_, rfl, by omega, by omega, fun acc hn _ _ _ _ => comp_someR (fun x => -1000000000000000000 ≤ x ∧ x ≤ 1000000000000000000) (by omega) hn (fun i H3 Y hi e hY => ?_) fun xs H2 lx hx e2 ha => ?_⟩
      · repeat walk_at "vs"
        exact ⟨c, _, rfl, by omega, by omega, hc1, fun z H4 z0 z1 e4 => hY _ _ ⟨z0, z1⟩ e4⟩
      repeat walk_at "vs"
      refine r_srtL ha (by omega) fun l3 ns H3 n3 pm pw q3 e3 => ?_
      repeat walk_at "vs"
      refine r_tupleL q3 fun t4 H4 n4 q4 e4 => ?_
      repeat walk_at "vs"
      intro t5 H5 n5 q5 e5
      have pl := pm.length_eq
      exact hq t5 wd t4 (.line ns) H5 q5 ⟨hwd, e5 _ _ q4, ⟨by omega, by omega, pw, fun y hy => hx y (pm.mem_iff.mp hy)⟩⟩ (e1.tr (e2.tr (e3.tr (e4.tr e5))))
    · obtain ⟨wd, hwd⟩ : ∃ wd, wd = Str.ofString "shelf" := ⟨_, rfl⟩
      refine r_ixL q1 (v := .str wd) (by rw [e6, hwd]; rfl) ?_
      repeat walk_at "vs"
      refine r_eqUS ?_
      rw [show decide (wd = Str.ofString "line") = false by rw [hwd]; decide]
      repeat walk_at "vs"
      refine r_eqUS ?_
      rw [show decide (wd = Str.ofString "shelf") = true by rw [hwd]; decide]
      repeat walk_at "vs"
      refine ⟨_, _, rfl, by omega, by omega, by omega, fun l2 ss H2 n2 q2 hN hl e2 => ?_⟩
      repeat walk_at "vs"
      refine r_tupleL q2 fun t4 H4 n4 q4 e4 => ?_
      repeat walk_at "vs"
      intro t5 H5 n5 q5 e5
      exact hq t5 wd t4 (.shelf ss) H5 q5 ⟨hwd, e5 _ _ q4, hN⟩ (e1.tr (e2.tr (e4.tr e5)))
    · obtain ⟨wd, hwd⟩ : ∃ wd, wd = Str.ofString "hire" := ⟨_, rfl⟩
      refine r_ixL q1 (v := .str wd) (by rw [e6, hwd]; rfl) ?_
      repeat walk_at "vs"
      refine r_eqUS ?_
      rw [show decide (wd = Str.ofString "line") = false by rw [hwd]; decide]
      repeat walk_at "vs"
      refine r_eqUS ?_
      rw [show decide (wd = Str.ofString "shelf") = false by rw [hwd]; decide]
      repeat walk_at "vs"
      refine r_eqUS ?_
      rw [show decide (wd = Str.ofString "store") = false by rw [hwd]; decide]
      repeat walk_at "vs"
      refine r_eqUS ?_
      rw [show decide (wd = Str.ofString "ways") = false by rw [hwd]; decide]
      repeat walk_at "vs"
      refine ⟨c, 3, rfl, by decide, by decide, hc1, fun z H2 z0 z1 e2 => ?_⟩
      repeat walk_at "vs"
      intro t4 H4 n4 q4 e4
      repeat walk_at "vs"
      intro t5 H5 n5 q5 e5
      exact hq t5 wd t4 (.hire (max 1 z)) H5 q5 ⟨hwd, e5 _ _ q4, ⟨by omega, by omega⟩⟩ (e1.tr (e2.tr (e4.tr e5)))
    · obtain ⟨wd, hwd⟩ : ∃ wd, wd = Str.ofString "ways" := ⟨_, rfl⟩
      refine r_ixL q1 (v := .str wd) (by rw [e6, hwd]; rfl) ?_
      repeat walk_at "vs"
      refine r_eqUS ?_
      rw [show decide (wd = Str.ofString "line") = false by rw [hwd]; decide]
      repeat walk_at "vs"
      refine r_eqUS ?_
      rw [show decide (wd = Str.ofString "shelf") = false by rw [hwd]; decide]
      repeat walk_at "vs"
      refine r_eqUS ?_
      rw [show decide (wd = Str.ofString "store") = false by rw [hwd]; decide]
      repeat walk_at "vs"
      refine r_eqUS ?_
      rw [show decide (wd = Str.ofString "ways") = true by rw [hwd]; decide]
      repeat walk_at "vs"
      obtain ⟨m, em, m1, m8⟩ : ∃ m : Nat, 1 + n % 8 = m ∧ 1 ≤ m ∧ m ≤ 8 := ⟨(1 + n % 8).toNat, by omega, by omega, by omega⟩
      rw [em]
      refine ⟨c, 3, rfl, by decide, by decide, hc1, fun z H2 z0 z1 e2 => ?_⟩
      have b0 := Int.emod_nonneg (n / 8) (show (m : Int) ≠ 0 by omega)
      have b1 := Int.emod_lt_of_pos (n / 8) (show (0 : Int) < m by omega)
      repeat walk_at "vs"
      rw [em]
      repeat walk_at "vs"
      intro t4 H4 n4 q4 e4
      repeat walk_at "vs"
      intro t5 H5 n5 q5 e5
      exact hq t5 wd t4 (.ways m z (n / 8 % (m : Int))) H5 q5 ⟨hwd, e5 _ _ q4, ⟨m1, m8, b0, b1, z0, z1⟩⟩ (e1.tr (e2.tr (e4.tr e5)))
    · obtain ⟨wd, hwd⟩ : ∃ wd, wd = Str.ofString "store" := ⟨_, rfl⟩
      refine r_ixL q1 (v := .str wd) (by rw [e6, hwd]; rfl) ?_
      repeat walk_at "vs"
      refine r_eqUS ?_
      rw [show decide (wd = Str.ofString "line") = false by rw [hwd]; decide]
      repeat walk_at "vs"
      refine r_eqUS ?_
      rw [show decide (wd = Str.ofString "shelf") = false by rw [hwd]; decide]
      repeat walk_at "vs"
      refine r_eqUS ?_
      rw [show decide (wd = Str.ofString "store") = true by rw [hwd]; decide]
      repeat walk_at "vs"
      refine ⟨_, _, rfl, by omega, by omega, by omega, fun l2 ss H2 n2 q2 hN hl e2 => ?_⟩
      repeat walk_at "vs"
      refine r_tupleL q2 fun t4 H4 n4 q4 e4 => ?_
      repeat walk_at "vs"
      intro t5 H5 n5 q5 e5
      exact hq t5 wd t4 (.store ss) H5 q5 ⟨hwd, e5 _ _ q4, hN⟩ (e1.tr (e2.tr (e4.tr e5)))
    · obtain ⟨wd, hwd⟩ : ∃ wd, wd = Str.ofString "bags" := ⟨_, rfl⟩
      refine r_ixL q1 (v := .str wd) (by rw [e6, hwd]; rfl) ?_
      repeat walk_at "vs"
      refine r_eqUS ?_
      rw [show decide (wd = Str.ofString "line") = false by rw [hwd]; decide]
      repeat walk_at "vs"
      refine r_eqUS ?_
      rw [show decide (wd = Str.ofString "shelf") = false by rw [hwd]; decide]
      repeat walk_at "vs"
      refine r_eqUS ?_
      rw [show decide (wd = Str.ofString "store") = false by rw [hwd]; decide]
      repeat walk_at "vs"
      refine r_eqUS ?_
      rw [show decide (wd = Str.ofString "ways") = false by rw [hwd]; decide]
      repeat walk_at "vs"
      refine ⟨c, 3, rfl, by decide, by decide, hc1, fun z H2 z0 z1 e2 => ?_⟩
      repeat walk_at "vs"
      intro t4 H4 n4 q4 e4
      repeat walk_at "vs"
      intro t5 H5 n5 q5 e5
      exact hq t5 wd t4 (.bags (max 1 z)) H5 q5 ⟨hwd, e5 _ _ q4, ⟨by omega, by omega⟩⟩ (e1.tr (e2.tr (e4.tr e5)))
theorem cut81 (cs : List Int) : ∃ ms : List Int, cutV (cs.map V.int) (some 2) (some 62) = ms.map V.int ∧ ms.length ≤ 60 ∧ ∀ z ∈ ms, z ∈ cs := by
  refine ⟨(cs.drop (min 2 cs.length)).take (min 62 cs.length - min 2 cs.length), ?_, ?_, fun z hz => List.mem_of_mem_drop (List.mem_of_mem_take hz)⟩
  · unfold cutV
    rw [show (some (2 : Int)) = some ((2 : Nat) : Int) from rfl, show (some (62 : Int)) = some ((62 : Nat) : Int) from rfl, HT.sIx_nat, HT.sIx_nat, List.length_map, List.map_take, List.map_drop]
  · rw [List.length_take]
    omega
theorem seq_have {t u : TS} {D : Ends} {σ : L2.St} {H : Hp} (J : L2.St → Hp → Prop) (h2 : ∀ σ' H', J σ' H' → u D σ' H') (h1 : (∀ σ' H', J σ' H' → u D σ' H') → tSeq t u D σ H) : tSeq t u D σ H := h1 h2
theorem demo_ok : ∀ w ∈ [W83.i 5, W83.i 0], (G83.hire 7).rs.okW w := fun w hw => by
  rcases List.mem_cons.mp hw with rfl | hw
  · exact ⟨5, rfl, by decide, by decide⟩
  · rw [List.mem_singleton.mp hw]; exact ⟨0, rfl, by decide, by decide⟩
theorem demo_is : ((Txt.split (Str.ofString "hire 7\n\nask 5\nask 0") ⟨#[10]⟩).filter fun x => !decide (x = ⟨#[]⟩)) = lnG (.hire 7) :: [W83.i 5, W83.i 0].map lnW := by
  have e : Str.ofString "hire 7\n\nask 5\nask 0" = Str.join ⟨#[10]⟩ [Str.ofString "hire 7", ⟨#[]⟩, Str.ofString "ask 5", Str.ofString "ask 0"] := by decide
  rw [e, split_join (by simp)]
  · decide +kernel
  · decide +kernel
theorem AllW.app {H : Hp} : ∀ {ws us : List W83} {vs xs : List V}, AllW H ws vs → AllW H us xs → AllW H (ws ++ us) (vs ++ xs)
  | [], _, [], _, _, h => h
  | _ :: _, _, _ :: _, _, ⟨h1, h2⟩, h => ⟨h1, AllW.app h2 h⟩
  | [], _, _ :: _, _, h, _ => h.elim
  | _ :: _, _, [], _, h, _ => h.elim
theorem AllW.rpl {H : Hp} {w : W83} {v : V} (h : w.at_ H v) : ∀ k : Nat, AllW H (List.replicate k w) (List.replicate k v)
  | 0 => trivial
  | k + 1 => ⟨h, AllW.rpl h k⟩
theorem plW (w : W83) : plD w.d = true := by
  cases w with
  | i z => rfl
  | s x => rfl
  | l cs => exact plI cs
theorem plWs : ∀ ws : List W83, plDL (ws.map W83.d) = true
  | [] => rfl
  | w :: ws => by show (plD w.d && plDL (ws.map W83.d)) = true; rw [plW, plWs ws]; rfl
def V.dd : V → D
  | .int n => .int n
  | .str z => .str z
  | _ => .non
theorem rep_cl {H : Hp} : ∀ {vs : List V}, (∀ v ∈ vs, ClV v) → RepL H (vs.map V.dd) vs
  | [], _ => RepL.nil
  | v :: r, h => by
    refine RepL.cons ?_ (rep_cl fun u hu => h u (List.mem_cons_of_mem _ hu))
    have := h v List.mem_cons_self
    cases v with
    | int n => exact .intI
    | str z => exact rfl
    | _ => exact this.elim
theorem pl_cl : ∀ {vs : List V}, (∀ v ∈ vs, ClV v) → plDL (vs.map V.dd) = true ∧ D.depthL (vs.map V.dd) = 0
  | [], _ => ⟨rfl, rfl⟩
  | v :: r, h => by
    obtain ⟨i1, i2⟩ := pl_cl fun u hu => h u (List.mem_cons_of_mem _ hu)
    have := h v List.mem_cons_self
    cases v with
    | int n => exact ⟨by show (true && _) = true; rw [i1]; rfl, by show max 0 _ = 0; rw [i2]; rfl⟩
    | str z => exact ⟨by show (true && _) = true; rw [i1]; rfl, by show max 0 _ = 0; rw [i2]; rfl⟩
    | _ => exact this.elim
def G83.gd (g : G83) (ws : List W83) : D := .tup [.str g.word, .tup (g.tup.map V.dd), .lst (ws.map W83.d)]
theorem gd_rep {H : Hp} {g : G83} {ws : List W83} {t q l : Addr} {wvs : List V} (hok : g.ok) (ht : H t = some (.tup [.str g.word, .ref q, .ref l])) (hq : H q = some (.tup g.tup)) (hl : H l = some (.lst wvs)) (ha : AllW H ws wvs) : Rep H (g.gd ws) (.ref t) :=
  Rep.tupI ht (RepL.cons rfl (RepL.cons (Rep.tupI hq (rep_cl (G83.cl hok).1)) (RepL.cons (Rep.lstI hl ha.rep) RepL.nil)))
theorem gd_pl {g : G83} {ws : List W83} (hok : g.ok) (hw : ∀ w ∈ ws, g.rs.okW w) : plD (g.gd ws) = true ∧ Nat.ble (g.gd ws).depth 5 = true := by
  obtain ⟨p1, p2⟩ := pl_cl (G83.cl hok).1
  have := (okW_ds hok hw).2
  refine ⟨?_, ?_⟩
  · show (true && (plDL (g.tup.map V.dd) && (plDL (ws.map W83.d) && true))) = true
    rw [p1, plWs]
    rfl
  · show Nat.ble (max 0 (max (D.depthL (g.tup.map V.dd) + 1) (max (D.depthL (ws.map W83.d) + 1) 0)) + 1) 5 = true
    rw [p2]
    exact Nat.ble_eq_true_of_le (by omega)
def sp_law (K : PySem.W.Frag) : Sp := fun vs H Q _ => ∃ (p : Addr) (ns : List Int), vs = [.ref p] ∧ SqL K H p (ns.map V.int) ∧ ns.length ≤ 63 ∧ (∀ z ∈ ns, ib z ≤ 1048576) ∧ ∀ H', Q (.bl true) H'
theorem ok_law (T : Txt w K mg a) : FnOk P w K mg base (CXU P w) 13 a.f_law a.d_law ["_law_script"] (sp_law K) := by
  refine T.F_law.okU sc_law (fun vs H Q E h => ?_) (fun cdv A outer s H vs Q E hr h => ?_)
  · obtain ⟨p0, cs, rfl, hS, hl, hb, hq⟩ := h
    rfl
  · obtain ⟨p0, cs, rfl, hS, hl, hb, hq⟩ := h
    refine ⟨_, (pss_cons (ps_asg (pe_call (ok_law_start T) (hr.mono (by decide)) (by rfl) T.m_law_start T.F_law_start.kp T.b_law_start .nil passU (pa_cons (pv 0) pa_nil)) (pg_tup rfl (pgs_cons (pg_name (i := 1) sc_law.nd rfl (by first | exact Or.inl rfl | exact Or.inr rfl)) (pgs_cons (pg_name (i := 2) sc_law.nd rfl (by first | exact Or.inl rfl | exact Or.inr rfl)) pgs_nil))))
      (pss_cons (ps_set (i := 3) sc_law.nd rfl (by first | exact Or.inl rfl | exact Or.inr rfl) (pe_slice oSl (pv 0) (po_some pe_int) (po_some pe_int)))
      (pss_cons (ps_setComp (i := 4) (["_law_k"] : List Str) (["_law_word", "_law_start_here", "_law_cells"] : List Str) [1, 2, 3] sc_law.nd rfl (Or.inl rfl) rfl ⟨rfl, by decide +kernel, by decide +kernel, by rfl, ⟨⟨rfl, by first | exact Or.inl rfl | exact Or.inr rfl, by first | exact Or.inl rfl | exact Or.inr rfl⟩, ⟨rfl, by first | exact Or.inl rfl | exact Or.inr rfl, by first | exact Or.inl rfl | exact Or.inr rfl⟩, ⟨rfl, by first | exact Or.inl rfl | exact Or.inr rfl, by first | exact Or.inl rfl | exact Or.inr rfl⟩, trivial⟩⟩ (pi_range1 rfl T.n_range (pa_cons (pe_callB cLenW (by rfl) T.n_len PySem.boot_len (pa_cons (pv 3) pa_nil)) pa_nil)) (fun _ _ _ _ => ⟨(pg_name (i := 0) (by show ((["_law_k"] : List Str) ++ (["_law_word", "_law_start_here", "_law_cells"] : List Str)).Nodup; decide +kernel) rfl (by first | exact Or.inl rfl | exact Or.inr rfl)), (show PTs _ [] [] from trivial), (pe_call (ok_law_wish T) (hr.mono (by decide)) (by rfl) T.m_law_wish T.F_law_wish.kp T.b_law_wish .nil passU (pa_cons (pv 1) (pa_cons (pv 2) (pa_cons (pe_ix oIx (pv 3) (pv 0) (fun _ _ => rfl)) (pa_cons (pe_op oAddW (pv 0) pe_int) pa_nil)))))⟩))
      (pss_cons (ps_set (i := 5) sc_law.nd rfl (by first | exact Or.inl rfl | exact Or.inr rfl) (pe_call (ok_law_mixed T) (hr.mono (by decide)) (by rfl) T.m_law_mixed T.F_law_mixed.kp T.b_law_mixed .nil passU (pa_cons (pe_call (ok_law_cell T) (hr.mono (by decide)) (by rfl) T.m_law_cell T.F_law_cell.kp T.b_law_cell .nil passU (pa_cons (pv 0) (pa_cons pe_int pa_nil))) (pa_cons pe_int pa_nil))))
      (pss_cons (ps_if (PW.pt (pw_and (pt_cmpR (oEq hr) (pe_op op_mod (pv 5) pe_int) pe_int (nomark _)) (pw_and (pt_cmpR (oNe hr) (pv 4) (pe_lst pa_nil) (nomark _)) (pw_and1 (PW.pt (pw_or (pt_cmpR (oNe hr) (pv 1) pe_str (nomark _)) (pw_or1 (pt_cmpR op_lt (pe_ix oIx (pv 2) pe_int (fun _ _ => rfl)) pe_int (nomark _))))))))) (pss_one (ps_set (i := 4) sc_law.nd rfl (by first | exact Or.inl rfl | exact Or.inr rfl) (pe_op oAddW (pv 4) (pe_op op_rep (pe_lst (pa_cons (pe_ix oIx (pv 4) (pe_un un_neg pe_int) (fun _ _ => rfl)) pa_nil)) (pe_op op_sub (pe_op op_sub pe_int (pe_op op_mod (pe_op op_fdivB (pv 5) pe_int) pe_int)) (pe_callB cLenW (by rfl) T.n_len PySem.boot_len (pa_cons (pv 4) pa_nil))))))) pss_nil)
      (pss_cons (ps_set (i := 6) sc_law.nd rfl (by first | exact Or.inl rfl | exact Or.inr rfl) (pe_call (ok_law_text T) (hr.mono (by decide)) (by rfl) T.m_law_text T.F_law_text.kp T.b_law_text .nil passU (pa_cons (pv 0) (pa_cons (pe_call (ok_law_lines T) (hr.mono (by decide)) (by rfl) T.m_law_lines T.F_law_lines.kp T.b_law_lines .nil passU (pa_cons (pv 1) (pa_cons (pv 2) (pa_cons (pv 4) pa_nil)))) pa_nil))))
      (pss_cons (ps_set (i := 7) sc_law.nd rfl (by first | exact Or.inl rfl | exact Or.inr rfl) (pe_call (ok_read_game T) (hr.mono (by decide)) (by rfl) T.m_read_game T.F_read_game.kp T.b_read_game .nil passU (pa_cons (pv 6) pa_nil)))
      (pss_cons (ps_if (pt_not (ptT (pe_call (ok_law_same T) (hr.mono (by decide)) (by rfl) T.m_law_same T.F_law_same.kp T.b_law_same .nil passU (pa_cons (pv 7) (pa_cons (pe_tup (pa_cons (pv 1) (pa_cons (pv 2) (pa_cons (pv 4) pa_nil)))) pa_nil))) (fun _ => rfl))) (pss_one (ps_ret pe_bl)) pss_nil)
      (pss_cons (ps_if (pt_not (ptT (pe_call (ok_law_same T) (hr.mono (by decide)) (by rfl) T.m_law_same T.F_law_same.kp T.b_law_same .nil passU (pa_cons (pe_call (ok_read_game T) (hr.mono (by decide)) (by rfl) T.m_read_game T.F_read_game.kp T.b_read_game .nil passU (pa_cons pe_str pa_nil)) (pa_cons (pe_tup (pa_cons pe_str (pa_cons (pe_tup (pa_cons pe_int pa_nil)) (pa_cons (pe_lst (pa_cons pe_int (pa_cons pe_int pa_nil))) pa_nil)))) pa_nil))) (fun _ => rfl))) (pss_one (ps_ret pe_bl)) pss_nil)
      (pss_cons (ps_expr (pe_bm PySem.F.plainAttrs_list PySem.F.slot_list_append PySem.F.type_list_append mt_append (pe_ix oIx (pv 7) pe_int (fun _ _ => rfl)) (pa_cons pe_int pa_nil)))
      (pss_one (ps_ret (pe_and (pe_call (ok_law_same T) (hr.mono (by decide)) (by rfl) T.m_law_same T.F_law_same.kp T.b_law_same .nil passU (pa_cons (pe_call (ok_read_game T) (hr.mono (by decide)) (by rfl) T.m_read_game T.F_read_game.kp T.b_read_game .nil passU (pa_cons (pv 6) pa_nil)) (pa_cons (pe_tup (pa_cons (pv 1) (pa_cons (pv 2) (pa_cons (pv 4) pa_nil)))) pa_nil))) (pe_one (pe_cmpR (oEq hr) (pe_callB cLenW (by rfl) T.n_len PySem.boot_len (pa_cons (pe_ix oIx (pv 7) pe_int (fun _ _ => rfl)) pa_nil)) (pe_op oAddW (pe_callB cLenW (by rfl) T.n_len PySem.boot_len (pa_cons (pv 4) pa_nil)) pe_int) (nomark _)))))))))))))))), ?_⟩
    repeat walk_at "vs"
    refine ⟨p0, cs, rfl, hS, hb, fun t0 wd p g H1 q0 hg1 e1 => ?_⟩
    repeat walk_at "vs"
    refine r_slQ (e1.seqL hS) fun cl H2 n2 q2 e2 => ?_
    obtain ⟨ms, ems, lms, hms⟩ := cut81 cs
    rw [ems] at q2
    repeat walk_at "vs"
    refine r_lenWL q2 ?_
    rw [List.length_map]
    repeat walk_at "vs"
    refine ⟨_, rfl, by omega, by omega, fun wl hn _ _ _ _ => comp_range (by omega) hn (fun j ys H3 => ∃ ws : List W83, AllW H3 ws ys ∧ ws.length = j ∧ ∀ w ∈ ws, g.rs.okW w) ⟨[], trivial, rfl, fun w h => by cases h⟩ (fun _ _ _ _ k ⟨ws, h1, h2⟩ => ⟨ws, h1.mono fun _ _ z => k _ _ z rfl, h2⟩) (fun j ys H' _ ⟨ws, h1, h2, _⟩ => by rw [h1.len]; omega) ?_ ?_⟩
    · rintro j ys H3 hj e ⟨ws, h1, h2, h3⟩ Y N hY hN
      rw [show ((0 : Int) + (j : Nat)) = (j : Nat) by omega]
      repeat walk_at "vs"
      refine r_ixL (e _ _ q2) (atI_ints (by omega) (by omega)) ?_
      repeat walk_at "vs"
      refine ⟨g, wd, p, _, _, rfl, (hg1.ext e2).ext e, hb _ (hms _ (by rw [List.getD_eq_getElem?_getD, List.getElem?_eq_getElem (show ((j : Int)).toNat < ms.length by omega)]; exact List.getElem_mem _)), by omega, by omega, fun v ww H4 a4 o4 e4 => ?_⟩
      exact hY _ _ e4 ⟨ws ++ [ww], AllW.snoc a4 (h1.mono fun _ _ z => e4 _ _ z), by simp [h2], fun x hx => (List.mem_append.mp hx).elim (h3 x) fun z => by rw [List.mem_singleton.mp z]; exact o4⟩
    rintro wvs H3 e3 wq3 ⟨ws, wa3, lw, okw⟩
    have lwv := wa3.len
    have hg3 := (hg1.ext e2).ext e3
    have x3 := e1.tr (e2.tr e3)
    repeat walk_at "vs"
    refine ⟨p0, cs, 0, rfl, x3.seqL hS, by decide, hb, fun c hc => ?_⟩
    repeat walk_at "vs"
    refine ⟨_, _, rfl, by decide, by decide, fun n n0 n1 => ?_⟩
    have hok := hg1.2.2
    obtain rfl := hg1.1
    walk_at "vs"
    with_reducible refine seq_have (fun σ' H4 => ∃ (wl : Addr) (wvs : List V) (ws : List W83), σ' = [some (.ref p0), some (.str g.word), some (.ref p), some (.ref cl), some (.ref wl), some (.int n), none, none] ∧ Ext H H4 ∧ H4 p = some (.tup g.tup) ∧ H4 wl = some (.lst wvs) ∧ AllW H4 ws wvs ∧ (∀ w ∈ ws, g.rs.okW w) ∧ ws.length ≤ 200) ?_ (fun hK => ?_)
    rotate_left
    · have go : tNext = tNext := rfl
      repeat walk_at "vs"
      refine iteD (fun c8 => ?_) (fun c8 => ?_)
      rotate_left
      · repeat (first | exact hK _ _ ⟨wl, wvs, ws, rfl, x3, hg3.2.1, wq3, wa3, okw, by omega⟩ | walk_at "vs")
      repeat walk_at "vs"
      intro l4 H4 n4 q4 e4
      repeat walk_at "vs"
      refine r_neD (a := .lst (ws.map W83.d)) (b := .lst []) (Rep.lstI (e4 _ _ wq3) (wa3.mono fun _ _ z => e4 _ _ z).rep) (Rep.lstI q4 RepL.nil) (okW_ds hok okw).1 rfl (by have := (okW_ds hok okw).2; show D.depthL (ws.map W83.d) + 1 ≤ 20; omega) ?_
      rw [eqD_nilW]
      repeat walk_at "vs"
      refine iteN (fun cn => ?_) (fun cn => ?_)
      rotate_left
      · repeat (first | exact hK _ _ ⟨wl, wvs, ws, rfl, x3.tr e4, e4 _ _ hg3.2.1, e4 _ _ wq3, wa3.mono fun _ _ z => e4 _ _ z, okw, by omega⟩ | walk_at "vs")
      have wpos : 0 < ws.length := List.length_pos_iff.mpr cn
      obtain ⟨lv, hlv, lat⟩ := wa3.get (List.getElem?_eq_getElem (show ws.length - 1 < ws.length by omega))
      have lmem := List.getElem_mem (show ws.length - 1 < ws.length by omega)
      generalize ws[ws.length - 1] = lw0 at *
      have hlast : atI wvs (-1) = some lv := by
        have e : ixN wvs.length (-1) = some (ws.length - 1) := by unfold ixN; rw [if_neg (by decide), if_pos (by omega)]; congr 1; omega
        unfold atI
        rw [e]
        exact hlv
      repeat walk_at "vs"
      refine r_neUS ?_
      by_cases hwy : g.word = Str.ofString "ways"
      · rw [decide_eq_true hwy]
        have hgt : ∃ n t h, g = .ways n t h := by
          cases g with
          | ways n t h => exact ⟨n, t, h, rfl⟩
          | line ns => exact absurd hwy (by show ¬ Str.ofString "line" = Str.ofString "ways"; decide)
          | shelf ns => exact absurd hwy (by show ¬ Str.ofString "shelf" = Str.ofString "ways"; decide)
          | hire ns => exact absurd hwy (by show ¬ Str.ofString "hire" = Str.ofString "ways"; decide)
          | store ns => exact absurd hwy (by show ¬ Str.ofString "store" = Str.ofString "ways"; decide)
          | bags ns => exact absurd hwy (by show ¬ Str.ofString "bags" = Str.ofString "ways"; decide)
        obtain ⟨nn, tt, hh, rfl⟩ := hgt
        repeat walk_at "vs"
        refine r_ixT (e4 _ _ hg3.2.1) rfl ?_
        repeat walk_at "vs"
        refine iteD (fun c3 => ?_) (fun c3 => ?_)
        rotate_left
        · repeat (first | exact hK _ _ ⟨wl, wvs, ws, rfl, x3.tr e4, e4 _ _ hg3.2.1, e4 _ _ wq3, wa3.mono fun _ _ z => e4 _ _ z, okw, by omega⟩ | walk_at "vs")
        repeat walk_at "vs"
        refine r_ixL (e4 _ _ wq3) hlast ?_
        repeat walk_at "vs"
        intro l6 H6 n6 q6 e6
        repeat walk_at "vs"
        refine r_lenWL ((e4.tr e6) _ _ wq3) ?_
        repeat walk_at "vs"
        refine r_rep1 q6 (by omega) (by omega) fun l7 H7 n7 q7 e7 => ?_
        have e37 := e4.tr (e6.tr e7)
        repeat walk_at "vs"
        refine r_addWL (e37 _ _ wq3) q7 (by rw [List.length_replicate]; omega) fun l8 H8 n8 q8 e8 => ?_
        have e38 := e37.tr e8
        have okr : ∀ w ∈ ws ++ List.replicate (200 - n / 8 % 4 - (wvs.length : Int)).toNat lw0, (G83.ways nn tt hh).rs.okW w := fun w hw => by
          rcases List.mem_append.mp hw with hw | hw
          · exact okw w hw
          · rw [(List.mem_replicate.mp hw).2]; exact okw _ lmem
        repeat (first | exact hK _ _ ⟨l8, _, ws ++ List.replicate (200 - n / 8 % 4 - (wvs.length : Int)).toNat lw0, rfl, x3.tr e38, e38 _ _ hg3.2.1, q8, AllW.app (wa3.mono fun _ _ z => e38 _ _ z) (AllW.rpl (W83.mono (fun _ _ z => e38 _ _ z) lat) _), okr, by rw [List.length_append, List.length_replicate]; omega⟩ | walk_at "vs")
      · rw [decide_eq_false hwy]
        repeat walk_at "vs"
        refine r_ixL (e4 _ _ wq3) hlast ?_
        repeat walk_at "vs"
        intro l6 H6 n6 q6 e6
        repeat walk_at "vs"
        refine r_lenWL ((e4.tr e6) _ _ wq3) ?_
        repeat walk_at "vs"
        refine r_rep1 q6 (by omega) (by omega) fun l7 H7 n7 q7 e7 => ?_
        have e37 := e4.tr (e6.tr e7)
        repeat walk_at "vs"
        refine r_addWL (e37 _ _ wq3) q7 (by rw [List.length_replicate]; omega) fun l8 H8 n8 q8 e8 => ?_
        have e38 := e37.tr e8
        have okr : ∀ w ∈ ws ++ List.replicate (200 - n / 8 % 4 - (wvs.length : Int)).toNat lw0, g.rs.okW w := fun w hw => by
          rcases List.mem_append.mp hw with hw | hw
          · exact okw w hw
          · rw [(List.mem_replicate.mp hw).2]; exact okw _ lmem
        repeat (first | exact hK _ _ ⟨l8, _, ws ++ List.replicate (200 - n / 8 % 4 - (wvs.length : Int)).toNat lw0, rfl, x3.tr e38, e38 _ _ hg3.2.1, q8, AllW.app (wa3.mono fun _ _ z => e38 _ _ z) (AllW.rpl (W83.mono (fun _ _ z => e38 _ _ z) lat) _), okr, by rw [List.length_append, List.length_replicate]; omega⟩ | walk_at "vs")
    · rintro σ' H4 ⟨wl, wvs, ws, rfl, x4, hp4, wq4, wa4, okw, l200⟩
      obtain ⟨gp1, gp2⟩ := gd_pl hok okw
      repeat walk_at "vs"
      refine ⟨g, g.word, p, wl, ws, wvs, rfl, ⟨rfl, hp4, hok⟩, wq4, wa4, okw, l200, fun l5 H5 n5 q5 e5 => ?_⟩
      have x5 := x4.tr e5
      repeat walk_at "vs"
      refine ⟨p0, l5, cs, lnG g :: ws.map lnW, rfl, x5.seqL hS, hb, q5, fun z hz => ?_, by simp, by simp; omega, fun z H6 lz fz e6 => ?_⟩
      · rcases List.mem_cons.mp hz with rfl | hz
        · exact (lnG_ok hok).2
        · obtain ⟨w, hw, rfl⟩ := List.mem_map.mp hz
          exact (lnW_ok hok (okw w hw)).2
      have e46 := e5.tr e6
      repeat walk_at "vs"
      refine ⟨z, g, ws, rfl, lz, hok, okw, l200, fz, fun t7 q7 l7 wvs7 H7 qt7 qq7 n7 ql7 a7 e7 => ?_⟩
      have e47 := e46.tr e7
      repeat walk_at "vs"
      intro td H8 n8 q8 e8
      repeat walk_at "vs"
      refine same_yes (d := g.gd ws) (gd_rep hok (e8 _ _ qt7) (e8 _ _ qq7) (e8 _ _ ql7) (a7.mono fun _ _ z => e8 _ _ z)) (gd_rep hok q8 ((e47.tr e8) _ _ hp4) ((e47.tr e8) _ _ wq4) (wa4.mono fun _ _ z => (e47.tr e8) _ _ z)) gp1 gp2 fun H9 e9 => ?_
      repeat walk_at "vs"
      refine ⟨Str.ofString "hire 7\n\nask 5\nask 0", .hire 7, [.i 5, .i 0], rfl, by decide, ⟨by decide, by decide⟩, demo_ok, by decide, demo_is, fun ta qa la wva HA qta qqa na qla aa ea => ?_⟩
      repeat walk_at "vs"
      intro t2 HB nB qB eB
      repeat walk_at "vs"
      intro t3 HC nC qC eC
      repeat walk_at "vs"
      intro t4 HD nD qD eD
      have eaD := eB.tr (eC.tr eD)
      obtain ⟨dp1, dp2⟩ := gd_pl (g := .hire 7) (ws := [.i 5, .i 0]) ⟨by decide, by decide⟩ demo_ok
      repeat walk_at "vs"
      refine same_yes (d := (G83.hire 7).gd [.i 5, .i 0]) (gd_rep ⟨by decide, by decide⟩ (eaD _ _ qta) (eaD _ _ qqa) (eaD _ _ qla) (aa.mono fun _ _ z => eaD _ _ z)) (gd_rep ⟨by decide, by decide⟩ qD ((eC.tr eD) _ _ qB) (eD _ _ qC) ⟨rfl, rfl, trivial⟩) dp1 dp2 fun HE eE => ?_
      have e7E := e8.tr (e9.tr (ea.tr (eaD.tr eE)))
      have e6E := e7.tr e7E
      repeat walk_at "vs"
      refine r_ixT (e7E _ _ qt7) rfl ?_
      have ql7E := e7E _ _ ql7
      repeat walk_at "vs"
      refine r_append ql7E (by have := a7.len; omega) fun HF qF bF => ?_
      have tk : ∀ b xs, HE b = some (.tup xs) → HF b = some (.tup xs) := fun b xs h => bF _ _ (fun z => by rw [z, ql7E] at h; cases h) h
      have hp6 := (e46.tr e6E) _ _ hp4
      have nwl : wl ≠ l7 := fun z => by have := e46 _ _ wq4; rw [z, n7] at this; cases this
      have wqF := bF _ _ nwl ((e46.tr e6E) _ _ wq4)
      have waF : AllW HF ws wvs := (wa4.mono fun _ _ z => (e46.tr e6E) _ _ z).mono tk
      have hpF := tk _ _ hp6
      repeat walk_at "vs"
      refine ⟨z, g, ws, rfl, lz, hok, okw, l200, fz, fun tG qG lG wvsG HG qtG qqG nG qlG aG eG => ?_⟩
      repeat walk_at "vs"
      intro tH HH nH qH eH
      repeat walk_at "vs"
      refine same_yes (d := g.gd ws) (gd_rep hok (eH _ _ qtG) (eH _ _ qqG) (eH _ _ qlG) (aG.mono fun _ _ z => eH _ _ z)) (gd_rep hok qH ((eG.tr eH) _ _ hpF) ((eG.tr eH) _ _ wqF) (waF.mono fun _ _ z => (eG.tr eH) _ _ z)) gp1 gp2 fun HI eI => ?_
      have eFI := eG.tr (eH.tr eI)
      repeat walk_at "vs"
      refine r_ixT (eFI _ _ (tk _ _ (e7E _ _ qt7))) rfl ?_
      repeat walk_at "vs"
      refine r_lenWL (eFI _ _ qF) ?_
      repeat walk_at "vs"
      refine r_lenWL (eFI _ _ wqF) ?_
      repeat walk_at "vs"
      rw [decide_eq_true (show ((wvs7 ++ [V.int 0]).length : Int) = (wvs.length : Int) + 1 by rw [List.length_append, a7.len, wa4.len]; rfl)]
      exact hq _
end
end Q
theorem PySem.Challenge.cw_lateknow_k81_game_read_holds : PySem.Challenge.rw_lateknow_k81_game_read.Holds :=
  PySem.Challenge.cw_lateknow_k81_game_read_pre (fun K => Q.sp_law K) (fun K H a ns hl hb hS => ⟨a, ns, rfl, hS, hl, hb, fun _ => rfl⟩) (fun w K mg a base T => Q.ok_law T)
