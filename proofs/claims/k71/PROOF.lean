import PyProof.Rows.All
import Wide.All
import OpenK.AllK
import Wide.FinOn
import Lean
import PyProof.EqAt
import PyProof.EqKinds
import PyProof.TupleCall
import PyProof.ExcClass3
import PyProof.InstStoreFacts
import PyProof.RulesAs
import PyProof.NsDelKeeps
import PyProof.ExcArgsOwn
import PyProof.ExcAttrAll.ValueError
import PyProof.ExcBaseAll.ValueError
import PySem.Challenge.RW_lateknow_k71_enemy_of_both
set_option Elab.async false
set_option linter.all false
set_option maxRecDepth 100000
set_option maxHeartbeats 4000000
-- CHANGE: your row's module here, as the last of these rows
set_option Elab.async false
set_option linter.all false
set_option maxRecDepth 100000
/-! THE HAND LAYER, for ints, bools, texts, own classes, LISTS and tuples (index, slices, in, append, pop ..), calls, loops. Paste it whole ahead of your own text; what your proof does not reach may be deleted. -/
namespace L2
open PySem PySem.Spec PyProof.Rows

/-- a key: an int or a str -/
abbrev Key := Sum Int Str
def keyIs : Key → Value → Bool
  | .inl k, v => Value.isInt k v
  | .inr x, v => Value.isStrOf x v
def keyH (w : World) : Key → Int
  | .inl k => hashInt k
  | .inr x => hashStr w x
theorem keyIs_shape : ∀ {k : Key} {v : Value}, keyIs k v = true → (∃ i t, k = Sum.inl i ∧ v = Value.int i t) ∨ (∃ x t, k = Sum.inr x ∧ v = Value.str x t)
  | .inl i, v, h => by
    obtain ⟨t, e⟩ := Value.isInt_shape (k := i) (v := v) h
    exact .inl ⟨i, t, rfl, e⟩
  | .inr x, v, h => by
    obtain ⟨t, e⟩ := Value.isStrOf_shape (x := x) (v := v) h
    exact .inr ⟨x, t, rfl, e⟩
theorem key_ll (a b : Int) : decide ((Sum.inl a : Key) = Sum.inl b) = (a == b) := by
  by_cases e : a = b
  · subst e; simp
  · have h : ¬ (Sum.inl a : Key) = Sum.inl b := fun q => e (Sum.inl.inj q)
    rw [decide_eq_false h]
    exact (beq_eq_false_iff_ne.mpr e).symm
theorem key_rr (a b : Str) : decide ((Sum.inr a : Key) = Sum.inr b) = decide (a = b) := by
  by_cases e : a = b
  · subst e; simp
  · have h : ¬ (Sum.inr a : Key) = Sum.inr b := fun q => e (Sum.inr.inj q)
    rw [decide_eq_false h, decide_eq_false e]
theorem key_lr (a : Int) (b : Str) : decide ((Sum.inl a : Key) = Sum.inr b) = false := decide_eq_false (fun q => nomatch q)
theorem key_rl (a : Str) (b : Int) : decide ((Sum.inr a : Key) = Sum.inl b) = false := decide_eq_false (fun q => nomatch q)

def mixKind (prog : Program) (w : World) : PySem.KeyKind prog w Key where
  is := keyIs
  hash := keyH w
  inj := fun v a b ha hb => by
    rcases keyIs_shape ha with ⟨i, t, rfl, rfl⟩ | ⟨x, t, rfl, rfl⟩
    · rcases keyIs_shape hb with ⟨j, u, rfl, e⟩ | ⟨y, u, rfl, e⟩
      · injection e with e1 _; rw [e1]
      · exact nomatch e
    · rcases keyIs_shape hb with ⟨j, u, rfl, e⟩ | ⟨y, u, rfl, e⟩
      · exact nomatch e
      · injection e with e1 _; rw [e1]
  byValue := fun k v h => by
    rcases keyIs_shape h with ⟨i, t, rfl, rfl⟩ | ⟨x, t, rfl, rfl⟩ <;> rfl
  pyHash := fun hv h => by
    rcases keyIs_shape hv with ⟨i, t, rfl, rfl⟩ | ⟨x, t, rfl, rfl⟩
    · exact wpAny_pyHash_int h
    · exact wpAny_pyHash_str h
  eqBool := fun hu hv h => by
    rcases keyIs_shape hu with ⟨i, t, rfl, rfl⟩ | ⟨x, t, rfl, rfl⟩
    · rcases keyIs_shape hv with ⟨j, u, rfl, rfl⟩ | ⟨y, u, rfl, rfl⟩
      · rw [key_ll] at h; exact wpAny_eqBool_int h
      · rw [key_lr] at h; exact SeqAt.EqAt.int_str i t y u _ _ _ _ h
    · rcases keyIs_shape hv with ⟨j, u, rfl, rfl⟩ | ⟨y, u, rfl, rfl⟩
      · rw [key_rl] at h; exact SeqAt.EqAt.str_int x t j u _ _ _ _ h
      · rw [key_rr] at h; exact wpAny_eqBool_str h
  «strs» := fun k x t v h => by
    rcases keyIs_shape h with ⟨i, u, rfl, e⟩ | ⟨y, u, rfl, e⟩
    · exact nomatch e
    · injection e with e1 _
      subst e1
      cases v <;> rfl

end L2

namespace L2
open PySem PySem.Spec PyProof.Rows

/-- a value, without the heap -/
inductive V where
  | non | bl (b : Bool) | int (i : Int) | str (x : Str) | byt (b : Array UInt8) | flt (b : UInt64) | ref (a : Addr) | ty (n : String)
  deriving DecidableEq

def RelV : V → Value → Prop
  | .non, u => u = Value.none
  | .bl b, u => u = Value.bool b
  | .int i, u => ∃ t, u = Value.int i t
  | .str x, u => ∃ t, u = Value.str x t
  | .byt b, u => ∃ t, u = Value.bytes b t
  | .flt b, u => ∃ t, u = Value.float b t
  | .ref a, u => u = Value.ref a
  | .ty n, u => u = Value.type n

abbrev Vals : List V → List Value → Prop := Paired RelV
theorem Vals.length {xs : List V} {us : List Value} (r : Vals xs us) : xs.length = us.length := Paired.length r
theorem Vals.get : ∀ {xs : List V} {us : List Value} {i : Nat} {x : V}, Vals xs us → xs[i]? = some x → ∃ u, us[i]? = some u ∧ RelV x u
  | _, _, _, _, .nil, e => by simp at e
  | _, _, 0, _, .cons r _, e => by simp at e; subst e; exact ⟨_, rfl, r⟩
  | _, _, i + 1, x, .cons _ t, e => by
    obtain ⟨u, h1, h2⟩ := Vals.get (i := i) (x := x) t (by simpa using e)
    exact ⟨u, by simpa using h1, h2⟩
theorem Vals.set {x : V} {u : Value} (r : RelV x u) : ∀ {xs : List V} {us : List Value} (i : Nat), Vals xs us → Vals (xs.set i x) (us.set i u)
  | _, _, _, .nil => .nil
  | _, _, 0, .cons _ t => .cons r t
  | _, _, i + 1, .cons q t => .cons q (Vals.set r i t)
theorem Vals.append : ∀ {xs ys : List V} {us ws : List Value}, Vals xs us → Vals ys ws → Vals (xs ++ ys) (us ++ ws)
  | _, _, _, _, .nil, s => s
  | _, _, _, _, .cons r t, s => .cons r (Vals.append t s)
theorem Vals.take : ∀ {xs : List V} {us : List Value} (n : Nat), Vals xs us → Vals (xs.take n) (us.take n)
  | _, _, 0, _ => .nil
  | _, _, _ + 1, .nil => .nil
  | _, _, n + 1, .cons r t => .cons r (Vals.take n t)
theorem Vals.drop : ∀ {xs : List V} {us : List Value} (n : Nat), Vals xs us → Vals (xs.drop n) (us.drop n)
  | _, _, 0, r => r
  | _, _, _ + 1, .nil => .nil
  | _, _, n + 1, .cons _ t => Vals.drop n t
theorem Vals.none_of : ∀ {xs : List V} {us : List Value} {i : Nat}, Vals xs us → xs[i]? = none → us[i]? = none := fun {xs us i} r e => by
  have h1 := r.length
  have h2 : xs.length ≤ i := List.getElem?_eq_none_iff.mp e
  exact List.getElem?_eq_none_iff.mpr (by omega)

def RelO : Option V → Option Value → Prop
  | some v, some u => RelV v u
  | none, none => True
  | _, _ => False
def KV {κ : Type} : List (κ × V) → List (κ × Value) → Prop := Paired fun (p : κ × V) (q : κ × Value) => p.1 = q.1 ∧ RelV p.2 q.2

/-- a key of a dict (00_mix): an int or a text -/
def kV : Key → V
  | .inl i => .int i
  | .inr x => .str x

/-- a tuple that has no dict -/
def TupN (h : Heap) (a : Addr) (xs : Array Value) : Prop := IsTup h a xs ∧ ∃ o, h.get? a = some o ∧ o.dict = none
theorem TupN.new (h : Heap) (xs : Array Value) : TupN (h.push { cls := .type "tuple", data := .seq xs }) h.objs.size xs := ⟨IsTup.new _ _, _, Heap.get?_push_size _ rfl, rfl⟩
/-- what stands at a tracked address -/
inductive HO where
  /-- a list -/
  | lst (xs : List V)
  /-- a tuple (never changes) -/
  | tup (xs : List V)
  /-- a dict whose keys are ints and texts; one whose keys are tuples of ints and texts (the empty one is both) -/
  | dK (kvs : List (Key × V)) | dT (kvs : List (List Key × V))
  /-- a set of ints: its members, its size -/
  | set (S : Int → Bool) (n : Nat)
  /-- an instance of the class at C, its dict at dx, its attributes -/
  | ins (C dx : Addr) (fs : List (Str × V))
  /-- the dict of the instance at x -/
  | own (x : Addr)
  /-- the dict of an exception -/
  | xd (fs : List (Str × V))
  /-- a bound method, f of x -/
  | met (f x : Addr)
  /-- a range object lo, lo + 1, .. below hi -/
  | rng (lo hi : Int)
  /-- a thing that is known to the object (the script; a dict while a loop walks it): read, never written while it is so -/
  | frz (o : Obj) (u : HO)
  /-- a code object's table -/
  | tbl (ps : Array Value)
  /-- any other thing, by what is true of its one object (a def of one's own: SetO a S n := HO.ext fun h => ..) -/
  | ext (φ : Heap → Prop)

abbrev Hp := Addr → Option HO
def upd (H : Hp) (a : Addr) (o : HO) : Hp := fun b => if b = a then some o else H b
theorem upd_same {H : Hp} {a : Addr} {o : HO} : upd H a o a = some o := by unfold upd; rw [if_pos rfl]
theorem upd_ne {H : Hp} {a b : Addr} {o : HO} (h : b ≠ a) : upd H a o b = H b := by unfold upd; rw [if_neg h]
theorem upd_upd {H : Hp} {a : Addr} {o u : HO} : upd (upd H a o) a u = upd H a u := by
  funext b; unfold upd; split <;> rfl
/-- two objects of different content stand apart -/
theorem ne_of {H : Hp} {a b : Addr} {o u : HO} (h : H a = some o) (h' : H b = some u) (d : o ≠ u) : a ≠ b := by
  intro e; subst e; rw [h] at h'; exact d (Option.some.inj h')
theorem ne_of_none {H : Hp} {a b : Addr} {o : HO} (h : H a = some o) (h' : H b = none) : a ≠ b := by
  intro e; subst e; rw [h] at h'; cases h'

section
variable (P : Program) (w : World)
def ObjOk (H : Hp) (h : Heap) (a : Addr) : HO → Prop
  | .lst xs => xs.length ≤ sizeLine ∧ ∃ (its : List Value) (n : Nat), Vals xs its ∧ h.get? a = some { cls := .type "list", data := .seq its.toArray n }
  | .tup xs => xs.length ≤ sizeLine ∧ ∃ its : List Value, Vals xs its ∧ TupN h a its.toArray
  | .dK kvs => kvs.length ≤ sizeLine ∧ (a == sysModules) = false ∧ ∃ vs, KV kvs vs ∧ h.DictOf (mixKind P w) a vs
  | .dT kvs => kvs.length ≤ sizeLine ∧ (a == sysModules) = false ∧ ∃ xs : List (List Key × Addr × Value),
      Paired (fun (p : List Key × V) (q : List Key × Addr × Value) => p.1 = q.1 ∧ H q.2.1 = some (.tup (p.1.map kV)) ∧ RelV p.2 q.2.2) kvs xs ∧
      ∃ o es ep, h.get? a = some o ∧ o.ExactDict ∧ o.data = .dict es ep ∧ es.toList = xs.map (entryOfKey (tupleKind (mixKind P w))) ∧ (xs.map (·.1)).Nodup
  | .set S n => h.SetOf (intKind P w) a S n
  | .ins C dx fs => H dx = some (.own a) ∧ fs.length ≤ 1000 ∧ dx ≠ a ∧ h.get? a = some (PySem.W.instObj C dx) ∧
      ∃ mA, h.Ns1 dx mA ∧ (∀ f, RelO (fs.lookup f) (mA f)) ∧ PySem.Within mA (fs.map (·.1))
  | .own _ => ∃ o, h.get? a = some o
  | .xd fs => ∃ mA, h.Ns1 a mA ∧ ∀ f, RelO (fs.lookup f) (mA f)
  | .rng lo hi => ∃ t u v, h.get? a = some { cls := .type "range", data := .fields #[.int lo t, .int hi u, .int 1 v] }
  | .frz o u => h.get? a = some o ∧ ObjOk H h a u
  | .tbl ps => h.get? a = some { cls := .none, data := .fields ps }
  | .met f x => h.get? a = some (PySem.W.methodObj (.ref f) (.ref x))
  | .ext φ => φ h ∧ (∃ o, h.get? a = some o) ∧ ∀ h1 h2 : Heap, φ h1 → (∀ o, h1.get? a = some o → h2.get? a = some o) → φ h2
/-- the abstract heap is held -/
def HOk (H : Hp) (h : Heap) : Prop := ∀ a o, H a = some o → ObjOk P w H h a o
end

section
variable {P : Program} {w : World} {H H' : Hp} {h h' : Heap} {a : Addr} {o : HO}
theorem ObjOk.lt (x : ObjOk P w H h a o) : a < h.objs.size := by
  cases o with
  | lst xs => obtain ⟨_, _, _, _, e⟩ := x; exact Heap.lt_size e
  | tup xs => obtain ⟨_, _, _, p⟩ := x; exact p.1.lt
  | dK kvs => obtain ⟨_, _, _, _, o, _, _, e, _⟩ := x; exact Heap.lt_size e
  | dT kvs => obtain ⟨_, _, _, _, o, _, _, e, _⟩ := x; exact Heap.lt_size e
  | set S n => obtain ⟨o, _, _, _, e, _⟩ := x; exact Heap.lt_size e
  | ins C dx fs => obtain ⟨_, _, _, e, _⟩ := x; exact Heap.lt_size e
  | own y => obtain ⟨_, e⟩ := x; exact Heap.lt_size e
  | xd fs => obtain ⟨_, ⟨_, _, _, e, _⟩, _⟩ := x; exact Heap.lt_size e
  | rng lo hi => obtain ⟨_, _, _, e⟩ := x; exact Heap.lt_size e
  | frz ob u => obtain ⟨e, _⟩ := x; exact Heap.lt_size e
  | tbl ps => exact Heap.lt_size (show h.get? a = some _ from x)
  | met f y => exact Heap.lt_size (show h.get? a = some _ from x)
  | ext φ => obtain ⟨_, ⟨_, e⟩, _⟩ := x; exact Heap.lt_size e
theorem Paired.mapP {α β : Type} {F G : α → β → Prop} : ∀ {l₁ : List α} {l₂ : List β}, Paired F l₁ l₂ → (∀ a b, F a b → G a b) → Paired G l₁ l₂
  | _, _, .nil, _ => .nil
  | _, _, .cons r t, f => .cons (f _ _ r) (Paired.mapP t f)
/-- what an object's description leans on: its own object, its own dict, the tuples -/
theorem ObjOk.stay (x : ObjOk P w H h a o) (k : ∀ b u, (b = a ∨ H b = some (.own a)) → h.get? b = some u → h'.get? b = some u)
    (ho : ∀ b, H b = some (.own a) → H' b = some (.own a)) (ht : ∀ b xs, H b = some (.tup xs) → H' b = some (.tup xs)) : ObjOk P w H' h' a o := by
  induction o with
  | lst xs => obtain ⟨z, its, n, r, e⟩ := x; exact ⟨z, its, n, r, k _ _ (.inl rfl) e⟩
  | tup xs => obtain ⟨z, its, r, ⟨ob, e, c⟩, od, f, d⟩ := x; exact ⟨z, its, r, ⟨ob, k _ _ (.inl rfl) e, c⟩, od, k _ _ (.inl rfl) f, d⟩
  | dK kvs => obtain ⟨z, y, vs, r, ob, es, ep, e, c⟩ := x; exact ⟨z, y, vs, r, ob, es, ep, k _ _ (.inl rfl) e, c⟩
  | dT kvs =>
    obtain ⟨z, y, xs, r, ob, es, ep, e, c⟩ := x
    exact ⟨z, y, xs, Paired.mapP r fun p q z => ⟨z.1, ht _ _ z.2.1, z.2.2⟩, ob, es, ep, k _ _ (.inl rfl) e, c⟩
  | set S n => obtain ⟨ob, es, ep, t, e, c⟩ := x; exact ⟨ob, es, ep, t, k _ _ (.inl rfl) e, c⟩
  | ins C dx fs =>
    obtain ⟨d, z, ne, e, mA, ⟨od, es, ep, e2, c⟩, r⟩ := x
    exact ⟨ho _ d, z, ne, k _ _ (.inl rfl) e, mA, ⟨od, es, ep, k _ _ (.inr d) e2, c⟩, r⟩
  | own y => obtain ⟨ob, e⟩ := x; exact ⟨ob, k _ _ (.inl rfl) e⟩
  | xd fs => obtain ⟨mA, ⟨od, es, ep, e, c⟩, r⟩ := x; exact ⟨mA, ⟨od, es, ep, k _ _ (.inl rfl) e, c⟩, r⟩
  | rng lo hi => obtain ⟨t, u, v, e⟩ := x; exact ⟨t, u, v, k _ _ (.inl rfl) e⟩
  | frz ob u ih => obtain ⟨e, q⟩ := x; exact ⟨k _ _ (.inl rfl) e, ih q⟩
  | tbl ps =>
    have e : h.get? a = some { cls := .none, data := .fields ps } := x
    show h'.get? a = some { cls := .none, data := .fields ps }
    exact k a _ (.inl rfl) e
  | met f y =>
    have e : h.get? a = some (PySem.W.methodObj (.ref f) (.ref y)) := x
    show h'.get? a = some (PySem.W.methodObj (.ref f) (.ref y))
    exact k a _ (.inl rfl) e
  | ext φ => obtain ⟨p, ⟨o, e⟩, st⟩ := x; exact ⟨st _ _ p fun o q => k _ _ (.inl rfl) q, ⟨o, k _ _ (.inl rfl) e⟩, st⟩
theorem HOk.lt (x : HOk P w H h) (e : H a = some o) : a < h.objs.size := (x a o e).lt
theorem HOk.fresh (x : HOk P w H h) (e : h.objs.size ≤ a) : H a = none := by
  cases q : H a with
  | none => rfl
  | some u => exact absurd (Nat.lt_of_lt_of_le (x.lt q) e) (Nat.lt_irrefl _)
/-- every object of the heap is kept -/
theorem HOk.kept (x : HOk P w H h) (k : ∀ b u, h.get? b = some u → h'.get? b = some u) : HOk P w H h' := fun a o e =>
  (x a o e).stay (fun b u _ q => k b u q) (fun _ q => q) fun _ _ q => q
/-- a new object is laid and tracked -/
theorem HOk.laid (x : HOk P w H h) (k : ∀ b u, h.get? b = some u → h'.get? b = some u) (hp : h.objs.size ≤ a) (new : ObjOk P w (upd H a o) h' a o) : HOk P w (upd H a o) h' := fun b u e => by
  have hn := x.fresh hp
  by_cases hb : b = a
  · subst hb; rw [upd_same] at e; cases e; exact new
  · rw [upd_ne hb] at e
    exact (x b u e).stay (fun c v _ q => k c v q) (fun c q => by rw [upd_ne (ne_of_none q hn)]; exact q) fun c xs q => by rw [upd_ne (ne_of_none q hn)]; exact q
end

/-- what may be read as u: it is u, or a known u -/
def Rd (H : Hp) (a : Addr) (u : HO) : Prop := H a = some u ∨ ∃ o, H a = some (.frz o u)
theorem Rd.of {H : Hp} {a : Addr} {u : HO} (h : H a = some u) : Rd H a u := .inl h
theorem Rd.ok {P : Program} {w : World} {H : Hp} {h : Heap} {a : Addr} {u : HO} (r : Rd H a u) (x : HOk P w H h) : ObjOk P w H h a u := by
  rcases r with r | ⟨o, r⟩
  · exact x a u r
  · obtain ⟨_, q⟩ := x a _ r
    exact q
/-- what may be written -/
def Mut : Option HO → Prop
  | some (.lst _) => True
  | some (.dK _) => True
  | some (.dT _) => True
  | some (.set _ _) => True
  | some (.ins _ _ _) => True
  | some (.ext _) => True
  | _ => False
section
variable {P : Program} {w : World} {H : Hp} {h h' : Heap} {x e : Addr} {o' : HO}
/-- the object at e is changed: x itself, or the dict of the instance x -/
theorem HOk.write (ok : HOk P w H h) (mu : Mut (H x)) (he : e = x ∨ H e = some (.own x)) (k : ∀ b u, b ≠ e → h.get? b = some u → h'.get? b = some u) (heo : ∃ u, h'.get? e = some u)
    (new : ObjOk P w (upd H x o') h' x o') : HOk P w (upd H x o') h' := fun b u q => by
  have nown : ∀ c y, H c = some (.own y) → c ≠ x := fun c y r z => by subst z; rw [r] at mu; exact mu
  have ntup : ∀ c xs, H c = some (.tup xs) → c ≠ x := fun c xs r z => by subst z; rw [r] at mu; exact mu
  by_cases hb : b = x
  · subst hb; rw [upd_same] at q; cases q; exact new
  · rw [upd_ne hb] at q
    by_cases hbe : b = e
    · have q' : H b = some (.own x) := by
        rcases he with z | z
        · exact absurd (hbe.trans z) hb
        · rw [hbe]; exact z
      rw [q] at q'; cases q'
      obtain ⟨v, hv⟩ := heo
      exact ⟨v, by rw [hbe]; exact hv⟩
    · refine (ok b u q).stay (fun c v hc r => k c v ?_ r) (fun c r => by rw [upd_ne (nown c b r)]; exact r) fun c xs r => by rw [upd_ne (ntup c xs r)]; exact r
      rcases hc with rfl | hc
      · exact hbe
      · rintro rfl
        rcases he with z | z
        · exact nown c b hc z
        · rw [hc] at z; cases z; exact hb rfl
end

/-! ### kept unless tracked; of the frames at fs (the callers') the slots may change (an exception that passes writes there); of the records at ex (iterators) nothing is said -/
structure Un (fs ex : List Addr) (H H' : Hp) (h h' : Heap) : Prop where
  keep : ∀ b o, h.get? b = some o → H b = none → b ∉ fs → b ∉ ex → h'.get? b = some o
  slot : ∀ b o, h.get? b = some o → H b = none → b ∈ fs → b ∉ ex → ∃ sl, h'.get? b = some { o with slots := sl }
  free : ∀ b o, h.get? b = some o → H b = none → b ∉ ex → H' b = none
  there : ∀ b o, h.get? b = some o → b ∉ ex → ∃ o', h'.get? b = some o'
  tups : ∀ b xs, H b = some (.tup xs) → H' b = some (.tup xs)
  frzs : ∀ b o u, H b = some (.frz o u) → H' b = some (.frz o u)
  tbls : ∀ b ps, H b = some (.tbl ps) → ∃ more, H' b = some (.tbl (ps ++ more))
section
variable {fs fs' ex ex' : List Addr} {H H1 H2 : Hp} {h h1 h2 h' : Heap} {a x e : Addr} {o : HO}
theorem Un.any (u : Un fs ex H H1 h h1) {b : Addr} {ob : Obj} (q : h.get? b = some ob) (n : H b = none) (hx : b ∉ ex) : ∃ sl, h1.get? b = some { ob with slots := sl } := by
  by_cases hb : b ∈ fs
  · exact u.slot b ob q n hb hx
  · exact ⟨ob.slots, u.keep b ob q n hb hx⟩
theorem Un.trans (a : Un fs ex H H1 h h1) (b : Un fs ex H1 H2 h1 h2) : Un fs ex H H2 h h2 where
  keep := fun c ob q n hc hx => b.keep c ob (a.keep c ob q n hc hx) (a.free c ob q n hx) hc hx
  slot := fun c ob q n hc hx => by
    obtain ⟨sl, e1⟩ := a.slot c ob q n hc hx
    obtain ⟨sl', e2⟩ := b.slot c _ e1 (a.free c ob q n hx) hc hx
    exact ⟨sl', e2⟩
  free := fun c ob q n hx => by
    obtain ⟨o', e1⟩ := a.there c ob q hx
    exact b.free c o' e1 (a.free c ob q n hx) hx
  there := fun c ob q hx => by
    obtain ⟨o', e1⟩ := a.there c ob q hx
    exact b.there c o' e1 hx
  tups := fun c xs q => b.tups c xs (a.tups c xs q)
  frzs := fun c ob xs q => b.frzs c ob xs (a.frzs c ob xs q)
  tbls := fun c ps q => by
    obtain ⟨m1, e1⟩ := a.tbls c ps q
    obtain ⟨m2, e2⟩ := b.tbls c _ e1
    exact ⟨m1 ++ m2, by rw [e2, Array.append_assoc]⟩
theorem Un.kept (k : ∀ b u, h.get? b = some u → h'.get? b = some u) : Un fs ex H H h h' :=
  ⟨fun b ob q _ _ _ => k b ob q, fun b ob q _ _ _ => ⟨ob.slots, k b ob q⟩, fun _ _ _ n _ => n, fun b ob q _ => ⟨ob, k b ob q⟩, fun _ _ q => q, fun _ _ _ q => q, fun _ ps q => ⟨#[], by rw [q]; simp⟩⟩
theorem Un.refl : Un fs ex H H h h := Un.kept fun _ _ q => q
theorem Un.laid (k : ∀ b u, h.get? b = some u → h'.get? b = some u) (hp : h.objs.size ≤ a) (hn : H a = none) : Un fs ex H (upd H a o) h h' where
  keep := fun b u q _ _ _ => k b u q
  slot := fun b u q _ _ _ => ⟨u.slots, k b u q⟩
  free := fun b u q n _ => by rw [upd_ne (Nat.ne_of_lt (Nat.lt_of_lt_of_le (Heap.lt_size q) hp))]; exact n
  there := fun b u q _ => ⟨u, k b u q⟩
  tups := fun b xs q => by rw [upd_ne (ne_of_none q hn)]; exact q
  frzs := fun b u xs q => by rw [upd_ne (ne_of_none q hn)]; exact q
  tbls := fun b ps q => ⟨#[], by rw [upd_ne (ne_of_none q hn), q]; simp⟩
theorem Un.write (mu : Mut (H x)) (he : e = x ∨ H e = some (.own x)) (k : ∀ b u, b ≠ e → h.get? b = some u → h'.get? b = some u) (heo : ∃ u, h'.get? e = some u) : Un fs ex H (upd H x o) h h' := by
  have hx : ∀ b, H b = none → b ≠ x := fun b n z => by subst z; rw [n] at mu; exact mu
  have hb : ∀ b, H b = none → b ≠ e := fun b n z => by
    subst z
    rcases he with r | r
    · exact hx b n r
    · rw [n] at r; cases r
  have hm : ∀ b u, H b = some u → ¬ Mut (some u) → b ≠ x := fun b u q nm z => by subst z; rw [q] at mu; exact nm mu
  refine ⟨fun b u q n _ _ => k b u (hb b n) q, fun b u q n _ _ => ⟨u.slots, k b u (hb b n) q⟩, fun b u q n _ => by rw [upd_ne (hx b n)]; exact n, fun b u q _ => ?_,
    fun b xs q => by rw [upd_ne (hm b _ q fun z => z)]; exact q, fun b u xs q => by rw [upd_ne (hm b _ q fun z => z)]; exact q, fun b ps q => ⟨#[], by rw [upd_ne (hm b _ q fun z => z), q]; simp⟩⟩
  by_cases hbe : b = e
  · subst hbe; exact heo
  · exact ⟨u, k b u hbe q⟩
theorem Un.mono (u : Un fs ex H H1 h h1) (hs : ∀ b ∈ fs, b ∈ fs') (hx : ∀ b ∈ ex, b ∈ ex') : Un fs' ex' H H1 h h1 :=
  ⟨fun b ob q n hb he => u.keep b ob q n (fun z => hb (hs b z)) fun z => he (hx b z), fun _ _ q n _ he => u.any q n fun z => he (hx _ z), fun b ob q n he => u.free b ob q n fun z => he (hx b z), fun b ob q he => u.there b ob q fun z => he (hx b z), u.tups, u.frzs, u.tbls⟩
end

/-! ### the heap without what is tracked -/
def trk (h : Heap) (H : Hp) : List Addr := (List.range h.objs.size).filter fun a => (H a).isSome
def hidT (h : Heap) (H : Hp) : Heap := PySem.W.hideAll h (trk h H)
theorem hidT_size (h : Heap) (H : Hp) : (hidT h H).objs.size = h.objs.size := PySem.W.hideAll_size _ _
theorem hidT_get {h : Heap} {H : Hp} {b : Addr} {o : Obj} (e : h.get? b = some o) (n : H b = none) : (hidT h H).get? b = some o :=
  PySem.W.hideAll_get _ e fun hm => by
    have q : (H b).isSome = true := (List.mem_filter.mp hm).2
    rw [n] at q; simp at q
theorem of_hidT {h : Heap} {H : Hp} {b : Addr} {o : Obj} (e : (hidT h H).get? b = some o) : h.get? b = some o ∧ H b = none := by
  have e' : h.get? b = some o := PySem.W.of_hideAll (trk h H) e
  refine ⟨e', ?_⟩
  cases q : H b with
  | none => rfl
  | some x =>
    have hm : b ∈ trk h H := List.mem_filter.mpr ⟨List.mem_range.mpr (Heap.lt_size e'), by simp [q]⟩
    have z : (hidT h H).get? b = none := PySem.W.hideAll_none (trk h H) hm
    rw [z] at e; cases e

/-! ### OpenK's ledger, filled with every new object but one -/
def allNews (g h : Heap) (L : Addr) : List (Addr × Obj) := (List.range h.objs.size).filterMap fun a => if a = L ∨ (g.get? a).isSome = true then none else (h.get? a).map fun o => (a, o)
def rest (g h : Heap) (L d : Addr) : List (Addr × Obj) := (allNews g h L).filter fun p => decide (p.1 ≠ d)
end L2

namespace L2
open PySem PySem.Spec PyProof.Rows

/-- the module's facts, over the base: the heap at the law's entry without what is tracked there -/
structure Mod (K : PySem.W.Frag) (mg : Str → Option Value) (base : Heap) : Prop where
  kin : K.In base
  glob : base.Ns mainGlobals mg
  blt : ∃ mb, base.Ns builtinsNs mb ∧ ∀ x : Str, x ≠ "__name__" → mb x = bootBuiltins x
  nolimit : base.NoLimit
  bmain : ∃ bm ob, mg "__builtins__" = some (.ref bm) ∧ bm ≠ builtinsNs ∧ base.get? bm = some ob ∧ ob.cls = .type "module" ∧ ob.dict = some builtinsNs ∧ ob.data = .plain

/-- the context: a def's body (or a comprehension's block) running. base: fixed through the whole law; s₀, H₀: the entry; outer: the frames whose slots others may change (a def's callers); stack: all frames that run;
   ex: iterators that were made ahead of the entry and are walked here (a comprehension's); fn: the names whose cells were made at the entry (a def: all; a comprehension's block: its own); calm: not within an except suite; pn: pins that every state bears; xe: what is wanted of an exception that leaves the code -/
structure Cx where
  prog : Program
  w : World
  K : PySem.W.Frag
  mg : Str → Option Value
  base : Heap
  A : Around
  N : List Str
  s₀ : Shared
  H₀ : Hp
  env : Env
  outer : List Env
  stack : List Env
  ex : List Addr
  fn : Str → Bool
  calm : Bool
  pn : List (Addr × Obj)
  xe : Value → Shared → Prop
/-- the callers' frames -/
def frs (l : List Env) : List Addr := l.filterMap (·.frame)
abbrev Cx.fs (X : Cx) : List Addr := frs X.outer

def Vis (sc : Scope) (x : Str) : Prop := sc.names.lookup x = some .local ∨ sc.names.lookup x = some .cell ∨ sc.names.lookup x = some .free
def Loc (sc : Scope) (x : Str) : Prop := sc.names.lookup x = some .local ∨ sc.names.lookup x = some .cell
def Look (env : Env) (h : Heap) (m : Str → Option Value) (x : Str) (u : Value) : Prop :=
  (env.kindOf x = some .local ∧ m x = some u) ∨ ((env.kindOf x = some .cell ∨ env.kindOf x = some .free) ∧ ∃ c, env.cells.lookup x = some c ∧ h.IsCell c (some u))

structure Cx.Ok (X : Cx) : Prop where
  mod : Mod X.K X.mg X.base
  kind : X.env.scope.kind = .function
  glob : X.env.globals = mainGlobals
  blt : X.env.builtins = builtinsNs
  above : X.s₀.heap.objs.size ≤ X.env.locals
  inj : ∀ x y c, X.env.cells.lookup x = some c → X.env.cells.lookup y = some c → x = y
  has : ∀ x, (X.env.kindOf x = some .cell ∨ X.env.kindOf x = some .free) → ∃ c, X.env.cells.lookup x = some c
  cab : ∀ x c, X.fn x = true → X.env.cells.lookup x = some c → X.s₀.heap.objs.size ≤ c
  hd : X.calm = true → X.A.handled = none
  frames : X.A.frames = some X.stack
  stk : X.stack = X.outer ∨ (X.stack = X.env :: X.outer ∧ X.env.frame = some X.env.locals)
  exf : ∀ b ∈ X.ex, b ≠ X.env.locals ∧ ∀ x c, X.env.cells.lookup x = some c → c ≠ b
  bs : ∀ b o, X.base.get? b = some o → X.s₀.heap.get? b = some o ∧ X.H₀ b = none
  bsz : X.base.objs.size ≤ X.s₀.heap.objs.size
  noex : ∀ b o, X.base.get? b = some o → b ∉ X.ex
  exfs : ∀ b ∈ X.ex, b ∉ X.fs
  funs : X.s₀.heap.FunFrames X.base X.outer
  frf : ∀ b ∈ X.fs, X.H₀ b = none

structure Inv (X : Cx) (pins : List (Addr × Obj)) (σ : List (Option V)) (H : Hp) (s : Shared) : Prop where
  ok : X.Ok
  os : s.os = X.s₀.os
  bare : AllBare s.gens
  base : Un X.fs X.ex X.H₀ H X.s₀.heap s.heap
  loc : ∃ m, s.heap.Ns X.env.locals m ∧ ∀ (i : Nat) (x : Str) (v : V), X.N[i]? = some x → σ[i]? = some (some v) → Vis X.env.scope x → ∃ u, RelV v u ∧ Look X.env s.heap m x u
  cell : ∀ x c, X.env.cells.lookup x = some c → ∃ v, s.heap.IsCell c v
  free : H X.env.locals = none
  freeC : ∀ x c, X.env.cells.lookup x = some c → H c = none
  pin : ∀ p ∈ X.pn ++ pins, s.heap.get? p.1 = some p.2 ∧ H p.1 = none ∧ p.1 ≠ X.env.locals ∧ p.1 ∉ X.fs ∧ ∀ v, p.2.data ≠ .cell v
  hok : HOk X.prog X.w H s.heap
  len : σ.length = X.N.length

section
variable {X : Cx} {pins : List (Addr × Obj)} {σ : List (Option V)} {H H' : Hp} {s : Shared} {h' : Heap}

theorem Cx.Ok.nofr (ok : X.Ok) {b : Addr} {o : Obj} (e : X.base.get? b = some o) : b ∉ X.fs := fun hb => by
  have := (ok.funs.mem hb).1
  rw [e] at this; cases this
theorem Inv.bs (I : Inv X pins σ H s) : ∀ b o, X.base.get? b = some o → s.heap.get? b = some o ∧ H b = none := fun b o e =>
  ⟨I.base.keep b o (I.ok.bs b o e).1 (I.ok.bs b o e).2 (I.ok.nofr e) (I.ok.noex b o e), I.base.free b o (I.ok.bs b o e).1 (I.ok.bs b o e).2 (I.ok.noex b o e)⟩
theorem Inv.bk (I : Inv X pins σ H s) : ∀ b o, X.base.get? b = some o → s.heap.get? b = some o := fun b o e => (I.bs b o e).1
theorem Inv.mod (I : Inv X pins σ H s) : Mod X.K X.mg X.base := I.ok.mod
theorem Inv.kIn (I : Inv X pins σ H s) : X.K.In s.heap := I.ok.mod.kin.keeps I.bk
theorem Inv.nolimit (I : Inv X pins σ H s) : s.heap.NoLimit := I.ok.mod.nolimit.keeps I.bk
/-- the frame over the base: for OpenK's rules (K.In X.base is I.mod.kin) -/
theorem Inv.fr (I : Inv X pins σ H s) : ∃ m, Fr X.base X.env.locals s.heap m :=
  let ⟨m, hn, _⟩ := I.loc
  ⟨m, hn, I.bk, Nat.le_trans I.ok.bsz I.ok.above⟩
theorem Inv.lt (I : Inv X pins σ H s) : X.env.locals < s.heap.objs.size := let ⟨_, hn, _⟩ := I.loc; hn.lt
theorem Inv.sz (I : Inv X pins σ H s) : X.s₀.heap.objs.size ≤ s.heap.objs.size := Nat.le_trans I.ok.above (Nat.le_of_lt I.lt)
theorem Inv.nofs (I : Inv X pins σ H s) {a : Addr} (h : s.heap.objs.size ≤ a) : a ∉ X.fs := fun hb => by
  obtain ⟨_, o, ho, _⟩ := I.ok.funs.mem hb
  exact absurd (Nat.lt_of_lt_of_le (Heap.lt_size ho) (Nat.le_trans I.sz h)) (Nat.lt_irrefl _)
theorem Inv.cne (I : Inv X pins σ H s) : ∀ x c, X.env.cells.lookup x = some c → c ≠ X.env.locals := fun x c e z => by
  obtain ⟨v, o, ho, hd⟩ := I.cell x c e
  obtain ⟨m, ⟨o', es, ep, ho', hd', _⟩, _⟩ := I.loc
  rw [z, ho'] at ho; cases ho; rw [hd'] at hd; cases hd
theorem Inv.funs (I : Inv X pins σ H s) : s.heap.FunFrames X.base X.outer := by
  have all : ∀ (l : List Env), (∀ b ∈ frs l, b ∈ X.fs) → X.s₀.heap.FunFrames X.base l → s.heap.FunFrames X.base l := by
    intro l
    induction l with
    | nil => intro _ _; trivial
    | cons env r ih =>
      intro hs hl
      obtain ⟨hk, ⟨L, o, hf, hn, ho, hd⟩, hr⟩ := hl
      have hL : L ∈ X.fs := hs L (by unfold frs; rw [List.filterMap_cons, hf]; exact List.mem_cons_self)
      obtain ⟨sl, e⟩ := I.base.slot L o ho (I.ok.frf L hL) hL fun z => I.ok.exfs L z hL
      exact ⟨hk, ⟨L, _, hf, hn, e, hd⟩, ih (fun b hb => hs b (by unfold frs; rw [List.filterMap_cons, hf]; exact List.mem_cons_of_mem _ hb)) hr⟩
  exact all X.outer (fun _ hb => hb) I.ok.funs

/-- the frames that run, for a call -/
theorem Inv.stack (I : Inv X pins σ H s) : s.heap.FunFrames X.base X.stack := by
  rcases I.ok.stk with e | ⟨e, hf⟩
  · rw [e]; exact I.funs
  · rw [e]
    obtain ⟨m, hn, _⟩ := I.loc
    refine .cons (by rw [I.ok.kind]; decide) hf hn ?_ I.funs
    exact Heap.get?_none_of_le (Nat.le_trans I.ok.bsz I.ok.above)
theorem Inv.stkSub (I : Inv X pins σ H s) : ∀ b ∈ frs X.stack, b ∈ X.env.locals :: X.fs := fun b hb => by
  rcases I.ok.stk with e | ⟨e, hf⟩
  · rw [e] at hb; exact List.mem_cons_of_mem _ hb
  · rw [e] at hb
    unfold frs at hb
    rw [List.filterMap_cons, hf] at hb
    exact hb
theorem Inv.stkFree (I : Inv X pins σ H s) : ∀ b ∈ frs X.stack, H b = none := fun b hb => by
  rcases List.mem_cons.mp (I.stkSub b hb) with e | hb
  · rw [e]; exact I.free
  · obtain ⟨_, o, ho, _⟩ := I.ok.funs.mem hb
    exact I.base.free b o ho (I.ok.frf b hb) fun z => I.ok.exfs b z hb

/-- THE STEP: the untracked objects but the frame and the records at ch are kept (the callers' frames up to slots), the frame's map is kept, the new abstract heap is held -/
theorem Inv.step {g' : Array GenState} {t' : Nat} {d' : Drawn} {ch : List Addr} (I : Inv X pins σ H s)
    (hch : ∀ b ∈ ch, (b ∈ X.ex ∨ X.s₀.heap.objs.size ≤ b) ∧ b ≠ X.env.locals ∧ (∀ x c, X.env.cells.lookup x = some c → c ≠ b) ∧ ∀ p ∈ X.pn ++ pins, p.1 ≠ b)
    (keep : ∀ b o, b ≠ X.env.locals → b ∉ X.fs → b ∉ ch → s.heap.get? b = some o → H b = none → h'.get? b = some o)
    (slot : ∀ b o, b ≠ X.env.locals → b ∈ X.fs → b ∉ ch → s.heap.get? b = some o → H b = none → ∃ sl, h'.get? b = some { o with slots := sl }) (free : ∀ b o, b ∉ ch → s.heap.get? b = some o → H b = none → H' b = none)
    (there : ∀ b o, b ∉ ch → s.heap.get? b = some o → ∃ o', h'.get? b = some o')
    (tups : ∀ b xs, H b = some (.tup xs) → H' b = some (.tup xs)) (frzs : ∀ b o u, H b = some (.frz o u) → H' b = some (.frz o u)) (tbls : ∀ b ps, H b = some (.tbl ps) → ∃ more, H' b = some (.tbl (ps ++ more)))
    (ns : ∀ m, s.heap.Ns X.env.locals m → h'.Ns X.env.locals m) (hok : HOk X.prog X.w H' h') (hg : AllBare g') :
    Inv X pins σ H' { s with heap := h', gens := g', drawn := d', toks := t' } := by
  have neL : ∀ b o, X.s₀.heap.get? b = some o → b ≠ X.env.locals := fun b o e => Nat.ne_of_lt (Nat.lt_of_lt_of_le (Heap.lt_size e) I.ok.above)
  have neC : ∀ b o, X.s₀.heap.get? b = some o → b ∉ X.ex → b ∉ ch := fun b o e hx hb => by
    rcases (hch b hb).1 with z | z
    · exact hx z
    · exact absurd (Nat.lt_of_lt_of_le (Heap.lt_size e) z) (Nat.lt_irrefl _)
  have cellK : ∀ x c, X.env.cells.lookup x = some c → ∀ v, s.heap.IsCell c v → h'.IsCell c v := fun x c e v ⟨o, ho, hd⟩ => by
    have nch : c ∉ ch := fun z => (hch c z).2.2.1 x c e rfl
    by_cases hc : c ∈ X.fs
    · obtain ⟨sl, q⟩ := slot c o (I.cne x c e) hc nch ho (I.freeC x c e)
      exact ⟨_, q, hd⟩
    · exact ⟨o, keep c o (I.cne x c e) hc nch ho (I.freeC x c e), hd⟩
  refine ⟨I.ok, I.os, hg, ⟨fun b o e n hb hx => ?_, fun b o e n hb hx => ?_, fun b o e n hx => ?_, fun b o e hx => ?_, fun b xs e => tups b xs (I.base.tups b xs e), fun b o xs e => frzs b o xs (I.base.frzs b o xs e), fun b ps e => ?_⟩, ?_, fun x c e => ?_, ?_, fun x c e => ?_, fun p hp => ?_, hok, I.len⟩
  · exact keep b o (neL b o e) hb (neC b o e hx) (I.base.keep b o e n hb hx) (I.base.free b o e n hx)
  · obtain ⟨sl, e1⟩ := I.base.slot b o e n hb hx
    obtain ⟨sl', e2⟩ := slot b _ (neL b o e) hb (neC b o e hx) e1 (I.base.free b o e n hx)
    exact ⟨sl', e2⟩
  · obtain ⟨o', e1⟩ := I.base.there b o e hx
    exact free b o' (neC b o e hx) e1 (I.base.free b o e n hx)
  · obtain ⟨o', e1⟩ := I.base.there b o e hx
    exact there b o' (neC b o e hx) e1
  · obtain ⟨m1, e1⟩ := I.base.tbls b ps e
    obtain ⟨m2, e2⟩ := tbls b _ e1
    exact ⟨m1 ++ m2, by rw [e2, Array.append_assoc]⟩
  · obtain ⟨m, hn, hl⟩ := I.loc
    refine ⟨m, ns m hn, fun i x v e1 e2 e3 => ?_⟩
    obtain ⟨u, r, l⟩ := hl i x v e1 e2 e3
    refine ⟨u, r, ?_⟩
    rcases l with l | ⟨k, c, e, z⟩
    · exact .inl l
    · exact .inr ⟨k, c, e, cellK x c e _ z⟩
  · obtain ⟨v, z⟩ := I.cell x c e
    exact ⟨v, cellK x c e v z⟩
  · obtain ⟨m, ⟨o, _, _, ho, _⟩, _⟩ := I.loc
    exact free _ o (fun z => (hch _ z).2.1 rfl) ho I.free
  · obtain ⟨v, o, ho, hd⟩ := I.cell x c e
    exact free c o (fun z => (hch c z).2.2.1 x c e rfl) ho (I.freeC x c e)
  · obtain ⟨e, n, ne, nf, d⟩ := I.pin p hp
    have nch : p.1 ∉ ch := fun z => (hch p.1 z).2.2.2 p hp rfl
    exact ⟨keep p.1 p.2 ne nf nch e n, free p.1 p.2 nch e n, ne, nf, d⟩
/-- .. where the frame's own object is kept too -/
theorem Inv.un {t' : Nat} (I : Inv X pins σ H s) (u : Un X.fs [] H H' s.heap h') (hok : HOk X.prog X.w H' h') : Inv X pins σ H' { s with heap := h', toks := t' } := by
  obtain ⟨m, ⟨o, es, ep, ho, r⟩, _⟩ := id I.loc
  obtain ⟨sl, hL⟩ := u.any ho I.free (by simp)
  exact I.step (g' := s.gens) (d' := s.drawn) (ch := []) (fun _ z => nomatch z) (fun b o _ hb _ e n => u.keep b o e n hb (by simp)) (fun b o _ hb _ e n => u.slot b o e n hb (by simp)) (fun b o _ e n => u.free b o e n (by simp)) (fun b o _ e => u.there b o e (by simp)) u.tups u.frzs u.tbls (fun m' hm => by
    obtain ⟨o', es', ep', ho', r'⟩ := hm
    rw [ho] at ho'; cases ho'
    exact ⟨_, es', ep', hL, r'⟩) hok I.bare
/-- behind a call (or a comprehension's block): the slots of this frame may have changed too, the records at ch may have turned -/
theorem Inv.call {g' : Array GenState} {t' : Nat} {d' : Drawn} {ch : List Addr} (I : Inv X pins σ H s) (u : Un (frs X.stack) ch H H' s.heap h') (hok : HOk X.prog X.w H' h') (hg : AllBare g')
    (hch : ∀ b ∈ ch, (b ∈ X.ex ∨ X.s₀.heap.objs.size ≤ b) ∧ b ≠ X.env.locals ∧ (∀ x c, X.env.cells.lookup x = some c → c ≠ b) ∧ ∀ p ∈ X.pn ++ pins, p.1 ≠ b) :
    Inv X pins σ H' { s with heap := h', gens := g', drawn := d', toks := t' } := by
  obtain ⟨m, ⟨o, es, ep, ho, r⟩, _⟩ := id I.loc
  obtain ⟨sl, hL⟩ := u.any ho I.free fun z => (hch _ z).2.1 rfl
  exact I.step (ch := ch) hch (fun b o hL hb hc e n => u.keep b o e n (fun z => (List.mem_cons.mp (I.stkSub b z)).elim hL hb) hc) (fun b o _ _ hc e n => u.any e n hc) (fun b o hc e n => u.free b o e n hc) (fun b o hc e => u.there b o e hc) u.tups u.frzs u.tbls (fun m' hm => by
    obtain ⟨o', es', ep', ho', r'⟩ := hm
    rw [ho] at ho'; cases ho'
    exact ⟨_, es', ep', hL, r'⟩) hok hg
/-- an untracked record of ours (an iterator) has turned -/
theorem Inv.turned {t' : Nat} {it : Addr} (I : Inv X pins σ H s) (k : ∀ b o, b ≠ it → s.heap.get? b = some o → h'.get? b = some o) (hn : H it = none) (hL : it ≠ X.env.locals)
    (h1 : it ∈ X.ex ∨ X.s₀.heap.objs.size ≤ it) (h2 : ∀ x c, X.env.cells.lookup x = some c → c ≠ it) (h3 : ∀ p ∈ X.pn ++ pins, p.1 ≠ it) : Inv X pins σ H { s with heap := h', toks := t' } := by
  have nit : ∀ b u, H b = some u → b ≠ it := fun b u e z => by rw [z, hn] at e; cases e
  refine I.step (g' := s.gens) (d' := s.drawn) (ch := [it]) (fun b hb => ?_) (fun b o _ _ hc e _ => k b o (fun z => hc (by simp [z])) e) (fun b o _ _ hc e _ => ⟨o.slots, k b o (fun z => hc (by simp [z])) e⟩) (fun _ _ _ _ n => n)
    (fun b o hc e => ⟨o, k b o (fun z => hc (by simp [z])) e⟩) (fun _ _ e => e) (fun _ _ _ e => e) (fun b ps e => ⟨#[], by rw [e]; simp⟩) (fun m hm => ?_) (fun b u e => ?_) I.bare
  · have e : b = it := by simpa using hb
    subst e
    exact ⟨h1, hL, h2, h3⟩
  · obtain ⟨o, es, ep, ho, r⟩ := hm
    exact ⟨o, es, ep, k _ o (Ne.symm hL) ho, r⟩
  · refine (I.hok b u e).stay (fun c v hc q => k c v ?_ q) (fun _ q => q) fun _ _ q => q
    rcases hc with z | z
    · rw [z]; exact nit b u e
    · exact nit c _ z
theorem Inv.tok (I : Inv X pins σ H s) (t : Nat) : Inv X pins σ H { s with toks := t } := I.un (h' := s.heap) (t' := t) Un.refl I.hok
/-- all objects kept -/
theorem Inv.kept {t' : Nat} (I : Inv X pins σ H s) (k : ∀ b u, s.heap.get? b = some u → h'.get? b = some u) : Inv X pins σ H { s with heap := h', toks := t' } := I.un (Un.kept k) (I.hok.kept k)
/-- a new object laid and tracked -/
theorem Inv.laid {a : Addr} {o : HO} {t' : Nat} (I : Inv X pins σ H s) (k : ∀ b u, s.heap.get? b = some u → h'.get? b = some u) (hp : s.heap.objs.size ≤ a) (new : ObjOk X.prog X.w (upd H a o) h' a o) :
    Inv X pins σ (upd H a o) { s with heap := h', toks := t' } := I.un (Un.laid k hp (I.hok.fresh hp)) (I.hok.laid k hp new)
/-- an object written -/
theorem Inv.write {x e : Addr} {o : HO} {t' : Nat} (I : Inv X pins σ H s) (mu : Mut (H x)) (he : e = x ∨ H e = some (.own x)) (k : ∀ b u, b ≠ e → s.heap.get? b = some u → h'.get? b = some u) (heo : ∃ u, h'.get? e = some u)
    (new : ObjOk X.prog X.w (upd H x o) h' x o) : Inv X pins σ (upd H x o) { s with heap := h', toks := t' } := I.un (Un.write mu he k heo) (I.hok.write mu he k heo new)
theorem Inv.pins_of {pins' : List (Addr × Obj)} (I : Inv X pins σ H s) (h : ∀ p ∈ pins', s.heap.get? p.1 = some p.2 ∧ H p.1 = none ∧ p.1 ≠ X.env.locals ∧ p.1 ∉ X.fs ∧ ∀ v, p.2.data ≠ .cell v) : Inv X pins' σ H s :=
  ⟨I.ok, I.os, I.bare, I.base, I.loc, I.cell, I.free, I.freeC, fun p hp => (List.mem_append.mp hp).elim (fun z => I.pin p (List.mem_append_left _ z)) (h p), I.hok, I.len⟩

theorem nodup_ix {N : List Str} (hN : N.Nodup) {i j : Nat} {x : Str} (a : N[i]? = some x) (b : N[j]? = some x) : i = j := by
  obtain ⟨h1, e1⟩ := List.getElem?_eq_some_iff.mp a
  obtain ⟨h2, e2⟩ := List.getElem?_eq_some_iff.mp b
  exact (List.getElem_inj hN).mp (e1.trans e2.symm)

/-- a name is stored; what changed -/
theorem store_ok2 {M : Model} {A : Around} {E : Value → Shared → Prop} {i : Nat} {x : Str} {v : V} {u : Value} {Q : Unit → Shared → Prop} (I : Inv X pins σ H s) (hN : X.N.Nodup) (hi : X.N[i]? = some x) (hx : Loc X.env.scope x) (r : RelV v u)
    (h : ∀ s', Inv X pins (σ.set i (some v)) H s' → (∃ a, Heap.SameBut a s.heap s'.heap ∧ (a = X.env.locals ∨ X.env.cells.lookup x = some a)) → Q () s') (hf : X.fn x = true ∨ X.env.scope.names.lookup x = some .local := by first | exact .inl rfl | exact .inr rfl | assumption) : wpAny M A (storeName X.env x u) Q E s := by
  obtain ⟨m, hn, hl⟩ := id I.loc
  have hcls : (X.env.scope.kind == .class || (X.env.scope.kind == .module && X.env.locals != X.env.globals)) = false := by rw [I.ok.kind]; rfl
  have hiσ : i < σ.length := by rw [I.len]; exact (List.getElem?_eq_some_iff.mp hi).1
  have cne := I.cne
  have tracked : ∀ {a : Addr} {h' : Heap}, (∃ o, s.heap.get? a = some o ∧ H a = none) → Heap.SameBut a s.heap h' → HOk X.prog X.w H h' := fun {a h'} ha hs b ob e => by
    obtain ⟨_, _, hfree⟩ := ha
    refine (I.hok b ob e).stay (fun c w' hc q => (hs.2 c ?_).trans q) (fun _ q => q) fun _ _ q => q
    rintro rfl
    rcases hc with rfl | hc
    · rw [hfree] at e; cases e
    · rw [hfree] at hc; cases hc
  rcases hx with hk | hk
  · refine wpAny_storeName_local hk hn (fun h' hn' hs => ?_) hcls
    obtain ⟨oL, _, _, hoL, _⟩ := id hn
    refine h _ ⟨I.ok, I.os, I.bare, ⟨fun b o e n hb hx => ?_, fun b o e n hb hx => ?_, I.base.free, fun b o e hx => ?_, I.base.tups, I.base.frzs, I.base.tbls⟩, ⟨_, hn', fun j y v' e1 e2 e3 => ?_⟩, fun y c e => ?_, I.free, I.freeC, fun p hp => ?_, tracked ⟨oL, hoL, I.free⟩ hs, by simpa using I.len⟩ ⟨_, hs, .inl rfl⟩
    · exact (hs.2 b (Nat.ne_of_lt (Nat.lt_of_lt_of_le (Heap.lt_size e) I.ok.above))).trans (I.base.keep b o e n hb hx)
    · obtain ⟨sl, e1⟩ := I.base.slot b o e n hb hx
      exact ⟨sl, (hs.2 b (Nat.ne_of_lt (Nat.lt_of_lt_of_le (Heap.lt_size e) I.ok.above))).trans e1⟩
    · obtain ⟨o', e1⟩ := I.base.there b o e hx
      exact ⟨o', (hs.2 b (Nat.ne_of_lt (Nat.lt_of_lt_of_le (Heap.lt_size e) I.ok.above))).trans e1⟩
    · by_cases hj : j = i
      · subst hj
        rw [hi] at e1; cases e1
        rw [List.getElem?_set_self hiσ] at e2
        cases e2
        exact ⟨u, r, .inl ⟨hk, by simp⟩⟩
      · rw [List.getElem?_set_ne (Ne.symm hj)] at e2
        obtain ⟨u', r', q⟩ := hl j y v' e1 e2 e3
        refine ⟨u', r', ?_⟩
        rcases q with ⟨k, e⟩ | ⟨k, c, e, z⟩
        · refine .inl ⟨k, ?_⟩
          have : y ≠ x := fun e => hj (nodup_ix hN e1 (e ▸ hi))
          simp [this, e]
        · exact .inr ⟨k, c, e, z.sameBut hs (cne y c e)⟩
    · obtain ⟨w', z⟩ := I.cell y c e
      exact ⟨w', z.sameBut hs (cne y c e)⟩
    · obtain ⟨e, n, ne, nf, d⟩ := I.pin p hp
      exact ⟨(hs.2 p.1 ne).trans e, n, ne, nf, d⟩
  · have hfn : X.fn x = true := by
      rcases hf with z | z
      · exact z
      · rw [z] at hk; cases hk
    obtain ⟨c, hc⟩ := I.ok.has x (.inl hk)
    obtain ⟨w', z⟩ := I.cell x c hc
    refine wpAny_storeName_cell I.ok.kind hk hc z (fun h' hc' hs => ?_)
    obtain ⟨oc, hoc, hocd⟩ := id z
    refine h { s with heap := h' } ⟨I.ok, I.os, I.bare, ⟨fun b o e n hb hx => ?_, fun b o e n hb hx => ?_, I.base.free, fun b o e hx => ?_, I.base.tups, I.base.frzs, I.base.tbls⟩, ⟨m, hn.sameBut hs (Ne.symm (cne x c hc)), fun j y v' e1 e2 e3 => ?_⟩, fun y c' e => ?_, I.free, I.freeC, fun p hp => ?_, tracked ⟨oc, hoc, I.freeC x c hc⟩ hs, by simpa using I.len⟩ ⟨c, hs, .inr hc⟩
    · exact (hs.2 b (Nat.ne_of_lt (Nat.lt_of_lt_of_le (Heap.lt_size e) (I.ok.cab x c hfn hc)))).trans (I.base.keep b o e n hb hx)
    · obtain ⟨sl, e1⟩ := I.base.slot b o e n hb hx
      exact ⟨sl, (hs.2 b (Nat.ne_of_lt (Nat.lt_of_lt_of_le (Heap.lt_size e) (I.ok.cab x c hfn hc)))).trans e1⟩
    · obtain ⟨o', e1⟩ := I.base.there b o e hx
      exact ⟨o', (hs.2 b (Nat.ne_of_lt (Nat.lt_of_lt_of_le (Heap.lt_size e) (I.ok.cab x c hfn hc)))).trans e1⟩
    · by_cases hj : j = i
      · subst hj
        rw [hi] at e1; cases e1
        rw [List.getElem?_set_self hiσ] at e2
        cases e2
        exact ⟨u, r, .inr ⟨.inl hk, c, hc, hc'⟩⟩
      · rw [List.getElem?_set_ne (Ne.symm hj)] at e2
        obtain ⟨u', r', q⟩ := hl j y v' e1 e2 e3
        refine ⟨u', r', ?_⟩
        rcases q with q | ⟨k, c', e, z'⟩
        · exact .inl q
        · refine .inr ⟨k, c', e, z'.sameBut hs ?_⟩
          rintro rfl
          exact hj (nodup_ix hN e1 (I.ok.inj _ _ _ e hc ▸ hi))
    · by_cases hcc : c' = c
      · subst hcc; exact ⟨_, hc'⟩
      · obtain ⟨w2, z2⟩ := I.cell y c' e
        exact ⟨w2, z2.sameBut hs hcc⟩
    · obtain ⟨e, n, ne, nf, d⟩ := I.pin p hp
      refine ⟨(hs.2 p.1 ?_).trans e, n, ne, nf, d⟩
      intro q
      rw [q, hoc] at e
      have q' : oc = p.2 := Option.some.inj e
      exact d w' (by rw [← q']; exact hocd)
theorem store_ok {M : Model} {A : Around} {E : Value → Shared → Prop} {i : Nat} {x : Str} {v : V} {u : Value} {Q : Unit → Shared → Prop} (I : Inv X pins σ H s) (hN : X.N.Nodup) (hi : X.N[i]? = some x) (hx : Loc X.env.scope x) (r : RelV v u)
    (h : ∀ s', Inv X pins (σ.set i (some v)) H s' → Q () s') (hf : X.fn x = true ∨ X.env.scope.names.lookup x = some .local := by first | exact .inl rfl | exact .inr rfl | assumption) : wpAny M A (storeName X.env x u) Q E s :=
  store_ok2 I hN hi hx r (fun s' I' _ => h s' I') hf
/-- behind a call or a block, the state as it is -/
theorem Inv.call' {s' : Shared} {ch : List Addr} (I : Inv X pins σ H s) (ho : s'.os = s.os) (u : Un (frs X.stack) ch H H' s.heap s'.heap) (hok : HOk X.prog X.w H' s'.heap) (hg : AllBare s'.gens)
    (hch : ∀ b ∈ ch, (b ∈ X.ex ∨ X.s₀.heap.objs.size ≤ b) ∧ b ≠ X.env.locals ∧ (∀ x c, X.env.cells.lookup x = some c → c ≠ b) ∧ ∀ p ∈ X.pn ++ pins, p.1 ≠ b) : Inv X pins σ H' s' := by
  obtain ⟨h', g', d', t', o'⟩ := s'
  have e : o' = s.os := ho
  subst e
  exact I.call (g' := g') (t' := t') (d' := d') u hok hg hch
end

/-! ### the judgements -/
/-- an exception: its class, its own dict's address (where it has one), the abstract heap behind it -/
abbrev XK := Value → Option Addr → Hp → Prop
abbrev St := List (Option V)
abbrev VK := V → Hp → Prop
/-- an expression's reading; a test's; an argument list's -/
abbrev TE := St → Hp → VK → Prop
abbrev TT := St → Hp → (Bool → Hp → Prop) → Prop
abbrev TA := St → Hp → (List V → Hp → Prop) → Prop
/-- what is wanted behind a statement -/
structure Ends where
  nx : St → Hp → Prop
  rt : VK
  bk : St → Hp → Prop := fun _ _ => False
  ct : St → Hp → Prop := fun _ _ => False
abbrev TS := Ends → St → Hp → Prop

def EP (X : Cx) (pins : List (Addr × Obj)) (σ : St) (Q : VK) (u : Value) (s' : Shared) : Prop := ∃ v H', Inv X pins σ H' s' ∧ RelV v u ∧ Q v H'
def TP (X : Cx) (pins : List (Addr × Obj)) (σ : St) (Q : Bool → Hp → Prop) (b : Bool) (s' : Shared) : Prop := ∃ H', Inv X pins σ H' s' ∧ Q b H'
def AP (X : Cx) (pins : List (Addr × Obj)) (σ : St) (Q : List V → Hp → Prop) (us : List Value) (s' : Shared) : Prop := ∃ vs H', Inv X pins σ H' s' ∧ Vals vs us ∧ Q vs H'
def SP (X : Cx) (pins : List (Addr × Obj)) (D : Ends) (f : Flow) (s' : Shared) : Prop :=
  match f with
  | .next => ∃ σ' H', Inv X pins σ' H' s' ∧ D.nx σ' H'
  | .brk => ∃ σ' H', Inv X pins σ' H' s' ∧ D.bk σ' H'
  | .cont => ∃ σ' H', Inv X pins σ' H' s' ∧ D.ct σ' H'
  | .ret u => ∃ v σ' H', Inv X pins σ' H' s' ∧ RelV v u ∧ D.rt v H'

def PE (X : Cx) (e : Expr) (t : TE) : Prop :=
  ∀ (pins : List (Addr × Obj)) (s : Shared) (σ : St) (H : Hp) (Q : VK), Inv X pins σ H s → t σ H Q → wpAny (model X.prog X.w) X.A (eval e X.env) (EP X pins σ Q) X.xe s
def PT (X : Cx) (e : Expr) (t : TT) : Prop :=
  ∀ (pins : List (Addr × Obj)) (s : Shared) (σ : St) (H : Hp) (Q : Bool → Hp → Prop), Inv X pins σ H s → t σ H Q → wpAny (model X.prog X.w) X.A (isTrue e X.env (eval e X.env)) (TP X pins σ Q) X.xe s
/-- a test whatever its 'whole' is (and, or) -/
def PW (X : Cx) (e : Expr) (t : TT) : Prop :=
  ∀ (whole : Sem Value) (pins : List (Addr × Obj)) (s : Shared) (σ : St) (H : Hp) (Q : Bool → Hp → Prop), Inv X pins σ H s → t σ H Q → wpAny (model X.prog X.w) X.A (isTrue e X.env whole) (TP X pins σ Q) X.xe s
theorem PW.pt {X : Cx} {e : Expr} {t : TT} (h : PW X e t) : PT X e t := h _
/-- an argument list (no star), from the left -/
def PA (X : Cx) (es : List Expr) (t : TA) : Prop :=
  ∀ (pos : Pos) (pins : List (Addr × Obj)) (s : Shared) (σ : St) (H : Hp) (Q : List V → Hp → Prop), Inv X pins σ H s → t σ H Q → wpAny (model X.prog X.w) X.A (spliced (backTo pos (starEach es X.env))) (AP X pins σ Q) X.xe s
def PS (X : Cx) (st : Stmt) (t : TS) : Prop :=
  ∀ (pins : List (Addr × Obj)) (s : Shared) (σ : St) (H : Hp) (D : Ends), Inv X pins σ H s → t D σ H → wpAny (model X.prog X.w) X.A (exec st X.env) (SP X pins D) X.xe s
def PSs (X : Cx) (st : List Stmt) (t : TS) : Prop :=
  ∀ (pins : List (Addr × Obj)) (s : Shared) (σ : St) (H : Hp) (D : Ends), Inv X pins σ H s → t D σ H → wpAny (model X.prog X.w) X.A (execs st X.env) (SP X pins D) X.xe s
/-- weaken the end -/
theorem thn {α : Type} {t : Sem α} {Q Q' : α → Shared → Prop} {M : Model} {A : Around} {E : Value → Shared → Prop} {s : Shared} (h : wpAny M A t Q E s) (hQ : ∀ a s, Q a s → Q' a s) : wpAny M A t Q' E s := wpAny_mono h hQ fun _ _ x => x
end L2

namespace L2
open PySem PySem.Spec PyProof.Rows
section
variable {X : Cx}

/-! ### names and constants -/
def tVar (i : Nat) : TE := fun σ H Q => ∃ v, σ[i]? = some (some v) ∧ Q v H
def tC (v : V) : TE := fun _ H Q => Q v H
theorem pe_var {i : Nat} {x : Str} {pos : Pos} (hN : X.N[i]? = some x) (hv : Vis X.env.scope x) (hd : (x == ("__debug__" : Str)) = false := by decide) (hcd : (x == ("__classdict__" : Str)) = false := by decide) : PE X (.Name x pos) (tVar i) := by
  intro pins s σ H Q I h
  obtain ⟨v, e, h⟩ := h
  obtain ⟨m, hn, hl⟩ := I.loc
  obtain ⟨u, r, l⟩ := hl i x v hN e hv
  have fin : EP X pins σ Q u s := ⟨v, H, I, r, h⟩
  rcases l with ⟨hk, hm⟩ | ⟨hk, c, hc, hcell⟩
  · exact wpAny_Name (wpAny_loadName_local I.ok.kind hk hn hm fin) hd
  · rcases hk with hk | hk
    · exact wpAny_Name (wpAny_loadName_cell I.ok.kind hk hc hcell fin) hd
    · exact wpAny_Name (wpAny_loadName_free I.ok.kind hk hc hcell fin hcd) hd
theorem pe_int {i j pos} : PE X (.Constant (.int i) j pos) (tC (.int i)) := fun _ _ _ H _ I h => wpAny_Constant_int ⟨.int i, H, I.tok _, ⟨_, rfl⟩, h⟩
theorem pe_bl {b j pos} : PE X (.Constant (.bool b) j pos) (tC (.bl b)) := fun _ _ _ H _ I h => Constant_bool ⟨.bl b, H, I, rfl, h⟩
theorem pe_non {j pos} : PE X (.Constant .none j pos) (tC .non) := fun _ _ _ H _ I h => Constant_none ⟨.non, H, I, rfl, h⟩
/-- a global name of the def -/
def Gl (X : Cx) (x : Str) : Prop := X.env.kindOf x = some .globalImplicit
theorem ld_glob {E : Value → Shared → Prop} {pins : List (Addr × Obj)} {s : Shared} {σ : St} {H : Hp} {x : Str} {u : Value} {pos : Pos} {Q : Value → Shared → Prop} (I : Inv X pins σ H s) (hg : Gl X x) (hm : X.mg x = some u) (h : Q u s)
    (hd : (x == ("__debug__" : Str)) = false := by decide) : wpAny (model X.prog X.w) X.A (eval (.Name x pos) X.env) Q E s :=
  Calls.Name_function_global I.ok.kind hg (Calls.loadGlobal_global (by rw [I.ok.glob]; exact I.mod.glob.keeps I.bk) hm h) hd
theorem ld_blt {E : Value → Shared → Prop} {pins : List (Addr × Obj)} {s : Shared} {σ : St} {H : Hp} {x : Str} {u : Value} {pos : Pos} {Q : Value → Shared → Prop} (I : Inv X pins σ H s) (hg : Gl X x) (hm : X.mg x = none) (hv : bootBuiltins x = some u) (h : Q u s)
    (hn : x ≠ "__name__" := by decide) (hd : (x == ("__debug__" : Str)) = false := by decide) : wpAny (model X.prog X.w) X.A (eval (.Name x pos) X.env) Q E s := by
  obtain ⟨mb, h1, h2⟩ := I.mod.blt
  exact Calls.Name_function_global I.ok.kind hg (Calls.loadGlobal_builtin (by rw [I.ok.glob]; exact I.mod.glob.keeps I.bk) hm (by rw [I.ok.blt]; exact h1.keeps I.bk) ((h2 x hn).trans hv) h) hd
/-- a module's constant, a class, a function, as a value -/
theorem pe_glob {x : Str} {v : V} {u : Value} {pos : Pos} (hg : Gl X x) (hm : X.mg x = some u) (r : RelV v u) (hd : (x == ("__debug__" : Str)) = false := by decide) : PE X (.Name x pos) (tC v) :=
  fun _ _ _ H _ I h => ld_glob I hg hm ⟨v, H, I, r, h⟩ hd
theorem pe_bltn {x : Str} {v : V} {u : Value} {pos : Pos} (hg : Gl X x) (hm : X.mg x = none) (hv : bootBuiltins x = some u) (r : RelV v u) (hn : x ≠ "__name__" := by decide) (hd : (x == ("__debug__" : Str)) = false := by decide) : PE X (.Name x pos) (tC v) :=
  fun _ _ _ H _ I h => ld_blt I hg hm hv ⟨v, H, I, r, h⟩ hn hd

/-! ### arithmetic -/
/-- two ints -/
def t2I (ta tb : TE) (k : Int → Int → Hp → Prop) : St → Hp → Prop := fun σ H => ta σ H fun x H1 => tb σ H1 fun y H2 => ∃ i j, x = .int i ∧ y = .int j ∧ k i j H2
def tAdd (ta tb : TE) : TE := fun σ H Q => t2I ta tb (fun i j H2 => Q (.int (i + j)) H2) σ H
def tSub (ta tb : TE) : TE := fun σ H Q => t2I ta tb (fun i j H2 => Q (.int (i - j)) H2) σ H
/-- the left factor below 2^64 -/
def tMul (ta tb : TE) : TE := fun σ H Q => t2I ta tb (fun i j H2 => (-(2 ^ 64) < i ∧ i < 2 ^ 64) ∧ Q (.int (i * j)) H2) σ H
variable {a b : Expr} {ta tb : TE} {pos : Pos}
/-! ### comparisons -/
def PC (X : Cx) (op : CmpOp) (a b : Expr) (t : TE) : Prop :=
  ∀ (pins : List (Addr × Obj)) (s : Shared) (σ : St) (H : Hp) (Q : VK), Inv X pins σ H s → t σ H Q →
    wpAny (model X.prog X.w) X.A (eval a X.env) (fun v s₁ => wpAny (model X.prog X.w) X.A (eval b X.env) (fun u s₂ => wpAny (model X.prog X.w) X.A (compareOp op v u) (EP X pins σ Q) X.xe s₂) X.xe s₁) X.xe s
def tCmp (p : Int → Int → Bool) (ta tb : TE) : TE := fun σ H Q => t2I ta tb (fun i j H2 => Q (.bl (p i j)) H2) σ H
abbrev tLt : TE → TE → TE := tCmp fun i j => decide (i < j)
abbrev tLe : TE → TE → TE := tCmp fun i j => decide (i ≤ j)
abbrev tGt : TE → TE → TE := tCmp fun i j => decide (j < i)
abbrev tGe : TE → TE → TE := tCmp fun i j => decide (j ≤ i)
abbrev tEqI : TE → TE → TE := tCmp fun i j => decide (i = j)
abbrev tNeI : TE → TE → TE := tCmp fun i j => !decide (i = j)
/-- is None -/
def tIsN (ta : TE) : TE := fun σ H Q => ta σ H fun x H1 => Q (.bl (decide (x = .non))) H1
def tNotN (ta : TE) : TE := fun σ H Q => ta σ H fun x H1 => Q (.bl (!decide (x = .non))) H1
/-- a comparison as a value, as a test -/
def tB (t : TE) : TT := fun σ H Q => t σ H fun x H1 => ∃ c, x = .bl c ∧ Q c H1
/-! ### and, or, not -/
variable {tA tB' : TT} {rest : List Expr}
def tAnd (t u : TT) : TT := fun σ H Q => t σ H fun c H1 => if c = true then u σ H1 Q else Q false H1
def tOr (t u : TT) : TT := fun σ H Q => t σ H fun c H1 => if c = true then Q true H1 else u σ H1 Q
def tNot (t : TT) : TT := fun σ H Q => t σ H fun c H1 => Q (!c) H1
theorem pw_or1 (ha : PT X a tA) : PW X (.BoolOp .Or [a] pos) tA := by
  intro wh pins s σ H Q I h
  refine isTrue_or (thn (ha pins s σ H Q I h) fun c s1 e => ?_)
  cases c with
  | false => exact isTrue_or_nil e
  | true => exact e
theorem pw_or (ha : PT X a tA) (hb : PW X (.BoolOp .Or (b :: rest) pos) tB') : PW X (.BoolOp .Or (a :: b :: rest) pos) (tOr tA tB') := by
  intro wh pins s σ H Q I h
  refine isTrue_or (thn (ha pins s σ H _ I h) fun c s1 ⟨H1, I1, q1⟩ => ?_)
  cases c with
  | true => exact ⟨H1, I1, q1⟩
  | false => exact hb wh pins s1 σ H1 Q I1 q1
theorem pt_not (ha : PT X a tA) : PT X (.UnaryOp .Not a pos) (tNot tA) := by
  intro pins s σ H Q I h
  exact isTrue_not (ha pins s σ H (fun c H1 => Q (!c) H1) I h)
/-- .. as values (bools) -/
def tAndV (ta tb : TE) : TE := fun σ H Q => ta σ H fun x H1 => ∃ c, x = .bl c ∧ if c = true then tb σ H1 Q else Q (.bl false) H1
def tOrV (ta tb : TE) : TE := fun σ H Q => ta σ H fun x H1 => ∃ c, x = .bl c ∧ if c = true then Q (.bl true) H1 else tb σ H1 Q
def tNotV (ta : TE) : TE := fun σ H Q => ta σ H fun x H1 => ∃ c, x = .bl c ∧ Q (.bl (!c)) H1
theorem pe_one {op} {t : TE} (h : PE X a t) : PE X (.BoolOp op [a] pos) t := fun pins s σ H Q I hw => BoolOp_one (h pins s σ H Q I hw)
theorem pe_and (ha : PE X a ta) (hb : PE X (.BoolOp .And (b :: rest) pos) tb) : PE X (.BoolOp .And (a :: b :: rest) pos) (tAndV ta tb) := by
  intro pins s σ H Q I h
  refine BoolOp_and (thn (ha pins s σ H _ I h) fun v s1 ⟨x, H1, I1, r1, q1⟩ => ?_)
  obtain ⟨c, rfl, q1⟩ := q1
  cases r1
  refine wpAny_truthy_bool ?_
  cases c with
  | true => exact hb pins s1 σ H1 Q I1 q1
  | false => exact ⟨.bl false, H1, I1, rfl, q1⟩
theorem pe_not (ha : PE X a ta) : PE X (.UnaryOp .Not a pos) (tNotV ta) := by
  intro pins s σ H Q I h
  refine UnaryOp_ (thn (ha pins s σ H _ I h) fun v s1 ⟨x, H1, I1, r1, q1⟩ => ?_)
  obtain ⟨c, rfl, q1⟩ := q1
  cases r1
  exact not_of (wpAny_truthy_bool ⟨.bl (!c), H1, I1, rfl, q1⟩)
/-- a if t else b -/
def tIf (t : TT) (ta tb : TE) : TE := fun σ H Q => t σ H fun c H1 => if c = true then ta σ H1 Q else tb σ H1 Q
end
end L2

namespace L2
open PySem PySem.Spec PyProof.Rows

/-! ### a list, a tuple that is read: tracked, frozen, or an object of the module -/
def SqL (K : PySem.W.Frag) (H : Hp) (a : Addr) (xs : List V) : Prop :=
  Rd H a (.lst xs) ∨
    ∃ (o : Obj) (its : Array Value) (n : Nat), K.lookup a = some o ∧ o.cls = .type "list" ∧ o.dict = none ∧ o.data = .seq its n ∧ its.size ≤ sizeLine ∧ Vals xs its.toList
def SqT (K : PySem.W.Frag) (H : Hp) (a : Addr) (xs : List V) : Prop :=
  Rd H a (.tup xs) ∨
    ∃ (o : Obj) (its : Array Value) (n : Nat), K.lookup a = some o ∧ o.cls = .type "tuple" ∧ o.data = .seq its n ∧ its.size ≤ sizeLine ∧ Vals xs its.toList
def absV : Value → Option V
  | .none => some .non
  | .bool b => some (.bl b)
  | .int i _ => some (.int i)
  | .str x _ => some (.str x)
  | .bytes b _ => some (.byt b)
  | .float b _ => some (.flt b)
  | .ref a => some (.ref a)
  | .type n => some (.ty n)
  | _ => none
theorem RelV.abs {x : V} {u : Value} (r : RelV x u) : absV u = some x := by
  cases x with
  | non => cases r; rfl
  | bl _ => cases r; rfl
  | int _ => obtain ⟨t, rfl⟩ := r; rfl
  | str _ => obtain ⟨t, rfl⟩ := r; rfl
  | byt _ => obtain ⟨t, rfl⟩ := r; rfl
  | flt _ => obtain ⟨t, rfl⟩ := r; rfl
  | ref _ => cases r; rfl
  | ty _ => cases r; rfl
theorem RelV.inj {x y : V} {u : Value} (r : RelV x u) (q : RelV y u) : x = y := Option.some.inj (r.abs.symm.trans q.abs)
theorem Vals.inj : ∀ {xs ys : List V} {us : List Value}, Vals xs us → Vals ys us → xs = ys
  | _, _, _, .nil, .nil => rfl
  | _, _, _, .cons r t, .cons r' t' => by rw [r.inj r', Vals.inj t t']
section
variable {X : Cx} {pins : List (Addr × Obj)} {σ : St} {H : Hp} {s : Shared} {a : Addr} {xs ys : List V}
theorem SqL.of {K : PySem.W.Frag} (h : H a = some (.lst xs)) : SqL K H a xs := .inl (.inl h)
theorem SqT.of {K : PySem.W.Frag} (h : H a = some (.tup xs)) : SqT K H a xs := .inl (.inl h)
theorem Inv.list (I : Inv X pins σ H s) (h : SqL X.K H a xs) : ∃ its : List Value, Vals xs its ∧ PlainL s.heap a its.toArray ∧ xs.length ≤ sizeLine := by
  rcases h with h | ⟨o, its, n, hk, hc, hd, hs, hz, r⟩
  · obtain ⟨z, its, n, r, e⟩ := h.ok I.hok
    exact ⟨its, r, ⟨_, n, e, rfl, rfl, rfl⟩, z⟩
  · refine ⟨its.toList, r, ⟨o, n, I.kIn a o hk, hc, hd, by simpa using hs⟩, ?_⟩
    have e := r.length
    simp only [Array.length_toList] at e
    omega
theorem Inv.tuple (I : Inv X pins σ H s) (h : SqT X.K H a xs) : ∃ its : List Value, Vals xs its ∧ IsTup s.heap a its.toArray ∧ xs.length ≤ sizeLine := by
  rcases h with h | ⟨o, its, n, hk, hc, hs, hz, r⟩
  · obtain ⟨z, its, r, p⟩ := h.ok I.hok
    exact ⟨its, r, p.1, z⟩
  · refine ⟨its.toList, r, ⟨o, I.kIn a o hk, hc, n, by simpa using hs⟩, ?_⟩
    have e := r.length
    simp only [Array.length_toList] at e
    omega
theorem Inv.list_inj (I : Inv X pins σ H s) (h : SqL X.K H a xs) (h' : SqL X.K H a ys) : xs = ys := by
  obtain ⟨its, r, ⟨o, n, e, _, _, d⟩, _⟩ := I.list h
  obtain ⟨its', r', ⟨o', n', e', _, _, d'⟩, _⟩ := I.list h'
  rw [e] at e'; cases e'
  rw [d] at d'
  injection d' with d1 _
  have : its = its' := by simpa using congrArg Array.toList d1
  subst this
  exact r.inj r'
theorem Inv.tuple_inj (I : Inv X pins σ H s) (h : SqT X.K H a xs) (h' : SqT X.K H a ys) : xs = ys := by
  obtain ⟨its, r, ⟨o, e, _, n, d⟩, _⟩ := I.tuple h
  obtain ⟨its', r', ⟨o', e', _, n', d'⟩, _⟩ := I.tuple h'
  rw [e] at e'; cases e'
  rw [d] at d'
  injection d' with d1 _
  have : its = its' := by simpa using congrArg Array.toList d1
  subst this
  exact r.inj r'
end

/-! ### another wish about exceptions -/
abbrev Cx.wish (X : Cx) (E : Value → Shared → Prop) : Cx := { X with xe := E }
/-- no exception leaves -/
abbrev Cx.nox (X : Cx) : Cx := X.wish fun _ _ => False
theorem Cx.Ok.wish {X : Cx} (ok : X.Ok) (E : Value → Shared → Prop) : (X.wish E).Ok :=
  ⟨ok.mod, ok.kind, ok.glob, ok.blt, ok.above, ok.inj, ok.has, ok.cab, ok.hd, ok.frames, ok.stk, ok.exf, ok.bs, ok.bsz, ok.noex, ok.exfs, ok.funs, ok.frf⟩
theorem Cx.Ok.unwish {X : Cx} {E : Value → Shared → Prop} (ok : (X.wish E).Ok) : X.Ok :=
  ⟨ok.mod, ok.kind, ok.glob, ok.blt, ok.above, ok.inj, ok.has, ok.cab, ok.hd, ok.frames, ok.stk, ok.exf, ok.bs, ok.bsz, ok.noex, ok.exfs, ok.funs, ok.frf⟩
section
variable {X : Cx} {pins : List (Addr × Obj)} {σ : St} {H : Hp} {s : Shared} {E : Value → Shared → Prop}
theorem Inv.wish (I : Inv X pins σ H s) (E : Value → Shared → Prop) : Inv (X.wish E) pins σ H s := ⟨I.ok.wish E, I.os, I.bare, I.base, I.loc, I.cell, I.free, I.freeC, I.pin, I.hok, I.len⟩
theorem Inv.unwish (I : Inv (X.wish E) pins σ H s) : Inv X pins σ H s := ⟨I.ok.unwish, I.os, I.bare, I.base, I.loc, I.cell, I.free, I.freeC, I.pin, I.hok, I.len⟩
theorem SP.unwish {D : Ends} {f : Flow} {s' : Shared} (h : SP (X.wish E) pins D f s') : SP X pins D f s' := by
  cases f with
  | next => obtain ⟨σ', H', I, q⟩ := h; exact ⟨σ', H', I.unwish, q⟩
  | brk => obtain ⟨σ', H', I, q⟩ := h; exact ⟨σ', H', I.unwish, q⟩
  | cont => obtain ⟨σ', H', I, q⟩ := h; exact ⟨σ', H', I.unwish, q⟩
  | ret u => obtain ⟨v, σ', H', I, r, q⟩ := h; exact ⟨v, σ', H', I.unwish, r, q⟩
theorem PE.nox {e : Expr} {t : TE} (h : PE X.nox e t) : PE X e t := fun pins s σ H Q I hw =>
  wpAny_mono (h pins s σ H Q (I.wish _) hw) (fun _ _ ⟨v, H', I', r, q⟩ => ⟨v, H', I'.unwish, r, q⟩) fun _ _ z => False.elim z
theorem PT.nox {e : Expr} {t : TT} (h : PT X.nox e t) : PT X e t := fun pins s σ H Q I hw =>
  wpAny_mono (h pins s σ H Q (I.wish _) hw) (fun _ _ ⟨H', I', q⟩ => ⟨H', I'.unwish, q⟩) fun _ _ z => False.elim z
theorem PSs.nox {st : List Stmt} {t : TS} (h : PSs X.nox st t) : PSs X st t := fun pins s σ H D I hw =>
  wpAny_mono (h pins s σ H D (I.wish _) hw) (fun _ _ q => q.unwish) fun _ _ z => False.elim z
end

/-! ### blocks and small statements -/
section
variable {X : Cx} {st : Stmt} {rest : List Stmt} {t u : TS} {e : Expr} {te : TE} {pos : Pos}
def tNext : TS := fun D σ H => D.nx σ H
def tSeq (t u : TS) : TS := fun D σ H => t { D with nx := u D } σ H
theorem pss_nil : PSs X [] tNext := fun _ _ σ H _ I h => wpAny_execs_nil ⟨σ, H, I, h⟩
theorem pss_cons (h1 : PS X st t) (h2 : PSs X rest u) : PSs X (st :: rest) (tSeq t u) := by
  intro pins s σ H D I h
  refine wpAny_execs_cons (thn (h1 pins s σ H { D with nx := u D } I h) fun f s1 q => ?_)
  cases f with
  | next =>
    obtain ⟨σ', H', I', q⟩ := q
    exact h2 pins s1 σ' H' D I' q
  | ret v => exact q
  | brk => exact q
  | cont => exact q
theorem pss_one (h1 : PS X st t) : PSs X [st] t := by
  intro pins s σ H D I h
  refine wpAny_execs_cons (thn (h1 pins s σ H D I h) fun f s1 q => ?_)
  cases f with
  | next => exact wpAny_execs_nil q
  | ret v => exact q
  | brk => exact q
  | cont => exact q
def tBreak : TS := fun D σ H => D.bk σ H
def tCont : TS := fun D σ H => D.ct σ H
theorem ps_pass : PS X (.Pass pos) tNext := fun _ _ σ H _ I h => wpAny_Pass ⟨σ, H, I, h⟩
/-- in a def's body nothing is shown -/
theorem Inv.quiet {pins : List (Addr × Obj)} {σ : St} {H : Hp} {s : Shared} (I : Inv X pins σ H s) : interactive X.env = false := by simp [interactive, I.ok.kind]
/-- an expression whose value is dropped -/
def tDrop (te : TE) : TS := fun D σ H => te σ H fun _ H1 => D.nx σ H1
theorem ps_expr (he : PE X e te) (hs : swapsWith e none pos.line X.env = pure false := by rfl) : PS X (.Expr e pos) (tDrop te) := by
  intro pins s σ H D I h
  exact wpAny_Expr_any (thn (he pins s σ H _ I h) fun v s1 ⟨x, H1, I1, r1, q1⟩ => ⟨σ, H1, I1, q1⟩) I.quiet hs
def tRet (te : TE) : TS := fun D σ H => te σ H D.rt
theorem ps_ret (he : PE X e te) : PS X (.Return (some e) pos) (tRet te) := by
  intro pins s σ H D I h
  exact wpAny_Return_some (thn (he pins s σ H _ I h) fun v s1 ⟨x, H1, I1, r1, q1⟩ => ⟨x, σ, H1, I1, r1, q1⟩)
def tRetN : TS := fun D _ H => D.rt .non H
def tIfS (c : TT) (t u : TS) : TS := fun D σ H => c σ H fun b H1 => if b = true then t D σ H1 else u D σ H1
theorem ps_if {c : Expr} {a b : List Stmt} {tc : TT} (hc : PT X c tc) (ha : PSs X a t) (hb : PSs X b u) : PS X (.If c a b pos) (tIfS tc t u) := by
  intro pins s σ H D I h
  refine wpAny_If (thn (hc pins s σ H _ I h) fun d s1 ⟨H1, I1, q1⟩ => ?_)
  cases d with
  | true => exact ha pins s1 σ H1 D I1 q1
  | false => exact hb pins s1 σ H1 D I1 q1
/-- code that the proof never comes to -/
def tNever : TS := fun _ _ _ => False
theorem ps_never : PS X st tNever := fun _ _ _ _ _ _ h => h.elim
end

/-! ### targets -/
abbrev TG := V → St → Hp → (St → Hp → Prop) → Prop
abbrev TGs := List V → St → Hp → (St → Hp → Prop) → Prop
def PG (X : Cx) (target : Expr) (t : TG) : Prop :=
  ∀ (pins : List (Addr × Obj)) (s : Shared) (σ : St) (H : Hp) (v : V) (u : Value) (Q : St → Hp → Prop), Inv X pins σ H s → RelV v u → t v σ H Q →
    wpAny (model X.prog X.w) X.A (assign target X.env u) (fun _ s' => ∃ σ' H', Inv X pins σ' H' s' ∧ Q σ' H') X.xe s
/-- several targets, one after another -/
def PGs (X : Cx) (ts : List Expr) (t : TGs) : Prop :=
  ∀ (pins : List (Addr × Obj)) (s : Shared) (σ : St) (H : Hp) (vs : List V) (us : List Value) (Q : St → Hp → Prop), Inv X pins σ H s → Vals vs us → t vs σ H Q →
    wpAny (model X.prog X.w) X.A (assignInOrder ((assignEach ts X.env).map (·.2)) us) (fun _ s' => ∃ σ' H', Inv X pins σ' H' s' ∧ Q σ' H') X.xe s
/-- o[i] = v, by values -/
abbrev TSet := V → V → V → Hp → (Hp → Prop) → Prop
def PSet (X : Cx) (t : TSet) : Prop :=
  ∀ (pins : List (Addr × Obj)) (s : Shared) (σ : St) (H : Hp) (o i v : V) (ov iv u : Value) (Q : Hp → Prop), Inv X pins σ H s → RelV o ov → RelV i iv → RelV v u → t o i v H Q →
    wpAny (model X.prog X.w) X.A (setItem ov iv u) (fun _ s' => ∃ H', Inv X pins σ H' s' ∧ Q H') X.xe s
/-- a op= b, by values -/
abbrev TIp := V → V → Hp → VK → Prop
def PIp (X : Cx) (op : Operator) (t : TIp) : Prop :=
  ∀ (pins : List (Addr × Obj)) (s : Shared) (σ : St) (H : Hp) (x y : V) (v u : Value) (Q : VK), Inv X pins σ H s → RelV x v → RelV y u → t x y H Q →
    wpAny (model X.prog X.w) X.A (inplaceOp op v u) (EP X pins σ Q) X.xe s
section
variable {X : Cx} {pos : Pos}
def gName (i : Nat) : TG := fun v σ H Q => Q (σ.set i (some v)) H
theorem pg_name {i : Nat} {x : Str} (hN : X.N.Nodup) (hi : X.N[i]? = some x) (hx : Loc X.env.scope x) (hf : X.fn x = true ∨ X.env.scope.names.lookup x = some .local := by first | exact .inl rfl | exact .inr rfl | assumption) : PG X (.Name x pos) (gName i) := by
  intro pins s σ H v u Q I r h
  exact wpAny_assign_Name (store_ok I hN hi hx r (fun s' I' => ⟨_, H, I', h⟩) hf)
def gNil : TGs := fun vs σ H Q => vs = [] ∧ Q σ H
def gCons (t : TG) (u : TGs) : TGs := fun vs σ H Q => ∃ v r, vs = v :: r ∧ t v σ H fun σ' H' => u r σ' H' Q
theorem pgs_nil : PGs X [] gNil := by
  intro pins s σ H vs us Q I r h
  obtain ⟨e, h⟩ := h
  subst e
  cases r
  exact assignInOrder_nil ⟨σ, H, I, h⟩
theorem pgs_cons {e : Expr} {es : List Expr} {t : TG} {u : TGs} (h1 : PG X e t) (h2 : PGs X es u)
    (hs : (assignEach (e :: es) X.env).map (·.2) = assign e X.env :: (assignEach es X.env).map (·.2) := by rfl) : PGs X (e :: es) (gCons t u) := by
  intro pins s σ H vs us Q I r h
  obtain ⟨v, vr, e1, h⟩ := h
  subst e1
  cases r with
  | cons r rr =>
    rw [hs]
    refine assignInOrder_cons (thn (h1 pins s σ H _ _ _ I r h) fun _ s1 ⟨σ1, H1, I1, q1⟩ => ?_)
    exact h2 pins s1 σ1 H1 _ _ Q I1 rr q1
/-- (a, b, ..) = a tuple of that length -/
def gTup (K : PySem.W.Frag) (n : Nat) (t : TGs) : TG := fun v σ H Q => ∃ a xs, v = .ref a ∧ SqT K H a xs ∧ xs.length = n ∧ t xs σ H Q
theorem pg_tup {es : List Expr} {k : Nat} {t : TGs} {n : Nat} (hc : X.calm = true) (h : PGs X es t)
    (hn : (assignEach es X.env).length = n := by rfl) (hst : (assignEach es X.env).findIdx? (·.1) = none := by rfl) : PG X (.Tuple es k pos) (gTup X.K n t) := by
  intro pins s σ H v u Q I r hw
  obtain ⟨a, xs, e1, hq, hl, hw⟩ := hw
  subst e1
  cases r
  obtain ⟨its, rv, ht, hz⟩ := I.tuple hq
  refine assign_Tuple_tuple (I.ok.hd hc) ht (by simp [hn, ← hl, rv.length]) hst fun h' hx => ?_
  have I1 : Inv X pins σ H { s with heap := h' } := I.kept (t' := s.toks) fun b o e => hx b o (Nat.ne_of_lt (Heap.lt_size e)) e
  exact h pins _ σ H xs _ Q I1 (by simpa using rv) hw
/-- o[i] = .. -/
def gSub (to ti : TE) (t : TSet) : TG := fun v σ H Q => to σ H fun o H1 => ti σ H1 fun i H2 => t o i v H2 fun H3 => Q σ H3
theorem pg_sub {o i : Expr} {to ti : TE} {t : TSet} (ho : PE X o to) (hi : PE X i ti) (hs : PSet X t)
    (ha : ∀ v, assign (.Subscript o i pos) X.env v = (do
      let ov ← holding [v] (eval o X.env)
      let iv ← holding [v, ov] (eval i X.env)
      standAt pos
      holding [v, ov, iv] (setItem ov iv v)
      release [v, ov, iv] []) := by intro _; rfl) : PG X (.Subscript o i pos) (gSub to ti t) := by
  intro pins s σ H v u Q I r h
  rw [ha]
  refine wpAny_bind (wpAny_holding (thn (ho pins s σ H _ I h) fun ov s1 ⟨x, H1, I1, r1, q1⟩ => ?_))
  refine wpAny_bind (wpAny_holding (thn (hi pins s1 σ H1 _ I1 q1) fun iv s2 ⟨y, H2, I2, r2, q2⟩ => ?_))
  refine wpAny_bind (wpAny_standAt (wpAny_bind (wpAny_holding (thn (hs pins s2 σ H2 x y v ov iv u _ I2 r1 r2 r q2) fun _ s3 ⟨H3, I3, q3⟩ => ?_))))
  exact wpAny_release ⟨σ, H3, I3, q3⟩
/-- target = value -/
def tAsg (te : TE) (g : TG) : TS := fun D σ H => te σ H fun x H1 => g x σ H1 D.nx
theorem ps_asg {tg e : Expr} {te : TE} {g : TG} (he : PE X e te) (hg : PG X tg g) (hs : swapsWithSole [tg] e pos.line X.env = pure false := by rfl) (hw : swappedStores [tg] e X.env = pure none := by rfl)
    (h1 : (assignEach [tg] X.env).map (·.2) = [assign tg X.env] := by rfl) : PS X (.Assign [tg] e pos) (tAsg te g) := by
  intro pins s σ H D I h
  refine wpAny_Assign_stores (thn (he pins s σ H _ I h) fun v s1 ⟨x, H1, I1, r1, q1⟩ => ?_) hs hw
  rw [h1]
  exact thn (hg pins s1 σ H1 x v _ I1 r1 q1) fun _ s2 q => q
/-- name = value -/
theorem ps_set {i : Nat} {x : Str} {e : Expr} {te : TE} {pos' : Pos} (hN : X.N.Nodup) (hi : X.N[i]? = some x) (hx : Loc X.env.scope x) (he : PE X e te) (hs : swapsWith e (some (.Name x pos')) pos.line X.env = pure false := by rfl) (hf : X.fn x = true ∨ X.env.scope.names.lookup x = some .local := by first | exact .inl rfl | exact .inr rfl | assumption) :
    PS X (.Assign [.Name x pos'] e pos) (tAsg te (gName i)) := by
  intro pins s σ H D I h
  refine wpAny_Assign_Name (thn (he pins s σ H _ I h) fun v s1 ⟨y, H1, I1, r1, q1⟩ => ?_) hs
  exact store_ok I1 hN hi hx r1 (fun s2 I2 => ⟨_, H1, I2, q1⟩) hf
/-- a, b = x, y with plain local names: stored from the right; the pair itself is not tracked (the opening rows as in PyProof/Rows/TupAssign.lean:23) -/
def tPar (i j : Nat) (ta : TA) : TS := fun D σ H => ta σ H fun vs H1 => ∃ v w, vs = [v, w] ∧ D.nx ((σ.set i (some v)).set j (some w)) H1
/-- name op= e -/
def tAug (i : Nat) (te : TE) (ti : TIp) : TS := fun D σ H => ∃ x, σ[i]? = some (some x) ∧ te σ H fun y H1 => ti x y H1 fun z H2 => D.nx (σ.set i (some z)) H2
/-- o[i] op= e -/
def tAugS (to ti te : TE) (tget : V → V → Hp → VK → Prop) (tip : TIp) (tset : TSet) : TS := fun D σ H => to σ H fun o H1 => ti σ H1 fun i H2 => tget o i H2 fun x H3 => te σ H3 fun y H4 => tip x y H4 fun z H5 => tset o i z H5 fun H6 => D.nx σ H6
/-- o[i], by values -/
def PGet (X : Cx) (t : V → V → Hp → VK → Prop) : Prop :=
  ∀ (pins : List (Addr × Obj)) (s : Shared) (σ : St) (H : Hp) (o i : V) (ov iv : Value) (Q : VK), Inv X pins σ H s → RelV o ov → RelV i iv → t o i H Q →
    wpAny (model X.prog X.w) X.A (getItem ov iv) (EP X pins σ Q) X.xe s
/-- ints -/
def ipI (f : Int → Int → Int) : TIp := fun x y H Q => ∃ i j, x = .int i ∧ y = .int j ∧ Q (.int (f i j)) H
end

/-! ### while -/
section
variable {X : Cx} {pos : Pos}
/-- the invariant W with its measure -/
def tWhile (c : TT) (tb : TS) : TS := fun D σ H => ∃ W : Nat → St → Hp → Prop, (∃ m, W m σ H) ∧ ∀ m σ H, W m σ H →
  c σ H fun b H1 => if b = true then ∃ N : St → Hp → Prop, (∀ σ' H', N σ' H' → ∃ m', m' < m ∧ W m' σ' H') ∧ tb { D with nx := N, ct := N, bk := D.nx } σ H1 else D.nx σ H1
end

/-! ### what a loop or a comprehension walks -/
/-- at turn i: it yields x (the heap may grow), or it stops -/
structure It where
  go : Nat → Hp → Prop
  yld : Nat → Hp → V → Hp → Prop
  stop : Nat → Hp → Prop
/-- the iterator's own objects may turn: they are not the frame's, not pinned, younger than the entry (or a comprehension's own) -/
def FpOk (X : Cx) (pins : List (Addr × Obj)) (H : Hp) (b : Addr) : Prop :=
  H b = none ∧ b ≠ X.env.locals ∧ b ∉ X.fs ∧ (b ∈ X.ex ∨ X.s₀.heap.objs.size ≤ b) ∧ (∀ x c, X.env.cells.lookup x = some c → c ≠ b) ∧ ∀ p ∈ X.pn ++ pins, p.1 ≠ b
theorem Inv.fpOk {X : Cx} {pins : List (Addr × Obj)} {σ : St} {H H' : Hp} {s : Shared} {b : Addr} (I : Inv X pins σ H s) (hb : s.heap.objs.size ≤ b) (hn : H' b = none) : FpOk X pins H' b := by
  refine ⟨hn, Nat.ne_of_gt (Nat.lt_of_lt_of_le I.lt hb), I.nofs hb, .inr (Nat.le_trans I.sz hb), fun x c e z => ?_, fun p hp z => ?_⟩
  · obtain ⟨v, q⟩ := I.cell x c e
    exact absurd (Nat.lt_of_lt_of_le q.lt (by rw [z]; exact hb)) (Nat.lt_irrefl _)
  · exact absurd (Nat.lt_of_lt_of_le (Heap.lt_size (I.pin p hp).1) (by rw [z]; exact hb)) (Nat.lt_irrefl _)
structure Turn (P : Program) (w : World) (K : PySem.W.Frag) (tg : Expr) (J : It) (fp : List Addr) (it : Addr) (tn : Nat → Heap → Prop) : Prop where
  mem : it ∈ fp
  obj : ∀ i h, tn i h → ∀ b ∈ fp, ∃ o, h.get? b = some o ∧ ∀ v, o.data ≠ .cell v
  keep : ∀ i h h', tn i h → (∀ b ∈ fp, ∀ o, h.get? b = some o → h'.get? b = some o) → tn i h'
  item : ∀ (X : Cx), X.prog = P → X.w = w → X.K = K → X.calm = true → ∀ (i : Nat) (pins : List (Addr × Obj)) (s : Shared) (σ : St) (H : Hp) (E : Value → Shared → Prop), Inv X pins σ H s → (∀ b ∈ fp, FpOk X pins H b) → tn i s.heap → J.go i H →
    wpAny (model P w) X.A (pyNext (.ref it)) (fun r s1 => ∃ u, r = some u ∧
      wpAny (model P w) X.A (letOwnedTupleGo tg (.ref it) u) (fun _ s2 => ∃ x H', Inv X pins σ H' s2 ∧ RelV x u ∧ J.yld i H x H' ∧ tn (i + 1) s2.heap ∧ ∀ b ∈ fp, H' b = none) E s1) E s
  done : ∀ (X : Cx), X.prog = P → X.w = w → X.K = K → X.calm = true → ∀ (i : Nat) (pins : List (Addr × Obj)) (s : Shared) (σ : St) (H : Hp) (E : Value → Shared → Prop), Inv X pins σ H s → (∀ b ∈ fp, FpOk X pins H b) → tn i s.heap → J.stop i H →
    wpAny (model P w) X.A (pyNext (.ref it)) (fun r s1 => r = none ∧ Inv X pins σ H s1) E s
  self : ∀ (A : Around) (i : Nat) (s : Shared) (Q : Value → Shared → Prop) (E : Value → Shared → Prop), tn i s.heap → Q (.ref it) s → wpAny (model P w) A (pyIter (.ref it)) Q E s
abbrev TI := St → Hp → (It → Hp → Prop) → Prop
/-- an iterator has come -/
def PIE (X : Cx) (pins : List (Addr × Obj)) (σ : St) (tg : Expr) (R : It → Hp → Prop) (itv : Value) (s2 : Shared) : Prop :=
  ∃ (it : Addr) (fp : List Addr) (tn : Nat → Heap → Prop) (J : It) (H' : Hp), itv = .ref it ∧ Inv X pins σ H' s2 ∧ Turn X.prog X.w X.K tg J fp it tn ∧ tn 0 s2.heap ∧ (∀ b ∈ fp, FpOk X pins H' b) ∧ R J H'
def PI (X : Cx) (tg iter : Expr) (wi : TI) : Prop :=
  ∀ (pins : List (Addr × Obj)) (s : Shared) (σ : St) (H : Hp) (R : It → Hp → Prop), Inv X pins σ H s → wi σ H R →
    wpAny (model X.prog X.w) X.A (eval iter X.env) (fun v s1 => wpAny (model X.prog X.w) X.A (pyIter v) (PIE X pins σ tg R) X.xe s1) X.xe s

/-- the step ahead of the store is nothing for an iterator that keeps no tuple -/
theorem go_of {M : Model} {A : Around} {E : Value → Shared → Prop} {s : Shared} {tg : Expr} {it : Addr} {u : Value} {o : Obj} {n : String} {vs : Array Value} {Q : Unit → Shared → Prop} (ho : s.heap.get? it = some o) (hc : o.cls = .type n) (hd : o.data = .fields vs)
    (hn : ["enumerate", "zip", "dict_itemiterator", "dict_reverseitemiterator", "odict_iterator", "itertools.zip_longest", "itertools.pairwise"].contains n = false) (hQ : Q () s) : wpAny M A (letOwnedTupleGo tg (.ref it) u) Q E s := by
  unfold letOwnedTupleGo
  cases tg <;> first
    | exact wpAny_pure hQ
    | (cases u <;> first
        | exact wpAny_pure hQ
        | (refine wpAny_bind (wpAny_load ho ?_)
           rw [hc, hd]
           show wpAny M A (if (["enumerate", "zip", "dict_itemiterator", "dict_reverseitemiterator", "odict_iterator", "itertools.zip_longest", "itertools.pairwise"].contains n && vs[0]? == some (rawInt _)) = true then _ else _) Q E s
           rw [if_neg (by intro h; rw [hn, Bool.false_and] at h; cases h)]
           exact wpAny_pure hQ))

/-- the list at a, as it stands at each turn (a loop may append to it) -/
def Itl (K : PySem.W.Frag) (a : Addr) : It :=
  ⟨fun i H => ∃ xs x, SqL K H a xs ∧ xs[i]? = some x, fun i H x H' => H' = H ∧ ∀ xs, SqL K H a xs → xs[i]? = some x, fun i H => ∃ xs, SqL K H a xs ∧ xs.length ≤ i⟩
def Itt (K : PySem.W.Frag) (a : Addr) : It :=
  ⟨fun i H => ∃ xs x, SqT K H a xs ∧ xs[i]? = some x, fun i H x H' => H' = H ∧ ∀ xs, SqT K H a xs → xs[i]? = some x, fun i H => ∃ xs, SqT K H a xs ∧ xs.length ≤ i⟩
/-- lo, lo + 1, .. (n of them) -/
def Itr (lo : Int) (n : Nat) : It := ⟨fun i _ => i < n, fun i H x H' => H' = H ∧ x = .int (lo + i), fun i _ => n ≤ i⟩
theorem turn_list {P : Program} {w : World} {K : PySem.W.Frag} {tg : Expr} (a it : Addr) : Turn P w K tg (Itl K a) [it] it (fun i h => h.IsListIter it a i) where
  mem := by simp
  obj := fun i h st b hb => by
    have e : b = it := by simpa using hb
    subst e
    obtain ⟨o, e, c, d⟩ := st
    exact ⟨o, e, fun v z => by rw [d] at z; cases z⟩
  keep := fun i h h' st k => st.at fun o e => k it (by simp) o e
  item := by
    intro X hP hw hK hc i pins s σ H E I hf st hg
    subst hP hw hK
    obtain ⟨xs, x, hq, hx⟩ := hg
    obtain ⟨its, rv, p, hz⟩ := I.list hq
    obtain ⟨u, hu, ru⟩ := rv.get hx
    obtain ⟨f0, f1, f2, f3, f4, f5⟩ := hf it (by simp)
    refine wpAny_pyNext_list_item st p.isList (x := u) (by simpa using hu) fun h' st' sb => ?_
    have I1 : Inv X pins σ H { s with heap := h' } := I.turned (t' := s.toks) (fun b o hb e => (sb.2 b hb).trans e) f0 f1 f3 f4 f5
    obtain ⟨o, e, c, d⟩ := id st'
    exact ⟨u, rfl, go_of (s := { s with heap := h' }) e c d (by decide) ⟨x, H, I1, ru, ⟨rfl, fun ys hy => by rw [I.list_inj hy hq]; exact hx⟩, st', fun b hb => (hf b hb).1⟩⟩
  done := by
    intro X hP hw hK hc i pins s σ H E I hf st hg
    subst hP hw hK
    obtain ⟨xs, hq, hx⟩ := hg
    obtain ⟨its, rv, p, hz⟩ := I.list hq
    obtain ⟨f0, f1, f2, f3, f4, f5⟩ := hf it (by simp)
    have hl := rv.length
    exact wpAny_pyNext_list_end (I.ok.hd hc) st p.isList (by simp; omega) fun h' eb => ⟨rfl, I.turned (t' := s.toks) (fun b o hb e => eb b o hb e) f0 f1 f3 f4 f5⟩
  self := fun _ _ _ _ _ st h => wpAny_pyIter_listiter st h
theorem turn_tuple {P : Program} {w : World} {K : PySem.W.Frag} {tg : Expr} (a it : Addr) : Turn P w K tg (Itt K a) [it] it (fun i h => h.IsTupleIter it a i) where
  mem := by simp
  obj := fun i h st b hb => by
    have e : b = it := by simpa using hb
    subst e
    obtain ⟨o, e, c, d⟩ := st
    exact ⟨o, e, fun v z => by rw [d] at z; cases z⟩
  keep := fun i h h' st k => st.at fun o e => k it (by simp) o e
  item := by
    intro X hP hw hK hc i pins s σ H E I hf st hg
    subst hP hw hK
    obtain ⟨xs, x, hq, hx⟩ := hg
    obtain ⟨its, rv, p, hz⟩ := I.tuple hq
    obtain ⟨u, hu, ru⟩ := rv.get hx
    obtain ⟨f0, f1, f2, f3, f4, f5⟩ := hf it (by simp)
    refine wpAny_pyNext_tuple_item st (show s.heap.IsTuple a its.toArray from p) (x := u) (by simpa using hu) fun h' st' sb => ?_
    have I1 : Inv X pins σ H { s with heap := h' } := I.turned (t' := s.toks) (fun b o hb e => (sb.2 b hb).trans e) f0 f1 f3 f4 f5
    obtain ⟨o, e, c, d⟩ := id st'
    exact ⟨u, rfl, go_of (s := { s with heap := h' }) e c d (by decide) ⟨x, H, I1, ru, ⟨rfl, fun ys hy => by rw [I.tuple_inj hy hq]; exact hx⟩, st', fun b hb => (hf b hb).1⟩⟩
  done := by
    intro X hP hw hK hc i pins s σ H E I hf st hg
    subst hP hw hK
    obtain ⟨xs, hq, hx⟩ := hg
    obtain ⟨its, rv, p, hz⟩ := I.tuple hq
    obtain ⟨f0, f1, f2, f3, f4, f5⟩ := hf it (by simp)
    have hl := rv.length
    exact wpAny_pyNext_tuple_end (I.ok.hd hc) st (show s.heap.IsTuple a its.toArray from p) (by simp; omega) fun h' eb => ⟨rfl, I.turned (t' := s.toks) (fun b o hb e => eb b o hb e) f0 f1 f3 f4 f5⟩
  self := fun _ _ _ _ _ st h => wpAny_pyIter_tupleiter st h
theorem turn_range {P : Program} {w : World} {K : PySem.W.Frag} {tg : Expr} (it : Addr) (lo : Int) (n : Nat) : Turn P w K tg (Itr lo n) [it] it (fun i h => IsRangeIter h it (lo + (i : Nat) * 1) ((n : Int) - (i : Nat)) 1) where
  mem := by simp
  obj := fun i h st b hb => by
    have e : b = it := by simpa using hb
    subst e
    exact ⟨_, st, fun v z => by
      have z' : Data.fields _ = Data.cell v := z
      cases z'⟩
  keep := fun i h h' st k => k it (by simp) _ st
  item := by
    intro X hP hw hK hc i pins s σ H E I hf st hg
    subst hP hw hK
    obtain ⟨f0, f1, f2, f3, f4, f5⟩ := hf it (by simp)
    have W := Walks.range (prog := X.prog) (w := X.w) (I.ok.hd hc) it lo 1 n
    refine W.item i s _ _ hg st fun v h' tk hv st' kk => ?_
    obtain ⟨t, rfl⟩ := hv
    have I1 : Inv X pins σ H { s with heap := h', toks := tk } := I.turned (fun b o hb e => kk b o (by simpa using hb) e) f0 f1 f3 f4 f5
    refine ⟨_, rfl, go_of (s := { s with heap := h', toks := tk }) (n := "range_iterator") st' rfl rfl (by decide) ⟨.int (lo + i), H, I1, ⟨t, ?_⟩, ⟨rfl, rfl⟩, st', fun b hb => (hf b hb).1⟩⟩
    rw [Int.mul_one]
  done := by
    intro X hP hw hK hc i pins s σ H E I hf st hg
    subst hP hw hK
    obtain ⟨f0, f1, f2, f3, f4, f5⟩ := hf it (by simp)
    exact wpAny_pyNext_range_end (I.ok.hd hc) st (by have : n ≤ i := hg; omega) fun h' eb => ⟨rfl, I.turned (t' := s.toks) (fun b o hb e => eb b o hb e) f0 f1 f3 f4 f5⟩
  self := fun _ _ _ _ _ st h => wpAny_pyIter_rangeiter st h
end L2

namespace L2
open PySem PySem.Spec PyProof.Rows
section
variable {X : Cx} {tg : Expr}
def iList (K : PySem.W.Frag) (tl : TE) : TI := fun σ H R => tl σ H fun x H1 => ∃ a, x = .ref a ∧ (∃ xs, SqL K H1 a xs) ∧ R (Itl K a) H1
def iTup (K : PySem.W.Frag) (tl : TE) : TI := fun σ H R => tl σ H fun x H1 => ∃ a, x = .ref a ∧ (∃ xs, SqT K H1 a xs) ∧ R (Itt K a) H1
theorem pi_list {l : Expr} {tl : TE} (hl : PE X l tl) : PI X tg l (iList X.K tl) := by
  intro pins s σ H R I h
  refine thn (hl pins s σ H _ I h) fun v s1 ⟨x, H1, I1, r1, q1⟩ => ?_
  obtain ⟨a, e, ⟨xs, hq⟩, q⟩ := q1
  subst e
  cases r1
  obtain ⟨its, rv, p, hz⟩ := I1.list hq
  refine wpAny_pyIter_list p.isList ?_
  refine ⟨s1.heap.objs.size, [s1.heap.objs.size], _, _, H1, rfl, I1.kept (t' := s1.toks) fun b o e => Heap.get?_push_of_some _ e, turn_list a _, ⟨_, Heap.get?_push_size _ rfl, rfl, rfl⟩, fun b hb => ?_, q⟩
  have e : b = s1.heap.objs.size := by simpa using hb
  subst e
  exact I1.fpOk (Nat.le_refl _) (I1.hok.fresh (Nat.le_refl _))
theorem pi_tup {l : Expr} {tl : TE} (hl : PE X l tl) : PI X tg l (iTup X.K tl) := by
  intro pins s σ H R I h
  refine thn (hl pins s σ H _ I h) fun v s1 ⟨x, H1, I1, r1, q1⟩ => ?_
  obtain ⟨a, e, ⟨xs, hq⟩, q⟩ := q1
  subst e
  cases r1
  obtain ⟨its, rv, p, hz⟩ := I1.tuple hq
  refine wpAny_pyIter_tuple (show s1.heap.IsTuple a its.toArray from p) ?_
  refine ⟨s1.heap.objs.size, [s1.heap.objs.size], _, _, H1, rfl, I1.kept (t' := s1.toks) fun b o e => Heap.get?_push_of_some _ e, turn_tuple a _, ⟨_, Heap.get?_push_size _ rfl, rfl, rfl⟩, fun b hb => ?_, q⟩
  have e : b = s1.heap.objs.size := by simpa using hb
  subst e
  exact I1.fpOk (Nat.le_refl _) (I1.hok.fresh (Nat.le_refl _))
/-- a range object just made, walked -/
theorem range_it {pins : List (Addr × Obj)} {σ : St} {H : Hp} {s : Shared} {R : It → Hp → Prop} {E : Value → Shared → Prop} {lo hi : Int} {t u v : Tok} {tk : Nat} (I : Inv X pins σ H s) (h1 : -(2 ^ 62) ≤ lo) (h2 : lo < 2 ^ 62) (h3 : -(2 ^ 62) ≤ hi) (h4 : hi < 2 ^ 62)
    (q : R (Itr lo (hi - lo).toNat) H) : wpAny (model X.prog X.w) X.A (pyIter (.ref s.heap.objs.size)) (PIE X pins σ tg R) E { s with heap := s.heap.push { cls := .type "range", data := .fields #[.int lo t, .int hi u, .int 1 v] }, toks := tk } := by
  refine wpAny_pyIter_range (IsRange.new ..) (small_one h1 h2 h3 h4) ?_
  have I1 : Inv X pins σ H { s with heap := s.heap.push { cls := .type "range", data := .fields #[.int lo t, .int hi u, .int 1 v] }, toks := tk } := I.kept fun b o e => Heap.get?_push_of_some _ e
  refine ⟨(s.heap.push { cls := .type "range", data := .fields #[.int lo t, .int hi u, .int 1 v] }).objs.size, [(s.heap.push { cls := .type "range", data := .fields #[.int lo t, .int hi u, .int 1 v] }).objs.size], _, _, H, rfl,
    I1.kept (t' := tk) fun b o e => Heap.get?_push_of_some _ e, turn_range _ lo (hi - lo).toNat, ?_, fun b hb => ?_, q⟩
  · have e1 : lo + ((0 : Nat) : Int) * 1 = lo := by simp
    have e2 : (((hi - lo).toNat : Nat) : Int) - ((0 : Nat) : Int) = Builtin.Range.rangeSize lo hi 1 := by rw [rangeSize_one]; split <;> omega
    show IsRangeIter _ _ (lo + ((0 : Nat) : Int) * 1) ((((hi - lo).toNat : Nat) : Int) - ((0 : Nat) : Int)) 1
    rw [e1, e2]
    exact Heap.get?_push_size _ rfl
  · have e : b = (s.heap.push { cls := .type "range", data := .fields #[.int lo t, .int hi u, .int 1 v] }).objs.size := by simpa using hb
    subst e
    exact I1.fpOk (Nat.le_refl _) (I1.hok.fresh (Nat.le_refl _))
def iRng1 (ta : TA) : TI := fun σ H R => ta σ H fun vs H1 => ∃ j : Int, vs = [.int j] ∧ -(2 ^ 62) ≤ j ∧ j < 2 ^ 62 ∧ R (Itr 0 j.toNat) H1
def iRng2 (ta : TA) : TI := fun σ H R => ta σ H fun vs H1 => ∃ i j : Int, vs = [.int i, .int j] ∧ (-(2 ^ 62) ≤ i ∧ i < 2 ^ 62 ∧ -(2 ^ 62) ≤ j ∧ j < 2 ^ 62) ∧ R (Itr i (j - i).toNat) H1
theorem pi_range1 {a : Expr} {ta : TA} {p pos : Pos} (hg : Gl X "range") (hm : X.mg "range" = none) (ha : PA X [a] ta) (hs : starEach [a] X.env = [(false, eval a X.env)] := by rfl) : PI X tg (.Call (.Name "range" p) [a] [] pos) (iRng1 ta) := by
  intro pins s σ H R I h
  refine Call_ (ld_blt I hg hm boot_range (PyProof.Rows.callWith_type1 (thn (ha pos pins s σ H _ I h) fun us s1 ⟨vs, H1, I1, r1, q1⟩ => ?_) hs rfl))
  obtain ⟨j, e, q1, q2, q⟩ := q1
  subst e
  cases r1 with
  | cons r rr =>
    cases rr
    obtain ⟨t, rfl⟩ := r
    exact call_range_1 (range_it I1 (by omega) (by omega) q1 q2 (by simpa using q))
/-! ### for -/
/-- W: the invariant by the turn and a measure; N: what the body is to reach -/
def tFor (wi : TI) (g : TG) (tb : TS) : TS := fun D σ H => wi σ H fun J H1 => ∃ W : Nat → Nat → St → Hp → Prop, (∃ m, W 0 m σ H1) ∧ ∀ i m σ H, W i m σ H →
  (J.stop i H ∧ D.nx σ H) ∨ (J.go i H ∧ ∃ N : St → Hp → Prop, (∀ σ' H', N σ' H' → ∃ m', m' < m ∧ W (i + 1) m' σ' H') ∧ ∀ x H', J.yld i H x H' → g x σ H' fun σ2 H2 => tb { D with nx := N, ct := N, bk := D.nx } σ2 H2)
/-- the records at fp as they stand -/
def pinsAt (fp : List Addr) (h : Heap) : List (Addr × Obj) := fp.filterMap fun b => (h.get? b).map fun o => (b, o)
theorem mem_pinsAt {fp : List Addr} {h : Heap} {b : Addr} {o : Obj} (hb : b ∈ fp) (e : h.get? b = some o) : (b, o) ∈ pinsAt fp h := List.mem_filterMap.mpr ⟨b, hb, by rw [e]; rfl⟩
theorem of_pinsAt {fp : List Addr} {h : Heap} {p : Addr × Obj} (hp : p ∈ pinsAt fp h) : p.1 ∈ fp ∧ h.get? p.1 = some p.2 := by
  obtain ⟨b, hb, e⟩ := List.mem_filterMap.mp hp
  cases q : h.get? b with
  | none => rw [q] at e; cases e
  | some o =>
    rw [q] at e
    have e' : (b, o) = p := Option.some.inj e
    subst e'
    exact ⟨hb, q⟩
theorem Inv.pinned {pins : List (Addr × Obj)} {σ : St} {H : Hp} {s : Shared} {fp : List Addr} (I : Inv X pins σ H s) (hf : ∀ b ∈ fp, FpOk X pins H b) (ho : ∀ b ∈ fp, ∃ o, s.heap.get? b = some o ∧ ∀ v, o.data ≠ .cell v) : Inv X (pins ++ pinsAt fp s.heap) σ H s :=
  I.pins_of fun p hp => (List.mem_append.mp hp).elim (fun z => I.pin p (List.mem_append_right _ z)) fun z => by
    obtain ⟨hb, e⟩ := of_pinsAt z
    obtain ⟨f0, f1, f2, _⟩ := hf p.1 hb
    obtain ⟨o, e', d⟩ := ho p.1 hb
    rw [e] at e'; cases e'
    exact ⟨e, f0, f1, f2, d⟩
theorem Inv.unpinned {pins pl : List (Addr × Obj)} {σ : St} {H : Hp} {s : Shared} (I : Inv X (pins ++ pl) σ H s) : Inv X pins σ H s := I.pins_of fun p hp => I.pin p (List.mem_append_right _ (List.mem_append_left _ hp))
theorem ps_for {iter : Expr} {body : List Stmt} {wi : TI} {g : TG} {tb : TS} {pos : Pos} (hp : PassesOwn (model X.prog X.w) X.A X.env X.xe) (hc : X.calm = true) (hi : PI X tg iter wi) (hg : PG X tg g) (hb : PSs X body tb)
    (hs : ∀ x, foldedSetIterable iter X.env x = pure x := by intro _; rfl) : PS X (.For tg iter body [] pos) (tFor wi g tb) := by
  intro pins s σ H D I h
  refine wpAny_For (thn (hi pins s σ H _ I h) fun v s1 h1 => thn h1 fun itv s2 h2 => ?_) hs
  obtain ⟨it, fp, tn, J, H2, e, I2, T, st2, f2, W, ⟨m0, w0⟩, turn⟩ := h2
  subst e
  -- what stays true of the iterator's objects through the loop
  have stat : ∀ {H' : Hp}, (∀ b ∈ fp, H' b = none) → ∀ b ∈ fp, FpOk X pins H' b := fun hn b hb => ⟨hn b hb, (f2 b hb).2⟩
  refine codeAny_forLoop_any (fun n s' => ∃ i σ' H', Inv X pins σ' H' s' ∧ tn i s'.heap ∧ (∀ b ∈ fp, H' b = none) ∧ W i n σ' H') ?_ m0 ⟨0, σ, H2, I2, st2, fun b hb => (f2 b hb).1, w0⟩
  rintro n s3 ⟨i, σ3, H3, I3, st3, fr3, w3⟩
  rcases turn i n σ3 H3 w3 with ⟨stop, qn⟩ | ⟨go, N, hN, step⟩
  · refine wpAny_passesOwn hp (thn (T.done X rfl rfl rfl hc i pins s3 σ3 H3 X.xe I3 (stat fr3) st3 stop) fun r s4 ⟨hr, I4⟩ => ?_)
    subst hr
    exact wpAny_execs_nil ⟨σ3, H3, I4, qn⟩
  · refine wpAny_passesOwn hp (thn (T.item X rfl rfl rfl hc i pins s3 σ3 H3 X.xe I3 (stat fr3) st3 go) fun r s4 ⟨u, hr, h4⟩ => ?_)
    subst hr
    refine wpAny_passesOwn hp (thn h4 fun _ s5 ⟨x, H5, I5, r5, y5, st5, fr5⟩ => ?_)
    have I5' := I5.pinned (stat fr5) (T.obj _ _ st5)
    refine wpAny_passesOwn hp (thn (hg _ s5 σ3 H5 x u _ I5' r5 (step x H5 y5)) fun _ s6 ⟨σ6, H6, I6, q6⟩ => ?_)
    refine wpAny_passesOwn hp (thn (hb _ s6 σ6 H6 _ I6 q6) fun f s7 q7 => ?_)
    have again : ∀ {σ7 : St} {H7 : Hp}, Inv X (pins ++ pinsAt fp s5.heap) σ7 H7 s7 → N σ7 H7 → ∃ m, m < n ∧ ∃ i σ' H', Inv X pins σ' H' s7 ∧ tn i s7.heap ∧ (∀ b ∈ fp, H' b = none) ∧ W i m σ' H' := fun {σ7 H7} I7 n7 => by
      obtain ⟨m', hm, w7⟩ := hN σ7 H7 n7
      refine ⟨m', hm, i + 1, σ7, H7, I7.unpinned, T.keep _ _ _ st5 fun b hb o e => (I7.pin (b, o) (List.mem_append_right _ (List.mem_append_right _ (mem_pinsAt hb e)))).1, fun b hb => ?_, w7⟩
      obtain ⟨o, e, d⟩ := T.obj _ _ st5 b hb
      exact (I7.pin (b, o) (List.mem_append_right _ (List.mem_append_right _ (mem_pinsAt hb e)))).2.1
    cases f with
    | next => obtain ⟨σ7, H7, I7, n7⟩ := q7; exact again I7 n7
    | cont => obtain ⟨σ7, H7, I7, n7⟩ := q7; exact again I7 n7
    | brk => obtain ⟨σ7, H7, I7, q7⟩ := q7; exact ⟨σ7, H7, I7.unpinned, q7⟩
    | ret v => obtain ⟨x7, σ7, H7, I7, r7, q7⟩ := q7; exact ⟨x7, σ7, H7, I7.unpinned, r7, q7⟩
end

/-! ### the forms one uses -/
/-- over a list that the body leaves as it is -/
theorem for_list {K : PySem.W.Frag} {a : Addr} {xs : List V} {g : TG} {tb : TS} {D : Ends} {σ : St} {H : Hp} (Pv : Nat → St → Hp → Prop) (h0 : Pv 0 σ H) (hl : ∀ i σ H, i ≤ xs.length → Pv i σ H → SqL K H a xs)
    (hs : ∀ i x σ H, xs[i]? = some x → Pv i σ H → g x σ H fun σ2 H2 => tb { D with nx := Pv (i + 1), ct := Pv (i + 1), bk := D.nx } σ2 H2) (hd : ∀ σ H, Pv xs.length σ H → D.nx σ H) :
    ∃ W : Nat → Nat → St → Hp → Prop, (∃ m, W 0 m σ H) ∧ ∀ i m σ H, W i m σ H →
      ((Itl K a).stop i H ∧ D.nx σ H) ∨ ((Itl K a).go i H ∧ ∃ N : St → Hp → Prop, (∀ σ' H', N σ' H' → ∃ m', m' < m ∧ W (i + 1) m' σ' H') ∧ ∀ x H', (Itl K a).yld i H x H' → g x σ H' fun σ2 H2 => tb { D with nx := N, ct := N, bk := D.nx } σ2 H2) := by
  refine ⟨fun i m σ H => m = xs.length - i ∧ i ≤ xs.length ∧ Pv i σ H, ⟨xs.length, by simp, Nat.zero_le _, h0⟩, ?_⟩
  rintro i m σ H ⟨rfl, hi, p⟩
  have q := hl i σ H hi p
  by_cases hlt : i < xs.length
  · refine .inr ⟨⟨xs, xs[i], q, by simp [hlt]⟩, Pv (i + 1), fun σ' H' p' => ⟨xs.length - (i + 1), by omega, rfl, hlt, p'⟩, fun x H' y => ?_⟩
    obtain ⟨e, y⟩ := y
    subst e
    exact hs i x σ _ (y xs q) p
  · have e : i = xs.length := by omega
    subst e
    exact .inl ⟨⟨xs, q, Nat.le_refl _⟩, hd σ H p⟩
theorem for_tup {K : PySem.W.Frag} {a : Addr} {xs : List V} {g : TG} {tb : TS} {D : Ends} {σ : St} {H : Hp} (Pv : Nat → St → Hp → Prop) (h0 : Pv 0 σ H) (hl : ∀ i σ H, i ≤ xs.length → Pv i σ H → SqT K H a xs)
    (hs : ∀ i x σ H, xs[i]? = some x → Pv i σ H → g x σ H fun σ2 H2 => tb { D with nx := Pv (i + 1), ct := Pv (i + 1), bk := D.nx } σ2 H2) (hd : ∀ σ H, Pv xs.length σ H → D.nx σ H) :
    ∃ W : Nat → Nat → St → Hp → Prop, (∃ m, W 0 m σ H) ∧ ∀ i m σ H, W i m σ H →
      ((Itt K a).stop i H ∧ D.nx σ H) ∨ ((Itt K a).go i H ∧ ∃ N : St → Hp → Prop, (∀ σ' H', N σ' H' → ∃ m', m' < m ∧ W (i + 1) m' σ' H') ∧ ∀ x H', (Itt K a).yld i H x H' → g x σ H' fun σ2 H2 => tb { D with nx := N, ct := N, bk := D.nx } σ2 H2) := by
  refine ⟨fun i m σ H => m = xs.length - i ∧ i ≤ xs.length ∧ Pv i σ H, ⟨xs.length, by simp, Nat.zero_le _, h0⟩, ?_⟩
  rintro i m σ H ⟨rfl, hi, p⟩
  have q := hl i σ H hi p
  by_cases hlt : i < xs.length
  · refine .inr ⟨⟨xs, xs[i], q, by simp [hlt]⟩, Pv (i + 1), fun σ' H' p' => ⟨xs.length - (i + 1), by omega, rfl, hlt, p'⟩, fun x H' y => ?_⟩
    obtain ⟨e, y⟩ := y
    subst e
    exact hs i x σ _ (y xs q) p
  · have e : i = xs.length := by omega
    subst e
    exact .inl ⟨⟨xs, q, Nat.le_refl _⟩, hd σ H p⟩
theorem for_range {lo : Int} {n : Nat} {g : TG} {tb : TS} {D : Ends} {σ : St} {H : Hp} (Pv : Nat → St → Hp → Prop) (h0 : Pv 0 σ H)
    (hs : ∀ i σ H, i < n → Pv i σ H → g (.int (lo + i)) σ H fun σ2 H2 => tb { D with nx := Pv (i + 1), ct := Pv (i + 1), bk := D.nx } σ2 H2) (hd : ∀ σ H, Pv n σ H → D.nx σ H) :
    ∃ W : Nat → Nat → St → Hp → Prop, (∃ m, W 0 m σ H) ∧ ∀ i m σ H, W i m σ H →
      ((Itr lo n).stop i H ∧ D.nx σ H) ∨ ((Itr lo n).go i H ∧ ∃ N : St → Hp → Prop, (∀ σ' H', N σ' H' → ∃ m', m' < m ∧ W (i + 1) m' σ' H') ∧ ∀ x H', (Itr lo n).yld i H x H' → g x σ H' fun σ2 H2 => tb { D with nx := N, ct := N, bk := D.nx } σ2 H2) := by
  refine ⟨fun i m σ H => m = n - i ∧ i ≤ n ∧ Pv i σ H, ⟨n, by simp, Nat.zero_le _, h0⟩, ?_⟩
  rintro i m σ H ⟨rfl, hi, p⟩
  by_cases hlt : i < n
  · refine .inr ⟨hlt, Pv (i + 1), fun σ' H' p' => ⟨n - (i + 1), by omega, rfl, hlt, p'⟩, fun x H' y => ?_⟩
    obtain ⟨e, y⟩ := y
    subst e y
    exact hs i σ _ hlt p
  · have e : i = n := by omega
    subst e
    exact .inl ⟨Nat.le_refl _, hd σ H p⟩
end L2

namespace L2
open PySem PySem.Spec PyProof.Rows

abbrev R2 := V → V → Hp → VK → Prop
/-- a two-place operation on values: f is binaryOp op, inplaceOp op or compareOp op -/
def OpR (X : Cx) (f : Value → Value → Sem Value) (r : R2) : Prop :=
  ∀ (pins : List (Addr × Obj)) (s : Shared) (σ : St) (H : Hp) (x y : V) (v u : Value) (Q : VK), Inv X pins σ H s → RelV x v → RelV y u → r x y H Q →
    wpAny (model X.prog X.w) X.A (f v u) (EP X pins σ Q) X.xe s
/-- a one-place operation -/
def UnR (X : Cx) (f : Value → Sem Value) (r : V → Hp → VK → Prop) : Prop :=
  ∀ (pins : List (Addr × Obj)) (s : Shared) (σ : St) (H : Hp) (x : V) (v : Value) (Q : VK), Inv X pins σ H s → RelV x v → r x H Q →
    wpAny (model X.prog X.w) X.A (f v) (EP X pins σ Q) X.xe s
/-- a call of a value that is known (a builtin, a type) with values -/
def CallR (X : Cx) (f : Value) (r : List V → Hp → VK → Prop) : Prop :=
  ∀ (pins : List (Addr × Obj)) (s : Shared) (σ : St) (H : Hp) (xs : List V) (us : List Value) (Q : VK), Inv X pins σ H s → Vals xs us → r xs H Q →
    wpAny (model X.prog X.w) X.A (call f us) (EP X pins σ Q) X.xe s
/-- a value's truth -/
def TruR (X : Cx) (r : V → Hp → (Bool → Hp → Prop) → Prop) : Prop :=
  ∀ (pins : List (Addr × Obj)) (s : Shared) (σ : St) (H : Hp) (x : V) (v : Value) (Q : Bool → Hp → Prop), Inv X pins σ H s → RelV x v → r x H Q →
    wpAny (model X.prog X.w) X.A (truthy v) (TP X pins σ Q) X.xe s

def tOp (r : R2) (ta tb : TE) : TE := fun σ H Q => ta σ H fun x H1 => tb σ H1 fun y H2 => r x y H2 Q
def tUn (r : V → Hp → VK → Prop) (ta : TE) : TE := fun σ H Q => ta σ H fun x H1 => r x H1 Q
/-- ints in, under C, and a value out -/
def rI (C : Int → Int → Prop) (g : Int → Int → V) : R2 := fun x y H Q => ∃ i j, x = .int i ∧ y = .int j ∧ C i j ∧ Q (g i j) H
def rI0 (g : Int → Int → V) : R2 := fun x y H Q => ∃ i j, x = .int i ∧ y = .int j ∧ Q (g i j) H
def rU (g : Int → V) : V → Hp → VK → Prop := fun x H Q => ∃ i, x = .int i ∧ Q (g i) H

section
variable {X : Cx} {a b c : Expr} {ta tb tc : TE} {pos : Pos}

theorem binT (ha : PE X a ta) (hb : PE X b tb) {pins : List (Addr × Obj)} {s : Shared} {σ : St} {H : Hp} {R : V → V → Hp → Prop} (I : Inv X pins σ H s)
    (h : ta σ H fun x H1 => tb σ H1 fun y H2 => R x y H2) {Q : Value → Shared → Prop} {f : Value → Value → Sem Value}
    (hf : ∀ v u s2 x y H2, Inv X pins σ H2 s2 → RelV x v → RelV y u → R x y H2 → wpAny (model X.prog X.w) X.A (f v u) Q X.xe s2) :
    wpAny (model X.prog X.w) X.A (eval a X.env) (fun v s₁ => wpAny (model X.prog X.w) X.A (eval b X.env) (fun u s₂ => wpAny (model X.prog X.w) X.A (f v u) Q X.xe s₂) X.xe s₁) X.xe s := by
  refine thn (ha pins s σ H _ I h) fun v s1 ⟨x, H1, I1, r1, q1⟩ => ?_
  refine thn (hb pins s1 σ H1 _ I1 q1) fun u s2 ⟨y, H2, I2, r2, q2⟩ => ?_
  exact hf v u s2 x y H2 I2 r1 r2 q2

theorem pe_op {op : Operator} {r : R2} (ho : OpR X (binaryOp op) r) (ha : PE X a ta) (hb : PE X b tb) : PE X (.BinOp a op b pos) (tOp r ta tb) := by
  intro pins s σ H Q I h
  exact wpAny_BinOp (binT ha hb I h fun v u s2 x y H2 I2 rx ry q => ho pins s2 σ H2 x y v u Q I2 rx ry q)
theorem pe_un {op : UnaryOp} {r : V → Hp → VK → Prop} (ho : UnR X (unaryOp op) r) (ha : PE X a ta) : PE X (.UnaryOp op a pos) (tUn r ta) := by
  intro pins s σ H Q I h
  exact UnaryOp_ (thn (ha pins s σ H _ I h) fun v s1 ⟨x, H1, I1, r1, q1⟩ => ho pins s1 σ H1 x v Q I1 r1 q1)
/-! ### ints -/
theorem opI {f : Value → Value → Sem Value} {C : Int → Int → Prop} {g : Int → Int → Int}
    (rule : ∀ (i j : Int) (t u : Tok) (s : Shared) (Q : Value → Shared → Prop) (E : Value → Shared → Prop), C i j → Q (.int (g i j) s.toks) { s with toks := s.toks + 1 } → wpAny (model X.prog X.w) X.A (f (.int i t) (.int j u)) Q E s) :
    OpR X f (rI C fun i j => .int (g i j)) := by
  intro pins s σ H x y v u Q I rx ry h
  obtain ⟨i, j, rfl, rfl, hc, q⟩ := h
  obtain ⟨t, rfl⟩ := rx
  obtain ⟨t', rfl⟩ := ry
  exact rule i j t t' s _ _ hc ⟨.int (g i j), H, I.tok _, ⟨_, rfl⟩, q⟩
theorem opI0 {f : Value → Value → Sem Value} {g : Int → Int → Int}
    (rule : ∀ (i j : Int) (t u : Tok) (s : Shared) (Q : Value → Shared → Prop) (E : Value → Shared → Prop), Q (.int (g i j) s.toks) { s with toks := s.toks + 1 } → wpAny (model X.prog X.w) X.A (f (.int i t) (.int j u)) Q E s) :
    OpR X f (rI0 fun i j => .int (g i j)) := by
  intro pins s σ H x y v u Q I rx ry h
  obtain ⟨i, j, rfl, rfl, q⟩ := h
  obtain ⟨t, rfl⟩ := rx
  obtain ⟨t', rfl⟩ := ry
  exact rule i j t t' s _ _ ⟨.int (g i j), H, I.tok _, ⟨_, rfl⟩, q⟩
theorem opB0 {f : Value → Value → Sem Value} {g : Int → Int → Bool}
    (rule : ∀ (i j : Int) (t u : Tok) (s : Shared) (Q : Value → Shared → Prop) (E : Value → Shared → Prop), Q (.bool (g i j)) s → wpAny (model X.prog X.w) X.A (f (.int i t) (.int j u)) Q E s) :
    OpR X f (rI0 fun i j => .bl (g i j)) := by
  intro pins s σ H x y v u Q I rx ry h
  obtain ⟨i, j, rfl, rfl, q⟩ := h
  obtain ⟨t, rfl⟩ := rx
  obtain ⟨t', rfl⟩ := ry
  exact rule i j t t' s _ _ ⟨.bl (g i j), H, I, rfl, q⟩

def CDiv (i j : Int) : Prop := 0 < j ∧ j < 1073741824
def CDivN (i j : Int) : Prop := j ≠ 0 ∧ j.natAbs < 1073741824
def CPow (i j : Int) : Prop := 0 ≤ j ∧ j ≤ 1000000 ∧ i.natAbs < 2 ^ 64
def CMul (i j : Int) : Prop := (-(2 ^ 64) < i ∧ i < 2 ^ 64) ∨ (-(2 ^ 64) < j ∧ j < 2 ^ 64)
theorem CMul.ok {i j : Int} (h : CMul i j) : IntMulOk i j := by
  rcases h with ⟨h1, h2⟩ | ⟨h1, h2⟩
  · exact .of_left (intBits_le_64 h1 h2)
  · exact .of_right (intBits_le_64 h1 h2)
theorem op_add : OpR X (binaryOp .Add) (rI0 fun i j => .int (i + j)) := opI0 fun _ _ _ _ _ _ _ q => add_int q
theorem op_sub : OpR X (binaryOp .Sub) (rI0 fun i j => .int (i - j)) := opI0 fun _ _ _ _ _ _ _ q => sub_int q
/-- % by a positive divisor of any size -/
theorem op_mod : OpR X (binaryOp .Mod) (rI (fun _ j => 0 < j) fun i j => .int (i % j)) := opI fun i j _ _ _ _ _ hc q => by
  have h1 : (0 : Int) < j := hc
  exact mod_int' (by omega) (by rw [Int.fmod_eq_emod_of_nonneg i (by omega)]; exact q)
theorem op_pow : OpR X (binaryOp .Pow) (rI CPow fun i j => .int (i ^ j.toNat)) := opI fun _ _ _ _ _ _ _ hc q => pow_int_small hc.1 hc.2.1 hc.2.2 q
theorem unI {f : Value → Sem Value} {g : Int → Int}
    (rule : ∀ (i : Int) (t : Tok) (s : Shared) (Q : Value → Shared → Prop) (E : Value → Shared → Prop), Q (.int (g i) s.toks) { s with toks := s.toks + 1 } → wpAny (model X.prog X.w) X.A (f (.int i t)) Q E s) :
    UnR X f (rU fun i => .int (g i)) := by
  intro pins s σ H x v Q I rx h
  obtain ⟨i, rfl, q⟩ := h
  obtain ⟨t, rfl⟩ := rx
  exact rule i t s _ _ ⟨.int (g i), H, I.tok _, ⟨_, rfl⟩, q⟩
theorem un_neg : UnR X (unaryOp .USub) (rU fun i => .int (-i)) := unI fun _ _ _ _ _ q => neg_int q
/-! ### bools among ints: n += (a < b) -/
end

/-! ### comparisons -/
/-- the scalars that == tells apart as data does -/
def scal : V → V → Bool
  | .non, .non => true | .non, .int _ => true | .int _, .non => true | .non, .bl _ => true | .bl _, .non => true | .non, .str _ => true | .str _, .non => true
  | .int _, .int _ => true | .bl _, .bl _ => true | .str _, .str _ => true | .byt _, .byt _ => true
  | .int _, .str _ => true | .str _, .int _ => true | .bl _, .str _ => true | .str _, .bl _ => true
  | _, _ => false
def rEq : R2 := fun x y H Q => scal x y = true ∧ Q (.bl (decide (x = y))) H
def rNe : R2 := fun x y H Q => scal x y = true ∧ Q (.bl (!decide (x = y))) H

theorem dec_int {i j : Int} : decide (V.int i = V.int j) = (i == j) := by
  rw [Bool.eq_iff_iff]
  simp
theorem dec_bl {i j : Bool} : decide (V.bl i = V.bl j) = (i == j) := by
  rw [Bool.eq_iff_iff]
  simp
theorem dec_str {i j : Str} : decide (V.str i = V.str j) = (i == j) := by
  rw [Bool.eq_iff_iff]
  simp
theorem dec_byt {i j : Array UInt8} : decide (V.byt i = V.byt j) = (i.toList == j.toList) := by
  rw [Bool.eq_iff_iff]
  cases i
  cases j
  simp

section
variable {X : Cx} {a b c : Expr} {ta tb tc : TE} {pos : Pos}
theorem fin_bl {pins : List (Addr × Obj)} {σ : St} {H : Hp} {s : Shared} {Q : VK} {k k' : Bool} (I : Inv X pins σ H s) (q : Q (.bl k) H) (e : k = k') : EP X pins σ Q (.bool k') s := by
  subst e
  exact ⟨.bl k, H, I, rfl, q⟩
theorem op_eq : OpR X (compareOp .Eq) rEq := by
  intro pins s σ H x y v u Q I rx ry h
  obtain ⟨hs, q⟩ := h
  cases x with
  | non =>
    cases rx
    cases y with
    | non => cases ry; exact PySem.EqNone.eq_none_none (fin_bl I q (by simp))
    | bl j => cases ry; exact PySem.EqNone.eq_none_bool (fin_bl I q (by simp))
    | int j => obtain ⟨t', rfl⟩ := ry; exact PySem.EqNone.eq_none_int (fin_bl I q (by simp))
    | str j => obtain ⟨t', rfl⟩ := ry; exact PySem.EqNone.eq_none_str (fin_bl I q (by simp))
    | _ => exact absurd (show false = true from hs) Bool.false_ne_true
  | bl i =>
    cases rx
    cases y with
    | non => cases ry; exact PySem.EqNone.eq_bool_none (fin_bl I q (by simp))
    | bl j => cases ry; exact eq_bool (fin_bl I q dec_bl)
    | str j => obtain ⟨t', rfl⟩ := ry; exact PySem.EqMixed.eq_bool_str (fin_bl I q (by simp))
    | _ => exact absurd (show false = true from hs) Bool.false_ne_true
  | int i =>
    obtain ⟨t, rfl⟩ := rx
    cases y with
    | non => cases ry; exact PySem.EqNone.eq_int_none (fin_bl I q (by simp))
    | int j => obtain ⟨t', rfl⟩ := ry; exact eq_int (fin_bl I q dec_int)
    | str j => obtain ⟨t', rfl⟩ := ry; exact PySem.EqMixed.eq_int_str (fin_bl I q (by simp))
    | _ => exact absurd (show false = true from hs) Bool.false_ne_true
  | str i =>
    obtain ⟨t, rfl⟩ := rx
    cases y with
    | non => cases ry; exact PySem.EqNone.eq_str_none (fin_bl I q (by simp))
    | bl j => cases ry; exact PySem.EqMixed.eq_str_bool (fin_bl I q (by simp))
    | int j => obtain ⟨t', rfl⟩ := ry; exact PySem.EqMixed.eq_str_int (fin_bl I q (by simp))
    | str j => obtain ⟨t', rfl⟩ := ry; exact eq_str (fin_bl I q dec_str)
    | _ => exact absurd (show false = true from hs) Bool.false_ne_true
  | byt i =>
    obtain ⟨t, rfl⟩ := rx
    cases y with
    | byt j => obtain ⟨t', rfl⟩ := ry; exact PySem.W.eq_bytes (fin_bl I q dec_byt)
    | _ => exact absurd (show false = true from hs) Bool.false_ne_true
  | _ => cases y <;> exact absurd (show false = true from hs) Bool.false_ne_true
theorem op_ne : OpR X (compareOp .NotEq) rNe := by
  intro pins s σ H x y v u Q I rx ry h
  obtain ⟨hs, q⟩ := h
  cases x with
  | non =>
    cases rx
    cases y with
    | non => cases ry; exact PySem.EqNone.ne_none_none (fin_bl I q (by simp))
    | bl j => cases ry; exact PySem.EqNone.ne_none_bool (fin_bl I q (by simp))
    | int j => obtain ⟨t', rfl⟩ := ry; exact PySem.EqNone.ne_none_int (fin_bl I q (by simp))
    | str j => obtain ⟨t', rfl⟩ := ry; exact PySem.EqNone.ne_none_str (fin_bl I q (by simp))
    | _ => exact absurd (show false = true from hs) Bool.false_ne_true
  | bl i =>
    cases rx
    cases y with
    | non => cases ry; exact PySem.EqNone.ne_bool_none (fin_bl I q (by simp))
    | bl j => cases ry; exact ne_bool (fin_bl I q (congrArg not dec_bl))
    | str j => obtain ⟨t', rfl⟩ := ry; exact PySem.EqMixed.ne_bool_str (fin_bl I q (by simp))
    | _ => exact absurd (show false = true from hs) Bool.false_ne_true
  | int i =>
    obtain ⟨t, rfl⟩ := rx
    cases y with
    | non => cases ry; exact PySem.EqNone.ne_int_none (fin_bl I q (by simp))
    | int j => obtain ⟨t', rfl⟩ := ry; exact ne_int (fin_bl I q (congrArg not dec_int))
    | str j => obtain ⟨t', rfl⟩ := ry; exact PySem.EqMixed.ne_int_str (fin_bl I q (by simp))
    | _ => exact absurd (show false = true from hs) Bool.false_ne_true
  | str i =>
    obtain ⟨t, rfl⟩ := rx
    cases y with
    | non => cases ry; exact PySem.EqNone.ne_str_none (fin_bl I q (by simp))
    | bl j => cases ry; exact PySem.EqMixed.ne_str_bool (fin_bl I q (by simp))
    | int j => obtain ⟨t', rfl⟩ := ry; exact PySem.EqMixed.ne_str_int (fin_bl I q (by simp))
    | str j => obtain ⟨t', rfl⟩ := ry; exact ne_str (fin_bl I q (congrArg not dec_str))
    | _ => exact absurd (show false = true from hs) Bool.false_ne_true
  | byt i =>
    obtain ⟨t, rfl⟩ := rx
    cases y with
    | byt j => obtain ⟨t', rfl⟩ := ry; exact PySem.W.ne_bytes (fin_bl I q (congrArg not dec_byt))
    | _ => exact absurd (show false = true from hs) Bool.false_ne_true
  | _ => cases y <;> exact absurd (show false = true from hs) Bool.false_ne_true

theorem op_lt : OpR X (compareOp .Lt) (rI0 fun i j => .bl (decide (i < j))) := opB0 fun _ _ _ _ _ _ _ q => lt_int q
theorem op_le : OpR X (compareOp .LtE) (rI0 fun i j => .bl (decide (i ≤ j))) := opB0 fun _ _ _ _ _ _ _ q => le_int q
theorem op_gt : OpR X (compareOp .Gt) (rI0 fun i j => .bl (decide (j < i))) := opB0 fun _ _ _ _ _ _ _ q => gt_int q
theorem op_ge : OpR X (compareOp .GtE) (rI0 fun i j => .bl (decide (j ≤ i))) := opB0 fun _ _ _ _ _ _ _ q => ge_int q
/-- is None, is not None: the right side a value none -/
theorem op_isN : OpR X (compareOp .Is) (fun x y H Q => y = .non ∧ Q (.bl (decide (x = .non))) H) := by
  intro pins s σ H x y v u Q I rx ry h
  obtain ⟨rfl, q⟩ := h
  cases ry
  refine is_none_gen (fin_bl I q ?_)
  cases x <;> first
    | (cases rx; rfl)
    | (obtain ⟨t, rfl⟩ := rx; rfl)
/-- is, is not of two objects that are tracked lists or instances -/
def isObj : HO → Bool
  | .lst _ => true
  | .ins _ _ _ => true
  | _ => false
/-- two rules for one operation: by cases -/
theorem OpR.or {f : Value → Value → Sem Value} {r r' : R2} (h : OpR X f r) (h' : OpR X f r') : OpR X f (fun x y H Q => r x y H Q ∨ r' x y H Q) := by
  intro pins s σ H x y v u Q I rx ry q
  rcases q with q | q
  · exact h pins s σ H x y v u Q I rx ry q
  · exact h' pins s σ H x y v u Q I rx ry q

theorem nomark (b : Expr) {op : CmpOp} (h : op ≠ .In := by decide) (h2 : op ≠ .NotIn := by decide) : behindInMarks op b = false := by
  have e1 : (op == CmpOp.In) = false := by cases op <;> first | rfl | exact absurd rfl h
  have e2 : (op == CmpOp.NotIn) = false := by cases op <;> first | rfl | exact absurd rfl h2
  cases b <;> simp [behindInMarks, e1, e2]
/-- a comparison as a value; hm: nomark b, or (for in, not in) by with_unfolding_all rfl -/
theorem pe_cmpR {op : CmpOp} {r : R2} (ho : OpR X (compareOp op) r) (ha : PE X a ta) (hb : PE X b tb) (hm : behindInMarks op b = false) : PE X (.Compare a [op] [b] pos) (tOp r ta tb) := by
  intro pins s σ H Q I h
  exact wpAny_Compare1 (binT ha hb I h fun v u s2 x y H2 I2 rx ry q => ho pins s2 σ H2 x y v u Q I2 rx ry q) hm
/-- a reading of a value as a test -/
def tTest (t : TE) : TT := fun σ H Q => t σ H fun x H' => ∃ k, x = .bl k ∧ Q k H'
theorem pt_cmpR {op : CmpOp} {r : R2} (ho : OpR X (compareOp op) r) (ha : PE X a ta) (hb : PE X b tb) (hm : behindInMarks op b = false) : PT X (.Compare a [op] [b] pos) (tTest (tOp r ta tb)) := by
  intro pins s σ H Q I h
  refine wpAny_isTrue_Compare1 (thn (ha pins s σ H _ I h) fun v s1 ⟨x, H1, I1, r1, q1⟩ => thn (hb pins s1 σ H1 _ I1 q1) fun u s2 ⟨y, H2, I2, r2, q2⟩ =>
    thn (ho pins s2 σ H2 x y v u _ I2 r1 r2 q2) fun c s3 ⟨z, H3, I3, r3, k, e, q3⟩ => ?_) hm
  subst e
  cases r3
  exact wpAny_truthy_bool ⟨H3, I3, q3⟩
/-- a op1 b op2 c -/
def tChain (r r' : R2) (ta tb tc : TE) : TE := fun σ H Q => ta σ H fun x H1 => tb σ H1 fun y H2 => r x y H2 fun z H3 => ∃ k, z = .bl k ∧
  (if k = true then tc σ H3 fun w' H4 => r' y w' H4 Q else Q (.bl false) H3)
theorem pt_chain {op op' : CmpOp} {r r' : R2} (ho : OpR X (compareOp op) r) (ho' : OpR X (compareOp op') r') (ha : PE X a ta) (hb : PE X b tb) (hc : PE X c tc)
    (hm : lastMarks [op, op'] [b, c] = false := by with_unfolding_all rfl) : PT X (.Compare a [op, op'] [b, c] pos) (tTest (tChain r r' ta tb tc)) := by
  intro pins s σ H Q I h
  refine isTrue_chain (thn (ha pins s σ H _ I h) fun v s1 ⟨x, H1, I1, r1, q1⟩ => test_link (thn (hb pins s1 σ H1 _ I1 q1) fun u s2 ⟨y, H2, I2, r2, q2⟩ =>
    thn (ho pins s2 σ H2 x y v u _ I2 r1 r2 q2) fun d s3 ⟨z, H3, I3, r3, k, e, q3⟩ => ?_)) hm
  subst e
  cases r3
  refine wpAny_truthy_bool ?_
  cases k with
  | false =>
    obtain ⟨k', e', q'⟩ := q3
    cases e'
    exact ite_ff ⟨H3, I3, q'⟩
  | true =>
    refine ite_tt (test_last (thn (hc pins s3 σ H3 _ I3 q3) fun w' s4 ⟨z', H4, I4, r4, q4⟩ => thn (ho' pins s4 σ H4 y z' u w' _ I4 r2 r4 q4) fun d' s5 ⟨z2, H5, I5, r5, k2, e2, q5⟩ => ?_))
    subst e2
    cases r5
    exact wpAny_truthy_bool ⟨H5, I5, q5⟩

/-! ### truth -/
/-- a value's truth by the abstract heap -/
def TruV (K : PySem.W.Frag) (x : V) (H : Hp) (k : Bool) : Prop :=
  match x with
  | .non => k = false
  | .bl b => k = b
  | .int i => k = (i != 0)
  | .str y => y.length ≤ sizeLine ∧ k = ((y.length : Int) != 0)
  | .byt y => y.size ≤ sizeLine ∧ k = ((y.size : Int) != 0)
  | .ref p => (∃ xs, SqL K H p xs ∧ k = !xs.isEmpty) ∨ (∃ xs, SqT K H p xs ∧ k = !xs.isEmpty) ∨ ∃ kvs, H p = some (.dK kvs) ∧ k = !kvs.isEmpty
  | _ => False
theorem isEmpty_kv {κ : Type} {kvs : List (κ × V)} {vs : List (κ × Value)} (r : KV kvs vs) : (!vs.isEmpty) = !kvs.isEmpty := by
  cases r <;> rfl
theorem isEmpty_of {xs : List V} {its : List Value} (r : Vals xs its) : (!its.toArray.isEmpty) = !xs.isEmpty := by
  cases r <;> simp
theorem line63 : (sizeLine : Nat) < 2 ^ 63 := by rw [sizeLine_eq]; decide
theorem tru_ok : TruR X (fun x H Q => ∃ k, TruV X.K x H k ∧ Q k H) := by
  intro pins s σ H x v Q I rx h
  obtain ⟨k, e, q⟩ := h
  have hl := line63
  have hs : sizeLine = 16777216 := sizeLine_eq
  cases x with
  | non =>
    cases rx
    have e' : k = false := e
    subst e'
    exact truthy_none ⟨H, I, q⟩
  | bl b =>
    cases rx
    have e' : k = b := e
    subst e'
    exact wpAny_truthy_bool ⟨H, I, q⟩
  | int i =>
    obtain ⟨t, rfl⟩ := rx
    have e' : k = (i != 0) := e
    subst e'
    exact PySem.P.truthy_int ⟨H, I, q⟩
  | str y =>
    obtain ⟨t, rfl⟩ := rx
    obtain ⟨hy, e'⟩ : y.length ≤ sizeLine ∧ k = ((y.length : Int) != 0) := e
    subst e'
    exact PySem.P.truthy_str (by omega) ⟨H, I.tok _, q⟩
  | byt y =>
    obtain ⟨t, rfl⟩ := rx
    obtain ⟨hy, e'⟩ : y.size ≤ sizeLine ∧ k = ((y.size : Int) != 0) := e
    subst e'
    exact PySem.W.truthy_bytes (by omega) ⟨H, I.tok _, q⟩
  | ref p =>
    cases rx
    have e' : (∃ xs, SqL X.K H p xs ∧ k = !xs.isEmpty) ∨ (∃ xs, SqT X.K H p xs ∧ k = !xs.isEmpty) ∨ ∃ kvs, H p = some (.dK kvs) ∧ k = !kvs.isEmpty := e
    rcases e' with ⟨xs, hx, e'⟩ | ⟨xs, hx, e'⟩ | ⟨kvs, hx, e'⟩
    · subst e'
      obtain ⟨its, r, pl, hz⟩ := I.list hx
      have hlen := r.length
      exact wpAny_truthy_list pl.isList (by simp only [List.size_toArray]; omega) ⟨H, I.tok _, by rw [isEmpty_of r]; exact q⟩
    · subst e'
      obtain ⟨its, r, pl, hz⟩ := I.tuple hx
      have hlen := r.length
      exact truthy_tuple pl (by simp only [List.size_toArray]; omega) ⟨H, I.tok _, by rw [isEmpty_of r]; exact q⟩
    · subst e'
      obtain ⟨hz, hS, vs, r, m⟩ : kvs.length ≤ sizeLine ∧ (p == sysModules) = false ∧ ∃ vs, KV kvs vs ∧ s.heap.DictOf (mixKind X.prog X.w) p vs := I.hok p _ hx
      have hlen : kvs.length = vs.length := Paired.length r
      exact wpAny_truthy_dict hS m (by omega) ⟨H, I.tok _, by rw [isEmpty_kv r]; exact q⟩
  | _ => exact (show False from e).elim
/-- any expression whose test is its value's truth (a name, a call, a subscript, a field ..: he by fun _ => rfl) -/
theorem pt_truth (ha : PE X a ta) (he : ∀ whole, isTrue a X.env whole = (do let v ← whole; standAt a.pos; holding [v] (truthy v))) :
    PT X a (fun σ H Q => ta σ H fun x H' => ∃ k, TruV X.K x H' k ∧ Q k H') := by
  intro pins s σ H Q I h
  exact isTrue_plain (thn (ha pins s σ H _ I h) fun v s1 ⟨x, H1, I1, r1, q1⟩ => tru_ok pins s1 σ H1 x v Q I1 r1 q1) (he _)

/-! ### strs and bytes -/
def PlainIxT (b : Expr) : Prop := ∀ o i, subscripted b false o i = operate [o, i] (getItem o i)
/-! ### scalar builtins, by CallR -/
theorem vals1 {x : V} {us : List Value} (r : Vals [x] us) : ∃ u, us = [u] ∧ RelV x u := by
  cases r with
  | cons r1 r2 => cases r2; exact ⟨_, rfl, r1⟩
theorem vals2 {x y : V} {us : List Value} (r : Vals [x, y] us) : ∃ u w', us = [u, w'] ∧ RelV x u ∧ RelV y w' := by
  cases r with
  | cons r1 r2 =>
    cases r2 with
    | cons r3 r4 => cases r4; exact ⟨_, _, rfl, r1, r3⟩
theorem call_abs : CallR X (.builtin "abs") (fun xs H Q => ∃ i, xs = [.int i] ∧ Q (.int (if i < 0 then -i else i)) H) := by
  intro pins s σ H xs us Q I r h
  obtain ⟨i, rfl, q⟩ := h
  obtain ⟨u, rfl, t, rfl⟩ := vals1 r
  exact call_abs_int fun u tk => ⟨.int (if i < 0 then -i else i), H, I.tok _, ⟨_, rfl⟩, q⟩
theorem call_max2 (hc : X.calm = true) : CallR X (.builtin "max") (fun xs H Q => ∃ i j, xs = [.int i, .int j] ∧ Q (.int (if j > i then j else i)) H) := by
  intro pins s σ H xs us Q I r h
  obtain ⟨i, j, rfl, q⟩ := h
  obtain ⟨u, w', rfl, ⟨t, rfl⟩, ⟨t', rfl⟩⟩ := vals2 r
  refine max_two_ints (I.ok.hd hc) fun h' tk k => ⟨_, H, I.kept k, ?_, q⟩
  by_cases hj : j > i
  · rw [if_pos hj, if_pos hj]; exact ⟨_, rfl⟩
  · rw [if_neg hj, if_neg hj]; exact ⟨_, rfl⟩
theorem call_min2 (hc : X.calm = true) : CallR X (.builtin "min") (fun xs H Q => ∃ i j, xs = [.int i, .int j] ∧ Q (.int (if j < i then j else i)) H) := by
  intro pins s σ H xs us Q I r h
  obtain ⟨i, j, rfl, q⟩ := h
  obtain ⟨u, w', rfl, ⟨t, rfl⟩, ⟨t', rfl⟩⟩ := vals2 r
  refine min_two_ints (I.ok.hd hc) fun h' tk k => ⟨_, H, I.kept k, ?_, q⟩
  by_cases hj : j < i
  · rw [if_pos hj, if_pos hj]; exact ⟨_, rfl⟩
  · rw [if_neg hj, if_neg hj]; exact ⟨_, rfl⟩
/-- len of a str, a bytes, a list, a tuple -/
def LenV (K : PySem.W.Frag) (x : V) (H : Hp) (n : Nat) : Prop :=
  match x with
  | .str y => y.length ≤ sizeLine ∧ n = y.length
  | .byt y => y.size ≤ sizeLine ∧ n = y.size
  | .ref p => (∃ xs, SqL K H p xs ∧ n = xs.length) ∨ ∃ xs, SqT K H p xs ∧ n = xs.length
  | _ => False
theorem call_len : CallR X (.builtin "len") (fun xs H Q => ∃ x n, xs = [x] ∧ LenV X.K x H n ∧ Q (.int n) H) := by
  intro pins s σ H xs us Q I r h
  obtain ⟨x, n, rfl, e, q⟩ := h
  obtain ⟨u, rfl, rx⟩ := vals1 r
  have hl := line63
  have hs : sizeLine = 16777216 := sizeLine_eq
  cases x with
  | str y =>
    obtain ⟨t, rfl⟩ := rx
    obtain ⟨hy, e'⟩ : y.length ≤ sizeLine ∧ n = y.length := e
    subst e'
    exact len_str (by omega) ⟨.int _, H, I.tok _, ⟨_, rfl⟩, q⟩
  | byt y =>
    obtain ⟨t, rfl⟩ := rx
    obtain ⟨hy, e'⟩ : y.size ≤ sizeLine ∧ n = y.size := e
    subst e'
    exact PySem.W.len_bytes (by omega) ⟨.int _, H, I.tok _, ⟨_, rfl⟩, q⟩
  | ref p =>
    cases rx
    have e' : (∃ xs, SqL X.K H p xs ∧ n = xs.length) ∨ ∃ xs, SqT X.K H p xs ∧ n = xs.length := e
    rcases e' with ⟨xs, hx, e'⟩ | ⟨xs, hx, e'⟩
    · subst e'
      obtain ⟨its, r', pl, hz⟩ := I.list hx
      have hlen := r'.length
      exact Calls.call_len_list pl.isList (by simp only [List.size_toArray]; omega) ⟨.int xs.length, H, I.tok _, ⟨_, by simp only [List.size_toArray]; rw [hlen]⟩, q⟩
    · subst e'
      obtain ⟨its, r', pl, hz⟩ := I.tuple hx
      have hlen := r'.length
      exact len_tuple pl (by simp only [List.size_toArray]; omega) ⟨.int xs.length, H, I.tok _, ⟨_, by simp only [List.size_toArray]; rw [hlen]⟩, q⟩
  | _ => exact (show False from e).elim
end
end L2

namespace L2
open PySem PySem.Spec PyProof.Rows

/-! ### an instance, its attributes a map -/
structure ObjM (h : Heap) (x dx C : Addr) (mA : Str → Option Value) : Prop where
  obj : h.get? x = some (PySem.W.instObj C dx)
  ns : h.Ns1 dx mA
  ne : dx ≠ x

theorem lookIn_ns {h : Heap} {dx : Addr} {mA : Str → Option Value} (n : h.Ns1 dx mA) : ∃ od, h.get? dx = some od ∧ ∀ name, PySem.W.lookIn name od = some (mA name) := by
  obtain ⟨o, es, ep, ho, hd, hk, _, hm⟩ := n
  refine ⟨o, ho, fun name => ?_⟩
  have e := hm name
  unfold nsFind findBy at e
  rw [← Array.find?_toList] at e
  unfold PySem.W.lookIn
  rw [hd]
  dsimp only
  split
  · rename_i y q
    rw [q] at e
    exact congrArg some e
  · rename_i q
    rw [q] at e
    have a : es.toList.any (·.refKey) = false := by
      rw [List.any_eq_false]
      intro y hy
      obtain ⟨z, t, hkey⟩ := hk y (Array.mem_toList_iff.mp hy)
      simp [DictEntry.refKey, hkey]
    have a' : ¬ es.toList.any (·.refKey) = true := by rw [a]; exact Bool.false_ne_true
    rw [if_neg a']
    exact congrArg some e

theorem ObjM.look {h : Heap} {x dx C : Addr} {mA : Str → Option Value} (I : ObjM h x dx C mA) : ∃ od, PySem.W.InstAt h x (PySem.W.instObj C dx) C (some od) ∧ ∀ name, PySem.W.lookIn name od = some (mA name) :=
  let ⟨od, ho, hl⟩ := lookIn_ns I.ns
  ⟨od, ⟨I.obj, rfl, rfl, ho⟩, hl⟩

section
variable {prog : Program} {w : World} {A : Around} {E : Value → Shared → Prop} {s : Shared} {K : PySem.W.Frag} {x dx C f : Addr} {mA : Str → Option Value} {name : Str} {v : Value}

theorem get_map {expr : Bool} {Q : Value → Shared → Prop} (X : K.In s.heap) (I : ObjM s.heap x dx C mA) (hg : PySem.W.plainGet K C name = true) (hh : PySem.W.hasDictIn K C = true)
    (ha : PySem.W.findIn K (.ref C) name = some none) (hv : mA name = some v) (hv' : PySem.W.handedIn v = true) (h : Q v { s with toks := s.toks + 1 }) :
    wpAny (model prog w) A (getAttr (.ref x) name expr) Q E s := by
  obtain ⟨od, J, hl⟩ := I.look
  exact PySem.W.get_value X J (PySem.W.plainGet_of hg).1 (PySem.W.findObj_own hh ha rfl (by rw [hl, hv])) hv' h

theorem get_meth {pl : Sem Bool} {Q : Value × List Value → Shared → Prop} (X : K.In s.heap) (I : ObjM s.heap x dx C mA) (hg : PySem.W.plainGet K C name = true)
    (hf : PySem.W.findIn K (.ref C) name = some (some (.ref f))) (ht : PySem.W.isFn K (.ref f) = true) (hv : mA name = none) (h : Q (.ref f, [.ref x]) s) :
    wpAny (model prog w) A (getMethod (.ref x) name pl) Q E s := by
  obtain ⟨od, J, hl⟩ := I.look
  exact PySem.W.method_fn X J (PySem.W.plainGet_of hg).1 (PySem.W.plainGet_of hg).2 hf (beq_iff_eq.mp ht) (by show (PySem.W.lookIn name od).map (·.isSome) = some false; rw [hl, hv]; rfl) h

theorem set_map {ns : List Str} {Q : Unit → Shared → Prop} (X : K.In s.heap) (I : ObjM s.heap x dx C mA)
    (hs : PySem.W.findIn K (.ref C) "__setattr__" = some (some (.builtin "object.__setattr__"))) (hp : PySem.W.plainOver K C = true) (ht : PySem.W.takerIn K C name = some none) (hh : PySem.W.hasDictIn K C = true)
    (hw : PySem.Within mA ns) (hsz : ns.length ≤ sizeLine)
    (h : ∀ h', ObjM h' x dx C (fun y => if y = name then some v else mA y) → Heap.SameBut dx s.heap h' → Q () { s with heap := h', toks := s.toks + 2 }) :
    wpAny (model prog w) A (setAttr (.ref x) name v) Q E s := by
  obtain ⟨od, J, hl⟩ := I.look
  refine PySem.W.set_plain X J hs (PySem.W.osa_open (s := { s with toks := s.toks + 1 }) (r := none) X J hp ht fun b => ?_)
  obtain ⟨cd, hc, hd'⟩ := PySem.W.any_some hh
  have hx : s.heap.get? x = some ⟨.ref C, some dx, .plain, #[]⟩ := I.obj
  refine wpAny_bind (wpAny_pure (wpAny_bind (wpAny_bind (wpAny_loadPart hx (wpAny_bind (PySem.W.Looks.here (s := { s with toks := s.toks + 1 }) (PySem.W.looks_clsIn X hc) ?_))))))
  rw [hd']
  refine wpAny_pure (a := some dx) (wpAny_bind (wpAny_pure (wpAny_bind ?_)))
  refine wpAny_nsSet1 (s := { s with toks := s.toks + 1 }) I.ns fun h' hn2 hs2 => ?_
  obtain ⟨oD, esD, epD, hoD, hdD, hcD⟩ := hn2.count (PySem.Within.cons name v hw)
  refine wpAny_bind (wpAny_lookBehind hoD (by rw [hdD]; exact pastItsLine_dict (Nat.le_trans hcD (by rw [List.length_cons]; omega))) ?_)
  exact wpAny_pure (h _ ⟨(hs2.2 _ (Ne.symm I.ne)).trans I.obj, hn2, I.ne⟩ hs2)

/-- C(..): the dict at the heap's end, the instance behind it; then its __init__ -/
theorem make_map {R : Result → Shared → Prop} {vs : List Value} {kw : List (Str × Value)} (X : K.In s.heap) (hm : PySem.W.makesIn K C = true)
    (hi : PySem.W.findIn K (.ref C) "__init__" = some (some (.ref f))) (hf : PySem.W.typeIn K (.ref f) = some (.type "function"))
    (h : codeAny (model prog w) (A.under (.builtin "type.__call__" ⟨.ref C :: vs, kw⟩)) (.call (.ref f) ⟨.ref (s.heap.objs.size + 1) :: vs, kw⟩) (PySem.W.InitBack (s.heap.objs.size + 1) R)
      { s with heap := (s.heap.push PySem.W.emptyDict).push (PySem.W.instObj C s.heap.objs.size) }) :
    codeAny (model prog w) A (.call (.ref C) ⟨vs, kw⟩) R s := by
  obtain ⟨hh, g, d, t, os⟩ := s
  exact PySem.W.make_core (PySem.W.makes_of X hm) (PySem.W.looks_findIn X hi) (fun self => PySem.W.bind_fn X self hf) (.inl rfl) h
end

/-! ### the attributes as a list of pairs -/
def putF (f : Str) (v : V) : List (Str × V) → List (Str × V)
  | [] => [(f, v)]
  | (g, x) :: r => if g = f then (g, v) :: r else (g, x) :: putF f v r
theorem lookup_putF (f g : Str) (v : V) : ∀ fs : List (Str × V), (putF f v fs).lookup g = if g = f then some v else fs.lookup g
  | [] => by
    show List.lookup g [(f, v)] = _
    by_cases h : g = f
    · have hb : (g == f) = true := beq_iff_eq.mpr h
      simp only [List.lookup, hb, if_pos h]
    · have hb : (g == f) = false := beq_eq_false_iff_ne.mpr h
      simp only [List.lookup, hb, if_neg h]
  | (k, x) :: r => by
    have ih := lookup_putF f g v r
    rw [show putF f v ((k, x) :: r) = (if k = f then (k, v) :: r else (k, x) :: putF f v r) from rfl]
    by_cases hk : k = f
    · rw [if_pos hk]
      by_cases h : g = k
      · have hb : (g == k) = true := beq_iff_eq.mpr h
        simp only [List.lookup, hb, if_pos (h.trans hk)]
      · have hb : (g == k) = false := beq_eq_false_iff_ne.mpr h
        simp only [List.lookup, hb, if_neg (fun e : g = f => h (e.trans hk.symm))]
    · rw [if_neg hk]
      by_cases h : g = k
      · have hb : (g == k) = true := beq_iff_eq.mpr h
        simp only [List.lookup, hb, if_neg (fun e : g = f => hk (h.symm.trans e))]
      · have hb : (g == k) = false := beq_eq_false_iff_ne.mpr h
        simp only [List.lookup, hb]
        exact ih
theorem keys_putF (f : Str) (v : V) : ∀ fs : List (Str × V), f ∈ (putF f v fs).map (·.1) ∧ ∀ g, g ∈ fs.map (·.1) → g ∈ (putF f v fs).map (·.1)
  | [] => ⟨by simp [putF], fun g h => by simp at h⟩
  | (k, x) :: r => by
    obtain ⟨i1, i2⟩ := keys_putF f v r
    rw [show putF f v ((k, x) :: r) = (if k = f then (k, v) :: r else (k, x) :: putF f v r) from rfl]
    by_cases hk : k = f
    · rw [if_pos hk]
      subst hk
      exact ⟨by simp, fun g h => by simpa using h⟩
    · rw [if_neg hk]
      refine ⟨?_, fun g h => ?_⟩
      · rw [List.map_cons]
        exact List.mem_cons_of_mem _ i1
      · rw [List.map_cons] at h ⊢
        rcases List.mem_cons.mp h with e | e
        · exact List.mem_cons.mpr (.inl e)
        · exact List.mem_cons_of_mem _ (i2 g e)
theorem length_putF (f : Str) (v : V) : ∀ fs : List (Str × V), (putF f v fs).length ≤ fs.length + 1
  | [] => by simp [putF]
  | (k, x) :: r => by
    have ih := length_putF f v r
    rw [show putF f v ((k, x) :: r) = (if k = f then (k, v) :: r else (k, x) :: putF f v r) from rfl]
    by_cases hk : k = f
    · rw [if_pos hk, List.length_cons, List.length_cons]; omega
    · rw [if_neg hk, List.length_cons, List.length_cons]; omega

theorem RelO.some_of {v : V} {o : Option Value} (r : RelO (some v) o) : ∃ u, o = some u ∧ RelV v u := by
  cases o with
  | none => exact (show False from r).elim
  | some u => exact ⟨u, rfl, r⟩
theorem RelO.none_of {o : Option Value} (r : RelO none o) : o = none := by
  cases o with
  | none => rfl
  | some u => exact (show False from r).elim
theorem handed_of {v : V} {u : Value} (r : RelV v u) : PySem.W.handedIn u = true := by
  cases v with
  | non => cases (show u = Value.none from r); rfl
  | bl b => cases (show u = Value.bool b from r); rfl
  | int i => obtain ⟨t, e⟩ := (show ∃ t, u = Value.int i t from r); cases e; rfl
  | str x => obtain ⟨t, e⟩ := (show ∃ t, u = Value.str x t from r); cases e; rfl
  | byt b => obtain ⟨t, e⟩ := (show ∃ t, u = Value.bytes b t from r); cases e; rfl
  | flt b => obtain ⟨t, e⟩ := (show ∃ t, u = Value.float b t from r); cases e; rfl
  | ref a => cases (show u = Value.ref a from r); rfl
  | ty n => cases (show u = Value.type n from r); rfl

section
variable {P : Program} {w : World} {H H' : Hp} {h h' : Heap} {a C dx : Addr} {fs fs' : List (Str × V)}
theorem ins_get (hok : HOk P w H h) (e : H a = some (.ins C dx fs)) : ∃ mA, ObjM h a dx C mA ∧ (∀ f, RelO (fs.lookup f) (mA f)) ∧ PySem.Within mA (fs.map (·.1)) ∧ fs.length ≤ 1000 ∧ H dx = some (.own a) := by
  obtain ⟨d, z, ne, ob, mA, n, r, q⟩ := (show ObjOk P w H h a (.ins C dx fs) from hok a _ e)
  exact ⟨mA, ⟨ob, n, ne⟩, r, q, z, d⟩
end

/-! ### what of the text a class must have -/
structure Cls (K : PySem.W.Frag) (C : Addr) : Prop where
  pg : PySem.W.plainGet K C Str.empty = true
  hd : PySem.W.hasDictIn K C = true
  po : PySem.W.plainOver K C = true
  sa : PySem.W.findIn K (.ref C) "__setattr__" = some (some (.builtin "object.__setattr__"))
theorem Cls.get {K : PySem.W.Frag} {C : Addr} (c : Cls K C) (f : Str) : PySem.W.plainGet K C f = true := c.pg
/-- no class of it has the name -/
def NoAttr (K : PySem.W.Frag) (C : Addr) (f : Str) : Prop := PySem.W.findIn K (.ref C) f = some none
theorem NoAttr.taker {K : PySem.W.Frag} {C : Addr} {f : Str} (n : NoAttr K C f) : PySem.W.takerIn K C f = some none := by
  unfold PySem.W.takerIn
  rw [show PySem.W.findIn K (.ref C) f = some none from n]
  rfl
/-- a constant of the class -/
structure Con (K : PySem.W.Frag) (C : Addr) (f : Str) (v : V) (u : Value) : Prop where
  at_ : PySem.W.findIn K (.ref C) f = some (some u)
  rel : RelV v u
  get : PySem.W.specialIn K u "__get__" = some none
  cp : PySem.W.copiedNames.contains f = false
/-- a method: a plain def of the class or of one above it -/
structure Meth (K : PySem.W.Frag) (C : Addr) (m : Str) (f : Addr) : Prop where
  at_ : PySem.W.findIn K (.ref C) m = some (some (.ref f))
  fn : PySem.W.isFn K (.ref f) = true
  kp : PySem.W.keepIn K (.ref f) = true

section
variable {X : Cx} {pins : List (Addr × Obj)} {σ : St} {H : Hp} {s : Shared} {a C dx : Addr} {fs : List (Str × V)} {f : Str} {v : V} {A : Around} {E : Value → Shared → Prop}

theorem getattr_ok {b : Bool} {Q : Value → Shared → Prop} (I : Inv X pins σ H s) (e : H a = some (.ins C dx fs)) (c : Cls X.K C) (n : NoAttr X.K C f) (l : fs.lookup f = some v)
    (h : ∀ u s', Inv X pins σ H s' → RelV v u → Q u s') : wpAny (model X.prog X.w) A (getAttr (.ref a) f b) Q E s := by
  obtain ⟨mA, O, r, _, _, _⟩ := ins_get I.hok e
  obtain ⟨u, hu, ru⟩ := RelO.some_of (v := v) (o := mA f) (by rw [← l]; exact r f)
  exact get_map I.kIn O (c.get f) c.hd n hu (handed_of ru) (h u _ (I.tok _) ru)

theorem getmeth_ok {m : Str} {g : Addr} {pl : Sem Bool} {Q : Value × List Value → Shared → Prop} (I : Inv X pins σ H s) (e : H a = some (.ins C dx fs)) (c : Cls X.K C) (k : Meth X.K C m g) (l : fs.lookup m = none)
    (h : Q (.ref g, [.ref a]) s) : wpAny (model X.prog X.w) A (getMethod (.ref a) m pl) Q E s := by
  obtain ⟨mA, O, r, _, _, _⟩ := ins_get I.hok e
  have hn : mA m = none := RelO.none_of (by rw [← l]; exact r m)
  exact get_meth I.kIn O (c.get m) k.at_ k.fn hn h

theorem setattr_ok {y : V} {u : Value} {Q : Unit → Shared → Prop} (I : Inv X pins σ H s) (e : H a = some (.ins C dx fs)) (c : Cls X.K C) (n : NoAttr X.K C f) (hl : fs.length < 1000) (ry : RelV y u)
    (h : ∀ s', Inv X pins σ (upd H a (.ins C dx (putF f y fs))) s' → Q () s') : wpAny (model X.prog X.w) A (setAttr (.ref a) f u) Q E s := by
  obtain ⟨mA, O, r, wi, _, ho⟩ := ins_get I.hok e
  have hz : (fs.map (·.1)).length ≤ sizeLine := by rw [List.length_map, sizeLine_eq]; omega
  refine set_map I.kIn O c.sa c.po n.taker c.hd wi hz fun h' O' sb => h _ ?_
  have hd : ∃ o, h'.get? dx = some o := let ⟨o, _, _, e', _⟩ := O'.ns; ⟨o, e'⟩
  refine I.write (x := a) (e := dx) (by rw [e]; exact True.intro) (.inr ho) (fun b q hb z => (sb.2 b hb).trans z) hd ?_
  refine ⟨by rw [upd_ne O.ne]; exact ho, ?_, O.ne, O'.obj, _, O'.ns, fun g => ?_, fun g hg => ?_⟩
  · have := length_putF f y fs; omega
  · show RelO ((putF f y fs).lookup g) (if g = f then some u else mA g)
    rw [lookup_putF]
    by_cases q : g = f
    · rw [if_pos q, if_pos q]; exact ry
    · rw [if_neg q, if_neg q]; exact r g
  · by_cases q : g = f
    · rw [q]; exact (keys_putF f y fs).1
    · refine (keys_putF f y fs).2 g (wi g fun z => hg ?_)
      show (if g = f then some u else mA g) = none
      rw [if_neg q]; exact z

/-- a new instance, tracked, without attributes -/
theorem Inv.made (I : Inv X pins σ H s) : Inv X pins σ (upd (upd H s.heap.objs.size (.own (s.heap.objs.size + 1))) (s.heap.objs.size + 1) (.ins C s.heap.objs.size []))
    { s with heap := (s.heap.push PySem.W.emptyDict).push (PySem.W.instObj C s.heap.objs.size) } := by
  have e1 : (s.heap.push PySem.W.emptyDict).get? s.heap.objs.size = some PySem.W.emptyDict := Heap.get?_push_size s.heap rfl
  have e2 : ((s.heap.push PySem.W.emptyDict).push (PySem.W.instObj C s.heap.objs.size)).get? (s.heap.objs.size + 1) = some (PySem.W.instObj C s.heap.objs.size) := by
    have := Heap.get?_push_size (s.heap.push PySem.W.emptyDict) (o := PySem.W.instObj C s.heap.objs.size) rfl
    rwa [Heap.size_push] at this
  have e3 : (s.heap.push PySem.W.emptyDict).Ns s.heap.objs.size (fun _ => none) := ⟨PySem.W.emptyDict, #[], _, e1, rfl, (fun e he => absurd he (by simp)), fun _ => rfl⟩
  have I1 := I.laid (a := s.heap.objs.size) (o := .own (s.heap.objs.size + 1)) (h' := s.heap.push PySem.W.emptyDict) (t' := s.toks) (fun b u q => Heap.get?_push_of_some _ q) (Nat.le_refl _) ⟨_, e1⟩
  refine I1.laid (a := s.heap.objs.size + 1) (o := .ins C s.heap.objs.size []) (t' := s.toks) (fun b u q => Heap.get?_push_of_some _ q) (Nat.le_of_eq (Heap.size_push _ _)) ?_
  have ne : s.heap.objs.size ≠ s.heap.objs.size + 1 := Nat.ne_of_lt (Nat.lt_succ_self _)
  refine ⟨by rw [upd_ne ne, upd_same], Nat.zero_le _, ne, e2, fun _ => none, (Heap.Ns1.of_empty e3).at fun o q => Heap.get?_push_of_some _ q, fun _ => True.intro, fun y hy => absurd rfl hy⟩

/-- e.f where nothing but the object is asked: through attributeBase (super) and the last hold -/
theorem attr_of {prog : Program} {w : World} {env : Env} {e : Expr} {f : Str} {pos : Pos} {s : Shared} {Q : Value → Shared → Prop} (hb : attributeBase e f env (eval e env) = eval e env)
    (h : wpAny (model prog w) A (eval e env) (fun o s₁ => wpAny (model prog w) A (getAttr o f true) Q E s₁) E s) : wpAny (model prog w) A (eval (.Attribute e f pos) env) Q E s :=
  Attribute_any_ h (by rw [arm_eval_Attribute, hb])
end

/-! ### readings and rules -/
/-- e.f, an attribute of the instance -/
def tFld (K : PySem.W.Frag) (ta : TE) (f : Str) : TE := fun σ H Q => ta σ H fun x H1 => ∃ a C dx fs v, x = .ref a ∧ H1 a = some (.ins C dx fs) ∧ Cls K C ∧ NoAttr K C f ∧ fs.lookup f = some v ∧ Q v H1
/-- e.f, a constant of the class -/
def tCon (K : PySem.W.Frag) (ta : TE) (f : Str) : TE := fun σ H Q => ta σ H fun x H1 => ∃ a C dx fs v u, x = .ref a ∧ H1 a = some (.ins C dx fs) ∧ Cls K C ∧ Con K C f v u ∧ fs.lookup f = none ∧ Q v H1
/-- e.f = value -/
def sFld (K : PySem.W.Frag) (ta tv : TE) (f : Str) : TS := fun D σ H => tv σ H fun y H1 => ta σ H1 fun x H2 => ∃ a C dx fs, x = .ref a ∧ H2 a = some (.ins C dx fs) ∧ Cls K C ∧ NoAttr K C f ∧ fs.length < 1000 ∧
  D.nx σ (upd H2 a (.ins C dx (putF f y fs)))
/-- an augmented operator on two values -/
def InOp (X : Cx) (op : Operator) (rd : V → V → Hp → VK → Prop) : Prop :=
  ∀ (pins : List (Addr × Obj)) (s : Shared) (σ : St) (H : Hp) (x y : V) (u v : Value) (Q : VK), Inv X pins σ H s → RelV x u → RelV y v → rd x y H Q → wpAny (model X.prog X.w) X.A (inplaceOp op u v) (EP X pins σ Q) X.xe s
/-- e.f op= value -/
def sFldAug (K : PySem.W.Frag) (ta tv : TE) (rd : V → V → Hp → VK → Prop) (f : Str) : TS := fun D σ H => ta σ H fun x H1 => ∃ a C dx fs v, x = .ref a ∧ H1 a = some (.ins C dx fs) ∧ Cls K C ∧ NoAttr K C f ∧ fs.lookup f = some v ∧
  tv σ H1 fun y H2 => rd v y H2 fun z H3 => ∃ dx' fs', H3 a = some (.ins C dx' fs') ∧ fs'.length < 1000 ∧ D.nx σ (upd H3 a (.ins C dx' (putF f z fs')))

section
variable {X : Cx} {o e value : Expr} {f : Str} {pos pos' tpos : Pos} {ta tv : TE}
theorem pe_fld (he : PE X e ta) (hb : attributeBase e f X.env (eval e X.env) = eval e X.env) : PE X (.Attribute e f pos) (tFld X.K ta f) := by
  intro pins s σ H Q I h
  refine attr_of hb (thn (he pins s σ H _ I h) fun u s1 ⟨x, H1, I1, rx, a, C, dx, fs, v, ex, ea, c, n, l, q⟩ => ?_)
  subst ex
  obtain rfl : u = Value.ref a := rx
  exact getattr_ok I1 ea c n l fun u' s2 I2 ru => ⟨v, H1, I2, ru, q⟩
theorem ps_fld (ha : PE X o ta) (hv : PE X value tv) (hs : swapsWith value (some (.Attribute o f pos')) pos.line X.env = pure false) : PS X (.Assign [.Attribute o f pos'] value pos) (sFld X.K ta tv f) := by
  intro pins s σ H D I h
  refine plainObj_wpAny_Assign_Attribute (thn (hv pins s σ H _ I h) fun u s1 ⟨y, H1, I1, ry, q⟩ => thn (ha pins s1 σ H1 _ I1 q) fun ov s2 ⟨x, H2, I2, rx, a, C, dx, fs, ex, ea, c, n, l, q2⟩ => ?_) hs
  subst ex
  obtain rfl : ov = Value.ref a := rx
  exact setattr_ok I2 ea c n l ry fun s3 I3 => ⟨σ, _, I3, q2⟩
def rAdd : V → V → Hp → VK → Prop := fun x y H Q => ∃ i j, x = .int i ∧ y = .int j ∧ Q (.int (i + j)) H
def rSub : V → V → Hp → VK → Prop := fun x y H Q => ∃ i j, x = .int i ∧ y = .int j ∧ Q (.int (i - j)) H
end

/-! ### isinstance -/
section
variable {X : Cx} {pins : List (Addr × Obj)} {σ : St} {H : Hp} {s : Shared} {A : Around} {E : Value → Shared → Prop} {Q : Value → Shared → Prop} {c : Value} {b : Bool}
/-- the type of a value, as the fragment's deciders take it; for an instance its class -/
inductive TyOf (K : PySem.W.Frag) (H : Hp) : V → Value → Prop where
  | non : TyOf K H .non (.type "NoneType")
  | bl (x : Bool) : TyOf K H (.bl x) (.type "bool")
  | int (i : Int) : TyOf K H (.int i) (.type "int")
  | str (x : Str) : TyOf K H (.str x) (.type "str")
  | flt (x : UInt64) : TyOf K H (.flt x) (.type "float")
  | lst {a : Addr} {xs : List V} (e : H a = some (.lst xs)) : TyOf K H (.ref a) (.type "list")
  | frz {a : Addr} {o : Obj} {xs : List V} (e : H a = some (.frz o (.lst xs))) : TyOf K H (.ref a) (.type "list")
  | tup {a : Addr} {xs : List V} (e : H a = some (.tup xs)) : TyOf K H (.ref a) (.type "tuple")
  | dK {a : Addr} {kvs : List (Key × V)} (e : H a = some (.dK kvs)) : TyOf K H (.ref a) (.type "dict")
  | dT {a : Addr} {kvs : List (List Key × V)} (e : H a = some (.dT kvs)) : TyOf K H (.ref a) (.type "dict")
  | ins {a C dx : Addr} {fs : List (Str × V)} (e : H a = some (.ins C dx fs)) (cl : Cls K C) (ha : PySem.W.findIn K (.ref C) "__class__" = some (some (.builtin "object.__class__")))
      (hn : PySem.W.specialIn K (.builtin "object.__class__") "__get__" = some (some (.builtin "getset_descriptor.__get__"))) (htk : PySem.W.takesIn K (.builtin "object.__class__") = some true)
      (hm : PySem.W.mroIn K C (.type "object") = some true) : TyOf K H (.ref a) (.ref C)
/-- isinstance(x, c) for one class c, a built-in or an own one: kitOne's answer -/
theorem isinst_ok {x : V} {u t : Value} (I : Inv X pins σ H s) (rx : RelV x u) (ty : TyOf X.K H x t) (e : PySem.W.kitOne X.K t c = some b) (h : ∀ tk, Q (.bool b) { s with toks := tk }) :
    wpAny (model X.prog X.w) A (call (.builtin "isinstance") [u, c]) Q E s := by
  cases ty with
  | non => cases (show u = Value.none from rx); exact PySem.W.kia_one PySem.W.kitx_none I.kIn True.intro e (fun z => nomatch z) h
  | bl y => cases (show u = Value.bool y from rx); exact PySem.W.kia_one PySem.W.kitx_bool I.kIn True.intro e (fun z => nomatch z) h
  | int i => obtain ⟨t, q⟩ := (show ∃ t, u = Value.int i t from rx); cases q; exact PySem.W.kia_one PySem.W.kitx_int I.kIn True.intro e (fun z => nomatch z) h
  | str y => obtain ⟨t, q⟩ := (show ∃ t, u = Value.str y t from rx); cases q; exact PySem.W.kia_one PySem.W.kitx_str I.kIn True.intro e (fun z => nomatch z) h
  | flt y => obtain ⟨t, q⟩ := (show ∃ t, u = Value.float y t from rx); cases q; exact PySem.W.kia_one PySem.W.kitx_float I.kIn True.intro e (fun z => nomatch z) h
  | @lst a xs ea =>
    cases (show u = Value.ref a from rx)
    obtain ⟨_, _, n, _, h1⟩ := (show ObjOk X.prog X.w H s.heap a (.lst xs) from I.hok a _ ea)
    exact PySem.W.kia_one PySem.W.kitx_list I.kIn ⟨_, h1, rfl⟩ e (fun z => nomatch z) h
  | @frz a ob xs ea =>
    cases (show u = Value.ref a from rx)
    obtain ⟨_, _, _, n, _, h1⟩ := (show ObjOk X.prog X.w H s.heap a (.frz ob (.lst xs)) from I.hok a _ ea)
    exact PySem.W.kia_one PySem.W.kitx_list I.kIn ⟨_, h1, rfl⟩ e (fun z => nomatch z) h
  | @tup a xs ea =>
    cases (show u = Value.ref a from rx)
    obtain ⟨_, _, _, p⟩ := (show ObjOk X.prog X.w H s.heap a (.tup xs) from I.hok a _ ea)
    obtain ⟨o, h1, h2, _⟩ := p.1
    exact PySem.W.kia_one PySem.W.kitx_tuple I.kIn ⟨o, h1, h2⟩ e (fun z => nomatch z) h
  | @dK a kvs ea =>
    cases (show u = Value.ref a from rx)
    obtain ⟨_, _, vs, _, p⟩ := (show ObjOk X.prog X.w H s.heap a (.dK kvs) from I.hok a _ ea)
    obtain ⟨o, es, ep, h1, h2, _⟩ := p
    exact PySem.W.kia_one PySem.W.kitx_dict I.kIn ⟨o, h1, h2.1⟩ e (fun z => nomatch z) h
  | @dT a kvs ea =>
    cases (show u = Value.ref a from rx)
    obtain ⟨_, _, xs, _, o, es, ep, h1, h2, _⟩ := (show ObjOk X.prog X.w H s.heap a (.dT kvs) from I.hok a _ ea)
    exact PySem.W.kia_one PySem.W.kitx_dict I.kIn ⟨o, h1, h2.1⟩ e (fun z => nomatch z) h
  | @ins a C dx fs ea cl ha hn htk hm =>
    cases (show u = Value.ref a from rx)
    obtain ⟨mA, O, _⟩ := ins_get I.hok ea
    obtain ⟨od, J, _⟩ := O.look
    exact PySem.W.kia_one (PySem.W.kitx_own (cl.get _) cl.hd ha hn htk hm) I.kIn J e (fun z => nomatch z) h
end
end L2

namespace L2
open PySem PySem.Spec PyProof.Rows

/-! ### room -/
structure Room (k : Nat) (A : Around) : Prop where
  hd : A.handled = none
  dp : A.depth + 3 * k + 5 < recursionLimit
  un : A.units + 16 * k + 200 < cLine
  gd : A.guards = some []
theorem Room.mono {j k : Nat} {A : Around} (r : Room k A) (h : j ≤ k) : Room j A := ⟨r.hd, by have := r.dp; omega, by have := r.un; omega, r.gd⟩
theorem Room.deeper {k : Nat} {A : Around} (r : Room (k + 1) A) (env : Env) : Room k (A.deeper env) :=
  ⟨r.hd, by have := r.dp; show A.depth + 1 + 3 * k + 5 < _; omega, by have := r.un; show A.units + 3 + 16 * k + 200 < _; omega, r.gd⟩
theorem Room.in1 {k : Nat} {A : Around} (r : Room (k + 1) A) : Room k A.in1 :=
  ⟨r.hd, by have := r.dp; show A.depth + 3 * k + 5 < _; omega, by have := r.un; show A.units + 1 + 16 * k + 200 < _; omega, r.gd⟩
theorem make_depth {A : Around} {C : Addr} {us : List Value} {kw : List (Str × Value)} : (A.under (.builtin "type.__call__" ⟨.ref C :: us, kw⟩)).depth = A.depth + 1 := by
  first | rfl | simp [Around.under, Code.weight, Code.isCreation, Code.isGuard, Code.isCaller, Code.frames, Code.isFrame, guardIds]
theorem make_units {A : Around} {C : Addr} {us : List Value} {kw : List (Str × Value)} : (A.under (.builtin "type.__call__" ⟨.ref C :: us, kw⟩)).units = A.units + 1 := by
  first | rfl | simp [Around.under, Code.cUnits, Code.frames, Code.isFrame]
theorem make_guards {A : Around} {C : Addr} {us : List Value} {kw : List (Str × Value)} : (A.under (.builtin "type.__call__" ⟨.ref C :: us, kw⟩)).guards = A.guards := by
  have hg : (Code.builtin "type.__call__" ⟨.ref C :: us, kw⟩).guards = [] := by first | rfl | simp [Code.guards, Code.isGuard, guardIds]
  show pushGuards (Code.builtin "type.__call__" ⟨.ref C :: us, kw⟩).guards A.guards = A.guards
  rw [hg]
  cases A.guards <;> rfl
theorem Room.make {k : Nat} {A : Around} (r : Room (k + 1) A) (C : Addr) (us : List Value) (kw : List (Str × Value)) : Room k (A.under (.builtin "type.__call__" ⟨.ref C :: us, kw⟩)) :=
  ⟨r.hd, by have := r.dp; rw [make_depth]; omega, by have := r.un; rw [make_units]; omega, by rw [make_guards]; exact r.gd⟩
theorem Room.depth {k : Nat} {A : Around} (r : Room k A) : A.depth < recursionLimit := by have := r.dp; omega
theorem Room.units {k : Nat} {A : Around} (r : Room k A) : A.units + 64 < cLine := by have := r.un; omega
/-! ### argument lists and displays -/
def tNil : TA := fun _ H Q => Q [] H
def tCons (ta : TE) (tr : TA) : TA := fun σ H Q => ta σ H fun x H1 => tr σ H1 fun xs H2 => Q (x :: xs) H2
section
variable {X : Cx} {e : Expr} {es : List Expr} {te : TE} {t : TA} {pos : Pos}
theorem pa_nil : PA X [] tNil := fun _ _ _ _ H Q I h => Calls.spliced_nil ⟨[], H, I, .nil, h⟩
theorem pa_cons (ha : PE X e te) (hr : PA X es t) (hs : starEach (e :: es) X.env = (false, eval e X.env) :: starEach es X.env := by rfl) : PA X (e :: es) (tCons te t) := by
  intro pos pins s σ H Q I h
  rw [hs]
  show wpAny _ _ (spliced ((false, eval e X.env) :: backTo pos (starEach es X.env))) _ _ s
  refine Calls.spliced_cons (thn (ha pins s σ H _ I h) fun u s1 ⟨x, H1, I1, r1, q1⟩ => ?_)
  exact thn (hr pos pins s1 σ H1 _ I1 q1) fun us s2 ⟨xs, H2, I2, r2, q2⟩ => ⟨x :: xs, H2, I2, .cons r1 r2, q2⟩

/-- a tuple, a list of written items -/
def tTup (t : TA) : TE := fun σ H Q => t σ H fun xs H1 => xs.length ≤ sizeLine ∧ ∀ p, H1 p = none → Q (.ref p) (upd H1 p (.tup xs))
def tLst (t : TA) : TE := fun σ H Q => t σ H fun xs H1 => xs.length ≤ sizeLine ∧ ∀ p, H1 p = none → Q (.ref p) (upd H1 p (.lst xs))
theorem pe_tup {x1} (h : PA X es t) : PE X (.Tuple es x1 pos) (tTup t) := by
  intro pins s σ H Q I hq
  refine wpAny_Tuple_spliced (thn (h pos pins s σ H _ I hq) fun us s1 ⟨xs, H1, I1, r, z, q⟩ => ⟨by rw [← r.length]; exact z, ?_⟩)
  have hf : H1 s1.heap.objs.size = none := I1.hok.fresh (Nat.le_refl _)
  refine ⟨.ref s1.heap.objs.size, upd H1 s1.heap.objs.size (.tup xs), I1.laid (t' := s1.toks) (fun b u e => Heap.get?_push_of_some _ e) (Nat.le_refl _) ?_, rfl, q _ hf⟩
  exact ⟨z, us, r, TupN.new _ _⟩
theorem pe_lst (h : PA X es t) : PE X (.List es pos) (tLst t) := by
  intro pins s σ H Q I hq
  refine wpAny_List_spliced (thn (h pos pins s σ H _ I hq) fun us s1 ⟨xs, H1, I1, r, z, q⟩ => ⟨by rw [← r.length]; exact z, ?_⟩)
  have hf : H1 s1.heap.objs.size = none := I1.hok.fresh (Nat.le_refl _)
  refine ⟨.ref s1.heap.objs.size, upd H1 s1.heap.objs.size (.lst xs), I1.laid (t' := s1.toks) (fun b u e => Heap.get?_push_of_some _ e) (Nat.le_refl _) ?_, rfl, q _ hf⟩
  exact ⟨z, us, 0, r, Heap.get?_push_size _ rfl⟩
end

/-! ### what a def promises -/
/-- a def's promise: the bound arguments in the parameters' order, the heap, the wanted end, the wanted exception -/
abbrev Sp := List V → Hp → VK → XK → Prop
/-- how an exception lies behind a call (file 08 gives it): the callers' frames, abstract heap and state ahead of the call, the wish, the exception, the state -/
abbrev CXT := List Env → Hp → Shared → XK → Value → Shared → Prop

/-- the state at a call -/
structure Env0 (P : Program) (w : World) (K : PySem.W.Frag) (mg : Str → Option Value) (base : Heap) (A : Around) (outer : List Env) (s : Shared) (H : Hp) : Prop where
  frames : A.frames = some outer
  mod : Mod K mg base
  bs : ∀ b o, base.get? b = some o → s.heap.get? b = some o ∧ H b = none
  bsz : base.objs.size ≤ s.heap.objs.size
  funs : s.heap.FunFrames base outer
  frf : ∀ b ∈ frs outer, H b = none
  hok : HOk P w H s.heap
  bare : AllBare s.gens
/-- a call's end -/
def CE (outer : List Env) (P : Program) (w : World) (H : Hp) (s : Shared) (Q : VK) (u : Value) (s' : Shared) : Prop :=
  ∃ v H', s'.os = s.os ∧ AllBare s'.gens ∧ Un (frs outer) [] H H' s.heap s'.heap ∧ HOk P w H' s'.heap ∧ RelV v u ∧ Q v H'
def CR (CX : CXT) (outer : List Env) (P : Program) (w : World) (H : Hp) (s : Shared) (Q : VK) (E : XK) (r : Result) (s' : Shared) : Prop :=
  match r with
  | .ok (.ret u) => CE outer P w H s Q u s'
  | .ok _ => False
  | .error e => CX outer H s E e s'
structure FnOk (P : Program) (w : World) (K : PySem.W.Frag) (mg : Str → Option Value) (base : Heap) (CX : CXT) (k : Nat) (f : Addr) (fd : FuncData) (ps : List Str) (sp : Sp) : Prop where
  len : ∀ vs H Q E, sp vs H Q E → vs.length = ps.length
  run : ∀ (A : Around) (outer : List Env) (s : Shared) (H : Hp) (args : Args) (us : List Value) (vs : List V) (Q : VK) (E : XK), Room k A → Env0 P w K mg base A outer s H → BindsTo s fd args (ps.zip us) → Vals vs us → sp vs H Q E →
    codeAny (model P w) A (.call (.ref f) args) (CR CX outer P w H s Q E) s
theorem FnOk.mono {P : Program} {w : World} {K : PySem.W.Frag} {mg : Str → Option Value} {base : Heap} {CX : CXT} {j k : Nat} {f : Addr} {fd : FuncData} {ps : List Str} {sp : Sp} (F : FnOk P w K mg base CX j f fd ps sp) (h : j ≤ k) :
    FnOk P w K mg base CX k f fd ps sp := ⟨F.len, fun A outer s H args us vs Q E hr => F.run A outer s H args us vs Q E (hr.mono h)⟩
/-- a weaker promise -/
theorem FnOk.imp {P : Program} {w : World} {K : PySem.W.Frag} {mg : Str → Option Value} {base : Heap} {CX : CXT} {k : Nat} {f : Addr} {fd : FuncData} {ps : List Str} {sp sp' : Sp} (F : FnOk P w K mg base CX k f fd ps sp)
    (h : ∀ vs H Q E, sp' vs H Q E → sp vs H Q E) : FnOk P w K mg base CX k f fd ps sp' :=
  ⟨fun vs H Q E q => F.len vs H Q E (h _ _ _ _ q), fun A outer s H args us vs Q E hr he hb hv hs => F.run A outer s H args us vs Q E hr he hb hv (h _ _ _ _ hs)⟩

theorem Env0.make {P : Program} {w : World} {K : PySem.W.Frag} {mg : Str → Option Value} {base : Heap} {A : Around} {outer : List Env} {s : Shared} {H : Hp} (e : Env0 P w K mg base A outer s H) (C : Addr) (us : List Value) (kw : List (Str × Value)) :
    Env0 P w K mg base (A.under (.builtin "type.__call__" ⟨.ref C :: us, kw⟩)) outer s H := ⟨by first | exact e.frames | (simpa [Around.under, Code.envs, Code.isFrame, pushEnvs] using e.frames), e.mod, e.bs, e.bsz, e.funs, e.frf, e.hok, e.bare⟩
theorem Env0.in1 {P : Program} {w : World} {K : PySem.W.Frag} {mg : Str → Option Value} {base : Heap} {A : Around} {outer : List Env} {s : Shared} {H : Hp} (e : Env0 P w K mg base A outer s H) :
    Env0 P w K mg base A.in1 outer s H := ⟨e.frames, e.mod, e.bs, e.bsz, e.funs, e.frf, e.hok, e.bare⟩

section
variable {X : Cx} {pins : List (Addr × Obj)} {σ : St} {H : Hp} {s s' : Shared}
/-- from a body: what a callee wants -/
theorem Inv.env0 (I : Inv X pins σ H s) : Env0 X.prog X.w X.K X.mg X.base X.A X.stack s H :=
  ⟨I.ok.frames, I.ok.mod, I.bs, Nat.le_trans I.ok.bsz I.sz, I.stack, I.stkFree, I.hok, I.bare⟩
/-- behind a call -/
theorem Inv.after {Q : VK} {u : Value} (I : Inv X pins σ H s) (h : CE X.stack X.prog X.w H s Q u s') : EP X pins σ Q u s' := by
  obtain ⟨v, H', os, bare, un, hok, r, q⟩ := h
  obtain ⟨hh, g, d, t, os'⟩ := s'
  obtain rfl : os' = s.os := os
  exact ⟨v, H', I.call (h' := hh) (g' := g) (d' := d) (t' := t) (ch := []) un hok bare (fun b z => absurd z (by simp)), r, q⟩
end

/-! ### calls -/
/-- f(..): the written arguments, then the defaults dvs; E: what is wanted of an exception -/
def tCall (sp : Sp) (dvs : List V) (E : XK) (t : TA) : TE := fun σ H Q => t σ H fun vs H1 => sp (vs ++ dvs) H1 Q E
/-- o.m(..) of an instance of the class at C -/
def tMeth (C : Addr) (m : Str) (sp : Sp) (dvs : List V) (E : XK) (ta : TE) (t : TA) : TE := fun σ H Q => ta σ H fun x H1 => ∃ a dx fs, x = .ref a ∧ H1 a = some (.ins C dx fs) ∧ fs.lookup m = none ∧
  t σ H1 fun vs H2 => sp (x :: (vs ++ dvs)) H2 Q E
/-- C(..): a new instance and its dict, then __init__ -/
def tMake (C : Addr) (sp : Sp) (dvs : List V) (E : XK) (t : TA) : TE := fun σ H Q => t σ H fun vs H1 => ∀ x dx, H1 x = none → H1 dx = none → dx ≠ x →
  sp (.ref x :: (vs ++ dvs)) (upd (upd H1 dx (.own x)) x (.ins C dx [])) (fun v H2 => v = .non ∧ Q (.ref x) H2) E

/-- how the parameters are bound: us the positional arguments, kw the keywords' values by name, ds the defaults that fill up -/
def Binds (K : PySem.W.Frag) (fd : FuncData) (ps : List Str) (ds : List Value) : Prop :=
  ∀ (s : Shared) (us : List Value), K.In s.heap → (us ++ ds).length = ps.length → BindsTo s fd ⟨us, []⟩ (ps.zip (us ++ ds))
/-- every parameter is given -/
theorem Binds.all {K : PySem.W.Frag} {fd : FuncData} {ps : List Str} (h : ∀ us : List Value, us.length = ps.length → bindArgs fd ⟨us, []⟩ = pure (ps.zip us)) : Binds K fd ps [] := fun s us _ hl => by
  rw [List.append_nil] at hl ⊢
  exact .of_eq (h us hl)

/-- an exception of a callee reaches what this body wants of exceptions -/
def Passes (CX : CXT) (X : Cx) (E : XK) : Prop := ∀ (pins : List (Addr × Obj)) (σ : St) (H : Hp) (s : Shared) (e : Value) (s' : Shared), Inv X pins σ H s → CX X.stack H s E e s' → X.xe e s'

section
variable {X : Cx} {CX : CXT} {k : Nat} {f C : Addr} {fd : FuncData} {ps : List Str} {sp : Sp} {dvs : List V} {ds : List Value} {E : XK} {x m : Str} {p pos apos : Pos} {e o : Expr} {es : List Expr} {ta : TE} {t : TA}

/-- the callee runs -/
theorem run_fn {pins : List (Addr × Obj)} {σ : St} {H : Hp} {s : Shared} {Q : VK} {us : List Value} {vs : List V} (F : FnOk X.prog X.w X.K X.mg X.base CX k f fd ps sp) (hr : Room k X.A) (hb : Binds X.K fd ps ds) (hd : Vals dvs ds) (hx : Passes CX X E)
    (I : Inv X pins σ H s) (r : Vals vs us) (h : sp (vs ++ dvs) H Q E) : wpAny (model X.prog X.w) X.A (call (.ref f) us) (EP X pins σ Q) X.xe s := by
  have r2 : Vals (vs ++ dvs) (us ++ ds) := r.append hd
  have hl : (us ++ ds).length = ps.length := by rw [← r2.length]; exact F.len _ _ _ _ h
  refine wpAny_call (codeAny_mono (F.run X.A X.stack s H ⟨us, []⟩ (us ++ ds) (vs ++ dvs) Q E hr I.env0 (hb s us I.kIn hl) r2 h) fun r s' hq => ?_)
  cases r with
  | error e => exact hx pins σ H s e s' I hq
  | ok fl =>
    cases fl with
    | ret u => exact I.after hq
    | next => exact False.elim hq
    | brk => exact False.elim hq
    | cont => exact False.elim hq

theorem pe_call (F : FnOk X.prog X.w X.K X.mg X.base CX k f fd ps sp) (hr : Room k X.A) (hg : Gl X x) (hm : X.mg x = some (.ref f)) (hk : PySem.W.keepIn X.K (.ref f) = true) (hb : Binds X.K fd ps ds) (hd : Vals dvs ds) (hx : Passes CX X E)
    (ha : PA X (e :: es) t) (hdb : (x == ("__debug__" : Str)) = false := by decide) (he : starEach (e :: es) X.env = (false, eval e X.env) :: starEach es X.env := by rfl) (hpl : (backTo pos (starEach es X.env)).any (·.1) = false := by rfl) :
    PE X (.Call (.Name x p) (e :: es) [] pos) (tCall sp dvs E t) := by
  intro pins s σ H Q I h
  refine wpAny_Call_Name_kw (ld_glob I hg hm ?_ hdb)
  refine PySem.W.callWith_K (h₀ := X.base) I.ok.mod.kin hk (thn (ha pos pins s σ H _ I h) fun us s1 ⟨vs, H1, I1, r, q⟩ => ⟨I1.kIn, ?_⟩) he hpl
  exact run_fn F hr hb hd hx I1 r q
/-- o.m(e, ..) -/
theorem pe_meth {pl : Sem Bool} (he : PE X o ta) (c : Cls X.K C) (hm : Meth X.K C m f) (F : FnOk X.prog X.w X.K X.mg X.base CX k f fd ps sp) (hr : Room k X.A) (hb : Binds X.K fd ps ds) (hd : Vals dvs ds) (hx : Passes CX X E) (ha : PA X (e :: es) t)
    (hst : starEach (e :: es) X.env = (false, eval e X.env) :: starEach es X.env := by rfl) (hpl : (backTo pos (starEach es X.env)).any (·.1) = false := by rfl)
    (ht : eval (.Call (.Attribute o m apos) (e :: es) [] pos) X.env = (do
      let ov ← eval o X.env
      standAt apos.atName
      let (f, first) ← holding [ov] (getMethod ov m pl)
      callWith pos f first (backTo pos (starEach (e :: es) X.env)) (backToKw pos (keywordEach [] X.env))) := by rfl) :
    PE X (.Call (.Attribute o m apos) (e :: es) [] pos) (tMeth C m sp dvs E ta t) := by
  intro pins s σ H Q I h
  refine PySem.W.methodCall_KW (pl := pl) (thn (he pins s σ H _ I h) fun u s1 ⟨x, H1, I1, rx, a, dx, fs, ex, ea, l, q⟩ => ?_) ht
  subst ex
  obtain rfl : u = Value.ref a := rx
  refine getmeth_ok I1 ea c hm l ?_
  refine PySem.W.callWith_K (first := [.ref a]) (h₀ := X.base) I.ok.mod.kin hm.kp (thn (ha pos pins s1 σ H1 _ I1 q) fun us s2 ⟨vs, H2, I2, r, q2⟩ => ⟨I2.kIn, ?_⟩) hst hpl
  exact run_fn (us := .ref a :: us) (vs := .ref a :: vs) F hr hb hd hx I2 (.cons rfl r) q2
/-- o.m() -/
theorem pe_meth0 {pl : Sem Bool} (he : PE X o ta) (c : Cls X.K C) (hm : Meth X.K C m f) (F : FnOk X.prog X.w X.K X.mg X.base CX k f fd ps sp) (hr : Room k X.A) (hb : Binds X.K fd ps ds) (hd : Vals dvs ds) (hx : Passes CX X E)
    (ht : eval (.Call (.Attribute o m apos) [] [] pos) X.env = (do
      let ov ← eval o X.env
      standAt apos.atName
      let (f, first) ← holding [ov] (getMethod ov m pl)
      callWith pos f first (backTo pos (starEach [] X.env)) (backToKw pos (keywordEach [] X.env))) := by rfl) :
    PE X (.Call (.Attribute o m apos) [] [] pos) (tMeth C m sp dvs E ta tNil) := by
  intro pins s σ H Q I h
  refine PySem.W.methodCall_KW (pl := pl) (thn (he pins s σ H _ I h) fun u s1 ⟨x, H1, I1, rx, a, dx, fs, ex, ea, l, q⟩ => ?_) ht
  subst ex
  obtain rfl : u = Value.ref a := rx
  refine getmeth_ok I1 ea c hm l ?_
  exact PySem.W.callWith_K0 (first := [.ref a]) I1.kIn hm.kp (run_fn (us := [.ref a]) (vs := [.ref a]) F hr hb hd hx I1 (.cons rfl .nil) q)

/-- what a class must have to be made -/
structure Mk (K : PySem.W.Frag) (C f : Addr) : Prop where
  makes : PySem.W.makesIn K C = true
  init : PySem.W.findIn K (.ref C) "__init__" = some (some (.ref f))
  fn : PySem.W.isFn K (.ref f) = true
  kp : PySem.W.keepIn K (.ref C) = true

theorem run_make {pins : List (Addr × Obj)} {σ : St} {H : Hp} {s : Shared} {Q : VK} {us : List Value} {vs : List V} (M : Mk X.K C f) (F : FnOk X.prog X.w X.K X.mg X.base CX k f fd ps sp) (hr : Room (k + 1) X.A) (hb : Binds X.K fd ps ds) (hd : Vals dvs ds)
    (hx : Passes CX X E) (I : Inv X pins σ H s) (r : Vals vs us)
    (h : ∀ x dx, H x = none → H dx = none → dx ≠ x → sp (.ref x :: (vs ++ dvs)) (upd (upd H dx (.own x)) x (.ins C dx [])) (fun v H2 => v = .non ∧ Q (.ref x) H2) E) :
    wpAny (model X.prog X.w) X.A (call (.ref C) us) (EP X pins σ Q) X.xe s := by
  have hq := h (s.heap.objs.size + 1) s.heap.objs.size (I.hok.fresh (Nat.le_succ _)) (I.hok.fresh (Nat.le_refl _)) (Nat.ne_of_lt (Nat.lt_succ_self _))
  have I2 := Inv.made (C := C) I
  have r2 : Vals (V.ref (s.heap.objs.size + 1) :: (vs ++ dvs)) (Value.ref (s.heap.objs.size + 1) :: (us ++ ds)) := .cons rfl (r.append hd)
  have hl : (Value.ref (s.heap.objs.size + 1) :: us ++ ds).length = ps.length := by
    have e := r2.length
    rw [F.len _ _ _ _ hq] at e
    exact e.symm
  refine wpAny_call (make_map (f := f) I.kIn M.makes M.init (beq_iff_eq.mp M.fn) (codeAny_mono (F.run _ X.stack _ _ ⟨Value.ref (s.heap.objs.size + 1) :: us, []⟩ (Value.ref (s.heap.objs.size + 1) :: (us ++ ds)) _ _ E (hr.make C us [])
    (I2.env0.make C us []) (hb _ (Value.ref (s.heap.objs.size + 1) :: us) I2.kIn hl) r2 hq) fun r s' hq' => ?_))
  cases r with
  | error e => exact hx pins σ _ _ e s' I2 hq'
  | ok fl =>
    cases fl with
    | ret u =>
      obtain ⟨v, H', I3, rv, ev, q3⟩ := I2.after hq'
      subst ev
      exact ⟨rv, ⟨V.ref (s.heap.objs.size + 1), H', I3, rfl, q3⟩⟩
    | next => exact False.elim hq'
    | brk => exact False.elim hq'
    | cont => exact False.elim hq'
theorem pe_make (M : Mk X.K C f) (F : FnOk X.prog X.w X.K X.mg X.base CX k f fd ps sp) (hr : Room (k + 1) X.A) (hg : Gl X x) (hm : X.mg x = some (.ref C)) (hb : Binds X.K fd ps ds) (hd : Vals dvs ds) (hx : Passes CX X E)
    (ha : PA X (e :: es) t) (hdb : (x == ("__debug__" : Str)) = false := by decide) (he : starEach (e :: es) X.env = (false, eval e X.env) :: starEach es X.env := by rfl) (hpl : (backTo pos (starEach es X.env)).any (·.1) = false := by rfl) :
    PE X (.Call (.Name x p) (e :: es) [] pos) (tMake C sp dvs E t) := by
  intro pins s σ H Q I h
  refine wpAny_Call_Name_kw (ld_glob I hg hm ?_ hdb)
  refine PySem.W.callWith_K (h₀ := X.base) I.ok.mod.kin M.kp (thn (ha pos pins s σ H _ I h) fun us s1 ⟨vs, H1, I1, r, q⟩ => ⟨I1.kIn, ?_⟩) he hpl
  exact run_make M F hr hb hd hx I1 r q
end

/-! ### keywords -/
/-- the values of the keywords, from the left -/
def PK (X : Cx) (kws : List Keyword) (t : TA) : Prop :=
  ∀ (pos : Pos) (pins : List (Addr × Obj)) (s : Shared) (σ : St) (H : Hp) (Q : List V → Hp → Prop), Inv X pins σ H s → t σ H Q → wpAny (model X.prog X.w) X.A (evalAll ((backToKw pos (keywordEach kws X.env)).map (·.2))) (AP X pins σ Q) X.xe s
section
variable {X : Cx} {CX : CXT} {k : Nat} {f C : Addr} {fd : FuncData} {ps ks : List Str} {sp : Sp} {E : XK} {x m : Str} {p pos apos kpos : Pos} {e o : Expr} {es : List Expr} {kws : List Keyword} {te ta : TE} {t tk : TA} {nm : Option Str}
/-- how a call with keywords binds: g puts the positional values us and the keywords' values ws (names ks) in the parameters' order, defaults among them -/
structure KBinds (K : PySem.W.Frag) (fd : FuncData) (ps ks : List Str) (g : List Value → List Value → List Value) (gV : List V → List V → List V) : Prop where
  to : ∀ (s : Shared) (us ws : List Value), K.In s.heap → (g us ws).length = ps.length → BindsTo s fd ⟨us, ks.zip ws⟩ (ps.zip (g us ws))
  rel : ∀ {vs : List V} {us : List Value} {zs : List V} {ws : List Value}, Vals vs us → Vals zs ws → Vals (gV vs zs) (g us ws)
def tCallK (sp : Sp) (gV : List V → List V → List V) (E : XK) (t tk : TA) : TE := fun σ H Q => t σ H fun vs H1 => tk σ H1 fun zs H2 => sp (gV vs zs) H2 Q E
variable {g : List Value → List Value → List Value} {gV : List V → List V → List V}
end

/-! ### a def's body keeps its promise -/
/-- names: the parameters first -/
structure FnScope (N P : List Str) (sc : Scope) : Prop where
  kind : sc.kind = .function
  co : sc.isCoroutine = false
  gen : sc.isGenerator = false
  nd : N.Nodup
  pre : N.take P.length = P
  par : ∀ x ∈ P, sc.names.lookup x = some .local ∨ sc.names.lookup x = some .cell
  nofree : ∀ y ∈ sc.names, y.2 ≠ .free

theorem bindL_out {kindOf : Str → Option NameKind} {x : Str} : ∀ {binds : List (Str × Value)} {m : Str → Option Value}, (∀ v, (x, v) ∉ binds) → bindL kindOf binds m x = m x
  | [], _, _ => rfl
  | (n, v) :: r, m, h => by
    unfold bindL
    rw [bindL_out fun w hw => h w (List.mem_cons_of_mem _ hw)]
    split
    · have : x ≠ n := by rintro rfl; exact h v List.mem_cons_self
      simp [this]
    · rfl
theorem bindC_out {kindOf : Str → Option NameKind} {x : Str} : ∀ {binds : List (Str × Value)} {m : Str → Option Value}, (∀ v, (x, v) ∉ binds) → bindC kindOf binds m x = m x
  | [], _, _ => rfl
  | (n, v) :: r, m, h => by
    unfold bindC
    rw [bindC_out fun w hw => h w (List.mem_cons_of_mem _ hw)]
    split
    · rfl
    · have : x ≠ n := by rintro rfl; exact h v List.mem_cons_self
      simp [this]
theorem bindL_get {kindOf : Str → Option NameKind} {x : Str} {v : Value} : ∀ {P : List Str} {vs : List Value} {i : Nat} {m : Str → Option Value}, P.Nodup → P[i]? = some x → vs[i]? = some v → kindOf x = some .local →
    bindL kindOf (P.zip vs) m x = some v
  | [], _, _, _, _, h, _, _ => by simp at h
  | _ :: _, [], _, _, _, _, h, _ => by simp at h
  | p :: P, w :: vs, 0, m, nd, h1, h2, hk => by
    simp at h1 h2; subst h1; subst h2
    show bindL kindOf ((p, w) :: P.zip vs) m p = _
    unfold bindL
    rw [bindL_out fun v hv => (List.nodup_cons.mp nd).1 (List.of_mem_zip hv).1, if_pos hk]
    simp
  | p :: P, w :: vs, i + 1, m, nd, h1, h2, hk => by
    show bindL kindOf ((p, w) :: P.zip vs) m x = _
    unfold bindL
    exact bindL_get (i := i) (List.nodup_cons.mp nd).2 (by simpa using h1) (by simpa using h2) hk
theorem bindC_get {kindOf : Str → Option NameKind} {x : Str} {v : Value} : ∀ {P : List Str} {vs : List Value} {i : Nat} {m : Str → Option Value}, P.Nodup → P[i]? = some x → vs[i]? = some v → kindOf x ≠ some .local →
    bindC kindOf (P.zip vs) m x = some v
  | [], _, _, _, _, h, _, _ => by simp at h
  | _ :: _, [], _, _, _, _, h, _ => by simp at h
  | p :: P, w :: vs, 0, m, nd, h1, h2, hk => by
    simp at h1 h2; subst h1; subst h2
    show bindC kindOf ((p, w) :: P.zip vs) m p = _
    unfold bindC
    rw [bindC_out fun v hv => (List.nodup_cons.mp nd).1 (List.of_mem_zip hv).1, if_neg hk]
    simp
  | p :: P, w :: vs, i + 1, m, nd, h1, h2, hk => by
    show bindC kindOf ((p, w) :: P.zip vs) m x = _
    unfold bindC
    exact bindC_get (i := i) (List.nodup_cons.mp nd).2 (by simpa using h1) (by simpa using h2) hk

/-- the names' values at the entry -/
def start (N : List Str) (vs : List V) : St := vs.map some ++ List.replicate (N.length - vs.length) none

/-- the context of a def's body, at its entry; an exception leaves the frame, then lies as CX says -/
def cxOf (CX : CXT) (P : Program) (w : World) (K : PySem.W.Frag) (mg : Str → Option Value) (base : Heap) (N : List Str) (qual : Str) (scope : Scope) (f : Addr) (cd : Value) (A : Around) (outer : List Env) (s : Shared) (H : Hp) (E : XK) : Cx where
  prog := P
  w := w
  K := K
  mg := mg
  base := base
  A := A.deeper (envOfC qual scope s.heap.objs.size f cd)
  N := N
  s₀ := s
  H₀ := H
  env := envOfC qual scope s.heap.objs.size f cd
  outer := outer
  stack := envOfC qual scope s.heap.objs.size f cd :: outer
  ex := []
  calm := true
  fn := fun _ => true
  pn := []
  xe := fun e s' => wpAny (model P w) (A.deeper (envOfC qual scope s.heap.objs.size f cd)) (leaving (envOfC qual scope s.heap.objs.size f cd) e) (fun _ s'' => CX outer H s E e s'') (fun e' s'' => CX outer H s E e' s'') s'

theorem cell_has {sc : Scope} {n : Nat} {x : Str} (h : sc.names.lookup x = some .cell) : ∃ c, (cellsFrom n sc.names []).lookup x = some c := by
  have q := PySem.W.cellsFrom_some sc.names n [] (.inl h)
  exact Option.isSome_iff_exists.mp q

theorem inv_start {CX : CXT} {P : Program} {w : World} {K : PySem.W.Frag} {mg : Str → Option Value} {base : Heap} {N ps : List Str} {qual : Str} {scope : Scope} {f : Addr} {cd : Value} {A : Around} {outer : List Env} {s s1 : Shared} {H : Hp} {E : XK} {us : List Value} {vs : List V}
    (S : FnScope N ps scope) (hd : A.handled = none) (e0 : Env0 P w K mg base A outer s H) (hl : vs.length = ps.length) (r : Vals vs us)
    (x : InCallC s s.heap.objs.size (bindL (envOfC qual scope s.heap.objs.size f cd).kindOf (ps.zip us) fun _ => none) (cellsFrom (s.heap.objs.size + 1) scope.names []) (bindC (envOfC qual scope s.heap.objs.size f cd).kindOf (ps.zip us) fun _ => none) s1) :
    Inv (cxOf CX P w K mg base N qual scope f cd A outer s H E) [] (start N vs) H s1 := by
  have hpl : ps.length ≤ N.length := by have := congrArg List.length S.pre; rw [List.length_take] at this; omega
  obtain ⟨h1, tk, rfl, hk⟩ := x.done
  have noA : ∀ b : Addr, b ∉ (cxOf CX P w K mg base N qual scope f cd A outer s H E).ex := fun b z => absurd (show b ∈ ([] : List Addr) from z) (by simp)
  refine ⟨⟨e0.mod, S.kind, rfl, rfl, Nat.le_refl _, fun y z c h1 h2 => ?_, fun y hy => ?_, fun y c _ h => ?_, fun _ => hd, Around.frames_deeper e0.frames, .inr ⟨rfl, rfl⟩, fun b z => absurd z (noA b), e0.bs, e0.bsz, fun b _ _ => noA b, fun b z => absurd z (noA b), e0.funs, e0.frf⟩,
    rfl, e0.bare, Un.kept hk, ⟨_, x.toInCall.ns, fun i y v h1 h2 h3 => ?_⟩, fun y c h => ⟨_, x.cell y c h⟩, e0.hok.fresh (Nat.le_refl _), fun y c h => ?_, fun p hp => absurd (show p ∈ ([] : List (Addr × Obj)) from hp) (by simp), e0.hok.kept hk, ?_⟩
  · exact name_of_addr x.apart (PySem.mem_of_lookup h1) (PySem.mem_of_lookup h2)
  · have hy : scope.names.lookup y = some .cell ∨ scope.names.lookup y = some .free := hy
    rcases hy with hy | hy
    · exact cell_has hy
    · exact absurd rfl (S.nofree _ (PySem.mem_of_lookup hy))
  · exact Nat.le_of_lt (x.above y c (PySem.mem_of_lookup h))
  · have hi : i < vs.length := by
      unfold start at h2
      by_cases hi : i < vs.length
      · exact hi
      · rw [List.getElem?_append_right (by simpa using hi)] at h2
        rw [List.getElem?_replicate] at h2
        split at h2 <;> cases h2
    have ha : vs[i]? = some v := by
      unfold start at h2
      rw [List.getElem?_append_left (by simpa using hi), List.getElem?_map] at h2
      cases e : vs[i]? with
      | none => rw [e] at h2; cases h2
      | some a => rw [e] at h2; cases h2; rfl
    obtain ⟨u, hu, rv⟩ := r.get ha
    have hp : ps[i]? = some y := by
      rw [← S.pre, List.getElem?_take_of_lt (by omega)]; exact h1
    have ndP : ps.Nodup := by rw [← S.pre]; exact S.nd.sublist (List.take_sublist _ _)
    refine ⟨u, rv, ?_⟩
    rcases S.par y (List.mem_of_getElem? hp) with k | k
    · exact .inl ⟨k, bindL_get ndP hp hu k⟩
    · obtain ⟨c, e⟩ := cell_has (n := s.heap.objs.size + 1) k
      refine .inr ⟨.inl k, c, e, ?_⟩
      have q := x.cell y c e
      rw [bindC_get ndP hp hu (by show scope.names.lookup y ≠ _; rw [k]; decide)] at q
      exact q
  · exact e0.hok.fresh (Nat.le_of_lt (x.above y c (PySem.mem_of_lookup h)))
  · unfold start
    show _ = N.length
    rw [List.length_append, List.length_map, List.length_replicate]
    omega

/-- THE RULE: a def (or a method) of the text, by its body. The body's reading t is chosen for each entry; it is run at the parameters' values -/
theorem fn_of {CX : CXT} {P : Program} {w : World} {K : PySem.W.Frag} {mg : Str → Option Value} {base : Heap} {k : Nat} {f : Addr} {name qual : Str} {params : Arguments} {body : List Stmt} {scope : Scope} {dV kV doc pm cdv ct oc : Value} {an od : Option Addr}
    {osl : Array (Option Value)} {N ps : List Str} {sp : Sp} (lk : K.lookup f = some ⟨oc, od, .func (PySem.W.fnOf name qual params body scope dV kV doc pm an cdv ct), osl⟩) (hcd : PySem.W.codeIn K cdv qual = true) (S : FnScope N ps scope)
    (len : ∀ vs H Q E, sp vs H Q E → vs.length = ps.length)
    (hbody : ∀ (A : Around) (outer : List Env) (s : Shared) (H : Hp) (vs : List V) (Q : VK) (E : XK), Room k (A.deeper (envOfC qual scope s.heap.objs.size f cdv)) → sp vs H Q E →
      ∃ t, PSs (cxOf CX P w K mg base N qual scope f cdv A outer s H E) body t ∧ t { nx := fun _ H' => Q .non H', rt := Q } (start N vs) H) :
    FnOk P w K mg base CX (k + 1) f (PySem.W.fnOf name qual params body scope dV kV doc pm an cdv ct) ps sp := by
  refine ⟨len, fun A outer s H args us vs Q E hr e0 hb r hsp => ?_⟩
  have hl := len _ _ _ _ hsp
  have KX : K.In s.heap := e0.mod.kin.keeps fun b o e => (e0.bs b o e).1
  have lim : s.heap.NoLimit := e0.mod.nolimit.keeps fun b o e => (e0.bs b o e).1
  have hkind : ∀ y ∈ ps.zip us, scope.names.lookup y.1 = some .local ∨ (scope.names.lookup y.1 = some .cell ∧ ((cellsFrom (s.heap.objs.size + 1) scope.names []).lookup y.1).isSome = true) := fun ⟨n, v⟩ hy => by
    rcases S.par n (List.of_mem_zip hy).1 with q | q
    · exact .inl q
    · exact .inr ⟨q, PySem.W.cellsFrom_some _ _ _ (.inl q)⟩
  refine codeAny_call_function hr.depth (KX _ _ lk) rfl S.co S.gen rfl (PySem.W.codeRec_of KX hcd) (hb _ _ _ _ ?_)
  refine wpAny_newFunctionEnv_cells S.kind hkind fun env he s1 x => ?_
  subst he
  refine ⟨lim.keeps x.toInCall.keep, codeAny_func ?_⟩
  obtain ⟨t, ht, hq⟩ := hbody A outer s H vs Q E (hr.deeper _) hsp
  have I : Inv (cxOf CX P w K mg base N qual scope f cdv A outer s H E) [] (start N vs) H s1 := inv_start S hr.hd e0 hl r x
  refine wpAny_mono (ht [] s1 (start N vs) H _ I hq) (fun fl s' hs => ?_) fun e s' hs => hs
  have fin : ∀ {σ' : St} {H' : Hp} {v : V} {u : Value}, Inv (cxOf CX P w K mg base N qual scope f cdv A outer s H E) [] σ' H' s' → RelV v u → Q v H' → CE outer P w H s Q u s' :=
    fun {σ' H' v u} J rv q => ⟨v, H', J.os, J.bare, J.base, J.hok, rv, q⟩
  cases fl with
  | ret u =>
    obtain ⟨v, σ', H', J, rv, q⟩ := hs
    exact fin J rv q
  | next =>
    obtain ⟨σ', H', J, q⟩ := hs
    exact fin (v := V.non) (u := Value.none) J rfl q
  | brk =>
    obtain ⟨_, _, _, q⟩ := hs
    exact False.elim q
  | cont =>
    obtain ⟨_, _, _, q⟩ := hs
    exact False.elim q
end L2

namespace L2
open PySem PySem.Spec PyProof.Rows
section
variable {X : Cx} {x : Str} {p pos : Pos} {e : Expr} {es : List Expr} {t : TA} {id T : String} {r : List V → Hp → VK → Prop}

def tCB (r : List V → Hp → VK → Prop) (t : TA) : TE := fun σ H Q => t σ H fun vs H1 => r vs H1 Q
/-- f(e, ..), f a built-in function -/
theorem pe_callB (hc : CallR X (.builtin id) r) (hg : Gl X x) (hm : X.mg x = none) (hv : bootBuiltins x = some (.builtin id)) (ha : PA X (e :: es) t) (hn : x ≠ "__name__" := by decide) (hdb : (x == ("__debug__" : Str)) = false := by decide)
    (he : starEach (e :: es) X.env = (false, eval e X.env) :: starEach es X.env := by rfl) (hpl : (backTo pos (starEach es X.env)).any (·.1) = false := by rfl) : PE X (.Call (.Name x p) (e :: es) [] pos) (tCB r t) := by
  intro pins s σ H Q I h
  refine wpAny_Call_Name_kw (ld_blt I hg hm hv ?_ hn hdb)
  exact PyProof.Rows.callWith_builtin1 (thn (ha pos pins s σ H _ I h) fun us s1 ⟨vs, H1, I1, r1, q1⟩ => hc pins s1 σ H1 vs us Q I1 r1 q1) he hpl
/-- T(e, ..), T a built-in type -/
theorem pe_callTy (hc : CallR X (.type T) r) (hg : Gl X x) (hm : X.mg x = none) (hv : bootBuiltins x = some (.type T)) (ha : PA X (e :: es) t) (hn : x ≠ "__name__" := by decide) (hdb : (x == ("__debug__" : Str)) = false := by decide)
    (he : starEach (e :: es) X.env = (false, eval e X.env) :: starEach es X.env := by rfl) (hpl : (backTo pos (starEach es X.env)).any (·.1) = false := by rfl) : PE X (.Call (.Name x p) (e :: es) [] pos) (tCB r t) := by
  intro pins s σ H Q I h
  refine wpAny_Call_Name_kw (ld_blt I hg hm hv ?_ hn hdb)
  exact PyProof.Rows.callWith_type1 (thn (ha pos pins s σ H _ I h) fun us s1 ⟨vs, H1, I1, r1, q1⟩ => hc pins s1 σ H1 vs us Q I1 r1 q1) he hpl
end
end L2

namespace HT
open PySem PyProof.Rows

/-- t < u of tuples of ints -/
def lexLt : List Int → List Int → Bool
  | [], [] => false
  | [], _ :: _ => true
  | _ :: _, [] => false
  | x :: xs, y :: ys => if x = y then lexLt xs ys else decide (x < y)
section
open PySem.SeqAt
open PySem.AutoSeq1 (wpAny_loadPart')
open PySem.MeetsSeq PySem.MeetsSeq2 PySem.MeetsSeq3

end

section
variable {prog : Program} {w : World} {A : Around} {E : Value → Shared → Prop} {s : Shared}

/-- t + u, t not empty -/
theorem cat_tup {t b : Addr} {vs ws : List Value} {Q : Value → Shared → Prop} (ht : IsTup s.heap t vs.toArray) (hb : IsTup s.heap b ws.toArray) (hv : vs ≠ [])
    (h1 : ws = [] → Q (.ref t) s) (h2 : ws ≠ [] → Q (.ref s.heap.objs.size) { s with heap := s.heap.push { cls := .type "tuple", data := .seq (vs ++ ws).toArray } })
    (hsz : vs.length + ws.length ≤ sizeLine) : wpAny (model prog w) A (binaryOp .Add (.ref t) (.ref b)) Q E s := by
  obtain ⟨⟨cls, dd, data, sl⟩, ho, hc, n, hd⟩ := id ht
  obtain ⟨⟨cls2, dd2, data2, sl2⟩, ho2, hc2, n2, hd2⟩ := id hb
  simp only at hc hd hc2 hd2
  subst hc hd hc2 hd2
  have e : vs.toArray ++ ws.toArray = (vs ++ ws).toArray := by simp
  by_cases hw : ws = []
  · exact concat_meets ⟨_, ho, rfl⟩ ⟨_, ho2, rfl⟩ noFill_tuple_add seq_tuple_add PySem.F.slot_tuple_add PySem.F.entry_tuple_add (PySem.F.args_tuple_add_2 _ _)
      (tuple_addW1 t b vs.toArray ws.toArray n n2 dd dd2 sl sl2 (by simpa using hv) (by simp [hw])) ⟨ho, ho2, h1 hw⟩
  · refine concat_meets ⟨_, ho, rfl⟩ ⟨_, ho2, rfl⟩ noFill_tuple_add seq_tuple_add PySem.F.slot_tuple_add PySem.F.entry_tuple_add (PySem.F.args_tuple_add_2 _ _)
      (tuple_addW2 t b vs.toArray ws.toArray n n2 dd dd2 sl sl2 (by simpa using hv) (by simpa using hw) (by rw [List.size_toArray, List.size_toArray]; exact hsz)) ⟨ho, ho2, ?_⟩
    rw [e]
    exact h2 hw

/-! ### t[a:b], not the whole -/
/-- a slice's bound as a place among n (d where it is left out) -/
def sIx (n d : Nat) : Option Int → Nat
  | none => d
  | some v => if v < 0 then (v + (n : Int)).toNat else min v.toNat n
theorem sIx_none (n d : Nat) : sIx n d none = d := rfl
theorem sIx_nat (n d k : Nat) : sIx n d (some (k : Int)) = min k n := by
  show (if (k : Int) < 0 then ((k : Int) + (n : Int)).toNat else min (k : Int).toNat n) = min k n
  rw [if_neg (by omega), Int.toNat_natCast]
theorem sIx_le (n d : Nat) (hd : d ≤ n) (o : Option Int) : sIx n d o ≤ n := by
  cases o with
  | none => exact hd
  | some v =>
    show (if v < 0 then (v + (n : Int)).toNat else min v.toNat n) ≤ n
    by_cases hv : v < 0
    · rw [if_pos hv]; omega
    · rw [if_neg hv]; exact Nat.min_le_right _ _
theorem clip_eq (v : Int) (n d : Nat) : (if v < 0 then max (v + (n : Int)) 0 else min v (n : Int)) = ((sIx n d (some v) : Nat) : Int) := by
  show (if v < 0 then max (v + (n : Int)) 0 else min v (n : Int)) = (((if v < 0 then (v + (n : Int)).toNat else min v.toNat n) : Nat) : Int)
  by_cases hv : v < 0
  · simp only [if_pos hv]; omega
  · simp only [if_neg hv]; omega
theorem adjust_gen (lo hi : Option Int) (n : Nat) : Builtin.Slice.sliceAdjust lo hi 1 (n : Int) = (((sIx n 0 lo : Nat) : Int), ((sIx n n hi : Nat) : Int)) := by
  have h1 : ¬ ((1 : Int) < 0) := by omega
  unfold Builtin.Slice.sliceAdjust
  simp only [h1, if_false]
  refine Prod.ext ?_ ?_
  · cases lo with
    | none => rfl
    | some v => exact clip_eq v n 0
  · cases hi with
    | none => rfl
    | some v => exact clip_eq v n n
theorem places_gen (i j : Nat) : Builtin.Slice.slicePlaces (i : Int) (j : Int) 1 = j - i := by
  unfold Builtin.Slice.slicePlaces
  have h1 : (1 : Int) > 0 := by omega
  simp only [h1, if_true, Int.ediv_one]
  split <;> omega
theorem slicePart_ {v : Value} {o : Option Int} {Q : Option Int → Shared → Prop} (p : IsPart v o) (h : Q o s) : wpAny (model prog w) A (Builtin.Slice.slicePartIndex v) Q E s := by
  cases p with
  | none => exact slicePart_none h
  | int i t => exact slicePart_int h
theorem sliceApplied_gen {sl : Addr} {vl vu : Value} {lo hi : Option Int} {n : Nat} {Q : Int × Int × Nat → Shared → Prop} (hs : s.heap.IsSliceOf sl vl vu .none) (pl : IsPart vl lo) (pu : IsPart vu hi)
    (h : Q (((sIx n 0 lo : Nat) : Int), 1, sIx n n hi - sIx n 0 lo) s) : wpAny (model prog w) A (Builtin.Slice.sliceApplied (.ref sl) (pure (n : Int))) Q E s := by
  obtain ⟨os, hos, hcs, hds⟩ := id hs
  unfold Builtin.Slice.sliceApplied Builtin.Slice.sliceFields
  refine wpAny_bind (wpAny_bind (wpAny_field hos hds (x := vl) rfl (wpAny_bind (wpAny_field hos hds (x := vu) rfl (wpAny_bind (wpAny_field hos hds (x := .none) rfl (wpAny_pure ?_)))))))
  refine wpAny_bind (slicePart_none ?_)
  show wpAny _ _ (if ((1 : Int) == 0) = true then _ else _) _ _ s
  rw [if_neg (by decide)]
  refine wpAny_bind (slicePart_ pl (wpAny_bind (slicePart_ pu (wpAny_bind (wpAny_pure ?_)))))
  show wpAny _ _ (match Builtin.Slice.sliceAdjust lo hi 1 (n : Int) with | (lo, hi) => pure (lo, (1 : Int), Builtin.Slice.slicePlaces lo hi 1)) _ _ s
  rw [adjust_gen lo hi n]
  show wpAny _ _ (pure (((sIx n 0 lo : Nat) : Int), (1 : Int), Builtin.Slice.slicePlaces ((sIx n 0 lo : Nat) : Int) ((sIx n n hi : Nat) : Int) 1)) _ _ s
  rw [places_gen]
  exact wpAny_pure h
theorem pick_gen (xs : Array Value) (i k : Nat) : ((List.range k).filterMap fun (m : Nat) => xs[((i : Int) + (m : Int) * 1).toNat]?).toArray = ((xs.toList.drop i).take k).toArray := by
  have e : (fun (m : Nat) => xs[((i : Int) + (m : Int) * 1).toNat]?) = fun m => xs[i + m]? := by
    funext m
    have : ((i : Int) + (m : Int) * 1).toNat = i + m := by omega
    rw [this]
  rw [e]
  have := pick_run xs i k
  rw [List.filterMap_map] at this
  have e2 : ((fun x => xs[x]?) ∘ fun x => i + x) = fun m => xs[i + m]? := rfl
  rw [e2] at this
  rw [this]

theorem getItem_tuple_cut {t sl : Addr} {items : Array Value} {vl vu : Value} {lo hi : Option Int} {Q : Value → Shared → Prop} (ht : IsTup s.heap t items) (hs : s.heap.IsSliceOf sl vl vu .none) (pl : IsPart vl lo) (pu : IsPart vu hi)
    (hw : ¬ (sIx items.size 0 lo = 0 ∧ sIx items.size items.size hi = items.size))
    (h : Q (.ref s.heap.objs.size) { s with heap := s.heap.push { cls := .type "tuple", data := .seq ((items.toList.drop (sIx items.size 0 lo)).take (sIx items.size items.size hi - sIx items.size 0 lo)).toArray } })
    (hsz : items.size ≤ sizeLine) : wpAny (model prog w) A (getItem (.ref t) (.ref sl)) Q E s := by
  have htake : sizeOk (.seq ((items.toList.drop (sIx items.size 0 lo)).take (sIx items.size items.size hi - sIx items.size 0 lo)).toArray) := by
    show ((items.toList.drop (sIx items.size 0 lo)).take (sIx items.size items.size hi - sIx items.size 0 lo)).toArray.size ≤ sizeLine
    rw [List.size_toArray, List.length_take, List.length_drop, Array.length_toList]
    omega
  have hj : sIx items.size items.size hi ≤ items.size := sIx_le _ _ (Nat.le_refl _) hi
  obtain ⟨os, hos, hcs, hds⟩ := id hs
  have hTs : s.TypeIs (.ref sl) "slice" := ⟨os, hos, hcs⟩
  unfold getItem
  try with_reducible refine wpAny_holding ?_
  first | refine wpAny_bind (wpAny_pure ?_) | skip
  refine wpAny_bind (wpAny_sequenceKey ht.typeIs (by decide) ?_)
  refine wpAny_bind (wpAny_callSpecial?_slot (name := Str.ofString "__getitem__") ht.typeIs PyProof.Rows.slot_tuple_getitem
    (wpAny_call_entry PyProof.Rows.slot_tuple_getitem ht.typeIs entry_tuple_getitem ?_ (args_tuple_getitem _ _)))
  show wpAny _ _ (Builtin.Tuple.tupleItemsOf (.ref t) >>= _) _ _ s
  refine wpAny_bind (tupleItemsOf_ ht ?_)
  refine wpAny_bind (wpAny_typeOf hTs ?_)
  rw [if_pos (by decide)]
  refine wpAny_bind (sliceApplied_gen hs pl pu ?_)
  have hno : ¬ ((((sIx items.size 0 lo : Nat) : Int) == 0 && (1 : Int) == 1 && (sIx items.size items.size hi - sIx items.size 0 lo) == items.size) = true) := by
    intro q
    rw [Bool.and_eq_true, Bool.and_eq_true] at q
    have q1 : ((sIx items.size 0 lo : Nat) : Int) = 0 := eq_of_beq q.1.1
    have q2 : sIx items.size items.size hi - sIx items.size 0 lo = items.size := eq_of_beq q.2
    exact hw ⟨by omega, by omega⟩
  show wpAny _ _ (if (((sIx items.size 0 lo : Nat) : Int) == 0 && (1 : Int) == 1 && (sIx items.size items.size hi - sIx items.size 0 lo) == items.size) = true then _ else _) _ _ s
  rw [if_neg hno, pick_gen]
  first
    | exact wpAny_bind (m := Builtin.Tuple.tupleExact _) (wpAny_newObj_type (wpAny_pure ⟨_, rfl, wpAny_pure h⟩) htake)
    | exact wpAny_bind (m := Builtin.Tuple.tupleExact _) (wpAny_newObj_type (wpAny_bind (wpAny_pure (wpAny_pure ⟨_, rfl, wpAny_pure h⟩))) htake)
    | exact wpAny_bind (wpAny_bind (m := Builtin.Tuple.tupleExact _) (wpAny_newObj_type (wpAny_pure (wpAny_pure ⟨_, rfl, wpAny_pure h⟩)) htake))
    | exact wpAny_bind (wpAny_bind (m := Builtin.Tuple.tupleExact _) (wpAny_newObj_type (wpAny_pure ⟨_, rfl, wpAny_pure h⟩) htake))
end
end HT

namespace L2
open PySem PySem.Spec PyProof.Rows

/-! ### the parts of a slice -/
abbrev TO := St → Hp → (Option Int → Hp → Prop) → Prop
/-- a slice's part (left out, or an int) -/
def PO (X : Cx) (e : Option Expr) (t : TO) : Prop :=
  ∀ (pins : List (Addr × Obj)) (s : Shared) (σ : St) (H : Hp) (Q : Option Int → Hp → Prop), Inv X pins σ H s → t σ H Q →
    wpAny (model X.prog X.w) X.A (evalPart e X.env) (fun u s' => ∃ o H', Inv X pins σ H' s' ∧ IsPart u o ∧ Q o H') X.xe s
def tNoPart : TO := fun _ H Q => Q none H
def tPart (t : TE) : TO := fun σ H Q => t σ H fun x H1 => ∃ i, x = .int i ∧ Q (some i) H1

theorem intsAre_of {ns : List Int} : ∀ {us : List Value}, Vals (ns.map V.int) us → IntsAre us ns := by
  induction ns with
  | nil => intro us r; rw [List.map_nil] at r; cases r; exact .nil
  | cons n ns ih =>
    intro us r
    rw [List.map_cons] at r
    cases r with
    | cons r1 r2 =>
      obtain ⟨t, e⟩ := r1
      subst e
      exact .cons n t (ih r2)

section
variable {X : Cx} {e : Expr} {te : TE} {lo hi : Option Expr} {tl th : TO} {pos p2 : Pos}

theorem po_none : PO X none tNoPart := by
  intro pins s σ H Q I h
  rw [evalPart_none]
  exact wpAny_pure ⟨none, H, I, .none, h⟩
theorem po_some (h : PE X e te) : PO X (some e) (tPart te) := by
  intro pins s σ H Q I hw
  rw [evalPart_some]
  refine thn (h pins s σ H _ I hw) fun u s1 ⟨x, H1, I1, r1, q1⟩ => ?_
  obtain ⟨i, rfl, q⟩ := q1
  obtain ⟨t, rfl⟩ := r1
  exact ⟨some i, H1, I1, .int i t, q⟩

/-- what a slice of a value is, by values: the slice object stands at sl -/
def SlR (X : Cx) (r : V → Option Int → Option Int → Hp → VK → Prop) : Prop :=
  ∀ (pins : List (Addr × Obj)) (s : Shared) (σ : St) (H : Hp) (x : V) (v vl vu : Value) (lo hi : Option Int) (sl : Addr) (Q : VK), Inv X pins σ H s → RelV x v → s.heap.IsSliceOf sl vl vu .none → IsPart vl lo → IsPart vu hi → r x lo hi H Q →
    ∃ T id, typeLookup (.type T) "__getitem__" = pure (some (.builtin id)) ∧ s.TypeIs v T ∧ wpAny (model X.prog X.w) X.A (getItem v (.ref sl)) (EP X pins σ Q) X.xe s
theorem SlR.or {r r' : V → Option Int → Option Int → Hp → VK → Prop} (h : SlR X r) (h' : SlR X r') : SlR X (fun x lo hi H Q => r x lo hi H Q ∨ r' x lo hi H Q) := by
  intro pins s σ H x v vl vu lo hi sl Q I rx hs pl pu q
  rcases q with q | q
  · exact h pins s σ H x v vl vu lo hi sl Q I rx hs pl pu q
  · exact h' pins s σ H x v vl vu lo hi sl Q I rx hs pl pu q
def tSl (r : V → Option Int → Option Int → Hp → VK → Prop) (te : TE) (tl th : TO) : TE := fun σ H Q => te σ H fun x H1 => tl σ H1 fun l H2 => th σ H2 fun u H3 => r x l u H3 Q
/-- a[lo:hi], any a -/
theorem pe_slice {r : V → Option Int → Option Int → Hp → VK → Prop} (hr : SlR X r) (he : PE X e te) (hl : PO X lo tl) (hu : PO X hi th) : PE X (.Subscript e (.Slice lo hi none p2) pos) (tSl r te tl th) := by
  intro pins s σ H Q I h
  refine Subscript_ (thn (he pins s σ H _ I h) fun v s1 ⟨x, H1, I1, r1, q1⟩ => ?_)
  refine wpAny_Slice (thn (hl pins s1 σ H1 _ I1 q1) fun vl s2 ⟨l, H2, I2, pl, q2⟩ => thn (hu pins s2 σ H2 _ I2 q2) fun vu s3 ⟨u, H3, I3, pu, q3⟩ => ?_)
  rw [evalPart_none]
  refine wpAny_pure ?_
  have I4 : Inv X pins σ H3 { s3 with heap := s3.heap.push { cls := .type "slice", data := .fields #[vl, vu, .none] } } := I3.kept (t' := s3.toks) fun b ob q => Heap.get?_push_of_some _ q
  obtain ⟨T, id, hT, ht, hg⟩ := hr pins { s3 with heap := s3.heap.push { cls := .type "slice", data := .fields #[vl, vu, .none] } } σ H3 x v vl vu l u s3.heap.objs.size Q I4 r1 (Heap.IsSliceOf.new ..) pl pu q3
  show wpAny (model X.prog X.w) X.A (subscriptTail e (.Slice lo hi none p2) v (.ref s3.heap.objs.size)) (EP X pins σ Q) X.xe { s3 with heap := s3.heap.push { cls := .type "slice", data := .fields #[vl, vu, .none] } }
  exact tail_any (ops := [.ref s3.heap.objs.size, v]) ht hT hg (by with_unfolding_all rfl)

/-- the items of xs[lo:hi] -/
def cutV (xs : List V) (lo hi : Option Int) : List V := (xs.drop (HT.sIx xs.length 0 lo)).take (HT.sIx xs.length xs.length hi - HT.sIx xs.length 0 lo)
theorem cutV_length (xs : List V) (lo hi : Option Int) : (cutV xs lo hi).length ≤ xs.length := by
  unfold cutV
  rw [List.length_take, List.length_drop]
  omega
/-- t[lo:hi], not the whole of it (the whole would be t itself) -/
def rSlT (K : PySem.W.Frag) : V → Option Int → Option Int → Hp → VK → Prop := fun x lo hi H Q => ∃ a xs, x = .ref a ∧ SqT K H a xs ∧
  ¬ (HT.sIx xs.length 0 lo = 0 ∧ HT.sIx xs.length xs.length hi = xs.length) ∧ ∀ p, H p = none → Q (.ref p) (upd H p (.tup (cutV xs lo hi)))
theorem sl_tup : SlR X (rSlT X.K) := by
  intro pins s σ H x v vl vu lo hi sl Q I rx hs pl pu h
  obtain ⟨a, xs, rfl, hx, hw, q⟩ := h
  cases rx
  obtain ⟨its, r, ht, hz⟩ := I.tuple hx
  have hlen : its.toArray.size = xs.length := by rw [List.size_toArray]; exact r.length.symm
  refine ⟨"tuple", _, PyProof.Rows.slot_tuple_getitem.lookup, ht.typeIs, ?_⟩
  refine HT.getItem_tuple_cut ht hs pl pu (by rw [hlen]; exact hw) ?_ (by rw [hlen]; exact hz)
  rw [hlen]
  refine ⟨.ref s.heap.objs.size, _, I.laid (t' := s.toks) (o := .tup (cutV xs lo hi)) (fun b ob q => Heap.get?_push_of_some _ q) (Nat.le_refl _) ?_, rfl, q _ (I.hok.fresh (Nat.le_refl _))⟩
  exact ⟨Nat.le_trans (cutV_length xs lo hi) hz, _, (r.drop (HT.sIx xs.length 0 lo)).take (HT.sIx xs.length xs.length hi - HT.sIx xs.length 0 lo), TupN.new _ _⟩

/-! ### t < u, t + u -/
def rLtT (K : PySem.W.Frag) : R2 := fun x y H Q => ∃ a b ns ms, x = .ref a ∧ y = .ref b ∧ SqT K H a (ns.map V.int) ∧ SqT K H b (ms.map V.int) ∧ Q (.bl (HT.lexLt ns ms)) H
/-- t + u, t not empty: u empty gives t itself -/
def rCatT (K : PySem.W.Frag) : R2 := fun x y H Q => ∃ a b xs ys, x = .ref a ∧ y = .ref b ∧ SqT K H a xs ∧ SqT K H b ys ∧ xs ≠ [] ∧ xs.length + ys.length ≤ sizeLine ∧
  (ys = [] → Q (.ref a) H) ∧ (ys ≠ [] → ∀ p, H p = none → Q (.ref p) (upd H p (.tup (xs ++ ys))))
end
end L2

namespace L2
open PySem PySem.Spec PyProof.Rows

/-! ### places -/
/-- the place that an index of any sign means -/
def ixN (n : Nat) (i : Int) : Option Nat := if 0 ≤ i then (if i < n then some i.toNat else none) else if -(n : Int) ≤ i then some (i + n).toNat else none
def atI {α : Type} (xs : List α) (i : Int) : Option α := (ixN xs.length i).bind fun j => xs[j]?
theorem ixN_seq {n : Nat} {i : Int} {j : Nat} (h : ixN n i = some j) : seqIndex? i n = some j ∧ j < n ∧ -(n : Int) ≤ i ∧ i < n := by
  unfold ixN at h
  by_cases h0 : 0 ≤ i
  · rw [if_pos h0] at h
    by_cases h1 : i < n
    · rw [if_pos h1] at h
      have e : i.toNat = j := Option.some.inj h
      exact ⟨by rw [seqIndex_of h0 h1, e], by omega, by omega, h1⟩
    · rw [if_neg h1] at h; cases h
  · rw [if_neg h0] at h
    by_cases h1 : -(n : Int) ≤ i
    · rw [if_pos h1] at h
      have e : (i + n).toNat = j := Option.some.inj h
      exact ⟨by rw [seqIndex_neg (by omega) h1, e], by omega, h1, by omega⟩
    · rw [if_neg h1] at h; cases h
theorem atI_get {α : Type} {xs : List α} {i : Int} {v : α} (h : atI xs i = some v) : ∃ j, seqIndex? i xs.length = some j ∧ xs[j]? = some v ∧ j < xs.length ∧ -(xs.length : Int) ≤ i ∧ i < xs.length := by
  unfold atI at h
  cases e : ixN xs.length i with
  | none => rw [e] at h; cases h
  | some j =>
    rw [e] at h
    obtain ⟨h1, h2, h3, h4⟩ := ixN_seq e
    exact ⟨j, h1, h, h2, h3, h4⟩
theorem atI_nat {α : Type} {xs : List α} {j : Nat} {v : α} (h : xs[j]? = some v) : atI xs (j : Int) = some v := by
  have hj : j < xs.length := (List.getElem?_eq_some_iff.mp h).1
  have e : ixN xs.length (j : Int) = some j := by
    unfold ixN
    rw [if_pos (by omega), if_pos (by omega)]; simp
  unfold atI; rw [e]; exact h
/-! ### what may be subscripted -/
/-- what stands as an index of a plain subscript -/
def PlainIx (b : Expr) : Prop := ∀ o i, subscripted b false o i = operate [o, i] (getItem o i)
/-- a subscript by values -/
def IxR (X : Cx) (r : R2) : Prop :=
  ∀ (value slice : Expr) (pins : List (Addr × Obj)) (s : Shared) (σ : St) (H : Hp) (x y : V) (v u : Value) (Q : VK), Inv X pins σ H s → RelV x v → RelV y u → r x y H Q →
    subscripted slice false v u = operate [v, u] (getItem v u) → wpAny (model X.prog X.w) X.A (subscriptTail value slice v u) (EP X pins σ Q) X.xe s
/-- a call of a builtin's method by values: the receiver, the arguments -/
def MtR (X : Cx) (id : String) (r : V → List V → Hp → VK → Prop) : Prop :=
  ∀ (pins : List (Addr × Obj)) (s : Shared) (σ : St) (H : Hp) (x : V) (xs : List V) (v : Value) (us : List Value) (Q : VK), Inv X pins σ H s → RelV x v → Vals xs us → r x xs H Q →
    wpAny (model X.prog X.w) X.A (call (.builtin id) (v :: us)) (EP X pins σ Q) X.xe s
section
variable {X : Cx} {a b : Expr} {ta tb : TE} {pos : Pos}
theorem IxR.or {r r' : R2} (h : IxR X r) (h' : IxR X r') : IxR X (fun x y H Q => r x y H Q ∨ r' x y H Q) := by
  intro value slice pins s σ H x y v u Q I rx ry q hs
  rcases q with q | q
  · exact h value slice pins s σ H x y v u Q I rx ry q hs
  · exact h' value slice pins s σ H x y v u Q I rx ry q hs
theorem MtR.or {id : String} {r r' : V → List V → Hp → VK → Prop} (h : MtR X id r) (h' : MtR X id r') : MtR X id (fun x xs H Q => r x xs H Q ∨ r' x xs H Q) := by
  intro pins s σ H x xs v us Q I rx rs q
  rcases q with q | q
  · exact h pins s σ H x xs v us Q I rx rs q
  · exact h' pins s σ H x xs v us Q I rx rs q
/-- a[b] -/
theorem pe_ix {r : R2} (hr : IxR X r) (ha : PE X a ta) (hb : PE X b tb) (hs : PlainIx b) : PE X (.Subscript a b pos) (tOp r ta tb) := by
  intro pins s σ H Q I h
  exact Subscript_ (binT ha hb I h fun v u s2 x y H2 I2 rx ry q => hr a b pins s2 σ H2 x y v u Q I2 rx ry q (hs _ _))

def rIxL (K : PySem.W.Frag) : R2 := fun x y H Q => ∃ p xs i v, x = .ref p ∧ y = .int i ∧ SqL K H p xs ∧ atI xs i = some v ∧ Q v H
def rIxT (K : PySem.W.Frag) : R2 := fun x y H Q => ∃ p xs i v, x = .ref p ∧ y = .int i ∧ SqT K H p xs ∧ atI xs i = some v ∧ Q v H
def rIxS : R2 := fun x y H Q => ∃ z i c, x = .str z ∧ y = .int i ∧ z.length ≤ sizeLine ∧ atI z.cps.toList i = some c ∧ Q (.str ⟨#[c]⟩) H
theorem ix_list : IxR X (rIxL X.K) := by
  intro value slice pins s σ H x y v u Q I rx ry h hs
  obtain ⟨p, xs, i, z, rfl, rfl, hq, he, q⟩ := h
  cases rx
  obtain ⟨t, rfl⟩ := ry
  obtain ⟨its, r, pl, hz⟩ := I.list hq
  obtain ⟨j, h1, h2, h3, h4, h5⟩ := atI_get he
  obtain ⟨w, ew, rw'⟩ := r.get h2
  have hl := r.length
  have hn := line63
  have fin : EP X pins σ Q w s := ⟨z, H, I, rw', q⟩
  by_cases h0 : 0 ≤ i
  · have hj : i.toNat = j := by
      rw [seqIndex_of h0 h5] at h1
      exact Option.some.inj h1
    exact item_listR pl.isList h0 (by omega) (by rw [hj]; simpa using ew) fin hs
  · have hj : (i + (its.toArray.size : Int)).toNat = j := by
      rw [seqIndex_neg (by omega) h4] at h1
      rw [List.size_toArray, ← hl]
      exact Option.some.inj h1
    exact subscriptTail_builtinR (x := w) pl.isList.typeIs slot_list_getitem.lookup
      (wpAny_getItem_list_neg (Q := fun r s' => r = w ∧ EP X pins σ Q r s') pl.isList (by omega) (by rw [List.size_toArray] <;> omega) (by omega) (by rw [hj]; simpa using ew) ⟨rfl, fin⟩) hs
theorem ix_tup : IxR X (rIxT X.K) := by
  intro value slice pins s σ H x y v u Q I rx ry h hs
  obtain ⟨p, xs, i, z, rfl, rfl, hq, he, q⟩ := h
  cases rx
  obtain ⟨t, rfl⟩ := ry
  obtain ⟨its, r, pl, hz⟩ := I.tuple hq
  obtain ⟨j, h1, h2, h3, h4, h5⟩ := atI_get he
  obtain ⟨w, ew, rw'⟩ := r.get h2
  have hl := r.length
  have hn := line63
  have fin : EP X pins σ Q w s := ⟨z, H, I, rw', q⟩
  exact subscriptTail_builtinR (x := w) pl.typeIs slot_tuple_getitem.lookup
    (getItem_tuple (j := j) (Q := fun r s' => r = w ∧ EP X pins σ Q r s') pl (by omega) (by omega) (by rw [List.size_toArray, ← hl]; exact h1) (by simpa using ew) ⟨rfl, fin⟩) hs
theorem ix_str : IxR X rIxS := by
  intro value slice pins s σ H x y v u Q I rx ry h hs
  obtain ⟨z, i, c, rfl, rfl, hz, he, q⟩ := h
  obtain ⟨t, rfl⟩ := rx
  obtain ⟨t', rfl⟩ := ry
  obtain ⟨j, h1, h2, h3, h4, h5⟩ := atI_get he
  have hl : z.cps.toList.length = z.length := by simp [Str.length]
  rw [hl] at h1 h4 h5
  have hn := line63
  exact tail_any (typeIs_str s z t) slot_str_getitem.lookup (getItem_str (c := c) (by
    have e1 : decide (i < -(2 ^ 63 : Int)) = false := decide_eq_false (by omega)
    have e2 : decide (i ≥ 2 ^ 63) = false := decide_eq_false (by omega)
    rw [e1, e2, Bool.or_false]) (by rw [h1]; simpa using h2) ⟨.str ⟨#[c]⟩, H, I.tok _, ⟨_, rfl⟩, q⟩) hs
/-- list, tuple or str -/
def rIx (K : PySem.W.Frag) : R2 := fun x y H Q => rIxL K x y H Q ∨ rIxT K x y H Q ∨ rIxS x y H Q
theorem ix_seq : IxR X (rIx X.K) := ix_list.or (ix_tup.or ix_str)

/-! ### xs[i] = v, any sign -/
/-- the list's object behind a store -/
theorem mapSeq_set (its : List Value) (n j : Nat) (u : Value) : Obj.mapSeq (·.setIfInBounds j u) { cls := .type "list", data := .seq its.toArray n } = { cls := .type "list", data := .seq (its.set j u).toArray n } := by
  simp [Obj.mapSeq]
theorem Inv.lst {pins : List (Addr × Obj)} {σ : St} {H : Hp} {s : Shared} {p : Addr} {xs : List V} (I : Inv X pins σ H s) (h : H p = some (.lst xs)) :
    ∃ (its : List Value) (n : Nat), Vals xs its ∧ s.heap.get? p = some { cls := .type "list", data := .seq its.toArray n } ∧ xs.length ≤ sizeLine := by
  obtain ⟨z, its, n, r, e⟩ := I.hok p _ h
  exact ⟨its, n, r, e, z⟩
/-- the list at p is written by an update of its object -/
theorem Inv.lstUpd {pins : List (Addr × Obj)} {σ : St} {H : Hp} {s : Shared} {p : Addr} {xs ys : List V} {its its' : List Value} {n n' : Nat} {f : Obj → Obj} (I : Inv X pins σ H s) (h : H p = some (.lst xs))
    (ho : s.heap.get? p = some { cls := .type "list", data := .seq its.toArray n }) (hf : f { cls := .type "list", data := .seq its.toArray n } = { cls := .type "list", data := .seq its'.toArray n' }) (r : Vals ys its') (hz : ys.length ≤ sizeLine) (t : Nat) :
    Inv X pins σ (upd H p (.lst ys)) { s with heap := s.heap.update p f, toks := t } := by
  have e : (s.heap.update p f).get? p = some { cls := .type "list", data := .seq its'.toArray n' } := by
    rw [Heap.get?_update_self f ho (by rw [hf] <;> rfl), hf]
  refine I.write (x := p) (e := p) (by rw [h]; trivial) (.inl rfl) (fun b u hb q => (Heap.get?_update_other _ _ (Ne.symm hb)).trans q) ⟨_, e⟩ ?_
  exact ⟨hz, its', n', r, e⟩
def rSetL : V → V → V → Hp → (Hp → Prop) → Prop := fun o i v H Q => ∃ p xs k j, o = .ref p ∧ i = .int k ∧ H p = some (.lst xs) ∧ ixN xs.length k = some j ∧ Q (upd H p (.lst (xs.set j v)))
theorem set_list : PSet X rSetL := by
  intro pins s σ H o i v ov iv u Q I ro ri rv h
  obtain ⟨p, xs, k, j, rfl, rfl, hp, hj, q⟩ := h
  cases ro
  obtain ⟨t, rfl⟩ := ri
  obtain ⟨its, n, r, ho, hz⟩ := I.lst hp
  obtain ⟨h1, h2, h3, h4⟩ := ixN_seq hj
  have hl := r.length
  have hn := line63
  have I' : Inv X pins σ (upd H p (.lst (xs.set j v))) { s with heap := s.heap.update p (Obj.mapSeq (·.setIfInBounds j u)) } :=
    I.lstUpd hp ho (mapSeq_set its n j u) (r.set rv j) (by rw [List.length_set]; exact hz) s.toks
  by_cases h0 : 0 ≤ k
  · have hk : k.toNat = j := by
      rw [seqIndex_of h0 h4] at h1
      exact Option.some.inj h1
    exact PySem.W.ki_setAt ho h0 (by omega) (by rw [List.size_toArray, ← hl]; exact h4) (by rw [hk]; exact ⟨_, I', q⟩)
  · have hk : (k + (its.toArray.size : Int)).toNat = j := by
      rw [seqIndex_neg (by omega) h3] at h1
      rw [List.size_toArray, ← hl]
      exact Option.some.inj h1
    exact PySem.W.ki_setBack ho (by omega) (by rw [List.size_toArray, ← hl]; exact h3) (by omega) (by rw [hk]; exact ⟨_, I', q⟩)

/-! ### slices -/
theorem slice_bounds (lo hi : Option Int) (n : Nat) : (sliceBounds lo hi none n).1 = ((HT.sIx n 0 lo : Nat) : Int) ∧ (sliceBounds lo hi none n).2.1 = ((HT.sIx n n hi : Nat) : Int) ∧ (sliceBounds lo hi none n).2.2 = 1 := by
  refine ⟨?_, ?_, rfl⟩
  · cases lo with
    | none => simp [sliceBounds, HT.sIx]
    | some i =>
      simp only [sliceBounds, HT.sIx, Option.getD_none, show (1 : Int) > 0 by decide, if_true]
      by_cases h : i < 0
      · simp only [h, if_true] <;> omega
      · simp only [h, if_false] <;> omega
  · cases hi with
    | none => simp [sliceBounds, HT.sIx]
    | some i =>
      simp only [sliceBounds, HT.sIx, Option.getD_none, show (1 : Int) > 0 by decide, if_true]
      by_cases h : i < 0
      · simp only [h, if_true] <;> omega
      · simp only [h, if_false] <;> omega
theorem slicePick_cut (its : List Value) (lo hi : Option Int) : slicePick its.toArray lo hi none = ((its.drop (HT.sIx its.length 0 lo)).take (HT.sIx its.length its.length hi - HT.sIx its.length 0 lo)).toArray := by
  obtain ⟨h1, h2, h3⟩ := slice_bounds lo hi its.toArray.size
  unfold slicePick
  rw [h1, h2, h3]
  simp only [sliceRange_one, pick_run, List.size_toArray] <;> rfl
/-- xs[lo:hi] of a list: a new list -/
def rSlL (K : PySem.W.Frag) : V → Option Int → Option Int → Hp → VK → Prop := fun x lo hi H Q => ∃ a xs, x = .ref a ∧ SqL K H a xs ∧ ∀ p, H p = none → Q (.ref p) (upd H p (.lst (cutV xs lo hi)))
theorem sl_list : SlR X (rSlL X.K) := by
  intro pins s σ H x v vl vu lo hi sl Q I rx hs pl pu h
  obtain ⟨a, xs, rfl, hx, q⟩ := h
  cases rx
  obtain ⟨its, r, ht, hz⟩ := I.list hx
  have hlen := r.length
  refine ⟨"list", _, slot_list_getitem.lookup, ht.isList.typeIs, ?_⟩
  refine wpAny_getItem_list_slice ht.isList hs pl pu .none (by simp) ?_ (by rw [List.size_toArray] <;> omega)
  rw [slicePick_cut, ← hlen]
  refine ⟨.ref s.heap.objs.size, _, I.laid (t' := s.toks) (o := .lst (cutV xs lo hi)) (fun b ob q => Heap.get?_push_of_some _ q) (Nat.le_refl _) ?_, rfl, q _ (I.hok.fresh (Nat.le_refl _))⟩
  exact ⟨Nat.le_trans (cutV_length xs lo hi) hz, _, 0, (r.drop (HT.sIx xs.length 0 lo)).take (HT.sIx xs.length xs.length hi - HT.sIx xs.length 0 lo), Heap.get?_push_size _ rfl⟩

/-! ### in, not in: flat items -/
def flatV : V → Bool
  | .non => true
  | .bl _ => true
  | .int _ => true
  | .str _ => true
  | _ => false
/-- == of flat values -/
def eqV : V → V → Bool
  | .non, .non => true
  | .bl a, .bl b => a == b
  | .bl a, .int b => (if a then 1 else 0) == b
  | .int a, .bl b => a == (if b then 1 else 0)
  | .int a, .int b => a == b
  | .str a, .str b => a == b
  | _, _ => false
theorem eqAt_V {A : Around} {s : Shared} {y x : V} {u v : Value} (ry : RelV y u) (rx : RelV x v) (fy : flatV y = true) (fx : flatV x = true) : SeqAt.EqAt A s u v (eqV y x) := by
  cases y with
  | non =>
    cases ry
    cases x with
    | non => cases rx; exact SeqAt.EqAt.same _
    | bl b => cases rx; exact SeqAt.EqAt.none_bool b
    | int b => obtain ⟨t, rfl⟩ := rx; exact SeqAt.EqAt.none_int b t
    | str b => obtain ⟨t, rfl⟩ := rx; exact SeqAt.EqAt.none_str b t
    | _ => exact absurd (show false = true from fx) Bool.false_ne_true
  | bl a =>
    cases ry
    cases x with
    | non => cases rx; exact SeqAt.EqAt.bool_none a
    | bl b => cases rx; exact SeqAt.EqAt.bool_bool a b
    | int b => obtain ⟨t, rfl⟩ := rx; exact SeqAt.EqAt.bool_int a b t
    | str b => obtain ⟨t, rfl⟩ := rx; exact SeqAt.EqAt.bool_str a b t
    | _ => exact absurd (show false = true from fx) Bool.false_ne_true
  | int a =>
    obtain ⟨t', rfl⟩ := ry
    cases x with
    | non => cases rx; exact SeqAt.EqAt.int_none a t'
    | bl b => cases rx; exact SeqAt.EqAt.int_bool a t' b
    | int b => obtain ⟨t, rfl⟩ := rx; exact SeqAt.EqAt.int_int a t' b t
    | str b => obtain ⟨t, rfl⟩ := rx; exact SeqAt.EqAt.int_str a t' b t
    | _ => exact absurd (show false = true from fx) Bool.false_ne_true
  | str a =>
    obtain ⟨t', rfl⟩ := ry
    cases x with
    | non => cases rx; exact SeqAt.EqAt.str_none a t'
    | bl b => cases rx; exact SeqAt.EqAt.str_bool a t' b
    | int b => obtain ⟨t, rfl⟩ := rx; exact SeqAt.EqAt.str_int a t' b t
    | str b => obtain ⟨t, rfl⟩ := rx; exact SeqAt.EqAt.str_str a t' b t
    | _ => exact absurd (show false = true from fx) Bool.false_ne_true
  | _ => exact absurd (show false = true from fy) Bool.false_ne_true
/-- the items' answers, read off the values (a value's own answer does not lean on its token) -/
def eqU (x : V) (u : Value) : Bool := match u with
  | .none => eqV .non x
  | .bool b => eqV (.bl b) x
  | .int i _ => eqV (.int i) x
  | .str z _ => eqV (.str z) x
  | _ => false
theorem eqU_of {x y : V} {u : Value} (r : RelV y u) (f : flatV y = true) : eqU x u = eqV y x := by
  cases y with
  | non => cases r; rfl
  | bl b => cases r; rfl
  | int i => obtain ⟨t, rfl⟩ := r; rfl
  | str z => obtain ⟨t, rfl⟩ := r; rfl
  | _ => exact absurd (show false = true from f) Bool.false_ne_true
theorem any_eqU {x : V} : ∀ {xs : List V} {us : List Value}, Vals xs us → xs.all flatV = true → us.any (eqU x) = xs.any fun y => eqV y x
  | _, _, .nil, _ => rfl
  | y :: xs, u :: us, .cons r t, f => by
    rw [List.all_cons, Bool.and_eq_true] at f
    rw [List.any_cons, List.any_cons, eqU_of r f.1, any_eqU t f.2]
theorem mem_eqAt {A : Around} {s : Shared} {x : V} {v : Value} (rx : RelV x v) (fx : flatV x = true) : ∀ {xs : List V} {us : List Value}, Vals xs us → xs.all flatV = true → ∀ u ∈ us, SeqAt.EqAt A s u v (eqU x u)
  | _, _, .nil, _ => fun u hu => by cases hu
  | y :: xs, u :: us, .cons r t, f => fun u' hu => by
    rw [List.all_cons, Bool.and_eq_true] at f
    rcases List.mem_cons.mp hu with rfl | hu
    · rw [eqU_of r f.1]; exact eqAt_V r rx f.1 fx
    · exact mem_eqAt rx fx t f.2 u' hu
def inV (x : V) (xs : List V) : Bool := xs.any fun y => eqV y x
/-- x in a list or tuple of flat items -/
def rIn (K : PySem.W.Frag) (neg : Bool) : R2 := fun x y H Q => ∃ p xs, y = .ref p ∧ (SqL K H p xs ∨ SqT K H p xs) ∧ flatV x = true ∧ xs.all flatV = true ∧ Q (.bl (if neg then !inV x xs else inV x xs)) H
theorem op_in_seq : OpR X (compareOp .In) (rIn X.K false) := by
  intro pins s σ H x y v u Q I rx ry h
  obtain ⟨p, xs, rfl, hq, fx, fs, q⟩ := h
  cases ry
  rcases hq with hq | hq
  · obtain ⟨its, r, pl, hz⟩ := I.list hq
    refine SeqAt.in_listAt (eqU x) pl.isList (fun w hw => mem_eqAt rx fx r fs w (by simpa using hw)) ⟨.bl _, H, I, rfl, ?_⟩
    rw [show its.toArray.any (eqU x) = its.any (eqU x) by simp, any_eqU r fs]
    exact q
  · obtain ⟨its, r, pl, hz⟩ := I.tuple hq
    refine SeqAt.in_tupleAt (eqU x) pl (fun w hw => mem_eqAt rx fx r fs w (by simpa using hw)) ⟨.bl _, H, I, rfl, ?_⟩
    rw [show its.toArray.any (eqU x) = its.any (eqU x) by simp, any_eqU r fs]
    exact q
theorem op_notIn_seq : OpR X (compareOp .NotIn) (rIn X.K true) := by
  intro pins s σ H x y v u Q I rx ry h
  obtain ⟨p, xs, rfl, hq, fx, fs, q⟩ := h
  cases ry
  rcases hq with hq | hq
  · obtain ⟨its, r, pl, hz⟩ := I.list hq
    refine SeqAt.notIn_listAt (eqU x) pl.isList (fun w hw => mem_eqAt rx fx r fs w (by simpa using hw)) ⟨.bl _, H, I, rfl, ?_⟩
    rw [show its.toArray.any (eqU x) = its.any (eqU x) by simp, any_eqU r fs]
    exact q
  · obtain ⟨its, r, pl, hz⟩ := I.tuple hq
    refine SeqAt.notIn_tupleAt (eqU x) pl (fun w hw => mem_eqAt rx fx r fs w (by simpa using hw)) ⟨.bl _, H, I, rfl, ?_⟩
    rw [show its.toArray.any (eqU x) = its.any (eqU x) by simp, any_eqU r fs]
    exact q
/-! ### len, list(x), tuple(x) of any list or tuple that is read -/
theorem CallR.or {f : Value} {r r' : List V → Hp → VK → Prop} (h : CallR X f r) (h' : CallR X f r') : CallR X f (fun xs H Q => r xs H Q ∨ r' xs H Q) := by
  intro pins s σ H xs us Q I rs q
  rcases q with q | q
  · exact h pins s σ H xs us Q I rs q
  · exact h' pins s σ H xs us Q I rs q
theorem call_list_of : CallR X (.type "list") (fun xs H Q => ∃ p ys, xs = [.ref p] ∧ (SqL X.K H p ys ∨ SqT X.K H p ys) ∧ ∀ l, H l = none → Q (.ref l) (upd H l (.lst ys))) := by
  intro pins s σ H xs us Q I r h
  obtain ⟨p, ys, rfl, hq, q⟩ := h
  obtain ⟨u, rfl, rx⟩ := vals1 r
  cases rx
  have fin : ∀ (its : List Value), Vals ys its → ys.length ≤ sizeLine → ∀ (h' : Heap) (c' : Nat), (∀ b o', s.heap.get? b = some o' → h'.get? b = some o') →
      h'.get? s.heap.objs.size = some { cls := .type "list", dict := none, data := .seq its.toArray c', slots := #[] } → EP X pins σ Q (.ref s.heap.objs.size) { s with heap := h' } := fun its r' hz h' c' kp e =>
    ⟨.ref s.heap.objs.size, _, I.laid (t' := s.toks) kp (Nat.le_refl _) (show ObjOk X.prog X.w _ h' _ (.lst ys) from ⟨hz, its, c', r', e⟩), rfl, q _ (I.hok.fresh (Nat.le_refl _))⟩
  rcases hq with hq | hq
  · obtain ⟨its, r', pl, hz⟩ := I.list hq
    have hlen := r'.length
    obtain ⟨o, ho, hc, n, hd⟩ := pl.isList
    exact call_list_seq p (.inl rfl) ho hc hd (fun h' c' kp e => fin its r' hz h' c' kp e) (by simp only [List.size_toArray] <;> omega)
  · obtain ⟨its, r', pl, hz⟩ := I.tuple hq
    have hlen := r'.length
    obtain ⟨o, ho, hc, n, hd⟩ := pl
    exact call_list_seq p (.inr rfl) ho hc hd (fun h' c' kp e => fin its r' hz h' c' kp e) (by simp only [List.size_toArray] <;> omega)
theorem call_tuple_of : CallR X (.type "tuple") (fun xs H Q => ∃ p ys, xs = [.ref p] ∧ ((SqL X.K H p ys ∧ ∀ l, H l = none → Q (.ref l) (upd H l (.tup ys))) ∨ (SqT X.K H p ys ∧ Q (.ref p) H))) := by
  intro pins s σ H xs us Q I r h
  obtain ⟨p, ys, rfl, h⟩ := h
  obtain ⟨u, rfl, rx⟩ := vals1 r
  cases rx
  rcases h with ⟨hq, q⟩ | ⟨hq, q⟩
  · obtain ⟨its, r', pl, hz⟩ := I.list hq
    have hlen := r'.length
    refine call_tuple_list pl.isList (fun h' kp => ?_) (by simp only [List.size_toArray] <;> omega)
    have I1 : Inv X pins σ H { s with heap := h' } := I.kept (t' := s.toks) kp
    have I2 : Inv X pins σ (upd H h'.objs.size (.tup ys)) { s with heap := h'.push { cls := .type "tuple", data := .seq its.toArray } } :=
      I1.laid (t' := s.toks) (fun b o e => Heap.get?_push_of_some _ e) (Nat.le_refl _) (show ObjOk X.prog X.w _ _ _ (.tup ys) from ⟨hz, its, r', TupN.new _ _⟩)
    exact ⟨.ref h'.objs.size, _, I2, rfl, q _ (I1.hok.fresh (Nat.le_refl _))⟩
  · obtain ⟨its, r', pl, hz⟩ := I.tuple hq
    exact call_tuple_same pl ⟨.ref p, H, I, rfl, q⟩

/-! ### the call of a builtin's method: o.m(..) -/
/-- the value is of that builtin type -/
def tyV (K : PySem.W.Frag) (T : String) (x : V) (H : Hp) : Prop := match x with
  | .str _ => T = "str"
  | .int _ => T = "int"
  | .ref p => (T = "list" ∧ ∃ xs, SqL K H p xs) ∨ (T = "tuple" ∧ ∃ o, K.lookup p = some o ∧ o.cls = .type "tuple" ∧ o.dict = none) ∨
      (T = "dict" ∧ ((∃ kvs, H p = some (.dK kvs)) ∨ ∃ kvs, H p = some (.dT kvs))) ∨ (T = "set" ∧ ∃ S n, H p = some (.set S n))
  | _ => False
theorem tyV_is {pins : List (Addr × Obj)} {σ : St} {H : Hp} {s : Shared} {T : String} {x : V} {v : Value} (I : Inv X pins σ H s) (r : RelV x v) (ty : tyV X.K T x H) :
    s.TypeIs v T ∧ ∀ a, v = .ref a → ∃ ob, s.heap.get? a = some ob ∧ ob.dict = none := by
  cases x with
  | str z =>
    obtain ⟨t, rfl⟩ := r
    cases (show T = "str" from ty)
    exact ⟨typeIs_str s z t, fun _ e => nomatch e⟩
  | int i =>
    obtain ⟨t, rfl⟩ := r
    cases (show T = "int" from ty)
    exact ⟨typeIs_int s i t, fun _ e => nomatch e⟩
  | ref p =>
    cases r
    rcases ty with ⟨rfl, xs, hq⟩ | ⟨rfl, o, hk, hc, hd⟩ | ⟨rfl, hk⟩ | ⟨rfl, S, n, hk⟩
    · obtain ⟨its, _, pl, _⟩ := I.list hq
      refine ⟨pl.isList.typeIs, fun a e => ?_⟩
      cases e
      obtain ⟨o, n, e, c, hd, _⟩ := pl
      exact ⟨o, e, hd⟩
    · refine ⟨⟨o, I.kIn p o hk, hc⟩, fun a e => ?_⟩
      cases e
      exact ⟨o, I.kIn _ o hk, hd⟩
    · have z : ∃ o, s.heap.get? p = some o ∧ o.ExactDict := by
        rcases hk with ⟨kvs, hk⟩ | ⟨kvs, hk⟩
        · obtain ⟨_, _, _, _, o, _, _, e, ex, _⟩ := I.hok p _ hk
          exact ⟨o, e, ex⟩
        · obtain ⟨_, _, _, _, o, _, _, e, ex, _⟩ := I.hok p _ hk
          exact ⟨o, e, ex⟩
      obtain ⟨o, e, ex⟩ := z
      refine ⟨⟨o, e, ex.1⟩, fun a e2 => ?_⟩
      cases e2
      exact ⟨o, e, ex.2.1⟩
    · obtain ⟨o, _, _, _, e, ex, _⟩ := I.hok p _ hk
      refine ⟨⟨o, e, ex.1⟩, fun a e2 => ?_⟩
      cases e2
      exact ⟨o, e, ex.2.1⟩
  | _ => exact False.elim ty
def tBM0 (K : PySem.W.Frag) (T : String) (r : V → List V → Hp → VK → Prop) (to : TE) : TE := fun σ H Q => to σ H fun x H1 => tyV K T x H1 ∧ r x [] H1 Q
def tBM (K : PySem.W.Frag) (T : String) (r : V → List V → Hp → VK → Prop) (to : TE) (t : TA) : TE := fun σ H Q => to σ H fun x H1 => tyV K T x H1 ∧ t σ H1 fun xs H2 => r x xs H2 Q
variable {o e : Expr} {es : List Expr} {to : TE} {t : TA} {name : Str} {apos cpos : Pos} {T id : String} {r : V → List V → Hp → VK → Prop}
theorem pe_bm0 (pa : PlainAttrs T) (slot : Slot T name id) (hty : typeOf (.builtin id) = pure (.type "method_descriptor")) (hm : MtR X id r) (ho : PE X o to)
    (hbase : attributeBase o name X.env (eval o X.env) = eval o X.env := by rfl) (hline : (apos.endLine == cpos.line) = true := by rfl) : PE X (.Call (.Attribute o name apos) [] [] cpos) (tBM0 X.K T r to) := by
  intro pins s σ H Q I h
  refine wpAny_Call_method0_late hbase hline (thn (ho pins s σ H _ I h) fun v s1 ⟨x, H1, I1, r1, ty, q1⟩ => ?_)
  obtain ⟨h1, h2⟩ := tyV_is I1 r1 ty
  exact ⟨T, id, pa, slot, hty, h1, h2, Calls.callWith_builtin rfl (PySem.evalArgs_none (hm pins s1 σ H1 x [] v [] Q I1 r1 .nil q1))⟩
theorem pe_bm (pa : PlainAttrs T) (slot : Slot T name id) (hty : typeOf (.builtin id) = pure (.type "method_descriptor")) (hm : MtR X id r) (ho : PE X o to) (ha : PA X (e :: es) t)
    (hbase : attributeBase o name X.env (eval o X.env) = eval o X.env := by rfl)
    (hfew : ((backTo cpos (starEach (e :: es) X.env)).all (fun x => !x.1) && (backToKw cpos (keywordEach [] X.env)).all (fun x => x.1.isSome)
      && decide ((e :: es).length + ([] : List Keyword).length + (if ([] : List Keyword).isEmpty then 0 else 1) < 30)) = true := by rfl)
    (hline : (apos.endLine == cpos.line) = true := by rfl) (hs : starEach (e :: es) X.env = (false, eval e X.env) :: starEach es X.env := by rfl) (hplain : (backTo cpos (starEach es X.env)).any (·.1) = false := by rfl) :
    PE X (.Call (.Attribute o name apos) (e :: es) [] cpos) (tBM X.K T r to t) := by
  intro pins s σ H Q I h
  refine wpAny_Call_method_late hbase hfew hline rfl (thn (ho pins s σ H _ I h) fun v s1 ⟨x, H1, I1, r1, ty, q1⟩ => ?_)
  obtain ⟨h1, h2⟩ := tyV_is I1 r1 ty
  refine ⟨T, id, pa, slot, hty, h1, h2, ?_⟩
  have hA := ha cpos pins s1 σ H1 _ I1 q1
  rw [hs] at hA ⊢
  refine Calls.callWith_builtin (by show (false || (backTo cpos (starEach es X.env)).any (·.1)) = false; rw [hplain] <;> rfl) (Calls.evalArgs_plain ?_)
  exact thn hA fun us s2 ⟨vs, H2, I2, r2, q2⟩ => hm pins s2 σ H2 x vs v us Q I2 r1 r2 q2
/- xs.append(e), list.index on a module's tuple .. are MtR facts of 06m -/
end
end L2

namespace L2
open PySem PySem.Spec PyProof.Rows

def MtM (X : Cx) (id : String) (r : V → List V → Hp → VK → Prop) : Prop :=
  ∀ (pins : List (Addr × Obj)) (s : Shared) (σ : St) (H : Hp) (x : V) (xs : List V) (v : Value) (us : List Value) (Q : VK), Inv X pins σ H s → RelV x v → Vals xs us → r x xs H Q →
    wpAny (model X.prog X.w) X.A (call (.builtin id) (v :: us)) (EP X pins σ Q) X.xe s

/-! ### lists of values -/
theorem Vals.one : ∀ {x : V} {us : List Value}, Vals [x] us → ∃ u, us = [u] ∧ RelV x u
  | _, _, .cons r .nil => ⟨_, rfl, r⟩
theorem Vals.two : ∀ {x y : V} {us : List Value}, Vals [x, y] us → ∃ u v, us = [u, v] ∧ RelV x u ∧ RelV y v
  | _, _, _, .cons r (.cons q .nil) => ⟨_, _, rfl, r, q⟩
theorem Vals.zero : ∀ {us : List Value}, Vals [] us → us = []
  | _, .nil => rfl
theorem Vals.dropLast {xs : List V} {us : List Value} (h : Vals xs us) : Vals xs.dropLast us.dropLast := by
  induction h with
  | nil => exact .nil
  | cons r t ih =>
    cases t with
    | nil => exact .nil
    | cons q t' => exact .cons r ih
theorem Vals.eraseIdx : ∀ {xs : List V} {us : List Value} (i : Nat), Vals xs us → Vals (xs.eraseIdx i) (us.eraseIdx i)
  | _, _, _, .nil => .nil
  | _, _, 0, .cons _ t => t
  | _, _, i + 1, .cons r t => .cons r (Vals.eraseIdx i t)
theorem Vals.reverse {xs : List V} {us : List Value} (h : Vals xs us) : Vals xs.reverse us.reverse := by
  induction h with
  | nil => exact .nil
  | cons r t ih => rw [List.reverse_cons, List.reverse_cons]; exact Vals.append ih (.cons r .nil)
section
variable {X : Cx} {pins : List (Addr × Obj)} {σ : St} {H : Hp} {s : Shared} {l b : Addr} {xs ys zs : List V}

/-! ### the two steps: a tracked list is rewritten, a new list is laid -/
theorem Inv.lset {its its' : List Value} {n : Nat} {f : Array Value → Array Value} {t' : Nat} (I : Inv X pins σ H s) (hH : H l = some (.lst xs))
    (e : s.heap.get? l = some { cls := .type "list", data := .seq its.toArray n }) (hf : f its.toArray = its'.toArray) (hv : Vals ys its') (hz : ys.length ≤ sizeLine) :
    Inv X pins σ (upd H l (.lst ys)) { s with heap := s.heap.update l (Obj.mapSeq f), toks := t' } := by
  have q := PySem.IsL.update e f
  rw [hf] at q
  refine I.write (x := l) (e := l) (by rw [hH]; exact trivial) (.inl rfl) (fun b' u hb hu => (Heap.get?_update_other s.heap (Obj.mapSeq f) (Ne.symm hb)).trans hu) ⟨_, q⟩ ?_
  exact ⟨hz, its', _, hv, q⟩
theorem Inv.lnew {its : List Value} {t' : Nat} (I : Inv X pins σ H s) (hv : Vals ys its) (hz : ys.length ≤ sizeLine) :
    Inv X pins σ (upd H s.heap.objs.size (.lst ys)) { s with heap := s.heap.push { cls := .type "list", data := .seq its.toArray }, toks := t' } :=
  I.laid (fun _ _ q => Heap.get?_push_of_some _ q) (Nat.le_refl _) ⟨hz, its, 0, hv, Heap.get?_push_size _ rfl⟩
theorem Inv.fresh (I : Inv X pins σ H s) : H s.heap.objs.size = none := I.hok.fresh (Nat.le_refl _)
theorem Inv.lstM (I : Inv X pins σ H s) (hH : H l = some (.lst xs)) : xs.length ≤ sizeLine ∧ ∃ (its : List Value) (n : Nat), Vals xs its ∧ xs.length = its.length ∧ s.heap.get? l = some { cls := .type "list", data := .seq its.toArray n } := by
  obtain ⟨z, its, n, r, e⟩ := I.hok l _ hH
  exact ⟨z, its, n, r, r.length, e⟩

end

section
variable {X : Cx}

/-! ### methods -/
def rAppend : V → List V → Hp → VK → Prop := fun x vs H Q => ∃ l xs y, x = .ref l ∧ vs = [y] ∧ H l = some (.lst xs) ∧ xs.length < sizeLine ∧ Q .non (upd H l (.lst (xs ++ [y])))
theorem mt_append : MtM X "list.append" rAppend := by
  intro pins s σ H x vs v us Q I rx rv h
  obtain ⟨l, xs, y, rfl, rfl, hH, hz, q⟩ := h
  cases rx
  obtain ⟨u, rfl, ru⟩ := rv.one
  obtain ⟨z, its, n, r, hl, e⟩ := I.lstM hH
  refine call_meets F.slot_list_append ⟨_, e, rfl⟩ F.entry_list_append (F.args_list_append_2 _ _) (PySem.list_append l its.toArray n u (by rw [List.size_toArray]; omega)) ⟨e, ?_⟩
  refine ⟨.non, _, I.lset (its' := its ++ [u]) hH e (by simp) (r.append (.cons ru .nil)) ?_, rfl, q⟩
  rw [List.length_append, List.length_singleton]
  omega

def rExtend : V → List V → Hp → VK → Prop := fun x vs H Q => ∃ l b xs zs, x = .ref l ∧ vs = [.ref b] ∧ H l = some (.lst xs) ∧ H b = some (.lst zs) ∧ xs.length + zs.length ≤ sizeLine ∧ Q .non (upd H l (.lst (xs ++ zs)))
def rPop : V → List V → Hp → VK → Prop := fun x vs H Q => ∃ l xs y, x = .ref l ∧ vs = [] ∧ H l = some (.lst xs) ∧ xs[xs.length - 1]? = some y ∧ Q y (upd H l (.lst xs.dropLast))
def rPopAt : V → List V → Hp → VK → Prop := fun x vs H Q => ∃ l xs i k y, x = .ref l ∧ vs = [.int i] ∧ H l = some (.lst xs) ∧ -(2 ^ 63) ≤ i ∧ i < 2 ^ 63 ∧ seqIndex? i xs.length = some k ∧ xs[k]? = some y ∧ Q y (upd H l (.lst (xs.eraseIdx k)))
def rReverse : V → List V → Hp → VK → Prop := fun x vs H Q => ∃ l xs, x = .ref l ∧ vs = [] ∧ H l = some (.lst xs) ∧ Q .non (upd H l (.lst xs.reverse))
def rClear : V → List V → Hp → VK → Prop := fun x vs H Q => ∃ l xs, x = .ref l ∧ vs = [] ∧ H l = some (.lst xs) ∧ Q .non (upd H l (.lst []))
theorem mt_clear : MtM X "list.clear" rClear := by
  intro pins s σ H x vs v us Q I rx rv h
  obtain ⟨l, xs, rfl, rfl, hH, q⟩ := h
  cases rx
  have hus := rv.zero
  subst hus
  obtain ⟨z, its, n, r, hl, e⟩ := I.lstM hH
  refine call_meets F.slot_list_clear ⟨_, e, rfl⟩ F.entry_list_clear (F.args_list_clear_1 _) (AutoSeq1.list_clear_list_0 l its.toArray n (by rw [List.size_toArray]; omega)) ⟨e, ?_⟩
  exact ⟨.non, _, I.lset (its' := []) (ys := []) hH e rfl .nil (Nat.zero_le _), rfl, q⟩

/-! ### list + list, list += list, list * int -/
def rCat : R2 := fun x y H Q => ∃ l b xs zs, x = .ref l ∧ y = .ref b ∧ H l = some (.lst xs) ∧ H b = some (.lst zs) ∧ xs.length + zs.length ≤ sizeLine ∧ ∀ p, H p = none → Q (.ref p) (upd H p (.lst (xs ++ zs)))
theorem op_cat : OpR X (binaryOp .Add) rCat := by
  intro pins s σ H x y v u Q I rx ry h
  obtain ⟨l, b, xs, zs, rfl, rfl, hH, hB, hz, q⟩ := h
  cases rx
  cases ry
  obtain ⟨z, its, n, r, hl, e⟩ := I.lstM hH
  obtain ⟨z2, its2, n2, r2, hl2, e2⟩ := I.lstM hB
  refine PySem.P.add_list e e2 ?_ (by rw [List.size_toArray, List.size_toArray]; omega)
  have ea : its.toArray ++ its2.toArray = (its ++ its2).toArray := by simp
  rw [ea]
  exact ⟨.ref _, _, I.lnew (t' := s.toks) (r.append r2) (by rw [List.length_append]; omega), rfl, q _ I.fresh⟩
/-- a list times an int (a negative one is nothing) -/
def rRep : R2 := fun x y H Q => ∃ l k xs, x = .ref l ∧ y = .int k ∧ H l = some (.lst xs) ∧ -(2 ^ 63) ≤ k ∧ k < 2 ^ 63 ∧ xs.length * k.toNat ≤ sizeLine ∧
  ∀ p, H p = none → Q (.ref p) (upd H p (.lst (List.replicate k.toNat xs).flatten))
/-! ### del xs[i] -/
end

/-! ### xs[a:b] = ys -/
section
variable {prog : Program} {w : World} {A : Around} {E : Value → Shared → Prop} {s : Shared}
end

section
variable {X : Cx}
end
end L2

namespace L2
open PySem PySem.Spec PyProof.Rows

/-! ### lists of pairs as tables -/
section
variable {κ : Type} [DecidableEq κ]
def valV (kvs : List (κ × V)) (k : κ) : Option V := (kvs.find? fun kv => decide (kv.1 = k)).map (·.2)
/-- in its place, or at the end -/
def putK (kvs : List (κ × V)) (k : κ) (v : V) : List (κ × V) :=
  if (kvs.any fun kv => decide (kv.1 = k)) = true then kvs.map (fun kv => if kv.1 = k then (kv.1, v) else kv) else kvs ++ [(k, v)]
def dropK (kvs : List (κ × V)) (k : κ) : List (κ × V) := kvs.filter fun kv => decide (kv.1 ≠ k)

theorem valV_pos {p : κ × V} {r : List (κ × V)} {k : κ} (e : p.1 = k) : valV (p :: r) k = some p.2 := by simp [valV, List.find?_cons, e]
theorem valV_neg {p : κ × V} {r : List (κ × V)} {k : κ} (e : ¬ p.1 = k) : valV (p :: r) k = valV r k := by simp [valV, List.find?_cons, e]
theorem RelO.getD {o : Option V} {u : Option Value} {d : V} {d' : Value} (r : RelO o u) (rd : RelV d d') : RelV (o.getD d) (u.getD d') := by
  cases o with
  | none => cases u with
    | none => exact rd
    | some _ => exact (show False from r).elim
  | some _ => cases u with
    | none => exact (show False from r).elim
    | some _ => exact r

/-- raw tables of the same keys -/
theorem KV.val {kvs : List (κ × V)} {vs : List (κ × Value)} (r : KV kvs vs) (k : κ) : RelO (valV kvs k) (valueAt vs k) := by
  unfold KV at r
  induction r with
  | nil => exact True.intro
  | @cons p q ps qs h t ih =>
    obtain ⟨h1, h2⟩ := h
    by_cases e : p.1 = k
    · have e' : q.1 = k := h1.symm.trans e
      have b : valueAt (q :: qs) k = some q.2 := by simp [valueAt, List.find?_cons, e']
      rw [valV_pos e, b]; exact h2
    · have e' : ¬ q.1 = k := fun z => e (h1.trans z)
      have b : valueAt (q :: qs) k = valueAt qs k := by simp [valueAt, List.find?_cons, e']
      rw [valV_neg e, b]; exact ih
theorem KV.any {kvs : List (κ × V)} {vs : List (κ × Value)} (r : KV kvs vs) (k : κ) : (kvs.any fun kv => decide (kv.1 = k)) = vs.any fun kv => decide (kv.1 = k) := by
  unfold KV at r
  induction r with
  | nil => rfl
  | cons h t ih => rw [List.any_cons, List.any_cons, ih, h.1]
theorem KV.drop {kvs : List (κ × V)} {vs : List (κ × Value)} (r : KV kvs vs) (k : κ) : KV (dropK kvs k) (without vs k) := by
  unfold KV at r ⊢
  unfold dropK without
  induction r with
  | nil => exact .nil
  | @cons p q ps qs h t ih =>
    obtain ⟨h1, h2⟩ := h
    rw [List.filter_cons, List.filter_cons]
    by_cases e : p.1 = k
    · have a : ¬ decide (p.1 ≠ k) = true := by simp [e]
      have b : ¬ decide (q.1 ≠ k) = true := by simp [h1.symm.trans e]
      rw [if_neg a, if_neg b]; exact ih
    · have e' : ¬ q.1 = k := fun z => e (h1.trans z)
      have a : decide (p.1 ≠ k) = true := by simp [e]
      have b : decide (q.1 ≠ k) = true := by simp [e']
      rw [if_pos a, if_pos b]; exact .cons ⟨h1, h2⟩ ih
theorem KV.keys {kvs : List (κ × V)} {vs : List (κ × Value)} (r : KV kvs vs) : kvs.map (·.1) = vs.map (·.1) := by
  unfold KV at r
  induction r with
  | nil => rfl
  | cons h t ih => rw [List.map_cons, List.map_cons, ih, h.1]
theorem KV.length {kvs : List (κ × V)} {vs : List (κ × Value)} (r : KV kvs vs) : kvs.length = vs.length := Paired.length r
end


/-! ### a tracked dict, its keys ints and texts or tuples of these -/
/-- raw entries of a dict with tuple keys -/
abbrev KT (H : Hp) : List (List Key × V) → List (List Key × Addr × Value) → Prop := Paired fun p q => p.1 = q.1 ∧ H q.2.1 = some (.tup (p.1.map kV)) ∧ RelV p.2 q.2.2
theorem KT.val {H : Hp} {kvs : List (List Key × V)} {xs : List (List Key × Addr × Value)} (r : KT H kvs xs) (k : List Key) : RelO (valV kvs k) ((atKey xs k).map (·.2)) := by
  induction r with
  | nil => exact True.intro
  | @cons p q ps qs h t ih =>
    obtain ⟨h1, _, h2⟩ := h
    by_cases e : p.1 = k
    · have e' : q.1 = k := h1.symm.trans e
      have b : atKey (q :: qs) k = some q.2 := by simp [atKey, List.find?_cons, e']
      rw [valV_pos e, b]; exact h2
    · have e' : ¬ q.1 = k := fun z => e (h1.trans z)
      have b : atKey (q :: qs) k = atKey qs k := by simp [atKey, List.find?_cons, e']
      rw [valV_neg e, b]; exact ih
theorem KT.keeps {H H' : Hp} {kvs : List (List Key × V)} {xs : List (List Key × Addr × Value)} (r : KT H kvs xs) (ht : ∀ b ys, H b = some (.tup ys) → H' b = some (.tup ys)) : KT H' kvs xs :=
  Paired.mapP r fun _ _ z => ⟨z.1, ht _ _ z.2.1, z.2.2⟩

section
variable {P : Program} {w : World} {H : Hp} {h : Heap} {a : Addr}
end

/-- what the dict at a holds at the key y -/
def DGet (H : Hp) (a : Addr) (y : V) (r : Option V) : Prop :=
  (∃ kvs k, Rd H a (.dK kvs) ∧ y = kV k ∧ r = valV kvs k) ∨ ∃ kvs k b, Rd H a (.dT kvs) ∧ y = .ref b ∧ H b = some (.tup (k.map kV)) ∧ r = valV kvs k
/-- the heap behind a[y] = v -/
def DPut (H : Hp) (a : Addr) (y v : V) (H' : Hp) : Prop :=
  (∃ kvs k, H a = some (.dK kvs) ∧ y = kV k ∧ kvs.length < sizeLine ∧ H' = upd H a (.dK (putK kvs k v))) ∨
  ∃ kvs k b, H a = some (.dT kvs) ∧ y = .ref b ∧ H b = some (.tup (k.map kV)) ∧ kvs.length < sizeLine ∧ H' = upd H a (.dT (putK kvs k v))
theorem DGet.k {H : Hp} {a : Addr} {kvs : List (Key × V)} {k : Key} (e : H a = some (.dK kvs)) : DGet H a (kV k) (valV kvs k) := .inl ⟨kvs, k, .inl e, rfl, rfl⟩
theorem DGet.t {H : Hp} {a b : Addr} {kvs : List (List Key × V)} {k : List Key} (e : H a = some (.dT kvs)) (eb : H b = some (.tup (k.map kV))) : DGet H a (.ref b) (valV kvs k) := .inr ⟨kvs, k, b, .inl e, rfl, eb, rfl⟩
theorem DPut.k {H : Hp} {a : Addr} {kvs : List (Key × V)} {k : Key} {v : V} (e : H a = some (.dK kvs)) (hl : kvs.length < sizeLine) : DPut H a (kV k) v (upd H a (.dK (putK kvs k v))) := .inl ⟨kvs, k, e, rfl, hl, rfl⟩
theorem DPut.t {H : Hp} {a b : Addr} {kvs : List (List Key × V)} {k : List Key} {v : V} (e : H a = some (.dT kvs)) (eb : H b = some (.tup (k.map kV))) (hl : kvs.length < sizeLine) :
    DPut H a (.ref b) v (upd H a (.dT (putK kvs k v))) := .inr ⟨kvs, k, b, e, rfl, eb, hl, rfl⟩


section
variable {X : Cx} {pins : List (Addr × Obj)} {σ : St} {H : Hp} {s : Shared} {a : Addr} {y v : V} {u r : Value} {o : Option V} {A : Around} {E : Value → Shared → Prop}

end

section
variable {X : Cx} {pins : List (Addr × Obj)} {σ : St} {H : Hp} {s : Shared} {a : Addr} {kvs : List (Key × V)} {k : Key} {u : Value} {A : Around} {E : Value → Shared → Prop}
end


/-! ### readings and rules -/
/-- the element of a subscription, not a slice -/
def NoSl (i : Expr) : Prop := ∀ ov iv, subscripted i false ov iv = operate [ov, iv] (getItem ov iv)
/-- d[y] -/
def tDGet (td ty : TE) : TE := fun σ H Q => td σ H fun x H1 => ty σ H1 fun y H2 => ∃ a v, x = .ref a ∧ DGet H2 a y (some v) ∧ Q v H2
/-- y in d, y not in d -/
def tDIn (ty td : TE) : TE := fun σ H Q => ty σ H fun y H1 => td σ H1 fun x H2 => ∃ a o, x = .ref a ∧ DGet H2 a y o ∧ Q (.bl o.isSome) H2
def tDNotIn (ty td : TE) : TE := fun σ H Q => ty σ H fun y H1 => td σ H1 fun x H2 => ∃ a o, x = .ref a ∧ DGet H2 a y o ∧ Q (.bl (!o.isSome)) H2
/-- d[y] = v -/
def sDPut (td ty tv : TE) : TS := fun D σ H => tv σ H fun v H1 => td σ H1 fun x H2 => ty σ H2 fun y H3 => ∃ a H4, x = .ref a ∧ DPut H3 a y v H4 ∧ D.nx σ H4
/-- d[y] op= v -/
def sDAug (td ty tv : TE) (rd : V → V → Hp → VK → Prop) : TS := fun D σ H => td σ H fun x H1 => ty σ H1 fun y H2 => ∃ a v, x = .ref a ∧ DGet H2 a y (some v) ∧
  tv σ H2 fun y2 H3 => rd v y2 H3 fun z H4 => ∃ H5, DPut H4 a y z H5 ∧ D.nx σ H5
/-- del d[y] -/
def sDDel (td ty : TE) : TS := fun D σ H => td σ H fun x H1 => ty σ H1 fun y H2 => ∃ a kvs k, x = .ref a ∧ H2 a = some (.dK kvs) ∧ y = kV k ∧ (valV kvs k).isSome = true ∧ D.nx σ (upd H2 a (.dK (dropK kvs k)))

section
variable {X : Cx} {o i e value : Expr} {pos pos' tpos : Pos} {td ty tv : TE}
end


/-! ### displays -/
/-- {}, to be a dict of the kind that is wanted -/
def tDNewK : TE := fun _ H Q => ∀ p, H p = none → Q (.ref p) (upd H p (.dK []))
def tDNewT : TE := fun _ H Q => ∀ p, H p = none → Q (.ref p) (upd H p (.dT []))
section
variable {X : Cx} {pos : Pos}
end

/-- the pairs of a display, from the left -/
def tPairs : List (TE × TE) → St → Hp → (List (V × V) → Hp → Prop) → Prop
  | [], _, H, Q => Q [] H
  | (tk, tv) :: r, σ, H, Q => tk σ H fun x H1 => tv σ H1 fun y H2 => tPairs r σ H2 fun ps H3 => Q ((x, y) :: ps) H3
abbrev VV : List (V × V) → List (Value × Value) → Prop := Paired fun p q => RelV p.1 q.1 ∧ RelV p.2 q.2
def PPs (X : Cx) (pos : Pos) (keys : List (Option Expr)) (values : List Expr) (trs : List (TE × TE)) : Prop :=
  ∀ (pins : List (Addr × Obj)) (s : Shared) (σ : St) (H : Hp) (Q : List (V × V) → Hp → Prop), Inv X pins σ H s → tPairs trs σ H Q →
    wpAny (model X.prog X.w) X.A (evalPairs (pairTrees keys values X.env pos)) (fun vs s' => ∃ ps H', Inv X pins σ H' s' ∧ VV ps vs ∧ Q ps H') X.xe s
def mergeK (kvs more : List (Key × V)) : List (Key × V) := more.foldl (fun acc kv => putK acc kv.1 kv.2) kvs
/-- {k: v, ..} with keys ints and texts; the new dict stands empty while the pairs are made -/
def tDisp (trs : List (TE × TE)) : TE := fun σ H Q => ∀ p, H p = none → tPairs trs σ (upd H p (.dK [])) fun ps H2 => H2 p = some (.dK []) ∧ ∃ kvs : List (Key × V), ps = kvs.map (fun kv => (kV kv.1, kv.2)) ∧ kvs.length ≤ 15 ∧ Q (.ref p) (upd H2 p (.dK (mergeK [] kvs)))
/-! ### methods -/
/-- a method call o.m(e) of a built-in, with one argument: what must be seen of the text -/
structure M1 (X : Cx) (o : Expr) (m : Str) (apos : Pos) (e : Expr) (cpos : Pos) : Prop where
  base : attributeBase o m X.env (eval o X.env) = eval o X.env
  few : ((backTo cpos (starEach [e] X.env)).all (fun x => !x.1) && (backToKw cpos (keywordEach [] X.env)).all (fun x => x.1.isSome)
    && decide (([e] : List Expr).length + ([] : List Keyword).length + (if ([] : List Keyword).isEmpty then 0 else 1) < 30)) = true
  line : (apos.endLine == cpos.line) = true
  trees : backTo cpos (starEach [e] X.env) = [(false, eval e X.env)]
structure M2 (X : Cx) (o : Expr) (m : Str) (apos : Pos) (e f : Expr) (cpos : Pos) : Prop where
  base : attributeBase o m X.env (eval o X.env) = eval o X.env
  few : ((backTo cpos (starEach [e, f] X.env)).all (fun x => !x.1) && (backToKw cpos (keywordEach [] X.env)).all (fun x => x.1.isSome)
    && decide (([e, f] : List Expr).length + ([] : List Keyword).length + (if ([] : List Keyword).isEmpty then 0 else 1) < 30)) = true
  line : (apos.endLine == cpos.line) = true
  trees : backTo cpos (starEach [e, f] X.env) = [(false, eval e X.env), (false, eval f X.env)]

/-- a is a dict, whatever its keys -/
def IsD (H : Hp) (a : Addr) : Prop := (∃ kvs, Rd H a (.dK kvs)) ∨ ∃ kvs, Rd H a (.dT kvs)
section
variable {X : Cx} {pins : List (Addr × Obj)} {σ : St} {H : Hp} {s : Shared} {a : Addr} {y d : V} {u r : Value} {o : Option V} {A : Around} {E : Value → Shared → Prop}
end

def tDGet1 (td ty : TE) : TE := fun σ H Q => td σ H fun x H1 => ∃ a, x = .ref a ∧ IsD H1 a ∧ ty σ H1 fun y H2 => ∃ o, DGet H2 a y o ∧ Q (o.getD .non) H2
def tDGet2 (td ty tx : TE) : TE := fun σ H Q => td σ H fun x H1 => ∃ a, x = .ref a ∧ IsD H1 a ∧ ty σ H1 fun y H2 => tx σ H2 fun z H3 => ∃ o, DGet H3 a y o ∧ Q (o.getD z) H3
/-- d.pop(k): there; d.pop(k, x): there or not -/
def tDPop1 (td ty : TE) : TE := fun σ H Q => td σ H fun x H1 => ∃ a, x = .ref a ∧ IsD H1 a ∧ ty σ H1 fun y H2 => ∃ kvs k v, H2 a = some (.dK kvs) ∧ y = kV k ∧ valV kvs k = some v ∧ Q v (upd H2 a (.dK (dropK kvs k)))
def tDPop2 (td ty tx : TE) : TE := fun σ H Q => td σ H fun x H1 => ∃ a, x = .ref a ∧ IsD H1 a ∧ ty σ H1 fun y H2 => tx σ H2 fun z H3 => ∃ kvs k, H3 a = some (.dK kvs) ∧ y = kV k ∧
  (∀ v, valV kvs k = some v → Q v (upd H3 a (.dK (dropK kvs k)))) ∧ (valV kvs k = none → Q z H3)
section
variable {X : Cx} {o e f : Expr} {apos cpos : Pos} {td ty tx : TE}
end

/-! ### dict(d): a copy -/
section
variable {X : Cx} {pins : List (Addr × Obj)} {σ : St} {H : Hp} {s : Shared} {a : Addr} {kvs : List (Key × V)} {A : Around} {E : Value → Shared → Prop}
end


section
variable {X : Cx} {pins : List (Addr × Obj)} {σ : St} {H : Hp} {s : Shared} {a : Addr} {y : V} {u : Value} {A : Around} {E : Value → Shared → Prop}
end
end L2

namespace Att
open PySem PySem.W PySem.Calls PyProof.Rows

/-! ### the script -/
theorem ints_of_wellAll {P : Params} {h : Heap} : ∀ (ns : List Int) (vs : List Value), WellAll P h vs (ns.map WData.int) → IntsAre vs ns := by
  intro ns
  induction ns with
  | nil =>
    intro vs w
    rw [List.map_nil] at w
    cases w
    exact .nil
  | cons n ns ih =>
    intro vs w
    rw [List.map_cons] at w
    cases w with
    | cons a b =>
      cases a
      exact .cons _ _ (ih _ b)

theorem script_of {l : OpenLaw} {n : Nat} (hn : l.most = some n) {P : Params} {h : Heap} {args : List WData} {vals : List Value}
    (hpre : l.row.toRowW.claim.pre args = true) (hwl : WellAll P h vals args) :
    ∃ a vs ns, vals = [Value.ref a] ∧ args = [WData.list (ns.map WData.int)] ∧ h.get? a = some { cls := .type "list", data := .seq vs.toArray } ∧ IntsAre vs ns ∧ ns.length ≤ n := by
  have hsh : WShape.hasAll [] args [.list .int] = true := (pre_splitW hpre).1
  have hc : l.pre.holds [] { args := args } = true := (pre_splitW hpre).2
  obtain ⟨d, r, rfl, h1, h2⟩ := hasAllW_cons hsh
  obtain rfl := hasAllW_nil h2
  obtain ⟨xs, rfl, h3⟩ := hasW_list h1
  obtain ⟨ns, rfl⟩ := items_int h3
  have hlen : ns.length ≤ n := by
    unfold OpenLaw.pre at hc
    have h4 : (WTm.not (.lt (.lit (.int (n : Int))) (.len (.arg 0)))).holds [] { args := [.list (ns.map .int)] } = true := by
      have h4 := (holds_andW hc).1
      rw [hn] at h4
      exact h4
    have h5 := condW_of h4 (w_not (w_lt w_lit (w_len_list (w_arg rfl))))
    rw [List.length_map] at h5
    refine Nat.le_of_not_lt fun q => ?_
    have q' : (n : Int) < ((ns.length : Nat) : Int) := by omega
    first
      | (rw [decide_eq_true q'] at h5; exact absurd h5 (by decide))
      | (simp at h5; omega)
  cases hwl with
  | cons w1 w2 =>
    cases w2
    cases w1 with
    | list ho hall => exact ⟨_, _, ns, rfl, rfl, ho, ints_of_wellAll ns _ hall, hlen⟩

theorem post_true (l : OpenLaw) (args : List WData) : l.row.toRowW.claim.post args (.bool true) args = true :=
  postW_of (r := l.row.toRowW) (X := (true == true))
    (show WShape.has [] (.bool true) .bool = true by first | rfl | decide | simp [WShape.has, WShape.arms, WShape.armsAll])
    (show (WTm.eq .res (.lit (.bool true))).value [] { args := args, res := some (.bool true), after := args } = some (.bool (true == true)) from w_eq_bool (w_res rfl) w_lit) rfl

/-! ### the attachment: holds_open's last premise (the goal 'hc' behind k_head) from a wpAny of the law's body -/
/-- the same from a codeAny of the CALL (for a layer whose function contracts speak of calls) -/
theorem attach_call {l : OpenLaw} {n : Nat} {q : Program} {loose : List Str} {XP : (Str → Option Value) → Heap → Prop} {YP : World → Heap → Prop} {d : DefRec}
    (hn : l.most = some n) (hdf : d.params.defaults = [])
    (call : ∀ (w : World) (s₀ s₁ : Shared) (mg mb : Str → Option Value) (fa : Addr) (o : Obj) (pm cd doc : Value) (a : Addr) (vs : List Value) (ns : List Int),
      Ground q loose [] XP w s₀ mg mb s₁.heap → YP w s₁.heap →
      s₁.heap.get? fa = some o → o.data = .func (docDef d.name d.params d.body d.scope pm cd doc) → s₁.heap.CodeRec cd d.name → mg d.name = some (.ref fa) →
      s₁.heap.get? a = some { cls := .type "list", data := .seq vs.toArray } → IntsAre vs ns → ns.length ≤ n → s₁.gens = #[] →
      codeAny (model l.prog w) callerA (.call (.ref fa) ⟨[.ref a], []⟩) (fun r s' => r = .ok (.ret (.bool true)) ∧ OldK s₁.heap s'.heap ∧ s'.os = s₁.os ∧ AllBare s'.gens) s₁) :
    WalkO q loose XP YP l.row.toRowW d [] (fun f vs => PySem.call f vs) := by
  intro w s₀ s₁ mg mb G Y fa o pm cd doc dV kV ho hd hcd hD hmg hg args vals as hpre hlay hrd hwl hlo
  obtain rfl : dV = .none := Dflts.none hD hdf
  obtain rfl : kV = .none := Dflts.noKw hD
  obtain ⟨a, vs, ns, rfl, rfl, hobj, hints, hlen⟩ := script_of hn hpre hwl
  refine enter_call (codeAny_mono (call w s₀ s₁ mg mb fa o pm cd doc a vs ns G Y ho (fd_plain hd) hcd hmg hobj hints hlen hg) fun r s' hq => ?_)
  obtain ⟨rfl, h2, h3, h4⟩ := hq
  exact ⟨.inl ⟨.bool true, .bool true, [], rfl, fun _ => rfl, .bool true, post_true l _, fun _ => ⟨List.Pairwise.nil, fun _ hm => (nomatch hm)⟩⟩, h2, h3, h4⟩

/-! ### rules over ANY heap (no ledger) from facts about the written part K: the library's own take a ledger (News) for what they write -/
section
variable {prog : Program} {w : World} {A : Around} {E : Value → Shared → Prop} {s : Shared} {K : Frag}

/-! the whole heap as the ledger: makes every rule that writes through a ledger a rule over any heap -/
def noObjs (h : Heap) : Heap := { h with objs := #[] }
def ledger (h : Heap) (L d : Addr) : List (Addr × Obj) := (List.range h.objs.size).filterMap fun a => if a = L ∨ a = d then none else (h.get? a).map fun o => (a, o)
end
end Att

namespace L2
open PySem PySem.Spec PyProof.Rows

theorem vals_ints : ∀ {vs : List Value} {ns : List Int}, IntsAre vs ns → Vals (ns.map V.int) vs
  | _, _, .nil => .nil
  | _, _, .cons n t h => .cons ⟨t, rfl⟩ (vals_ints h)

/-- nothing is tracked but the script, known to the object (or it is an object of the module) -/
def Only (H : Hp) : Prop := ∀ b, H b = none ∨ ∃ o xs, H b = some (.frz o (.lst xs))

/-- THE HEAD: the law's promise, at the heap behind the top. F, the promise of the law's def, may use that base is part of the heap (so K.In base, base.Ns mainGlobals mg stand in Mod) -/
theorem law_call {P : Program} {w : World} {K : PySem.W.Frag} {mg mb : Str → Option Value} {CX : CXT} {k : Nat} {fa a : Addr} {fd : FuncData} {x : Str} {sp : Sp} {s₁ : Shared} {vs : List Value} {ns : List Int}
    (KX : K.In s₁.heap) (hns : s₁.heap.Ns mainGlobals mg) (hb : s₁.heap.Ns builtinsNs mb) (hbb : ∀ x : Str, x ≠ "__name__" → mb x = bootBuiltins x) (hlim : s₁.heap.NoLimit) (hbm : ∃ bm ob, mg "__builtins__" = some (.ref bm) ∧ bm ≠ builtinsNs ∧ s₁.heap.get? bm = some ob ∧ ob.cls = .type "module" ∧ ob.dict = some builtinsNs ∧ ob.data = .plain) (hg : s₁.gens = #[])
    (ha : s₁.heap.get? a = some { cls := .type "list", data := .seq vs.toArray }) (hi : IntsAre vs ns) (hl : ns.length ≤ sizeLine) (hr : Room k callerA)
    (F : ∀ base : Heap, K.In base → base.Ns mainGlobals mg → FnOk P w K mg base CX k fa fd [x] sp) (hbind : ∀ (s : Shared) (u : Value), BindsTo s fd ⟨[u], []⟩ [(x, u)])
    (hsp : ∀ H : Hp, Only H → SqL K H a (ns.map V.int) → sp [.ref a] H (fun v _ => v = .bl true) fun _ _ _ => False)
    (hCX : ∀ H e s', CX [] H s₁ (fun _ _ _ => False) e s' → False) :
    codeAny (model P w) callerA (.call (.ref fa) ⟨[.ref a], []⟩) (fun r s' => r = .ok (.ret (.bool true)) ∧ OldK s₁.heap s'.heap ∧ s'.os = s₁.os ∧ AllBare s'.gens) s₁ := by
  have rv := vals_ints hi
  have lenV := hi.length
  -- from an abstract heap in which nothing but the script may be tracked
  have core : ∀ H : Hp, Only H → SqL K H a (ns.map V.int) → HOk P w H s₁.heap → (∀ b, H b ≠ none → b = a) → (H a ≠ none → K.lookup a = none) →
      codeAny (model P w) callerA (.call (.ref fa) ⟨[.ref a], []⟩) (fun r s' => r = .ok (.ret (.bool true)) ∧ OldK s₁.heap s'.heap ∧ s'.os = s₁.os ∧ AllBare s'.gens) s₁ := by
    intro H hO hS hok hA hK
    have base_of : ∀ {b : Addr} {o : Obj}, s₁.heap.get? b = some o → H b = none → (hidT s₁.heap H).get? b = some o := fun e n => hidT_get e n
    have noA : ∀ {b : Addr} {o : Obj} {es : Array DictEntry} {ep : Nat}, s₁.heap.get? b = some o → o.data = .dict es ep → H b = none := fun {b o es ep} e d => by
      cases q : H b with
      | none => rfl
      | some u =>
        have e' : b = a := hA b (by rw [q]; simp)
        subst e'
        rw [ha] at e; cases e
        have d' : Data.seq vs.toArray _ = Data.dict es ep := d
        cases d'
    have nsK : ∀ {b : Addr} {m : Str → Option Value}, s₁.heap.Ns b m → (hidT s₁.heap H).Ns b m := fun {b m} ⟨o, es, ep, e, d, r⟩ => ⟨o, es, ep, base_of e (noA e d), d, r⟩
    have hKb : K.In (hidT s₁.heap H) := fun b o e => base_of (KX b o e) (by
      cases q : H b with
      | none => rfl
      | some u =>
        have e' : b = a := hA b (by rw [q]; simp)
        subst e'
        rw [hK (by rw [q]; simp)] at e; cases e)
    have hM : Mod K mg (hidT s₁.heap H) := ⟨hKb, nsK hns, ⟨mb, nsK hb, hbb⟩, let ⟨mc, h1, h2⟩ := hlim; ⟨mc, nsK h1, h2⟩, by
      obtain ⟨bm, ob, b1, b2, b3, b4, b5⟩ := hbm
      refine ⟨bm, ob, b1, b2, base_of b3 ?_, b4, b5⟩
      cases q : H bm with
      | none => rfl
      | some u =>
        have e' : bm = a := hA bm (by rw [q]; simp)
        subst e'
        rw [ha] at b3
        cases b3
        injection b4 with b4
        exact absurd b4 (by decide)⟩
    have e0 : Env0 P w K mg (hidT s₁.heap H) callerA [] s₁ H := ⟨rfl, hM, fun b o e => of_hidT e, Nat.le_of_eq (hidT_size _ _), trivial, fun b hb => absurd (show b ∈ ([] : List Addr) from hb) (by simp), hok, .of_eq hg⟩
    refine codeAny_mono ((F _ hKb (nsK hns)).run callerA [] s₁ H ⟨[.ref a], []⟩ [.ref a] [.ref a] _ _ hr e0 (hbind s₁ (.ref a)) (.cons rfl .nil) (hsp H hO hS)) fun r s' h => ?_
    cases r with
    | error e => exact (hCX H e s' h).elim
    | ok fl =>
      cases fl with
      | next => exact False.elim h
      | brk => exact False.elim h
      | cont => exact False.elim h
      | ret u =>
        obtain ⟨v, H', os, bare, un, hok', r', q⟩ := h
        have q' : v = .bl true := q
        subst q'
        obtain rfl : u = Value.bool true := r'
        refine ⟨rfl, OldK.of_keep fun b o e => ?_, os, bare⟩
        cases q : H b with
        | none => exact un.keep b o e q (by intro z; exact absurd (show b ∈ ([] : List Addr) from z) (by simp)) (by simp)
        | some u =>
          rcases hO b with z | ⟨ob, xs, z⟩
          · rw [q] at z; cases z
          · have z2 := un.frzs b ob _ z
            obtain ⟨e1, _⟩ := hok b _ z
            obtain ⟨e2, _⟩ := hok' b _ z2
            rw [e] at e1; cases e1
            exact e2
  cases hk : K.lookup a with
  | some o =>
    -- the script is one of the module's own objects
    have e := KX a o hk
    rw [ha] at e
    cases e
    refine core (fun _ => none) (fun _ => .inl rfl) (.inr ⟨_, vs.toArray, _, hk, rfl, rfl, rfl, by rw [List.size_toArray, lenV]; exact hl, by simpa using rv⟩) (fun b u z => by have z' : (none : Option HO) = some u := z; cases z') (fun b z => absurd rfl z) fun z => absurd rfl z
  | none =>
    refine core (fun b => if b = a then some (.frz { cls := .type "list", data := .seq vs.toArray } (.lst (ns.map V.int))) else none) (fun b => ?_) (.inl (.inr ⟨{ cls := .type "list", data := .seq vs.toArray }, if_pos rfl⟩)) (fun b u z => ?_) (fun b z => ?_) fun _ => hk
    · by_cases hb : b = a
      · exact .inr ⟨_, _, if_pos hb⟩
      · exact .inl (if_neg hb)
    · by_cases hb : b = a
      · have z' := (if_pos hb).symm.trans z
        cases z'
        subst hb
        exact ⟨ha, by rw [List.length_map]; exact hl, vs, _, rv, ha⟩
      · have z' := (if_neg hb).symm.trans z
        cases z'
    · by_cases hb : b = a
      · exact hb
      · exact absurd (if_neg hb) z
end L2

namespace L2
open PySem PySem.Spec PyProof.Rows

abbrev KOf {K : PySem.W.Frag} {h : Heap} (_ : K.In h) : PySem.W.Frag := K

/-- the goal that k_head leaves (case hc), from the law's promise. F gives the function object fd (K's own) once, then the promise over every base -/
theorem walk_of {l : PySem.W.OpenLaw} {n k : Nat} {q : Program} {loose : List Str} {XP : (Str → Option Value) → Heap → Prop} {YP : World → Heap → Prop} {d : DefRec} {K : Params → PySem.W.Frag} {CX : World → CXT} {sp : World → Sp} {x : Str}
    (hn : l.most = some n) (hn2 : n ≤ sizeLine) (hdf : d.params.defaults = []) (hr : Room k callerA)
    (hY : ∀ (w : World) (h : Heap), YP w h → (K w.params).In h)
    (F : ∀ (w : World) (mg : Str → Option Value) (fa : Addr) (h : Heap), (K w.params).In h → h.Ns mainGlobals mg → mg d.name = some (.ref fa) →
      ∃ fd : FuncData, (∀ (s : Shared) (u : Value), BindsTo s fd ⟨[u], []⟩ [(x, u)]) ∧
        ∀ base : Heap, (K w.params).In base → base.Ns mainGlobals mg → FnOk l.prog w (K w.params) mg base (CX w) k fa fd [x] (sp w))
    (hsp : ∀ (w : World) (H : Hp) (a : Addr) (ns : List Int), ns.length ≤ n → Only H → SqL (K w.params) H a (ns.map V.int) → sp w [.ref a] H (fun v _ => v = .bl true) fun _ _ _ => False)
    (hCX : ∀ (w : World) (H : Hp) (s : Shared) (e : Value) (s' : Shared), CX w [] H s (fun _ _ _ => False) e s' → False) :
    PySem.W.WalkO q loose XP YP l.row.toRowW d [] (fun f vs => PySem.call f vs) := by
  refine Att.attach_call hn hdf fun w s₀ s₁ mg mb fa o pm cd doc a vs ns G Y ho hd hcd hmg hobj hints hlen hg => ?_
  have KX := hY w _ Y
  obtain ⟨fd, hb, hF⟩ := F w mg fa _ KX G.T.g hmg
  exact law_call KX G.T.g G.T.b G.T.builtins G.T.nolimit G.T.bmain hg hobj hints (Nat.le_trans hlen hn2) hr hF hb (fun H hO hS => hsp w H a ns hlen hO hS) fun H e s' => hCX w H s₁ e s'
end L2

/- THE LAST THEOREM (shape; LID, My.* are yours):
   My.Adr: a structure of the addresses that your layer names (classes, functions); My.Txt K t: a structure (Prop) of the equations over K;
   My.txt_mk : {K} {implicit addresses ..} (e1 : nsIn K mainGlobals "law" = some (some (.ref f))) (e2 : K.lookup f = some ⟨oc, od, .func (fnOf "law" "law" params body scope dV kV doc pm an cdv ct), sl⟩) (e3 : codeIn K cdv "law" = true) .. : ∃ t, My.Txt K t

set_option maxRecDepth 100000 in
set_option maxHeartbeats 0 in
theorem PySem.Challenge.cw_LID_holds : PySem.Challenge.rw_LID.Holds := by
  w_on; o_law; k_head; (case hw => w_witness2)
  k_fill
  refine L2.walk_of (l := PySem.Challenge.rw_LID) (n := 63) (k := 40) (x := "script") (CX := fun w => ..) (sp := fun _ => My.sp_law) rfl (by decide) rfl ⟨rfl, by decide, by decide⟩ (fun w h Y => PySem.W.kIn_of Y) ?F ?S ?C
  case F =>
    intro w mg fa h KX G hmg
    have T : ∃ t, My.Txt (L2.KOf KX) t := by
      dsimp only [L2.KOf]                          -- K must stand as «<heap const> w.params» for k_is
      refine' My.txt_mk ?e1 ?e2 ?e3 ..
      (case e1 => PySem.W.k_is)                    -- in the order: a name -> its address -> its object -> its parts
      (case e2 => PySem.W.k_is)
      ..
    obtain ⟨t, T⟩ := T
    have e0 := hmg.symm.trans (PySem.W.mg_of KX G T.law)
    cases e0                                       -- fa is the law's own address
    exact ⟨_, fun s u => .of_eq rfl, fun base kb nb => My.law_fn T kb nb⟩     -- if «.of_eq rfl» comes too early: refine' ⟨_, ?b, fun base kb nb => My.law_fn T kb nb⟩; exact fun s u => .of_eq rfl
  case S => exact fun w H a ns hl hO hS => ..
  case C => exact ..
(the tactic k_is has no namespace: write k_is) -/

/-! SHORT WORDS over the layer: a def of the text, its body, what a loop and a test want. -/
namespace L2
open PySem PySem.Spec PyProof.Rows

/-! ### the text by places -/
/-- the j-th statement of a class's body -/
def inClass (s : Stmt) (j : Nat) : Stmt := match s with
  | .ClassDef _ _ _ body _ _ _ _ _ _ _ => body.getD j (.Pass ⟨0, 0, 0, 0⟩)
  | _ => .Pass ⟨0, 0, 0, 0⟩
def defArgs (s : Stmt) : Arguments := match s with
  | .FunctionDef _ a _ _ _ _ _ _ _ _ => a
  | _ => { posonlyargs := [], args := [], vararg := none, kwonlyargs := [], kw_defaults := [], kwarg := none, defaults := [] }
def defBody (s : Stmt) : List Stmt := match s with
  | .FunctionDef _ _ b _ _ _ _ _ _ _ => b
  | _ => []
def defScope (s : Stmt) : Scope := match s with
  | .FunctionDef _ _ _ _ _ _ sc _ _ _ => sc
  | _ => { kind := .function, names := [], isGenerator := false, isCoroutine := false }

/-! ### no exception leaves a def -/
abbrev CX0 : CXT := fun _ _ _ _ _ _ => False
abbrev E0 : XK := fun _ _ _ => False
/-! ### a def (or method) of the text as it stands behind the top -/
structure Fun (K : PySem.W.Frag) (x qual : Str) (st : Stmt) (f : Addr) (fd : FuncData) : Prop where
  ex : ∃ (oc : Value) (od : Option Addr) (kV doc pm : Value) (an : Option Addr) (cdv ct : Value) (osl : Array (Option Value)),
    fd = PySem.W.fnOf x qual (defArgs st) (defBody st) (defScope st) .none kV doc pm an cdv ct ∧ K.lookup f = some ⟨oc, od, .func fd, osl⟩ ∧ PySem.W.codeIn K cdv qual = true
  kp : PySem.W.keepIn K (.ref f) = true
section
variable {P : Program} {w : World} {K : PySem.W.Frag} {mg : Str → Option Value} {base : Heap}
/-- THE RULE for a def: its body as a term of rules, and the reading of that term -/
theorem Fun.ok {x qual : Str} {st : Stmt} {f : Addr} {fd : FuncData} {N ps : List Str} {k : Nat} {sp : Sp} (F : Fun K x qual st f fd) (S : FnScope N ps (defScope st)) (len : ∀ vs H Q E, sp vs H Q E → vs.length = ps.length)
    (hbody : ∀ (cdv : Value) (A : Around) (outer : List Env) (s : Shared) (H : Hp) (vs : List V) (Q : VK) (E : XK), Room k (A.deeper (envOfC qual (defScope st) s.heap.objs.size f cdv)) → sp vs H Q E →
      ∃ t, PSs (cxOf CX0 P w K mg base N qual (defScope st) f cdv A outer s H E).nox (defBody st) t ∧ t { nx := fun _ H' => Q .non H', rt := Q } (start N vs) H) : FnOk P w K mg base CX0 (k + 1) f fd ps sp := by
  obtain ⟨oc, od, kV, doc, pm, an, cdv, ct, osl, rfl, lk, hcd⟩ := F.ex
  refine fn_of lk hcd S len fun A outer s H vs Q E hr hsp => ?_
  obtain ⟨t, h, q⟩ := hbody cdv A outer s H vs Q E hr hsp
  exact ⟨t, h.nox, q⟩
/-- how its arguments bind (no defaults): h is «fun _ _ _ _ _ _ us hl => match us, hl with | [_, _], _ => rfl», one _ a parameter -/
theorem Fun.binds {x qual : Str} {st : Stmt} {f : Addr} {fd : FuncData} {ps : List Str} (F : Fun K x qual st f fd)
    (h : ∀ (kV doc pm : Value) (an : Option Addr) (cdv ct : Value) (us : List Value), us.length = ps.length → bindArgs (PySem.W.fnOf x qual (defArgs st) (defBody st) (defScope st) .none kV doc pm an cdv ct) ⟨us, []⟩ = pure (ps.zip us)) : Binds K fd ps [] := by
  obtain ⟨oc, od, kV, doc, pm, an, cdv, ct, osl, rfl, lk, hcd⟩ := F.ex
  exact .all (h kV doc pm an cdv ct)
theorem fun_mk {x qual : Str} {st : Stmt} {f : Addr} {oc : Value} {od an : Option Addr} {osl : Array (Option Value)} {kV doc pm cdv ct : Value} (l : K.lookup f = some ⟨oc, od, .func (PySem.W.fnOf x qual (defArgs st) (defBody st) (defScope st) .none kV doc pm an cdv ct), osl⟩)
    (c : PySem.W.codeIn K cdv qual = true) (k : PySem.W.keepIn K (.ref f) = true) : Fun K x qual st f (PySem.W.fnOf x qual (defArgs st) (defBody st) (defScope st) .none kV doc pm an cdv ct) := ⟨⟨oc, od, kV, doc, pm, an, cdv, ct, osl, rfl, l, c⟩, k⟩
end
/-! ### expressions in short: the name that stands in the i-th slot -/
section
variable {X : Cx}
theorem pv (i : Nat) {x : Str} {pos : Pos} (hN : X.N[i]? = some x := by rfl) (hv : Vis X.env.scope x := by first | exact Or.inl rfl | exact Or.inr (Or.inl rfl) | exact Or.inr (Or.inr rfl)) (hd : (x == ("__debug__" : Str)) = false := by decide)
    (hcd : (x == ("__classdict__" : Str)) = false := by decide) : PE X (.Name x pos) (tVar i) := pe_var hN hv hd hcd
end

/-! ### tests -/
theorem iteF {A B : Prop} (h : B) : if false = true then A else B := by
  rw [if_neg Bool.false_ne_true]
  exact h
theorem iteT {A B : Prop} (h : A) : if true = true then A else B := by
  rw [if_pos rfl]
  exact h
/-! ### heaps -/
/-- all that was tracked is as it was -/
def Same (H H' : Hp) : Prop := ∀ b o, H b = some o → H' b = some o
theorem Same.refl (H : Hp) : Same H H := fun _ _ h => h
theorem Same.trans {H H1 H2 : Hp} (a : Same H H1) (b : Same H1 H2) : Same H H2 := fun c o h => b c o (a c o h)
theorem Same.free {H H' : Hp} (e : Same H H') {l : Addr} (h : H' l = Option.none) : H l = Option.none := by
  cases q : H l with
  | none => rfl
  | some o =>
    rw [e l o q] at h
    cases h
theorem Same.seq {K : PySem.W.Frag} {H H' : Hp} {a : Addr} {xs : List V} (e : Same H H') (h : SqL K H a xs) : SqL K H' a xs := by
  rcases h with (h | ⟨o, h⟩) | h
  · exact .inl (.inl (e _ _ h))
  · exact .inl (.inr ⟨o, e _ _ h⟩)
  · exact .inr h

/-! ### a dict's pairs: keys that differ -/
section
variable {κ : Type} [DecidableEq κ]
end
end L2

set_option Elab.async false
set_option linter.all false
set_option maxRecDepth 100000
/-! ## errors: the object of an error of an own class, and what its passing changes -/
namespace L2
open PySem PySem.Spec PyProof.Rows

/-- what the passing of an error changes: of the frames at fs the slots; of the records that were laid since n and are not tracked, anything -/
structure Pass (fs : List Addr) (n : Nat) (H : Hp) (h h' : Heap) : Prop where
  keep : ∀ b o, h.get? b = some o → b ∉ fs → (b < n ∨ H b ≠ none ∨ ∀ vs, o.data ≠ .fields vs) → h'.get? b = some o
  slot : ∀ b o, h.get? b = some o → b ∈ fs → ∃ sl, h'.get? b = some { o with slots := sl }
  there : ∀ b o, h.get? b = some o → ∃ o', h'.get? b = some o'
theorem Pass.refl {fs : List Addr} {n : Nat} {H : Hp} {h : Heap} : Pass fs n H h h := ⟨fun _ _ e _ _ => e, fun _ o e _ => ⟨o.slots, e⟩, fun _ o e => ⟨o, e⟩⟩
theorem Pass.trans {fs : List Addr} {n : Nat} {H : Hp} {h h1 h2 : Heap} (x : Pass fs n H h h1) (y : Pass fs n H h1 h2) : Pass fs n H h h2 :=
  ⟨fun b o e f g => y.keep b o (x.keep b o e f g) f g, fun b o e f => by
    obtain ⟨sl, e1⟩ := x.slot b o e f
    obtain ⟨sl2, e2⟩ := y.slot b _ e1 f
    exact ⟨sl2, e2⟩, fun b o e => by
    obtain ⟨o1, e1⟩ := x.there b o e
    exact y.there b o1 e1⟩

/-- the head of its traceback: none yet, or a record with the mark fl -/
def Head (n : Nat) (H : Hp) (h : Heap) (a : Addr) (vs : Array Value) (fl : Value) : Prop :=
  (vs[1]? = some .none ∧ fl = .none) ∨ ∃ T oT ts, vs[1]? = some (.ref T) ∧ n ≤ T ∧ H T = none ∧ T ≠ a ∧ h.get? T = some oT ∧ oT.data = .fields ts ∧ ts[3]? = some fl
/-- the object of an error: made since n, not tracked, its class C, its dict dx -/
structure Err (n : Nat) (H : Hp) (h : Heap) (a : Addr) (C : Value) (dx : Option Addr) (fl : Value) : Prop where
  new : n ≤ a
  un : H a = none
  obj : ∃ oe vs, h.get? a = some oe ∧ oe.cls = C ∧ oe.dict = dx ∧ oe.data = .fields vs ∧ 1 < vs.size ∧ Head n H h a vs fl

section
variable {M : Model} {A : Around} {E : Value → Shared → Prop} {s : Shared} {env : Env} {outer : List Env} {base : Heap} {n : Nat} {H : Hp} {a L : Addr} {C : Value} {dx : Option Addr} {fl : Value}

end

section
variable {X : Cx} {pins : List (Addr × Obj)} {σ : St} {H : Hp} {s : Shared} {h' : Heap}
open Classical in
end

/-! ### an error in a context; how it lies behind a call -/
theorem Head.mono {n m : Nat} {H : Hp} {h : Heap} {a : Addr} {vs : Array Value} {fl : Value} (x : Head n H h a vs fl) (hm : m ≤ n) : Head m H h a vs fl := by
  rcases x with x | ⟨T, oT, ts, e1, nT, r⟩
  · exact .inl x
  · exact .inr ⟨T, oT, ts, e1, Nat.le_trans hm nT, r⟩
theorem Err.mono {n m : Nat} {H : Hp} {h : Heap} {a : Addr} {C : Value} {dx : Option Addr} {fl : Value} (x : Err n H h a C dx fl) (hm : m ≤ n) : Err m H h a C dx fl := by
  obtain ⟨nw, un, oe, vs, ea, ec, ed, edat, sz, hd⟩ := x
  exact ⟨Nat.le_trans hm nw, un, oe, vs, ea, ec, ed, edat, sz, hd.mono hm⟩

/-- an error that is under way in the body: its object, the state, and what is wanted of it -/
def XS (X : Cx) (E : XK) (e : Value) (s : Shared) : Prop :=
  ∃ σ H a C dx fl, e = .ref a ∧ Inv X [] σ H s ∧ Err X.s₀.heap.objs.size H s.heap a C dx fl ∧ (fl = .none ∨ fl = rawInt X.env.locals) ∧ E C dx H
/-- how an error lies behind a call -/
def CXE (P : Program) (w : World) : CXT := fun outer H s E e s' =>
  ∃ a C dx H', e = .ref a ∧ s'.os = s.os ∧ AllBare s'.gens ∧ Un (frs outer) [] H H' s.heap s'.heap ∧ HOk P w H' s'.heap ∧ Err s.heap.objs.size H' s'.heap a C dx .none ∧ E C dx H'
theorem passE0 {X : Cx} {P : Program} {w : World} : Passes (CXE P w) X E0 := fun _ _ _ _ _ _ _ h => by
  obtain ⟨_, _, _, _, _, _, _, _, _, _, q⟩ := h
  exact q.elim

section
variable {X : Cx} {E : XK}
/-- the body is a def's own, with its frame -/
structure Own (X : Cx) : Prop where
  stk : X.stack = X.env :: X.outer
  frm : X.env.frame = some X.env.locals
  pn : X.pn = []

end

section
variable {X : Cx} {E : XK}
end
/-! ### an error is made by its class's own __init__ -/
/-- the object of a new error -/
abbrev errObj (C : Addr) (t : Addr) : Obj := { cls := .ref C, data := .fields #[.ref t, .none, .none, .none, .bool false, .none] }
abbrev argObj (us : List Value) : Obj := { cls := .type "tuple", data := .seq us.toArray }
section
variable {R : Result → Shared → Prop} {prog : Program} {w : World} {A : Around} {h : Heap} {os : OsState} {g : Array GenState} {d : Drawn} {t : Nat}
variable {nm q : Str} {C N f : Addr} {bs bm bmB : List Value} {hdct : Bool} {sn : List Str} {sub : List Value} {ab : Bool} {col : Option Bool} {dd : Option Addr} {k0 k1 k2 k3 k5 : Option Value} {B newId initId : String} {us : List Value}

end
end L2

namespace L2
open PySem PySem.Spec PyProof.Rows
open PySem.Builtin PySem.Builtin.ObjectAttr
/-! ### the first attribute of a new error -/
section
variable {E : Value → Shared → Prop} {prog : Program} {w : World} {A : Around} {h : Heap} {os : OsState} {g : Array GenState} {d : Drawn} {t : Nat}
variable {nm q : Str} {C N x : Addr} {bs bm : List Value} {sn : List Str} {sub : List Value} {ab : Bool} {col : Option Bool} {dd : Option Addr} {k0 k1 k2 k3 k5 : Option Value} {newId : String} {o : Obj} {name : Str} {v : Value}

end
end L2

namespace L2
open PySem PySem.Spec PyProof.Rows
/-! ### an error is tracked no more, and tracked again -/
def cut (H : Hp) (a : Addr) : Hp := fun b => if b = a then none else H b
theorem cut_same {H : Hp} {a : Addr} : cut H a a = none := by unfold cut; rw [if_pos rfl]
theorem cut_ne {H : Hp} {a b : Addr} (h : b ≠ a) : cut H a b = H b := by unfold cut; rw [if_neg h]
section
variable {X : Cx} {pins : List (Addr × Obj)} {σ : St} {H : Hp} {s : Shared} {a : Addr} {φ : Heap → Prop}
theorem HOk.cut {P : Program} {w : World} {h : Heap} (x : HOk P w H h) (ea : H a = some (.ext φ)) : HOk P w (cut H a) h := fun b o e => by
  have hb : b ≠ a := fun q => by subst q; rw [cut_same] at e; cases e
  rw [cut_ne hb] at e
  have keep : ∀ c u, H c = some u → u ≠ .ext φ → L2.cut H a c = some u := fun c u q ne => by
    rw [cut_ne fun z => ne ?_]
    · exact q
    · subst z; rw [ea] at q; cases q; rfl
  exact (x b o e).stay (fun c u _ q => q) (fun c q => keep c _ q (by simp)) fun c xs q => keep c _ q (by simp)
theorem Inv.cut (I : Inv X pins σ H s) (ea : H a = some (.ext φ)) : Inv X pins σ (cut H a) s := by
  have no : ∀ b, H b = none → L2.cut H a b = none := fun b e => by
    by_cases q : b = a
    · subst q; exact cut_same
    · rw [cut_ne q]; exact e
  have keep : ∀ c u, H c = some u → u ≠ .ext φ → L2.cut H a c = some u := fun c u q ne => by
    rw [cut_ne fun z => ne ?_]
    · exact q
    · subst z; rw [ea] at q; cases q; rfl
  refine ⟨I.ok, I.os, I.bare, ⟨I.base.keep, I.base.slot, fun b o e n hx => no b (I.base.free b o e n hx), I.base.there, fun b xs q => keep b _ (I.base.tups b xs q) (by simp), fun b o u q => keep b _ (I.base.frzs b o u q) (by simp), fun b ps q => ?_⟩,
    I.loc, I.cell, no _ I.free, fun x c h => no _ (I.freeC x c h), fun p hp => ?_, I.hok.cut ea, I.len⟩
  · obtain ⟨m, e⟩ := I.base.tbls b ps q
    exact ⟨m, keep b _ e (by simp)⟩
  · obtain ⟨p1, p2, p3, p4, p5⟩ := I.pin p hp
    exact ⟨p1, no _ p2, p3, p4, p5⟩
/-- an error that is held: its class, its dict -/
abbrev errH (a : Addr) (C : Value) (dx : Option Addr) : HO := .ext fun h => ∃ o vs, h.get? a = some o ∧ o.cls = C ∧ o.dict = dx ∧ o.data = .fields vs
theorem Inv.held {C : Value} {dx : Option Addr} {fl : Value} (I : Inv X [] σ H s) (hp : X.pn = []) (er : Err X.s₀.heap.objs.size H s.heap a C dx fl) : Inv X [] σ (upd H a (errH a C dx)) s := by
  obtain ⟨new, un, oe, vs, ea, ec, ed, edat, sz, hd⟩ := er
  have ne : ∀ b, H b ≠ none → b ≠ a := fun b h q => by subst q; exact h un
  have keep : ∀ c u, H c = some u → upd H a (errH a C dx) c = some u := fun c u q => by
    rw [upd_ne (ne c (by rw [q]; simp))]; exact q
  have nl : X.env.locals ≠ a := fun q => by
    obtain ⟨m, ⟨o2, es, ep, e2, d2, _⟩, _⟩ := I.loc
    rw [q, ea] at e2; cases e2
    rw [edat] at d2; cases d2
  have nc : ∀ x c, X.env.cells.lookup x = some c → c ≠ a := fun x c hc q => by
    obtain ⟨v, o2, e2, d2⟩ := I.cell x c hc
    rw [q, ea] at e2; cases e2
    rw [edat] at d2; cases d2
  refine ⟨I.ok, I.os, I.bare, ⟨I.base.keep, I.base.slot, fun b o e n hx => ?_, I.base.there, fun b xs q => keep b _ (I.base.tups b xs q), fun b o u q => keep b _ (I.base.frzs b o u q), fun b ps q => ?_⟩,
    I.loc, I.cell, by rw [upd_ne nl]; exact I.free, fun x c h => by rw [upd_ne (nc x c h)]; exact I.freeC x c h, fun p hp' => ?_, fun b o e => ?_, I.len⟩
  · rw [upd_ne fun q => ?_]
    · exact I.base.free b o e n hx
    · subst q; exact absurd (Heap.lt_size e) (Nat.not_lt.mpr new)
  · obtain ⟨m, e⟩ := I.base.tbls b ps q
    exact ⟨m, keep b _ e⟩
  · rw [hp] at hp'; cases hp'
  · by_cases q : b = a
    · subst q
      rw [upd_same] at e
      cases e
      exact ⟨⟨oe, vs, ea, ec, ed, edat⟩, ⟨oe, ea⟩, fun h1 h2 ⟨o, us, z1, z2⟩ k => ⟨o, us, k _ z1, z2⟩⟩
    · rw [upd_ne q] at e
      exact (I.hok b o e).stay (fun c u _ z => z) (fun c z => keep c _ z) fun c xs z => keep c _ z
end
end L2

namespace L2
open PySem PySem.Spec PyProof.Rows
/-! ### raise -/
/-- an error that was made and not raised yet -/
abbrev errN (a C : Addr) (dx : Option Addr) : HO := .ext fun h => ∃ t sl, h.get? a = some ⟨.ref C, dx, .fields #[.ref t, .none, .none, .none, .bool false, .none], sl⟩
/-- an own class of errors -/
structure ErrC (K : PySem.W.Frag) (C : Addr) (bm : List Value) : Prop where
  at_ : ∃ nm q N bs hdct sn sub ab col dd k0 k1 k2 k3 k5 newId, K.lookup C = some (excClassObj nm q C N bs bm hdct sn sub ab col dd k0 k1 k2 k3 k5 newId)
  base : bm.contains (.type "BaseException") = true
def tRaise (K : PySem.W.Frag) (n : Nat) (E : XK) (te : TE) : TS := fun _ σ H => te σ H fun v H' => ∃ a C dx bm, v = .ref a ∧ H' a = some (errN a C dx) ∧ n ≤ a ∧ ErrC K C bm ∧ E (.ref C) dx (cut H' a)
end L2

namespace L2
open PySem PySem.Spec PyProof.Rows
/-! ### C(..) of an own class of errors with an __init__ of its own -/
structure ErrM (K : PySem.W.Frag) (C f : Addr) (bm bmB : List Value) (B newId initId : String) : Prop where
  at_ : ∃ nm q N bs hdct sn sub ab col dd k0 k1 k2 k3 k5, K.lookup C = some (excClassObj nm q C N bs bm hdct sn sub ab col dd k0 k1 k2 k3 k5 newId)
  facts : ExcBaseFacts B newId initId bmB
  hasB : bm.contains (.type B) = true
  noA : bm.contains (.type "AttributeError") = false
  noN : bm.contains (.type "NameError") = false
  base : bm.contains (.type "BaseException") = true
  init : PySem.W.findIn K (.ref C) "__init__" = some (some (.ref f))
  fn : PySem.W.isFn K (.ref f) = true
  kp : PySem.W.keepIn K (.ref C) = true
section
variable {X : Cx} {CX : CXT} {k : Nat} {f C : Addr} {fd : FuncData} {ps : List Str} {sp : Sp} {dvs : List V} {ds : List Value} {E : XK} {bm bmB : List Value} {B newId initId : String}
end
end L2

namespace L2
open PySem PySem.Spec PyProof.Rows
/-! ### self.f = v in the __init__ of an error -/
structure ErrS (K : PySem.W.Frag) (C : Addr) (f : Str) (bm : List Value) : Prop where
  at_ : ∃ nm q N bs sn sub ab col dd k0 k1 k2 k3 k5 newId, K.lookup C = some (excClassObj nm q C N bs bm true sn sub ab col dd k0 k1 k2 k3 k5 newId)
  passes : ∀ x : Addr, refuseLoop (.ref x) "__setattr__" bm = pure ()
  obj : bm.contains (.type "object") = true
  set : PySem.W.findIn K (.ref C) "__setattr__" = some (some (.builtin "object.__setattr__"))
  none : PySem.W.findIn K (.ref C) f = some none
def sErr (K : PySem.W.Frag) (ta tv : TE) (f : Str) : TS := fun D σ H => tv σ H fun y H1 => ta σ H1 fun x H2 => ∃ a C bm, x = .ref a ∧ H2 a = some (errN a C none) ∧ ErrS K C f bm ∧
  ∀ dx, H2 dx = none → dx ≠ a → D.nx σ (upd (upd H2 dx (.xd [(f, y)])) a (errN a C (some dx)))
end L2

namespace L2
open PySem PySem.Spec PyProof.Rows
/-! ### the expression C(..) -/
def tErr (C : Addr) (n : Nat) (sp : Sp) (dvs : List V) (E : XK) (t : TA) : TE := fun σ H Q => t σ H fun vs H1 => vs.length ≤ 1000 ∧ ∀ x, H1 x = none → n ≤ x →
  sp (.ref x :: (vs ++ dvs)) (upd H1 x (errN x C none)) (fun v H2 => v = .non ∧ Q (.ref x) H2) E
section
variable {X : Cx} {CX : CXT} {k : Nat} {f C : Addr} {fd : FuncData} {ps : List Str} {sp : Sp} {dvs : List V} {ds : List Value} {E : XK} {bm bmB : List Value} {B newId initId : String} {x : Str} {p pos : Pos} {e : Expr} {es : List Expr} {t : TA}
end
end L2

set_option Elab.async false
set_option linter.all false
set_option maxRecDepth 100000
set_option maxHeartbeats 4000000
/-! our own layer over the hand layer: readings one rule at a time -/
namespace L2
open PySem PySem.Spec PyProof.Rows

/-! ### heaps -/
def Ext (H H' : Hp) : Prop := ∀ b o, H b = some o → H' b = some o
theorem Ext.rfl' {H : Hp} : Ext H H := fun _ _ h => h
theorem Ext.tr {H H1 H2 : Hp} (a : Ext H H1) (b : Ext H1 H2) : Ext H H2 := fun c o h => b c o (a c o h)
theorem ext_upd {H : Hp} {p : Addr} {o : HO} (n : H p = none) : Ext H (upd H p o) := fun b u h => by
  rw [upd_ne (ne_of_none h n)]; exact h
theorem Ext.free {H H' : Hp} (e : Ext H H') {l : Addr} (h : H' l = none) : H l = none := by
  cases q : H l with
  | none => rfl
  | some o => rw [e l o q] at h; cases h
theorem Ext.rd {H H' : Hp} {a : Addr} {u : HO} (e : Ext H H') (h : Rd H a u) : Rd H' a u := by
  rcases h with h | ⟨o, h⟩
  · exact .inl (e _ _ h)
  · exact .inr ⟨o, e _ _ h⟩
theorem Ext.seqL {K : PySem.W.Frag} {H H' : Hp} {a : Addr} {xs : List V} (e : Ext H H') (h : SqL K H a xs) : SqL K H' a xs := h.elim (fun h => .inl (e.rd h)) .inr
theorem Ext.seqT {K : PySem.W.Frag} {H H' : Hp} {a : Addr} {xs : List V} (e : Ext H H') (h : SqT K H a xs) : SqT K H' a xs := h.elim (fun h => .inl (e.rd h)) .inr
theorem up {H H' : Hp} {p : Addr} {o : HO} (e : Ext H H') (h : H p = some o) : H' p = some o := e _ _ h
/-- all but what stands at x is as it was -/
def But (x : Addr) (H H' : Hp) : Prop := ∀ b o, b ≠ x → H b = some o → H' b = some o
theorem But.tr {x : Addr} {H H1 H2 : Hp} (a : But x H H1) (b : But x H1 H2) : But x H H2 := fun c o n h => b c o n (a c o n h)
theorem Ext.toBut {x : Addr} {H H1 H2 : Hp} (a : Ext H H1) (b : But x H1 H2) : But x H H2 := fun c o n h => b c o n (a c o h)
theorem But.ext {x : Addr} {H H1 H2 : Hp} (a : But x H H1) (b : Ext H1 H2) : But x H H2 := fun c o n h => b c o (a c o n h)
theorem Ext.but {x : Addr} {H H1 H2 : Hp} (a : Ext H H1) (b : But x H1 H2) (n : H x = none) : Ext H H2 := fun c o h => b c o (ne_of_none h n) (a c o h)
theorem but_upd {H : Hp} {p : Addr} {o : HO} : But p H (upd H p o) := fun b u n h => by rw [upd_ne n]; exact h
/-! ### kinds of plain values -/
inductive Kd where | non | bl | int | str | tup | lst | dct
  deriving DecidableEq
def Kd.ty : Kd → String
  | .non => "NoneType" | .bl => "bool" | .int => "int" | .str => "str" | .tup => "tuple" | .lst => "list" | .dct => "dict"
def HasK (H : Hp) : V → Kd → Prop
  | .non, k => k = .non
  | .bl _, k => k = .bl
  | .int _, k => k = .int
  | .str _, k => k = .str
  | .ref a, k => (∃ xs, H a = some (.tup xs) ∧ k = .tup) ∨ (∃ xs, H a = some (.lst xs) ∧ k = .lst) ∨ (∃ kvs, H a = some (.dK kvs) ∧ k = .dct)
  | _, _ => False
theorem HasK.t {H : Hp} {a : Addr} {xs : List V} (h : H a = some (.tup xs)) : HasK H (.ref a) .tup := .inl ⟨xs, h, rfl⟩
theorem HasK.l {H : Hp} {a : Addr} {xs : List V} (h : H a = some (.lst xs)) : HasK H (.ref a) .lst := .inr (.inl ⟨xs, h, rfl⟩)
theorem HasK.d {H : Hp} {a : Addr} {kvs : List (Key × V)} (h : H a = some (.dK kvs)) : HasK H (.ref a) .dct := .inr (.inr ⟨kvs, h, rfl⟩)
theorem HasK.mono {H H' : Hp} {x : V} {k : Kd} (e : Ext H H') (h : HasK H x k) : HasK H' x k := by
  cases x with
  | ref a =>
    rcases h with ⟨xs, h, r⟩ | ⟨xs, h, r⟩ | ⟨xs, h, r⟩
    · exact .inl ⟨xs, e _ _ h, r⟩
    · exact .inr (.inl ⟨xs, e _ _ h, r⟩)
    · exact .inr (.inr ⟨xs, e _ _ h, r⟩)
  | _ => exact h
theorem HasK.tyOf {K : PySem.W.Frag} {H : Hp} {x : V} {k : Kd} (h : HasK H x k) : TyOf K H x (.type k.ty) := by
  cases x with
  | non => cases (show k = .non from h); exact .non
  | bl b => cases (show k = .bl from h); exact .bl b
  | int b => cases (show k = .int from h); exact .int b
  | str b => cases (show k = .str from h); exact .str b
  | ref a =>
    rcases h with ⟨xs, h, rfl⟩ | ⟨xs, h, rfl⟩ | ⟨xs, h, rfl⟩
    · exact .tup h
    · exact .lst h
    · exact .dK h
  | _ => exact (show False from h).elim

/-! ### data -/
inductive D where
  | non | bl (b : Bool) | int (i : Int) | str (x : Str) | tup (l : List D) | lst (l : List D) | dct
def D.kd : D → Kd
  | .non => .non | .bl _ => .bl | .int _ => .int | .str _ => .str | .tup _ => .tup | .lst _ => .lst | .dct => .dct
mutual
def Rep (H : Hp) : D → V → Prop
  | .non, v => v = .non
  | .bl b, v => v = .bl b
  | .int i, v => v = .int i
  | .str x, v => v = .str x
  | .tup l, v => ∃ p xs, v = .ref p ∧ H p = some (.tup xs) ∧ RepL H l xs
  | .lst l, v => ∃ p xs, v = .ref p ∧ H p = some (.lst xs) ∧ RepL H l xs
  | .dct, v => ∃ p kvs, v = .ref p ∧ H p = some (.dK kvs)
def RepL (H : Hp) : List D → List V → Prop
  | [], xs => xs = []
  | d :: r, xs => ∃ x t, xs = x :: t ∧ Rep H d x ∧ RepL H r t
end
def isData : HO → Bool
  | .tup _ => true | .lst _ => true | .dK _ => true | _ => false
/-- lists, tuples, dicts are as they were -/
def Kp (H H' : Hp) : Prop := ∀ b o, H b = some o → isData o = true → H' b = some o
theorem Ext.kp {H H' : Hp} (e : Ext H H') : Kp H H' := fun b o h _ => e b o h
theorem Kp.tr {H H1 H2 : Hp} (a : Kp H H1) (b : Kp H1 H2) : Kp H H2 := fun c o h d => b c o (a c o h d) d
theorem Kp.but {H H' : Hp} {x C dx : Addr} {fs : List (Str × V)} (hx : H x = some (.ins C dx fs)) (b : But x H H') : Kp H H' := fun c o h d => b c o (fun z => by subst z; rw [hx] at h; cases h; cases d) h
mutual
theorem Rep.keep' {H H' : Hp} (e : Kp H H') : ∀ (d : D) {v : V}, Rep H d v → Rep H' d v
  | .non, _, h => by unfold Rep at h ⊢; exact h
  | .bl _, _, h => by unfold Rep at h ⊢; exact h
  | .int _, _, h => by unfold Rep at h ⊢; exact h
  | .str _, _, h => by unfold Rep at h ⊢; exact h
  | .tup l, _, h => by unfold Rep at h ⊢; obtain ⟨p, xs, h1, h2, h3⟩ := h; exact ⟨p, xs, h1, e _ _ h2 rfl, RepL.keep' e l h3⟩
  | .lst l, _, h => by unfold Rep at h ⊢; obtain ⟨p, xs, h1, h2, h3⟩ := h; exact ⟨p, xs, h1, e _ _ h2 rfl, RepL.keep' e l h3⟩
  | .dct, _, h => by unfold Rep at h ⊢; obtain ⟨p, xs, h1, h2⟩ := h; exact ⟨p, xs, h1, e _ _ h2 rfl⟩
theorem RepL.keep' {H H' : Hp} (e : Kp H H') : ∀ (l : List D) {xs : List V}, RepL H l xs → RepL H' l xs
  | [], _, h => by unfold RepL at h ⊢; exact h
  | d :: r, _, h => by unfold RepL at h ⊢; obtain ⟨x, t, h1, h2, h3⟩ := h; exact ⟨x, t, h1, Rep.keep' e d h2, RepL.keep' e r h3⟩
end
theorem Rep.keep {H H' : Hp} {d : D} {v : V} (h : Rep H d v) (e : Kp H H') : Rep H' d v := Rep.keep' e d h
theorem RepL.keep {H H' : Hp} {d : List D} {v : List V} (h : RepL H d v) (e : Kp H H') : RepL H' d v := RepL.keep' e d h
theorem Rep.mono {H H' : Hp} {d : D} {v : V} (h : Rep H d v) (e : Ext H H') : Rep H' d v := h.keep e.kp
theorem RepL.mono {H H' : Hp} {d : List D} {v : List V} (h : RepL H d v) (e : Ext H H') : RepL H' d v := h.keep e.kp
theorem RepL.length {H : Hp} : ∀ {l : List D} {xs : List V}, RepL H l xs → l.length = xs.length
  | [], _, h => by unfold RepL at h; rw [h]; rfl
  | d :: r, _, h => by unfold RepL at h; obtain ⟨x, t, rfl, _, h3⟩ := h; rw [List.length_cons, List.length_cons, RepL.length h3]
theorem RepL.get {H : Hp} : ∀ {l : List D} {xs : List V} {i : Nat} {x : V}, RepL H l xs → xs[i]? = some x → ∃ d, l[i]? = some d ∧ Rep H d x
  | [], _, i, x, h, e => by unfold RepL at h; subst h; simp at e
  | d :: r, _, 0, x, h, e => by unfold RepL at h; obtain ⟨y, t, rfl, h2, _⟩ := h; simp at e; subst e; exact ⟨d, rfl, h2⟩
  | d :: r, _, i + 1, x, h, e => by unfold RepL at h; obtain ⟨y, t, rfl, _, h3⟩ := h; obtain ⟨z, z1, z2⟩ := RepL.get (i := i) h3 (by simpa using e); exact ⟨z, by simpa using z1, z2⟩
theorem RepL.nil {H : Hp} : RepL H [] [] := by unfold RepL; rfl
theorem RepL.cons {H : Hp} {d : D} {x : V} {l : List D} {xs : List V} (h : Rep H d x) (t : RepL H l xs) : RepL H (d :: l) (x :: xs) := by unfold RepL; exact ⟨x, xs, rfl, h, t⟩
theorem Rep.intI {H : Hp} {i : Int} : Rep H (.int i) (.int i) := by unfold Rep; rfl
theorem Rep.tupI {H : Hp} {p : Addr} {xs : List V} {l : List D} (h : H p = some (.tup xs)) (r : RepL H l xs) : Rep H (.tup l) (.ref p) := by unfold Rep; exact ⟨p, xs, rfl, h, r⟩
theorem Rep.lstI {H : Hp} {p : Addr} {xs : List V} {l : List D} (h : H p = some (.lst xs)) (r : RepL H l xs) : Rep H (.lst l) (.ref p) := by unfold Rep; exact ⟨p, xs, rfl, h, r⟩
theorem RepL.ints {H : Hp} : ∀ ns : List Int, RepL H (ns.map D.int) (ns.map V.int)
  | [] => .nil
  | _ :: r => .cons .intI (RepL.ints r)
theorem Rep.kd {H : Hp} {d : D} {v : V} (h : Rep H d v) : HasK H v d.kd := by
  cases d with
  | tup l => unfold Rep at h; obtain ⟨p, xs, rfl, h, _⟩ := h; exact .t h
  | lst l => unfold Rep at h; obtain ⟨p, xs, rfl, h, _⟩ := h; exact .l h
  | dct => unfold Rep at h; obtain ⟨p, xs, rfl, h⟩ := h; exact .d h
  | _ => unfold Rep at h; subst h; exact rfl
mutual
def D.fine : D → Bool
  | .tup l => D.fineL l
  | .lst l => D.fineL l
  | .dct => false
  | _ => true
def D.fineL : List D → Bool
  | [] => true
  | d :: r => d.fine && D.fineL r
def D.depth : D → Nat
  | .tup l => D.depthL l + 1
  | .lst l => D.depthL l + 1
  | _ => 0
def D.depthL : List D → Nat
  | [] => 0
  | d :: r => max d.depth (D.depthL r)
end
theorem fineL_of : ∀ {l : List D} {i : Nat} {d : D}, D.fineL l = true → l[i]? = some d → d.fine = true
  | [], _, _, _, e => by simp at e
  | x :: r, 0, d, h, e => by simp at e; subst e; unfold D.fineL at h; exact (Bool.and_eq_true_iff.mp h).1
  | x :: r, i + 1, d, h, e => by unfold D.fineL at h; exact fineL_of (Bool.and_eq_true_iff.mp h).2 (by simpa using e)
theorem depthL_le : ∀ {l : List D} {n i : Nat} {d : D}, D.depthL l ≤ n → l[i]? = some d → d.depth ≤ n
  | [], _, _, _, _, e => by simp at e
  | x :: r, n, 0, d, h, e => by simp at e; subst e; unfold D.depthL at h; omega
  | x :: r, n, i + 1, d, h, e => by unfold D.depthL at h; exact depthL_le (l := r) (by omega) (by simpa using e)
theorem fineL_ints (ns : List Int) : D.fineL (ns.map D.int) = true := by
  induction ns with
  | nil => rfl
  | cons n r ih => show (D.fine (.int n) && D.fineL (r.map D.int)) = true; rw [ih]; rfl
theorem depthL_ints (ns : List Int) : D.depthL (ns.map D.int) = 0 := by
  induction ns with
  | nil => rfl
  | cons n r ih => show max (D.depth (.int n)) (D.depthL (r.map D.int)) = 0; rw [ih]; rfl
theorem Rep.but {H H' : Hp} {x : Addr} {C dx : Addr} {fs : List (Str × V)} (hx : H x = some (.ins C dx fs)) (b : But x H H') {d : D} {v : V} (h : Rep H d v) : Rep H' d v := h.keep (Kp.but hx b)

/-! ### the exceptions' wish; defs -/
abbrev CXU (P : Program) (w : World) : CXT := CXE P w
theorem passU {X : Cx} {P : Program} {w : World} : Passes (CXU P w) X E0 := passE0
theorem noneU {P : Program} : ∀ (w : World) (H : Hp) (s : Shared) (e : Value) (s' : Shared), CXU P w [] H s (fun _ _ _ => False) e s' → False := fun _ _ _ _ _ h => by
  obtain ⟨_, _, _, _, _, _, _, _, _, _, q⟩ := h
  exact q
theorem FnOk.no {P : Program} {w : World} {K : PySem.W.Frag} {mg : Str → Option Value} {base : Heap} {CX : CXT} {k : Nat} {f : Addr} {fd : FuncData} {ps : List Str} : FnOk P w K mg base CX k f fd ps (fun _ _ _ _ => False) :=
  ⟨fun _ _ _ _ h => h.elim, fun _ _ _ _ _ _ _ _ _ _ _ _ _ h => h.elim⟩
section
variable {P : Program} {w : World} {K : PySem.W.Frag} {mg : Str → Option Value} {base : Heap}
theorem Fun.okU {x qual : Str} {st : Stmt} {f : Addr} {fd : FuncData} {N ps : List Str} {k : Nat} {sp : Sp} (F : Fun K x qual st f fd) (S : FnScope N ps (defScope st)) (len : ∀ vs H Q E, sp vs H Q E → vs.length = ps.length)
    (hbody : ∀ (cdv : Value) (A : Around) (outer : List Env) (s : Shared) (H : Hp) (vs : List V) (Q : VK) (E : XK), Room k (A.deeper (envOfC qual (defScope st) s.heap.objs.size f cdv)) → sp vs H Q E →
      ∃ t, PSs (cxOf (CXU P w) P w K mg base N qual (defScope st) f cdv A outer s H E).nox (defBody st) t ∧ t { nx := fun _ H' => Q .non H', rt := Q } (start N vs) H) : FnOk P w K mg base (CXU P w) (k + 1) f fd ps sp := by
  obtain ⟨oc, od, kV, doc, pm, an, cdv, ct, osl, rfl, lk, hcd⟩ := F.ex
  refine fn_of lk hcd S len fun A outer s H vs Q E hr hsp => ?_
  obtain ⟨t, h, q⟩ := hbody cdv A outer s H vs Q E hr hsp
  exact ⟨t, h.nox, q⟩
end

/-! ### the law's head: the script's ints have bounds -/
abbrev ib : Int → Nat := Builtin.Int.intBits
theorem bits_of_lay {ns : List Int} (h : PySem.W.WData.layableAll [.list (ns.map .int)] = true) : ∀ z ∈ ns, ib z ≤ 1048576 := fun z hz => by
  have h1 := PySem.W.layableW_arg h _ (List.mem_singleton.mpr rfl)
  have h2 := PySem.W.layableW_item h1 (.int z) (List.mem_map.mpr ⟨z, hz, rfl⟩)
  have h3 := (PySem.W.layableW_iff.mp h2).2.2
  simpa [PySem.W.WData.weight, ib, Builtin.Int.intBits] using h3
end L2
namespace L2
open PySem PySem.W PySem.Calls PyProof.Rows
theorem attach_callB {l : OpenLaw} {n : Nat} {q : Program} {loose : List Str} {XP : (Str → Option Value) → Heap → Prop} {YP : World → Heap → Prop} {d : DefRec}
    (hn : l.most = some n) (hdf : d.params.defaults = [])
    (call : ∀ (w : World) (s₀ s₁ : Shared) (mg mb : Str → Option Value) (fa : Addr) (o : Obj) (pm cd doc : Value) (a : Addr) (vs : List Value) (ns : List Int),
      Ground q loose [] XP w s₀ mg mb s₁.heap → YP w s₁.heap →
      s₁.heap.get? fa = some o → o.data = .func (docDef d.name d.params d.body d.scope pm cd doc) → s₁.heap.CodeRec cd d.name → mg d.name = some (.ref fa) →
      s₁.heap.get? a = some { cls := .type "list", data := .seq vs.toArray } → IntsAre vs ns → ns.length ≤ n → (∀ z ∈ ns, ib z ≤ 1048576) → s₁.gens = #[] →
      codeAny (model l.prog w) callerA (.call (.ref fa) ⟨[.ref a], []⟩) (fun r s' => r = .ok (.ret (.bool true)) ∧ OldK s₁.heap s'.heap ∧ s'.os = s₁.os ∧ AllBare s'.gens) s₁) :
    WalkO q loose XP YP l.row.toRowW d [] (fun f vs => PySem.call f vs) := by
  intro w s₀ s₁ mg mb G Y fa o pm cd doc dV kV ho hd hcd hD hmg hg args vals as hpre hlay hrd hwl hlo
  obtain rfl : dV = .none := Dflts.none hD hdf
  obtain rfl : kV = .none := Dflts.noKw hD
  obtain ⟨a, vs, ns, rfl, rfl, hobj, hints, hlen⟩ := Att.script_of hn hpre hwl
  refine enter_call (codeAny_mono (call w s₀ s₁ mg mb fa o pm cd doc a vs ns G Y ho (fd_plain hd) hcd hmg hobj hints hlen (bits_of_lay hlay) hg) fun r s' hq => ?_)
  obtain ⟨rfl, h2, h3, h4⟩ := hq
  exact ⟨.inl ⟨.bool true, .bool true, [], rfl, fun _ => rfl, .bool true, Att.post_true l _, fun _ => ⟨List.Pairwise.nil, fun _ hm => (nomatch hm)⟩⟩, h2, h3, h4⟩
end L2
namespace L2
open PySem PySem.Spec PyProof.Rows
end L2

set_option Elab.async false
set_option linter.all false
set_option maxRecDepth 100000
set_option maxHeartbeats 4000000
namespace L2
open PySem PySem.Spec PyProof.Rows
section
variable {X : Cx}
/-! ### ints -/
def CMulB (i j : Int) : Prop := (-18446744073709551616 < i ∧ i < 18446744073709551616) ∨ (-18446744073709551616 < j ∧ j < 18446744073709551616) ∨ IntMulOk i j
theorem CMulB.ok {i j : Int} (h : CMulB i j) : IntMulOk i j := by
  rcases h with ⟨h1, h2⟩ | ⟨h1, h2⟩ | h
  · exact .of_left (intBits_le_64 (by omega) (by omega))
  · exact .of_right (intBits_le_64 (by omega) (by omega))
  · exact h
theorem op_mulB : OpR X (binaryOp .Mult) (rI CMulB fun i j => .int (i * j)) := opI fun _ _ _ _ _ _ _ hc q => mul_int q hc.ok
def CDivB (i j : Int) : Prop := 0 < j ∧ j < 1000000000000000000000000000000000000000000000000000000000000
theorem CDivB.no {i j : Int} (h : CDivB i j) : Builtin.divisionGoesByPylong i j = false := by
  refine PyProof.noPylong_of_log2 ?_
  have h1 := h.1
  have h2 := h.2
  have h0 : j.natAbs ≠ 0 := by omega
  refine (Nat.log2_lt h0).mpr ?_
  have e : (1000000000000000000000000000000000000000000000000000000000000 : Nat) < 2 ^ 9000 := by decide +kernel
  omega
theorem op_fdivB : OpR X (binaryOp .FloorDiv) (rI CDivB fun i j => .int (i / j)) := opI fun i j _ _ _ _ _ hc q => by
  have h1 := hc.1
  exact floordiv_int (by omega) (by rw [Int.fdiv_eq_ediv_of_nonneg i (by omega)]; exact q) (.inl hc.no)
def rDivmod : List V → Hp → VK → Prop := fun xs H Q => ∃ i j, xs = [.int i, .int j] ∧ CDivB i j ∧ ∀ p, H p = none → Q (.ref p) (upd H p (.tup [.int (i / j), .int (i % j)]))
/-! ### calls of builtins -/
def rIsin (K : PySem.W.Frag) : List V → Hp → VK → Prop := fun xs H Q => ∃ x t b, ((∃ n, xs = [x, .ty n] ∧ PySem.W.kitOne K t (.type n) = some b) ∨ ∃ C, xs = [x, .ref C] ∧ PySem.W.kitOne K t (.ref C) = some b) ∧ TyOf K H x t ∧ Q (.bl b) H
theorem cIsin : CallR X (.builtin "isinstance") (rIsin X.K) := by
  intro pins s σ H xs us Q I r h
  obtain ⟨x, t, b, hx, ty, q⟩ := h
  rcases hx with ⟨n, rfl, e⟩ | ⟨n, rfl, e⟩
  · obtain ⟨u, w', rfl, ru, rw'⟩ := vals2 r
    obtain rfl : w' = Value.type n := rw'
    exact isinst_ok I ru ty e fun tk => ⟨.bl b, H, I.tok _, rfl, q⟩
  · obtain ⟨u, w', rfl, ru, rw'⟩ := vals2 r
    obtain rfl : w' = Value.ref n := rw'
    exact isinst_ok I ru ty e fun tk => ⟨.bl b, H, I.tok _, rfl, q⟩
theorem kit_int {K : PySem.W.Frag} (k : Kd) : PySem.W.kitOne K (.type k.ty) (.type "int") = some (k == .int || k == .bl) := by cases k <;> rfl
theorem kit_bool {K : PySem.W.Frag} (k : Kd) : PySem.W.kitOne K (.type k.ty) (.type "bool") = some (k == .bl) := by cases k <;> rfl
theorem kit_str {K : PySem.W.Frag} (k : Kd) : PySem.W.kitOne K (.type k.ty) (.type "str") = some (k == .str) := by cases k <;> rfl
theorem kit_tuple {K : PySem.W.Frag} (k : Kd) : PySem.W.kitOne K (.type k.ty) (.type "tuple") = some (k == .tup) := by cases k <;> rfl
theorem kit_list {K : PySem.W.Frag} (k : Kd) : PySem.W.kitOne K (.type k.ty) (.type "list") = some (k == .lst) := by cases k <;> rfl
def rSum (K : PySem.W.Frag) : List V → Hp → VK → Prop := fun xs H Q => ∃ (p : Addr) (ns : List Int), xs = [.ref p] ∧ SqL K H p (ns.map V.int) ∧ Q (.int ns.sum) H
theorem cSum (hc : X.calm = true) : CallR X (.builtin "sum") (rSum X.K) := by
  intro pins s σ H xs us Q I r h
  obtain ⟨p, ns, rfl, hq, q⟩ := h
  obtain ⟨u, rfl, rx⟩ := vals1 r
  cases rx
  obtain ⟨its, r', pl, hz⟩ := I.list hq
  have hi : IntsAre its ns := intsAre_of r'
  have hall : AllInts its.toArray := hi.allInts
  obtain ⟨ys, e⟩ := hall.items
  refine sum_intListG (I.ok.hd hc) (xs := ys) (by rw [← e]; exact pl.isList) fun h' tk t' hk => ⟨.int ns.sum, H, I.kept hk, ⟨t', ?_⟩, q⟩
  have e2 : numsOf its = ns := hi.numsOf
  have e3 := nums_intItems (xs := ys)
  rw [← e] at e3
  rw [preSum_eq, List.take_of_length_le (by simp), ← e3]
  exact congrArg (fun z => Value.int z t') (congrArg List.sum e2)
def rMax2 : List V → Hp → VK → Prop := fun xs H Q => ∃ i j, xs = [.int i, .int j] ∧ Q (.int (max i j)) H
theorem cMax2 (hc : X.calm = true) : CallR X (.builtin "max") rMax2 := by
  intro pins s σ H xs us Q I r h
  obtain ⟨i, j, rfl, q⟩ := h
  refine call_max2 hc pins s σ H _ us Q I r ⟨i, j, rfl, ?_⟩
  have e : (if j > i then j else i) = max i j := by split <;> omega
  rw [e]; exact q
def rMin2 : List V → Hp → VK → Prop := fun xs H Q => ∃ i j, xs = [.int i, .int j] ∧ Q (.int (min i j)) H
theorem cMin2 (hc : X.calm = true) : CallR X (.builtin "min") rMin2 := by
  intro pins s σ H xs us Q I r h
  obtain ⟨i, j, rfl, q⟩ := h
  refine call_min2 hc pins s σ H _ us Q I r ⟨i, j, rfl, ?_⟩
  have e : (if j < i then j else i) = min i j := by split <;> omega
  rw [e]; exact q
def rAbs : List V → Hp → VK → Prop := fun xs H Q => ∃ i : Int, xs = [.int i] ∧ Q (.int (i.natAbs : Int)) H
theorem cAbs : CallR X (.builtin "abs") rAbs := by
  intro pins s σ H xs us Q I r h
  obtain ⟨i, rfl, q⟩ := h
  refine call_abs pins s σ H _ us Q I r ⟨i, rfl, ?_⟩
  have e : (if i < 0 then -i else i) = (i.natAbs : Int) := by split <;> omega
  rw [e]; exact q
def rInt1 : List V → Hp → VK → Prop := fun xs H Q => (∃ i, xs = [.int i] ∧ Q (.int i) H) ∨ ∃ k, xs = [.bl k] ∧ Q (.int (if k then 1 else 0)) H
def rLen (K : PySem.W.Frag) : List V → Hp → VK → Prop := fun xs H Q => ∃ x n, xs = [x] ∧ LenV K x H n ∧ Q (.int n) H
theorem cLen : CallR X (.builtin "len") (rLen X.K) := call_len
def rList (K : PySem.W.Frag) : List V → Hp → VK → Prop := fun xs H Q => ∃ p ys, xs = [.ref p] ∧ (SqL K H p ys ∨ SqT K H p ys) ∧ ∀ l, H l = none → Q (.ref l) (upd H l (.lst ys))
theorem cList : CallR X (.type "list") (rList X.K) := call_list_of
def rTuple (K : PySem.W.Frag) : List V → Hp → VK → Prop := fun xs H Q => ∃ p ys, xs = [.ref p] ∧ ((SqL K H p ys ∧ ∀ l, H l = none → Q (.ref l) (upd H l (.tup ys))) ∨ (SqT K H p ys ∧ Q (.ref p) H))
theorem cTuple : CallR X (.type "tuple") (rTuple X.K) := call_tuple_of
/-! ### operators upon several kinds -/
def rAddU : R2 := fun x y H Q => rI0 (fun i j => .int (i + j)) x y H Q ∨ rCat x y H Q
def rInU (K : PySem.W.Frag) (neg : Bool) : R2 := rIn K neg
theorem oIn : OpR X (compareOp .In) (rInU X.K false) := op_in_seq
theorem oNotIn : OpR X (compareOp .NotIn) (rInU X.K true) := op_notIn_seq
def rIsNo : R2 := fun x y H Q => y = .non ∧ Q (.bl (decide (x = .non))) H
def rNotNo : R2 := fun x y H Q => y = .non ∧ Q (.bl (!decide (x = .non))) H
theorem oIsN : OpR X (compareOp .Is) rIsNo := op_isN
theorem oIx : IxR X (rIx X.K) := ix_seq
def rSlU (K : PySem.W.Frag) : V → Option Int → Option Int → Hp → VK → Prop := fun x lo hi H Q => rSlT K x lo hi H Q ∨ rSlL K x lo hi H Q
theorem oSl : SlR X (rSlU X.K) := sl_tup.or sl_list
/-- any expression whose test is its value's truth -/
def tTru (K : PySem.W.Frag) (ta : TE) : TT := fun σ H Q => ta σ H fun x H' => ∃ k, TruV K x H' k ∧ Q k H'
theorem ptT {a : Expr} {ta : TE} (ha : PE X a ta) (he : ∀ whole, isTrue a X.env whole = (do let v ← whole; standAt a.pos; holding [v] (truthy v))) : PT X a (tTru X.K ta) := pt_truth ha he
/-! ### C.m(o, ..): a method read off its class -/
structure CMeth (K : PySem.W.Frag) (C : Addr) (m : Str) (f : Addr) : Prop where
  ga : PySem.W.specialIn K (.ref C) "__getattribute__" = some (some (.builtin "type.__getattribute__"))
  rd : PySem.W.readsIn K C (.type "type") = true
  at_ : PySem.W.findCls K (.ref C) (.type "type") m = some (.val (.ref f))
  kp : PySem.W.keepIn K (.ref f) = true
def tCMeth (C : Addr) (sp : Sp) (dvs : List V) (E : XK) (ta : TE) (t : TA) : TE := fun σ H Q => ta σ H fun x H1 => x = .ref C ∧ t σ H1 fun vs H2 => sp (vs ++ dvs) H2 Q E
theorem pe_cmeth {CX : CXT} {k : Nat} {f C : Addr} {fd : FuncData} {ps : List Str} {sp : Sp} {dvs : List V} {ds : List Value} {E : XK} {m : Str} {pos apos : Pos} {e o : Expr} {es : List Expr} {ta : TE} {t : TA} {pl : Sem Bool}
    (he : PE X o ta) (hm : CMeth X.K C m f) (F : FnOk X.prog X.w X.K X.mg X.base CX k f fd ps sp) (hr : Room k X.A) (hb : Binds X.K fd ps ds) (hd : Vals dvs ds) (hx : Passes CX X E) (ha : PA X (e :: es) t)
    (hst : starEach (e :: es) X.env = (false, eval e X.env) :: starEach es X.env := by rfl) (hpl : (backTo pos (starEach es X.env)).any (·.1) = false := by rfl)
    (ht : eval (.Call (.Attribute o m apos) (e :: es) [] pos) X.env = (do
      let ov ← eval o X.env
      standAt apos.atName
      let (f, first) ← holding [ov] (getMethod ov m pl)
      callWith pos f first (backTo pos (starEach (e :: es) X.env)) (backToKw pos (keywordEach [] X.env))) := by rfl) :
    PE X (.Call (.Attribute o m apos) (e :: es) [] pos) (tCMeth C sp dvs E ta t) := by
  intro pins s σ H Q I h
  refine PySem.W.methodCall_KW (pl := pl) (thn (he pins s σ H _ I h) fun u s1 ⟨x, H1, I1, rx, ex, q⟩ => ?_) ht
  subst ex
  obtain rfl : u = Value.ref C := rx
  refine PySem.W.method_cls I1.kIn hm.ga (PySem.W.cls_value I1.kIn hm.rd hm.at_ (handed_of (v := .ref f) rfl) ?_)
  refine PySem.W.callWith_K (first := []) (h₀ := X.base) I.ok.mod.kin hm.kp (thn (ha pos pins _ σ H1 _ (I1.tok _) q) fun us s2 ⟨vs, H2, I2, r, q2⟩ => ⟨I2.kIn, ?_⟩) hst hpl
  exact run_fn (us := us) (vs := vs) F hr hb hd hx I2 r q2
end
end L2

set_option Elab.async false
set_option linter.all false
set_option maxRecDepth 100000
set_option maxHeartbeats 4000000
namespace L2
open PySem PySem.Spec PyProof.Rows
section
variable {X : Cx} {pins : List (Addr × Obj)} {σ : St} {H : Hp} {s : Shared} {h' : Heap}
/-- records of ours have turned and one is laid and tracked -/
theorem Inv.turnLaid {t' : Nat} {ch : List Addr} {a : Addr} {o : HO} (I : Inv X pins σ H s) (k : ∀ b u, b ∉ ch → s.heap.get? b = some u → h'.get? b = some u) (hf : ∀ b ∈ ch, FpOk X pins H b)
    (hp : s.heap.objs.size ≤ a) (new : ObjOk X.prog X.w (upd H a o) h' a o) : Inv X pins σ (upd H a o) { s with heap := h', toks := t' } := by
  have hn : H a = none := I.hok.fresh hp
  have nit : ∀ b u, H b = some u → b ∉ ch := fun b u e z => by rw [(hf b z).1] at e; cases e
  have old : ∀ b u, H b = some u → upd H a o b = some u := fun b u e => by rw [upd_ne (ne_of_none e hn)]; exact e
  refine I.step (g' := s.gens) (d' := s.drawn) (ch := ch) (fun b hb => ?_) (fun b u _ _ hc e _ => k b u hc e) (fun b u _ _ hc e _ => ⟨u.slots, k b u hc e⟩) (fun b u _ e n => ?_)
    (fun b u hc e => ⟨u, k b u hc e⟩) (fun b xs e => old _ _ e) (fun b _ _ e => old _ _ e) (fun b ps e => ⟨#[], by rw [old _ _ e]; simp⟩) (fun m hm => ?_) (fun b u e => ?_) I.bare
  · obtain ⟨_, f1, _, f3, f4, f5⟩ := hf b hb
    exact ⟨f3, f1, f4, f5⟩
  · rw [upd_ne (fun z => by subst z; exact absurd (Heap.lt_size e) (Nat.not_lt.mpr hp))]; exact n
  · obtain ⟨ol, es, ep, ho, r⟩ := hm
    exact ⟨ol, es, ep, k _ ol (fun z => (hf _ z).2.1 rfl) ho, r⟩
  · by_cases hb : b = a
    · subst hb; rw [upd_same] at e; cases e; exact new
    · rw [upd_ne hb] at e
      refine (I.hok b u e).stay (fun c v hc q => k c v ?_ q) (fun c q => old _ _ q) fun c xs q => old _ _ q
      rcases hc with z | z
      · rw [z]; exact nit b u e
      · exact nit c _ z
theorem Inv.turns {t' : Nat} {ch : List Addr} (I : Inv X pins σ H s) (k : ∀ b u, b ∉ ch → s.heap.get? b = some u → h'.get? b = some u) (hf : ∀ b ∈ ch, FpOk X pins H b) : Inv X pins σ H { s with heap := h', toks := t' } := by
  have nit : ∀ b u, H b = some u → b ∉ ch := fun b u e z => by rw [(hf b z).1] at e; cases e
  refine I.step (g' := s.gens) (d' := s.drawn) (ch := ch) (fun b hb => ?_) (fun b u _ _ hc e _ => k b u hc e) (fun b u _ _ hc e _ => ⟨u.slots, k b u hc e⟩) (fun b u _ e n => n)
    (fun b u hc e => ⟨u, k b u hc e⟩) (fun b xs e => e) (fun b _ _ e => e) (fun b ps e => ⟨#[], by rw [e]; simp⟩) (fun m hm => ?_) (fun b u e => ?_) I.bare
  · obtain ⟨_, f1, _, f3, f4, f5⟩ := hf b hb
    exact ⟨f3, f1, f4, f5⟩
  · obtain ⟨ol, es, ep, ho, r⟩ := hm
    exact ⟨ol, es, ep, k _ ol (fun z => (hf _ z).2.1 rfl) ho, r⟩
  · refine (I.hok b u e).stay (fun c v hc q => k c v ?_ q) (fun c q => q) fun c xs q => q
    rcases hc with z | z
    · rw [z]; exact nit b u e
    · exact nit c _ z
end

/-! ### zip of two lists -/
def Itz (K : PySem.W.Frag) (p q : Addr) : It :=
  ⟨fun i H => ∃ xs ys, SqL K H p xs ∧ SqL K H q ys ∧ i < xs.length ∧ i < ys.length,
   fun i H x H' => ∃ r u v, H r = none ∧ x = .ref r ∧ H' = upd H r (.tup [u, v]) ∧ ∀ xs ys, SqL K H p xs → SqL K H q ys → xs[i]? = some u ∧ ys[i]? = some v,
   fun i H => ∃ xs ys, SqL K H p xs ∧ SqL K H q ys ∧ (xs.length ≤ i ∨ ys.length ≤ i)⟩
def zipSt (z TI TO i1 i2 l1 l2 : Addr) (i : Nat) (h : Heap) : Prop := IsZip h z TI TO .none ∧ IsPair h TI (.ref i1) (.ref i2) ∧ (∃ a b, IsPair h TO a b) ∧ h.IsListIter i1 l1 i ∧ h.IsListIter i2 l2 i
section
variable {X : Cx}
def iZip (K : PySem.W.Frag) (ta : TA) : TI := fun σ H R => ta σ H fun vs H1 => ∃ p q xs ys, vs = [.ref p, .ref q] ∧ SqL K H1 p xs ∧ SqL K H1 q ys ∧ R (Itz K p q) H1
end
end L2

set_option Elab.async false
set_option linter.all false
set_option maxRecDepth 100000
set_option maxHeartbeats 4000000
namespace L2
open PySem PySem.Spec PyProof.Rows
section
variable {K : PySem.W.Frag} {σ : St} {H : Hp} {Q : VK} {D : Ends}
theorem r_var {i : Nat} {v : V} (h : σ[i]? = some (some v)) (q : Q v H) : tVar i σ H Q := ⟨v, h, q⟩
theorem r_c {v : V} (q : Q v H) : tC v σ H Q := q
theorem r_op {r : R2} {ta tb : TE} (q : ta σ H fun x H1 => tb σ H1 fun y H2 => r x y H2 Q) : tOp r ta tb σ H Q := q
theorem r_seq {t u : TS} (q : t { D with nx := u D } σ H) : tSeq t u D σ H := q
theorem r_asg {te : TE} {g : TG} (q : te σ H fun x H1 => g x σ H1 D.nx) : tAsg te g D σ H := q
theorem r_gname {i : Nat} {v : V} {R : St → Hp → Prop} (q : R (σ.set i (some v)) H) : gName i v σ H R := q
theorem r_if {c : TT} {t u : TS} (q : c σ H fun b H1 => if b = true then t D σ H1 else u D σ H1) : tIfS c t u D σ H := q
theorem r_test {t : TE} {R : Bool → Hp → Prop} (q : t σ H fun x H' => ∃ k, x = .bl k ∧ R k H') : tTest t σ H R := q
theorem r_bl {b : Bool} {R : Bool → Prop} (q : R b) : ∃ k, V.bl b = .bl k ∧ R k := ⟨b, rfl, q⟩
theorem r_I0 {g : Int → Int → V} {i j : Int} (q : Q (g i j) H) : rI0 g (.int i) (.int j) H Q := ⟨i, j, rfl, rfl, q⟩
theorem r_I {C : Int → Int → Prop} {g : Int → Int → V} {i j : Int} (c : C i j) (q : Q (g i j) H) : rI C g (.int i) (.int j) H Q := ⟨i, j, rfl, rfl, c, q⟩
theorem pow_ok {i : Int} {j n : Nat} {v : Int} (hi : i.natAbs < 18446744073709551616) (hj : j ≤ 1000) (e : i ^ j = v) (q : Q (.int v) H) : rI CPow (fun i j => .int (i ^ j.toNat)) (.int i) (.int (j : Int)) H Q :=
  ⟨i, j, rfl, rfl, ⟨by omega, by omega, Nat.lt_of_lt_of_le hi (by decide)⟩, by show Q (.int (i ^ (j : Int).toNat)) H; rw [Int.toNat_natCast, e]; exact q⟩
theorem r_pow18 (q : Q (.int 1000000000000000000) H) : rI CPow (fun i j => .int (i ^ j.toNat)) (.int 10) (.int 18) H Q := pow_ok (n := 0) (j := 18) (by decide) (by decide) (by decide) q
theorem r_eqI {i j : Int} (q : Q (.bl (decide (i = j))) H) : rEq (.int i) (.int j) H Q := ⟨rfl, by
  rw [show decide (V.int i = V.int j) = decide (i = j) from decide_eq_decide.mpr ⟨fun z => by cases z; rfl, fun z => by rw [z]⟩]; exact q⟩
theorem r_neI {i j : Int} (q : Q (.bl (!decide (i = j))) H) : rNe (.int i) (.int j) H Q := ⟨rfl, by
  rw [show decide (V.int i = V.int j) = decide (i = j) from decide_eq_decide.mpr ⟨fun z => by cases z; rfl, fun z => by rw [z]⟩]; exact q⟩
theorem r_eqB {i j : Bool} (q : Q (.bl (decide (i = j))) H) : rEq (.bl i) (.bl j) H Q := ⟨rfl, by
  rw [show decide (V.bl i = V.bl j) = decide (i = j) from decide_eq_decide.mpr ⟨fun z => by cases z; rfl, fun z => by rw [z]⟩]; exact q⟩
theorem r_eqS {i j : Str} (q : Q (.bl (decide (i = j))) H) : rEq (.str i) (.str j) H Q := ⟨rfl, by
  rw [show decide (V.str i = V.str j) = decide (i = j) from decide_eq_decide.mpr ⟨fun z => by cases z; rfl, fun z => by rw [z]⟩]; exact q⟩
theorem r_ret {te : TE} (q : te σ H D.rt) : tRet te D σ H := q
theorem r_next (q : D.nx σ H) : tNext D σ H := q
theorem r_drop {te : TE} (q : te σ H fun _ H1 => D.nx σ H1) : tDrop te D σ H := q
theorem r_not {t : TT} {R : Bool → Hp → Prop} (q : t σ H fun c H1 => R (!c) H1) : tNot t σ H R := q
theorem r_truth {te : TE} {R : Bool → Hp → Prop} (q : te σ H fun x H' => ∃ k, TruV K x H' k ∧ R k H') : tTru K te σ H R := q
theorem r_blT {b : Bool} {R : Bool → Prop} (q : R b) : ∃ k, TruV K (.bl b) H k ∧ R k := ⟨b, rfl, q⟩
theorem r_lstT {p : Addr} {xs : List V} {R : Bool → Prop} (h : SqL K H p xs) (q : R (!xs.isEmpty)) : ∃ k, TruV K (.ref p) H k ∧ R k := ⟨_, .inl ⟨xs, h, rfl⟩, q⟩
theorem r_or {t u : TT} {R : Bool → Hp → Prop} (q : t σ H fun c H1 => if c = true then R true H1 else u σ H1 R) : tOr t u σ H R := q
theorem r_andV {ta tb : TE} (q : ta σ H fun x H1 => ∃ c, x = .bl c ∧ if c = true then tb σ H1 Q else Q (.bl false) H1) : tAndV ta tb σ H Q := q
theorem r_notV {ta : TE} (q : ta σ H fun x H1 => ∃ c, x = .bl c ∧ Q (.bl (!c)) H1) : tNotV ta σ H Q := q
theorem r_chain {r r' : R2} {ta tb tc : TE} (q : ta σ H fun x H1 => tb σ H1 fun y H2 => r x y H2 fun z H3 => ∃ k, z = .bl k ∧ if k = true then tc σ H3 fun w H4 => r' y w H4 Q else Q (.bl false) H3) : tChain r r' ta tb tc σ H Q := q
theorem r_un {r : V → Hp → VK → Prop} {ta : TE} (q : ta σ H fun x H1 => r x H1 Q) : tUn r ta σ H Q := q
theorem r_rU {g : Int → V} {i : Int} (q : Q (g i) H) : rU g (.int i) H Q := ⟨i, rfl, q⟩
theorem r_call {sp : Sp} {dvs : List V} {E : XK} {t : TA} (q : t σ H fun vs H1 => sp (vs ++ dvs) H1 Q E) : tCall sp dvs E t σ H Q := q
theorem r_cb {r : List V → Hp → VK → Prop} {t : TA} (q : t σ H fun vs H1 => r vs H1 Q) : tCB r t σ H Q := q
theorem r_cons {ta : TE} {tr : TA} {R : List V → Hp → Prop} (q : ta σ H fun x H1 => tr σ H1 fun xs H2 => R (x :: xs) H2) : tCons ta tr σ H R := q
theorem r_nil {R : List V → Hp → Prop} (q : R [] H) : tNil σ H R := q
theorem r_meth {C : Addr} {m : Str} {sp : Sp} {dvs : List V} {E : XK} {ta : TE} {t : TA} (q : ta σ H fun x H1 => ∃ a dx fs, x = .ref a ∧ H1 a = some (.ins C dx fs) ∧ fs.lookup m = none ∧ t σ H1 fun vs H2 => sp (x :: (vs ++ dvs)) H2 Q E) : tMeth C m sp dvs E ta t σ H Q := q
theorem r_self {C : Addr} {m : Str} {sp : Sp} {dvs : List V} {E : XK} {t : TA} {a dx : Addr} {fs : List (Str × V)} (h : H a = some (.ins C dx fs)) (l : fs.lookup m = none) (q : t σ H fun vs H2 => sp (.ref a :: (vs ++ dvs)) H2 Q E) :
    ∃ b dx fs, V.ref a = .ref b ∧ H b = some (.ins C dx fs) ∧ fs.lookup m = none ∧ t σ H fun vs H2 => sp (.ref a :: (vs ++ dvs)) H2 Q E := ⟨a, dx, fs, rfl, h, l, q⟩
theorem r_cmeth {C : Addr} {sp : Sp} {dvs : List V} {E : XK} {ta : TE} {t : TA} (q : ta σ H fun x H1 => x = .ref C ∧ t σ H1 fun vs H2 => sp (vs ++ dvs) H2 Q E) : tCMeth C sp dvs E ta t σ H Q := q
theorem r_cself {C : Addr} {R : Prop} (q : R) : V.ref C = .ref C ∧ R := ⟨rfl, q⟩
theorem r_make {C : Addr} {sp : Sp} {dvs : List V} {E : XK} {t : TA} (q : t σ H fun vs H1 => ∀ x dx, H1 x = none → H1 dx = none → dx ≠ x →
  sp (.ref x :: (vs ++ dvs)) (upd (upd H1 dx (.own x)) x (.ins C dx [])) (fun v H2 => v = .non ∧ Q (.ref x) H2) E) : tMake C sp dvs E t σ H Q := q
def rFld (K : PySem.W.Frag) (f : Str) : V → Hp → VK → Prop := fun x H Q => ∃ a C dx fs v, x = .ref a ∧ H a = some (.ins C dx fs) ∧ Cls K C ∧ NoAttr K C f ∧ fs.lookup f = some v ∧ Q v H
theorem r_fldK {ta : TE} {f : Str} (q : ta σ H fun x H1 => rFld K f x H1 Q) : tFld K ta f σ H Q := q
theorem r_fat {f : Str} {a C dx : Addr} {fs : List (Str × V)} {v : V} (h : H a = some (.ins C dx fs)) (c : Cls K C) (n : NoAttr K C f) (l : fs.lookup f = some v) (q : Q v H) : rFld K f (.ref a) H Q := ⟨a, C, dx, fs, v, rfl, h, c, n, l, q⟩
def rSat (K : PySem.W.Frag) (f : Str) (y : V) : V → Hp → (Hp → Prop) → Prop := fun x H Q => ∃ a C dx fs, x = .ref a ∧ H a = some (.ins C dx fs) ∧ Cls K C ∧ NoAttr K C f ∧ fs.length < 1000 ∧ Q (upd H a (.ins C dx (putF f y fs)))
theorem r_sfld {ta tv : TE} {f : Str} (q : tv σ H fun y H1 => ta σ H1 fun x H2 => rSat K f y x H2 fun H3 => D.nx σ H3) : sFld K ta tv f D σ H := q
theorem r_sat {f : Str} {y : V} {a C dx : Addr} {fs : List (Str × V)} {R : Hp → Prop} (h : H a = some (.ins C dx fs)) (c : Cls K C) (n : NoAttr K C f) (l : fs.length < 1000) (q : ∀ H', H' a = some (.ins C dx (putF f y fs)) → But a H H' → R H') : rSat K f y (.ref a) H R :=
  ⟨a, C, dx, fs, rfl, h, c, n, l, q _ upd_same but_upd⟩
theorem lt1000 {n : Nat} (h : Nat.ble (n + 1) 1000 = true) : n < 1000 := Nat.le_of_ble_eq_true h
def rNewT (xs : List V) (H : Hp) (Q : VK) : Prop := xs.length ≤ sizeLine ∧ ∀ p, H p = none → Q (.ref p) (upd H p (.tup xs))
def rNewL (xs : List V) (H : Hp) (Q : VK) : Prop := xs.length ≤ sizeLine ∧ ∀ p, H p = none → Q (.ref p) (upd H p (.lst xs))
theorem r_tup {t : TA} (q : t σ H fun xs H1 => rNewT xs H1 Q) : tTup t σ H Q := q
theorem r_lst {t : TA} (q : t σ H fun xs H1 => rNewL xs H1 Q) : tLst t σ H Q := q
theorem r_newT {xs : List V} (c : Nat.ble xs.length 1000 = true) (q : ∀ p H', H p = none → H' p = some (.tup xs) → Ext H H' → Q (.ref p) H') : rNewT xs H Q :=
  ⟨Nat.le_trans (Nat.le_of_ble_eq_true c) (by rw [sizeLine_eq]; decide), fun p n => q p _ n upd_same (ext_upd n)⟩
theorem r_newL {xs : List V} (c : Nat.ble xs.length 1000 = true) (q : ∀ p H', H p = none → H' p = some (.lst xs) → Ext H H' → Q (.ref p) H') : rNewL xs H Q :=
  ⟨Nat.le_trans (Nat.le_of_ble_eq_true c) (by rw [sizeLine_eq]; decide), fun p n => q p _ n upd_same (ext_upd n)⟩
def rNewD (H : Hp) (Q : VK) : Prop := ∀ p, H p = none → Q (.ref p) (upd H p (.dK []))
theorem r_for {wi : TI} {g : TG} {tb : TS} (q : wi σ H fun J H1 => ∃ W : Nat → Nat → St → Hp → Prop, (∃ m, W 0 m σ H1) ∧ ∀ i m σ H, W i m σ H →
  (J.stop i H ∧ D.nx σ H) ∨ (J.go i H ∧ ∃ N : St → Hp → Prop, (∀ σ' H', N σ' H' → ∃ m', m' < m ∧ W (i + 1) m' σ' H') ∧ ∀ x H', J.yld i H x H' → g x σ H' fun σ2 H2 => tb { D with nx := N, ct := N, bk := D.nx } σ2 H2)) : tFor wi g tb D σ H := q
theorem r_rng1 {ta : TA} {R : It → Hp → Prop} (q : ta σ H fun vs H1 => ∃ j : Int, vs = [.int j] ∧ -(2 ^ 62) ≤ j ∧ j < 2 ^ 62 ∧ R (Itr 0 j.toNat) H1) : iRng1 ta σ H R := q
theorem r_ilist {tl : TE} {R : It → Hp → Prop} (q : tl σ H fun x H1 => ∃ a, x = .ref a ∧ (∃ xs, SqL K H1 a xs) ∧ R (Itl K a) H1) : iList K tl σ H R := q
theorem r_itup {tl : TE} {R : It → Hp → Prop} (q : tl σ H fun x H1 => ∃ a, x = .ref a ∧ (∃ xs, SqT K H1 a xs) ∧ R (Itt K a) H1) : iTup K tl σ H R := q
theorem r_bm {T : String} {r : V → List V → Hp → VK → Prop} {to : TE} {t : TA} (q : to σ H fun x H1 => tyV K T x H1 ∧ t σ H1 fun vs H2 => r x vs H2 Q) : tBM K T r to t σ H Q := q
theorem r_bm0 {T : String} {r : V → List V → Hp → VK → Prop} {to : TE} (q : to σ H fun x H1 => tyV K T x H1 ∧ r x [] H1 Q) : tBM0 K T r to σ H Q := q
theorem r_tyl {p : Addr} {xs : List V} {R : Prop} (h : H p = some (.lst xs)) (q : R) : tyV K "list" (.ref p) H ∧ R := ⟨.inl ⟨rfl, xs, SqL.of h⟩, q⟩
theorem r_append {p : Addr} {xs : List V} {y : V} (h : H p = some (.lst xs)) (l : xs.length < 1000000) (q : ∀ H', H' p = some (.lst (xs ++ [y])) → But p H H' → Q .non H') : rAppend (.ref p) [y] H Q :=
  ⟨p, xs, y, rfl, rfl, h, Nat.lt_of_lt_of_le l (by rw [sizeLine_eq]; decide), q _ upd_same but_upd⟩
theorem r_clear {p : Addr} {xs : List V} (h : H p = some (.lst xs)) (q : ∀ H', H' p = some (.lst []) → But p H H' → Q .non H') : rClear (.ref p) [] H Q := ⟨p, xs, rfl, rfl, h, q _ upd_same but_upd⟩
theorem r_gnil {R : St → Hp → Prop} (q : R σ H) : gNil [] σ H R := ⟨rfl, q⟩
theorem r_gcons {t : TG} {u : TGs} {v : V} {r : List V} {R : St → Hp → Prop} (q : t v σ H fun σ' H' => u r σ' H' R) : gCons t u (v :: r) σ H R := ⟨v, r, rfl, q⟩
theorem r_gtup {n : Nat} {t : TGs} {a : Addr} {xs : List V} {R : St → Hp → Prop} (h : H a = some (.tup xs)) (l : xs.length = n) (q : t xs σ H R) : gTup K n t (.ref a) σ H R := ⟨a, xs, rfl, SqT.of h, l, q⟩
theorem r_max {i j : Int} (q : Q (.int (max i j)) H) : rMax2 [.int i, .int j] H Q := ⟨i, j, rfl, q⟩
theorem r_min {i j : Int} (q : Q (.int (min i j)) H) : rMin2 [.int i, .int j] H Q := ⟨i, j, rfl, q⟩
theorem r_abs {i : Int} (q : Q (.int (i.natAbs : Int)) H) : rAbs [.int i] H Q := ⟨i, rfl, q⟩
theorem r_isN {x : V} (q : Q (.bl (decide (x = .non))) H) : rIsNo x .non H Q := ⟨rfl, q⟩
theorem r_isI {x : V} {k : Kd} (h : HasK H x k) (q : Q (.bl (k == .int || k == .bl)) H) : rIsin K [x, .ty "int"] H Q := ⟨x, _, _, .inl ⟨_, rfl, kit_int k⟩, h.tyOf, q⟩
theorem r_isB {x : V} {k : Kd} (h : HasK H x k) (q : Q (.bl (k == .bl)) H) : rIsin K [x, .ty "bool"] H Q := ⟨x, _, _, .inl ⟨_, rfl, kit_bool k⟩, h.tyOf, q⟩
theorem r_isS {x : V} {k : Kd} (h : HasK H x k) (q : Q (.bl (k == .str)) H) : rIsin K [x, .ty "str"] H Q := ⟨x, _, _, .inl ⟨_, rfl, kit_str k⟩, h.tyOf, q⟩
theorem r_isT {x : V} {k : Kd} (h : HasK H x k) (q : Q (.bl (k == .tup)) H) : rIsin K [x, .ty "tuple"] H Q := ⟨x, _, _, .inl ⟨_, rfl, kit_tuple k⟩, h.tyOf, q⟩
theorem r_isL {x : V} {k : Kd} (h : HasK H x k) (q : Q (.bl (k == .lst)) H) : rIsin K [x, .ty "list"] H Q := ⟨x, _, _, .inl ⟨_, rfl, kit_list k⟩, h.tyOf, q⟩
theorem r_lenS {p : Addr} {xs : List V} (h : SqL K H p xs) (q : Q (.int xs.length) H) : rLen K [.ref p] H Q := ⟨_, _, rfl, .inl ⟨xs, h, rfl⟩, q⟩
theorem r_lenL {p : Addr} {xs : List V} (h : H p = some (.lst xs)) (q : Q (.int xs.length) H) : rLen K [.ref p] H Q := ⟨_, _, rfl, .inl ⟨xs, SqL.of h, rfl⟩, q⟩
theorem r_lenT {p : Addr} {xs : List V} (h : H p = some (.tup xs)) (q : Q (.int xs.length) H) : rLen K [.ref p] H Q := ⟨_, _, rfl, .inr ⟨xs, SqT.of h, rfl⟩, q⟩
theorem r_ixS {p : Addr} {xs : List V} {i : Int} {v : V} (h : SqL K H p xs) (e : atI xs i = some v) (q : Q v H) : rIx K (.ref p) (.int i) H Q := .inl ⟨p, xs, i, v, rfl, rfl, h, e, q⟩
theorem r_ixL {p : Addr} {xs : List V} {i : Int} {v : V} (h : H p = some (.lst xs)) (e : atI xs i = some v) (q : Q v H) : rIx K (.ref p) (.int i) H Q := .inl ⟨p, xs, i, v, rfl, rfl, SqL.of h, e, q⟩
theorem r_ixT {p : Addr} {xs : List V} {i : Int} {v : V} (h : H p = some (.tup xs)) (e : atI xs i = some v) (q : Q v H) : rIx K (.ref p) (.int i) H Q := .inr (.inl ⟨p, xs, i, v, rfl, rfl, SqT.of h, e, q⟩)
theorem atI_int {α : Type} {xs : List α} {i : Int} {v : α} (h0 : 0 ≤ i) (h : xs[i.toNat]? = some v) : atI xs i = some v := by
  have := atI_nat h
  rwa [Int.toNat_of_nonneg h0] at this
theorem r_listT {p : Addr} {xs : List V} (h : H p = some (.tup xs)) (q : ∀ l H', H l = none → H' l = some (.lst xs) → Ext H H' → Q (.ref l) H') : rList K [.ref p] H Q := ⟨p, xs, rfl, .inr (SqT.of h), fun l n => q l _ n upd_same (ext_upd n)⟩
theorem r_listL {p : Addr} {xs : List V} (h : H p = some (.lst xs)) (q : ∀ l H', H l = none → H' l = some (.lst xs) → Ext H H' → Q (.ref l) H') : rList K [.ref p] H Q := ⟨p, xs, rfl, .inl (SqL.of h), fun l n => q l _ n upd_same (ext_upd n)⟩
theorem r_tupleL {p : Addr} {xs : List V} (h : H p = some (.lst xs)) (q : ∀ l H', H l = none → H' l = some (.tup xs) → Ext H H' → Q (.ref l) H') : rTuple K [.ref p] H Q := ⟨p, xs, rfl, .inl ⟨SqL.of h, fun l n => q l _ n upd_same (ext_upd n)⟩⟩
theorem r_sum {p : Addr} {ns : List Int} (h : H p = some (.lst (ns.map V.int))) (q : Q (.int ns.sum) H) : rSum K [.ref p] H Q := ⟨p, ns, rfl, SqL.of h, q⟩
theorem r_notinL {p : Addr} {x : V} {xs : List V} (h : H p = some (.lst xs)) (fx : flatV x = true) (fl : xs.all flatV = true) (q : Q (.bl (!inV x xs)) H) : rInU K true x (.ref p) H Q := ⟨p, xs, rfl, .inl (SqL.of h), fx, fl, q⟩
theorem r_inL {p : Addr} {x : V} {xs : List V} (h : H p = some (.lst xs)) (fx : flatV x = true) (fl : xs.all flatV = true) (q : Q (.bl (inV x xs)) H) : rInU K false x (.ref p) H Q := ⟨p, xs, rfl, .inl (SqL.of h), fx, fl, q⟩
end
theorem iteD {c A B : Prop} [Decidable c] (h1 : c → A) (h2 : ¬ c → B) : if decide c = true then A else B := by
  by_cases h : c
  · rw [decide_eq_true h]; exact iteT (h1 h)
  · rw [decide_eq_false h]; exact iteF (h2 h)
theorem iteN {c A B : Prop} [Decidable c] (h1 : ¬ c → A) (h2 : c → B) : if (!decide c) = true then A else B := by
  by_cases h : c
  · rw [decide_eq_true h]; exact iteF (h2 h)
  · rw [decide_eq_false h]; exact iteT (h1 h)
end L2

set_option Elab.async false
set_option linter.all false
set_option maxRecDepth 100000
set_option maxHeartbeats 4000000
/-! list comprehensions of one clause -/
namespace L2
open PySem PySem.Spec PyProof.Rows
abbrev NoX : Value → Shared → Prop := fun _ _ => False
/-- the tests of a clause, one after the other -/
def tTests : List TT → TT
  | [] => fun _ H Q => Q true H
  | t :: r => fun σ H Q => t σ H fun b H1 => if b = true then tTests r σ H1 Q else Q false H1
def PTs (X : Cx) : List Expr → List TT → Prop
  | [], [] => True
  | e :: es, t :: ts => PT X e t ∧ PTs X es ts
  | _, _ => False
def testsRun (env : Env) (ifs : List Expr) (b : Bool) : Sem Bool := forIn ifs b fun c r => if r = true then do let ok ← isTrue c env (eval c env); pure (ForInStep.yield ok) else pure (ForInStep.yield r)
theorem tests_off {M : Model} {A : Around} {E : Value → Shared → Prop} {s : Shared} {env : Env} {Q : Bool → Shared → Prop} (h : Q false s) : ∀ ifs : List Expr, wpAny M A (testsRun env ifs false) Q E s
  | [] => wpAny_pure h
  | c :: r => by
    unfold testsRun
    rw [List.forIn_cons]
    simp only [Bool.false_eq_true, if_false]
    exact wpAny_bind (wpAny_pure (tests_off h r))
theorem tests_ok {X : Cx} {pins : List (Addr × Obj)} {σ : St} {Q : Bool → Hp → Prop} : ∀ (ifs : List Expr) (ts : List TT) (s : Shared) (H : Hp), PTs X ifs ts → Inv X pins σ H s → tTests ts σ H Q → wpAny (model X.prog X.w) X.A (testsRun X.env ifs true) (TP X pins σ Q) X.xe s
  | [], [], s, H, _, I, h => wpAny_pure ⟨H, I, h⟩
  | [], _ :: _, _, _, p, _, _ => p.elim
  | _ :: _, [], _, _, p, _, _ => p.elim
  | c :: r, t :: ts, s, H, p, I, h => by
    unfold testsRun
    rw [List.forIn_cons]
    simp only [if_true]
    refine wpAny_bind (wpAny_bind (thn (p.1 pins s σ H _ I h) fun b s1 ⟨H1, I1, q1⟩ => wpAny_pure ?_))
    cases b with
    | true => exact tests_ok r ts s1 H1 p.2 I1 (by simpa using q1)
    | false => exact tests_off ⟨H1, I1, by simpa using q1⟩ r
section
variable {prog : Program} {w : World} {A : Around} {R : Result → Shared → Prop}
theorem comp_loop {elt tg iter : Expr} {ifs : List Expr} {scope : Scope} {pos : Pos} {it acc : Value} {env : Env} (J : Nat → Shared → Prop)
    (turn : ∀ n s, J n s → wpAny (model prog w) A (pyNext it) (fun r s1 => match r with
      | none => R (.ok .next) s1
      | some v => wpAny (model prog w) A (letOwnedTupleGo tg it v) (fun _ s2 => wpAny (model prog w) A (assign tg env v) (fun _ s3 => wpAny (model prog w) A (testsRun env ifs true) (fun ok s4 =>
          if ok = true then wpAny (model prog w) A (eval elt env) (fun x s5 => wpAny (model prog w) A (call (.builtin "list.append") [acc, x]) (fun _ s6 => ∃ m, m < n ∧ J m s6) NoX s5) NoX s4
          else ∃ m, m < n ∧ J m s4) NoX s3) NoX s2) NoX s1) NoX s) (n : Nat) {s : Shared} (h : J n s) :
    codeAny (model prog w) A (.compLoop (.ListComp elt [⟨tg, iter, ifs, 0⟩] scope pos) 0 it acc env) R s := by
  refine codeAny_loop rfl J (fun n s hJ => ?_) n h
  show wpAny _ A ((compTurn (.ListComp elt [⟨tg, iter, ifs, 0⟩] scope pos) 0 it acc env).onRaise _) _ _ s
  refine wpAny_noted ?_
  have nx : ∀ {E : Value → Shared → Prop} (e : Value) (s : Shared), NoX e s → E e s := fun _ _ f => f.elim
  rw [compTurn_list]
  refine wpAny_bind (wpAny_standAt (wpAny_bind (wpAny_mono (turn n s hJ) (fun r s1 q1 => ?_) nx)))
  cases r with
  | none => exact wpAny_pure q1
  | some v =>
    refine wpAny_bind (wpAny_mono q1 (fun _ s2 q2 => ?_) nx)
    refine wpAny_bind (wpAny_mono q2 (fun _ s3 q3 => ?_) nx)
    refine wpAny_bind (wpAny_mono (show wpAny _ _ (testsRun env ifs true) _ _ _ from q3) (fun ok s4 q4 => ?_) nx)
    cases ok with
    | false => exact wpAny_pure ⟨rfl, q4⟩
    | true =>
      refine wpAny_bind (wpAny_bind (wpAny_mono q4 (fun x s5 q5 => ?_) nx))
      exact wpAny_bind (wpAny_mono q5 (fun _ s6 q6 => wpAny_pure (wpAny_pure ⟨rfl, q6⟩)) nx)
end

/-! ### the block's frame -/
def closOf (cells : List (Str × Addr)) : List (Str × NameKind) → List (Str × Addr) → Option (List (Str × Addr))
  | [], cs => some cs
  | (n, k) :: r, cs => if (k == .free) = true then (match cells.lookup n with | some a => closOf cells r ((n, a) :: cs) | none => none) else closOf cells r cs
theorem clos_run {env : Env} : ∀ (names : List (Str × NameKind)) (cs cl : List (Str × Addr)), closOf env.cells names cs = some cl →
    (forIn names cs fun x r => match x with | (name, kind) => if (kind == .free) = true then do let a ← cellOf env name; pure (ForInStep.yield ((name, a) :: r)) else pure (ForInStep.yield r) : Sem (List (Str × Addr))) = pure cl
  | [], cs, cl, h => by
    cases h
    rfl
  | (n, k) :: r, cs, cl, h => by
    rw [List.forIn_cons]
    unfold closOf at h
    by_cases hk : (k == NameKind.free) = true
    · rw [if_pos hk] at h
      dsimp only
      rw [if_pos hk]
      unfold cellOf
      cases e : env.cells.lookup n with
      | none => rw [e] at h; cases h
      | some a =>
        rw [e] at h
        exact clos_run r _ cl h
    · rw [if_neg hk] at h
      dsimp only
      rw [if_neg hk]
      exact clos_run r cs cl h
theorem closureFor_of {scope : Scope} {env : Env} {cl : List (Str × Addr)} (h : closOf env.cells scope.names [] = some cl) : closureFor scope env = pure cl := by
  have e : closureFor scope env = ((forIn scope.names ([] : List (Str × Addr)) fun x r => match x with | (name, kind) => if (kind == .free) = true then do let a ← cellOf env name; pure (ForInStep.yield ((name, a) :: r)) else pure (ForInStep.yield r) : Sem (List (Str × Addr))) >>= fun cs => pure cs) := by
    first | rfl | (unfold closureFor; rfl)
  rw [e, clos_run _ _ _ h]
  rfl
theorem clos_sub {cells : List (Str × Addr)} : ∀ (names : List (Str × NameKind)) (cs cl : List (Str × Addr)), closOf cells names cs = some cl → (∀ x c, cs.lookup x = some c → cells.lookup x = some c) → ∀ x c, cl.lookup x = some c → cells.lookup x = some c
  | [], cs, cl, h, p => by cases h; exact p
  | (n, k) :: r, cs, cl, h, p => by
    unfold closOf at h
    split at h
    · split at h
      · rename_i a e
        refine clos_sub r _ cl h fun x c q => ?_
        rw [List.lookup_cons] at q
        by_cases hx : (x == n) = true
        · rw [hx] at q
          have : x = n := by simpa using hx
          subst this
          cases q
          exact e
        · have hx' : (x == n) = false := by simpa using hx
          rw [hx'] at q
          exact p x c q
      · cases h
    · exact clos_sub r cs cl h p
theorem clos_has {cells : List (Str × Addr)} : ∀ (names : List (Str × NameKind)) (cs cl : List (Str × Addr)), closOf cells names cs = some cl → ∀ x, ((∃ c, cs.lookup x = some c) ∨ (x, NameKind.free) ∈ names) → ∃ c, cl.lookup x = some c
  | [], cs, cl, h, x, p => by
    cases h
    rcases p with p | p
    · exact p
    · simp at p
  | (n, k) :: r, cs, cl, h, x, p => by
    unfold closOf at h
    split at h
    · split at h
      · rename_i a e
        refine clos_has r _ cl h x ?_
        by_cases hx : x = n
        · exact .inl ⟨a, by rw [List.lookup_cons, hx]; simp⟩
        · have hx' : (x == n) = false := by simpa using hx
          rcases p with ⟨c, p⟩ | p
          · exact .inl ⟨c, by rw [List.lookup_cons, hx']; exact p⟩
          · rcases List.mem_cons.mp p with q | q
            · cases q; exact absurd rfl hx
            · exact .inr q
      · cases h
    · rename_i hk
      refine clos_has r _ cl h x ?_
      rcases p with p | p
      · exact .inl p
      · rcases List.mem_cons.mp p with q | q
        · cases q; exact absurd rfl hk
        · exact .inr q
theorem relabel_mem {scope : Scope} {env : Env} (hc : ∀ y ∈ scope.names, y.2 ≠ .cell) {x : Str} (h : (relabel scope env).names.lookup x = some .cell ∨ (relabel scope env).names.lookup x = some .free) : (x, NameKind.free) ∈ scope.names := by
  have key : ∀ k, (k = .cell ∨ k = .free) → (relabel scope env).names.lookup x = some k → (x, NameKind.free) ∈ scope.names := fun k hk e => by
    have m := PySem.mem_of_lookup e
    obtain ⟨⟨n, k'⟩, hm, e2⟩ := List.mem_map.mp m
    dsimp only at e2
    split at e2
    · rename_i q
      cases e2
      have : k' = .free := by
        have := (Bool.and_eq_true_iff.mp (Bool.and_eq_true_iff.mp q).1).1
        simpa using this
      subst this
      exact hm
    · cases e2
      rcases hk with rfl | rfl
      · exact absurd rfl (hc _ hm)
      · exact hm
  exact h.elim (key _ (.inl rfl)) (key _ (.inr rfl))
def cxComp (X : Cx) (pins : List (Addr × Obj)) (N : List Str) (scope : Scope) (cl : List (Str × Addr)) (fp : List Addr) (s : Shared) (H : Hp) : Cx where
  prog := X.prog
  w := X.w
  K := X.K
  mg := X.mg
  base := X.base
  A := X.A
  N := N
  s₀ := s
  H₀ := H
  env := compEnvC scope cl s.heap.objs.size X.env
  outer := X.stack
  stack := X.stack
  ex := fp
  fn := fun _ => false
  calm := X.calm
  pn := X.pn ++ pins
  xe := NoX
/-- the names of the block that are another's: where they stand there -/
def Frees (X : Cx) (sc : Scope) : List Str → List Nat → Prop
  | [], [] => True
  | y :: ys, j :: js => (X.N[j]? = some y ∧ (X.env.kindOf y = some .cell ∨ X.env.kindOf y = some .free) ∧ (sc.names.lookup y = some .cell ∨ sc.names.lookup y = some .free)) ∧ Frees X sc ys js
  | _, _ => False
theorem Frees.get {X : Cx} {sc : Scope} : ∀ {ys : List Str} {js : List Nat} {i : Nat} {y : Str}, Frees X sc ys js → ys[i]? = some y → ∃ j, js[i]? = some j ∧ X.N[j]? = some y ∧ (X.env.kindOf y = some .cell ∨ X.env.kindOf y = some .free) ∧ (sc.names.lookup y = some .cell ∨ sc.names.lookup y = some .free)
  | [], _, _, _, _, e => by simp at e
  | _ :: _, [], _, _, h, _ => h.elim
  | y :: ys, j :: js, 0, z, h, e => by
    simp at e
    subst e
    exact ⟨j, rfl, h.1⟩
  | y :: ys, j :: js, i + 1, z, h, e => Frees.get (ys := ys) (js := js) (i := i) h.2 (by simpa using e)
theorem Frees.len {X : Cx} {sc : Scope} : ∀ {ys : List Str} {js : List Nat}, Frees X sc ys js → ys.length = js.length
  | [], [], _ => rfl
  | [], _ :: _, h => h.elim
  | _ :: _, [], h => h.elim
  | _ :: ys, _ :: js, h => by rw [List.length_cons, List.length_cons, Frees.len h.2]
def slotAt (σ : St) (j : Nat) : Option V := match σ[j]? with | some o => o | none => none
def cSt (own : List Str) (js : List Nat) (σ : St) : St := own.map (fun _ => none) ++ js.map (slotAt σ)
section
variable {X : Cx} {pins : List (Addr × Obj)} {σ : St} {H : Hp} {s : Shared}
theorem comp_start {own fr : List Str} {js : List Nat} {scope : Scope} {cl : List (Str × Addr)} {fp : List Addr} {h' : Heap} {tk : Nat} (I : Inv X pins σ H s) (hkind : scope.kind = .function) (hc : ∀ y ∈ scope.names, y.2 ≠ .cell)
    (hcl : closOf X.env.cells scope.names [] = some cl) (hF : Frees X (relabel scope X.env) fr js) (hfp : ∀ b ∈ fp, FpOk X pins H b) (hlt : ∀ b ∈ fp, b < s.heap.objs.size)
    (hn : h'.Ns s.heap.objs.size (fun _ => none)) (hk : ∀ b o, s.heap.get? b = some o → h'.get? b = some o) :
    Inv (cxComp X pins (own ++ fr) scope cl fp s H) [] (cSt own js σ) H { s with heap := h', toks := tk } := by
  have sub := clos_sub _ _ _ hcl (fun _ _ q => by simp at q)
  have clt : ∀ x c, X.env.cells.lookup x = some c → c < s.heap.objs.size := fun x c e => by obtain ⟨v, q⟩ := I.cell x c e; exact q.lt
  refine ⟨⟨I.ok.mod, hkind, I.ok.glob, I.ok.blt, Nat.le_refl _, fun x y c e1 e2 => I.ok.inj x y c (sub _ _ e1) (sub _ _ e2), fun x hx => ?_, (fun x c q => Bool.noConfusion (show false = true from q)), I.ok.hd, I.ok.frames, .inl rfl, fun b hb => ⟨Nat.ne_of_lt (hlt b hb), fun x c e => (hfp b hb).2.2.2.2.1 x c (sub x c e)⟩,
    I.bs, Nat.le_trans I.ok.bsz I.sz, fun b o e hb => ?_, fun b hb hq => ?_, I.stack, I.stkFree⟩, rfl, I.bare, Un.kept hk, ⟨_, hn, fun i x v e1 e2 e3 => ?_⟩, fun x c e => ?_, I.hok.fresh (Nat.le_refl _), fun x c e => I.freeC x c (sub x c e), fun p hp => ?_, I.hok.kept hk, ?_⟩
  · exact clos_has _ _ _ hcl x (.inr (relabel_mem hc hx))
  · rcases (hfp b hb).2.2.2.1 with q | q
    · exact I.ok.noex b o e q
    · exact absurd (Heap.lt_size (I.ok.bs b o e).1) (Nat.not_lt.mpr q)
  · have := I.stkSub b hq
    rcases List.mem_cons.mp this with z | z
    · exact (hfp b hb).2.1 z
    · exact (hfp b hb).2.2.1 z
  · have hi : own.length ≤ i := by
      refine Nat.le_of_not_lt fun q => ?_
      unfold cSt at e2
      rw [List.getElem?_append_left (by simpa using q), List.getElem?_map] at e2
      cases z : own[i]? with
      | none => rw [z] at e2; cases e2
      | some y => rw [z] at e2; cases e2
    have e1' : fr[i - own.length]? = some x := by
      have : (own ++ fr)[i]? = some x := e1
      rwa [List.getElem?_append_right hi] at this
    obtain ⟨j, hj, nj, kj, lj⟩ := hF.get e1'
    have e2' : slotAt σ j = some v := by
      unfold cSt at e2
      rw [List.getElem?_append_right (by simpa using hi), List.length_map, List.getElem?_map, hj] at e2
      exact Option.some.inj e2
    have e4 : σ[j]? = some (some v) := by
      unfold slotAt at e2'
      split at e2'
      · rename_i o q; rw [q, e2']
      · cases e2'
    obtain ⟨m, hm, hl⟩ := I.loc
    obtain ⟨u, ru, lk⟩ := hl j x v nj e4 (kj.elim (fun q => .inr (.inl q)) fun q => .inr (.inr q))
    refine ⟨u, ru, .inr ⟨lj, ?_⟩⟩
    rcases lk with ⟨q, _⟩ | ⟨_, c, ec, ic⟩
    · rcases kj with k | k <;> (rw [q] at k; cases k)
    · obtain ⟨c', ec'⟩ := clos_has _ _ _ hcl x (.inr (relabel_mem hc lj))
      have := sub _ _ ec'
      rw [ec] at this
      cases this
      exact ⟨c, ec', ic.keeps hk⟩
  · obtain ⟨v, q⟩ := I.cell x c (sub x c e)
    exact ⟨v, q.keeps hk⟩
  · have hp' : p ∈ X.pn ++ pins := by
      rcases List.mem_append.mp hp with q | q
      · exact q
      · simp at q
    obtain ⟨q1, q2, q3, q4, q5⟩ := I.pin p hp'
    refine ⟨hk _ _ q1, q2, Nat.ne_of_lt (Heap.lt_size q1), fun z => ?_, q5⟩
    rcases List.mem_cons.mp (I.stkSub _ z) with y | y
    · exact q3 y
    · exact q4 y
  · show (cSt own js σ).length = (own ++ fr).length
    unfold cSt
    rw [List.length_append, List.length_append, List.length_map, List.length_map, hF.len]
/-- behind the block -/
theorem comp_back {N : List Str} {scope : Scope} {cl : List (Str × Addr)} {fp : List Addr} {σ' : St} {H' : Hp} {s' : Shared} {ps : List (Addr × Obj)} (I : Inv X pins σ H s) (hfp : ∀ b ∈ fp, FpOk X pins H b)
    (J : Inv (cxComp X pins N scope cl fp s H) ps σ' H' s') : Inv X pins σ H' s' := by
  refine I.call' (ch := fp) J.os J.base J.hok J.bare fun b hb => ?_
  obtain ⟨_, f1, _, f3, f4, f5⟩ := hfp b hb
  exact ⟨f3, f1, f4, f5⟩
end

/-! ### the list that is being made -/
def accO (a : Addr) (ys : List V) : HO := .ext fun h => ys.length ≤ sizeLine ∧ ∃ (its : List Value) (n : Nat), Vals ys its ∧ h.get? a = some { cls := .type "list", data := .seq its.toArray n }
theorem acc_of {P : Program} {w : World} {H : Hp} {h : Heap} {a : Addr} {ys : List V} (o : ObjOk P w H h a (.lst ys)) : ObjOk P w H h a (accO a ys) := by
  obtain ⟨z, its, n, r, e⟩ := o
  exact ⟨⟨z, its, n, r, e⟩, ⟨_, e⟩, fun h1 h2 ⟨z, its, n, r, e⟩ k => ⟨z, its, n, r, k _ e⟩⟩
theorem of_acc {P : Program} {w : World} {H : Hp} {h : Heap} {a : Addr} {ys : List V} (o : ObjOk P w H h a (accO a ys)) : ObjOk P w H h a (.lst ys) := by
  obtain ⟨⟨z, its, n, r, e⟩, _⟩ := o
  exact ⟨z, its, n, r, e⟩
def plainO : HO → Bool
  | .lst _ => true | .ext _ => true | _ => false
theorem Inv.retrack {X : Cx} {pins : List (Addr × Obj)} {σ : St} {H : Hp} {s : Shared} {a : Addr} {o o' : HO} (I : Inv X pins σ H s) (h : H a = some o) (hp : plainO o = true) (new : ∀ H', ObjOk X.prog X.w H' s.heap a o') : Inv X pins σ (upd H a o') s := by
  have ne : ∀ {b : Addr} {u : HO}, H b = some u → plainO u = false → b ≠ a := fun hb hu z => by subst z; rw [h] at hb; cases hb; rw [hp] at hu; cases hu
  have I' := I.un (h' := s.heap) (t' := s.toks) (H' := upd H a o') ⟨fun _ _ e _ _ _ => e, fun b u e _ _ _ => ⟨u.slots, e⟩, fun b u _ n _ => by rw [upd_ne (fun z => by subst z; rw [h] at n; cases n)]; exact n, fun b u e _ => ⟨u, e⟩,
    fun b xs e => by rw [upd_ne (ne e rfl)]; exact e, fun b ob u e => by rw [upd_ne (ne e rfl)]; exact e, fun b ps e => ⟨#[], by rw [upd_ne (ne e rfl), e]; simp⟩⟩ (fun b u e => by
      by_cases hb : b = a
      · subst hb; rw [upd_same] at e; cases e; exact new _
      · rw [upd_ne hb] at e
        exact (I.hok b u e).stay (fun _ _ _ q => q) (fun c q => by rw [upd_ne (ne q rfl)]; exact q) fun c xs q => by rw [upd_ne (ne q rfl)]; exact q)
  exact I'
theorem kp_upd {H : Hp} {a : Addr} {o o' : HO} (h : H a = some o) (hd : isData o = false) : Kp H (upd H a o') := fun b u e d => by
  rw [upd_ne (fun z => by subst z; rw [h] at e; cases e; rw [hd] at d; cases d)]; exact e

def rComp (J : It) (g : TG) (ts : List TT) (te : TE) (acc : Addr) (σ0 : St) (H0 : Hp) (Q : Hp → Prop) : Prop :=
  ∃ W : Nat → Nat → St → List V → Hp → Prop, (∃ m, W 0 m σ0 [] (upd H0 acc (accO acc []))) ∧ ∀ i m σ ys H, W i m σ ys H → H acc = some (accO acc ys) →
    (J.stop i H ∧ Q (upd H acc (.lst ys))) ∨ (J.go i H ∧ ∀ x H', J.yld i H x H' → g x σ H' fun σ2 H2 => tTests ts σ2 H2 fun b H3 =>
      if b = true then te σ2 H3 fun y H4 => H4 acc = some (accO acc ys) ∧ ys.length < sizeLine ∧ ∃ m', m' < m ∧ W (i + 1) m' σ2 (ys ++ [y]) (upd H4 acc (accO acc (ys ++ [y])))
      else H3 acc = some (accO acc ys) ∧ ∃ m', m' < m ∧ W (i + 1) m' σ2 ys H3)
abbrev CA (α : Type) := List (Addr × Obj) → List Addr → Shared → Hp → α
/-- [te for g in wi if ts] -/
def tComp (wi : TI) (own : List Str) (js : List Nat) (g : CA TG) (ts : CA (List TT)) (te : CA TE) : TE := fun σ H Q => wi σ H fun J H1 => ∀ acc, H1 acc = none → ∀ pins fp s Hc, rComp J (g pins fp s Hc) (ts pins fp s Hc) (te pins fp s Hc) acc (cSt own js σ) H1 fun H' => Q (.ref acc) H'
structure CompOk (X : Cx) (scope : Scope) (cl : List (Str × Addr)) (own fr : List Str) (js : List Nat) : Prop where
  kind : scope.kind = .function
  nc : ∀ y ∈ scope.names, y.2 ≠ .cell
  nl : ∀ y ∈ scope.names, y.2 = .local → scope.names.lookup y.1 = some .local
  clos : closOf X.env.cells scope.names [] = some cl
  frees : Frees X (relabel scope X.env) fr js
section
variable {X : Cx} {pins : List (Addr × Obj)} {σ : St} {H : Hp} {s : Shared}
theorem comp_core {elt tg iter : Expr} {ifs : List Expr} {scope : Scope} {pos : Pos} {cl : List (Str × Addr)} {own fr : List Str} {js : List Nat} {g : CA TG} {ts : CA (List TT)} {te : CA TE} {R : Hp → Addr → Prop} {RR : Value → Addr → Result → Shared → Prop} {it : Addr} {fp : List Addr} {tn : Nat → Heap → Prop} {J : It} {E : Value → Shared → Prop}
    (O : CompOk X scope cl own fr js) (hcalm : X.calm = true)
    (hb : ∀ pins fp s Hc, PG (cxComp X pins (own ++ fr) scope cl fp s Hc) tg (g pins fp s Hc) ∧ PTs (cxComp X pins (own ++ fr) scope cl fp s Hc) ifs (ts pins fp s Hc) ∧ PE (cxComp X pins (own ++ fr) scope cl fp s Hc) elt (te pins fp s Hc))
    (I : Inv X pins σ H s) (T : Turn X.prog X.w X.K tg J fp it tn) (t0 : tn 0 s.heap) (hf : ∀ b ∈ fp, FpOk X pins H b)
    (h : ∀ acc, H acc = none → ∀ pins fp s Hc, rComp J (g pins fp s Hc) (ts pins fp s Hc) (te pins fp s Hc) acc (cSt own js σ) H fun H' => R H' acc)
    (fin : ∀ acc C H' s' m, Inv X pins σ H' s' → R H' acc → s'.heap.Ns C m → FpOk X pins H' C → RR (.ref acc) C (.ok .next) s') :
    wpAny (model X.prog X.w) X.A (newList []) (fun acc s3 => wpAny (model X.prog X.w) X.A (newFunctionEnv scope X.env.globals cl [] X.env.qual none .none (some X.env)) (fun cenv s4 =>
      codeAny (model X.prog X.w) X.A (.compStart (.ListComp elt [⟨tg, iter, ifs, 0⟩] scope pos) 0 (.ref it) acc { cenv with scope := relabel scope X.env }) (RR acc cenv.locals) s4) E s3) E s := by
  have n0 : H s.heap.objs.size = none := I.hok.fresh (Nat.le_refl _)
  have flt : ∀ b ∈ fp, b < s.heap.objs.size := fun b hb => by obtain ⟨o, e, _⟩ := T.obj 0 _ t0 b hb; exact Heap.lt_size e
  refine wpAny_newList ?_
  have I3 : Inv X pins σ (upd H s.heap.objs.size (accO s.heap.objs.size [])) { s with heap := s.heap.push { cls := .type "list", data := .seq ([] : List Value).toArray } } :=
    I.laid (t' := s.toks) (fun b o e => Heap.get?_push_of_some _ e) (Nat.le_refl _) (acc_of (show ObjOk X.prog X.w _ _ _ (.lst []) from ⟨Nat.zero_le _, [], 0, .nil, Heap.get?_push_size _ rfl⟩))
  have hf3 : ∀ b ∈ fp, FpOk X pins (upd H s.heap.objs.size (accO s.heap.objs.size [])) b := fun b hb => ⟨by rw [upd_ne (Nat.ne_of_lt (flt b hb))]; exact (hf b hb).1, (hf b hb).2⟩
  have t3 : tn 0 (s.heap.push { cls := .type "list", data := .seq ([] : List Value).toArray }) := T.keep _ _ _ t0 fun b _ o e => Heap.get?_push_of_some _ e
  specialize h s.heap.objs.size n0
  generalize hs3 : ({ s with heap := s.heap.push { cls := .type "list", data := .seq ([] : List Value).toArray } } : Shared) = s3 at I3 ⊢
  have t3' : tn 0 s3.heap := by rw [← hs3]; exact t3
  have lt3 : ∀ b ∈ fp, b < s3.heap.objs.size := fun b hb => by rw [← hs3]; exact Nat.lt_of_lt_of_le (flt b hb) (by rw [Heap.size_push]; exact Nat.le_succ _)
  generalize hH3 : upd H s.heap.objs.size (accO s.heap.objs.size []) = H3 at I3 hf3
  generalize hacc : s.heap.objs.size = acc at *
  refine wpAny_newFunctionEnv O.nc (by intro x hx; simp at hx) (fun h1 hns hsb => ?_) O.kind
  have hk : ∀ b o, s3.heap.get? b = some o → h1.get? b = some o := fun b o e => (hsb.2 b (Nat.ne_of_lt (Heap.lt_size e))).trans (Heap.get?_push_of_some _ e)
  have Ic : Inv (cxComp X pins (own ++ fr) scope cl fp s3 H3) [] (cSt own js σ) H3 { s3 with heap := h1, toks := s3.toks + 0 } := comp_start I3 O.kind O.nc O.clos O.frees hf3 lt3 hns hk
  obtain ⟨W, ⟨m0, w0⟩, turn⟩ := h pins fp s3 H3
  obtain ⟨hg, ht, he⟩ := hb pins fp s3 H3
  have stat : ∀ {H' : Hp} {ps : List (Addr × Obj)}, ps = [] → (∀ b ∈ fp, H' b = none) → ∀ b ∈ fp, FpOk (cxComp X pins (own ++ fr) scope cl fp s3 H3) ps H' b := fun {H' ps} hps hn b hb => by
    obtain ⟨f0, f1, f2, f3, f4, f5⟩ := hf3 b hb
    refine ⟨hn b hb, Nat.ne_of_lt (lt3 b hb), fun z => ?_, .inl hb, fun x c e => f4 x c (clos_sub _ _ _ O.clos (fun _ _ q => by simp at q) x c e), fun p hp => ?_⟩
    · rcases List.mem_cons.mp (I3.stkSub b z) with q | q
      · exact f1 q
      · exact f2 q
    · subst hps
      rcases List.mem_append.mp hp with q | q
      · exact f5 p q
      · simp at q
  have loop : ∀ {sx : Shared}, Inv (cxComp X pins (own ++ fr) scope cl fp s3 H3) [] (cSt own js σ) H3 sx → tn 0 sx.heap →
      codeAny (model X.prog X.w) X.A (.compLoop (.ListComp elt [⟨tg, iter, ifs, 0⟩] scope pos) 0 (.ref it) (.ref acc) (compEnvC scope cl s3.heap.objs.size X.env)) (RR (.ref acc) s3.heap.objs.size) sx := fun {sx} Jx tx => by
    refine comp_loop (fun n s' => ∃ i σc ys H', Inv (cxComp X pins (own ++ fr) scope cl fp s3 H3) [] σc H' s' ∧ tn i s'.heap ∧ (∀ b ∈ fp, H' b = none) ∧ H' acc = some (accO acc ys) ∧ W i n σc ys H') ?_ m0 ⟨0, _, [], H3, Jx, tx, fun b hb => (hf3 b hb).1, by rw [← hH3]; exact upd_same, by rw [← hH3]; exact w0⟩
    rintro n s4 ⟨i, σ4, ys, H4, I4, t4, fr4, a4, w4⟩
    rcases turn i n σ4 ys H4 w4 a4 with ⟨stop, qn⟩ | ⟨go, step⟩
    · refine thn (T.done (cxComp X pins (own ++ fr) scope cl fp s3 H3) rfl rfl rfl hcalm i [] s4 σ4 H4 NoX I4 (stat rfl fr4) t4 stop) fun r s5 ⟨hr, I5⟩ => ?_
      subst hr
      obtain ⟨m, hm, _⟩ := id I5.loc
      have IX := comp_back I3 hf3 I5
      have IL := IX.retrack (o' := .lst ys) a4 rfl fun H' => of_acc (H := H') (by obtain ⟨p1, p2, p3⟩ := IX.hok acc _ a4; exact ⟨p1, p2, p3⟩)
      refine fin acc s3.heap.objs.size _ s5 m IL qn hm (I3.fpOk (Nat.le_refl _) ?_)
      have c4 : H4 s3.heap.objs.size = none := I5.free
      rw [upd_ne (fun z => by rw [z, a4] at c4; cases c4)]; exact c4
    · refine thn (T.item (cxComp X pins (own ++ fr) scope cl fp s3 H3) rfl rfl rfl hcalm i [] s4 σ4 H4 NoX I4 (stat rfl fr4) t4 go) fun r s5 ⟨u, hr, q5⟩ => ?_
      subst hr
      refine thn q5 fun _ s6 ⟨x, H6, I6, r6, y6, t6, fr6⟩ => ?_
      have I6' := I6.pinned (stat rfl fr6) (T.obj _ _ t6)
      refine thn (hg _ s6 σ4 H6 x u _ I6' r6 (step x H6 y6)) fun _ s7 ⟨σ7, H7, I7, q7⟩ => ?_
      refine thn (tests_ok ifs _ s7 H7 ht I7 q7) fun ok s8 ⟨H8, I8, q8⟩ => ?_
      have again : ∀ {σ9 : St} {H9 : Hp} {s9 : Shared} {zs : List V} {m : Nat}, Inv (cxComp X pins (own ++ fr) scope cl fp s3 H3) ([] ++ pinsAt fp s6.heap) σ9 H9 s9 → H9 acc = some (accO acc zs) → m < n → W (i + 1) m σ9 zs H9 →
          ∃ m, m < n ∧ ∃ i σc ys H', Inv (cxComp X pins (own ++ fr) scope cl fp s3 H3) [] σc H' s9 ∧ tn i s9.heap ∧ (∀ b ∈ fp, H' b = none) ∧ H' acc = some (accO acc ys) ∧ W i m σc ys H' := fun {σ9 H9 s9 zs m} I9 a9 hm w9 => by
        refine ⟨m, hm, i + 1, σ9, zs, H9, I9.unpinned, T.keep _ _ _ t6 fun b hb o e => (I9.pin (b, o) (List.mem_append_right _ (List.mem_append_right _ (mem_pinsAt hb e)))).1, fun b hb => ?_, a9, w9⟩
        obtain ⟨o, e, d⟩ := T.obj _ _ t6 b hb
        exact (I9.pin (b, o) (List.mem_append_right _ (List.mem_append_right _ (mem_pinsAt hb e)))).2.1
      cases ok with
      | false =>
        obtain ⟨a8, m', hm, w8⟩ := (show H8 acc = some (accO acc ys) ∧ ∃ m', m' < n ∧ W (i + 1) m' σ7 ys H8 by simpa using q8)
        exact again I8 a8 hm w8
      | true =>
        have q8' : te pins fp s3 H3 σ7 H8 fun y H4 => H4 acc = some (accO acc ys) ∧ ys.length < sizeLine ∧ ∃ m', m' < n ∧ W (i + 1) m' σ7 (ys ++ [y]) (upd H4 acc (accO acc (ys ++ [y]))) := by simpa using q8
        refine thn (he _ s8 σ7 H8 _ I8 q8') fun v s9 ⟨y, H9, I9, r9, a9, hl, m', hm, w9⟩ => ?_
        have IL := I9.retrack (o' := .lst ys) a9 rfl fun H' => of_acc (H := H') (by obtain ⟨p1, p2, p3⟩ := I9.hok acc _ a9; exact ⟨p1, p2, p3⟩)
        refine thn (mt_append _ s9 σ7 _ (.ref acc) [y] (.ref acc) [v] (fun _ H' => H' = upd H9 acc (.lst (ys ++ [y]))) IL rfl (.cons r9 .nil) ⟨acc, ys, y, rfl, rfl, upd_same, hl, by rw [upd_upd]⟩) fun _ s10 ⟨_, H10, I10, _, e10⟩ => ?_
        subst e10
        have I11 := I10.retrack (o' := accO acc (ys ++ [y])) upd_same rfl fun H' => acc_of (H := H') (by obtain ⟨p1, p2, p3⟩ := I10.hok acc _ upd_same; exact ⟨p1, p2, p3⟩)
        rw [upd_upd] at I11
        exact again I11 upd_same hm w9
  exact codeAny_compStart_list (loop Ic (T.keep _ _ _ t3' fun b _ o e => hk b o e)) (T.self _ 0 _ _ _ (T.keep _ _ _ t3' fun b _ o e => hk b o e) (loop Ic (T.keep _ _ _ t3' fun b _ o e => hk b o e)))

theorem pe_comp {elt tg iter : Expr} {ifs : List Expr} {scope : Scope} {pos : Pos} {cl : List (Str × Addr)} (own fr : List Str) (js : List Nat) {wi : TI} {g : CA TG} {ts : CA (List TT)} {te : CA TE}
    (hcalm : X.calm = true) (O : CompOk X scope cl own fr js) (hi : PI X tg iter wi)
    (hb : ∀ pins fp s Hc, PG (cxComp X pins (own ++ fr) scope cl fp s Hc) tg (g pins fp s Hc) ∧ PTs (cxComp X pins (own ++ fr) scope cl fp s Hc) ifs (ts pins fp s Hc) ∧ PE (cxComp X pins (own ++ fr) scope cl fp s Hc) elt (te pins fp s Hc))
    (hs : ∀ x, foldedSetIterable iter X.env x = pure x := by intro _; rfl) :
    PE X (.ListComp elt [⟨tg, iter, ifs, 0⟩] scope pos) (tComp wi own js g ts te) := by
  intro pins s σ H Q I h
  rw [eval_ListComp]
  refine wpAny_comprehension_free (use := none) rfl hs (closureFor_of O.clos) O.kind O.nl (thn (hi pins s σ H _ I h) fun xv s1 q1 => thn q1 fun itv s2 q2 => ?_)
  obtain ⟨it, fp, tn, J, H2, rfl, I2, T, t2, f2, q⟩ := q2
  refine comp_core (RR := fun acc C => compPost (model X.prog X.w) X.A X.xe none (EP X pins σ Q) acc C) O hcalm hb I2 T t2 f2 q fun acc C H' s' m I' r' hm hC => ⟨m, hm, fun h' sb => ?_⟩
  obtain ⟨f0, f1, f2, f3, f4, f5⟩ := hC
  exact ⟨.ref acc, H', I'.turned (t' := s'.toks) (fun b o hb e => (sb.2 b hb).trans e) f0 f1 f3 f4 f5, rfl, r'⟩
/-- x = [.. for ..] in a row: the name is stored ahead of the block's end -/
theorem ps_setComp {i : Nat} {x : Str} {elt tg iter : Expr} {ifs : List Expr} {scope : Scope} {pos pos' spos : Pos} {cl : List (Str × Addr)} (own fr : List Str) (js : List Nat) {wi : TI} {g : CA TG} {ts : CA (List TT)} {te : CA TE}
    (hN : X.N.Nodup) (hix : X.N[i]? = some x) (hx : Loc X.env.scope x) (hcalm : X.calm = true) (O : CompOk X scope cl own fr js) (hi : PI X tg iter wi)
    (hb : ∀ pins fp s Hc, PG (cxComp X pins (own ++ fr) scope cl fp s Hc) tg (g pins fp s Hc) ∧ PTs (cxComp X pins (own ++ fr) scope cl fp s Hc) ifs (ts pins fp s Hc) ∧ PE (cxComp X pins (own ++ fr) scope cl fp s Hc) elt (te pins fp s Hc))
    (hsw : swapsWith (.ListComp elt [⟨tg, iter, ifs, 0⟩] scope pos) (some (.Name x pos')) spos.line X.env = pure true := by rfl)
    (hs : ∀ x, foldedSetIterable iter X.env x = pure x := by intro _; rfl) (hf : X.fn x = true ∨ X.env.scope.names.lookup x = some .local := by first | exact .inl rfl | exact .inr rfl | assumption) :
    PS X (.Assign [.Name x pos'] (.ListComp elt [⟨tg, iter, ifs, 0⟩] scope pos) spos) (tAsg (tComp wi own js g ts te) (gName i)) := by
  intro pins s σ H D I h
  rw [exec_Assign_Name_used _ _ _ _ hsw]
  refine wpAny_bind (wpAny_standAt (wpAny_bind ?_))
  show wpAny _ _ (comprehension (.ListComp elt [⟨tg, iter, ifs, 0⟩] scope pos) scope X.env (firstIterPos [⟨tg, iter, ifs, 0⟩] pos) (newList []) false (eval iter X.env) (some (assign (.Name x pos') X.env)) >>= _) _ _ _
  refine wpAny_bind ?_
  have h' : wi σ H fun J H1 => ∀ acc, H1 acc = none → ∀ pins fp s Hc, rComp J (g pins fp s Hc) (ts pins fp s Hc) (te pins fp s Hc) acc (cSt own js σ) H1 fun H' => D.nx (σ.set i (some (.ref acc))) H' := h
  refine wpAny_comprehension_free (use := some (assign (.Name x pos') X.env)) rfl hs (closureFor_of O.clos) O.kind O.nl (thn (hi pins s σ H _ I h') fun xv s1 q1 => thn q1 fun itv s2 q2 => ?_)
  obtain ⟨it, fp, tn, J, H2, rfl, I2, T, t2, f2, q⟩ := q2
  refine comp_core (RR := fun acc C => compPost (model X.prog X.w) X.A X.xe (some (assign (.Name x pos') X.env)) _ acc C) O hcalm hb I2 T t2 f2 q fun acc C H' s' m I' r' hm hC => ?_
  obtain ⟨f0, f1, f2, f3, f4, f5⟩ := hC
  obtain ⟨oc, es, ep, ho, hd, hr⟩ := id hm
  have IP : Inv X (pins ++ [(C, oc)]) σ H' s' := I'.pins_of fun p hp => by
    rcases List.mem_append.mp hp with q | q
    · exact I'.pin p (List.mem_append_right _ q)
    · obtain rfl : p = (C, oc) := by simpa using q
      exact ⟨ho, f0, f1, f2, fun v z => by rw [hd] at z; cases z⟩
  refine wpAny_assign_Name (store_ok IP hN hix hx (v := .ref acc) (u := .ref acc) rfl (fun s'' I'' => ?_) hf)
  have hC'' := (I''.pin (C, oc) (List.mem_append_right _ (List.mem_append_right _ (by simp)))).1
  refine ⟨m, ⟨oc, es, ep, hC'', hd, hr⟩, fun h' sb => ?_⟩
  exact wpAny_pure (wpAny_pure ⟨_, H', (I''.unpinned).turned (t' := s''.toks) (fun b o hb e => (sb.2 b hb).trans e) f0 f1 f3 f4 f5, r'⟩)
end

/-! ### the readings one uses -/
section
variable {K : PySem.W.Frag} {ts : List TT} {te : TE} {acc : Addr} {fr : St} {H1 : Hp} {R : Hp → Prop} {xs ys : List V}
theorem r_comp {wi : TI} {own : List Str} {js : List Nat} {g : CA TG} {ts : CA (List TT)} {te : CA TE} {σ : St} {H : Hp} {Q : VK} (q : wi σ H fun J H1 => ∀ acc, H1 acc = none → ∀ pins fp s Hc, rComp J (g pins fp s Hc) (ts pins fp s Hc) (te pins fp s Hc) acc (cSt own js σ) H1 fun H' => Q (.ref acc) H') : tComp wi own js g ts te σ H Q := q
/-- what is asked of one turn: Y behind an item that is taken, N behind one that is not -/
def Turned (ts : List TT) (te : TE) (Pv : List V → Hp → Prop) (ys : List V) (H : Hp) (σ2 : St) (H2 : Hp) : Prop :=
  ∀ (Y : V → Hp → Prop) (N : Hp → Prop), (∀ y H', Ext H H' → Pv (ys ++ [y]) H' → Y y H') → (∀ H', Ext H H' → Pv ys H' → N H') → tTests ts σ2 H2 fun b H3 => if b = true then te σ2 H3 Y else N H3
theorem comp_gen {J : It} {g : TG} {σ0 : St} (n : Nat) (hz : n ≤ 1000000) (hn : H1 acc = none) (Sv : St → Prop) (Pv : Nat → List V → Hp → Prop) (s0 : Sv σ0) (h0 : Pv 0 [] H1) (kp : ∀ i ys H H', Kp H H' → Pv i ys H → Pv i ys H')
    (hgo : ∀ i H, i < n → Ext H1 H → J.go i H) (hst : ∀ H, Ext H1 H → J.stop n H) (len : ∀ i ys H, i ≤ n → Pv i ys H → ys.length ≤ i)
    (turn : ∀ i σ ys H x H' (G : St → Hp → Prop), i < n → Ext H1 H → Sv σ → Pv i ys H → J.yld i H x H' → (∀ σ2 H2, Sv σ2 → Turned ts te (Pv (i + 1)) ys H σ2 H2 → G σ2 H2) → g x σ H' G)
    (fin : ∀ ys H, Ext H1 H → H acc = some (.lst ys) → Pv n ys H → R H) : rComp J g ts te acc σ0 H1 R := by
  have e0 : Ext H1 (upd H1 acc (accO acc [])) := ext_upd hn
  refine ⟨fun i m σ ys H => m = n - i ∧ i ≤ n ∧ Ext H1 H ∧ Sv σ ∧ Pv i ys H, ⟨n, by omega, Nat.zero_le _, e0, s0, kp _ _ _ _ e0.kp h0⟩, ?_⟩
  rintro i m σ ys H ⟨rfl, hi, e, sv, pv⟩ ha
  by_cases hlt : i < n
  · refine .inr ⟨hgo i H hlt e, fun x H' y => turn i σ ys H x H' _ hlt e sv pv y fun σ2 H2 s2 q2 => ?_⟩
    refine q2 _ _ (fun y H4 e4 p4 => ?_) fun H3 e3 p3 => ?_
    · have a4 : H4 acc = some (accO acc ys) := e4 _ _ ha
      have z : ys.length < sizeLine := by have := len _ _ _ hi pv; rw [sizeLine_eq]; omega
      refine ⟨a4, z, n - (i + 1), by omega, rfl, hlt, fun b o hb => ?_, s2, kp _ _ _ _ (kp_upd a4 rfl) p4⟩
      rw [upd_ne (ne_of_none hb hn)]
      exact e4 _ _ (e _ _ hb)
    · exact ⟨e3 _ _ ha, n - (i + 1), by omega, rfl, hlt, e.tr e3, s2, p3⟩
  · have hn' : i = n := by omega
    subst hn'
    refine .inl ⟨hst H e, fin ys _ (fun b o hb => ?_) upd_same (kp _ _ _ _ (kp_upd ha rfl) pv)⟩
    rw [upd_ne (ne_of_none hb hn)]
    exact e _ _ hb
/-- over a list, the item in the block's first slot -/
theorem comp_list {a : Addr} {u : Option V} (hx : SqL K H1 a xs) (hz : xs.length ≤ 1000000) (hn : H1 acc = none) (Pv : Nat → List V → Hp → Prop) (h0 : Pv 0 [] H1) (kp : ∀ i ys H H', Kp H H' → Pv i ys H → Pv i ys H') (len : ∀ i ys H, i ≤ xs.length → Pv i ys H → ys.length ≤ i)
    (turn : ∀ i x ys H, xs[i]? = some x → Ext H1 H → Pv i ys H → Turned ts te (Pv (i + 1)) ys H (some x :: fr) H)
    (fin : ∀ ys H, Ext H1 H → H acc = some (.lst ys) → Pv xs.length ys H → R H) : rComp (Itl K a) (gName 0) ts te acc (u :: fr) H1 R := by
  refine comp_gen xs.length hz hn (fun σ => ∃ u, σ = u :: fr) Pv ⟨u, rfl⟩ h0 kp (fun i H hi e => ⟨xs, xs[i], e.seqL hx, List.getElem?_eq_getElem hi⟩) (fun H e => ⟨xs, e.seqL hx, Nat.le_refl _⟩) len ?_ fin
  rintro i σ ys H x H' G hi e ⟨u, rfl⟩ pv ⟨rfl, y⟩ hG
  have := y xs (e.seqL hx)
  exact hG _ _ ⟨some x, rfl⟩ (turn i x ys _ this e pv)
theorem comp_tup {a : Addr} {u : Option V} (hx : SqT K H1 a xs) (hz : xs.length ≤ 1000000) (hn : H1 acc = none) (Pv : Nat → List V → Hp → Prop) (h0 : Pv 0 [] H1) (kp : ∀ i ys H H', Kp H H' → Pv i ys H → Pv i ys H') (len : ∀ i ys H, i ≤ xs.length → Pv i ys H → ys.length ≤ i)
    (turn : ∀ i x ys H, xs[i]? = some x → Ext H1 H → Pv i ys H → Turned ts te (Pv (i + 1)) ys H (some x :: fr) H)
    (fin : ∀ ys H, Ext H1 H → H acc = some (.lst ys) → Pv xs.length ys H → R H) : rComp (Itt K a) (gName 0) ts te acc (u :: fr) H1 R := by
  refine comp_gen xs.length hz hn (fun σ => ∃ u, σ = u :: fr) Pv ⟨u, rfl⟩ h0 kp (fun i H hi e => ⟨xs, xs[i], e.seqT hx, List.getElem?_eq_getElem hi⟩) (fun H e => ⟨xs, e.seqT hx, Nat.le_refl _⟩) len ?_ fin
  rintro i σ ys H x H' G hi e ⟨u, rfl⟩ pv ⟨rfl, y⟩ hG
  have := y xs (e.seqT hx)
  exact hG _ _ ⟨some x, rfl⟩ (turn i x ys _ this e pv)
theorem comp_range {lo : Int} {n : Nat} {u : Option V} (hz : n ≤ 1000000) (hn : H1 acc = none) (Pv : Nat → List V → Hp → Prop) (h0 : Pv 0 [] H1) (kp : ∀ i ys H H', Kp H H' → Pv i ys H → Pv i ys H') (len : ∀ i ys H, i ≤ n → Pv i ys H → ys.length ≤ i)
    (turn : ∀ i ys H, i < n → Ext H1 H → Pv i ys H → Turned ts te (Pv (i + 1)) ys H (some (.int (lo + i)) :: fr) H)
    (fin : ∀ ys H, Ext H1 H → H acc = some (.lst ys) → Pv n ys H → R H) : rComp (Itr lo n) (gName 0) ts te acc (u :: fr) H1 R := by
  refine comp_gen n hz hn (fun σ => ∃ u, σ = u :: fr) Pv ⟨u, rfl⟩ h0 kp (fun i H hi e => hi) (fun H e => Nat.le_refl _) len ?_ fin
  rintro i σ ys H x H' G hi e ⟨u, rfl⟩ pv ⟨rfl, rfl⟩ hG
  exact hG _ _ ⟨_, rfl⟩ (turn i ys _ hi e pv)
end
end L2

set_option Elab.async false
set_option linter.all false
set_option maxRecDepth 100000
set_option maxHeartbeats 4000000
/-! iterators of lists and tuples, by one letter; zip and enumerate over both -/
namespace L2
open PySem PySem.Spec PyProof.Rows
/-- b: a tuple's (true) or a list's (false) -/
def ItA (b : Bool) (h : Heap) (it l : Addr) (k : Nat) : Prop := match b with | false => h.IsListIter it l k | true => h.IsTupleIter it l k
def SqA (b : Bool) (h : Heap) (l : Addr) (xs : Array Value) : Prop := match b with | false => h.IsList l xs | true => h.IsTuple l xs
theorem ItA.ex {b : Bool} {h : Heap} {it l : Addr} {k : Nat} (x : ItA b h it l k) : ∃ o, h.get? it = some o ∧ ∀ v, o.data ≠ .cell v := by
  cases b <;> (obtain ⟨o, e, _, d⟩ := x; exact ⟨o, e, fun v z => by rw [d] at z; cases z⟩)
theorem ItA.at {b : Bool} {h h' : Heap} {it l : Addr} {k : Nat} (x : ItA b h it l k) (f : ∀ o, h.get? it = some o → h'.get? it = some o) : ItA b h' it l k := by
  cases b <;> (obtain ⟨o, e, r⟩ := x; exact ⟨o, f o e, r⟩)
theorem SqA.at {b : Bool} {h h' : Heap} {l : Addr} {xs : Array Value} (x : SqA b h l xs) (f : ∀ o, h.get? l = some o → h'.get? l = some o) : SqA b h' l xs := by
  cases b <;> (obtain ⟨o, e, r⟩ := x; exact ⟨o, f o e, r⟩)
theorem SqA.lt {b : Bool} {h : Heap} {l : Addr} {xs : Array Value} (x : SqA b h l xs) : l < h.objs.size := by
  cases b <;> (obtain ⟨o, e, _⟩ := x; exact Heap.lt_size e)
theorem ItA.lt {b : Bool} {h : Heap} {it l : Addr} {k : Nat} (x : ItA b h it l k) : it < h.objs.size := by
  obtain ⟨o, e, _⟩ := x.ex; exact Heap.lt_size e
section
variable {prog : Program} {w : World} {A : Around} {E : Value → Shared → Prop} {s : Shared}
theorem nextT_item {it l : Addr} {k : Nat} {xs : Array Value} {x : Value} {Q : Value → Shared → Prop} (i0 : s.heap.IsTupleIter it l k) (l0 : s.heap.IsTuple l xs) (hx : xs[k]? = some x)
    (q : ∀ h', h'.IsTupleIter it l (k + 1) → Heap.SameBut it s.heap h' → Q x { s with heap := h' }) : wpAny (model prog w) A (Builtin.SmallTypes.nextOf (.ref it)) Q E s := by
  obtain ⟨oi, ei, ci, di⟩ := id i0
  obtain ⟨ol, el, _, nl, dl⟩ := l0
  unfold Builtin.SmallTypes.nextOf
  refine wpAny_bind (wpAny_callSpecial?_slot (name := Str.ofString "__next__") i0.typeIs F.slot_tuple_iterator_next (wpAny_call_entry F.slot_tuple_iterator_next i0.typeIs F.entry_tuple_iterator_next ?_ (F.args_tuple_iterator_next_1 _)))
  show wpAny _ _ (field (.ref it) 0 >>= _) _ _ _; refine wpAny_bind (wpAny_field ei di (x := .ref l) rfl ?_)
  show wpAny _ _ (if (Value.ref l == Value.none) = true then _ else _) _ _ _; rw [if_neg (show ¬ ((Value.ref l == Value.none) = true) from fun z => Bool.false_ne_true z)]
  show wpAny _ _ (field (.ref it) 1 >>= _) _ _ _; refine wpAny_bind (wpAny_field ei di (x := .int k 0) rfl ?_)
  show wpAny _ _ (seqItems? (.ref l) >>= _) _ _ _; refine wpAny_bind (wpAny_seqItems el dl ?_)
  simp only [Int.toNat_natCast, hx]; refine wpAny_bind (wpAny_setField ei di (by simp) (wpAny_pure ⟨x, rfl, wpAny_pure (q _ ⟨_, Heap.get?_update_self _ ei (Obj.isFreed_of_fields (Obj.data_mapFields di _)), (Obj.cls_mapFields ..).trans ci, ?_⟩ (Heap.SameBut.update ..))⟩))
  rw [Obj.data_mapFields di]; simp [rawInt]
theorem nextT_end {it l : Addr} {k : Nat} {xs : Array Value} {Q : Value → Shared → Prop} (hh : A.handled = none) (i0 : s.heap.IsTupleIter it l k) (l0 : s.heap.IsTuple l xs) (hx : xs[k]? = none)
    (q : ∀ h' e, Heap.ExtBut it s.heap h' → (∃ o, h'.get? e = some o ∧ o.cls = .type "StopIteration") → E (.ref e) { s with heap := h' }) : wpAny (model prog w) A (Builtin.SmallTypes.nextOf (.ref it)) Q E s := by
  obtain ⟨oi, ei, ci, di⟩ := id i0
  obtain ⟨ol, el, _, nl, dl⟩ := l0
  unfold Builtin.SmallTypes.nextOf
  refine wpAny_bind (wpAny_callSpecial?_slot (name := Str.ofString "__next__") i0.typeIs F.slot_tuple_iterator_next (wpAny_call_entry F.slot_tuple_iterator_next i0.typeIs F.entry_tuple_iterator_next ?_ (F.args_tuple_iterator_next_1 _)))
  show wpAny _ _ (field (.ref it) 0 >>= _) _ _ _; refine wpAny_bind (wpAny_field ei di (x := .ref l) rfl ?_)
  show wpAny _ _ (if (Value.ref l == Value.none) = true then _ else _) _ _ _; rw [if_neg (show ¬ ((Value.ref l == Value.none) = true) from fun z => Bool.false_ne_true z)]
  show wpAny _ _ (field (.ref it) 1 >>= _) _ _ _; refine wpAny_bind (wpAny_field ei di (x := .int k 0) rfl ?_)
  show wpAny _ _ (seqItems? (.ref l) >>= _) _ _ _; refine wpAny_bind (wpAny_seqItems el dl ?_)
  simp only [Int.toNat_natCast, hx]; refine wpAny_bind (wpAny_rule (wpAny_bind (wpAny_setField ei di (by simp) ?_)))
  show wpAny _ _ (newExc (.type "StopIteration") [] >>= _) _ _ _; refine wpAny_bind ?_; simp only [newExc, newTuple]
  refine wpAny_bind (wpAny_newObj_type ?_ (by size_fits)); refine wpAny_bind (m := firstArgMember _ _) (wpAny_of_eq (a := Value.none) (by first | rfl | (simp only [firstArgMember]; rfl)) ?_)
  refine wpAny_newObj_type ?_ (by size_fits); simp only [raiseNew]; refine wpAny_bind (wpAny_handled ?_)
  first | rw [show A.in1.handled = none from hh] | rw [hh]
  refine wpAny_bind (wpAny_pure (wpAny_throw ?_)); exact q _ _ (((Heap.SameBut.update ..).extBut.push _).push _) ⟨_, Heap.get?_push_size _ rfl, rfl⟩
theorem nextA_item {b : Bool} {it l : Addr} {k : Nat} {xs : Array Value} {x : Value} {Q : Value → Shared → Prop} (i0 : ItA b s.heap it l k) (l0 : SqA b s.heap l xs) (hx : xs[k]? = some x)
    (q : ∀ h', ItA b h' it l (k + 1) → Heap.SameBut it s.heap h' → Q x { s with heap := h' }) : wpAny (model prog w) A (Builtin.SmallTypes.nextOf (.ref it)) Q E s := by
  cases b
  · exact wpAny_nextOf_list_item i0 l0 hx q
  · exact nextT_item i0 l0 hx q
theorem nextA_end {b : Bool} {it l : Addr} {k : Nat} {xs : Array Value} {Q : Value → Shared → Prop} (hh : A.handled = none) (i0 : ItA b s.heap it l k) (l0 : SqA b s.heap l xs) (hx : xs[k]? = none)
    (q : ∀ h' e, Heap.ExtBut it s.heap h' → (∃ o, h'.get? e = some o ∧ o.cls = .type "StopIteration") → E (.ref e) { s with heap := h' }) : wpAny (model prog w) A (Builtin.SmallTypes.nextOf (.ref it)) Q E s := by
  cases b
  · exact wpAny_nextOf_list_end hh i0 l0 hx q
  · exact nextT_end hh i0 l0 hx q

/-! ### zip -/
theorem zipA_item {c d : Bool} {z TI TO i1 i2 l1 l2 : Addr} {k : Nat} {xs ys : Array Value} {x y p q : Value} {Q : Option Value → Shared → Prop} (D : ZipApart z TI TO i1 i2 l1 l2)
    (hz : IsZip s.heap z TI TO .none) (hI : IsPair s.heap TI (.ref i1) (.ref i2)) (hO : IsPair s.heap TO p q) (a1 : ItA c s.heap i1 l1 k) (a2 : ItA d s.heap i2 l2 k) (b1 : SqA c s.heap l1 xs) (b2 : SqA d s.heap l2 ys) (hx : xs[k]? = some x) (hy : ys[k]? = some y)
    (hQ : ∀ h', IsZip h' z TI TO (rawInt s.heap.objs.size) → IsPair h' TO x y → ItA c h' i1 l1 (k + 1) → ItA d h' i2 l2 (k + 1) → IsPair h' s.heap.objs.size x y →
      (∀ e o, e ≠ z → e ≠ TO → e ≠ i1 → e ≠ i2 → s.heap.get? e = some o → h'.get? e = some o) → Q (some (.ref s.heap.objs.size)) { s with heap := h' }) : wpAny (model prog w) A (pyNext (.ref z)) Q E s := by
  have tz : s.TypeIs (.ref z) "zip" := ⟨_, hz, rfl⟩
  unfold pyNext
  refine wpAny_bind (wpAny_attempt (wpAny_callSpecial?_slot (name := Str.ofString "__next__") tz F.slot_zip_next (wpAny_call_entry F.slot_zip_next tz F.entry_zip_next ?_ (F.args_zip_next_1 _))))
  show wpAny _ _ (field (.ref z) 2 >>= _) _ _ _; refine wpAny_bind (wpAny_field hz rfl (x := .bool false) rfl ?_)
  show wpAny _ _ (field (.ref z) 3 >>= _) _ _ _; refine wpAny_bind (wpAny_field hz rfl (x := .ref TI) rfl (wpAny_bind (wpAny_seqItems hI rfl ?_)))
  show wpAny _ _ (Builtin.SmallTypes.ownedTupleIsFree (.ref z) >>= _) _ _ _; refine wpAny_bind ?_; unfold Builtin.SmallTypes.ownedTupleIsFree
  refine wpAny_bind (wpAny_field hz rfl (x := .none) rfl (wpAny_pure ?_)); simp only [if_true]
  refine wpAny_bind (wpAny_rule (wpAny_bind (wpAny_field hz rfl (x := .ref TO) rfl (wpAny_bind (wpAny_setField_rec hz (by simp) fun g1 z1 s1 => ?_)))))
  replace z1 : IsZip g1 z TI TO .ellipsis := z1
  refine wpAny_bind ?_; simp only [List.zipIdx_cons, List.zipIdx_nil, List.forIn_cons, List.forIn_nil]
  refine wpAny_bind (wpAny_bind (wpAny_onRaise ?_))
  show wpAny _ _ (Builtin.SmallTypes.nextOf (.ref i1) >>= _) _ _ _
  refine wpAny_bind (nextA_item (a1.at fun o e => s1.extBut _ o D.i1z e) (b1.at fun o e => s1.extBut _ o D.l1z e) hx fun g2 j1 s2 => wpAny_pure ?_)
  have o2 : IsPair g2 TO p q := s2.extBut _ _ D.TOi1 (s1.extBut _ _ D.TOz hO)
  refine wpAny_bind (wpAny_seqItems o2 rfl (wpAny_bind (wpAny_updateSeq_pair o2 fun g3 o3 s3 => wpAny_bind (wpAny_letGo (wpAny_pure ?_)))))
  replace o3 : IsPair g3 TO x q := o3
  refine wpAny_bind (wpAny_bind (wpAny_onRaise ?_))
  show wpAny _ _ (Builtin.SmallTypes.nextOf (.ref i2) >>= _) _ _ _
  refine wpAny_bind (nextA_item (a2.at fun o e => s3.extBut _ o D.TOi2.symm (s2.extBut _ o D.i12.symm (s1.extBut _ o D.i2z e))) (b2.at fun o e => s3.extBut _ o D.l2TO (s2.extBut _ o D.l2i1 (s1.extBut _ o D.l2z e))) hy fun g4 j2 s4 => wpAny_pure ?_)
  have o4 : IsPair g4 TO x q := s4.extBut _ _ D.TOi2 o3
  refine wpAny_bind (wpAny_seqItems o4 rfl (wpAny_bind (wpAny_updateSeq_pair o4 fun g5 o5 s5 => wpAny_bind (wpAny_letGo (wpAny_pure (wpAny_pure ?_))))))
  replace o5 : IsPair g5 TO x y := o5
  refine wpAny_bind (wpAny_seqItems o5 rfl (wpAny_bind (wpAny_newTuple ?_)))
  have n5 : g5.objs.size = s.heap.objs.size := by rw [s5.1, s4.1, s3.1, s2.1, s1.1]
  have z5 : IsZip g5 z TI TO .ellipsis := s5.extBut _ _ D.TOz.symm (s4.extBut _ _ D.i2z.symm (s3.extBut _ _ D.TOz.symm (s2.extBut _ _ D.i1z.symm z1)))
  have k5 : ∀ e o, e ≠ z → e ≠ TO → e ≠ i1 → e ≠ i2 → s.heap.get? e = some o → g5.get? e = some o := fun e o q1 q2 q3 q4 h => s5.extBut _ _ q2 (s4.extBut _ _ q4 (s3.extBut _ _ q2 (s2.extBut _ _ q3 (s1.extBut _ _ q1 h))))
  have j5 : ItA c g5 i1 l1 (k + 1) := j1.at fun o e => s5.extBut _ o D.TOi1.symm (s4.extBut _ o D.i12 (s3.extBut _ o D.TOi1.symm e))
  have m5 : ItA d g5 i2 l2 (k + 1) := j2.at fun o e => s5.extBut _ o D.TOi2.symm e
  have lz : z < g5.objs.size := Heap.lt_size z5
  show wpAny _ _ (Builtin.SmallTypes.ownedTupleHandOut (.ref z) (.ref g5.objs.size) >>= _) _ _ _; refine wpAny_bind ?_; unfold Builtin.SmallTypes.ownedTupleHandOut
  have z6 : IsZip (g5.push { cls := .type "tuple", data := .seq #[x, y] }) z TI TO .ellipsis := Heap.get?_push_of_some _ z5
  refine wpAny_bind (wpAny_setField_rec z6 (by simp) fun g7 z7 s7 => ?_)
  replace z7 : IsZip g7 z TI TO (rawInt g5.objs.size) := z7
  refine wpAny_setField_rec z7 (by simp) fun g8 z8 s8 => ?_
  replace z8 : IsZip g8 z TI TO (rawInt g5.objs.size) := z8
  have k8 : ∀ e o, e ≠ z → g5.get? e = some o → g8.get? e = some o := fun e o q1 h => s8.extBut _ _ q1 (s7.extBut _ _ q1 (Heap.get?_push_of_some _ h))
  have t8 : IsPair g8 g5.objs.size x y := s8.extBut _ _ (Nat.ne_of_gt lz) (s7.extBut _ _ (Nat.ne_of_gt lz) (Heap.get?_push_size _ rfl))
  refine wpAny_pure ⟨_, rfl, wpAny_pure ?_⟩
  rw [n5] at z8 t8
  show Q (some (.ref g5.objs.size)) _
  rw [n5]
  exact hQ g8 z8 (k8 _ _ D.TOz o5) (j5.at fun o e => k8 _ o D.i1z e) (m5.at fun o e => k8 _ o D.i2z e) t8 fun e o q1 q2 q3 q4 h => k8 e o q1 (k5 e o q1 q2 q3 q4 h)
theorem zipA_end {c d : Bool} {z TI TO i1 i2 l1 l2 : Addr} {k : Nat} {xs ys : Array Value} {p q : Value} {Q : Option Value → Shared → Prop} (hh : A.handled = none) (D : ZipApart z TI TO i1 i2 l1 l2)
    (hz : IsZip s.heap z TI TO .none) (hI : IsPair s.heap TI (.ref i1) (.ref i2)) (hO : IsPair s.heap TO p q) (a1 : ItA c s.heap i1 l1 k) (a2 : ItA d s.heap i2 l2 k) (b1 : SqA c s.heap l1 xs) (b2 : SqA d s.heap l2 ys) (hend : xs[k]? = none ∨ ys[k]? = none)
    (hQ : ∀ h', (∀ e o, e ≠ z → e ≠ TO → e ≠ i1 → e ≠ i2 → s.heap.get? e = some o → h'.get? e = some o) → Q none { s with heap := h' }) : wpAny (model prog w) A (pyNext (.ref z)) Q E s := by
  have tz : s.TypeIs (.ref z) "zip" := ⟨_, hz, rfl⟩
  have stopped : ∀ {h' : Heap} {e : Addr}, (∃ o, h'.get? e = some o ∧ o.cls = .type "StopIteration") → (∀ e o, e ≠ z → e ≠ TO → e ≠ i1 → e ≠ i2 → s.heap.get? e = some o → h'.get? e = some o) →
      wpAny (model prog w) A (do if ← isInstance (.ref e) (.type "StopIteration") then pure (none : Option Value) else throw (.ref e)) Q E { s with heap := h' } := fun {h' e} ⟨o, ho, hc⟩ hk =>
    wpAny_bind (wpAny_isInstance (T := "StopIteration") (b := true) ⟨o, ho, hc⟩ isSubtype_stop (wpAny_pure (hQ _ hk)))
  unfold pyNext
  refine wpAny_bind (wpAny_attempt (wpAny_callSpecial?_slot (name := Str.ofString "__next__") tz F.slot_zip_next (wpAny_call_entry F.slot_zip_next tz F.entry_zip_next ?_ (F.args_zip_next_1 _))))
  show wpAny _ _ (field (.ref z) 2 >>= _) _ _ _; refine wpAny_bind (wpAny_field hz rfl (x := .bool false) rfl ?_)
  show wpAny _ _ (field (.ref z) 3 >>= _) _ _ _; refine wpAny_bind (wpAny_field hz rfl (x := .ref TI) rfl (wpAny_bind (wpAny_seqItems hI rfl ?_)))
  show wpAny _ _ (Builtin.SmallTypes.ownedTupleIsFree (.ref z) >>= _) _ _ _; refine wpAny_bind ?_; unfold Builtin.SmallTypes.ownedTupleIsFree
  refine wpAny_bind (wpAny_field hz rfl (x := .none) rfl (wpAny_pure ?_)); simp only [if_true]
  refine wpAny_bind (wpAny_rule (wpAny_bind (wpAny_field hz rfl (x := .ref TO) rfl (wpAny_bind (wpAny_setField_rec hz (by simp) fun g1 z1 s1 => ?_)))))
  replace z1 : IsZip g1 z TI TO .ellipsis := z1
  refine wpAny_bind ?_; simp only [List.zipIdx_cons, List.zipIdx_nil, List.forIn_cons, List.forIn_nil]
  refine wpAny_bind (wpAny_bind (wpAny_onRaise ?_))
  show wpAny _ _ (Builtin.SmallTypes.nextOf (.ref i1) >>= _) _ _ _
  cases hx : xs[k]? with
  | none =>
    refine wpAny_bind (nextA_end hh (a1.at fun o e => s1.extBut _ o D.i1z e) (b1.at fun o e => s1.extBut _ o D.l1z e) hx fun g2 e s2 ⟨oe, he, ce⟩ => ?_)
    have z2 : IsZip g2 z TI TO .ellipsis := s2 _ _ D.i1z.symm z1
    have ez : e ≠ z := fun y => by subst y; rw [z2] at he; cases he; simp at ce
    exact wpAny_setField_rec z2 (by simp) fun g3 _ s3 => stopped ⟨oe, s3.extBut _ _ ez he, ce⟩ fun e o q1 _ q3 _ h => s3.extBut _ _ q1 (s2 _ _ q3 (s1.extBut _ _ q1 h))
  | some x =>
    have hy : ys[k]? = none := hend.resolve_left (by rw [hx]; simp)
    refine wpAny_bind (nextA_item (a1.at fun o e => s1.extBut _ o D.i1z e) (b1.at fun o e => s1.extBut _ o D.l1z e) hx fun g2 j1 s2 => wpAny_pure ?_)
    have o2 : IsPair g2 TO p q := s2.extBut _ _ D.TOi1 (s1.extBut _ _ D.TOz hO)
    refine wpAny_bind (wpAny_seqItems o2 rfl (wpAny_bind (wpAny_updateSeq_pair o2 fun g3 o3 s3 => wpAny_bind (wpAny_letGo (wpAny_pure ?_)))))
    refine wpAny_bind (wpAny_bind (wpAny_onRaise ?_))
    show wpAny _ _ (Builtin.SmallTypes.nextOf (.ref i2) >>= _) _ _ _
    refine wpAny_bind (nextA_end hh (a2.at fun o e => s3.extBut _ o D.TOi2.symm (s2.extBut _ o D.i12.symm (s1.extBut _ o D.i2z e))) (b2.at fun o e => s3.extBut _ o D.l2TO (s2.extBut _ o D.l2i1 (s1.extBut _ o D.l2z e))) hy fun g4 e s4 ⟨oe, he, ce⟩ => ?_)
    have z4 : IsZip g4 z TI TO .ellipsis := s4 _ _ D.i2z.symm (s3.extBut _ _ D.TOz.symm (s2.extBut _ _ D.i1z.symm z1))
    have ez : e ≠ z := fun y => by subst y; rw [z4] at he; cases he; simp at ce
    exact wpAny_setField_rec z4 (by simp) fun g5 _ s5 => stopped ⟨oe, s5.extBut _ _ ez he, ce⟩ fun e o q1 q2 q3 q4 h => s5.extBut _ _ q1 (s4 _ _ q4 (s3.extBut _ _ q2 (s2.extBut _ _ q3 (s1.extBut _ _ q1 h))))

def itO (b : Bool) (l : Addr) : Obj := { cls := .type (if b then "tuple_iterator" else "list_iterator"), data := .fields #[.ref l, .int 0 0] }
theorem iterA {b : Bool} {l : Addr} {xs : Array Value} {Q : Value → Shared → Prop} (h : SqA b s.heap l xs) (q : Q (.ref s.heap.objs.size) { s with heap := s.heap.push (itO b l) }) : wpAny (model prog w) A (pyIter (.ref l)) Q E s := by
  cases b
  · exact wpAny_pyIter_list h q
  · exact wpAny_pyIter_tuple h q
theorem itO_at {b : Bool} {l it : Addr} {h : Heap} (e : h.get? it = some (itO b l)) : ItA b h it l 0 := by
  cases b <;> exact ⟨_, e, rfl, rfl⟩
abbrev zh1 (c : Bool) (h : Heap) (l1 : Addr) : Heap := h.push (itO c l1)
abbrev zh2 (c d : Bool) (h : Heap) (l1 l2 : Addr) : Heap := (zh1 c h l1).push (itO d l2)
abbrev zh3 (c d : Bool) (h : Heap) (l1 l2 : Addr) : Heap := (zh2 c d h l1 l2).push { cls := .type "tuple", data := .seq #[.ref h.objs.size, .ref (zh1 c h l1).objs.size] }
abbrev zh4 (c d : Bool) (h : Heap) (l1 l2 : Addr) : Heap := (zh3 c d h l1 l2).push { cls := .type "tuple", data := .seq #[.none, .none] }
abbrev zh5 (c d : Bool) (h : Heap) (l1 l2 : Addr) : Heap := (zh4 c d h l1 l2).push { cls := .type "zip", data := .fields #[.none, .bool false, .bool false, .ref (zh2 c d h l1 l2).objs.size, .ref (zh3 c d h l1 l2).objs.size] }
theorem zipA_new (c d : Bool) (l1 l2 : Addr) (xs ys : Array Value) : Meets (Builtin.«zip.__new__» ⟨[.type "zip", .ref l1, .ref l2], []⟩) (fun _ R s => SqA c s.heap l1 xs ∧ SqA d s.heap l2 ys ∧ R (.ok (.ret (.ref (zh4 c d s.heap l1 l2).objs.size))) { s with heap := zh5 c d s.heap l1 l2 }) :=
  .of_wp fun prog w A R s h => by
    obtain ⟨hp, g, dd, tk, os⟩ := s
    obtain ⟨m1, m2, h⟩ := h
    have hsub := PySem.sub_zip
    have M1 : SqA c (Shared.heap ⟨hp, g, dd, tk, os⟩) l1 xs := m1
    have M2 : SqA d (Shared.heap ⟨hp.push (itO c l1), g, dd, tk, os⟩) l2 ys := m2.at fun o e => Heap.get?_push_of_some _ e
    wp_walk using iterA M1, iterA M2
    exact ⟨_, rfl, h⟩
theorem call_zipA {c d : Bool} {l1 l2 : Addr} {xs ys : Array Value} {Q : Value → Shared → Prop} (m1 : SqA c s.heap l1 xs) (m2 : SqA d s.heap l2 ys)
    (h : ∀ h', IsZip h' (s.heap.objs.size + 4) (s.heap.objs.size + 2) (s.heap.objs.size + 3) .none → IsPair h' (s.heap.objs.size + 2) (.ref s.heap.objs.size) (.ref (s.heap.objs.size + 1)) →
      IsPair h' (s.heap.objs.size + 3) .none .none → ItA c h' s.heap.objs.size l1 0 → ItA d h' (s.heap.objs.size + 1) l2 0 → (∀ e o, s.heap.get? e = some o → h'.get? e = some o) → Q (.ref (s.heap.objs.size + 4)) { s with heap := h' }) :
    wpAny (model prog w) A (call (.type "zip") [.ref l1, .ref l2]) Q E s := by
  refine callType_new F.called_zip (by decide) (F.typeCall_zip_2 _ _) (F.newCall_zip_2 _ _) (fun obj => F.args_object_init_3 obj _ _) F.entry_zip_new (zipA_new c d l1 l2 xs ys) ⟨m1, m2, ?_⟩
  have n1 : (zh1 c s.heap l1).objs.size = s.heap.objs.size + 1 := Heap.size_push ..
  have n2 : (zh2 c d s.heap l1 l2).objs.size = s.heap.objs.size + 2 := by rw [Heap.size_push, n1]
  have n3 : (zh3 c d s.heap l1 l2).objs.size = s.heap.objs.size + 3 := by rw [Heap.size_push, n2]
  have n4 : (zh4 c d s.heap l1 l2).objs.size = s.heap.objs.size + 4 := by rw [Heap.size_push, n3]
  have up1 : ∀ {h : Heap} {o u : Obj} {e : Addr}, h.get? e = some u → (h.push o).get? e = some u := fun q => Heap.get?_push_of_some _ q
  have g5 : (zh5 c d s.heap l1 l2).get? (zh4 c d s.heap l1 l2).objs.size = some _ := Heap.get?_push_size _ rfl
  have g4 : (zh5 c d s.heap l1 l2).get? (zh3 c d s.heap l1 l2).objs.size = some _ := up1 (Heap.get?_push_size _ rfl)
  have g3 : (zh5 c d s.heap l1 l2).get? (zh2 c d s.heap l1 l2).objs.size = some _ := up1 (up1 (Heap.get?_push_size _ rfl))
  have g2 : (zh5 c d s.heap l1 l2).get? (zh1 c s.heap l1).objs.size = some (itO d l2) := up1 (up1 (up1 (Heap.get?_push_size _ (by cases d <;> rfl))))
  have g1 : (zh5 c d s.heap l1 l2).get? s.heap.objs.size = some (itO c l1) := up1 (up1 (up1 (up1 (Heap.get?_push_size _ (by cases c <;> rfl)))))
  show _ ∧ _
  rw [n2, n3, n4] at g5
  rw [n1, n2] at g3
  rw [n3] at g4
  rw [n1] at g2
  rw [n4]
  exact ⟨⟨_, g5, rfl⟩, h _ g5 g3 g4 (itO_at g1) (itO_at g2) fun e o q => up1 (up1 (up1 (up1 (up1 q))))⟩
end
/-- a list or a tuple that is read -/
def SqE (K : PySem.W.Frag) (H : Hp) (a : Addr) (xs : List V) : Bool → Prop
  | false => SqL K H a xs
  | true => SqT K H a xs
theorem SqE.mono {K : PySem.W.Frag} {H H' : Hp} {a : Addr} {xs : List V} {b : Bool} (e : Ext H H') (h : SqE K H a xs b) : SqE K H' a xs b := by
  cases b
  · exact e.seqL h
  · exact e.seqT h
theorem Inv.sqe {X : Cx} {pins : List (Addr × Obj)} {σ : St} {H : Hp} {s : Shared} {a : Addr} {xs : List V} {b : Bool} (I : Inv X pins σ H s) (h : SqE X.K H a xs b) : ∃ its : List Value, Vals xs its ∧ SqA b s.heap a its.toArray ∧ xs.length ≤ sizeLine := by
  cases b
  · obtain ⟨its, r, p, z⟩ := I.list h; exact ⟨its, r, p.isList, z⟩
  · obtain ⟨its, r, p, z⟩ := I.tuple h; exact ⟨its, r, p, z⟩
theorem Inv.sqe_inj {X : Cx} {pins : List (Addr × Obj)} {σ : St} {H : Hp} {s : Shared} {a : Addr} {xs ys : List V} {b : Bool} (I : Inv X pins σ H s) (h : SqE X.K H a xs b) (h' : SqE X.K H a ys b) : xs = ys := by
  cases b
  · exact I.list_inj h h'
  · exact I.tuple_inj h h'
def Itz2 (K : PySem.W.Frag) (c d : Bool) (p q : Addr) : It :=
  ⟨fun i H => ∃ xs ys, SqE K H p xs c ∧ SqE K H q ys d ∧ i < xs.length ∧ i < ys.length,
   fun i H x H' => ∃ r u v, H r = none ∧ x = .ref r ∧ H' = upd H r (.tup [u, v]) ∧ ∀ xs ys, SqE K H p xs c → SqE K H q ys d → xs[i]? = some u ∧ ys[i]? = some v,
   fun i H => ∃ xs ys, SqE K H p xs c ∧ SqE K H q ys d ∧ (xs.length ≤ i ∨ ys.length ≤ i)⟩
def zst (c d : Bool) (z TI TO i1 i2 l1 l2 : Addr) (i : Nat) (h : Heap) : Prop := IsZip h z TI TO .none ∧ IsPair h TI (.ref i1) (.ref i2) ∧ (∃ a b, IsPair h TO a b) ∧ ItA c h i1 l1 i ∧ ItA d h i2 l2 i
theorem turn_zip2 {P : Program} {w : World} {K : PySem.W.Frag} {es : List Expr} {kx : Nat} {tp : Pos} {cc dd : Bool} {z TI TO i1 i2 l1 l2 : Addr} (D : ZipApart z TI TO i1 i2 l1 l2) :
    Turn P w K (.Tuple es kx tp) (Itz2 K cc dd l1 l2) [z, TI, TO, i1, i2] z (zst cc dd z TI TO i1 i2 l1 l2) where
  mem := by simp
  obj := fun i h st b hb => by
    obtain ⟨hz, hTI, ⟨a, c, hTO⟩, s1, s2⟩ := st
    simp only [List.mem_cons, List.mem_nil_iff, or_false] at hb
    rcases hb with rfl | rfl | rfl | rfl | rfl
    · exact ⟨_, hz, fun v q => by cases q⟩
    · exact ⟨_, hTI, fun v q => by cases q⟩
    · exact ⟨_, hTO, fun v q => by cases q⟩
    · exact s1.ex
    · exact s2.ex
  keep := fun i h h' st k => by
    obtain ⟨hz, hTI, ⟨a, c, hTO⟩, s1, s2⟩ := st
    exact ⟨k z (by simp) _ hz, k TI (by simp) _ hTI, ⟨a, c, k TO (by simp) _ hTO⟩, s1.at fun o e => k i1 (by simp) o e, s2.at fun o e => k i2 (by simp) o e⟩
  item := by
    intro X hP hw hK hc i pins s σ H E I hf st hg
    subst hP hw hK
    obtain ⟨xs, ys, hx, hy, lx, ly⟩ := hg
    obtain ⟨hz, hTI, ⟨a, c, hTO⟩, s1, s2⟩ := id st
    obtain ⟨us, ru, pu, zu⟩ := I.sqe hx
    obtain ⟨ws, rw', pw, zw⟩ := I.sqe hy
    obtain ⟨u, eu, r1⟩ := ru.get (List.getElem?_eq_getElem lx)
    obtain ⟨v, ev, r2⟩ := rw'.get (List.getElem?_eq_getElem ly)
    refine zipA_item D hz hTI hTO s1 s2 pu pw (x := u) (y := v) (by simpa using eu) (by simpa using ev) fun h1 z1 t1 j1 j2 np kk => ⟨_, rfl, ?_⟩
    refine wpAny_letOwnedTupleGo_zip z1 fun h2 z2 sb => ?_
    have nT : s.heap.objs.size ≠ z := Nat.ne_of_gt (Heap.lt_size hz)
    have kk2 : ∀ b o, b ∉ [z, TI, TO, i1, i2] → s.heap.get? b = some o → h2.get? b = some o := fun b o hb e => by
      simp only [List.mem_cons, List.mem_nil_iff, or_false, not_or] at hb
      exact sb.extBut b o hb.1 (kk b o hb.1 hb.2.2.1 hb.2.2.2.1 hb.2.2.2.2 e)
    have np2 : IsPair h2 s.heap.objs.size u v := sb.extBut _ _ nT np
    have I2 := I.turnLaid (t' := s.toks) (a := s.heap.objs.size) (o := .tup [xs[i], ys[i]]) kk2 hf (Nat.le_refl _) (show ObjOk X.prog X.w _ h2 _ (.tup [xs[i], ys[i]]) from ⟨by show 2 ≤ sizeLine; rw [sizeLine_eq]; decide, [u, v], .cons r1 (.cons r2 .nil), ⟨⟨_, np2, rfl, 0, rfl⟩, _, np2, rfl⟩⟩)
    refine ⟨.ref s.heap.objs.size, _, I2, rfl, ⟨_, _, _, I.hok.fresh (Nat.le_refl _), rfl, rfl, fun xs' ys' e1 e2 => ?_⟩, ?_, fun b hb => ?_⟩
    · rw [I.sqe_inj e1 hx, I.sqe_inj e2 hy]
      exact ⟨List.getElem?_eq_getElem lx, List.getElem?_eq_getElem ly⟩
    · exact ⟨z2, sb.extBut _ _ D.TIz (kk TI _ D.TIz D.TITO D.TIi1 D.TIi2 hTI), ⟨_, _, sb.extBut _ _ D.TOz t1⟩, j1.at fun o e => sb.extBut _ o D.i1z e, j2.at fun o e => sb.extBut _ o D.i2z e⟩
    · rw [upd_ne (fun q => ?_)]
      · exact (hf b hb).1
      · have lt : b < s.heap.objs.size := by
          simp only [List.mem_cons, List.mem_nil_iff, or_false] at hb
          rcases hb with rfl | rfl | rfl | rfl | rfl
          · exact Heap.lt_size hz
          · exact Heap.lt_size hTI
          · exact Heap.lt_size hTO
          · exact s1.lt
          · exact s2.lt
        exact absurd lt (by rw [q]; exact Nat.lt_irrefl _)
  done := by
    intro X hP hw hK hc i pins s σ H E I hf st hg
    subst hP hw hK
    obtain ⟨xs, ys, hx, hy, hl⟩ := hg
    obtain ⟨hz, hTI, ⟨a, c, hTO⟩, s1, s2⟩ := st
    obtain ⟨us, ru, pu, zu⟩ := I.sqe hx
    obtain ⟨ws, rw', pw, zw⟩ := I.sqe hy
    have l1 := ru.length
    have l2 := rw'.length
    refine zipA_end (I.ok.hd hc) D hz hTI hTO s1 s2 pu pw ?_ fun h1 kk => ⟨rfl, I.turns (t' := s.toks) (ch := [z, TI, TO, i1, i2]) (fun b o hb e => ?_) hf⟩
    · rcases hl with q | q
      · exact .inl (by simp; omega)
      · exact .inr (by simp; omega)
    · simp only [List.mem_cons, List.mem_nil_iff, or_false, not_or] at hb
      exact kk b o hb.1 hb.2.2.1 hb.2.2.2.1 hb.2.2.2.2 e
  self := fun _ _ _ _ _ st h => wpAny_pyIter_zip st.1 h
section
variable {X : Cx}
/-- zip of two, each a list or a tuple -/
def iZip2 (K : PySem.W.Frag) (ta : TA) : TI := fun σ H R => ta σ H fun vs H1 => ∃ p q xs ys c d, vs = [.ref p, .ref q] ∧ SqE K H1 p xs c ∧ SqE K H1 q ys d ∧ R (Itz2 K c d p q) H1
theorem pi_zip2 {es : List Expr} {kx : Nat} {tp : Pos} {a b : Expr} {ta : TA} {p pos : Pos} (hg : Gl X "zip") (hm : X.mg "zip" = none) (ha : PA X [a, b] ta) (hs : starEach [a, b] X.env = [(false, eval a X.env), (false, eval b X.env)] := by rfl) (hs2 : starEach [b] X.env = [(false, eval b X.env)] := by rfl) :
    PI X (.Tuple es kx tp) (.Call (.Name "zip" p) [a, b] [] pos) (iZip2 X.K ta) := by
  intro pins s σ H R I h
  refine Call_ (ld_blt I hg hm boot_zip (PyProof.Rows.callWith_type1 (thn (ha pos pins s σ H _ I h) fun us s1 ⟨vs, H1, I1, r1, q1⟩ => ?_) (by rw [hs, hs2]) (by rw [hs2]; rfl)))
  obtain ⟨p1, p2, xs, ys, c, d, e, hx, hy, q⟩ := q1
  subst e
  obtain ⟨u, v, rfl, ru, rv⟩ := vals2 r1
  cases ru
  cases rv
  obtain ⟨i1, ri1, pl1, z1⟩ := I1.sqe hx
  obtain ⟨i2, ri2, pl2, z2⟩ := I1.sqe hy
  refine call_zipA pl1 pl2 fun h' hz hTI hTO j1 j2 hk => ?_
  have I2 : Inv X pins σ H1 { s1 with heap := h' } := I1.kept (t' := s1.toks) hk
  refine wpAny_pyIter_zip (s := { s1 with heap := h' }) hz ⟨_, [s1.heap.objs.size + 4, s1.heap.objs.size + 2, s1.heap.objs.size + 3, s1.heap.objs.size, s1.heap.objs.size + 1], _, _, H1, rfl, I2, turn_zip2 (zipApart_new pl1.lt pl2.lt), ⟨hz, hTI, ⟨_, _, hTO⟩, j1, j2⟩, fun b hb => ?_, q⟩
  have hb' : s1.heap.objs.size ≤ b := by
    simp only [List.mem_cons, List.mem_nil_iff, or_false] at hb
    rcases hb with rfl | rfl | rfl | rfl | rfl <;> omega
  exact I1.fpOk hb' (I1.hok.fresh hb')
end
theorem for_zip2 {K : PySem.W.Frag} {p q : Addr} {c d : Bool} {xs ys : List V} {g : TG} {tb : TS} {D : Ends} {σ : St} {H : Hp} (Pv : Nat → St → Hp → Prop) (hl : xs.length = ys.length) (h0 : Pv 0 σ H) (hq : ∀ i σ H, i ≤ xs.length → Pv i σ H → SqE K H p xs c ∧ SqE K H q ys d)
    (hs : ∀ i x y σ H r, xs[i]? = some x → ys[i]? = some y → Pv i σ H → H r = none → g (.ref r) σ (upd H r (.tup [x, y])) fun σ2 H2 => tb { D with nx := Pv (i + 1), ct := Pv (i + 1), bk := D.nx } σ2 H2) (hd : ∀ σ H, Pv xs.length σ H → D.nx σ H) :
    ∃ W : Nat → Nat → St → Hp → Prop, (∃ m, W 0 m σ H) ∧ ∀ i m σ H, W i m σ H →
      ((Itz2 K c d p q).stop i H ∧ D.nx σ H) ∨ ((Itz2 K c d p q).go i H ∧ ∃ N : St → Hp → Prop, (∀ σ' H', N σ' H' → ∃ m', m' < m ∧ W (i + 1) m' σ' H') ∧ ∀ x H', (Itz2 K c d p q).yld i H x H' → g x σ H' fun σ2 H2 => tb { D with nx := N, ct := N, bk := D.nx } σ2 H2) := by
  refine ⟨fun i m σ H => m = xs.length - i ∧ i ≤ xs.length ∧ Pv i σ H, ⟨xs.length, by simp, Nat.zero_le _, h0⟩, ?_⟩
  rintro i m σ H ⟨rfl, hi, pv⟩
  obtain ⟨q1, q2⟩ := hq i σ H hi pv
  by_cases hlt : i < xs.length
  · refine .inr ⟨⟨xs, ys, q1, q2, hlt, by omega⟩, Pv (i + 1), fun σ' H' p' => ⟨xs.length - (i + 1), by omega, rfl, hlt, p'⟩, fun x H' y => ?_⟩
    obtain ⟨r, u, v, n, rfl, rfl, y⟩ := y
    obtain ⟨e1, e2⟩ := y xs ys q1 q2
    exact hs i u v σ _ r e1 e2 pv n
  · have e : i = xs.length := by omega
    subst e
    exact .inl ⟨⟨xs, ys, q1, q2, .inl (Nat.le_refl _)⟩, hd σ H pv⟩
theorem comp_zip2 {K : PySem.W.Frag} {ts : List TT} {te : TE} {acc : Addr} {fr : St} {H1 : Hp} {R : Hp → Prop} {xs zs : List V} {p q : Addr} {c d : Bool} {u v : Option V} (hx : SqE K H1 p xs c) (hy : SqE K H1 q zs d) (hl : xs.length = zs.length) (hz : xs.length ≤ 1000000) (hn : H1 acc = none) (Pv : Nat → List V → Hp → Prop) (h0 : Pv 0 [] H1) (kp : ∀ i ys H H', Kp H H' → Pv i ys H → Pv i ys H') (len : ∀ i ys H, i ≤ xs.length → Pv i ys H → ys.length ≤ i)
    (turn : ∀ i x z ys H H', xs[i]? = some x → zs[i]? = some z → Ext H1 H → Ext H H' → Pv i ys H → Turned ts te (Pv (i + 1)) ys H (some x :: some z :: fr) H')
    (fin : ∀ ys H, Ext H1 H → H acc = some (.lst ys) → Pv xs.length ys H → R H) : rComp (Itz2 K c d p q) (gTup K 2 (gCons (gName 0) (gCons (gName 1) gNil))) ts te acc (u :: v :: fr) H1 R := by
  refine comp_gen xs.length hz hn (fun σ => ∃ u v, σ = u :: v :: fr) Pv ⟨u, v, rfl⟩ h0 kp (fun i H hi e => ⟨xs, zs, hx.mono e, hy.mono e, hi, by omega⟩) (fun H e => ⟨xs, zs, hx.mono e, hy.mono e, .inl (Nat.le_refl _)⟩) len ?_ fin
  rintro i σ ys H x H' G hi e ⟨u, v, rfl⟩ pv ⟨r, y1, y2, nr, rfl, rfl, y⟩ hG
  obtain ⟨e1, e2⟩ := y xs zs (hx.mono e) (hy.mono e)
  exact ⟨r, [y1, y2], rfl, SqT.of upd_same, rfl, y1, [y2], rfl, y2, [], rfl, rfl, hG _ _ ⟨_, _, rfl⟩ (turn i y1 y2 ys _ _ e1 e2 e (ext_upd nr) pv)⟩
end L2

set_option Elab.async false
set_option linter.all false
set_option maxRecDepth 100000
set_option maxHeartbeats 4000000
namespace L2
open PySem PySem.Spec PyProof.Rows
/-! ### enumerate over a list or a tuple -/
section
variable {prog : Program} {w : World} {A : Around} {E : Value → Shared → Prop} {s : Shared}
end
def Ite2 (K : PySem.W.Frag) (c : Bool) (p : Addr) : It :=
  ⟨fun i H => ∃ xs, SqE K H p xs c ∧ i < xs.length, fun i H x H' => ∃ r v, H r = none ∧ x = .ref r ∧ H' = upd H r (.tup [.int i, v]) ∧ ∀ xs, SqE K H p xs c → xs[i]? = some v, fun i H => ∃ xs, SqE K H p xs c ∧ xs.length ≤ i⟩
section
variable {X : Cx}
def iEnum (K : PySem.W.Frag) (ta : TA) : TI := fun σ H R => ta σ H fun vs H1 => ∃ p xs c, vs = [.ref p] ∧ SqE K H1 p xs c ∧ R (Ite2 K c p) H1
end
end L2

set_option Elab.async false
set_option linter.all false
set_option maxRecDepth 100000
set_option maxHeartbeats 4000000
namespace L2
open PySem PySem.Spec PyProof.Rows
/-! ### sorted of ints -/
section
variable {prog : Program} {w : World} {A : Around} {E : Value → Shared → Prop} {s : Shared}
theorem collectA {b : Bool} {l : Addr} {vs : List Value} {Q : List Value → Shared → Prop} (hl : SqA b s.heap l vs.toArray) (hz : vs.length ≤ sizeLine)
    (h : Q vs { s with heap := (s.heap.push (seqObj "list" #[] 0)).update s.heap.objs.size (Obj.mapSeq (· ++ vs.toArray)) }) : wpAny (model prog w) A (collect (.ref l)) Q E s := by
  cases b with
  | false => exact collect_list hl h hz
  | true =>
    obtain ⟨ob, eb, cb, nb, db⟩ := id hl
    unfold collect; refine wpAny_bind (wpAny_runValue (codeAny_builtin entry_proto_collect' ?_))
    show wpAny _ _ (do again (.builtin "list.__iadd__" ⟨[← newList [], .ref l], []⟩)) _ _ _; refine wpAny_bind (wpAny_newList (wpAny_pure ⟨Code.quiet_builtin _ (by decide +kernel), codeAny_builtin entry_list_iadd' ?_⟩))
    show wpAny _ _ (Builtin.List.listExtendWith (.ref s.heap.objs.size) (.ref l) (.ref s.heap.objs.size)) _ _ { s with heap := s.heap.push (seqObj "list" #[] 0) }; unfold Builtin.List.listExtendWith
    have eb' : (s.heap.push (seqObj "list" #[] 0)).get? l = some ob := Heap.get?_push_of_some _ eb
    refine wpAny_bind (wpAny_typeOf (T := "tuple") ⟨ob, eb', cb⟩ ?_)
    rw [if_pos (by rw [show (Value.type "tuple" == Value.type "tuple") = true from rfl]; simp)]
    refine wpAny_bind (listItems_at eb' db (wpAny_bind (listItems_at (xs := #[]) (n := 0) (Heap.get?_push_size _ rfl) rfl ?_))); rw [if_neg (by simp)]
    refine wpAny_bind (listUpdate_at (xs := #[]) (n := 0) (Heap.get?_push_size _ rfl) rfl (wpAny_pure ?_) (Nat.zero_le _) (by show (#[] ++ vs.toArray).size ≤ sizeLine + 1; simp only [Array.size_append, List.size_toArray, List.length_nil]; omega))
    show wpAny (model prog w) A (do let o ← load s.heap.objs.size; match o.data with | .seq xs _ => pure xs.toList | _ => unsupported "internal:collect") Q E { s with heap := (s.heap.push (seqObj "list" #[] 0)).update s.heap.objs.size (Obj.mapSeq (· ++ vs.toArray)) }
    refine wpAny_bind (wpAny_load (get?_update_seq (Heap.get?_push_size _ rfl) _) ?_)
    show wpAny _ _ (pure ((#[] : Array Value) ++ vs.toArray).toList) Q E _; rw [show ((#[] : Array Value) ++ vs.toArray).toList = vs by simp]; exact wpAny_pure h
theorem sortedA {b : Bool} {l : Addr} {vs : List Value} {ns : List Int} {Q : Value → Shared → Prop} (hl : SqA b s.heap l vs.toArray) (hz : vs.length ≤ sizeLine) (hI : IntsAre vs ns) (h64 : vs.length < 64)
    (h : ∀ (out : Array Value) (ns' : List Int), IntsAre out.toList ns' → ns'.Perm ns → ns'.Pairwise (· ≤ ·) → Q (.ref (s.heap.objs.size + 1)) { s with heap := sortedAll s.heap vs out }) : wpAny (model prog w) A (call (.builtin "sorted") [.ref l]) Q E s := by
  refine Calls.call_function_entry kind_sorted plain_sorted entry_sorted (args_sorted1 _) ?_; unfold Builtin.«sorted»
  refine wpAny_bind (m := checkCount "sorted" 1 1 _) (wpAny_pure (wpAny_bind (collectA hl hz (wpAny_bind (wpAny_newList ?_)))))
  have n1 : ((s.heap.push (seqObj "list" #[] 0)).update s.heap.objs.size (Obj.mapSeq (· ++ vs.toArray))).objs.size = s.heap.objs.size + 1 := by rw [Heap.size_update, size_push']
  have o1 : (((s.heap.push (seqObj "list" #[] 0)).update s.heap.objs.size (Obj.mapSeq (· ++ vs.toArray))).push (seqObj "list" vs.toArray 0)).get? (s.heap.objs.size + 1) = some (seqObj "list" vs.toArray 0) := by rw [← n1]; exact Heap.get?_push_size _ rfl
  show wpAny _ _ _ _ _ { s with heap := ((s.heap.push (seqObj "list" #[] 0)).update s.heap.objs.size (Obj.mapSeq (· ++ vs.toArray))).push (seqObj "list" vs.toArray 0) }; rw [n1]
  exact wpAny_bind (wpAny_holding (wpAny_call_entry slot_list_sort ⟨_, o1, rfl⟩ entry_list_sort (list_sort_tree o1 hI h64 fun out ns' a1 a2 a3 => ⟨_, rfl, wpAny_pure ⟨_, rfl, h out ns' a1 a2 a3⟩⟩) (args_list_sort _)))
end
section
variable {X : Cx}
def rSorted (K : PySem.W.Frag) : List V → Hp → VK → Prop := fun xs H Q => ∃ (p : Addr) (ns : List Int) (c : Bool), xs = [.ref p] ∧ SqE K H p (ns.map V.int) c ∧ ns.length < 64 ∧ ∀ l (ns' : List Int), H l = none → ns'.Perm ns → ns'.Pairwise (· ≤ ·) → Q (.ref l) (upd H l (.lst (ns'.map V.int)))
theorem cSorted : CallR X (.builtin "sorted") (rSorted X.K) := by
  intro pins s σ H xs us Q I r h
  obtain ⟨p, ns, c, rfl, hq, h64, q⟩ := h
  obtain ⟨u, rfl, rx⟩ := vals1 r
  cases rx
  obtain ⟨its, r', pl, hz⟩ := I.sqe hq
  have hi : IntsAre its ns := intsAre_of r'
  have hlen := r'.length
  rw [List.length_map] at hlen hz
  refine sortedA pl (by omega) hi (by omega) fun out ns' a1 a2 a3 => ?_
  obtain ⟨e, he⟩ := sortedAll_at s.heap its out
  refine ⟨.ref (s.heap.objs.size + 1), _, I.laid (t' := s.toks) (fun b o q => sortedAll_old q) (Nat.le_succ _) (show ObjOk X.prog X.w _ _ _ (.lst (ns'.map V.int)) from ⟨by rw [List.length_map, a2.length_eq]; exact hz, out.toList, e, vals_ints a1, by simpa using he⟩), rfl, q _ ns' (I.hok.fresh (Nat.le_succ _)) a2 a3⟩
/-! ### all of bools -/
def rAll (K : PySem.W.Frag) : List V → Hp → VK → Prop := fun xs H Q => ∃ (p : Addr) (bs : List Bool), xs = [.ref p] ∧ SqL K H p (bs.map V.bl) ∧ Q (.bl (bs.all id)) H
theorem bools_of : ∀ {bs : List Bool} {us : List Value}, Vals (bs.map V.bl) us → us = bs.map Value.bool
  | [], us, r => by cases r; rfl
  | b :: bs, us, r => by
    cases r with
    | cons r1 r2 => rw [bools_of r2, show _ = Value.bool b from r1]; rfl
theorem all_range : ∀ bs : List Bool, (List.range bs.length).all (fun i => bs.getD i true) = bs.all id := by
  intro bs
  rw [Bool.eq_iff_iff, List.all_eq_true, List.all_eq_true]
  constructor
  · intro h x hx
    obtain ⟨i, hi, rfl⟩ := List.getElem_of_mem hx
    have := h i (List.mem_range.mpr hi)
    rwa [List.getD_eq_getElem?_getD, List.getElem?_eq_getElem hi] at this
  · intro h i hi
    have hi' := List.mem_range.mp hi
    rw [List.getD_eq_getElem?_getD, List.getElem?_eq_getElem hi']
    exact h _ (List.getElem_mem hi')
theorem cAll (hc : X.calm = true) : CallR X (.builtin "all") (rAll X.K) := by
  intro pins s σ H xs us Q I r h
  obtain ⟨p, bs, rfl, hq, q⟩ := h
  obtain ⟨u, rfl, rx⟩ := vals1 r
  cases rx
  obtain ⟨its, r', pl, hz⟩ := I.list hq
  have e := bools_of r'
  subst e
  refine call_all_walk (wpAny_pyIter_list pl.isList ?_)
  have ne : p ≠ s.heap.objs.size := by obtain ⟨_, e, _⟩ := pl.isList; exact Nat.ne_of_lt (Heap.lt_size e)
  refine ⟨s.heap.objs.size, _, _, _, _, _, fun i => bs.getD i true, rfl, Walks.list (A := X.A.in1) (I.ok.hd hc) _ p ne (bs.map Value.bool).toArray, ⟨⟨_, Heap.get?_push_size _ rfl, rfl, rfl⟩, Heap.IsList.push pl.isList _⟩, fun i v s' Q' E' hv hQ => ?_, fun h' tk hk => ?_⟩
  · have hv' : (bs.map Value.bool)[i]? = some v := by simpa using hv
    rw [List.getElem?_map] at hv'
    cases e : bs[i]? with
    | none => rw [e] at hv'; cases hv'
    | some b =>
      rw [e] at hv'
      cases hv'
      refine wpAny_truthy_bool ?_
      have : bs.getD i true = b := by rw [List.getD_eq_getElem?_getD, e]; rfl
      have hQ' : Q' (bs.getD i true) s' := hQ
      rw [this] at hQ'
      exact hQ'
  · refine ⟨.bl (bs.all id), H, I.kept (t' := tk) fun b o q => hk b o (by simp; exact Nat.ne_of_lt (Heap.lt_size q)) (Heap.get?_push_of_some _ q), ?_, q⟩
    show Value.bool _ = Value.bool _
    rw [← all_range bs]
    simp

/-! ### == and in, over data -/
end
mutual
def D.py : D → PyData
  | .non => .none | .bl b => .bool b | .int i => .int i | .str x => .str x | .tup l => .tuple (D.pyL l) | .lst l => .list (D.pyL l) | .dct => .dict []
def D.pyL : List D → List PyData
  | [] => []
  | d :: r => d.py :: D.pyL r
/-- no dict, texts of a fair length -/
def D.eqOk : D → Bool
  | .str x => PyData.strOk x
  | .tup l => D.eqOkL l
  | .lst l => D.eqOkL l
  | .dct => false
  | _ => true
def D.eqOkL : List D → Bool
  | [] => true
  | d :: r => d.eqOk && D.eqOkL r
end
mutual
theorem D.canLay : ∀ d : D, d.eqOk = true → d.py.canLay0 = true
  | .non, _ => by simp [D.py, PyData.canLay0]
  | .bl _, _ => by simp [D.py, PyData.canLay0]
  | .int _, _ => by simp [D.py, PyData.canLay0]
  | .str x, h => by simp only [D.eqOk] at h; simpa [D.py, PyData.canLay0] using h
  | .tup l, h => by simp only [D.eqOk] at h; simpa [D.py, PyData.canLay0] using D.canLayL l h
  | .lst l, h => by simp only [D.eqOk] at h; simpa [D.py, PyData.canLay0] using D.canLayL l h
  | .dct, h => by simp [D.eqOk] at h
theorem D.canLayL : ∀ l : List D, D.eqOkL l = true → PyData.canLayAll0 (D.pyL l) = true
  | [], _ => by simp [D.pyL, PyData.canLayAll0]
  | d :: r, h => by
    simp only [D.eqOkL, Bool.and_eq_true] at h
    simp [D.pyL, PyData.canLayAll0, D.canLay d h.1, D.canLayL r h.2]
theorem D.pyDepth : ∀ d : D, d.py.depth ≤ d.depth + 1
  | .non => by simp [D.py, PyData.depth]
  | .bl _ => by simp [D.py, PyData.depth]
  | .int _ => by simp [D.py, PyData.depth]
  | .str _ => by simp [D.py, PyData.depth]
  | .tup l => by have := D.pyDepthL l; simp only [D.py, PyData.depth, D.depth]; omega
  | .lst l => by have := D.pyDepthL l; simp only [D.py, PyData.depth, D.depth]; omega
  | .dct => by simp [D.py, PyData.depth, PyData.depthKv, D.depth]
theorem D.pyDepthL : ∀ l : List D, PyData.depthAll (D.pyL l) ≤ D.depthL l + 1
  | [] => by simp [D.pyL, PyData.depthAll]
  | d :: r => by have a := D.pyDepth d; have b := D.pyDepthL r; simp only [D.pyL, PyData.depthAll, D.depthL]; omega
end
section
variable {X : Cx} {pins : List (Addr × Obj)} {σ : St} {H : Hp} {s : Shared}
mutual
theorem reads_of (I : Inv X pins σ H s) : ∀ (d : D) {v : V} {u : Value}, Rep H d v → RelV v u → d.eqOk = true → ∃ as, Reads s.heap u d.py as
  | .non, v, u, h, r, _ => by unfold Rep at h; subst h; cases (show u = Value.none from r); exact ⟨_, .none⟩
  | .bl b, v, u, h, r, _ => by unfold Rep at h; subst h; cases (show u = Value.bool b from r); exact ⟨_, .bool b⟩
  | .int i, v, u, h, r, _ => by unfold Rep at h; subst h; obtain ⟨t, rfl⟩ := r; exact ⟨_, .int i t⟩
  | .str x, v, u, h, r, _ => by unfold Rep at h; subst h; obtain ⟨t, rfl⟩ := r; exact ⟨_, .str x t⟩
  | .tup l, v, u, h, r, ok => by
    unfold Rep at h
    obtain ⟨p, xs, rfl, hp, hl⟩ := h
    cases (show u = Value.ref p from r)
    obtain ⟨its, rv, ht, hz⟩ := I.tuple (SqT.of (K := X.K) hp)
    obtain ⟨as, ra⟩ := readsL_of I l hl rv (by simpa [D.eqOk] using ok)
    obtain ⟨o, e, c, n, dt⟩ := ht
    exact ⟨as, .tuple e c dt (by simpa using ra)⟩
  | .lst l, v, u, h, r, ok => by
    unfold Rep at h
    obtain ⟨p, xs, rfl, hp, hl⟩ := h
    cases (show u = Value.ref p from r)
    obtain ⟨its, rv, ht, hz⟩ := I.list (SqL.of (K := X.K) hp)
    obtain ⟨as, ra⟩ := readsL_of I l hl rv (by simpa [D.eqOk] using ok)
    obtain ⟨o, e, c, n, dt⟩ := ht.isList
    exact ⟨_, .list e c dt (by simpa using ra)⟩
  | .dct, v, u, h, r, ok => by simp [D.eqOk] at ok
theorem readsL_of (I : Inv X pins σ H s) : ∀ (l : List D) {vs : List V} {us : List Value}, RepL H l vs → Vals vs us → D.eqOkL l = true → ∃ as, ReadsAll s.heap us (D.pyL l) as
  | [], vs, us, h, r, _ => by unfold RepL at h; subst h; cases r; exact ⟨_, .nil⟩
  | d :: l, vs, us, h, r, ok => by
    unfold RepL at h
    obtain ⟨x, t, rfl, hd, hl⟩ := h
    simp only [D.eqOkL, Bool.and_eq_true] at ok
    cases r with
    | cons r1 r2 =>
      obtain ⟨as, a1⟩ := reads_of I d hd r1 ok.1
      obtain ⟨bs, b1⟩ := readsL_of I l hl r2 ok.2
      exact ⟨_, .cons a1 b1⟩
end
/-- what == says of two data -/
def eqD (a b : D) : Bool := PyData.eqv a.py b.py
def rEqD (neg : Bool) : R2 := fun x y H Q => ∃ a b, Rep H a x ∧ Rep H b y ∧ a.eqOk = true ∧ b.eqOk = true ∧ a.depth ≤ 20 ∧ Q (.bl (if neg then !eqD a b else eqD a b)) H
def rEqU : R2 := fun x y H Q => rEq x y H Q ∨ rEqD false x y H Q
def rNeU : R2 := fun x y H Q => rNe x y H Q ∨ rEqD true x y H Q
theorem op_eqD {k : Nat} (hr : Room k X.A) : OpR X (compareOp .Eq) (rEqD false) := by
  intro pins s σ H x y v u Q I rx ry h
  obtain ⟨a, b, ha, hb, oa, ob, hd, q⟩ := h
  obtain ⟨as, r1⟩ := reads_of I a ha rx oa
  obtain ⟨bs, r2⟩ := reads_of I b hb ry ob
  have h1 := D.pyDepth a
  exact SeqAt.compareEq_reads r1 r2 (D.canLay a oa) (D.canLay b ob) (by have := hr.units; omega) ⟨.bl (eqD a b), H, I, rfl, q⟩
theorem oEq {k : Nat} (hr : Room k X.A) : OpR X (compareOp .Eq) rEqU := op_eq.or (op_eqD hr)
end
section
variable {X : Cx}
/-! ### t + u of tuples, either may be empty -/
def rCatT2 (K : PySem.W.Frag) : R2 := fun x y H Q => ∃ a b xs ys, x = .ref a ∧ y = .ref b ∧ SqT K H a xs ∧ SqT K H b ys ∧ xs.length + ys.length ≤ 1000000 ∧
  (xs = [] → Q (.ref b) H) ∧ (xs ≠ [] → ys = [] → Q (.ref a) H) ∧ (xs ≠ [] → ys ≠ [] → ∀ p, H p = none → Q (.ref p) (upd H p (.tup (xs ++ ys))))
theorem op_catT2 : OpR X (binaryOp .Add) (rCatT2 X.K) := by
  intro pins s σ H x y v u Q I rx ry h
  obtain ⟨a, b, xs, ys, rfl, rfl, ha, hb, hl, q0, q1, q2⟩ := h
  cases rx
  cases ry
  obtain ⟨is1, r1, t1, z1⟩ := I.tuple ha
  obtain ⟨is2, r2, t2, z2⟩ := I.tuple hb
  have l1 := r1.length
  have l2 := r2.length
  have hz : is1.length + is2.length ≤ sizeLine := by rw [sizeLine_eq]; omega
  by_cases e : is1 = []
  · subst e
    have ex : xs = [] := List.length_eq_zero_iff.mp (by simpa using l1)
    obtain ⟨⟨cls, dd, data, sl⟩, ho, hc, n, hd⟩ := id t1
    obtain ⟨⟨cls2, dd2, data2, sl2⟩, ho2, hc2, n2, hd2⟩ := id t2
    simp only at hc hd hc2 hd2
    subst hc hd hc2 hd2
    exact concat_meets ⟨_, ho, rfl⟩ ⟨_, ho2, rfl⟩ noFill_tuple_add seq_tuple_add PySem.F.slot_tuple_add PySem.F.entry_tuple_add (PySem.F.args_tuple_add_2 _ _)
      (tuple_addW0 a b _ is2.toArray n n2 dd dd2 sl sl2 (by simp)) ⟨ho, ho2, ⟨.ref b, H, I, rfl, q0 ex⟩⟩
  · have ex : xs ≠ [] := fun z => e (List.length_eq_zero_iff.mp (by rw [← l1, z]; rfl))
    refine HT.cat_tup t1 t2 e (fun w => ⟨.ref a, H, I, rfl, q1 ex (List.length_eq_zero_iff.mp (by rw [l2, w]; rfl))⟩) (fun w => ?_) hz
    have ey : ys ≠ [] := fun z => w (List.length_eq_zero_iff.mp (by rw [← l2, z]; rfl))
    refine ⟨.ref s.heap.objs.size, _, I.laid (t' := s.toks) (fun b o e => Heap.get?_push_of_some _ e) (Nat.le_refl _) (show ObjOk X.prog X.w _ _ _ (.tup (xs ++ ys)) from ⟨by rw [List.length_append]; omega, is1 ++ is2, r1.append r2, TupN.new _ _⟩), rfl, q2 ex ey _ (I.hok.fresh (Nat.le_refl _))⟩
def rAddV (K : PySem.W.Frag) : R2 := fun x y H Q => (rI0 (fun i j => .int (i + j)) x y H Q ∨ rCat x y H Q) ∨ rCatT2 K x y H Q
theorem oAddV : OpR X (binaryOp .Add) (rAddV X.K) := (op_add.or op_cat).or op_catT2
end
end L2

set_option Elab.async false
set_option linter.all false
set_option maxRecDepth 100000
set_option maxHeartbeats 4000000
namespace L2
open PySem PySem.Spec PyProof.Rows
section
variable {K : PySem.W.Frag} {σ : St} {H : Hp} {Q : VK} {D : Ends}
theorem r_addV {i j : Int} (q : Q (.int (i + j)) H) : rAddV K (.int i) (.int j) H Q := .inl (.inl ⟨i, j, rfl, rfl, q⟩)
theorem r_catL {l b : Addr} {xs zs : List V} (h1 : H l = some (.lst xs)) (h2 : H b = some (.lst zs)) (hl : xs.length + zs.length ≤ 1000000) (q : ∀ p H', H p = none → H' p = some (.lst (xs ++ zs)) → Ext H H' → Q (.ref p) H') : rAddV K (.ref l) (.ref b) H Q :=
  .inl (.inr ⟨l, b, xs, zs, rfl, rfl, h1, h2, Nat.le_trans hl (by rw [sizeLine_eq]; decide), fun p n => q p _ n upd_same (ext_upd n)⟩)
theorem r_gsub {to ti : TE} {t : TSet} {v : V} {R : St → Hp → Prop} (q : to σ H fun o H1 => ti σ H1 fun i H2 => t o i v H2 fun H3 => R σ H3) : gSub to ti t v σ H R := q
theorem r_setL {p : Addr} {xs : List V} {k : Int} {j : Nat} {v : V} {R : Hp → Prop} (h : H p = some (.lst xs)) (e : ixN xs.length k = some j) (q : ∀ H', H' p = some (.lst (xs.set j v)) → But p H H' → R H') : rSetL (.ref p) (.int k) v H R := ⟨p, xs, k, j, rfl, rfl, h, e, q _ upd_same but_upd⟩
theorem r_sl {r : V → Option Int → Option Int → Hp → VK → Prop} {te : TE} {tl th : TO} (q : te σ H fun x H1 => tl σ H1 fun l H2 => th σ H2 fun u H3 => r x l u H3 Q) : tSl r te tl th σ H Q := q
theorem r_nopart {R : Option Int → Hp → Prop} (q : R none H) : tNoPart σ H R := q
def rPart (x : V) (R : Option Int → Hp → Prop) (H : Hp) : Prop := ∃ i, x = .int i ∧ R (some i) H
theorem r_part {te : TE} {R : Option Int → Hp → Prop} (q : te σ H fun x H1 => rPart x R H1) : tPart te σ H R := q
theorem r_partI {i : Int} {R : Option Int → Hp → Prop} (q : R (some i) H) : rPart (.int i) R H := ⟨i, rfl, q⟩
theorem r_slL {p : Addr} {xs : List V} {lo hi : Option Int} (h : H p = some (.lst xs)) (q : ∀ l H', H l = none → H' l = some (.lst (cutV xs lo hi)) → Ext H H' → Q (.ref l) H') : rSlU K (.ref p) lo hi H Q := .inr ⟨p, xs, rfl, SqL.of h, fun l n => q l _ n upd_same (ext_upd n)⟩
theorem r_zip2 {ta : TA} {R : It → Hp → Prop} (q : ta σ H fun vs H1 => ∃ p q xs ys c d, vs = [.ref p, .ref q] ∧ SqE K H1 p xs c ∧ SqE K H1 q ys d ∧ R (Itz2 K c d p q) H1) : iZip2 K ta σ H R := q
theorem r_sortedT {p : Addr} {ns : List Int} (h : H p = some (.tup (ns.map V.int))) (hl : ns.length < 64) (q : ∀ l (ns' : List Int) H', H l = none → ns'.Perm ns → ns'.Pairwise (· ≤ ·) → H' l = some (.lst (ns'.map V.int)) → Ext H H' → Q (.ref l) H') : rSorted K [.ref p] H Q :=
  ⟨p, ns, true, rfl, SqT.of h, hl, fun l ns' n a b => q l ns' _ n a b upd_same (ext_upd n)⟩
theorem r_all {p : Addr} {bs : List Bool} (h : H p = some (.lst (bs.map V.bl))) (q : Q (.bl (bs.all id)) H) : rAll K [.ref p] H Q := ⟨p, bs, rfl, SqL.of h, q⟩
theorem r_eqUI {i j : Int} (q : Q (.bl (decide (i = j))) H) : rEqU (.int i) (.int j) H Q := .inl (r_eqI q)
theorem r_eqUB {i j : Bool} (q : Q (.bl (decide (i = j))) H) : rEqU (.bl i) (.bl j) H Q := .inl (r_eqB q)
theorem r_eqUS {i j : Str} (q : Q (.bl (decide (i = j))) H) : rEqU (.str i) (.str j) H Q := .inl (r_eqS q)
theorem r_eqD {x y : V} {a b : L2.D} (ha : Rep H a x) (hb : Rep H b y) (oa : a.eqOk = true) (ob : b.eqOk = true) (hd : a.depth ≤ 20) (q : Q (.bl (eqD a b)) H) : rEqU x y H Q := .inr ⟨a, b, ha, hb, oa, ob, hd, q⟩
theorem r_inT {p : Addr} {x : V} {xs : List V} (h : H p = some (.tup xs)) (fx : flatV x = true) (fl : xs.all flatV = true) (q : Q (.bl (inV x xs)) H) : rInU K false x (.ref p) H Q := ⟨p, xs, rfl, .inr (SqT.of h), fx, fl, q⟩
theorem r_notinT {p : Addr} {x : V} {xs : List V} (h : H p = some (.tup xs)) (fx : flatV x = true) (fl : xs.all flatV = true) (q : Q (.bl (!inV x xs)) H) : rInU K true x (.ref p) H Q := ⟨p, xs, rfl, .inr (SqT.of h), fx, fl, q⟩
theorem r_tests0 {te : TE} {Y : V → Hp → Prop} {N : Hp → Prop} (q : te σ H Y) : tTests [] σ H fun b H3 => if b = true then te σ H3 Y else N H3 := by
  show (if true = true then te σ H Y else N H)
  rw [if_pos rfl]
  exact q
theorem r_tests1 {t : TT} {R : Bool → Hp → Prop} (q : t σ H fun b H1 => if b = true then R true H1 else R false H1) : tTests [t] σ H R := q
end
/-! ### lists of ints -/
theorem flat_ints (ns : List Int) : (ns.map V.int).all flatV = true := by
  rw [List.all_eq_true]
  intro x hx
  obtain ⟨i, _, rfl⟩ := List.mem_map.mp hx
  rfl
theorem inV_ints (i : Int) (ns : List Int) : inV (.int i) (ns.map V.int) = decide (i ∈ ns) := by
  unfold inV
  rw [List.any_map, Bool.eq_iff_iff, List.any_eq_true, decide_eq_true_iff]
  constructor
  · rintro ⟨x, hx, e⟩
    have : x = i := by simpa [eqV] using e
    exact this ▸ hx
  · intro h
    exact ⟨i, h, by simp [eqV]⟩
theorem eqv_ints : ∀ ns ms : List Int, PyData.eqvAll (D.pyL (ns.map D.int)) (D.pyL (ms.map D.int)) = decide (ns = ms)
  | [], [] => by simp [D.pyL, PyData.eqvAll]
  | [], _ :: _ => by simp [D.pyL, PyData.eqvAll]
  | _ :: _, [] => by simp [D.pyL, PyData.eqvAll]
  | a :: r, b :: t => by
    simp only [List.map_cons, D.pyL, PyData.eqvAll, D.py, PyData.eqv, eqv_ints r t]
    rw [Bool.eq_iff_iff]
    simp
theorem eqD_ints_l (ns ms : List Int) : eqD (.lst (ns.map D.int)) (.lst (ms.map D.int)) = decide (ns = ms) := by
  unfold eqD; simp only [D.py, PyData.eqv]; exact eqv_ints ns ms
theorem eqOk_ints (ns : List Int) : D.eqOkL (ns.map D.int) = true := by
  induction ns with
  | nil => rfl
  | cons n r ih => show (D.eqOk (.int n) && D.eqOkL (r.map D.int)) = true; rw [ih]; rfl
theorem Rep.tupInts {H : Hp} {p : Addr} {ns : List Int} (h : H p = some (.tup (ns.map V.int))) : Rep H (.tup (ns.map D.int)) (.ref p) := Rep.tupI h (RepL.ints ns)
theorem Rep.lstInts {H : Hp} {p : Addr} {ns : List Int} (h : H p = some (.lst (ns.map V.int))) : Rep H (.lst (ns.map D.int)) (.ref p) := Rep.lstI h (RepL.ints ns)
theorem r_eqLI {H : Hp} {Q : VK} {p q : Addr} {ns ms : List Int} (h1 : H p = some (.lst (ns.map V.int))) (h2 : H q = some (.lst (ms.map V.int))) (k : Q (.bl (decide (ns = ms))) H) : rEqU (.ref p) (.ref q) H Q :=
  r_eqD (Rep.lstInts h1) (Rep.lstInts h2) (eqOk_ints _) (eqOk_ints _) (by show D.depthL _ + 1 ≤ 20; rw [depthL_ints]; decide) (by rw [eqD_ints_l]; exact k)
theorem get_int {ns : List Int} {i : Nat} {x : V} (h : (ns.map V.int)[i]? = some x) : ∃ n, ns[i]? = some n ∧ x = .int n := by
  rw [List.getElem?_map] at h
  cases e : ns[i]? with
  | none => rw [e] at h; cases h
  | some n => rw [e] at h; cases h; exact ⟨n, rfl, rfl⟩
theorem sorted_uniq {a b c : List Int} (h1 : a.Perm c) (h2 : b.Perm c) (s1 : a.Pairwise (· ≤ ·)) (s2 : b.Pairwise (· ≤ ·)) : a = b :=
  List.Perm.eq_of_pairwise (fun x y _ _ h1 h2 => Int.le_antisymm h1 h2) s1 s2 (h1.trans h2.symm)
end L2

set_option Elab.async false
set_option linter.all false
set_option maxRecDepth 100000
set_option maxHeartbeats 4000000
namespace L2
open PySem PySem.Spec PyProof.Rows
section
variable {X : Cx}
/-! ### the least of a list of ints -/
def IsMin (m : Int) (ns : List Int) : Prop := m ∈ ns ∧ ∀ x ∈ ns, m ≤ x
/-- the least of a list -/
def mn : List Int → Int
  | [] => 0
  | [x] => x
  | x :: y :: r => min x (mn (y :: r))
def rMin1 (K : PySem.W.Frag) : List V → Hp → VK → Prop := fun xs H Q => ∃ (p : Addr) (ns : List Int), xs = [.ref p] ∧ SqL K H p (ns.map V.int) ∧ ns ≠ [] ∧ ∀ m, IsMin m ns → Q (.int m) H
/-- one argument or two -/
def rMinU (K : PySem.W.Frag) : List V → Hp → VK → Prop := fun xs H Q => rMin2 xs H Q ∨ rMin1 K xs H Q
/-! ### xs.index(k) upon a list of ints -/
def rIndex : V → List V → Hp → VK → Prop := fun x vs H Q => ∃ (l : Addr) (ns : List Int) (k : Int), x = .ref l ∧ vs = [.int k] ∧ H l = some (.lst (ns.map V.int)) ∧ k ∈ ns ∧ ns.length ≤ 1000000 ∧ Q (.int (ns.idxOf k)) H
end
/-! ### a def with defaults -/
structure FunD (K : PySem.W.Frag) (x qual : Str) (st : Stmt) (f : Addr) (fd : FuncData) (ds : List Value) : Prop where
  ex : ∃ (oc : Value) (od : Option Addr) (T : Addr) (kV doc pm : Value) (an : Option Addr) (cdv ct : Value) (osl : Array (Option Value)) (tc : Value) (td : Option Addr) (tn : Nat) (tsl : Array (Option Value)),
    fd = PySem.W.fnOf x qual (defArgs st) (defBody st) (defScope st) (.ref T) kV doc pm an cdv ct ∧ K.lookup f = some ⟨oc, od, .func fd, osl⟩ ∧ PySem.W.codeIn K cdv qual = true ∧ K.lookup T = some ⟨tc, td, .seq ds.toArray tn, tsl⟩
  kp : PySem.W.keepIn K (.ref f) = true
section
variable {P : Program} {w : World} {K : PySem.W.Frag} {mg : Str → Option Value} {base : Heap} {ds : List Value}
theorem FunD.okU {x qual : Str} {st : Stmt} {f : Addr} {fd : FuncData} {N ps : List Str} {k : Nat} {sp : Sp} (F : FunD K x qual st f fd ds) (S : FnScope N ps (defScope st)) (len : ∀ vs H Q E, sp vs H Q E → vs.length = ps.length)
    (hbody : ∀ (cdv : Value) (A : Around) (outer : List Env) (s : Shared) (H : Hp) (vs : List V) (Q : VK) (E : XK), Room k (A.deeper (envOfC qual (defScope st) s.heap.objs.size f cdv)) → sp vs H Q E →
      ∃ t, PSs (cxOf (CXU P w) P w K mg base N qual (defScope st) f cdv A outer s H E).nox (defBody st) t ∧ t { nx := fun _ H' => Q .non H', rt := Q } (start N vs) H) : FnOk P w K mg base (CXU P w) (k + 1) f fd ps sp := by
  obtain ⟨oc, od, T, kV, doc, pm, an, cdv, ct, osl, tc, td, tn, tsl, rfl, lk, hcd, _⟩ := F.ex
  refine fn_of lk hcd S len fun A outer s H vs Q E hr hsp => ?_
  obtain ⟨t, h, q⟩ := hbody cdv A outer s H vs Q E hr hsp
  exact ⟨t, h.nox, q⟩
theorem FunD.binds {x qual : Str} {st : Stmt} {f : Addr} {fd : FuncData} {ps : List Str} {es : List Value} (F : FunD K x qual st f fd ds)
    (h : ∀ (T : Addr) (kV doc pm : Value) (an : Option Addr) (cdv ct : Value) (us : List Value), (us ++ es).length = ps.length → ∃ k : Option (Array Value) → Sem (List (Str × Value)), bindArgs (PySem.W.fnOf x qual (defArgs st) (defBody st) (defScope st) (.ref T) kV doc pm an cdv ct) ⟨us, []⟩ = (seqItems? (.ref T) >>= k) ∧ k (some ds.toArray) = pure (ps.zip (us ++ es))) : Binds K fd ps es := by
  obtain ⟨oc, od, T, kV, doc, pm, an, cdv, ct, osl, tc, td, tn, tsl, rfl, lk, hcd, hT⟩ := F.ex
  intro s us KX hl
  obtain ⟨k, h1, h2⟩ := h T kV doc pm an cdv ct us hl
  exact PySem.W.binds_K (T := T) KX rfl hT rfl h1 h2
end
/-! ### readings -/
/-- an object of C is one of B too -/
structure IsC (K : PySem.W.Frag) (C B : Addr) : Prop where
  ha : PySem.W.findIn K (.ref C) "__class__" = some (some (.builtin "object.__class__"))
  hn : PySem.W.specialIn K (.builtin "object.__class__") "__get__" = some (some (.builtin "getset_descriptor.__get__"))
  htk : PySem.W.takesIn K (.builtin "object.__class__") = some true
  hm : PySem.W.mroIn K C (.type "object") = some true
  ki : PySem.W.kitOne K (.ref C) (.ref B) = some true
section
variable {K : PySem.W.Frag} {σ : St} {H : Hp} {Q : VK} {D : Ends}
end
/-! ### comprehensions that take every item -/
theorem get_src {α : Type} {src : α → V} {l : List α} {i : Nat} {x : V} (h : (l.map src)[i]? = some x) : ∃ y, l[i]? = some y ∧ x = src y := by
  rw [List.getElem?_map] at h
  cases e : l[i]? with
  | none => rw [e] at h; cases h
  | some n => rw [e] at h; cases h; exact ⟨n, rfl, rfl⟩
section
variable {K : PySem.W.Frag} {α β γ : Type} {te : TE} {acc : Addr} {fr : St} {H1 : Hp} {R : Hp → Prop}
theorem comp_mapR (mk : β → V) (f : Nat → β) {n : Nat} {u : Option V} (hz : n ≤ 1000000) (hn : H1 acc = none)
    (turn : ∀ (i : Nat) H (Y : V → Hp → Prop), i < n → Ext H1 H → (∀ H', Ext H H' → Y (mk (f i)) H') → te (some (.int (i : Nat)) :: fr) H Y)
    (fin : ∀ H, Ext H1 H → H acc = some (.lst (((List.range n).map f).map mk)) → R H) : rComp (Itr 0 n) (gName 0) [] te acc (u :: fr) H1 R := by
  refine comp_range hz hn (fun j ys _ => ys = ((List.range j).map f).map mk) rfl (fun _ _ _ _ _ h => h) (fun j ys H _ h => by rw [h]; simp) ?_ ?_
  · intro j ys H hj e h Y N hY hN
    rw [show ((0 : Int) + (j : Nat)) = (j : Nat) by omega]
    refine r_tests0 (turn j H Y hj e fun H' e' => hY _ _ e' ?_)
    rw [List.range_succ, h]
    simp
  · intro ys H e ha h
    refine fin H e ?_
    rw [ha, h]
theorem comp_mapZ (src : α → V) (sr2 : γ → V) (mk : β → V) (f : α → γ → β) {p q : Addr} {c d : Bool} {u v : Option V} {l : List α} {m : List γ} (hx : SqE K H1 p (l.map src) c) (hy : SqE K H1 q (m.map sr2) d) (hl : l.length = m.length) (hz : l.length ≤ 1000000) (hn : H1 acc = none)
    (turn : ∀ (i : Nat) x y H (Y : V → Hp → Prop), l[i]? = some x → m[i]? = some y → Ext H1 H → (∀ H', Ext H H' → Y (mk (f x y)) H') → te (some (src x) :: some (sr2 y) :: fr) H Y)
    (fin : ∀ H, Ext H1 H → H acc = some (.lst ((List.zipWith f l m).map mk)) → R H) : rComp (Itz2 K c d p q) (gTup K 2 (gCons (gName 0) (gCons (gName 1) gNil))) [] te acc (u :: v :: fr) H1 R := by
  refine comp_zip2 hx hy (by simpa using hl) (by rw [List.length_map]; exact hz) hn (fun j ys _ => ys = ((List.zipWith f l m).take j).map mk) (by simp) (fun _ _ _ _ _ h => h) (fun j ys H _ h => by rw [h]; simp; omega) ?_ ?_
  · intro j x y ys H H' hx' hy' e e' h Y N hY hN
    obtain ⟨x, ex, rfl⟩ := get_src hx'
    obtain ⟨y, ey, rfl⟩ := get_src hy'
    refine r_tests0 (turn j x y H' Y ex ey (e.tr e') fun H2 e2 => hY _ _ (e'.tr e2) ?_)
    rw [List.take_add_one, List.getElem?_zipWith, ex, ey, h]
    simp
  · intro ys H e ha h
    refine fin H e ?_
    rw [ha, h, List.length_map, List.take_of_length_le (by rw [List.length_zipWith]; omega)]
end
end L2

set_option Elab.async false
set_option linter.all false
set_option maxRecDepth 100000
set_option maxHeartbeats 4000000
namespace L2
open PySem PySem.Spec PyProof.Rows
section
variable {X : Cx}
/-! ### x in a list of data, where it is there -/
def rInT : R2 := fun x y H Q => ∃ (p : Addr) (xs : List V) (ds : List L2.D) (a : L2.D), y = .ref p ∧ H p = some (.lst xs) ∧ RepL H ds xs ∧ Rep H a x ∧ D.eqOkL ds = true ∧ a.eqOk = true ∧ (∀ d ∈ ds, d.depth ≤ 20) ∧ (∃ d ∈ ds, eqD d a = true) ∧ Q (.bl true) H
open Classical in
/-! ### != over data -/
end
section
variable {K : PySem.W.Frag} {σ : St} {H : Hp} {Q : VK}
end
end L2

set_option Elab.async false
set_option linter.all false
set_option maxRecDepth 100000
set_option maxHeartbeats 4000000
/-! ## try: .. except C as e: .. -/
namespace L2
open PySem PySem.Spec PyProof.Rows
section
variable {X : Cx} {pins : List (Addr × Obj)} {σ : St} {H : Hp} {s : Shared} {h' : Heap} {n : Nat}
open Classical in
end

/-- an error that left the body of a try -/
def XP (X : Cx) (pins : List (Addr × Obj)) (σ : St) (E : XK) (e : Value) (s : Shared) : Prop :=
  ∃ n H a C dx, e = .ref a ∧ X.s₀.heap.objs.size ≤ n ∧ (∀ p ∈ X.pn ++ pins, p.1 < n) ∧ Inv X pins σ H s ∧ Err n H s.heap a C dx .none ∧ E C dx H
section
variable {X : Cx} {k : Nat} {f C : Addr} {fd : FuncData} {ps : List Str} {sp : Sp} {dvs : List V} {ds : List Value} {E : XK}
theorem XP.of {pins : List (Addr × Obj)} {σ : St} {H : Hp} {s s' : Shared} {e : Value} (I : Inv X pins σ H s) (h : CXE X.prog X.w X.stack H s E e s') : XP X pins σ E e s' := by
  obtain ⟨a, C, dx, H', rfl, ho, hg, u, hok, er, q⟩ := h
  exact ⟨_, H', a, C, dx, rfl, I.sz, fun p hp => Heap.lt_size (I.pin p hp).1, I.call' (ch := []) ho u hok hg fun b z => absurd z (by simp), er, q⟩
end
/-- an expression of a try's body that may raise; E: what is wanted then -/
def PEX (X : Cx) (e : Expr) (t : XK → TE) : Prop := ∀ (pins : List (Addr × Obj)) (s : Shared) (σ : St) (H : Hp) (Q : VK) (E : XK), Inv X pins σ H s → t E σ H Q → wpAny (model X.prog X.w) X.A (eval e X.env) (EP X pins σ Q) (XP X pins σ E) s
def PSX (X : Cx) (st : Stmt) (t : XK → TS) : Prop := ∀ (pins : List (Addr × Obj)) (s : Shared) (σ : St) (H : Hp) (D : Ends) (E : XK), Inv X pins σ H s → t E D σ H → wpAny (model X.prog X.w) X.A (exec st X.env) (SP X pins D) (XP X pins σ E) s
def PSXs (X : Cx) (st : List Stmt) (t : XK → TS) : Prop := ∀ (pins : List (Addr × Obj)) (s : Shared) (σ : St) (H : Hp) (D : Ends) (E : XK), Inv X pins σ H s → t E D σ H → wpAny (model X.prog X.w) X.A (execs st X.env) (SP X pins D) (XP X pins σ E) s
section
variable {X : Cx} {k : Nat} {f C : Addr} {fd : FuncData} {ps : List Str} {sp : Sp} {dvs : List V} {ds : List Value} {x m : Str} {p pos apos : Pos} {e o : Expr} {es : List Expr} {ta : TE} {t : TA}
end
end L2

set_option Elab.async false
set_option linter.all false
set_option maxRecDepth 100000
set_option maxHeartbeats 4000000
namespace L2
open PySem PySem.Spec PyProof.Rows
section
variable {M : Model} {A : Around} {E : Value → Shared → Prop} {s : Shared} {n : Nat} {H : Hp} {a : Addr} {C : Value} {dx : Option Addr} {fl : Value}
/-- there is a head -/
def Topped (h : Heap) (a : Addr) : Prop := ∃ oe vs T, h.get? a = some oe ∧ oe.data = .fields vs ∧ vs[1]? = some (.ref T)
end
/-- an error of the class C is one of the class L -/
structure Catch (K : PySem.W.Frag) (C L : Addr) : Prop where
  ex : ∃ bm bl, ErrC K C bm ∧ ErrC K L bl ∧ (Value.ref C :: bm).contains (.ref L) = true
section
variable {X : Cx} {pins : List (Addr × Obj)} {σ : St} {H : Hp} {s : Shared}
/-- within an except suite -/
abbrev Cx.inEx (X : Cx) (a : Addr) : Cx := { X with A := X.A.mark (some (.ref a)), calm := false }
theorem Cx.Ok.inEx (ok : X.Ok) (a : Addr) : (X.inEx a).Ok :=
  ⟨ok.mod, ok.kind, ok.glob, ok.blt, ok.above, ok.inj, ok.has, ok.cab, fun z => Bool.noConfusion z, ok.frames, ok.stk, ok.exf, ok.bs, ok.bsz, ok.noex, ok.exfs, ok.funs, ok.frf⟩
theorem Inv.inEx (I : Inv X pins σ H s) (a : Addr) : Inv (X.inEx a) pins σ H s := ⟨I.ok.inEx a, I.os, I.bare, I.base, I.loc, I.cell, I.free, I.freeC, I.pin, I.hok, I.len⟩
/-- a name has gone -/
theorem Inv.gone {h' : Heap} {i t' : Nat} {x : Str} {v : Option Value} {m : Str → Option Value} (I : Inv X pins σ H s) (hN : X.N.Nodup) (hi : X.N[i]? = some x) (hm : s.heap.Ns X.env.locals m) (hn : h'.Ns X.env.locals (fun y => if y = x then v else m y)) (hs : Heap.SameBut X.env.locals s.heap h') : Inv X pins (σ.set i none) H { s with heap := h', toks := t' } := by
  obtain ⟨m2, hn2, hl⟩ := id I.loc
  have em : ∀ y, m2 y = m y := fun y => by
    obtain ⟨o1, es1, ep1, g1, d1, _, f1⟩ := id hn2
    obtain ⟨o2, es2, ep2, g2, d2, _, f2⟩ := id hm
    rw [g1] at g2; cases g2
    rw [d1] at d2; cases d2
    exact (f1 y).symm.trans (f2 y)
  obtain ⟨oL, _, _, hoL, _⟩ := id hm
  have low : ∀ b o, X.s₀.heap.get? b = some o → b ≠ X.env.locals := fun b o e => Nat.ne_of_lt (Nat.lt_of_lt_of_le (Heap.lt_size e) I.ok.above)
  refine ⟨I.ok, I.os, I.bare, ⟨fun b o e z hb hx => (hs.2 b (low b o e)).trans (I.base.keep b o e z hb hx), fun b o e z hb hx => ?_, I.base.free, fun b o e hx => ?_, I.base.tups, I.base.frzs, I.base.tbls⟩, ⟨_, hn, fun j y v' e1 e2 e3 => ?_⟩, fun y c e => ?_, I.free, I.freeC, fun p hp => ?_, fun b o e => ?_, by rw [List.length_set]; exact I.len⟩
  · obtain ⟨sl, e1⟩ := I.base.slot b o e z hb hx
    exact ⟨sl, (hs.2 b (low b o e)).trans e1⟩
  · obtain ⟨o', e1⟩ := I.base.there b o e hx
    exact ⟨o', (hs.2 b (low b o e)).trans e1⟩
  · have hj : j ≠ i := fun q => by
      subst q
      rw [List.getElem?_set_self (by rw [I.len]; exact (List.getElem?_eq_some_iff.mp e1).1)] at e2
      cases e2
    rw [List.getElem?_set_ne (Ne.symm hj)] at e2
    obtain ⟨u', r', q⟩ := hl j y v' e1 e2 e3
    refine ⟨u', r', ?_⟩
    rcases q with ⟨k, e⟩ | ⟨k, c, e, z⟩
    · refine .inl ⟨k, ?_⟩
      have : y ≠ x := fun e => hj (nodup_ix hN e1 (e ▸ hi))
      show (if y = x then v else m y) = some u'
      rw [if_neg this, ← em]
      exact e
    · exact .inr ⟨k, c, e, z.sameBut hs (I.cne y c e)⟩
  · obtain ⟨w', z⟩ := I.cell y c e
    exact ⟨w', z.sameBut hs (I.cne y c e)⟩
  · obtain ⟨e, z, ne, nf, d⟩ := I.pin p hp
    exact ⟨(hs.2 p.1 ne).trans e, z, ne, nf, d⟩
  · refine (I.hok b o e).stay (fun c w' hc q => (hs.2 c ?_).trans q) (fun _ q => q) fun _ _ q => q
    rintro rfl
    rcases hc with rfl | hc
    · rw [I.free] at e; cases e
    · rw [I.free] at hc; cases hc
end
/-- the ends within an except suite: its name goes -/
def Ends.gone (D : Ends) (i : Nat) : Ends := { nx := fun σ H => D.nx (σ.set i none) H, rt := D.rt, bk := fun σ H => D.bk (σ.set i none) H, ct := fun σ H => D.ct (σ.set i none) H }
def tTry (K : PySem.W.Frag) (L : Addr) (i : Nat) (tb : XK → TS) (ts : Addr → TS) : TS := fun D σ H =>
  tb (fun C dx H' => ∃ c, C = .ref c ∧ Catch K c L ∧ ∀ x, H' x = none → ts x (D.gone i) (σ.set i (some (.ref x))) (upd H' x (errH x C dx))) D σ H
end L2

set_option Elab.async false
set_option linter.all false
set_option maxRecDepth 100000
set_option maxHeartbeats 4000000
namespace L2
open PySem PySem.Spec PyProof.Rows
open PySem.Builtin PySem.Builtin.ObjectAttr
section
variable {E : Value → Shared → Prop} {prog : Program} {w : World} {A : Around} {h : Heap} {os : OsState} {g : Array GenState} {d : Drawn} {t : Nat}
variable {nm q : Str} {N : Addr} {bs bm : List Value} {sn : List Str} {sub : List Value} {ab : Bool} {col : Option Bool} {dd : Option Addr} {k0 k1 k2 k3 k5 : Option Value} {newId : String} {C a dx : Addr} {o : Obj} {name : Str} {v : Value} {m : Str → Option Value} {vs : Array Value}
end
/-- what is known of an own class of errors whose objects are asked -/
structure ErrI (K : PySem.W.Frag) (C : Addr) : Prop where
  at_ : ∃ nm q N bs bm sn sub ab col dd k0 k1 k2 k3 k5 newId, K.lookup C = some (excClassObj nm q C N bs bm true sn sub ab col dd k0 k1 k2 k3 k5 newId) ∧ bm.contains (.type "BaseException") = true
  ga : PySem.W.findIn K (.ref C) "__getattribute__" = some (some (.builtin "BaseException.__getattribute__"))
  gh : PySem.W.findIn K (.ref C) "__getattr__" = some none
  ca : PySem.W.findIn K (.ref C) "__class__" = some (some (.builtin "object.__class__"))
  cn : PySem.W.specialIn K (.builtin "object.__class__") "__get__" = some (some (.builtin "getset_descriptor.__get__"))
  ct : PySem.W.takesIn K (.builtin "object.__class__") = some true
  cm : PySem.W.mroIn K C (.type "object") = some true
section
variable {K : PySem.W.Frag} {C a : Addr} {oe od : Obj}
end
/-- an error's object in the abstract heap, made or held -/
def HasErr (H : Hp) (a C dx : Addr) : Prop := H a = some (errH a (.ref C) (some dx)) ∨ H a = some (errN a C (some dx))
theorem HasErr.mono {H H' : Hp} {a C dx : Addr} (e : Ext H H') (h : HasErr H a C dx) : HasErr H' a C dx := h.imp (fun z => e _ _ z) (fun z => e _ _ z)
section
variable {X : Cx} {pins : List (Addr × Obj)} {σ : St} {H : Hp} {s : Shared} {a C dx : Addr} {fs : List (Str × V)}
/-! isinstance(e, C) -/
def rIsE (K : PySem.W.Frag) : List V → Hp → VK → Prop := fun xs H Q => ∃ a C dx fs b, ((∃ n, xs = [.ref a, .ty n] ∧ PySem.W.kitOne K (.ref C) (.type n) = some b) ∨ ∃ B, xs = [.ref a, .ref B] ∧ PySem.W.kitOne K (.ref C) (.ref B) = some b) ∧ HasErr H a C dx ∧ H dx = some (.xd fs) ∧ ErrI K C ∧ Q (.bl b) H
/-! e.row -/
def rEFld (K : PySem.W.Frag) (f : Str) : V → Hp → VK → Prop := fun x H Q => ∃ a C dx fs v, x = .ref a ∧ HasErr H a C dx ∧ H dx = some (.xd fs) ∧ fs.lookup f = some v ∧ (v = .non ∨ ∃ i, v = .int i) ∧ ErrI K C ∧ PySem.W.findIn K (.ref C) f = some none ∧ Q v H
def tEFld (K : PySem.W.Frag) (ta : TE) (f : Str) : TE := fun σ H Q => ta σ H fun x H1 => rEFld K f x H1 Q
end
end L2

set_option Elab.async false
set_option linter.all false
set_option maxRecDepth 100000
set_option maxHeartbeats 4000000
namespace L2
open PySem PySem.Spec PyProof.Rows
/-! ### defs that may raise -/
/-! ### the classes of errors -/
def bmV : List Value := [.type "ValueError", .type "Exception", .type "BaseException", .type "object"]
/-- what the written part of the heap tells of a class of errors; f: its __init__ -/
structure ErrK (K : PySem.W.Frag) (C : Addr) (bm : List Value) (f : Addr) : Prop where
  lk : ∃ nm q N bs sn sub ab col dd k0 k1 k2 k3 k5, K.lookup C = some (excClassObj nm q C N bs bm true sn sub ab col dd k0 k1 k2 k3 k5 "ValueError.__new__")
  init : PySem.W.findIn K (.ref C) "__init__" = some (some (.ref f))
  fn : PySem.W.isFn K (.ref f) = true
  kp : PySem.W.keepIn K (.ref C) = true
  set : PySem.W.findIn K (.ref C) "__setattr__" = some (some (.builtin "object.__setattr__"))
  row : PySem.W.findIn K (.ref C) "row" = some none
  ga : PySem.W.findIn K (.ref C) "__getattribute__" = some (some (.builtin "BaseException.__getattribute__"))
  gh : PySem.W.findIn K (.ref C) "__getattr__" = some none
  ca : PySem.W.findIn K (.ref C) "__class__" = some (some (.builtin "object.__class__"))
  cn : PySem.W.specialIn K (.builtin "object.__class__") "__get__" = some (some (.builtin "getset_descriptor.__get__"))
  ct : PySem.W.takesIn K (.builtin "object.__class__") = some true
  cm : PySem.W.mroIn K C (.type "object") = some true
def Tl (bm : List Value) : Prop := bm = bmV ∨ ∃ L, bm = .ref L :: bmV
theorem Tl.has {bm : List Value} {T : String} (h : Tl bm) (k : bmV.contains (.type T) = true) : bm.contains (.type T) = true := by
  rcases h with rfl | ⟨L, rfl⟩
  · exact k
  · rw [List.contains_cons, k, Bool.or_true]
theorem Tl.no {bm : List Value} {T : String} (h : Tl bm) (k : bmV.contains (.type T) = false) : bm.contains (.type T) = false := by
  rcases h with rfl | ⟨L, rfl⟩
  · exact k
  · rw [List.contains_cons, k, Bool.or_false]; rfl
section
variable {K : PySem.W.Frag} {C f : Addr} {bm : List Value}
theorem ErrK.em (e : ErrK K C bm f) (h : Tl bm) : ErrM K C f bm bmV "ValueError" "ValueError.__new__" "ValueError.__init__" := by
  obtain ⟨nm, q, N, bs, sn, sub, ab, col, dd, k0, k1, k2, k3, k5, lk⟩ := e.lk
  exact ⟨⟨nm, q, N, bs, _, sn, sub, ab, col, dd, k0, k1, k2, k3, k5, lk⟩, PySem.F.excBase_ValueError, h.has (by decide +kernel), h.no (by decide +kernel), h.no (by decide +kernel), h.has (by decide +kernel), e.init, e.fn, e.kp⟩
theorem ErrK.es (e : ErrK K C bm f) (h : Tl bm) : ErrS K C "row" bm := by
  obtain ⟨nm, q, N, bs, sn, sub, ab, col, dd, k0, k1, k2, k3, k5, lk⟩ := e.lk
  refine ⟨⟨nm, q, N, bs, sn, sub, ab, col, dd, k0, k1, k2, k3, k5, _, lk⟩, fun x => ?_, h.has (by decide +kernel), e.set, e.row⟩
  rcases h with rfl | ⟨L, rfl⟩
  · exact PySem.F.store_ValueError.passes _
  · rw [refuseLoop_ref]; exact PySem.F.store_ValueError.passes _
theorem ErrK.ec (e : ErrK K C bm f) (h : Tl bm) : ErrC K C bm := by
  obtain ⟨nm, q, N, bs, sn, sub, ab, col, dd, k0, k1, k2, k3, k5, lk⟩ := e.lk
  exact ⟨⟨nm, q, N, bs, _, sn, sub, ab, col, dd, k0, k1, k2, k3, k5, _, lk⟩, h.has (by decide +kernel)⟩
theorem ErrK.ei (e : ErrK K C bm f) (h : Tl bm) : ErrI K C := by
  obtain ⟨nm, q, N, bs, sn, sub, ab, col, dd, k0, k1, k2, k3, k5, lk⟩ := e.lk
  exact ⟨⟨nm, q, N, bs, bm, sn, sub, ab, col, dd, k0, k1, k2, k3, k5, _, lk, h.has (by decide +kernel)⟩, e.ga, e.gh, e.ca, e.cn, e.ct, e.cm⟩
end
/-! ### the __init__ of all of them: self.row = row -/
def spErr (K : PySem.W.Frag) : Sp := fun vs H Q _ => ∃ x C bm v, vs = [.ref x, v] ∧ H x = some (errN x C none) ∧ ErrS K C "row" bm ∧ ∀ dx, H dx = none → dx ≠ x → Q .non (upd (upd H dx (.xd [("row", v)])) x (errN x C (some dx)))
section
variable {K : PySem.W.Frag} {σ : St} {H : Hp} {Q : VK} {D : Ends} {E : XK}
end
section
variable {P : Program} {w : World} {K : PySem.W.Frag} {mg : Str → Option Value} {base : Heap} {ds : List Value}
end
end L2

set_option Elab.async false
set_option linter.all false
set_option maxRecDepth 100000
set_option maxHeartbeats 4000000
namespace L2
open PySem PySem.Spec PyProof.Rows
/-! ### arguments and elements without a star, told by their outer form alone -/
def noStar : Expr → Bool
  | .Starred .. => false
  | _ => true
def noStars : List Expr → Bool
  | [] => true
  | e :: es => noStar e && noStars es
section
variable {X : Cx}
end
end L2

set_option Elab.async false
set_option linter.all false
set_option maxRecDepth 100000
set_option maxHeartbeats 4000000
namespace L2
open PySem PySem.Spec PyProof.Rows
/-! ### a list taken so many times; the ninth power of ten -/
section
variable {K : PySem.W.Frag} {σ : St} {H : Hp} {Q : VK}
theorem r_pow9 (q : Q (.int 1000000000) H) : rI CPow (fun i j => .int (i ^ j.toNat)) (.int 10) (.int 9) H Q := pow_ok (n := 0) (j := 9) (by decide) (by decide) (by decide) q
end
/-- a thing told many times -/
theorem RepL.many {H : Hp} {d : D} {x : V} (h : Rep H d x) : ∀ k : Nat, RepL H (List.replicate k d) (List.replicate k x)
  | 0 => RepL.nil
  | k + 1 => by rw [List.replicate_succ, List.replicate_succ]; exact RepL.cons h (RepL.many h k)
end L2

set_option Elab.async false
set_option linter.all false
set_option maxRecDepth 100000
set_option maxHeartbeats 4000000
namespace L2
open PySem PySem.Spec PyProof.Rows
/-! ### reversed over a tuple -/
/-- an object of reversed: what it walks, and the place at which it stands -/
def IsRv (h : Heap) (d : Addr) (l : Value) (i : Int) : Prop := h.get? d = some { cls := .type "reversed", data := .fields #[l, rawInt i] }
theorem IsRv.ty {h : Heap} {d : Addr} {l : Value} {i : Int} {s : Shared} (x : IsRv s.heap d l i) : s.TypeIs (.ref d) "reversed" := ⟨_, x, rfl⟩
section
variable {prog : Program} {w : World} {A : Around} {E : Value → Shared → Prop} {s : Shared}
end
theorem tup_at {h h' : Heap} {l : Addr} {xs : Array Value} (x : IsTup h l xs) (e : ∀ o, h.get? l = some o → h'.get? l = some o) : IsTup h' l xs := let ⟨o, ho, r⟩ := x; ⟨o, e _ ho, r⟩
section
variable {prog : Program} {w : World} {A : Around} {E : Value → Shared → Prop} {s : Shared}
end
section
variable {prog : Program} {w : World} {A : Around} {E : Value → Shared → Prop} {s : Shared}
end
section
variable {X : Cx}
def rTupRev (K : PySem.W.Frag) : List V → Hp → VK → Prop := fun xs H Q => ∃ p ys, xs = [.ref p] ∧ SqT K H p ys ∧ ∀ l, H l = none → Q (.ref l) (upd H l (.tup ys.reverse))
end
section
variable {K : PySem.W.Frag} {σ : St} {H : Hp} {Q : VK}
end
end L2

set_option Elab.async false
set_option linter.all false
set_option maxRecDepth 100000
set_option maxHeartbeats 4000000
namespace L2
open PySem PySem.Spec PyProof.Rows
theorem iteTc {c : Bool} {A B : Prop} (h : c = true) (q : A) : if c = true then A else B := by rw [h]; exact iteT q
theorem iteFc {c : Bool} {A B : Prop} (h : c = false) (q : B) : if c = true then A else B := by rw [h]; exact iteF q
/-! ### an error made and kept; a dict of one pair -/
section
variable {K : PySem.W.Frag} {σ : St} {H : Hp} {Q : VK} {E : XK}
def rErrV (C : Addr) (n : Nat) (sp : Sp) (dvs : List V) (E : XK) (vs : List V) (H : Hp) (Q : VK) : Prop := vs.length ≤ 1000 ∧ ∀ x, H x = none → n ≤ x → sp (.ref x :: (vs ++ dvs)) (upd H x (errN x C none)) (fun v H2 => v = .non ∧ Q (.ref x) H2) E
end
end L2

set_option Elab.async false
set_option linter.all false
set_option maxRecDepth 100000
set_option maxHeartbeats 4000000
namespace L2
open PySem PySem.Spec PyProof.Rows
/-! ### defs that are called while an error is being handled -/
structure RoomW (k : Nat) (A : Around) : Prop where
  dp : A.depth + 3 * k + 5 < recursionLimit
  un : A.units + 16 * k + 200 < cLine
theorem RoomW.mono {j k : Nat} {A : Around} (r : RoomW k A) (h : j ≤ k) : RoomW j A := ⟨by have := r.dp; omega, by have := r.un; omega⟩
theorem RoomW.deeper {k : Nat} {A : Around} (r : RoomW (k + 1) A) (env : Env) : RoomW k (A.deeper env) :=
  ⟨by have := r.dp; show A.depth + 1 + 3 * k + 5 < _; omega, by have := r.un; show A.units + 3 + 16 * k + 200 < _; omega⟩
theorem Room.w {k : Nat} {A : Around} (r : Room k A) : RoomW k A := ⟨r.dp, r.un⟩
theorem Room.ex {k : Nat} {A : Around} (r : Room k A) (v : Option Value) : RoomW k (A.mark v) := ⟨r.dp, r.un⟩
theorem RoomW.depth {k : Nat} {A : Around} (r : RoomW k A) : A.depth < recursionLimit := by have := r.dp; omega
structure FnOkW (P : Program) (w : World) (K : PySem.W.Frag) (mg : Str → Option Value) (base : Heap) (CX : CXT) (k : Nat) (f : Addr) (fd : FuncData) (ps : List Str) (sp : Sp) : Prop where
  len : ∀ vs H Q E, sp vs H Q E → vs.length = ps.length
  run : ∀ (A : Around) (outer : List Env) (s : Shared) (H : Hp) (args : Args) (us : List Value) (vs : List V) (Q : VK) (E : XK), RoomW k A → Env0 P w K mg base A outer s H → BindsTo s fd args (ps.zip us) → Vals vs us → sp vs H Q E →
    codeAny (model P w) A (.call (.ref f) args) (CR CX outer P w H s Q E) s
/-- the context of such a body -/
abbrev cxW (CX : CXT) (P : Program) (w : World) (K : PySem.W.Frag) (mg : Str → Option Value) (base : Heap) (N : List Str) (qual : Str) (scope : Scope) (f : Addr) (cd : Value) (A : Around) (outer : List Env) (s : Shared) (H : Hp) (E : XK) : Cx := { cxOf CX P w K mg base N qual scope f cd A outer s H E with calm := false }
section
variable {P : Program} {w : World} {K : PySem.W.Frag} {mg : Str → Option Value} {base : Heap}
end
section
variable {X : Cx} {CX : CXT} {k : Nat} {f : Addr} {fd : FuncData} {ps : List Str} {sp : Sp} {dvs : List V} {ds : List Value} {E : XK} {x : Str} {p pos : Pos} {e : Expr} {es : List Expr} {t : TA}
end
end L2

set_option Elab.async false
set_option linter.all false
set_option maxRecDepth 100000
set_option maxHeartbeats 4000000
namespace L2
open PySem PySem.Spec PyProof.Rows
/-! ### texts: +, *, <=, len, walked sign by sign -/
/-- so many times a text -/
def mulS (x : Str) (n : Nat) : Str := ⟨((List.replicate n x.cps.toList).flatten).toArray⟩
section
variable {X : Cx}
def rAddS : R2 := fun x y H Q => ∃ i j, x = .str i ∧ y = .str j ∧ i.length + j.length ≤ sizeLine ∧ Q (.str (i ++ j)) H
def rAddW (K : PySem.W.Frag) : R2 := fun x y H Q => rAddV K x y H Q ∨ rAddS x y H Q
def rMulS : R2 := fun x y H Q => ∃ (i : Str) (k : Int), x = .str i ∧ y = .int k ∧ 0 ≤ k ∧ k ≤ 1000 ∧ i.length ≤ 1000 ∧ Q (.str (mulS i k.toNat)) H
def rMulW : R2 := fun x y H Q => rI CMulB (fun i j => .int (i * j)) x y H Q ∨ rMulS x y H Q
def rLeS : R2 := fun x y H Q => ∃ i j, x = .str i ∧ y = .str j ∧ Q (.bl (!decide (j.cps.toList < i.cps.toList))) H
def rLeW : R2 := fun x y H Q => rI0 (fun i j => .bl (decide (i ≤ j))) x y H Q ∨ rLeS x y H Q
def rLenW (K : PySem.W.Frag) : List V → Hp → VK → Prop := fun xs H Q => rLen K xs H Q ∨ ∃ z : Str, xs = [.str z] ∧ z.length ≤ sizeLine ∧ Q (.int z.length) H
end
/-! ### a text of small signs, walked -/
def AscS (x : Str) : Prop := x.cps.all (· < 128) = true
def Its (x : Str) : It := ⟨fun i _ => i < x.cps.size, fun i H v H' => H' = H ∧ ∃ c, x.cps[i]? = some c ∧ v = .str ⟨#[c]⟩, fun i _ => x.cps.size ≤ i⟩
section
variable {X : Cx} {tg : Expr}
def iStr (tl : TE) : TI := fun σ H R => tl σ H fun x H1 => ∃ z, x = .str z ∧ AscS z ∧ R (Its z) H1
end
section
variable {K : PySem.W.Frag} {ts : List TT} {te : TE} {acc : Addr} {fr : St} {H1 : Hp} {R : Hp → Prop}
end
end L2

set_option Elab.async false
set_option linter.all false
set_option maxRecDepth 100000
set_option maxHeartbeats 4000000
namespace L2
open PySem PySem.Spec PyProof.Rows
/-! ### len(set(t)), t a tuple of texts -/
def putS (l : List Str) (x : Str) : List Str := if x ∈ l then l else l ++ [x]
def metS (ss : List Str) : List Str := ss.foldl putS []
section
variable {w : World} {prog : Program} {A : Around}
variable {R : Result → Shared → Prop} {I : Addr} {fp wr : List Addr} {G : Array GenState → Array GenState → Prop} {n : Nat} {P : Nat → Value → Prop} {St : Nat → Shared → Prop}
end
abbrev newSet (led : Bool) : Obj := { cls := .type "set", dict := none, data := .set #[] 0 (.fresh 0 0 led) }
section
variable {prog : Program} {w : World} {A : Around} {E : Value → Shared → Prop} {s : Shared}
end
end L2

set_option Elab.async false
set_option linter.all false
set_option maxRecDepth 100000
set_option maxHeartbeats 4000000
namespace L2
open PySem PySem.Spec PyProof.Rows
/-! ### len(set(t)); sorted of texts; the place of a text in a tuple; insert -/
section
variable {X : Cx}
def rLenSet (K : PySem.W.Frag) : List V → Hp → VK → Prop := fun xs H Q => ∃ (p : Addr) (ss : List Str), xs = [.ref p] ∧ SqT K H p (ss.map V.str) ∧ ss.length ≤ 1000 ∧ Q (.int ((metS ss).length : Nat)) H
end
section
variable {prog : Program} {w : World} {A : Around} {E : Value → Shared → Prop} {s : Shared}
end
section
variable {X : Cx}
def rSortS (K : PySem.W.Frag) : List V → Hp → VK → Prop := fun xs H Q => ∃ (p : Addr) (ss : List Str) (c : Bool), xs = [.ref p] ∧ SqE K H p (ss.map V.str) c ∧ ss.length < 64 ∧ ∀ l (ss' : List Str), H l = none → ss'.Perm ss → sortedS ss' = true → Q (.ref l) (upd H l (.lst (ss'.map V.str)))
def rSortW (K : PySem.W.Frag) : List V → Hp → VK → Prop := fun xs H Q => rSorted K xs H Q ∨ rSortS K xs H Q
/-! ### xs.insert(i, y) -/
def rInsert : V → List V → Hp → VK → Prop := fun x vs H Q => ∃ l xs i y, x = .ref l ∧ vs = [.int i, y] ∧ H l = some (.lst xs) ∧ 0 ≤ i ∧ i ≤ (xs.length : Int) ∧ xs.length < 1000000 ∧ Q .non (upd H l (.lst (xs.take i.toNat ++ y :: xs.drop i.toNat)))
end
/-! ### t.index(x) -/
section
variable {prog : Program} {w : World} {A : Around} {E : Value → Shared → Prop} {s : Shared}
theorem tup_index (l : Addr) (xs : Array Value) (x : Value) (e : Value → Bool) (j : Nat) (hj : j < xs.size) (hit : e xs[j] = true) (hno : ∀ m (hm : m < xs.size), m < j → e xs[m] = false) :
    Meets (Builtin.«tuple.index» ⟨[.ref l, x], []⟩) (fun A R s => IsTup s.heap l xs ∧ (∀ y, y ∈ xs → SeqAt.EqAt A.in1 s y x (e y)) ∧ R (.ok (.ret (.int j s.toks))) { s with toks := s.toks + 1 }) := by
  intro prog w A R s h
  obtain ⟨hl, he, h⟩ := h
  unfold Builtin.«tuple.index»
  refine wpAny_bind (wpAny_of_eq (a := (Value.ref l, [x])) rfl ?_)
  show wpAny _ _ (Builtin.Tuple.tupleItemsOf (.ref l) >>= _) _ _ s
  refine wpAny_bind (tupleItemsOf_ hl ?_)
  skip; refine wpAny_bind (wpAny_pure (wpAny_bind (wpAny_pure ?_)))
  dsimp only
  rw [Nat.min_self]
  have loop : ∀ (k i : Nat) (s : Shared) (f : Nat → Option PySem.Fin × Unit → Sem (ForInStep (Option PySem.Fin × Unit))) (Q : Option PySem.Fin × Unit → Shared → Prop) (E : Value → Shared → Prop), i + k = xs.size → i ≤ j → (∀ y, y ∈ xs → SeqAt.EqAt A.in1 s y x (e y)) →
      (∀ i st, f i st = (match xs[i]? with
        | some y => do
          if ← eqBool y x then do
            let r ← retInt i
            pure (ForInStep.done (some r, ()))
          else pure (ForInStep.yield (none, ()))
        | _ => pure (ForInStep.yield (none, ())))) → Q (some (.done (.ret (.int j s.toks))), ()) { s with toks := s.toks + 1 } → wpAny (model prog w) A.in1 (forIn (List.range' i k) (none, ()) f) Q E s := by
    intro k
    induction k with
    | zero => intro i s f Q E hk hi; omega
    | succ k ih =>
      intro i s f Q E hk hi he hf q
      have hlt : i < xs.size := by omega
      rw [List.range'_succ, List.forIn_cons, hf, Array.getElem?_eq_getElem hlt]
      refine wpAny_bind (wpAny_bind (he _ (Array.getElem_mem hlt) prog w _ _ ?_))
      by_cases hij : i = j
      · subst hij
        rw [hit]
        exact wpAny_bind (wpAny_bind (wpAny_mkInt (wpAny_pure (wpAny_pure (wpAny_pure q)))))
      · rw [hno i hlt (by omega)]
        exact wpAny_pure (ih (i + 1) s f Q E (by omega) (by omega) he hf q)
  skip; rw [Std.Legacy.Range.forIn_eq_forIn_range']
  rw [show List.range' ([:xs.size] : Std.Legacy.Range).start ([:xs.size] : Std.Legacy.Range).size ([:xs.size] : Std.Legacy.Range).step = List.range' 0 xs.size by simp [Std.Legacy.Range.size]]
  refine wpAny_bind (loop xs.size 0 s _ _ _ (by omega) (Nat.zero_le _) he (fun _ _ => rfl) (wpAny_pure h))
end
end L2

set_option Elab.async false
set_option linter.all false
set_option maxRecDepth 100000
set_option maxHeartbeats 4000000
namespace L2
open PySem PySem.Spec PyProof.Rows
/-! ### a method of a tuple -/
section
variable {X : Cx}
def tTM (r : V → List V → Hp → VK → Prop) (to : TE) (t : TA) : TE := fun σ H Q => to σ H fun x H1 => (∃ p xs, x = .ref p ∧ H1 p = some (.tup xs)) ∧ t σ H1 fun vs H2 => r x vs H2 Q
theorem pe_tm {o e : Expr} {es : List Expr} {name : Str} {id : String} {apos cpos : Pos} {r : V → List V → Hp → VK → Prop} {to : TE} {t : TA} (pa : PlainAttrs "tuple") (slot : Slot "tuple" name id) (hty : typeOf (.builtin id) = pure (.type "method_descriptor")) (hm : MtM X id r) (ho : PE X o to) (ha : PA X (e :: es) t)
    (hbase : attributeBase o name X.env (eval o X.env) = eval o X.env := by rfl)
    (hfew : ((backTo cpos (starEach (e :: es) X.env)).all (fun x => !x.1) && (backToKw cpos (keywordEach [] X.env)).all (fun x => x.1.isSome)
      && decide ((e :: es).length + ([] : List Keyword).length + (if ([] : List Keyword).isEmpty then 0 else 1) < 30)) = true := by rfl)
    (hline : (apos.endLine == cpos.line) = true := by rfl) (hs : starEach (e :: es) X.env = (false, eval e X.env) :: starEach es X.env := by rfl) (hplain : (backTo cpos (starEach es X.env)).any (·.1) = false := by rfl) :
    PE X (.Call (.Attribute o name apos) (e :: es) [] cpos) (tTM r to t) := by
  intro pins s σ H Q I h
  refine wpAny_Call_method_late hbase hfew hline rfl (thn (ho pins s σ H _ I h) fun v s1 ⟨x, H1, I1, r1, ⟨p, xs, ex, hp⟩, q1⟩ => ?_)
  subst ex
  cases r1
  obtain ⟨_, its, _, it, od, f, d⟩ := (show ObjOk X.prog X.w H1 s1.heap p (.tup xs) from I1.hok p _ hp)
  refine ⟨"tuple", id, pa, slot, hty, it.typeIs, fun a e => by cases e; exact ⟨od, f, d⟩, ?_⟩
  have hA := ha cpos pins s1 σ H1 _ I1 q1
  rw [hs] at hA ⊢
  refine Calls.callWith_builtin (by show (false || (backTo cpos (starEach es X.env)).any (·.1)) = false; rw [hplain] <;> rfl) (Calls.evalArgs_plain ?_)
  exact thn hA fun us s2 ⟨vs, H2, I2, r2, q2⟩ => hm pins s2 σ H2 (.ref p) vs (.ref p) us Q I2 rfl r2 q2
def isS (k : Str) : Value → Bool
  | .str z _ => z == k
  | _ => false
def rTIx : V → List V → Hp → VK → Prop := fun x vs H Q => ∃ (p : Addr) (ss : List Str) (k : Str), x = .ref p ∧ vs = [.str k] ∧ H p = some (.tup (ss.map V.str)) ∧ k ∈ ss ∧ ss.length ≤ 1000000 ∧ Q (.int (ss.idxOf k : Nat)) H
end
section
variable {K : PySem.W.Frag} {σ : St} {H : Hp} {Q : VK}
theorem r_tm {r : V → List V → Hp → VK → Prop} {to : TE} {t : TA} (q : to σ H fun x H1 => (∃ p xs, x = .ref p ∧ H1 p = some (.tup xs)) ∧ t σ H1 fun vs H2 => r x vs H2 Q) : tTM r to t σ H Q := q
theorem r_tyT {p : Addr} {xs : List V} {R : Prop} (h : H p = some (.tup xs)) (q : R) : (∃ p' xs', V.ref p = .ref p' ∧ H p' = some (.tup xs')) ∧ R := ⟨⟨p, xs, rfl, h⟩, q⟩
/-! reading rules of the wider operators -/
end
end L2

set_option Elab.async false
set_option linter.all false
set_option maxRecDepth 100000
set_option maxHeartbeats 4000000
namespace L2
open PySem PySem.Spec PyProof.Rows
section
variable {X : Cx}
/-! ### the greatest of a list of ints -/
def rMax1 (K : PySem.W.Frag) : List V → Hp → VK → Prop := fun xs H Q => ∃ (p : Addr) (ns : List Int), xs = [.ref p] ∧ SqL K H p (ns.map V.int) ∧ ns ≠ [] ∧ ∀ m, m ∈ ns → (∀ x ∈ ns, x ≤ m) → Q (.int m) H
end
section
variable {K : PySem.W.Frag} {H : Hp} {Q : V → Hp → Prop}
end
end L2

set_option Elab.async false
set_option linter.all false
set_option maxRecDepth 100000
set_option maxHeartbeats 4000000
namespace L2
open PySem PySem.Spec PyProof.Rows
/-! ### enumerate(xs, start=k) over a list -/
section
variable {prog : Program} {w : World} {A : Around} {E : Value → Shared → Prop} {s : Shared}
end
def It1 (p : Addr) : It :=
  ⟨fun i H => ∃ xs, H p = some (.lst xs) ∧ i < xs.length, fun i H x H' => ∃ r v, H r = none ∧ x = .ref r ∧ H' = upd H r (.tup [.int ((i : Int) + 1), v]) ∧ ∀ xs, H p = some (.lst xs) → xs[i]? = some v, fun i H => ∃ xs, H p = some (.lst xs) ∧ xs.length ≤ i⟩
section
variable {env : Env} {s : Shared} {M : Model} {A : Around} {E : Value → Shared → Prop}
end
section
variable {X : Cx}
def iEnum1 (ta : TA) (tv : TE) : TI := fun σ H R => ta σ H fun vs H1 => tv σ H1 fun y H2 => ∃ p xs, vs = [.ref p] ∧ y = .int 1 ∧ H2 p = some (.lst xs) ∧ R (It1 p) H2
end
end L2

set_option Elab.async false
set_option linter.all false
set_option maxRecDepth 100000
set_option maxHeartbeats 4000000
namespace L2
open PySem PySem.Spec PyProof.Rows
/-! ### a method of a text -/
section
variable {X : Cx}
def tSM (r : V → List V → Hp → VK → Prop) (to : TE) (t : TA) : TE := fun σ H Q => to σ H fun x H1 => (∃ z, x = .str z) ∧ t σ H1 fun vs H2 => r x vs H2 Q
/-- the place of a text in a text -/
def rSIx : V → List V → Hp → VK → Prop := fun x vs H Q => ∃ (z k : Str) (i : Nat) (rest : List Nat), x = .str z ∧ vs = [.str k] ∧ Builtin.Str.occurrences z k 0 z.length 1 = i :: rest ∧ Q (.int (i : Nat)) H
end
section
variable {σ : St} {H : Hp} {Q : VK}
end
end L2

set_option Elab.async false
set_option linter.all false
set_option maxRecDepth 100000
set_option maxHeartbeats 4000000
namespace L2
open PySem PySem.Spec PyProof.Rows
/-! ### t[lo:hi] that is the whole of t: t itself -/
section
variable {prog : Program} {w : World} {A : Around} {E : Value → Shared → Prop} {s : Shared}
end
section
variable {X : Cx}
def rSlW (K : PySem.W.Frag) : V → Option Int → Option Int → Hp → VK → Prop := fun x lo hi H Q => ∃ a xs, x = .ref a ∧ SqT K H a xs ∧ (HT.sIx xs.length 0 lo = 0 ∧ HT.sIx xs.length xs.length hi = xs.length) ∧ Q (.ref a) H
/-- a part of a text -/
def rSlS : V → Option Int → Option Int → Hp → VK → Prop := fun x lo hi H Q => ∃ z : Str, x = .str z ∧ z.length ≤ 1000000 ∧ ∀ z' : Str, (∀ c ∈ z'.cps.toList, c ∈ z.cps.toList) → z'.length ≤ z.length → Q (.str z') H
def rSlV (K : PySem.W.Frag) : V → Option Int → Option Int → Hp → VK → Prop := fun x lo hi H Q => (rSlU K x lo hi H Q ∨ rSlW K x lo hi H Q) ∨ rSlS x lo hi H Q
/-! ### dicts whose keys are texts -/
variable {o i value : Expr} {pos pos' : Pos} {td ty tv : TE}
end
section
variable {K : PySem.W.Frag} {σ : St} {H : Hp} {Q : VK} {td ty tv : TE}
def rDGet (x y : V) (H : Hp) (Q : VK) : Prop := ∃ a v, x = .ref a ∧ DGet H a y (some v) ∧ Q v H
def rDPut (x y v : V) (H : Hp) (R : Hp → Prop) : Prop := ∃ a H4, x = .ref a ∧ DPut H a y v H4 ∧ R H4
/-! ### {k: v} with any key that is a text -/
def rDispK (p : Addr) (x v : V) (H : Hp) (Q : VK) : Prop := H p = some (.dK []) ∧ ∃ kvs : List (Key × V), [(x, v)] = kvs.map (fun kv => (kV kv.1, kv.2)) ∧ kvs.length ≤ 15 ∧ Q (.ref p) (upd H p (.dK (mergeK [] kvs)))
end
end L2

set_option Elab.async false
set_option linter.all false
set_option maxRecDepth 100000
set_option maxHeartbeats 4000000
namespace L2
open PySem PySem.Spec PyProof.Rows
/-! ### a text against a dict -/
section
variable {s : Shared} {A : Around}
end
/-! ### x not in t, t a tuple of texts, x no text -/
section
variable {X : Cx}
def rNiO : R2 := fun x y H Q => ∃ (p : Addr) (ss : List Str) (k : Kd), y = .ref p ∧ H p = some (.tup (ss.map V.str)) ∧ HasK H x k ∧ k ≠ .str ∧ Q (.bl true) H
def rNiA (K : PySem.W.Frag) : R2 := fun x y H Q => rInU K true x y H Q ∨ rNiO x y H Q
end
section
variable {K : PySem.W.Frag} {H : Hp} {Q : VK}
end
end L2

set_option Elab.async false
set_option linter.all false
set_option maxRecDepth 100000
set_option maxHeartbeats 4000000
namespace L2
open PySem PySem.Spec PyProof.Rows
/-! ### xs.remove(k) upon a list of ints -/
section
variable {X : Cx}
def rRemove : V → List V → Hp → VK → Prop := fun x vs H Q => ∃ (l : Addr) (ns : List Int) (k : Int), x = .ref l ∧ vs = [.int k] ∧ H l = some (.lst (ns.map V.int)) ∧ k ∈ ns ∧ ns.length ≤ 1000000 ∧ Q .non (upd H l (.lst ((ns.eraseIdx (ns.idxOf k)).map V.int)))
/-! ### range(0, j, 2) -/
def It2 (n : Nat) : It := ⟨fun i _ => i < n, fun i H x H' => H' = H ∧ x = .int (2 * (i : Nat)), fun i _ => n ≤ i⟩
def rBy2 (vs : List V) (H : Hp) (R : It → Hp → Prop) : Prop := ∃ j : Int, vs = [.int 0, .int j, .int 2] ∧ 0 ≤ j ∧ j ≤ 1000 ∧ R (It2 ((j + 1) / 2).toNat) H
def iBy2 (ta : TA) : TI := fun σ H R => ta σ H fun vs H1 => rBy2 vs H1 R
end
section
variable {σ : St} {H : Hp}
end
end L2

set_option Elab.async false
set_option linter.all false
set_option maxRecDepth 100000
set_option maxHeartbeats 4000000
namespace L2
open PySem PySem.Spec PyProof.Rows
/-! ### an expression that is read in one of two ways -/
section
variable {X : Cx}
def tOr2 (t u : TE) : TE := fun σ H Q => t σ H Q ∨ u σ H Q
end
/-! ### a dict against a tuple -/
section
variable {s : Shared} {A : Around}
end
/-! ### str(t), t a tuple of ints -/
def rStrT : List V → Hp → VK → Prop := fun vs H Q => ∃ (p : Addr) (ns : List Int), vs = [.ref p] ∧ H p = some (.tup (ns.map V.int)) ∧ ns.length ≤ 100 ∧ (∀ n ∈ ns, n.natAbs.log2 < 1000) ∧ ∀ z : Str, z.length ≤ 1000000 → Q (.str z) H
end L2

set_option Elab.async false
set_option linter.all false
set_option maxRecDepth 100000
set_option maxHeartbeats 4000000
namespace L2
open PySem PySem.Spec PyProof.Rows
/-! ### str(t), t a tuple of ints -/
section
variable {X : Cx}
end
section
variable {H : Hp} {Q : VK}
end
/-! ### a dict against an int -/
section
variable {s : Shared} {A : Around}
end
/-! ### x == (5,), x of any kind -/
section
variable {X : Cx}
def Five (H : Hp) (x : V) : Prop := ∃ p, x = .ref p ∧ H p = some (.tup [.int 5])
def rEq5 : R2 := fun x y H Q => ∃ (q : Addr) (k : Kd), y = .ref q ∧ H q = some (.tup [.int 5]) ∧ HasK H x k ∧ (∀ p xs, x = .ref p → H p = some (.tup xs) → ∀ v ∈ xs, ∃ k, HasK H v k) ∧ ∀ b, (Five H x → b = true) → Q (.bl b) H
def rEqB : R2 := fun x y H Q => rEqU x y H Q ∨ rEq5 x y H Q
end
section
variable {H : Hp} {Q : VK}
end
end L2

set_option Elab.async false
set_option linter.all false
set_option maxRecDepth 100000
set_option maxHeartbeats 4000000
namespace L2
open PySem PySem.Spec PyProof.Rows
/-! ### walking a set -/
def byT (w : World) : Bool := w.params.followText "set-order"
abbrev stObj (es : Array (Int × Value)) (ep : Nat) (t : SetTable) : Obj := { cls := .type "set", dict := none, data := .set es ep t, slots := #[] }
abbrev siObj (f i : Nat) (S : Addr) (n ep : Nat) : Obj := { cls := .type "set_iterator", dict := none, data := .fields #[rawInt f, rawInt i, .ref S, rawInt n, rawInt ep], slots := #[] }
/-- a table whose places a walk meets one by one -/
structure Rise (t : SetTable) (n : Nat) (sl : Nat → Nat) : Prop where
  fits : t.fits n = true
  plain : t.plain = true
  zero : sl 0 = 0
  low : ∀ i, i ≤ n → SetTable.below t.place (sl i) = i
  step : ∀ i, i < n → ∃ j, t.place[i]? = some j ∧ j + 1 = sl (i + 1)
def fsOf (w : World) (sl : Nat → Nat) (i : Nat) : Nat := if byT w then 0 else sl i
def ordOf (w : World) (S : Addr) (ep : Nat) (es : Array (Int × Value)) : Array (Int × Value) := if byT w then pickOrder (w.params.setOrder S ep) es else es
section
variable {prog : Program} {w : World} {A : Around} {E : Value → Shared → Prop} {s : Shared}
end
end L2

set_option Elab.async false
set_option linter.all false
set_option maxRecDepth 100000
set_option maxHeartbeats 4000000
namespace L2
open PySem PySem.Spec PyProof.Rows
/-! ### sorted(set(xs)), xs a list of the numbers below n in their order, n at most 8 -/
section
variable {prog : Program} {w : World} {A : Around} {E : Value → Shared → Prop} {s : Shared}
end
end L2

set_option Elab.async false
set_option linter.all false
set_option maxRecDepth 100000
set_option maxHeartbeats 4000000
namespace L2
open PySem PySem.Spec PyProof.Rows
/-! ### the table of {0, .., n - 1}, n at most 8 -/
def tabN (led : Bool) (k : Nat) : SetTable := { mask := if k < 5 then 7 else 31, place := Array.range k, dummies := #[], finger := 0, led := led, moves := if k < 5 then 0 else 1, plain := true }
def esOf (ts : List Tok) : Array (Int × Value) := (ts.zipIdx.map fun p => ((p.2 : Int), Value.int (p.2 : Int) p.1)).toArray
section
variable {prog : Program} {w : World} {A : Around} {E : Value → Shared → Prop} {s : Shared}
end
section
variable {w : World} {prog : Program} {A : Around}
variable {R : Result → Shared → Prop} {I : Addr} {fp wr : List Addr} {G : Array GenState → Array GenState → Prop} {n : Nat} {P : Nat → Value → Prop} {St : Nat → Shared → Prop}
end
section
variable {prog : Program} {w : World} {A : Around} {E : Value → Shared → Prop} {s : Shared}
end
end L2

set_option Elab.async false
set_option linter.all false
set_option maxRecDepth 100000
set_option maxHeartbeats 4000000
namespace L2
open PySem PySem.Spec PyProof.Rows
/-! ### the rule of sorted(set(xs)) -/
def numsN (n : Nat) : List Int := (List.range n).map fun (i : Nat) => (i : Int)
section
variable {X : Cx}
def rSortSet (K : PySem.W.Frag) : List V → Hp → VK → Prop := fun xs H Q => ∃ (p : Addr) (n : Nat), xs = [.ref p] ∧ SqL K H p ((numsN n).map V.int) ∧ n ≤ 8 ∧ ∀ l, H l = none → Q (.ref l) (upd H l (.lst ((numsN n).map V.int)))
end
end L2

set_option Elab.async false
set_option linter.all false
set_option maxRecDepth 100000
set_option maxHeartbeats 4000000
namespace L2
open PySem PySem.Spec PyProof.Rows
/-! ### list(range(n)) -/
section
variable {X : Cx}
def rListRng : List V → Hp → VK → Prop := fun xs H Q => ∃ n : Nat, xs = [.int (n : Int)] ∧ n ≤ 1000 ∧ ∀ l, H l = none → Q (.ref l) (upd H l (.lst ((numsN n).map V.int)))
end
end L2

set_option Elab.async false
set_option linter.all false
set_option maxRecDepth 100000
set_option maxHeartbeats 4000000
namespace L2
open PySem PySem.Spec PyProof.Rows PySem.W
/-! ### what the questions of a sort come to, whatever is compared -/
section
variable {O : KeyOrd} {k : Nat → O.α} {n : Nat} {s : Shared} {cmp : Nat → Nat → (Bool → Shared → Prop) → Shared → Prop}
/-- the key at a place -/
def kAt (k : Nat → O.α) (p : Array Nat) (i : Nat) : O.α := k (p[i]?.getD 0)
def Asc (k : Nat → O.α) (p : Array Nat) (m : Nat) : Prop := ∀ i j, i ≤ j → j < m → O.kle (kAt k p i) (kAt k p j)
def Dsc (k : Nat → O.α) (p : Array Nat) (m : Nat) : Prop := ∀ i j, i ≤ j → j < m → O.kle (kAt k p j) (kAt k p i)
def OkP (n : Nat) (p : Array Nat) : Prop := p.toList.Perm (List.range n)
theorem OkP.size {p : Array Nat} (h : OkP n p) : p.size = n := by have := h.length_eq; simpa using this
theorem OkP.lt {p : Array Nat} (h : OkP n p) {i : Nat} (hi : i < n) : p[i]?.getD 0 < n := by
  have hs := h.size
  rw [Array.getElem?_eq_getElem (by omega), Option.getD_some]
  exact List.mem_range.mp (h.mem_iff.mp (by simp))
theorem OkP.of {p q : Array Nat} (h : OkP n p) (e : q.Perm p) : OkP n q := (Array.perm_iff_toList_perm.mp e).trans h
/-- the answers are those of the keys, and asking changes nothing -/
def Tells (k : Nat → O.α) (n : Nat) (cmp : Nat → Nat → (Bool → Shared → Prop) → Shared → Prop) (s : Shared) : Prop := ∀ i j, i < n → j < n → ∀ C : Bool → Shared → Prop, C (O.blt (k i) (k j)) s → cmp i j C s
theorem Tells.at (T : Tells k n cmp s) {p : Array Nat} (h : OkP n p) {i j : Nat} (hi : i < n) (hj : j < n) {C : Bool → Shared → Prop} (c : C (O.blt (kAt k p i) (kAt k p j)) s) : cmp (p.getD i 0) (p.getD j 0) C s := by
  rw [Array.getD_eq_getD_getElem?, Array.getD_eq_getD_getElem?]
  exact T _ _ (h.lt hi) (h.lt hj) C c
/-- the last q + 1 keys of m are alike -/
def TailEq (k : Nat → O.α) (p : Array Nat) (m q : Nat) : Prop := q + 1 ≤ m ∧ ∀ i, m - (q + 1) ≤ i → i < m → kAt k p i = kAt k p (m - 1)
end
end L2

set_option Elab.async false
set_option linter.all false
set_option maxRecDepth 100000
set_option maxHeartbeats 4000000
namespace L2
open PySem PySem.Spec PyProof.Rows PySem.W
/-! ### sorting by any keys; tuples of ints -/
section
variable {prog : Program} {w : World} {A : Around} {E : Value → Shared → Prop} {s : Shared} {O : KeyOrd} {k : Nat → O.α} {a : Addr} {vs : List Value}
end
def lexB : List Int → List Int → Bool → Bool
  | x :: xs, y :: ys, e => if x = y then lexB xs ys e else decide (x < y)
  | _, _, e => e
/-- rows of ints, by their first unlike place -/
@[reducible] def rowOrd : KeyOrd where
  α := List Int
  blt a b := decide (a < b)
  irrefl x := by simpa using List.lt_irrefl x
  trans x y z h1 h2 := by simp only [decide_eq_true_eq] at *; exact List.lt_trans h1 h2
  negTrans a b c h := by
    skip; simp only [decide_eq_true_eq] at *
    by_cases hab : a < b
    · exact .inl hab
    · skip; exact .inr (List.lt_of_le_of_lt (List.not_lt.mp hab) h)
  total x y h1 h2 := by simp only [decide_eq_false_iff_not] at *; exact List.le_antisymm (List.not_lt.mp h2) (List.not_lt.mp h1)
section
variable {prog : Program} {w : World} {A : Around} {E : Value → Shared → Prop} {s : Shared}
/-- tuples of ints at their places -/
def RowsAt (h : Heap) : List Value → List (List Int) → Prop
  | [], [] => True
  | v :: vs, L :: Ls => (∃ a its, v = .ref a ∧ IsTup h a its ∧ IntsAre its.toList L ∧ L ≠ []) ∧ RowsAt h vs Ls
  | _, _ => False
theorem RowsAt.kept {h h' : Heap} {x : Addr} {zs : Array Value} {n : Nat} (hx : h.get? x = some (seqObj "list" zs n)) (e : ∀ b o, b ≠ x → h.get? b = some o → h'.get? b = some o) : ∀ {vs : List Value} {Ls : List (List Int)}, RowsAt h vs Ls → RowsAt h' vs Ls
  | [], [], _ => trivial
  | [], _ :: _, r => r.elim
  | _ :: _, [], r => r.elim
  | v :: vs, L :: Ls, ⟨⟨a, its, e1, e2, e3, e4⟩, r⟩ => by
    refine ⟨⟨a, its, e1, tup_at e2 fun o q => e a o (fun z => ?_) q, e3, e4⟩, RowsAt.kept hx e r⟩
    subst z
    obtain ⟨o, ho, hc, _⟩ := e2
    rw [hx] at ho
    cases ho
    exact absurd (show Value.type "list" = Value.type "tuple" from hc) (by decide)
theorem RowsAt.get {h : Heap} : ∀ {vs : List Value} {Ls : List (List Int)} {i : Nat}, RowsAt h vs Ls → i < vs.length → ∃ a its, vs.getD i .none = .ref a ∧ IsTup h a its ∧ IntsAre its.toList (Ls.getD i [])
  | [], [], i, _, hi => by simp at hi
  | [], _ :: _, _, r, _ => r.elim
  | _ :: _, [], _, r, _ => r.elim
  | v :: vs, L :: Ls, 0, ⟨⟨a, its, e1, e2, e3, e4⟩, r⟩, _ => ⟨a, its, e1, e2, e3⟩
  | v :: vs, L :: Ls, i + 1, ⟨_, r⟩, hi => by
    obtain ⟨a, its, e1, e2, e3⟩ := RowsAt.get (i := i) r (by simpa using hi)
    exact ⟨a, its, by simpa using e1, e2, by simpa using e3⟩
end
end L2

set_option Elab.async false
set_option linter.all false
set_option maxRecDepth 100000
set_option maxHeartbeats 4000000
namespace L2
open PySem PySem.Spec PyProof.Rows
/-! ### tables whose places rise -/
def Ris (xs : Array Nat) : Prop := xs.toList.Pairwise (· < ·)
structure Low (xs : Array Nat) (j r : Nat) : Prop where
  le : r ≤ xs.size
  lo : ∀ i, i < r → xs.getD i 0 < j
  hi : ∀ i, r ≤ i → i < xs.size → j ≤ xs.getD i 0
theorem getD_at {xs : Array Nat} {i d : Nat} (h : i < xs.size) : xs.getD i d = xs[i] := by simp [Array.getD, h]
theorem Ris.lt {xs : Array Nat} (h : Ris xs) {i k : Nat} (a : i < k) (b : k < xs.size) : xs.getD i 0 < xs.getD k 0 := by
  rw [getD_at (by omega), getD_at b]
  have := List.pairwise_iff_getElem.mp h i k (by rw [Array.length_toList]; omega) (by rw [Array.length_toList]; exact b) a
  simpa using this
/-! ### the path of a hash -/
def adv (m : Nat) (p : SetTable.Probe) : SetTable.Probe :=
  if p.more > 0 then { p with more := p.more - 1, j := p.j + 1 } else
  { p with j := (SetTable.leap m p.i p.perturb).1, more := SetTable.runEnd m (SetTable.leap m p.i p.perturb).1 - (SetTable.leap m p.i p.perturb).1, i := (SetTable.leap m p.i p.perturb).1, perturb := (SetTable.leap m p.i p.perturb).2 }
def st0 (m : Nat) (h : Int) : SetTable.Probe := { j := SetTable.bits h % (m + 1), more := SetTable.runEnd m (SetTable.bits h % (m + 1)) - SetTable.bits h % (m + 1), i := SetTable.bits h % (m + 1), perturb := SetTable.bits h, dummy := none }
def pth (m : Nat) (h : Int) : Nat → SetTable.Probe
  | 0 => st0 m h
  | n + 1 => adv m (pth m h n)
theorem pth_run {m : Nat} {h : Int} {n : Nat} {p : SetTable.Probe} (e : pth m h n = p) : ∀ c, c ≤ p.more → pth m h (n + c) = { p with j := p.j + c, more := p.more - c }
  | 0, _ => e
  | c + 1, hc => by
    show adv m (pth m h (n + c)) = _
    rw [pth_run e c (by omega)]
    unfold adv
    rw [if_pos (show p.more - c > 0 by omega)]
    congr 1 <;> omega
def lp (m : Nat) (h : Int) : Nat → Nat × Nat
  | 0 => (SetTable.bits h % (m + 1), SetTable.bits h)
  | L + 1 => SetTable.leap m (lp m h L).1 (lp m h L).2
theorem run_le (m i : Nat) : SetTable.runEnd m i - i ≤ 9 := by unfold SetTable.runEnd; split <;> omega
theorem pth_lp (m : Nat) (h : Int) : ∀ L, ∃ n, n ≤ 10 * L ∧ pth m h n = { j := (lp m h L).1, more := SetTable.runEnd m (lp m h L).1 - (lp m h L).1, i := (lp m h L).1, perturb := (lp m h L).2, dummy := none }
  | 0 => ⟨0, Nat.le_refl _, rfl⟩
  | L + 1 => by
    obtain ⟨n, hn, e⟩ := pth_lp m h L
    have r := run_le m (lp m h L).1
    refine ⟨n + (SetTable.runEnd m (lp m h L).1 - (lp m h L).1) + 1, by omega, ?_⟩
    show adv m (pth m h (n + _)) = _
    rw [pth_run e _ (Nat.le_refl _)]
    unfold adv
    rw [if_neg (by simp)]
    rfl
theorem lp_pert (m : Nat) (h : Int) : ∀ L, (lp m h L).2 = SetTable.bits h / 32 ^ L
  | 0 => by show SetTable.bits h = _; simp
  | L + 1 => by
    show (lp m h L).2 / 32 = _
    rw [lp_pert m h L, Nat.div_div_eq_div_mul, Nat.pow_succ]
theorem bits_lt (h : Int) : SetTable.bits h < 2 ^ 64 := by unfold SetTable.bits; omega
theorem lp_zero (m : Nat) (h : Int) (L : Nat) (hL : 13 ≤ L) : (lp m h L).2 = 0 := by
  rw [lp_pert]
  refine Nat.div_eq_of_lt (Nat.lt_of_lt_of_le (bits_lt h) ?_)
  exact Nat.le_trans (by decide) (Nat.pow_le_pow_right (by decide) hL)
def cyc (m : Nat) : Nat → Nat → Nat
  | 0, x => x
  | d + 1, x => (cyc m d x * 5 + 1) % (m + 1)
theorem lp_cyc (m : Nat) (h : Int) : ∀ d, (lp m h (13 + d)).1 = cyc m d (lp m h 13).1
  | 0 => rfl
  | d + 1 => by
    show ((lp m h (13 + d)).1 * 5 + 1 + (lp m h (13 + d)).2 / 32) % (m + 1) = _
    rw [lp_zero m h _ (by omega), lp_cyc m h d]
    rfl
theorem cyc7 : ∀ x, x < 8 → ∀ e, e < 8 → ∃ d, d < 8 ∧ cyc 7 d x = e := by decide +kernel
theorem cyc31 : ∀ x, x < 32 → ∀ e, e < 32 → ∃ d, d < 32 ∧ cyc 31 d x = e := by decide +kernel
theorem lp_lt (m : Nat) (h : Int) : ∀ L, (lp m h L).1 < m + 1
  | 0 => Nat.mod_lt _ (Nat.succ_pos _)
  | L + 1 => Nat.mod_lt _ (Nat.succ_pos _)
/-- each place is met in time -/
theorem meets {m : Nat} (hm : m = 7 ∨ m = 31) (h : Int) {e : Nat} (he : e ≤ m) : ∃ n, n < 10 * (m + 14) ∧ (pth m h n).j = e := by
  have l := lp_lt m h 13
  obtain ⟨d, hd, hc⟩ : ∃ d, d < m + 1 ∧ cyc m d (lp m h 13).1 = e := by
    rcases hm with rfl | rfl
    · exact cyc7 _ l _ (by omega)
    · exact cyc31 _ l _ (by omega)
  obtain ⟨n, hn, q⟩ := pth_lp m h (13 + d)
  exact ⟨n, by omega, by rw [q]; show (lp m h (13 + d)).1 = e; rw [lp_cyc, hc]⟩
end L2

set_option Elab.async false
set_option linter.all false
set_option maxRecDepth 100000
set_option maxHeartbeats 4000000
namespace L2
open PySem PySem.Spec PyProof.Rows
/-! ### looking a tuple up in a set -/
structure Tab (t : SetTable) (es : Array (Int × Value)) : Prop where
  mask : t.mask = 7 ∨ t.mask = 31
  dum : t.dummies = #[]
  ris : Ris t.place
  size : t.place.size = es.size
  room : es.size * 5 < t.mask * 3
  top : ∀ j ∈ t.place.toList, j ≤ t.mask
  way : ∀ (i : Nat) (hi : i < es.size), ∃ N, (pth t.mask es[i].1 N).j = t.place.getD i 0 ∧ ∀ m, m < N → (pth t.mask es[i].1 m).j ∈ t.place.toList
theorem Tab.fits {t : SetTable} {es : Array (Int × Value)} (T : Tab t es) : t.fits es.size = true := by
  unfold SetTable.fits SetTable.fill
  rw [T.dum, T.size]
  have := T.room
  simp
  omega
theorem range_le : ∀ (n : Nat) (l : List Nat), (∀ e, e < n → e ∈ l) → n ≤ l.length
  | 0, l, _ => Nat.zero_le _
  | n + 1, l, h => by
    have hn := h n (Nat.lt_succ_self _)
    have := range_le n (l.erase n) fun e he => (List.mem_erase_of_ne (by omega)).mpr (h e (by omega))
    rw [List.length_erase_of_mem hn] at this
    have := List.length_pos_of_mem hn
    omega
/-- some place is free -/
theorem Tab.free {t : SetTable} {es : Array (Int × Value)} (T : Tab t es) : ∃ e, e ≤ t.mask ∧ e ∉ t.place.toList := by
  refine Classical.byContradiction fun h => ?_
  have all : ∀ e, e ≤ t.mask → e ∈ t.place.toList := fun e he => Classical.byContradiction fun q => h ⟨e, he, q⟩
  have := range_le (t.mask + 1) t.place.toList fun e he => all e (by omega)
  rw [Array.length_toList, T.size] at this
  have := T.room
  omega
section
variable {prog : Program} {w : World} {A : Around} {E : Value → Shared → Prop} {s : Shared}
/-- what is asked of the things of a set when one like x is looked up; K: what they are worth -/
structure Asks (prog : Program) (w : World) (A : Around) (E : Value → Shared → Prop) (s : Shared) (es : Array (Int × Value)) (x : Value) (hash : Int) {K : Type} [DecidableEq K] (key : Nat → K) (k : K) : Prop where
  hsh : ∀ (i : Nat) (hi : i < es.size), key i = k → es[i].1 = hash
  eq : ∀ (i : Nat) (hi : i < es.size) (Q : Bool → Shared → Prop), Q (decide (key i = k)) s → wpAny (model prog w) A (eqBool es[i].2 x) Q E s
  ref : ∀ (i : Nat) (hi : i < es.size), ∃ a, es[i].2 = .ref a
  seen : ∀ (l : List Value), (∀ y ∈ l, ∃ (i : Nat) (hi : i < es.size), y = es[i].2) → ∀ Q : Bool → Shared → Prop, Q false s → wpAny (model prog w) A (searchCouldBeSeen x l) Q E s
end
end L2

set_option Elab.async false
set_option linter.all false
set_option maxRecDepth 100000
set_option maxHeartbeats 4000000
namespace L2
open PySem PySem.Spec PyProof.Rows
/-! ### a table laid anew -/
abbrev OwnA := Array (Option Nat)
/-- k hashes are laid -/
structure LaidT (m : Nat) (hs : List Int) (ow : OwnA) : Prop where
  size : ow.size = m + 1
  perm : (ow.toList.filterMap id).Perm (List.range hs.length)
  way : ∀ j i, ow[j]? = some (some i) → ∃ h, hs[i]? = some h ∧ ∃ N, (pth m h N).j = j ∧ ∀ q, q < N → (ow.getD (pth m h q).j (some 0)).isNone = false
end L2

set_option Elab.async false
set_option linter.all false
set_option maxRecDepth 100000
set_option maxHeartbeats 4000000
namespace L2
open PySem PySem.Spec PyProof.Rows
/-! ### adding a tuple to a set -/
def liveOf (ow : OwnA) (m : Nat) : List (Nat × Nat) := (List.range (m + 1)).filterMap fun j => (ow.getD j none).map (j, ·)
section
variable {prog : Program} {w : World} {A : Around} {E : Value → Shared → Prop} {s : Shared}
end
end L2

set_option Elab.async false
set_option linter.all false
set_option maxRecDepth 100000
set_option maxHeartbeats 4000000
namespace L2
open PySem PySem.Spec PyProof.Rows
/-! ### what a set asks of tuples of ints -/
section
variable {prog : Program} {w : World} {A : Around} {E : Value → Shared → Prop} {s : Shared}
theorem items_int {ks : List Int} {vs : List Value} (h : ItemsAre (intKind prog w) ks vs) : ∀ v ∈ vs, ∃ n t, v = .int n t := by
  induction h with
  | nil => exact fun v hv => by simp at hv
  | @cons k v' ks vs h1 _ ih =>
    intro v hv
    skip; rcases List.mem_cons.mp hv with rfl | hv
    · obtain ⟨t, e⟩ := Value.isInt_shape h1
      exact ⟨_, t, e⟩
    · exact ih v hv
/-- an entry of a set, and the row that it is -/
def RowE (prog : Program) (w : World) (Z : Addr → List Int → Prop) (h : Heap) (e : Int × Value) (L : List Int) : Prop := ∃ a, e.2 = .ref a ∧ IsTupleKey (intKind prog w) h L a ∧ e.1 = tupleKeyHash (intKind prog w) L ∧ Z a L
inductive RowsE (prog : Program) (w : World) (Z : Addr → List Int → Prop) (h : Heap) : List (Int × Value) → List (List Int) → Prop
  | nil : RowsE prog w Z h [] []
  | cons {e : Int × Value} {L : List Int} {es : List (Int × Value)} {Ls : List (List Int)} : RowE prog w Z h e L → RowsE prog w Z h es Ls → RowsE prog w Z h (e :: es) (L :: Ls)
theorem RowsE.length {Z : Addr → List Int → Prop} {h : Heap} {es : List (Int × Value)} {Ls : List (List Int)} (r : RowsE prog w Z h es Ls) : es.length = Ls.length := by
  induction r with
  | nil => rfl
  | cons _ _ ih => simp [ih]
theorem RowsE.get {Z : Addr → List Int → Prop} {h : Heap} {es : List (Int × Value)} {Ls : List (List Int)} (r : RowsE prog w Z h es Ls) : ∀ (i : Nat) (hi : i < es.length), RowE prog w Z h es[i] (Ls.getD i []) := by
  induction r with
  | nil => exact fun i hi => by simp at hi
  | cons e _ ih =>
    intro i hi
    cases i with
    | zero => simpa using e
    | succ i => simpa using ih i (by simpa using hi)
theorem RowsE.perm {Z : Addr → List Int → Prop} {h : Heap} {us es : List (Int × Value)} (p : us.Perm es) : ∀ {Ls : List (List Int)}, RowsE prog w Z h es Ls → ∃ Ms, RowsE prog w Z h us Ms ∧ Ms.Perm Ls := by
  induction p with
  | nil => intro Ls r; exact ⟨Ls, r, List.Perm.refl _⟩
  | cons x _ ih =>
    intro Ls r
    cases r with
    | cons e r =>
      obtain ⟨m, a, b⟩ := ih r
      exact ⟨_, .cons e a, b.cons _⟩
  | swap x y l =>
    intro Ls r
    cases r with
    | cons e r =>
      cases r with
      | cons e2 r2 => exact ⟨_, .cons e2 (.cons e r2), List.Perm.swap _ _ _⟩
  | trans _ _ i1 i2 =>
    intro Ls r
    obtain ⟨m, a, b⟩ := i2 r
    obtain ⟨m2, a2, b2⟩ := i1 a
    exact ⟨m2, a2, b2.trans b⟩
theorem key_kept {h h' : Heap} {L : List Int} {a : Addr} (k : IsTupleKey (intKind prog w) h L a) (e : ∀ o, o.cls = .type "tuple" → h.get? a = some o → h'.get? a = some o) : IsTupleKey (intKind prog w) h' L a := by
  obtain ⟨o, items, n, ho, hc, r⟩ := k
  exact ⟨o, items, n, e o hc ho, hc, r⟩
theorem RowsE.kept {Z : Addr → List Int → Prop} {h h' : Heap} {es : List (Int × Value)} {Ls : List (List Int)} (r : RowsE prog w Z h es Ls) (e : ∀ b o, o.cls = .type "tuple" → h.get? b = some o → h'.get? b = some o) : RowsE prog w Z h' es Ls := by
  induction r with
  | nil => exact .nil
  | cons x _ ih =>
    obtain ⟨a, x1, x2, x3⟩ := x
    exact .cons ⟨a, x1, key_kept x2 (e a), x3⟩ ih
end
end L2

set_option Elab.async false
set_option linter.all false
set_option maxRecDepth 100000
set_option maxHeartbeats 4000000
namespace L2
open PySem PySem.Spec PyProof.Rows
/-! ### set(xs), xs a list of tuples of ints -/
/-- a set at its place, and the rows in it, as they stood in h0 -/
def SetRows (prog : Program) (w : World) (Z : Addr → List Int → Prop) (h0 h : Heap) (S : Addr) (Ms : List (List Int)) : Prop :=
  ∃ es ep t, h.get? S = some (stObj es ep t) ∧ Tab t es ∧ t.led = (!byT w) ∧ t.plain = true ∧ RowsE prog w Z h0 es.toList Ms ∧ Ms.Nodup
section
variable {w : World} {prog : Program} {A : Around}
variable {R : Result → Shared → Prop} {I : Addr} {fp wr : List Addr} {G : Array GenState → Array GenState → Prop} {n : Nat} {P : Nat → Value → Prop} {St : Nat → Shared → Prop}
end
section
variable {prog : Program} {w : World} {A : Around} {E : Value → Shared → Prop} {s : Shared}
end
end L2

set_option Elab.async false
set_option linter.all false
set_option maxRecDepth 100000
set_option maxHeartbeats 4000000
namespace L2
open PySem PySem.Spec PyProof.Rows PySem.W
/-! ### sorted(set(xs)), xs a list of tuples of ints -/
theorem items_ints' {prog : Program} {w : World} {ks : List Int} {vs : List Value} (h : ItemsAre (intKind prog w) ks vs) : IntsAre vs ks := by
  induction h with
  | nil => exact .nil
  | @cons k v ks vs h1 _ ih =>
    obtain ⟨t, e⟩ := Value.isInt_shape h1
    subst e
    exact .cons k t ih
/-- the values of a list, and the rows that they are -/
inductive RowsV (prog : Program) (w : World) (Z : Addr → List Int → Prop) (h : Heap) : List Value → List (List Int) → Prop
  | nil : RowsV prog w Z h [] []
  | cons {a : Addr} {L : List Int} {vs : List Value} {Ls : List (List Int)} : IsTupleKey (intKind prog w) h L a → Z a L → RowsV prog w Z h vs Ls → RowsV prog w Z h (.ref a :: vs) (L :: Ls)
section
variable {prog : Program} {w : World} {A : Around} {E : Value → Shared → Prop} {s : Shared} {Z : Addr → List Int → Prop} {h : Heap}
theorem RowsV.length {vs : List Value} {Ls : List (List Int)} (r : RowsV prog w Z h vs Ls) : vs.length = Ls.length := by
  induction r with
  | nil => rfl
  | cons _ _ _ ih => simp [ih]
theorem RowsV.kept {h' : Heap} {vs : List Value} {Ls : List (List Int)} (r : RowsV prog w Z h vs Ls) (e : ∀ b o, o.cls = .type "tuple" → h.get? b = some o → h'.get? b = some o) : RowsV prog w Z h' vs Ls := by
  induction r with
  | nil => exact .nil
  | cons x y _ ih => exact .cons (key_kept x (e _)) y ih
theorem RowsV.at {vs : List Value} {Ls : List (List Int)} (r : RowsV prog w Z h vs Ls) (hne : ∀ L ∈ Ls, L ≠ []) : RowsAt h vs Ls := by
  induction r with
  | nil => trivial
  | @cons a L vs Ls x y _ ih =>
    obtain ⟨o, items, n, ho, hc, hd, hi⟩ := x
    exact ⟨⟨a, items, rfl, ⟨o, ho, hc, n, hd⟩, items_ints' hi, hne L List.mem_cons_self⟩, ih fun M hM => hne M (List.mem_cons_of_mem _ hM)⟩
end
end L2

set_option Elab.async false
set_option linter.all false
set_option maxRecDepth 100000
set_option maxHeartbeats 4000000
namespace L2
open PySem PySem.Spec PyProof.Rows
/-! ### the rule of sorted(set(xs)) over tuples of ints -/
inductive RefsH (H : Hp) : List V → List (List Int) → Prop
  | nil : RefsH H [] []
  | cons {a : Addr} {L : List Int} {vs : List V} {Ls : List (List Int)} : H a = some (.tup (L.map V.int)) → RefsH H vs Ls → RefsH H (.ref a :: vs) (L :: Ls)
theorem RefsH.length {H : Hp} {vs : List V} {Ls : List (List Int)} (r : RefsH H vs Ls) : vs.length = Ls.length := by
  induction r with
  | nil => rfl
  | cons _ _ ih => simp [ih]
theorem RefsH.mono {H H' : Hp} (e : Ext H H') {vs : List V} {Ls : List (List Int)} (r : RefsH H vs Ls) : RefsH H' vs Ls := by
  induction r with
  | nil => exact .nil
  | cons x _ ih => exact .cons (e _ _ x) ih
theorem RefsH.get {H : Hp} {vs : List V} {Ls : List (List Int)} (r : RefsH H vs Ls) : ∀ (i : Nat) (v : V), vs[i]? = some v → ∃ a, v = .ref a ∧ H a = some (.tup ((Ls.getD i []).map V.int)) := by
  induction r with
  | nil => intro i v h; simp at h
  | cons x _ ih =>
    intro i v h
    cases i with
    | zero => simp at h; subst h; exact ⟨_, rfl, by simpa using x⟩
    | succ i => simpa using ih i v (by simpa using h)
section
variable {X : Cx}
def rSortRows (K : PySem.W.Frag) : List V → Hp → VK → Prop := fun xs H Q => ∃ (p : Addr) (vs : List V) (Ls : List (List Int)), xs = [.ref p] ∧ SqL K H p vs ∧ RefsH H vs Ls ∧ vs.length ≤ 18 ∧ (∀ L ∈ Ls, L ≠ []) ∧ ∀ l vs' Ls', H l = none → RefsH H vs' Ls' → Ls'.Pairwise (· < ·) → (∀ L, L ∈ Ls' ↔ L ∈ Ls) → Ls'.length ≤ 18 → Q (.ref l) (upd H l (.lst vs'))
end
end L2

set_option Elab.async false
set_option linter.all false
set_option maxRecDepth 100000
set_option maxHeartbeats 4000000
namespace L2
open PySem PySem.Spec PyProof.Rows PySem.W
/-! ### sorting pairs of a tuple of ints and an int -/
def pairLt (p q : List Int × Int) : Prop := p.1 < q.1 ∨ (p.1 = q.1 ∧ p.2 < q.2)
instance (p q : List Int × Int) : Decidable (pairLt p q) := by unfold pairLt; infer_instance
theorem row_tri (a b : List Int) : a < b ∨ a = b ∨ b < a := by
  by_cases h : a < b
  · exact .inl h
  · by_cases h2 : b < a
    · exact .inr (.inr h2)
    · exact .inr (.inl (List.le_antisymm (List.not_lt.mp h2) (List.not_lt.mp h)))
@[reducible] def pairOrd : KeyOrd where
  α := List Int × Int
  blt p q := decide (pairLt p q)
  irrefl p := by
    refine decide_eq_false fun h => ?_
    rcases h with h | h
    · exact List.lt_irrefl _ h
    · exact Int.lt_irrefl _ h.2
  trans p q r h1 h2 := by
    rw [decide_eq_true_eq] at *
    rcases h1 with h1 | ⟨e1, h1⟩ <;> rcases h2 with h2 | ⟨e2, h2⟩
    · exact .inl (List.lt_trans h1 h2)
    · exact .inl (by rw [← e2]; exact h1)
    · exact .inl (by rw [e1]; exact h2)
    · exact .inr ⟨e1.trans e2, by omega⟩
  negTrans p q r h := by
    rw [decide_eq_true_eq, decide_eq_true_eq]
    rw [decide_eq_true_eq] at h
    rcases row_tri p.1 q.1 with z | z | z
    · exact .inl (.inl z)
    · rcases h with h | ⟨e, h⟩
      · exact .inr (.inl (by rw [← z]; exact h))
      · by_cases w : p.2 < q.2
        · exact .inl (.inr ⟨z, w⟩)
        · exact .inr (.inr ⟨z.symm.trans e, by omega⟩)
    · rcases h with h | ⟨e, h⟩
      · exact .inr (.inl (List.lt_trans z h))
      · exact .inr (.inl (by rw [← e]; exact z))
  total p q h1 h2 := by
    rw [decide_eq_false_iff_not] at h1 h2
    rcases row_tri p.1 q.1 with z | z | z
    · exact absurd (.inl z) h1
    · refine Prod.ext z ?_
      rcases Int.lt_trichotomy p.2 q.2 with y | y | y
      · exact absurd (.inr ⟨z, y⟩) h1
      · exact y
      · exact absurd (.inr ⟨z.symm, y⟩) h2
    · exact absurd (.inl z) h2
/-- pairs at their places -/
inductive PairsAt (prog : Program) (w : World) (h : Heap) : List Value → List (List Int × Int) → Prop
  | nil : PairsAt prog w h [] []
  | cons {c a : Addr} {L : List Int} {x : Int} {t : Tok} {vs : List Value} {Ks : List (List Int × Int)} : IsTup h c #[.ref a, .int x t] → IsTupleKey (intKind prog w) h L a → PairsAt prog w h vs Ks → PairsAt prog w h (.ref c :: vs) ((L, x) :: Ks)
section
variable {prog : Program} {w : World} {A : Around} {E : Value → Shared → Prop} {s : Shared}
theorem PairsAt.length {h : Heap} {vs : List Value} {Ks : List (List Int × Int)} (r : PairsAt prog w h vs Ks) : vs.length = Ks.length := by
  induction r with
  | nil => rfl
  | cons _ _ _ ih => simp [ih]
theorem PairsAt.kept {h h' : Heap} (e : ∀ b o, o.cls = .type "tuple" → h.get? b = some o → h'.get? b = some o) {vs : List Value} {Ks : List (List Int × Int)} (r : PairsAt prog w h vs Ks) : PairsAt prog w h' vs Ks := by
  induction r with
  | nil => exact .nil
  | cons x y _ ih =>
    obtain ⟨o, ho, hc, hr⟩ := x
    exact .cons ⟨o, e _ _ hc ho, hc, hr⟩ (key_kept y (e _)) ih
theorem PairsAt.get {h : Heap} {vs : List Value} {Ks : List (List Int × Int)} (r : PairsAt prog w h vs Ks) : ∀ i, i < vs.length → ∃ c a t, vs.getD i .none = .ref c ∧ IsTup h c #[.ref a, .int (Ks.getD i ([], 0)).2 t] ∧ IsTupleKey (intKind prog w) h (Ks.getD i ([], 0)).1 a := by
  induction r with
  | nil => exact fun i hi => by simp at hi
  | @cons c a L x t vs Ks x y _ ih =>
    intro i hi
    cases i with
    | zero => exact ⟨c, a, t, rfl, by simpa using x, by simpa using y⟩
    | succ i => simpa using ih i (by simpa using hi)
end
end L2

set_option Elab.async false
set_option linter.all false
set_option maxRecDepth 100000
set_option maxHeartbeats 4000000
namespace L2
open PySem PySem.Spec PyProof.Rows PySem.W
/-! ### sorted(xs), xs a list of pairs of a tuple of ints and an int -/
inductive PairsH (H : Hp) : List V → List (List Int × Int) → Prop
  | nil : PairsH H [] []
  | cons {c a : Addr} {L : List Int} {x : Int} {vs : List V} {Ks : List (List Int × Int)} : H c = some (.tup [.ref a, .int x]) → H a = some (.tup (L.map V.int)) → PairsH H vs Ks → PairsH H (.ref c :: vs) ((L, x) :: Ks)
theorem PairsH.length {H : Hp} {vs : List V} {Ks : List (List Int × Int)} (r : PairsH H vs Ks) : vs.length = Ks.length := by
  induction r with
  | nil => rfl
  | cons _ _ _ ih => simp [ih]
theorem PairsH.mono {H H' : Hp} (e : Ext H H') {vs : List V} {Ks : List (List Int × Int)} (r : PairsH H vs Ks) : PairsH H' vs Ks := by
  induction r with
  | nil => exact .nil
  | cons x y _ ih => exact .cons (e _ _ x) (e _ _ y) ih
section
variable {X : Cx}
def rSortP (K : PySem.W.Frag) : List V → Hp → VK → Prop := fun xs H Q => ∃ (p : Addr) (vs : List V) (Ks : List (List Int × Int)), xs = [.ref p] ∧ SqL K H p vs ∧ PairsH H vs Ks ∧ vs.length < 64 ∧ ∀ l vs' Ks', H l = none → PairsH H vs' Ks' → Ks'.Perm Ks → Ks'.Pairwise (fun a b => ¬ pairLt b a) → Q (.ref l) (upd H l (.lst vs'))
end
end L2

set_option Elab.async false
set_option linter.all false
set_option maxRecDepth 100000
set_option maxHeartbeats 4000000
namespace L2
open PySem PySem.Spec PyProof.Rows
/-! ### x not in a list of data -/
section
variable {X : Cx}
def rNinD : R2 := fun x y H Q => ∃ (p : Addr) (xs : List V) (ds : List L2.D) (a : L2.D), y = .ref p ∧ H p = some (.lst xs) ∧ RepL H ds xs ∧ Rep H a x ∧ D.eqOkL ds = true ∧ a.eqOk = true ∧ (∀ d ∈ ds, d.depth ≤ 20) ∧ Q (.bl (!(ds.any fun d => eqD d a))) H
open Classical in
end
end L2

set_option Elab.async false
set_option linter.all false
set_option maxRecDepth 100000
set_option maxHeartbeats 4000000
namespace L2
open PySem PySem.Spec PyProof.Rows
/-! ### x == t, t a tuple of ints, x of any kind -/
def eqI (n : Int) : V → Bool
  | .int i => i == n
  | .bl b => (if b then (1 : Int) else 0) == n
  | _ => false
/-- x is a tuple whose items are these numbers, or truths that count as these -/
def EqT (H : Hp) (x : V) (ns : List Int) : Prop := ∃ (p : Addr) (xs : List V), x = .ref p ∧ H p = some (.tup xs) ∧ xs.length = ns.length ∧ ∀ (j : Nat) (y : V), xs[j]? = some y → eqI (ns.getD j 0) y = true
section
variable {X : Cx}
def rEqV : R2 := fun x y H Q => ∃ (q : Addr) (ns : List Int) (k : Kd), y = .ref q ∧ H q = some (.tup (ns.map V.int)) ∧ HasK H x k ∧ (∀ p xs, x = .ref p → H p = some (.tup xs) → ∀ v ∈ xs, ∃ k, HasK H v k) ∧ ∀ b : Bool, (b = true ↔ EqT H x ns) → Q (.bl b) H
end
end L2

set_option Elab.async false
set_option linter.all false
set_option maxRecDepth 100000
set_option maxHeartbeats 4000000
namespace L2
open PySem PySem.Spec PyProof.Rows
/-! ### a lambda: its making -/
def noTb : HO → Bool
  | .tbl _ => false
  | _ => true
/-- all is kept but that tables grow -/
def ExtT (H H' : Hp) : Prop := ∀ b o, H b = some o → noTb o = true → H' b = some o
theorem ExtT.rfl' {H : Hp} : ExtT H H := fun _ _ h _ => h
theorem ExtT.tr {H H1 H2 : Hp} (a : ExtT H H1) (b : ExtT H1 H2) : ExtT H H2 := fun x o h n => b x o (a x o h n) n
theorem Ext.toT {H H' : Hp} (e : Ext H H') : ExtT H H' := fun b o h _ => e b o h
/-- a code of that name stands here -/
def CodeH (H : Hp) (c : Addr) (qual : Str) : Prop := ∃ (oc : Obj) (vs : Array Value) (t : Tok), H c = some (.frz oc (.own c)) ∧ oc.data = .fields vs ∧ vs[1]? = some (.str qual t)
theorem CodeH.mono {H H' : Hp} {c : Addr} {qual : Str} (e : ExtT H H') (h : CodeH H c qual) : CodeH H' c qual := by
  obtain ⟨oc, vs, t, h1, h2⟩ := h
  exact ⟨oc, vs, t, e _ _ h1 rfl, h2⟩
theorem CodeH.record {P : Program} {w : World} {H : Hp} {h : Heap} {c : Addr} {qual : Str} (ok : HOk P w H h) (k : CodeH H c qual) : h.CodeRec (.ref c) qual := by
  obtain ⟨oc, vs, t, h1, h2, h3⟩ := k
  obtain ⟨e, _⟩ := (show ObjOk P w H h c (.frz oc (.own c)) from ok c _ h1)
  exact ⟨c, oc, vs, t, rfl, e, h2, h3⟩
/-- the table of a def with one lambda: empty yet, or with its code -/
def TabR (H : Hp) (P : Addr) (pos : Pos) (qual : Str) : Prop := H P = some (.tbl #[]) ∨ ∃ c, H P = some (.tbl #[rawInt pos.line, rawInt pos.col, .ref c]) ∧ CodeH H c qual
theorem TabR.ext {H H' : Hp} {P : Addr} {pos : Pos} {qual : Str} (e : Ext H H') (h : TabR H P pos qual) : TabR H' P pos qual := by
  rcases h with h | ⟨c, h, k⟩
  · exact .inl (e _ _ h)
  · exact .inr ⟨c, e _ _ h, k.mono (Ext.toT e)⟩
theorem TabR.but {H H' : Hp} {P r : Addr} {pos : Pos} {qual : Str} {C dx : Addr} {fs : List (Str × V)} (hr : H r = some (.ins C dx fs)) (e : But r H H') (h : TabR H P pos qual) : TabR H' P pos qual := by
  rcases h with h | ⟨c, h, oc, vs, t, k, k2⟩
  · exact .inl (e _ _ (fun z => by rw [z, hr] at h; cases h) h)
  · exact .inr ⟨c, e _ _ (fun z => by rw [z, hr] at h; cases h) h, oc, vs, t, e _ _ (fun z => by rw [z, hr] at k; cases k) k, k2⟩
section
variable {X : Cx} {pins : List (Addr × Obj)} {σ : St} {H : Hp} {s : Shared}
theorem inv_grown {P c' : Addr} {ps more : Array Value} {oc : Obj} {h' : Heap} {t' : Nat} (I : Inv X pins σ H s) (hP : H P = some (.tbl ps)) (hx : Heap.ExtBut P s.heap h') (hge : s.heap.objs.size ≤ c') (hoc : h'.get? c' = some oc)
    (htb : h'.get? P = some { cls := .none, data := .fields (ps ++ more) }) :
    Inv X pins σ (upd (upd H P (.tbl (ps ++ more))) c' (.frz oc (.own c'))) { s with heap := h', toks := t' } := by
  have nc : H c' = none := I.hok.fresh hge
  have ncP : P ≠ c' := ne_of_none hP nc
  have keep : ∀ b o, H b = some o → noTb o = true → upd (upd H P (.tbl (ps ++ more))) c' (.frz oc (.own c')) b = some o := fun b o e n => by
    rw [upd_ne (ne_of_none e nc), upd_ne (fun z => by rw [z, hP] at e; cases e; cases n)]
    exact e
  refine I.un (h' := h') (t' := t') ⟨fun b o e n _ _ => hx b o (fun z => by rw [z, hP] at n; cases n) e, fun b o e n _ _ => ⟨o.slots, hx b o (fun z => by rw [z, hP] at n; cases n) e⟩, fun b o e n _ => ?_, fun b o e _ => ?_,
    fun b xs e => keep b _ e rfl, fun b ob u e => keep b _ e rfl, fun b qs e => ?_⟩ fun b u e => ?_
  · rw [upd_ne (Nat.ne_of_lt (Nat.lt_of_lt_of_le (Heap.lt_size e) hge)), upd_ne (fun z => by rw [z, hP] at n; cases n)]
    exact n
  · by_cases hb : b = P
    · exact ⟨_, by rw [hb]; exact htb⟩
    · exact ⟨o, hx b o hb e⟩
  · by_cases hb : b = P
    · subst hb
      rw [hP] at e
      cases e
      exact ⟨more, by rw [upd_ne ncP, upd_same]⟩
    · exact ⟨#[], by rw [upd_ne (ne_of_none e nc), upd_ne hb, e]; simp⟩
  · by_cases hc : b = c'
    · subst hc
      rw [upd_same] at e
      cases e
      exact ⟨hoc, oc, hoc⟩
    · rw [upd_ne hc] at e
      by_cases hb : b = P
      · subst hb
        rw [upd_same] at e
        cases e
        exact htb
      · rw [upd_ne hb] at e
        refine (I.hok b u e).stay (fun d v hd q => hx d v ?_ q) (fun d q => keep d _ q rfl) fun d xs q => keep d _ q rfl
        rcases hd with z | z
        · rw [z]; exact hb
        · intro y
          rw [y, hP] at z
          cases z
theorem lam_make {A : Around} {E : Value → Shared → Prop} {P c : Addr} {params : Arguments} {body : Expr} {scope : Scope} {pos : Pos} {clos : List (Str × Addr)} {Q : Value → Shared → Prop} (I : Inv X pins σ H s) (hcd : X.env.code = .ref c) (hC : PySem.W.codeHdIn X.K c P = true)
    (hT : TabR H P pos (X.env.qual ++ "<lambda>")) (hdef : defaultsOf params X.env = ([], [])) (hcl : closureFor scope X.env = pure clos)
    (h : ∀ (f c' : Addr) (pm ctv : Value) (H' : Hp) (s' : Shared), Inv X (pins ++ [(f, PySem.W.kla_obj "<lambda>" (X.env.qual ++ "<lambda>") params body scope clos pm c' ctv)]) σ H' s' → CodeH H' c' (X.env.qual ++ "<lambda>") → TabR H' P pos (X.env.qual ++ "<lambda>") → ExtT H H' → Q (.ref f) s') :
    wpAny (model X.prog X.w) A (eval (.Lambda params body scope pos) X.env) Q E s := by
  have hg := I.mod.glob.keeps I.bk
  have C := PySem.W.codeHd_of_K I.kIn hC
  have tab : ∀ {ps : Array Value}, H P = some (.tbl ps) → s.heap.get? P = some (PySem.W.tabObj ps) := fun e => (show ObjOk X.prog X.w H s.heap P (.tbl _) from I.hok P _ e)
  obtain ⟨ps0, hP0⟩ : ∃ ps, s.heap.get? P = some (PySem.W.tabObj ps) := by
    rcases hT with hT | ⟨c', hT, _⟩
    · exact ⟨_, tab hT⟩
    · exact ⟨_, tab hT⟩
  have gnP : mainGlobals ≠ P := fun q => by
    obtain ⟨o, es, ep, e, hd, _⟩ := hg
    rw [q, hP0] at e; cases e; cases hd
  obtain ⟨bm, ob, b1, b2, b3, b4, b5, b6⟩ := I.mod.bmain
  have b3' := I.bk _ _ b3
  have hbP : bm ≠ P := fun q => by rw [q, hP0] at b3'; cases b3'; cases b4
  have bnG : bm ≠ mainGlobals := fun q => by
    obtain ⟨o, es, ep, e, hd, _⟩ := hg
    rw [q, e] at b3'; cases b3'; rw [hd] at b6; cases b6
  have pinned : ∀ {H' : Hp} {h2 : Heap} {o : Obj} {tk : Nat}, Inv X pins σ H' { s with heap := h2, toks := tk } → (∀ v, o.data ≠ .cell v) → o.isFreed = false →
      Inv X (pins ++ [(h2.objs.size, o)]) σ H' { s with heap := h2.push o, toks := tk } := fun {H' h2 o tk} J hd hfr => by
    have J2 : Inv X pins σ H' { s with heap := h2.push o, toks := tk } := J.kept fun b u e => Heap.get?_push_of_some _ e
    refine J2.pins_of fun p hp => ?_
    skip; rcases List.mem_append.mp hp with z | z
    · exact J2.pin p (List.mem_append_right _ z)
    · rw [List.mem_singleton.mp z]
      exact ⟨Heap.get?_push_size _ hfr, J.hok.fresh (Nat.le_refl _), Nat.ne_of_gt J.lt, J.nofs (Nat.le_refl _), hd⟩
  refine PySem.W.kla_eval hdef ?_
  rcases hT with hT | ⟨c', hT, hcc⟩
  · refine PySem.W.kla_makeFunction hcl I.ok.glob hg hcd C (tab hT) trivial rfl gnP ⟨bm, ob, b1, b2, bnG, hbP, b3', b4, b5, b6⟩ fun c' ctv h' tk hx hge hlt hrec htb => ?_
    obtain ⟨c2, oc, vs, t, e2, hoc, hd, hv⟩ := hrec
    cases e2
    have J := inv_grown (t' := tk) I hT hx hge hoc htb
    have nc : H c' = none := I.hok.fresh hge
    have hcc : CodeH (upd (upd H P (.tbl (#[] ++ #[rawInt pos.line, rawInt pos.col, .ref c']))) c' (.frz oc (.own c'))) c' (X.env.qual ++ "<lambda>") := ⟨oc, vs, t, upd_same, hd, hv⟩
    refine h _ c' _ ctv _ _ (pinned J (fun v z => by cases z) rfl) hcc (.inr ⟨c', ?_, hcc⟩) fun b o e n => ?_
    · rw [upd_ne (ne_of_none hT nc), upd_same]
      rfl
    · rw [upd_ne (ne_of_none e nc), upd_ne (fun z => by rw [z, hT] at e; cases e; cases n)]
      exact e
  · refine PySem.W.kla_makeFunctionHit hcl I.ok.glob hg hcd C (tab hT) trivial (cv := .ref c') (codeAmong_snoc [] trivial rfl) ⟨bm, ob, b1, b2, bnG, hbP, b3', b4, b5, b6⟩ fun ctv h' tk hk hsz => ?_
    have J : Inv X pins σ H { s with heap := h', toks := tk } := I.kept hk
    exact h _ c' _ ctv H _ (pinned J (fun v z => by cases z) rfl) hcc (.inr ⟨c', hT, hcc⟩) ExtT.rfl'
end
/-! ### its call -/
def cxLam (X : Cx) (pins : List (Addr × Obj)) (N : List Str) (qual : Str) (scope : Scope) (cl : List (Str × Addr)) (f c : Addr) (A : Around) (s : Shared) (H : Hp) : Cx where
  prog := X.prog
  w := X.w
  K := X.K
  mg := X.mg
  base := X.base
  A := A.deeper (PySem.W.envX qual scope s.heap.objs.size f (.ref c) cl)
  N := N
  s₀ := s
  H₀ := H
  env := PySem.W.envX qual scope s.heap.objs.size f (.ref c) cl
  outer := X.stack
  stack := PySem.W.envX qual scope s.heap.objs.size f (.ref c) cl :: X.stack
  ex := []
  fn := fun _ => false
  calm := true
  pn := X.pn ++ pins
  xe := NoX
def lSt (v : V) (js : List Nat) (σ : St) : St := some v :: js.map (slotAt σ)
/-- the lambda's scope: one parameter, the rest is the def's -/
structure LamOk (X : Cx) (scope : Scope) (cl : List (Str × Addr)) (x : Str) (fr : List Str) (js : List Nat) : Prop where
  kind : scope.kind = .function
  co : scope.isCoroutine = false
  gen : scope.isGenerator = false
  nc : ∀ y ∈ scope.names, y.2 ≠ .cell
  par : scope.names.lookup x = some .local
  clos : closOf X.env.cells scope.names [] = some cl
  frees : Frees X scope fr js
section
variable {X : Cx} {pins : List (Addr × Obj)} {σ : St} {H : Hp} {s : Shared}
theorem lam_start {A : Around} {x qual : Str} {fr : List Str} {js : List Nat} {scope : Scope} {cl : List (Str × Addr)} {f c : Addr} {h' : Heap} {tk : Nat} {v : V} {u : Value} (I : Inv X pins σ H s) (O : LamOk X scope cl x fr js) (hA : A.frames = some X.stack) (hh : A.handled = none) (r : RelV v u)
    (hn : h'.Ns s.heap.objs.size (fun y => [(x, u)].reverse.lookup y)) (hk : ∀ b o, s.heap.get? b = some o → h'.get? b = some o) :
    Inv (cxLam X pins (x :: fr) qual scope cl f c A s H) [] (lSt v js σ) H { s with heap := h', toks := tk } := by
  have sub := clos_sub _ _ _ O.clos (fun _ _ q => by simp at q)
  have noA : ∀ b : Addr, b ∉ (cxLam X pins (x :: fr) qual scope cl f c A s H).ex := fun b z => absurd (show b ∈ ([] : List Addr) from z) (by simp)
  refine ⟨⟨I.ok.mod, O.kind, rfl, rfl, Nat.le_refl _, fun y z d e1 e2 => I.ok.inj y z d (sub _ _ e1) (sub _ _ e2), fun y hy => ?_, (fun y d q => Bool.noConfusion (show false = true from q)), fun _ => hh, Around.frames_deeper hA, .inr ⟨rfl, rfl⟩, fun b z => absurd z (noA b),
    I.bs, Nat.le_trans I.ok.bsz I.sz, fun b _ _ => noA b, fun b z => absurd z (noA b), I.stack, I.stkFree⟩, rfl, I.bare, Un.kept hk, ⟨_, hn, fun i y w e1 e2 e3 => ?_⟩, fun y d e => ?_, I.hok.fresh (Nat.le_refl _), fun y d e => I.freeC y d (sub y d e), fun p hp => ?_, I.hok.kept hk, ?_⟩
  · have hy' : scope.names.lookup y = some .cell ∨ scope.names.lookup y = some .free := hy
    rcases hy' with hy' | hy'
    · exact absurd rfl (O.nc _ (PySem.mem_of_lookup hy'))
    · exact clos_has _ _ _ O.clos y (.inr (PySem.mem_of_lookup hy'))
  · cases i with
    | zero =>
      have e1' : x = y := by
        have z : (x :: fr)[0]? = some y := e1
        simpa using z
      have e2' : v = w := by simpa [lSt] using e2
      subst e1' e2'
      exact ⟨u, r, .inl ⟨O.par, by simp⟩⟩
    | succ i =>
      have e1' : fr[i]? = some y := by
        have z : (x :: fr)[i + 1]? = some y := e1
        simpa using z
      obtain ⟨j, hj, nj, kj, lj⟩ := O.frees.get e1'
      have e2' : slotAt σ j = some w := by
        unfold lSt at e2
        rw [List.getElem?_cons_succ, List.getElem?_map, hj] at e2
        exact Option.some.inj e2
      have e4 : σ[j]? = some (some w) := by
        unfold slotAt at e2'
        split at e2'
        · rename_i o q; rw [q, e2']
        · cases e2'
      obtain ⟨m, hm, hl⟩ := I.loc
      obtain ⟨u', ru, lk⟩ := hl j y w nj e4 (kj.elim (fun q => .inr (.inl q)) fun q => .inr (.inr q))
      refine ⟨u', ru, .inr ⟨lj, ?_⟩⟩
      rcases lk with ⟨q, _⟩ | ⟨_, d, ed, id⟩
      · rcases kj with k | k <;> (rw [q] at k; cases k)
      · have lj' : scope.names.lookup y = some .free := by
          rcases lj with z | z
          · exact absurd rfl (O.nc _ (PySem.mem_of_lookup z))
          · exact z
        obtain ⟨d', ed'⟩ := clos_has _ _ _ O.clos y (.inr (PySem.mem_of_lookup lj'))
        have := sub _ _ ed'
        rw [ed] at this
        cases this
        exact ⟨d, ed', id.keeps hk⟩
  · obtain ⟨w, q⟩ := I.cell y d (sub y d e)
    exact ⟨w, q.keeps hk⟩
  · have hp' : p ∈ X.pn ++ pins := by
      rcases List.mem_append.mp hp with q | q
      · exact q
      · simp at q
    obtain ⟨q1, q2, q3, q4, q5⟩ := I.pin p hp'
    refine ⟨hk _ _ q1, q2, Nat.ne_of_lt (Heap.lt_size q1), fun z => ?_, q5⟩
    rcases List.mem_cons.mp (I.stkSub _ z) with y | y
    · exact q3 y
    · exact q4 y
  · show (lSt v js σ).length = (x :: fr).length
    unfold lSt
    rw [List.length_cons, List.length_cons, List.length_map, O.frees.len]
theorem lam_call {A : Around} {E : Value → Shared → Prop} {k : Nat} {name x qual : Str} {fr : List Str} {js : List Nat} {params : Arguments} {body : Expr} {scope : Scope} {cl : List (Str × Addr)} {f c : Addr} {pm ctv : Value} {t : TE} {v : V} {u : Value} {Q : VK} (I : Inv X pins σ H s) (O : LamOk X scope cl x fr js)
    (hA : A.frames = some X.stack) (hr : Room (k + 1) A) (hf : (f, PySem.W.kla_obj name qual params body scope cl pm c ctv) ∈ pins) (hc : CodeH H c qual) (r : RelV v u)
    (hbind : bindArgs (PySem.W.kla_fn name qual params body scope cl pm (.ref c) ctv) ⟨[u], []⟩ = pure [(x, u)])
    (hb : PE (cxLam X pins (x :: fr) qual scope cl f c A s H) body t) (hq : t (lSt v js σ) H Q) : wpAny (model X.prog X.w) A (call (.ref f) [u]) (EP X pins σ Q) E s := by
  obtain ⟨ho, _⟩ := I.pin _ (List.mem_append_right _ hf)
  refine wpAny_call (PySem.W.kla_callFunE hr.depth ho rfl O.co O.gen rfl (hc.record I.hok) ?_)
  rw [hbind]
  refine wpAny_pure (wpAny_newFunctionEnv O.nc (fun y hy => by rw [List.mem_singleton.mp hy]; exact O.par) (fun h₁ hns hsb => ⟨I.nolimit.fresh _ hsb, ?_⟩) O.kind)
  skip; have hk₁ : ∀ b o, s.heap.get? b = some o → h₁.get? b = some o := fun b o e => hsb.extBut b o (Nat.ne_of_lt (Heap.lt_size e)) (Heap.get?_push_of_some _ e)
  have J := lam_start (A := A) (qual := qual) (f := f) (c := c) (tk := s.toks + [(x, u)].length) I O hA hr.hd r hns hk₁
  show codeAny _ _ (.expr body (PySem.W.envX qual scope s.heap.objs.size f (.ref c) cl)) _ _
  refine PySem.W.kla_codeExpr (wpAny_mono (hb [] _ _ H Q J hq) (fun u' s' ⟨v', H', J', r', q'⟩ => ?_) fun _ _ z => False.elim z)
  have I' : Inv X pins σ H' s' := I.call' (ch := []) J'.os J'.base J'.hok J'.bare fun b z => absurd z (by simp)
  exact ⟨v', H', I', r', q'⟩
end
end L2

set_option Elab.async false
set_option linter.all false
set_option maxRecDepth 100000
set_option maxHeartbeats 4000000
namespace L2
open PySem PySem.Spec PyProof.Rows
/-! ### min(xs, key = a function) -/
/-- the number of the first that none undercuts -/
def bestOf (lt : Nat → Nat → Bool) : Nat → Nat
  | 0 => 0
  | j + 1 => if lt (j + 1) (bestOf lt j) = true then j + 1 else bestOf lt j
theorem bestOf_le (lt : Nat → Nat → Bool) : ∀ j, bestOf lt j ≤ j
  | 0 => Nat.le_refl _
  | j + 1 => by
    unfold bestOf
    split
    · exact Nat.le_refl _
    · exact Nat.le_succ_of_le (bestOf_le lt j)
section
variable {prog : Program} {w : World} {A : Around} {E : Value → Shared → Prop} {s : Shared}
theorem pyNextA_item {b : Bool} {it l : Addr} {k : Nat} {xs : Array Value} {x : Value} {Q : Option Value → Shared → Prop} (i0 : ItA b s.heap it l k) (l0 : SqA b s.heap l xs) (hx : xs[k]? = some x)
    (q : ∀ h', ItA b h' it l (k + 1) → Heap.SameBut it s.heap h' → Q (some x) { s with heap := h' }) : wpAny (model prog w) A (pyNext (.ref it)) Q E s := by
  cases b
  · exact wpAny_pyNext_list_item i0 l0 hx q
  · exact wpAny_pyNext_tuple_item i0 l0 hx q
theorem pyNextA_end {b : Bool} {it l : Addr} {k : Nat} {xs : Array Value} {Q : Option Value → Shared → Prop} (hh : A.handled = none) (i0 : ItA b s.heap it l k) (l0 : SqA b s.heap l xs) (hx : xs[k]? = none)
    (q : ∀ h', Heap.ExtBut it s.heap h' → Q none { s with heap := h' }) : wpAny (model prog w) A (pyNext (.ref it)) Q E s := by
  cases b
  · exact wpAny_pyNext_list_end hh i0 l0 hx q
  · exact wpAny_pyNext_tuple_end hh i0 l0 hx q
end
section
variable {X : Cx} {pins : List (Addr × Obj)} {σ : St} {H : Hp} {s : Shared}
/-- a pinned object has changed, and is let go -/
theorem Inv.drop1 {pins' : List (Addr × Obj)} {a : Addr} {o : Obj} {h' : Heap} {t' : Nat} (I : Inv X pins σ H s) (ha : (a, o) ∈ pins) (hs : X.s₀.heap.objs.size ≤ a) (hk : ∀ b u, b ≠ a → s.heap.get? b = some u → h'.get? b = some u) (hX : ∀ p ∈ X.pn, p.1 ≠ a)
    (hp : ∀ p ∈ pins', p ∈ pins ∧ p.1 ≠ a) : Inv X pins' σ H { s with heap := h', toks := t' } := by
  obtain ⟨a1, a2, a3, a4, a5⟩ := I.pin _ (List.mem_append_right _ ha)
  have J0 : Inv X [] σ H s := I.pins_of fun p z => by cases z
  have cl : ∀ x c, X.env.cells.lookup x = some c → c ≠ a := fun x c e z => by
    obtain ⟨v, ob, h1, h2⟩ := I.cell x c e
    rw [z] at h1
    have h3 : s.heap.get? a = some o := a1
    rw [h3] at h1
    cases h1
    exact a5 v h2
  have J1 : Inv X [] σ H { s with heap := h', toks := t' } := J0.turned hk a2 a3 (.inr hs) cl fun p z => by
    rcases List.mem_append.mp z with z | z
    · exact hX p z
    · cases z
  refine J1.pins_of fun p z => ?_
  obtain ⟨z1, z2⟩ := hp p z
  obtain ⟨p1, p2, p3, p4, p5⟩ := I.pin p (List.mem_append_right _ z1)
  exact ⟨hk _ _ z2 p1, p2, p3, p4, p5⟩
/-- a pinned object has changed -/
theorem Inv.repin {pins' : List (Addr × Obj)} {a : Addr} {o o' : Obj} {h' : Heap} {t' : Nat} (I : Inv X pins σ H s) (ha : (a, o) ∈ pins) (hs : X.s₀.heap.objs.size ≤ a) (hk : ∀ b u, b ≠ a → s.heap.get? b = some u → h'.get? b = some u) (hn : h'.get? a = some o') (hd : ∀ v, o'.data ≠ .cell v) (hX : ∀ p ∈ X.pn, p.1 ≠ a)
    (hp : ∀ p ∈ pins', (p ∈ pins ∧ p.1 ≠ a) ∨ p = (a, o')) : Inv X pins' σ H { s with heap := h', toks := t' } := by
  obtain ⟨a1, a2, a3, a4, a5⟩ := I.pin _ (List.mem_append_right _ ha)
  have J1 : Inv X [] σ H { s with heap := h', toks := t' } := I.drop1 ha hs hk hX fun p z => by cases z
  refine J1.pins_of fun p z => ?_
  rcases hp p z with ⟨z1, z2⟩ | rfl
  · obtain ⟨p1, p2, p3, p4, p5⟩ := I.pin p (List.mem_append_right _ z1)
    exact ⟨hk _ _ z2 p1, p2, p3, p4, p5⟩
  · exact ⟨hn, a2, a3, a4, hd⟩
/-- two new objects are pinned -/
theorem Inv.pin2 {h' : Heap} {t' : Nat} {a b : Addr} {o p : Obj} (I : Inv X pins σ H s) (hk : ∀ d u, s.heap.get? d = some u → h'.get? d = some u) (ha : h'.get? a = some o) (hb : h'.get? b = some p) (la : s.heap.objs.size ≤ a) (lb : s.heap.objs.size ≤ b) (da : ∀ v, o.data ≠ .cell v) (db : ∀ v, p.data ≠ .cell v) :
    Inv X (pins ++ [(a, o), (b, p)]) σ H { s with heap := h', toks := t' } := by
  have J : Inv X pins σ H { s with heap := h', toks := t' } := I.kept hk
  refine J.pins_of fun q hq => ?_
  rcases List.mem_append.mp hq with z | z
  · exact J.pin q (List.mem_append_right _ z)
  · rcases List.mem_cons.mp z with rfl | z
    · exact ⟨ha, I.hok.fresh la, Nat.ne_of_gt (Nat.lt_of_lt_of_le I.lt la), I.nofs la, da⟩
    · rw [List.mem_singleton.mp z]
      exact ⟨hb, I.hok.fresh lb, Nat.ne_of_gt (Nat.lt_of_lt_of_le I.lt lb), I.nofs lb, db⟩
/-- how keys are held against one another -/
structure Keyed (X : Cx) (A : Around) (σ : St) (KR : Hp → V → Nat → Prop) (lt : Nat → Nat → Bool) : Prop where
  ext : ∀ {H H' : Hp} {v : V} {i : Nat}, Ext H H' → KR H v i → KR H' v i
  cmp : ∀ {pins : List (Addr × Obj)} {H : Hp} {s : Shared} {v1 v2 : V} {u1 u2 : Value} {i j : Nat} {Q : Value → Shared → Prop} {E : Value → Shared → Prop}, Inv X pins σ H s → KR H v1 i → RelV v1 u1 → KR H v2 j → RelV v2 u2 → Q (.bool (lt i j)) s →
    wpAny (model X.prog X.w) A (richCompare .Lt u1 u2) Q E s
/-- what a turn needs -/
structure Turns (X : Cx) (A : Around) (pins : List (Addr × Obj)) (σ : St) (KR : Hp → V → Nat → Prop) (G : Hp → Prop) (q l : Addr) (xs : List V) (tp : Bool) : Prop where
  ext : ∀ {H H' : Hp}, Ext H H' → G H → G H'
  src : ∀ {H : Hp}, G H → SqE X.K H l xs tp
  turn : ∀ {ps : List (Addr × Obj)} {H : Hp} {s : Shared} {i : Nat} {x : V} {u : Value} {E : Value → Shared → Prop}, (∀ p ∈ pins, p ∈ ps) → Inv X ps σ H s → G H → xs[i]? = some x → RelV x u →
    wpAny (model X.prog X.w) A (call (.ref q) [u]) (EP X ps σ fun kv H' => KR H' kv i ∧ Ext H H') E s
variable {A : Around} {KR : Hp → V → Nat → Prop} {lt : Nat → Nat → Bool} {G : Hp → Prop} {l q It S : Addr} {xs : List V} {tp : Bool} {R : Result → Shared → Prop}
theorem mk_loop (hh : A.handled = none) (KY : Keyed X A.in1 σ KR lt) (T : Turns X A.in1 pins σ KR G q l xs tp) (sI : X.s₀.heap.objs.size ≤ It) (sS : X.s₀.heap.objs.size ≤ S) (hSI : S ≠ It) (pI : ∀ p ∈ X.pn ++ pins, p.1 ≠ It) (pS : ∀ p ∈ X.pn ++ pins, p.1 ≠ S)
    (hR : ∀ {H : Hp} {s : Shared} {x : V} {u : Value}, xs[bestOf lt (xs.length - 1)]? = some x → RelV x u → Inv X pins σ H s → G H → R (.ok (.ret u)) s) :
    ∀ (r j : Nat) {s : Shared} {H : Hp} {oI : Obj} {c : Nat} {vb kb : Value} {xb kv : V}, xs.length - (j + 1) = r → j + 1 ≤ xs.length → Inv X (pins ++ [(It, oI), (S, seqObj "list" #[vb, kb] c)]) σ H s → ItA tp s.heap It l (j + 1) → xs[bestOf lt j]? = some xb → RelV xb vb → RelV kv kb → KR H kv (bestOf lt j) → G H →
      codeAny (model X.prog X.w) A (.builtin "min.loop" ⟨[.ref It, .ref q, .ref S], []⟩) R s := by
  skip; have hname : (toString "min" ++ toString ".loop" : String) = "min.loop" := by decide
  intro r
  induction r with
  | zero =>
    intro j s H oI c vb kb xb kv hr hj I hit hxb rxb rkv hkr hG
    have mI : (It, oI) ∈ pins ++ [(It, oI), (S, seqObj "list" #[vb, kb] c)] := List.mem_append_right _ (.head _)
    have gS := (I.pin (S, seqObj "list" #[vb, kb] c) (List.mem_append_right _ (List.mem_append_right _ (.tail _ (.head _))))).1
    obtain ⟨its, rv, sq, _⟩ := I.sqe (T.src hG)
    have hl := rv.length
    skip; refine codeAny_builtin PySem.F.entry_min_loop ?_
    skip; rw [Around.under_plainId PySem.F.plain_min_loop _]
    skip; show wpAny _ A.in1 (seqItems? (.ref S) >>= _) _ _ _
    skip; refine wpAny_bind (wpAny_seqItems gS rfl ?_)
    skip; show wpAny _ A.in1 (tryCatch (pyNext (.ref It)) _ >>= _) _ _ _
    refine wpAny_bind (wpAny_tryCatch (pyNextA_end hh hit sq (Array.getElem?_eq_none (by rw [List.size_toArray]; omega)) fun h' hx => ?_))
    have I1 : Inv X (pins ++ [(S, seqObj "list" #[vb, kb] c)]) σ H { s with heap := h' } := I.drop1 mI sI (fun b u n e => hx b u n e) (fun p hp => pI p (List.mem_append_left _ hp)) fun p hp => by
      skip; rcases List.mem_append.mp hp with z | z
      · exact ⟨List.mem_append_left _ z, pI p (List.mem_append_right _ z)⟩
      · rw [List.mem_singleton.mp z]; exact ⟨List.mem_append_right _ (.tail _ (.head _)), hSI⟩
    have gS1 : h'.get? S = some (seqObj "list" #[vb, kb] c) := hx S _ hSI gS
    skip; have s1 := Heap.SameBut.update h' S (Obj.mapSeq fun _ => (#[] : Array Value))
    skip; show wpAny _ A.in1 (updateSeq S (fun _ => #[]) >>= _) _ _ _
    skip; refine wpAny_bind ?_
    refine wpAny_updateSeq gS1 rfl (wpAny_bind (wpAny_letGo (wpAny_pure ?_)))
    refine hR (x := xb) (H := H) (by rw [show xs.length - 1 = j by omega]; exact hxb) rxb (I1.drop1 (List.mem_append_right _ (.head _)) sS (fun b u n e => (s1.2 b n).trans e) (fun p hp => pS p (List.mem_append_left _ hp)) fun p hp => ⟨List.mem_append_left _ hp, pS p (List.mem_append_right _ hp)⟩) hG
  | succ r ih =>
    intro j s H oI c vb kb xb kv hr hj I hit hxb rxb rkv hkr hG
    have mI : (It, oI) ∈ pins ++ [(It, oI), (S, seqObj "list" #[vb, kb] c)] := List.mem_append_right _ (.head _)
    have gS := (I.pin (S, seqObj "list" #[vb, kb] c) (List.mem_append_right _ (List.mem_append_right _ (.tail _ (.head _))))).1
    obtain ⟨its, rv, sq, _⟩ := I.sqe (T.src hG)
    have hl := rv.length
    have hx : xs[j + 1]? = some (xs[j + 1]'(by omega)) := List.getElem?_eq_getElem _
    obtain ⟨u, eu, ru⟩ := rv.get hx
    skip; refine codeAny_builtin PySem.F.entry_min_loop ?_
    skip; rw [Around.under_plainId PySem.F.plain_min_loop _]
    skip; show wpAny _ A.in1 (seqItems? (.ref S) >>= _) _ _ _
    skip; refine wpAny_bind (wpAny_seqItems gS rfl ?_)
    skip; show wpAny _ A.in1 (tryCatch (pyNext (.ref It)) _ >>= _) _ _ _
    refine wpAny_bind (wpAny_tryCatch (pyNextA_item hit sq (by simpa using eu) fun h' hit' sb => ?_))
    obtain ⟨oI', goI', dI'⟩ := hit'.ex
    have I1 : Inv X (pins ++ [(It, oI'), (S, seqObj "list" #[vb, kb] c)]) σ H { s with heap := h' } := I.repin mI sI (fun b u n e => (sb.2 b n).trans e) goI' dI' (fun p hp => pI p (List.mem_append_left _ hp)) fun p hp => by
      skip; rcases List.mem_append.mp hp with z | z
      · exact .inl ⟨List.mem_append_left _ z, pI p (List.mem_append_right _ z)⟩
      · rcases List.mem_cons.mp z with rfl | z
        · exact .inr rfl
        · rw [List.mem_singleton.mp z]; exact .inl ⟨List.mem_append_right _ (.tail _ (.head _)), hSI⟩
    show wpAny _ A.in1 (tryCatch (holding [u] (call (.ref q) [u])) _ >>= _) _ _ _
    refine wpAny_bind (wpAny_tryCatch (wpAny_holding (wpAny_mono (T.turn (fun p hp => List.mem_append_left _ hp) I1 hG hx ru) (fun ku s2 ⟨kv2, H2, I2, rk2, hk2, e2⟩ => ?_) fun _ _ hF => hF)))
    have gI2 := (I2.pin (It, oI') (List.mem_append_right _ (List.mem_append_right _ (.head _)))).1
    have gS2 := (I2.pin (S, seqObj "list" #[vb, kb] c) (List.mem_append_right _ (List.mem_append_right _ (.tail _ (.head _))))).1
    have hit2 : ItA tp s2.heap It l (j + 1 + 1) := hit'.at fun o e => by rw [goI'] at e; cases e; exact gI2
    show wpAny _ A.in1 (tryCatch (holding [u, ku] (richCompare .Lt ku kb >>= _)) _ >>= _) _ _ _
    refine wpAny_bind (wpAny_tryCatch (wpAny_holding (wpAny_bind (KY.cmp I2 hk2 rk2 (KY.ext e2 hkr) rkv ?_))))
    skip; refine wpAny_bind (wpAny_holding (wpAny_truthy_bool ?_))
    skip; refine wpAny_bind (wpAny_letGo (wpAny_pure ?_))
    by_cases hb' : lt (j + 1) (bestOf lt j) = true
    · have eb : bestOf lt (j + 1) = j + 1 := by unfold bestOf; rw [if_pos hb']
      have s1 := Heap.SameBut.update s2.heap S (Obj.mapSeq fun _ => #[u, ku])
      obtain ⟨c2, hc2⟩ : ∃ c2, (s2.heap.update S (Obj.mapSeq fun _ => #[u, ku])).get? S = some (seqObj "list" #[u, ku] c2) := ⟨_, get?_update_seq gS2 fun _ => #[u, ku]⟩
      simp only [hb', if_true]
      skip; refine wpAny_bind ?_
      refine wpAny_updateSeq gS2 rfl (wpAny_bind (wpAny_letGo ?_))
      rw [hname]
      have I3 : Inv X (pins ++ [(It, oI'), (S, seqObj "list" #[u, ku] c2)]) σ H2 { s2 with heap := s2.heap.update S (Obj.mapSeq fun _ => #[u, ku]) } := I2.repin (List.mem_append_right _ (.tail _ (.head _))) sS (fun b u n e => (s1.2 b n).trans e) hc2 (fun v z => by cases z) (fun p hp => pS p (List.mem_append_left _ hp)) fun p hp => by
        skip; rcases List.mem_append.mp hp with z | z
        · exact .inl ⟨List.mem_append_left _ z, pS p (List.mem_append_right _ z)⟩
        · rcases List.mem_cons.mp z with rfl | z
          · exact .inl ⟨List.mem_append_right _ (.head _), hSI.symm⟩
          · exact .inr (List.mem_singleton.mp z)
      refine wpAny_pure ⟨plainId_quiet PySem.F.plain_min_loop _, ih (j + 1) (by omega) (by omega) I3 (hit2.at fun o e => (s1.2 It hSI.symm).trans e) (by rw [eb]; exact hx) ru rk2 (by rw [eb]; exact hk2) (T.ext e2 hG)⟩
    · have eb : bestOf lt (j + 1) = bestOf lt j := by show (if _ then _ else _) = _; rw [if_neg hb']
      have hb2 : lt (j + 1) (bestOf lt j) = false := by simpa using hb'
      simp only [hb2, Bool.false_eq_true, if_false]
      skip; refine wpAny_bind (wpAny_letGo ?_)
      rw [hname]
      refine wpAny_pure ⟨plainId_quiet PySem.F.plain_min_loop _, ih (j + 1) (by omega) (by omega) I2 hit2 (by rw [eb]; exact hxb) rxb rkv (by rw [eb]; exact KY.ext e2 hkr) (T.ext e2 hG)⟩
theorem mk_min {E : Value → Shared → Prop} {Q : Value → Shared → Prop} (hh : A.handled = none) (I : Inv X pins σ H s) (hG : G H) (KY : Keyed X A.in1 σ KR lt) (T : Turns X A.in1 pins σ KR G q l xs tp) (hne : 0 < xs.length)
    (hQ : ∀ {H : Hp} {s : Shared} {x : V} {u : Value}, xs[bestOf lt (xs.length - 1)]? = some x → RelV x u → Inv X pins σ H s → G H → Q u s) :
    wpAny (model X.prog X.w) A (call (.builtin "min") [.ref l] [(Str.ofString "key", .ref q)]) Q E s := by
  skip; have hname : (toString "min" ++ toString ".loop" : String) = "min.loop" := by decide
  obtain ⟨its, rv, sq, _⟩ := I.sqe (T.src hG)
  have hl := rv.length
  skip; refine kmk_tree PySem.F.kind_min PySem.F.plain_min PySem.F.entry_min (kmk_min_key _ _) ?_
  skip; show wpAny _ A.in1 (Builtin.Builtins.bindParams "min" ["key", "default"] 0 ⟨[], [(Str.ofString "key", .ref q)]⟩ >>= _) _ _ s
  skip; refine wpAny_bind (wpAny_of_eq (show Builtin.Builtins.bindParams "min" ["key", "default"] 0 ⟨[], [(Str.ofString "key", .ref q)]⟩ = pure [some (.ref q), none] from rfl) ?_)
  refine wpAny_bind (wpAny_pure ?_)
  refine wpAny_bind (iterA sq ?_)
  skip; refine wpAny_bind (wpAny_newList ?_ (Nat.zero_le _))
  rw [hname]
  have hS : (s.heap.push (itO tp l)).objs.size = s.heap.objs.size + 1 := size_push' ..
  have gI : ((s.heap.push (itO tp l)).push (seqObj "list" #[] 0)).get? s.heap.objs.size = some (itO tp l) := Heap.get?_push_of_some _ (Heap.get?_push_size _ rfl)
  have gS : ((s.heap.push (itO tp l)).push (seqObj "list" #[] 0)).get? (s.heap.push (itO tp l)).objs.size = some (seqObj "list" #[] 0) := Heap.get?_push_size _ rfl
  have I1 : Inv X (pins ++ [(s.heap.objs.size, itO tp l), ((s.heap.push (itO tp l)).objs.size, seqObj "list" #[] 0)]) σ H { s with heap := (s.heap.push (itO tp l)).push (seqObj "list" #[] 0) } :=
    I.pin2 (fun d u e => Heap.get?_push_of_some _ (Heap.get?_push_of_some _ e)) gI gS (Nat.le_refl _) (by rw [hS]; omega) (fun v z => by cases z) fun v z => by cases z
  have hit1 : ItA tp ((s.heap.push (itO tp l)).push (seqObj "list" #[] 0)) s.heap.objs.size l 0 := itO_at gI
  have hSI : (s.heap.push (itO tp l)).objs.size ≠ s.heap.objs.size := by rw [hS]; omega
  have sI : X.s₀.heap.objs.size ≤ s.heap.objs.size := I.sz
  have sS : X.s₀.heap.objs.size ≤ (s.heap.push (itO tp l)).objs.size := by rw [hS]; omega
  have pI : ∀ p ∈ X.pn ++ pins, p.1 ≠ s.heap.objs.size := fun p hp => Nat.ne_of_lt (Heap.lt_size (I.pin p hp).1)
  have pS : ∀ p ∈ X.pn ++ pins, p.1 ≠ (s.heap.push (itO tp l)).objs.size := fun p hp => by rw [hS]; exact Nat.ne_of_lt (Nat.lt_succ_of_lt (Heap.lt_size (I.pin p hp).1))
  skip; refine wpAny_pure ⟨plainId_quiet PySem.F.plain_min_loop _, ?_⟩
  generalize s.heap.objs.size = It at *
  generalize (s.heap.push (itO tp l)).objs.size = S at *
  generalize (s.heap.push (itO tp l)).push (seqObj "list" #[] 0) = h2 at *
  have hx : xs[0]? = some (xs[0]'hne) := List.getElem?_eq_getElem _
  obtain ⟨its2, rv2, sq2, _⟩ := I1.sqe (T.src hG)
  obtain ⟨u, eu, ru⟩ := rv2.get hx
  skip; refine codeAny_builtin PySem.F.entry_min_loop ?_
  skip; rw [Around.under_plainId PySem.F.plain_min_loop _]
  skip; show wpAny _ A.in1 (seqItems? (.ref _) >>= _) _ _ _
  skip; refine wpAny_bind (wpAny_seqItems gS rfl ?_)
  skip; show wpAny _ A.in1 (tryCatch (pyNext (.ref It)) _ >>= _) _ _ _
  refine wpAny_bind (wpAny_tryCatch (pyNextA_item hit1 sq2 (by simpa using eu) fun h' hit' sb => ?_))
  obtain ⟨oI', goI', dI'⟩ := hit'.ex
  have I2 : Inv X (pins ++ [(It, oI'), (S, seqObj "list" #[] 0)]) σ H { s with heap := h' } := I1.repin (List.mem_append_right _ (.head _)) sI (fun b u n e => (sb.2 b n).trans e) goI' dI' (fun p hp => pI p (List.mem_append_left _ hp)) fun p hp => by
    skip; rcases List.mem_append.mp hp with z | z
    · exact .inl ⟨List.mem_append_left _ z, pI p (List.mem_append_right _ z)⟩
    · rcases List.mem_cons.mp z with rfl | z
      · exact .inr rfl
      · rw [List.mem_singleton.mp z]; exact .inl ⟨List.mem_append_right _ (.tail _ (.head _)), hSI⟩
  show wpAny _ A.in1 (tryCatch (holding [u] (call (.ref q) [u])) _ >>= _) _ _ _
  refine wpAny_bind (wpAny_tryCatch (wpAny_holding (wpAny_mono (T.turn (fun p hp => List.mem_append_left _ hp) I2 hG hx ru) (fun ku s2 ⟨kv2, H2, I3, rk2, hk2, e2⟩ => ?_) fun _ _ hF => hF)))
  have gI2 := (I3.pin (It, oI') (List.mem_append_right _ (List.mem_append_right _ (.head _)))).1
  have gS2 := (I3.pin (S, seqObj "list" #[] 0) (List.mem_append_right _ (List.mem_append_right _ (.tail _ (.head _))))).1
  have hit2 : ItA tp s2.heap It l 1 := hit'.at fun o e => by rw [goI'] at e; cases e; exact gI2
  have s1 := Heap.SameBut.update s2.heap S (Obj.mapSeq fun _ => #[u, ku])
  obtain ⟨c2, hc2⟩ : ∃ c2, (s2.heap.update S (Obj.mapSeq fun _ => #[u, ku])).get? S = some (seqObj "list" #[u, ku] c2) := ⟨_, get?_update_seq gS2 fun _ => #[u, ku]⟩
  show wpAny _ A.in1 (updateSeq S (fun _ => #[u, ku]) >>= _) _ _ _
  skip; refine wpAny_bind ?_
  refine wpAny_updateSeq gS2 rfl ?_
  rw [hname]
  have I4 : Inv X (pins ++ [(It, oI'), (S, seqObj "list" #[u, ku] c2)]) σ H2 { s2 with heap := s2.heap.update S (Obj.mapSeq fun _ => #[u, ku]) } := I3.repin (List.mem_append_right _ (.tail _ (.head _))) sS (fun b u n e => (s1.2 b n).trans e) hc2 (fun v z => by cases z) (fun p hp => pS p (List.mem_append_left _ hp)) fun p hp => by
    skip; rcases List.mem_append.mp hp with z | z
    · exact .inl ⟨List.mem_append_left _ z, pS p (List.mem_append_right _ z)⟩
    · rcases List.mem_cons.mp z with rfl | z
      · exact .inl ⟨List.mem_append_right _ (.head _), hSI.symm⟩
      · exact .inr (List.mem_singleton.mp z)
  refine wpAny_pure ⟨plainId_quiet PySem.F.plain_min_loop _, mk_loop hh KY T sI sS hSI pI pS (fun h1 h2 h3 h4 => hQ h1 h2 h3 h4) _ 0 rfl hne I4 (hit2.at fun o e => (s1.2 It hSI.symm).trans e) hx ru rk2 hk2 (T.ext e2 hG)⟩
end
end L2

set_option Elab.async false
set_option linter.all false
set_option maxRecDepth 100000
set_option maxHeartbeats 4000000
namespace L2
open PySem PySem.Spec PyProof.Rows
/-! ### keys: ints, pairs of ints -/
section
variable {prog : Program} {w : World} {A : Around} {E : Value → Shared → Prop} {s : Shared}
theorem lt_ints {a b : Int} {t u : Tok} {Q : Value → Shared → Prop} (h : Q (.bool (decide (a < b))) s) : wpAny (model prog w) A (richCompare .Lt (.int a t) (.int b u)) Q E s :=
  richCompare_gives (op := .Lt) (typeIs_int s _ t) (typeIs_int s _ u) F.slot_int_lt F.entry_int_lt (F.args_int_lt_2 _ _) (gives_int_lt _ _ t u) (fun x => nomatch x) h
def ppLt (p q : Int × Int) : Bool := decide (p.1 < q.1 ∨ (p.1 = q.1 ∧ p.2 < q.2))
end
def KRi (kf : Nat → Int) : Hp → V → Nat → Prop := fun _ v i => v = .int (kf i)
def KRp (kf : Nat → Int × Int) : Hp → V → Nat → Prop := fun H v i => ∃ t, v = .ref t ∧ H t = some (.tup [.int (kf i).1, .int (kf i).2])
def lti (kf : Nat → Int) (i j : Nat) : Bool := decide (kf i < kf j)
def ltp (kf : Nat → Int × Int) (i j : Nat) : Bool := ppLt (kf i) (kf j)
section
variable {X : Cx} {σ : St} {A : Around}
theorem keyed_ints (kf : Nat → Int) : Keyed X A σ (KRi kf) (lti kf) where
  ext := fun _ h => h
  cmp := fun {pins H s v1 v2 u1 u2 i j Q E} I h1 r1 h2 r2 q => by
    cases (show v1 = .int (kf i) from h1)
    cases (show v2 = .int (kf j) from h2)
    obtain ⟨t1, rfl⟩ := r1
    obtain ⟨t2, rfl⟩ := r2
    exact lt_ints q
end
/-! ### min(e, key = lambda x: ..) -/
abbrev LA (α : Type) := List (Addr × Obj) → Addr → Addr → Shared → Hp → α
def srcO (tp : Bool) (xs : List V) : HO := if tp then .tup xs else .lst xs
theorem sqe_src {K : PySem.W.Frag} {H : Hp} {l : Addr} {xs : List V} {tp : Bool} (h : H l = some (srcO tp xs)) : SqE K H l xs tp := by
  cases tp
  · exact SqL.of h
  · exact SqT.of h
theorem noTb_src (tp : Bool) (xs : List V) : noTb (srcO tp xs) = true := by cases tp <;> rfl
def tMinK (κ : Type) (KR : (Nat → κ) → Hp → V → Nat → Prop) (lt : (Nat → κ) → Nat → Nat → Bool) (P : Addr) (lp : Pos) (qual : Str) (t : TA) (js : List Nat) (tb : LA TE) : TE := fun σ H Q => t σ H fun vs H1 =>
  ∃ (l : Addr) (xs : List V) (tp : Bool) (kf : Nat → κ), vs = [.ref l] ∧ H1 l = some (srcO tp xs) ∧ 0 < xs.length ∧ TabR H1 P lp qual ∧
    (∀ i x, xs[i]? = some x → ∀ pins f c s Hc H2, ExtT H1 H2 → tb pins f c s Hc (lSt x js σ) H2 fun kv H3 => KR kf H3 kv i ∧ Ext H2 H3) ∧
    ∀ x H2, xs[bestOf (lt kf) (xs.length - 1)]? = some x → ExtT H1 H2 → TabR H2 P lp qual → Q x H2
section
variable {X : Cx} {κ : Type} {KR : (Nat → κ) → Hp → V → Nat → Prop} {lt : (Nat → κ) → Nat → Nat → Bool} {k : Nat} {c P : Addr} {p pos lp kp : Pos} {e lb : Expr} {t : TA} {params : Arguments} {sc : Scope} {cl : List (Str × Addr)} {x : Str} {fr : List Str} {js : List Nat} {tb : LA TE}
theorem pe_minKey (KY : ∀ σ kf, Keyed X X.A.in1 σ (KR kf) (lt kf)) (hr : Room (k + 2) X.A) (hg : Gl X "min") (hm : X.mg "min" = none) (ha : PA X [e] t) (hcd : X.env.code = .ref c) (hC : PySem.W.codeHdIn X.K c P = true) (hdef : defaultsOf params X.env = ([], [])) (O : LamOk X sc cl x fr js)
    (hbind : ∀ pm cd ct u, bindArgs (PySem.W.kla_fn "<lambda>" (X.env.qual ++ "<lambda>") params lb sc cl pm cd ct) ⟨[u], []⟩ = pure [(x, u)])
    (hb : ∀ pins f c' s Hc, PE (cxLam X pins (x :: fr) (X.env.qual ++ "<lambda>") sc cl f c' X.A.in1 s Hc) lb (tb pins f c' s Hc))
    (he : starEach [e] X.env = [(false, eval e X.env)] := by rfl) :
    PE X (.Call (.Name "min" p) [e] [⟨some "key", .Lambda params lb sc lp, kp⟩] pos) (tMinK κ KR lt P lp (X.env.qual ++ "<lambda>") t js tb) := by
  intro pins s σ H Q I h
  refine wpAny_Call_Name_kw (ld_blt I hg hm (u := .builtin "min") rfl ?_ (by decide) (by decide))
  refine callWith_kw (thn (ha pos pins s σ H _ I h) fun us s1 ⟨vs, H1, I1, r1, q1⟩ => ?_) (by rw [he]; rfl) (by rw [he]; rfl)
  obtain ⟨l, xs, tp, kf, rfl, hl, hne, hT, hturn, hfin⟩ := q1
  obtain ⟨u, rfl, ru⟩ := vals1 r1
  cases ru
  refine kws_cons (lam_make I1 hcd hC hT hdef (closureFor_of O.clos) fun f c' pm ctv H2 s2 I2 hc2 hT2 e2 => kws_nil ?_)
  show wpAny _ _ (call (.builtin "min") [.ref l] [(Str.ofString "key", .ref f)]) _ _ _
  refine mk_min (G := fun H => H l = some (srcO tp xs) ∧ ExtT H1 H ∧ TabR H P lp (X.env.qual ++ "<lambda>") ∧ CodeH H c' (X.env.qual ++ "<lambda>")) (tp := tp) (xs := xs) (KR := KR kf) (lt := lt kf) hr.hd I2 ⟨e2 _ _ hl (noTb_src _ _), e2, hT2, hc2⟩ (KY σ kf)
    ⟨fun e ⟨g1, g2, g3, g4⟩ => ⟨e _ _ g1, g2.tr (Ext.toT e), g3.ext e, g4.mono (Ext.toT e)⟩, fun ⟨g1, _⟩ => sqe_src g1, fun {ps H3 s3 i y v E} hps I3 ⟨g1, g2, g3, g4⟩ hy rv => ?_⟩ hne fun {H3 s3 y v} hy rv I3 ⟨g1, g2, g3, g4⟩ => ?_
  · exact lam_call I3 O I3.ok.frames hr.in1 (hps _ (List.mem_append_right _ (.head _))) g4 rv (hbind _ _ _ _) (hb ps f c' s3 H3) (hturn i y hy ps f c' s3 H3 H3 g2)
  · exact ⟨y, H3, I3.pins_of (fun p hp => I3.pin p (List.mem_append_right _ (List.mem_append_left _ hp))), rv, hfin y H3 hy g2 g3⟩
end
end L2

set_option Elab.async false
set_option linter.all false
set_option maxRecDepth 100000
set_option maxHeartbeats 4000000
namespace L2
open PySem PySem.Spec PyProof.Rows
/-! ### the law's call where tables of codes may grow -/
theorem law_callT {P : Program} {w : World} {K : PySem.W.Frag} {mg mb : Str → Option Value} {CX : CXT} {k : Nat} {fa a : Addr} {fd : FuncData} {x : Str} {sp : Sp} {s₁ : Shared} {vs : List Value} {ns : List Int} {cps : List (Addr × Addr)}
    (KX : K.In s₁.heap) (hns : s₁.heap.Ns mainGlobals mg) (hb : s₁.heap.Ns builtinsNs mb) (hbb : ∀ x : Str, x ≠ "__name__" → mb x = bootBuiltins x) (hlim : s₁.heap.NoLimit)
    (hbm : ∃ bm ob, mg "__builtins__" = some (.ref bm) ∧ bm ≠ builtinsNs ∧ s₁.heap.get? bm = some ob ∧ ob.cls = .type "module" ∧ ob.dict = some builtinsNs ∧ ob.data = .plain) (hg : s₁.gens = #[])
    (ha : s₁.heap.get? a = some { cls := .type "list", data := .seq vs.toArray }) (hi : IntsAre vs ns) (hl : ns.length ≤ sizeLine) (hr : Room k callerA)
    (hK : PySem.W.noTabs K = true) (hT : ∀ q ∈ cps, PySem.W.codeHdIn K q.1 q.2 = true ∧ s₁.heap.get? q.2 = some (PySem.W.tabObj #[]))
    (F : ∀ base : Heap, K.In base → base.Ns mainGlobals mg → FnOk P w K mg base CX k fa fd [x] sp) (hbind : ∀ (s : Shared) (u : Value), BindsTo s fd ⟨[u], []⟩ [(x, u)])
    (hsp : ∀ H : Hp, (∀ q ∈ cps, H q.2 = some (.tbl #[])) → SqL K H a (ns.map V.int) → sp [.ref a] H (fun v _ => v = .bl true) fun _ _ _ => False)
    (hCX : ∀ H e s', CX [] H s₁ (fun _ _ _ => False) e s' → False) :
    codeAny (model P w) callerA (.call (.ref fa) ⟨[.ref a], []⟩) (fun r s' => r = .ok (.ret (.bool true)) ∧ OldK s₁.heap s'.heap ∧ s'.os = s₁.os ∧ AllBare s'.gens) s₁ := by
  have rv := vals_ints hi
  have lenV := hi.length
  have tabN : ∀ q ∈ cps, q.2 ≠ a := fun q hq z => by
    have := (hT q hq).2
    rw [z, ha] at this
    cases this
  have tabK : ∀ q ∈ cps, K.lookup q.2 = none := fun q hq => by
    cases e : K.lookup q.2 with
    | none => rfl
    | some o =>
      have h1 := KX _ _ e
      rw [(hT q hq).2] at h1
      cases h1
      have h2 := List.all_eq_true.mp hK (q.2, _) (PySem.W.mem_of_lookupK e)
      skip; exact absurd (show false = true from h2) Bool.false_ne_true
  let tr : Addr → Option HO := fun b => if b = a then (if K.lookup a = none then some (.frz { cls := .type "list", data := .seq vs.toArray } (.lst (ns.map V.int))) else none) else if b ∈ cps.map (·.2) then some (.tbl #[]) else none
  obtain ⟨H, hH⟩ : ∃ H : Hp, H = tr := ⟨tr, rfl⟩
  have Ha : H a = if K.lookup a = none then some (.frz { cls := .type "list", data := .seq vs.toArray } (.lst (ns.map V.int))) else none := by rw [hH]; exact if_pos rfl
  have Hb : ∀ b, b ≠ a → b ∈ cps.map (·.2) → H b = some (.tbl #[]) := fun b h1 h2 => by rw [hH]; show (if _ then _ else _) = _; rw [if_neg h1, if_pos h2]
  have Hn : ∀ b, b ≠ a → b ∉ cps.map (·.2) → H b = none := fun b h1 h2 => by rw [hH]; show (if _ then _ else _) = _; rw [if_neg h1, if_neg h2]
  have each : ∀ b u, H b = some u → (b = a ∧ K.lookup a = none ∧ u = .frz { cls := .type "list", data := .seq vs.toArray } (.lst (ns.map V.int))) ∨ (u = .tbl #[] ∧ ∃ q ∈ cps, q.2 = b) := fun b u e => by
    by_cases h1 : b = a
    · subst h1
      rw [Ha] at e
      by_cases h2 : K.lookup b = none
      · rw [if_pos h2] at e; cases e; exact .inl ⟨rfl, h2, rfl⟩
      · rw [if_neg h2] at e; cases e
    · by_cases h2 : b ∈ cps.map (·.2)
      · rw [Hb b h1 h2] at e
        cases e
        obtain ⟨q, hq, rfl⟩ := List.mem_map.mp h2
        exact .inr ⟨rfl, q, hq, rfl⟩
      · rw [Hn b h1 h2] at e; cases e
  have kn : ∀ b u, H b = some u → K.lookup b = none := fun b u e => by
    rcases each b u e with ⟨rfl, h, _⟩ | ⟨_, q, hq, rfl⟩
    · exact h
    · exact tabK q hq
  have hok : HOk P w H s₁.heap := fun b u e => by
    rcases each b u e with ⟨rfl, h, rfl⟩ | ⟨rfl, q, hq, rfl⟩
    · exact ⟨ha, by rw [List.length_map]; exact hl, vs, _, rv, ha⟩
    · exact (hT q hq).2
  have hS : SqL K H a (ns.map V.int) := by
    cases hk : K.lookup a with
    | some o =>
      have e := KX a o hk
      rw [ha] at e
      cases e
      exact .inr ⟨_, vs.toArray, _, hk, rfl, rfl, rfl, by rw [List.size_toArray, lenV]; exact hl, by simpa using rv⟩
    | none => exact .inl (.inr ⟨{ cls := .type "list", data := .seq vs.toArray }, by rw [Ha, if_pos hk]⟩)
  have base_of : ∀ {b : Addr} {o : Obj}, s₁.heap.get? b = some o → H b = none → (hidT s₁.heap H).get? b = some o := fun e n => hidT_get e n
  have noA : ∀ {b : Addr} {o : Obj}, s₁.heap.get? b = some o → (∀ its n, o.data ≠ .seq its n) → (∀ fs, o.data ≠ .fields fs) → H b = none := fun {b o} e d1 d2 => by
    cases q : H b with
    | none => rfl
    | some u =>
      rcases each b u q with ⟨rfl, _, _⟩ | ⟨_, q', hq, rfl⟩
      · rw [ha] at e; cases e; exact (d1 _ _ rfl).elim
      · rw [(hT q' hq).2] at e; cases e; exact (d2 _ rfl).elim
  have nsK : ∀ {b : Addr} {m : Str → Option Value}, s₁.heap.Ns b m → (hidT s₁.heap H).Ns b m := fun {b m} ⟨o, es, ep, e, d, r⟩ => ⟨o, es, ep, base_of e (noA e (fun _ _ z => by rw [d] at z; cases z) fun _ z => by rw [d] at z; cases z), d, r⟩
  have hKb : K.In (hidT s₁.heap H) := fun b o e => base_of (KX b o e) (by
    cases q : H b with
    | none => rfl
    | some u => rw [kn b u q] at e; cases e)
  have hM : Mod K mg (hidT s₁.heap H) := ⟨hKb, nsK hns, ⟨mb, nsK hb, hbb⟩, let ⟨mc, h1, h2⟩ := hlim; ⟨mc, nsK h1, h2⟩, by
    obtain ⟨bm, ob, b1, b2, b3, b4, b5, b6⟩ := hbm
    exact ⟨bm, ob, b1, b2, base_of b3 (noA b3 (fun _ _ z => by rw [b6] at z; cases z) fun _ z => by rw [b6] at z; cases z), b4, b5, b6⟩⟩
  have e0 : Env0 P w K mg (hidT s₁.heap H) callerA [] s₁ H := ⟨rfl, hM, fun b o e => of_hidT e, Nat.le_of_eq (hidT_size _ _), trivial, fun b hb => absurd (show b ∈ ([] : List Addr) from hb) (by simp), hok, .of_eq hg⟩
  refine codeAny_mono ((F _ hKb (nsK hns)).run callerA [] s₁ H ⟨[.ref a], []⟩ [.ref a] [.ref a] _ _ hr e0 (hbind s₁ (.ref a)) (.cons rfl .nil) (hsp H (fun q hq => Hb _ (tabN q hq) (List.mem_map.mpr ⟨q, hq, rfl⟩)) hS)) fun r s' h => ?_
  cases r with
  | error e => exact (hCX H e s' h).elim
  | ok fl =>
    cases fl with
    | next => exact False.elim h
    | brk => exact False.elim h
    | cont => exact False.elim h
    | ret u =>
      obtain ⟨v, H', os, bare, un, hok', r', q⟩ := h
      have q' : v = .bl true := q
      subst q'
      obtain rfl : u = Value.bool true := r'
      have got : ∀ b o, s₁.heap.get? b = some o → s'.heap.get? b = some o ∨ (∃ q ∈ cps, q.2 = b ∧ ∃ more, s'.heap.get? b = some { cls := .none, data := .fields (#[] ++ more) }) := fun b o e => by
        cases q : H b with
        | none => exact .inl (un.keep b o e q (by intro z; exact absurd (show b ∈ ([] : List Addr) from z) (by simp)) (by simp))
        | some u =>
          rcases each b u q with ⟨rfl, _, rfl⟩ | ⟨rfl, q', hq, rfl⟩
          · have z2 := un.frzs b _ _ q
            obtain ⟨e1, _⟩ := hok b _ q
            obtain ⟨e2, _⟩ := hok' b _ z2
            rw [e] at e1; cases e1
            exact .inl e2
          · obtain ⟨more, z2⟩ := un.tbls _ _ q
            exact .inr ⟨q', hq, rfl, more, hok' _ _ z2⟩
      refine ⟨rfl, ⟨fun b o e => ?_, fun b o e => ?_⟩, os, bare⟩
      · rcases got b o e with z | ⟨q', hq, rfl, more, z⟩
        · exact .inl z
        · obtain ⟨h1, h2⟩ := hT q' hq
          rw [h2] at e
          cases e
          obtain ⟨oc, vc, file, tf, flags, tg, inF, text, tt, c1, c2, c3, c4, _⟩ := PySem.W.codeHd_of_K KX h1
          exact .inr (.inl ⟨⟨q'.1, oc, vc, c1, c2, c3, c4⟩, rfl, #[], more, rfl, z⟩)
      · rcases got b o e with z | ⟨_, _, _, _, z⟩
        · exact ⟨_, z⟩
        · exact ⟨_, z⟩
theorem walk_ofT {l : PySem.W.OpenLaw} {n k : Nat} {q : Program} {loose : List Str} {XP : (Str → Option Value) → Heap → Prop} {YP : World → Heap → Prop} {d : DefRec} {K : Params → PySem.W.Frag} {CX : World → CXT} {x : Str} {ts : List Addr}
    (hn : l.most = some n) (hn2 : n ≤ sizeLine) (hdf : d.params.defaults = []) (hr : Room k callerA)
    (hY : ∀ (w : World) (h : Heap), YP w h → (K w.params).In h) (hY2 : ∀ (w : World) (h : Heap), YP w h → ∀ P ∈ ts, h.get? P = some (PySem.W.tabObj #[]))
    (F : ∀ (w : World) (mg : Str → Option Value) (fa : Addr) (h : Heap), (K w.params).In h → h.Ns mainGlobals mg → mg d.name = some (.ref fa) →
      ∃ (fd : FuncData) (cps : List (Addr × Addr)) (sp : Sp), PySem.W.noTabs (K w.params) = true ∧ (∀ q ∈ cps, PySem.W.codeHdIn (K w.params) q.1 q.2 = true ∧ ts.contains q.2 = true) ∧ (∀ (s : Shared) (u : Value), BindsTo s fd ⟨[u], []⟩ [(x, u)]) ∧
        (∀ (H : Hp) (a : Addr) (ns : List Int), ns.length ≤ n → (∀ z ∈ ns, ib z ≤ 1048576) → (∀ q ∈ cps, H q.2 = some (.tbl #[])) → SqL (K w.params) H a (ns.map V.int) → sp [.ref a] H (fun v _ => v = .bl true) fun _ _ _ => False) ∧
        ∀ base : Heap, (K w.params).In base → base.Ns mainGlobals mg → FnOk l.prog w (K w.params) mg base (CX w) k fa fd [x] sp)
    (hCX : ∀ (w : World) (H : Hp) (s : Shared) (e : Value) (s' : Shared), CX w [] H s (fun _ _ _ => False) e s' → False) :
    PySem.W.WalkO q loose XP YP l.row.toRowW d [] (fun f vs => PySem.call f vs) := by
  refine attach_callB hn hdf fun w s₀ s₁ mg mb fa o pm cd doc a vs ns G Y ho hd hcd hmg hobj hints hlen hbit hg => ?_
  have KX := hY w _ Y
  obtain ⟨fd, cps, sp, hK, hT, hb, hsp, hF⟩ := F w mg fa _ KX G.T.g hmg
  exact law_callT KX G.T.g G.T.b G.T.builtins G.T.nolimit G.T.bmain hg hobj hints (Nat.le_trans hlen hn2) hr hK (fun q hq => ⟨(hT q hq).1, hY2 w _ Y _ (by have := (hT q hq).2; simpa using this)⟩) hF hb (fun H h1 hS => hsp H a ns hlen hbit h1 hS) fun H e s' => hCX w H s₁ e s'
end L2

set_option Elab.async false
set_option linter.all false
set_option maxRecDepth 100000
set_option maxHeartbeats 4000000
namespace L2
open PySem PySem.Spec PyProof.Rows
/-! ### a def in which a lambda is made -/
section
variable {P : Program} {w : World} {K : PySem.W.Frag} {mg : Str → Option Value} {base : Heap}
theorem Fun.okL {x qual : Str} {st : Stmt} {f : Addr} {fd : FuncData} {N ps : List Str} {k : Nat} {sp : Sp} {c : Addr} (F : Fun K x qual st f fd) (hc : fd.code = .ref c) (S : FnScope N ps (defScope st)) (len : ∀ vs H Q E, sp vs H Q E → vs.length = ps.length)
    (hbody : ∀ (A : Around) (outer : List Env) (s : Shared) (H : Hp) (vs : List V) (Q : VK) (E : XK), Room k (A.deeper (envOfC qual (defScope st) s.heap.objs.size f (.ref c))) → sp vs H Q E →
      ∃ t, PSs (cxOf (CXU P w) P w K mg base N qual (defScope st) f (.ref c) A outer s H E).nox (defBody st) t ∧ t { nx := fun _ H' => Q .non H', rt := Q } (start N vs) H) : FnOk P w K mg base (CXU P w) (k + 1) f fd ps sp := by
  obtain ⟨oc, od, kV, doc, pm, an, cdv, ct, osl, rfl, lk, hcd⟩ := F.ex
  have e : cdv = .ref c := hc
  subst e
  refine fn_of lk hcd S len fun A outer s H vs Q E hr hsp => ?_
  obtain ⟨t, h, q⟩ := hbody A outer s H vs Q E hr hsp
  exact ⟨t, h.nox, q⟩
theorem Room.lam {j k : Nat} {A : Around} {env : Env} (h : j + 2 ≤ k) (r : Room k A) : Room j (A.in1.deeper env) := (r.mono h).in1.deeper env
end
/-! ### isinstance(x, B), x of another class -/
structure NoC (K : PySem.W.Frag) (C B : Addr) : Prop where
  ha : PySem.W.findIn K (.ref C) "__class__" = some (some (.builtin "object.__class__"))
  hn : PySem.W.specialIn K (.builtin "object.__class__") "__get__" = some (some (.builtin "getset_descriptor.__get__"))
  htk : PySem.W.takesIn K (.builtin "object.__class__") = some true
  hm : PySem.W.mroIn K C (.type "object") = some true
  ki : PySem.W.kitOne K (.ref C) (.ref B) = some false
/-! ### the reading of min by a key -/
/-- all but x and tables is kept -/
def ButT (x : Addr) (H H' : Hp) : Prop := ∀ b o, b ≠ x → H b = some o → noTb o = true → H' b = some o
theorem ExtT.toBut {x : Addr} {H H1 H2 : Hp} (a : ExtT H H1) (b : But x H1 H2) : ButT x H H2 := fun y o n h t => b y o n (a y o h t)
theorem ExtT.but {x : Addr} {H H1 H2 : Hp} (a : ExtT H H1) (b : ButT x H1 H2) (hn : H x = none) : ExtT H H2 := fun y o h t => b y o (ne_of_none h hn) (a y o h t) t
theorem ExtT.ext {H H1 H2 : Hp} (a : ExtT H H1) (b : Ext H1 H2) : ExtT H H2 := a.tr (Ext.toT b)
theorem ExtT.seqL {K : PySem.W.Frag} {H H' : Hp} {p : Addr} {xs : List V} (e : ExtT H H') (h : SqL K H p xs) : SqL K H' p xs := by
  rcases h with (h | ⟨o, h⟩) | h
  · exact .inl (.inl (e _ _ h rfl))
  · exact .inl (.inr ⟨o, e _ _ h rfl⟩)
  · exact .inr h
end L2

set_option Elab.async false
set_option linter.all false
set_option maxRecDepth 100000
set_option maxHeartbeats 4000000
namespace L2
open PySem PySem.Spec PyProof.Rows
/-! ### t.index(k) upon a tuple of ints -/
section
variable {X : Cx}
def rTIxI : V → List V → Hp → VK → Prop := fun x vs H Q => ∃ (p : Addr) (ns : List Int) (k : Int), x = .ref p ∧ vs = [.int k] ∧ H p = some (.tup (ns.map V.int)) ∧ k ∈ ns ∧ ns.length ≤ 1000000 ∧ Q (.int (ns.idxOf k : Nat)) H
theorem mt_tindexI : MtM X "tuple.index" rTIxI := by
  skip; intro pins s σ H x vs v us Q I rx rv h
  obtain ⟨p, ns, k, rfl, rfl, hp, hk, hz, q⟩ := h
  cases rx
  obtain ⟨u, rfl, t, rfl⟩ := rv.one
  obtain ⟨_, its, r, it, _⟩ := (show ObjOk X.prog X.w H s.heap p (.tup (ns.map V.int)) from I.hok p _ hp)
  have hi : IntsAre its ns := intsAre_of r
  have hn := hi.length
  skip; have hj : ns.idxOf k < ns.length := List.idxOf_lt_length_iff.mpr hk
  refine call_meets F.slot_tuple_index it.typeIs F.entry_tuple_index (F.args_tuple_index_2 _ _) (tup_index p its.toArray (.int k t) (isInt k) (ns.idxOf k) (by rw [List.size_toArray]; omega) ?_ ?_) ⟨it, fun y hy => ?_, ?_⟩
  · refine (isInt_at k hi _ (by omega) hj).trans ?_
    rw [List.getElem_idxOf hj]
    exact beq_self_eq_true k
  · intro m hm h2
    rw [List.size_toArray] at hm
    refine (isInt_at k hi m (by omega) (by omega)).trans ?_
    exact List.not_of_lt_findIdx h2
  · exact (eq_isInt k t hi y (by simpa using hy)).at _ _
  · exact ⟨.int (ns.idxOf k : Nat), H, I.tok _, ⟨_, rfl⟩, q⟩
end
theorem r_tindexI {H : Hp} {Q : VK} {p : Addr} {ns : List Int} {k : Int} (h : H p = some (.tup (ns.map V.int))) (hk : k ∈ ns) (hz : ns.length ≤ 1000000) (q : Q (.int (ns.idxOf k : Nat)) H) : rTIxI (.ref p) [.int k] H Q := ⟨p, ns, k, rfl, rfl, h, hk, hz, q⟩
/-! ### the best is the least -/
theorem bestOf_min {lt : Nat → Nat → Bool} (irr : ∀ i, lt i i = false) (tr : ∀ i j k, lt i j = true → lt j k = true → lt i k = true) : ∀ n i, i ≤ n → lt i (bestOf lt n) = false
  | 0, i, h => by rw [show i = 0 by omega]; exact irr 0
  | n + 1, i, h => by
    show lt i (if lt (n + 1) (bestOf lt n) = true then n + 1 else bestOf lt n) = false
    by_cases c : lt (n + 1) (bestOf lt n) = true
    · rw [if_pos c]
      by_cases e : i = n + 1
      · rw [e]; exact irr _
      · cases d : lt i (n + 1) with
        | false => rfl
        | true =>
          have := bestOf_min irr tr n i (by omega)
          rw [tr _ _ _ d c] at this
          cases this
    · rw [if_neg c]
      by_cases e : i = n + 1
      · rw [e]; simpa using c
      · exact bestOf_min irr tr n i (by omega)
theorem lti_irr (kf : Nat → Int) (i : Nat) : lti kf i i = false := decide_eq_false (by omega)
theorem lti_tr (kf : Nat → Int) (i j k : Nat) (h1 : lti kf i j = true) (h2 : lti kf j k = true) : lti kf i k = true := by
  have h1 := of_decide_eq_true h1
  have h2 := of_decide_eq_true h2
  skip; exact decide_eq_true (by omega)
end L2

set_option Elab.async false
set_option linter.all false
set_option maxRecDepth 100000
set_option maxHeartbeats 4000000
namespace L2
open PySem PySem.Spec PyProof.Rows
/-! ### a lambda handed on, and called by the name it was handed on to -/
section
variable {X : Cx} {pins : List (Addr × Obj)} {σ : St} {H : Hp} {s : Shared}
end
/-- a lambda's function stands here; it has no names of others -/
def LamH (H : Hp) (f : Addr) (qual : Str) (params : Arguments) (lb : Expr) (sc : Scope) : Prop := ∃ (c : Addr) (pm ctv : Value), H f = some (.frz (PySem.W.kla_obj "<lambda>" qual params lb sc [] pm c ctv) (.own f)) ∧ CodeH H c qual
theorem LamH.mono {H H' : Hp} {f : Addr} {qual : Str} {params : Arguments} {lb : Expr} {sc : Scope} (e : ExtT H H') (h : LamH H f qual params lb sc) : LamH H' f qual params lb sc := by
  obtain ⟨c, pm, ctv, h1, h2⟩ := h
  exact ⟨c, pm, ctv, e _ _ h1 rfl, h2.mono e⟩
theorem LamH.but {H H' : Hp} {f r C dx : Addr} {fs : List (Str × V)} {qual : Str} {params : Arguments} {lb : Expr} {sc : Scope} (hr : H r = some (.ins C dx fs)) (e : But r H H') (h : LamH H f qual params lb sc) : LamH H' f qual params lb sc := by
  obtain ⟨c, pm, ctv, h1, oc, vs, t, k, k2⟩ := h
  exact ⟨c, pm, ctv, e _ _ (fun z => by rw [z, hr] at h1; cases h1) h1, oc, vs, t, e _ _ (fun z => by rw [z, hr] at k; cases k) k, k2⟩
theorem LamH.butL {H H' : Hp} {f r : Addr} {xs : List V} {qual : Str} {params : Arguments} {lb : Expr} {sc : Scope} (hr : H r = some (.lst xs)) (e : But r H H') (h : LamH H f qual params lb sc) : LamH H' f qual params lb sc := by
  obtain ⟨c, pm, ctv, h1, oc, vs, t, k, k2⟩ := h
  exact ⟨c, pm, ctv, e _ _ (fun z => by rw [z, hr] at h1; cases h1) h1, oc, vs, t, e _ _ (fun z => by rw [z, hr] at k; cases k) k, k2⟩
def tLam (P : Addr) (lp : Pos) (qual : Str) (params : Arguments) (lb : Expr) (sc : Scope) : TE := fun _ H Q => TabR H P lp qual ∧ ∀ f H', LamH H' f qual params lb sc → TabR H' P lp qual → ExtT H H' → Q (.ref f) H'
def tCallV (i : Nat) (qual : Str) (params : Arguments) (lb : Expr) (sc : Scope) (t : TA) (tb : LA TE) : TE := fun σ H Q => ∃ f, σ[i]? = some (some (.ref f)) ∧ LamH H f qual params lb sc ∧ t σ H fun vs H1 => ∃ v, vs = [v] ∧ LamH H1 f qual params lb sc ∧ ∀ pins f' c s Hc, tb pins f' c s Hc (lSt v [] σ) H1 Q
section
variable {X : Cx} {k i : Nat} {c P : Addr} {p pos lp : Pos} {e lb : Expr} {t : TA} {params : Arguments} {sc : Scope} {x y qual : Str} {tb : LA TE}
end
/-! a lambda in the text -/
def stVal : Stmt → Expr
  | .Assign _ v _ => v
  | .Return (some v) _ => v
  | _ => .Constant .none 0 ⟨0, 0, 0, 0⟩
def callArg (i : Nat) : Expr → Expr
  | .Call _ as _ _ => as.getD i (.Constant .none 0 ⟨0, 0, 0, 0⟩)
  | _ => .Constant .none 0 ⟨0, 0, 0, 0⟩
def lamA : Expr → Arguments
  | .Lambda p _ _ _ => p
  | _ => { posonlyargs := [], args := [], vararg := none, kwonlyargs := [], kw_defaults := [], kwarg := none, defaults := [] }
def lamB : Expr → Expr
  | .Lambda _ b _ _ => b
  | e => e
def lamS : Expr → Scope
  | .Lambda _ _ s _ => s
  | _ => { kind := .function, names := [], isGenerator := false, isCoroutine := false }
end L2

set_option Elab.async false
set_option linter.all false
set_option maxRecDepth 100000
set_option maxHeartbeats 4000000
namespace L2
open PySem PySem.Spec PyProof.Rows
/-! ### [.. for sign in text if ..]; sign in text -/
section
variable {X : Cx}
def rInS : R2 := fun x y H Q => ∃ a b : Str, x = .str a ∧ y = .str b ∧ Q (.bl (!(Builtin.Str.occurrences b a 0 b.length 1).isEmpty)) H
end
section
variable {ts : List TT} {te : TE} {acc : Addr} {H1 : Hp} {R : Hp → Prop} {fr : St}
end
end L2

namespace Q
open PySem PySem.Spec PyProof.Rows L2
local macro_rules | `(tactic| walk_at "side") => `(tactic| first | exact ⟨by decide, by decide, by decide⟩ | exact Or.inl ⟨by omega, by omega⟩ | exact Or.inr (Or.inl ⟨by omega, by omega⟩) | exact ⟨by omega, by omega⟩ | omega | decide)
local macro_rules | `(tactic| walk_at "hp") => `(tactic| first | assumption | ((refine up (H := ?kH) ?ke ?kf); (case ke => assumption); (case kf => walk_at "hp")))
local macro_rules | `(tactic| walk_at "vs") => `(tactic| first
  | ((with_reducible refine r_var (v := ?kv) ?kh ?_); (case kh => exact rfl))
  | with_reducible refine r_op ?_
  | with_reducible refine r_c ?_
  | with_reducible refine r_seq ?_
  | with_reducible refine r_asg ?_
  | with_reducible refine r_gname ?_
  | with_reducible refine r_if ?_
  | with_reducible refine r_test ?_
  | with_reducible refine r_bl ?_
  | with_reducible refine r_I0 ?_
  | with_reducible refine r_addV ?_
  | with_reducible refine r_addWI ?_
  | with_reducible refine r_leWI ?_
  | with_reducible refine r_leWS ?_
  | ((with_reducible refine r_mulWI ?kc ?_); (case kc => walk_at "side"))
  | with_reducible refine r_pow18 ?_
  | with_reducible refine r_pow6 ?_
  | with_reducible refine r_pow9 ?_
  | with_reducible refine r_powM ?_
  | ((with_reducible refine r_I ?kc ?_); (case kc => walk_at "side"))
  | with_reducible refine r_eqUI ?_
  | with_reducible refine r_neI ?_
  | with_reducible refine r_neUI ?_
  | with_reducible refine r_ret ?_
  | with_reducible refine r_next ?_
  | with_reducible refine r_drop ?_
  | with_reducible refine r_not ?_
  | with_reducible refine r_truth ?_
  | with_reducible refine r_blT ?_
  | with_reducible refine r_and ?_
  | with_reducible refine r_or ?_
  | with_reducible refine r_andV ?_
  | with_reducible refine r_orV ?_
  | with_reducible refine r_notV ?_
  | with_reducible refine r_ifE ?_
  | with_reducible refine r_chain ?_
  | with_reducible refine r_un ?_
  | with_reducible refine r_rU ?_
  | with_reducible refine r_call ?_
  | with_reducible refine r_cb ?_
  | with_reducible refine r_cons ?_
  | with_reducible refine r_nil ?_
  | with_reducible refine r_meth ?_
  | ((with_reducible refine r_self (dx := ?kd) (fs := ?kf) ?kh ?kl ?_); (case kh => walk_at "hp"); (case kl => exact rfl))
  | with_reducible refine r_cmeth ?_
  | with_reducible refine r_cself ?_
  | with_reducible refine r_make ?_
  | with_reducible refine r_fldK ?_
  | ((with_reducible refine r_fat (C := ?kC) (dx := ?kd) (fs := ?kf) (v := ?kv) ?kh ?kc ?kn ?kl ?_); (case kh => walk_at "hp"); (case kc => assumption); (case kn => assumption); (case kl => exact rfl))
  | with_reducible refine r_sfld ?_
  | with_reducible refine r_tup ?_
  | with_reducible refine r_lst ?_
  | ((with_reducible refine r_newT ?kc ?_); (case kc => exact rfl))
  | ((with_reducible refine r_newL ?kc ?_); (case kc => exact rfl))
  | with_reducible refine r_dnew ?_
  | with_reducible refine r_retN ?_
  | with_reducible refine r_for ?_
  | with_reducible refine r_rng1 ?_
  | with_reducible refine r_rng2 ?_
  | with_reducible refine r_by2 ?_
  | with_reducible refine r_zip2 ?_
  | with_reducible refine r_enum ?_
  | with_reducible refine r_enum1 ?_
  | with_reducible refine r_comp ?_
  | with_reducible refine r_tests0 ?_
  | with_reducible refine r_tests1 ?_
  | with_reducible refine r_gsub ?_
  | with_reducible refine r_sl ?_
  | with_reducible refine r_nopart ?_
  | with_reducible refine r_part ?_
  | with_reducible refine r_partI ?_
  | with_reducible refine r_intT ?_
  | with_reducible refine r_ilist ?_
  | with_reducible refine r_itup ?_
  | with_reducible refine r_bm ?_
  | with_reducible refine r_bm0 ?_
  | ((with_reducible refine r_tyl (xs := ?kx) ?kh ?_); (case kh => walk_at "hp"))
  | with_reducible refine r_tm ?_
  | ((with_reducible refine r_tyT (xs := ?kx) ?kh ?_); (case kh => walk_at "hp"))
  | with_reducible refine r_sm ?_
  | with_reducible refine r_dget ?_
  | with_reducible refine r_dput ?_
  | with_reducible refine r_tyS ?_
  | with_reducible refine r_istr ?_
  | with_reducible refine r_gnil ?_
  | with_reducible refine r_gcons ?_
  | ((with_reducible refine r_gtup (xs := ?kx) ?kh ?kl ?_); (case kh => walk_at "hp"); (case kl => exact rfl))
  | with_reducible refine r_max ?_
  | with_reducible refine r_min ?_
  | with_reducible refine r_abs ?_
  | with_reducible refine r_intI ?_
  | with_reducible refine r_intB ?_
  | with_reducible refine r_isN ?_
  | with_reducible refine r_notN ?_
  | with_reducible refine r_try ?_
  | with_reducible refine r_gone ?_
  | with_reducible refine r_efldK ?_
  | with_reducible refine r_terr ?_
  | ((with_reducible refine iteTc ?kh ?_); (case kh => exact rfl))
  | ((with_reducible refine iteFc ?kh ?_); (case kh => exact rfl)))
def top (i : Nat) : Stmt := PySem.Challenge.pw_lateknow_k71_enemy_of_both.main.body.getD i (.Pass ⟨0, 0, 0, 0⟩)
abbrev s_law : Stmt := top 38
abbrev s_law_same : Stmt := top 29
abbrev s_law_whole : Stmt := top 28
abbrev s_law_all_same : Stmt := top 30
abbrev s_enemy_of_both : Stmt := top 24
abbrev s_way_that_leaves : Stmt := top 23
abbrev s_lazy_wishes : Stmt := top 22
abbrev s_Rule_state : Stmt := inClass (top 10) 4
abbrev s_Rule_pay : Stmt := inClass (top 10) 5
abbrev s_Rule_learn : Stmt := inClass (top 10) 3
abbrev s_Rule_price_to : Stmt := inClass (top 10) 2
abbrev s_Line_price : Stmt := inClass (top 18) 3
abbrev s_ways_between : Stmt := top 15
abbrev s_Both_target : Stmt := inClass (top 19) 1
abbrev s_Line_is_wish : Stmt := inClass (top 18) 2
abbrev s_is_place : Stmt := top 7
abbrev s_is_whole_number : Stmt := top 6
abbrev s_lacking : Stmt := top 21
abbrev s_Both_init : Stmt := inClass (top 19) 0
abbrev s_Rule_init : Stmt := inClass (top 10) 0
abbrev s_Line_is_state : Stmt := inClass (top 18) 1
abbrev s_line_of : Stmt := top 17
abbrev s_Line_init : Stmt := inClass (top 18) 0
abbrev s_way_price : Stmt := top 13
abbrev s_law_good : Stmt := top 37
abbrev s_law_plan : Stmt := top 36
abbrev s_law_far : Stmt := top 34
abbrev s_law_is_state : Stmt := top 32
abbrev s_law_pay : Stmt := top 35
abbrev s_law_gone : Stmt := top 33
abbrev s_law_many : Stmt := top 31
abbrev s_law_mixed : Stmt := top 27
abbrev s_law_cell : Stmt := top 26
structure Adr where
  f_law : Addr
  d_law : FuncData
  f_law_same : Addr
  d_law_same : FuncData
  f_law_whole : Addr
  d_law_whole : FuncData
  f_law_all_same : Addr
  d_law_all_same : FuncData
  f_enemy_of_both : Addr
  d_enemy_of_both : FuncData
  ck_enemy_of_both : Addr
  tb_enemy_of_both : Addr
  f_way_that_leaves : Addr
  d_way_that_leaves : FuncData
  f_lazy_wishes : Addr
  d_lazy_wishes : FuncData
  f_Rule_state : Addr
  d_Rule_state : FuncData
  f_Rule_pay : Addr
  d_Rule_pay : FuncData
  f_Rule_learn : Addr
  d_Rule_learn : FuncData
  f_Rule_price_to : Addr
  d_Rule_price_to : FuncData
  f_Line_price : Addr
  d_Line_price : FuncData
  f_ways_between : Addr
  d_ways_between : FuncData
  f_Both_target : Addr
  d_Both_target : FuncData
  f_Line_is_wish : Addr
  d_Line_is_wish : FuncData
  f_is_place : Addr
  d_is_place : FuncData
  f_is_whole_number : Addr
  d_is_whole_number : FuncData
  f_lacking : Addr
  d_lacking : FuncData
  f_Both_init : Addr
  d_Both_init : FuncData
  f_Rule_init : Addr
  d_Rule_init : FuncData
  f_Line_is_state : Addr
  d_Line_is_state : FuncData
  f_line_of : Addr
  d_line_of : FuncData
  f_Line_init : Addr
  d_Line_init : FuncData
  f_way_price : Addr
  d_way_price : FuncData
  f_law_good : Addr
  d_law_good : FuncData
  f_law_plan : Addr
  d_law_plan : FuncData
  f_law_far : Addr
  d_law_far : FuncData
  f_law_is_state : Addr
  d_law_is_state : FuncData
  f_law_pay : Addr
  d_law_pay : FuncData
  f_law_gone : Addr
  d_law_gone : FuncData
  f_law_many : Addr
  d_law_many : FuncData
  f_law_mixed : Addr
  d_law_mixed : FuncData
  f_law_cell : Addr
  d_law_cell : FuncData
  c_Rule : Addr
  c_Bound : Addr
  c_Line : Addr
  c_Both : Addr
structure Txt (K : PySem.W.Frag) (mg : Str → Option Value) (a : Adr) : Prop where
  F_law : Fun K "law" "law" s_law a.f_law a.d_law
  b_law : Binds K a.d_law ["_law_script"] []
  m_law : mg "law" = some (.ref a.f_law)
  F_law_same : Fun K "_law_same" "_law_same" s_law_same a.f_law_same a.d_law_same
  b_law_same : Binds K a.d_law_same ["_law_found", "_law_due"] []
  m_law_same : mg "_law_same" = some (.ref a.f_law_same)
  F_law_whole : Fun K "_law_whole" "_law_whole" s_law_whole a.f_law_whole a.d_law_whole
  b_law_whole : Binds K a.d_law_whole ["_law_found"] []
  m_law_whole : mg "_law_whole" = some (.ref a.f_law_whole)
  F_law_all_same : Fun K "_law_all_same" "_law_all_same" s_law_all_same a.f_law_all_same a.d_law_all_same
  b_law_all_same : Binds K a.d_law_all_same ["_law_found", "_law_due"] []
  m_law_all_same : mg "_law_all_same" = some (.ref a.f_law_all_same)
  F_enemy_of_both : Fun K "enemy_of_both" "enemy_of_both" s_enemy_of_both a.f_enemy_of_both a.d_enemy_of_both
  b_enemy_of_both : Binds K a.d_enemy_of_both ["k", "gap", "many"] []
  m_enemy_of_both : mg "enemy_of_both" = some (.ref a.f_enemy_of_both)
  ck_enemy_of_both : a.d_enemy_of_both.code = .ref a.ck_enemy_of_both
  hd_enemy_of_both : PySem.W.codeHdIn K a.ck_enemy_of_both a.tb_enemy_of_both = true
  F_way_that_leaves : Fun K "way_that_leaves" "way_that_leaves" s_way_that_leaves a.f_way_that_leaves a.d_way_that_leaves
  b_way_that_leaves : Binds K a.d_way_that_leaves ["place", "places", "wishes"] []
  m_way_that_leaves : mg "way_that_leaves" = some (.ref a.f_way_that_leaves)
  F_lazy_wishes : Fun K "lazy_wishes" "lazy_wishes" s_lazy_wishes a.f_lazy_wishes a.d_lazy_wishes
  b_lazy_wishes : Binds K a.d_lazy_wishes ["rule", "places", "many"] []
  m_lazy_wishes : mg "lazy_wishes" = some (.ref a.f_lazy_wishes)
  F_Rule_state : Fun K "state" "Rule.state" s_Rule_state a.f_Rule_state a.d_Rule_state
  b_Rule_state : Binds K a.d_Rule_state ["self"] []
  F_Rule_pay : Fun K "pay" "Rule.pay" s_Rule_pay a.f_Rule_pay a.d_Rule_pay
  b_Rule_pay : Binds K a.d_Rule_pay ["self", "wish"] []
  F_Rule_learn : Fun K "learn" "Rule.learn" s_Rule_learn a.f_Rule_learn a.d_Rule_learn
  b_Rule_learn : Binds K a.d_Rule_learn ["self", "wish"] []
  F_Rule_price_to : Fun K "price_to" "Rule.price_to" s_Rule_price_to a.f_Rule_price_to a.d_Rule_price_to
  b_Rule_price_to : Binds K a.d_Rule_price_to ["self", "wish", "after"] []
  F_Line_price : Fun K "price" "Line.price" s_Line_price a.f_Line_price a.d_Line_price
  b_Line_price : Binds K a.d_Line_price ["self", "before", "wish", "after"] []
  F_ways_between : Fun K "ways_between" "ways_between" s_ways_between a.f_ways_between a.d_ways_between
  b_ways_between : Binds K a.d_ways_between ["before", "after"] []
  m_ways_between : mg "ways_between" = some (.ref a.f_ways_between)
  F_Both_target : Fun K "target" "Both.target" s_Both_target a.f_Both_target a.d_Both_target
  b_Both_target : Binds K a.d_Both_target ["self", "wish"] []
  F_Line_is_wish : Fun K "is_wish" "Line.is_wish" s_Line_is_wish a.f_Line_is_wish a.d_Line_is_wish
  b_Line_is_wish : Binds K a.d_Line_is_wish ["self", "thing"] []
  F_is_place : Fun K "is_place" "is_place" s_is_place a.f_is_place a.d_is_place
  b_is_place : Binds K a.d_is_place ["thing"] []
  m_is_place : mg "is_place" = some (.ref a.f_is_place)
  F_is_whole_number : Fun K "is_whole_number" "is_whole_number" s_is_whole_number a.f_is_whole_number a.d_is_whole_number
  b_is_whole_number : Binds K a.d_is_whole_number ["thing"] []
  m_is_whole_number : mg "is_whole_number" = some (.ref a.f_is_whole_number)
  F_lacking : Fun K "lacking" "lacking" s_lacking a.f_lacking a.d_lacking
  b_lacking : Binds K a.d_lacking ["things", "had"] []
  m_lacking : mg "lacking" = some (.ref a.f_lacking)
  F_Both_init : Fun K "__init__" "Both.__init__" s_Both_init a.f_Both_init a.d_Both_init
  b_Both_init : Binds K a.d_Both_init ["self", "start"] []
  F_Rule_init : Fun K "__init__" "Rule.__init__" s_Rule_init a.f_Rule_init a.d_Rule_init
  b_Rule_init : Binds K a.d_Rule_init ["self", "world", "start"] []
  F_Line_is_state : Fun K "is_state" "Line.is_state" s_Line_is_state a.f_Line_is_state a.d_Line_is_state
  b_Line_is_state : Binds K a.d_Line_is_state ["self", "thing"] []
  F_line_of : Fun K "line_of" "line_of" s_line_of a.f_line_of a.d_line_of
  b_line_of : Binds K a.d_line_of ["start"] []
  m_line_of : mg "line_of" = some (.ref a.f_line_of)
  F_Line_init : Fun K "__init__" "Line.__init__" s_Line_init a.f_Line_init a.d_Line_init
  b_Line_init : Binds K a.d_Line_init ["self", "many"] []
  F_way_price : Fun K "way_price" "way_price" s_way_price a.f_way_price a.d_way_price
  b_way_price : Binds K a.d_way_price ["world", "start", "wishes", "way"] []
  m_way_price : mg "way_price" = some (.ref a.f_way_price)
  F_law_good : Fun K "_law_good" "_law_good" s_law_good a.f_law_good a.d_law_good
  b_law_good : Binds K a.d_law_good ["_law_found", "_law_k", "_law_gap", "_law_many_here"] []
  m_law_good : mg "_law_good" = some (.ref a.f_law_good)
  F_law_plan : Fun K "_law_plan" "_law_plan" s_law_plan a.f_law_plan a.d_law_plan
  b_law_plan : Binds K a.d_law_plan ["_law_start", "_law_wishes", "_law_way"] []
  m_law_plan : mg "_law_plan" = some (.ref a.f_law_plan)
  F_law_far : Fun K "_law_far" "_law_far" s_law_far a.f_law_far a.d_law_far
  b_law_far : Binds K a.d_law_far ["_law_state", "_law_after"] []
  m_law_far : mg "_law_far" = some (.ref a.f_law_far)
  F_law_is_state : Fun K "_law_is_state" "_law_is_state" s_law_is_state a.f_law_is_state a.d_law_is_state
  b_law_is_state : Binds K a.d_law_is_state ["_law_state", "_law_many_here"] []
  m_law_is_state : mg "_law_is_state" = some (.ref a.f_law_is_state)
  F_law_pay : Fun K "_law_pay" "_law_pay" s_law_pay a.f_law_pay a.d_law_pay
  b_law_pay : Binds K a.d_law_pay ["_law_start", "_law_wishes"] []
  m_law_pay : mg "_law_pay" = some (.ref a.f_law_pay)
  F_law_gone : Fun K "_law_gone" "_law_gone" s_law_gone a.f_law_gone a.d_law_gone
  b_law_gone : Binds K a.d_law_gone ["_law_state", "_law_wish"] []
  m_law_gone : mg "_law_gone" = some (.ref a.f_law_gone)
  F_law_many : Fun K "_law_many" "_law_many" s_law_many a.f_law_many a.d_law_many
  b_law_many : Binds K a.d_law_many ["_law_cell_here"] []
  m_law_many : mg "_law_many" = some (.ref a.f_law_many)
  F_law_mixed : Fun K "_law_mixed" "_law_mixed" s_law_mixed a.f_law_mixed a.d_law_mixed
  b_law_mixed : Binds K a.d_law_mixed ["_law_cell_here", "_law_k"] []
  m_law_mixed : mg "_law_mixed" = some (.ref a.f_law_mixed)
  F_law_cell : Fun K "_law_cell" "_law_cell" s_law_cell a.f_law_cell a.d_law_cell
  b_law_cell : Binds K a.d_law_cell ["_law_script", "_law_k"] []
  m_law_cell : mg "_law_cell" = some (.ref a.f_law_cell)
  m_Bound : mg "Bound" = some (.ref a.c_Bound)
  cm_Bound_init : CMeth K a.c_Bound "__init__" a.f_Rule_init
  m_Line : mg "Line" = some (.ref a.c_Line)
  cl_Line : Cls K a.c_Line
  mk_Line : Mk K a.c_Line a.f_Line_init
  na_Line_many : NoAttr K a.c_Line "many"
  me_Line_is_state : Meth K a.c_Line "is_state" a.f_Line_is_state
  me_Line_is_wish : Meth K a.c_Line "is_wish" a.f_Line_is_wish
  me_Line_price : Meth K a.c_Line "price" a.f_Line_price
  m_Both : mg "Both" = some (.ref a.c_Both)
  cl_Both : Cls K a.c_Both
  mk_Both : Mk K a.c_Both a.f_Both_init
  na_Both_spent : NoAttr K a.c_Both "spent"
  na_Both_standing : NoAttr K a.c_Both "standing"
  na_Both_world : NoAttr K a.c_Both "world"
  me_Both_learn : Meth K a.c_Both "learn" a.f_Rule_learn
  me_Both_pay : Meth K a.c_Both "pay" a.f_Rule_pay
  me_Both_price_to : Meth K a.c_Both "price_to" a.f_Rule_price_to
  me_Both_state : Meth K a.c_Both "state" a.f_Rule_state
  me_Both_target : Meth K a.c_Both "target" a.f_Both_target
  n_abs : mg "abs" = none
  n_all : mg "all" = none
  n_bool : mg "bool" = none
  n_int : mg "int" = none
  n_isinstance : mg "isinstance" = none
  n_len : mg "len" = none
  n_list : mg "list" = none
  n_max : mg "max" = none
  n_min : mg "min" = none
  n_range : mg "range" = none
  n_sorted : mg "sorted" = none
  n_str : mg "str" = none
  n_sum : mg "sum" = none
  n_tuple : mg "tuple" = none
  n_zip : mg "zip" = none
section
variable {P : Program} {w : World} {K : PySem.W.Frag} {mg : Str → Option Value} {base : Heap} {a : Adr}
seal PA PE PS PSs PT
theorem sc_law : FnScope ["_law_script", "_law_k", "_law_number", "_law_gap", "_law_many_here", "_law_found", "_law_held"] ["_law_script"] (defScope s_law) := ⟨rfl, rfl, rfl, by decide +kernel, rfl, by decide +kernel, by decide +kernel⟩
theorem sc_law_same : FnScope ["_law_found", "_law_due"] ["_law_found", "_law_due"] (defScope s_law_same) := ⟨rfl, rfl, rfl, by decide +kernel, rfl, by decide +kernel, by decide +kernel⟩
theorem sc_law_whole : FnScope ["_law_found"] ["_law_found"] (defScope s_law_whole) := ⟨rfl, rfl, rfl, by decide +kernel, rfl, by decide +kernel, by decide +kernel⟩
theorem sc_law_all_same : FnScope ["_law_found", "_law_due", "_law_one", "_law_other"] ["_law_found", "_law_due"] (defScope s_law_all_same) := ⟨rfl, rfl, rfl, by decide +kernel, rfl, by decide +kernel, by decide +kernel⟩
theorem sc_enemy_of_both : FnScope ["k", "gap", "many", "places", "start", "rule", "wishes", "ways"] ["k", "gap", "many"] (defScope s_enemy_of_both) := ⟨rfl, rfl, rfl, by decide +kernel, rfl, by decide +kernel, by decide +kernel⟩
theorem sc_way_that_leaves : FnScope ["place", "places", "wishes", "empty", "leaves", "way", "wish"] ["place", "places", "wishes"] (defScope s_way_that_leaves) := ⟨rfl, rfl, rfl, by decide +kernel, rfl, by decide +kernel, by decide +kernel⟩
theorem sc_lazy_wishes : FnScope ["rule", "places", "many", "lazy", "wishes", "turn", "wish"] ["rule", "places", "many"] (defScope s_lazy_wishes) := ⟨rfl, rfl, rfl, by decide +kernel, rfl, by decide +kernel, by decide +kernel⟩
theorem sc_Rule_state : FnScope ["self"] ["self"] (defScope s_Rule_state) := ⟨rfl, rfl, rfl, by decide +kernel, rfl, by decide +kernel, by decide +kernel⟩
theorem sc_Rule_pay : FnScope ["self", "wish", "after", "cost"] ["self", "wish"] (defScope s_Rule_pay) := ⟨rfl, rfl, rfl, by decide +kernel, rfl, by decide +kernel, by decide +kernel⟩
theorem sc_Rule_learn : FnScope ["self", "wish"] ["self", "wish"] (defScope s_Rule_learn) := ⟨rfl, rfl, rfl, by decide +kernel, rfl, by decide +kernel, by decide +kernel⟩
theorem sc_Rule_price_to : FnScope ["self", "wish", "after"] ["self", "wish", "after"] (defScope s_Rule_price_to) := ⟨rfl, rfl, rfl, by decide +kernel, rfl, by decide +kernel, by decide +kernel⟩
theorem sc_Line_price : FnScope ["self", "before", "wish", "after"] ["self", "before", "wish", "after"] (defScope s_Line_price) := ⟨rfl, rfl, rfl, by decide +kernel, rfl, by decide +kernel, by decide +kernel⟩
theorem sc_ways_between : FnScope ["before", "after"] ["before", "after"] (defScope s_ways_between) := ⟨rfl, rfl, rfl, by decide +kernel, rfl, by decide +kernel, by decide +kernel⟩
theorem sc_Both_target : FnScope ["self", "wish", "left", "right", "step"] ["self", "wish"] (defScope s_Both_target) := ⟨rfl, rfl, rfl, by decide +kernel, rfl, by decide +kernel, by decide +kernel⟩
theorem sc_Line_is_wish : FnScope ["self", "thing"] ["self", "thing"] (defScope s_Line_is_wish) := ⟨rfl, rfl, rfl, by decide +kernel, rfl, by decide +kernel, by decide +kernel⟩
theorem sc_is_place : FnScope ["thing"] ["thing"] (defScope s_is_place) := ⟨rfl, rfl, rfl, by decide +kernel, rfl, by decide +kernel, by decide +kernel⟩
theorem sc_is_whole_number : FnScope ["thing"] ["thing"] (defScope s_is_whole_number) := ⟨rfl, rfl, rfl, by decide +kernel, rfl, by decide +kernel, by decide +kernel⟩
theorem sc_lacking : FnScope ["things", "had"] ["things", "had"] (defScope s_lacking) := ⟨rfl, rfl, rfl, by decide +kernel, rfl, by decide +kernel, by decide +kernel⟩
theorem sc_Both_init : FnScope ["self", "start"] ["self", "start"] (defScope s_Both_init) := ⟨rfl, rfl, rfl, by decide +kernel, rfl, by decide +kernel, by decide +kernel⟩
theorem sc_Rule_init : FnScope ["self", "world", "start"] ["self", "world", "start"] (defScope s_Rule_init) := ⟨rfl, rfl, rfl, by decide +kernel, rfl, by decide +kernel, by decide +kernel⟩
theorem sc_Line_is_state : FnScope ["self", "thing"] ["self", "thing"] (defScope s_Line_is_state) := ⟨rfl, rfl, rfl, by decide +kernel, rfl, by decide +kernel, by decide +kernel⟩
theorem sc_line_of : FnScope ["start"] ["start"] (defScope s_line_of) := ⟨rfl, rfl, rfl, by decide +kernel, rfl, by decide +kernel, by decide +kernel⟩
theorem sc_Line_init : FnScope ["self", "many"] ["self", "many"] (defScope s_Line_init) := ⟨rfl, rfl, rfl, by decide +kernel, rfl, by decide +kernel, by decide +kernel⟩
theorem sc_way_price : FnScope ["world", "start", "wishes", "way", "total", "before", "wish", "after", "price"] ["world", "start", "wishes", "way"] (defScope s_way_price) := ⟨rfl, rfl, rfl, by decide +kernel, rfl, by decide +kernel, by decide +kernel⟩
theorem sc_law_good : FnScope ["_law_found", "_law_k", "_law_gap", "_law_many_here", "_law_start", "_law_wishes", "_law_way", "_law_wish", "_law_pay_here", "_law_plan_here"] ["_law_found", "_law_k", "_law_gap", "_law_many_here"] (defScope s_law_good) := ⟨rfl, rfl, rfl, by decide +kernel, rfl, by decide +kernel, by decide +kernel⟩
theorem sc_law_plan : FnScope ["_law_start", "_law_wishes", "_law_way", "_law_here", "_law_paid", "_law_wish", "_law_after"] ["_law_start", "_law_wishes", "_law_way"] (defScope s_law_plan) := ⟨rfl, rfl, rfl, by decide +kernel, rfl, by decide +kernel, by decide +kernel⟩
theorem sc_law_far : FnScope ["_law_state", "_law_after"] ["_law_state", "_law_after"] (defScope s_law_far) := ⟨rfl, rfl, rfl, by decide +kernel, rfl, by decide +kernel, by decide +kernel⟩
theorem sc_law_is_state : FnScope ["_law_state", "_law_many_here", "_law_place"] ["_law_state", "_law_many_here"] (defScope s_law_is_state) := ⟨rfl, rfl, rfl, by decide +kernel, rfl, by decide +kernel, by decide +kernel⟩
theorem sc_law_pay : FnScope ["_law_start", "_law_wishes", "_law_state", "_law_paid", "_law_wish", "_law_after"] ["_law_start", "_law_wishes"] (defScope s_law_pay) := ⟨rfl, rfl, rfl, by decide +kernel, rfl, by decide +kernel, by decide +kernel⟩
theorem sc_law_gone : FnScope ["_law_state", "_law_wish", "_law_left", "_law_right", "_law_step"] ["_law_state", "_law_wish"] (defScope s_law_gone) := ⟨rfl, rfl, rfl, by decide +kernel, rfl, by decide +kernel, by decide +kernel⟩
theorem sc_law_many : FnScope ["_law_cell_here", "_law_number"] ["_law_cell_here"] (defScope s_law_many) := ⟨rfl, rfl, rfl, by decide +kernel, rfl, by decide +kernel, by decide +kernel⟩
theorem sc_law_mixed : FnScope ["_law_cell_here", "_law_k", "_law_number"] ["_law_cell_here", "_law_k"] (defScope s_law_mixed) := ⟨rfl, rfl, rfl, by decide +kernel, rfl, by decide +kernel, by decide +kernel⟩
theorem sc_law_cell : FnScope ["_law_script", "_law_k"] ["_law_script", "_law_k"] (defScope s_law_cell) := ⟨rfl, rfl, rfl, by decide +kernel, rfl, by decide +kernel, by decide +kernel⟩
def lp_enemy_of_both : Pos := ⟨176, 41, 176, 94⟩
def lq_enemy_of_both : Str := ("enemy_of_both" ++ ".<locals>.") ++ "<lambda>"
def lfl (wo st : Addr) (z : Int) : List (Str × V) := [("world", .ref wo), ("standing", .ref st), ("spent", .int z)]
/-- a rule of a line: its class, its places, what it paid -/
structure LineAt (a : Adr) (C : Addr) (H : Hp) (r : Addr) (ns : List Int) (z : Int) : Prop where
  ex : ∃ dx wo dw st, H r = some (.ins C dx (lfl wo st z)) ∧ H wo = some (.ins a.c_Line dw [("many", .int ns.length)]) ∧ H st = some (.tup (ns.map V.int))
theorem LineAt.ext {a : Adr} {C : Addr} {H H' : Hp} {r : Addr} {ns : List Int} {z : Int} (e : Ext H H') (h : LineAt a C H r ns z) : LineAt a C H' r ns z := by
  obtain ⟨dx, wo, dw, st, h1, h2, h3⟩ := h.ex
  exact ⟨dx, wo, dw, st, e _ _ h1, e _ _ h2, e _ _ h3⟩
/-- a good state -/
structure Good (ns : List Int) : Prop where
  lo : 1 ≤ ns.length
  hi : ns.length ≤ 6
  srt : ns.Pairwise (· ≤ ·)
  pl : ∀ x ∈ ns, -1000000000000000000 ≤ x ∧ x ≤ 1000000000000000000
def ways (ns ms : List Int) : Int := (List.zipWith (fun a b : Int => ((a - b).natAbs : Int)) ns ms).sum
def aprt (ns : List Int) : Nat → Int
  | 0 => 0
  | i + 1 => aprt ns i + ((ns.take i).map fun l => ns.getD i 0 - l).sum
/-- where the rule of both goes -/
def goB (ns : List Int) (w : Int) : List Int :=
  if w ∈ ns then ns
  else if ns.filter (fun x => decide (w < x)) = [] then (ns.filter fun x => decide (x < w)).dropLast ++ [w]
  else if ns.filter (fun x => decide (x < w)) = [] then w :: (ns.filter fun x => decide (w < x)).tail
  else (ns.filter fun x => decide (x < w)).dropLast ++ [(ns.filter fun x => decide (x < w)).getLastD 0 + min (w - (ns.filter fun x => decide (x < w)).getLastD 0) ((ns.filter fun x => decide (w < x)).headD 0 - w)] ++
    ((ns.filter fun x => decide (w < x)).headD 0 - min (w - (ns.filter fun x => decide (x < w)).getLastD 0) ((ns.filter fun x => decide (w < x)).headD 0 - w)) :: (ns.filter fun x => decide (w < x)).tail
theorem part_lt {w : Int} : ∀ {ns : List Int}, ns.Pairwise (· ≤ ·) → w ∉ ns → ns = ns.filter (fun x => decide (x < w)) ++ ns.filter (fun x => decide (w < x))
  | [], _, _ => rfl
  | b :: t, h, hw => by
    obtain ⟨h1, h2⟩ := List.pairwise_cons.mp h
    have hb : w ≠ b := fun z => hw (by rw [z]; exact List.mem_cons_self)
    have ht : w ∉ t := fun z => hw (List.mem_cons_of_mem _ z)
    have ih := part_lt h2 ht
    by_cases c : b < w
    · rw [List.filter_cons_of_pos (by simpa using c), List.filter_cons_of_neg (by simpa using Int.le_of_lt c), List.cons_append, ← ih]
    · have c' : w < b := by omega
      have e1 : t.filter (fun x => decide (x < w)) = [] := List.filter_eq_nil_iff.mpr fun x hx => by have := h1 x hx; simp; omega
      have e2 : t.filter (fun x => decide (w < x)) = t := by rw [e1, List.nil_append] at ih; exact ih.symm
      rw [List.filter_cons_of_neg (by simpa using c), List.filter_cons_of_pos (by simpa using c'), e1, e2]
      rfl
/-- the ways the rule of both may go: nowhere; the last one up; the first one down; two neighbours towards each other -/
inductive Goes (w : Int) : List Int → List Int → Prop where
  | stay {ns : List Int} (h : w ∈ ns) : Goes w ns ns
  | up {L : List Int} {l : Int} (h : l < w) : Goes w (L ++ [l]) (L ++ [w])
  | down {R : List Int} {r : Int} (h : w < r) : Goes w (r :: R) (w :: R)
  | both {L R : List Int} {l r s : Int} (h1 : l < w) (h2 : w < r) (hs : s = min (w - l) (r - w)) : Goes w (L ++ l :: r :: R) (L ++ (l + s) :: (r - s) :: R)
theorem goB_goes {ns : List Int} {w : Int} (h : ns.Pairwise (· ≤ ·)) (h0 : 1 ≤ ns.length) : Goes w ns (goB ns w) := by
  unfold goB
  by_cases hw : w ∈ ns
  · rw [if_pos hw]; exact .stay hw
  · rw [if_neg hw]
    have e := part_lt h hw
    have mL : ∀ x ∈ ns.filter (fun x => decide (x < w)), x < w := fun x hx => by simpa using (List.mem_filter.mp hx).2
    have mR : ∀ x ∈ ns.filter (fun x => decide (w < x)), w < x := fun x hx => by simpa using (List.mem_filter.mp hx).2
    generalize ns.filter (fun x => decide (x < w)) = L at *
    generalize ns.filter (fun x => decide (w < x)) = R at *
    subst e
    by_cases eR : R = []
    · subst eR
      rw [if_pos rfl]
      rcases List.eq_nil_or_concat L with rfl | ⟨L', l, rfl⟩
      · simp at h0
      · rw [List.append_nil, List.concat_eq_append, List.dropLast_concat]
        exact .up (mL l (by simp))
    · rw [if_neg eR]
      cases R with
      | nil => exact (eR rfl).elim
      | cons r R =>
        by_cases eL : L = []
        · subst eL
          rw [if_pos rfl]
          exact .down (mR r (by simp))
        · rw [if_neg eL]
          rcases List.eq_nil_or_concat L with rfl | ⟨L', l, rfl⟩
          · exact (eL rfl).elim
          · rw [List.concat_eq_append, List.dropLast_concat, List.getLastD_eq_getLast?, List.getLast?_concat]
            have g := Goes.both (w := w) (L := L') (R := R) (l := l) (r := r) (mL l (by simp)) (mR r (by simp)) rfl
            simpa using g
theorem Goes.len {w : Int} {ns ms : List Int} (g : Goes w ns ms) : ms.length = ns.length := by
  cases g <;> simp
theorem Goes.mem {w : Int} {ns ms : List Int} (g : Goes w ns ms) : w ∈ ms := by
  cases g with
  | stay h => exact h
  | up h => simp
  | down h => simp
  | both h1 h2 hs =>
    rename_i L R l r s
    by_cases c : w - l ≤ r - w
    · have : l + s = w := by omega
      rw [this]; simp
    · have : r - s = w := by omega
      rw [this]; simp
theorem Goes.sorted {w : Int} {ns ms : List Int} (g : Goes w ns ms) (h : ns.Pairwise (· ≤ ·)) : ms.Pairwise (· ≤ ·) := by
  cases g with
  | stay _ => exact h
  | up hl =>
    rename_i L l
    rw [List.pairwise_append] at h ⊢
    refine ⟨h.1, by simp, fun a ha b hb => ?_⟩
    have := h.2.2 a ha l (by simp)
    have : b = w := by simpa using hb
    omega
  | down hr =>
    rename_i R r
    rw [List.pairwise_cons] at h ⊢
    exact ⟨fun b hb => by have := h.1 b hb; omega, h.2⟩
  | both h1 h2 hs =>
    rename_i L R l r s
    rw [List.pairwise_append] at h ⊢
    obtain ⟨a1, a2, a3⟩ := h
    rw [List.pairwise_cons, List.pairwise_cons] at a2
    obtain ⟨b1, b2, b3⟩ := a2
    refine ⟨a1, ?_, fun a ha b hb => ?_⟩
    · rw [List.pairwise_cons, List.pairwise_cons]
      refine ⟨fun b hb => ?_, fun b hb => by have := b2 b hb; omega, b3⟩
      rcases List.mem_cons.mp hb with z | z
      · omega
      · have := b2 b z; omega
    · have k1 := a3 a ha l (by simp)
      rcases List.mem_cons.mp hb with z | hb
      · omega
      · rcases List.mem_cons.mp hb with z | hb
        · omega
        · have := a3 a ha b (by simp [hb]); omega
theorem Goes.pl {w lo hi : Int} {ns ms : List Int} (g : Goes w ns ms) (h0 : lo ≤ w) (h1 : w ≤ hi) (h : ∀ x ∈ ns, lo ≤ x ∧ x ≤ hi) : ∀ x ∈ ms, lo ≤ x ∧ x ≤ hi := by
  cases g with
  | stay _ => exact h
  | up hl =>
    intro x hx
    rcases List.mem_append.mp hx with z | z
    · exact h x (List.mem_append_left _ z)
    · have : x = w := by simpa using z
      omega
  | down hr =>
    intro x hx
    rcases List.mem_cons.mp hx with z | z
    · omega
    · exact h x (List.mem_cons_of_mem _ z)
  | both a1 a2 hs =>
    rename_i L R l r s
    have kl := h l (by simp)
    have kr := h r (by simp)
    intro x hx
    rcases List.mem_append.mp hx with z | z
    · exact h x (List.mem_append_left _ z)
    · rcases List.mem_cons.mp z with z | z
      · omega
      · rcases List.mem_cons.mp z with z | z
        · omega
        · exact h x (List.mem_append_right _ (by simp [z]))
theorem Good.go {ns : List Int} {w : Int} (g : Good ns) (h0 : -1000000000000000000 ≤ w) (h1 : w ≤ 1000000000000000000) : Good (goB ns w) := by
  have k := goB_goes (w := w) g.srt g.lo
  have l := k.len
  exact ⟨by rw [l]; exact g.lo, by rw [l]; exact g.hi, k.sorted g.srt, k.pl h0 h1 g.pl⟩
theorem goB_in {ns : List Int} {w : Int} (h : ns.Pairwise (· ≤ ·)) (h0 : 1 ≤ ns.length) : w ∈ goB ns w := (goB_goes h h0).mem
theorem goB_len {ns : List Int} {w : Int} (h : ns.Pairwise (· ≤ ·)) (h0 : 1 ≤ ns.length) : (goB ns w).length = ns.length := (goB_goes h h0).len

theorem RepL.snoc {H : Hp} {d : D} {x : V} (h : Rep H d x) : ∀ {l : List D} {xs : List V}, RepL H l xs → RepL H (l ++ [d]) (xs ++ [x])
  | [], xs, r => by cases (show xs = [] from r); exact RepL.cons h RepL.nil
  | e :: l, xs, r => by
    obtain ⟨y, t, rfl, r1, r2⟩ := r
    exact RepL.cons r1 (RepL.snoc h r2)
theorem PairsH.keep {H H' : Hp} (e : Kp H H') {vs : List V} {Ks : List (List Int × Int)} (r : PairsH H vs Ks) : PairsH H' vs Ks := by
  induction r with
  | nil => exact .nil
  | cons x y _ ih => exact .cons (e _ _ x rfl) (e _ _ y rfl) ih
theorem PairsH.snoc {H : Hp} {c a : Addr} {L : List Int} {x : Int} (hc : H c = some (.tup [.ref a, .int x])) (ha : H a = some (.tup (L.map V.int))) {vs : List V} {Ks : List (List Int × Int)} (r : PairsH H vs Ks) : PairsH H (vs ++ [.ref c]) (Ks ++ [(L, x)]) := by
  induction r with
  | nil => exact .cons hc ha .nil
  | cons x y _ ih => exact .cons x y ih
theorem PairsH.get {H : Hp} {vs : List V} {Ks : List (List Int × Int)} (r : PairsH H vs Ks) : ∀ (i : Nat) (v : V), vs[i]? = some v → ∃ c a, v = .ref c ∧ H c = some (.tup [.ref a, .int (Ks.getD i ([], 0)).2]) := by
  induction r with
  | nil => exact fun i v h => by simp at h
  | cons x y _ ih =>
    intro i v h
    cases i with
    | zero => simp at h; subst h; exact ⟨_, _, rfl, by simpa using x⟩
    | succ i => simpa using ih i v (by simpa using h)
theorem RefsH.keep {H H' : Hp} (e : Kp H H') {vs : List V} {Ls : List (List Int)} (r : RefsH H vs Ls) : RefsH H' vs Ls := by
  induction r with
  | nil => exact .nil
  | cons x _ ih => exact .cons (e _ _ x rfl) ih
theorem RefsH.snoc {H H' : Hp} {a : Addr} {L : List Int} (e : Ext H H') (ha : H' a = some (.tup (L.map V.int))) {vs : List V} {Ls : List (List Int)} (r : RefsH H vs Ls) : RefsH H' (vs ++ [.ref a]) (Ls ++ [L]) := by
  induction r with
  | nil => exact .cons ha .nil
  | cons x _ ih => exact .cons (e _ _ x) ih
theorem PairsH.but {H H' : Hp} {x : Addr} {zs : List V} (hx : H x = some (.lst zs)) (b : But x H H') {vs : List V} {Ks : List (List Int × Int)} (r : PairsH H vs Ks) : PairsH H' vs Ks := by
  induction r with
  | nil => exact .nil
  | cons c d _ ih => exact .cons (b _ _ (fun z => by rw [z, hx] at c; cases c) c) (b _ _ (fun z => by rw [z, hx] at d; cases d) d) ih
def prW (ns : List Int) (L : List Int) : List Int × Int := (L, ways ns L)
/-- one of the places is left for w -/
def Sent (ns : List Int) (k : Nat) (w : Int) (ms : List Int) : Prop := ms.Perm (ns.take k ++ [w] ++ ns.drop (k + 1)) ∧ ms.Pairwise (· ≤ ·)
/-! one of a sorted row is sent to w: the whole way is |u - w| -/
def insI (w : Int) : List Int → List Int
  | [] => [w]
  | x :: t => if w ≤ x then w :: x :: t else x :: insI w t
theorem insI_perm (w : Int) : ∀ r : List Int, (insI w r).Perm (w :: r)
  | [] => List.Perm.refl _
  | x :: t => by
    unfold insI
    split
    · exact List.Perm.refl _
    · exact ((insI_perm w t).cons x).trans (List.Perm.swap _ _ _)
theorem insI_sorted (w : Int) : ∀ {r : List Int}, r.Pairwise (· ≤ ·) → (insI w r).Pairwise (· ≤ ·)
  | [], _ => List.pairwise_singleton _ _
  | x :: t, h => by
    obtain ⟨h1, h2⟩ := List.pairwise_cons.mp h
    unfold insI
    split
    · rename_i c
      refine List.pairwise_cons.mpr ⟨fun y hy => ?_, h⟩
      rcases List.mem_cons.mp hy with rfl | hy
      · exact c
      · exact Int.le_trans c (h1 y hy)
    · rename_i c
      refine List.pairwise_cons.mpr ⟨fun y hy => ?_, insI_sorted w h2⟩
      rcases List.mem_cons.mp ((insI_perm w t).mem_iff.mp hy) with rfl | hy
      · omega
      · exact h1 y hy
theorem insI_low (x : Int) : ∀ {t : List Int}, (∀ y ∈ t, x ≤ y) → insI x t = x :: t
  | [], _ => rfl
  | y :: t, h => by unfold insI; rw [if_pos (h y List.mem_cons_self)]
theorem ways_cons (a b : Int) (l m : List Int) : ways (a :: l) (b :: m) = ((a - b).natAbs : Int) + ways l m := by unfold ways; simp
theorem ways_self : ∀ r : List Int, ways r r = 0
  | [] => rfl
  | x :: r => by rw [ways_cons, ways_self r]; omega
theorem ways_ins (u w : Int) : ∀ {r : List Int}, r.Pairwise (· ≤ ·) → ways (insI u r) (insI w r) = (u - w).natAbs
  | [], _ => by
    show ways [u] [w] = _
    rw [ways_cons]
    show _ + ways [] [] = _
    rw [ways_self]
    omega
  | x :: t, h => by
    obtain ⟨h1, h2⟩ := List.pairwise_cons.mp h
    have low := insI_low x h1
    unfold insI
    by_cases a : u ≤ x
    · rw [if_pos a]
      by_cases b : w ≤ x
      · rw [if_pos b, ways_cons, ways_self]; omega
      · rw [if_neg b, ways_cons]
        have := ways_ins x w h2
        rw [low] at this
        rw [this]
        omega
    · rw [if_neg a]
      by_cases b : w ≤ x
      · rw [if_pos b, ways_cons]
        have := ways_ins u x h2
        rw [low] at this
        rw [this]
        omega
      · rw [if_neg b, ways_cons, ways_ins u w h2]; omega
theorem sent_ways {ns ms : List Int} {k : Nat} {w : Int} (hs : ns.Pairwise (· ≤ ·)) (hk : k < ns.length) (h : Sent ns k w ms) : ways ns ms = ((ns.getD k 0 - w).natAbs : Int) := by
  have e : ns.getD k 0 = ns[k] := by rw [List.getD_eq_getElem?_getD, List.getElem?_eq_getElem hk]; rfl
  have hr : (ns.take k ++ ns.drop (k + 1)).Pairwise (· ≤ ·) := by
    refine hs.sublist ?_
    have : (ns.take k ++ ns.drop (k + 1)).Sublist (ns.take k ++ ns.drop k) := List.Sublist.append_left (by rw [← List.drop_drop]; exact List.drop_sublist _ _) _
    rwa [List.take_append_drop] at this
  have p1 : ns.Perm (ns[k] :: (ns.take k ++ ns.drop (k + 1))) := by
    have : ns = ns.take k ++ ns[k] :: ns.drop (k + 1) := by rw [List.getElem_cons_drop, List.take_append_drop]
    exact (List.Perm.of_eq this).trans List.perm_middle
  have a1 : ns = insI ns[k] (ns.take k ++ ns.drop (k + 1)) := sorted_uniq p1 (insI_perm _ _) hs (insI_sorted _ hr)
  have p2 : ms.Perm (w :: (ns.take k ++ ns.drop (k + 1))) := by
    refine h.1.trans ?_
    rw [List.append_assoc]
    exact List.perm_middle
  have a2 : ms = insI w (ns.take k ++ ns.drop (k + 1)) := sorted_uniq p2 (insI_perm _ _) h.2 (insI_sorted _ hr)
  rw [e, a2]
  generalize ns.take k ++ ns.drop (k + 1) = r at a1 hr
  generalize ns[k] = u at a1
  rw [a1]
  exact ways_ins u w hr
/-- where a line may go for w -/
def GoL (ns : List Int) (w : Int) (L : List Int) : Prop := (w ∈ ns ∧ L = ns) ∨ (w ∉ ns ∧ ∃ k, k < ns.length ∧ Sent ns k w L)
theorem Sent.len {ns ms : List Int} {k : Nat} {w : Int} (h : Sent ns k w ms) (hk : k < ns.length) : ms.length = ns.length := by
  rw [h.1.length_eq]
  simp
  omega
theorem Sent.mem {ns ms : List Int} {k : Nat} {w : Int} (h : Sent ns k w ms) : w ∈ ms := h.1.mem_iff.mpr (by simp)

/-! the enemy of both: lazy fetchers, the ways that leave -/
def tri (a b c : List Int) : Prop := ways a c ≤ ways a b + ways b c
theorem ways_tri : ∀ {a b c : List Int}, a.length = b.length → b.length = c.length → ways a c ≤ ways a b + ways b c
  | [], [], [], _, _ => by decide
  | x :: a, y :: b, z :: c, h1, h2 => by
    rw [ways_cons, ways_cons, ways_cons]
    have := ways_tri (a := a) (b := b) (c := c) (by simpa using h1) (by simpa using h2)
    omega
  | [], _ :: _, _, h, _ => by simp at h
  | _ :: _, [], _, h, _ => by simp at h
  | [], [], _ :: _, _, h => by simp at h
  | _ :: _, _ :: _, [], _, h => by simp at h
theorem ways_comm : ∀ (a b : List Int), ways a b = ways b a
  | [], [] => rfl
  | [], _ :: _ => rfl
  | _ :: _, [] => rfl
  | x :: a, y :: b => by rw [ways_cons, ways_cons, ways_comm a b]; omega
theorem ways_nn : ∀ (a b : List Int), 0 ≤ ways a b
  | [], [] => Int.le_refl _
  | [], _ :: _ => Int.le_refl _
  | _ :: _, [] => Int.le_refl _
  | x :: a, y :: b => by rw [ways_cons]; have := ways_nn a b; omega
theorem ways_set : ∀ {a b : List Int} {j : Nat}, a.length = b.length → j < a.length → ways a (b.set j (a.getD j 0)) + ((a.getD j 0 - b.getD j 0).natAbs : Int) = ways a b
  | [], _, _, _, h => by simp at h
  | x :: a, [], _, h, _ => by simp at h
  | x :: a, y :: b, 0, h, _ => by
    show ways (x :: a) (x :: b) + ((x - y).natAbs : Int) = _
    rw [ways_cons, ways_cons]
    omega
  | x :: a, y :: b, j + 1, h, hj => by
    have := ways_set (a := a) (b := b) (j := j) (by simpa using h) (by simpa using hj)
    show ways (x :: a) (y :: b.set j (a.getD j 0)) + ((a.getD j 0 - b.getD j 0).natAbs : Int) = _
    rw [ways_cons, ways_cons]
    omega
/-- the first of P that L lacks -/
def lack (P L : List Int) : Int := (P.filter fun x => !decide (x ∈ L)).headD 0
theorem nd_subI : ∀ {l m : List Int}, l.Nodup → (∀ x ∈ l, x ∈ m) → l.length ≤ m.length
  | [], m, _, _ => Nat.zero_le _
  | x :: r, m, nd, h => by
    obtain ⟨h1, h2⟩ := List.nodup_cons.mp nd
    have hx : x ∈ m := h x List.mem_cons_self
    have ih := nd_subI (l := r) (m := m.erase x) h2 fun y hy => (List.mem_erase_of_ne (fun e => h1 (by rw [← e]; exact hy))).mpr (h y (List.mem_cons_of_mem _ hy))
    rw [List.length_erase_of_mem hx] at ih
    have := List.length_pos_of_mem hx
    rw [List.length_cons]
    omega
theorem lack_is {P L : List Int} (nd : P.Nodup) (h : L.length < P.length) : lack P L ∈ P ∧ lack P L ∉ L ∧ P.filter (fun x => !decide (x ∈ L)) ≠ [] := by
  have ne : P.filter (fun x => !decide (x ∈ L)) ≠ [] := fun e => by
    have : ∀ x ∈ P, x ∈ L := fun x hx => by
      have := List.filter_eq_nil_iff.mp e x hx
      simpa using this
    have := nd_subI nd this
    omega
  have hm : lack P L ∈ P.filter fun x => !decide (x ∈ L) := by
    unfold lack
    cases hf : P.filter fun x => !decide (x ∈ L) with
    | nil => exact (ne hf).elim
    | cons x r => exact List.mem_cons_self
  obtain ⟨h1, h2⟩ := List.mem_filter.mp hm
  exact ⟨h1, by simpa using h2, ne⟩
/-- what one lacks alone -/
theorem lack_uniq {P L : List Int} {x : Int} (ndP : P.Nodup) (ndL : L.Nodup) (hl : P.length = L.length + 1) (sub : ∀ y ∈ L, y ∈ P) (hx : x ∈ P) (nx : x ∉ L) : lack P L = x := by
  obtain ⟨h1, h2, _⟩ := lack_is (L := L) ndP (by omega)
  refine Decidable.byContradiction fun ne => ?_
  have nd2 : (lack P L :: x :: L).Nodup := List.nodup_cons.mpr ⟨fun z => by
    rcases List.mem_cons.mp z with z | z
    · exact ne z
    · exact h2 z, List.nodup_cons.mpr ⟨nx, ndL⟩⟩
  have := nd_subI (m := P) nd2 fun y hy => by
    rcases List.mem_cons.mp hy with rfl | hy
    · exact h1
    · rcases List.mem_cons.mp hy with rfl | hy
      · exact hx
      · exact sub y hy
  simp at this
  omega
/-- one turn: the rule's state, the lazy ones -/
def stp (P : List Int) (s : List Int × List Int) : List Int × List Int := (goB s.1 (lack P s.2), s.2.set ((goB s.1 (lack P s.2)).idxOf (lack P s.2)) (lack P s.2))
def stN (P S : List Int) : Nat → List Int × List Int
  | 0 => (S, S)
  | i + 1 => stp P (stN P S i)
def wB (P S : List Int) (i : Nat) : Int := lack P (stN P S i).2
def wsB (P S : List Int) (n : Nat) : List Int := (List.range n).map (wB P S)
theorem wsB_len (P S : List Int) (n : Nat) : (wsB P S n).length = n := by unfold wsB; simp
theorem wsB_succ (P S : List Int) (n : Nat) : wsB P S (n + 1) = wsB P S n ++ [wB P S n] := by unfold wsB; rw [List.range_succ, List.map_append]; rfl
theorem wsB_at {P S : List Int} {n i : Nat} {x : Int} (h : (wsB P S n)[i]? = some x) : i < n ∧ x = wB P S i := by
  have hi := (List.getElem?_eq_some_iff.mp h).1
  rw [wsB_len] at hi
  refine ⟨hi, ?_⟩
  unfold wsB at h
  rw [List.getElem?_map, List.getElem?_range hi] at h
  exact (Option.some.inj h).symm
/-- what was paid, what the lazy ones went -/
def pdB (P S : List Int) : Nat → Int
  | 0 => 0
  | i + 1 => pdB P S i + ways (stN P S i).1 (stN P S (i + 1)).1
def lzB (P S : List Int) : Nat → Int
  | 0 => 0
  | i + 1 => lzB P S i + ((wB P S i - wB P S (i + 1)).natAbs : Int)
/-- the places, the start -/
structure PlB (P S : List Int) (gap : Int) : Prop where
  nd : P.Nodup
  len : P.length = S.length + 1
  good : Good S
  sub : ∀ x ∈ S, x ∈ P
  ndS : S.Nodup
  pl : ∀ x ∈ P, -1000000000000000000 ≤ x ∧ x ≤ 1000000000000000000
  far : ∀ x ∈ P, ∀ y ∈ P, x ≠ y → gap ≤ ((x - y).natAbs : Int)
structure StB (P S : List Int) (i : Nat) : Prop where
  good : Good (stN P S i).1
  l1 : (stN P S i).1.length = S.length
  l2 : (stN P S i).2.length = S.length
  nd : (stN P S i).2.Nodup
  sub : ∀ x ∈ (stN P S i).2, x ∈ P
  sum : lzB P S i + ways (stN P S i).1 (stN P S i).2 ≤ pdB P S i
theorem StB.wish {P S : List Int} {gap : Int} {i : Nat} (h : PlB P S gap) (s : StB P S i) : wB P S i ∈ P ∧ wB P S i ∉ (stN P S i).2 := by
  obtain ⟨h1, h2, _⟩ := lack_is (P := P) (L := (stN P S i).2) h.nd (by have := s.l2; have := h.len; omega)
  exact ⟨h1, h2⟩
theorem StB.next {P S : List Int} {gap : Int} {i : Nat} (h : PlB P S gap) (s : StB P S i) : StB P S (i + 1) ∧ wB P S (i + 1) ≠ wB P S i := by
  obtain ⟨w1, w2⟩ := s.wish h
  have e1 : (stN P S (i + 1)).1 = goB (stN P S i).1 (wB P S i) := rfl
  have e2 : (stN P S (i + 1)).2 = (stN P S i).2.set ((goB (stN P S i).1 (wB P S i)).idxOf (wB P S i)) (wB P S i) := rfl
  have hp := h.pl _ w1
  have g' := s.good.go hp.1 hp.2
  have hin := goB_in s.good.srt s.good.lo (w := wB P S i)
  have hlen := goB_len s.good.srt s.good.lo (w := wB P S i)
  have l1 := s.l1
  have l2 := s.l2
  generalize hw : wB P S i = w at *
  generalize hns' : goB (stN P S i).1 w = ns' at *
  have hj : ns'.idxOf w < ns'.length := List.idxOf_lt_length_iff.mpr hin
  generalize hjj : ns'.idxOf w = j at *
  have nj : ns'.getD j 0 = w := by
    rw [List.getD_eq_getElem?_getD, List.getElem?_eq_getElem hj]
    subst hjj
    exact List.getElem_idxOf hj
  generalize hns : (stN P S i).1 = ns at *
  generalize hlz : (stN P S i).2 = lz at *
  have hj2 : j < lz.length := by omega
  have nd2 : (lz.set j w).Nodup := by
    rw [List.set_eq_take_append_cons_drop, if_pos hj2]
    have hd : (lz.take j ++ lz[j] :: lz.drop (j + 1)).Nodup := by rw [← List.drop_eq_getElem_cons hj2, List.take_append_drop, ← hlz]; exact s.nd
    rw [List.nodup_append] at hd ⊢
    obtain ⟨d1, d2, d3⟩ := hd
    refine ⟨d1, List.nodup_cons.mpr ⟨fun z => w2 (List.mem_of_mem_drop z), (List.nodup_cons.mp d2).2⟩, fun a ha b hb => ?_⟩
    rcases List.mem_cons.mp hb with rfl | hb
    · intro z
      rw [z] at ha
      exact w2 (List.mem_of_mem_take ha)
    · exact d3 a ha b (List.mem_cons_of_mem _ hb)
  have sub2 : ∀ x ∈ lz.set j w, x ∈ P := fun x hx => by
    rcases List.mem_or_eq_of_mem_set hx with z | z
    · exact s.sub x (by rw [hlz]; exact z)
    · rw [z]; exact w1
  have old : lz[j] ∈ P := s.sub _ (by rw [hlz]; exact List.getElem_mem hj2)
  have nold : lz[j] ∉ lz.set j w := fun z => by
    rw [List.set_eq_take_append_cons_drop, if_pos hj2] at z
    have hd : (lz.take j ++ lz[j] :: lz.drop (j + 1)).Nodup := by rw [← List.drop_eq_getElem_cons hj2, List.take_append_drop, ← hlz]; exact s.nd
    rw [List.nodup_append] at hd
    obtain ⟨d1, d2, d3⟩ := hd
    rcases List.mem_append.mp z with z | z
    · exact d3 _ z _ List.mem_cons_self rfl
    · rcases List.mem_cons.mp z with z | z
      · exact w2 (by rw [← z]; exact List.getElem_mem hj2)
      · exact (List.nodup_cons.mp d2).1 z
  have wn : wB P S (i + 1) = lz[j] := by
    show lack P (stN P S (i + 1)).2 = _
    rw [e2]
    refine lack_uniq h.nd nd2 (by rw [List.length_set]; have := h.len; omega) sub2 old nold
  have tri := ways_tri (a := ns') (b := ns) (c := lz) hlen (by omega)
  have hset := ways_set (a := ns') (b := lz) (j := j) (by omega) hj
  rw [nj] at hset
  have lj : lz.getD j 0 = lz[j] := by rw [List.getD_eq_getElem?_getD, List.getElem?_eq_getElem hj2]; rfl
  rw [lj] at hset
  have wc := ways_comm ns ns'
  have sum := s.sum
  rw [hns, hlz] at sum
  refine ⟨⟨by rw [e1]; exact g', by rw [e1, hlen]; exact l1, by rw [e2, List.length_set]; exact l2, by rw [e2]; exact nd2, by rw [e2]; exact sub2, ?_⟩, ?_⟩
  · show lzB P S i + ((wB P S i - wB P S (i + 1)).natAbs : Int) + ways (stN P S (i + 1)).1 (stN P S (i + 1)).2 ≤ pdB P S i + ways (stN P S i).1 (stN P S (i + 1)).1
    rw [e1, e2, hns, hw, wn]
    omega
  · rw [wn]
    intro z
    exact w2 (by rw [← z]; exact List.getElem_mem hj2)
theorem PlB.at_ {P S : List Int} {gap : Int} (h : PlB P S gap) : ∀ i : Nat, StB P S i
  | 0 => ⟨h.good, rfl, rfl, h.ndS, h.sub, by show (0 : Int) + ways S S ≤ 0; rw [ways_self]; exact Int.le_refl _⟩
  | i + 1 => ((h.at_ i).next h).1
theorem PlB.ne {P S : List Int} {gap : Int} (h : PlB P S gap) (i : Nat) : wB P S (i + 1) ≠ wB P S i := ((h.at_ i).next h).2
theorem PlB.in_ {P S : List Int} {gap : Int} (h : PlB P S gap) (i : Nat) : wB P S i ∈ P := ((h.at_ i).wish h).1
theorem PlB.lazy {P S : List Int} {gap : Int} (h : PlB P S gap) (i : Nat) : lzB P S i ≤ pdB P S i := by
  have := (h.at_ i).sum
  have := ways_nn (stN P S i).1 (stN P S i).2
  omega
theorem PlB.pays {P S : List Int} {gap : Int} (h : PlB P S gap) : ∀ i : Nat, gap * i ≤ lzB P S i
  | 0 => by show gap * 0 ≤ 0; omega
  | i + 1 => by
    have ih := h.pays i
    have := h.far _ (h.in_ i) _ (h.in_ (i + 1)) (fun z => h.ne i z.symm)
    show gap * ((i + 1 : Nat) : Int) ≤ lzB P S i + ((wB P S i - wB P S (i + 1)).natAbs : Int)
    rw [show ((i + 1 : Nat) : Int) = (i : Int) + 1 by omega, Int.mul_add, Int.mul_one]
    omega
/-- all places but x -/
def exc (P : List Int) (x : Int) : List Int := P.filter fun y => !decide (y = x)
theorem exc_erase {P : List Int} {x : Int} (nd : P.Nodup) : exc P x = P.erase x := by
  rw [nd.erase_eq_filter]
  unfold exc
  refine List.filter_congr fun y _ => ?_
  by_cases h : y = x
  · simp [h]
  · simp [h]
theorem exc_perm {P : List Int} {x : Int} (nd : P.Nodup) (hx : x ∈ P) : (x :: exc P x).Perm P := by
  rw [exc_erase nd]
  exact (List.perm_cons_erase hx).symm
theorem exc_srt {P : List Int} {x : Int} (h : P.Pairwise (· ≤ ·)) : (exc P x).Pairwise (· ≤ ·) := h.sublist List.filter_sublist
theorem exc_len {P : List Int} {x : Int} (nd : P.Nodup) (hx : x ∈ P) : (exc P x).length + 1 = P.length := by
  have := (exc_perm nd hx).length_eq
  simpa using this
theorem exc_mem {P : List Int} {x y : Int} : y ∈ exc P x ↔ y ∈ P ∧ y ≠ x := by
  unfold exc
  rw [List.mem_filter]
  simp
theorem exc_ways {P : List Int} {x y : Int} (nd : P.Nodup) (srt : P.Pairwise (· ≤ ·)) (hx : x ∈ P) (hy : y ∈ P) : ways (exc P x) (exc P y) = ((x - y).natAbs : Int) := by
  by_cases c : x = y
  · rw [c, ways_self]; omega
  · have hm : y ∈ exc P x := exc_mem.mpr ⟨hy, fun z => c z.symm⟩
    have hk : (exc P x).idxOf y < (exc P x).length := List.idxOf_lt_length_iff.mpr hm
    have ek : (exc P x)[(exc P x).idxOf y] = y := List.getElem_idxOf hk
    generalize hkk : (exc P x).idxOf y = k at *
    have spl : exc P x = (exc P x).take k ++ y :: (exc P x).drop (k + 1) := by
      conv => rhs; rw [← ek]
      rw [← List.drop_eq_getElem_cons hk, List.take_append_drop]
    have p1 : (y :: exc P y).Perm (y :: (x :: ((exc P x).take k ++ (exc P x).drop (k + 1)))) := by
      refine (exc_perm nd hy).trans ((exc_perm nd hx).symm.trans ?_)
      refine (List.Perm.cons x (show (exc P x).Perm (y :: ((exc P x).take k ++ (exc P x).drop (k + 1))) from ?_)).trans (List.Perm.swap _ _ _)
      conv => lhs; rw [spl]
      exact List.perm_middle
    have st : Sent (exc P x) k x (exc P y) := by
      refine ⟨p1.cons_inv.trans ?_, exc_srt srt⟩
      rw [List.append_assoc]
      exact List.perm_middle.symm
    rw [sent_ways (exc_srt srt) hk st, List.getD_eq_getElem?_getD, List.getElem?_eq_getElem hk]
    show (((exc P x)[k] - x).natAbs : Int) = _
    rw [ek]
    omega
/-- the hole, and where the next one goes -/
def hoB (w : Nat → Int) (p last : Int) : Nat → Int × Int
  | 0 => (last, p)
  | i + 1 => (if w i = (hoB w p last i).1 then (hoB w p last i).2 else (hoB w p last i).1, w i)
def wyB (P : List Int) (w : Nat → Int) (p last : Int) (n : Nat) : List (List Int) := (List.range n).map fun i => exc P (hoB w p last (i + 1)).1
theorem wyB_len (P : List Int) (w : Nat → Int) (p last : Int) (n : Nat) : (wyB P w p last n).length = n := by unfold wyB; simp
theorem wyB_succ (P : List Int) (w : Nat → Int) (p last : Int) (n : Nat) : wyB P w p last (n + 1) = wyB P w p last n ++ [exc P (hoB w p last (n + 1)).1] := by unfold wyB; rw [List.range_succ, List.map_append]; rfl
theorem wyB_at {P : List Int} {w : Nat → Int} {p last : Int} {n i : Nat} {x : List Int} (h : (wyB P w p last n)[i]? = some x) : i < n ∧ x = exc P (hoB w p last (i + 1)).1 := by
  have hi := (List.getElem?_eq_some_iff.mp h).1
  rw [wyB_len] at hi
  refine ⟨hi, ?_⟩
  unfold wyB at h
  rw [List.getElem?_map, List.getElem?_range hi] at h
  exact (Option.some.inj h).symm
def prB (P : List Int) (w : Nat → Int) (p last : Int) : Nat → Int
  | 0 => 0
  | i + 1 => prB P w p last i + ways (exc P (hoB w p last i).1) (exc P (hoB w p last (i + 1)).1)
theorem prB_nn (P : List Int) (w : Nat → Int) (p last : Int) : ∀ n, 0 ≤ prB P w p last n
  | 0 => Int.le_refl _
  | n + 1 => by
    have := prB_nn P w p last n
    have := ways_nn (exc P (hoB w p last n).1) (exc P (hoB w p last (n + 1)).1)
    show 0 ≤ prB P w p last n + ways _ _
    omega
theorem hoB_in {P : List Int} {w : Nat → Int} {p last : Int} (hw : ∀ i, w i ∈ P) (hp : p ∈ P) (hl : last ∈ P) : ∀ i, (hoB w p last i).1 ∈ P ∧ (hoB w p last i).2 ∈ P
  | 0 => ⟨hl, hp⟩
  | i + 1 => by
    obtain ⟨h1, h2⟩ := hoB_in hw hp hl i
    refine ⟨?_, hw i⟩
    show (if w i = (hoB w p last i).1 then (hoB w p last i).2 else (hoB w p last i).1) ∈ P
    split
    · exact h2
    · exact h1
theorem hoB_wish {w : Nat → Int} {p last : Int} (hne : ∀ i, w (i + 1) ≠ w i) (hp : w 0 = last → p ≠ last) : ∀ i, (hoB w p last (i + 1)).1 ≠ w i
  | 0 => by
    show (if w 0 = last then p else last) ≠ w 0
    by_cases c : w 0 = last
    · rw [if_pos c, c]; exact hp c
    · rw [if_neg c]; exact fun z => c z.symm
  | i + 1 => by
    show (if w (i + 1) = (hoB w p last (i + 1)).1 then (hoB w p last (i + 1)).2 else (hoB w p last (i + 1)).1) ≠ w (i + 1)
    by_cases c : w (i + 1) = (hoB w p last (i + 1)).1
    · rw [if_pos c]
      show w i ≠ w (i + 1)
      exact fun z => hne i z.symm
    · rw [if_neg c]; exact fun z => c z.symm
theorem sum_one {x c : Int} (hc : 0 ≤ c) : ∀ {l : List Int}, l.Nodup → (l.map fun h => if x = h then c else 0).sum ≤ c
  | [], _ => hc
  | h :: l, nd => by
    obtain ⟨n1, n2⟩ := List.nodup_cons.mp nd
    have ih := sum_one (x := x) hc n2
    rw [List.map_cons, List.sum_cons]
    by_cases e : x = h
    · rw [if_pos e]
      have : (l.map fun h => if x = h then c else 0).sum = 0 := by
        rw [List.map_congr_left (g := fun _ => (0 : Int)) fun y hy => if_neg (fun z => n1 (by rw [← e, z]; exact hy))]
        clear ih nd n1 n2
        induction l with
        | nil => rfl
        | cons a r ih => rw [List.map_cons, List.sum_cons, ih]; rfl
      omega
    · rw [if_neg e]; omega
theorem nd_repl {x b : Int} : ∀ {l : List Int}, l.Nodup → b ∉ l → (l.map fun h => if x = h then b else h).Nodup
  | [], _, _ => List.nodup_nil
  | h :: l, nd, hb => by
    obtain ⟨n1, n2⟩ := List.nodup_cons.mp nd
    have hb1 : b ≠ h := fun z => hb (by rw [z]; exact List.mem_cons_self)
    have hb2 : b ∉ l := fun z => hb (List.mem_cons_of_mem _ z)
    rw [List.map_cons]
    refine List.nodup_cons.mpr ⟨fun z => ?_, nd_repl n2 hb2⟩
    obtain ⟨y, hy, e⟩ := List.mem_map.mp z
    by_cases c1 : x = h
    · rw [if_pos c1] at e
      by_cases c2 : x = y
      · exact n1 (by rw [← c1, c2]; exact hy)
      · rw [if_neg c2] at e
        exact hb2 (by rw [← e]; exact hy)
    · rw [if_neg c1] at e
      by_cases c2 : x = y
      · rw [if_pos c2] at e; exact hb1 e
      · rw [if_neg c2] at e; exact n1 (by rw [← e]; exact hy)
theorem least_le {m : Int} : ∀ {l : List Int}, (∀ y ∈ l, m ≤ y) → (l.length : Int) * m ≤ l.sum
  | [], _ => by simp
  | y :: l, h => by
    have := least_le (l := l) fun z hz => h z (List.mem_cons_of_mem _ hz)
    have := h y List.mem_cons_self
    rw [List.length_cons, List.sum_cons, show ((l.length + 1 : Nat) : Int) = (l.length : Int) + 1 by omega, Int.add_mul, Int.one_mul]
    omega
theorem sum_map2 (f g : Int → Int) : ∀ l : List Int, (l.map fun x => f x + g x).sum = (l.map f).sum + (l.map g).sum
  | [] => rfl
  | x :: l => by rw [List.map_cons, List.map_cons, List.map_cons, List.sum_cons, List.sum_cons, List.sum_cons, sum_map2 f g l]; omega
/-- what all the ways pay together -/
theorem all_ways {P S : List Int} {gap last : Int} (h : PlB P S gap) (srt : P.Pairwise (· ≤ ·)) (hl : last ∈ P) (nl : last ∉ S) : ∀ n : Nat,
    ((S.map fun p => prB P (wB P S) p last (n + 1)).sum ≤ (S.map fun p => ((last - p).natAbs : Int)).sum + lzB P S n) ∧
    (S.map fun p => (hoB (wB P S) p last (n + 1)).1).Nodup ∧ wB P S n ∉ (S.map fun p => (hoB (wB P S) p last (n + 1)).1) ∧ ∀ p, (hoB (wB P S) p last (n + 1)).2 = wB P S n
  | 0 => by
    have w0 : wB P S 0 = last := lack_uniq h.nd h.ndS h.len h.sub hl nl
    have e : ∀ p, (hoB (wB P S) p last 1).1 = p := fun p => by
      show (if wB P S 0 = last then p else last) = p
      rw [if_pos w0]
    refine ⟨?_, ?_, ?_, fun p => rfl⟩
    · rw [List.map_congr_left (g := fun p => ((last - p).natAbs : Int)) fun p hp => ?_]
      · show _ ≤ _ + (0 : Int)
        omega
      · show (0 : Int) + ways (exc P last) (exc P (hoB (wB P S) p last 1).1) = _
        rw [e, exc_ways h.nd srt hl (h.sub p hp)]
        omega
    · rw [List.map_congr_left (g := id) fun p _ => e p, List.map_id]; exact h.ndS
    · rw [List.map_congr_left (g := id) fun p _ => e p, List.map_id, w0]; exact nl
  | n + 1 => by
    obtain ⟨i1, i2, i3, i4⟩ := all_ways h srt hl nl n
    have st : ∀ p, (hoB (wB P S) p last (n + 1 + 1)).1 = if wB P S (n + 1) = (hoB (wB P S) p last (n + 1)).1 then wB P S n else (hoB (wB P S) p last (n + 1)).1 := fun p => by
      show (if wB P S (n + 1) = (hoB (wB P S) p last (n + 1)).1 then (hoB (wB P S) p last (n + 1)).2 else (hoB (wB P S) p last (n + 1)).1) = _
      rw [i4 p]
    have em : (S.map fun p => (hoB (wB P S) p last (n + 1 + 1)).1) = ((S.map fun p => (hoB (wB P S) p last (n + 1)).1).map fun h => if wB P S (n + 1) = h then wB P S n else h) := by
      rw [List.map_map]
      exact List.map_congr_left fun p _ => st p
    refine ⟨?_, ?_, ?_, fun p => rfl⟩
    · have hs := sum_one (x := wB P S (n + 1)) (c := ((wB P S n - wB P S (n + 1)).natAbs : Int)) (by omega) i2
      rw [List.map_map] at hs
      have e2 : (S.map fun p => prB P (wB P S) p last (n + 1 + 1)) = S.map fun p => prB P (wB P S) p last (n + 1) + (if wB P S (n + 1) = (hoB (wB P S) p last (n + 1)).1 then ((wB P S n - wB P S (n + 1)).natAbs : Int) else 0) := by
        refine List.map_congr_left fun p hp => ?_
        show prB P (wB P S) p last (n + 1) + ways (exc P (hoB (wB P S) p last (n + 1)).1) (exc P (hoB (wB P S) p last (n + 1 + 1)).1) = _
        have hin := (hoB_in h.in_ (h.sub p hp) hl (n + 1)).1
        rw [st p]
        by_cases c : wB P S (n + 1) = (hoB (wB P S) p last (n + 1)).1
        · rw [if_pos c, if_pos c, exc_ways h.nd srt hin (h.in_ n), ← c]
          omega
        · rw [if_neg c, if_neg c, ways_self]
      rw [e2, sum_map2]
      show _ ≤ _ + (lzB P S n + ((wB P S n - wB P S (n + 1)).natAbs : Int))
      have hs' : (S.map fun p => if wB P S (n + 1) = (hoB (wB P S) p last (n + 1)).1 then ((wB P S n - wB P S (n + 1)).natAbs : Int) else 0).sum ≤ ((wB P S n - wB P S (n + 1)).natAbs : Int) := hs
      omega
    · rw [em]; exact nd_repl i2 i3
    · rw [em]
      intro z
      obtain ⟨y, hy, e⟩ := List.mem_map.mp z
      by_cases c : wB P S (n + 1) = y
      · rw [if_pos c] at e; exact h.ne n e.symm
      · rw [if_neg c] at e; exact c e.symm
/-- k + 1 places, a gap apart -/
def plcs (k : Nat) (gap : Int) : List Int := (List.range (k + 1)).map fun (i : Nat) => gap * (i : Int)
def stas (k : Nat) (gap : Int) : List Int := (List.range k).map fun (i : Nat) => gap * (i : Int)
theorem mul_lt' {gap : Int} {i j : Nat} (g : 1 ≤ gap) (h : i < j) : gap * (i : Int) + gap ≤ gap * (j : Int) := by
  have : gap * ((i : Int) + 1) ≤ gap * (j : Int) := Int.mul_le_mul_of_nonneg_left (by omega) (by omega)
  rw [Int.mul_add, Int.mul_one] at this
  exact this
theorem row_lt {gap : Int} (g : 1 ≤ gap) (n : Nat) : ((List.range n).map fun (i : Nat) => gap * (i : Int)).Pairwise (· < ·) := by
  refine List.pairwise_map.mpr ((List.pairwise_lt_range (n := n)).imp fun h => ?_)
  have := mul_lt' g h
  omega
theorem plB_of {k : Nat} {gap : Int} (k1 : 1 ≤ k) (k6 : k ≤ 6) (g1 : 1 ≤ gap) (g2 : gap ≤ 1000000000) : PlB (plcs k gap) (stas k gap) gap ∧ (plcs k gap).Pairwise (· ≤ ·) ∧ gap * (k : Int) ∈ plcs k gap ∧ gap * (k : Int) ∉ stas k gap := by
  have mem : ∀ x, x ∈ plcs k gap ↔ ∃ i : Nat, i ≤ k ∧ gap * (i : Int) = x := fun x => by
    unfold plcs
    rw [List.mem_map]
    exact ⟨fun ⟨i, h1, h2⟩ => ⟨i, by have := List.mem_range.mp h1; omega, h2⟩, fun ⟨i, h1, h2⟩ => ⟨i, List.mem_range.mpr (by omega), h2⟩⟩
  have memS : ∀ x, x ∈ stas k gap ↔ ∃ i : Nat, i < k ∧ gap * (i : Int) = x := fun x => by
    unfold stas
    rw [List.mem_map]
    exact ⟨fun ⟨i, h1, h2⟩ => ⟨i, List.mem_range.mp h1, h2⟩, fun ⟨i, h1, h2⟩ => ⟨i, List.mem_range.mpr h1, h2⟩⟩
  have bnd : ∀ i : Nat, i ≤ k → 0 ≤ gap * (i : Int) ∧ gap * (i : Int) ≤ 6000000000 := fun i hi => by
    refine ⟨Int.mul_nonneg (by omega) (by omega), ?_⟩
    have : gap * (i : Int) ≤ 1000000000 * 6 := Int.mul_le_mul g2 (by omega) (by omega) (by omega)
    omega
  have l1 : (plcs k gap).length = k + 1 := by unfold plcs; simp
  have l2 : (stas k gap).length = k := by unfold stas; simp
  refine ⟨⟨?_, by omega, ⟨by omega, by omega, ?_, ?_⟩, ?_, ?_, ?_, ?_⟩, ?_, ?_, ?_⟩
  · exact (row_lt g1 (k + 1)).imp fun h => Int.ne_of_lt h
  · exact (row_lt g1 k).imp fun h => Int.le_of_lt h
  · intro x hx
    obtain ⟨i, hi, rfl⟩ := (memS x).mp hx
    have := bnd i (by omega)
    omega
  · intro x hx
    obtain ⟨i, hi, rfl⟩ := (memS x).mp hx
    exact (mem _).mpr ⟨i, by omega, rfl⟩
  · exact (row_lt g1 k).imp fun h => Int.ne_of_lt h
  · intro x hx
    obtain ⟨i, hi, rfl⟩ := (mem x).mp hx
    have := bnd i (by omega)
    omega
  · intro x hx y hy ne
    obtain ⟨i, hi, rfl⟩ := (mem x).mp hx
    obtain ⟨j, hj, rfl⟩ := (mem y).mp hy
    rcases Nat.lt_trichotomy i j with c | c | c
    · have := mul_lt' g1 c; omega
    · rw [c] at ne; exact (ne rfl).elim
    · have := mul_lt' g1 c; omega
  · exact (row_lt g1 (k + 1)).imp fun h => Int.le_of_lt h
  · exact (mem _).mpr ⟨k, Nat.le_refl _, rfl⟩
  · intro z
    obtain ⟨i, hi, e⟩ := (memS _).mp z
    have := mul_lt' g1 hi
    omega
theorem first_sum {k : Nat} {gap : Int} (k1 : 1 ≤ k) (k6 : k ≤ 6) (g1 : 1 ≤ gap) : ((stas k gap).map fun p => ((gap * (k : Int) - p).natAbs : Int)).sum ≤ gap * (k : Int) * ((k : Int) + 1) / 2 := by
  have : k = 1 ∨ k = 2 ∨ k = 3 ∨ k = 4 ∨ k = 5 ∨ k = 6 := by omega
  rcases this with rfl | rfl | rfl | rfl | rfl | rfl <;> (simp only [stas, List.range, List.range.loop, List.map_cons, List.map_nil, List.sum_cons, List.sum_nil]; omega)
/-- the way that pays least -/
theorem best_pays {k n : Nat} {gap m : Int} (k1 : 1 ≤ k) (k6 : k ≤ 6) (g1 : 1 ≤ gap) (g2 : gap ≤ 1000000000) (hm : ∀ p ∈ stas k gap, m ≤ prB (plcs k gap) (wB (plcs k gap) (stas k gap)) p (gap * k) (n + 1)) :
    (k : Int) * m ≤ pdB (plcs k gap) (stas k gap) (n + 1) + gap * k * (k + 1) / 2 ∧ ((n + 1 : Nat) : Int) * gap ≤ pdB (plcs k gap) (stas k gap) (n + 1) := by
  obtain ⟨h, srt, hl, nl⟩ := plB_of k1 k6 g1 g2
  obtain ⟨a1, _⟩ := all_ways h srt hl nl n
  have a2 := first_sum k1 k6 g1
  have a3 := h.lazy n
  have a4 := h.lazy (n + 1)
  have a5 := h.pays (n + 1)
  have a6 : pdB (plcs k gap) (stas k gap) n ≤ pdB (plcs k gap) (stas k gap) (n + 1) := by
    have := ways_nn (stN (plcs k gap) (stas k gap) n).1 (stN (plcs k gap) (stas k gap) (n + 1)).1
    show _ ≤ pdB (plcs k gap) (stas k gap) n + ways _ _
    omega
  have a7 := least_le (m := m) (l := (stas k gap).map fun p => prB (plcs k gap) (wB (plcs k gap) (stas k gap)) p (gap * k) (n + 1)) fun y hy => by
    obtain ⟨p, hp, rfl⟩ := List.mem_map.mp hy
    exact hm p hp
  rw [List.length_map, show (stas k gap).length = k by unfold stas; simp] at a7
  refine ⟨by omega, ?_⟩
  rw [Int.mul_comm]
  omega
theorem RefsH.butL {H H' : Hp} {x : Addr} {zs : List V} (hx : H x = some (.lst zs)) (b : But x H H') {vs : List V} {Ls : List (List Int)} (r : RefsH H vs Ls) : RefsH H' vs Ls := by
  induction r with
  | nil => exact .nil
  | cons c _ ih => exact .cons (b _ _ (fun z => by rw [z, hx] at c; cases c) c) ih
theorem RefsH.extT {H H' : Hp} (e : ExtT H H') {vs : List V} {Ls : List (List Int)} (r : RefsH H vs Ls) : RefsH H' vs Ls := by
  induction r with
  | nil => exact .nil
  | cons c _ ih => exact .cons (e _ _ c rfl) ih
theorem LineAt.butL {a : Adr} {C : Addr} {H H' : Hp} {r l : Addr} {ns : List Int} {z : Int} {xs : List V} (hl : H l = some (.lst xs)) (b : But l H H') (h : LineAt a C H r ns z) : LineAt a C H' r ns z := by
  obtain ⟨dx, wo, dw, st, h1, h2, h3⟩ := h.ex
  exact ⟨dx, wo, dw, st, b _ _ (ne_of h1 hl (by intro z; cases z)) h1, b _ _ (ne_of h2 hl (by intro z; cases z)) h2, b _ _ (ne_of h3 hl (by intro z; cases z)) h3⟩
theorem LineAt.extT {a : Adr} {C : Addr} {H H' : Hp} {r : Addr} {ns : List Int} {z : Int} (e : ExtT H H') (h : LineAt a C H r ns z) : LineAt a C H' r ns z := by
  obtain ⟨dx, wo, dw, st, h1, h2, h3⟩ := h.ex
  exact ⟨dx, wo, dw, st, e _ _ h1 rfl, e _ _ h2 rfl, e _ _ h3 rfl⟩
theorem atI_last2 {ns : List Int} (h : ns ≠ []) : atI (ns.map V.int) (-1) = some (.int (ns.getLastD 0)) := by
  have hl : 0 < ns.length := List.length_pos_iff.mpr h
  have hx : ixN ns.length (-1) = some (ns.length - 1) := by
    unfold ixN
    rw [if_neg (by decide), if_pos (by omega)]
    congr 1
    omega
  unfold atI
  rw [List.length_map, hx]
  show (ns.map V.int)[ns.length - 1]? = _
  rw [List.getElem?_map, List.getElem?_eq_getElem (by omega), List.getLastD_eq_getLast?, List.getLast?_eq_getElem?, List.getElem?_eq_getElem (by omega)]
  rfl
theorem rng_at {w : Nat → Int} {n i : Nat} {x : V} (h : (((List.range n).map w).map V.int)[i]? = some x) : i < n ∧ x = .int (w i) := by
  have hi := (List.getElem?_eq_some_iff.mp h).1
  rw [List.length_map, List.length_map, List.length_range] at hi
  refine ⟨hi, ?_⟩
  rw [List.getElem?_map, List.getElem?_map, List.getElem?_range hi] at h
  exact (Option.some.inj h).symm
/-- a list of ways -/
def WysH (H0 H : Hp) (vs : List V) (f : Nat → List (List Int)) : Prop := ∀ (i : Nat) (v : V), vs[i]? = some v → ∃ (l : Addr) (xs : List V), v = .ref l ∧ H0 l = none ∧ H l = some (.lst xs) ∧ RefsH H xs (f i)
theorem WysH.keep {H0 H H' : Hp} {vs : List V} {f : Nat → List (List Int)} (k : Kp H H') (h : WysH H0 H vs f) : WysH H0 H' vs f := fun i v e => by
  obtain ⟨l, xs, h1, h0, h2, h3⟩ := h i v e
  exact ⟨l, xs, h1, h0, k _ _ h2 rfl, RefsH.keep k h3⟩
theorem WysH.snoc {H0 H : Hp} {vs : List V} {f : Nat → List (List Int)} {l : Addr} {xs : List V} (h : WysH H0 H vs f) (h0 : H0 l = none) (h1 : H l = some (.lst xs)) (h2 : RefsH H xs (f vs.length)) : WysH H0 H (vs ++ [.ref l]) f := fun i v e => by
  by_cases c : i < vs.length
  · rw [List.getElem?_append_left c] at e; exact h i v e
  · have hi := (List.getElem?_eq_some_iff.mp e).1
    rw [List.length_append, List.length_singleton] at hi
    have : i = vs.length := by omega
    subst this
    rw [List.getElem?_append_right (Nat.le_refl _), Nat.sub_self] at e
    cases e
    exact ⟨l, xs, rfl, h0, h1, h2⟩

theorem plcs_last (k : Nat) (gap : Int) : (plcs k gap).getLastD 0 = gap * (k : Int) := by
  unfold plcs
  rw [List.range_succ, List.map_append, List.map_singleton]
  simp [List.getLastD_eq_getLast?]
theorem plcs_cut (k : Nat) (gap : Int) : (plcs k gap).dropLast = stas k gap := by
  unfold plcs stas
  rw [List.range_succ, List.map_append, List.map_singleton, List.dropLast_concat]
theorem plcs_exc {k : Nat} {gap : Int} (k1 : 1 ≤ k) (k6 : k ≤ 6) (g1 : 1 ≤ gap) (g2 : gap ≤ 1000000000) : exc (plcs k gap) (gap * (k : Int)) = stas k gap := by
  obtain ⟨h, _, hl, nl⟩ := plB_of k1 k6 g1 g2
  have e : plcs k gap = stas k gap ++ [gap * (k : Int)] := by
    unfold plcs stas
    rw [List.range_succ, List.map_append, List.map_singleton]
  unfold exc
  rw [e, List.filter_append, List.filter_eq_self.mpr fun y hy => ?_]
  · simp
  · simp
    intro z
    exact nl (by rw [← z]; exact hy)
theorem cutL_last {ns : List Int} (h : ns ≠ []) : cutV (ns.map V.int) none (some (-1)) = ns.dropLast.map V.int := by
  have hl : 0 < ns.length := List.length_pos_iff.mpr h
  unfold cutV
  rw [HT.sIx_none, List.drop_zero, Nat.sub_zero, List.length_map]
  have e : HT.sIx ns.length ns.length (some (-1)) = ns.length - 1 := by
    show (if (-1 : Int) < 0 then ((-1) + (ns.length : Int)).toNat else min (-1 : Int).toNat ns.length) = _
    rw [if_pos (by decide)]
    omega
  rw [e, ← List.map_take, List.dropLast_eq_take]
/-- nothing but, maybe, a table stood there -/
def NewT (H : Hp) (x : Addr) : Prop := ∀ o, H x = some o → noTb o = false
theorem newT_of {H H' : Hp} {x : Addr} (e : ExtT H H') (n : H' x = none) : NewT H x := fun o ho => by
  cases t : noTb o with
  | false => rfl
  | true => rw [e x o ho t] at n; cases n
theorem TabR.butL {H H' : Hp} {P r : Addr} {pos : Pos} {qual : Str} {xs : List V} (hr : H r = some (.lst xs)) (e : But r H H') (h : TabR H P pos qual) : TabR H' P pos qual := by
  rcases h with h | ⟨c, h, oc, vs, t, k, k2⟩
  · exact .inl (e _ _ (fun z => by rw [z, hr] at h; cases h) h)
  · exact .inr ⟨c, e _ _ (fun z => by rw [z, hr] at h; cases h) h, oc, vs, t, e _ _ (fun z => by rw [z, hr] at k; cases k) k, k2⟩
/-- the place that the chosen way leaves -/
def kfB (k : Nat) (gap : Int) (n : Nat) (i : Nat) : Int := prB (plcs k gap) (wB (plcs k gap) (stas k gap)) ((stas k gap).getD i 0) (gap * (k : Int)) n
def pbB (k : Nat) (gap : Int) (n : Nat) : Int := (stas k gap).getD (bestOf (lti (kfB k gap n)) (k - 1)) 0
/-- what the enemy of both tells -/
structure EnB (H : Hp) (t s wl yl : Addr) (xs : List V) (k : Nat) (gap : Int) (n : Nat) : Prop where
  t : H t = some (.tup [.ref s, .ref wl, .ref yl])
  s : H s = some (.tup ((stas k gap).map V.int))
  w : H wl = some (.lst ((wsB (plcs k gap) (stas k gap) n).map V.int))
  y : H yl = some (.lst xs)
  r : RefsH H xs (wyB (plcs k gap) (wB (plcs k gap) (stas k gap)) (pbB k gap n) (gap * (k : Int)) n)
theorem EnB.ext {H H' : Hp} {t s wl yl : Addr} {xs : List V} {k : Nat} {gap : Int} {n : Nat} (x : Ext H H') (h : EnB H t s wl yl xs k gap n) : EnB H' t s wl yl xs k gap n := ⟨x _ _ h.t, x _ _ h.s, x _ _ h.w, x _ _ h.y, h.r.mono x⟩
theorem EnB.extT {H H' : Hp} {t s wl yl : Addr} {xs : List V} {k : Nat} {gap : Int} {n : Nat} (x : ExtT H H') (h : EnB H t s wl yl xs k gap n) : EnB H' t s wl yl xs k gap n := ⟨x _ _ h.t rfl, x _ _ h.s rfl, x _ _ h.w rfl, x _ _ h.y rfl, RefsH.extT x h.r⟩

def sp_law_whole : Sp := fun vs H Q _ => ∃ x k, vs = [x] ∧ HasK H x k ∧ Q (.bl (k == .int)) H
theorem ok_law_whole (T : Txt K mg a) : FnOk P w K mg base (CXU P w) 1 a.f_law_whole a.d_law_whole ["_law_found"] (sp_law_whole) := by
  refine T.F_law_whole.okU sc_law_whole (fun vs H Q E h => ?_) (fun cdv A outer s H vs Q E hr h => ?_)
  · obtain ⟨x, k, rfl, hk, hq⟩ := h
    rfl
  · obtain ⟨x, k, rfl, hk, hq⟩ := h
    refine ⟨_, (pss_one (ps_ret (pe_and (pe_callB cIsin (by rfl) T.n_isinstance PyProof.Rows.boot_isinstance (pa_cons (pv 0) (pa_cons (pe_bltn (v := V.ty "int") (by rfl) T.n_int PyProof.Rows.boot_int rfl) pa_nil))) (pe_one (pe_not (pe_callB cIsin (by rfl) T.n_isinstance PyProof.Rows.boot_isinstance (pa_cons (pv 0) (pa_cons (pe_bltn (v := V.ty "bool") (by rfl) T.n_bool PyProof.Rows.boot_bool rfl) pa_nil)))))))), ?_⟩
    repeat walk_at "vs"
    refine r_isI hk ?_
    cases k <;> (repeat walk_at "vs") <;> first | exact hq | (refine r_isB hk ?_; (repeat walk_at "vs"); exact hq)

def sp_law_same (n : Nat) : Sp := fun vs H Q _ => ∃ x y d1 d2, vs = [x, y] ∧ Rep H d1 x ∧ Rep H d2 y ∧ d2.fine = true ∧ d2.depth ≤ n ∧ ∀ b H', (b = true ↔ d1 = d2) → Ext H H' → Q (.bl b) H'
def sp_law_all_same (n : Nat) : Sp := fun vs H Q _ => ∃ p q xs ys ds es, vs = [.ref p, .ref q] ∧ H p = some (.lst xs) ∧ H q = some (.lst ys) ∧ RepL H ds xs ∧ RepL H es ys ∧ D.fineL es = true ∧ D.depthL es ≤ n ∧ xs.length = ys.length ∧
  ∀ b H', (b = true ↔ ds = es) → Ext H H' → Q (.bl b) H'
theorem all_same_of {n k : Nat} (T : Txt K mg a) (G : FnOk P w K mg base (CXU P w) k a.f_law_same a.d_law_same ["_law_found", "_law_due"] (sp_law_same n)) :
    FnOk P w K mg base (CXU P w) (k + 1) a.f_law_all_same a.d_law_all_same ["_law_found", "_law_due"] (sp_law_all_same n) := by
  refine T.F_law_all_same.okU sc_law_all_same (fun vs H Q E h => ?_) (fun cdv A outer s H vs Q E hr h => ?_)
  · obtain ⟨p, q, xs, ys, ds, es, rfl, _⟩ := h
    rfl
  · obtain ⟨p, q, xs, ys, ds, es, rfl, hp, hq', hd, he, hf, hn, hl, hq⟩ := h
    refine ⟨_, (pss_cons (ps_for PassesOwn.never rfl (pi_zip2 rfl T.n_zip (pa_cons (pv 0) (pa_cons (pv 1) pa_nil))) (pg_tup rfl (pgs_cons (pg_name (i := 2) sc_law_all_same.nd rfl (by first | exact Or.inl rfl | exact Or.inr rfl)) (pgs_cons (pg_name (i := 3) sc_law_all_same.nd rfl (by first | exact Or.inl rfl | exact Or.inr rfl)) pgs_nil))) (pss_one (ps_if (pt_not (ptT (pe_call (G) hr (by rfl) T.m_law_same T.F_law_same.kp T.b_law_same .nil passU (pa_cons (pv 2) (pa_cons (pv 3) pa_nil))) (fun _ => rfl))) (pss_one (ps_ret pe_bl)) pss_nil)))
      (pss_one (ps_ret pe_bl))), ?_⟩
    have l1 := hd.length
    have l2 := he.length
    repeat walk_at "vs"
    refine ⟨p, q, xs, ys, false, false, rfl, SqL.of hp, SqL.of hq', for_zip2 (fun i σ H2 => (∃ u v, σ = [some (.ref p), some (.ref q), u, v]) ∧ Ext H H2 ∧ ds.take i = es.take i) hl ⟨⟨none, none, rfl⟩, Ext.rfl', rfl⟩ (fun i σ H2 _ ⟨_, e, _⟩ => ⟨SqL.of (e _ _ hp), SqL.of (e _ _ hq')⟩) ?_ ?_⟩
    · rintro i x y σ H2 r hx hy ⟨⟨u, v, rfl⟩, e, ht⟩ hr0
      obtain ⟨d, d1, d2⟩ := hd.get hx
      obtain ⟨f, f1, f2⟩ := he.get hy
      refine r_gtup upd_same rfl ?_
      repeat walk_at "vs"
      have e2 : Ext H (upd H2 r (.tup [x, y])) := e.tr (ext_upd hr0)
      refine ⟨x, y, d, f, rfl, d2.mono e2, f2.mono e2, fineL_of hf f1, depthL_le hn f1, fun b H3 hb e3 => ?_⟩
      repeat walk_at "vs"
      cases b with
      | true =>
        repeat walk_at "vs"
        refine ⟨⟨_, _, rfl⟩, e2.tr e3, ?_⟩
        rw [List.take_add_one, List.take_add_one, d1, f1, ht, hb.mp rfl]
      | false =>
        repeat walk_at "vs"
        refine hq false H3 ⟨fun z => Bool.noConfusion z, fun z => ?_⟩ (e2.tr e3)
        subst z
        rw [d1] at f1
        cases f1
        exact hb.mpr rfl
    · rintro σ H2 ⟨⟨u, v, rfl⟩, e, ht⟩
      repeat walk_at "vs"
      refine hq true H2 ⟨fun _ => ?_, fun _ => rfl⟩ e
      rw [List.take_of_length_le (by omega), List.take_of_length_le (by omega)] at ht
      exact ht
theorem same_of {n k : Nat} {spA : Sp} (T : Txt K mg a) (hA : ∀ vs H Q E, (∃ m, n = m + 1 ∧ sp_law_all_same m vs H Q E) → spA vs H Q E) (GA : FnOk P w K mg base (CXU P w) (k + 1) a.f_law_all_same a.d_law_all_same ["_law_found", "_law_due"] spA) :
    FnOk P w K mg base (CXU P w) (k + 2) a.f_law_same a.d_law_same ["_law_found", "_law_due"] (sp_law_same n) := by
  refine T.F_law_same.okU sc_law_same (fun vs H Q E h => ?_) (fun cdv A outer s H vs Q E hr h => ?_)
  · obtain ⟨x, y, d1, d2, rfl, _⟩ := h
    rfl
  · obtain ⟨x, y, d1, d2, rfl, h1, h2, hf, hn, hq⟩ := h
    refine ⟨_, (pss_cons (ps_if (ptT (pe_callB cIsin (by rfl) T.n_isinstance PyProof.Rows.boot_isinstance (pa_cons (pv 1) (pa_cons (pe_bltn (v := V.ty "tuple") (by rfl) T.n_tuple PyProof.Rows.boot_tuple rfl) pa_nil))) (fun _ => rfl)) (pss_one (ps_ret (pe_and (pe_callB cIsin (by rfl) T.n_isinstance PyProof.Rows.boot_isinstance (pa_cons (pv 0) (pa_cons (pe_bltn (v := V.ty "tuple") (by rfl) T.n_tuple PyProof.Rows.boot_tuple rfl) pa_nil))) (pe_and (pe_cmpR (oEq hr) (pe_callB cLen (by rfl) T.n_len PySem.boot_len (pa_cons (pv 0) pa_nil)) (pe_callB cLen (by rfl) T.n_len PySem.boot_len (pa_cons (pv 1) pa_nil)) (nomark _)) (pe_one (pe_call (GA) (hr.mono (by omega)) (by rfl) T.m_law_all_same T.F_law_all_same.kp T.b_law_all_same .nil passU (pa_cons (pe_callTy cList (by rfl) T.n_list PyProof.Rows.boot_list (pa_cons (pv 0) pa_nil)) (pa_cons (pe_callTy cList (by rfl) T.n_list PyProof.Rows.boot_list (pa_cons (pv 1) pa_nil)) pa_nil)))))))) pss_nil)
      (pss_cons (ps_if (ptT (pe_callB cIsin (by rfl) T.n_isinstance PyProof.Rows.boot_isinstance (pa_cons (pv 1) (pa_cons (pe_bltn (v := V.ty "list") (by rfl) T.n_list PyProof.Rows.boot_list rfl) pa_nil))) (fun _ => rfl)) (pss_one (ps_ret (pe_and (pe_callB cIsin (by rfl) T.n_isinstance PyProof.Rows.boot_isinstance (pa_cons (pv 0) (pa_cons (pe_bltn (v := V.ty "list") (by rfl) T.n_list PyProof.Rows.boot_list rfl) pa_nil))) (pe_and (pe_cmpR (oEq hr) (pe_callB cLen (by rfl) T.n_len PySem.boot_len (pa_cons (pv 0) pa_nil)) (pe_callB cLen (by rfl) T.n_len PySem.boot_len (pa_cons (pv 1) pa_nil)) (nomark _)) (pe_one (pe_call (GA) (hr.mono (by omega)) (by rfl) T.m_law_all_same T.F_law_all_same.kp T.b_law_all_same .nil passU (pa_cons (pv 0) (pa_cons (pv 1) pa_nil)))))))) pss_nil)
      (pss_cons (ps_if (ptT (pe_callB cIsin (by rfl) T.n_isinstance PyProof.Rows.boot_isinstance (pa_cons (pv 1) (pa_cons (pe_bltn (v := V.ty "bool") (by rfl) T.n_bool PyProof.Rows.boot_bool rfl) pa_nil))) (fun _ => rfl)) (pss_one (ps_ret (pe_and (pe_callB cIsin (by rfl) T.n_isinstance PyProof.Rows.boot_isinstance (pa_cons (pv 0) (pa_cons (pe_bltn (v := V.ty "bool") (by rfl) T.n_bool PyProof.Rows.boot_bool rfl) pa_nil))) (pe_one (pe_cmpR (oEq hr) (pv 0) (pv 1) (nomark _)))))) pss_nil)
      (pss_cons (ps_if (pt_cmpR oIsN (pv 1) pe_non (nomark _)) (pss_one (ps_ret (pe_cmpR oIsN (pv 0) pe_non (nomark _)))) pss_nil)
      (pss_cons (ps_if (ptT (pe_callB cIsin (by rfl) T.n_isinstance PyProof.Rows.boot_isinstance (pa_cons (pv 1) (pa_cons (pe_bltn (v := V.ty "str") (by rfl) T.n_str PyProof.Rows.boot_str rfl) pa_nil))) (fun _ => rfl)) (pss_one (ps_ret (pe_and (pe_callB cIsin (by rfl) T.n_isinstance PyProof.Rows.boot_isinstance (pa_cons (pv 0) (pa_cons (pe_bltn (v := V.ty "str") (by rfl) T.n_str PyProof.Rows.boot_str rfl) pa_nil))) (pe_one (pe_cmpR (oEq hr) (pv 0) (pv 1) (nomark _)))))) pss_nil)
      (pss_one (ps_ret (pe_and (pe_call (ok_law_whole T) (hr.mono (by omega)) (by rfl) T.m_law_whole T.F_law_whole.kp T.b_law_whole .nil passU (pa_cons (pv 0) pa_nil)) (pe_one (pe_cmpR (oEq hr) (pv 0) (pv 1) (nomark _))))))))))), ?_⟩
    have k1 := h1.kd
    have k2 := h2.kd
    have no : ∀ {B : Prop}, ¬ B → (false = true ↔ B) := fun nb => ⟨fun z => Bool.noConfusion z, fun z => (nb z).elim⟩
    repeat walk_at "vs"
    refine r_isT k2 ?_
    cases d2 with
    | tup es =>
      repeat walk_at "vs"
      refine r_isT k1 ?_
      cases d1 with
      | tup ds =>
        obtain ⟨p, xs, rfl, hp, hd⟩ := h1
        obtain ⟨q, ys, rfl, hq', he⟩ := h2
        repeat walk_at "vs"
        refine r_lenT hp ?_
        repeat walk_at "vs"
        refine r_lenT hq' ?_
        repeat walk_at "vs"
        refine iteD (fun hl => ?_) (fun hl => ?_)
        · repeat walk_at "vs"
          refine r_listT hp fun p2 H2 n2 hp2 e2 => ?_
          repeat walk_at "vs"
          refine r_listT (e2 _ _ hq') fun q2 H3 n3 hq3 e3 => ?_
          repeat walk_at "vs"
          have hn' : D.depthL es + 1 ≤ n := hn
          refine hA _ _ _ _ ⟨n - 1, by omega, p2, q2, xs, ys, ds, es, rfl, e3 _ _ hp2, hq3, hd.mono (e2.tr e3), he.mono (e2.tr e3), hf, by omega, by omega, fun b H4 hb e4 => ?_⟩
          exact hq b H4 (hb.trans ⟨fun z => by rw [z], fun z => by cases z; rfl⟩) ((e2.tr e3).tr e4)
        · repeat walk_at "vs"
          refine hq false H (no fun z => hl ?_) Ext.rfl'
          cases z
          have l1 := hd.length
          have l2 := he.length
          omega
      | _ =>
        repeat walk_at "vs"
        exact hq false H (no fun z => by cases z) Ext.rfl'
    | lst es =>
      repeat walk_at "vs"
      refine r_isL k2 ?_
      repeat walk_at "vs"
      refine r_isL k1 ?_
      cases d1 with
      | lst ds =>
        obtain ⟨p, xs, rfl, hp, hd⟩ := h1
        obtain ⟨q, ys, rfl, hq', he⟩ := h2
        repeat walk_at "vs"
        refine r_lenL hp ?_
        repeat walk_at "vs"
        refine r_lenL hq' ?_
        repeat walk_at "vs"
        refine iteD (fun hl => ?_) (fun hl => ?_)
        · repeat walk_at "vs"
          have hn' : D.depthL es + 1 ≤ n := hn
          refine hA _ _ _ _ ⟨n - 1, by omega, p, q, xs, ys, ds, es, rfl, hp, hq', hd, he, hf, by omega, by omega, fun b H4 hb e4 => ?_⟩
          exact hq b H4 (hb.trans ⟨fun z => by rw [z], fun z => by cases z; rfl⟩) e4
        · repeat walk_at "vs"
          refine hq false H (no fun z => hl ?_) Ext.rfl'
          cases z
          have l1 := hd.length
          have l2 := he.length
          omega
      | _ =>
        repeat walk_at "vs"
        exact hq false H (no fun z => by cases z) Ext.rfl'
    | bl c =>
      cases (show y = .bl c from h2)
      repeat walk_at "vs"
      refine r_isL k2 ?_
      repeat walk_at "vs"
      refine r_isB k2 ?_
      repeat walk_at "vs"
      refine r_isB k1 ?_
      cases d1 with
      | bl c1 =>
        cases (show x = .bl c1 from h1)
        repeat walk_at "vs"
        refine r_eqUB (hq _ H ?_ Ext.rfl')
        rw [decide_eq_true_iff]
        exact ⟨fun z => by rw [z], fun z => by cases z; rfl⟩
      | _ =>
        repeat walk_at "vs"
        exact hq false H (no fun z => by cases z) Ext.rfl'
    | non =>
      cases (show y = .non from h2)
      repeat walk_at "vs"
      refine r_isL k2 ?_
      repeat walk_at "vs"
      refine r_isB k2 ?_
      repeat walk_at "vs"
      refine hq _ H ?_ Ext.rfl'
      rw [decide_eq_true_iff]
      cases d1 with
      | non => exact ⟨fun _ => rfl, fun _ => h1⟩
      | bl c1 => cases (show x = .bl c1 from h1); exact ⟨fun z => (by cases z), fun z => (by cases z)⟩
      | int c1 => cases (show x = .int c1 from h1); exact ⟨fun z => (by cases z), fun z => (by cases z)⟩
      | str c1 => cases (show x = .str c1 from h1); exact ⟨fun z => (by cases z), fun z => (by cases z)⟩
      | tup c1 => obtain ⟨_, _, rfl, _⟩ := h1; exact ⟨fun z => (by cases z), fun z => (by cases z)⟩
      | lst c1 => obtain ⟨_, _, rfl, _⟩ := h1; exact ⟨fun z => (by cases z), fun z => (by cases z)⟩
      | dct => obtain ⟨_, _, rfl, _⟩ := h1; exact ⟨fun z => (by cases z), fun z => (by cases z)⟩
    | str c =>
      cases (show y = .str c from h2)
      repeat walk_at "vs"
      refine r_isL k2 ?_
      repeat walk_at "vs"
      refine r_isB k2 ?_
      repeat walk_at "vs"
      refine r_isS k2 ?_
      repeat walk_at "vs"
      refine r_isS k1 ?_
      cases d1 with
      | str c1 =>
        cases (show x = .str c1 from h1)
        repeat walk_at "vs"
        refine r_eqUS (hq _ H ?_ Ext.rfl')
        rw [decide_eq_true_iff]
        exact ⟨fun z => by rw [z], fun z => by cases z; rfl⟩
      | _ =>
        repeat walk_at "vs"
        exact hq false H (no fun z => by cases z) Ext.rfl'
    | int c =>
      cases (show y = .int c from h2)
      repeat walk_at "vs"
      refine r_isL k2 ?_
      repeat walk_at "vs"
      refine r_isB k2 ?_
      repeat walk_at "vs"
      refine r_isS k2 ?_
      repeat walk_at "vs"
      refine ⟨x, _, rfl, k1, ?_⟩
      cases d1 with
      | int c1 =>
        cases (show x = .int c1 from h1)
        repeat walk_at "vs"
        refine hq _ H ?_ Ext.rfl'
        rw [decide_eq_true_iff]
        exact ⟨fun z => by rw [z], fun z => by cases z; rfl⟩
      | _ =>
        repeat walk_at "vs"
        exact hq false H (no fun z => by cases z) Ext.rfl'
    | dct => cases hf
theorem ok_same_n (T : Txt K mg a) : ∀ n : Nat, FnOk P w K mg base (CXU P w) (2 * n + 2) a.f_law_same a.d_law_same ["_law_found", "_law_due"] (sp_law_same n)
  | 0 => same_of (k := 0) (spA := fun _ _ _ _ => False) T (fun _ _ _ _ ⟨m, e, _⟩ => by omega) FnOk.no
  | n + 1 => by
    have G := all_same_of T (ok_same_n T n)
    have z := same_of (n := n + 1) (k := 2 * n + 2) (spA := sp_law_all_same n) T (fun _ _ _ _ ⟨m, e, h⟩ => by cases e; exact h) G
    exact z
theorem ok_law_same (T : Txt K mg a) : FnOk P w K mg base (CXU P w) 12 a.f_law_same a.d_law_same ["_law_found", "_law_due"] (sp_law_same 5) := ok_same_n T 5
/-- the two are the same -/
theorem same_yes {x y : V} {d : D} {H : Hp} {Q : VK} {E : XK} (h1 : Rep H d x) (h2 : Rep H d y) (hf : d.fine = true) (hd : Nat.ble d.depth 5 = true) (hq : ∀ H', Ext H H' → Q (.bl true) H') : sp_law_same 5 [x, y] H Q E :=
  ⟨x, y, d, d, rfl, h1, h2, hf, Nat.le_of_ble_eq_true hd, fun b H' hb e => by rw [hb.mpr rfl]; exact hq H' e⟩

def sp_way_that_leaves : Sp := fun vs H Q _ => ∃ (p q : Addr) (P : List Int) (pl : Int) (w : Nat → Int) (n : Nat), vs = [.int pl, .ref p, .ref q] ∧ H p = some (.lst (P.map V.int)) ∧ P ≠ [] ∧ P.length ≤ 1000 ∧ H q = some (.lst (((List.range n).map w).map V.int)) ∧ n ≤ 1000 ∧ ∀ l xs H', H l = none → H' l = some (.lst xs) → RefsH H' xs (wyB P w pl (P.getLastD 0) n) → Ext H H' → Q (.ref l) H'
theorem ok_way_that_leaves (T : Txt K mg a) : FnOk P w K mg base (CXU P w) 1 a.f_way_that_leaves a.d_way_that_leaves ["place", "places", "wishes"] (sp_way_that_leaves) := by
  refine T.F_way_that_leaves.okU sc_way_that_leaves (fun vs H Q E h => ?_) (fun cdv A outer s H vs Q E hr h => ?_)
  · obtain ⟨p, q, P, pl, w, n, rfl, hp, hne, hl, hw, hn, hq⟩ := h
    rfl
  · obtain ⟨p, q, P, pl, w, n, rfl, hp, hne, hl, hw, hn, hq⟩ := h
    have zc_Both := T.cl_Both
    have zn_Both_world := T.na_Both_world
    have zn_Both_standing := T.na_Both_standing
    have zn_Both_spent := T.na_Both_spent
    have zc_Line := T.cl_Line
    have zn_Line_many := T.na_Line_many
    refine ⟨_, (pss_cons (ps_set (i := 3) sc_way_that_leaves.nd rfl (by first | exact Or.inl rfl | exact Or.inr rfl) (pe_ix oIx (pv 1) (pe_un un_neg pe_int) (fun _ _ => rfl)))
      (pss_cons (ps_set (i := 4) sc_way_that_leaves.nd rfl (by first | exact Or.inl rfl | exact Or.inr rfl) (pv 0))
      (pss_cons (ps_set (i := 5) sc_way_that_leaves.nd rfl (by first | exact Or.inl rfl | exact Or.inr rfl) (pe_lst pa_nil))
      (pss_cons (ps_for PassesOwn.never rfl (pi_list (pv 2)) (pg_name (i := 6) sc_way_that_leaves.nd rfl (by first | exact Or.inl rfl | exact Or.inr rfl)) (pss_cons (ps_if (pt_cmpR (oEq hr) (pv 6) (pv 3) (nomark _)) (pss_one (ps_set (i := 3) sc_way_that_leaves.nd rfl (by first | exact Or.inl rfl | exact Or.inr rfl) (pv 4))) pss_nil)
      (pss_cons (ps_set (i := 4) sc_way_that_leaves.nd rfl (by first | exact Or.inl rfl | exact Or.inr rfl) (pv 6))
      (pss_one (ps_expr (pe_bm PySem.F.plainAttrs_list PySem.F.slot_list_append PySem.F.type_list_append mt_append (pv 5) (pa_cons (pe_callTy cTuple (by rfl) T.n_tuple PyProof.Rows.boot_tuple (pa_cons (pe_comp (["other"] : List Str) (["empty"] : List Str) [3] rfl ⟨rfl, by decide +kernel, by decide +kernel, by rfl, ⟨⟨rfl, by first | exact Or.inl rfl | exact Or.inr rfl, by first | exact Or.inl rfl | exact Or.inr rfl⟩, trivial⟩⟩ (pi_list (pv 1)) (fun _ _ _ _ => ⟨(pg_name (i := 0) (by show ((["other"] : List Str) ++ (["empty"] : List Str)).Nodup; decide +kernel) rfl (by first | exact Or.inl rfl | exact Or.inr rfl)), (show PTs _ [_] [_] from ⟨(pt_cmpR op_ne (pv 0) (pv 1) (nomark _)), trivial⟩), (pv 0)⟩)) pa_nil)) pa_nil)))))))
      (pss_one (ps_ret (pv 5))))))), ?_⟩
    repeat walk_at "vs"
    refine r_ixL hp (atI_last2 hne) ?_
    repeat walk_at "vs"
    intro y H1 n1 q1 e1
    generalize P.getLastD 0 = last at *
    repeat walk_at "vs"
    refine ⟨q, rfl, ⟨_, SqL.of (e1 _ _ hw)⟩, for_list (xs := ((List.range n).map w).map V.int) (fun i σ H3 => ∃ (xs : List V) (u1 : Option V), σ = [some (.int pl), some (.ref p), some (.ref q), some (.int (hoB w pl last i).1), some (.int (hoB w pl last i).2), some (.ref y), u1] ∧ H3 y = some (.lst xs) ∧ RefsH H3 xs (wyB P w pl last i) ∧ Ext H H3) ⟨[], none, rfl, q1, .nil, e1⟩ (fun i σ H3 _ ⟨_, _, _, _, _, x⟩ => SqL.of (x _ _ hw)) ?_ ?_⟩
    · rintro i x σ H3 hx ⟨xs, u1, rfl, q3, r3, x3⟩
      obtain ⟨hi, rfl⟩ := rng_at hx
      have hlx := r3.length
      rw [wyB_len] at hlx
      have p3 := x3 _ _ hp
      repeat walk_at "vs"
      refine iteD (fun c => ?_) (fun c => ?_)
      · have eh : (hoB w pl last (i + 1)).1 = (hoB w pl last i).2 := if_pos c
        generalize hh : (hoB w pl last i).2 = h' at *
        repeat walk_at "vs"
        refine ⟨p, rfl, ⟨_, SqL.of p3⟩, fun acc hac _ _ _ _ => comp_list (SqL.of p3) (by rw [List.length_map]; omega) hac (fun j ys _ => ys = ((P.take j).filter fun x => !decide (x = h')).map V.int) (by simp) (fun _ _ _ _ _ h => h) (fun j ys H' _ h => by rw [h, List.length_map]; exact Nat.le_trans (List.length_filter_le _ _) (by rw [List.length_take]; omega)) ?_ ?_⟩
        · rintro j y ys H4 hy e4 rfl Y N hY hN
          obtain ⟨y, ey, rfl⟩ := get_int hy
          have et : P.take (j + 1) = P.take j ++ [y] := by rw [List.take_add_one, ey]; rfl
          repeat walk_at "vs"
          refine iteN (fun h => ?_) (fun h => ?_)
          · repeat walk_at "vs"
            refine hY _ _ Ext.rfl' ?_
            rw [et, List.filter_append, List.filter_cons, if_pos (by simp [h]), List.map_append]
            rfl
          · repeat walk_at "vs"
            refine hN _ Ext.rfl' ?_
            rw [et, List.filter_append, List.filter_cons, if_neg (by simp [h]), List.filter_nil, List.append_nil]
        · rintro ys H4 e4 ha rfl
          rw [List.length_map, List.take_of_length_le (Nat.le_refl _)] at ha
          have q4 := e4 _ _ q3
          repeat walk_at "vs"
          refine r_tupleL ha fun t H5 n5 q5 e5 => ?_
          have q35 := e5 _ _ q4
          repeat walk_at "vs"
          refine r_append q35 (by omega) fun H6 q6 b6 => ?_
          repeat walk_at "vs"
          refine ⟨_, some (.int (w i)), ?_, q6, ?_, Ext.but (x3.tr (e4.tr e5)) b6 n1⟩
          · rw [eh]
            rfl
          · rw [wyB_succ, eh]
            exact RefsH.butL q35 b6 (RefsH.snoc (e4.tr e5) q5 r3)
      · have eh : (hoB w pl last (i + 1)).1 = (hoB w pl last i).1 := if_neg c
        generalize hh : (hoB w pl last i).1 = h' at *
        repeat walk_at "vs"
        refine ⟨p, rfl, ⟨_, SqL.of p3⟩, fun acc hac _ _ _ _ => comp_list (SqL.of p3) (by rw [List.length_map]; omega) hac (fun j ys _ => ys = ((P.take j).filter fun x => !decide (x = h')).map V.int) (by simp) (fun _ _ _ _ _ h => h) (fun j ys H' _ h => by rw [h, List.length_map]; exact Nat.le_trans (List.length_filter_le _ _) (by rw [List.length_take]; omega)) ?_ ?_⟩
        · rintro j y ys H4 hy e4 rfl Y N hY hN
          obtain ⟨y, ey, rfl⟩ := get_int hy
          have et : P.take (j + 1) = P.take j ++ [y] := by rw [List.take_add_one, ey]; rfl
          repeat walk_at "vs"
          refine iteN (fun h => ?_) (fun h => ?_)
          · repeat walk_at "vs"
            refine hY _ _ Ext.rfl' ?_
            rw [et, List.filter_append, List.filter_cons, if_pos (by simp [h]), List.map_append]
            rfl
          · repeat walk_at "vs"
            refine hN _ Ext.rfl' ?_
            rw [et, List.filter_append, List.filter_cons, if_neg (by simp [h]), List.filter_nil, List.append_nil]
        · rintro ys H4 e4 ha rfl
          rw [List.length_map, List.take_of_length_le (Nat.le_refl _)] at ha
          have q4 := e4 _ _ q3
          repeat walk_at "vs"
          refine r_tupleL ha fun t H5 n5 q5 e5 => ?_
          have q35 := e5 _ _ q4
          repeat walk_at "vs"
          refine r_append q35 (by omega) fun H6 q6 b6 => ?_
          repeat walk_at "vs"
          refine ⟨_, some (.int (w i)), ?_, q6, ?_, Ext.but (x3.tr (e4.tr e5)) b6 n1⟩
          · rw [eh]
            rfl
          · rw [wyB_succ, eh]
            exact RefsH.butL q35 b6 (RefsH.snoc (e4.tr e5) q5 r3)
    · rintro σ H3 ⟨xs, u1, rfl, q3, r3, x3⟩
      rw [List.length_map, List.length_map, List.length_range] at r3
      repeat walk_at "vs"
      exact hq y xs H3 n1 q3 r3 x3

def sp_Rule_state (a : Adr) : Sp := fun vs H Q _ => ∃ (r : Addr) (ns : List Int) (z : Int), vs = [.ref r] ∧ LineAt a a.c_Both H r ns z ∧ ∀ st, H st = some (.tup (ns.map V.int)) → Q (.ref st) H
theorem ok_Rule_state (T : Txt K mg a) : FnOk P w K mg base (CXU P w) 1 a.f_Rule_state a.d_Rule_state ["self"] (sp_Rule_state a) := by
  refine T.F_Rule_state.okU sc_Rule_state (fun vs H Q E h => ?_) (fun cdv A outer s H vs Q E hr h => ?_)
  · obtain ⟨r, ns, z, rfl, hB, hq⟩ := h
    rfl
  · obtain ⟨r, ns, z, rfl, hB, hq⟩ := h
    have zc_Both := T.cl_Both
    have zn_Both_world := T.na_Both_world
    have zn_Both_standing := T.na_Both_standing
    have zn_Both_spent := T.na_Both_spent
    have zc_Line := T.cl_Line
    have zn_Line_many := T.na_Line_many
    refine ⟨_, (pss_one (ps_ret (pe_fld (pv 0) rfl))), ?_⟩
    obtain ⟨dx, wo, dw, st, h1, h2, h3⟩ := hB.ex
    repeat walk_at "vs"
    exact hq st h3

def sp_Rule_learn : Sp := fun vs H Q _ => ∃ x y, vs = [x, y] ∧ Q .non H
theorem ok_Rule_learn (T : Txt K mg a) : FnOk P w K mg base (CXU P w) 1 a.f_Rule_learn a.d_Rule_learn ["self", "wish"] (sp_Rule_learn) := by
  refine T.F_Rule_learn.okU sc_Rule_learn (fun vs H Q E h => ?_) (fun cdv A outer s H vs Q E hr h => ?_)
  · obtain ⟨x, y, rfl, hq⟩ := h
    rfl
  · obtain ⟨x, y, rfl, hq⟩ := h
    refine ⟨_, (pss_one ps_pass), ?_⟩
    repeat walk_at "vs"
    exact hq

def sp_ways_between : Sp := fun vs H Q _ => ∃ (p q : Addr) (ns ms : List Int), vs = [.ref p, .ref q] ∧ H p = some (.tup (ns.map V.int)) ∧ H q = some (.tup (ms.map V.int)) ∧ ns.length = ms.length ∧ ns.length ≤ 1000 ∧ ∀ H', Ext H H' → Q (.int (ways ns ms)) H'
theorem ok_ways_between (T : Txt K mg a) : FnOk P w K mg base (CXU P w) 1 a.f_ways_between a.d_ways_between ["before", "after"] (sp_ways_between) := by
  refine T.F_ways_between.okU sc_ways_between (fun vs H Q E h => ?_) (fun cdv A outer s H vs Q E hr h => ?_)
  · obtain ⟨p, q, ns, ms, rfl, hp, hq', hl, hz, hq⟩ := h
    rfl
  · obtain ⟨p, q, ns, ms, rfl, hp, hq', hl, hz, hq⟩ := h
    refine ⟨_, (pss_one (ps_ret (pe_callB (cSum rfl) (by rfl) T.n_sum PyProof.Rows.boot_sum (pa_cons (pe_comp (["here", "there"] : List Str) ([] : List Str) [] rfl ⟨rfl, by decide +kernel, by decide +kernel, by rfl, trivial⟩ (pi_zip2 rfl T.n_zip (pa_cons (pv 0) (pa_cons (pv 1) pa_nil))) (fun _ _ _ _ => ⟨(pg_tup rfl (pgs_cons (pg_name (i := 0) (by show ((["here", "there"] : List Str) ++ ([] : List Str)).Nodup; decide +kernel) rfl (by first | exact Or.inl rfl | exact Or.inr rfl)) (pgs_cons (pg_name (i := 1) (by show ((["here", "there"] : List Str) ++ ([] : List Str)).Nodup; decide +kernel) rfl (by first | exact Or.inl rfl | exact Or.inr rfl)) pgs_nil))), (show PTs _ [] [] from trivial), (pe_callB cAbs (by rfl) T.n_abs PyProof.Rows.boot_abs (pa_cons (pe_op op_sub (pv 0) (pv 1)) pa_nil))⟩)) pa_nil)))), ?_⟩
    repeat walk_at "vs"
    refine ⟨p, q, ns.map V.int, ms.map V.int, true, true, rfl, SqT.of hp, SqT.of hq', fun acc hn _ _ _ _ => comp_zip2 (c := true) (d := true) (SqT.of hp) (SqT.of hq') (by simpa using hl) (by rw [List.length_map]; omega) hn
      (fun i ys _ => ys = ((List.zipWith (fun a b : Int => ((a - b).natAbs : Int)) ns ms).take i).map V.int) (by simp) (fun _ _ _ _ _ h => h) (fun i ys H' _ h => by rw [h, List.length_map, List.length_take]; omega) ?_ ?_⟩
    · rintro i x z ys H2 H3 hx hz' e e3 rfl Y N hY hN
      obtain ⟨x, ex, rfl⟩ := get_int hx
      obtain ⟨z, ez, rfl⟩ := get_int hz'
      repeat walk_at "vs"
      refine hY _ _ e3 ?_
      rw [List.take_add_one, List.map_append, List.getElem?_zipWith, ex, ez]
      rfl
    · rintro ys H2 e ha rfl
      rw [List.take_of_length_le (by rw [List.length_zipWith, List.length_map]; omega)] at ha
      repeat walk_at "vs"
      exact r_sum ha (hq H2 e)

def sp_Line_price : Sp := fun vs H Q _ => ∃ (r p q : Addr) (ns ms : List Int) (w : Int), vs = [.ref r, .ref p, .int w, .ref q] ∧ H p = some (.tup (ns.map V.int)) ∧ H q = some (.tup (ms.map V.int)) ∧ ns.length = ms.length ∧ ns.length ≤ 1000 ∧ ∀ H', Ext H H' → Q (if w ∈ ms then .int (ways ns ms) else .non) H'
theorem ok_Line_price (T : Txt K mg a) : FnOk P w K mg base (CXU P w) 2 a.f_Line_price a.d_Line_price ["self", "before", "wish", "after"] (sp_Line_price) := by
  refine T.F_Line_price.okU sc_Line_price (fun vs H Q E h => ?_) (fun cdv A outer s H vs Q E hr h => ?_)
  · obtain ⟨r, p, q, ns, ms, w, rfl, hp, hq', hl, hz, hq⟩ := h
    rfl
  · obtain ⟨r, p, q, ns, ms, w, rfl, hp, hq', hl, hz, hq⟩ := h
    refine ⟨_, (pss_cons (ps_if (pt_cmpR oNotIn (pv 2) (pv 3) (by with_unfolding_all rfl)) (pss_one (ps_ret pe_non)) pss_nil)
      (pss_one (ps_ret (pe_call (ok_ways_between T) (hr.mono (by decide)) (by rfl) T.m_ways_between T.F_ways_between.kp T.b_ways_between .nil passU (pa_cons (pv 1) (pa_cons (pv 3) pa_nil)))))), ?_⟩
    repeat walk_at "vs"
    refine r_notinT hq' rfl (flat_ints _) ?_
    rw [inV_ints]
    repeat walk_at "vs"
    refine iteN (fun h => ?_) (fun h => ?_)
    · rw [if_neg h] at hq
      repeat walk_at "vs"
      exact hq H Ext.rfl'
    · rw [if_pos h] at hq
      repeat walk_at "vs"
      exact ⟨p, q, ns, ms, rfl, hp, hq', hl, hz, hq⟩

def sp_Rule_price_to (a : Adr) : Sp := fun vs H Q _ => ∃ (r q : Addr) (ns ms : List Int) (z w : Int), vs = [.ref r, .int w, .ref q] ∧ LineAt a a.c_Both H r ns z ∧ H q = some (.tup (ms.map V.int)) ∧ ns.length = ms.length ∧ ns.length ≤ 1000 ∧ w ∈ ms ∧ ∀ H', Ext H H' → Q (.int (ways ns ms)) H'
theorem ok_Rule_price_to (T : Txt K mg a) : FnOk P w K mg base (CXU P w) 3 a.f_Rule_price_to a.d_Rule_price_to ["self", "wish", "after"] (sp_Rule_price_to a) := by
  refine T.F_Rule_price_to.okU sc_Rule_price_to (fun vs H Q E h => ?_) (fun cdv A outer s H vs Q E hr h => ?_)
  · obtain ⟨r, q, ns, ms, z, w, rfl, hB, hq', hl, hz, hw, hq⟩ := h
    rfl
  · obtain ⟨r, q, ns, ms, z, w, rfl, hB, hq', hl, hz, hw, hq⟩ := h
    have zc_Both := T.cl_Both
    have zn_Both_world := T.na_Both_world
    have zn_Both_standing := T.na_Both_standing
    have zn_Both_spent := T.na_Both_spent
    have zc_Line := T.cl_Line
    have zn_Line_many := T.na_Line_many
    refine ⟨_, (pss_one (ps_ret (pe_meth (pe_fld (pv 0) rfl) T.cl_Line T.me_Line_price (ok_Line_price T) (hr.mono (by decide)) T.b_Line_price .nil passU (pa_cons (pe_fld (pv 0) rfl) (pa_cons (pv 1) (pa_cons (pv 2) pa_nil)))))), ?_⟩
    obtain ⟨dx, wo, dw, st, h1, h2, h3⟩ := hB.ex
    repeat walk_at "vs"
    refine ⟨wo, st, q, ns, ms, w, rfl, h3, hq', hl, hz, fun H' e => ?_⟩
    rw [if_pos hw]
    exact hq H' e

theorem comp_lt {w : Int} {ns : List Int} {i : Nat} {y : Int} (e : ns[i]? = some y) (p : Int → Bool) : ((ns.take (i + 1)).filter p).map V.int = if p y = true then ((ns.take i).filter p).map V.int ++ [.int y] else ((ns.take i).filter p).map V.int := by
  rw [List.take_add_one, e, List.filter_append]
  by_cases h : p y = true
  · rw [if_pos h]; simp [h]
  · rw [if_neg h]; simp [h]
theorem last_set : ∀ (l : List Int) (x : Int), l ≠ [] → l.set (l.length - 1) x = l.dropLast ++ [x]
  | [], _, h => (h rfl).elim
  | [a], x, _ => rfl
  | a :: b :: r, x, _ => by
    have := last_set (b :: r) x (by simp)
    simp only [List.length_cons, List.dropLast_cons_of_ne_nil (List.cons_ne_nil b r), List.cons_append] at this ⊢
    show a :: (b :: r).set (r.length + 1 - 1 + 1 - 1) x = _
    rw [← this]
    simp
theorem ixN_last {n : Nat} (h : 0 < n) : ixN n (-1) = some (n - 1) := by
  unfold ixN
  rw [if_neg (by decide), if_pos (by omega)]
  congr 1
  omega
theorem atI_last' {ns : List Int} (h : ns ≠ []) : atI (ns.map V.int) (-1) = some (.int (ns.getLastD 0)) := by
  have hl : 0 < ns.length := List.length_pos_iff.mpr h
  unfold atI
  rw [List.length_map, ixN_last hl]
  show (ns.map V.int)[ns.length - 1]? = _
  rw [List.getElem?_map, List.getElem?_eq_getElem (by omega), List.getLastD_eq_getLast?, List.getLast?_eq_getElem?, List.getElem?_eq_getElem (by omega)]
  rfl
theorem atI_head {ns : List Int} (h : ns ≠ []) : atI (ns.map V.int) 0 = some (.int (ns.headD 0)) := by
  cases ns with
  | nil => exact (h rfl).elim
  | cons a r => exact atI_nat (j := 0) rfl
def sp_Both_target (a : Adr) : Sp := fun vs H Q _ => ∃ (r : Addr) (ns : List Int) (z w : Int), vs = [.ref r, .int w] ∧ LineAt a a.c_Both H r ns z ∧ 1 ≤ ns.length ∧ ns.length ≤ 1000 ∧ ∀ q H', H' q = some (.tup ((goB ns w).map V.int)) → Ext H H' → Q (.ref q) H'
theorem ok_Both_target (T : Txt K mg a) : FnOk P w K mg base (CXU P w) 1 a.f_Both_target a.d_Both_target ["self", "wish"] (sp_Both_target a) := by
  refine T.F_Both_target.okU sc_Both_target (fun vs H Q E h => ?_) (fun cdv A outer s H vs Q E hr h => ?_)
  · obtain ⟨r, ns, z, w, rfl, hB, h0, hz, hq⟩ := h
    rfl
  · obtain ⟨r, ns, z, w, rfl, hB, h0, hz, hq⟩ := h
    have zc_Both := T.cl_Both
    have zn_Both_world := T.na_Both_world
    have zn_Both_standing := T.na_Both_standing
    have zn_Both_spent := T.na_Both_spent
    have zc_Line := T.cl_Line
    have zn_Line_many := T.na_Line_many
    refine ⟨_, (pss_cons (ps_if (pt_cmpR oIn (pv 1) (pe_fld (pv 0) rfl) (by with_unfolding_all rfl)) (pss_one (ps_ret (pe_fld (pv 0) rfl))) pss_nil)
      (pss_cons (ps_setComp (i := 2) (["place"] : List Str) (["wish"] : List Str) [1] sc_Both_target.nd rfl (Or.inl rfl) rfl ⟨rfl, by decide +kernel, by decide +kernel, by rfl, ⟨⟨rfl, by first | exact Or.inl rfl | exact Or.inr rfl, by first | exact Or.inl rfl | exact Or.inr rfl⟩, trivial⟩⟩ (pi_tup (pe_fld (pv 0) rfl)) (fun _ _ _ _ => ⟨(pg_name (i := 0) (by show ((["place"] : List Str) ++ (["wish"] : List Str)).Nodup; decide +kernel) rfl (by first | exact Or.inl rfl | exact Or.inr rfl)), (show PTs _ [_] [_] from ⟨(pt_cmpR op_lt (pv 0) (pv 1) (nomark _)), trivial⟩), (pv 0)⟩))
      (pss_cons (ps_setComp (i := 3) (["place"] : List Str) (["wish"] : List Str) [1] sc_Both_target.nd rfl (Or.inl rfl) rfl ⟨rfl, by decide +kernel, by decide +kernel, by rfl, ⟨⟨rfl, by first | exact Or.inl rfl | exact Or.inr rfl, by first | exact Or.inl rfl | exact Or.inr rfl⟩, trivial⟩⟩ (pi_tup (pe_fld (pv 0) rfl)) (fun _ _ _ _ => ⟨(pg_name (i := 0) (by show ((["place"] : List Str) ++ (["wish"] : List Str)).Nodup; decide +kernel) rfl (by first | exact Or.inl rfl | exact Or.inr rfl)), (show PTs _ [_] [_] from ⟨(pt_cmpR op_gt (pv 0) (pv 1) (nomark _)), trivial⟩), (pv 0)⟩))
      (pss_cons (ps_if (pt_not (ptT (pv 3) (fun _ => rfl))) (pss_one (ps_asg (pv 1) (pg_sub (pv 2) (pe_un un_neg pe_int) set_list))) (pss_one (ps_if (pt_not (ptT (pv 2) (fun _ => rfl))) (pss_one (ps_asg (pv 1) (pg_sub (pv 3) pe_int set_list))) (pss_cons (ps_set (i := 4) sc_Both_target.nd rfl (by first | exact Or.inl rfl | exact Or.inr rfl) (pe_callB (cMin2 rfl) (by rfl) T.n_min PyProof.Rows.boot_min (pa_cons (pe_op op_sub (pv 1) (pe_ix oIx (pv 2) (pe_un un_neg pe_int) (fun _ _ => rfl))) (pa_cons (pe_op op_sub (pe_ix oIx (pv 3) pe_int (fun _ _ => rfl)) (pv 1)) pa_nil))))
      (pss_cons (ps_asg (pe_op oAddV (pe_ix oIx (pv 2) (pe_un un_neg pe_int) (fun _ _ => rfl)) (pv 4)) (pg_sub (pv 2) (pe_un un_neg pe_int) set_list))
      (pss_one (ps_asg (pe_op op_sub (pe_ix oIx (pv 3) pe_int (fun _ _ => rfl)) (pv 4)) (pg_sub (pv 3) pe_int set_list))))))))
      (pss_one (ps_ret (pe_callTy cTuple (by rfl) T.n_tuple PyProof.Rows.boot_tuple (pa_cons (pe_op oAddV (pv 2) (pv 3)) pa_nil)))))))), ?_⟩
    unfold goB at hq
    obtain ⟨dx, wo, dw, st, h1, h2, h3⟩ := hB.ex
    repeat walk_at "vs"
    refine r_inT h3 rfl (flat_ints _) ?_
    rw [inV_ints]
    repeat walk_at "vs"
    refine iteD (fun hw => ?_) (fun hw => ?_)
    · rw [if_pos hw] at hq
      repeat walk_at "vs"
      exact hq st H h3 Ext.rfl'
    · rw [if_neg hw] at hq
      repeat walk_at "vs"
      refine ⟨st, rfl, ⟨_, SqT.of h3⟩, fun acc hn _ _ _ _ => comp_tup (SqT.of h3) (by rw [List.length_map]; omega) hn (fun j ys _ => ys = ((ns.take j).filter fun x => decide (x < w)).map V.int) (by simp) (fun _ _ _ _ _ h => h) (fun j ys H' _ h => by rw [h, List.length_map]; exact Nat.le_trans (List.length_filter_le _ _) (by rw [List.length_take]; omega)) ?_ ?_⟩
      · rintro j y ys H2 hy e rfl Y N hY hN
        obtain ⟨y, ey, rfl⟩ := get_int hy
        repeat walk_at "vs"
        refine iteD (fun h => ?_) (fun h => ?_)
        · repeat walk_at "vs"
          exact hY _ _ Ext.rfl' (by rw [comp_lt (w := w) ey, if_pos (decide_eq_true h)])
        · repeat walk_at "vs"
          exact hN _ Ext.rfl' (by rw [comp_lt (w := w) ey, if_neg (by simpa using h)])
      rintro ys H2 e2 ha rfl
      rw [List.length_map, List.take_of_length_le (Nat.le_refl _)] at ha
      have h3' := e2 _ _ h3
      repeat walk_at "vs"
      refine ⟨st, rfl, ⟨_, SqT.of h3'⟩, fun acc2 hn2 _ _ _ _ => comp_tup (SqT.of h3') (by rw [List.length_map]; omega) hn2 (fun j ys _ => ys = ((ns.take j).filter fun x => decide (w < x)).map V.int) (by simp) (fun _ _ _ _ _ h => h) (fun j ys H' _ h => by rw [h, List.length_map]; exact Nat.le_trans (List.length_filter_le _ _) (by rw [List.length_take]; omega)) ?_ ?_⟩
      · rintro j y ys H3 hy e rfl Y N hY hN
        obtain ⟨y, ey, rfl⟩ := get_int hy
        repeat walk_at "vs"
        refine iteD (fun h => ?_) (fun h => ?_)
        · repeat walk_at "vs"
          exact hY _ _ Ext.rfl' (by rw [comp_lt (w := w) ey, if_pos (decide_eq_true h)])
        · repeat walk_at "vs"
          exact hN _ Ext.rfl' (by rw [comp_lt (w := w) ey, if_neg (by simpa using h)])
      rintro ys H3 e3 hb rfl
      rw [List.length_map, List.take_of_length_le (Nat.le_refl _)] at hb
      have ha3 := e3 _ _ ha
      have zl := List.length_filter_le (fun x => decide (x < w)) ns
      have zr := List.length_filter_le (fun x => decide (w < x)) ns
      have nL : H acc = none := hn
      have nR : H acc2 = none := e2.free hn2
      have nLR : acc ≠ acc2 := ne_of_none ha hn2
      have some1 : ¬ (ns.filter (fun x => decide (x < w)) = [] ∧ ns.filter (fun x => decide (w < x)) = []) := by
        rintro ⟨eL, eR⟩
        cases ns with
        | nil => simp at h0
        | cons b t =>
          have k1 : ¬ b < w := fun q => by
            have : b ∈ (b :: t).filter fun x => decide (x < w) := List.mem_filter.mpr ⟨List.mem_cons_self, decide_eq_true q⟩
            rw [eL] at this; simp at this
          have k2 : ¬ w < b := fun q => by
            have : b ∈ (b :: t).filter fun x => decide (w < x) := List.mem_filter.mpr ⟨List.mem_cons_self, decide_eq_true q⟩
            rw [eR] at this; simp at this
          exact hw (by have : w = b := by omega
                       rw [this]; exact List.mem_cons_self)
      generalize (ns.filter fun x => decide (x < w)) = L at *
      generalize (ns.filter fun x => decide (w < x)) = R at *
      have x3 : Ext H H3 := e2.tr e3
      repeat walk_at "vs"
      refine r_lstT (SqL.of hb) ?_
      cases R with
      | nil =>
        have nl : L ≠ [] := fun q => some1 ⟨q, rfl⟩
        have l0 : 0 < L.length := List.length_pos_iff.mpr nl
        rw [if_pos rfl] at hq
        repeat walk_at "vs"
        refine r_setL ha3 (j := L.length - 1) (by rw [List.length_map]; exact ixN_last l0) fun H4 h4 b4 => ?_
        rw [show (V.int w) = (fun i => V.int i) w from rfl, ← List.map_set, last_set _ _ nl] at h4
        repeat walk_at "vs"
        refine r_catL h4 (b4 _ _ nLR.symm hb) (by simp; omega) fun l H5 n5 h5 e5 => ?_
        repeat walk_at "vs"
        refine r_tupleL h5 fun q H6 n6 h6 e6 => ?_
        exact hq q H6 (by rw [h6]; simp) (((x3.but b4 nL).tr e5).tr e6)
      | cons r0 Rt =>
        rw [if_neg (by simp)] at hq
        repeat walk_at "vs"
        refine r_lstT (SqL.of ha3) ?_
        cases L with
        | nil =>
          rw [if_pos rfl] at hq
          repeat walk_at "vs"
          refine r_setL hb (j := 0) (by rw [List.length_map]; unfold ixN; rw [if_pos (by decide), if_pos (by simp)]; rfl) fun H4 h4 b4 => ?_
          repeat walk_at "vs"
          refine r_catL (b4 _ _ nLR ha3) h4 (by simp at *; omega) fun l H5 n5 h5 e5 => ?_
          repeat walk_at "vs"
          refine r_tupleL h5 fun q H6 n6 h6 e6 => ?_
          exact hq q H6 (by rw [h6]; rfl) (((x3.but b4 nR).tr e5).tr e6)
        | cons l0 Lt =>
          have nl : l0 :: Lt ≠ [] := by simp
          have nr : r0 :: Rt ≠ [] := by simp
          have ll : 0 < (l0 :: Lt).length := by simp
          rw [if_neg (by simp)] at hq
          repeat walk_at "vs"
          generalize l0 :: Lt = L at *
          generalize hR : r0 :: Rt = R at *
          refine r_ixL ha3 (atI_last' nl) ?_
          repeat walk_at "vs"
          refine r_ixL hb (atI_head nr) ?_
          repeat walk_at "vs"
          refine r_ixL ha3 (atI_last' nl) ?_
          generalize min (w - L.getLastD 0) (R.headD 0 - w) = step at *
          repeat walk_at "vs"
          refine r_setL ha3 (j := L.length - 1) (by rw [List.length_map]; exact ixN_last ll) fun H4 h4 b4 => ?_
          rw [show (V.int (L.getLastD 0 + step)) = (fun i => V.int i) (L.getLastD 0 + step) from rfl, ← List.map_set, last_set _ _ nl] at h4
          have hb4 := b4 _ _ nLR.symm hb
          repeat walk_at "vs"
          refine r_ixL hb4 (atI_head nr) ?_
          repeat walk_at "vs"
          refine r_setL hb4 (j := 0) (by rw [List.length_map, ← hR]; unfold ixN; rw [if_pos (by decide), if_pos (by simp)]; rfl) fun H5 h5 b5 => ?_
          have h45 := b5 _ _ nLR h4
          repeat walk_at "vs"
          refine r_catL h45 h5 (by simp at *; omega) fun l H6 n6 h6 e6 => ?_
          repeat walk_at "vs"
          refine r_tupleL h6 fun q H7 n7 h7 e7 => ?_
          refine hq q H7 ?_ (((((x3.but b4 nL).but b5 nR)).tr e6).tr e7)
          rw [h7, ← hR]
          simp

def sp_is_whole_number : Sp := fun vs H Q _ => ∃ x k, vs = [x] ∧ HasK H x k ∧ Q (.bl (k == .int)) H
theorem ok_is_whole_number (T : Txt K mg a) : FnOk P w K mg base (CXU P w) 1 a.f_is_whole_number a.d_is_whole_number ["thing"] (sp_is_whole_number) := by
  refine T.F_is_whole_number.okU sc_is_whole_number (fun vs H Q E h => ?_) (fun cdv A outer s H vs Q E hr h => ?_)
  · obtain ⟨x, k, rfl, hk, hq⟩ := h
    rfl
  · obtain ⟨x, k, rfl, hk, hq⟩ := h
    refine ⟨_, (pss_one (ps_ret (pe_and (pe_callB cIsin (by rfl) T.n_isinstance PyProof.Rows.boot_isinstance (pa_cons (pv 0) (pa_cons (pe_bltn (v := V.ty "int") (by rfl) T.n_int PyProof.Rows.boot_int rfl) pa_nil))) (pe_one (pe_not (pe_callB cIsin (by rfl) T.n_isinstance PyProof.Rows.boot_isinstance (pa_cons (pv 0) (pa_cons (pe_bltn (v := V.ty "bool") (by rfl) T.n_bool PyProof.Rows.boot_bool rfl) pa_nil)))))))), ?_⟩
    repeat walk_at "vs"
    refine r_isI hk ?_
    cases k <;> (repeat walk_at "vs") <;> first | exact hq | (refine r_isB hk ?_; (repeat walk_at "vs"); exact hq)

def plc : V → Bool
  | .int i => decide ((i.natAbs : Int) ≤ 1000000000000000000)
  | _ => false
def sp_is_place : Sp := fun vs H Q _ => ∃ x k, vs = [x] ∧ HasK H x k ∧ Q (.bl (plc x)) H
theorem ok_is_place (T : Txt K mg a) : FnOk P w K mg base (CXU P w) 2 a.f_is_place a.d_is_place ["thing"] (sp_is_place) := by
  refine T.F_is_place.okU sc_is_place (fun vs H Q E h => ?_) (fun cdv A outer s H vs Q E hr h => ?_)
  · obtain ⟨x, k, rfl, hk, hq⟩ := h
    rfl
  · obtain ⟨x, k, rfl, hk, hq⟩ := h
    refine ⟨_, (pss_one (ps_ret (pe_and (pe_call (ok_is_whole_number T) (hr.mono (by decide)) (by rfl) T.m_is_whole_number T.F_is_whole_number.kp T.b_is_whole_number .nil passU (pa_cons (pv 0) pa_nil)) (pe_one (pe_cmpR op_le (pe_callB cAbs (by rfl) T.n_abs PyProof.Rows.boot_abs (pa_cons (pv 0) pa_nil)) (pe_op op_pow pe_int pe_int) (nomark _)))))), ?_⟩
    repeat walk_at "vs"
    refine ⟨x, k, rfl, hk, ?_⟩
    cases x with
    | int i =>
      cases (show k = .int from hk)
      repeat walk_at "vs"
      exact hq
    | non => cases (show k = .non from hk); (repeat walk_at "vs"); exact hq
    | bl b => cases (show k = .bl from hk); (repeat walk_at "vs"); exact hq
    | str b => cases (show k = .str from hk); (repeat walk_at "vs"); exact hq
    | ref b =>
      have e : (k == .int) = false := by rcases hk with ⟨_, _, rfl⟩ | ⟨_, _, rfl⟩ | ⟨_, _, rfl⟩ <;> rfl
      rw [e]; (repeat walk_at "vs"); exact hq
    | _ => exact hk.elim

def sp_Line_is_wish : Sp := fun vs H Q _ => ∃ r x k, vs = [.ref r, x] ∧ HasK H x k ∧ Q (.bl (plc x)) H
theorem ok_Line_is_wish (T : Txt K mg a) : FnOk P w K mg base (CXU P w) 3 a.f_Line_is_wish a.d_Line_is_wish ["self", "thing"] (sp_Line_is_wish) := by
  refine T.F_Line_is_wish.okU sc_Line_is_wish (fun vs H Q E h => ?_) (fun cdv A outer s H vs Q E hr h => ?_)
  · obtain ⟨r, x, k, rfl, hk, hq⟩ := h
    rfl
  · obtain ⟨r, x, k, rfl, hk, hq⟩ := h
    refine ⟨_, (pss_one (ps_ret (pe_call (ok_is_place T) (hr.mono (by decide)) (by rfl) T.m_is_place T.F_is_place.kp T.b_is_place .nil passU (pa_cons (pv 1) pa_nil)))), ?_⟩
    repeat walk_at "vs"
    exact ⟨x, k, rfl, hk, hq⟩

def sp_Rule_pay (a : Adr) : Sp := fun vs H Q _ => ∃ (r : Addr) (ns : List Int) (z w : Int), vs = [.ref r, .int w] ∧ LineAt a a.c_Both H r ns z ∧ Good ns ∧ -1000000000000000000 ≤ w ∧ w ≤ 1000000000000000000 ∧ ∀ H', LineAt a a.c_Both H' r (goB ns w) (z + ways ns (goB ns w)) → But r H H' → Q (.int (ways ns (goB ns w))) H'
theorem ok_Rule_pay (T : Txt K mg a) : FnOk P w K mg base (CXU P w) 4 a.f_Rule_pay a.d_Rule_pay ["self", "wish"] (sp_Rule_pay a) := by
  refine T.F_Rule_pay.okU sc_Rule_pay (fun vs H Q E h => ?_) (fun cdv A outer s H vs Q E hr h => ?_)
  · obtain ⟨r, ns, z, w, rfl, hB, hg, w0, w1, hq⟩ := h
    rfl
  · obtain ⟨r, ns, z, w, rfl, hB, hg, w0, w1, hq⟩ := h
    have zc_Both := T.cl_Both
    have zn_Both_world := T.na_Both_world
    have zn_Both_standing := T.na_Both_standing
    have zn_Both_spent := T.na_Both_spent
    have zc_Line := T.cl_Line
    have zn_Line_many := T.na_Line_many
    refine ⟨_, (pss_cons (ps_if (pt_not (ptT (pe_meth (pe_fld (pv 0) rfl) T.cl_Line T.me_Line_is_wish (ok_Line_is_wish T) (hr.mono (by decide)) T.b_Line_is_wish .nil passU (pa_cons (pv 1) pa_nil)) (fun _ => rfl))) (pss_one ps_never) pss_nil)
      (pss_cons (ps_set (i := 2) sc_Rule_pay.nd rfl (by first | exact Or.inl rfl | exact Or.inr rfl) (pe_meth (pv 0) T.cl_Both T.me_Both_target (ok_Both_target T) (hr.mono (by decide)) T.b_Both_target .nil passU (pa_cons (pv 1) pa_nil)))
      (pss_cons (ps_set (i := 3) sc_Rule_pay.nd rfl (by first | exact Or.inl rfl | exact Or.inr rfl) (pe_meth (pv 0) T.cl_Both T.me_Both_price_to (ok_Rule_price_to T) (hr.mono (by decide)) T.b_Rule_price_to .nil passU (pa_cons (pv 1) (pa_cons (pv 2) pa_nil))))
      (pss_cons (ps_expr (pe_meth (pv 0) T.cl_Both T.me_Both_learn (ok_Rule_learn T) (hr.mono (by decide)) T.b_Rule_learn .nil passU (pa_cons (pv 1) pa_nil)))
      (pss_cons (ps_fld (pv 0) (pv 2) rfl)
      (pss_cons (ps_fld (pv 0) (pe_op oAddV (pe_fld (pv 0) rfl) (pv 3)) rfl)
      (pss_one (ps_ret (pv 3))))))))), ?_⟩
    have g1 := hg.lo
    have g6 := hg.hi
    obtain ⟨dx, wo, dw, st, h1, h2, h3⟩ := hB.ex
    repeat walk_at "vs"
    refine ⟨wo, .int w, .int, rfl, rfl, ?_⟩
    rw [show plc (.int w) = true from decide_eq_true (by omega)]
    repeat walk_at "vs"
    refine ⟨r, ns, z, w, rfl, hB, g1, by omega, fun q H1 k1 e1 => ?_⟩
    repeat walk_at "vs"
    refine ⟨r, q, ns, goB ns w, z, w, rfl, hB.ext e1, k1, (goB_len hg.srt g1).symm, by omega, goB_in hg.srt g1, fun H2 e2 => ?_⟩
    have q1 := e2 _ _ (e1 _ _ h1)
    repeat walk_at "vs"
    refine ⟨_, _, rfl, ?_⟩
    repeat walk_at "vs"
    refine r_sat q1 T.cl_Both T.na_Both_standing (lt1000 rfl) fun H3 q3 b3 => ?_
    repeat walk_at "vs"
    refine r_sat q3 T.cl_Both T.na_Both_spent (lt1000 rfl) fun H4 q4 b4 => ?_
    repeat walk_at "vs"
    have x2 := e1.tr e2
    have nw : wo ≠ r := (ne_of h1 h2 (by intro z; injection z with _ _ z; exact absurd (congrArg List.length z) (by show 3 ≠ 1; decide))).symm
    have nq : q ≠ r := ne_of (e2 _ _ k1) q1 (by intro z; cases z)
    refine hq H4 ⟨dx, wo, dw, q, q4, ?_, b4 _ _ nq (b3 _ _ nq (e2 _ _ k1))⟩ (Ext.toBut x2 (But.tr b3 b4))
    rw [goB_len hg.srt g1]
    exact b4 _ _ nw (b3 _ _ nw (x2 _ _ h2))

theorem atI_head' {ns : List Int} (h : ns ≠ []) : atI (ns.map V.int) 0 = some (.int (ns.headD 0)) := by
  cases ns with
  | nil => exact (h rfl).elim
  | cons a r => exact atI_nat (j := 0) rfl

def sp_lacking : Sp := fun vs H Q _ => ∃ (p q : Addr) (P L : List Int), vs = [.ref p, .ref q] ∧ H p = some (.lst (P.map V.int)) ∧ H q = some (.lst (L.map V.int)) ∧ P.length ≤ 1000 ∧ P.filter (fun x => !decide (x ∈ L)) ≠ [] ∧ ∀ H', Ext H H' → Q (.int (lack P L)) H'
theorem ok_lacking (T : Txt K mg a) : FnOk P w K mg base (CXU P w) 1 a.f_lacking a.d_lacking ["things", "had"] (sp_lacking) := by
  refine T.F_lacking.okU sc_lacking (fun vs H Q E h => ?_) (fun cdv A outer s H vs Q E hr h => ?_)
  · obtain ⟨p, q, P, L, rfl, hp, hq', hl, hne, hq⟩ := h
    rfl
  · obtain ⟨p, q, P, L, rfl, hp, hq', hl, hne, hq⟩ := h
    refine ⟨_, (pss_one (ps_ret (pe_ix oIx (pe_comp (["thing"] : List Str) (["had"] : List Str) [1] rfl ⟨rfl, by decide +kernel, by decide +kernel, by rfl, ⟨⟨rfl, by first | exact Or.inl rfl | exact Or.inr rfl, by first | exact Or.inl rfl | exact Or.inr rfl⟩, trivial⟩⟩ (pi_list (pv 0)) (fun _ _ _ _ => ⟨(pg_name (i := 0) (by show ((["thing"] : List Str) ++ (["had"] : List Str)).Nodup; decide +kernel) rfl (by first | exact Or.inl rfl | exact Or.inr rfl)), (show PTs _ [_] [_] from ⟨(pt_cmpR oNotIn (pv 0) (pv 1) (by with_unfolding_all rfl)), trivial⟩), (pv 0)⟩)) pe_int (fun _ _ => rfl)))), ?_⟩
    repeat walk_at "vs"
    refine ⟨p, rfl, ⟨_, SqL.of hp⟩, fun acc hn _ _ _ _ => comp_list (SqL.of hp) (by rw [List.length_map]; omega) hn (fun j ys _ => ys = ((P.take j).filter fun x => !decide (x ∈ L)).map V.int) (by simp) (fun _ _ _ _ _ h => h) (fun j ys H' _ h => by rw [h, List.length_map]; exact Nat.le_trans (List.length_filter_le _ _) (by rw [List.length_take]; omega)) ?_ ?_⟩
    · rintro j y ys H2 hy e rfl Y N hY hN
      obtain ⟨y, ey, rfl⟩ := get_int hy
      have et : P.take (j + 1) = P.take j ++ [y] := by rw [List.take_add_one, ey]; rfl
      repeat walk_at "vs"
      refine r_notinL (e _ _ hq') rfl (flat_ints _) ?_
      rw [inV_ints]
      repeat walk_at "vs"
      refine iteN (fun h => ?_) (fun h => ?_)
      · repeat walk_at "vs"
        refine hY _ _ Ext.rfl' ?_
        rw [et, List.filter_append, List.filter_cons, if_pos (by simp [h]), List.map_append]
        rfl
      · repeat walk_at "vs"
        refine hN _ Ext.rfl' ?_
        rw [et, List.filter_append, List.filter_cons, if_neg (by simp [h]), List.filter_nil, List.append_nil]
    · rintro ys H2 e2 ha rfl
      rw [List.length_map, List.take_of_length_le (Nat.le_refl _)] at ha
      repeat walk_at "vs"
      refine r_ixL ha (atI_head' hne) ?_
      exact hq H2 e2

def sp_lazy_wishes (a : Adr) : Sp := fun vs H Q _ => ∃ (r p : Addr) (P S : List Int) (gap : Int) (n : Nat), vs = [.ref r, .ref p, .int (n : Nat)] ∧ LineAt a a.c_Both H r S 0 ∧ H p = some (.lst (P.map V.int)) ∧ PlB P S gap ∧ n ≤ 1000 ∧ ∀ wl H', H wl = none → H' wl = some (.lst ((wsB P S n).map V.int)) → LineAt a a.c_Both H' r (stN P S n).1 (pdB P S n) → But r H H' → Q (.ref wl) H'
theorem ok_lazy_wishes (T : Txt K mg a) : FnOk P w K mg base (CXU P w) 5 a.f_lazy_wishes a.d_lazy_wishes ["rule", "places", "many"] (sp_lazy_wishes a) := by
  refine T.F_lazy_wishes.okU sc_lazy_wishes (fun vs H Q E h => ?_) (fun cdv A outer s H vs Q E hr h => ?_)
  · obtain ⟨r, p, P, S, gap, n, rfl, hB, hp, hP, hn, hq⟩ := h
    rfl
  · obtain ⟨r, p, P, S, gap, n, rfl, hB, hp, hP, hn, hq⟩ := h
    have zc_Both := T.cl_Both
    have zn_Both_world := T.na_Both_world
    have zn_Both_standing := T.na_Both_standing
    have zn_Both_spent := T.na_Both_spent
    have zc_Line := T.cl_Line
    have zn_Line_many := T.na_Line_many
    refine ⟨_, (pss_cons (ps_set (i := 3) sc_lazy_wishes.nd rfl (by first | exact Or.inl rfl | exact Or.inr rfl) (pe_callTy cList (by rfl) T.n_list PyProof.Rows.boot_list (pa_cons (pe_meth0 (pv 0) T.cl_Both T.me_Both_state (ok_Rule_state T) (hr.mono (by decide)) T.b_Rule_state .nil passU) pa_nil)))
      (pss_cons (ps_set (i := 4) sc_lazy_wishes.nd rfl (by first | exact Or.inl rfl | exact Or.inr rfl) (pe_lst pa_nil))
      (pss_cons (ps_for PassesOwn.never rfl (pi_range1 rfl T.n_range (pa_cons (pv 2) pa_nil)) (pg_name (i := 5) sc_lazy_wishes.nd rfl (by first | exact Or.inl rfl | exact Or.inr rfl)) (pss_cons (ps_set (i := 6) sc_lazy_wishes.nd rfl (by first | exact Or.inl rfl | exact Or.inr rfl) (pe_call (ok_lacking T) (hr.mono (by decide)) (by rfl) T.m_lacking T.F_lacking.kp T.b_lacking .nil passU (pa_cons (pv 1) (pa_cons (pv 3) pa_nil))))
      (pss_cons (ps_expr (pe_meth (pv 0) T.cl_Both T.me_Both_pay (ok_Rule_pay T) (hr.mono (by decide)) T.b_Rule_pay .nil passU (pa_cons (pv 6) pa_nil)))
      (pss_cons (ps_asg (pv 6) (pg_sub (pv 3) (pe_tm PySem.F.plainAttrs_tuple PySem.F.slot_tuple_index PySem.F.type_tuple_index mt_tindexI (pe_meth0 (pv 0) T.cl_Both T.me_Both_state (ok_Rule_state T) (hr.mono (by decide)) T.b_Rule_state .nil passU) (pa_cons (pv 6) pa_nil)) set_list))
      (pss_one (ps_expr (pe_bm PySem.F.plainAttrs_list PySem.F.slot_list_append PySem.F.type_list_append mt_append (pv 4) (pa_cons (pv 6) pa_nil))))))))
      (pss_one (ps_ret (pv 4)))))), ?_⟩
    have g6 := hP.good.hi
    have lP := hP.len
    obtain ⟨dx, wo, dw, st, h1, h2, h3⟩ := hB.ex
    repeat walk_at "vs"
    refine ⟨r, S, 0, rfl, hB, fun st' hst' => ?_⟩
    repeat walk_at "vs"
    refine r_listT hst' fun lz H1 n1 q1 e1 => ?_
    repeat walk_at "vs"
    intro wl H2 n2 q2 e2
    have nlw : lz ≠ wl := ne_of_none q1 n2
    repeat walk_at "vs"
    refine ⟨_, rfl, by omega, by omega, for_range (fun i σ H3 => ∃ (u1 u2 : Option V), σ = [some (.ref r), some (.ref p), some (.int (n : Nat)), some (.ref lz), some (.ref wl), u1, u2] ∧ LineAt a a.c_Both H3 r (stN P S i).1 (pdB P S i) ∧ H3 lz = some (.lst ((stN P S i).2.map V.int)) ∧ H3 wl = some (.lst ((wsB P S i).map V.int)) ∧ H3 p = some (.lst (P.map V.int)) ∧ But r H H3)
      ⟨none, none, rfl, hB.ext (e1.tr e2), e2 _ _ q1, q2, (e1.tr e2) _ _ hp, fun b o _ hb => (e1.tr e2) b o hb⟩ ?_ ?_⟩
    · rintro i σ H3 hi ⟨u1, u2, rfl, B3, z3, w3, p3, b3⟩
      have SI := hP.at_ i
      have l2 := SI.l2
      have l1 := SI.l1
      obtain ⟨k1, k2, k3⟩ := lack_is (P := P) (L := (stN P S i).2) hP.nd (by omega)
      have hpl := hP.pl _ k1
      repeat walk_at "vs"
      refine ⟨p, lz, P, (stN P S i).2, rfl, p3, z3, by omega, k3, fun H4 e4 => ?_⟩
      have B4 := B3.ext e4
      obtain ⟨dx4, wo4, dw4, st4, f1, f2, f3⟩ := B4.ex
      repeat walk_at "vs"
      refine ⟨r, _, _, _, rfl, B4, SI.good, hpl.1, hpl.2, fun H5 B5 b5 => ?_⟩
      have z5 := b5 _ _ (ne_of (e4 _ _ z3) f1 (by intro z; cases z)) (e4 _ _ z3)
      have w5 := b5 _ _ (ne_of (e4 _ _ w3) f1 (by intro z; cases z)) (e4 _ _ w3)
      have p5 := b5 _ _ (ne_of (e4 _ _ p3) f1 (by intro z; cases z)) (e4 _ _ p3)
      have hin := goB_in SI.good.srt SI.good.lo (w := lack P (stN P S i).2)
      have hlen := goB_len SI.good.srt SI.good.lo (w := lack P (stN P S i).2)
      have hj := List.idxOf_lt_length_iff.mpr hin
      obtain ⟨dx5, wo5, dw5, st5, f15, f25, f35⟩ := B5.ex
      repeat walk_at "vs"
      refine ⟨r, _, _, rfl, B5, fun sta hsta => ?_⟩
      repeat walk_at "vs"
      refine r_tindexI hsta hin (by omega) ?_
      repeat walk_at "vs"
      refine r_setL z5 (j := (goB (stN P S i).1 (lack P (stN P S i).2)).idxOf (lack P (stN P S i).2)) (by rw [List.length_map]; unfold ixN; rw [if_pos (by omega), if_pos (by omega), Int.toNat_natCast]) fun H6 q6 b6 => ?_
      have w6 := b6 _ _ nlw.symm w5
      repeat walk_at "vs"
      refine r_append w6 (by rw [List.length_map, wsB_len]; omega) fun H7 q7 b7 => ?_
      repeat walk_at "vs"
      have nlp : p ≠ lz := ne_of_none hp n1
      have npw : p ≠ wl := ne_of_none (e1 _ _ hp) n2
      have B7 := (B5.butL z5 b6).butL w6 b7
      refine ⟨_, _, rfl, B7, ?_, ?_, b7 _ _ npw (b6 _ _ nlp p5), fun b o nb hb => ?_⟩
      · rw [b7 _ _ nlw q6, show (V.int (lack P (stN P S i).2)) = (fun i => V.int i) (lack P (stN P S i).2) from rfl, ← List.map_set]
        rfl
      · rw [q7, wsB_succ, List.map_append]
        rfl
      · exact b7 b o (ne_of_none hb (e1.free n2)) (b6 b o (ne_of_none hb n1) (b5 b o nb (e4 b o (b3 b o nb hb))))
    · rintro σ H3 ⟨u1, u2, rfl, B3, z3, w3, p3, b3⟩
      rw [Int.toNat_natCast] at B3 w3
      repeat walk_at "vs"
      exact hq wl H3 (e1.free n2) w3 B3 b3

def sp_Line_is_state (a : Adr) : Sp := fun vs H Q _ => ∃ (w dw p : Addr) (ns : List Int), vs = [.ref w, .ref p] ∧ H w = some (.ins a.c_Line dw [("many", .int ns.length)]) ∧ H p = some (.tup (ns.map V.int)) ∧ Good ns ∧ ∀ H', Ext H H' → Q (.bl true) H'
theorem ok_Line_is_state (T : Txt K mg a) : FnOk P w K mg base (CXU P w) 3 a.f_Line_is_state a.d_Line_is_state ["self", "thing"] (sp_Line_is_state a) := by
  refine T.F_Line_is_state.okU sc_Line_is_state (fun vs H Q E h => ?_) (fun cdv A outer s H vs Q E hr h => ?_)
  · obtain ⟨w, dw, p, ns, rfl, hw, hp, hg, hq⟩ := h
    rfl
  · obtain ⟨w, dw, p, ns, rfl, hw, hp, hg, hq⟩ := h
    have zc_Both := T.cl_Both
    have zn_Both_world := T.na_Both_world
    have zn_Both_standing := T.na_Both_standing
    have zn_Both_spent := T.na_Both_spent
    have zc_Line := T.cl_Line
    have zn_Line_many := T.na_Line_many
    refine ⟨_, (pss_cons (ps_if (PW.pt (pw_or (pt_not (ptT (pe_callB cIsin (by rfl) T.n_isinstance PyProof.Rows.boot_isinstance (pa_cons (pv 1) (pa_cons (pe_bltn (v := V.ty "tuple") (by rfl) T.n_tuple PyProof.Rows.boot_tuple rfl) pa_nil))) (fun _ => rfl))) (pw_or1 (pt_cmpR op_ne (pe_callB cLen (by rfl) T.n_len PySem.boot_len (pa_cons (pv 1) pa_nil)) (pe_fld (pv 0) rfl) (nomark _))))) (pss_one (ps_ret pe_bl)) pss_nil)
      (pss_cons (ps_if (pt_not (ptT (pe_callB (cAll rfl) (by rfl) T.n_all PyProof.Rows.boot_all (pa_cons (pe_comp (["place"] : List Str) ([] : List Str) [] rfl ⟨rfl, by decide +kernel, by decide +kernel, by rfl, trivial⟩ (pi_tup (pv 1)) (fun _ _ _ _ => ⟨(pg_name (i := 0) (by show ((["place"] : List Str) ++ ([] : List Str)).Nodup; decide +kernel) rfl (by first | exact Or.inl rfl | exact Or.inr rfl)), (show PTs _ [] [] from trivial), (pe_call (ok_is_place T) (hr.mono (by decide)) (by rfl) T.m_is_place T.F_is_place.kp T.b_is_place .nil passU (pa_cons (pv 0) pa_nil))⟩)) pa_nil)) (fun _ => rfl))) (pss_one (ps_ret pe_bl)) pss_nil)
      (pss_one (ps_ret (pe_cmpR (oEq hr) (pe_callTy cList (by rfl) T.n_list PyProof.Rows.boot_list (pa_cons (pv 1) pa_nil)) (pe_callB cSorted (by rfl) T.n_sorted PyProof.Rows.boot_sorted (pa_cons (pv 1) pa_nil)) (nomark _)))))), ?_⟩
    have h6 := hg.hi
    repeat walk_at "vs"
    refine r_isT (HasK.t hp) ?_
    repeat walk_at "vs"
    refine r_lenT hp ?_
    rw [List.length_map]
    repeat walk_at "vs"
    refine iteN (fun q => (q rfl).elim) (fun _ => ?_)
    repeat walk_at "vs"
    refine ⟨p, rfl, ⟨_, SqT.of hp⟩, fun acc hn _ _ _ _ => comp_tup (SqT.of hp) (by rw [List.length_map]; omega) hn (fun j ys _ => ys = ((ns.take j).map fun _ => true).map V.bl) (by simp) (fun _ _ _ _ _ h => h) (fun j ys H' _ h => by rw [h]; simp; omega) ?_ ?_⟩
    · rintro j y ys H2 hy e rfl Y N hY hN
      obtain ⟨y, ey, rfl⟩ := get_int hy
      repeat walk_at "vs"
      refine ⟨.int y, .int, rfl, rfl, ?_⟩
      have hm := hg.pl y (List.mem_of_getElem? ey)
      have hpl : plc (.int y) = true := decide_eq_true (by omega)
      rw [hpl]
      refine hY _ _ Ext.rfl' ?_
      rw [List.take_add_one, ey]
      simp
    · rintro ys H2 e ha rfl
      rw [List.length_map, List.take_of_length_le (Nat.le_refl _)] at ha
      repeat walk_at "vs"
      refine r_all ha ?_
      have ea : (ns.map fun _ => true).all id = true := by rw [List.all_eq_true]; intro x hx; obtain ⟨_, _, rfl⟩ := List.mem_map.mp hx; rfl
      rw [ea]
      repeat walk_at "vs"
      refine r_listT (e _ _ hp) fun l H3 n3 h3 e3 => ?_
      repeat walk_at "vs"
      refine r_sortedT (e3 _ _ (e _ _ hp)) (by omega) fun l2 ns' H4 n4 hpm hs h4 e4 => ?_
      have : ns' = ns := sorted_uniq hpm (List.Perm.refl _) hs hg.srt
      subst this
      repeat walk_at "vs"
      refine r_eqLI (e4 _ _ h3) h4 ?_
      rw [decide_eq_true rfl]
      exact hq H4 ((e.tr e3).tr e4)

def sp_Rule_init (a : Adr) : Sp := fun vs H Q _ => ∃ (x dx w dw p : Addr) (ns : List Int), vs = [.ref x, .ref w, .ref p] ∧ H x = some (.ins a.c_Both dx []) ∧ H w = some (.ins a.c_Line dw [("many", .int ns.length)]) ∧ H p = some (.tup (ns.map V.int)) ∧ Good ns ∧ ∀ H', H' x = some (.ins a.c_Both dx (lfl w p 0)) → But x H H' → Q .non H'
theorem ok_Rule_init (T : Txt K mg a) : FnOk P w K mg base (CXU P w) 4 a.f_Rule_init a.d_Rule_init ["self", "world", "start"] (sp_Rule_init a) := by
  refine T.F_Rule_init.okU sc_Rule_init (fun vs H Q E h => ?_) (fun cdv A outer s H vs Q E hr h => ?_)
  · obtain ⟨x, dx, w, dw, p, ns, rfl, hx, hw, hp, hg, hq⟩ := h
    rfl
  · obtain ⟨x, dx, w, dw, p, ns, rfl, hx, hw, hp, hg, hq⟩ := h
    have zc_Both := T.cl_Both
    have zn_Both_world := T.na_Both_world
    have zn_Both_standing := T.na_Both_standing
    have zn_Both_spent := T.na_Both_spent
    have zc_Line := T.cl_Line
    have zn_Line_many := T.na_Line_many
    refine ⟨_, (pss_cons (ps_if (pt_not (ptT (pe_meth (pv 1) T.cl_Line T.me_Line_is_state (ok_Line_is_state T) (hr.mono (by decide)) T.b_Line_is_state .nil passU (pa_cons (pv 2) pa_nil)) (fun _ => rfl))) (pss_one ps_never) pss_nil)
      (pss_cons (ps_fld (pv 0) (pv 1) rfl)
      (pss_cons (ps_fld (pv 0) (pv 2) rfl)
      (pss_one (ps_fld (pv 0) pe_int rfl))))), ?_⟩
    repeat walk_at "vs"
    refine ⟨w, dw, p, ns, rfl, hw, hp, hg, fun H1 e1 => ?_⟩
    repeat walk_at "vs"
    refine r_sat (e1 _ _ hx) T.cl_Both T.na_Both_world (lt1000 rfl) fun H2 h2 b2 => ?_
    repeat walk_at "vs"
    refine r_sat h2 T.cl_Both T.na_Both_standing (lt1000 rfl) fun H3 h3 b3 => ?_
    repeat walk_at "vs"
    refine r_sat h3 T.cl_Both T.na_Both_spent (lt1000 rfl) fun H4 h4 b4 => ?_
    exact hq H4 h4 (Ext.toBut e1 (But.tr (But.tr b2 b3) b4))

def sp_Line_init (a : Adr) : Sp := fun vs H Q _ => ∃ x dx v, vs = [.ref x, v] ∧ H x = some (.ins a.c_Line dx []) ∧ ∀ H', H' x = some (.ins a.c_Line dx [("many", v)]) → But x H H' → Q .non H'
theorem ok_Line_init (T : Txt K mg a) : FnOk P w K mg base (CXU P w) 1 a.f_Line_init a.d_Line_init ["self", "many"] (sp_Line_init a) := by
  refine T.F_Line_init.okU sc_Line_init (fun vs H Q E h => ?_) (fun cdv A outer s H vs Q E hr h => ?_)
  · obtain ⟨x, dx, v, rfl, hx, hq⟩ := h
    rfl
  · obtain ⟨x, dx, v, rfl, hx, hq⟩ := h
    have zc_Both := T.cl_Both
    have zn_Both_world := T.na_Both_world
    have zn_Both_standing := T.na_Both_standing
    have zn_Both_spent := T.na_Both_spent
    have zc_Line := T.cl_Line
    have zn_Line_many := T.na_Line_many
    refine ⟨_, (pss_one (ps_fld (pv 0) (pv 1) rfl)), ?_⟩
    repeat walk_at "vs"
    refine r_sat hx T.cl_Line T.na_Line_many (lt1000 rfl) fun H' h1 h2 => ?_
    exact hq H' h1 h2

def sp_line_of (a : Adr) : Sp := fun vs H Q _ => ∃ (p : Addr) (ns : List Int), vs = [.ref p] ∧ H p = some (.tup (ns.map V.int)) ∧ 1 ≤ ns.length ∧ ns.length ≤ 6 ∧ ∀ w dw H', H w = none → H' w = some (.ins a.c_Line dw [("many", .int ns.length)]) → Ext H H' → Q (.ref w) H'
theorem ok_line_of (T : Txt K mg a) : FnOk P w K mg base (CXU P w) 3 a.f_line_of a.d_line_of ["start"] (sp_line_of a) := by
  refine T.F_line_of.okU sc_line_of (fun vs H Q E h => ?_) (fun cdv A outer s H vs Q E hr h => ?_)
  · obtain ⟨p, ns, rfl, hp, h1, h6, hq⟩ := h
    rfl
  · obtain ⟨p, ns, rfl, hp, h1, h6, hq⟩ := h
    refine ⟨_, (pss_cons (ps_if (PW.pt (pw_or (pt_not (ptT (pe_callB cIsin (by rfl) T.n_isinstance PyProof.Rows.boot_isinstance (pa_cons (pv 0) (pa_cons (pe_bltn (v := V.ty "tuple") (by rfl) T.n_tuple PyProof.Rows.boot_tuple rfl) pa_nil))) (fun _ => rfl))) (pw_or1 (pt_not (pt_chain op_le op_le pe_int (pe_callB cLen (by rfl) T.n_len PySem.boot_len (pa_cons (pv 0) pa_nil)) pe_int))))) (pss_one ps_never) pss_nil)
      (pss_one (ps_ret (pe_make T.mk_Line (ok_Line_init T) (hr.mono (by decide)) (by rfl) T.m_Line T.b_Line_init .nil passU (pa_cons (pe_callB cLen (by rfl) T.n_len PySem.boot_len (pa_cons (pv 0) pa_nil)) pa_nil))))), ?_⟩
    repeat walk_at "vs"
    refine r_isT (HasK.t hp) ?_
    repeat walk_at "vs"
    refine r_lenT hp ?_
    rw [List.length_map]
    repeat walk_at "vs"
    rw [decide_eq_true (show (1 : Int) ≤ ns.length by omega)]
    repeat walk_at "vs"
    rw [decide_eq_true (show (ns.length : Int) ≤ 6 by omega)]
    repeat walk_at "vs"
    refine r_lenT hp ?_
    rw [List.length_map]
    repeat walk_at "vs"
    intro w dw n1 n2 n3
    refine ⟨w, dw, _, rfl, upd_same, fun H1 h1' b1 => ⟨rfl, hq w dw H1 n1 h1' fun b o hb => ?_⟩⟩
    have nb : b ≠ w := ne_of_none hb n1
    have nd : b ≠ dw := ne_of_none hb n2
    exact b1 b o nb (by rw [upd_ne nb, upd_ne nd]; exact hb)

def sp_Both_init (a : Adr) : Sp := fun vs H Q _ => ∃ (x dx p : Addr) (ns : List Int), vs = [.ref x, .ref p] ∧ H x = some (.ins a.c_Both dx []) ∧ H p = some (.tup (ns.map V.int)) ∧ Good ns ∧ ∀ H', LineAt a a.c_Both H' x ns 0 → But x H H' → Q .non H'
theorem ok_Both_init (T : Txt K mg a) : FnOk P w K mg base (CXU P w) 6 a.f_Both_init a.d_Both_init ["self", "start"] (sp_Both_init a) := by
  refine T.F_Both_init.okU sc_Both_init (fun vs H Q E h => ?_) (fun cdv A outer s H vs Q E hr h => ?_)
  · obtain ⟨x, dx, p, ns, rfl, hx, hp, hg, hq⟩ := h
    rfl
  · obtain ⟨x, dx, p, ns, rfl, hx, hp, hg, hq⟩ := h
    have zc_Both := T.cl_Both
    have zn_Both_world := T.na_Both_world
    have zn_Both_standing := T.na_Both_standing
    have zn_Both_spent := T.na_Both_spent
    have zc_Line := T.cl_Line
    have zn_Line_many := T.na_Line_many
    refine ⟨_, (pss_one (ps_expr (pe_cmeth (C := a.c_Bound) (pe_glob (v := V.ref a.c_Bound) (by rfl) T.m_Bound rfl) T.cm_Bound_init (ok_Rule_init T) (hr.mono (by decide)) T.b_Rule_init .nil passU (pa_cons (pv 0) (pa_cons (pe_call (ok_line_of T) (hr.mono (by decide)) (by rfl) T.m_line_of T.F_line_of.kp T.b_line_of .nil passU (pa_cons (pv 1) pa_nil)) (pa_cons (pv 1) pa_nil)))))), ?_⟩
    have g1 := hg.lo
    have g6 := hg.hi
    repeat walk_at "vs"
    refine ⟨p, ns, rfl, hp, g1, g6, fun w dw H1 nw hw e1 => ?_⟩
    repeat walk_at "vs"
    refine ⟨x, dx, w, dw, p, ns, rfl, e1 _ _ hx, hw, e1 _ _ hp, hg, fun H2 h2 b2 => ?_⟩
    have nx : w ≠ x := (ne_of_none hx nw).symm
    have np : p ≠ x := ne_of hp hx (by intro z; cases z)
    exact hq H2 ⟨dx, w, dw, p, h2, b2 _ _ nx hw, b2 _ _ np (e1 _ _ hp)⟩ (Ext.toBut e1 b2)

def sp_way_price (a : Adr) : Sp := fun vs H Q _ => ∃ (r dw s q l : Addr) (m : V) (P : List Int) (xs : List V) (pl last : Int) (w : Nat → Int) (n : Nat), vs = [.ref r, .ref s, .ref q, .ref l] ∧ H r = some (.ins a.c_Line dw [("many", m)]) ∧ H s = some (.tup ((exc P last).map V.int)) ∧ H q = some (.lst (((List.range n).map w).map V.int)) ∧ H l = some (.lst xs) ∧ RefsH H xs (wyB P w pl last n) ∧ P.Nodup ∧ P.length ≤ 1000 ∧ (∀ i, (hoB w pl last i).1 ∈ P) ∧ (∀ i, w i ∈ P ∧ (hoB w pl last (i + 1)).1 ≠ w i) ∧ n ≤ 1000 ∧ ∀ H', Ext H H' → Q (.int (prB P w pl last n)) H'
theorem ok_way_price (T : Txt K mg a) : FnOk P w K mg base (CXU P w) 3 a.f_way_price a.d_way_price ["world", "start", "wishes", "way"] (sp_way_price a) := by
  refine T.F_way_price.okU sc_way_price (fun vs H Q E h => ?_) (fun cdv A outer s H vs Q E hr h => ?_)
  · obtain ⟨r, dw, s, q, l, m, P, xs, pl, last, w, n, rfl, hr0, hs, hw, hl, hR, nd, lP, ho, hwi, hn, hq⟩ := h
    rfl
  · obtain ⟨r, dw, s, q, l, m, P, xs, pl, last, w, n, rfl, hr0, hs, hw, hl, hR, nd, lP, ho, hwi, hn, hq⟩ := h
    have zc_Both := T.cl_Both
    have zn_Both_world := T.na_Both_world
    have zn_Both_standing := T.na_Both_standing
    have zn_Both_spent := T.na_Both_spent
    have zc_Line := T.cl_Line
    have zn_Line_many := T.na_Line_many
    refine ⟨_, (pss_cons (ps_set (i := 4) sc_way_price.nd rfl (by first | exact Or.inl rfl | exact Or.inr rfl) pe_int)
      (pss_cons (ps_set (i := 5) sc_way_price.nd rfl (by first | exact Or.inl rfl | exact Or.inr rfl) (pv 1))
      (pss_cons (ps_for PassesOwn.never rfl (pi_zip2 rfl T.n_zip (pa_cons (pv 2) (pa_cons (pv 3) pa_nil))) (pg_tup rfl (pgs_cons (pg_name (i := 6) sc_way_price.nd rfl (by first | exact Or.inl rfl | exact Or.inr rfl)) (pgs_cons (pg_name (i := 7) sc_way_price.nd rfl (by first | exact Or.inl rfl | exact Or.inr rfl)) pgs_nil))) (pss_cons (ps_set (i := 8) sc_way_price.nd rfl (by first | exact Or.inl rfl | exact Or.inr rfl) (pe_meth (pv 0) T.cl_Line T.me_Line_price (ok_Line_price T) (hr.mono (by decide)) T.b_Line_price .nil passU (pa_cons (pv 5) (pa_cons (pv 6) (pa_cons (pv 7) pa_nil)))))
      (pss_cons (ps_if (pt_cmpR oIsN (pv 8) pe_non (nomark _)) (pss_one (ps_ret pe_non)) pss_nil)
      (pss_cons (ps_set (i := 4) sc_way_price.nd rfl (by first | exact Or.inl rfl | exact Or.inr rfl) (pe_op oAddV (pv 4) (pv 8)))
      (pss_one (ps_set (i := 5) sc_way_price.nd rfl (by first | exact Or.inl rfl | exact Or.inr rfl) (pv 7)))))))
      (pss_one (ps_ret (pv 4)))))), ?_⟩
    have hlx := hR.length
    rw [wyB_len] at hlx
    repeat walk_at "vs"
    refine ⟨q, l, _, _, false, false, rfl, SqL.of hw, SqL.of hl, for_zip2 (fun i σ H4 => (∃ (b : Addr) (u1 u2 u3 : Option V), σ = [some (.ref r), some (.ref s), some (.ref q), some (.ref l), some (.int (prB P w pl last i)), some (.ref b), u1, u2, u3] ∧ H4 b = some (.tup ((exc P (hoB w pl last i).1).map V.int))) ∧ Ext H H4) (by rw [List.length_map, List.length_map, List.length_range, hlx]) ⟨⟨s, none, none, none, rfl, hs⟩, Ext.rfl'⟩ (fun i σ H4 _ ⟨_, x⟩ => ⟨SqL.of (x _ _ hw), SqL.of (x _ _ hl)⟩) ?_ ?_⟩
    · rintro i x y σ H4 p5 hx hy ⟨⟨b, u1, u2, u3, rfl, hb⟩, x4⟩ n5
      obtain ⟨H5, eH5, q5', e5⟩ : ∃ H5, upd H4 p5 (.tup [x, y]) = H5 ∧ H5 p5 = some (.tup [x, y]) ∧ Ext H4 H5 := ⟨_, rfl, upd_same, ext_upd n5⟩
      rw [eH5]
      obtain ⟨hi, rfl⟩ := rng_at hx
      obtain ⟨c, rfl, hc⟩ := (hR.mono (x4.tr e5)).get i y hy
      have eg : (wyB P w pl last n).getD i [] = exc P (hoB w pl last (i + 1)).1 := by
        rw [List.getD_eq_getElem?_getD, List.getElem?_eq_getElem (by rw [wyB_len]; exact hi)]
        exact (wyB_at (List.getElem?_eq_getElem (by rw [wyB_len]; exact hi))).2
      rw [eg] at hc
      have hb5 := e5 _ _ hb
      have hr5 := (x4.tr e5) _ _ hr0
      have lx := exc_len nd (ho i)
      have ly := exc_len nd (ho (i + 1))
      have hin : w i ∈ exc P (hoB w pl last (i + 1)).1 := exc_mem.mpr ⟨(hwi i).1, fun z => (hwi i).2 z.symm⟩
      refine r_gtup q5' rfl ?_
      repeat walk_at "vs"
      refine ⟨r, b, c, _, _, w i, rfl, hb5, hc, by omega, by omega, fun H6 e6 => ?_⟩
      rw [if_pos hin]
      repeat walk_at "vs"
      exact ⟨⟨c, _, _, _, rfl, e6 _ _ hc⟩, (x4.tr e5).tr e6⟩
    · rintro σ H4 ⟨⟨b, u1, u2, u3, rfl, hb⟩, x4⟩
      rw [List.length_map, List.length_map, List.length_range]
      repeat walk_at "vs"
      exact hq H4 x4

abbrev TabB (a : Adr) (H : Hp) : Prop := TabR H a.tb_enemy_of_both lp_enemy_of_both lq_enemy_of_both
def sp_enemy_of_both (a : Adr) : Sp := fun vs H Q _ => ∃ (k n : Nat) (gap : Int), vs = [.int (k : Nat), .int gap, .int (n : Nat)] ∧ 1 ≤ k ∧ k ≤ 6 ∧ 1 ≤ gap ∧ gap ≤ 1000000000 ∧ n ≤ 1000 ∧ TabB a H ∧ ∀ t s wl yl xs H', NewT H wl → NewT H yl → wl ≠ yl → EnB H' t s wl yl xs k gap n → TabB a H' → ExtT H H' → Q (.ref t) H'
theorem ok_enemy_of_both (T : Txt K mg a) : FnOk P w K mg base (CXU P w) 8 a.f_enemy_of_both a.d_enemy_of_both ["k", "gap", "many"] (sp_enemy_of_both a) := by
  refine T.F_enemy_of_both.okL T.ck_enemy_of_both sc_enemy_of_both (fun vs H Q E h => ?_) (fun A outer s H vs Q E hr h => ?_)
  · obtain ⟨k, n, gap, rfl, k1, k6, g1, g2, hn, hT, hq⟩ := h
    rfl
  · obtain ⟨k, n, gap, rfl, k1, k6, g1, g2, hn, hT, hq⟩ := h
    have zc_Both := T.cl_Both
    have zn_Both_world := T.na_Both_world
    have zn_Both_standing := T.na_Both_standing
    have zn_Both_spent := T.na_Both_spent
    have zc_Line := T.cl_Line
    have zn_Line_many := T.na_Line_many
    refine ⟨_, (pss_cons (ps_set (i := 3) sc_enemy_of_both.nd rfl (by first | exact Or.inl rfl | exact Or.inr rfl) (pe_comp (["at"] : List Str) (["gap"] : List Str) [1] rfl ⟨rfl, by decide +kernel, by decide +kernel, by rfl, ⟨⟨rfl, by first | exact Or.inl rfl | exact Or.inr rfl, by first | exact Or.inl rfl | exact Or.inr rfl⟩, trivial⟩⟩ (pi_range1 rfl T.n_range (pa_cons (pe_op oAddV (pv 0) pe_int) pa_nil)) (fun _ _ _ _ => ⟨(pg_name (i := 0) (by show ((["at"] : List Str) ++ (["gap"] : List Str)).Nodup; decide +kernel) rfl (by first | exact Or.inl rfl | exact Or.inr rfl)), (show PTs _ [] [] from trivial), (pe_op op_mulB (pv 1) (pv 0))⟩)))
      (pss_cons (ps_set (i := 4) sc_enemy_of_both.nd rfl (by first | exact Or.inl rfl | exact Or.inr rfl) (pe_callTy cTuple (by rfl) T.n_tuple PyProof.Rows.boot_tuple (pa_cons (pe_slice oSl (pv 3) po_none (po_some (pe_un un_neg pe_int))) pa_nil)))
      (pss_cons (ps_set (i := 5) sc_enemy_of_both.nd rfl (by first | exact Or.inl rfl | exact Or.inr rfl) (pe_make T.mk_Both (ok_Both_init T) (hr.mono (by decide)) (by rfl) T.m_Both T.b_Both_init .nil passU (pa_cons (pv 4) pa_nil)))
      (pss_cons (ps_set (i := 6) sc_enemy_of_both.nd rfl (by first | exact Or.inl rfl | exact Or.inr rfl) (pe_call (ok_lazy_wishes T) (hr.mono (by decide)) (by rfl) T.m_lazy_wishes T.F_lazy_wishes.kp T.b_lazy_wishes .nil passU (pa_cons (pv 5) (pa_cons (pv 3) (pa_cons (pv 2) pa_nil)))))
      (pss_cons (ps_setComp (i := 7) (["place"] : List Str) (["places", "wishes"] : List Str) [3, 6] sc_enemy_of_both.nd rfl (Or.inl rfl) rfl ⟨rfl, by decide +kernel, by decide +kernel, by rfl, ⟨⟨rfl, by first | exact Or.inl rfl | exact Or.inr rfl, by first | exact Or.inl rfl | exact Or.inr rfl⟩, ⟨rfl, by first | exact Or.inl rfl | exact Or.inr rfl, by first | exact Or.inl rfl | exact Or.inr rfl⟩, trivial⟩⟩ (pi_tup (pv 4)) (fun _ _ _ _ => ⟨(pg_name (i := 0) (by show ((["place"] : List Str) ++ (["places", "wishes"] : List Str)).Nodup; decide +kernel) rfl (by first | exact Or.inl rfl | exact Or.inr rfl)), (show PTs _ [] [] from trivial), (pe_call (ok_way_that_leaves T) (hr.mono (by decide)) (by rfl) T.m_way_that_leaves T.F_way_that_leaves.kp T.b_way_that_leaves .nil passU (pa_cons (pv 0) (pa_cons (pv 1) (pa_cons (pv 2) pa_nil))))⟩))
      (pss_one (ps_ret (pe_tup (pa_cons (pv 4) (pa_cons (pv 6) (pa_cons (pe_minKey (k := 0) (c := a.ck_enemy_of_both) (P := a.tb_enemy_of_both) (x := "way") (fr := ["rule", "start", "wishes"]) (js := [5, 4, 6]) (κ := Int) (KR := KRi) (lt := lti) (fun _ kf => keyed_ints kf) (hr.mono (by decide)) (by rfl) T.n_min (pa_cons (pv 7) pa_nil) rfl T.hd_enemy_of_both rfl ⟨rfl, rfl, rfl, by decide +kernel, rfl, by rfl, ⟨⟨rfl, by first | exact Or.inl rfl | exact Or.inr rfl, by first | exact Or.inl rfl | exact Or.inr rfl⟩, ⟨rfl, by first | exact Or.inl rfl | exact Or.inr rfl, by first | exact Or.inl rfl | exact Or.inr rfl⟩, ⟨rfl, by first | exact Or.inl rfl | exact Or.inr rfl, by first | exact Or.inl rfl | exact Or.inr rfl⟩, trivial⟩⟩ (fun _ _ _ _ => rfl) (fun _ _ _ _ _ => (pe_call (ok_way_price T) (Room.lam (by decide) hr) (by rfl) T.m_way_price T.F_way_price.kp T.b_way_price .nil passU (pa_cons (pe_fld (pv 1) rfl) (pa_cons (pv 2) (pa_cons (pv 3) (pa_cons (pv 0) pa_nil))))))) pa_nil))))))))))), ?_⟩
    obtain ⟨hP, srt, hl, nl⟩ := plB_of k1 k6 g1 g2
    have pexc := plcs_exc k1 k6 g1 g2
    have plast := plcs_last k gap
    have pcut := plcs_cut k gap
    have lS : (stas k gap).length = k := by unfold stas; simp
    have lP : (plcs k gap).length = k + 1 := by unfold plcs; simp
    have Pne : plcs k gap ≠ [] := fun z => by rw [z] at lP; simp at lP
    repeat walk_at "vs"
    refine ⟨_, rfl, by omega, by omega, fun acc hac _ _ _ _ => comp_mapR V.int (fun (i : Nat) => gap * (i : Int)) (by omega) hac (fun i H3 Y hi e hY => ?_) fun H1 e1 ha => ?_⟩
    · repeat walk_at "vs"
      exact hY _ Ext.rfl'
    rw [show ((k : Int) + 1).toNat = k + 1 by omega] at ha
    have ha' : H1 acc = some (.lst ((plcs k gap).map V.int)) := ha
    have hbest : pbB k gap n = (stas k gap).getD (bestOf (lti (kfB k gap n)) (k - 1)) 0 := rfl
    have hkf : ∀ i, kfB k gap n i = prB (plcs k gap) (wB (plcs k gap) (stas k gap)) ((stas k gap).getD i 0) (gap * (k : Int)) n := fun _ => rfl
    generalize hpb : pbB k gap n = pb at *
    generalize kfB k gap n = kf at *
    have hE : ∀ {H : Hp} {t s wl yl : Addr} {xs : List V}, H t = some (.tup [.ref s, .ref wl, .ref yl]) → H s = some (.tup ((stas k gap).map V.int)) → H wl = some (.lst ((wsB (plcs k gap) (stas k gap) n).map V.int)) → H yl = some (.lst xs) → RefsH H xs (wyB (plcs k gap) (wB (plcs k gap) (stas k gap)) pb (gap * (k : Int)) n) → True := fun _ _ _ _ _ => trivial
    clear hE
    generalize hPP : plcs k gap = P at *
    generalize hSS : stas k gap = S at *
    repeat walk_at "vs"
    refine r_slL ha' fun l2 H2 n2 q2 e2 => ?_
    rw [cutL_last Pne, pcut] at q2
    repeat walk_at "vs"
    refine r_tupleL q2 fun s H3 n3 q3 e3 => ?_
    have x3 : Ext H H3 := (e1.tr e2).tr e3
    have a3 := (e2.tr e3) _ _ ha'
    repeat walk_at "vs"
    intro r dr k1' k2' k3'
    have y1 : Ext H3 (upd (upd H3 dr (.own r)) r (.ins a.c_Both dr [])) := fun b o hb => by rw [upd_ne (ne_of_none hb k1'), upd_ne (ne_of_none hb k2')]; exact hb
    refine ⟨r, dr, s, S, rfl, upd_same, y1 _ _ q3, hP.good, fun H4 B4 b4 => ⟨rfl, ?_⟩⟩
    have x34 : Ext H3 H4 := fun b o h => b4 b o (ne_of_none h k1') (y1 _ _ h)
    repeat walk_at "vs"
    refine ⟨r, acc, P, S, gap, n, rfl, B4, x34 _ _ a3, hP, hn, fun wl H5 nw q5 B5 b5 => ?_⟩
    have nr : H3 r = none := k1'
    have x35 : Ext H3 H5 := fun b o h => b5 b o (ne_of_none h nr) (x34 _ _ h)
    have s5 := x35 _ _ q3
    have a5 := x35 _ _ a3
    obtain ⟨dx5, wo5, dw5, st5, f1, f2, f3⟩ := B5.ex
    repeat walk_at "vs"
    refine ⟨s, rfl, ⟨_, SqT.of s5⟩, fun acc2 hac2 _ _ _ _ => comp_tup (SqT.of s5) (by rw [List.length_map]; omega) hac2 (fun j ys H6 => WysH H5 H6 ys (fun i => wyB P (wB P S) (S.getD i 0) (gap * (k : Int)) n) ∧ ys.length = j) ⟨fun i v z => by simp at z, rfl⟩ (fun _ _ _ _ kk h => ⟨h.1.keep kk, h.2⟩) (fun j ys H' _ h => by omega) ?_ ?_⟩
    · rintro j y ys H6 hy e6 ⟨hW, hys⟩ Y N hY hN
      obtain ⟨y, ey, rfl⟩ := get_int hy
      have eg : S.getD j 0 = y := by rw [List.getD_eq_getElem?_getD, ey]; rfl
      repeat walk_at "vs"
      refine ⟨acc, wl, P, y, wB P S, n, rfl, e6 _ _ a5, Pne, by omega, e6 _ _ q5, hn, fun l xs H7 n7 q7 r7 e7 => ?_⟩
      rw [plast] at r7
      refine hY _ _ e7 ⟨(hW.keep e7.kp).snoc (e6.free n7) q7 (by rw [hys]; show RefsH H7 xs (wyB P (wB P S) (S.getD j 0) (gap * (k : Int)) n); rw [eg]; exact r7), by rw [List.length_append, hys]; rfl⟩
    rintro ys H6 e6 ha6 ⟨hW, hys⟩
    rw [List.length_map] at hys
    have T6 : TabB a H6 := TabR.ext e6 (TabR.ext x35 (TabR.ext x3 hT))
    repeat walk_at "vs"
    unfold tMinK
    repeat walk_at "vs"
    refine ⟨acc2, ys, false, kf, rfl, ha6, by omega, T6, fun i x hx pins f c s' Hc H7 e7 => ?_, fun x H7 hx e7 hT7 => ?_⟩
    · obtain ⟨l, xs, rfl, _, hl7, hr7⟩ := hW i x hx
      have g1' := e7 _ _ (e6 _ _ f1) rfl
      have g2' := e7 _ _ (e6 _ _ f2) rfl
      have hi : i < S.length := by have := (List.getElem?_eq_some_iff.mp hx).1; omega
      have hsi : S.getD i 0 ∈ S := by rw [List.getD_eq_getElem?_getD, List.getElem?_eq_getElem hi]; exact List.getElem_mem hi
      have w0 : wB P S 0 = gap * (k : Int) := lack_uniq hP.nd hP.ndS hP.len hP.sub hl nl
      repeat walk_at "vs"
      refine ⟨wo5, dw5, s, wl, l, _, P, xs, S.getD i 0, gap * (k : Int), wB P S, n, rfl, g2', by rw [pexc]; exact e7 _ _ (e6 _ _ s5) rfl, e7 _ _ (e6 _ _ q5) rfl, e7 _ _ hl7 rfl, RefsH.extT e7 hr7, hP.nd, by omega, fun j => (hoB_in hP.in_ (hP.sub _ hsi) hl j).1, fun j => ⟨hP.in_ j, hoB_wish hP.ne (fun _ z => nl (by rw [← z]; exact hsi)) j⟩, hn, fun H8 e8 => ⟨?_, e8⟩⟩
      show V.int _ = V.int (kf i)
      rw [hkf]
    · obtain ⟨l, xs, rfl, nl7, hl7, hr7⟩ := hW _ x hx
      rw [show ys.length - 1 = k - 1 by omega] at hr7
      have hr7 : RefsH H6 xs (wyB P (wB P S) (S.getD (bestOf (lti kf) (k - 1)) 0) (gap * (k : Int)) n) := hr7
      rw [← hbest] at hr7
      have x7 : ExtT H H7 := (Ext.toT (x3.tr (x35.tr e6))).tr e7
      repeat walk_at "vs"
      intro t H8 n8 q8 e8
      refine hq t s wl l xs H8 (newT_of (Ext.toT (x3.tr x34)) nw) ?_ ?_ ⟨q8, ?_, ?_, ?_, ?_⟩ (TabR.ext e8 hT7) (x7.ext e8)
      · exact newT_of (Ext.toT (x3.tr x35)) nl7
      · exact ne_of_none q5 nl7
      · rw [hSS]; exact e8 _ _ (e7 _ _ (e6 _ _ s5) rfl)
      · rw [hPP, hSS]; exact e8 _ _ (e7 _ _ (e6 _ _ q5) rfl)
      · exact e8 _ _ (e7 _ _ hl7 rfl)
      · rw [hPP, hSS, hpb]; exact (RefsH.extT e7 hr7).mono e8

def sp_law_far : Sp := fun vs H Q _ => ∃ (p q : Addr) (c : Bool) (ns ms : List Int), vs = [.ref p, .ref q] ∧ H p = some (srcO c (ns.map V.int)) ∧ H q = some (srcO c (ms.map V.int)) ∧ ns.length = ms.length ∧ ns.length ≤ 1000 ∧ ∀ H', Ext H H' → Q (.int (ways ns ms)) H'
theorem ok_law_far (T : Txt K mg a) : FnOk P w K mg base (CXU P w) 1 a.f_law_far a.d_law_far ["_law_state", "_law_after"] (sp_law_far) := by
  refine T.F_law_far.okU sc_law_far (fun vs H Q E h => ?_) (fun cdv A outer s H vs Q E hr h => ?_)
  · obtain ⟨p, q, c, ns, ms, rfl, hp, hq', hl, hz, hq⟩ := h
    rfl
  · obtain ⟨p, q, c, ns, ms, rfl, hp, hq', hl, hz, hq⟩ := h
    refine ⟨_, (pss_one (ps_ret (pe_callB (cSum rfl) (by rfl) T.n_sum PyProof.Rows.boot_sum (pa_cons (pe_comp (["_law_one", "_law_other"] : List Str) ([] : List Str) [] rfl ⟨rfl, by decide +kernel, by decide +kernel, by rfl, trivial⟩ (pi_zip2 rfl T.n_zip (pa_cons (pv 0) (pa_cons (pv 1) pa_nil))) (fun _ _ _ _ => ⟨(pg_tup rfl (pgs_cons (pg_name (i := 0) (by show ((["_law_one", "_law_other"] : List Str) ++ ([] : List Str)).Nodup; decide +kernel) rfl (by first | exact Or.inl rfl | exact Or.inr rfl)) (pgs_cons (pg_name (i := 1) (by show ((["_law_one", "_law_other"] : List Str) ++ ([] : List Str)).Nodup; decide +kernel) rfl (by first | exact Or.inl rfl | exact Or.inr rfl)) pgs_nil))), (show PTs _ [] [] from trivial), (pe_op op_sub (pe_callB (cMax2 rfl) (by rfl) T.n_max PyProof.Rows.boot_max (pa_cons (pv 0) (pa_cons (pv 1) pa_nil))) (pe_callB (cMin2 rfl) (by rfl) T.n_min PyProof.Rows.boot_min (pa_cons (pv 0) (pa_cons (pv 1) pa_nil))))⟩)) pa_nil)))), ?_⟩
    repeat walk_at "vs"
    refine ⟨p, q, ns.map V.int, ms.map V.int, c, c, rfl, sqe_src hp, sqe_src hq', fun acc hn _ _ _ _ => comp_mapZ V.int V.int V.int (fun a b : Int => ((a - b).natAbs : Int)) (c := c) (d := c) (sqe_src hp) (sqe_src hq') hl (by omega) hn (fun i x y H2 Y hx hy e hY => ?_) fun H2 e ha => ?_⟩
    · repeat walk_at "vs"
      rw [show max x y - min x y = ((x - y).natAbs : Int) by omega]
      exact hY _ Ext.rfl'
    · repeat walk_at "vs"
      exact r_sum ha (hq H2 e)

def sp_law_is_state : Sp := fun vs H Q _ => ∃ (p : Addr) (ns : List Int), vs = [.ref p, .int (ns.length : Nat)] ∧ H p = some (.tup (ns.map V.int)) ∧ ns.Pairwise (· ≤ ·) ∧ ns.length < 64 ∧ (∀ x ∈ ns, -1000000000000000000 ≤ x ∧ x ≤ 1000000000000000000) ∧ ∀ H', Ext H H' → Q (.bl true) H'
theorem ok_law_is_state (T : Txt K mg a) : FnOk P w K mg base (CXU P w) 2 a.f_law_is_state a.d_law_is_state ["_law_state", "_law_many_here"] (sp_law_is_state) := by
  refine T.F_law_is_state.okU sc_law_is_state (fun vs H Q E h => ?_) (fun cdv A outer s H vs Q E hr h => ?_)
  · obtain ⟨p, ns, rfl, hp, hs, hl, hb, hq⟩ := h
    rfl
  · obtain ⟨p, ns, rfl, hp, hs, hl, hb, hq⟩ := h
    refine ⟨_, (pss_cons (ps_if (PW.pt (pw_or (pt_not (ptT (pe_callB cIsin (by rfl) T.n_isinstance PyProof.Rows.boot_isinstance (pa_cons (pv 0) (pa_cons (pe_bltn (v := V.ty "tuple") (by rfl) T.n_tuple PyProof.Rows.boot_tuple rfl) pa_nil))) (fun _ => rfl))) (pw_or1 (pt_cmpR op_ne (pe_callB cLen (by rfl) T.n_len PySem.boot_len (pa_cons (pv 0) pa_nil)) (pv 1) (nomark _))))) (pss_one (ps_ret pe_bl)) pss_nil)
      (pss_cons (ps_for PassesOwn.never rfl (pi_tup (pv 0)) (pg_name (i := 2) sc_law_is_state.nd rfl (by first | exact Or.inl rfl | exact Or.inr rfl)) (pss_one (ps_if (PW.pt (pw_or (pt_not (ptT (pe_call (ok_law_whole T) (hr.mono (by decide)) (by rfl) T.m_law_whole T.F_law_whole.kp T.b_law_whole .nil passU (pa_cons (pv 2) pa_nil)) (fun _ => rfl))) (pw_or (pt_cmpR op_lt (pv 2) (pe_op op_sub pe_int (pe_op op_pow pe_int pe_int)) (nomark _)) (pw_or1 (pt_cmpR op_gt (pv 2) (pe_op op_pow pe_int pe_int) (nomark _)))))) (pss_one (ps_ret pe_bl)) pss_nil)))
      (pss_one (ps_ret (pe_cmpR (oEq hr) (pv 0) (pe_callTy cTuple (by rfl) T.n_tuple PyProof.Rows.boot_tuple (pa_cons (pe_callB cSorted (by rfl) T.n_sorted PyProof.Rows.boot_sorted (pa_cons (pv 0) pa_nil)) pa_nil)) (nomark _)))))), ?_⟩
    repeat walk_at "vs"
    refine r_isT (HasK.t hp) ?_
    repeat walk_at "vs"
    refine r_lenT hp ?_
    rw [List.length_map]
    repeat walk_at "vs"
    refine iteN (fun c => (c rfl).elim) (fun _ => ?_)
    repeat walk_at "vs"
    refine ⟨p, rfl, ⟨_, SqT.of hp⟩, for_tup (xs := ns.map V.int) (fun i σ H3 => (∃ u, σ = [some (.ref p), some (.int (ns.length : Nat)), u]) ∧ H3 = H) ⟨⟨none, rfl⟩, rfl⟩ (fun i σ H3 _ ⟨_, e⟩ => by rw [e]; exact SqT.of hp) ?_ ?_⟩
    · rintro i x σ H3 hx ⟨⟨u, rfl⟩, rfl⟩
      obtain ⟨y, ey, rfl⟩ := get_int hx
      have hy := hb y (List.mem_of_getElem? ey)
      repeat walk_at "vs"
      refine ⟨_, .int, rfl, rfl, ?_⟩
      repeat walk_at "vs"
      refine iteD (fun c => absurd c (by omega)) (fun _ => ?_)
      repeat walk_at "vs"
      refine iteD (fun c => absurd c (by omega)) (fun _ => ?_)
      repeat walk_at "vs"
      exact ⟨⟨_, rfl⟩, rfl⟩
    · rintro σ H3 ⟨⟨u, rfl⟩, rfl⟩
      repeat walk_at "vs"
      refine r_sortedT hp hl fun l1 ms H1 n1 pm pw q1 e1 => ?_
      have em : ms = ns := sorted_uniq pm (List.Perm.refl _) pw hs
      subst em
      repeat walk_at "vs"
      refine r_tupleL q1 fun t2 H2 n2 q2 e2 => ?_
      repeat walk_at "vs"
      refine r_eqD (Rep.tupInts ((e1.tr e2) _ _ hp)) (Rep.tupInts q2) (eqOk_ints _) (eqOk_ints _) (by show D.depthL (ms.map D.int) + 1 ≤ 20; rw [depthL_ints]; omega) ?_
      rw [show eqD (.tup (ms.map D.int)) (.tup (ms.map D.int)) = true from SeqAt.eqv_refl _ (D.canLay _ (eqOk_ints _))]
      exact hq H2 (e1.tr e2)

def sp_law_plan : Sp := fun vs H Q _ => ∃ (s q l : Addr) (P : List Int) (xs : List V) (pl last : Int) (w : Nat → Int) (n : Nat), vs = [.ref s, .ref q, .ref l] ∧ H s = some (.tup ((exc P last).map V.int)) ∧ H q = some (.lst (((List.range n).map w).map V.int)) ∧ H l = some (.lst xs) ∧ RefsH H xs (wyB P w pl last n) ∧ P.Nodup ∧ P.Pairwise (· ≤ ·) ∧ P.length ≤ 60 ∧ (∀ x ∈ P, -1000000000000000000 ≤ x ∧ x ≤ 1000000000000000000) ∧ last ∈ P ∧ (∀ i, (hoB w pl last i).1 ∈ P) ∧ (∀ i, w i ∈ P ∧ (hoB w pl last (i + 1)).1 ≠ w i) ∧ n ≤ 1000 ∧ ∀ H', Ext H H' → Q (.int (prB P w pl last n)) H'
theorem ok_law_plan (T : Txt K mg a) : FnOk P w K mg base (CXU P w) 3 a.f_law_plan a.d_law_plan ["_law_start", "_law_wishes", "_law_way"] (sp_law_plan) := by
  refine T.F_law_plan.okU sc_law_plan (fun vs H Q E h => ?_) (fun cdv A outer s H vs Q E hr h => ?_)
  · obtain ⟨s, q, l, P, xs, pl, last, w, n, rfl, hs, hw, hl, hR, nd, srt, lP, hb, hla, ho, hwi, hn, hq⟩ := h
    rfl
  · obtain ⟨s, q, l, P, xs, pl, last, w, n, rfl, hs, hw, hl, hR, nd, srt, lP, hb, hla, ho, hwi, hn, hq⟩ := h
    refine ⟨_, (pss_cons (ps_set (i := 3) sc_law_plan.nd rfl (by first | exact Or.inl rfl | exact Or.inr rfl) (pv 0))
      (pss_cons (ps_set (i := 4) sc_law_plan.nd rfl (by first | exact Or.inl rfl | exact Or.inr rfl) pe_int)
      (pss_cons (ps_for PassesOwn.never rfl (pi_zip2 rfl T.n_zip (pa_cons (pv 1) (pa_cons (pv 2) pa_nil))) (pg_tup rfl (pgs_cons (pg_name (i := 5) sc_law_plan.nd rfl (by first | exact Or.inl rfl | exact Or.inr rfl)) (pgs_cons (pg_name (i := 6) sc_law_plan.nd rfl (by first | exact Or.inl rfl | exact Or.inr rfl)) pgs_nil))) (pss_cons (ps_if (PW.pt (pw_or (pt_not (ptT (pe_call (ok_law_is_state T) (hr.mono (by decide)) (by rfl) T.m_law_is_state T.F_law_is_state.kp T.b_law_is_state .nil passU (pa_cons (pv 6) (pa_cons (pe_callB cLen (by rfl) T.n_len PySem.boot_len (pa_cons (pv 0) pa_nil)) pa_nil))) (fun _ => rfl))) (pw_or1 (pt_cmpR oNotIn (pv 5) (pv 6) (by with_unfolding_all rfl))))) (pss_one (ps_ret (pe_un un_neg pe_int))) pss_nil)
      (pss_cons (ps_set (i := 4) sc_law_plan.nd rfl (by first | exact Or.inl rfl | exact Or.inr rfl) (pe_op oAddV (pv 4) (pe_call (ok_law_far T) (hr.mono (by decide)) (by rfl) T.m_law_far T.F_law_far.kp T.b_law_far .nil passU (pa_cons (pv 3) (pa_cons (pv 6) pa_nil)))))
      (pss_one (ps_set (i := 3) sc_law_plan.nd rfl (by first | exact Or.inl rfl | exact Or.inr rfl) (pv 6))))))
      (pss_one (ps_ret (pv 4)))))), ?_⟩
    have hlx := hR.length
    rw [wyB_len] at hlx
    have lla := exc_len nd hla
    repeat walk_at "vs"
    refine ⟨q, l, _, _, false, false, rfl, SqL.of hw, SqL.of hl, for_zip2 (fun i σ H4 => (∃ (b : Addr) (u1 u2 : Option V), σ = [some (.ref s), some (.ref q), some (.ref l), some (.ref b), some (.int (prB P w pl last i)), u1, u2] ∧ H4 b = some (.tup ((exc P (hoB w pl last i).1).map V.int))) ∧ Ext H H4) (by rw [List.length_map, List.length_map, List.length_range, hlx]) ⟨⟨s, none, none, rfl, hs⟩, Ext.rfl'⟩ (fun i σ H4 _ ⟨_, x⟩ => ⟨SqL.of (x _ _ hw), SqL.of (x _ _ hl)⟩) ?_ ?_⟩
    · rintro i x y σ H4 p5 hx hy ⟨⟨b, u1, u2, rfl, hb4⟩, x4⟩ n5
      obtain ⟨H5, eH5, q5', e5⟩ : ∃ H5, upd H4 p5 (.tup [x, y]) = H5 ∧ H5 p5 = some (.tup [x, y]) ∧ Ext H4 H5 := ⟨_, rfl, upd_same, ext_upd n5⟩
      rw [eH5]
      obtain ⟨hi, rfl⟩ := rng_at hx
      obtain ⟨c, rfl, hc⟩ := (hR.mono (x4.tr e5)).get i y hy
      have eg : (wyB P w pl last n).getD i [] = exc P (hoB w pl last (i + 1)).1 := by
        rw [List.getD_eq_getElem?_getD, List.getElem?_eq_getElem (by rw [wyB_len]; exact hi)]
        exact (wyB_at (List.getElem?_eq_getElem (by rw [wyB_len]; exact hi))).2
      rw [eg] at hc
      have hb5 := e5 _ _ hb4
      have lx := exc_len nd (ho i)
      have ly := exc_len nd (ho (i + 1))
      have hin : w i ∈ exc P (hoB w pl last (i + 1)).1 := exc_mem.mpr ⟨(hwi i).1, fun z => (hwi i).2 z.symm⟩
      have hs5 := (x4.tr e5) _ _ hs
      refine r_gtup q5' rfl ?_
      repeat walk_at "vs"
      refine r_lenT hs5 ?_
      rw [List.length_map]
      repeat walk_at "vs"
      refine ⟨c, _, by rw [show (exc P last).length = (exc P (hoB w pl last (i + 1)).1).length by omega]; rfl, hc, exc_srt srt, by omega, fun x hx => hb x (exc_mem.mp hx).1, fun H6 e6 => ?_⟩
      repeat walk_at "vs"
      refine r_notinT (e6 _ _ hc) rfl (flat_ints _) ?_
      rw [inV_ints, decide_eq_true hin]
      repeat walk_at "vs"
      refine ⟨b, c, true, _, _, rfl, e6 _ _ hb5, e6 _ _ hc, by omega, by omega, fun H7 e7 => ?_⟩
      repeat walk_at "vs"
      exact ⟨⟨c, _, _, rfl, (e6.tr e7) _ _ hc⟩, x4.tr (e5.tr (e6.tr e7))⟩
    · rintro σ H4 ⟨⟨b, u1, u2, rfl, hb4⟩, x4⟩
      rw [List.length_map, List.length_map, List.length_range]
      repeat walk_at "vs"
      exact hq H4 x4

theorem cutL_one {cs : List Int} (h : 1 ≤ cs.length) : cutV (cs.map V.int) (some 1) none = (cs.tail).map V.int := by
  unfold cutV
  rw [show (1 : Int) = ((1 : Nat) : Int) from rfl, HT.sIx_nat, HT.sIx_none, List.length_map, Nat.min_eq_left h, ← List.map_drop, List.take_of_length_le (by rw [List.length_map, List.length_drop]; exact Nat.le_refl _), List.drop_one]
theorem cutL_end {ns : List Int} (h : ns ≠ []) : cutV (ns.map V.int) none (some (-1)) = ns.dropLast.map V.int := by
  have hl : 0 < ns.length := List.length_pos_iff.mpr h
  unfold cutV
  rw [HT.sIx_none, List.drop_zero, Nat.sub_zero, List.length_map]
  have e : HT.sIx ns.length ns.length (some (-1)) = ns.length - 1 := by
    show (if (-1 : Int) < 0 then ((-1) + (ns.length : Int)).toNat else min (-1 : Int).toNat ns.length) = _
    rw [if_pos (by decide)]
    omega
  rw [e, ← List.map_take, List.dropLast_eq_take]
def sp_law_gone : Sp := fun vs H Q _ => ∃ (p : Addr) (ns : List Int) (w : Int), vs = [.ref p, .int w] ∧ H p = some (.lst (ns.map V.int)) ∧ 1 ≤ ns.length ∧ ns.length ≤ 1000 ∧ ∀ l H', H' l = some (.lst ((goB ns w).map V.int)) → Ext H H' → Q (.ref l) H'
theorem ok_law_gone (T : Txt K mg a) : FnOk P w K mg base (CXU P w) 1 a.f_law_gone a.d_law_gone ["_law_state", "_law_wish"] (sp_law_gone) := by
  refine T.F_law_gone.okU sc_law_gone (fun vs H Q E h => ?_) (fun cdv A outer s H vs Q E hr h => ?_)
  · obtain ⟨p, ns, w, rfl, h3, h0, hz, hq⟩ := h
    rfl
  · obtain ⟨p, ns, w, rfl, h3, h0, hz, hq⟩ := h
    refine ⟨_, (pss_cons (ps_setComp (i := 2) (["_law_place"] : List Str) (["_law_wish"] : List Str) [1] sc_law_gone.nd rfl (Or.inl rfl) rfl ⟨rfl, by decide +kernel, by decide +kernel, by rfl, ⟨⟨rfl, by first | exact Or.inl rfl | exact Or.inr rfl, by first | exact Or.inl rfl | exact Or.inr rfl⟩, trivial⟩⟩ (pi_list (pv 0)) (fun _ _ _ _ => ⟨(pg_name (i := 0) (by show ((["_law_place"] : List Str) ++ (["_law_wish"] : List Str)).Nodup; decide +kernel) rfl (by first | exact Or.inl rfl | exact Or.inr rfl)), (show PTs _ [_] [_] from ⟨(pt_cmpR op_lt (pv 0) (pv 1) (nomark _)), trivial⟩), (pv 0)⟩))
      (pss_cons (ps_setComp (i := 3) (["_law_place"] : List Str) (["_law_wish"] : List Str) [1] sc_law_gone.nd rfl (Or.inl rfl) rfl ⟨rfl, by decide +kernel, by decide +kernel, by rfl, ⟨⟨rfl, by first | exact Or.inl rfl | exact Or.inr rfl, by first | exact Or.inl rfl | exact Or.inr rfl⟩, trivial⟩⟩ (pi_list (pv 0)) (fun _ _ _ _ => ⟨(pg_name (i := 0) (by show ((["_law_place"] : List Str) ++ (["_law_wish"] : List Str)).Nodup; decide +kernel) rfl (by first | exact Or.inl rfl | exact Or.inr rfl)), (show PTs _ [_] [_] from ⟨(pt_cmpR op_gt (pv 0) (pv 1) (nomark _)), trivial⟩), (pv 0)⟩))
      (pss_cons (ps_if (pt_cmpR oIn (pv 1) (pv 0) (by with_unfolding_all rfl)) (pss_one (ps_ret (pe_callTy cList (by rfl) T.n_list PyProof.Rows.boot_list (pa_cons (pv 0) pa_nil)))) pss_nil)
      (pss_cons (ps_if (pt_cmpR (oEq hr) (pv 2) (pe_lst pa_nil) (nomark _)) (pss_one (ps_ret (pe_op oAddV (pe_lst (pa_cons (pv 1) pa_nil)) (pe_slice oSl (pv 3) (po_some pe_int) po_none)))) pss_nil)
      (pss_cons (ps_if (pt_cmpR (oEq hr) (pv 3) (pe_lst pa_nil) (nomark _)) (pss_one (ps_ret (pe_op oAddV (pe_slice oSl (pv 2) po_none (po_some (pe_un un_neg pe_int))) (pe_lst (pa_cons (pv 1) pa_nil))))) pss_nil)
      (pss_cons (ps_set (i := 4) sc_law_gone.nd rfl (by first | exact Or.inl rfl | exact Or.inr rfl) (pe_callB (cMin2 rfl) (by rfl) T.n_min PyProof.Rows.boot_min (pa_cons (pe_op op_sub (pv 1) (pe_ix oIx (pv 2) (pe_un un_neg pe_int) (fun _ _ => rfl))) (pa_cons (pe_op op_sub (pe_ix oIx (pv 3) pe_int (fun _ _ => rfl)) (pv 1)) pa_nil))))
      (pss_one (ps_ret (pe_op oAddV (pe_op oAddV (pe_slice oSl (pv 2) po_none (po_some (pe_un un_neg pe_int))) (pe_lst (pa_cons (pe_op oAddV (pe_ix oIx (pv 2) (pe_un un_neg pe_int) (fun _ _ => rfl)) (pv 4)) (pa_cons (pe_op op_sub (pe_ix oIx (pv 3) pe_int (fun _ _ => rfl)) (pv 4)) pa_nil)))) (pe_slice oSl (pv 3) (po_some pe_int) po_none)))))))))), ?_⟩
    unfold goB at hq
    repeat walk_at "vs"
    refine ⟨p, rfl, ⟨_, SqL.of h3⟩, fun acc hn _ _ _ _ => comp_list (SqL.of h3) (by rw [List.length_map]; omega) hn (fun j ys _ => ys = ((ns.take j).filter fun x => decide (x < w)).map V.int) (by simp) (fun _ _ _ _ _ h => h) (fun j ys H' _ h => by rw [h, List.length_map]; exact Nat.le_trans (List.length_filter_le _ _) (by rw [List.length_take]; omega)) ?_ ?_⟩
    · rintro j y ys H2 hy e rfl Y N hY hN
      obtain ⟨y, ey, rfl⟩ := get_int hy
      repeat walk_at "vs"
      refine iteD (fun h => ?_) (fun h => ?_)
      · repeat walk_at "vs"
        exact hY _ _ Ext.rfl' (by rw [comp_lt (w := w) ey, if_pos (decide_eq_true h)])
      · repeat walk_at "vs"
        exact hN _ Ext.rfl' (by rw [comp_lt (w := w) ey, if_neg (by simpa using h)])
    rintro ys H2 e2 ha rfl
    rw [List.length_map, List.take_of_length_le (Nat.le_refl _)] at ha
    have h3' := e2 _ _ h3
    repeat walk_at "vs"
    refine ⟨p, rfl, ⟨_, SqL.of h3'⟩, fun acc2 hn2 _ _ _ _ => comp_list (SqL.of h3') (by rw [List.length_map]; omega) hn2 (fun j ys _ => ys = ((ns.take j).filter fun x => decide (w < x)).map V.int) (by simp) (fun _ _ _ _ _ h => h) (fun j ys H' _ h => by rw [h, List.length_map]; exact Nat.le_trans (List.length_filter_le _ _) (by rw [List.length_take]; omega)) ?_ ?_⟩
    · rintro j y ys H3 hy e rfl Y N hY hN
      obtain ⟨y, ey, rfl⟩ := get_int hy
      repeat walk_at "vs"
      refine iteD (fun h => ?_) (fun h => ?_)
      · repeat walk_at "vs"
        exact hY _ _ Ext.rfl' (by rw [comp_lt (w := w) ey, if_pos (decide_eq_true h)])
      · repeat walk_at "vs"
        exact hN _ Ext.rfl' (by rw [comp_lt (w := w) ey, if_neg (by simpa using h)])
    rintro ys H3 e3 hb rfl
    rw [List.length_map, List.take_of_length_le (Nat.le_refl _)] at hb
    have ha3 := e3 _ _ ha
    have x3 : Ext H H3 := e2.tr e3
    repeat walk_at "vs"
    refine r_inL (x3 _ _ h3) rfl (flat_ints _) ?_
    rw [inV_ints]
    repeat walk_at "vs"
    refine iteD (fun hw => ?_) (fun hw => ?_)
    · rw [if_pos hw] at hq
      repeat walk_at "vs"
      exact r_listL (x3 _ _ h3) fun l H4 n4 q4 e4 => hq l H4 q4 (x3.tr e4)
    rw [if_neg hw] at hq
    have zl := List.length_filter_le (fun x => decide (x < w)) ns
    have zr := List.length_filter_le (fun x => decide (w < x)) ns
    have some1 : ¬ (ns.filter (fun x => decide (x < w)) = [] ∧ ns.filter (fun x => decide (w < x)) = []) := by
      rintro ⟨eL, eR⟩
      cases ns with
      | nil => simp at h0
      | cons b t =>
        have k1 : ¬ b < w := fun q => by
          have : b ∈ (b :: t).filter fun x => decide (x < w) := List.mem_filter.mpr ⟨List.mem_cons_self, decide_eq_true q⟩
          rw [eL] at this; simp at this
        have k2 : ¬ w < b := fun q => by
          have : b ∈ (b :: t).filter fun x => decide (w < x) := List.mem_filter.mpr ⟨List.mem_cons_self, decide_eq_true q⟩
          rw [eR] at this; simp at this
        exact hw (by have : w = b := by omega
                     rw [this]; exact List.mem_cons_self)
    generalize (ns.filter fun x => decide (x < w)) = L at *
    generalize (ns.filter fun x => decide (w < x)) = R at *
    repeat walk_at "vs"
    intro l4 H4 n4 q4 e4
    have ha4 := e4 _ _ ha3
    have hb4 := e4 _ _ hb
    repeat walk_at "vs"
    refine r_eqLI (ms := []) ha4 q4 ?_
    repeat walk_at "vs"
    refine iteD (fun eL => ?_) (fun eL => ?_)
    · have nr : R ≠ [] := fun q => some1 ⟨eL, q⟩
      rw [if_neg nr, if_pos eL] at hq
      repeat walk_at "vs"
      intro l5 H5 n5 q5 e5
      repeat walk_at "vs"
      refine r_slL (e5 _ _ hb4) fun l6 H6 n6 q6 e6 => ?_
      rw [cutL_one (List.length_pos_iff.mpr nr)] at q6
      repeat walk_at "vs"
      refine r_catL (e6 _ _ q5) q6 (by simp; omega) fun l7 H7 n7 q7 e7 => ?_
      exact hq l7 H7 (by rw [q7]; rfl) ((((x3.tr e4).tr e5).tr e6).tr e7)
    repeat walk_at "vs"
    intro l5 H5 n5 q5 e5
    have ha5 := e5 _ _ ha4
    have hb5 := e5 _ _ hb4
    repeat walk_at "vs"
    refine r_eqLI (ms := []) hb5 q5 ?_
    repeat walk_at "vs"
    refine iteD (fun eR => ?_) (fun eR => ?_)
    · rw [if_pos eR] at hq
      repeat walk_at "vs"
      refine r_slL ha5 fun l6 H6 n6 q6 e6 => ?_
      rw [cutL_end eL] at q6
      repeat walk_at "vs"
      intro l7 H7 n7 q7 e7
      repeat walk_at "vs"
      refine r_catL (e7 _ _ q6) q7 (by simp; omega) fun l8 H8 n8 q8 e8 => ?_
      exact hq l8 H8 (by rw [q8]; simp) (((((x3.tr e4).tr e5).tr e6).tr e7).tr e8)
    rw [if_neg eR, if_neg eL] at hq
    repeat walk_at "vs"
    refine r_ixL ha5 (atI_last' eL) ?_
    repeat walk_at "vs"
    refine r_ixL hb5 (atI_head eR) ?_
    repeat walk_at "vs"
    refine r_slL ha5 fun l6 H6 n6 q6 e6 => ?_
    rw [cutL_end eL] at q6
    repeat walk_at "vs"
    refine r_ixL (e6 _ _ ha5) (atI_last' eL) ?_
    repeat walk_at "vs"
    refine r_ixL (e6 _ _ hb5) (atI_head eR) ?_
    repeat walk_at "vs"
    intro l7 H7 n7 q7 e7
    repeat walk_at "vs"
    refine r_catL (e7 _ _ q6) q7 (by simp; omega) fun l8 H8 n8 q8 e8 => ?_
    repeat walk_at "vs"
    refine r_slL (e8 _ _ (e7 _ _ (e6 _ _ hb5))) fun l9 H9 n9 q9 e9 => ?_
    rw [cutL_one (List.length_pos_iff.mpr eR)] at q9
    repeat walk_at "vs"
    refine r_catL (e9 _ _ q8) q9 (by simp; omega) fun l10 H10 n10 q10 e10 => ?_
    exact hq l10 H10 (by rw [q10]; simp) (((((((x3.tr e4).tr e5).tr e6).tr e7).tr e8).tr e9).tr e10)

def sp_law_pay : Sp := fun vs H Q _ => ∃ (s wl : Addr) (P S : List Int) (gap : Int) (n : Nat), vs = [.ref s, .ref wl] ∧ H s = some (.tup (S.map V.int)) ∧ H wl = some (.lst ((wsB P S n).map V.int)) ∧ PlB P S gap ∧ n ≤ 1000 ∧ ∀ H', Ext H H' → Q (.int (pdB P S n)) H'
theorem ok_law_pay (T : Txt K mg a) : FnOk P w K mg base (CXU P w) 2 a.f_law_pay a.d_law_pay ["_law_start", "_law_wishes"] (sp_law_pay) := by
  refine T.F_law_pay.okU sc_law_pay (fun vs H Q E h => ?_) (fun cdv A outer s H vs Q E hr h => ?_)
  · obtain ⟨s, wl, P, S, gap, n, rfl, hs, hw, hP, hn, hq⟩ := h
    rfl
  · obtain ⟨s, wl, P, S, gap, n, rfl, hs, hw, hP, hn, hq⟩ := h
    refine ⟨_, (pss_cons (ps_set (i := 2) sc_law_pay.nd rfl (by first | exact Or.inl rfl | exact Or.inr rfl) (pe_callTy cList (by rfl) T.n_list PyProof.Rows.boot_list (pa_cons (pv 0) pa_nil)))
      (pss_cons (ps_set (i := 3) sc_law_pay.nd rfl (by first | exact Or.inl rfl | exact Or.inr rfl) pe_int)
      (pss_cons (ps_for PassesOwn.never rfl (pi_list (pv 1)) (pg_name (i := 4) sc_law_pay.nd rfl (by first | exact Or.inl rfl | exact Or.inr rfl)) (pss_cons (ps_set (i := 5) sc_law_pay.nd rfl (by first | exact Or.inl rfl | exact Or.inr rfl) (pe_call (ok_law_gone T) (hr.mono (by decide)) (by rfl) T.m_law_gone T.F_law_gone.kp T.b_law_gone .nil passU (pa_cons (pv 2) (pa_cons (pv 4) pa_nil))))
      (pss_cons (ps_set (i := 3) sc_law_pay.nd rfl (by first | exact Or.inl rfl | exact Or.inr rfl) (pe_op oAddV (pv 3) (pe_call (ok_law_far T) (hr.mono (by decide)) (by rfl) T.m_law_far T.F_law_far.kp T.b_law_far .nil passU (pa_cons (pv 2) (pa_cons (pv 5) pa_nil)))))
      (pss_one (ps_set (i := 2) sc_law_pay.nd rfl (by first | exact Or.inl rfl | exact Or.inr rfl) (pv 5))))))
      (pss_one (ps_ret (pv 3)))))), ?_⟩
    have g6 := hP.good.hi
    repeat walk_at "vs"
    refine r_listT hs fun l1 H1 n1 q1 e1 => ?_
    repeat walk_at "vs"
    refine ⟨wl, rfl, ⟨_, SqL.of (e1 _ _ hw)⟩, for_list (xs := (wsB P S n).map V.int) (fun i σ H3 => (∃ (l : Addr) (u1 u2 : Option V), σ = [some (.ref s), some (.ref wl), some (.ref l), some (.int (pdB P S i)), u1, u2] ∧ H3 l = some (.lst ((stN P S i).1.map V.int))) ∧ Ext H H3) ⟨⟨l1, none, none, rfl, q1⟩, e1⟩ (fun i σ H3 _ ⟨_, x⟩ => SqL.of (x _ _ hw)) ?_ ?_⟩
    · rintro i x σ H3 hx ⟨⟨l, u1, u2, rfl, hl⟩, x3⟩
      obtain ⟨x, ex, rfl⟩ := get_int hx
      obtain ⟨hi, rfl⟩ := wsB_at ex
      have SI := hP.at_ i
      have l1' := SI.l1
      have hlen := goB_len SI.good.srt SI.good.lo (w := wB P S i)
      repeat walk_at "vs"
      refine ⟨l, _, wB P S i, rfl, hl, SI.good.lo, by omega, fun l4 H4 q4 e4 => ?_⟩
      repeat walk_at "vs"
      refine ⟨l, l4, false, _, _, rfl, e4 _ _ hl, q4, hlen.symm, by omega, fun H5 e5 => ?_⟩
      repeat walk_at "vs"
      exact ⟨⟨l4, _, _, rfl, e5 _ _ q4⟩, x3.tr (e4.tr e5)⟩
    · rintro σ H3 ⟨⟨l, u1, u2, rfl, hl⟩, x3⟩
      rw [List.length_map, wsB_len]
      repeat walk_at "vs"
      exact hq H3 x3

def sp_law_good : Sp := fun vs H Q _ => ∃ (t s wl yl : Addr) (xs : List V) (k n : Nat) (gap : Int), vs = [.ref t, .int (k : Nat), .int gap, .int (n : Nat)] ∧ EnB H t s wl yl xs k gap n ∧ 1 ≤ k ∧ k ≤ 6 ∧ 1 ≤ gap ∧ gap ≤ 1000000000 ∧ 1 ≤ n ∧ n ≤ 1000 ∧ ∀ H', Ext H H' → Q (.bl true) H'
theorem ok_law_good (T : Txt K mg a) : FnOk P w K mg base (CXU P w) 13 a.f_law_good a.d_law_good ["_law_found", "_law_k", "_law_gap", "_law_many_here"] (sp_law_good) := by
  refine T.F_law_good.okU sc_law_good (fun vs H Q E h => ?_) (fun cdv A outer s H vs Q E hr h => ?_)
  · obtain ⟨t, s, wl, yl, xs, k, n, gap, rfl, hE, k1, k6, g1, g2, n1, hn, hq⟩ := h
    rfl
  · obtain ⟨t, s, wl, yl, xs, k, n, gap, rfl, hE, k1, k6, g1, g2, n1, hn, hq⟩ := h
    refine ⟨_, (pss_cons (ps_if (PW.pt (pw_or (pt_not (ptT (pe_callB cIsin (by rfl) T.n_isinstance PyProof.Rows.boot_isinstance (pa_cons (pv 0) (pa_cons (pe_bltn (v := V.ty "tuple") (by rfl) T.n_tuple PyProof.Rows.boot_tuple rfl) pa_nil))) (fun _ => rfl))) (pw_or (pt_cmpR op_ne (pe_callB cLen (by rfl) T.n_len PySem.boot_len (pa_cons (pv 0) pa_nil)) pe_int (nomark _)) (pw_or1 (pt_not (ptT (pe_callB cIsin (by rfl) T.n_isinstance PyProof.Rows.boot_isinstance (pa_cons (pe_ix oIx (pv 0) pe_int (fun _ _ => rfl)) (pa_cons (pe_bltn (v := V.ty "list") (by rfl) T.n_list PyProof.Rows.boot_list rfl) pa_nil))) (fun _ => rfl))))))) (pss_one (ps_ret pe_bl)) pss_nil)
      (pss_cons (ps_asg (pv 0) (pg_tup rfl (pgs_cons (pg_name (i := 4) sc_law_good.nd rfl (by first | exact Or.inl rfl | exact Or.inr rfl)) (pgs_cons (pg_name (i := 5) sc_law_good.nd rfl (by first | exact Or.inl rfl | exact Or.inr rfl)) (pgs_cons (pg_name (i := 6) sc_law_good.nd rfl (by first | exact Or.inl rfl | exact Or.inr rfl)) pgs_nil)))))
      (pss_cons (ps_if (PW.pt (pw_or (pt_not (ptT (pe_callB cIsin (by rfl) T.n_isinstance PyProof.Rows.boot_isinstance (pa_cons (pv 6) (pa_cons (pe_bltn (v := V.ty "list") (by rfl) T.n_list PyProof.Rows.boot_list rfl) pa_nil))) (fun _ => rfl))) (pw_or (pt_cmpR op_ne (pe_callB cLen (by rfl) T.n_len PySem.boot_len (pa_cons (pv 5) pa_nil)) (pv 3) (nomark _)) (pw_or1 (pt_cmpR op_ne (pe_callB cLen (by rfl) T.n_len PySem.boot_len (pa_cons (pv 6) pa_nil)) (pv 3) (nomark _)))))) (pss_one (ps_ret pe_bl)) pss_nil)
      (pss_cons (ps_if (pt_not (ptT (pe_call (ok_law_same T) (hr.mono (by decide)) (by rfl) T.m_law_same T.F_law_same.kp T.b_law_same .nil passU (pa_cons (pv 4) (pa_cons (pe_callTy cTuple (by rfl) T.n_tuple PyProof.Rows.boot_tuple (pa_cons (pe_comp (["_law_j"] : List Str) (["_law_gap"] : List Str) [2] rfl ⟨rfl, by decide +kernel, by decide +kernel, by rfl, ⟨⟨rfl, by first | exact Or.inl rfl | exact Or.inr rfl, by first | exact Or.inl rfl | exact Or.inr rfl⟩, trivial⟩⟩ (pi_range1 rfl T.n_range (pa_cons (pv 1) pa_nil)) (fun _ _ _ _ => ⟨(pg_name (i := 0) (by show ((["_law_j"] : List Str) ++ (["_law_gap"] : List Str)).Nodup; decide +kernel) rfl (by first | exact Or.inl rfl | exact Or.inr rfl)), (show PTs _ [] [] from trivial), (pe_op op_mulB (pv 1) (pv 0))⟩)) pa_nil)) pa_nil))) (fun _ => rfl))) (pss_one (ps_ret pe_bl)) pss_nil)
      (pss_cons (ps_for PassesOwn.never rfl (pi_list (pv 5)) (pg_name (i := 7) sc_law_good.nd rfl (by first | exact Or.inl rfl | exact Or.inr rfl)) (pss_one (ps_if (pt_not (ptT (pe_call (ok_law_is_state T) (hr.mono (by decide)) (by rfl) T.m_law_is_state T.F_law_is_state.kp T.b_law_is_state .nil passU (pa_cons (pe_tup (pa_cons (pv 7) pa_nil)) (pa_cons pe_int pa_nil))) (fun _ => rfl))) (pss_one (ps_ret pe_bl)) pss_nil)))
      (pss_cons (ps_set (i := 8) sc_law_good.nd rfl (by first | exact Or.inl rfl | exact Or.inr rfl) (pe_call (ok_law_pay T) (hr.mono (by decide)) (by rfl) T.m_law_pay T.F_law_pay.kp T.b_law_pay .nil passU (pa_cons (pv 4) (pa_cons (pv 5) pa_nil))))
      (pss_cons (ps_set (i := 9) sc_law_good.nd rfl (by first | exact Or.inl rfl | exact Or.inr rfl) (pe_call (ok_law_plan T) (hr.mono (by decide)) (by rfl) T.m_law_plan T.F_law_plan.kp T.b_law_plan .nil passU (pa_cons (pv 4) (pa_cons (pv 5) (pa_cons (pv 6) pa_nil)))))
      (pss_one (ps_ret (pe_and (pe_cmpR op_ge (pv 9) pe_int (nomark _)) (pe_and (pe_cmpR op_ge (pv 8) (pe_op op_mulB (pv 3) (pv 2)) (nomark _)) (pe_one (pe_cmpR op_le (pe_op op_mulB (pv 1) (pv 9)) (pe_op oAddV (pv 8) (pe_op op_fdivB (pe_op op_mulB (pe_op op_mulB (pv 2) (pv 1)) (pe_op oAddV (pv 1) pe_int)) pe_int)) (nomark _)))))))))))))), ?_⟩
    obtain ⟨hP, srt, hl, nl⟩ := plB_of k1 k6 g1 g2
    have pexc := plcs_exc k1 k6 g1 g2
    have lS : (stas k gap).length = k := by unfold stas; simp
    have lP : (plcs k gap).length = k + 1 := by unfold plcs; simp
    have w0 : wB (plcs k gap) (stas k gap) 0 = gap * (k : Int) := lack_uniq hP.nd hP.ndS hP.len hP.sub hl nl
    have hbi : bestOf (lti (kfB k gap n)) (k - 1) < k := by have := bestOf_le (lti (kfB k gap n)) (k - 1); omega
    have hpb : pbB k gap n ∈ stas k gap := by
      unfold pbB
      rw [List.getD_eq_getElem?_getD, List.getElem?_eq_getElem (by omega)]
      exact List.getElem_mem _
    have hmin : ∀ p ∈ stas k gap, prB (plcs k gap) (wB (plcs k gap) (stas k gap)) (pbB k gap n) (gap * (k : Int)) n ≤ prB (plcs k gap) (wB (plcs k gap) (stas k gap)) p (gap * (k : Int)) n := fun p hp => by
      obtain ⟨j, hj, rfl⟩ := List.getElem_of_mem hp
      have := bestOf_min (lti_irr (kfB k gap n)) (lti_tr (kfB k gap n)) (k - 1) j (by omega)
      have := of_decide_eq_false this
      have e1 : kfB k gap n j = prB (plcs k gap) (wB (plcs k gap) (stas k gap)) (stas k gap)[j] (gap * (k : Int)) n := by
        unfold kfB
        rw [List.getD_eq_getElem?_getD, List.getElem?_eq_getElem hj]
        rfl
      have e2 : kfB k gap n (bestOf (lti (kfB k gap n)) (k - 1)) = prB (plcs k gap) (wB (plcs k gap) (stas k gap)) (pbB k gap n) (gap * (k : Int)) n := rfl
      rw [e1, e2] at this
      omega
    obtain ⟨n', rfl⟩ : ∃ n', n = n' + 1 := ⟨n - 1, by omega⟩
    obtain ⟨fin1, fin2⟩ := best_pays k1 k6 g1 g2 hmin
    have fin0 := prB_nn (plcs k gap) (wB (plcs k gap) (stas k gap)) (pbB k gap (n' + 1)) (gap * (k : Int)) (n' + 1)
    have ho := fun j => (hoB_in hP.in_ (hP.sub _ hpb) hl j).1
    have hwi : ∀ j, wB (plcs k gap) (stas k gap) j ∈ plcs k gap ∧ (hoB (wB (plcs k gap) (stas k gap)) (pbB k gap (n' + 1)) (gap * (k : Int)) (j + 1)).1 ≠ wB (plcs k gap) (stas k gap) j := fun j => ⟨hP.in_ j, hoB_wish hP.ne (fun _ z => nl (by rw [← z]; exact hpb)) j⟩
    have hlx := hE.r.length
    rw [wyB_len] at hlx
    have lw := wsB_len (plcs k gap) (stas k gap) (n' + 1)
    have hEt := hE.t
    have hEw := hE.w
    have hEy := hE.y
    repeat walk_at "vs"
    refine r_isT (HasK.t hEt) ?_
    repeat walk_at "vs"
    refine r_lenT hEt ?_
    repeat walk_at "vs"
    refine r_ixT hEt (v := .ref wl) rfl ?_
    repeat walk_at "vs"
    refine r_isL (HasK.l hEw) ?_
    repeat walk_at "vs"
    refine r_isL (HasK.l hEy) ?_
    repeat walk_at "vs"
    refine r_lenL hEw ?_
    rw [List.length_map, lw]
    repeat walk_at "vs"
    refine iteN (fun c => (c rfl).elim) (fun _ => ?_)
    repeat walk_at "vs"
    refine r_lenL hEy ?_
    rw [hlx]
    repeat walk_at "vs"
    refine iteN (fun c => (c rfl).elim) (fun _ => ?_)
    repeat walk_at "vs"
    refine ⟨_, rfl, by omega, by omega, fun acc hac _ _ _ _ => comp_mapR V.int (fun (i : Nat) => gap * (i : Int)) (by omega) hac (fun i H3 Y hi e hY => ?_) fun H1 e1 ha => ?_⟩
    · repeat walk_at "vs"
      exact hY _ Ext.rfl'
    rw [Int.toNat_natCast] at ha
    repeat walk_at "vs"
    refine r_tupleL ha fun t2 H2 n2 q2 e2 => ?_
    have E2 := hE.ext (e1.tr e2)
    repeat walk_at "vs"
    refine same_yes (Rep.tupInts E2.s) (Rep.tupInts (show H2 t2 = some (.tup ((stas k gap).map V.int)) from q2)) (fineL_ints _) (by show Nat.ble (D.depthL ((stas k gap).map D.int) + 1) 5 = true; rw [depthL_ints]; rfl) fun H3 e3 => ?_
    have E3 := E2.ext e3
    have hw3 := E3.w
    repeat walk_at "vs"
    refine ⟨wl, rfl, ⟨_, SqL.of hw3⟩, for_list (xs := (wsB (plcs k gap) (stas k gap) (n' + 1)).map V.int) (fun i σ H4 => (∃ (u : Option V), σ = [some (.ref t), some (.int (k : Nat)), some (.int gap), some (.int ((n' + 1 : Nat) : Int)), some (.ref s), some (.ref wl), some (.ref yl), u, none, none]) ∧ Ext H3 H4) ⟨⟨none, rfl⟩, Ext.rfl'⟩ (fun i σ H4 _ ⟨_, x⟩ => SqL.of (x _ _ hw3)) ?_ ?_⟩
    · rintro i x σ H4 hx ⟨⟨u, rfl⟩, x4⟩
      obtain ⟨x, ex, rfl⟩ := get_int hx
      obtain ⟨hi, rfl⟩ := wsB_at ex
      repeat walk_at "vs"
      intro p5 H5 n5 q5 e5
      repeat walk_at "vs"
      refine ⟨p5, [wB (plcs k gap) (stas k gap) i], rfl, q5, List.pairwise_singleton _ _, by simp, fun y hy => by rw [List.mem_singleton.mp hy]; exact hP.pl _ (hP.in_ i), fun H6 e6 => ?_⟩
      repeat walk_at "vs"
      exact ⟨⟨_, rfl⟩, x4.tr (e5.tr e6)⟩
    · rintro σ H4 ⟨⟨u, rfl⟩, x4⟩
      have E4 := E3.ext x4
      repeat walk_at "vs"
      refine ⟨s, wl, _, _, gap, n' + 1, rfl, E4.s, E4.w, hP, hn, fun H5 e5 => ?_⟩
      have E5 := E4.ext e5
      repeat walk_at "vs"
      refine ⟨s, wl, yl, plcs k gap, xs, pbB k gap (n' + 1), gap * (k : Int), wB (plcs k gap) (stas k gap), n' + 1, rfl, by rw [pexc]; exact E5.s, E5.w, E5.y, E5.r, hP.nd, srt, by omega, hP.pl, hl, ho, hwi, hn, fun H6 e6 => ?_⟩
      repeat walk_at "vs"
      refine iteD (fun _ => ?_) (fun z => absurd z (fun z => z (by omega)))
      repeat walk_at "vs"
      refine iteD (fun _ => ?_) (fun z => absurd z (fun z => z (by omega)))
      repeat walk_at "vs"
      rw [decide_eq_true (by omega)]
      exact hq H6 ((e1.tr e2).tr (e3.tr (x4.tr (e5.tr e6))))

def sp_law_mixed : Sp := fun vs H Q _ => ∃ c k, vs = [.int c, .int k] ∧ 0 ≤ k ∧ k ≤ 1000000 ∧ ∀ n, 0 ≤ n → n < 2147483629 → Q (.int n) H
theorem ok_law_mixed (T : Txt K mg a) : FnOk P w K mg base (CXU P w) 1 a.f_law_mixed a.d_law_mixed ["_law_cell_here", "_law_k"] (sp_law_mixed) := by
  refine T.F_law_mixed.okU sc_law_mixed (fun vs H Q E h => ?_) (fun cdv A outer s H vs Q E hr h => ?_)
  · obtain ⟨c, k, rfl, h0, h1, hq⟩ := h
    rfl
  · obtain ⟨c, k, rfl, h0, h1, hq⟩ := h
    refine ⟨_, (pss_cons (ps_set (i := 2) sc_law_mixed.nd rfl (by first | exact Or.inl rfl | exact Or.inr rfl) (pe_op op_mod (pe_op oAddV (pe_op oAddV (pe_op op_mulB (pe_op op_mod (pv 0) pe_int) pe_int) (pe_op op_mulB (pe_op op_mulB pe_int (pv 1)) (pv 1))) pe_int) pe_int))
      (pss_one (ps_ret (pe_op op_mod (pe_op op_mulB (pv 2) (pv 2)) pe_int)))), ?_⟩
    repeat walk_at "vs"
    exact hq _ (by omega) (by omega)

def sp_law_many : Sp := fun vs H Q _ => ∃ c, vs = [.int c] ∧ ∀ n, 1 ≤ n → n ≤ 100 → Q (.int n) H
theorem ok_law_many (T : Txt K mg a) : FnOk P w K mg base (CXU P w) 2 a.f_law_many a.d_law_many ["_law_cell_here"] (sp_law_many) := by
  refine T.F_law_many.okU sc_law_many (fun vs H Q E h => ?_) (fun cdv A outer s H vs Q E hr h => ?_)
  · obtain ⟨c, rfl, hq⟩ := h
    rfl
  · obtain ⟨c, rfl, hq⟩ := h
    refine ⟨_, (pss_cons (ps_set (i := 1) sc_law_many.nd rfl (by first | exact Or.inl rfl | exact Or.inr rfl) (pe_call (ok_law_mixed T) (hr.mono (by decide)) (by rfl) T.m_law_mixed T.F_law_mixed.kp T.b_law_mixed .nil passU (pa_cons (pv 0) (pa_cons pe_int pa_nil))))
      (pss_cons (ps_if (pt_cmpR (oEq hr) (pe_op op_mod (pv 1) pe_int) pe_int (nomark _)) (pss_one (ps_ret (pe_op oAddV pe_int (pe_op op_mod (pe_op op_fdivB (pv 1) pe_int) pe_int)))) pss_nil)
      (pss_one (ps_ret (pe_op oAddV pe_int (pe_op op_mod (pe_op op_fdivB (pv 1) pe_int) pe_int)))))), ?_⟩
    repeat walk_at "vs"
    refine ⟨c, 70, rfl, by decide, by decide, fun n n0 n1 => ?_⟩
    repeat walk_at "vs"
    refine iteD (fun h => ?_) (fun h => ?_)
    · repeat walk_at "vs"
      exact hq _ (by omega) (by omega)
    · repeat walk_at "vs"
      exact hq _ (by omega) (by omega)

def sp_law_cell (K : PySem.W.Frag) : Sp := fun vs H Q _ => ∃ (p : Addr) (ns : List Int) (k : Int), vs = [.ref p, .int k] ∧ SqL K H p (ns.map V.int) ∧ 0 ≤ k ∧ (∀ z ∈ ns, ib z ≤ 1048576) ∧ ∀ c, ib c ≤ 1048576 → Q (.int c) H
theorem ok_law_cell (T : Txt K mg a) : FnOk P w K mg base (CXU P w) 1 a.f_law_cell a.d_law_cell ["_law_script", "_law_k"] (sp_law_cell K) := by
  refine T.F_law_cell.okU sc_law_cell (fun vs H Q E h => ?_) (fun cdv A outer s H vs Q E hr h => ?_)
  · obtain ⟨p, ns, k, rfl, hS, hk, hb, hq⟩ := h
    rfl
  · obtain ⟨p, ns, k, rfl, hS, hk, hb, hq⟩ := h
    refine ⟨_, (pss_cons (ps_if (pt_cmpR op_lt (pv 1) (pe_callB cLen (by rfl) T.n_len PySem.boot_len (pa_cons (pv 0) pa_nil)) (nomark _)) (pss_one (ps_ret (pe_ix oIx (pv 0) (pv 1) (fun _ _ => rfl)))) pss_nil)
      (pss_one (ps_ret pe_int))), ?_⟩
    repeat walk_at "vs"
    refine r_lenS hS ?_
    repeat walk_at "vs"
    rw [List.length_map]
    refine iteD (fun h => ?_) (fun h => ?_)
    · repeat walk_at "vs"
      have hl : k.toNat < ns.length := by omega
      refine r_ixS hS (v := .int ns[k.toNat]) (atI_int hk (by rw [List.getElem?_map, List.getElem?_eq_getElem hl]; rfl)) ?_
      exact hq _ (hb _ (List.getElem_mem hl))
    · repeat walk_at "vs"
      exact hq 0 (by decide)

def dT (L : List Int) : D := .tup (L.map D.int)
def toldD (S ws : List Int) (Ls : List (List Int)) : D := .tup [.tup (S.map D.int), .lst (ws.map D.int), .lst (Ls.map dT)]
theorem refs_rep {H : Hp} {vs : List V} {Ls : List (List Int)} (r : RefsH H vs Ls) : RepL H (Ls.map dT) vs := by
  induction r with
  | nil => exact RepL.nil
  | cons c _ ih => exact RepL.cons (Rep.tupInts c) ih
theorem told_rep {H : Hp} {t s wl yl : Addr} {S ws : List Int} {xs : List V} {Ls : List (List Int)} (h1 : H t = some (.tup [.ref s, .ref wl, .ref yl])) (h2 : H s = some (.tup (S.map V.int))) (h3 : H wl = some (.lst (ws.map V.int))) (h4 : H yl = some (.lst xs)) (h5 : RefsH H xs Ls) : Rep H (toldD S ws Ls) (.ref t) :=
  Rep.tupI h1 (.cons (Rep.tupInts h2) (.cons (Rep.lstInts h3) (.cons (Rep.lstI h4 (refs_rep h5)) .nil)))
theorem fineT : ∀ ts : List (List Int), D.fineL (ts.map dT) = true
  | [] => rfl
  | t :: ts => by
    show ((D.tup (t.map D.int)).fine && D.fineL (ts.map dT)) = true
    rw [fineT ts, Bool.and_true]
    exact fineL_ints t
theorem deplT : ∀ ts : List (List Int), D.depthL (ts.map dT) ≤ 1
  | [] => by decide
  | t :: ts => by
    have := deplT ts
    show max (D.depthL (t.map D.int) + 1) (D.depthL (ts.map dT)) ≤ 1
    rw [depthL_ints]
    omega
theorem told_fine (S ws : List Int) (Ls : List (List Int)) : (toldD S ws Ls).fine = true := by
  show (D.fineL (S.map D.int) && (D.fineL (ws.map D.int) && (D.fineL (Ls.map dT) && true))) = true
  rw [fineL_ints, fineL_ints, fineT]
  rfl
theorem told_depth (S ws : List Int) (Ls : List (List Int)) : Nat.ble (toldD S ws Ls).depth 5 = true := by
  have := deplT Ls
  refine Nat.ble_eq_true_of_le ?_
  show max (D.depthL (S.map D.int) + 1) (max (D.depthL (ws.map D.int) + 1) (max (D.depthL (Ls.map dT) + 1) 0)) + 1 ≤ 5
  rw [depthL_ints, depthL_ints]
  omega
def sp_law (K : PySem.W.Frag) (a : Adr) : Sp := fun vs H Q _ => ∃ (p : Addr) (ns : List Int), vs = [.ref p] ∧ SqL K H p (ns.map V.int) ∧ ns.length ≤ 63 ∧ (∀ z ∈ ns, ib z ≤ 1048576) ∧ H a.tb_enemy_of_both = some (.tbl #[]) ∧ ∀ H', Q (.bl true) H'
theorem ok_law (T : Txt K mg a) : FnOk P w K mg base (CXU P w) 14 a.f_law a.d_law ["_law_script"] (sp_law K a) := by
  refine T.F_law.okU sc_law (fun vs H Q E h => ?_) (fun cdv A outer s H vs Q E hr h => ?_)
  · obtain ⟨p, cs, rfl, hS, hl, hb, hT, hq⟩ := h
    rfl
  · obtain ⟨p, cs, rfl, hS, hl, hb, hT, hq⟩ := h
    have zc_Both := T.cl_Both
    have zn_Both_world := T.na_Both_world
    have zn_Both_standing := T.na_Both_standing
    have zn_Both_spent := T.na_Both_spent
    have zc_Line := T.cl_Line
    have zn_Line_many := T.na_Line_many
    refine ⟨_, (pss_cons (ps_set (i := 1) sc_law.nd rfl (by first | exact Or.inl rfl | exact Or.inr rfl) (pe_op oAddV pe_int (pe_op op_mod (pe_call (ok_law_mixed T) (hr.mono (by decide)) (by rfl) T.m_law_mixed T.F_law_mixed.kp T.b_law_mixed .nil passU (pa_cons (pe_call (ok_law_cell T) (hr.mono (by decide)) (by rfl) T.m_law_cell T.F_law_cell.kp T.b_law_cell .nil passU (pa_cons (pv 0) (pa_cons pe_int pa_nil))) (pa_cons pe_int pa_nil))) pe_int)))
      (pss_cons (ps_set (i := 2) sc_law.nd rfl (by first | exact Or.inl rfl | exact Or.inr rfl) (pe_call (ok_law_mixed T) (hr.mono (by decide)) (by rfl) T.m_law_mixed T.F_law_mixed.kp T.b_law_mixed .nil passU (pa_cons (pe_call (ok_law_cell T) (hr.mono (by decide)) (by rfl) T.m_law_cell T.F_law_cell.kp T.b_law_cell .nil passU (pa_cons (pv 0) (pa_cons pe_int pa_nil))) (pa_cons pe_int pa_nil))))
      (pss_cons (ps_set (i := 3) sc_law.nd rfl (by first | exact Or.inl rfl | exact Or.inr rfl) (pe_op oAddV pe_int (pe_op op_mod (pe_op op_fdivB (pv 2) pe_int) (pe_ix oIx (pe_lst (pa_cons pe_int (pa_cons pe_int (pa_cons (pe_op op_pow pe_int pe_int) pa_nil)))) (pe_op op_mod (pv 2) pe_int) (fun _ _ => rfl)))))
      (pss_cons (ps_set (i := 4) sc_law.nd rfl (by first | exact Or.inl rfl | exact Or.inr rfl) (pe_call (ok_law_many T) (hr.mono (by decide)) (by rfl) T.m_law_many T.F_law_many.kp T.b_law_many .nil passU (pa_cons (pe_call (ok_law_cell T) (hr.mono (by decide)) (by rfl) T.m_law_cell T.F_law_cell.kp T.b_law_cell .nil passU (pa_cons (pv 0) (pa_cons pe_int pa_nil))) pa_nil)))
      (pss_cons (ps_set (i := 5) sc_law.nd rfl (by first | exact Or.inl rfl | exact Or.inr rfl) (pe_call (ok_enemy_of_both T) (hr.mono (by decide)) (by rfl) T.m_enemy_of_both T.F_enemy_of_both.kp T.b_enemy_of_both .nil passU (pa_cons (pv 1) (pa_cons (pv 3) (pa_cons (pv 4) pa_nil)))))
      (pss_cons (ps_if (pt_not (ptT (pe_call (ok_law_good T) (hr.mono (by decide)) (by rfl) T.m_law_good T.F_law_good.kp T.b_law_good .nil passU (pa_cons (pv 5) (pa_cons (pv 1) (pa_cons (pv 3) (pa_cons (pv 4) pa_nil))))) (fun _ => rfl))) (pss_one (ps_ret pe_bl)) pss_nil)
      (pss_cons (ps_set (i := 6) sc_law.nd rfl (by first | exact Or.inl rfl | exact Or.inr rfl) (pe_tup (pa_cons (pe_ix oIx (pv 5) pe_int (fun _ _ => rfl)) (pa_cons (pe_callTy cList (by rfl) T.n_list PyProof.Rows.boot_list (pa_cons (pe_ix oIx (pv 5) pe_int (fun _ _ => rfl)) pa_nil)) (pa_cons (pe_callTy cList (by rfl) T.n_list PyProof.Rows.boot_list (pa_cons (pe_ix oIx (pv 5) pe_int (fun _ _ => rfl)) pa_nil)) pa_nil)))))
      (pss_cons (ps_expr (pe_bm0 PySem.F.plainAttrs_list PySem.F.slot_list_clear PySem.F.type_list_clear mt_clear (pe_ix oIx (pv 5) pe_int (fun _ _ => rfl))))
      (pss_cons (ps_expr (pe_bm0 PySem.F.plainAttrs_list PySem.F.slot_list_clear PySem.F.type_list_clear mt_clear (pe_ix oIx (pv 5) pe_int (fun _ _ => rfl))))
      (pss_cons (ps_if (pt_not (ptT (pe_call (ok_law_good T) (hr.mono (by decide)) (by rfl) T.m_law_good T.F_law_good.kp T.b_law_good .nil passU (pa_cons (pe_call (ok_enemy_of_both T) (hr.mono (by decide)) (by rfl) T.m_enemy_of_both T.F_enemy_of_both.kp T.b_enemy_of_both .nil passU (pa_cons (pe_op op_sub pe_int (pv 1)) (pa_cons (pe_op oAddV (pe_op op_fdivB (pv 3) pe_int) pe_int) (pa_cons pe_int pa_nil)))) (pa_cons (pe_op op_sub pe_int (pv 1)) (pa_cons (pe_op oAddV (pe_op op_fdivB (pv 3) pe_int) pe_int) (pa_cons pe_int pa_nil))))) (fun _ => rfl))) (pss_one (ps_ret pe_bl)) pss_nil)
      (pss_one (ps_ret (pe_call (ok_law_same T) (hr.mono (by decide)) (by rfl) T.m_law_same T.F_law_same.kp T.b_law_same .nil passU (pa_cons (pe_call (ok_enemy_of_both T) (hr.mono (by decide)) (by rfl) T.m_enemy_of_both T.F_enemy_of_both.kp T.b_enemy_of_both .nil passU (pa_cons (pv 1) (pa_cons (pv 3) (pa_cons (pv 4) pa_nil)))) (pa_cons (pv 6) pa_nil))))))))))))))), ?_⟩
    repeat walk_at "vs"
    refine ⟨p, cs, 0, rfl, hS, by decide, hb, fun c hc => ?_⟩
    repeat walk_at "vs"
    refine ⟨c, 71, rfl, by decide, by decide, fun a0 a1 a2 => ?_⟩
    obtain ⟨k, ek, k1, k6⟩ : ∃ k : Nat, 1 + a0 % 6 = (k : Nat) ∧ 1 ≤ k ∧ k ≤ 6 := ⟨(1 + a0 % 6).toNat, by omega, by omega, by omega⟩
    repeat walk_at "vs"
    refine ⟨p, cs, 1, rfl, hS, by decide, hb, fun c' hc' => ?_⟩
    repeat walk_at "vs"
    refine ⟨c', 72, rfl, by decide, by decide, fun b0 b1 b2 => ?_⟩
    repeat walk_at "vs"
    intro l1 H1 n1 q1 e1
    obtain ⟨wd, hwd, wd1, wd2⟩ : ∃ wd : Int, atI [V.int 5, V.int 1000, V.int 1000000000] (b0 % 3) = some (.int wd) ∧ 1 ≤ wd ∧ wd ≤ 1000000000 := by
      have : b0 % 3 = 0 ∨ b0 % 3 = 1 ∨ b0 % 3 = 2 := by omega
      rcases this with e | e | e <;> rw [e]
      · exact ⟨5, rfl, by decide, by decide⟩
      · exact ⟨1000, rfl, by decide, by decide⟩
      · exact ⟨1000000000, rfl, by decide, by decide⟩
    repeat walk_at "vs"
    refine r_ixL q1 hwd ?_
    have m1 := Int.emod_nonneg (b0 / 3) (show wd ≠ 0 by omega)
    have m2 := Int.emod_lt_of_pos (b0 / 3) (show 0 < wd by omega)
    obtain ⟨gap, eg, g1, g2⟩ : ∃ gap : Int, 1 + b0 / 3 % wd = gap ∧ 1 ≤ gap ∧ gap ≤ 1000000000 := ⟨_, rfl, by omega, by omega⟩
    repeat walk_at "vs"
    refine ⟨p, cs, 2, rfl, e1.seqL hS, by decide, hb, fun c'' hc'' => ?_⟩
    repeat walk_at "vs"
    refine ⟨c'', rfl, fun nn nn1 nn2 => ?_⟩
    obtain ⟨n, en, n1', n100⟩ : ∃ n : Nat, nn = (n : Nat) ∧ 1 ≤ n ∧ n ≤ 100 := ⟨nn.toNat, by omega, by omega, by omega⟩
    subst en
    rw [ek, eg]
    have T1 : TabB a H1 := .inl (e1 _ _ hT)
    repeat walk_at "vs"
    refine ⟨k, n, gap, rfl, k1, k6, g1, g2, by omega, T1, fun t s wl yl xs H2 nw ny nwy E2 T2 x2 => ?_⟩
    repeat walk_at "vs"
    refine ⟨t, s, wl, yl, xs, k, n, gap, rfl, E2, k1, k6, g1, g2, n1', by omega, fun H3 e3 => ?_⟩
    have E3 := E2.ext e3
    have t3 := E3.t
    repeat walk_at "vs"
    refine r_ixT t3 (v := .ref s) rfl ?_
    repeat walk_at "vs"
    refine r_ixT t3 (v := .ref wl) rfl ?_
    repeat walk_at "vs"
    refine r_listL E3.w fun l4 H4 n4 q4 e4 => ?_
    have t4 := e4 _ _ t3
    repeat walk_at "vs"
    refine r_ixT t4 (v := .ref yl) rfl ?_
    repeat walk_at "vs"
    refine r_listL (e4 _ _ E3.y) fun l5 H5 n5 q5 e5 => ?_
    repeat walk_at "vs"
    intro t6 H6 n6 q6 e6
    have E6 := E3.ext (e4.tr (e5.tr e6))
    have t66 := E6.t
    have w6 := E6.w
    have q46 := (e5.tr e6) _ _ q4
    have q56 := e6 _ _ q5
    have nw4 : l4 ≠ wl := (ne_of_none E3.w n4).symm
    have ny4 : l4 ≠ yl := (ne_of_none E3.y n4).symm
    have nw5 : l5 ≠ wl := (ne_of_none (e4 _ _ E3.w) n5).symm
    have ny5 : l5 ≠ yl := (ne_of_none (e4 _ _ E3.y) n5).symm
    repeat walk_at "vs"
    refine r_ixT t66 (v := .ref wl) rfl ?_
    repeat walk_at "vs"
    refine r_clear w6 fun H7 q7 b7 => ?_
    have t7 := b7 _ _ (ne_of t66 w6 (by intro z; cases z)) t66
    have y7 := b7 _ _ nwy.symm E6.y
    repeat walk_at "vs"
    refine r_ixT t7 (v := .ref yl) rfl ?_
    repeat walk_at "vs"
    refine r_clear y7 fun H8 q8 b8 => ?_
    have T8 : TabB a H8 := TabR.butL y7 b8 (TabR.butL w6 b7 (TabR.ext (e3.tr (e4.tr (e5.tr e6))) T2))
    have s8 := b8 _ _ (ne_of (b7 _ _ (ne_of E6.s w6 (by intro z; cases z)) E6.s) y7 (by intro z; cases z)) (b7 _ _ (ne_of E6.s w6 (by intro z; cases z)) E6.s)
    have q68 := b8 _ _ (ne_of (b7 _ _ (ne_of q6 w6 (by intro z; cases z)) q6) y7 (by intro z; cases z)) (b7 _ _ (ne_of q6 w6 (by intro z; cases z)) q6)
    have q48 := b8 _ _ ny4 (b7 _ _ nw4 q46)
    have q58 := b8 _ _ ny5 (b7 _ _ nw5 q56)
    have r8 := RefsH.butL y7 b8 (RefsH.butL w6 b7 E6.r)
    obtain ⟨k', ek', k1', k6'⟩ : ∃ k' : Nat, (7 : Int) - k = (k' : Nat) ∧ 1 ≤ k' ∧ k' ≤ 6 := ⟨7 - k, by omega, by omega, by omega⟩
    obtain ⟨gap', eg', g1', g2'⟩ : ∃ gap' : Int, gap / 2 + 1 = gap' ∧ 1 ≤ gap' ∧ gap' ≤ 1000000000 := ⟨_, rfl, by omega, by omega⟩
    repeat walk_at "vs"
    rw [ek']
    repeat walk_at "vs"
    rw [eg']
    repeat walk_at "vs"
    refine ⟨k', 3, gap', rfl, k1', k6', g1', g2', by decide, T8, fun t' s' wl' yl' xs' H9 nw' ny' nwy' E9 T9 x9 => ?_⟩
    repeat walk_at "vs"
    rw [ek']
    repeat walk_at "vs"
    rw [eg']
    repeat walk_at "vs"
    refine ⟨t', s', wl', yl', xs', k', 3, gap', rfl, E9, k1', k6', g1', g2', by decide, by decide, fun H10 e10 => ?_⟩
    have x10 := x9.ext e10
    repeat walk_at "vs"
    refine ⟨k, n, gap, rfl, k1, k6, g1, g2, by omega, TabR.ext e10 T9, fun t2 s2 wl2 yl2 xs2 H11 nw2 ny2 nwy2 E11 T11 x11 => ?_⟩
    have x811 : ExtT H8 H11 := x10.tr x11
    repeat walk_at "vs"
    exact same_yes (told_rep E11.t E11.s E11.w E11.y E11.r) (told_rep (x811 _ _ q68 rfl) (x811 _ _ s8 rfl) (x811 _ _ q48 rfl) (x811 _ _ q58 rfl) (RefsH.extT x811 r8)) (told_fine _ _ _) (told_depth _ _ _) fun H12 _ => hq H12

end
theorem all_mk {ts : List Addr} {l : PySem.W.OpenLaw} {w : World} {K : PySem.W.Frag} {h : Heap} {mg : Str → Option Value} {fa : Addr} (X : K.In h) (G : h.Ns mainGlobals mg) (hfa : mg "law" = some (.ref fa))
    {f_law : Addr} {od_law an_law : Option Addr} {sl_law : Array (Option Value)} {oc_law kV_law dc_law pm_law cd_law ct_law : Value}
    {f_law_same : Addr} {od_law_same an_law_same : Option Addr} {sl_law_same : Array (Option Value)} {oc_law_same kV_law_same dc_law_same pm_law_same cd_law_same ct_law_same : Value}
    {f_law_whole : Addr} {od_law_whole an_law_whole : Option Addr} {sl_law_whole : Array (Option Value)} {oc_law_whole kV_law_whole dc_law_whole pm_law_whole cd_law_whole ct_law_whole : Value}
    {f_law_all_same : Addr} {od_law_all_same an_law_all_same : Option Addr} {sl_law_all_same : Array (Option Value)} {oc_law_all_same kV_law_all_same dc_law_all_same pm_law_all_same cd_law_all_same ct_law_all_same : Value}
    {f_enemy_of_both : Addr} {od_enemy_of_both an_enemy_of_both : Option Addr} {sl_enemy_of_both : Array (Option Value)} {oc_enemy_of_both kV_enemy_of_both dc_enemy_of_both pm_enemy_of_both ct_enemy_of_both : Value}
    {ck_enemy_of_both tb_enemy_of_both : Addr} {cdd_enemy_of_both : Option Addr} {cvs_enemy_of_both : Array Value} {csl_enemy_of_both : Array (Option Value)}
    {f_way_that_leaves : Addr} {od_way_that_leaves an_way_that_leaves : Option Addr} {sl_way_that_leaves : Array (Option Value)} {oc_way_that_leaves kV_way_that_leaves dc_way_that_leaves pm_way_that_leaves cd_way_that_leaves ct_way_that_leaves : Value}
    {f_lazy_wishes : Addr} {od_lazy_wishes an_lazy_wishes : Option Addr} {sl_lazy_wishes : Array (Option Value)} {oc_lazy_wishes kV_lazy_wishes dc_lazy_wishes pm_lazy_wishes cd_lazy_wishes ct_lazy_wishes : Value}
    {f_Rule_state : Addr} {od_Rule_state an_Rule_state : Option Addr} {sl_Rule_state : Array (Option Value)} {oc_Rule_state kV_Rule_state dc_Rule_state pm_Rule_state cd_Rule_state ct_Rule_state : Value}
    {f_Rule_pay : Addr} {od_Rule_pay an_Rule_pay : Option Addr} {sl_Rule_pay : Array (Option Value)} {oc_Rule_pay kV_Rule_pay dc_Rule_pay pm_Rule_pay cd_Rule_pay ct_Rule_pay : Value}
    {f_Rule_learn : Addr} {od_Rule_learn an_Rule_learn : Option Addr} {sl_Rule_learn : Array (Option Value)} {oc_Rule_learn kV_Rule_learn dc_Rule_learn pm_Rule_learn cd_Rule_learn ct_Rule_learn : Value}
    {f_Rule_price_to : Addr} {od_Rule_price_to an_Rule_price_to : Option Addr} {sl_Rule_price_to : Array (Option Value)} {oc_Rule_price_to kV_Rule_price_to dc_Rule_price_to pm_Rule_price_to cd_Rule_price_to ct_Rule_price_to : Value}
    {f_Line_price : Addr} {od_Line_price an_Line_price : Option Addr} {sl_Line_price : Array (Option Value)} {oc_Line_price kV_Line_price dc_Line_price pm_Line_price cd_Line_price ct_Line_price : Value}
    {f_ways_between : Addr} {od_ways_between an_ways_between : Option Addr} {sl_ways_between : Array (Option Value)} {oc_ways_between kV_ways_between dc_ways_between pm_ways_between cd_ways_between ct_ways_between : Value}
    {f_Both_target : Addr} {od_Both_target an_Both_target : Option Addr} {sl_Both_target : Array (Option Value)} {oc_Both_target kV_Both_target dc_Both_target pm_Both_target cd_Both_target ct_Both_target : Value}
    {f_Line_is_wish : Addr} {od_Line_is_wish an_Line_is_wish : Option Addr} {sl_Line_is_wish : Array (Option Value)} {oc_Line_is_wish kV_Line_is_wish dc_Line_is_wish pm_Line_is_wish cd_Line_is_wish ct_Line_is_wish : Value}
    {f_is_place : Addr} {od_is_place an_is_place : Option Addr} {sl_is_place : Array (Option Value)} {oc_is_place kV_is_place dc_is_place pm_is_place cd_is_place ct_is_place : Value}
    {f_is_whole_number : Addr} {od_is_whole_number an_is_whole_number : Option Addr} {sl_is_whole_number : Array (Option Value)} {oc_is_whole_number kV_is_whole_number dc_is_whole_number pm_is_whole_number cd_is_whole_number ct_is_whole_number : Value}
    {f_lacking : Addr} {od_lacking an_lacking : Option Addr} {sl_lacking : Array (Option Value)} {oc_lacking kV_lacking dc_lacking pm_lacking cd_lacking ct_lacking : Value}
    {f_Both_init : Addr} {od_Both_init an_Both_init : Option Addr} {sl_Both_init : Array (Option Value)} {oc_Both_init kV_Both_init dc_Both_init pm_Both_init cd_Both_init ct_Both_init : Value}
    {f_Rule_init : Addr} {od_Rule_init an_Rule_init : Option Addr} {sl_Rule_init : Array (Option Value)} {oc_Rule_init kV_Rule_init dc_Rule_init pm_Rule_init cd_Rule_init ct_Rule_init : Value}
    {f_Line_is_state : Addr} {od_Line_is_state an_Line_is_state : Option Addr} {sl_Line_is_state : Array (Option Value)} {oc_Line_is_state kV_Line_is_state dc_Line_is_state pm_Line_is_state cd_Line_is_state ct_Line_is_state : Value}
    {f_line_of : Addr} {od_line_of an_line_of : Option Addr} {sl_line_of : Array (Option Value)} {oc_line_of kV_line_of dc_line_of pm_line_of cd_line_of ct_line_of : Value}
    {f_Line_init : Addr} {od_Line_init an_Line_init : Option Addr} {sl_Line_init : Array (Option Value)} {oc_Line_init kV_Line_init dc_Line_init pm_Line_init cd_Line_init ct_Line_init : Value}
    {f_way_price : Addr} {od_way_price an_way_price : Option Addr} {sl_way_price : Array (Option Value)} {oc_way_price kV_way_price dc_way_price pm_way_price cd_way_price ct_way_price : Value}
    {f_law_good : Addr} {od_law_good an_law_good : Option Addr} {sl_law_good : Array (Option Value)} {oc_law_good kV_law_good dc_law_good pm_law_good cd_law_good ct_law_good : Value}
    {f_law_plan : Addr} {od_law_plan an_law_plan : Option Addr} {sl_law_plan : Array (Option Value)} {oc_law_plan kV_law_plan dc_law_plan pm_law_plan cd_law_plan ct_law_plan : Value}
    {f_law_far : Addr} {od_law_far an_law_far : Option Addr} {sl_law_far : Array (Option Value)} {oc_law_far kV_law_far dc_law_far pm_law_far cd_law_far ct_law_far : Value}
    {f_law_is_state : Addr} {od_law_is_state an_law_is_state : Option Addr} {sl_law_is_state : Array (Option Value)} {oc_law_is_state kV_law_is_state dc_law_is_state pm_law_is_state cd_law_is_state ct_law_is_state : Value}
    {f_law_pay : Addr} {od_law_pay an_law_pay : Option Addr} {sl_law_pay : Array (Option Value)} {oc_law_pay kV_law_pay dc_law_pay pm_law_pay cd_law_pay ct_law_pay : Value}
    {f_law_gone : Addr} {od_law_gone an_law_gone : Option Addr} {sl_law_gone : Array (Option Value)} {oc_law_gone kV_law_gone dc_law_gone pm_law_gone cd_law_gone ct_law_gone : Value}
    {f_law_many : Addr} {od_law_many an_law_many : Option Addr} {sl_law_many : Array (Option Value)} {oc_law_many kV_law_many dc_law_many pm_law_many cd_law_many ct_law_many : Value}
    {f_law_mixed : Addr} {od_law_mixed an_law_mixed : Option Addr} {sl_law_mixed : Array (Option Value)} {oc_law_mixed kV_law_mixed dc_law_mixed pm_law_mixed cd_law_mixed ct_law_mixed : Value}
    {f_law_cell : Addr} {od_law_cell an_law_cell : Option Addr} {sl_law_cell : Array (Option Value)} {oc_law_cell kV_law_cell dc_law_cell pm_law_cell cd_law_cell ct_law_cell : Value}
    {c_Rule : Addr}
    {c_Bound : Addr}
    {c_Line : Addr}
    {c_Both : Addr}
    (aC_Rule : PySem.W.nsIn K mainGlobals "Rule" = some (some (.ref c_Rule)))
    (aC_Bound : PySem.W.nsIn K mainGlobals "Bound" = some (some (.ref c_Bound)))
    (aC_Line : PySem.W.nsIn K mainGlobals "Line" = some (some (.ref c_Line)))
    (aC_Both : PySem.W.nsIn K mainGlobals "Both" = some (some (.ref c_Both)))
    (a_law : PySem.W.nsIn K mainGlobals "law" = some (some (.ref f_law)))
    (l_law : K.lookup f_law = some ⟨oc_law, od_law, .func (PySem.W.fnOf "law" "law" (defArgs s_law) (defBody s_law) (defScope s_law) (.none) kV_law dc_law pm_law an_law cd_law ct_law), sl_law⟩)
    (k_law : PySem.W.codeIn K cd_law "law" = true)
    (p_law : PySem.W.keepIn K (.ref f_law) = true)
    (a_law_same : PySem.W.nsIn K mainGlobals "_law_same" = some (some (.ref f_law_same)))
    (l_law_same : K.lookup f_law_same = some ⟨oc_law_same, od_law_same, .func (PySem.W.fnOf "_law_same" "_law_same" (defArgs s_law_same) (defBody s_law_same) (defScope s_law_same) (.none) kV_law_same dc_law_same pm_law_same an_law_same cd_law_same ct_law_same), sl_law_same⟩)
    (k_law_same : PySem.W.codeIn K cd_law_same "_law_same" = true)
    (p_law_same : PySem.W.keepIn K (.ref f_law_same) = true)
    (a_law_whole : PySem.W.nsIn K mainGlobals "_law_whole" = some (some (.ref f_law_whole)))
    (l_law_whole : K.lookup f_law_whole = some ⟨oc_law_whole, od_law_whole, .func (PySem.W.fnOf "_law_whole" "_law_whole" (defArgs s_law_whole) (defBody s_law_whole) (defScope s_law_whole) (.none) kV_law_whole dc_law_whole pm_law_whole an_law_whole cd_law_whole ct_law_whole), sl_law_whole⟩)
    (k_law_whole : PySem.W.codeIn K cd_law_whole "_law_whole" = true)
    (p_law_whole : PySem.W.keepIn K (.ref f_law_whole) = true)
    (a_law_all_same : PySem.W.nsIn K mainGlobals "_law_all_same" = some (some (.ref f_law_all_same)))
    (l_law_all_same : K.lookup f_law_all_same = some ⟨oc_law_all_same, od_law_all_same, .func (PySem.W.fnOf "_law_all_same" "_law_all_same" (defArgs s_law_all_same) (defBody s_law_all_same) (defScope s_law_all_same) (.none) kV_law_all_same dc_law_all_same pm_law_all_same an_law_all_same cd_law_all_same ct_law_all_same), sl_law_all_same⟩)
    (k_law_all_same : PySem.W.codeIn K cd_law_all_same "_law_all_same" = true)
    (p_law_all_same : PySem.W.keepIn K (.ref f_law_all_same) = true)
    (a_enemy_of_both : PySem.W.nsIn K mainGlobals "enemy_of_both" = some (some (.ref f_enemy_of_both)))
    (l_enemy_of_both : K.lookup f_enemy_of_both = some ⟨oc_enemy_of_both, od_enemy_of_both, .func (PySem.W.fnOf "enemy_of_both" "enemy_of_both" (defArgs s_enemy_of_both) (defBody s_enemy_of_both) (defScope s_enemy_of_both) (.none) kV_enemy_of_both dc_enemy_of_both pm_enemy_of_both an_enemy_of_both (.ref ck_enemy_of_both) ct_enemy_of_both), sl_enemy_of_both⟩)
    (lc_enemy_of_both : K.lookup ck_enemy_of_both = some ⟨.type "code", cdd_enemy_of_both, .fields cvs_enemy_of_both, csl_enemy_of_both⟩)
    (pt_enemy_of_both : cvs_enemy_of_both[11]? = some (.ref tb_enemy_of_both))
    (hd_enemy_of_both : PySem.W.codeHdIn K ck_enemy_of_both tb_enemy_of_both = true)
    (tc_enemy_of_both : ts.contains tb_enemy_of_both = true)
    (k_enemy_of_both : PySem.W.codeIn K (.ref ck_enemy_of_both) "enemy_of_both" = true)
    (p_enemy_of_both : PySem.W.keepIn K (.ref f_enemy_of_both) = true)
    (a_way_that_leaves : PySem.W.nsIn K mainGlobals "way_that_leaves" = some (some (.ref f_way_that_leaves)))
    (l_way_that_leaves : K.lookup f_way_that_leaves = some ⟨oc_way_that_leaves, od_way_that_leaves, .func (PySem.W.fnOf "way_that_leaves" "way_that_leaves" (defArgs s_way_that_leaves) (defBody s_way_that_leaves) (defScope s_way_that_leaves) (.none) kV_way_that_leaves dc_way_that_leaves pm_way_that_leaves an_way_that_leaves cd_way_that_leaves ct_way_that_leaves), sl_way_that_leaves⟩)
    (k_way_that_leaves : PySem.W.codeIn K cd_way_that_leaves "way_that_leaves" = true)
    (p_way_that_leaves : PySem.W.keepIn K (.ref f_way_that_leaves) = true)
    (a_lazy_wishes : PySem.W.nsIn K mainGlobals "lazy_wishes" = some (some (.ref f_lazy_wishes)))
    (l_lazy_wishes : K.lookup f_lazy_wishes = some ⟨oc_lazy_wishes, od_lazy_wishes, .func (PySem.W.fnOf "lazy_wishes" "lazy_wishes" (defArgs s_lazy_wishes) (defBody s_lazy_wishes) (defScope s_lazy_wishes) (.none) kV_lazy_wishes dc_lazy_wishes pm_lazy_wishes an_lazy_wishes cd_lazy_wishes ct_lazy_wishes), sl_lazy_wishes⟩)
    (k_lazy_wishes : PySem.W.codeIn K cd_lazy_wishes "lazy_wishes" = true)
    (p_lazy_wishes : PySem.W.keepIn K (.ref f_lazy_wishes) = true)
    (a_Rule_state : PySem.W.findIn K (.ref c_Rule) "state" = some (some (.ref f_Rule_state)))
    (l_Rule_state : K.lookup f_Rule_state = some ⟨oc_Rule_state, od_Rule_state, .func (PySem.W.fnOf "state" "Rule.state" (defArgs s_Rule_state) (defBody s_Rule_state) (defScope s_Rule_state) (.none) kV_Rule_state dc_Rule_state pm_Rule_state an_Rule_state cd_Rule_state ct_Rule_state), sl_Rule_state⟩)
    (k_Rule_state : PySem.W.codeIn K cd_Rule_state "Rule.state" = true)
    (p_Rule_state : PySem.W.keepIn K (.ref f_Rule_state) = true)
    (a_Rule_pay : PySem.W.findIn K (.ref c_Rule) "pay" = some (some (.ref f_Rule_pay)))
    (l_Rule_pay : K.lookup f_Rule_pay = some ⟨oc_Rule_pay, od_Rule_pay, .func (PySem.W.fnOf "pay" "Rule.pay" (defArgs s_Rule_pay) (defBody s_Rule_pay) (defScope s_Rule_pay) (.none) kV_Rule_pay dc_Rule_pay pm_Rule_pay an_Rule_pay cd_Rule_pay ct_Rule_pay), sl_Rule_pay⟩)
    (k_Rule_pay : PySem.W.codeIn K cd_Rule_pay "Rule.pay" = true)
    (p_Rule_pay : PySem.W.keepIn K (.ref f_Rule_pay) = true)
    (a_Rule_learn : PySem.W.findIn K (.ref c_Rule) "learn" = some (some (.ref f_Rule_learn)))
    (l_Rule_learn : K.lookup f_Rule_learn = some ⟨oc_Rule_learn, od_Rule_learn, .func (PySem.W.fnOf "learn" "Rule.learn" (defArgs s_Rule_learn) (defBody s_Rule_learn) (defScope s_Rule_learn) (.none) kV_Rule_learn dc_Rule_learn pm_Rule_learn an_Rule_learn cd_Rule_learn ct_Rule_learn), sl_Rule_learn⟩)
    (k_Rule_learn : PySem.W.codeIn K cd_Rule_learn "Rule.learn" = true)
    (p_Rule_learn : PySem.W.keepIn K (.ref f_Rule_learn) = true)
    (a_Rule_price_to : PySem.W.findIn K (.ref c_Rule) "price_to" = some (some (.ref f_Rule_price_to)))
    (l_Rule_price_to : K.lookup f_Rule_price_to = some ⟨oc_Rule_price_to, od_Rule_price_to, .func (PySem.W.fnOf "price_to" "Rule.price_to" (defArgs s_Rule_price_to) (defBody s_Rule_price_to) (defScope s_Rule_price_to) (.none) kV_Rule_price_to dc_Rule_price_to pm_Rule_price_to an_Rule_price_to cd_Rule_price_to ct_Rule_price_to), sl_Rule_price_to⟩)
    (k_Rule_price_to : PySem.W.codeIn K cd_Rule_price_to "Rule.price_to" = true)
    (p_Rule_price_to : PySem.W.keepIn K (.ref f_Rule_price_to) = true)
    (a_Line_price : PySem.W.findIn K (.ref c_Line) "price" = some (some (.ref f_Line_price)))
    (l_Line_price : K.lookup f_Line_price = some ⟨oc_Line_price, od_Line_price, .func (PySem.W.fnOf "price" "Line.price" (defArgs s_Line_price) (defBody s_Line_price) (defScope s_Line_price) (.none) kV_Line_price dc_Line_price pm_Line_price an_Line_price cd_Line_price ct_Line_price), sl_Line_price⟩)
    (k_Line_price : PySem.W.codeIn K cd_Line_price "Line.price" = true)
    (p_Line_price : PySem.W.keepIn K (.ref f_Line_price) = true)
    (a_ways_between : PySem.W.nsIn K mainGlobals "ways_between" = some (some (.ref f_ways_between)))
    (l_ways_between : K.lookup f_ways_between = some ⟨oc_ways_between, od_ways_between, .func (PySem.W.fnOf "ways_between" "ways_between" (defArgs s_ways_between) (defBody s_ways_between) (defScope s_ways_between) (.none) kV_ways_between dc_ways_between pm_ways_between an_ways_between cd_ways_between ct_ways_between), sl_ways_between⟩)
    (k_ways_between : PySem.W.codeIn K cd_ways_between "ways_between" = true)
    (p_ways_between : PySem.W.keepIn K (.ref f_ways_between) = true)
    (a_Both_target : PySem.W.findIn K (.ref c_Both) "target" = some (some (.ref f_Both_target)))
    (l_Both_target : K.lookup f_Both_target = some ⟨oc_Both_target, od_Both_target, .func (PySem.W.fnOf "target" "Both.target" (defArgs s_Both_target) (defBody s_Both_target) (defScope s_Both_target) (.none) kV_Both_target dc_Both_target pm_Both_target an_Both_target cd_Both_target ct_Both_target), sl_Both_target⟩)
    (k_Both_target : PySem.W.codeIn K cd_Both_target "Both.target" = true)
    (p_Both_target : PySem.W.keepIn K (.ref f_Both_target) = true)
    (a_Line_is_wish : PySem.W.findIn K (.ref c_Line) "is_wish" = some (some (.ref f_Line_is_wish)))
    (l_Line_is_wish : K.lookup f_Line_is_wish = some ⟨oc_Line_is_wish, od_Line_is_wish, .func (PySem.W.fnOf "is_wish" "Line.is_wish" (defArgs s_Line_is_wish) (defBody s_Line_is_wish) (defScope s_Line_is_wish) (.none) kV_Line_is_wish dc_Line_is_wish pm_Line_is_wish an_Line_is_wish cd_Line_is_wish ct_Line_is_wish), sl_Line_is_wish⟩)
    (k_Line_is_wish : PySem.W.codeIn K cd_Line_is_wish "Line.is_wish" = true)
    (p_Line_is_wish : PySem.W.keepIn K (.ref f_Line_is_wish) = true)
    (a_is_place : PySem.W.nsIn K mainGlobals "is_place" = some (some (.ref f_is_place)))
    (l_is_place : K.lookup f_is_place = some ⟨oc_is_place, od_is_place, .func (PySem.W.fnOf "is_place" "is_place" (defArgs s_is_place) (defBody s_is_place) (defScope s_is_place) (.none) kV_is_place dc_is_place pm_is_place an_is_place cd_is_place ct_is_place), sl_is_place⟩)
    (k_is_place : PySem.W.codeIn K cd_is_place "is_place" = true)
    (p_is_place : PySem.W.keepIn K (.ref f_is_place) = true)
    (a_is_whole_number : PySem.W.nsIn K mainGlobals "is_whole_number" = some (some (.ref f_is_whole_number)))
    (l_is_whole_number : K.lookup f_is_whole_number = some ⟨oc_is_whole_number, od_is_whole_number, .func (PySem.W.fnOf "is_whole_number" "is_whole_number" (defArgs s_is_whole_number) (defBody s_is_whole_number) (defScope s_is_whole_number) (.none) kV_is_whole_number dc_is_whole_number pm_is_whole_number an_is_whole_number cd_is_whole_number ct_is_whole_number), sl_is_whole_number⟩)
    (k_is_whole_number : PySem.W.codeIn K cd_is_whole_number "is_whole_number" = true)
    (p_is_whole_number : PySem.W.keepIn K (.ref f_is_whole_number) = true)
    (a_lacking : PySem.W.nsIn K mainGlobals "lacking" = some (some (.ref f_lacking)))
    (l_lacking : K.lookup f_lacking = some ⟨oc_lacking, od_lacking, .func (PySem.W.fnOf "lacking" "lacking" (defArgs s_lacking) (defBody s_lacking) (defScope s_lacking) (.none) kV_lacking dc_lacking pm_lacking an_lacking cd_lacking ct_lacking), sl_lacking⟩)
    (k_lacking : PySem.W.codeIn K cd_lacking "lacking" = true)
    (p_lacking : PySem.W.keepIn K (.ref f_lacking) = true)
    (a_Both_init : PySem.W.findIn K (.ref c_Both) "__init__" = some (some (.ref f_Both_init)))
    (l_Both_init : K.lookup f_Both_init = some ⟨oc_Both_init, od_Both_init, .func (PySem.W.fnOf "__init__" "Both.__init__" (defArgs s_Both_init) (defBody s_Both_init) (defScope s_Both_init) (.none) kV_Both_init dc_Both_init pm_Both_init an_Both_init cd_Both_init ct_Both_init), sl_Both_init⟩)
    (k_Both_init : PySem.W.codeIn K cd_Both_init "Both.__init__" = true)
    (p_Both_init : PySem.W.keepIn K (.ref f_Both_init) = true)
    (a_Rule_init : PySem.W.findIn K (.ref c_Rule) "__init__" = some (some (.ref f_Rule_init)))
    (l_Rule_init : K.lookup f_Rule_init = some ⟨oc_Rule_init, od_Rule_init, .func (PySem.W.fnOf "__init__" "Rule.__init__" (defArgs s_Rule_init) (defBody s_Rule_init) (defScope s_Rule_init) (.none) kV_Rule_init dc_Rule_init pm_Rule_init an_Rule_init cd_Rule_init ct_Rule_init), sl_Rule_init⟩)
    (k_Rule_init : PySem.W.codeIn K cd_Rule_init "Rule.__init__" = true)
    (p_Rule_init : PySem.W.keepIn K (.ref f_Rule_init) = true)
    (a_Line_is_state : PySem.W.findIn K (.ref c_Line) "is_state" = some (some (.ref f_Line_is_state)))
    (l_Line_is_state : K.lookup f_Line_is_state = some ⟨oc_Line_is_state, od_Line_is_state, .func (PySem.W.fnOf "is_state" "Line.is_state" (defArgs s_Line_is_state) (defBody s_Line_is_state) (defScope s_Line_is_state) (.none) kV_Line_is_state dc_Line_is_state pm_Line_is_state an_Line_is_state cd_Line_is_state ct_Line_is_state), sl_Line_is_state⟩)
    (k_Line_is_state : PySem.W.codeIn K cd_Line_is_state "Line.is_state" = true)
    (p_Line_is_state : PySem.W.keepIn K (.ref f_Line_is_state) = true)
    (a_line_of : PySem.W.nsIn K mainGlobals "line_of" = some (some (.ref f_line_of)))
    (l_line_of : K.lookup f_line_of = some ⟨oc_line_of, od_line_of, .func (PySem.W.fnOf "line_of" "line_of" (defArgs s_line_of) (defBody s_line_of) (defScope s_line_of) (.none) kV_line_of dc_line_of pm_line_of an_line_of cd_line_of ct_line_of), sl_line_of⟩)
    (k_line_of : PySem.W.codeIn K cd_line_of "line_of" = true)
    (p_line_of : PySem.W.keepIn K (.ref f_line_of) = true)
    (a_Line_init : PySem.W.findIn K (.ref c_Line) "__init__" = some (some (.ref f_Line_init)))
    (l_Line_init : K.lookup f_Line_init = some ⟨oc_Line_init, od_Line_init, .func (PySem.W.fnOf "__init__" "Line.__init__" (defArgs s_Line_init) (defBody s_Line_init) (defScope s_Line_init) (.none) kV_Line_init dc_Line_init pm_Line_init an_Line_init cd_Line_init ct_Line_init), sl_Line_init⟩)
    (k_Line_init : PySem.W.codeIn K cd_Line_init "Line.__init__" = true)
    (p_Line_init : PySem.W.keepIn K (.ref f_Line_init) = true)
    (a_way_price : PySem.W.nsIn K mainGlobals "way_price" = some (some (.ref f_way_price)))
    (l_way_price : K.lookup f_way_price = some ⟨oc_way_price, od_way_price, .func (PySem.W.fnOf "way_price" "way_price" (defArgs s_way_price) (defBody s_way_price) (defScope s_way_price) (.none) kV_way_price dc_way_price pm_way_price an_way_price cd_way_price ct_way_price), sl_way_price⟩)
    (k_way_price : PySem.W.codeIn K cd_way_price "way_price" = true)
    (p_way_price : PySem.W.keepIn K (.ref f_way_price) = true)
    (a_law_good : PySem.W.nsIn K mainGlobals "_law_good" = some (some (.ref f_law_good)))
    (l_law_good : K.lookup f_law_good = some ⟨oc_law_good, od_law_good, .func (PySem.W.fnOf "_law_good" "_law_good" (defArgs s_law_good) (defBody s_law_good) (defScope s_law_good) (.none) kV_law_good dc_law_good pm_law_good an_law_good cd_law_good ct_law_good), sl_law_good⟩)
    (k_law_good : PySem.W.codeIn K cd_law_good "_law_good" = true)
    (p_law_good : PySem.W.keepIn K (.ref f_law_good) = true)
    (a_law_plan : PySem.W.nsIn K mainGlobals "_law_plan" = some (some (.ref f_law_plan)))
    (l_law_plan : K.lookup f_law_plan = some ⟨oc_law_plan, od_law_plan, .func (PySem.W.fnOf "_law_plan" "_law_plan" (defArgs s_law_plan) (defBody s_law_plan) (defScope s_law_plan) (.none) kV_law_plan dc_law_plan pm_law_plan an_law_plan cd_law_plan ct_law_plan), sl_law_plan⟩)
    (k_law_plan : PySem.W.codeIn K cd_law_plan "_law_plan" = true)
    (p_law_plan : PySem.W.keepIn K (.ref f_law_plan) = true)
    (a_law_far : PySem.W.nsIn K mainGlobals "_law_far" = some (some (.ref f_law_far)))
    (l_law_far : K.lookup f_law_far = some ⟨oc_law_far, od_law_far, .func (PySem.W.fnOf "_law_far" "_law_far" (defArgs s_law_far) (defBody s_law_far) (defScope s_law_far) (.none) kV_law_far dc_law_far pm_law_far an_law_far cd_law_far ct_law_far), sl_law_far⟩)
    (k_law_far : PySem.W.codeIn K cd_law_far "_law_far" = true)
    (p_law_far : PySem.W.keepIn K (.ref f_law_far) = true)
    (a_law_is_state : PySem.W.nsIn K mainGlobals "_law_is_state" = some (some (.ref f_law_is_state)))
    (l_law_is_state : K.lookup f_law_is_state = some ⟨oc_law_is_state, od_law_is_state, .func (PySem.W.fnOf "_law_is_state" "_law_is_state" (defArgs s_law_is_state) (defBody s_law_is_state) (defScope s_law_is_state) (.none) kV_law_is_state dc_law_is_state pm_law_is_state an_law_is_state cd_law_is_state ct_law_is_state), sl_law_is_state⟩)
    (k_law_is_state : PySem.W.codeIn K cd_law_is_state "_law_is_state" = true)
    (p_law_is_state : PySem.W.keepIn K (.ref f_law_is_state) = true)
    (a_law_pay : PySem.W.nsIn K mainGlobals "_law_pay" = some (some (.ref f_law_pay)))
    (l_law_pay : K.lookup f_law_pay = some ⟨oc_law_pay, od_law_pay, .func (PySem.W.fnOf "_law_pay" "_law_pay" (defArgs s_law_pay) (defBody s_law_pay) (defScope s_law_pay) (.none) kV_law_pay dc_law_pay pm_law_pay an_law_pay cd_law_pay ct_law_pay), sl_law_pay⟩)
    (k_law_pay : PySem.W.codeIn K cd_law_pay "_law_pay" = true)
    (p_law_pay : PySem.W.keepIn K (.ref f_law_pay) = true)
    (a_law_gone : PySem.W.nsIn K mainGlobals "_law_gone" = some (some (.ref f_law_gone)))
    (l_law_gone : K.lookup f_law_gone = some ⟨oc_law_gone, od_law_gone, .func (PySem.W.fnOf "_law_gone" "_law_gone" (defArgs s_law_gone) (defBody s_law_gone) (defScope s_law_gone) (.none) kV_law_gone dc_law_gone pm_law_gone an_law_gone cd_law_gone ct_law_gone), sl_law_gone⟩)
    (k_law_gone : PySem.W.codeIn K cd_law_gone "_law_gone" = true)
    (p_law_gone : PySem.W.keepIn K (.ref f_law_gone) = true)
    (a_law_many : PySem.W.nsIn K mainGlobals "_law_many" = some (some (.ref f_law_many)))
    (l_law_many : K.lookup f_law_many = some ⟨oc_law_many, od_law_many, .func (PySem.W.fnOf "_law_many" "_law_many" (defArgs s_law_many) (defBody s_law_many) (defScope s_law_many) (.none) kV_law_many dc_law_many pm_law_many an_law_many cd_law_many ct_law_many), sl_law_many⟩)
    (k_law_many : PySem.W.codeIn K cd_law_many "_law_many" = true)
    (p_law_many : PySem.W.keepIn K (.ref f_law_many) = true)
    (a_law_mixed : PySem.W.nsIn K mainGlobals "_law_mixed" = some (some (.ref f_law_mixed)))
    (l_law_mixed : K.lookup f_law_mixed = some ⟨oc_law_mixed, od_law_mixed, .func (PySem.W.fnOf "_law_mixed" "_law_mixed" (defArgs s_law_mixed) (defBody s_law_mixed) (defScope s_law_mixed) (.none) kV_law_mixed dc_law_mixed pm_law_mixed an_law_mixed cd_law_mixed ct_law_mixed), sl_law_mixed⟩)
    (k_law_mixed : PySem.W.codeIn K cd_law_mixed "_law_mixed" = true)
    (p_law_mixed : PySem.W.keepIn K (.ref f_law_mixed) = true)
    (a_law_cell : PySem.W.nsIn K mainGlobals "_law_cell" = some (some (.ref f_law_cell)))
    (l_law_cell : K.lookup f_law_cell = some ⟨oc_law_cell, od_law_cell, .func (PySem.W.fnOf "_law_cell" "_law_cell" (defArgs s_law_cell) (defBody s_law_cell) (defScope s_law_cell) (.none) kV_law_cell dc_law_cell pm_law_cell an_law_cell cd_law_cell ct_law_cell), sl_law_cell⟩)
    (k_law_cell : PySem.W.codeIn K cd_law_cell "_law_cell" = true)
    (p_law_cell : PySem.W.keepIn K (.ref f_law_cell) = true)
    (ga_Bound_init : PySem.W.specialIn K (.ref c_Bound) "__getattribute__" = some (some (.builtin "type.__getattribute__")))
    (gr_Bound_init : PySem.W.readsIn K c_Bound (.type "type") = true)
    (gf_Bound_init : PySem.W.findCls K (.ref c_Bound) (.type "type") "__init__" = some (.val (.ref f_Rule_init)))
    (cg_Line : PySem.W.plainGet K c_Line Str.empty = true)
    (ch_Line : PySem.W.hasDictIn K c_Line = true)
    (co_Line : PySem.W.plainOver K c_Line = true)
    (cs_Line : PySem.W.findIn K (.ref c_Line) "__setattr__" = some (some (.builtin "object.__setattr__")))
    (mm_Line : PySem.W.makesIn K c_Line = true)
    (mi_Line : PySem.W.findIn K (.ref c_Line) "__init__" = some (some (.ref f_Line_init)))
    (mf_Line : PySem.W.isFn K (.ref f_Line_init) = true)
    (mp_Line : PySem.W.keepIn K (.ref c_Line) = true)
    (na_Line_many : PySem.W.findIn K (.ref c_Line) "many" = some none)
    (ea_Line_is_state : PySem.W.findIn K (.ref c_Line) "is_state" = some (some (.ref f_Line_is_state)))
    (ef_Line_is_state : PySem.W.isFn K (.ref f_Line_is_state) = true)
    (ea_Line_is_wish : PySem.W.findIn K (.ref c_Line) "is_wish" = some (some (.ref f_Line_is_wish)))
    (ef_Line_is_wish : PySem.W.isFn K (.ref f_Line_is_wish) = true)
    (ea_Line_price : PySem.W.findIn K (.ref c_Line) "price" = some (some (.ref f_Line_price)))
    (ef_Line_price : PySem.W.isFn K (.ref f_Line_price) = true)
    (cg_Both : PySem.W.plainGet K c_Both Str.empty = true)
    (ch_Both : PySem.W.hasDictIn K c_Both = true)
    (co_Both : PySem.W.plainOver K c_Both = true)
    (cs_Both : PySem.W.findIn K (.ref c_Both) "__setattr__" = some (some (.builtin "object.__setattr__")))
    (mm_Both : PySem.W.makesIn K c_Both = true)
    (mi_Both : PySem.W.findIn K (.ref c_Both) "__init__" = some (some (.ref f_Both_init)))
    (mf_Both : PySem.W.isFn K (.ref f_Both_init) = true)
    (mp_Both : PySem.W.keepIn K (.ref c_Both) = true)
    (na_Both_spent : PySem.W.findIn K (.ref c_Both) "spent" = some none)
    (na_Both_standing : PySem.W.findIn K (.ref c_Both) "standing" = some none)
    (na_Both_world : PySem.W.findIn K (.ref c_Both) "world" = some none)
    (ea_Both_learn : PySem.W.findIn K (.ref c_Both) "learn" = some (some (.ref f_Rule_learn)))
    (ef_Both_learn : PySem.W.isFn K (.ref f_Rule_learn) = true)
    (ea_Both_pay : PySem.W.findIn K (.ref c_Both) "pay" = some (some (.ref f_Rule_pay)))
    (ef_Both_pay : PySem.W.isFn K (.ref f_Rule_pay) = true)
    (ea_Both_price_to : PySem.W.findIn K (.ref c_Both) "price_to" = some (some (.ref f_Rule_price_to)))
    (ef_Both_price_to : PySem.W.isFn K (.ref f_Rule_price_to) = true)
    (ea_Both_state : PySem.W.findIn K (.ref c_Both) "state" = some (some (.ref f_Rule_state)))
    (ef_Both_state : PySem.W.isFn K (.ref f_Rule_state) = true)
    (ea_Both_target : PySem.W.findIn K (.ref c_Both) "target" = some (some (.ref f_Both_target)))
    (ef_Both_target : PySem.W.isFn K (.ref f_Both_target) = true)
    (z_abs : PySem.W.nsIn K mainGlobals "abs" = some none)
    (z_all : PySem.W.nsIn K mainGlobals "all" = some none)
    (z_bool : PySem.W.nsIn K mainGlobals "bool" = some none)
    (z_int : PySem.W.nsIn K mainGlobals "int" = some none)
    (z_isinstance : PySem.W.nsIn K mainGlobals "isinstance" = some none)
    (z_len : PySem.W.nsIn K mainGlobals "len" = some none)
    (z_list : PySem.W.nsIn K mainGlobals "list" = some none)
    (z_max : PySem.W.nsIn K mainGlobals "max" = some none)
    (z_min : PySem.W.nsIn K mainGlobals "min" = some none)
    (z_range : PySem.W.nsIn K mainGlobals "range" = some none)
    (z_sorted : PySem.W.nsIn K mainGlobals "sorted" = some none)
    (z_str : PySem.W.nsIn K mainGlobals "str" = some none)
    (z_sum : PySem.W.nsIn K mainGlobals "sum" = some none)
    (z_tuple : PySem.W.nsIn K mainGlobals "tuple" = some none)
    (z_zip : PySem.W.nsIn K mainGlobals "zip" = some none)
    (nt : PySem.W.noTabs K = true) :
    ∃ (fd : FuncData) (cps : List (Addr × Addr)) (sp : Sp), PySem.W.noTabs K = true ∧ (∀ q ∈ cps, PySem.W.codeHdIn K q.1 q.2 = true ∧ ts.contains q.2 = true) ∧ (∀ (s : Shared) (v : Value), BindsTo s fd ⟨[v], []⟩ [("_law_script", v)]) ∧ (∀ (H : Hp) (a : Addr) (ns : List Int), ns.length ≤ 63 → (∀ z ∈ ns, ib z ≤ 1048576) → (∀ q ∈ cps, H q.2 = some (.tbl #[])) → SqL K H a (ns.map V.int) → sp [.ref a] H (fun v _ => v = .bl true) fun _ _ _ => False) ∧ ∀ base : Heap, K.In base → base.Ns mainGlobals mg → FnOk l.prog w K mg base (CXU l.prog w) 14 fa fd ["_law_script"] sp := by
  have e := hfa.symm.trans (PySem.W.mg_of X G a_law)
  cases e
  have F_law := fun_mk (st := s_law) l_law k_law p_law
  have F_law_same := fun_mk (st := s_law_same) l_law_same k_law_same p_law_same
  have F_law_whole := fun_mk (st := s_law_whole) l_law_whole k_law_whole p_law_whole
  have F_law_all_same := fun_mk (st := s_law_all_same) l_law_all_same k_law_all_same p_law_all_same
  have F_enemy_of_both := fun_mk (st := s_enemy_of_both) l_enemy_of_both k_enemy_of_both p_enemy_of_both
  have F_way_that_leaves := fun_mk (st := s_way_that_leaves) l_way_that_leaves k_way_that_leaves p_way_that_leaves
  have F_lazy_wishes := fun_mk (st := s_lazy_wishes) l_lazy_wishes k_lazy_wishes p_lazy_wishes
  have F_Rule_state := fun_mk (st := s_Rule_state) l_Rule_state k_Rule_state p_Rule_state
  have F_Rule_pay := fun_mk (st := s_Rule_pay) l_Rule_pay k_Rule_pay p_Rule_pay
  have F_Rule_learn := fun_mk (st := s_Rule_learn) l_Rule_learn k_Rule_learn p_Rule_learn
  have F_Rule_price_to := fun_mk (st := s_Rule_price_to) l_Rule_price_to k_Rule_price_to p_Rule_price_to
  have F_Line_price := fun_mk (st := s_Line_price) l_Line_price k_Line_price p_Line_price
  have F_ways_between := fun_mk (st := s_ways_between) l_ways_between k_ways_between p_ways_between
  have F_Both_target := fun_mk (st := s_Both_target) l_Both_target k_Both_target p_Both_target
  have F_Line_is_wish := fun_mk (st := s_Line_is_wish) l_Line_is_wish k_Line_is_wish p_Line_is_wish
  have F_is_place := fun_mk (st := s_is_place) l_is_place k_is_place p_is_place
  have F_is_whole_number := fun_mk (st := s_is_whole_number) l_is_whole_number k_is_whole_number p_is_whole_number
  have F_lacking := fun_mk (st := s_lacking) l_lacking k_lacking p_lacking
  have F_Both_init := fun_mk (st := s_Both_init) l_Both_init k_Both_init p_Both_init
  have F_Rule_init := fun_mk (st := s_Rule_init) l_Rule_init k_Rule_init p_Rule_init
  have F_Line_is_state := fun_mk (st := s_Line_is_state) l_Line_is_state k_Line_is_state p_Line_is_state
  have F_line_of := fun_mk (st := s_line_of) l_line_of k_line_of p_line_of
  have F_Line_init := fun_mk (st := s_Line_init) l_Line_init k_Line_init p_Line_init
  have F_way_price := fun_mk (st := s_way_price) l_way_price k_way_price p_way_price
  have F_law_good := fun_mk (st := s_law_good) l_law_good k_law_good p_law_good
  have F_law_plan := fun_mk (st := s_law_plan) l_law_plan k_law_plan p_law_plan
  have F_law_far := fun_mk (st := s_law_far) l_law_far k_law_far p_law_far
  have F_law_is_state := fun_mk (st := s_law_is_state) l_law_is_state k_law_is_state p_law_is_state
  have F_law_pay := fun_mk (st := s_law_pay) l_law_pay k_law_pay p_law_pay
  have F_law_gone := fun_mk (st := s_law_gone) l_law_gone k_law_gone p_law_gone
  have F_law_many := fun_mk (st := s_law_many) l_law_many k_law_many p_law_many
  have F_law_mixed := fun_mk (st := s_law_mixed) l_law_mixed k_law_mixed p_law_mixed
  have F_law_cell := fun_mk (st := s_law_cell) l_law_cell k_law_cell p_law_cell
  have b_law := F_law.binds (ps := ["_law_script"]) fun _ _ _ _ _ _ us hl => match us, hl with | [_], _ => rfl
  have b_law_same := F_law_same.binds (ps := ["_law_found", "_law_due"]) fun _ _ _ _ _ _ us hl => match us, hl with | [_, _], _ => rfl
  have b_law_whole := F_law_whole.binds (ps := ["_law_found"]) fun _ _ _ _ _ _ us hl => match us, hl with | [_], _ => rfl
  have b_law_all_same := F_law_all_same.binds (ps := ["_law_found", "_law_due"]) fun _ _ _ _ _ _ us hl => match us, hl with | [_, _], _ => rfl
  have b_enemy_of_both := F_enemy_of_both.binds (ps := ["k", "gap", "many"]) fun _ _ _ _ _ _ us hl => match us, hl with | [_, _, _], _ => rfl
  have b_way_that_leaves := F_way_that_leaves.binds (ps := ["place", "places", "wishes"]) fun _ _ _ _ _ _ us hl => match us, hl with | [_, _, _], _ => rfl
  have b_lazy_wishes := F_lazy_wishes.binds (ps := ["rule", "places", "many"]) fun _ _ _ _ _ _ us hl => match us, hl with | [_, _, _], _ => rfl
  have b_Rule_state := F_Rule_state.binds (ps := ["self"]) fun _ _ _ _ _ _ us hl => match us, hl with | [_], _ => rfl
  have b_Rule_pay := F_Rule_pay.binds (ps := ["self", "wish"]) fun _ _ _ _ _ _ us hl => match us, hl with | [_, _], _ => rfl
  have b_Rule_learn := F_Rule_learn.binds (ps := ["self", "wish"]) fun _ _ _ _ _ _ us hl => match us, hl with | [_, _], _ => rfl
  have b_Rule_price_to := F_Rule_price_to.binds (ps := ["self", "wish", "after"]) fun _ _ _ _ _ _ us hl => match us, hl with | [_, _, _], _ => rfl
  have b_Line_price := F_Line_price.binds (ps := ["self", "before", "wish", "after"]) fun _ _ _ _ _ _ us hl => match us, hl with | [_, _, _, _], _ => rfl
  have b_ways_between := F_ways_between.binds (ps := ["before", "after"]) fun _ _ _ _ _ _ us hl => match us, hl with | [_, _], _ => rfl
  have b_Both_target := F_Both_target.binds (ps := ["self", "wish"]) fun _ _ _ _ _ _ us hl => match us, hl with | [_, _], _ => rfl
  have b_Line_is_wish := F_Line_is_wish.binds (ps := ["self", "thing"]) fun _ _ _ _ _ _ us hl => match us, hl with | [_, _], _ => rfl
  have b_is_place := F_is_place.binds (ps := ["thing"]) fun _ _ _ _ _ _ us hl => match us, hl with | [_], _ => rfl
  have b_is_whole_number := F_is_whole_number.binds (ps := ["thing"]) fun _ _ _ _ _ _ us hl => match us, hl with | [_], _ => rfl
  have b_lacking := F_lacking.binds (ps := ["things", "had"]) fun _ _ _ _ _ _ us hl => match us, hl with | [_, _], _ => rfl
  have b_Both_init := F_Both_init.binds (ps := ["self", "start"]) fun _ _ _ _ _ _ us hl => match us, hl with | [_, _], _ => rfl
  have b_Rule_init := F_Rule_init.binds (ps := ["self", "world", "start"]) fun _ _ _ _ _ _ us hl => match us, hl with | [_, _, _], _ => rfl
  have b_Line_is_state := F_Line_is_state.binds (ps := ["self", "thing"]) fun _ _ _ _ _ _ us hl => match us, hl with | [_, _], _ => rfl
  have b_line_of := F_line_of.binds (ps := ["start"]) fun _ _ _ _ _ _ us hl => match us, hl with | [_], _ => rfl
  have b_Line_init := F_Line_init.binds (ps := ["self", "many"]) fun _ _ _ _ _ _ us hl => match us, hl with | [_, _], _ => rfl
  have b_way_price := F_way_price.binds (ps := ["world", "start", "wishes", "way"]) fun _ _ _ _ _ _ us hl => match us, hl with | [_, _, _, _], _ => rfl
  have b_law_good := F_law_good.binds (ps := ["_law_found", "_law_k", "_law_gap", "_law_many_here"]) fun _ _ _ _ _ _ us hl => match us, hl with | [_, _, _, _], _ => rfl
  have b_law_plan := F_law_plan.binds (ps := ["_law_start", "_law_wishes", "_law_way"]) fun _ _ _ _ _ _ us hl => match us, hl with | [_, _, _], _ => rfl
  have b_law_far := F_law_far.binds (ps := ["_law_state", "_law_after"]) fun _ _ _ _ _ _ us hl => match us, hl with | [_, _], _ => rfl
  have b_law_is_state := F_law_is_state.binds (ps := ["_law_state", "_law_many_here"]) fun _ _ _ _ _ _ us hl => match us, hl with | [_, _], _ => rfl
  have b_law_pay := F_law_pay.binds (ps := ["_law_start", "_law_wishes"]) fun _ _ _ _ _ _ us hl => match us, hl with | [_, _], _ => rfl
  have b_law_gone := F_law_gone.binds (ps := ["_law_state", "_law_wish"]) fun _ _ _ _ _ _ us hl => match us, hl with | [_, _], _ => rfl
  have b_law_many := F_law_many.binds (ps := ["_law_cell_here"]) fun _ _ _ _ _ _ us hl => match us, hl with | [_], _ => rfl
  have b_law_mixed := F_law_mixed.binds (ps := ["_law_cell_here", "_law_k"]) fun _ _ _ _ _ _ us hl => match us, hl with | [_, _], _ => rfl
  have b_law_cell := F_law_cell.binds (ps := ["_law_script", "_law_k"]) fun _ _ _ _ _ _ us hl => match us, hl with | [_, _], _ => rfl
  have T : Txt K mg ⟨fa, _, f_law_same, _, f_law_whole, _, f_law_all_same, _, f_enemy_of_both, _, ck_enemy_of_both, tb_enemy_of_both, f_way_that_leaves, _, f_lazy_wishes, _, f_Rule_state, _, f_Rule_pay, _, f_Rule_learn, _, f_Rule_price_to, _, f_Line_price, _, f_ways_between, _, f_Both_target, _, f_Line_is_wish, _, f_is_place, _, f_is_whole_number, _, f_lacking, _, f_Both_init, _, f_Rule_init, _, f_Line_is_state, _, f_line_of, _, f_Line_init, _, f_way_price, _, f_law_good, _, f_law_plan, _, f_law_far, _, f_law_is_state, _, f_law_pay, _, f_law_gone, _, f_law_many, _, f_law_mixed, _, f_law_cell, _, c_Rule, c_Bound, c_Line, c_Both⟩ := ⟨F_law, b_law, PySem.W.mg_of X G a_law, F_law_same, b_law_same, PySem.W.mg_of X G a_law_same, F_law_whole, b_law_whole, PySem.W.mg_of X G a_law_whole, F_law_all_same, b_law_all_same, PySem.W.mg_of X G a_law_all_same, F_enemy_of_both, b_enemy_of_both, PySem.W.mg_of X G a_enemy_of_both, rfl, hd_enemy_of_both, F_way_that_leaves, b_way_that_leaves, PySem.W.mg_of X G a_way_that_leaves, F_lazy_wishes, b_lazy_wishes, PySem.W.mg_of X G a_lazy_wishes, F_Rule_state, b_Rule_state, F_Rule_pay, b_Rule_pay, F_Rule_learn, b_Rule_learn, F_Rule_price_to, b_Rule_price_to, F_Line_price, b_Line_price, F_ways_between, b_ways_between, PySem.W.mg_of X G a_ways_between, F_Both_target, b_Both_target, F_Line_is_wish, b_Line_is_wish, F_is_place, b_is_place, PySem.W.mg_of X G a_is_place, F_is_whole_number, b_is_whole_number, PySem.W.mg_of X G a_is_whole_number, F_lacking, b_lacking, PySem.W.mg_of X G a_lacking, F_Both_init, b_Both_init, F_Rule_init, b_Rule_init, F_Line_is_state, b_Line_is_state, F_line_of, b_line_of, PySem.W.mg_of X G a_line_of, F_Line_init, b_Line_init, F_way_price, b_way_price, PySem.W.mg_of X G a_way_price, F_law_good, b_law_good, PySem.W.mg_of X G a_law_good, F_law_plan, b_law_plan, PySem.W.mg_of X G a_law_plan, F_law_far, b_law_far, PySem.W.mg_of X G a_law_far, F_law_is_state, b_law_is_state, PySem.W.mg_of X G a_law_is_state, F_law_pay, b_law_pay, PySem.W.mg_of X G a_law_pay, F_law_gone, b_law_gone, PySem.W.mg_of X G a_law_gone, F_law_many, b_law_many, PySem.W.mg_of X G a_law_many, F_law_mixed, b_law_mixed, PySem.W.mg_of X G a_law_mixed, F_law_cell, b_law_cell, PySem.W.mg_of X G a_law_cell, PySem.W.mg_of X G aC_Bound, ⟨ga_Bound_init, gr_Bound_init, gf_Bound_init, p_Rule_init⟩, PySem.W.mg_of X G aC_Line, ⟨cg_Line, ch_Line, co_Line, cs_Line⟩, ⟨mm_Line, mi_Line, mf_Line, mp_Line⟩, na_Line_many, ⟨ea_Line_is_state, ef_Line_is_state, p_Line_is_state⟩, ⟨ea_Line_is_wish, ef_Line_is_wish, p_Line_is_wish⟩, ⟨ea_Line_price, ef_Line_price, p_Line_price⟩, PySem.W.mg_of X G aC_Both, ⟨cg_Both, ch_Both, co_Both, cs_Both⟩, ⟨mm_Both, mi_Both, mf_Both, mp_Both⟩, na_Both_spent, na_Both_standing, na_Both_world, ⟨ea_Both_learn, ef_Both_learn, p_Rule_learn⟩, ⟨ea_Both_pay, ef_Both_pay, p_Rule_pay⟩, ⟨ea_Both_price_to, ef_Both_price_to, p_Rule_price_to⟩, ⟨ea_Both_state, ef_Both_state, p_Rule_state⟩, ⟨ea_Both_target, ef_Both_target, p_Both_target⟩, PySem.W.mg_none_of X G z_abs, PySem.W.mg_none_of X G z_all, PySem.W.mg_none_of X G z_bool, PySem.W.mg_none_of X G z_int, PySem.W.mg_none_of X G z_isinstance, PySem.W.mg_none_of X G z_len, PySem.W.mg_none_of X G z_list, PySem.W.mg_none_of X G z_max, PySem.W.mg_none_of X G z_min, PySem.W.mg_none_of X G z_range, PySem.W.mg_none_of X G z_sorted, PySem.W.mg_none_of X G z_str, PySem.W.mg_none_of X G z_sum, PySem.W.mg_none_of X G z_tuple, PySem.W.mg_none_of X G z_zip⟩
  exact ⟨_, [(ck_enemy_of_both, tb_enemy_of_both)], _, nt, fun q hq => by rw [List.mem_singleton.mp hq]; exact ⟨hd_enemy_of_both, tc_enemy_of_both⟩, fun s v => .of_eq rfl, fun H p ns h1 h2 h3 h4 => ⟨p, ns, rfl, h4, h1, h2, h3 _ (.head _), fun _ => rfl⟩, fun base _ _ => ok_law T⟩
theorem walk {l : PySem.W.OpenLaw} {q : Program} {loose : List Str} {XP : (Str → Option Value) → Heap → Prop} {YP : World → Heap → Prop} {d : DefRec} {K : Params → PySem.W.Frag} {ts : List Addr} (hn : l.most = some 63) (hdf : d.params.defaults = [])
    (hY : ∀ (w : World) (h : Heap), YP w h → (K w.params).In h) (hY2 : ∀ (w : World) (h : Heap), YP w h → ∀ P ∈ ts, h.get? P = some (PySem.W.tabObj #[]))
    (F : ∀ (w : World) (mg : Str → Option Value) (fa : Addr) (h : Heap), (K w.params).In h → h.Ns mainGlobals mg → mg d.name = some (.ref fa) →
      ∃ (fd : FuncData) (cps : List (Addr × Addr)) (sp : Sp), PySem.W.noTabs (K w.params) = true ∧ (∀ q ∈ cps, PySem.W.codeHdIn (K w.params) q.1 q.2 = true ∧ ts.contains q.2 = true) ∧ (∀ (s : Shared) (u : Value), BindsTo s fd ⟨[u], []⟩ [("_law_script", u)]) ∧
        (∀ (H : Hp) (a : Addr) (ns : List Int), ns.length ≤ 63 → (∀ z ∈ ns, ib z ≤ 1048576) → (∀ q ∈ cps, H q.2 = some (.tbl #[])) → SqL (K w.params) H a (ns.map V.int) → sp [.ref a] H (fun v _ => v = .bl true) fun _ _ _ => False) ∧
        ∀ base : Heap, (K w.params).In base → base.Ns mainGlobals mg → FnOk l.prog w (K w.params) mg base (CXU l.prog w) 14 fa fd ["_law_script"] sp) :
    PySem.W.WalkO q loose XP YP l.row.toRowW d [] (fun f vs => PySem.call f vs) :=
  L2.walk_ofT (n := 63) (k := 14) (x := "_law_script") (CX := fun w => CXU l.prog w) hn (by decide) hdf ⟨rfl, by decide, by decide, rfl⟩ hY hY2 F noneU
end Q
namespace PySem.W.Fast
def tw9417092708510513183 : Unit := ()
def tw17930774875994218051 : Unit := ()
def tw8992046051390141794 : Unit := ()
def tw15755966742173603386 : Unit := ()
def tw6074191879605197792 : Unit := ()
def tw7009826129922028023 : Unit := ()
def tw12852656377579051430 : Unit := ()
def tw4338373720375961259 : Unit := ()
def tw6450564805709936661 : Unit := ()
def tw2080740147070397953 : Unit := ()
def tw10539685487214009904 : Unit := ()
def tw4603435107337345322 : Unit := ()
end PySem.W.Fast
open PySem PySem.W PyProof.Rows
set_option maxRecDepth 100000 in
set_option maxHeartbeats 0 in
theorem PySem.Challenge.cw_lateknow_k71_enemy_of_both_holds : PySem.Challenge.rw_lateknow_k71_enemy_of_both.Holds := by
  w_on; o_law; k_head; (case hw => w_witness2)
  k_fill
  refine Q.walk (l := PySem.Challenge.rw_lateknow_k71_enemy_of_both) rfl rfl (fun w h Y => PySem.W.km_in_of Y) (fun w h Y => PySem.W.km_tabs_of Y) ?F
  case F =>
    intro w mg fa h KX G hmg
    refine' Q.all_mk KX G hmg ?aC_Rule ?aC_Bound ?aC_Line ?aC_Both ?a_law ?l_law ?k_law ?p_law ?a_law_same ?l_law_same ?k_law_same ?p_law_same ?a_law_whole ?l_law_whole ?k_law_whole ?p_law_whole ?a_law_all_same ?l_law_all_same ?k_law_all_same ?p_law_all_same ?a_enemy_of_both ?l_enemy_of_both ?lc_enemy_of_both ?pt_enemy_of_both ?hd_enemy_of_both ?tc_enemy_of_both ?k_enemy_of_both ?p_enemy_of_both ?a_way_that_leaves ?l_way_that_leaves ?k_way_that_leaves ?p_way_that_leaves ?a_lazy_wishes ?l_lazy_wishes ?k_lazy_wishes ?p_lazy_wishes ?a_Rule_state ?l_Rule_state ?k_Rule_state ?p_Rule_state ?a_Rule_pay ?l_Rule_pay ?k_Rule_pay ?p_Rule_pay ?a_Rule_learn ?l_Rule_learn ?k_Rule_learn ?p_Rule_learn ?a_Rule_price_to ?l_Rule_price_to ?k_Rule_price_to ?p_Rule_price_to ?a_Line_price ?l_Line_price ?k_Line_price ?p_Line_price ?a_ways_between ?l_ways_between ?k_ways_between ?p_ways_between ?a_Both_target ?l_Both_target ?k_Both_target ?p_Both_target ?a_Line_is_wish ?l_Line_is_wish ?k_Line_is_wish ?p_Line_is_wish ?a_is_place ?l_is_place ?k_is_place ?p_is_place ?a_is_whole_number ?l_is_whole_number ?k_is_whole_number ?p_is_whole_number ?a_lacking ?l_lacking ?k_lacking ?p_lacking ?a_Both_init ?l_Both_init ?k_Both_init ?p_Both_init ?a_Rule_init ?l_Rule_init ?k_Rule_init ?p_Rule_init ?a_Line_is_state ?l_Line_is_state ?k_Line_is_state ?p_Line_is_state ?a_line_of ?l_line_of ?k_line_of ?p_line_of ?a_Line_init ?l_Line_init ?k_Line_init ?p_Line_init ?a_way_price ?l_way_price ?k_way_price ?p_way_price ?a_law_good ?l_law_good ?k_law_good ?p_law_good ?a_law_plan ?l_law_plan ?k_law_plan ?p_law_plan ?a_law_far ?l_law_far ?k_law_far ?p_law_far ?a_law_is_state ?l_law_is_state ?k_law_is_state ?p_law_is_state ?a_law_pay ?l_law_pay ?k_law_pay ?p_law_pay ?a_law_gone ?l_law_gone ?k_law_gone ?p_law_gone ?a_law_many ?l_law_many ?k_law_many ?p_law_many ?a_law_mixed ?l_law_mixed ?k_law_mixed ?p_law_mixed ?a_law_cell ?l_law_cell ?k_law_cell ?p_law_cell ?ga_Bound_init ?gr_Bound_init ?gf_Bound_init ?cg_Line ?ch_Line ?co_Line ?cs_Line ?mm_Line ?mi_Line ?mf_Line ?mp_Line ?na_Line_many ?ea_Line_is_state ?ef_Line_is_state ?ea_Line_is_wish ?ef_Line_is_wish ?ea_Line_price ?ef_Line_price ?cg_Both ?ch_Both ?co_Both ?cs_Both ?mm_Both ?mi_Both ?mf_Both ?mp_Both ?na_Both_spent ?na_Both_standing ?na_Both_world ?ea_Both_learn ?ef_Both_learn ?ea_Both_pay ?ef_Both_pay ?ea_Both_price_to ?ef_Both_price_to ?ea_Both_state ?ef_Both_state ?ea_Both_target ?ef_Both_target ?z_abs ?z_all ?z_bool ?z_int ?z_isinstance ?z_len ?z_list ?z_max ?z_min ?z_range ?z_sorted ?z_str ?z_sum ?z_tuple ?z_zip ?nt
    (case aC_Rule => k_is)
    (case aC_Bound => k_is)
    (case aC_Line => k_is)
    (case aC_Both => k_is)
    (case a_law => k_is)
    (case l_law => k_is)
    (case k_law => k_is)
    (case p_law => k_is)
    (case a_law_same => k_is)
    (case l_law_same => k_is)
    (case k_law_same => k_is)
    (case p_law_same => k_is)
    (case a_law_whole => k_is)
    (case l_law_whole => k_is)
    (case k_law_whole => k_is)
    (case p_law_whole => k_is)
    (case a_law_all_same => k_is)
    (case l_law_all_same => k_is)
    (case k_law_all_same => k_is)
    (case p_law_all_same => k_is)
    (case a_enemy_of_both => k_is)
    (case l_enemy_of_both => k_is)
    (case lc_enemy_of_both => k_is)
    (case pt_enemy_of_both => exact rfl)
    (case hd_enemy_of_both => kernel_rfl)
    (case tc_enemy_of_both => exact rfl)
    (case k_enemy_of_both => k_is)
    (case p_enemy_of_both => k_is)
    (case a_way_that_leaves => k_is)
    (case l_way_that_leaves => k_is)
    (case k_way_that_leaves => k_is)
    (case p_way_that_leaves => k_is)
    (case a_lazy_wishes => k_is)
    (case l_lazy_wishes => k_is)
    (case k_lazy_wishes => k_is)
    (case p_lazy_wishes => k_is)
    (case a_Rule_state => k_is)
    (case l_Rule_state => k_is)
    (case k_Rule_state => k_is)
    (case p_Rule_state => k_is)
    (case a_Rule_pay => k_is)
    (case l_Rule_pay => k_is)
    (case k_Rule_pay => k_is)
    (case p_Rule_pay => k_is)
    (case a_Rule_learn => k_is)
    (case l_Rule_learn => k_is)
    (case k_Rule_learn => k_is)
    (case p_Rule_learn => k_is)
    (case a_Rule_price_to => k_is)
    (case l_Rule_price_to => k_is)
    (case k_Rule_price_to => k_is)
    (case p_Rule_price_to => k_is)
    (case a_Line_price => k_is)
    (case l_Line_price => k_is)
    (case k_Line_price => k_is)
    (case p_Line_price => k_is)
    (case a_ways_between => k_is)
    (case l_ways_between => k_is)
    (case k_ways_between => k_is)
    (case p_ways_between => k_is)
    (case a_Both_target => k_is)
    (case l_Both_target => k_is)
    (case k_Both_target => k_is)
    (case p_Both_target => k_is)
    (case a_Line_is_wish => k_is)
    (case l_Line_is_wish => k_is)
    (case k_Line_is_wish => k_is)
    (case p_Line_is_wish => k_is)
    (case a_is_place => k_is)
    (case l_is_place => k_is)
    (case k_is_place => k_is)
    (case p_is_place => k_is)
    (case a_is_whole_number => k_is)
    (case l_is_whole_number => k_is)
    (case k_is_whole_number => k_is)
    (case p_is_whole_number => k_is)
    (case a_lacking => k_is)
    (case l_lacking => k_is)
    (case k_lacking => k_is)
    (case p_lacking => k_is)
    (case a_Both_init => k_is)
    (case l_Both_init => k_is)
    (case k_Both_init => k_is)
    (case p_Both_init => k_is)
    (case a_Rule_init => k_is)
    (case l_Rule_init => k_is)
    (case k_Rule_init => k_is)
    (case p_Rule_init => k_is)
    (case a_Line_is_state => k_is)
    (case l_Line_is_state => k_is)
    (case k_Line_is_state => k_is)
    (case p_Line_is_state => k_is)
    (case a_line_of => k_is)
    (case l_line_of => k_is)
    (case k_line_of => k_is)
    (case p_line_of => k_is)
    (case a_Line_init => k_is)
    (case l_Line_init => k_is)
    (case k_Line_init => k_is)
    (case p_Line_init => k_is)
    (case a_way_price => k_is)
    (case l_way_price => k_is)
    (case k_way_price => k_is)
    (case p_way_price => k_is)
    (case a_law_good => k_is)
    (case l_law_good => k_is)
    (case k_law_good => k_is)
    (case p_law_good => k_is)
    (case a_law_plan => k_is)
    (case l_law_plan => k_is)
    (case k_law_plan => k_is)
    (case p_law_plan => k_is)
    (case a_law_far => k_is)
    (case l_law_far => k_is)
    (case k_law_far => k_is)
    (case p_law_far => k_is)
    (case a_law_is_state => k_is)
    (case l_law_is_state => k_is)
    (case k_law_is_state => k_is)
    (case p_law_is_state => k_is)
    (case a_law_pay => k_is)
    (case l_law_pay => k_is)
    (case k_law_pay => k_is)
    (case p_law_pay => k_is)
    (case a_law_gone => k_is)
    (case l_law_gone => k_is)
    (case k_law_gone => k_is)
    (case p_law_gone => k_is)
    (case a_law_many => k_is)
    (case l_law_many => k_is)
    (case k_law_many => k_is)
    (case p_law_many => k_is)
    (case a_law_mixed => k_is)
    (case l_law_mixed => k_is)
    (case k_law_mixed => k_is)
    (case p_law_mixed => k_is)
    (case a_law_cell => k_is)
    (case l_law_cell => k_is)
    (case k_law_cell => k_is)
    (case p_law_cell => k_is)
    (case ga_Bound_init => k_is)
    (case gr_Bound_init => k_is)
    (case gf_Bound_init => k_is)
    (case cg_Line => k_is)
    (case ch_Line => k_is)
    (case co_Line => k_is)
    (case cs_Line => k_is)
    (case mm_Line => k_is)
    (case mi_Line => k_is)
    (case mf_Line => k_is)
    (case mp_Line => k_is)
    (case na_Line_many => k_is)
    (case ea_Line_is_state => k_is)
    (case ef_Line_is_state => k_is)
    (case ea_Line_is_wish => k_is)
    (case ef_Line_is_wish => k_is)
    (case ea_Line_price => k_is)
    (case ef_Line_price => k_is)
    (case cg_Both => k_is)
    (case ch_Both => k_is)
    (case co_Both => k_is)
    (case cs_Both => k_is)
    (case mm_Both => k_is)
    (case mi_Both => k_is)
    (case mf_Both => k_is)
    (case mp_Both => k_is)
    (case na_Both_spent => k_is)
    (case na_Both_standing => k_is)
    (case na_Both_world => k_is)
    (case ea_Both_learn => k_is)
    (case ef_Both_learn => k_is)
    (case ea_Both_pay => k_is)
    (case ef_Both_pay => k_is)
    (case ea_Both_price_to => k_is)
    (case ef_Both_price_to => k_is)
    (case ea_Both_state => k_is)
    (case ef_Both_state => k_is)
    (case ea_Both_target => k_is)
    (case ef_Both_target => k_is)
    (case z_abs => k_is)
    (case z_all => k_is)
    (case z_bool => k_is)
    (case z_int => k_is)
    (case z_isinstance => k_is)
    (case z_len => k_is)
    (case z_list => k_is)
    (case z_max => k_is)
    (case z_min => k_is)
    (case z_range => k_is)
    (case z_sorted => k_is)
    (case z_str => k_is)
    (case z_sum => k_is)
    (case z_tuple => k_is)
    (case z_zip => k_is)
    (case nt => kernel_rfl)
