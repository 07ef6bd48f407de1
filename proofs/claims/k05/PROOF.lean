import PyProof.Rows.All
import Wide.All
import OpenK.AllK
import Wide.FinOn
import PyProof.EqAt
import PyProof.EqKinds
import PyProof.TupleCall
import KE.BitLaws
import PySem.Challenge.RW_loopturn_k05_least_and_most
-- CHANGE: your row's module here, as the last of these rows
set_option Elab.async false
set_option linter.all false
set_option maxRecDepth 100000
/-! THE HAND LAYER, for ints, bools, texts, own classes, lists, tuples, dicts, comprehensions, walks over dicts, enumerate, zip, reversed, texts, calls, loops. Paste it whole ahead of your own text; what your proof does not reach may be deleted. -/
namespace L2
open PySem PySem.Spec PyProof.Rows

/-- a key: an int or a str -/
abbrev Key := Sum Int Str
def keyIs : Key → Value → Bool
  | .inl k, v => Value.isInt k v
  | .inr x, v => Value.isStrOf x v
def keyH (w : World) : Key → Int
  | .inl k => hashInt k
  | .inr x => hashStr w x
theorem keyIs_shape : ∀ {k : Key} {v : Value}, keyIs k v = true → (∃ i t, k = Sum.inl i ∧ v = Value.int i t) ∨ (∃ x t, k = Sum.inr x ∧ v = Value.str x t)
  | .inl i, v, h => by
    obtain ⟨t, e⟩ := Value.isInt_shape (k := i) (v := v) h
    exact .inl ⟨i, t, rfl, e⟩
  | .inr x, v, h => by
    obtain ⟨t, e⟩ := Value.isStrOf_shape (x := x) (v := v) h
    exact .inr ⟨x, t, rfl, e⟩
theorem keyIs_int (i : Int) (t : Tok) : keyIs (.inl i) (.int i t) = true := by simp [keyIs, Value.isInt]
theorem keyIs_str (x : Str) (t : Tok) : keyIs (.inr x) (.str x t) = true := by simp [keyIs, Value.isStrOf]
theorem key_ll (a b : Int) : decide ((Sum.inl a : Key) = Sum.inl b) = (a == b) := by
  by_cases e : a = b
  · subst e; simp
  · have h : ¬ (Sum.inl a : Key) = Sum.inl b := fun q => e (Sum.inl.inj q)
    rw [decide_eq_false h]
    exact (beq_eq_false_iff_ne.mpr e).symm
theorem key_rr (a b : Str) : decide ((Sum.inr a : Key) = Sum.inr b) = decide (a = b) := by
  by_cases e : a = b
  · subst e; simp
  · have h : ¬ (Sum.inr a : Key) = Sum.inr b := fun q => e (Sum.inr.inj q)
    rw [decide_eq_false h, decide_eq_false e]
theorem key_lr (a : Int) (b : Str) : decide ((Sum.inl a : Key) = Sum.inr b) = false := decide_eq_false (fun q => nomatch q)
theorem key_rl (a : Str) (b : Int) : decide ((Sum.inr a : Key) = Sum.inl b) = false := decide_eq_false (fun q => nomatch q)

def mixKind (prog : Program) (w : World) : PySem.KeyKind prog w Key where
  is := keyIs
  hash := keyH w
  inj := fun v a b ha hb => by
    rcases keyIs_shape ha with ⟨i, t, rfl, rfl⟩ | ⟨x, t, rfl, rfl⟩
    · rcases keyIs_shape hb with ⟨j, u, rfl, e⟩ | ⟨y, u, rfl, e⟩
      · injection e with e1 _; rw [e1]
      · exact nomatch e
    · rcases keyIs_shape hb with ⟨j, u, rfl, e⟩ | ⟨y, u, rfl, e⟩
      · exact nomatch e
      · injection e with e1 _; rw [e1]
  byValue := fun k v h => by
    rcases keyIs_shape h with ⟨i, t, rfl, rfl⟩ | ⟨x, t, rfl, rfl⟩ <;> rfl
  pyHash := fun hv h => by
    rcases keyIs_shape hv with ⟨i, t, rfl, rfl⟩ | ⟨x, t, rfl, rfl⟩
    · exact wpAny_pyHash_int h
    · exact wpAny_pyHash_str h
  eqBool := fun hu hv h => by
    rcases keyIs_shape hu with ⟨i, t, rfl, rfl⟩ | ⟨x, t, rfl, rfl⟩
    · rcases keyIs_shape hv with ⟨j, u, rfl, rfl⟩ | ⟨y, u, rfl, rfl⟩
      · rw [key_ll] at h; exact wpAny_eqBool_int h
      · rw [key_lr] at h; exact SeqAt.EqAt.int_str i t y u _ _ _ _ h
    · rcases keyIs_shape hv with ⟨j, u, rfl, rfl⟩ | ⟨y, u, rfl, rfl⟩
      · rw [key_rl] at h; exact SeqAt.EqAt.str_int x t j u _ _ _ _ h
      · rw [key_rr] at h; exact wpAny_eqBool_str h
  «strs» := fun k x t v h => by
    rcases keyIs_shape h with ⟨i, u, rfl, e⟩ | ⟨y, u, rfl, e⟩
    · exact nomatch e
    · injection e with e1 _
      subst e1
      cases v <;> rfl

theorem mixKind_is (prog : Program) (w : World) (k : Key) (v : Value) : (mixKind prog w).is k v = keyIs k v := rfl
theorem mixKind_int (prog : Program) (w : World) (i : Int) (t : Tok) : (mixKind prog w).is (.inl i) (.int i t) = true := keyIs_int i t
theorem mixKind_str (prog : Program) (w : World) (x : Str) (t : Tok) : (mixKind prog w).is (.inr x) (.str x t) = true := keyIs_str x t
end L2

namespace L2
open PySem PySem.Spec PyProof.Rows

/-- a value, without the heap -/
inductive V where
  | non | bl (b : Bool) | int (i : Int) | str (x : Str) | byt (b : Array UInt8) | flt (b : UInt64) | ref (a : Addr) | ty (n : String)
  deriving DecidableEq

def RelV : V → Value → Prop
  | .non, u => u = Value.none
  | .bl b, u => u = Value.bool b
  | .int i, u => ∃ t, u = Value.int i t
  | .str x, u => ∃ t, u = Value.str x t
  | .byt b, u => ∃ t, u = Value.bytes b t
  | .flt b, u => ∃ t, u = Value.float b t
  | .ref a, u => u = Value.ref a
  | .ty n, u => u = Value.type n

abbrev Vals : List V → List Value → Prop := Paired RelV
theorem Vals.length {xs : List V} {us : List Value} (r : Vals xs us) : xs.length = us.length := Paired.length r
theorem Vals.get : ∀ {xs : List V} {us : List Value} {i : Nat} {x : V}, Vals xs us → xs[i]? = some x → ∃ u, us[i]? = some u ∧ RelV x u
  | _, _, _, _, .nil, e => by simp at e
  | _, _, 0, _, .cons r _, e => by simp at e; subst e; exact ⟨_, rfl, r⟩
  | _, _, i + 1, x, .cons _ t, e => by
    obtain ⟨u, h1, h2⟩ := Vals.get (i := i) (x := x) t (by simpa using e)
    exact ⟨u, by simpa using h1, h2⟩
theorem Vals.set {x : V} {u : Value} (r : RelV x u) : ∀ {xs : List V} {us : List Value} (i : Nat), Vals xs us → Vals (xs.set i x) (us.set i u)
  | _, _, _, .nil => .nil
  | _, _, 0, .cons _ t => .cons r t
  | _, _, i + 1, .cons q t => .cons q (Vals.set r i t)
theorem Vals.append : ∀ {xs ys : List V} {us ws : List Value}, Vals xs us → Vals ys ws → Vals (xs ++ ys) (us ++ ws)
  | _, _, _, _, .nil, s => s
  | _, _, _, _, .cons r t, s => .cons r (Vals.append t s)
theorem Vals.take : ∀ {xs : List V} {us : List Value} (n : Nat), Vals xs us → Vals (xs.take n) (us.take n)
  | _, _, 0, _ => .nil
  | _, _, _ + 1, .nil => .nil
  | _, _, n + 1, .cons r t => .cons r (Vals.take n t)
theorem Vals.drop : ∀ {xs : List V} {us : List Value} (n : Nat), Vals xs us → Vals (xs.drop n) (us.drop n)
  | _, _, 0, r => r
  | _, _, _ + 1, .nil => .nil
  | _, _, n + 1, .cons _ t => Vals.drop n t
theorem Vals.none_of : ∀ {xs : List V} {us : List Value} {i : Nat}, Vals xs us → xs[i]? = none → us[i]? = none := fun {xs us i} r e => by
  have h1 := r.length
  have h2 : xs.length ≤ i := List.getElem?_eq_none_iff.mp e
  exact List.getElem?_eq_none_iff.mpr (by omega)

def RelO : Option V → Option Value → Prop
  | some v, some u => RelV v u
  | none, none => True
  | _, _ => False
def KV {κ : Type} : List (κ × V) → List (κ × Value) → Prop := Paired fun (p : κ × V) (q : κ × Value) => p.1 = q.1 ∧ RelV p.2 q.2

/-- a key of a dict (00_mix): an int or a text -/
def kV : Key → V
  | .inl i => .int i
  | .inr x => .str x

/-- what stands at a tracked address -/
inductive HO where
  /-- a list -/
  | lst (xs : List V)
  /-- a tuple (never changes) -/
  | tup (xs : List V)
  /-- a dict whose keys are ints and texts; one whose keys are tuples of ints and texts (the empty one is both) -/
  | dK (kvs : List (Key × V)) | dT (kvs : List (List Key × V))
  /-- a set of ints: its members, its size -/
  | set (S : Int → Bool) (n : Nat)
  /-- an instance of the class at C, its dict at dx, its attributes -/
  | ins (C dx : Addr) (fs : List (Str × V))
  /-- the dict of the instance at x -/
  | own (x : Addr)
  /-- the dict of an exception -/
  | xd (fs : List (Str × V))
  /-- a bound method, f of x -/
  | met (f x : Addr)
  /-- a range object lo, lo + 1, .. below hi -/
  | rng (lo hi : Int)
  /-- a thing that is known to the object (the script; a dict while a loop walks it): read, never written while it is so -/
  | frz (o : Obj) (u : HO)
  /-- a code object's table -/
  | tbl (ps : Array Value)
  /-- any other thing, by what is true of its one object (a def of one's own: SetO a S n := HO.ext fun h => ..) -/
  | ext (φ : Heap → Prop)

abbrev Hp := Addr → Option HO
def upd (H : Hp) (a : Addr) (o : HO) : Hp := fun b => if b = a then some o else H b
theorem upd_same {H : Hp} {a : Addr} {o : HO} : upd H a o a = some o := by unfold upd; rw [if_pos rfl]
theorem upd_ne {H : Hp} {a b : Addr} {o : HO} (h : b ≠ a) : upd H a o b = H b := by unfold upd; rw [if_neg h]
theorem upd_upd {H : Hp} {a : Addr} {o u : HO} : upd (upd H a o) a u = upd H a u := by
  funext b; unfold upd; split <;> rfl
/-- two objects of different content stand apart -/
theorem ne_of {H : Hp} {a b : Addr} {o u : HO} (h : H a = some o) (h' : H b = some u) (d : o ≠ u) : a ≠ b := by
  intro e; subst e; rw [h] at h'; exact d (Option.some.inj h')
theorem ne_of_none {H : Hp} {a b : Addr} {o : HO} (h : H a = some o) (h' : H b = none) : a ≠ b := by
  intro e; subst e; rw [h] at h'; cases h'

section
variable (P : Program) (w : World)
def ObjOk (H : Hp) (h : Heap) (a : Addr) : HO → Prop
  | .lst xs => xs.length ≤ sizeLine ∧ ∃ (its : List Value) (n : Nat), Vals xs its ∧ h.get? a = some { cls := .type "list", data := .seq its.toArray n }
  | .tup xs => xs.length ≤ sizeLine ∧ ∃ its : List Value, Vals xs its ∧ IsTup h a its.toArray
  | .dK kvs => kvs.length ≤ sizeLine ∧ (a == sysModules) = false ∧ ∃ vs, KV kvs vs ∧ h.DictOf (mixKind P w) a vs
  | .dT kvs => kvs.length ≤ sizeLine ∧ (a == sysModules) = false ∧ ∃ xs : List (List Key × Addr × Value),
      Paired (fun (p : List Key × V) (q : List Key × Addr × Value) => p.1 = q.1 ∧ H q.2.1 = some (.tup (p.1.map kV)) ∧ RelV p.2 q.2.2) kvs xs ∧
      ∃ o es ep, h.get? a = some o ∧ o.ExactDict ∧ o.data = .dict es ep ∧ es.toList = xs.map (entryOfKey (tupleKind (mixKind P w))) ∧ (xs.map (·.1)).Nodup
  | .set S n => h.SetOf (intKind P w) a S n
  | .ins C dx fs => H dx = some (.own a) ∧ fs.length ≤ 1000 ∧ dx ≠ a ∧ h.get? a = some (PySem.W.instObj C dx) ∧
      ∃ mA, h.Ns1 dx mA ∧ (∀ f, RelO (fs.lookup f) (mA f)) ∧ PySem.Within mA (fs.map (·.1))
  | .own _ => ∃ o, h.get? a = some o
  | .xd fs => ∃ mA, h.Ns1 a mA ∧ ∀ f, RelO (fs.lookup f) (mA f)
  | .rng lo hi => ∃ t u v, h.get? a = some { cls := .type "range", data := .fields #[.int lo t, .int hi u, .int 1 v] }
  | .frz o u => h.get? a = some o ∧ ObjOk H h a u
  | .tbl ps => h.get? a = some { cls := .none, data := .fields ps }
  | .met f x => h.get? a = some (PySem.W.methodObj (.ref f) (.ref x))
  | .ext φ => φ h ∧ (∃ o, h.get? a = some o) ∧ ∀ h1 h2 : Heap, φ h1 → (∀ o, h1.get? a = some o → h2.get? a = some o) → φ h2
/-- the abstract heap is held -/
def HOk (H : Hp) (h : Heap) : Prop := ∀ a o, H a = some o → ObjOk P w H h a o
end

section
variable {P : Program} {w : World} {H H' : Hp} {h h' : Heap} {a : Addr} {o : HO}
theorem ObjOk.lt (x : ObjOk P w H h a o) : a < h.objs.size := by
  cases o with
  | lst xs => obtain ⟨_, _, _, _, e⟩ := x; exact Heap.lt_size e
  | tup xs => obtain ⟨_, _, _, p⟩ := x; exact p.lt
  | dK kvs => obtain ⟨_, _, _, _, o, _, _, e, _⟩ := x; exact Heap.lt_size e
  | dT kvs => obtain ⟨_, _, _, _, o, _, _, e, _⟩ := x; exact Heap.lt_size e
  | set S n => obtain ⟨o, _, _, _, e, _⟩ := x; exact Heap.lt_size e
  | ins C dx fs => obtain ⟨_, _, _, e, _⟩ := x; exact Heap.lt_size e
  | own y => obtain ⟨_, e⟩ := x; exact Heap.lt_size e
  | xd fs => obtain ⟨_, ⟨_, _, _, e, _⟩, _⟩ := x; exact Heap.lt_size e
  | rng lo hi => obtain ⟨_, _, _, e⟩ := x; exact Heap.lt_size e
  | frz ob u => obtain ⟨e, _⟩ := x; exact Heap.lt_size e
  | tbl ps => exact Heap.lt_size (show h.get? a = some _ from x)
  | met f y => exact Heap.lt_size (show h.get? a = some _ from x)
  | ext φ => obtain ⟨_, ⟨_, e⟩, _⟩ := x; exact Heap.lt_size e
theorem Paired.mapP {α β : Type} {F G : α → β → Prop} : ∀ {l₁ : List α} {l₂ : List β}, Paired F l₁ l₂ → (∀ a b, F a b → G a b) → Paired G l₁ l₂
  | _, _, .nil, _ => .nil
  | _, _, .cons r t, f => .cons (f _ _ r) (Paired.mapP t f)
theorem Paired.imp' {α β : Type} {F G : α → β → Prop} (f : ∀ a b, F a b → G a b) {l₁ : List α} {l₂ : List β} (r : Paired F l₁ l₂) : Paired G l₁ l₂ := Paired.mapP r f
/-- what an object's description leans on: its own object, its own dict, the tuples -/
theorem ObjOk.stay (x : ObjOk P w H h a o) (k : ∀ b u, (b = a ∨ H b = some (.own a)) → h.get? b = some u → h'.get? b = some u)
    (ho : ∀ b, H b = some (.own a) → H' b = some (.own a)) (ht : ∀ b xs, H b = some (.tup xs) → H' b = some (.tup xs)) : ObjOk P w H' h' a o := by
  induction o with
  | lst xs => obtain ⟨z, its, n, r, e⟩ := x; exact ⟨z, its, n, r, k _ _ (.inl rfl) e⟩
  | tup xs => obtain ⟨z, its, r, ob, e, c⟩ := x; exact ⟨z, its, r, ob, k _ _ (.inl rfl) e, c⟩
  | dK kvs => obtain ⟨z, y, vs, r, ob, es, ep, e, c⟩ := x; exact ⟨z, y, vs, r, ob, es, ep, k _ _ (.inl rfl) e, c⟩
  | dT kvs =>
    obtain ⟨z, y, xs, r, ob, es, ep, e, c⟩ := x
    exact ⟨z, y, xs, Paired.mapP r fun p q z => ⟨z.1, ht _ _ z.2.1, z.2.2⟩, ob, es, ep, k _ _ (.inl rfl) e, c⟩
  | set S n => obtain ⟨ob, es, ep, t, e, c⟩ := x; exact ⟨ob, es, ep, t, k _ _ (.inl rfl) e, c⟩
  | ins C dx fs =>
    obtain ⟨d, z, ne, e, mA, ⟨od, es, ep, e2, c⟩, r⟩ := x
    exact ⟨ho _ d, z, ne, k _ _ (.inl rfl) e, mA, ⟨od, es, ep, k _ _ (.inr d) e2, c⟩, r⟩
  | own y => obtain ⟨ob, e⟩ := x; exact ⟨ob, k _ _ (.inl rfl) e⟩
  | xd fs => obtain ⟨mA, ⟨od, es, ep, e, c⟩, r⟩ := x; exact ⟨mA, ⟨od, es, ep, k _ _ (.inl rfl) e, c⟩, r⟩
  | rng lo hi => obtain ⟨t, u, v, e⟩ := x; exact ⟨t, u, v, k _ _ (.inl rfl) e⟩
  | frz ob u ih => obtain ⟨e, q⟩ := x; exact ⟨k _ _ (.inl rfl) e, ih q⟩
  | tbl ps =>
    have e : h.get? a = some { cls := .none, data := .fields ps } := x
    show h'.get? a = some { cls := .none, data := .fields ps }
    exact k a _ (.inl rfl) e
  | met f y =>
    have e : h.get? a = some (PySem.W.methodObj (.ref f) (.ref y)) := x
    show h'.get? a = some (PySem.W.methodObj (.ref f) (.ref y))
    exact k a _ (.inl rfl) e
  | ext φ => obtain ⟨p, ⟨o, e⟩, st⟩ := x; exact ⟨st _ _ p fun o q => k _ _ (.inl rfl) q, ⟨o, k _ _ (.inl rfl) e⟩, st⟩
theorem HOk.lt (x : HOk P w H h) (e : H a = some o) : a < h.objs.size := (x a o e).lt
theorem HOk.fresh (x : HOk P w H h) (e : h.objs.size ≤ a) : H a = none := by
  cases q : H a with
  | none => rfl
  | some u => exact absurd (Nat.lt_of_lt_of_le (x.lt q) e) (Nat.lt_irrefl _)
/-- every object of the heap is kept -/
theorem HOk.kept (x : HOk P w H h) (k : ∀ b u, h.get? b = some u → h'.get? b = some u) : HOk P w H h' := fun a o e =>
  (x a o e).stay (fun b u _ q => k b u q) (fun _ q => q) fun _ _ q => q
/-- a new object is laid and tracked -/
theorem HOk.laid (x : HOk P w H h) (k : ∀ b u, h.get? b = some u → h'.get? b = some u) (hp : h.objs.size ≤ a) (new : ObjOk P w (upd H a o) h' a o) : HOk P w (upd H a o) h' := fun b u e => by
  have hn := x.fresh hp
  by_cases hb : b = a
  · subst hb; rw [upd_same] at e; cases e; exact new
  · rw [upd_ne hb] at e
    exact (x b u e).stay (fun c v _ q => k c v q) (fun c q => by rw [upd_ne (ne_of_none q hn)]; exact q) fun c xs q => by rw [upd_ne (ne_of_none q hn)]; exact q
end

/-- what may be read as u: it is u, or a known u -/
def Rd (H : Hp) (a : Addr) (u : HO) : Prop := H a = some u ∨ ∃ o, H a = some (.frz o u)
theorem Rd.of {H : Hp} {a : Addr} {u : HO} (h : H a = some u) : Rd H a u := .inl h
theorem Rd.ok {P : Program} {w : World} {H : Hp} {h : Heap} {a : Addr} {u : HO} (r : Rd H a u) (x : HOk P w H h) : ObjOk P w H h a u := by
  rcases r with r | ⟨o, r⟩
  · exact x a u r
  · obtain ⟨_, q⟩ := x a _ r
    exact q
/-- what may be written -/
def Mut : Option HO → Prop
  | some (.lst _) => True
  | some (.dK _) => True
  | some (.dT _) => True
  | some (.set _ _) => True
  | some (.ins _ _ _) => True
  | some (.ext _) => True
  | _ => False
section
variable {P : Program} {w : World} {H : Hp} {h h' : Heap} {x e : Addr} {o' : HO}
/-- the object at e is changed: x itself, or the dict of the instance x -/
theorem HOk.write (ok : HOk P w H h) (mu : Mut (H x)) (he : e = x ∨ H e = some (.own x)) (k : ∀ b u, b ≠ e → h.get? b = some u → h'.get? b = some u) (heo : ∃ u, h'.get? e = some u)
    (new : ObjOk P w (upd H x o') h' x o') : HOk P w (upd H x o') h' := fun b u q => by
  have nown : ∀ c y, H c = some (.own y) → c ≠ x := fun c y r z => by subst z; rw [r] at mu; exact mu
  have ntup : ∀ c xs, H c = some (.tup xs) → c ≠ x := fun c xs r z => by subst z; rw [r] at mu; exact mu
  by_cases hb : b = x
  · subst hb; rw [upd_same] at q; cases q; exact new
  · rw [upd_ne hb] at q
    by_cases hbe : b = e
    · have q' : H b = some (.own x) := by
        rcases he with z | z
        · exact absurd (hbe.trans z) hb
        · rw [hbe]; exact z
      rw [q] at q'; cases q'
      obtain ⟨v, hv⟩ := heo
      exact ⟨v, by rw [hbe]; exact hv⟩
    · refine (ok b u q).stay (fun c v hc r => k c v ?_ r) (fun c r => by rw [upd_ne (nown c b r)]; exact r) fun c xs r => by rw [upd_ne (ntup c xs r)]; exact r
      rcases hc with rfl | hc
      · exact hbe
      · rintro rfl
        rcases he with z | z
        · exact nown c b hc z
        · rw [hc] at z; cases z; exact hb rfl
end

/-! ### kept unless tracked; of the frames at fs (the callers') the slots may change (an exception that passes writes there); of the records at ex (iterators) nothing is said -/
structure Un (fs ex : List Addr) (H H' : Hp) (h h' : Heap) : Prop where
  keep : ∀ b o, h.get? b = some o → H b = none → b ∉ fs → b ∉ ex → h'.get? b = some o
  slot : ∀ b o, h.get? b = some o → H b = none → b ∈ fs → b ∉ ex → ∃ sl, h'.get? b = some { o with slots := sl }
  free : ∀ b o, h.get? b = some o → H b = none → b ∉ ex → H' b = none
  there : ∀ b o, h.get? b = some o → b ∉ ex → ∃ o', h'.get? b = some o'
  tups : ∀ b xs, H b = some (.tup xs) → H' b = some (.tup xs)
  frzs : ∀ b o u, H b = some (.frz o u) → H' b = some (.frz o u)
  tbls : ∀ b ps, H b = some (.tbl ps) → ∃ more, H' b = some (.tbl (ps ++ more))
section
variable {fs fs' ex ex' : List Addr} {H H1 H2 : Hp} {h h1 h2 h' : Heap} {a x e : Addr} {o : HO}
theorem Un.any (u : Un fs ex H H1 h h1) {b : Addr} {ob : Obj} (q : h.get? b = some ob) (n : H b = none) (hx : b ∉ ex) : ∃ sl, h1.get? b = some { ob with slots := sl } := by
  by_cases hb : b ∈ fs
  · exact u.slot b ob q n hb hx
  · exact ⟨ob.slots, u.keep b ob q n hb hx⟩
theorem Un.trans (a : Un fs ex H H1 h h1) (b : Un fs ex H1 H2 h1 h2) : Un fs ex H H2 h h2 where
  keep := fun c ob q n hc hx => b.keep c ob (a.keep c ob q n hc hx) (a.free c ob q n hx) hc hx
  slot := fun c ob q n hc hx => by
    obtain ⟨sl, e1⟩ := a.slot c ob q n hc hx
    obtain ⟨sl', e2⟩ := b.slot c _ e1 (a.free c ob q n hx) hc hx
    exact ⟨sl', e2⟩
  free := fun c ob q n hx => by
    obtain ⟨o', e1⟩ := a.there c ob q hx
    exact b.free c o' e1 (a.free c ob q n hx) hx
  there := fun c ob q hx => by
    obtain ⟨o', e1⟩ := a.there c ob q hx
    exact b.there c o' e1 hx
  tups := fun c xs q => b.tups c xs (a.tups c xs q)
  frzs := fun c ob xs q => b.frzs c ob xs (a.frzs c ob xs q)
  tbls := fun c ps q => by
    obtain ⟨m1, e1⟩ := a.tbls c ps q
    obtain ⟨m2, e2⟩ := b.tbls c _ e1
    exact ⟨m1 ++ m2, by rw [e2, Array.append_assoc]⟩
theorem Un.kept (k : ∀ b u, h.get? b = some u → h'.get? b = some u) : Un fs ex H H h h' :=
  ⟨fun b ob q _ _ _ => k b ob q, fun b ob q _ _ _ => ⟨ob.slots, k b ob q⟩, fun _ _ _ n _ => n, fun b ob q _ => ⟨ob, k b ob q⟩, fun _ _ q => q, fun _ _ _ q => q, fun _ ps q => ⟨#[], by rw [q]; simp⟩⟩
theorem Un.refl : Un fs ex H H h h := Un.kept fun _ _ q => q
theorem Un.laid (k : ∀ b u, h.get? b = some u → h'.get? b = some u) (hp : h.objs.size ≤ a) (hn : H a = none) : Un fs ex H (upd H a o) h h' where
  keep := fun b u q _ _ _ => k b u q
  slot := fun b u q _ _ _ => ⟨u.slots, k b u q⟩
  free := fun b u q n _ => by rw [upd_ne (Nat.ne_of_lt (Nat.lt_of_lt_of_le (Heap.lt_size q) hp))]; exact n
  there := fun b u q _ => ⟨u, k b u q⟩
  tups := fun b xs q => by rw [upd_ne (ne_of_none q hn)]; exact q
  frzs := fun b u xs q => by rw [upd_ne (ne_of_none q hn)]; exact q
  tbls := fun b ps q => ⟨#[], by rw [upd_ne (ne_of_none q hn), q]; simp⟩
theorem Un.write (mu : Mut (H x)) (he : e = x ∨ H e = some (.own x)) (k : ∀ b u, b ≠ e → h.get? b = some u → h'.get? b = some u) (heo : ∃ u, h'.get? e = some u) : Un fs ex H (upd H x o) h h' := by
  have hx : ∀ b, H b = none → b ≠ x := fun b n z => by subst z; rw [n] at mu; exact mu
  have hb : ∀ b, H b = none → b ≠ e := fun b n z => by
    subst z
    rcases he with r | r
    · exact hx b n r
    · rw [n] at r; cases r
  have hm : ∀ b u, H b = some u → ¬ Mut (some u) → b ≠ x := fun b u q nm z => by subst z; rw [q] at mu; exact nm mu
  refine ⟨fun b u q n _ _ => k b u (hb b n) q, fun b u q n _ _ => ⟨u.slots, k b u (hb b n) q⟩, fun b u q n _ => by rw [upd_ne (hx b n)]; exact n, fun b u q _ => ?_,
    fun b xs q => by rw [upd_ne (hm b _ q fun z => z)]; exact q, fun b u xs q => by rw [upd_ne (hm b _ q fun z => z)]; exact q, fun b ps q => ⟨#[], by rw [upd_ne (hm b _ q fun z => z), q]; simp⟩⟩
  by_cases hbe : b = e
  · subst hbe; exact heo
  · exact ⟨u, k b u hbe q⟩
theorem Un.mono (u : Un fs ex H H1 h h1) (hs : ∀ b ∈ fs, b ∈ fs') (hx : ∀ b ∈ ex, b ∈ ex') : Un fs' ex' H H1 h h1 :=
  ⟨fun b ob q n hb he => u.keep b ob q n (fun z => hb (hs b z)) fun z => he (hx b z), fun _ _ q n _ he => u.any q n fun z => he (hx _ z), fun b ob q n he => u.free b ob q n fun z => he (hx b z), fun b ob q he => u.there b ob q fun z => he (hx b z), u.tups, u.frzs, u.tbls⟩
end

/-! ### the heap without what is tracked -/
def trk (h : Heap) (H : Hp) : List Addr := (List.range h.objs.size).filter fun a => (H a).isSome
def hidT (h : Heap) (H : Hp) : Heap := PySem.W.hideAll h (trk h H)
theorem hidT_size (h : Heap) (H : Hp) : (hidT h H).objs.size = h.objs.size := PySem.W.hideAll_size _ _
theorem hidT_get {h : Heap} {H : Hp} {b : Addr} {o : Obj} (e : h.get? b = some o) (n : H b = none) : (hidT h H).get? b = some o :=
  PySem.W.hideAll_get _ e fun hm => by
    have q : (H b).isSome = true := (List.mem_filter.mp hm).2
    rw [n] at q; simp at q
theorem of_hidT {h : Heap} {H : Hp} {b : Addr} {o : Obj} (e : (hidT h H).get? b = some o) : h.get? b = some o ∧ H b = none := by
  have e' : h.get? b = some o := PySem.W.of_hideAll (trk h H) e
  refine ⟨e', ?_⟩
  cases q : H b with
  | none => rfl
  | some x =>
    have hm : b ∈ trk h H := List.mem_filter.mpr ⟨List.mem_range.mpr (Heap.lt_size e'), by simp [q]⟩
    have z : (hidT h H).get? b = none := PySem.W.hideAll_none (trk h H) hm
    rw [z] at e; cases e

/-! ### OpenK's ledger, filled with every new object but one -/
def allNews (g h : Heap) (L : Addr) : List (Addr × Obj) := (List.range h.objs.size).filterMap fun a => if a = L ∨ (g.get? a).isSome = true then none else (h.get? a).map fun o => (a, o)
theorem mem_allNews {g h : Heap} {L a : Addr} {o : Obj} (h1 : a ≠ L) (h2 : g.get? a = none) (h3 : h.get? a = some o) : (a, o) ∈ allNews g h L :=
  List.mem_filterMap.mpr ⟨a, List.mem_range.mpr (Heap.lt_size h3), by simp [h1, h2, h3]⟩
theorem of_mem_allNews {g h : Heap} {L : Addr} {p : Addr × Obj} (hp : p ∈ allNews g h L) : p.1 ≠ L ∧ g.get? p.1 = none ∧ h.get? p.1 = some p.2 := by
  obtain ⟨b, _, e⟩ := List.mem_filterMap.mp hp
  split at e
  · cases e
  · rename_i hn
    cases q : h.get? b with
    | none => rw [q] at e; simp at e
    | some u =>
      rw [q] at e
      simp only [Option.map_some, Option.some.injEq] at e
      subst e
      refine ⟨fun z => hn (.inl z), ?_, q⟩
      show g.get? b = none
      cases r : g.get? b with
      | none => rfl
      | some v => exact (hn (.inr (by simp [r]))).elim
def rest (g h : Heap) (L d : Addr) : List (Addr × Obj) := (allNews g h L).filter fun p => decide (p.1 ≠ d)
theorem rest_ne {g h : Heap} {L d : Addr} : ∀ p ∈ rest g h L d, p.1 ≠ d := fun p hp => of_decide_eq_true (List.mem_filter.mp hp).2
theorem mem_rest {g h : Heap} {L d a : Addr} {o : Obj} (h1 : a ≠ L) (h2 : g.get? a = none) (h3 : h.get? a = some o) (h4 : a ≠ d) : (a, o) ∈ rest g h L d :=
  List.mem_filter.mpr ⟨mem_allNews h1 h2 h3, decide_eq_true h4⟩
theorem news_all {g h : Heap} {L : Addr} : News g L h (allNews g h L) := fun p hp => let ⟨a, b, c⟩ := of_mem_allNews hp; ⟨c, a, b⟩
theorem news_at {g h : Heap} {L d : Addr} {o : Obj} (h1 : d ≠ L) (h2 : g.get? d = none) (h3 : h.get? d = some o) : News g L h ((d, o) :: rest g h L d) := fun p hp => by
  rcases List.mem_cons.mp hp with rfl | hp
  · exact ⟨h3, h1, h2⟩
  · exact news_all p (List.mem_filter.mp hp).1
/-- behind a rule that changed d alone: all else but the frame is kept -/
theorem kept_of_news {g h h' : Heap} {L d : Addr} {m : Str → Option Value} (k : ∀ b o, g.get? b = some o → h.get? b = some o) (F : Fr g L h' m) (N : News g L h' (rest g h L d)) :
    ∀ b o, b ≠ L → b ≠ d → h.get? b = some o → h'.get? b = some o := fun b o h1 h2 e => by
  cases q : g.get? b with
  | some u =>
    have := k b u q
    rw [e] at this; cases this
    exact F.keep b _ q
  | none => exact (N (b, o) (mem_rest h1 q e h2)).1
end L2

namespace L2
open PySem PySem.Spec PyProof.Rows

/-- the module's facts, over the base: the heap at the law's entry without what is tracked there -/
structure Mod (K : PySem.W.Frag) (mg : Str → Option Value) (base : Heap) : Prop where
  kin : K.In base
  glob : base.Ns mainGlobals mg
  blt : ∃ mb, base.Ns builtinsNs mb ∧ ∀ x : Str, x ≠ "__name__" → mb x = bootBuiltins x
  nolimit : base.NoLimit

/-- the context: a def's body (or a comprehension's block) running. base: fixed through the whole law; s₀, H₀: the entry; outer: the frames whose slots others may change (a def's callers); stack: all frames that run;
   ex: iterators that were made ahead of the entry and are walked here (a comprehension's); fn: the names whose cells were made at the entry (a def: all; a comprehension's block: its own); calm: not within an except suite; pn: pins that every state bears; xe: what is wanted of an exception that leaves the code -/
structure Cx where
  prog : Program
  w : World
  K : PySem.W.Frag
  mg : Str → Option Value
  base : Heap
  A : Around
  N : List Str
  s_0 : Shared
  H_0 : Hp
  env : Env
  outer : List Env
  stack : List Env
  ex : List Addr
  fn : Str → Bool
  calm : Bool
  pn : List (Addr × Obj)
  xe : Value → Shared → Prop
/-- the callers' frames -/
def frs (l : List Env) : List Addr := l.filterMap (·.frame)
abbrev Cx.fs (X : Cx) : List Addr := frs X.outer

def Vis (sc : Scope) (x : Str) : Prop := sc.names.lookup x = some .local ∨ sc.names.lookup x = some .cell ∨ sc.names.lookup x = some .free
def Loc (sc : Scope) (x : Str) : Prop := sc.names.lookup x = some .local ∨ sc.names.lookup x = some .cell
def Look (env : Env) (h : Heap) (m : Str → Option Value) (x : Str) (u : Value) : Prop :=
  (env.kindOf x = some .local ∧ m x = some u) ∨ ((env.kindOf x = some .cell ∨ env.kindOf x = some .free) ∧ ∃ c, env.cells.lookup x = some c ∧ h.IsCell c (some u))

structure Cx.Ok (X : Cx) : Prop where
  mod : Mod X.K X.mg X.base
  kind : X.env.scope.kind = .function
  glob : X.env.globals = mainGlobals
  blt : X.env.builtins = builtinsNs
  above : X.s_0.heap.objs.size ≤ X.env.locals
  inj : ∀ x y c, X.env.cells.lookup x = some c → X.env.cells.lookup y = some c → x = y
  has : ∀ x, (X.env.kindOf x = some .cell ∨ X.env.kindOf x = some .free) → ∃ c, X.env.cells.lookup x = some c
  cab : ∀ x c, X.fn x = true → X.env.cells.lookup x = some c → X.s_0.heap.objs.size ≤ c
  hd : X.calm = true → X.A.handled = none
  frames : X.A.frames = some X.stack
  stk : X.stack = X.outer ∨ (X.stack = X.env :: X.outer ∧ X.env.frame = some X.env.locals)
  exf : ∀ b ∈ X.ex, b ≠ X.env.locals ∧ ∀ x c, X.env.cells.lookup x = some c → c ≠ b
  bs : ∀ b o, X.base.get? b = some o → X.s_0.heap.get? b = some o ∧ X.H_0 b = none
  bsz : X.base.objs.size ≤ X.s_0.heap.objs.size
  noex : ∀ b o, X.base.get? b = some o → b ∉ X.ex
  exfs : ∀ b ∈ X.ex, b ∉ X.fs
  funs : X.s_0.heap.FunFrames X.base X.outer
  frf : ∀ b ∈ X.fs, X.H_0 b = none

structure Inv (X : Cx) (pins : List (Addr × Obj)) (σ : List (Option V)) (H : Hp) (s : Shared) : Prop where
  ok : X.Ok
  os : s.os = X.s_0.os
  bare : AllBare s.gens
  base : Un X.fs X.ex X.H_0 H X.s_0.heap s.heap
  loc : ∃ m, s.heap.Ns X.env.locals m ∧ ∀ (i : Nat) (x : Str) (v : V), X.N[i]? = some x → σ[i]? = some (some v) → Vis X.env.scope x → ∃ u, RelV v u ∧ Look X.env s.heap m x u
  cell : ∀ x c, X.env.cells.lookup x = some c → ∃ v, s.heap.IsCell c v
  free : H X.env.locals = none
  freeC : ∀ x c, X.env.cells.lookup x = some c → H c = none
  pin : ∀ p ∈ X.pn ++ pins, s.heap.get? p.1 = some p.2 ∧ H p.1 = none ∧ p.1 ≠ X.env.locals ∧ p.1 ∉ X.fs ∧ ∀ v, p.2.data ≠ .cell v
  hok : HOk X.prog X.w H s.heap
  len : σ.length = X.N.length

section
variable {X : Cx} {pins : List (Addr × Obj)} {σ : List (Option V)} {H H' : Hp} {s : Shared} {h' : Heap}

theorem Cx.Ok.nofr (ok : X.Ok) {b : Addr} {o : Obj} (e : X.base.get? b = some o) : b ∉ X.fs := fun hb => by
  have := (ok.funs.mem hb).1
  rw [e] at this; cases this
theorem Inv.bs (I : Inv X pins σ H s) : ∀ b o, X.base.get? b = some o → s.heap.get? b = some o ∧ H b = none := fun b o e =>
  ⟨I.base.keep b o (I.ok.bs b o e).1 (I.ok.bs b o e).2 (I.ok.nofr e) (I.ok.noex b o e), I.base.free b o (I.ok.bs b o e).1 (I.ok.bs b o e).2 (I.ok.noex b o e)⟩
theorem Inv.bk (I : Inv X pins σ H s) : ∀ b o, X.base.get? b = some o → s.heap.get? b = some o := fun b o e => (I.bs b o e).1
theorem Inv.mod (I : Inv X pins σ H s) : Mod X.K X.mg X.base := I.ok.mod
theorem Inv.kIn (I : Inv X pins σ H s) : X.K.In s.heap := I.ok.mod.kin.keeps I.bk
theorem Inv.nolimit (I : Inv X pins σ H s) : s.heap.NoLimit := I.ok.mod.nolimit.keeps I.bk
/-- the frame over the base: for OpenK's rules (K.In X.base is I.mod.kin) -/
theorem Inv.fr (I : Inv X pins σ H s) : ∃ m, Fr X.base X.env.locals s.heap m :=
  let ⟨m, hn, _⟩ := I.loc
  ⟨m, hn, I.bk, Nat.le_trans I.ok.bsz I.ok.above⟩
theorem Inv.lt (I : Inv X pins σ H s) : X.env.locals < s.heap.objs.size := let ⟨_, hn, _⟩ := I.loc; hn.lt
theorem Inv.sz (I : Inv X pins σ H s) : X.s_0.heap.objs.size ≤ s.heap.objs.size := Nat.le_trans I.ok.above (Nat.le_of_lt I.lt)
theorem Inv.nofs (I : Inv X pins σ H s) {a : Addr} (h : s.heap.objs.size ≤ a) : a ∉ X.fs := fun hb => by
  obtain ⟨_, o, ho, _⟩ := I.ok.funs.mem hb
  exact absurd (Nat.lt_of_lt_of_le (Heap.lt_size ho) (Nat.le_trans I.sz h)) (Nat.lt_irrefl _)
theorem Inv.cne (I : Inv X pins σ H s) : ∀ x c, X.env.cells.lookup x = some c → c ≠ X.env.locals := fun x c e z => by
  obtain ⟨v, o, ho, hd⟩ := I.cell x c e
  obtain ⟨m, ⟨o', es, ep, ho', hd', _⟩, _⟩ := I.loc
  rw [z, ho'] at ho; cases ho; rw [hd'] at hd; cases hd
theorem Inv.funs (I : Inv X pins σ H s) : s.heap.FunFrames X.base X.outer := by
  have all : ∀ (l : List Env), (∀ b ∈ frs l, b ∈ X.fs) → X.s_0.heap.FunFrames X.base l → s.heap.FunFrames X.base l := by
    intro l
    induction l with
    | nil => intro _ _; trivial
    | cons env r ih =>
      intro hs hl
      obtain ⟨hk, ⟨L, o, hf, hn, ho, hd⟩, hr⟩ := hl
      have hL : L ∈ X.fs := hs L (by unfold frs; rw [List.filterMap_cons, hf]; exact List.mem_cons_self)
      obtain ⟨sl, e⟩ := I.base.slot L o ho (I.ok.frf L hL) hL fun z => I.ok.exfs L z hL
      exact ⟨hk, ⟨L, _, hf, hn, e, hd⟩, ih (fun b hb => hs b (by unfold frs; rw [List.filterMap_cons, hf]; exact List.mem_cons_of_mem _ hb)) hr⟩
  exact all X.outer (fun _ hb => hb) I.ok.funs

/-- the frames that run, for a call -/
theorem Inv.stack (I : Inv X pins σ H s) : s.heap.FunFrames X.base X.stack := by
  rcases I.ok.stk with e | ⟨e, hf⟩
  · rw [e]; exact I.funs
  · rw [e]
    obtain ⟨m, hn, _⟩ := I.loc
    refine .cons (by rw [I.ok.kind]; decide) hf hn ?_ I.funs
    exact Heap.get?_none_of_le (Nat.le_trans I.ok.bsz I.ok.above)
theorem Inv.stkSub (I : Inv X pins σ H s) : ∀ b ∈ frs X.stack, b ∈ X.env.locals :: X.fs := fun b hb => by
  rcases I.ok.stk with e | ⟨e, hf⟩
  · rw [e] at hb; exact List.mem_cons_of_mem _ hb
  · rw [e] at hb
    unfold frs at hb
    rw [List.filterMap_cons, hf] at hb
    exact hb
theorem Inv.stkFree (I : Inv X pins σ H s) : ∀ b ∈ frs X.stack, H b = none := fun b hb => by
  rcases List.mem_cons.mp (I.stkSub b hb) with e | hb
  · rw [e]; exact I.free
  · obtain ⟨_, o, ho, _⟩ := I.ok.funs.mem hb
    exact I.base.free b o ho (I.ok.frf b hb) fun z => I.ok.exfs b z hb

/-- THE STEP: the untracked objects but the frame and the records at ch are kept (the callers' frames up to slots), the frame's map is kept, the new abstract heap is held -/
theorem Inv.step {g' : Array GenState} {t' : Nat} {d' : Drawn} {ch : List Addr} (I : Inv X pins σ H s)
    (hch : ∀ b ∈ ch, (b ∈ X.ex ∨ X.s_0.heap.objs.size ≤ b) ∧ b ≠ X.env.locals ∧ (∀ x c, X.env.cells.lookup x = some c → c ≠ b) ∧ ∀ p ∈ X.pn ++ pins, p.1 ≠ b)
    (keep : ∀ b o, b ≠ X.env.locals → b ∉ X.fs → b ∉ ch → s.heap.get? b = some o → H b = none → h'.get? b = some o)
    (slot : ∀ b o, b ≠ X.env.locals → b ∈ X.fs → b ∉ ch → s.heap.get? b = some o → H b = none → ∃ sl, h'.get? b = some { o with slots := sl }) (free : ∀ b o, b ∉ ch → s.heap.get? b = some o → H b = none → H' b = none)
    (there : ∀ b o, b ∉ ch → s.heap.get? b = some o → ∃ o', h'.get? b = some o')
    (tups : ∀ b xs, H b = some (.tup xs) → H' b = some (.tup xs)) (frzs : ∀ b o u, H b = some (.frz o u) → H' b = some (.frz o u)) (tbls : ∀ b ps, H b = some (.tbl ps) → ∃ more, H' b = some (.tbl (ps ++ more)))
    (ns : ∀ m, s.heap.Ns X.env.locals m → h'.Ns X.env.locals m) (hok : HOk X.prog X.w H' h') (hg : AllBare g') :
    Inv X pins σ H' { s with heap := h', gens := g', drawn := d', toks := t' } := by
  have neL : ∀ b o, X.s_0.heap.get? b = some o → b ≠ X.env.locals := fun b o e => Nat.ne_of_lt (Nat.lt_of_lt_of_le (Heap.lt_size e) I.ok.above)
  have neC : ∀ b o, X.s_0.heap.get? b = some o → b ∉ X.ex → b ∉ ch := fun b o e hx hb => by
    rcases (hch b hb).1 with z | z
    · exact hx z
    · exact absurd (Nat.lt_of_lt_of_le (Heap.lt_size e) z) (Nat.lt_irrefl _)
  have cellK : ∀ x c, X.env.cells.lookup x = some c → ∀ v, s.heap.IsCell c v → h'.IsCell c v := fun x c e v ⟨o, ho, hd⟩ => by
    have nch : c ∉ ch := fun z => (hch c z).2.2.1 x c e rfl
    by_cases hc : c ∈ X.fs
    · obtain ⟨sl, q⟩ := slot c o (I.cne x c e) hc nch ho (I.freeC x c e)
      exact ⟨_, q, hd⟩
    · exact ⟨o, keep c o (I.cne x c e) hc nch ho (I.freeC x c e), hd⟩
  refine ⟨I.ok, I.os, hg, ⟨fun b o e n hb hx => ?_, fun b o e n hb hx => ?_, fun b o e n hx => ?_, fun b o e hx => ?_, fun b xs e => tups b xs (I.base.tups b xs e), fun b o xs e => frzs b o xs (I.base.frzs b o xs e), fun b ps e => ?_⟩, ?_, fun x c e => ?_, ?_, fun x c e => ?_, fun p hp => ?_, hok, I.len⟩
  · exact keep b o (neL b o e) hb (neC b o e hx) (I.base.keep b o e n hb hx) (I.base.free b o e n hx)
  · obtain ⟨sl, e1⟩ := I.base.slot b o e n hb hx
    obtain ⟨sl', e2⟩ := slot b _ (neL b o e) hb (neC b o e hx) e1 (I.base.free b o e n hx)
    exact ⟨sl', e2⟩
  · obtain ⟨o', e1⟩ := I.base.there b o e hx
    exact free b o' (neC b o e hx) e1 (I.base.free b o e n hx)
  · obtain ⟨o', e1⟩ := I.base.there b o e hx
    exact there b o' (neC b o e hx) e1
  · obtain ⟨m1, e1⟩ := I.base.tbls b ps e
    obtain ⟨m2, e2⟩ := tbls b _ e1
    exact ⟨m1 ++ m2, by rw [e2, Array.append_assoc]⟩
  · obtain ⟨m, hn, hl⟩ := I.loc
    refine ⟨m, ns m hn, fun i x v e1 e2 e3 => ?_⟩
    obtain ⟨u, r, l⟩ := hl i x v e1 e2 e3
    refine ⟨u, r, ?_⟩
    rcases l with l | ⟨k, c, e, z⟩
    · exact .inl l
    · exact .inr ⟨k, c, e, cellK x c e _ z⟩
  · obtain ⟨v, z⟩ := I.cell x c e
    exact ⟨v, cellK x c e v z⟩
  · obtain ⟨m, ⟨o, _, _, ho, _⟩, _⟩ := I.loc
    exact free _ o (fun z => (hch _ z).2.1 rfl) ho I.free
  · obtain ⟨v, o, ho, hd⟩ := I.cell x c e
    exact free c o (fun z => (hch c z).2.2.1 x c e rfl) ho (I.freeC x c e)
  · obtain ⟨e, n, ne, nf, d⟩ := I.pin p hp
    have nch : p.1 ∉ ch := fun z => (hch p.1 z).2.2.2 p hp rfl
    exact ⟨keep p.1 p.2 ne nf nch e n, free p.1 p.2 nch e n, ne, nf, d⟩
/-- .. where the frame's own object is kept too -/
theorem Inv.un {t' : Nat} (I : Inv X pins σ H s) (u : Un X.fs [] H H' s.heap h') (hok : HOk X.prog X.w H' h') : Inv X pins σ H' { s with heap := h', toks := t' } := by
  obtain ⟨m, ⟨o, es, ep, ho, r⟩, _⟩ := id I.loc
  obtain ⟨sl, hL⟩ := u.any ho I.free (by simp)
  exact I.step (g' := s.gens) (d' := s.drawn) (ch := []) (fun _ z => nomatch z) (fun b o _ hb _ e n => u.keep b o e n hb (by simp)) (fun b o _ hb _ e n => u.slot b o e n hb (by simp)) (fun b o _ e n => u.free b o e n (by simp)) (fun b o _ e => u.there b o e (by simp)) u.tups u.frzs u.tbls (fun m' hm => by
    obtain ⟨o', es', ep', ho', r'⟩ := hm
    rw [ho] at ho'; cases ho'
    exact ⟨_, es', ep', hL, r'⟩) hok I.bare
/-- behind a call (or a comprehension's block): the slots of this frame may have changed too, the records at ch may have turned -/
theorem Inv.call {g' : Array GenState} {t' : Nat} {d' : Drawn} {ch : List Addr} (I : Inv X pins σ H s) (u : Un (frs X.stack) ch H H' s.heap h') (hok : HOk X.prog X.w H' h') (hg : AllBare g')
    (hch : ∀ b ∈ ch, (b ∈ X.ex ∨ X.s_0.heap.objs.size ≤ b) ∧ b ≠ X.env.locals ∧ (∀ x c, X.env.cells.lookup x = some c → c ≠ b) ∧ ∀ p ∈ X.pn ++ pins, p.1 ≠ b) :
    Inv X pins σ H' { s with heap := h', gens := g', drawn := d', toks := t' } := by
  obtain ⟨m, ⟨o, es, ep, ho, r⟩, _⟩ := id I.loc
  obtain ⟨sl, hL⟩ := u.any ho I.free fun z => (hch _ z).2.1 rfl
  exact I.step (ch := ch) hch (fun b o hL hb hc e n => u.keep b o e n (fun z => (List.mem_cons.mp (I.stkSub b z)).elim hL hb) hc) (fun b o _ _ hc e n => u.any e n hc) (fun b o hc e n => u.free b o e n hc) (fun b o hc e => u.there b o e hc) u.tups u.frzs u.tbls (fun m' hm => by
    obtain ⟨o', es', ep', ho', r'⟩ := hm
    rw [ho] at ho'; cases ho'
    exact ⟨_, es', ep', hL, r'⟩) hok hg
/-- an untracked record of ours (an iterator) has turned -/
theorem Inv.turned {t' : Nat} {it : Addr} (I : Inv X pins σ H s) (k : ∀ b o, b ≠ it → s.heap.get? b = some o → h'.get? b = some o) (hn : H it = none) (hL : it ≠ X.env.locals)
    (h1 : it ∈ X.ex ∨ X.s_0.heap.objs.size ≤ it) (h2 : ∀ x c, X.env.cells.lookup x = some c → c ≠ it) (h3 : ∀ p ∈ X.pn ++ pins, p.1 ≠ it) : Inv X pins σ H { s with heap := h', toks := t' } := by
  have nit : ∀ b u, H b = some u → b ≠ it := fun b u e z => by rw [z, hn] at e; cases e
  refine I.step (g' := s.gens) (d' := s.drawn) (ch := [it]) (fun b hb => ?_) (fun b o _ _ hc e _ => k b o (fun z => hc (by simp [z])) e) (fun b o _ _ hc e _ => ⟨o.slots, k b o (fun z => hc (by simp [z])) e⟩) (fun _ _ _ _ n => n)
    (fun b o hc e => ⟨o, k b o (fun z => hc (by simp [z])) e⟩) (fun _ _ e => e) (fun _ _ _ e => e) (fun b ps e => ⟨#[], by rw [e]; simp⟩) (fun m hm => ?_) (fun b u e => ?_) I.bare
  · have e : b = it := by simpa using hb
    subst e
    exact ⟨h1, hL, h2, h3⟩
  · obtain ⟨o, es, ep, ho, r⟩ := hm
    exact ⟨o, es, ep, k _ o (Ne.symm hL) ho, r⟩
  · refine (I.hok b u e).stay (fun c v hc q => k c v ?_ q) (fun _ q => q) fun _ _ q => q
    rcases hc with z | z
    · rw [z]; exact nit b u e
    · exact nit c _ z
theorem Inv.tok (I : Inv X pins σ H s) (t : Nat) : Inv X pins σ H { s with toks := t } := I.un (h' := s.heap) (t' := t) Un.refl I.hok
/-- all objects kept -/
theorem Inv.kept {t' : Nat} (I : Inv X pins σ H s) (k : ∀ b u, s.heap.get? b = some u → h'.get? b = some u) : Inv X pins σ H { s with heap := h', toks := t' } := I.un (Un.kept k) (I.hok.kept k)
/-- a new object laid and tracked -/
theorem Inv.laid {a : Addr} {o : HO} {t' : Nat} (I : Inv X pins σ H s) (k : ∀ b u, s.heap.get? b = some u → h'.get? b = some u) (hp : s.heap.objs.size ≤ a) (new : ObjOk X.prog X.w (upd H a o) h' a o) :
    Inv X pins σ (upd H a o) { s with heap := h', toks := t' } := I.un (Un.laid k hp (I.hok.fresh hp)) (I.hok.laid k hp new)
/-- an object written -/
theorem Inv.write {x e : Addr} {o : HO} {t' : Nat} (I : Inv X pins σ H s) (mu : Mut (H x)) (he : e = x ∨ H e = some (.own x)) (k : ∀ b u, b ≠ e → s.heap.get? b = some u → h'.get? b = some u) (heo : ∃ u, h'.get? e = some u)
    (new : ObjOk X.prog X.w (upd H x o) h' x o) : Inv X pins σ (upd H x o) { s with heap := h', toks := t' } := I.un (Un.write mu he k heo) (I.hok.write mu he k heo new)
/-- forgetting slots, pins -/
theorem Inv.weak {σ' : List (Option V)} (I : Inv X pins σ H s) (hl : σ'.length = σ.length) (w : ∀ (i : Nat) v, σ'[i]? = some (some v) → σ[i]? = some (some v)) : Inv X pins σ' H s :=
  ⟨I.ok, I.os, I.bare, I.base, let ⟨m, hn, hl'⟩ := I.loc; ⟨m, hn, fun i x v e1 e2 e3 => hl' i x v e1 (w i v e2) e3⟩, I.cell, I.free, I.freeC, I.pin, I.hok, hl.trans I.len⟩
theorem Inv.pins_of {pins' : List (Addr × Obj)} (I : Inv X pins σ H s) (h : ∀ p ∈ pins', s.heap.get? p.1 = some p.2 ∧ H p.1 = none ∧ p.1 ≠ X.env.locals ∧ p.1 ∉ X.fs ∧ ∀ v, p.2.data ≠ .cell v) : Inv X pins' σ H s :=
  ⟨I.ok, I.os, I.bare, I.base, I.loc, I.cell, I.free, I.freeC, fun p hp => (List.mem_append.mp hp).elim (fun z => I.pin p (List.mem_append_left _ z)) (h p), I.hok, I.len⟩

theorem nodup_ix {N : List Str} (hN : N.Nodup) {i j : Nat} {x : Str} (a : N[i]? = some x) (b : N[j]? = some x) : i = j := by
  obtain ⟨h1, e1⟩ := List.getElem?_eq_some_iff.mp a
  obtain ⟨h2, e2⟩ := List.getElem?_eq_some_iff.mp b
  exact (List.getElem_inj hN).mp (e1.trans e2.symm)

/-- a name is stored; what changed -/
theorem store_ok2 {M : Model} {A : Around} {E : Value → Shared → Prop} {i : Nat} {x : Str} {v : V} {u : Value} {Q : Unit → Shared → Prop} (I : Inv X pins σ H s) (hN : X.N.Nodup) (hi : X.N[i]? = some x) (hx : Loc X.env.scope x) (r : RelV v u)
    (h : ∀ s', Inv X pins (σ.set i (some v)) H s' → (∃ a, Heap.SameBut a s.heap s'.heap ∧ (a = X.env.locals ∨ X.env.cells.lookup x = some a)) → Q () s') (hf : X.fn x = true ∨ X.env.scope.names.lookup x = some .local := by first | exact .inl rfl | exact .inr rfl | assumption) : wpAny M A (storeName X.env x u) Q E s := by
  obtain ⟨m, hn, hl⟩ := id I.loc
  have hcls : (X.env.scope.kind == .class || (X.env.scope.kind == .module && X.env.locals != X.env.globals)) = false := by rw [I.ok.kind]; rfl
  have hiσ : i < σ.length := by rw [I.len]; exact (List.getElem?_eq_some_iff.mp hi).1
  have cne := I.cne
  have tracked : ∀ {a : Addr} {h' : Heap}, (∃ o, s.heap.get? a = some o ∧ H a = none) → Heap.SameBut a s.heap h' → HOk X.prog X.w H h' := fun {a h'} ha hs b ob e => by
    obtain ⟨_, _, hfree⟩ := ha
    refine (I.hok b ob e).stay (fun c w' hc q => (hs.2 c ?_).trans q) (fun _ q => q) fun _ _ q => q
    rintro rfl
    rcases hc with rfl | hc
    · rw [hfree] at e; cases e
    · rw [hfree] at hc; cases hc
  rcases hx with hk | hk
  · refine wpAny_storeName_local hk hn (fun h' hn' hs => ?_) hcls
    obtain ⟨oL, _, _, hoL, _⟩ := id hn
    refine h _ ⟨I.ok, I.os, I.bare, ⟨fun b o e n hb hx => ?_, fun b o e n hb hx => ?_, I.base.free, fun b o e hx => ?_, I.base.tups, I.base.frzs, I.base.tbls⟩, ⟨_, hn', fun j y v' e1 e2 e3 => ?_⟩, fun y c e => ?_, I.free, I.freeC, fun p hp => ?_, tracked ⟨oL, hoL, I.free⟩ hs, by simpa using I.len⟩ ⟨_, hs, .inl rfl⟩
    · exact (hs.2 b (Nat.ne_of_lt (Nat.lt_of_lt_of_le (Heap.lt_size e) I.ok.above))).trans (I.base.keep b o e n hb hx)
    · obtain ⟨sl, e1⟩ := I.base.slot b o e n hb hx
      exact ⟨sl, (hs.2 b (Nat.ne_of_lt (Nat.lt_of_lt_of_le (Heap.lt_size e) I.ok.above))).trans e1⟩
    · obtain ⟨o', e1⟩ := I.base.there b o e hx
      exact ⟨o', (hs.2 b (Nat.ne_of_lt (Nat.lt_of_lt_of_le (Heap.lt_size e) I.ok.above))).trans e1⟩
    · by_cases hj : j = i
      · subst hj
        rw [hi] at e1; cases e1
        rw [List.getElem?_set_self hiσ] at e2
        cases e2
        exact ⟨u, r, .inl ⟨hk, by simp⟩⟩
      · rw [List.getElem?_set_ne (Ne.symm hj)] at e2
        obtain ⟨u', r', q⟩ := hl j y v' e1 e2 e3
        refine ⟨u', r', ?_⟩
        rcases q with ⟨k, e⟩ | ⟨k, c, e, z⟩
        · refine .inl ⟨k, ?_⟩
          have : y ≠ x := fun e => hj (nodup_ix hN e1 (e ▸ hi))
          simp [this, e]
        · exact .inr ⟨k, c, e, z.sameBut hs (cne y c e)⟩
    · obtain ⟨w', z⟩ := I.cell y c e
      exact ⟨w', z.sameBut hs (cne y c e)⟩
    · obtain ⟨e, n, ne, nf, d⟩ := I.pin p hp
      exact ⟨(hs.2 p.1 ne).trans e, n, ne, nf, d⟩
  · have hfn : X.fn x = true := by
      rcases hf with z | z
      · exact z
      · rw [z] at hk; cases hk
    obtain ⟨c, hc⟩ := I.ok.has x (.inl hk)
    obtain ⟨w', z⟩ := I.cell x c hc
    refine wpAny_storeName_cell I.ok.kind hk hc z (fun h' hc' hs => ?_)
    obtain ⟨oc, hoc, hocd⟩ := id z
    refine h { s with heap := h' } ⟨I.ok, I.os, I.bare, ⟨fun b o e n hb hx => ?_, fun b o e n hb hx => ?_, I.base.free, fun b o e hx => ?_, I.base.tups, I.base.frzs, I.base.tbls⟩, ⟨m, hn.sameBut hs (Ne.symm (cne x c hc)), fun j y v' e1 e2 e3 => ?_⟩, fun y c' e => ?_, I.free, I.freeC, fun p hp => ?_, tracked ⟨oc, hoc, I.freeC x c hc⟩ hs, by simpa using I.len⟩ ⟨c, hs, .inr hc⟩
    · exact (hs.2 b (Nat.ne_of_lt (Nat.lt_of_lt_of_le (Heap.lt_size e) (I.ok.cab x c hfn hc)))).trans (I.base.keep b o e n hb hx)
    · obtain ⟨sl, e1⟩ := I.base.slot b o e n hb hx
      exact ⟨sl, (hs.2 b (Nat.ne_of_lt (Nat.lt_of_lt_of_le (Heap.lt_size e) (I.ok.cab x c hfn hc)))).trans e1⟩
    · obtain ⟨o', e1⟩ := I.base.there b o e hx
      exact ⟨o', (hs.2 b (Nat.ne_of_lt (Nat.lt_of_lt_of_le (Heap.lt_size e) (I.ok.cab x c hfn hc)))).trans e1⟩
    · by_cases hj : j = i
      · subst hj
        rw [hi] at e1; cases e1
        rw [List.getElem?_set_self hiσ] at e2
        cases e2
        exact ⟨u, r, .inr ⟨.inl hk, c, hc, hc'⟩⟩
      · rw [List.getElem?_set_ne (Ne.symm hj)] at e2
        obtain ⟨u', r', q⟩ := hl j y v' e1 e2 e3
        refine ⟨u', r', ?_⟩
        rcases q with q | ⟨k, c', e, z'⟩
        · exact .inl q
        · refine .inr ⟨k, c', e, z'.sameBut hs ?_⟩
          rintro rfl
          exact hj (nodup_ix hN e1 (I.ok.inj _ _ _ e hc ▸ hi))
    · by_cases hcc : c' = c
      · subst hcc; exact ⟨_, hc'⟩
      · obtain ⟨w2, z2⟩ := I.cell y c' e
        exact ⟨w2, z2.sameBut hs hcc⟩
    · obtain ⟨e, n, ne, nf, d⟩ := I.pin p hp
      refine ⟨(hs.2 p.1 ?_).trans e, n, ne, nf, d⟩
      intro q
      rw [q, hoc] at e
      have q' : oc = p.2 := Option.some.inj e
      exact d w' (by rw [← q']; exact hocd)
theorem store_ok {M : Model} {A : Around} {E : Value → Shared → Prop} {i : Nat} {x : Str} {v : V} {u : Value} {Q : Unit → Shared → Prop} (I : Inv X pins σ H s) (hN : X.N.Nodup) (hi : X.N[i]? = some x) (hx : Loc X.env.scope x) (r : RelV v u)
    (h : ∀ s', Inv X pins (σ.set i (some v)) H s' → Q () s') (hf : X.fn x = true ∨ X.env.scope.names.lookup x = some .local := by first | exact .inl rfl | exact .inr rfl | assumption) : wpAny M A (storeName X.env x u) Q E s :=
  store_ok2 I hN hi hx r (fun s' I' _ => h s' I') hf
/-- behind a call or a block, the state as it is -/
theorem Inv.call' {s' : Shared} {ch : List Addr} (I : Inv X pins σ H s) (ho : s'.os = s.os) (u : Un (frs X.stack) ch H H' s.heap s'.heap) (hok : HOk X.prog X.w H' s'.heap) (hg : AllBare s'.gens)
    (hch : ∀ b ∈ ch, (b ∈ X.ex ∨ X.s_0.heap.objs.size ≤ b) ∧ b ≠ X.env.locals ∧ (∀ x c, X.env.cells.lookup x = some c → c ≠ b) ∧ ∀ p ∈ X.pn ++ pins, p.1 ≠ b) : Inv X pins σ H' s' := by
  obtain ⟨h', g', d', t', o'⟩ := s'
  have e : o' = s.os := ho
  subst e
  exact I.call (g' := g') (t' := t') (d' := d') u hok hg hch
end

/-! ### the judgements -/
/-- an exception: its class, its own dict's address (where it has one), the abstract heap behind it -/
abbrev XK := Value → Option Addr → Hp → Prop
abbrev St := List (Option V)
abbrev VK := V → Hp → Prop
/-- an expression's reading; a test's; an argument list's -/
abbrev TE := St → Hp → VK → Prop
abbrev TT := St → Hp → (Bool → Hp → Prop) → Prop
abbrev TA := St → Hp → (List V → Hp → Prop) → Prop
/-- what is wanted behind a statement -/
structure Ends where
  nx : St → Hp → Prop
  rt : VK
  bk : St → Hp → Prop := fun _ _ => False
  ct : St → Hp → Prop := fun _ _ => False
abbrev TS := Ends → St → Hp → Prop

def EP (X : Cx) (pins : List (Addr × Obj)) (σ : St) (Q : VK) (u : Value) (s' : Shared) : Prop := ∃ v H', Inv X pins σ H' s' ∧ RelV v u ∧ Q v H'
def TP (X : Cx) (pins : List (Addr × Obj)) (σ : St) (Q : Bool → Hp → Prop) (b : Bool) (s' : Shared) : Prop := ∃ H', Inv X pins σ H' s' ∧ Q b H'
def AP (X : Cx) (pins : List (Addr × Obj)) (σ : St) (Q : List V → Hp → Prop) (us : List Value) (s' : Shared) : Prop := ∃ vs H', Inv X pins σ H' s' ∧ Vals vs us ∧ Q vs H'
def SP (X : Cx) (pins : List (Addr × Obj)) (D : Ends) (f : Flow) (s' : Shared) : Prop :=
  match f with
  | .next => ∃ σ' H', Inv X pins σ' H' s' ∧ D.nx σ' H'
  | .brk => ∃ σ' H', Inv X pins σ' H' s' ∧ D.bk σ' H'
  | .cont => ∃ σ' H', Inv X pins σ' H' s' ∧ D.ct σ' H'
  | .ret u => ∃ v σ' H', Inv X pins σ' H' s' ∧ RelV v u ∧ D.rt v H'

def PE (X : Cx) (e : Expr) (t : TE) : Prop :=
  ∀ (pins : List (Addr × Obj)) (s : Shared) (σ : St) (H : Hp) (Q : VK), Inv X pins σ H s → t σ H Q → wpAny (model X.prog X.w) X.A (eval e X.env) (EP X pins σ Q) X.xe s
def PT (X : Cx) (e : Expr) (t : TT) : Prop :=
  ∀ (pins : List (Addr × Obj)) (s : Shared) (σ : St) (H : Hp) (Q : Bool → Hp → Prop), Inv X pins σ H s → t σ H Q → wpAny (model X.prog X.w) X.A (isTrue e X.env (eval e X.env)) (TP X pins σ Q) X.xe s
/-- a test whatever its 'whole' is (and, or) -/
def PW (X : Cx) (e : Expr) (t : TT) : Prop :=
  ∀ (whole : Sem Value) (pins : List (Addr × Obj)) (s : Shared) (σ : St) (H : Hp) (Q : Bool → Hp → Prop), Inv X pins σ H s → t σ H Q → wpAny (model X.prog X.w) X.A (isTrue e X.env whole) (TP X pins σ Q) X.xe s
theorem PW.pt {X : Cx} {e : Expr} {t : TT} (h : PW X e t) : PT X e t := h _
/-- an argument list (no star), from the left -/
def PA (X : Cx) (es : List Expr) (t : TA) : Prop :=
  ∀ (pos : Pos) (pins : List (Addr × Obj)) (s : Shared) (σ : St) (H : Hp) (Q : List V → Hp → Prop), Inv X pins σ H s → t σ H Q → wpAny (model X.prog X.w) X.A (spliced (backTo pos (starEach es X.env))) (AP X pins σ Q) X.xe s
def PS (X : Cx) (st : Stmt) (t : TS) : Prop :=
  ∀ (pins : List (Addr × Obj)) (s : Shared) (σ : St) (H : Hp) (D : Ends), Inv X pins σ H s → t D σ H → wpAny (model X.prog X.w) X.A (exec st X.env) (SP X pins D) X.xe s
def PSs (X : Cx) (st : List Stmt) (t : TS) : Prop :=
  ∀ (pins : List (Addr × Obj)) (s : Shared) (σ : St) (H : Hp) (D : Ends), Inv X pins σ H s → t D σ H → wpAny (model X.prog X.w) X.A (execs st X.env) (SP X pins D) X.xe s
/-- weaken the end -/
theorem thn {α : Type} {t : Sem α} {Q Q' : α → Shared → Prop} {M : Model} {A : Around} {E : Value → Shared → Prop} {s : Shared} (h : wpAny M A t Q E s) (hQ : ∀ a s, Q a s → Q' a s) : wpAny M A t Q' E s := wpAny_mono h hQ fun _ _ x => x
end L2

namespace L2
open PySem PySem.Spec PyProof.Rows
section
variable {X : Cx}

/-- two expressions in a row -/
theorem bin {a b : Expr} {ta tb : TE} (ha : PE X a ta) (hb : PE X b tb) {pins : List (Addr × Obj)} {s : Shared} {σ : St} {H : Hp} {R : V → V → Hp → Prop} (I : Inv X pins σ H s) (h : ta σ H fun x H1 => tb σ H1 fun y H2 => R x y H2)
    {α : Type} {Q : α → Shared → Prop} {f : Value → Value → Sem α}
    (hf : ∀ v u s2 x y H2, Inv X pins σ H2 s2 → RelV x v → RelV y u → R x y H2 → wpAny (model X.prog X.w) X.A (f v u) Q X.xe s2) :
    wpAny (model X.prog X.w) X.A (eval a X.env) (fun v s₁ => wpAny (model X.prog X.w) X.A (eval b X.env) (fun u s₂ => wpAny (model X.prog X.w) X.A (f v u) Q X.xe s₂) X.xe s₁) X.xe s := by
  refine thn (ha pins s σ H _ I h) fun v s1 ⟨x, H1, I1, r1, q1⟩ => ?_
  refine thn (hb pins s1 σ H1 _ I1 q1) fun u s2 ⟨y, H2, I2, r2, q2⟩ => ?_
  exact hf v u s2 x y H2 I2 r1 r2 q2

/-! ### names and constants -/
def tVar (i : Nat) : TE := fun σ H Q => ∃ v, σ[i]? = some (some v) ∧ Q v H
def tC (v : V) : TE := fun _ H Q => Q v H
theorem pe_var {i : Nat} {x : Str} {pos : Pos} (hN : X.N[i]? = some x) (hv : Vis X.env.scope x) (hd : (x == ("__debug__" : Str)) = false := by decide) (hcd : (x == ("__classdict__" : Str)) = false := by decide) : PE X (.Name x pos) (tVar i) := by
  intro pins s σ H Q I h
  obtain ⟨v, e, h⟩ := h
  obtain ⟨m, hn, hl⟩ := I.loc
  obtain ⟨u, r, l⟩ := hl i x v hN e hv
  have fin : EP X pins σ Q u s := ⟨v, H, I, r, h⟩
  rcases l with ⟨hk, hm⟩ | ⟨hk, c, hc, hcell⟩
  · exact wpAny_Name (wpAny_loadName_local I.ok.kind hk hn hm fin) hd
  · rcases hk with hk | hk
    · exact wpAny_Name (wpAny_loadName_cell I.ok.kind hk hc hcell fin) hd
    · exact wpAny_Name (wpAny_loadName_free I.ok.kind hk hc hcell fin hcd) hd
theorem pe_int {i j pos} : PE X (.Constant (.int i) j pos) (tC (.int i)) := fun _ _ _ H _ I h => wpAny_Constant_int ⟨.int i, H, I.tok _, ⟨_, rfl⟩, h⟩
theorem pe_bl {b j pos} : PE X (.Constant (.bool b) j pos) (tC (.bl b)) := fun _ _ _ H _ I h => Constant_bool ⟨.bl b, H, I, rfl, h⟩
theorem pe_non {j pos} : PE X (.Constant .none j pos) (tC .non) := fun _ _ _ H _ I h => Constant_none ⟨.non, H, I, rfl, h⟩
theorem pe_str {x j pos} : PE X (.Constant (.str x) j pos) (tC (.str x)) := fun _ _ _ H _ I h => Calls.Constant_str ⟨.str x, H, I.tok _, ⟨_, rfl⟩, h⟩

/-- a global name of the def -/
def Gl (X : Cx) (x : Str) : Prop := X.env.kindOf x = some .globalImplicit
theorem ld_glob {E : Value → Shared → Prop} {pins : List (Addr × Obj)} {s : Shared} {σ : St} {H : Hp} {x : Str} {u : Value} {pos : Pos} {Q : Value → Shared → Prop} (I : Inv X pins σ H s) (hg : Gl X x) (hm : X.mg x = some u) (h : Q u s)
    (hd : (x == ("__debug__" : Str)) = false := by decide) : wpAny (model X.prog X.w) X.A (eval (.Name x pos) X.env) Q E s :=
  Calls.Name_function_global I.ok.kind hg (Calls.loadGlobal_global (by rw [I.ok.glob]; exact I.mod.glob.keeps I.bk) hm h) hd
theorem ld_blt {E : Value → Shared → Prop} {pins : List (Addr × Obj)} {s : Shared} {σ : St} {H : Hp} {x : Str} {u : Value} {pos : Pos} {Q : Value → Shared → Prop} (I : Inv X pins σ H s) (hg : Gl X x) (hm : X.mg x = none) (hv : bootBuiltins x = some u) (h : Q u s)
    (hn : x ≠ "__name__" := by decide) (hd : (x == ("__debug__" : Str)) = false := by decide) : wpAny (model X.prog X.w) X.A (eval (.Name x pos) X.env) Q E s := by
  obtain ⟨mb, h1, h2⟩ := I.mod.blt
  exact Calls.Name_function_global I.ok.kind hg (Calls.loadGlobal_builtin (by rw [I.ok.glob]; exact I.mod.glob.keeps I.bk) hm (by rw [I.ok.blt]; exact h1.keeps I.bk) ((h2 x hn).trans hv) h) hd
/-- a module's constant, a class, a function, as a value -/
theorem pe_glob {x : Str} {v : V} {u : Value} {pos : Pos} (hg : Gl X x) (hm : X.mg x = some u) (r : RelV v u) (hd : (x == ("__debug__" : Str)) = false := by decide) : PE X (.Name x pos) (tC v) :=
  fun _ _ _ H _ I h => ld_glob I hg hm ⟨v, H, I, r, h⟩ hd
theorem pe_bltn {x : Str} {v : V} {u : Value} {pos : Pos} (hg : Gl X x) (hm : X.mg x = none) (hv : bootBuiltins x = some u) (r : RelV v u) (hn : x ≠ "__name__" := by decide) (hd : (x == ("__debug__" : Str)) = false := by decide) : PE X (.Name x pos) (tC v) :=
  fun _ _ _ H _ I h => ld_blt I hg hm hv ⟨v, H, I, r, h⟩ hn hd

/-! ### arithmetic -/
/-- two ints -/
def t2I (ta tb : TE) (k : Int → Int → Hp → Prop) : St → Hp → Prop := fun σ H => ta σ H fun x H1 => tb σ H1 fun y H2 => ∃ i j, x = .int i ∧ y = .int j ∧ k i j H2
def tAdd (ta tb : TE) : TE := fun σ H Q => t2I ta tb (fun i j H2 => Q (.int (i + j)) H2) σ H
def tSub (ta tb : TE) : TE := fun σ H Q => t2I ta tb (fun i j H2 => Q (.int (i - j)) H2) σ H
/-- the left factor below 2^64 -/
def tMul (ta tb : TE) : TE := fun σ H Q => t2I ta tb (fun i j H2 => (-(2 ^ 64) < i ∧ i < 2 ^ 64) ∧ Q (.int (i * j)) H2) σ H
variable {a b : Expr} {ta tb : TE} {pos : Pos}
theorem pe_add (ha : PE X a ta) (hb : PE X b tb) : PE X (.BinOp a .Add b pos) (tAdd ta tb) := by
  intro pins s σ H Q I h
  refine wpAny_BinOp (bin ha hb I h fun v u s2 x y H2 I2 rx ry q => ?_)
  obtain ⟨i, j, rfl, rfl, q⟩ := q
  obtain ⟨t, rfl⟩ := rx
  obtain ⟨t', rfl⟩ := ry
  exact add_int ⟨.int _, H2, I2.tok _, ⟨_, rfl⟩, q⟩
theorem pe_sub (ha : PE X a ta) (hb : PE X b tb) : PE X (.BinOp a .Sub b pos) (tSub ta tb) := by
  intro pins s σ H Q I h
  refine wpAny_BinOp (bin ha hb I h fun v u s2 x y H2 I2 rx ry q => ?_)
  obtain ⟨i, j, rfl, rfl, q⟩ := q
  obtain ⟨t, rfl⟩ := rx
  obtain ⟨t', rfl⟩ := ry
  exact sub_int ⟨.int _, H2, I2.tok _, ⟨_, rfl⟩, q⟩
theorem pe_mul (ha : PE X a ta) (hb : PE X b tb) : PE X (.BinOp a .Mult b pos) (tMul ta tb) := by
  intro pins s σ H Q I h
  refine wpAny_BinOp (bin ha hb I h fun v u s2 x y H2 I2 rx ry q => ?_)
  obtain ⟨i, j, rfl, rfl, ⟨q1, q2⟩, q⟩ := q
  obtain ⟨t, rfl⟩ := rx
  obtain ⟨t', rfl⟩ := ry
  exact mul_int ⟨.int _, H2, I2.tok _, ⟨_, rfl⟩, q⟩ (.of_left (intBits_le_64 q1 q2))

/-! ### comparisons -/
def PC (X : Cx) (op : CmpOp) (a b : Expr) (t : TE) : Prop :=
  ∀ (pins : List (Addr × Obj)) (s : Shared) (σ : St) (H : Hp) (Q : VK), Inv X pins σ H s → t σ H Q →
    wpAny (model X.prog X.w) X.A (eval a X.env) (fun v s₁ => wpAny (model X.prog X.w) X.A (eval b X.env) (fun u s₂ => wpAny (model X.prog X.w) X.A (compareOp op v u) (EP X pins σ Q) X.xe s₂) X.xe s₁) X.xe s
theorem nobehind (b : Expr) {op : CmpOp} (h : op ≠ .In) (h2 : op ≠ .NotIn) : behindInMarks op b = false := by
  have e1 : (op == CmpOp.In) = false := by cases op <;> first | rfl | exact absurd rfl h
  have e2 : (op == CmpOp.NotIn) = false := by cases op <;> first | rfl | exact absurd rfl h2
  cases b <;> simp [behindInMarks, e1, e2]
def tCmp (p : Int → Int → Bool) (ta tb : TE) : TE := fun σ H Q => t2I ta tb (fun i j H2 => Q (.bl (p i j)) H2) σ H
abbrev tLt : TE → TE → TE := tCmp fun i j => decide (i < j)
abbrev tLe : TE → TE → TE := tCmp fun i j => decide (i ≤ j)
abbrev tGt : TE → TE → TE := tCmp fun i j => decide (j < i)
abbrev tGe : TE → TE → TE := tCmp fun i j => decide (j ≤ i)
abbrev tEqI : TE → TE → TE := tCmp fun i j => decide (i = j)
abbrev tNeI : TE → TE → TE := tCmp fun i j => !decide (i = j)
/-- a comparison of two ints, by its rule -/
theorem pc_int {op : CmpOp} {p : Int → Int → Bool} (ha : PE X a ta) (hb : PE X b tb)
    (rule : ∀ (i j : Int) (t u : Tok) (Q : Value → Shared → Prop) (s : Shared), Q (.bool (p i j)) s → wpAny (model X.prog X.w) X.A (compareOp op (.int i t) (.int j u)) Q X.xe s) : PC X op a b (tCmp p ta tb) := by
  intro pins s σ H Q I h
  refine bin ha hb I h fun v u s2 x y H2 I2 rx ry q => ?_
  obtain ⟨i, j, rfl, rfl, q⟩ := q
  obtain ⟨t, rfl⟩ := rx
  obtain ⟨t', rfl⟩ := ry
  exact rule i j t t' _ s2 ⟨.bl _, H2, I2, rfl, q⟩
theorem pc_lt (ha : PE X a ta) (hb : PE X b tb) : PC X .Lt a b (tLt ta tb) := pc_int ha hb fun _ _ _ _ _ _ h => lt_int h
theorem pc_le (ha : PE X a ta) (hb : PE X b tb) : PC X .LtE a b (tLe ta tb) := pc_int ha hb fun _ _ _ _ _ _ h => le_int h
theorem pc_gt (ha : PE X a ta) (hb : PE X b tb) : PC X .Gt a b (tGt ta tb) := pc_int ha hb fun _ _ _ _ _ _ h => gt_int h
theorem pc_ge (ha : PE X a ta) (hb : PE X b tb) : PC X .GtE a b (tGe ta tb) := pc_int ha hb fun _ _ _ _ _ _ h => ge_int h
theorem pc_eqI (ha : PE X a ta) (hb : PE X b tb) : PC X .Eq a b (tEqI ta tb) := pc_int ha hb fun _ _ _ _ _ _ h => eq_int (by rw [Bool.beq_eq_decide_eq]; exact h)
theorem pc_neI (ha : PE X a ta) (hb : PE X b tb) : PC X .NotEq a b (tNeI ta tb) := pc_int ha hb fun _ _ _ _ _ _ h => ne_int (by rw [bne, Bool.beq_eq_decide_eq]; exact h)
/-- is None -/
def tIsN (ta : TE) : TE := fun σ H Q => ta σ H fun x H1 => Q (.bl (decide (x = .non))) H1
def tNotN (ta : TE) : TE := fun σ H Q => ta σ H fun x H1 => Q (.bl (!decide (x = .non))) H1
theorem RelV.none_iff {x : V} {v : Value} (r : RelV x v) : (v == Value.none) = decide (x = .non) := by
  cases x with
  | non => cases r; rfl
  | bl _ => cases r; rfl
  | int _ => obtain ⟨t, rfl⟩ := r; rfl
  | str _ => obtain ⟨t, rfl⟩ := r; rfl
  | byt _ => obtain ⟨t, rfl⟩ := r; rfl
  | flt _ => obtain ⟨t, rfl⟩ := r; rfl
  | ref _ => cases r; rfl
  | ty _ => cases r; rfl
theorem pc_isN {j pos'} (ha : PE X a ta) : PC X .Is a (.Constant .none j pos') (tIsN ta) := by
  intro pins s σ H Q I h
  refine thn (ha pins s σ H _ I h) fun v s1 ⟨x, H1, I1, r1, q1⟩ => ?_
  exact Constant_none (is_none_gen ⟨.bl _, H1, I1, by rw [r1.none_iff]; rfl, q1⟩)
theorem pc_notN {j pos'} (ha : PE X a ta) : PC X .IsNot a (.Constant .none j pos') (tNotN ta) := by
  intro pins s σ H Q I h
  refine thn (ha pins s σ H _ I h) fun v s1 ⟨x, H1, I1, r1, q1⟩ => ?_
  exact Constant_none (isnot_none_gen ⟨.bl _, H1, I1, by rw [r1.none_iff]; rfl, q1⟩)
/-- a comparison as a value, as a test -/
def tB (t : TE) : TT := fun σ H Q => t σ H fun x H1 => ∃ c, x = .bl c ∧ Q c H1
theorem pe_cmp {op : CmpOp} {t : TE} (h : PC X op a b t) (h1 : behindInMarks op b = false := by first | exact nobehind _ (by decide) (by decide) | rfl) : PE X (.Compare a [op] [b] pos) t := fun pins s σ H Q I hw => wpAny_Compare1 (h pins s σ H Q I hw) h1
theorem pt_cmp {op : CmpOp} {t : TE} (h : PC X op a b t) (h1 : behindInMarks op b = false := by first | exact nobehind _ (by decide) (by decide) | rfl) : PT X (.Compare a [op] [b] pos) (tB t) := by
  intro pins s σ H Q I hw
  refine wpAny_isTrue_Compare1 (thn (h pins s σ H _ I hw) fun v s1 h1 => thn h1 fun u s2 h2 => thn h2 fun c s3 ⟨x, H1, I1, r1, q1⟩ => ?_) h1
  obtain ⟨d, rfl, q⟩ := q1
  cases r1
  exact wpAny_truthy_bool ⟨H1, I1, q⟩
/-- an expression whose value is a bool, as a test -/
theorem pt_val {e : Expr} {t : TE} (h : PE X e t) (he : ∀ whole, isTrue e X.env whole = (do let v ← whole; standAt e.pos; holding [v] (truthy v)) := by intro _; rfl) : PT X e (tB t) := by
  intro pins s σ H Q I hw
  refine isTrue_plain (thn (h pins s σ H _ I hw) fun v s1 ⟨x, H1, I1, r1, q1⟩ => ?_) (he _)
  obtain ⟨d, rfl, q⟩ := q1
  cases r1
  exact wpAny_truthy_bool ⟨H1, I1, q⟩

/-! ### and, or, not -/
variable {tA tB' : TT} {rest : List Expr}
def tAnd (t u : TT) : TT := fun σ H Q => t σ H fun c H1 => if c = true then u σ H1 Q else Q false H1
def tOr (t u : TT) : TT := fun σ H Q => t σ H fun c H1 => if c = true then Q true H1 else u σ H1 Q
def tNot (t : TT) : TT := fun σ H Q => t σ H fun c H1 => Q (!c) H1
theorem pw_and1 (ha : PT X a tA) : PW X (.BoolOp .And [a] pos) tA := by
  intro wh pins s σ H Q I h
  refine isTrue_and (thn (ha pins s σ H Q I h) fun c s1 e => ?_)
  cases c with
  | true => exact isTrue_and_nil e
  | false => exact e
theorem pw_or1 (ha : PT X a tA) : PW X (.BoolOp .Or [a] pos) tA := by
  intro wh pins s σ H Q I h
  refine isTrue_or (thn (ha pins s σ H Q I h) fun c s1 e => ?_)
  cases c with
  | false => exact isTrue_or_nil e
  | true => exact e
theorem pw_and (ha : PT X a tA) (hb : PW X (.BoolOp .And (b :: rest) pos) tB') : PW X (.BoolOp .And (a :: b :: rest) pos) (tAnd tA tB') := by
  intro wh pins s σ H Q I h
  refine isTrue_and (thn (ha pins s σ H _ I h) fun c s1 ⟨H1, I1, q1⟩ => ?_)
  cases c with
  | true => exact hb wh pins s1 σ H1 Q I1 q1
  | false => exact ⟨H1, I1, q1⟩
theorem pw_or (ha : PT X a tA) (hb : PW X (.BoolOp .Or (b :: rest) pos) tB') : PW X (.BoolOp .Or (a :: b :: rest) pos) (tOr tA tB') := by
  intro wh pins s σ H Q I h
  refine isTrue_or (thn (ha pins s σ H _ I h) fun c s1 ⟨H1, I1, q1⟩ => ?_)
  cases c with
  | true => exact ⟨H1, I1, q1⟩
  | false => exact hb wh pins s1 σ H1 Q I1 q1
theorem pt_not (ha : PT X a tA) : PT X (.UnaryOp .Not a pos) (tNot tA) := by
  intro pins s σ H Q I h
  exact isTrue_not (ha pins s σ H (fun c H1 => Q (!c) H1) I h)
/-- .. as values (bools) -/
def tAndV (ta tb : TE) : TE := fun σ H Q => ta σ H fun x H1 => ∃ c, x = .bl c ∧ if c = true then tb σ H1 Q else Q (.bl false) H1
def tOrV (ta tb : TE) : TE := fun σ H Q => ta σ H fun x H1 => ∃ c, x = .bl c ∧ if c = true then Q (.bl true) H1 else tb σ H1 Q
def tNotV (ta : TE) : TE := fun σ H Q => ta σ H fun x H1 => ∃ c, x = .bl c ∧ Q (.bl (!c)) H1
theorem pe_one {op} {t : TE} (h : PE X a t) : PE X (.BoolOp op [a] pos) t := fun pins s σ H Q I hw => BoolOp_one (h pins s σ H Q I hw)
theorem pe_and (ha : PE X a ta) (hb : PE X (.BoolOp .And (b :: rest) pos) tb) : PE X (.BoolOp .And (a :: b :: rest) pos) (tAndV ta tb) := by
  intro pins s σ H Q I h
  refine BoolOp_and (thn (ha pins s σ H _ I h) fun v s1 ⟨x, H1, I1, r1, q1⟩ => ?_)
  obtain ⟨c, rfl, q1⟩ := q1
  cases r1
  refine wpAny_truthy_bool ?_
  cases c with
  | true => exact hb pins s1 σ H1 Q I1 q1
  | false => exact ⟨.bl false, H1, I1, rfl, q1⟩
theorem pe_or (ha : PE X a ta) (hb : PE X (.BoolOp .Or (b :: rest) pos) tb) : PE X (.BoolOp .Or (a :: b :: rest) pos) (tOrV ta tb) := by
  intro pins s σ H Q I h
  refine BoolOp_or (thn (ha pins s σ H _ I h) fun v s1 ⟨x, H1, I1, r1, q1⟩ => ?_)
  obtain ⟨c, rfl, q1⟩ := q1
  cases r1
  refine wpAny_truthy_bool ?_
  cases c with
  | false => exact hb pins s1 σ H1 Q I1 q1
  | true => exact ⟨.bl true, H1, I1, rfl, q1⟩
theorem pe_not (ha : PE X a ta) : PE X (.UnaryOp .Not a pos) (tNotV ta) := by
  intro pins s σ H Q I h
  refine UnaryOp_ (thn (ha pins s σ H _ I h) fun v s1 ⟨x, H1, I1, r1, q1⟩ => ?_)
  obtain ⟨c, rfl, q1⟩ := q1
  cases r1
  exact not_of (wpAny_truthy_bool ⟨.bl (!c), H1, I1, rfl, q1⟩)
/-- a if t else b -/
def tIf (t : TT) (ta tb : TE) : TE := fun σ H Q => t σ H fun c H1 => if c = true then ta σ H1 Q else tb σ H1 Q
theorem pe_ifExp {c : Expr} (hc : PT X c tA) (ha : PE X a ta) (hb : PE X b tb) : PE X (.IfExp c a b pos) (tIf tA ta tb) := by
  intro pins s σ H Q I h
  refine wpAny_IfExp (thn (hc pins s σ H _ I h) fun d s1 ⟨H1, I1, q1⟩ => ?_)
  cases d with
  | true => exact ha pins s1 σ H1 Q I1 q1
  | false => exact hb pins s1 σ H1 Q I1 q1
end
end L2

namespace L2
open PySem PySem.Spec PyProof.Rows

/-! ### a list, a tuple that is read: tracked, frozen, or an object of the module -/
def SqL (K : PySem.W.Frag) (H : Hp) (a : Addr) (xs : List V) : Prop :=
  Rd H a (.lst xs) ∨
    ∃ (o : Obj) (its : Array Value) (n : Nat), K.lookup a = some o ∧ o.cls = .type "list" ∧ o.dict = none ∧ o.data = .seq its n ∧ its.size ≤ sizeLine ∧ Vals xs its.toList
def SqT (K : PySem.W.Frag) (H : Hp) (a : Addr) (xs : List V) : Prop :=
  Rd H a (.tup xs) ∨
    ∃ (o : Obj) (its : Array Value) (n : Nat), K.lookup a = some o ∧ o.cls = .type "tuple" ∧ o.data = .seq its n ∧ its.size ≤ sizeLine ∧ Vals xs its.toList
def absV : Value → Option V
  | .none => some .non
  | .bool b => some (.bl b)
  | .int i _ => some (.int i)
  | .str x _ => some (.str x)
  | .bytes b _ => some (.byt b)
  | .float b _ => some (.flt b)
  | .ref a => some (.ref a)
  | .type n => some (.ty n)
  | _ => none
theorem RelV.abs {x : V} {u : Value} (r : RelV x u) : absV u = some x := by
  cases x with
  | non => cases r; rfl
  | bl _ => cases r; rfl
  | int _ => obtain ⟨t, rfl⟩ := r; rfl
  | str _ => obtain ⟨t, rfl⟩ := r; rfl
  | byt _ => obtain ⟨t, rfl⟩ := r; rfl
  | flt _ => obtain ⟨t, rfl⟩ := r; rfl
  | ref _ => cases r; rfl
  | ty _ => cases r; rfl
theorem RelV.inj {x y : V} {u : Value} (r : RelV x u) (q : RelV y u) : x = y := Option.some.inj (r.abs.symm.trans q.abs)
theorem Vals.inj : ∀ {xs ys : List V} {us : List Value}, Vals xs us → Vals ys us → xs = ys
  | _, _, _, .nil, .nil => rfl
  | _, _, _, .cons r t, .cons r' t' => by rw [r.inj r', Vals.inj t t']
section
variable {X : Cx} {pins : List (Addr × Obj)} {σ : St} {H : Hp} {s : Shared} {a : Addr} {xs ys : List V}
theorem SqL.of {K : PySem.W.Frag} (h : H a = some (.lst xs)) : SqL K H a xs := .inl (.inl h)
theorem SqT.of {K : PySem.W.Frag} (h : H a = some (.tup xs)) : SqT K H a xs := .inl (.inl h)
theorem Inv.list (I : Inv X pins σ H s) (h : SqL X.K H a xs) : ∃ its : List Value, Vals xs its ∧ PlainL s.heap a its.toArray ∧ xs.length ≤ sizeLine := by
  rcases h with h | ⟨o, its, n, hk, hc, hd, hs, hz, r⟩
  · obtain ⟨z, its, n, r, e⟩ := h.ok I.hok
    exact ⟨its, r, ⟨_, n, e, rfl, rfl, rfl⟩, z⟩
  · refine ⟨its.toList, r, ⟨o, n, I.kIn a o hk, hc, hd, by simpa using hs⟩, ?_⟩
    have e := r.length
    simp only [Array.length_toList] at e
    omega
theorem Inv.tuple (I : Inv X pins σ H s) (h : SqT X.K H a xs) : ∃ its : List Value, Vals xs its ∧ IsTup s.heap a its.toArray ∧ xs.length ≤ sizeLine := by
  rcases h with h | ⟨o, its, n, hk, hc, hs, hz, r⟩
  · obtain ⟨z, its, r, p⟩ := h.ok I.hok
    exact ⟨its, r, p, z⟩
  · refine ⟨its.toList, r, ⟨o, I.kIn a o hk, hc, n, by simpa using hs⟩, ?_⟩
    have e := r.length
    simp only [Array.length_toList] at e
    omega
theorem Inv.list_inj (I : Inv X pins σ H s) (h : SqL X.K H a xs) (h' : SqL X.K H a ys) : xs = ys := by
  obtain ⟨its, r, ⟨o, n, e, _, _, d⟩, _⟩ := I.list h
  obtain ⟨its', r', ⟨o', n', e', _, _, d'⟩, _⟩ := I.list h'
  rw [e] at e'; cases e'
  rw [d] at d'
  injection d' with d1 _
  have : its = its' := by simpa using congrArg Array.toList d1
  subst this
  exact r.inj r'
theorem Inv.tuple_inj (I : Inv X pins σ H s) (h : SqT X.K H a xs) (h' : SqT X.K H a ys) : xs = ys := by
  obtain ⟨its, r, ⟨o, e, _, n, d⟩, _⟩ := I.tuple h
  obtain ⟨its', r', ⟨o', e', _, n', d'⟩, _⟩ := I.tuple h'
  rw [e] at e'; cases e'
  rw [d] at d'
  injection d' with d1 _
  have : its = its' := by simpa using congrArg Array.toList d1
  subst this
  exact r.inj r'
end

/-! ### another wish about exceptions -/
abbrev Cx.wish (X : Cx) (E : Value → Shared → Prop) : Cx := { X with xe := E }
/-- no exception leaves -/
abbrev Cx.nox (X : Cx) : Cx := X.wish fun _ _ => False
theorem Cx.Ok.wish {X : Cx} (ok : X.Ok) (E : Value → Shared → Prop) : (X.wish E).Ok :=
  ⟨ok.mod, ok.kind, ok.glob, ok.blt, ok.above, ok.inj, ok.has, ok.cab, ok.hd, ok.frames, ok.stk, ok.exf, ok.bs, ok.bsz, ok.noex, ok.exfs, ok.funs, ok.frf⟩
theorem Cx.Ok.unwish {X : Cx} {E : Value → Shared → Prop} (ok : (X.wish E).Ok) : X.Ok :=
  ⟨ok.mod, ok.kind, ok.glob, ok.blt, ok.above, ok.inj, ok.has, ok.cab, ok.hd, ok.frames, ok.stk, ok.exf, ok.bs, ok.bsz, ok.noex, ok.exfs, ok.funs, ok.frf⟩
section
variable {X : Cx} {pins : List (Addr × Obj)} {σ : St} {H : Hp} {s : Shared} {E : Value → Shared → Prop}
theorem Inv.wish (I : Inv X pins σ H s) (E : Value → Shared → Prop) : Inv (X.wish E) pins σ H s := ⟨I.ok.wish E, I.os, I.bare, I.base, I.loc, I.cell, I.free, I.freeC, I.pin, I.hok, I.len⟩
theorem Inv.unwish (I : Inv (X.wish E) pins σ H s) : Inv X pins σ H s := ⟨I.ok.unwish, I.os, I.bare, I.base, I.loc, I.cell, I.free, I.freeC, I.pin, I.hok, I.len⟩
theorem SP.unwish {D : Ends} {f : Flow} {s' : Shared} (h : SP (X.wish E) pins D f s') : SP X pins D f s' := by
  cases f with
  | next => obtain ⟨σ', H', I, q⟩ := h; exact ⟨σ', H', I.unwish, q⟩
  | brk => obtain ⟨σ', H', I, q⟩ := h; exact ⟨σ', H', I.unwish, q⟩
  | cont => obtain ⟨σ', H', I, q⟩ := h; exact ⟨σ', H', I.unwish, q⟩
  | ret u => obtain ⟨v, σ', H', I, r, q⟩ := h; exact ⟨v, σ', H', I.unwish, r, q⟩
theorem PE.nox {e : Expr} {t : TE} (h : PE X.nox e t) : PE X e t := fun pins s σ H Q I hw =>
  wpAny_mono (h pins s σ H Q (I.wish _) hw) (fun _ _ ⟨v, H', I', r, q⟩ => ⟨v, H', I'.unwish, r, q⟩) fun _ _ z => False.elim z
theorem PT.nox {e : Expr} {t : TT} (h : PT X.nox e t) : PT X e t := fun pins s σ H Q I hw =>
  wpAny_mono (h pins s σ H Q (I.wish _) hw) (fun _ _ ⟨H', I', q⟩ => ⟨H', I'.unwish, q⟩) fun _ _ z => False.elim z
theorem PSs.nox {st : List Stmt} {t : TS} (h : PSs X.nox st t) : PSs X st t := fun pins s σ H D I hw =>
  wpAny_mono (h pins s σ H D (I.wish _) hw) (fun _ _ q => q.unwish) fun _ _ z => False.elim z
end

/-! ### blocks and small statements -/
section
variable {X : Cx} {st : Stmt} {rest : List Stmt} {t u : TS} {e : Expr} {te : TE} {pos : Pos}
def tNext : TS := fun D σ H => D.nx σ H
def tSeq (t u : TS) : TS := fun D σ H => t { D with nx := u D } σ H
theorem pss_nil : PSs X [] tNext := fun _ _ σ H _ I h => wpAny_execs_nil ⟨σ, H, I, h⟩
theorem pss_cons (h1 : PS X st t) (h2 : PSs X rest u) : PSs X (st :: rest) (tSeq t u) := by
  intro pins s σ H D I h
  refine wpAny_execs_cons (thn (h1 pins s σ H { D with nx := u D } I h) fun f s1 q => ?_)
  cases f with
  | next =>
    obtain ⟨σ', H', I', q⟩ := q
    exact h2 pins s1 σ' H' D I' q
  | ret v => exact q
  | brk => exact q
  | cont => exact q
theorem pss_one (h1 : PS X st t) : PSs X [st] t := by
  intro pins s σ H D I h
  refine wpAny_execs_cons (thn (h1 pins s σ H D I h) fun f s1 q => ?_)
  cases f with
  | next => exact wpAny_execs_nil q
  | ret v => exact q
  | brk => exact q
  | cont => exact q
def tBreak : TS := fun D σ H => D.bk σ H
def tCont : TS := fun D σ H => D.ct σ H
theorem ps_pass : PS X (.Pass pos) tNext := fun _ _ σ H _ I h => wpAny_Pass ⟨σ, H, I, h⟩
theorem ps_break : PS X (.Break pos) tBreak := fun _ _ σ H _ I h => wpAny_Break ⟨σ, H, I, h⟩
theorem ps_continue : PS X (.Continue pos) tCont := fun _ _ σ H _ I h => wpAny_Continue ⟨σ, H, I, h⟩
/-- in a def's body nothing is shown -/
theorem Inv.quiet {pins : List (Addr × Obj)} {σ : St} {H : Hp} {s : Shared} (I : Inv X pins σ H s) : interactive X.env = false := by simp [interactive, I.ok.kind]
/-- a docstring -/
theorem ps_doc {x j pos pos'} : PS X (.Expr (.Constant (.str x) j pos) pos') tNext := fun _ s σ H _ I h => wpAny_Expr (Calls.Constant_str (show SP X _ _ .next { s with toks := s.toks + 1 } from ⟨σ, H, I.tok _, h⟩)) I.quiet
/-- an expression whose value is dropped -/
def tDrop (te : TE) : TS := fun D σ H => te σ H fun _ H1 => D.nx σ H1
theorem ps_expr (he : PE X e te) (hs : swapsWith e none pos.line X.env = pure false := by rfl) : PS X (.Expr e pos) (tDrop te) := by
  intro pins s σ H D I h
  exact wpAny_Expr_any (thn (he pins s σ H _ I h) fun v s1 ⟨x, H1, I1, r1, q1⟩ => ⟨σ, H1, I1, q1⟩) I.quiet hs
def tRet (te : TE) : TS := fun D σ H => te σ H D.rt
theorem ps_ret (he : PE X e te) : PS X (.Return (some e) pos) (tRet te) := by
  intro pins s σ H D I h
  exact wpAny_Return_some (thn (he pins s σ H _ I h) fun v s1 ⟨x, H1, I1, r1, q1⟩ => ⟨x, σ, H1, I1, r1, q1⟩)
def tRetN : TS := fun D _ H => D.rt .non H
theorem ps_retN : PS X (.Return none pos) tRetN := fun _ _ σ H _ I h => wpAny_Return_none ⟨.non, σ, H, I, rfl, h⟩
def tIfS (c : TT) (t u : TS) : TS := fun D σ H => c σ H fun b H1 => if b = true then t D σ H1 else u D σ H1
theorem ps_if {c : Expr} {a b : List Stmt} {tc : TT} (hc : PT X c tc) (ha : PSs X a t) (hb : PSs X b u) : PS X (.If c a b pos) (tIfS tc t u) := by
  intro pins s σ H D I h
  refine wpAny_If (thn (hc pins s σ H _ I h) fun d s1 ⟨H1, I1, q1⟩ => ?_)
  cases d with
  | true => exact ha pins s1 σ H1 D I1 q1
  | false => exact hb pins s1 σ H1 D I1 q1
/-- code that the proof never comes to -/
def tNever : TS := fun _ _ _ => False
theorem ps_never : PS X st tNever := fun _ _ _ _ _ _ h => h.elim
theorem pss_never {sts : List Stmt} : PSs X sts tNever := fun _ _ _ _ _ _ h => h.elim
end

/-! ### targets -/
abbrev TG := V → St → Hp → (St → Hp → Prop) → Prop
abbrev TGs := List V → St → Hp → (St → Hp → Prop) → Prop
def PG (X : Cx) (target : Expr) (t : TG) : Prop :=
  ∀ (pins : List (Addr × Obj)) (s : Shared) (σ : St) (H : Hp) (v : V) (u : Value) (Q : St → Hp → Prop), Inv X pins σ H s → RelV v u → t v σ H Q →
    wpAny (model X.prog X.w) X.A (assign target X.env u) (fun _ s' => ∃ σ' H', Inv X pins σ' H' s' ∧ Q σ' H') X.xe s
/-- several targets, one after another -/
def PGs (X : Cx) (ts : List Expr) (t : TGs) : Prop :=
  ∀ (pins : List (Addr × Obj)) (s : Shared) (σ : St) (H : Hp) (vs : List V) (us : List Value) (Q : St → Hp → Prop), Inv X pins σ H s → Vals vs us → t vs σ H Q →
    wpAny (model X.prog X.w) X.A (assignInOrder ((assignEach ts X.env).map (·.2)) us) (fun _ s' => ∃ σ' H', Inv X pins σ' H' s' ∧ Q σ' H') X.xe s
/-- o[i] = v, by values -/
abbrev TSet := V → V → V → Hp → (Hp → Prop) → Prop
def PSet (X : Cx) (t : TSet) : Prop :=
  ∀ (pins : List (Addr × Obj)) (s : Shared) (σ : St) (H : Hp) (o i v : V) (ov iv u : Value) (Q : Hp → Prop), Inv X pins σ H s → RelV o ov → RelV i iv → RelV v u → t o i v H Q →
    wpAny (model X.prog X.w) X.A (setItem ov iv u) (fun _ s' => ∃ H', Inv X pins σ H' s' ∧ Q H') X.xe s
/-- a op= b, by values -/
abbrev TIp := V → V → Hp → VK → Prop
def PIp (X : Cx) (op : Operator) (t : TIp) : Prop :=
  ∀ (pins : List (Addr × Obj)) (s : Shared) (σ : St) (H : Hp) (x y : V) (v u : Value) (Q : VK), Inv X pins σ H s → RelV x v → RelV y u → t x y H Q →
    wpAny (model X.prog X.w) X.A (inplaceOp op v u) (EP X pins σ Q) X.xe s
section
variable {X : Cx} {pos : Pos}
def gName (i : Nat) : TG := fun v σ H Q => Q (σ.set i (some v)) H
theorem pg_name {i : Nat} {x : Str} (hN : X.N.Nodup) (hi : X.N[i]? = some x) (hx : Loc X.env.scope x) (hf : X.fn x = true ∨ X.env.scope.names.lookup x = some .local := by first | exact .inl rfl | exact .inr rfl | assumption) : PG X (.Name x pos) (gName i) := by
  intro pins s σ H v u Q I r h
  exact wpAny_assign_Name (store_ok I hN hi hx r (fun s' I' => ⟨_, H, I', h⟩) hf)
def gNil : TGs := fun vs σ H Q => vs = [] ∧ Q σ H
def gCons (t : TG) (u : TGs) : TGs := fun vs σ H Q => ∃ v r, vs = v :: r ∧ t v σ H fun σ' H' => u r σ' H' Q
theorem pgs_nil : PGs X [] gNil := by
  intro pins s σ H vs us Q I r h
  obtain ⟨e, h⟩ := h
  subst e
  cases r
  exact assignInOrder_nil ⟨σ, H, I, h⟩
theorem pgs_cons {e : Expr} {es : List Expr} {t : TG} {u : TGs} (h1 : PG X e t) (h2 : PGs X es u)
    (hs : (assignEach (e :: es) X.env).map (·.2) = assign e X.env :: (assignEach es X.env).map (·.2) := by rfl) : PGs X (e :: es) (gCons t u) := by
  intro pins s σ H vs us Q I r h
  obtain ⟨v, vr, e1, h⟩ := h
  subst e1
  cases r with
  | cons r rr =>
    rw [hs]
    refine assignInOrder_cons (thn (h1 pins s σ H _ _ _ I r h) fun _ s1 ⟨σ1, H1, I1, q1⟩ => ?_)
    exact h2 pins s1 σ1 H1 _ _ Q I1 rr q1
/-- (a, b, ..) = a tuple of that length -/
def gTup (K : PySem.W.Frag) (n : Nat) (t : TGs) : TG := fun v σ H Q => ∃ a xs, v = .ref a ∧ SqT K H a xs ∧ xs.length = n ∧ t xs σ H Q
theorem pg_tup {es : List Expr} {k : Nat} {t : TGs} {n : Nat} (hc : X.calm = true) (h : PGs X es t)
    (hn : (assignEach es X.env).length = n := by rfl) (hst : (assignEach es X.env).findIdx? (·.1) = none := by rfl) : PG X (.Tuple es k pos) (gTup X.K n t) := by
  intro pins s σ H v u Q I r hw
  obtain ⟨a, xs, e1, hq, hl, hw⟩ := hw
  subst e1
  cases r
  obtain ⟨its, rv, ht, hz⟩ := I.tuple hq
  refine assign_Tuple_tuple (I.ok.hd hc) ht (by simp [hn, ← hl, rv.length]) hst fun h' hx => ?_
  have I1 : Inv X pins σ H { s with heap := h' } := I.kept (t' := s.toks) fun b o e => hx b o (Nat.ne_of_lt (Heap.lt_size e)) e
  exact h pins _ σ H xs _ Q I1 (by simpa using rv) hw
/-- o[i] = .. -/
def gSub (to ti : TE) (t : TSet) : TG := fun v σ H Q => to σ H fun o H1 => ti σ H1 fun i H2 => t o i v H2 fun H3 => Q σ H3
theorem pg_sub {o i : Expr} {to ti : TE} {t : TSet} (ho : PE X o to) (hi : PE X i ti) (hs : PSet X t)
    (ha : ∀ v, assign (.Subscript o i pos) X.env v = (do
      let ov ← holding [v] (eval o X.env)
      let iv ← holding [v, ov] (eval i X.env)
      standAt pos
      holding [v, ov, iv] (setItem ov iv v)
      release [v, ov, iv] []) := by intro _; rfl) : PG X (.Subscript o i pos) (gSub to ti t) := by
  intro pins s σ H v u Q I r h
  rw [ha]
  refine wpAny_bind (wpAny_holding (thn (ho pins s σ H _ I h) fun ov s1 ⟨x, H1, I1, r1, q1⟩ => ?_))
  refine wpAny_bind (wpAny_holding (thn (hi pins s1 σ H1 _ I1 q1) fun iv s2 ⟨y, H2, I2, r2, q2⟩ => ?_))
  refine wpAny_bind (wpAny_standAt (wpAny_bind (wpAny_holding (thn (hs pins s2 σ H2 x y v ov iv u _ I2 r1 r2 r q2) fun _ s3 ⟨H3, I3, q3⟩ => ?_))))
  exact wpAny_release ⟨σ, H3, I3, q3⟩
/-- target = value -/
def tAsg (te : TE) (g : TG) : TS := fun D σ H => te σ H fun x H1 => g x σ H1 D.nx
theorem ps_asg {tg e : Expr} {te : TE} {g : TG} (he : PE X e te) (hg : PG X tg g) (hs : swapsWithSole [tg] e pos.line X.env = pure false := by rfl) (hw : swappedStores [tg] e X.env = pure none := by rfl)
    (h1 : (assignEach [tg] X.env).map (·.2) = [assign tg X.env] := by rfl) : PS X (.Assign [tg] e pos) (tAsg te g) := by
  intro pins s σ H D I h
  refine wpAny_Assign_stores (thn (he pins s σ H _ I h) fun v s1 ⟨x, H1, I1, r1, q1⟩ => ?_) hs hw
  rw [h1]
  exact thn (hg pins s1 σ H1 x v _ I1 r1 q1) fun _ s2 q => q
/-- name = value -/
theorem ps_set {i : Nat} {x : Str} {e : Expr} {te : TE} {pos' : Pos} (hN : X.N.Nodup) (hi : X.N[i]? = some x) (hx : Loc X.env.scope x) (he : PE X e te) (hs : swapsWith e (some (.Name x pos')) pos.line X.env = pure false := by rfl) (hf : X.fn x = true ∨ X.env.scope.names.lookup x = some .local := by first | exact .inl rfl | exact .inr rfl | assumption) :
    PS X (.Assign [.Name x pos'] e pos) (tAsg te (gName i)) := by
  intro pins s σ H D I h
  refine wpAny_Assign_Name (thn (he pins s σ H _ I h) fun v s1 ⟨y, H1, I1, r1, q1⟩ => ?_) hs
  exact store_ok I1 hN hi hx r1 (fun s2 I2 => ⟨_, H1, I2, q1⟩) hf
/-- a, b = x, y with plain local names: stored from the right; the pair itself is not tracked (the opening rows as in PyProof/Rows/TupAssign.lean:23) -/
def tPar (i j : Nat) (ta : TA) : TS := fun D σ H => ta σ H fun vs H1 => ∃ v w, vs = [v, w] ∧ D.nx ((σ.set i (some v)).set j (some w)) H1
theorem ps_par {i j : Nat} {x y : Str} {a b : Expr} {ta : TA} {px py pt : Pos} {kt k2 pt2} (hc : X.calm = true) (hN : X.N.Nodup) (hi : X.N[i]? = some x) (hj : X.N[j]? = some y) (hij : i ≠ j)
    (hx : X.env.scope.names.lookup x = some .local) (hy : X.env.scope.names.lookup y = some .local) (ha : PA X [a, b] ta)
    (hw : swappedStores [.Tuple [.Name x px, .Name y py] kt pt] (.Tuple [a, b] k2 pt2) X.env = pure (some [x, y]))
    (hs : swapsWithSole [.Tuple [.Name x px, .Name y py] kt pt] (.Tuple [a, b] k2 pt2) pos.line X.env = pure false := by rfl) :
    PS X (.Assign [.Tuple [.Name x px, .Name y py] kt pt] (.Tuple [a, b] k2 pt2) pos) (tPar i j ta) := by
  intro pins s σ H D I h
  rw [exec_Assign_arm]
  refine wpAny_bind (wpAny_standAt ?_)
  rw [hs]
  refine wpAny_bind (wpAny_pure ?_)
  rw [if_neg (by decide)]
  refine wpAny_bind (Tuple_ (thn (ha _ pins s σ H _ I h) fun us s1 ⟨vs, H1, I1, r1, q1⟩ => ?_))
  obtain ⟨v, w, e1, q1⟩ := q1
  subst e1
  obtain ⟨u1, u2, rfl, rv, rw'⟩ : ∃ u1 u2, us = [u1, u2] ∧ RelV v u1 ∧ RelV w u2 := by
    cases r1 with
    | cons p q =>
      cases q with
      | cons p' q' =>
        cases q'
        exact ⟨_, _, rfl, p, p'⟩
  refine wpAny_newObj_type ?_ (by show 2 ≤ sizeLine; decide)
  have I2 : Inv X pins σ H1 { s1 with heap := s1.heap.push { cls := .type "tuple", data := .seq [u1, u2].toArray } } := I1.kept (t' := s1.toks) fun b o e => Heap.get?_push_of_some _ e
  rw [hw]
  refine wpAny_bind (wpAny_pure ?_)
  show wpAny (model X.prog X.w) X.A (do rule "assign.swapped-stores"; let items ← unpackItems (.ref s1.heap.objs.size) 2 none; assignInOrder [fun v => bindName X.env y v, fun v => bindName X.env x v] items.reverse; pure Flow.next) _ _ _
  refine wpAny_bind (wpAny_rule (wpAny_bind (unpackItems_tuple (items := #[u1, u2]) (I.ok.hd hc) (IsTup.new s1.heap _) fun h' hx' => ?_)))
  have I3 := I2.kept (h' := h') (t' := s1.toks) fun b o e => hx' b o (Nat.ne_of_lt (Heap.lt_size e)) e
  show wpAny _ _ (assignInOrder [fun v => bindName X.env y v, fun v => bindName X.env x v] [u2, u1] >>= fun _ => pure Flow.next) _ _ _
  refine wpAny_bind (assignInOrder_cons (wpAny_bindName (store_ok I3 hN hj (.inl hy) rw' (fun s2 I4 => ?_) (.inr hy))))
  refine assignInOrder_cons (wpAny_bindName (store_ok I4 hN hi (.inl hx) rv (fun s3 I5 => assignInOrder_nil (wpAny_pure ?_)) (.inr hx)))
  rw [List.set_comm _ _ (Ne.symm hij)] at I5
  exact ⟨_, H1, I5, q1⟩
/-- name op= e -/
def tAug (i : Nat) (te : TE) (ti : TIp) : TS := fun D σ H => ∃ x, σ[i]? = some (some x) ∧ te σ H fun y H1 => ti x y H1 fun z H2 => D.nx (σ.set i (some z)) H2
theorem ps_aug {i : Nat} {x : Str} {e : Expr} {te : TE} {op : Operator} {ti : TIp} {pos' : Pos} (hN : X.N.Nodup) (hi : X.N[i]? = some x) (hx : Loc X.env.scope x) (he : PE X e te) (ho : PIp X op ti) (hf : X.fn x = true ∨ X.env.scope.names.lookup x = some .local := by first | exact .inl rfl | exact .inr rfl | assumption) :
    PS X (.AugAssign (.Name x pos') op e pos) (tAug i te ti) := by
  intro pins s σ H D I h
  obtain ⟨v, e1, h⟩ := h
  obtain ⟨m, hn, hl⟩ := I.loc
  have vis : Vis X.env.scope x := by rcases hx with k | k; exact .inl k; exact .inr (.inl k)
  obtain ⟨u, r, l⟩ := hl i x v hi e1 vis
  refine wpAny_AugAssign_Name ?_
  have go : wpAny (model X.prog X.w) X.A (eval e X.env) (fun w s₂ => wpAny (model X.prog X.w) X.A (inplaceOp op u w) (fun r s₃ => wpAny (model X.prog X.w) X.A (storeName X.env x r) (fun _ => SP X pins D .next) X.xe s₃) X.xe s₂) X.xe s := by
    refine thn (he pins s σ H _ I h) fun w s1 ⟨y, H1, I1, r1, q1⟩ => ?_
    refine thn (ho pins s1 σ H1 v y u w _ I1 r r1 q1) fun z s2 ⟨zv, H2, I2, r2, q2⟩ => ?_
    exact store_ok I2 hN hi hx r2 (fun s3 I3 => ⟨_, H2, I3, q2⟩) hf
  rcases l with ⟨hk, hm⟩ | ⟨hk, c, hc, hcell⟩
  · exact wpAny_loadName_local I.ok.kind hk hn hm go
  · rcases hk with hk | hk
    · exact wpAny_loadName_cell I.ok.kind hk hc hcell go
    · rcases hx with k | k
      · have : X.env.scope.names.lookup x = some .free := hk
        rw [k] at this; cases this
      · have : X.env.scope.names.lookup x = some .free := hk
        rw [k] at this; cases this
/-- o[i] op= e -/
def tAugS (to ti te : TE) (tget : V → V → Hp → VK → Prop) (tip : TIp) (tset : TSet) : TS := fun D σ H => to σ H fun o H1 => ti σ H1 fun i H2 => tget o i H2 fun x H3 => te σ H3 fun y H4 => tip x y H4 fun z H5 => tset o i z H5 fun H6 => D.nx σ H6
/-- o[i], by values -/
def PGet (X : Cx) (t : V → V → Hp → VK → Prop) : Prop :=
  ∀ (pins : List (Addr × Obj)) (s : Shared) (σ : St) (H : Hp) (o i : V) (ov iv : Value) (Q : VK), Inv X pins σ H s → RelV o ov → RelV i iv → t o i H Q →
    wpAny (model X.prog X.w) X.A (getItem ov iv) (EP X pins σ Q) X.xe s
theorem ps_augS {o i e : Expr} {to ti te : TE} {tget : V → V → Hp → VK → Prop} {tip : TIp} {tset : TSet} {op : Operator} {tpos : Pos} (ho : PE X o to) (hi : PE X i ti) (hg : PGet X tget) (he : PE X e te) (hp : PIp X op tip) (hs : PSet X tset)
    (ha : ∀ ov iv new, augStore i ov iv new = (do holding [new, ov, iv] (setItem ov iv new); release [new, ov, iv] []; pure .next) := by intros; rfl) : PS X (.AugAssign (.Subscript o i tpos) op e pos) (tAugS to ti te tget tip tset) := by
  intro pins s σ H D I h
  refine wpAny_AugAssign_SubscriptAny (thn (ho pins s σ H _ I h) fun ov s1 ⟨x1, H1, I1, r1, q1⟩ => ?_) ha
  refine thn (hi pins s1 σ H1 _ I1 q1) fun iv s2 ⟨x2, H2, I2, r2, q2⟩ => ?_
  refine thn (hg pins s2 σ H2 x1 x2 ov iv _ I2 r1 r2 q2) fun old s3 ⟨x3, H3, I3, r3, q3⟩ => ?_
  refine thn (he pins s3 σ H3 _ I3 q3) fun v s4 ⟨x4, H4, I4, r4, q4⟩ => ?_
  refine thn (hp pins s4 σ H4 x3 x4 old v _ I4 r3 r4 q4) fun new s5 ⟨x5, H5, I5, r5, q5⟩ => ?_
  exact thn (hs pins s5 σ H5 x1 x2 x5 ov iv new _ I5 r1 r2 r5 q5) fun _ s6 ⟨H6, I6, q6⟩ => ⟨σ, H6, I6, q6⟩
/-- ints -/
def ipI (f : Int → Int → Int) : TIp := fun x y H Q => ∃ i j, x = .int i ∧ y = .int j ∧ Q (.int (f i j)) H
theorem ip_add : PIp X .Add (ipI fun i j => i + j) := by
  intro pins s σ H x y v u Q I r1 r2 h
  obtain ⟨i, j, e1, e2, q⟩ := h
  subst e1; subst e2
  obtain ⟨t, rfl⟩ := r1
  obtain ⟨t', rfl⟩ := r2
  exact iadd_int ⟨.int _, H, I.tok _, ⟨_, rfl⟩, q⟩
theorem ip_sub : PIp X .Sub (ipI fun i j => i - j) := by
  intro pins s σ H x y v u Q I r1 r2 h
  obtain ⟨i, j, e1, e2, q⟩ := h
  subst e1; subst e2
  obtain ⟨t, rfl⟩ := r1
  obtain ⟨t', rfl⟩ := r2
  exact isub_int ⟨.int _, H, I.tok _, ⟨_, rfl⟩, q⟩
end

/-! ### while -/
section
variable {X : Cx} {pos : Pos}
/-- the invariant W with its measure -/
def tWhile (c : TT) (tb : TS) : TS := fun D σ H => ∃ W : Nat → St → Hp → Prop, (∃ m, W m σ H) ∧ ∀ m σ H, W m σ H →
  c σ H fun b H1 => if b = true then ∃ N : St → Hp → Prop, (∀ σ' H', N σ' H' → ∃ m', m' < m ∧ W m' σ' H') ∧ tb { D with nx := N, ct := N, bk := D.nx } σ H1 else D.nx σ H1
theorem ps_while {c : Expr} {body : List Stmt} {tc : TT} {tb : TS} (hp : PassesOwn (model X.prog X.w) X.A X.env X.xe) (hc : PT X c tc) (hb : PSs X body tb) : PS X (.While c body [] pos) (tWhile tc tb) := by
  intro pins s σ H D I h
  obtain ⟨W, ⟨m0, w0⟩, turn⟩ := h
  refine wpAny_While (codeAny_whileLoop (fun n s' => ∃ σ' H', Inv X pins σ' H' s' ∧ W n σ' H') ?_ m0 ⟨σ, H, I, w0⟩)
  rintro n s1 ⟨σ1, H1, I1, w1⟩
  refine wpAny_passesOwn hp (thn (hc pins s1 σ1 H1 _ I1 (turn n σ1 H1 w1)) fun b s2 ⟨H2, I2, q2⟩ => ?_)
  cases b with
  | true =>
    obtain ⟨N, hN, q2⟩ := q2
    rw [if_pos rfl]
    refine wpAny_passesOwn hp (thn (hb pins s2 σ1 H2 _ I2 q2) fun f s3 q3 => ?_)
    cases f with
    | next =>
      obtain ⟨σ3, H3, I3, n3⟩ := q3
      obtain ⟨m', hm, w3⟩ := hN σ3 H3 n3
      exact ⟨m', hm, σ3, H3, I3, w3⟩
    | cont =>
      obtain ⟨σ3, H3, I3, n3⟩ := q3
      obtain ⟨m', hm, w3⟩ := hN σ3 H3 n3
      exact ⟨m', hm, σ3, H3, I3, w3⟩
    | brk => exact q3
    | ret v => exact q3
  | false =>
    rw [if_neg Bool.false_ne_true]
    exact wpAny_execs_nil ⟨σ1, H2, I2, q2⟩
end

/-! ### what a loop or a comprehension walks -/
/-- at turn i: it yields x (the heap may grow), or it stops -/
structure It where
  go : Nat → Hp → Prop
  yld : Nat → Hp → V → Hp → Prop
  stop : Nat → Hp → Prop
/-- the iterator's own objects may turn: they are not the frame's, not pinned, younger than the entry (or a comprehension's own) -/
def FpOk (X : Cx) (pins : List (Addr × Obj)) (H : Hp) (b : Addr) : Prop :=
  H b = none ∧ b ≠ X.env.locals ∧ b ∉ X.fs ∧ (b ∈ X.ex ∨ X.s_0.heap.objs.size ≤ b) ∧ (∀ x c, X.env.cells.lookup x = some c → c ≠ b) ∧ ∀ p ∈ X.pn ++ pins, p.1 ≠ b
theorem Inv.fpOk {X : Cx} {pins : List (Addr × Obj)} {σ : St} {H H' : Hp} {s : Shared} {b : Addr} (I : Inv X pins σ H s) (hb : s.heap.objs.size ≤ b) (hn : H' b = none) : FpOk X pins H' b := by
  refine ⟨hn, Nat.ne_of_gt (Nat.lt_of_lt_of_le I.lt hb), I.nofs hb, .inr (Nat.le_trans I.sz hb), fun x c e z => ?_, fun p hp z => ?_⟩
  · obtain ⟨v, q⟩ := I.cell x c e
    exact absurd (Nat.lt_of_lt_of_le q.lt (by rw [z]; exact hb)) (Nat.lt_irrefl _)
  · exact absurd (Nat.lt_of_lt_of_le (Heap.lt_size (I.pin p hp).1) (by rw [z]; exact hb)) (Nat.lt_irrefl _)
structure Turn (P : Program) (w : World) (K : PySem.W.Frag) (tg : Expr) (J : It) (fp : List Addr) (it : Addr) (tn : Nat → Heap → Prop) : Prop where
  mem : it ∈ fp
  obj : ∀ i h, tn i h → ∀ b ∈ fp, ∃ o, h.get? b = some o ∧ ∀ v, o.data ≠ .cell v
  keep : ∀ i h h', tn i h → (∀ b ∈ fp, ∀ o, h.get? b = some o → h'.get? b = some o) → tn i h'
  item : ∀ (X : Cx), X.prog = P → X.w = w → X.K = K → X.calm = true → ∀ (i : Nat) (pins : List (Addr × Obj)) (s : Shared) (σ : St) (H : Hp) (E : Value → Shared → Prop), Inv X pins σ H s → (∀ b ∈ fp, FpOk X pins H b) → tn i s.heap → J.go i H →
    wpAny (model P w) X.A (pyNext (.ref it)) (fun r s1 => ∃ u, r = some u ∧
      wpAny (model P w) X.A (letOwnedTupleGo tg (.ref it) u) (fun _ s2 => ∃ x H', Inv X pins σ H' s2 ∧ RelV x u ∧ J.yld i H x H' ∧ tn (i + 1) s2.heap ∧ ∀ b ∈ fp, H' b = none) E s1) E s
  done : ∀ (X : Cx), X.prog = P → X.w = w → X.K = K → X.calm = true → ∀ (i : Nat) (pins : List (Addr × Obj)) (s : Shared) (σ : St) (H : Hp) (E : Value → Shared → Prop), Inv X pins σ H s → (∀ b ∈ fp, FpOk X pins H b) → tn i s.heap → J.stop i H →
    wpAny (model P w) X.A (pyNext (.ref it)) (fun r s1 => r = none ∧ Inv X pins σ H s1) E s
  self : ∀ (A : Around) (i : Nat) (s : Shared) (Q : Value → Shared → Prop) (E : Value → Shared → Prop), tn i s.heap → Q (.ref it) s → wpAny (model P w) A (pyIter (.ref it)) Q E s
abbrev TI := St → Hp → (It → Hp → Prop) → Prop
/-- an iterator has come -/
def PIE (X : Cx) (pins : List (Addr × Obj)) (σ : St) (tg : Expr) (R : It → Hp → Prop) (itv : Value) (s2 : Shared) : Prop :=
  ∃ (it : Addr) (fp : List Addr) (tn : Nat → Heap → Prop) (J : It) (H' : Hp), itv = .ref it ∧ Inv X pins σ H' s2 ∧ Turn X.prog X.w X.K tg J fp it tn ∧ tn 0 s2.heap ∧ (∀ b ∈ fp, FpOk X pins H' b) ∧ R J H'
def PI (X : Cx) (tg iter : Expr) (wi : TI) : Prop :=
  ∀ (pins : List (Addr × Obj)) (s : Shared) (σ : St) (H : Hp) (R : It → Hp → Prop), Inv X pins σ H s → wi σ H R →
    wpAny (model X.prog X.w) X.A (eval iter X.env) (fun v s1 => wpAny (model X.prog X.w) X.A (pyIter v) (PIE X pins σ tg R) X.xe s1) X.xe s

/-- the step ahead of the store is nothing for an iterator that keeps no tuple -/
theorem go_of {M : Model} {A : Around} {E : Value → Shared → Prop} {s : Shared} {tg : Expr} {it : Addr} {u : Value} {o : Obj} {n : String} {vs : Array Value} {Q : Unit → Shared → Prop} (ho : s.heap.get? it = some o) (hc : o.cls = .type n) (hd : o.data = .fields vs)
    (hn : ["enumerate", "zip", "dict_itemiterator", "dict_reverseitemiterator", "odict_iterator", "itertools.zip_longest", "itertools.pairwise"].contains n = false) (hQ : Q () s) : wpAny M A (letOwnedTupleGo tg (.ref it) u) Q E s := by
  unfold letOwnedTupleGo
  cases tg <;> first
    | exact wpAny_pure hQ
    | (cases u <;> first
        | exact wpAny_pure hQ
        | (refine wpAny_bind (wpAny_load ho ?_)
           rw [hc, hd]
           show wpAny M A (if (["enumerate", "zip", "dict_itemiterator", "dict_reverseitemiterator", "odict_iterator", "itertools.zip_longest", "itertools.pairwise"].contains n && vs[0]? == some (rawInt _)) = true then _ else _) Q E s
           rw [if_neg (by intro h; rw [hn, Bool.false_and] at h; cases h)]
           exact wpAny_pure hQ))

/-- the list at a, as it stands at each turn (a loop may append to it) -/
def Itl (K : PySem.W.Frag) (a : Addr) : It :=
  ⟨fun i H => ∃ xs x, SqL K H a xs ∧ xs[i]? = some x, fun i H x H' => H' = H ∧ ∀ xs, SqL K H a xs → xs[i]? = some x, fun i H => ∃ xs, SqL K H a xs ∧ xs.length ≤ i⟩
def Itt (K : PySem.W.Frag) (a : Addr) : It :=
  ⟨fun i H => ∃ xs x, SqT K H a xs ∧ xs[i]? = some x, fun i H x H' => H' = H ∧ ∀ xs, SqT K H a xs → xs[i]? = some x, fun i H => ∃ xs, SqT K H a xs ∧ xs.length ≤ i⟩
/-- lo, lo + 1, .. (n of them) -/
def Itr (lo : Int) (n : Nat) : It := ⟨fun i _ => i < n, fun i H x H' => H' = H ∧ x = .int (lo + i), fun i _ => n ≤ i⟩
theorem turn_list {P : Program} {w : World} {K : PySem.W.Frag} {tg : Expr} (a it : Addr) : Turn P w K tg (Itl K a) [it] it (fun i h => h.IsListIter it a i) where
  mem := by simp
  obj := fun i h st b hb => by
    have e : b = it := by simpa using hb
    subst e
    obtain ⟨o, e, c, d⟩ := st
    exact ⟨o, e, fun v z => by rw [d] at z; cases z⟩
  keep := fun i h h' st k => st.at fun o e => k it (by simp) o e
  item := by
    intro X hP hw hK hc i pins s σ H E I hf st hg
    subst hP hw hK
    obtain ⟨xs, x, hq, hx⟩ := hg
    obtain ⟨its, rv, p, hz⟩ := I.list hq
    obtain ⟨u, hu, ru⟩ := rv.get hx
    obtain ⟨f0, f1, f2, f3, f4, f5⟩ := hf it (by simp)
    refine wpAny_pyNext_list_item st p.isList (x := u) (by simpa using hu) fun h' st' sb => ?_
    have I1 : Inv X pins σ H { s with heap := h' } := I.turned (t' := s.toks) (fun b o hb e => (sb.2 b hb).trans e) f0 f1 f3 f4 f5
    obtain ⟨o, e, c, d⟩ := id st'
    exact ⟨u, rfl, go_of (s := { s with heap := h' }) e c d (by decide) ⟨x, H, I1, ru, ⟨rfl, fun ys hy => by rw [I.list_inj hy hq]; exact hx⟩, st', fun b hb => (hf b hb).1⟩⟩
  done := by
    intro X hP hw hK hc i pins s σ H E I hf st hg
    subst hP hw hK
    obtain ⟨xs, hq, hx⟩ := hg
    obtain ⟨its, rv, p, hz⟩ := I.list hq
    obtain ⟨f0, f1, f2, f3, f4, f5⟩ := hf it (by simp)
    have hl := rv.length
    exact wpAny_pyNext_list_end (I.ok.hd hc) st p.isList (by simp; omega) fun h' eb => ⟨rfl, I.turned (t' := s.toks) (fun b o hb e => eb b o hb e) f0 f1 f3 f4 f5⟩
  self := fun _ _ _ _ _ st h => wpAny_pyIter_listiter st h
theorem turn_tuple {P : Program} {w : World} {K : PySem.W.Frag} {tg : Expr} (a it : Addr) : Turn P w K tg (Itt K a) [it] it (fun i h => h.IsTupleIter it a i) where
  mem := by simp
  obj := fun i h st b hb => by
    have e : b = it := by simpa using hb
    subst e
    obtain ⟨o, e, c, d⟩ := st
    exact ⟨o, e, fun v z => by rw [d] at z; cases z⟩
  keep := fun i h h' st k => st.at fun o e => k it (by simp) o e
  item := by
    intro X hP hw hK hc i pins s σ H E I hf st hg
    subst hP hw hK
    obtain ⟨xs, x, hq, hx⟩ := hg
    obtain ⟨its, rv, p, hz⟩ := I.tuple hq
    obtain ⟨u, hu, ru⟩ := rv.get hx
    obtain ⟨f0, f1, f2, f3, f4, f5⟩ := hf it (by simp)
    refine wpAny_pyNext_tuple_item st (show s.heap.IsTuple a its.toArray from p) (x := u) (by simpa using hu) fun h' st' sb => ?_
    have I1 : Inv X pins σ H { s with heap := h' } := I.turned (t' := s.toks) (fun b o hb e => (sb.2 b hb).trans e) f0 f1 f3 f4 f5
    obtain ⟨o, e, c, d⟩ := id st'
    exact ⟨u, rfl, go_of (s := { s with heap := h' }) e c d (by decide) ⟨x, H, I1, ru, ⟨rfl, fun ys hy => by rw [I.tuple_inj hy hq]; exact hx⟩, st', fun b hb => (hf b hb).1⟩⟩
  done := by
    intro X hP hw hK hc i pins s σ H E I hf st hg
    subst hP hw hK
    obtain ⟨xs, hq, hx⟩ := hg
    obtain ⟨its, rv, p, hz⟩ := I.tuple hq
    obtain ⟨f0, f1, f2, f3, f4, f5⟩ := hf it (by simp)
    have hl := rv.length
    exact wpAny_pyNext_tuple_end (I.ok.hd hc) st (show s.heap.IsTuple a its.toArray from p) (by simp; omega) fun h' eb => ⟨rfl, I.turned (t' := s.toks) (fun b o hb e => eb b o hb e) f0 f1 f3 f4 f5⟩
  self := fun _ _ _ _ _ st h => wpAny_pyIter_tupleiter st h
theorem turn_range {P : Program} {w : World} {K : PySem.W.Frag} {tg : Expr} (it : Addr) (lo : Int) (n : Nat) : Turn P w K tg (Itr lo n) [it] it (fun i h => IsRangeIter h it (lo + (i : Nat) * 1) ((n : Int) - (i : Nat)) 1) where
  mem := by simp
  obj := fun i h st b hb => by
    have e : b = it := by simpa using hb
    subst e
    exact ⟨_, st, fun v z => by
      have z' : Data.fields _ = Data.cell v := z
      cases z'⟩
  keep := fun i h h' st k => k it (by simp) _ st
  item := by
    intro X hP hw hK hc i pins s σ H E I hf st hg
    subst hP hw hK
    obtain ⟨f0, f1, f2, f3, f4, f5⟩ := hf it (by simp)
    have W := Walks.range (prog := X.prog) (w := X.w) (I.ok.hd hc) it lo 1 n
    refine W.item i s _ _ hg st fun v h' tk hv st' kk => ?_
    obtain ⟨t, rfl⟩ := hv
    have I1 : Inv X pins σ H { s with heap := h', toks := tk } := I.turned (fun b o hb e => kk b o (by simpa using hb) e) f0 f1 f3 f4 f5
    refine ⟨_, rfl, go_of (s := { s with heap := h', toks := tk }) (n := "range_iterator") st' rfl rfl (by decide) ⟨.int (lo + i), H, I1, ⟨t, ?_⟩, ⟨rfl, rfl⟩, st', fun b hb => (hf b hb).1⟩⟩
    rw [Int.mul_one]
  done := by
    intro X hP hw hK hc i pins s σ H E I hf st hg
    subst hP hw hK
    obtain ⟨f0, f1, f2, f3, f4, f5⟩ := hf it (by simp)
    exact wpAny_pyNext_range_end (I.ok.hd hc) st (by have : n ≤ i := hg; omega) fun h' eb => ⟨rfl, I.turned (t' := s.toks) (fun b o hb e => eb b o hb e) f0 f1 f3 f4 f5⟩
  self := fun _ _ _ _ _ st h => wpAny_pyIter_rangeiter st h
end L2

namespace L2
open PySem PySem.Spec PyProof.Rows
section
variable {X : Cx} {tg : Expr}
def iList (K : PySem.W.Frag) (tl : TE) : TI := fun σ H R => tl σ H fun x H1 => ∃ a, x = .ref a ∧ (∃ xs, SqL K H1 a xs) ∧ R (Itl K a) H1
def iTup (K : PySem.W.Frag) (tl : TE) : TI := fun σ H R => tl σ H fun x H1 => ∃ a, x = .ref a ∧ (∃ xs, SqT K H1 a xs) ∧ R (Itt K a) H1
theorem pi_list {l : Expr} {tl : TE} (hl : PE X l tl) : PI X tg l (iList X.K tl) := by
  intro pins s σ H R I h
  refine thn (hl pins s σ H _ I h) fun v s1 ⟨x, H1, I1, r1, q1⟩ => ?_
  obtain ⟨a, e, ⟨xs, hq⟩, q⟩ := q1
  subst e
  cases r1
  obtain ⟨its, rv, p, hz⟩ := I1.list hq
  refine wpAny_pyIter_list p.isList ?_
  refine ⟨s1.heap.objs.size, [s1.heap.objs.size], _, _, H1, rfl, I1.kept (t' := s1.toks) fun b o e => Heap.get?_push_of_some _ e, turn_list a _, ⟨_, Heap.get?_push_size _ rfl, rfl, rfl⟩, fun b hb => ?_, q⟩
  have e : b = s1.heap.objs.size := by simpa using hb
  subst e
  exact I1.fpOk (Nat.le_refl _) (I1.hok.fresh (Nat.le_refl _))
theorem pi_tup {l : Expr} {tl : TE} (hl : PE X l tl) : PI X tg l (iTup X.K tl) := by
  intro pins s σ H R I h
  refine thn (hl pins s σ H _ I h) fun v s1 ⟨x, H1, I1, r1, q1⟩ => ?_
  obtain ⟨a, e, ⟨xs, hq⟩, q⟩ := q1
  subst e
  cases r1
  obtain ⟨its, rv, p, hz⟩ := I1.tuple hq
  refine wpAny_pyIter_tuple (show s1.heap.IsTuple a its.toArray from p) ?_
  refine ⟨s1.heap.objs.size, [s1.heap.objs.size], _, _, H1, rfl, I1.kept (t' := s1.toks) fun b o e => Heap.get?_push_of_some _ e, turn_tuple a _, ⟨_, Heap.get?_push_size _ rfl, rfl, rfl⟩, fun b hb => ?_, q⟩
  have e : b = s1.heap.objs.size := by simpa using hb
  subst e
  exact I1.fpOk (Nat.le_refl _) (I1.hok.fresh (Nat.le_refl _))
/-- a range object just made, walked -/
theorem range_it {pins : List (Addr × Obj)} {σ : St} {H : Hp} {s : Shared} {R : It → Hp → Prop} {E : Value → Shared → Prop} {lo hi : Int} {t u v : Tok} {tk : Nat} (I : Inv X pins σ H s) (h1 : -(2 ^ 62) ≤ lo) (h2 : lo < 2 ^ 62) (h3 : -(2 ^ 62) ≤ hi) (h4 : hi < 2 ^ 62)
    (q : R (Itr lo (hi - lo).toNat) H) : wpAny (model X.prog X.w) X.A (pyIter (.ref s.heap.objs.size)) (PIE X pins σ tg R) E { s with heap := s.heap.push { cls := .type "range", data := .fields #[.int lo t, .int hi u, .int 1 v] }, toks := tk } := by
  refine wpAny_pyIter_range (IsRange.new ..) (small_one h1 h2 h3 h4) ?_
  have I1 : Inv X pins σ H { s with heap := s.heap.push { cls := .type "range", data := .fields #[.int lo t, .int hi u, .int 1 v] }, toks := tk } := I.kept fun b o e => Heap.get?_push_of_some _ e
  refine ⟨(s.heap.push { cls := .type "range", data := .fields #[.int lo t, .int hi u, .int 1 v] }).objs.size, [(s.heap.push { cls := .type "range", data := .fields #[.int lo t, .int hi u, .int 1 v] }).objs.size], _, _, H, rfl,
    I1.kept (t' := tk) fun b o e => Heap.get?_push_of_some _ e, turn_range _ lo (hi - lo).toNat, ?_, fun b hb => ?_, q⟩
  · have e1 : lo + ((0 : Nat) : Int) * 1 = lo := by simp
    have e2 : (((hi - lo).toNat : Nat) : Int) - ((0 : Nat) : Int) = Builtin.Range.rangeSize lo hi 1 := by rw [rangeSize_one]; split <;> omega
    show IsRangeIter _ _ (lo + ((0 : Nat) : Int) * 1) ((((hi - lo).toNat : Nat) : Int) - ((0 : Nat) : Int)) 1
    rw [e1, e2]
    exact Heap.get?_push_size _ rfl
  · have e : b = (s.heap.push { cls := .type "range", data := .fields #[.int lo t, .int hi u, .int 1 v] }).objs.size := by simpa using hb
    subst e
    exact I1.fpOk (Nat.le_refl _) (I1.hok.fresh (Nat.le_refl _))
def iRng1 (ta : TA) : TI := fun σ H R => ta σ H fun vs H1 => ∃ j : Int, vs = [.int j] ∧ -(2 ^ 62) ≤ j ∧ j < 2 ^ 62 ∧ R (Itr 0 j.toNat) H1
def iRng2 (ta : TA) : TI := fun σ H R => ta σ H fun vs H1 => ∃ i j : Int, vs = [.int i, .int j] ∧ (-(2 ^ 62) ≤ i ∧ i < 2 ^ 62 ∧ -(2 ^ 62) ≤ j ∧ j < 2 ^ 62) ∧ R (Itr i (j - i).toNat) H1
theorem pi_range1 {a : Expr} {ta : TA} {p pos : Pos} (hg : Gl X "range") (hm : X.mg "range" = none) (ha : PA X [a] ta) (hs : starEach [a] X.env = [(false, eval a X.env)] := by rfl) : PI X tg (.Call (.Name "range" p) [a] [] pos) (iRng1 ta) := by
  intro pins s σ H R I h
  refine Call_ (ld_blt I hg hm boot_range (PyProof.Rows.callWith_type1 (thn (ha pos pins s σ H _ I h) fun us s1 ⟨vs, H1, I1, r1, q1⟩ => ?_) hs rfl))
  obtain ⟨j, e, q1, q2, q⟩ := q1
  subst e
  cases r1 with
  | cons r rr =>
    cases rr
    obtain ⟨t, rfl⟩ := r
    exact call_range_1 (range_it I1 (by omega) (by omega) q1 q2 (by simpa using q))
theorem pi_range2 {a b : Expr} {ta : TA} {p pos : Pos} (hg : Gl X "range") (hm : X.mg "range" = none) (ha : PA X [a, b] ta) (hs : starEach [a, b] X.env = [(false, eval a X.env), (false, eval b X.env)] := by rfl) (hs2 : starEach [b] X.env = [(false, eval b X.env)] := by rfl) :
    PI X tg (.Call (.Name "range" p) [a, b] [] pos) (iRng2 ta) := by
  intro pins s σ H R I h
  refine Call_ (ld_blt I hg hm boot_range (PyProof.Rows.callWith_type1 (thn (ha pos pins s σ H _ I h) fun us s1 ⟨vs, H1, I1, r1, q1⟩ => ?_) (by rw [hs, hs2]) (by rw [hs2]; rfl)))
  obtain ⟨i, j, e, ⟨q1, q2, q3, q4⟩, q⟩ := q1
  subst e
  cases r1 with
  | cons r rr =>
    cases rr with
    | cons r' rr =>
      cases rr
      obtain ⟨t, rfl⟩ := r
      obtain ⟨t', rfl⟩ := r'
      exact call_range_2 (range_it I1 q1 q2 q3 q4 q)

/-! ### for -/
/-- W: the invariant by the turn and a measure; N: what the body is to reach -/
def tFor (wi : TI) (g : TG) (tb : TS) : TS := fun D σ H => wi σ H fun J H1 => ∃ W : Nat → Nat → St → Hp → Prop, (∃ m, W 0 m σ H1) ∧ ∀ i m σ H, W i m σ H →
  (J.stop i H ∧ D.nx σ H) ∨ (J.go i H ∧ ∃ N : St → Hp → Prop, (∀ σ' H', N σ' H' → ∃ m', m' < m ∧ W (i + 1) m' σ' H') ∧ ∀ x H', J.yld i H x H' → g x σ H' fun σ2 H2 => tb { D with nx := N, ct := N, bk := D.nx } σ2 H2)
/-- the records at fp as they stand -/
def pinsAt (fp : List Addr) (h : Heap) : List (Addr × Obj) := fp.filterMap fun b => (h.get? b).map fun o => (b, o)
theorem mem_pinsAt {fp : List Addr} {h : Heap} {b : Addr} {o : Obj} (hb : b ∈ fp) (e : h.get? b = some o) : (b, o) ∈ pinsAt fp h := List.mem_filterMap.mpr ⟨b, hb, by rw [e]; rfl⟩
theorem of_pinsAt {fp : List Addr} {h : Heap} {p : Addr × Obj} (hp : p ∈ pinsAt fp h) : p.1 ∈ fp ∧ h.get? p.1 = some p.2 := by
  obtain ⟨b, hb, e⟩ := List.mem_filterMap.mp hp
  cases q : h.get? b with
  | none => rw [q] at e; cases e
  | some o =>
    rw [q] at e
    have e' : (b, o) = p := Option.some.inj e
    subst e'
    exact ⟨hb, q⟩
theorem Inv.pinned {pins : List (Addr × Obj)} {σ : St} {H : Hp} {s : Shared} {fp : List Addr} (I : Inv X pins σ H s) (hf : ∀ b ∈ fp, FpOk X pins H b) (ho : ∀ b ∈ fp, ∃ o, s.heap.get? b = some o ∧ ∀ v, o.data ≠ .cell v) : Inv X (pins ++ pinsAt fp s.heap) σ H s :=
  I.pins_of fun p hp => (List.mem_append.mp hp).elim (fun z => I.pin p (List.mem_append_right _ z)) fun z => by
    obtain ⟨hb, e⟩ := of_pinsAt z
    obtain ⟨f0, f1, f2, _⟩ := hf p.1 hb
    obtain ⟨o, e', d⟩ := ho p.1 hb
    rw [e] at e'; cases e'
    exact ⟨e, f0, f1, f2, d⟩
theorem Inv.unpinned {pins pl : List (Addr × Obj)} {σ : St} {H : Hp} {s : Shared} (I : Inv X (pins ++ pl) σ H s) : Inv X pins σ H s := I.pins_of fun p hp => I.pin p (List.mem_append_right _ (List.mem_append_left _ hp))
theorem ps_for {iter : Expr} {body : List Stmt} {wi : TI} {g : TG} {tb : TS} {pos : Pos} (hp : PassesOwn (model X.prog X.w) X.A X.env X.xe) (hc : X.calm = true) (hi : PI X tg iter wi) (hg : PG X tg g) (hb : PSs X body tb)
    (hs : ∀ x, foldedSetIterable iter X.env x = pure x := by intro _; rfl) : PS X (.For tg iter body [] pos) (tFor wi g tb) := by
  intro pins s σ H D I h
  refine wpAny_For (thn (hi pins s σ H _ I h) fun v s1 h1 => thn h1 fun itv s2 h2 => ?_) hs
  obtain ⟨it, fp, tn, J, H2, e, I2, T, st2, f2, W, ⟨m0, w0⟩, turn⟩ := h2
  subst e
  -- what stays true of the iterator's objects through the loop
  have stat : ∀ {H' : Hp}, (∀ b ∈ fp, H' b = none) → ∀ b ∈ fp, FpOk X pins H' b := fun hn b hb => ⟨hn b hb, (f2 b hb).2⟩
  refine codeAny_forLoop_any (fun n s' => ∃ i σ' H', Inv X pins σ' H' s' ∧ tn i s'.heap ∧ (∀ b ∈ fp, H' b = none) ∧ W i n σ' H') ?_ m0 ⟨0, σ, H2, I2, st2, fun b hb => (f2 b hb).1, w0⟩
  rintro n s3 ⟨i, σ3, H3, I3, st3, fr3, w3⟩
  rcases turn i n σ3 H3 w3 with ⟨stop, qn⟩ | ⟨go, N, hN, step⟩
  · refine wpAny_passesOwn hp (thn (T.done X rfl rfl rfl hc i pins s3 σ3 H3 X.xe I3 (stat fr3) st3 stop) fun r s4 ⟨hr, I4⟩ => ?_)
    subst hr
    exact wpAny_execs_nil ⟨σ3, H3, I4, qn⟩
  · refine wpAny_passesOwn hp (thn (T.item X rfl rfl rfl hc i pins s3 σ3 H3 X.xe I3 (stat fr3) st3 go) fun r s4 ⟨u, hr, h4⟩ => ?_)
    subst hr
    refine wpAny_passesOwn hp (thn h4 fun _ s5 ⟨x, H5, I5, r5, y5, st5, fr5⟩ => ?_)
    have I5' := I5.pinned (stat fr5) (T.obj _ _ st5)
    refine wpAny_passesOwn hp (thn (hg _ s5 σ3 H5 x u _ I5' r5 (step x H5 y5)) fun _ s6 ⟨σ6, H6, I6, q6⟩ => ?_)
    refine wpAny_passesOwn hp (thn (hb _ s6 σ6 H6 _ I6 q6) fun f s7 q7 => ?_)
    have again : ∀ {σ7 : St} {H7 : Hp}, Inv X (pins ++ pinsAt fp s5.heap) σ7 H7 s7 → N σ7 H7 → ∃ m, m < n ∧ ∃ i σ' H', Inv X pins σ' H' s7 ∧ tn i s7.heap ∧ (∀ b ∈ fp, H' b = none) ∧ W i m σ' H' := fun {σ7 H7} I7 n7 => by
      obtain ⟨m', hm, w7⟩ := hN σ7 H7 n7
      refine ⟨m', hm, i + 1, σ7, H7, I7.unpinned, T.keep _ _ _ st5 fun b hb o e => (I7.pin (b, o) (List.mem_append_right _ (List.mem_append_right _ (mem_pinsAt hb e)))).1, fun b hb => ?_, w7⟩
      obtain ⟨o, e, d⟩ := T.obj _ _ st5 b hb
      exact (I7.pin (b, o) (List.mem_append_right _ (List.mem_append_right _ (mem_pinsAt hb e)))).2.1
    cases f with
    | next => obtain ⟨σ7, H7, I7, n7⟩ := q7; exact again I7 n7
    | cont => obtain ⟨σ7, H7, I7, n7⟩ := q7; exact again I7 n7
    | brk => obtain ⟨σ7, H7, I7, q7⟩ := q7; exact ⟨σ7, H7, I7.unpinned, q7⟩
    | ret v => obtain ⟨x7, σ7, H7, I7, r7, q7⟩ := q7; exact ⟨x7, σ7, H7, I7.unpinned, r7, q7⟩
end

/-! ### the forms one uses -/
/-- over a list that the body leaves as it is -/
theorem for_list {K : PySem.W.Frag} {a : Addr} {xs : List V} {g : TG} {tb : TS} {D : Ends} {σ : St} {H : Hp} (Pv : Nat → St → Hp → Prop) (h0 : Pv 0 σ H) (hl : ∀ i σ H, i ≤ xs.length → Pv i σ H → SqL K H a xs)
    (hs : ∀ i x σ H, xs[i]? = some x → Pv i σ H → g x σ H fun σ2 H2 => tb { D with nx := Pv (i + 1), ct := Pv (i + 1), bk := D.nx } σ2 H2) (hd : ∀ σ H, Pv xs.length σ H → D.nx σ H) :
    ∃ W : Nat → Nat → St → Hp → Prop, (∃ m, W 0 m σ H) ∧ ∀ i m σ H, W i m σ H →
      ((Itl K a).stop i H ∧ D.nx σ H) ∨ ((Itl K a).go i H ∧ ∃ N : St → Hp → Prop, (∀ σ' H', N σ' H' → ∃ m', m' < m ∧ W (i + 1) m' σ' H') ∧ ∀ x H', (Itl K a).yld i H x H' → g x σ H' fun σ2 H2 => tb { D with nx := N, ct := N, bk := D.nx } σ2 H2) := by
  refine ⟨fun i m σ H => m = xs.length - i ∧ i ≤ xs.length ∧ Pv i σ H, ⟨xs.length, by simp, Nat.zero_le _, h0⟩, ?_⟩
  rintro i m σ H ⟨rfl, hi, p⟩
  have q := hl i σ H hi p
  by_cases hlt : i < xs.length
  · refine .inr ⟨⟨xs, xs[i], q, by simp [hlt]⟩, Pv (i + 1), fun σ' H' p' => ⟨xs.length - (i + 1), by omega, rfl, hlt, p'⟩, fun x H' y => ?_⟩
    obtain ⟨e, y⟩ := y
    subst e
    exact hs i x σ _ (y xs q) p
  · have e : i = xs.length := by omega
    subst e
    exact .inl ⟨⟨xs, q, Nat.le_refl _⟩, hd σ H p⟩
theorem for_tup {K : PySem.W.Frag} {a : Addr} {xs : List V} {g : TG} {tb : TS} {D : Ends} {σ : St} {H : Hp} (Pv : Nat → St → Hp → Prop) (h0 : Pv 0 σ H) (hl : ∀ i σ H, i ≤ xs.length → Pv i σ H → SqT K H a xs)
    (hs : ∀ i x σ H, xs[i]? = some x → Pv i σ H → g x σ H fun σ2 H2 => tb { D with nx := Pv (i + 1), ct := Pv (i + 1), bk := D.nx } σ2 H2) (hd : ∀ σ H, Pv xs.length σ H → D.nx σ H) :
    ∃ W : Nat → Nat → St → Hp → Prop, (∃ m, W 0 m σ H) ∧ ∀ i m σ H, W i m σ H →
      ((Itt K a).stop i H ∧ D.nx σ H) ∨ ((Itt K a).go i H ∧ ∃ N : St → Hp → Prop, (∀ σ' H', N σ' H' → ∃ m', m' < m ∧ W (i + 1) m' σ' H') ∧ ∀ x H', (Itt K a).yld i H x H' → g x σ H' fun σ2 H2 => tb { D with nx := N, ct := N, bk := D.nx } σ2 H2) := by
  refine ⟨fun i m σ H => m = xs.length - i ∧ i ≤ xs.length ∧ Pv i σ H, ⟨xs.length, by simp, Nat.zero_le _, h0⟩, ?_⟩
  rintro i m σ H ⟨rfl, hi, p⟩
  have q := hl i σ H hi p
  by_cases hlt : i < xs.length
  · refine .inr ⟨⟨xs, xs[i], q, by simp [hlt]⟩, Pv (i + 1), fun σ' H' p' => ⟨xs.length - (i + 1), by omega, rfl, hlt, p'⟩, fun x H' y => ?_⟩
    obtain ⟨e, y⟩ := y
    subst e
    exact hs i x σ _ (y xs q) p
  · have e : i = xs.length := by omega
    subst e
    exact .inl ⟨⟨xs, q, Nat.le_refl _⟩, hd σ H p⟩
theorem for_range {lo : Int} {n : Nat} {g : TG} {tb : TS} {D : Ends} {σ : St} {H : Hp} (Pv : Nat → St → Hp → Prop) (h0 : Pv 0 σ H)
    (hs : ∀ i σ H, i < n → Pv i σ H → g (.int (lo + i)) σ H fun σ2 H2 => tb { D with nx := Pv (i + 1), ct := Pv (i + 1), bk := D.nx } σ2 H2) (hd : ∀ σ H, Pv n σ H → D.nx σ H) :
    ∃ W : Nat → Nat → St → Hp → Prop, (∃ m, W 0 m σ H) ∧ ∀ i m σ H, W i m σ H →
      ((Itr lo n).stop i H ∧ D.nx σ H) ∨ ((Itr lo n).go i H ∧ ∃ N : St → Hp → Prop, (∀ σ' H', N σ' H' → ∃ m', m' < m ∧ W (i + 1) m' σ' H') ∧ ∀ x H', (Itr lo n).yld i H x H' → g x σ H' fun σ2 H2 => tb { D with nx := N, ct := N, bk := D.nx } σ2 H2) := by
  refine ⟨fun i m σ H => m = n - i ∧ i ≤ n ∧ Pv i σ H, ⟨n, by simp, Nat.zero_le _, h0⟩, ?_⟩
  rintro i m σ H ⟨rfl, hi, p⟩
  by_cases hlt : i < n
  · refine .inr ⟨hlt, Pv (i + 1), fun σ' H' p' => ⟨n - (i + 1), by omega, rfl, hlt, p'⟩, fun x H' y => ?_⟩
    obtain ⟨e, y⟩ := y
    subst e y
    exact hs i σ _ hlt p
  · have e : i = n := by omega
    subst e
    exact .inl ⟨Nat.le_refl _, hd σ H p⟩
/-- while, by a word and a measure of the state -/
theorem while_by {c : TT} {tb : TS} {D : Ends} {σ : St} {H : Hp} (Pv : St → Hp → Prop) (μ : St → Hp → Nat) (h0 : Pv σ H)
    (hs : ∀ σ H, Pv σ H → c σ H fun b H1 => if b = true then tb { D with nx := fun σ' H' => Pv σ' H' ∧ μ σ' H' < μ σ H, ct := fun σ' H' => Pv σ' H' ∧ μ σ' H' < μ σ H, bk := D.nx } σ H1 else D.nx σ H1)
    (mono : ∀ σ H Q Q', (∀ b H1, Q b H1 → Q' b H1) → c σ H Q → c σ H Q') : tWhile c tb D σ H := by
  refine ⟨fun m σ H => m = μ σ H ∧ Pv σ H, ⟨_, rfl, h0⟩, ?_⟩
  rintro m σ H ⟨rfl, p⟩
  refine mono σ H _ _ (fun b H1 q => ?_) (hs σ H p)
  cases b with
  | true => exact ⟨_, fun σ' H' ⟨p', l⟩ => ⟨_, l, rfl, p'⟩, q⟩
  | false => exact q
end L2

namespace L2
open PySem PySem.Spec PyProof.Rows

abbrev R2 := V → V → Hp → VK → Prop
/-- a two-place operation on values: f is binaryOp op, inplaceOp op or compareOp op -/
def OpR (X : Cx) (f : Value → Value → Sem Value) (r : R2) : Prop :=
  ∀ (pins : List (Addr × Obj)) (s : Shared) (σ : St) (H : Hp) (x y : V) (v u : Value) (Q : VK), Inv X pins σ H s → RelV x v → RelV y u → r x y H Q →
    wpAny (model X.prog X.w) X.A (f v u) (EP X pins σ Q) X.xe s
/-- a one-place operation -/
def UnR (X : Cx) (f : Value → Sem Value) (r : V → Hp → VK → Prop) : Prop :=
  ∀ (pins : List (Addr × Obj)) (s : Shared) (σ : St) (H : Hp) (x : V) (v : Value) (Q : VK), Inv X pins σ H s → RelV x v → r x H Q →
    wpAny (model X.prog X.w) X.A (f v) (EP X pins σ Q) X.xe s
/-- a call of a value that is known (a builtin, a type) with values -/
def CallR (X : Cx) (f : Value) (r : List V → Hp → VK → Prop) : Prop :=
  ∀ (pins : List (Addr × Obj)) (s : Shared) (σ : St) (H : Hp) (xs : List V) (us : List Value) (Q : VK), Inv X pins σ H s → Vals xs us → r xs H Q →
    wpAny (model X.prog X.w) X.A (call f us) (EP X pins σ Q) X.xe s
/-- a value's truth -/
def TruR (X : Cx) (r : V → Hp → (Bool → Hp → Prop) → Prop) : Prop :=
  ∀ (pins : List (Addr × Obj)) (s : Shared) (σ : St) (H : Hp) (x : V) (v : Value) (Q : Bool → Hp → Prop), Inv X pins σ H s → RelV x v → r x H Q →
    wpAny (model X.prog X.w) X.A (truthy v) (TP X pins σ Q) X.xe s

def tOp (r : R2) (ta tb : TE) : TE := fun σ H Q => ta σ H fun x H1 => tb σ H1 fun y H2 => r x y H2 Q
def tUn (r : V → Hp → VK → Prop) (ta : TE) : TE := fun σ H Q => ta σ H fun x H1 => r x H1 Q
/-- ints in, under C, and a value out -/
def rI (C : Int → Int → Prop) (g : Int → Int → V) : R2 := fun x y H Q => ∃ i j, x = .int i ∧ y = .int j ∧ C i j ∧ Q (g i j) H
def rI0 (g : Int → Int → V) : R2 := fun x y H Q => ∃ i j, x = .int i ∧ y = .int j ∧ Q (g i j) H
def rU (g : Int → V) : V → Hp → VK → Prop := fun x H Q => ∃ i, x = .int i ∧ Q (g i) H

section
variable {X : Cx} {a b c : Expr} {ta tb tc : TE} {pos : Pos}

theorem binT (ha : PE X a ta) (hb : PE X b tb) {pins : List (Addr × Obj)} {s : Shared} {σ : St} {H : Hp} {R : V → V → Hp → Prop} (I : Inv X pins σ H s)
    (h : ta σ H fun x H1 => tb σ H1 fun y H2 => R x y H2) {Q : Value → Shared → Prop} {f : Value → Value → Sem Value}
    (hf : ∀ v u s2 x y H2, Inv X pins σ H2 s2 → RelV x v → RelV y u → R x y H2 → wpAny (model X.prog X.w) X.A (f v u) Q X.xe s2) :
    wpAny (model X.prog X.w) X.A (eval a X.env) (fun v s₁ => wpAny (model X.prog X.w) X.A (eval b X.env) (fun u s₂ => wpAny (model X.prog X.w) X.A (f v u) Q X.xe s₂) X.xe s₁) X.xe s := by
  refine thn (ha pins s σ H _ I h) fun v s1 ⟨x, H1, I1, r1, q1⟩ => ?_
  refine thn (hb pins s1 σ H1 _ I1 q1) fun u s2 ⟨y, H2, I2, r2, q2⟩ => ?_
  exact hf v u s2 x y H2 I2 r1 r2 q2

theorem pe_op {op : Operator} {r : R2} (ho : OpR X (binaryOp op) r) (ha : PE X a ta) (hb : PE X b tb) : PE X (.BinOp a op b pos) (tOp r ta tb) := by
  intro pins s σ H Q I h
  exact wpAny_BinOp (binT ha hb I h fun v u s2 x y H2 I2 rx ry q => ho pins s2 σ H2 x y v u Q I2 rx ry q)
theorem pe_un {op : UnaryOp} {r : V → Hp → VK → Prop} (ho : UnR X (unaryOp op) r) (ha : PE X a ta) : PE X (.UnaryOp op a pos) (tUn r ta) := by
  intro pins s σ H Q I h
  exact UnaryOp_ (thn (ha pins s σ H _ I h) fun v s1 ⟨x, H1, I1, r1, q1⟩ => ho pins s1 σ H1 x v Q I1 r1 q1)
/-- a op= e at a name: the name's slot i -/
theorem augR {op : Operator} {r : R2} (ho : OpR X (inplaceOp op) r) {pins : List (Addr × Obj)} {s : Shared} {σ : St} {H : Hp} {x y : V} {v u : Value} {Q : VK} (I : Inv X pins σ H s)
    (rx : RelV x v) (ry : RelV y u) (q : r x y H Q) : wpAny (model X.prog X.w) X.A (inplaceOp op v u) (EP X pins σ Q) X.xe s := ho pins s σ H x y v u Q I rx ry q

/-! ### ints -/
theorem opI {f : Value → Value → Sem Value} {C : Int → Int → Prop} {g : Int → Int → Int}
    (rule : ∀ (i j : Int) (t u : Tok) (s : Shared) (Q : Value → Shared → Prop) (E : Value → Shared → Prop), C i j → Q (.int (g i j) s.toks) { s with toks := s.toks + 1 } → wpAny (model X.prog X.w) X.A (f (.int i t) (.int j u)) Q E s) :
    OpR X f (rI C fun i j => .int (g i j)) := by
  intro pins s σ H x y v u Q I rx ry h
  obtain ⟨i, j, rfl, rfl, hc, q⟩ := h
  obtain ⟨t, rfl⟩ := rx
  obtain ⟨t', rfl⟩ := ry
  exact rule i j t t' s _ _ hc ⟨.int (g i j), H, I.tok _, ⟨_, rfl⟩, q⟩
theorem opI0 {f : Value → Value → Sem Value} {g : Int → Int → Int}
    (rule : ∀ (i j : Int) (t u : Tok) (s : Shared) (Q : Value → Shared → Prop) (E : Value → Shared → Prop), Q (.int (g i j) s.toks) { s with toks := s.toks + 1 } → wpAny (model X.prog X.w) X.A (f (.int i t) (.int j u)) Q E s) :
    OpR X f (rI0 fun i j => .int (g i j)) := by
  intro pins s σ H x y v u Q I rx ry h
  obtain ⟨i, j, rfl, rfl, q⟩ := h
  obtain ⟨t, rfl⟩ := rx
  obtain ⟨t', rfl⟩ := ry
  exact rule i j t t' s _ _ ⟨.int (g i j), H, I.tok _, ⟨_, rfl⟩, q⟩
theorem opB0 {f : Value → Value → Sem Value} {g : Int → Int → Bool}
    (rule : ∀ (i j : Int) (t u : Tok) (s : Shared) (Q : Value → Shared → Prop) (E : Value → Shared → Prop), Q (.bool (g i j)) s → wpAny (model X.prog X.w) X.A (f (.int i t) (.int j u)) Q E s) :
    OpR X f (rI0 fun i j => .bl (g i j)) := by
  intro pins s σ H x y v u Q I rx ry h
  obtain ⟨i, j, rfl, rfl, q⟩ := h
  obtain ⟨t, rfl⟩ := rx
  obtain ⟨t', rfl⟩ := ry
  exact rule i j t t' s _ _ ⟨.bl (g i j), H, I, rfl, q⟩

def CDiv (i j : Int) : Prop := 0 < j ∧ j < 1073741824
def CDivN (i j : Int) : Prop := j ≠ 0 ∧ j.natAbs < 1073741824
def CPow (i j : Int) : Prop := 0 ≤ j ∧ j ≤ 1000000 ∧ i.natAbs < 2 ^ 64
def CMul (i j : Int) : Prop := (-(2 ^ 64) < i ∧ i < 2 ^ 64) ∨ (-(2 ^ 64) < j ∧ j < 2 ^ 64)
theorem CMul.ok {i j : Int} (h : CMul i j) : IntMulOk i j := by
  rcases h with ⟨h1, h2⟩ | ⟨h1, h2⟩
  · exact .of_left (intBits_le_64 h1 h2)
  · exact .of_right (intBits_le_64 h1 h2)
theorem two_pow_nn (k : Nat) : (0 : Int) ≤ 2 ^ k := by
  rw [two_pow_cast]
  exact Int.natCast_nonneg _

theorem op_add : OpR X (binaryOp .Add) (rI0 fun i j => .int (i + j)) := opI0 fun _ _ _ _ _ _ _ q => add_int q
theorem op_sub : OpR X (binaryOp .Sub) (rI0 fun i j => .int (i - j)) := opI0 fun _ _ _ _ _ _ _ q => sub_int q
theorem op_mul : OpR X (binaryOp .Mult) (rI CMul fun i j => .int (i * j)) := opI fun _ _ _ _ _ _ _ hc q => mul_int q hc.ok
/-- // by a positive divisor -/
theorem op_fdiv : OpR X (binaryOp .FloorDiv) (rI CDiv fun i j => .int (i / j)) := opI fun i j _ _ _ _ _ hc q => by
  have h1 : (0 : Int) < j := hc.1
  have h2 : j < 1073741824 := hc.2
  exact floordiv_int (by omega) (by rw [Int.fdiv_eq_ediv_of_nonneg i (by omega)]; exact q) (.inl (PyProof.noPylong_small (by omega)))
theorem op_fdivN : OpR X (binaryOp .FloorDiv) (rI CDivN fun i j => .int (i.fdiv j)) := opI fun _ _ _ _ _ _ _ hc q => floordiv_int hc.1 q (.inl (PyProof.noPylong_small hc.2))
/-- % by a positive divisor of any size -/
theorem op_mod : OpR X (binaryOp .Mod) (rI (fun _ j => 0 < j) fun i j => .int (i % j)) := opI fun i j _ _ _ _ _ hc q => by
  have h1 : (0 : Int) < j := hc
  exact mod_int' (by omega) (by rw [Int.fmod_eq_emod_of_nonneg i (by omega)]; exact q)
theorem op_modN : OpR X (binaryOp .Mod) (rI (fun _ j => j ≠ 0) fun i j => .int (i.fmod j)) := opI fun _ _ _ _ _ _ _ hc q => mod_int' hc q
theorem op_pow : OpR X (binaryOp .Pow) (rI CPow fun i j => .int (i ^ j.toNat)) := opI fun _ _ _ _ _ _ _ hc q => pow_int_small hc.1 hc.2.1 hc.2.2 q
theorem op_shl : OpR X (binaryOp .LShift) (rI CPow fun i j => .int (i * 2 ^ j.toNat)) := opI fun _ _ _ _ _ _ _ hc q => lshift_int_small hc.1 hc.2.1 hc.2.2 q
theorem op_shr : OpR X (binaryOp .RShift) (rI (fun _ j => 0 ≤ j) fun i j => .int (i / 2 ^ j.toNat)) := opI fun i j _ _ _ _ _ hc q =>
  rshift_int hc (by rw [Int.fdiv_eq_ediv_of_nonneg i (two_pow_nn _)]; exact q)
theorem op_and : OpR X (binaryOp .BitAnd) (rI0 fun i j => .int (Builtin.bitAnd i j)) := opI0 fun _ _ _ _ _ _ _ q => and_int q
theorem op_or : OpR X (binaryOp .BitOr) (rI0 fun i j => .int (Builtin.bitOr i j)) := opI0 fun _ _ _ _ _ _ _ q => or_int q
theorem op_xor : OpR X (binaryOp .BitXor) (rI0 fun i j => .int (Builtin.bitXor i j)) := opI0 fun _ _ _ _ _ _ _ q => xor_int q

theorem iop_add : OpR X (inplaceOp .Add) (rI0 fun i j => .int (i + j)) := opI0 fun _ _ _ _ _ _ _ q => iadd_int q
theorem iop_sub : OpR X (inplaceOp .Sub) (rI0 fun i j => .int (i - j)) := opI0 fun _ _ _ _ _ _ _ q => isub_int q
theorem iop_mul : OpR X (inplaceOp .Mult) (rI CMul fun i j => .int (i * j)) := opI fun _ _ _ _ _ _ _ hc q => imul_int q hc.ok
theorem iop_fdiv : OpR X (inplaceOp .FloorDiv) (rI CDiv fun i j => .int (i / j)) := opI fun i j _ _ _ _ _ hc q => by
  have h1 : (0 : Int) < j := hc.1
  have h2 : j < 1073741824 := hc.2
  exact ifloordiv_int (by omega) (by rw [Int.fdiv_eq_ediv_of_nonneg i (by omega)]; exact q) (.inl (PyProof.noPylong_small (by omega)))
theorem iop_mod : OpR X (inplaceOp .Mod) (rI (fun _ j => 0 < j) fun i j => .int (i % j)) := opI fun i j _ _ _ _ _ hc q => by
  have h1 : (0 : Int) < j := hc
  exact imod_int (by omega) (by rw [Int.fmod_eq_emod_of_nonneg i (by omega)]; exact q)
theorem iop_shl : OpR X (inplaceOp .LShift) (rI CPow fun i j => .int (i * 2 ^ j.toNat)) := opI fun _ _ _ _ _ _ _ hc q => ilshift_int_small hc.1 hc.2.1 hc.2.2 q
theorem iop_shr : OpR X (inplaceOp .RShift) (rI (fun _ j => 0 ≤ j) fun i j => .int (i / 2 ^ j.toNat)) := opI fun i j _ _ _ _ _ hc q =>
  irshift_int hc (by rw [Int.fdiv_eq_ediv_of_nonneg i (two_pow_nn _)]; exact q)
theorem iop_and : OpR X (inplaceOp .BitAnd) (rI0 fun i j => .int (Builtin.bitAnd i j)) := opI0 fun _ _ _ _ _ _ _ q => iand_int q
theorem iop_or : OpR X (inplaceOp .BitOr) (rI0 fun i j => .int (Builtin.bitOr i j)) := opI0 fun _ _ _ _ _ _ _ q => ior_int q
theorem iop_xor : OpR X (inplaceOp .BitXor) (rI0 fun i j => .int (Builtin.bitXor i j)) := opI0 fun _ _ _ _ _ _ _ q => ixor_int q

theorem unI {f : Value → Sem Value} {g : Int → Int}
    (rule : ∀ (i : Int) (t : Tok) (s : Shared) (Q : Value → Shared → Prop) (E : Value → Shared → Prop), Q (.int (g i) s.toks) { s with toks := s.toks + 1 } → wpAny (model X.prog X.w) X.A (f (.int i t)) Q E s) :
    UnR X f (rU fun i => .int (g i)) := by
  intro pins s σ H x v Q I rx h
  obtain ⟨i, rfl, q⟩ := h
  obtain ⟨t, rfl⟩ := rx
  exact rule i t s _ _ ⟨.int (g i), H, I.tok _, ⟨_, rfl⟩, q⟩
theorem un_neg : UnR X (unaryOp .USub) (rU fun i => .int (-i)) := unI fun _ _ _ _ _ q => neg_int q
theorem un_inv : UnR X (unaryOp .Invert) (rU fun i => .int (Builtin.bitNot i)) := unI fun _ _ _ _ _ q => invert_int q

/-! ### bools among ints: n += (a < b) -/
theorem op_add_ib : OpR X (binaryOp .Add) (fun x y H Q => ∃ i k, x = .int i ∧ y = .bl k ∧ Q (.int (i + b2i k)) H) := by
  intro pins s σ H x y v u Q I rx ry h
  obtain ⟨i, k, rfl, rfl, q⟩ := h
  obtain ⟨t, rfl⟩ := rx
  cases ry
  exact add_int_bool ⟨.int (i + b2i k), H, I.tok _, ⟨_, rfl⟩, q⟩
end

/-! ### comparisons -/
/-- the scalars that == tells apart as data does -/
def scal : V → V → Bool
  | .non, .non => true | .non, .int _ => true | .int _, .non => true | .non, .bl _ => true | .bl _, .non => true | .non, .str _ => true | .str _, .non => true
  | .int _, .int _ => true | .bl _, .bl _ => true | .str _, .str _ => true | .byt _, .byt _ => true
  | .int _, .str _ => true | .str _, .int _ => true | .bl _, .str _ => true | .str _, .bl _ => true
  | _, _ => false
def rEq : R2 := fun x y H Q => scal x y = true ∧ Q (.bl (decide (x = y))) H
def rNe : R2 := fun x y H Q => scal x y = true ∧ Q (.bl (!decide (x = y))) H

theorem dec_int {i j : Int} : decide (V.int i = V.int j) = (i == j) := by
  rw [Bool.eq_iff_iff]
  simp
theorem dec_bl {i j : Bool} : decide (V.bl i = V.bl j) = (i == j) := by
  rw [Bool.eq_iff_iff]
  simp
theorem dec_str {i j : Str} : decide (V.str i = V.str j) = (i == j) := by
  rw [Bool.eq_iff_iff]
  simp
theorem dec_byt {i j : Array UInt8} : decide (V.byt i = V.byt j) = (i.toList == j.toList) := by
  rw [Bool.eq_iff_iff]
  cases i
  cases j
  simp

section
variable {X : Cx} {a b c : Expr} {ta tb tc : TE} {pos : Pos}
theorem fin_bl {pins : List (Addr × Obj)} {σ : St} {H : Hp} {s : Shared} {Q : VK} {k k' : Bool} (I : Inv X pins σ H s) (q : Q (.bl k) H) (e : k = k') : EP X pins σ Q (.bool k') s := by
  subst e
  exact ⟨.bl k, H, I, rfl, q⟩
theorem op_eq : OpR X (compareOp .Eq) rEq := by
  intro pins s σ H x y v u Q I rx ry h
  obtain ⟨hs, q⟩ := h
  cases x with
  | non =>
    cases rx
    cases y with
    | non => cases ry; exact PySem.EqNone.eq_none_none (fin_bl I q (by simp))
    | bl j => cases ry; exact PySem.EqNone.eq_none_bool (fin_bl I q (by simp))
    | int j => obtain ⟨t', rfl⟩ := ry; exact PySem.EqNone.eq_none_int (fin_bl I q (by simp))
    | str j => obtain ⟨t', rfl⟩ := ry; exact PySem.EqNone.eq_none_str (fin_bl I q (by simp))
    | _ => exact absurd (show false = true from hs) Bool.false_ne_true
  | bl i =>
    cases rx
    cases y with
    | non => cases ry; exact PySem.EqNone.eq_bool_none (fin_bl I q (by simp))
    | bl j => cases ry; exact eq_bool (fin_bl I q dec_bl)
    | str j => obtain ⟨t', rfl⟩ := ry; exact PySem.EqMixed.eq_bool_str (fin_bl I q (by simp))
    | _ => exact absurd (show false = true from hs) Bool.false_ne_true
  | int i =>
    obtain ⟨t, rfl⟩ := rx
    cases y with
    | non => cases ry; exact PySem.EqNone.eq_int_none (fin_bl I q (by simp))
    | int j => obtain ⟨t', rfl⟩ := ry; exact eq_int (fin_bl I q dec_int)
    | str j => obtain ⟨t', rfl⟩ := ry; exact PySem.EqMixed.eq_int_str (fin_bl I q (by simp))
    | _ => exact absurd (show false = true from hs) Bool.false_ne_true
  | str i =>
    obtain ⟨t, rfl⟩ := rx
    cases y with
    | non => cases ry; exact PySem.EqNone.eq_str_none (fin_bl I q (by simp))
    | bl j => cases ry; exact PySem.EqMixed.eq_str_bool (fin_bl I q (by simp))
    | int j => obtain ⟨t', rfl⟩ := ry; exact PySem.EqMixed.eq_str_int (fin_bl I q (by simp))
    | str j => obtain ⟨t', rfl⟩ := ry; exact eq_str (fin_bl I q dec_str)
    | _ => exact absurd (show false = true from hs) Bool.false_ne_true
  | byt i =>
    obtain ⟨t, rfl⟩ := rx
    cases y with
    | byt j => obtain ⟨t', rfl⟩ := ry; exact PySem.W.eq_bytes (fin_bl I q dec_byt)
    | _ => exact absurd (show false = true from hs) Bool.false_ne_true
  | _ => cases y <;> exact absurd (show false = true from hs) Bool.false_ne_true
theorem op_ne : OpR X (compareOp .NotEq) rNe := by
  intro pins s σ H x y v u Q I rx ry h
  obtain ⟨hs, q⟩ := h
  cases x with
  | non =>
    cases rx
    cases y with
    | non => cases ry; exact PySem.EqNone.ne_none_none (fin_bl I q (by simp))
    | bl j => cases ry; exact PySem.EqNone.ne_none_bool (fin_bl I q (by simp))
    | int j => obtain ⟨t', rfl⟩ := ry; exact PySem.EqNone.ne_none_int (fin_bl I q (by simp))
    | str j => obtain ⟨t', rfl⟩ := ry; exact PySem.EqNone.ne_none_str (fin_bl I q (by simp))
    | _ => exact absurd (show false = true from hs) Bool.false_ne_true
  | bl i =>
    cases rx
    cases y with
    | non => cases ry; exact PySem.EqNone.ne_bool_none (fin_bl I q (by simp))
    | bl j => cases ry; exact ne_bool (fin_bl I q (congrArg not dec_bl))
    | str j => obtain ⟨t', rfl⟩ := ry; exact PySem.EqMixed.ne_bool_str (fin_bl I q (by simp))
    | _ => exact absurd (show false = true from hs) Bool.false_ne_true
  | int i =>
    obtain ⟨t, rfl⟩ := rx
    cases y with
    | non => cases ry; exact PySem.EqNone.ne_int_none (fin_bl I q (by simp))
    | int j => obtain ⟨t', rfl⟩ := ry; exact ne_int (fin_bl I q (congrArg not dec_int))
    | str j => obtain ⟨t', rfl⟩ := ry; exact PySem.EqMixed.ne_int_str (fin_bl I q (by simp))
    | _ => exact absurd (show false = true from hs) Bool.false_ne_true
  | str i =>
    obtain ⟨t, rfl⟩ := rx
    cases y with
    | non => cases ry; exact PySem.EqNone.ne_str_none (fin_bl I q (by simp))
    | bl j => cases ry; exact PySem.EqMixed.ne_str_bool (fin_bl I q (by simp))
    | int j => obtain ⟨t', rfl⟩ := ry; exact PySem.EqMixed.ne_str_int (fin_bl I q (by simp))
    | str j => obtain ⟨t', rfl⟩ := ry; exact ne_str (fin_bl I q (congrArg not dec_str))
    | _ => exact absurd (show false = true from hs) Bool.false_ne_true
  | byt i =>
    obtain ⟨t, rfl⟩ := rx
    cases y with
    | byt j => obtain ⟨t', rfl⟩ := ry; exact PySem.W.ne_bytes (fin_bl I q (congrArg not dec_byt))
    | _ => exact absurd (show false = true from hs) Bool.false_ne_true
  | _ => cases y <;> exact absurd (show false = true from hs) Bool.false_ne_true

theorem op_lt : OpR X (compareOp .Lt) (rI0 fun i j => .bl (decide (i < j))) := opB0 fun _ _ _ _ _ _ _ q => lt_int q
theorem op_le : OpR X (compareOp .LtE) (rI0 fun i j => .bl (decide (i ≤ j))) := opB0 fun _ _ _ _ _ _ _ q => le_int q
theorem op_gt : OpR X (compareOp .Gt) (rI0 fun i j => .bl (decide (j < i))) := opB0 fun _ _ _ _ _ _ _ q => gt_int q
theorem op_ge : OpR X (compareOp .GtE) (rI0 fun i j => .bl (decide (j ≤ i))) := opB0 fun _ _ _ _ _ _ _ q => ge_int q
theorem op_lt_str : OpR X (compareOp .Lt) (fun x y H Q => ∃ i j, x = .str i ∧ y = .str j ∧ Q (.bl (decide (i.cps.toList < j.cps.toList))) H) := by
  intro pins s σ H x y v u Q I rx ry h
  obtain ⟨i, j, rfl, rfl, q⟩ := h
  obtain ⟨t, rfl⟩ := rx
  obtain ⟨t', rfl⟩ := ry
  exact lt_str (fin_bl I q rfl)
/-- the one string within the other -/
theorem op_in_str : OpR X (compareOp .In) (fun x y H Q => ∃ i j, x = .str i ∧ y = .str j ∧ Q (.bl (!(Builtin.Str.occurrences j i 0 j.length 1).isEmpty)) H) := by
  intro pins s σ H x y v u Q I rx ry h
  obtain ⟨i, j, rfl, rfl, q⟩ := h
  obtain ⟨t, rfl⟩ := rx
  obtain ⟨t', rfl⟩ := ry
  exact in_str (fin_bl I q rfl)

/-- is None, is not None: the right side a value none -/
theorem op_isN : OpR X (compareOp .Is) (fun x y H Q => y = .non ∧ Q (.bl (decide (x = .non))) H) := by
  intro pins s σ H x y v u Q I rx ry h
  obtain ⟨rfl, q⟩ := h
  cases ry
  refine is_none_gen (fin_bl I q ?_)
  cases x <;> first
    | (cases rx; rfl)
    | (obtain ⟨t, rfl⟩ := rx; rfl)
theorem op_notN : OpR X (compareOp .IsNot) (fun x y H Q => y = .non ∧ Q (.bl (!decide (x = .non))) H) := by
  intro pins s σ H x y v u Q I rx ry h
  obtain ⟨rfl, q⟩ := h
  cases ry
  refine isnot_none_gen (fin_bl I q ?_)
  cases x <;> first
    | (cases rx; rfl)
    | (obtain ⟨t, rfl⟩ := rx; rfl)

theorem op_notin_str : OpR X (compareOp .NotIn) (fun x y H Q => ∃ i j, x = .str i ∧ y = .str j ∧ Q (.bl (!(!(Builtin.Str.occurrences j i 0 j.length 1).isEmpty))) H) := by
  intro pins s σ H x y v u Q I rx ry h
  obtain ⟨i, j, rfl, rfl, q⟩ := h
  obtain ⟨t, rfl⟩ := rx
  obtain ⟨t', rfl⟩ := ry
  exact notIn_str (fin_bl I q rfl)
/-- is, is not of two objects that are tracked lists or instances -/
def isObj : HO → Bool
  | .lst _ => true
  | .ins _ _ _ => true
  | _ => false
theorem obj_there {pins : List (Addr × Obj)} {s : Shared} {σ : St} {H : Hp} {a : Addr} {o : HO} (I : Inv X pins σ H s) (h : H a = some o) (p : isObj o = true) : ∃ ob, s.heap.get? a = some ob ∧ ob.cls ≠ .type "tuple" := by
  cases o with
  | lst xs =>
    obtain ⟨_, its, n, _, e⟩ : xs.length ≤ sizeLine ∧ ∃ (its : List Value) (n : Nat), Vals xs its ∧ s.heap.get? a = some { cls := .type "list", data := .seq its.toArray n } := I.hok a _ h
    exact ⟨_, e, (by show Value.type "list" ≠ .type "tuple"; decide +kernel)⟩
  | ins C dx fs =>
    have x := I.hok a _ h
    obtain ⟨_, _, _, e, _⟩ := x
    exact ⟨_, e, (by show Value.ref C ≠ .type "tuple"; exact fun z => by cases z)⟩
  | _ => exact absurd (show false = true from p) Bool.false_ne_true
theorem op_is_ref : OpR X (compareOp .Is) (fun x y H Q => ∃ a b oa ob, x = .ref a ∧ y = .ref b ∧ H a = some oa ∧ isObj oa = true ∧ H b = some ob ∧ isObj ob = true ∧ Q (.bl (decide (a = b))) H) := by
  intro pins s σ H x y v u Q I rx ry h
  obtain ⟨a, b, oa, ob, rfl, rfl, ha, pa, hb, pb, q⟩ := h
  cases rx
  cases ry
  obtain ⟨o1, e1, n1⟩ := obj_there I ha pa
  obtain ⟨o2, e2, _⟩ := obj_there I hb pb
  by_cases z : a = b
  · subst z
    exact wpAny_is_ref_self (fin_bl I q (by simp))
  · exact wpAny_is_ref_other z e1 e2 n1 (fin_bl I q (by simp [z]))
theorem op_isnot_ref : OpR X (compareOp .IsNot) (fun x y H Q => ∃ a b oa ob, x = .ref a ∧ y = .ref b ∧ H a = some oa ∧ isObj oa = true ∧ H b = some ob ∧ isObj ob = true ∧ Q (.bl (!decide (a = b))) H) := by
  intro pins s σ H x y v u Q I rx ry h
  obtain ⟨a, b, oa, ob, rfl, rfl, ha, pa, hb, pb, q⟩ := h
  cases rx
  cases ry
  obtain ⟨o1, e1, n1⟩ := obj_there I ha pa
  obtain ⟨o2, e2, _⟩ := obj_there I hb pb
  by_cases z : a = b
  · subst z
    exact wpAny_isNot_ref_self (fin_bl I q (by simp))
  · exact wpAny_isNot_ref_other z e1 e2 n1 (fin_bl I q (by simp [z]))

/-- two rules for one operation: by cases -/
theorem OpR.or {f : Value → Value → Sem Value} {r r' : R2} (h : OpR X f r) (h' : OpR X f r') : OpR X f (fun x y H Q => r x y H Q ∨ r' x y H Q) := by
  intro pins s σ H x y v u Q I rx ry q
  rcases q with q | q
  · exact h pins s σ H x y v u Q I rx ry q
  · exact h' pins s σ H x y v u Q I rx ry q

theorem nomark (b : Expr) {op : CmpOp} (h : op ≠ .In := by decide) (h2 : op ≠ .NotIn := by decide) : behindInMarks op b = false := by
  have e1 : (op == CmpOp.In) = false := by cases op <;> first | rfl | exact absurd rfl h
  have e2 : (op == CmpOp.NotIn) = false := by cases op <;> first | rfl | exact absurd rfl h2
  cases b <;> simp [behindInMarks, e1, e2]
/-- a comparison as a value; hm: nomark b, or (for in, not in) by with_unfolding_all rfl -/
theorem pe_cmpR {op : CmpOp} {r : R2} (ho : OpR X (compareOp op) r) (ha : PE X a ta) (hb : PE X b tb) (hm : behindInMarks op b = false) : PE X (.Compare a [op] [b] pos) (tOp r ta tb) := by
  intro pins s σ H Q I h
  exact wpAny_Compare1 (binT ha hb I h fun v u s2 x y H2 I2 rx ry q => ho pins s2 σ H2 x y v u Q I2 rx ry q) hm
/-- a reading of a value as a test -/
def tTest (t : TE) : TT := fun σ H Q => t σ H fun x H' => ∃ k, x = .bl k ∧ Q k H'
theorem pt_cmpR {op : CmpOp} {r : R2} (ho : OpR X (compareOp op) r) (ha : PE X a ta) (hb : PE X b tb) (hm : behindInMarks op b = false) : PT X (.Compare a [op] [b] pos) (tTest (tOp r ta tb)) := by
  intro pins s σ H Q I h
  refine wpAny_isTrue_Compare1 (thn (ha pins s σ H _ I h) fun v s1 ⟨x, H1, I1, r1, q1⟩ => thn (hb pins s1 σ H1 _ I1 q1) fun u s2 ⟨y, H2, I2, r2, q2⟩ =>
    thn (ho pins s2 σ H2 x y v u _ I2 r1 r2 q2) fun c s3 ⟨z, H3, I3, r3, k, e, q3⟩ => ?_) hm
  subst e
  cases r3
  exact wpAny_truthy_bool ⟨H3, I3, q3⟩
/-- a op1 b op2 c -/
def tChain (r r' : R2) (ta tb tc : TE) : TE := fun σ H Q => ta σ H fun x H1 => tb σ H1 fun y H2 => r x y H2 fun z H3 => ∃ k, z = .bl k ∧
  (if k = true then tc σ H3 fun w' H4 => r' y w' H4 Q else Q (.bl false) H3)
theorem pe_chain {op op' : CmpOp} {r r' : R2} (ho : OpR X (compareOp op) r) (ho' : OpR X (compareOp op') r') (ha : PE X a ta) (hb : PE X b tb) (hc : PE X c tc)
    (hm : lastMarks [op, op'] [b, c] = false := by with_unfolding_all rfl) : PE X (.Compare a [op, op'] [b, c] pos) (tChain r r' ta tb tc) := by
  intro pins s σ H Q I h
  refine Compare_chain (thn (ha pins s σ H _ I h) fun v s1 ⟨x, H1, I1, r1, q1⟩ => chain_link (thn (hb pins s1 σ H1 _ I1 q1) fun u s2 ⟨y, H2, I2, r2, q2⟩ =>
    thn (ho pins s2 σ H2 x y v u _ I2 r1 r2 q2) fun d s3 ⟨z, H3, I3, r3, k, e, q3⟩ => ?_)) hm
  subst e
  cases r3
  refine wpAny_truthy_bool ?_
  cases k with
  | false => exact ite_ff ⟨.bl false, H3, I3, rfl, q3⟩
  | true => exact ite_tt (chain_last (thn (hc pins s3 σ H3 _ I3 q3) fun w' s4 ⟨z', H4, I4, r4, q4⟩ => ho' pins s4 σ H4 y z' u w' Q I4 r2 r4 q4))
theorem pt_chain {op op' : CmpOp} {r r' : R2} (ho : OpR X (compareOp op) r) (ho' : OpR X (compareOp op') r') (ha : PE X a ta) (hb : PE X b tb) (hc : PE X c tc)
    (hm : lastMarks [op, op'] [b, c] = false := by with_unfolding_all rfl) : PT X (.Compare a [op, op'] [b, c] pos) (tTest (tChain r r' ta tb tc)) := by
  intro pins s σ H Q I h
  refine isTrue_chain (thn (ha pins s σ H _ I h) fun v s1 ⟨x, H1, I1, r1, q1⟩ => test_link (thn (hb pins s1 σ H1 _ I1 q1) fun u s2 ⟨y, H2, I2, r2, q2⟩ =>
    thn (ho pins s2 σ H2 x y v u _ I2 r1 r2 q2) fun d s3 ⟨z, H3, I3, r3, k, e, q3⟩ => ?_)) hm
  subst e
  cases r3
  refine wpAny_truthy_bool ?_
  cases k with
  | false =>
    obtain ⟨k', e', q'⟩ := q3
    cases e'
    exact ite_ff ⟨H3, I3, q'⟩
  | true =>
    refine ite_tt (test_last (thn (hc pins s3 σ H3 _ I3 q3) fun w' s4 ⟨z', H4, I4, r4, q4⟩ => thn (ho' pins s4 σ H4 y z' u w' _ I4 r2 r4 q4) fun d' s5 ⟨z2, H5, I5, r5, k2, e2, q5⟩ => ?_))
    subst e2
    cases r5
    exact wpAny_truthy_bool ⟨H5, I5, q5⟩

/-! ### truth -/
/-- a value's truth by the abstract heap -/
def TruV (K : PySem.W.Frag) (x : V) (H : Hp) (k : Bool) : Prop :=
  match x with
  | .non => k = false
  | .bl b => k = b
  | .int i => k = (i != 0)
  | .str y => y.length ≤ sizeLine ∧ k = ((y.length : Int) != 0)
  | .byt y => y.size ≤ sizeLine ∧ k = ((y.size : Int) != 0)
  | .ref p => (∃ xs, SqL K H p xs ∧ k = !xs.isEmpty) ∨ (∃ xs, SqT K H p xs ∧ k = !xs.isEmpty) ∨ ∃ kvs, H p = some (.dK kvs) ∧ k = !kvs.isEmpty
  | _ => False
theorem isEmpty_kv {κ : Type} {kvs : List (κ × V)} {vs : List (κ × Value)} (r : KV kvs vs) : (!vs.isEmpty) = !kvs.isEmpty := by
  cases r <;> rfl
theorem isEmpty_of {xs : List V} {its : List Value} (r : Vals xs its) : (!its.toArray.isEmpty) = !xs.isEmpty := by
  cases r <;> simp
theorem line63 : (sizeLine : Nat) < 2 ^ 63 := by rw [sizeLine_eq]; decide
theorem tru_ok : TruR X (fun x H Q => ∃ k, TruV X.K x H k ∧ Q k H) := by
  intro pins s σ H x v Q I rx h
  obtain ⟨k, e, q⟩ := h
  have hl := line63
  have hs : sizeLine = 16777216 := sizeLine_eq
  cases x with
  | non =>
    cases rx
    have e' : k = false := e
    subst e'
    exact truthy_none ⟨H, I, q⟩
  | bl b =>
    cases rx
    have e' : k = b := e
    subst e'
    exact wpAny_truthy_bool ⟨H, I, q⟩
  | int i =>
    obtain ⟨t, rfl⟩ := rx
    have e' : k = (i != 0) := e
    subst e'
    exact PySem.P.truthy_int ⟨H, I, q⟩
  | str y =>
    obtain ⟨t, rfl⟩ := rx
    obtain ⟨hy, e'⟩ : y.length ≤ sizeLine ∧ k = ((y.length : Int) != 0) := e
    subst e'
    exact PySem.P.truthy_str (by omega) ⟨H, I.tok _, q⟩
  | byt y =>
    obtain ⟨t, rfl⟩ := rx
    obtain ⟨hy, e'⟩ : y.size ≤ sizeLine ∧ k = ((y.size : Int) != 0) := e
    subst e'
    exact PySem.W.truthy_bytes (by omega) ⟨H, I.tok _, q⟩
  | ref p =>
    cases rx
    have e' : (∃ xs, SqL X.K H p xs ∧ k = !xs.isEmpty) ∨ (∃ xs, SqT X.K H p xs ∧ k = !xs.isEmpty) ∨ ∃ kvs, H p = some (.dK kvs) ∧ k = !kvs.isEmpty := e
    rcases e' with ⟨xs, hx, e'⟩ | ⟨xs, hx, e'⟩ | ⟨kvs, hx, e'⟩
    · subst e'
      obtain ⟨its, r, pl, hz⟩ := I.list hx
      have hlen := r.length
      exact wpAny_truthy_list pl.isList (by simp only [List.size_toArray]; omega) ⟨H, I.tok _, by rw [isEmpty_of r]; exact q⟩
    · subst e'
      obtain ⟨its, r, pl, hz⟩ := I.tuple hx
      have hlen := r.length
      exact truthy_tuple pl (by simp only [List.size_toArray]; omega) ⟨H, I.tok _, by rw [isEmpty_of r]; exact q⟩
    · subst e'
      obtain ⟨hz, hS, vs, r, m⟩ : kvs.length ≤ sizeLine ∧ (p == sysModules) = false ∧ ∃ vs, KV kvs vs ∧ s.heap.DictOf (mixKind X.prog X.w) p vs := I.hok p _ hx
      have hlen : kvs.length = vs.length := Paired.length r
      exact wpAny_truthy_dict hS m (by omega) ⟨H, I.tok _, by rw [isEmpty_kv r]; exact q⟩
  | _ => exact (show False from e).elim
/-- any expression whose test is its value's truth (a name, a call, a subscript, a field ..: he by fun _ => rfl) -/
theorem pt_truth (ha : PE X a ta) (he : ∀ whole, isTrue a X.env whole = (do let v ← whole; standAt a.pos; holding [v] (truthy v))) :
    PT X a (fun σ H Q => ta σ H fun x H' => ∃ k, TruV X.K x H' k ∧ Q k H') := by
  intro pins s σ H Q I h
  exact isTrue_plain (thn (ha pins s σ H _ I h) fun v s1 ⟨x, H1, I1, r1, q1⟩ => tru_ok pins s1 σ H1 x v Q I1 r1 q1) (he _)

/-! ### strs and bytes -/
theorem pe_byt {x : List UInt8} {k : Nat} : PE X (.Constant (.bytes x) k pos) (fun _ H Q => Q (.byt x.toArray) H) := fun _ _ _ H _ I h => PySem.W.Constant_bytes ⟨.byt x.toArray, H, I.tok _, ⟨_, rfl⟩, h⟩
theorem op_add_str : OpR X (binaryOp .Add) (fun x y H Q => ∃ i j, x = .str i ∧ y = .str j ∧ i.length + j.length ≤ sizeLine ∧ Q (.str (i ++ j)) H) := by
  intro pins s σ H x y v u Q I rx ry h
  obtain ⟨i, j, rfl, rfl, hz, q⟩ := h
  obtain ⟨t, rfl⟩ := rx
  obtain ⟨t', rfl⟩ := ry
  exact add_str (fun t' tk => ⟨.str (i ++ j), H, I.tok _, ⟨_, rfl⟩, q⟩) hz
theorem iop_add_str : OpR X (inplaceOp .Add) (fun x y H Q => ∃ i j, x = .str i ∧ y = .str j ∧ i.length + j.length ≤ sizeLine ∧ Q (.str (i ++ j)) H) := by
  intro pins s σ H x y v u Q I rx ry h
  obtain ⟨i, j, rfl, rfl, hz, q⟩ := h
  obtain ⟨t, rfl⟩ := rx
  obtain ⟨t', rfl⟩ := ry
  exact iadd_str (fun t' tk => ⟨.str (i ++ j), H, I.tok _, ⟨_, rfl⟩, q⟩) hz
theorem op_add_byt : OpR X (binaryOp .Add) (fun x y H Q => ∃ i j, x = .byt i ∧ y = .byt j ∧ i.size + j.size ≤ 16777216 ∧ Q (.byt (i ++ j)) H) := by
  intro pins s σ H x y v u Q I rx ry h
  obtain ⟨i, j, rfl, rfl, hz, q⟩ := h
  obtain ⟨t, rfl⟩ := rx
  obtain ⟨t', rfl⟩ := ry
  exact PySem.W.KBy.add_bytes hz (fun t' tk => ⟨.byt (i ++ j), H, I.tok _, ⟨_, rfl⟩, q⟩)

def PlainIxT (b : Expr) : Prop := ∀ o i, subscripted b false o i = operate [o, i] (getItem o i)
/-- s[i], 0 ≤ i < len -/
theorem pe_item_str (ha : PE X a ta) (hb : PE X b tb) (hs : PlainIxT b) :
    PE X (.Subscript a b pos) (tOp (fun x y H Q => ∃ z i c, x = .str z ∧ y = .int i ∧ 0 ≤ i ∧ i < 2 ^ 63 ∧ i < z.length ∧ z.cps[i.toNat]? = some c ∧ Q (.str ⟨#[c]⟩) H) ta tb) := by
  intro pins s σ H Q I h
  refine Subscript_ (binT ha hb I h fun v u s2 x y H2 I2 rx ry q => ?_)
  obtain ⟨z, i, c, rfl, rfl, h0, h63, h1, hc, q⟩ := q
  obtain ⟨t, rfl⟩ := rx
  obtain ⟨t', rfl⟩ := ry
  have e : seqIndex? i z.length = some i.toNat := PySem.StrLaws.seqIndex_nonneg h0 h1
  exact tail_any (typeIs_str s2 z t) slot_str_getitem.lookup (getItem_str (c := c) (by
    have e1 : decide (i < -(2 ^ 63 : Int)) = false := decide_eq_false (by omega)
    have e2 : decide (i ≥ 2 ^ 63) = false := decide_eq_false (by omega)
    rw [e1, e2] <;> rfl) (by rw [e]; exact hc) ⟨.str ⟨#[c]⟩, H2, I2.tok _, ⟨_, rfl⟩, q⟩) (hs _ _)
/-- b[i], 0 ≤ i < len -/
theorem pe_item_byt (ha : PE X a ta) (hb : PE X b tb) (hs : PlainIxT b) :
    PE X (.Subscript a b pos) (tOp (fun x y H Q => ∃ (z : List UInt8) (i : Int), x = .byt z.toArray ∧ y = .int i ∧ z.length ≤ sizeLine ∧ 0 ≤ i ∧ i < z.length ∧ Q (.int ((z.getD i.toNat 0).toNat : Nat)) H) ta tb) := by
  intro pins s σ H Q I h
  refine Subscript_ (binT ha hb I h fun v u s2 x y H2 I2 rx ry q => ?_)
  obtain ⟨z, i, rfl, rfl, hz, h0, h1, q⟩ := q
  obtain ⟨t, rfl⟩ := rx
  obtain ⟨t', rfl⟩ := ry
  have hl : sizeLine = 16777216 := sizeLine_eq
  exact tail_any (PySem.W.typeIs_bytes s2 z.toArray t) PySem.W.FB.slot_bytes_getitem.lookup (PySem.W.getItem_bytes (by omega) h0 h1 ⟨.int ((z.getD i.toNat 0).toNat : Nat), H2, I2.tok _, ⟨_, rfl⟩, q⟩) (hs _ _)

/-! ### scalar builtins, by CallR -/
theorem vals1 {x : V} {us : List Value} (r : Vals [x] us) : ∃ u, us = [u] ∧ RelV x u := by
  cases r with
  | cons r1 r2 => cases r2; exact ⟨_, rfl, r1⟩
theorem vals2 {x y : V} {us : List Value} (r : Vals [x, y] us) : ∃ u w', us = [u, w'] ∧ RelV x u ∧ RelV y w' := by
  cases r with
  | cons r1 r2 =>
    cases r2 with
    | cons r3 r4 => cases r4; exact ⟨_, _, rfl, r1, r3⟩
theorem call_abs : CallR X (.builtin "abs") (fun xs H Q => ∃ i, xs = [.int i] ∧ Q (.int (if i < 0 then -i else i)) H) := by
  intro pins s σ H xs us Q I r h
  obtain ⟨i, rfl, q⟩ := h
  obtain ⟨u, rfl, t, rfl⟩ := vals1 r
  exact call_abs_int fun u tk => ⟨.int (if i < 0 then -i else i), H, I.tok _, ⟨_, rfl⟩, q⟩
theorem call_max2 (hc : X.calm = true) : CallR X (.builtin "max") (fun xs H Q => ∃ i j, xs = [.int i, .int j] ∧ Q (.int (if j > i then j else i)) H) := by
  intro pins s σ H xs us Q I r h
  obtain ⟨i, j, rfl, q⟩ := h
  obtain ⟨u, w', rfl, ⟨t, rfl⟩, ⟨t', rfl⟩⟩ := vals2 r
  refine max_two_ints (I.ok.hd hc) fun h' tk k => ⟨_, H, I.kept k, ?_, q⟩
  by_cases hj : j > i
  · rw [if_pos hj, if_pos hj]; exact ⟨_, rfl⟩
  · rw [if_neg hj, if_neg hj]; exact ⟨_, rfl⟩
theorem call_min2 (hc : X.calm = true) : CallR X (.builtin "min") (fun xs H Q => ∃ i j, xs = [.int i, .int j] ∧ Q (.int (if j < i then j else i)) H) := by
  intro pins s σ H xs us Q I r h
  obtain ⟨i, j, rfl, q⟩ := h
  obtain ⟨u, w', rfl, ⟨t, rfl⟩, ⟨t', rfl⟩⟩ := vals2 r
  refine min_two_ints (I.ok.hd hc) fun h' tk k => ⟨_, H, I.kept k, ?_, q⟩
  by_cases hj : j < i
  · rw [if_pos hj, if_pos hj]; exact ⟨_, rfl⟩
  · rw [if_neg hj, if_neg hj]; exact ⟨_, rfl⟩
theorem call_int1 : CallR X (.type "int") (fun xs H Q => (∃ i, xs = [.int i] ∧ Q (.int i) H) ∨ ∃ k, xs = [.bl k] ∧ Q (.int (if k then 1 else 0)) H) := by
  intro pins s σ H xs us Q I r h
  rcases h with ⟨i, rfl, q⟩ | ⟨k, rfl, q⟩
  · obtain ⟨u, rfl, t, rfl⟩ := vals1 r
    exact call_int_int ⟨.int i, H, I, ⟨_, rfl⟩, q⟩
  · obtain ⟨u, rfl, r1⟩ := vals1 r
    cases r1
    exact call_int_bool ⟨.int (if k then 1 else 0), H, I.tok _, ⟨_, rfl⟩, q⟩
theorem call_bool1 : CallR X (.type "bool") (fun xs H Q => (∃ i, xs = [.int i] ∧ Q (.bl (i != 0)) H) ∨ ∃ k, xs = [.bl k] ∧ Q (.bl k) H) := by
  intro pins s σ H xs us Q I r h
  rcases h with ⟨i, rfl, q⟩ | ⟨k, rfl, q⟩
  · obtain ⟨u, rfl, t, rfl⟩ := vals1 r
    exact call_bool_int ⟨.bl (i != 0), H, I, rfl, q⟩
  · obtain ⟨u, rfl, r1⟩ := vals1 r
    cases r1
    exact call_bool_bool ⟨.bl k, H, I, rfl, q⟩
theorem call_str_int : CallR X (.type "str") (fun xs H Q => ∃ i, xs = [.int i] ∧ i.natAbs.log2 < 1920 ∧ Q (.str (toString i)) H) := by
  intro pins s σ H xs us Q I r h
  obtain ⟨i, rfl, hz, q⟩ := h
  obtain ⟨u, rfl, t, rfl⟩ := vals1 r
  exact PySem.P.str_of_int hz ⟨.str _, H, I.tok _, ⟨_, rfl⟩, q⟩
theorem call_ord : CallR X (.builtin "ord") (fun xs H Q => ∃ x, xs = [.str x] ∧ x.length = 1 ∧ Q (.int (x.cps.getD 0 0 : Nat)) H) := by
  intro pins s σ H xs us Q I r h
  obtain ⟨x, rfl, hz, q⟩ := h
  obtain ⟨u, rfl, t, rfl⟩ := vals1 r
  exact ord_of_one hz ⟨.int _, H, I.tok _, ⟨_, rfl⟩, q⟩
theorem call_chr : CallR X (.builtin "chr") (fun xs H Q => ∃ i, xs = [.int i] ∧ 0 ≤ i ∧ i ≤ 1114111 ∧ Q (.str ⟨#[i.toNat]⟩) H) := by
  intro pins s σ H xs us Q I r h
  obtain ⟨i, rfl, h0, h1, q⟩ := h
  obtain ⟨u, rfl, t, rfl⟩ := vals1 r
  exact chr_of_range h0 h1 ⟨.str _, H, I.tok _, ⟨_, rfl⟩, q⟩
/-- len of a str, a bytes, a list, a tuple -/
def LenV (K : PySem.W.Frag) (x : V) (H : Hp) (n : Nat) : Prop :=
  match x with
  | .str y => y.length ≤ sizeLine ∧ n = y.length
  | .byt y => y.size ≤ sizeLine ∧ n = y.size
  | .ref p => (∃ xs, SqL K H p xs ∧ n = xs.length) ∨ ∃ xs, SqT K H p xs ∧ n = xs.length
  | _ => False
theorem call_len : CallR X (.builtin "len") (fun xs H Q => ∃ x n, xs = [x] ∧ LenV X.K x H n ∧ Q (.int n) H) := by
  intro pins s σ H xs us Q I r h
  obtain ⟨x, n, rfl, e, q⟩ := h
  obtain ⟨u, rfl, rx⟩ := vals1 r
  have hl := line63
  have hs : sizeLine = 16777216 := sizeLine_eq
  cases x with
  | str y =>
    obtain ⟨t, rfl⟩ := rx
    obtain ⟨hy, e'⟩ : y.length ≤ sizeLine ∧ n = y.length := e
    subst e'
    exact len_str (by omega) ⟨.int _, H, I.tok _, ⟨_, rfl⟩, q⟩
  | byt y =>
    obtain ⟨t, rfl⟩ := rx
    obtain ⟨hy, e'⟩ : y.size ≤ sizeLine ∧ n = y.size := e
    subst e'
    exact PySem.W.len_bytes (by omega) ⟨.int _, H, I.tok _, ⟨_, rfl⟩, q⟩
  | ref p =>
    cases rx
    have e' : (∃ xs, SqL X.K H p xs ∧ n = xs.length) ∨ ∃ xs, SqT X.K H p xs ∧ n = xs.length := e
    rcases e' with ⟨xs, hx, e'⟩ | ⟨xs, hx, e'⟩
    · subst e'
      obtain ⟨its, r', pl, hz⟩ := I.list hx
      have hlen := r'.length
      exact Calls.call_len_list pl.isList (by simp only [List.size_toArray]; omega) ⟨.int xs.length, H, I.tok _, ⟨_, by simp only [List.size_toArray]; rw [hlen]⟩, q⟩
    · subst e'
      obtain ⟨its, r', pl, hz⟩ := I.tuple hx
      have hlen := r'.length
      exact len_tuple pl (by simp only [List.size_toArray]; omega) ⟨.int xs.length, H, I.tok _, ⟨_, by simp only [List.size_toArray]; rw [hlen]⟩, q⟩
  | _ => exact (show False from e).elim
/-- divmod: a new tuple -/
theorem call_divmod : CallR X (.builtin "divmod") (fun xs H Q => ∃ i j, xs = [.int i, .int j] ∧ CDiv i j ∧ ∀ p, H p = none → Q (.ref p) (upd H p (.tup [.int (i / j), .int (i % j)]))) := by
  intro pins s σ H xs us Q I r h
  obtain ⟨i, j, rfl, ⟨h1, h2⟩, q⟩ := h
  obtain ⟨u, w', rfl, ⟨t, rfl⟩, ⟨t', rfl⟩⟩ := vals2 r
  refine divmod_int (by omega) ?_ (.inl (PyProof.noPylong_small (by omega)))
  rw [Int.fdiv_eq_ediv_of_nonneg i (by omega), Int.fmod_eq_emod_of_nonneg i (by omega)]
  have hn : H s.heap.objs.size = none := I.hok.fresh (Nat.le_refl _)
  refine ⟨.ref s.heap.objs.size, _, ?_, rfl, q _ hn⟩
  refine I.laid (fun b o e => Heap.get?_push_of_some _ e) (Nat.le_refl _) ⟨by simp only [List.length_cons, List.length_nil]; rw [sizeLine_eq]; decide, [.int (i / j) s.toks, .int (i % j) (s.toks + 1)], .cons ⟨_, rfl⟩ (.cons ⟨_, rfl⟩ .nil), ?_⟩
  exact ⟨_, Heap.get?_push_size s.heap rfl, rfl, 0, rfl⟩
end
end L2

namespace L2
open PySem PySem.Spec PyProof.Rows

/-! ### an instance, its attributes a map -/
structure ObjM (h : Heap) (x dx C : Addr) (mA : Str → Option Value) : Prop where
  obj : h.get? x = some (PySem.W.instObj C dx)
  ns : h.Ns1 dx mA
  ne : dx ≠ x

theorem lookIn_ns {h : Heap} {dx : Addr} {mA : Str → Option Value} (n : h.Ns1 dx mA) : ∃ od, h.get? dx = some od ∧ ∀ name, PySem.W.lookIn name od = some (mA name) := by
  obtain ⟨o, es, ep, ho, hd, hk, _, hm⟩ := n
  refine ⟨o, ho, fun name => ?_⟩
  have e := hm name
  unfold nsFind findBy at e
  rw [← Array.find?_toList] at e
  unfold PySem.W.lookIn
  rw [hd]
  dsimp only
  split
  · rename_i y q
    rw [q] at e
    exact congrArg some e
  · rename_i q
    rw [q] at e
    have a : es.toList.any (·.refKey) = false := by
      rw [List.any_eq_false]
      intro y hy
      obtain ⟨z, t, hkey⟩ := hk y (Array.mem_toList_iff.mp hy)
      simp [DictEntry.refKey, hkey]
    have a' : ¬ es.toList.any (·.refKey) = true := by rw [a]; exact Bool.false_ne_true
    rw [if_neg a']
    exact congrArg some e

theorem ObjM.look {h : Heap} {x dx C : Addr} {mA : Str → Option Value} (I : ObjM h x dx C mA) : ∃ od, PySem.W.InstAt h x (PySem.W.instObj C dx) C (some od) ∧ ∀ name, PySem.W.lookIn name od = some (mA name) :=
  let ⟨od, ho, hl⟩ := lookIn_ns I.ns
  ⟨od, ⟨I.obj, rfl, rfl, ho⟩, hl⟩

section
variable {prog : Program} {w : World} {A : Around} {E : Value → Shared → Prop} {s : Shared} {K : PySem.W.Frag} {x dx C f : Addr} {mA : Str → Option Value} {name : Str} {v : Value}

theorem get_map {expr : Bool} {Q : Value → Shared → Prop} (X : K.In s.heap) (I : ObjM s.heap x dx C mA) (hg : PySem.W.plainGet K C name = true) (hh : PySem.W.hasDictIn K C = true)
    (ha : PySem.W.findIn K (.ref C) name = some none) (hv : mA name = some v) (hv' : PySem.W.handedIn v = true) (h : Q v { s with toks := s.toks + 1 }) :
    wpAny (model prog w) A (getAttr (.ref x) name expr) Q E s := by
  obtain ⟨od, J, hl⟩ := I.look
  exact PySem.W.get_value X J (PySem.W.plainGet_of hg).1 (PySem.W.findObj_own hh ha rfl (by rw [hl, hv])) hv' h

theorem get_const {expr : Bool} {a : Value} {Q : Value → Shared → Prop} (X : K.In s.heap) (I : ObjM s.heap x dx C mA) (hg : PySem.W.plainGet K C name = true) (hh : PySem.W.hasDictIn K C = true)
    (ha : PySem.W.findIn K (.ref C) name = some (some a)) (hn : PySem.W.specialIn K a "__get__" = some none) (hc : PySem.W.copiedNames.contains name = false) (hv : mA name = none) (hv' : PySem.W.handedIn a = true)
    (h : Q a { s with toks := s.toks + 1 }) : wpAny (model prog w) A (getAttr (.ref x) name expr) Q E s := by
  obtain ⟨od, J, hl⟩ := I.look
  exact PySem.W.get_value X J (PySem.W.plainGet_of hg).1 (PySem.W.findObj_cls hh ha hn hv' hc (by rw [hl, hv])) hv' h

theorem get_meth {pl : Sem Bool} {Q : Value × List Value → Shared → Prop} (X : K.In s.heap) (I : ObjM s.heap x dx C mA) (hg : PySem.W.plainGet K C name = true)
    (hf : PySem.W.findIn K (.ref C) name = some (some (.ref f))) (ht : PySem.W.isFn K (.ref f) = true) (hv : mA name = none) (h : Q (.ref f, [.ref x]) s) :
    wpAny (model prog w) A (getMethod (.ref x) name pl) Q E s := by
  obtain ⟨od, J, hl⟩ := I.look
  exact PySem.W.method_fn X J (PySem.W.plainGet_of hg).1 (PySem.W.plainGet_of hg).2 hf (beq_iff_eq.mp ht) (by show (PySem.W.lookIn name od).map (·.isSome) = some false; rw [hl, hv]; rfl) h

theorem set_map {ns : List Str} {Q : Unit → Shared → Prop} (X : K.In s.heap) (I : ObjM s.heap x dx C mA)
    (hs : PySem.W.findIn K (.ref C) "__setattr__" = some (some (.builtin "object.__setattr__"))) (hp : PySem.W.plainOver K C = true) (ht : PySem.W.takerIn K C name = some none) (hh : PySem.W.hasDictIn K C = true)
    (hw : PySem.Within mA ns) (hsz : ns.length ≤ sizeLine)
    (h : ∀ h', ObjM h' x dx C (fun y => if y = name then some v else mA y) → Heap.SameBut dx s.heap h' → Q () { s with heap := h', toks := s.toks + 2 }) :
    wpAny (model prog w) A (setAttr (.ref x) name v) Q E s := by
  obtain ⟨od, J, hl⟩ := I.look
  refine PySem.W.set_plain X J hs (PySem.W.osa_open (s := { s with toks := s.toks + 1 }) (r := none) X J hp ht fun b => ?_)
  obtain ⟨cd, hc, hd'⟩ := PySem.W.any_some hh
  have hx : s.heap.get? x = some ⟨.ref C, some dx, .plain, #[]⟩ := I.obj
  refine wpAny_bind (wpAny_pure (wpAny_bind (wpAny_bind (wpAny_loadPart hx (wpAny_bind (PySem.W.Looks.here (s := { s with toks := s.toks + 1 }) (PySem.W.looks_clsIn X hc) ?_))))))
  rw [hd']
  refine wpAny_pure (a := some dx) (wpAny_bind (wpAny_pure (wpAny_bind ?_)))
  refine wpAny_nsSet1 (s := { s with toks := s.toks + 1 }) I.ns fun h' hn2 hs2 => ?_
  obtain ⟨oD, esD, epD, hoD, hdD, hcD⟩ := hn2.count (PySem.Within.cons name v hw)
  refine wpAny_bind (wpAny_lookBehind hoD (by rw [hdD]; exact pastItsLine_dict (Nat.le_trans hcD (by rw [List.length_cons]; omega))) ?_)
  exact wpAny_pure (h _ ⟨(hs2.2 _ (Ne.symm I.ne)).trans I.obj, hn2, I.ne⟩ hs2)

/-- C(..): the dict at the heap's end, the instance behind it; then its __init__ -/
theorem make_map {R : Result → Shared → Prop} {vs : List Value} {kw : List (Str × Value)} (X : K.In s.heap) (hm : PySem.W.makesIn K C = true)
    (hi : PySem.W.findIn K (.ref C) "__init__" = some (some (.ref f))) (hf : PySem.W.typeIn K (.ref f) = some (.type "function"))
    (h : codeAny (model prog w) (A.under (.builtin "type.__call__" ⟨.ref C :: vs, kw⟩)) (.call (.ref f) ⟨.ref (s.heap.objs.size + 1) :: vs, kw⟩) (PySem.W.InitBack (s.heap.objs.size + 1) R)
      { s with heap := (s.heap.push PySem.W.emptyDict).push (PySem.W.instObj C s.heap.objs.size) }) :
    codeAny (model prog w) A (.call (.ref C) ⟨vs, kw⟩) R s := by
  obtain ⟨hh, g, d, t, os⟩ := s
  exact PySem.W.make_core (PySem.W.makes_of X hm) (PySem.W.looks_findIn X hi) (fun self => PySem.W.bind_fn X self hf) (.inl rfl) h
/-- C() where there is no __init__ but object's -/
theorem make_map0 {R : Result → Shared → Prop} (X : K.In s.heap) (hm : PySem.W.makesIn K C = true)
    (hi : PySem.W.findIn K (.ref C) "__init__" = some (some (.builtin "object.__init__")))
    (hb : ∀ self, PySem.W.Looks (model prog w) s.heap (bindSpecial (.builtin "object.__init__") self) (.builtin "object.__init__", [self]))
    (h : codeAny (model prog w) (A.under (.builtin "type.__call__" ⟨[.ref C], []⟩)) (.call (.builtin "object.__init__") ⟨[.ref (s.heap.objs.size + 1)], []⟩) (PySem.W.InitBack (s.heap.objs.size + 1) R)
      { s with heap := (s.heap.push PySem.W.emptyDict).push (PySem.W.instObj C s.heap.objs.size) }) :
    codeAny (model prog w) A (.call (.ref C) ⟨[], []⟩) R s := by
  obtain ⟨hh, g, d, t, os⟩ := s
  exact PySem.W.make_core (PySem.W.makes_of X hm) (PySem.W.looks_findIn X hi) hb (.inr ⟨rfl, rfl⟩) h
end

/-! ### the attributes as a list of pairs -/
def putF (f : Str) (v : V) : List (Str × V) → List (Str × V)
  | [] => [(f, v)]
  | (g, x) :: r => if g = f then (g, v) :: r else (g, x) :: putF f v r
theorem lookup_putF (f g : Str) (v : V) : ∀ fs : List (Str × V), (putF f v fs).lookup g = if g = f then some v else fs.lookup g
  | [] => by
    show List.lookup g [(f, v)] = _
    by_cases h : g = f
    · have hb : (g == f) = true := beq_iff_eq.mpr h
      simp only [List.lookup, hb, if_pos h]
    · have hb : (g == f) = false := beq_eq_false_iff_ne.mpr h
      simp only [List.lookup, hb, if_neg h]
  | (k, x) :: r => by
    have ih := lookup_putF f g v r
    rw [show putF f v ((k, x) :: r) = (if k = f then (k, v) :: r else (k, x) :: putF f v r) from rfl]
    by_cases hk : k = f
    · rw [if_pos hk]
      by_cases h : g = k
      · have hb : (g == k) = true := beq_iff_eq.mpr h
        simp only [List.lookup, hb, if_pos (h.trans hk)]
      · have hb : (g == k) = false := beq_eq_false_iff_ne.mpr h
        simp only [List.lookup, hb, if_neg (fun e : g = f => h (e.trans hk.symm))]
    · rw [if_neg hk]
      by_cases h : g = k
      · have hb : (g == k) = true := beq_iff_eq.mpr h
        simp only [List.lookup, hb, if_neg (fun e : g = f => hk (h.symm.trans e))]
      · have hb : (g == k) = false := beq_eq_false_iff_ne.mpr h
        simp only [List.lookup, hb]
        exact ih
theorem keys_putF (f : Str) (v : V) : ∀ fs : List (Str × V), f ∈ (putF f v fs).map (·.1) ∧ ∀ g, g ∈ fs.map (·.1) → g ∈ (putF f v fs).map (·.1)
  | [] => ⟨by simp [putF], fun g h => by simp at h⟩
  | (k, x) :: r => by
    obtain ⟨i1, i2⟩ := keys_putF f v r
    rw [show putF f v ((k, x) :: r) = (if k = f then (k, v) :: r else (k, x) :: putF f v r) from rfl]
    by_cases hk : k = f
    · rw [if_pos hk]
      subst hk
      exact ⟨by simp, fun g h => by simpa using h⟩
    · rw [if_neg hk]
      refine ⟨?_, fun g h => ?_⟩
      · rw [List.map_cons]
        exact List.mem_cons_of_mem _ i1
      · rw [List.map_cons] at h ⊢
        rcases List.mem_cons.mp h with e | e
        · exact List.mem_cons.mpr (.inl e)
        · exact List.mem_cons_of_mem _ (i2 g e)
theorem length_putF (f : Str) (v : V) : ∀ fs : List (Str × V), (putF f v fs).length ≤ fs.length + 1
  | [] => by simp [putF]
  | (k, x) :: r => by
    have ih := length_putF f v r
    rw [show putF f v ((k, x) :: r) = (if k = f then (k, v) :: r else (k, x) :: putF f v r) from rfl]
    by_cases hk : k = f
    · rw [if_pos hk, List.length_cons, List.length_cons]; omega
    · rw [if_neg hk, List.length_cons, List.length_cons]; omega

theorem RelO.some_of {v : V} {o : Option Value} (r : RelO (some v) o) : ∃ u, o = some u ∧ RelV v u := by
  cases o with
  | none => exact (show False from r).elim
  | some u => exact ⟨u, rfl, r⟩
theorem RelO.none_of {o : Option Value} (r : RelO none o) : o = none := by
  cases o with
  | none => rfl
  | some u => exact (show False from r).elim
theorem handed_of {v : V} {u : Value} (r : RelV v u) : PySem.W.handedIn u = true := by
  cases v with
  | non => cases (show u = Value.none from r); rfl
  | bl b => cases (show u = Value.bool b from r); rfl
  | int i => obtain ⟨t, e⟩ := (show ∃ t, u = Value.int i t from r); cases e; rfl
  | str x => obtain ⟨t, e⟩ := (show ∃ t, u = Value.str x t from r); cases e; rfl
  | byt b => obtain ⟨t, e⟩ := (show ∃ t, u = Value.bytes b t from r); cases e; rfl
  | flt b => obtain ⟨t, e⟩ := (show ∃ t, u = Value.float b t from r); cases e; rfl
  | ref a => cases (show u = Value.ref a from r); rfl
  | ty n => cases (show u = Value.type n from r); rfl

section
variable {P : Program} {w : World} {H H' : Hp} {h h' : Heap} {a C dx : Addr} {fs fs' : List (Str × V)}
theorem ins_get (hok : HOk P w H h) (e : H a = some (.ins C dx fs)) : ∃ mA, ObjM h a dx C mA ∧ (∀ f, RelO (fs.lookup f) (mA f)) ∧ PySem.Within mA (fs.map (·.1)) ∧ fs.length ≤ 1000 ∧ H dx = some (.own a) := by
  obtain ⟨d, z, ne, ob, mA, n, r, q⟩ := (show ObjOk P w H h a (.ins C dx fs) from hok a _ e)
  exact ⟨mA, ⟨ob, n, ne⟩, r, q, z, d⟩
end

/-! ### what of the text a class must have -/
structure Cls (K : PySem.W.Frag) (C : Addr) : Prop where
  pg : PySem.W.plainGet K C Str.empty = true
  hd : PySem.W.hasDictIn K C = true
  po : PySem.W.plainOver K C = true
  sa : PySem.W.findIn K (.ref C) "__setattr__" = some (some (.builtin "object.__setattr__"))
theorem Cls.get {K : PySem.W.Frag} {C : Addr} (c : Cls K C) (f : Str) : PySem.W.plainGet K C f = true := c.pg
/-- no class of it has the name -/
def NoAttr (K : PySem.W.Frag) (C : Addr) (f : Str) : Prop := PySem.W.findIn K (.ref C) f = some none
theorem NoAttr.taker {K : PySem.W.Frag} {C : Addr} {f : Str} (n : NoAttr K C f) : PySem.W.takerIn K C f = some none := by
  unfold PySem.W.takerIn
  rw [show PySem.W.findIn K (.ref C) f = some none from n]
  rfl
/-- a constant of the class -/
structure Con (K : PySem.W.Frag) (C : Addr) (f : Str) (v : V) (u : Value) : Prop where
  at_ : PySem.W.findIn K (.ref C) f = some (some u)
  rel : RelV v u
  get : PySem.W.specialIn K u "__get__" = some none
  cp : PySem.W.copiedNames.contains f = false
/-- a method: a plain def of the class or of one above it -/
structure Meth (K : PySem.W.Frag) (C : Addr) (m : Str) (f : Addr) : Prop where
  at_ : PySem.W.findIn K (.ref C) m = some (some (.ref f))
  fn : PySem.W.isFn K (.ref f) = true
  kp : PySem.W.keepIn K (.ref f) = true

section
variable {X : Cx} {pins : List (Addr × Obj)} {σ : St} {H : Hp} {s : Shared} {a C dx : Addr} {fs : List (Str × V)} {f : Str} {v : V} {A : Around} {E : Value → Shared → Prop}

theorem getattr_ok {b : Bool} {Q : Value → Shared → Prop} (I : Inv X pins σ H s) (e : H a = some (.ins C dx fs)) (c : Cls X.K C) (n : NoAttr X.K C f) (l : fs.lookup f = some v)
    (h : ∀ u s', Inv X pins σ H s' → RelV v u → Q u s') : wpAny (model X.prog X.w) A (getAttr (.ref a) f b) Q E s := by
  obtain ⟨mA, O, r, _, _, _⟩ := ins_get I.hok e
  obtain ⟨u, hu, ru⟩ := RelO.some_of (v := v) (o := mA f) (by rw [← l]; exact r f)
  exact get_map I.kIn O (c.get f) c.hd n hu (handed_of ru) (h u _ (I.tok _) ru)

theorem getcon_ok {b : Bool} {u : Value} {Q : Value → Shared → Prop} (I : Inv X pins σ H s) (e : H a = some (.ins C dx fs)) (c : Cls X.K C) (k : Con X.K C f v u) (l : fs.lookup f = none)
    (h : ∀ s', Inv X pins σ H s' → Q u s') : wpAny (model X.prog X.w) A (getAttr (.ref a) f b) Q E s := by
  obtain ⟨mA, O, r, _, _, _⟩ := ins_get I.hok e
  have hn : mA f = none := RelO.none_of (by rw [← l]; exact r f)
  exact get_const I.kIn O (c.get f) c.hd k.at_ k.get k.cp hn (handed_of k.rel) (h _ (I.tok _))

theorem getmeth_ok {m : Str} {g : Addr} {pl : Sem Bool} {Q : Value × List Value → Shared → Prop} (I : Inv X pins σ H s) (e : H a = some (.ins C dx fs)) (c : Cls X.K C) (k : Meth X.K C m g) (l : fs.lookup m = none)
    (h : Q (.ref g, [.ref a]) s) : wpAny (model X.prog X.w) A (getMethod (.ref a) m pl) Q E s := by
  obtain ⟨mA, O, r, _, _, _⟩ := ins_get I.hok e
  have hn : mA m = none := RelO.none_of (by rw [← l]; exact r m)
  exact get_meth I.kIn O (c.get m) k.at_ k.fn hn h

theorem setattr_ok {y : V} {u : Value} {Q : Unit → Shared → Prop} (I : Inv X pins σ H s) (e : H a = some (.ins C dx fs)) (c : Cls X.K C) (n : NoAttr X.K C f) (hl : fs.length < 1000) (ry : RelV y u)
    (h : ∀ s', Inv X pins σ (upd H a (.ins C dx (putF f y fs))) s' → Q () s') : wpAny (model X.prog X.w) A (setAttr (.ref a) f u) Q E s := by
  obtain ⟨mA, O, r, wi, _, ho⟩ := ins_get I.hok e
  have hz : (fs.map (·.1)).length ≤ sizeLine := by rw [List.length_map, sizeLine_eq]; omega
  refine set_map I.kIn O c.sa c.po n.taker c.hd wi hz fun h' O' sb => h _ ?_
  have hd : ∃ o, h'.get? dx = some o := let ⟨o, _, _, e', _⟩ := O'.ns; ⟨o, e'⟩
  refine I.write (x := a) (e := dx) (by rw [e]; exact True.intro) (.inr ho) (fun b q hb z => (sb.2 b hb).trans z) hd ?_
  refine ⟨by rw [upd_ne O.ne]; exact ho, ?_, O.ne, O'.obj, _, O'.ns, fun g => ?_, fun g hg => ?_⟩
  · have := length_putF f y fs; omega
  · show RelO ((putF f y fs).lookup g) (if g = f then some u else mA g)
    rw [lookup_putF]
    by_cases q : g = f
    · rw [if_pos q, if_pos q]; exact ry
    · rw [if_neg q, if_neg q]; exact r g
  · by_cases q : g = f
    · rw [q]; exact (keys_putF f y fs).1
    · refine (keys_putF f y fs).2 g (wi g fun z => hg ?_)
      show (if g = f then some u else mA g) = none
      rw [if_neg q]; exact z

/-- a new instance, tracked, without attributes -/
theorem Inv.made (I : Inv X pins σ H s) : Inv X pins σ (upd (upd H s.heap.objs.size (.own (s.heap.objs.size + 1))) (s.heap.objs.size + 1) (.ins C s.heap.objs.size []))
    { s with heap := (s.heap.push PySem.W.emptyDict).push (PySem.W.instObj C s.heap.objs.size) } := by
  have e1 : (s.heap.push PySem.W.emptyDict).get? s.heap.objs.size = some PySem.W.emptyDict := Heap.get?_push_size s.heap rfl
  have e2 : ((s.heap.push PySem.W.emptyDict).push (PySem.W.instObj C s.heap.objs.size)).get? (s.heap.objs.size + 1) = some (PySem.W.instObj C s.heap.objs.size) := by
    have := Heap.get?_push_size (s.heap.push PySem.W.emptyDict) (o := PySem.W.instObj C s.heap.objs.size) rfl
    rwa [Heap.size_push] at this
  have e3 : (s.heap.push PySem.W.emptyDict).Ns s.heap.objs.size (fun _ => none) := ⟨PySem.W.emptyDict, #[], _, e1, rfl, (fun e he => absurd he (by simp)), fun _ => rfl⟩
  have I1 := I.laid (a := s.heap.objs.size) (o := .own (s.heap.objs.size + 1)) (h' := s.heap.push PySem.W.emptyDict) (t' := s.toks) (fun b u q => Heap.get?_push_of_some _ q) (Nat.le_refl _) ⟨_, e1⟩
  refine I1.laid (a := s.heap.objs.size + 1) (o := .ins C s.heap.objs.size []) (t' := s.toks) (fun b u q => Heap.get?_push_of_some _ q) (Nat.le_of_eq (Heap.size_push _ _)) ?_
  have ne : s.heap.objs.size ≠ s.heap.objs.size + 1 := Nat.ne_of_lt (Nat.lt_succ_self _)
  refine ⟨by rw [upd_ne ne, upd_same], Nat.zero_le _, ne, e2, fun _ => none, (Heap.Ns1.of_empty e3).at fun o q => Heap.get?_push_of_some _ q, fun _ => True.intro, fun y hy => absurd rfl hy⟩

/-- e.f where nothing but the object is asked: through attributeBase (super) and the last hold -/
theorem attr_of {prog : Program} {w : World} {env : Env} {e : Expr} {f : Str} {pos : Pos} {s : Shared} {Q : Value → Shared → Prop} (hb : attributeBase e f env (eval e env) = eval e env)
    (h : wpAny (model prog w) A (eval e env) (fun o s₁ => wpAny (model prog w) A (getAttr o f true) Q E s₁) E s) : wpAny (model prog w) A (eval (.Attribute e f pos) env) Q E s :=
  Attribute_any_ h (by rw [arm_eval_Attribute, hb])
end

/-! ### readings and rules -/
/-- e.f, an attribute of the instance -/
def tFld (K : PySem.W.Frag) (ta : TE) (f : Str) : TE := fun σ H Q => ta σ H fun x H1 => ∃ a C dx fs v, x = .ref a ∧ H1 a = some (.ins C dx fs) ∧ Cls K C ∧ NoAttr K C f ∧ fs.lookup f = some v ∧ Q v H1
/-- e.f, a constant of the class -/
def tCon (K : PySem.W.Frag) (ta : TE) (f : Str) : TE := fun σ H Q => ta σ H fun x H1 => ∃ a C dx fs v u, x = .ref a ∧ H1 a = some (.ins C dx fs) ∧ Cls K C ∧ Con K C f v u ∧ fs.lookup f = none ∧ Q v H1
/-- e.f = value -/
def sFld (K : PySem.W.Frag) (ta tv : TE) (f : Str) : TS := fun D σ H => tv σ H fun y H1 => ta σ H1 fun x H2 => ∃ a C dx fs, x = .ref a ∧ H2 a = some (.ins C dx fs) ∧ Cls K C ∧ NoAttr K C f ∧ fs.length < 1000 ∧
  D.nx σ (upd H2 a (.ins C dx (putF f y fs)))
/-- an augmented operator on two values -/
def InOp (X : Cx) (op : Operator) (rd : V → V → Hp → VK → Prop) : Prop :=
  ∀ (pins : List (Addr × Obj)) (s : Shared) (σ : St) (H : Hp) (x y : V) (u v : Value) (Q : VK), Inv X pins σ H s → RelV x u → RelV y v → rd x y H Q → wpAny (model X.prog X.w) X.A (inplaceOp op u v) (EP X pins σ Q) X.xe s
/-- e.f op= value -/
def sFldAug (K : PySem.W.Frag) (ta tv : TE) (rd : V → V → Hp → VK → Prop) (f : Str) : TS := fun D σ H => ta σ H fun x H1 => ∃ a C dx fs v, x = .ref a ∧ H1 a = some (.ins C dx fs) ∧ Cls K C ∧ NoAttr K C f ∧ fs.lookup f = some v ∧
  tv σ H1 fun y H2 => rd v y H2 fun z H3 => ∃ dx' fs', H3 a = some (.ins C dx' fs') ∧ fs'.length < 1000 ∧ D.nx σ (upd H3 a (.ins C dx' (putF f z fs')))

section
variable {X : Cx} {o e value : Expr} {f : Str} {pos pos' tpos : Pos} {ta tv : TE}
theorem pe_fld (he : PE X e ta) (hb : attributeBase e f X.env (eval e X.env) = eval e X.env) : PE X (.Attribute e f pos) (tFld X.K ta f) := by
  intro pins s σ H Q I h
  refine attr_of hb (thn (he pins s σ H _ I h) fun u s1 ⟨x, H1, I1, rx, a, C, dx, fs, v, ex, ea, c, n, l, q⟩ => ?_)
  subst ex
  obtain rfl : u = Value.ref a := rx
  exact getattr_ok I1 ea c n l fun u' s2 I2 ru => ⟨v, H1, I2, ru, q⟩
theorem pe_con (he : PE X e ta) (hb : attributeBase e f X.env (eval e X.env) = eval e X.env) : PE X (.Attribute e f pos) (tCon X.K ta f) := by
  intro pins s σ H Q I h
  refine attr_of hb (thn (he pins s σ H _ I h) fun u s1 ⟨x, H1, I1, rx, a, C, dx, fs, v, u0, ex, ea, c, k, l, q⟩ => ?_)
  subst ex
  obtain rfl : u = Value.ref a := rx
  exact getcon_ok I1 ea c k l fun s2 I2 => ⟨v, H1, I2, k.rel, q⟩
theorem ps_fld (ha : PE X o ta) (hv : PE X value tv) (hs : swapsWith value (some (.Attribute o f pos')) pos.line X.env = pure false) : PS X (.Assign [.Attribute o f pos'] value pos) (sFld X.K ta tv f) := by
  intro pins s σ H D I h
  refine plainObj_wpAny_Assign_Attribute (thn (hv pins s σ H _ I h) fun u s1 ⟨y, H1, I1, ry, q⟩ => thn (ha pins s1 σ H1 _ I1 q) fun ov s2 ⟨x, H2, I2, rx, a, C, dx, fs, ex, ea, c, n, l, q2⟩ => ?_) hs
  subst ex
  obtain rfl : ov = Value.ref a := rx
  exact setattr_ok I2 ea c n l ry fun s3 I3 => ⟨σ, _, I3, q2⟩
theorem ps_fldaug {op : Operator} {rd : V → V → Hp → VK → Prop} (ha : PE X o ta) (hv : PE X value tv) (hop : InOp X op rd) : PS X (.AugAssign (.Attribute o f tpos) op value pos) (sFldAug X.K ta tv rd f) := by
  intro pins s σ H D I h
  refine wpAny_AugAssign_AttributeAny (thn (ha pins s σ H _ I h) fun ov s1 ⟨x, H1, I1, rx, a, C, dx, fs, v, ex, ea, c, n, l, q⟩ => ?_)
  subst ex
  obtain rfl : ov = Value.ref a := rx
  refine getattr_ok I1 ea c n l fun u s2 I2 ru => thn (hv pins s2 σ H1 _ I2 q) fun w3 s3 ⟨y, H2, I3, ry, q3⟩ => thn (hop pins s3 σ H2 v y u w3 _ I3 ru ry q3) fun w4 s4 ⟨z, H3, I4, rz, dx', fs', ea', l', q4⟩ => ?_
  exact setattr_ok I4 ea' c n l' rz fun s5 I5 => ⟨σ, _, I5, q4⟩
def rAdd : V → V → Hp → VK → Prop := fun x y H Q => ∃ i j, x = .int i ∧ y = .int j ∧ Q (.int (i + j)) H
def rSub : V → V → Hp → VK → Prop := fun x y H Q => ∃ i j, x = .int i ∧ y = .int j ∧ Q (.int (i - j)) H
theorem in_add : InOp X .Add rAdd := by
  rintro pins s σ H x y u v Q I rx ry ⟨i, j, rfl, rfl, q⟩
  obtain ⟨t, rfl⟩ := (show ∃ t, u = Value.int i t from rx)
  obtain ⟨t', rfl⟩ := (show ∃ t', v = Value.int j t' from ry)
  exact PyProof.Rows.iadd_int ⟨.int (i + j), H, I.tok _, ⟨_, rfl⟩, q⟩
theorem in_sub : InOp X .Sub rSub := by
  rintro pins s σ H x y u v Q I rx ry ⟨i, j, rfl, rfl, q⟩
  obtain ⟨t, rfl⟩ := (show ∃ t, u = Value.int i t from rx)
  obtain ⟨t', rfl⟩ := (show ∃ t', v = Value.int j t' from ry)
  exact PyProof.Rows.isub_int ⟨.int (i - j), H, I.tok _, ⟨_, rfl⟩, q⟩

/-- what is between an instance and its method: the tree of a method call -/
theorem methcall_of {pl : Sem Bool} {m : Str} {apos : Pos} {args : List Expr} {pins : List (Addr × Obj)} {s : Shared} {σ : St} {H : Hp} {Q : Value → Shared → Prop} {te : TE} (he : PE X e te) (I : Inv X pins σ H s)
    (h : te σ H fun x H1 => ∃ a C dx fs g, x = .ref a ∧ H1 a = some (.ins C dx fs) ∧ Cls X.K C ∧ Meth X.K C m g ∧ fs.lookup m = none ∧
      ∀ s1, Inv X pins σ H1 s1 → wpAny (model X.prog X.w) X.A (callWith pos (.ref g) [.ref a] (backTo pos (starEach args X.env)) (backToKw pos (keywordEach [] X.env))) Q X.xe s1)
    (ht : eval (.Call (.Attribute e m apos) args [] pos) X.env = (do
      let ov ← eval e X.env
      standAt apos.atName
      let (f, first) ← holding [ov] (getMethod ov m pl)
      callWith pos f first (backTo pos (starEach args X.env)) (backToKw pos (keywordEach [] X.env)))) :
    wpAny (model X.prog X.w) X.A (eval (.Call (.Attribute e m apos) args [] pos) X.env) Q X.xe s := by
  refine PySem.W.methodCall_KW (pl := pl) (thn (he pins s σ H _ I h) fun u s1 ⟨x, H1, I1, rx, a, C, dx, fs, g, ex, ea, c, k, l, q⟩ => ?_) ht
  subst ex
  obtain rfl : u = Value.ref a := rx
  exact getmeth_ok I1 ea c k l (q s1 I1)
end

/-! ### isinstance -/
section
variable {X : Cx} {pins : List (Addr × Obj)} {σ : St} {H : Hp} {s : Shared} {A : Around} {E : Value → Shared → Prop} {Q : Value → Shared → Prop} {c : Value} {b : Bool}
/-- the type of a value, as the fragment's deciders take it; for an instance its class -/
inductive TyOf (K : PySem.W.Frag) (H : Hp) : V → Value → Prop where
  | non : TyOf K H .non (.type "NoneType")
  | bl (x : Bool) : TyOf K H (.bl x) (.type "bool")
  | int (i : Int) : TyOf K H (.int i) (.type "int")
  | str (x : Str) : TyOf K H (.str x) (.type "str")
  | flt (x : UInt64) : TyOf K H (.flt x) (.type "float")
  | lst {a : Addr} {xs : List V} (e : H a = some (.lst xs)) : TyOf K H (.ref a) (.type "list")
  | frz {a : Addr} {o : Obj} {xs : List V} (e : H a = some (.frz o (.lst xs))) : TyOf K H (.ref a) (.type "list")
  | tup {a : Addr} {xs : List V} (e : H a = some (.tup xs)) : TyOf K H (.ref a) (.type "tuple")
  | dK {a : Addr} {kvs : List (Key × V)} (e : H a = some (.dK kvs)) : TyOf K H (.ref a) (.type "dict")
  | dT {a : Addr} {kvs : List (List Key × V)} (e : H a = some (.dT kvs)) : TyOf K H (.ref a) (.type "dict")
  | ins {a C dx : Addr} {fs : List (Str × V)} (e : H a = some (.ins C dx fs)) (cl : Cls K C) (ha : PySem.W.findIn K (.ref C) "__class__" = some (some (.builtin "object.__class__")))
      (hn : PySem.W.specialIn K (.builtin "object.__class__") "__get__" = some (some (.builtin "getset_descriptor.__get__"))) (htk : PySem.W.takesIn K (.builtin "object.__class__") = some true)
      (hm : PySem.W.mroIn K C (.type "object") = some true) : TyOf K H (.ref a) (.ref C)
/-- isinstance(x, c) for one class c, a built-in or an own one: kitOne's answer -/
theorem isinst_ok {x : V} {u t : Value} (I : Inv X pins σ H s) (rx : RelV x u) (ty : TyOf X.K H x t) (e : PySem.W.kitOne X.K t c = some b) (h : ∀ tk, Q (.bool b) { s with toks := tk }) :
    wpAny (model X.prog X.w) A (call (.builtin "isinstance") [u, c]) Q E s := by
  cases ty with
  | non => cases (show u = Value.none from rx); exact PySem.W.kia_one PySem.W.kitx_none I.kIn True.intro e (fun z => nomatch z) h
  | bl y => cases (show u = Value.bool y from rx); exact PySem.W.kia_one PySem.W.kitx_bool I.kIn True.intro e (fun z => nomatch z) h
  | int i => obtain ⟨t, q⟩ := (show ∃ t, u = Value.int i t from rx); cases q; exact PySem.W.kia_one PySem.W.kitx_int I.kIn True.intro e (fun z => nomatch z) h
  | str y => obtain ⟨t, q⟩ := (show ∃ t, u = Value.str y t from rx); cases q; exact PySem.W.kia_one PySem.W.kitx_str I.kIn True.intro e (fun z => nomatch z) h
  | flt y => obtain ⟨t, q⟩ := (show ∃ t, u = Value.float y t from rx); cases q; exact PySem.W.kia_one PySem.W.kitx_float I.kIn True.intro e (fun z => nomatch z) h
  | @lst a xs ea =>
    cases (show u = Value.ref a from rx)
    obtain ⟨_, _, n, _, h1⟩ := (show ObjOk X.prog X.w H s.heap a (.lst xs) from I.hok a _ ea)
    exact PySem.W.kia_one PySem.W.kitx_list I.kIn ⟨_, h1, rfl⟩ e (fun z => nomatch z) h
  | @frz a ob xs ea =>
    cases (show u = Value.ref a from rx)
    obtain ⟨_, _, _, n, _, h1⟩ := (show ObjOk X.prog X.w H s.heap a (.frz ob (.lst xs)) from I.hok a _ ea)
    exact PySem.W.kia_one PySem.W.kitx_list I.kIn ⟨_, h1, rfl⟩ e (fun z => nomatch z) h
  | @tup a xs ea =>
    cases (show u = Value.ref a from rx)
    obtain ⟨_, _, _, p⟩ := (show ObjOk X.prog X.w H s.heap a (.tup xs) from I.hok a _ ea)
    obtain ⟨o, h1, h2, _⟩ := p
    exact PySem.W.kia_one PySem.W.kitx_tuple I.kIn ⟨o, h1, h2⟩ e (fun z => nomatch z) h
  | @dK a kvs ea =>
    cases (show u = Value.ref a from rx)
    obtain ⟨_, _, vs, _, p⟩ := (show ObjOk X.prog X.w H s.heap a (.dK kvs) from I.hok a _ ea)
    obtain ⟨o, es, ep, h1, h2, _⟩ := p
    exact PySem.W.kia_one PySem.W.kitx_dict I.kIn ⟨o, h1, h2.1⟩ e (fun z => nomatch z) h
  | @dT a kvs ea =>
    cases (show u = Value.ref a from rx)
    obtain ⟨_, _, xs, _, o, es, ep, h1, h2, _⟩ := (show ObjOk X.prog X.w H s.heap a (.dT kvs) from I.hok a _ ea)
    exact PySem.W.kia_one PySem.W.kitx_dict I.kIn ⟨o, h1, h2.1⟩ e (fun z => nomatch z) h
  | @ins a C dx fs ea cl ha hn htk hm =>
    cases (show u = Value.ref a from rx)
    obtain ⟨mA, O, _⟩ := ins_get I.hok ea
    obtain ⟨od, J, _⟩ := O.look
    exact PySem.W.kia_one (PySem.W.kitx_own (cl.get _) cl.hd ha hn htk hm) I.kIn J e (fun z => nomatch z) h
end
end L2

namespace L2
open PySem PySem.Spec PyProof.Rows

/-! ### room -/
structure Room (k : Nat) (A : Around) : Prop where
  hd : A.handled = none
  dp : A.depth + 3 * k + 5 < recursionLimit
  un : A.units + 16 * k + 200 < cLine
theorem Room.mono {j k : Nat} {A : Around} (r : Room k A) (h : j ≤ k) : Room j A := ⟨r.hd, by have := r.dp; omega, by have := r.un; omega⟩
theorem Room.deeper {k : Nat} {A : Around} (r : Room (k + 1) A) (env : Env) : Room k (A.deeper env) :=
  ⟨r.hd, by have := r.dp; show A.depth + 1 + 3 * k + 5 < _; omega, by have := r.un; show A.units + 3 + 16 * k + 200 < _; omega⟩
theorem Room.in1 {k : Nat} {A : Around} (r : Room (k + 1) A) : Room k A.in1 :=
  ⟨r.hd, by have := r.dp; show A.depth + 3 * k + 5 < _; omega, by have := r.un; show A.units + 1 + 16 * k + 200 < _; omega⟩
theorem make_depth {A : Around} {C : Addr} {us : List Value} {kw : List (Str × Value)} : (A.under (.builtin "type.__call__" ⟨.ref C :: us, kw⟩)).depth = A.depth + 1 := by
  first | rfl | simp [Around.under, Code.weight, Code.isCreation, Code.isGuard, Code.isCaller, Code.frames, Code.isFrame, guardIds]
theorem make_units {A : Around} {C : Addr} {us : List Value} {kw : List (Str × Value)} : (A.under (.builtin "type.__call__" ⟨.ref C :: us, kw⟩)).units = A.units + 1 := by
  first | rfl | simp [Around.under, Code.cUnits, Code.frames, Code.isFrame]
theorem Room.make {k : Nat} {A : Around} (r : Room (k + 1) A) (C : Addr) (us : List Value) (kw : List (Str × Value)) : Room k (A.under (.builtin "type.__call__" ⟨.ref C :: us, kw⟩)) :=
  ⟨r.hd, by have := r.dp; rw [make_depth]; omega, by have := r.un; rw [make_units]; omega⟩
theorem Room.depth {k : Nat} {A : Around} (r : Room k A) : A.depth < recursionLimit := by have := r.dp; omega
theorem Room.units {k : Nat} {A : Around} (r : Room k A) : A.units + 64 < cLine := by have := r.un; omega
theorem Room.units0 {k : Nat} {A : Around} (r : Room k A) : A.units < cLine := by have := r.un; omega

/-! ### argument lists and displays -/
def tNil : TA := fun _ H Q => Q [] H
def tCons (ta : TE) (tr : TA) : TA := fun σ H Q => ta σ H fun x H1 => tr σ H1 fun xs H2 => Q (x :: xs) H2
section
variable {X : Cx} {e : Expr} {es : List Expr} {te : TE} {t : TA} {pos : Pos}
theorem pa_nil : PA X [] tNil := fun _ _ _ _ H Q I h => Calls.spliced_nil ⟨[], H, I, .nil, h⟩
theorem pa_cons (ha : PE X e te) (hr : PA X es t) (hs : starEach (e :: es) X.env = (false, eval e X.env) :: starEach es X.env := by rfl) : PA X (e :: es) (tCons te t) := by
  intro pos pins s σ H Q I h
  rw [hs]
  show wpAny _ _ (spliced ((false, eval e X.env) :: backTo pos (starEach es X.env))) _ _ s
  refine Calls.spliced_cons (thn (ha pins s σ H _ I h) fun u s1 ⟨x, H1, I1, r1, q1⟩ => ?_)
  exact thn (hr pos pins s1 σ H1 _ I1 q1) fun us s2 ⟨xs, H2, I2, r2, q2⟩ => ⟨x :: xs, H2, I2, .cons r1 r2, q2⟩

/-- a tuple, a list of written items -/
def tTup (t : TA) : TE := fun σ H Q => t σ H fun xs H1 => xs.length ≤ sizeLine ∧ ∀ p, H1 p = none → Q (.ref p) (upd H1 p (.tup xs))
def tLst (t : TA) : TE := fun σ H Q => t σ H fun xs H1 => xs.length ≤ sizeLine ∧ ∀ p, H1 p = none → Q (.ref p) (upd H1 p (.lst xs))
theorem pe_tup {x1} (h : PA X es t) : PE X (.Tuple es x1 pos) (tTup t) := by
  intro pins s σ H Q I hq
  refine wpAny_Tuple_spliced (thn (h pos pins s σ H _ I hq) fun us s1 ⟨xs, H1, I1, r, z, q⟩ => ⟨by rw [← r.length]; exact z, ?_⟩)
  have hf : H1 s1.heap.objs.size = none := I1.hok.fresh (Nat.le_refl _)
  refine ⟨.ref s1.heap.objs.size, upd H1 s1.heap.objs.size (.tup xs), I1.laid (t' := s1.toks) (fun b u e => Heap.get?_push_of_some _ e) (Nat.le_refl _) ?_, rfl, q _ hf⟩
  exact ⟨z, us, r, ⟨_, Heap.get?_push_size _ rfl, rfl, _, rfl⟩⟩
theorem pe_lst (h : PA X es t) : PE X (.List es pos) (tLst t) := by
  intro pins s σ H Q I hq
  refine wpAny_List_spliced (thn (h pos pins s σ H _ I hq) fun us s1 ⟨xs, H1, I1, r, z, q⟩ => ⟨by rw [← r.length]; exact z, ?_⟩)
  have hf : H1 s1.heap.objs.size = none := I1.hok.fresh (Nat.le_refl _)
  refine ⟨.ref s1.heap.objs.size, upd H1 s1.heap.objs.size (.lst xs), I1.laid (t' := s1.toks) (fun b u e => Heap.get?_push_of_some _ e) (Nat.le_refl _) ?_, rfl, q _ hf⟩
  exact ⟨z, us, 0, r, Heap.get?_push_size _ rfl⟩
end

/-! ### what a def promises -/
/-- a def's promise: the bound arguments in the parameters' order, the heap, the wanted end, the wanted exception -/
abbrev Sp := List V → Hp → VK → XK → Prop
/-- how an exception lies behind a call (file 08 gives it): the callers' frames, abstract heap and state ahead of the call, the wish, the exception, the state -/
abbrev CXT := List Env → Hp → Shared → XK → Value → Shared → Prop

/-- the state at a call -/
structure Env0 (P : Program) (w : World) (K : PySem.W.Frag) (mg : Str → Option Value) (base : Heap) (A : Around) (outer : List Env) (s : Shared) (H : Hp) : Prop where
  frames : A.frames = some outer
  mod : Mod K mg base
  bs : ∀ b o, base.get? b = some o → s.heap.get? b = some o ∧ H b = none
  bsz : base.objs.size ≤ s.heap.objs.size
  funs : s.heap.FunFrames base outer
  frf : ∀ b ∈ frs outer, H b = none
  hok : HOk P w H s.heap
  bare : AllBare s.gens
/-- a call's end -/
def CE (outer : List Env) (P : Program) (w : World) (H : Hp) (s : Shared) (Q : VK) (u : Value) (s' : Shared) : Prop :=
  ∃ v H', s'.os = s.os ∧ AllBare s'.gens ∧ Un (frs outer) [] H H' s.heap s'.heap ∧ HOk P w H' s'.heap ∧ RelV v u ∧ Q v H'
def CR (CX : CXT) (outer : List Env) (P : Program) (w : World) (H : Hp) (s : Shared) (Q : VK) (E : XK) (r : Result) (s' : Shared) : Prop :=
  match r with
  | .ok (.ret u) => CE outer P w H s Q u s'
  | .ok _ => False
  | .error e => CX outer H s E e s'
structure FnOk (P : Program) (w : World) (K : PySem.W.Frag) (mg : Str → Option Value) (base : Heap) (CX : CXT) (k : Nat) (f : Addr) (fd : FuncData) (ps : List Str) (sp : Sp) : Prop where
  len : ∀ vs H Q E, sp vs H Q E → vs.length = ps.length
  run : ∀ (A : Around) (outer : List Env) (s : Shared) (H : Hp) (args : Args) (us : List Value) (vs : List V) (Q : VK) (E : XK), Room k A → Env0 P w K mg base A outer s H → BindsTo s fd args (ps.zip us) → Vals vs us → sp vs H Q E →
    codeAny (model P w) A (.call (.ref f) args) (CR CX outer P w H s Q E) s
theorem FnOk.mono {P : Program} {w : World} {K : PySem.W.Frag} {mg : Str → Option Value} {base : Heap} {CX : CXT} {j k : Nat} {f : Addr} {fd : FuncData} {ps : List Str} {sp : Sp} (F : FnOk P w K mg base CX j f fd ps sp) (h : j ≤ k) :
    FnOk P w K mg base CX k f fd ps sp := ⟨F.len, fun A outer s H args us vs Q E hr => F.run A outer s H args us vs Q E (hr.mono h)⟩
/-- a weaker promise -/
theorem FnOk.imp {P : Program} {w : World} {K : PySem.W.Frag} {mg : Str → Option Value} {base : Heap} {CX : CXT} {k : Nat} {f : Addr} {fd : FuncData} {ps : List Str} {sp sp' : Sp} (F : FnOk P w K mg base CX k f fd ps sp)
    (h : ∀ vs H Q E, sp' vs H Q E → sp vs H Q E) : FnOk P w K mg base CX k f fd ps sp' :=
  ⟨fun vs H Q E q => F.len vs H Q E (h _ _ _ _ q), fun A outer s H args us vs Q E hr he hb hv hs => F.run A outer s H args us vs Q E hr he hb hv (h _ _ _ _ hs)⟩

theorem Env0.make {P : Program} {w : World} {K : PySem.W.Frag} {mg : Str → Option Value} {base : Heap} {A : Around} {outer : List Env} {s : Shared} {H : Hp} (e : Env0 P w K mg base A outer s H) (C : Addr) (us : List Value) (kw : List (Str × Value)) :
    Env0 P w K mg base (A.under (.builtin "type.__call__" ⟨.ref C :: us, kw⟩)) outer s H := ⟨by first | exact e.frames | (simpa [Around.under, Code.envs, Code.isFrame, pushEnvs] using e.frames), e.mod, e.bs, e.bsz, e.funs, e.frf, e.hok, e.bare⟩
theorem Env0.in1 {P : Program} {w : World} {K : PySem.W.Frag} {mg : Str → Option Value} {base : Heap} {A : Around} {outer : List Env} {s : Shared} {H : Hp} (e : Env0 P w K mg base A outer s H) :
    Env0 P w K mg base A.in1 outer s H := ⟨e.frames, e.mod, e.bs, e.bsz, e.funs, e.frf, e.hok, e.bare⟩

section
variable {X : Cx} {pins : List (Addr × Obj)} {σ : St} {H : Hp} {s s' : Shared}
/-- from a body: what a callee wants -/
theorem Inv.env0 (I : Inv X pins σ H s) : Env0 X.prog X.w X.K X.mg X.base X.A X.stack s H :=
  ⟨I.ok.frames, I.ok.mod, I.bs, Nat.le_trans I.ok.bsz I.sz, I.stack, I.stkFree, I.hok, I.bare⟩
/-- behind a call -/
theorem Inv.after {Q : VK} {u : Value} (I : Inv X pins σ H s) (h : CE X.stack X.prog X.w H s Q u s') : EP X pins σ Q u s' := by
  obtain ⟨v, H', os, bare, un, hok, r, q⟩ := h
  obtain ⟨hh, g, d, t, os'⟩ := s'
  obtain rfl : os' = s.os := os
  exact ⟨v, H', I.call (h' := hh) (g' := g) (d' := d) (t' := t) (ch := []) un hok bare (fun b z => absurd z (by simp)), r, q⟩
end

/-! ### calls -/
/-- f(..): the written arguments, then the defaults dvs; E: what is wanted of an exception -/
def tCall (sp : Sp) (dvs : List V) (E : XK) (t : TA) : TE := fun σ H Q => t σ H fun vs H1 => sp (vs ++ dvs) H1 Q E
/-- o.m(..) of an instance of the class at C -/
def tMeth (C : Addr) (m : Str) (sp : Sp) (dvs : List V) (E : XK) (ta : TE) (t : TA) : TE := fun σ H Q => ta σ H fun x H1 => ∃ a dx fs, x = .ref a ∧ H1 a = some (.ins C dx fs) ∧ fs.lookup m = none ∧
  t σ H1 fun vs H2 => sp (x :: (vs ++ dvs)) H2 Q E
/-- C(..): a new instance and its dict, then __init__ -/
def tMake (C : Addr) (sp : Sp) (dvs : List V) (E : XK) (t : TA) : TE := fun σ H Q => t σ H fun vs H1 => ∀ x dx, H1 x = none → H1 dx = none → dx ≠ x →
  sp (.ref x :: (vs ++ dvs)) (upd (upd H1 dx (.own x)) x (.ins C dx [])) (fun v H2 => v = .non ∧ Q (.ref x) H2) E

/-- how the parameters are bound: us the positional arguments, kw the keywords' values by name, ds the defaults that fill up -/
def Binds (K : PySem.W.Frag) (fd : FuncData) (ps : List Str) (ds : List Value) : Prop :=
  ∀ (s : Shared) (us : List Value), K.In s.heap → (us ++ ds).length = ps.length → BindsTo s fd ⟨us, []⟩ (ps.zip (us ++ ds))
/-- every parameter is given -/
theorem Binds.all {K : PySem.W.Frag} {fd : FuncData} {ps : List Str} (h : ∀ us : List Value, us.length = ps.length → bindArgs fd ⟨us, []⟩ = pure (ps.zip us)) : Binds K fd ps [] := fun s us _ hl => by
  rw [List.append_nil] at hl ⊢
  exact .of_eq (h us hl)

/-- an exception of a callee reaches what this body wants of exceptions -/
def Passes (CX : CXT) (X : Cx) (E : XK) : Prop := ∀ (pins : List (Addr × Obj)) (σ : St) (H : Hp) (s : Shared) (e : Value) (s' : Shared), Inv X pins σ H s → CX X.stack H s E e s' → X.xe e s'

section
variable {X : Cx} {CX : CXT} {k : Nat} {f C : Addr} {fd : FuncData} {ps : List Str} {sp : Sp} {dvs : List V} {ds : List Value} {E : XK} {x m : Str} {p pos apos : Pos} {e o : Expr} {es : List Expr} {ta : TE} {t : TA}

/-- the callee runs -/
theorem run_fn {pins : List (Addr × Obj)} {σ : St} {H : Hp} {s : Shared} {Q : VK} {us : List Value} {vs : List V} (F : FnOk X.prog X.w X.K X.mg X.base CX k f fd ps sp) (hr : Room k X.A) (hb : Binds X.K fd ps ds) (hd : Vals dvs ds) (hx : Passes CX X E)
    (I : Inv X pins σ H s) (r : Vals vs us) (h : sp (vs ++ dvs) H Q E) : wpAny (model X.prog X.w) X.A (call (.ref f) us) (EP X pins σ Q) X.xe s := by
  have r2 : Vals (vs ++ dvs) (us ++ ds) := r.append hd
  have hl : (us ++ ds).length = ps.length := by rw [← r2.length]; exact F.len _ _ _ _ h
  refine wpAny_call (codeAny_mono (F.run X.A X.stack s H ⟨us, []⟩ (us ++ ds) (vs ++ dvs) Q E hr I.env0 (hb s us I.kIn hl) r2 h) fun r s' hq => ?_)
  cases r with
  | error e => exact hx pins σ H s e s' I hq
  | ok fl =>
    cases fl with
    | ret u => exact I.after hq
    | next => exact False.elim hq
    | brk => exact False.elim hq
    | cont => exact False.elim hq

theorem pe_call (F : FnOk X.prog X.w X.K X.mg X.base CX k f fd ps sp) (hr : Room k X.A) (hg : Gl X x) (hm : X.mg x = some (.ref f)) (hk : PySem.W.keepIn X.K (.ref f) = true) (hb : Binds X.K fd ps ds) (hd : Vals dvs ds) (hx : Passes CX X E)
    (ha : PA X (e :: es) t) (hdb : (x == ("__debug__" : Str)) = false := by decide) (he : starEach (e :: es) X.env = (false, eval e X.env) :: starEach es X.env := by rfl) (hpl : (backTo pos (starEach es X.env)).any (·.1) = false := by rfl) :
    PE X (.Call (.Name x p) (e :: es) [] pos) (tCall sp dvs E t) := by
  intro pins s σ H Q I h
  refine wpAny_Call_Name_kw (ld_glob I hg hm ?_ hdb)
  refine PySem.W.callWith_K (h₀ := X.base) I.ok.mod.kin hk (thn (ha pos pins s σ H _ I h) fun us s1 ⟨vs, H1, I1, r, q⟩ => ⟨I1.kIn, ?_⟩) he hpl
  exact run_fn F hr hb hd hx I1 r q
theorem pe_call0 (F : FnOk X.prog X.w X.K X.mg X.base CX k f fd ps sp) (hr : Room k X.A) (hg : Gl X x) (hm : X.mg x = some (.ref f)) (hk : PySem.W.keepIn X.K (.ref f) = true) (hb : Binds X.K fd ps ds) (hd : Vals dvs ds) (hx : Passes CX X E)
    (hdb : (x == ("__debug__" : Str)) = false := by decide) : PE X (.Call (.Name x p) [] [] pos) (tCall sp dvs E tNil) := by
  intro pins s σ H Q I h
  refine wpAny_Call_Name_kw (ld_glob I hg hm ?_ hdb)
  exact PySem.W.callWith_K0 I.kIn hk (run_fn (us := []) F hr hb hd hx I .nil h)

/-- o.m(e, ..) -/
theorem pe_meth {pl : Sem Bool} (he : PE X o ta) (c : Cls X.K C) (hm : Meth X.K C m f) (F : FnOk X.prog X.w X.K X.mg X.base CX k f fd ps sp) (hr : Room k X.A) (hb : Binds X.K fd ps ds) (hd : Vals dvs ds) (hx : Passes CX X E) (ha : PA X (e :: es) t)
    (hst : starEach (e :: es) X.env = (false, eval e X.env) :: starEach es X.env := by rfl) (hpl : (backTo pos (starEach es X.env)).any (·.1) = false := by rfl)
    (ht : eval (.Call (.Attribute o m apos) (e :: es) [] pos) X.env = (do
      let ov ← eval o X.env
      standAt apos.atName
      let (f, first) ← holding [ov] (getMethod ov m pl)
      callWith pos f first (backTo pos (starEach (e :: es) X.env)) (backToKw pos (keywordEach [] X.env))) := by rfl) :
    PE X (.Call (.Attribute o m apos) (e :: es) [] pos) (tMeth C m sp dvs E ta t) := by
  intro pins s σ H Q I h
  refine PySem.W.methodCall_KW (pl := pl) (thn (he pins s σ H _ I h) fun u s1 ⟨x, H1, I1, rx, a, dx, fs, ex, ea, l, q⟩ => ?_) ht
  subst ex
  obtain rfl : u = Value.ref a := rx
  refine getmeth_ok I1 ea c hm l ?_
  refine PySem.W.callWith_K (first := [.ref a]) (h₀ := X.base) I.ok.mod.kin hm.kp (thn (ha pos pins s1 σ H1 _ I1 q) fun us s2 ⟨vs, H2, I2, r, q2⟩ => ⟨I2.kIn, ?_⟩) hst hpl
  exact run_fn (us := .ref a :: us) (vs := .ref a :: vs) F hr hb hd hx I2 (.cons rfl r) q2
/-- o.m() -/
theorem pe_meth0 {pl : Sem Bool} (he : PE X o ta) (c : Cls X.K C) (hm : Meth X.K C m f) (F : FnOk X.prog X.w X.K X.mg X.base CX k f fd ps sp) (hr : Room k X.A) (hb : Binds X.K fd ps ds) (hd : Vals dvs ds) (hx : Passes CX X E)
    (ht : eval (.Call (.Attribute o m apos) [] [] pos) X.env = (do
      let ov ← eval o X.env
      standAt apos.atName
      let (f, first) ← holding [ov] (getMethod ov m pl)
      callWith pos f first (backTo pos (starEach [] X.env)) (backToKw pos (keywordEach [] X.env))) := by rfl) :
    PE X (.Call (.Attribute o m apos) [] [] pos) (tMeth C m sp dvs E ta tNil) := by
  intro pins s σ H Q I h
  refine PySem.W.methodCall_KW (pl := pl) (thn (he pins s σ H _ I h) fun u s1 ⟨x, H1, I1, rx, a, dx, fs, ex, ea, l, q⟩ => ?_) ht
  subst ex
  obtain rfl : u = Value.ref a := rx
  refine getmeth_ok I1 ea c hm l ?_
  exact PySem.W.callWith_K0 (first := [.ref a]) I1.kIn hm.kp (run_fn (us := [.ref a]) (vs := [.ref a]) F hr hb hd hx I1 (.cons rfl .nil) q)

/-- what a class must have to be made -/
structure Mk (K : PySem.W.Frag) (C f : Addr) : Prop where
  makes : PySem.W.makesIn K C = true
  init : PySem.W.findIn K (.ref C) "__init__" = some (some (.ref f))
  fn : PySem.W.isFn K (.ref f) = true
  kp : PySem.W.keepIn K (.ref C) = true

theorem run_make {pins : List (Addr × Obj)} {σ : St} {H : Hp} {s : Shared} {Q : VK} {us : List Value} {vs : List V} (M : Mk X.K C f) (F : FnOk X.prog X.w X.K X.mg X.base CX k f fd ps sp) (hr : Room (k + 1) X.A) (hb : Binds X.K fd ps ds) (hd : Vals dvs ds)
    (hx : Passes CX X E) (I : Inv X pins σ H s) (r : Vals vs us)
    (h : ∀ x dx, H x = none → H dx = none → dx ≠ x → sp (.ref x :: (vs ++ dvs)) (upd (upd H dx (.own x)) x (.ins C dx [])) (fun v H2 => v = .non ∧ Q (.ref x) H2) E) :
    wpAny (model X.prog X.w) X.A (call (.ref C) us) (EP X pins σ Q) X.xe s := by
  have hq := h (s.heap.objs.size + 1) s.heap.objs.size (I.hok.fresh (Nat.le_succ _)) (I.hok.fresh (Nat.le_refl _)) (Nat.ne_of_lt (Nat.lt_succ_self _))
  have I2 := Inv.made (C := C) I
  have r2 : Vals (V.ref (s.heap.objs.size + 1) :: (vs ++ dvs)) (Value.ref (s.heap.objs.size + 1) :: (us ++ ds)) := .cons rfl (r.append hd)
  have hl : (Value.ref (s.heap.objs.size + 1) :: us ++ ds).length = ps.length := by
    have e := r2.length
    rw [F.len _ _ _ _ hq] at e
    exact e.symm
  refine wpAny_call (make_map (f := f) I.kIn M.makes M.init (beq_iff_eq.mp M.fn) (codeAny_mono (F.run _ X.stack _ _ ⟨Value.ref (s.heap.objs.size + 1) :: us, []⟩ (Value.ref (s.heap.objs.size + 1) :: (us ++ ds)) _ _ E (hr.make C us [])
    (I2.env0.make C us []) (hb _ (Value.ref (s.heap.objs.size + 1) :: us) I2.kIn hl) r2 hq) fun r s' hq' => ?_))
  cases r with
  | error e => exact hx pins σ _ _ e s' I2 hq'
  | ok fl =>
    cases fl with
    | ret u =>
      obtain ⟨v, H', I3, rv, ev, q3⟩ := I2.after hq'
      subst ev
      exact ⟨rv, ⟨V.ref (s.heap.objs.size + 1), H', I3, rfl, q3⟩⟩
    | next => exact False.elim hq'
    | brk => exact False.elim hq'
    | cont => exact False.elim hq'
theorem pe_make (M : Mk X.K C f) (F : FnOk X.prog X.w X.K X.mg X.base CX k f fd ps sp) (hr : Room (k + 1) X.A) (hg : Gl X x) (hm : X.mg x = some (.ref C)) (hb : Binds X.K fd ps ds) (hd : Vals dvs ds) (hx : Passes CX X E)
    (ha : PA X (e :: es) t) (hdb : (x == ("__debug__" : Str)) = false := by decide) (he : starEach (e :: es) X.env = (false, eval e X.env) :: starEach es X.env := by rfl) (hpl : (backTo pos (starEach es X.env)).any (·.1) = false := by rfl) :
    PE X (.Call (.Name x p) (e :: es) [] pos) (tMake C sp dvs E t) := by
  intro pins s σ H Q I h
  refine wpAny_Call_Name_kw (ld_glob I hg hm ?_ hdb)
  refine PySem.W.callWith_K (h₀ := X.base) I.ok.mod.kin M.kp (thn (ha pos pins s σ H _ I h) fun us s1 ⟨vs, H1, I1, r, q⟩ => ⟨I1.kIn, ?_⟩) he hpl
  exact run_make M F hr hb hd hx I1 r q
theorem pe_make0 (M : Mk X.K C f) (F : FnOk X.prog X.w X.K X.mg X.base CX k f fd ps sp) (hr : Room (k + 1) X.A) (hg : Gl X x) (hm : X.mg x = some (.ref C)) (hb : Binds X.K fd ps ds) (hd : Vals dvs ds) (hx : Passes CX X E)
    (hdb : (x == ("__debug__" : Str)) = false := by decide) : PE X (.Call (.Name x p) [] [] pos) (tMake C sp dvs E tNil) := by
  intro pins s σ H Q I h
  refine wpAny_Call_Name_kw (ld_glob I hg hm ?_ hdb)
  exact PySem.W.callWith_K0 I.kIn M.kp (run_make (us := []) M F hr hb hd hx I .nil h)
end

/-! ### keywords -/
/-- the values of the keywords, from the left -/
def PK (X : Cx) (kws : List Keyword) (t : TA) : Prop :=
  ∀ (pos : Pos) (pins : List (Addr × Obj)) (s : Shared) (σ : St) (H : Hp) (Q : List V → Hp → Prop), Inv X pins σ H s → t σ H Q → wpAny (model X.prog X.w) X.A (evalAll ((backToKw pos (keywordEach kws X.env)).map (·.2))) (AP X pins σ Q) X.xe s
section
variable {X : Cx} {CX : CXT} {k : Nat} {f C : Addr} {fd : FuncData} {ps ks : List Str} {sp : Sp} {E : XK} {x m : Str} {p pos apos kpos : Pos} {e o : Expr} {es : List Expr} {kws : List Keyword} {te ta : TE} {t tk : TA} {nm : Option Str}
theorem pk_nil : PK X [] tNil := fun _ _ _ _ H Q I h => wpAny_evalAll_nil ⟨[], H, I, .nil, h⟩
theorem pk_cons (ha : PE X e te) (hr : PK X kws t) : PK X (⟨nm, e, kpos⟩ :: kws) (tCons te t) := by
  intro pos pins s σ H Q I h
  show wpAny _ _ (evalAll ((do let v ← eval e X.env; standAt pos; pure v) :: (backToKw pos (keywordEach kws X.env)).map (·.2))) _ _ s
  refine wpAny_evalAll_cons (wpAny_bind (thn (ha pins s σ H _ I h) fun u s1 ⟨x, H1, I1, r1, q1⟩ => wpAny_bind (wpAny_standAt (wpAny_pure ?_))))
  exact thn (hr pos pins s1 σ H1 _ I1 q1) fun us s2 ⟨xs, H2, I2, r2, q2⟩ => ⟨x :: xs, H2, I2, .cons r1 r2, q2⟩

/-- how a call with keywords binds: g puts the positional values us and the keywords' values ws (names ks) in the parameters' order, defaults among them -/
structure KBinds (K : PySem.W.Frag) (fd : FuncData) (ps ks : List Str) (g : List Value → List Value → List Value) (gV : List V → List V → List V) : Prop where
  to : ∀ (s : Shared) (us ws : List Value), K.In s.heap → (g us ws).length = ps.length → BindsTo s fd ⟨us, ks.zip ws⟩ (ps.zip (g us ws))
  rel : ∀ {vs : List V} {us : List Value} {zs : List V} {ws : List Value}, Vals vs us → Vals zs ws → Vals (gV vs zs) (g us ws)
def tCallK (sp : Sp) (gV : List V → List V → List V) (E : XK) (t tk : TA) : TE := fun σ H Q => t σ H fun vs H1 => tk σ H1 fun zs H2 => sp (gV vs zs) H2 Q E
variable {g : List Value → List Value → List Value} {gV : List V → List V → List V}
theorem run_fnk {pins : List (Addr × Obj)} {σ : St} {H : Hp} {s : Shared} {Q : VK} {us ws : List Value} {vs zs : List V} (F : FnOk X.prog X.w X.K X.mg X.base CX k f fd ps sp) (hr : Room k X.A) (hb : KBinds X.K fd ps ks g gV) (hx : Passes CX X E)
    (I : Inv X pins σ H s) (r : Vals vs us) (rz : Vals zs ws) (h : sp (gV vs zs) H Q E) : wpAny (model X.prog X.w) X.A (call (.ref f) us (ks.zip ws)) (EP X pins σ Q) X.xe s := by
  have r2 := hb.rel r rz
  have hl : (g us ws).length = ps.length := by rw [← r2.length]; exact F.len _ _ _ _ h
  refine wpAny_call (codeAny_mono (F.run X.A X.stack s H ⟨us, ks.zip ws⟩ (g us ws) (gV vs zs) Q E hr I.env0 (hb.to s us ws I.kIn hl) r2 h) fun r s' hq => ?_)
  cases r with
  | error e => exact hx pins σ H s e s' I hq
  | ok fl =>
    cases fl with
    | ret u => exact I.after hq
    | next => exact False.elim hq
    | brk => exact False.elim hq
    | cont => exact False.elim hq
/-- f(e, .., k = v, ..) -/
theorem pe_callK (F : FnOk X.prog X.w X.K X.mg X.base CX k f fd ps sp) (hr : Room k X.A) (hg : Gl X x) (hm : X.mg x = some (.ref f)) (hk : PySem.W.keepIn X.K (.ref f) = true) (hb : KBinds X.K fd ps ks g gV) (hx : Passes CX X E)
    (ha : PA X (e :: es) t) (hkw : PK X kws tk) (hall : (backToKw pos (keywordEach kws X.env)).all (·.1.isSome) = true := by rfl) (hks : (backToKw pos (keywordEach kws X.env)).filterMap (·.1) = ks := by rfl)
    (hdb : (x == ("__debug__" : Str)) = false := by decide) (he : starEach (e :: es) X.env = (false, eval e X.env) :: starEach es X.env := by rfl)
    (hpl : ((backTo pos (starEach (e :: es) X.env)).any (·.1) || (backToKw pos (keywordEach kws X.env)).any (·.1.isNone)) = false := by rfl) :
    PE X (.Call (.Name x p) (e :: es) kws pos) (tCallK sp gV E t tk) := by
  intro pins s σ H Q I h
  refine wpAny_Call_Name_kw (ld_glob I hg hm ?_ hdb)
  refine PySem.W.callWith_KW (h₀ := X.base) I.ok.mod.kin hk hall (thn (ha pos pins s σ H _ I h) fun us s1 ⟨vs, H1, I1, r, q⟩ => ?_) hpl he
  refine thn (hkw pos pins s1 σ H1 _ I1 q) fun ws s2 ⟨zs, H2, I2, rz, q2⟩ => ⟨I2.kIn, ?_⟩
  rw [hks]
  exact run_fnk F hr hb hx I2 r rz q2
end

/-! ### a def's body keeps its promise -/
/-- names: the parameters first -/
structure FnScope (N P : List Str) (sc : Scope) : Prop where
  kind : sc.kind = .function
  co : sc.isCoroutine = false
  gen : sc.isGenerator = false
  nd : N.Nodup
  pre : N.take P.length = P
  par : ∀ x ∈ P, sc.names.lookup x = some .local ∨ sc.names.lookup x = some .cell
  nofree : ∀ y ∈ sc.names, y.2 ≠ .free

theorem bindL_out {kindOf : Str → Option NameKind} {x : Str} : ∀ {binds : List (Str × Value)} {m : Str → Option Value}, (∀ v, (x, v) ∉ binds) → bindL kindOf binds m x = m x
  | [], _, _ => rfl
  | (n, v) :: r, m, h => by
    unfold bindL
    rw [bindL_out fun w hw => h w (List.mem_cons_of_mem _ hw)]
    split
    · have : x ≠ n := by rintro rfl; exact h v List.mem_cons_self
      simp [this]
    · rfl
theorem bindC_out {kindOf : Str → Option NameKind} {x : Str} : ∀ {binds : List (Str × Value)} {m : Str → Option Value}, (∀ v, (x, v) ∉ binds) → bindC kindOf binds m x = m x
  | [], _, _ => rfl
  | (n, v) :: r, m, h => by
    unfold bindC
    rw [bindC_out fun w hw => h w (List.mem_cons_of_mem _ hw)]
    split
    · rfl
    · have : x ≠ n := by rintro rfl; exact h v List.mem_cons_self
      simp [this]
theorem bindL_get {kindOf : Str → Option NameKind} {x : Str} {v : Value} : ∀ {P : List Str} {vs : List Value} {i : Nat} {m : Str → Option Value}, P.Nodup → P[i]? = some x → vs[i]? = some v → kindOf x = some .local →
    bindL kindOf (P.zip vs) m x = some v
  | [], _, _, _, _, h, _, _ => by simp at h
  | _ :: _, [], _, _, _, _, h, _ => by simp at h
  | p :: P, w :: vs, 0, m, nd, h1, h2, hk => by
    simp at h1 h2; subst h1; subst h2
    show bindL kindOf ((p, w) :: P.zip vs) m p = _
    unfold bindL
    rw [bindL_out fun v hv => (List.nodup_cons.mp nd).1 (List.of_mem_zip hv).1, if_pos hk]
    simp
  | p :: P, w :: vs, i + 1, m, nd, h1, h2, hk => by
    show bindL kindOf ((p, w) :: P.zip vs) m x = _
    unfold bindL
    exact bindL_get (i := i) (List.nodup_cons.mp nd).2 (by simpa using h1) (by simpa using h2) hk
theorem bindC_get {kindOf : Str → Option NameKind} {x : Str} {v : Value} : ∀ {P : List Str} {vs : List Value} {i : Nat} {m : Str → Option Value}, P.Nodup → P[i]? = some x → vs[i]? = some v → kindOf x ≠ some .local →
    bindC kindOf (P.zip vs) m x = some v
  | [], _, _, _, _, h, _, _ => by simp at h
  | _ :: _, [], _, _, _, _, h, _ => by simp at h
  | p :: P, w :: vs, 0, m, nd, h1, h2, hk => by
    simp at h1 h2; subst h1; subst h2
    show bindC kindOf ((p, w) :: P.zip vs) m p = _
    unfold bindC
    rw [bindC_out fun v hv => (List.nodup_cons.mp nd).1 (List.of_mem_zip hv).1, if_neg hk]
    simp
  | p :: P, w :: vs, i + 1, m, nd, h1, h2, hk => by
    show bindC kindOf ((p, w) :: P.zip vs) m x = _
    unfold bindC
    exact bindC_get (i := i) (List.nodup_cons.mp nd).2 (by simpa using h1) (by simpa using h2) hk

/-- the names' values at the entry -/
def start (N : List Str) (vs : List V) : St := vs.map some ++ List.replicate (N.length - vs.length) none

/-- the context of a def's body, at its entry; an exception leaves the frame, then lies as CX says -/
def cxOf (CX : CXT) (P : Program) (w : World) (K : PySem.W.Frag) (mg : Str → Option Value) (base : Heap) (N : List Str) (qual : Str) (scope : Scope) (f : Addr) (cd : Value) (A : Around) (outer : List Env) (s : Shared) (H : Hp) (E : XK) : Cx where
  prog := P
  w := w
  K := K
  mg := mg
  base := base
  A := A.deeper (envOfC qual scope s.heap.objs.size f cd)
  N := N
  s_0 := s
  H_0 := H
  env := envOfC qual scope s.heap.objs.size f cd
  outer := outer
  stack := envOfC qual scope s.heap.objs.size f cd :: outer
  ex := []
  calm := true
  fn := fun _ => true
  pn := []
  xe := fun e s' => wpAny (model P w) (A.deeper (envOfC qual scope s.heap.objs.size f cd)) (leaving (envOfC qual scope s.heap.objs.size f cd) e) (fun _ s'' => CX outer H s E e s'') (fun e' s'' => CX outer H s E e' s'') s'

theorem cell_has {sc : Scope} {n : Nat} {x : Str} (h : sc.names.lookup x = some .cell) : ∃ c, (cellsFrom n sc.names []).lookup x = some c := by
  have q := PySem.W.cellsFrom_some sc.names n [] (.inl h)
  exact Option.isSome_iff_exists.mp q

theorem inv_start {CX : CXT} {P : Program} {w : World} {K : PySem.W.Frag} {mg : Str → Option Value} {base : Heap} {N ps : List Str} {qual : Str} {scope : Scope} {f : Addr} {cd : Value} {A : Around} {outer : List Env} {s s1 : Shared} {H : Hp} {E : XK} {us : List Value} {vs : List V}
    (S : FnScope N ps scope) (hd : A.handled = none) (e0 : Env0 P w K mg base A outer s H) (hl : vs.length = ps.length) (r : Vals vs us)
    (x : InCallC s s.heap.objs.size (bindL (envOfC qual scope s.heap.objs.size f cd).kindOf (ps.zip us) fun _ => none) (cellsFrom (s.heap.objs.size + 1) scope.names []) (bindC (envOfC qual scope s.heap.objs.size f cd).kindOf (ps.zip us) fun _ => none) s1) :
    Inv (cxOf CX P w K mg base N qual scope f cd A outer s H E) [] (start N vs) H s1 := by
  have hpl : ps.length ≤ N.length := by have := congrArg List.length S.pre; rw [List.length_take] at this; omega
  obtain ⟨h1, tk, rfl, hk⟩ := x.done
  have noA : ∀ b : Addr, b ∉ (cxOf CX P w K mg base N qual scope f cd A outer s H E).ex := fun b z => absurd (show b ∈ ([] : List Addr) from z) (by simp)
  refine ⟨⟨e0.mod, S.kind, rfl, rfl, Nat.le_refl _, fun y z c h1 h2 => ?_, fun y hy => ?_, fun y c _ h => ?_, fun _ => hd, Around.frames_deeper e0.frames, .inr ⟨rfl, rfl⟩, fun b z => absurd z (noA b), e0.bs, e0.bsz, fun b _ _ => noA b, fun b z => absurd z (noA b), e0.funs, e0.frf⟩,
    rfl, e0.bare, Un.kept hk, ⟨_, x.toInCall.ns, fun i y v h1 h2 h3 => ?_⟩, fun y c h => ⟨_, x.cell y c h⟩, e0.hok.fresh (Nat.le_refl _), fun y c h => ?_, fun p hp => absurd (show p ∈ ([] : List (Addr × Obj)) from hp) (by simp), e0.hok.kept hk, ?_⟩
  · exact name_of_addr x.apart (PySem.mem_of_lookup h1) (PySem.mem_of_lookup h2)
  · have hy : scope.names.lookup y = some .cell ∨ scope.names.lookup y = some .free := hy
    rcases hy with hy | hy
    · exact cell_has hy
    · exact absurd rfl (S.nofree _ (PySem.mem_of_lookup hy))
  · exact Nat.le_of_lt (x.above y c (PySem.mem_of_lookup h))
  · have hi : i < vs.length := by
      unfold start at h2
      by_cases hi : i < vs.length
      · exact hi
      · rw [List.getElem?_append_right (by simpa using hi)] at h2
        rw [List.getElem?_replicate] at h2
        split at h2 <;> cases h2
    have ha : vs[i]? = some v := by
      unfold start at h2
      rw [List.getElem?_append_left (by simpa using hi), List.getElem?_map] at h2
      cases e : vs[i]? with
      | none => rw [e] at h2; cases h2
      | some a => rw [e] at h2; cases h2; rfl
    obtain ⟨u, hu, rv⟩ := r.get ha
    have hp : ps[i]? = some y := by
      rw [← S.pre, List.getElem?_take_of_lt (by omega)]; exact h1
    have ndP : ps.Nodup := by rw [← S.pre]; exact S.nd.sublist (List.take_sublist _ _)
    refine ⟨u, rv, ?_⟩
    rcases S.par y (List.mem_of_getElem? hp) with k | k
    · exact .inl ⟨k, bindL_get ndP hp hu k⟩
    · obtain ⟨c, e⟩ := cell_has (n := s.heap.objs.size + 1) k
      refine .inr ⟨.inl k, c, e, ?_⟩
      have q := x.cell y c e
      rw [bindC_get ndP hp hu (by show scope.names.lookup y ≠ _; rw [k]; decide)] at q
      exact q
  · exact e0.hok.fresh (Nat.le_of_lt (x.above y c (PySem.mem_of_lookup h)))
  · unfold start
    show _ = N.length
    rw [List.length_append, List.length_map, List.length_replicate]
    omega

/-- THE RULE: a def (or a method) of the text, by its body. The body's reading t is chosen for each entry; it is run at the parameters' values -/
theorem fn_of {CX : CXT} {P : Program} {w : World} {K : PySem.W.Frag} {mg : Str → Option Value} {base : Heap} {k : Nat} {f : Addr} {name qual : Str} {params : Arguments} {body : List Stmt} {scope : Scope} {dV kV doc pm cdv ct oc : Value} {an od : Option Addr}
    {osl : Array (Option Value)} {N ps : List Str} {sp : Sp} (lk : K.lookup f = some ⟨oc, od, .func (PySem.W.fnOf name qual params body scope dV kV doc pm an cdv ct), osl⟩) (hcd : PySem.W.codeIn K cdv qual = true) (S : FnScope N ps scope)
    (len : ∀ vs H Q E, sp vs H Q E → vs.length = ps.length)
    (hbody : ∀ (A : Around) (outer : List Env) (s : Shared) (H : Hp) (vs : List V) (Q : VK) (E : XK), Room k (A.deeper (envOfC qual scope s.heap.objs.size f cdv)) → sp vs H Q E →
      ∃ t, PSs (cxOf CX P w K mg base N qual scope f cdv A outer s H E) body t ∧ t { nx := fun _ H' => Q .non H', rt := Q } (start N vs) H) :
    FnOk P w K mg base CX (k + 1) f (PySem.W.fnOf name qual params body scope dV kV doc pm an cdv ct) ps sp := by
  refine ⟨len, fun A outer s H args us vs Q E hr e0 hb r hsp => ?_⟩
  have hl := len _ _ _ _ hsp
  have KX : K.In s.heap := e0.mod.kin.keeps fun b o e => (e0.bs b o e).1
  have lim : s.heap.NoLimit := e0.mod.nolimit.keeps fun b o e => (e0.bs b o e).1
  have hkind : ∀ y ∈ ps.zip us, scope.names.lookup y.1 = some .local ∨ (scope.names.lookup y.1 = some .cell ∧ ((cellsFrom (s.heap.objs.size + 1) scope.names []).lookup y.1).isSome = true) := fun ⟨n, v⟩ hy => by
    rcases S.par n (List.of_mem_zip hy).1 with q | q
    · exact .inl q
    · exact .inr ⟨q, PySem.W.cellsFrom_some _ _ _ (.inl q)⟩
  refine codeAny_call_function hr.depth (KX _ _ lk) rfl S.co S.gen rfl (PySem.W.codeRec_of KX hcd) (hb _ _ _ _ ?_)
  refine wpAny_newFunctionEnv_cells S.kind hkind fun env he s1 x => ?_
  subst he
  refine ⟨lim.keeps x.toInCall.keep, codeAny_func ?_⟩
  obtain ⟨t, ht, hq⟩ := hbody A outer s H vs Q E (hr.deeper _) hsp
  have I : Inv (cxOf CX P w K mg base N qual scope f cdv A outer s H E) [] (start N vs) H s1 := inv_start S hr.hd e0 hl r x
  refine wpAny_mono (ht [] s1 (start N vs) H _ I hq) (fun fl s' hs => ?_) fun e s' hs => hs
  have fin : ∀ {σ' : St} {H' : Hp} {v : V} {u : Value}, Inv (cxOf CX P w K mg base N qual scope f cdv A outer s H E) [] σ' H' s' → RelV v u → Q v H' → CE outer P w H s Q u s' :=
    fun {σ' H' v u} J rv q => ⟨v, H', J.os, J.bare, J.base, J.hok, rv, q⟩
  cases fl with
  | ret u =>
    obtain ⟨v, σ', H', J, rv, q⟩ := hs
    exact fin J rv q
  | next =>
    obtain ⟨σ', H', J, q⟩ := hs
    exact fin (v := V.non) (u := Value.none) J rfl q
  | brk =>
    obtain ⟨_, _, _, q⟩ := hs
    exact False.elim q
  | cont =>
    obtain ⟨_, _, _, q⟩ := hs
    exact False.elim q
end L2

namespace L2
open PySem PySem.Spec PyProof.Rows
section
variable {X : Cx} {x : Str} {p pos : Pos} {e : Expr} {es : List Expr} {t : TA} {id T : String} {r : List V → Hp → VK → Prop}

def tCB (r : List V → Hp → VK → Prop) (t : TA) : TE := fun σ H Q => t σ H fun vs H1 => r vs H1 Q
/-- f(e, ..), f a built-in function -/
theorem pe_callB (hc : CallR X (.builtin id) r) (hg : Gl X x) (hm : X.mg x = none) (hv : bootBuiltins x = some (.builtin id)) (ha : PA X (e :: es) t) (hn : x ≠ "__name__" := by decide) (hdb : (x == ("__debug__" : Str)) = false := by decide)
    (he : starEach (e :: es) X.env = (false, eval e X.env) :: starEach es X.env := by rfl) (hpl : (backTo pos (starEach es X.env)).any (·.1) = false := by rfl) : PE X (.Call (.Name x p) (e :: es) [] pos) (tCB r t) := by
  intro pins s σ H Q I h
  refine wpAny_Call_Name_kw (ld_blt I hg hm hv ?_ hn hdb)
  exact PyProof.Rows.callWith_builtin1 (thn (ha pos pins s σ H _ I h) fun us s1 ⟨vs, H1, I1, r1, q1⟩ => hc pins s1 σ H1 vs us Q I1 r1 q1) he hpl
/-- T(e, ..), T a built-in type -/
theorem pe_callTy (hc : CallR X (.type T) r) (hg : Gl X x) (hm : X.mg x = none) (hv : bootBuiltins x = some (.type T)) (ha : PA X (e :: es) t) (hn : x ≠ "__name__" := by decide) (hdb : (x == ("__debug__" : Str)) = false := by decide)
    (he : starEach (e :: es) X.env = (false, eval e X.env) :: starEach es X.env := by rfl) (hpl : (backTo pos (starEach es X.env)).any (·.1) = false := by rfl) : PE X (.Call (.Name x p) (e :: es) [] pos) (tCB r t) := by
  intro pins s σ H Q I h
  refine wpAny_Call_Name_kw (ld_blt I hg hm hv ?_ hn hdb)
  exact PyProof.Rows.callWith_type1 (thn (ha pos pins s σ H _ I h) fun us s1 ⟨vs, H1, I1, r1, q1⟩ => hc pins s1 σ H1 vs us Q I1 r1 q1) he hpl
/-- T() -/
theorem pe_callTy0 (hc : CallR X (.type T) r) (hg : Gl X x) (hm : X.mg x = none) (hv : bootBuiltins x = some (.type T)) (hn : x ≠ "__name__" := by decide) (hdb : (x == ("__debug__" : Str)) = false := by decide) :
    PE X (.Call (.Name x p) [] [] pos) (tCB r tNil) := by
  intro pins s σ H Q I h
  refine wpAny_Call_Name_kw (ld_blt I hg hm hv ?_ hn hdb)
  exact PyProof.Rows.callWith_type0 (hc pins s σ H [] [] Q I .nil h)
end
end L2

namespace HT
open PySem PyProof.Rows

/-- t < u of tuples of ints -/
def lexLt : List Int → List Int → Bool
  | [], [] => false
  | [], _ :: _ => true
  | _ :: _, [] => false
  | x :: xs, y :: ys => if x = y then lexLt xs ys else decide (x < y)
theorem lexLt_cons (x y : Int) (xs ys : List Int) : lexLt (x :: xs) (y :: ys) = if x = y then lexLt xs ys else decide (x < y) := rfl
theorem lexLt_nil_nil : lexLt [] [] = false := rfl
theorem lexLt_nil_cons (y : Int) (ys : List Int) : lexLt [] (y :: ys) = true := rfl
theorem lexLt_cons_nil (x : Int) (xs : List Int) : lexLt (x :: xs) [] = false := rfl

theorem eqAt_int (A : Around) (s : Shared) (a : Int) (t : Tok) (c : Int) (u : Tok) : ∃ e, SeqAt.EqAt A s (.int a t) (.int c u) e ∧ (e = true ↔ a = c) :=
  ⟨(a == c), SeqAt.EqAt.int_int a t c u, by simp⟩
theorem rcLt_int (A : Around) (s : Shared) (a : Int) (t : Tok) (c : Int) (u : Tok) (prog : Program) (w : World) (E : Value → Shared → Prop) (Q : Value → Shared → Prop) (h : Q (.bool (decide (a < c))) s) :
    wpAny (model prog w) A (richCompare .Lt (.int a t) (.int c u)) Q E s :=
  (PyProof.Rows.lt_int h : wpAny (model prog w) A (compareOp .Lt (.int a t) (.int c u)) Q E s)

section
open PySem.SeqAt
open PySem.AutoSeq1 (wpAny_loadPart')
open PySem.MeetsSeq PySem.MeetsSeq2 PySem.MeetsSeq3

theorem tuple_lt_ints (l b : Addr) (items items2 : Array Value) (n n2 : Nat) (dd dd2 : Option Addr) (sl sl2 : Array (Option Value)) (ns ms : List Int) (hi : IntsAre items.toList ns) (hj : IntsAre items2.toList ms) :
    Meets (Builtin.«tuple.__lt__» ⟨[.ref l, .ref b], []⟩)
      (fun _ R s => s.heap.get? l = some { cls := .type "tuple", dict := dd, data := .seq items n, slots := sl } ∧ s.heap.get? b = some { cls := .type "tuple", dict := dd2, data := .seq items2 n2, slots := sl2 } ∧
        R (.ok (.ret (.bool (lexLt ns ms)))) s) :=
  .of_wp fun prog w A R s h => by
    obtain ⟨hp, g, d, tk, os⟩ := s; obtain ⟨hl, hb, h⟩ := h
    have f2 := AutoSeq1.sub_tuple_tuple
    have z1 : items.size = ns.length := by rw [← hi.length]; simp
    have z2 : items2.size = ms.length := by rw [← hj.length]; simp
    wp_walk using wpAny_loadPart' hl, wpAny_loadPart' hb, wpAny_forIn_list _ (fun rest b s' => b.1 = none ∧ s' = ⟨hp, g, d, tk, os⟩ ∧ ∃ (vs ws : List Value) (ns' ms' : List Int), rest = vs.zip ws ∧
      IntsAre vs ns' ∧ IntsAre ws ms' ∧ ns'.length + items2.size = ms'.length + items.size ∧ R (.ok (.ret (.bool (lexLt ns' ms')))) ⟨hp, g, d, tk, os⟩) _
    case turn =>
      rintro ⟨y, x⟩ rest b s' ⟨hb', rfl, vs, ws, ns', ms', hz, hvi, hwi, hlen, hR⟩
      cases hvi with
      | nil => rw [List.zip_nil_left] at hz; cases hz
      | cons a t hvi' =>
        cases hwi with
        | nil => rw [List.zip_nil_right] at hz; cases hz
        | cons c u hwi' =>
          rw [List.zip_cons_cons] at hz
          injection hz with hyx hrest
          injection hyx with hy hx
          subst hy hx
          rw [lexLt_cons] at hR
          simp only [List.length_cons] at hlen
          obtain ⟨e, he, hiff⟩ := eqAt_int A.in1 ⟨hp, g, d, tk, os⟩ a t c u
          refine wpAny_bind (he prog w _ _ ?_)
          cases e with
          | true =>
            rw [if_pos (hiff.mp rfl)] at hR
            wp_walk
            exact ⟨rfl, rfl, _, _, _, _, hrest, hvi', hwi', by omega, hR⟩
          | false =>
            rw [if_neg (fun q => absurd (hiff.mpr q) Bool.false_ne_true)] at hR
            have hri := rcLt_int A.in1 ⟨hp, g, d, tk, os⟩ a t c u prog w
            wp_walk using hri
            exact ⟨_, rfl, by simpa using hR⟩
    case fin =>
      rintro ⟨b1, b2⟩ s' ⟨hb', rfl, vs, ws, ns', ms', hz, hvi, hwi, hlen, hR⟩
      simp only at hb'
      subst hb'
      have hv : lexLt ns' ms' = decide (items.size < items2.size) := by
        cases hvi with
        | nil =>
          cases hwi with
          | nil =>
            simp only [List.length_nil] at hlen
            rw [lexLt_nil_nil]
            exact (decide_eq_false (by omega)).symm
          | cons c u hw =>
            simp only [List.length_nil, List.length_cons] at hlen
            rw [lexLt_nil_cons]
            exact (decide_eq_true (by omega)).symm
        | cons a t hv =>
          cases hwi with
          | nil =>
            simp only [List.length_nil, List.length_cons] at hlen
            rw [lexLt_cons_nil]
            exact (decide_eq_false (by omega)).symm
          | cons c u hw =>
            rw [List.zip_cons_cons] at hz
            cases hz
      rw [hv] at hR
      wp_walk
      exact ⟨_, rfl, by simpa [Builtin.Tuple.tupleCompareSizes] using hR⟩
    case h =>
      exact ⟨rfl, rfl, items.toList, items2.toList, ns, ms, rfl, hi, hj, by omega, h⟩
end

section
variable {prog : Program} {w : World} {A : Around} {E : Value → Shared → Prop} {s : Shared}

theorem lt_tupInts {l b : Addr} {items items2 : Array Value} {ns ms : List Int} {Q : Value → Shared → Prop} (hl : IsTup s.heap l items) (hb : IsTup s.heap b items2) (hi : IntsAre items.toList ns) (hj : IntsAre items2.toList ms)
    (hu : A.units < cLine) (h : Q (.bool (lexLt ns ms)) s) : wpAny (model prog w) A (compareOp .Lt (.ref l) (.ref b)) Q E s := by
  obtain ⟨⟨cls, dd, data, sl⟩, ho, hc, n, hd⟩ := id hl
  obtain ⟨⟨cls2, dd2, data2, sl2⟩, ho2, hc2, n2, hd2⟩ := id hb
  simp only at hc hd hc2 hd2
  subst hc hd hc2 hd2
  exact richCompare_meets_room (op := .Lt) ⟨_, ho, rfl⟩ ⟨_, ho2, rfl⟩ PySem.F.slot_tuple_lt PySem.F.entry_tuple_lt (PySem.F.args_tuple_lt_2 _ _) (tuple_lt_ints l b items items2 n n2 dd dd2 sl sl2 ns ms hi hj)
    ⟨ho, ho2, show Value.bool (lexLt ns ms) ≠ Value.notImplemented ∧ Q (.bool (lexLt ns ms)) s from ⟨(fun x => nomatch x), h⟩⟩ hu

/-- t + u, t not empty -/
theorem cat_tup {t b : Addr} {vs ws : List Value} {Q : Value → Shared → Prop} (ht : IsTup s.heap t vs.toArray) (hb : IsTup s.heap b ws.toArray) (hv : vs ≠ [])
    (h1 : ws = [] → Q (.ref t) s) (h2 : ws ≠ [] → Q (.ref s.heap.objs.size) { s with heap := s.heap.push { cls := .type "tuple", data := .seq (vs ++ ws).toArray } })
    (hsz : vs.length + ws.length ≤ sizeLine) : wpAny (model prog w) A (binaryOp .Add (.ref t) (.ref b)) Q E s := by
  obtain ⟨⟨cls, dd, data, sl⟩, ho, hc, n, hd⟩ := id ht
  obtain ⟨⟨cls2, dd2, data2, sl2⟩, ho2, hc2, n2, hd2⟩ := id hb
  simp only at hc hd hc2 hd2
  subst hc hd hc2 hd2
  have e : vs.toArray ++ ws.toArray = (vs ++ ws).toArray := by simp
  by_cases hw : ws = []
  · exact concat_meets ⟨_, ho, rfl⟩ ⟨_, ho2, rfl⟩ noFill_tuple_add seq_tuple_add PySem.F.slot_tuple_add PySem.F.entry_tuple_add (PySem.F.args_tuple_add_2 _ _)
      (tuple_addW1 t b vs.toArray ws.toArray n n2 dd dd2 sl sl2 (by simpa using hv) (by simp [hw])) ⟨ho, ho2, h1 hw⟩
  · refine concat_meets ⟨_, ho, rfl⟩ ⟨_, ho2, rfl⟩ noFill_tuple_add seq_tuple_add PySem.F.slot_tuple_add PySem.F.entry_tuple_add (PySem.F.args_tuple_add_2 _ _)
      (tuple_addW2 t b vs.toArray ws.toArray n n2 dd dd2 sl sl2 (by simpa using hv) (by simpa using hw) (by rw [List.size_toArray, List.size_toArray]; exact hsz)) ⟨ho, ho2, ?_⟩
    rw [e]
    exact h2 hw

/-! ### t[a:b], not the whole -/
/-- a slice's bound as a place among n (d where it is left out) -/
def sIx (n d : Nat) : Option Int → Nat
  | none => d
  | some v => if v < 0 then (v + (n : Int)).toNat else min v.toNat n
theorem sIx_none (n d : Nat) : sIx n d none = d := rfl
theorem sIx_nat (n d k : Nat) : sIx n d (some (k : Int)) = min k n := by
  show (if (k : Int) < 0 then ((k : Int) + (n : Int)).toNat else min (k : Int).toNat n) = min k n
  rw [if_neg (by omega), Int.toNat_natCast]
theorem sIx_le (n d : Nat) (hd : d ≤ n) (o : Option Int) : sIx n d o ≤ n := by
  cases o with
  | none => exact hd
  | some v =>
    show (if v < 0 then (v + (n : Int)).toNat else min v.toNat n) ≤ n
    by_cases hv : v < 0
    · rw [if_pos hv]; omega
    · rw [if_neg hv]; exact Nat.min_le_right _ _
theorem clip_eq (v : Int) (n d : Nat) : (if v < 0 then max (v + (n : Int)) 0 else min v (n : Int)) = ((sIx n d (some v) : Nat) : Int) := by
  show (if v < 0 then max (v + (n : Int)) 0 else min v (n : Int)) = (((if v < 0 then (v + (n : Int)).toNat else min v.toNat n) : Nat) : Int)
  by_cases hv : v < 0
  · simp only [if_pos hv]; omega
  · simp only [if_neg hv]; omega
theorem adjust_gen (lo hi : Option Int) (n : Nat) : Builtin.Slice.sliceAdjust lo hi 1 (n : Int) = (((sIx n 0 lo : Nat) : Int), ((sIx n n hi : Nat) : Int)) := by
  have h1 : ¬ ((1 : Int) < 0) := by omega
  unfold Builtin.Slice.sliceAdjust
  simp only [h1, if_false]
  refine Prod.ext ?_ ?_
  · cases lo with
    | none => rfl
    | some v => exact clip_eq v n 0
  · cases hi with
    | none => rfl
    | some v => exact clip_eq v n n
theorem places_gen (i j : Nat) : Builtin.Slice.slicePlaces (i : Int) (j : Int) 1 = j - i := by
  unfold Builtin.Slice.slicePlaces
  have h1 : (1 : Int) > 0 := by omega
  simp only [h1, if_true, Int.ediv_one]
  split <;> omega
theorem slicePart_ {v : Value} {o : Option Int} {Q : Option Int → Shared → Prop} (p : IsPart v o) (h : Q o s) : wpAny (model prog w) A (Builtin.Slice.slicePartIndex v) Q E s := by
  cases p with
  | none => exact slicePart_none h
  | int i t => exact slicePart_int h
theorem sliceApplied_gen {sl : Addr} {vl vu : Value} {lo hi : Option Int} {n : Nat} {Q : Int × Int × Nat → Shared → Prop} (hs : s.heap.IsSliceOf sl vl vu .none) (pl : IsPart vl lo) (pu : IsPart vu hi)
    (h : Q (((sIx n 0 lo : Nat) : Int), 1, sIx n n hi - sIx n 0 lo) s) : wpAny (model prog w) A (Builtin.Slice.sliceApplied (.ref sl) (pure (n : Int))) Q E s := by
  obtain ⟨os, hos, hcs, hds⟩ := id hs
  unfold Builtin.Slice.sliceApplied Builtin.Slice.sliceFields
  refine wpAny_bind (wpAny_bind (wpAny_field hos hds (x := vl) rfl (wpAny_bind (wpAny_field hos hds (x := vu) rfl (wpAny_bind (wpAny_field hos hds (x := .none) rfl (wpAny_pure ?_)))))))
  refine wpAny_bind (slicePart_none ?_)
  show wpAny _ _ (if ((1 : Int) == 0) = true then _ else _) _ _ s
  rw [if_neg (by decide)]
  refine wpAny_bind (slicePart_ pl (wpAny_bind (slicePart_ pu (wpAny_bind (wpAny_pure ?_)))))
  show wpAny _ _ (match Builtin.Slice.sliceAdjust lo hi 1 (n : Int) with | (lo, hi) => pure (lo, (1 : Int), Builtin.Slice.slicePlaces lo hi 1)) _ _ s
  rw [adjust_gen lo hi n]
  show wpAny _ _ (pure (((sIx n 0 lo : Nat) : Int), (1 : Int), Builtin.Slice.slicePlaces ((sIx n 0 lo : Nat) : Int) ((sIx n n hi : Nat) : Int) 1)) _ _ s
  rw [places_gen]
  exact wpAny_pure h
theorem pick_gen (xs : Array Value) (i k : Nat) : ((List.range k).filterMap fun (m : Nat) => xs[((i : Int) + (m : Int) * 1).toNat]?).toArray = ((xs.toList.drop i).take k).toArray := by
  have e : (fun (m : Nat) => xs[((i : Int) + (m : Int) * 1).toNat]?) = fun m => xs[i + m]? := by
    funext m
    have : ((i : Int) + (m : Int) * 1).toNat = i + m := by omega
    rw [this]
  rw [e]
  have := pick_run xs i k
  rw [List.filterMap_map] at this
  have e2 : ((fun x => xs[x]?) ∘ fun x => i + x) = fun m => xs[i + m]? := rfl
  rw [e2] at this
  rw [this]

theorem getItem_tuple_cut {t sl : Addr} {items : Array Value} {vl vu : Value} {lo hi : Option Int} {Q : Value → Shared → Prop} (ht : IsTup s.heap t items) (hs : s.heap.IsSliceOf sl vl vu .none) (pl : IsPart vl lo) (pu : IsPart vu hi)
    (hw : ¬ (sIx items.size 0 lo = 0 ∧ sIx items.size items.size hi = items.size))
    (h : Q (.ref s.heap.objs.size) { s with heap := s.heap.push { cls := .type "tuple", data := .seq ((items.toList.drop (sIx items.size 0 lo)).take (sIx items.size items.size hi - sIx items.size 0 lo)).toArray } })
    (hsz : items.size ≤ sizeLine) : wpAny (model prog w) A (getItem (.ref t) (.ref sl)) Q E s := by
  have htake : sizeOk (.seq ((items.toList.drop (sIx items.size 0 lo)).take (sIx items.size items.size hi - sIx items.size 0 lo)).toArray) := by
    show ((items.toList.drop (sIx items.size 0 lo)).take (sIx items.size items.size hi - sIx items.size 0 lo)).toArray.size ≤ sizeLine
    rw [List.size_toArray, List.length_take, List.length_drop, Array.length_toList]
    omega
  have hj : sIx items.size items.size hi ≤ items.size := sIx_le _ _ (Nat.le_refl _) hi
  obtain ⟨os, hos, hcs, hds⟩ := id hs
  have hTs : s.TypeIs (.ref sl) "slice" := ⟨os, hos, hcs⟩
  unfold getItem
  try with_reducible refine wpAny_holding ?_
  first | refine wpAny_bind (wpAny_pure ?_) | skip
  refine wpAny_bind (wpAny_sequenceKey ht.typeIs (by decide) ?_)
  refine wpAny_bind (wpAny_callSpecial?_slot (name := Str.ofString "__getitem__") ht.typeIs PyProof.Rows.slot_tuple_getitem
    (wpAny_call_entry PyProof.Rows.slot_tuple_getitem ht.typeIs entry_tuple_getitem ?_ (args_tuple_getitem _ _)))
  show wpAny _ _ (Builtin.Tuple.tupleItemsOf (.ref t) >>= _) _ _ s
  refine wpAny_bind (tupleItemsOf_ ht ?_)
  refine wpAny_bind (wpAny_typeOf hTs ?_)
  rw [if_pos (by decide)]
  refine wpAny_bind (sliceApplied_gen hs pl pu ?_)
  have hno : ¬ ((((sIx items.size 0 lo : Nat) : Int) == 0 && (1 : Int) == 1 && (sIx items.size items.size hi - sIx items.size 0 lo) == items.size) = true) := by
    intro q
    rw [Bool.and_eq_true, Bool.and_eq_true] at q
    have q1 : ((sIx items.size 0 lo : Nat) : Int) = 0 := eq_of_beq q.1.1
    have q2 : sIx items.size items.size hi - sIx items.size 0 lo = items.size := eq_of_beq q.2
    exact hw ⟨by omega, by omega⟩
  show wpAny _ _ (if (((sIx items.size 0 lo : Nat) : Int) == 0 && (1 : Int) == 1 && (sIx items.size items.size hi - sIx items.size 0 lo) == items.size) = true then _ else _) _ _ s
  rw [if_neg hno, pick_gen]
  first
    | exact wpAny_bind (m := Builtin.Tuple.tupleExact _) (wpAny_newObj_type (wpAny_pure ⟨_, rfl, wpAny_pure h⟩) htake)
    | exact wpAny_bind (m := Builtin.Tuple.tupleExact _) (wpAny_newObj_type (wpAny_bind (wpAny_pure (wpAny_pure ⟨_, rfl, wpAny_pure h⟩))) htake)
    | exact wpAny_bind (wpAny_bind (m := Builtin.Tuple.tupleExact _) (wpAny_newObj_type (wpAny_pure (wpAny_pure ⟨_, rfl, wpAny_pure h⟩)) htake))
    | exact wpAny_bind (wpAny_bind (m := Builtin.Tuple.tupleExact _) (wpAny_newObj_type (wpAny_pure ⟨_, rfl, wpAny_pure h⟩) htake))
end
end HT

namespace L2
open PySem PySem.Spec PyProof.Rows

/-! ### the parts of a slice -/
abbrev TO := St → Hp → (Option Int → Hp → Prop) → Prop
/-- a slice's part (left out, or an int) -/
def PO (X : Cx) (e : Option Expr) (t : TO) : Prop :=
  ∀ (pins : List (Addr × Obj)) (s : Shared) (σ : St) (H : Hp) (Q : Option Int → Hp → Prop), Inv X pins σ H s → t σ H Q →
    wpAny (model X.prog X.w) X.A (evalPart e X.env) (fun u s' => ∃ o H', Inv X pins σ H' s' ∧ IsPart u o ∧ Q o H') X.xe s
def tNoPart : TO := fun _ H Q => Q none H
def tPart (t : TE) : TO := fun σ H Q => t σ H fun x H1 => ∃ i, x = .int i ∧ Q (some i) H1

theorem intsAre_of {ns : List Int} : ∀ {us : List Value}, Vals (ns.map V.int) us → IntsAre us ns := by
  induction ns with
  | nil => intro us r; rw [List.map_nil] at r; cases r; exact .nil
  | cons n ns ih =>
    intro us r
    rw [List.map_cons] at r
    cases r with
    | cons r1 r2 =>
      obtain ⟨t, e⟩ := r1
      subst e
      exact .cons n t (ih r2)

section
variable {X : Cx} {e : Expr} {te : TE} {lo hi : Option Expr} {tl th : TO} {pos p2 : Pos}

theorem po_none : PO X none tNoPart := by
  intro pins s σ H Q I h
  rw [evalPart_none]
  exact wpAny_pure ⟨none, H, I, .none, h⟩
theorem po_some (h : PE X e te) : PO X (some e) (tPart te) := by
  intro pins s σ H Q I hw
  rw [evalPart_some]
  refine thn (h pins s σ H _ I hw) fun u s1 ⟨x, H1, I1, r1, q1⟩ => ?_
  obtain ⟨i, rfl, q⟩ := q1
  obtain ⟨t, rfl⟩ := r1
  exact ⟨some i, H1, I1, .int i t, q⟩

/-- what a slice of a value is, by values: the slice object stands at sl -/
def SlR (X : Cx) (r : V → Option Int → Option Int → Hp → VK → Prop) : Prop :=
  ∀ (pins : List (Addr × Obj)) (s : Shared) (σ : St) (H : Hp) (x : V) (v vl vu : Value) (lo hi : Option Int) (sl : Addr) (Q : VK), Inv X pins σ H s → RelV x v → s.heap.IsSliceOf sl vl vu .none → IsPart vl lo → IsPart vu hi → r x lo hi H Q →
    ∃ T id, typeLookup (.type T) "__getitem__" = pure (some (.builtin id)) ∧ s.TypeIs v T ∧ wpAny (model X.prog X.w) X.A (getItem v (.ref sl)) (EP X pins σ Q) X.xe s
theorem SlR.or {r r' : V → Option Int → Option Int → Hp → VK → Prop} (h : SlR X r) (h' : SlR X r') : SlR X (fun x lo hi H Q => r x lo hi H Q ∨ r' x lo hi H Q) := by
  intro pins s σ H x v vl vu lo hi sl Q I rx hs pl pu q
  rcases q with q | q
  · exact h pins s σ H x v vl vu lo hi sl Q I rx hs pl pu q
  · exact h' pins s σ H x v vl vu lo hi sl Q I rx hs pl pu q
def tSl (r : V → Option Int → Option Int → Hp → VK → Prop) (te : TE) (tl th : TO) : TE := fun σ H Q => te σ H fun x H1 => tl σ H1 fun l H2 => th σ H2 fun u H3 => r x l u H3 Q
/-- a[lo:hi], any a -/
theorem pe_slice {r : V → Option Int → Option Int → Hp → VK → Prop} (hr : SlR X r) (he : PE X e te) (hl : PO X lo tl) (hu : PO X hi th) : PE X (.Subscript e (.Slice lo hi none p2) pos) (tSl r te tl th) := by
  intro pins s σ H Q I h
  refine Subscript_ (thn (he pins s σ H _ I h) fun v s1 ⟨x, H1, I1, r1, q1⟩ => ?_)
  refine wpAny_Slice (thn (hl pins s1 σ H1 _ I1 q1) fun vl s2 ⟨l, H2, I2, pl, q2⟩ => thn (hu pins s2 σ H2 _ I2 q2) fun vu s3 ⟨u, H3, I3, pu, q3⟩ => ?_)
  rw [evalPart_none]
  refine wpAny_pure ?_
  have I4 : Inv X pins σ H3 { s3 with heap := s3.heap.push { cls := .type "slice", data := .fields #[vl, vu, .none] } } := I3.kept (t' := s3.toks) fun b ob q => Heap.get?_push_of_some _ q
  obtain ⟨T, id, hT, ht, hg⟩ := hr pins { s3 with heap := s3.heap.push { cls := .type "slice", data := .fields #[vl, vu, .none] } } σ H3 x v vl vu l u s3.heap.objs.size Q I4 r1 (Heap.IsSliceOf.new ..) pl pu q3
  show wpAny (model X.prog X.w) X.A (subscriptTail e (.Slice lo hi none p2) v (.ref s3.heap.objs.size)) (EP X pins σ Q) X.xe { s3 with heap := s3.heap.push { cls := .type "slice", data := .fields #[vl, vu, .none] } }
  exact tail_any (ops := [.ref s3.heap.objs.size, v]) ht hT hg (by with_unfolding_all rfl)

/-- the items of xs[lo:hi] -/
def cutV (xs : List V) (lo hi : Option Int) : List V := (xs.drop (HT.sIx xs.length 0 lo)).take (HT.sIx xs.length xs.length hi - HT.sIx xs.length 0 lo)
theorem cutV_length (xs : List V) (lo hi : Option Int) : (cutV xs lo hi).length ≤ xs.length := by
  unfold cutV
  rw [List.length_take, List.length_drop]
  omega
/-- t[lo:hi], not the whole of it (the whole would be t itself) -/
def rSlT (K : PySem.W.Frag) : V → Option Int → Option Int → Hp → VK → Prop := fun x lo hi H Q => ∃ a xs, x = .ref a ∧ SqT K H a xs ∧
  ¬ (HT.sIx xs.length 0 lo = 0 ∧ HT.sIx xs.length xs.length hi = xs.length) ∧ ∀ p, H p = none → Q (.ref p) (upd H p (.tup (cutV xs lo hi)))
theorem sl_tup : SlR X (rSlT X.K) := by
  intro pins s σ H x v vl vu lo hi sl Q I rx hs pl pu h
  obtain ⟨a, xs, rfl, hx, hw, q⟩ := h
  cases rx
  obtain ⟨its, r, ht, hz⟩ := I.tuple hx
  have hlen : its.toArray.size = xs.length := by rw [List.size_toArray]; exact r.length.symm
  refine ⟨"tuple", _, PyProof.Rows.slot_tuple_getitem.lookup, ht.typeIs, ?_⟩
  refine HT.getItem_tuple_cut ht hs pl pu (by rw [hlen]; exact hw) ?_ (by rw [hlen]; exact hz)
  rw [hlen]
  refine ⟨.ref s.heap.objs.size, _, I.laid (t' := s.toks) (o := .tup (cutV xs lo hi)) (fun b ob q => Heap.get?_push_of_some _ q) (Nat.le_refl _) ?_, rfl, q _ (I.hok.fresh (Nat.le_refl _))⟩
  exact ⟨Nat.le_trans (cutV_length xs lo hi) hz, _, (r.drop (HT.sIx xs.length 0 lo)).take (HT.sIx xs.length xs.length hi - HT.sIx xs.length 0 lo), IsTup.new _ _⟩

/-! ### t < u, t + u -/
def rLtT (K : PySem.W.Frag) : R2 := fun x y H Q => ∃ a b ns ms, x = .ref a ∧ y = .ref b ∧ SqT K H a (ns.map V.int) ∧ SqT K H b (ms.map V.int) ∧ Q (.bl (HT.lexLt ns ms)) H
theorem op_ltT (hu : X.A.units < cLine) : OpR X (compareOp .Lt) (rLtT X.K) := by
  intro pins s σ H x y v u Q I rx ry h
  obtain ⟨a, b, ns, ms, rfl, rfl, ha, hb, q⟩ := h
  cases rx
  cases ry
  obtain ⟨its, r1, p1, _⟩ := I.tuple ha
  obtain ⟨its2, r2, p2, _⟩ := I.tuple hb
  have i1 : IntsAre its.toArray.toList ns := intsAre_of r1
  have i2 : IntsAre its2.toArray.toList ms := intsAre_of r2
  exact HT.lt_tupInts p1 p2 i1 i2 hu ⟨.bl (HT.lexLt ns ms), H, I, rfl, q⟩
/-- t + u, t not empty: u empty gives t itself -/
def rCatT (K : PySem.W.Frag) : R2 := fun x y H Q => ∃ a b xs ys, x = .ref a ∧ y = .ref b ∧ SqT K H a xs ∧ SqT K H b ys ∧ xs ≠ [] ∧ xs.length + ys.length ≤ sizeLine ∧
  (ys = [] → Q (.ref a) H) ∧ (ys ≠ [] → ∀ p, H p = none → Q (.ref p) (upd H p (.tup (xs ++ ys))))
theorem Vals.nil_iff {xs : List V} {us : List Value} (r : Vals xs us) : us = [] ↔ xs = [] := by
  cases r with
  | nil => simp
  | cons _ _ => simp
theorem op_catT : OpR X (binaryOp .Add) (rCatT X.K) := by
  intro pins s σ H x y v u Q I rx ry h
  obtain ⟨a, b, xs, ys, rfl, rfl, ha, hb, hx, hz, q1, q2⟩ := h
  cases rx
  cases ry
  obtain ⟨its, r1, p1, _⟩ := I.tuple ha
  obtain ⟨its2, r2, p2, _⟩ := I.tuple hb
  refine HT.cat_tup p1 p2 (fun z => hx (r1.nil_iff.mp z)) (fun z => ⟨.ref a, H, I, rfl, q1 (r2.nil_iff.mp z)⟩) (fun z => ?_) (by rw [← r1.length, ← r2.length]; exact hz)
  refine ⟨.ref s.heap.objs.size, _, I.laid (t' := s.toks) (o := .tup (xs ++ ys)) (fun b ob q => Heap.get?_push_of_some _ q) (Nat.le_refl _) ?_, rfl, q2 (fun w => z (r2.nil_iff.mpr w)) _ (I.hok.fresh (Nat.le_refl _))⟩
  exact ⟨by rw [List.length_append]; exact hz, _, r1.append r2, IsTup.new _ _⟩
/-- tuple(t) -/
theorem call_tupleT : CallR X (.type "tuple") (fun xs H Q => ∃ a ys, xs = [.ref a] ∧ SqT X.K H a ys ∧ Q (.ref a) H) := by
  intro pins s σ H xs us Q I r h
  obtain ⟨a, ys, rfl, ha, q⟩ := h
  obtain ⟨u, rfl, ru⟩ := vals1 r
  cases ru
  obtain ⟨its, _, p1, _⟩ := I.tuple ha
  exact call_tuple_same (items := its.toArray) p1 ⟨.ref a, H, I, rfl, q⟩
end
end L2

namespace L2
open PySem PySem.Spec PyProof.Rows

/-! ### places -/
/-- the place that an index of any sign means -/
def ixN (n : Nat) (i : Int) : Option Nat := if 0 ≤ i then (if i < n then some i.toNat else none) else if -(n : Int) ≤ i then some (i + n).toNat else none
def atI {α : Type} (xs : List α) (i : Int) : Option α := (ixN xs.length i).bind fun j => xs[j]?
theorem ixN_seq {n : Nat} {i : Int} {j : Nat} (h : ixN n i = some j) : seqIndex? i n = some j ∧ j < n ∧ -(n : Int) ≤ i ∧ i < n := by
  unfold ixN at h
  by_cases h0 : 0 ≤ i
  · rw [if_pos h0] at h
    by_cases h1 : i < n
    · rw [if_pos h1] at h
      have e : i.toNat = j := Option.some.inj h
      exact ⟨by rw [seqIndex_of h0 h1, e], by omega, by omega, h1⟩
    · rw [if_neg h1] at h; cases h
  · rw [if_neg h0] at h
    by_cases h1 : -(n : Int) ≤ i
    · rw [if_pos h1] at h
      have e : (i + n).toNat = j := Option.some.inj h
      exact ⟨by rw [seqIndex_neg (by omega) h1, e], by omega, h1, by omega⟩
    · rw [if_neg h1] at h; cases h
theorem atI_get {α : Type} {xs : List α} {i : Int} {v : α} (h : atI xs i = some v) : ∃ j, seqIndex? i xs.length = some j ∧ xs[j]? = some v ∧ j < xs.length ∧ -(xs.length : Int) ≤ i ∧ i < xs.length := by
  unfold atI at h
  cases e : ixN xs.length i with
  | none => rw [e] at h; cases h
  | some j =>
    rw [e] at h
    obtain ⟨h1, h2, h3, h4⟩ := ixN_seq e
    exact ⟨j, h1, h, h2, h3, h4⟩
theorem atI_nat {α : Type} {xs : List α} {j : Nat} {v : α} (h : xs[j]? = some v) : atI xs (j : Int) = some v := by
  have hj : j < xs.length := (List.getElem?_eq_some_iff.mp h).1
  have e : ixN xs.length (j : Int) = some j := by
    unfold ixN
    rw [if_pos (by omega), if_pos (by omega)]; simp
  unfold atI; rw [e]; exact h
theorem atI_last {α : Type} (xs : List α) (v : α) : atI (xs ++ [v]) (-1) = some v := by
  have hl : (xs ++ [v]).length = xs.length + 1 := by simp
  have e : ixN (xs ++ [v]).length (-1) = some xs.length := by
    unfold ixN
    rw [hl, if_neg (by decide), if_pos (by omega)]
    congr 1
    omega
  unfold atI
  rw [e]
  show (xs ++ [v])[xs.length]? = some v
  simp

/-! ### what may be subscripted -/
/-- what stands as an index of a plain subscript -/
def PlainIx (b : Expr) : Prop := ∀ o i, subscripted b false o i = operate [o, i] (getItem o i)
/-- a subscript by values -/
def IxR (X : Cx) (r : R2) : Prop :=
  ∀ (value slice : Expr) (pins : List (Addr × Obj)) (s : Shared) (σ : St) (H : Hp) (x y : V) (v u : Value) (Q : VK), Inv X pins σ H s → RelV x v → RelV y u → r x y H Q →
    subscripted slice false v u = operate [v, u] (getItem v u) → wpAny (model X.prog X.w) X.A (subscriptTail value slice v u) (EP X pins σ Q) X.xe s
/-- a call of a builtin's method by values: the receiver, the arguments -/
def MtR (X : Cx) (id : String) (r : V → List V → Hp → VK → Prop) : Prop :=
  ∀ (pins : List (Addr × Obj)) (s : Shared) (σ : St) (H : Hp) (x : V) (xs : List V) (v : Value) (us : List Value) (Q : VK), Inv X pins σ H s → RelV x v → Vals xs us → r x xs H Q →
    wpAny (model X.prog X.w) X.A (call (.builtin id) (v :: us)) (EP X pins σ Q) X.xe s
section
variable {X : Cx} {a b : Expr} {ta tb : TE} {pos : Pos}
theorem IxR.or {r r' : R2} (h : IxR X r) (h' : IxR X r') : IxR X (fun x y H Q => r x y H Q ∨ r' x y H Q) := by
  intro value slice pins s σ H x y v u Q I rx ry q hs
  rcases q with q | q
  · exact h value slice pins s σ H x y v u Q I rx ry q hs
  · exact h' value slice pins s σ H x y v u Q I rx ry q hs
theorem MtR.or {id : String} {r r' : V → List V → Hp → VK → Prop} (h : MtR X id r) (h' : MtR X id r') : MtR X id (fun x xs H Q => r x xs H Q ∨ r' x xs H Q) := by
  intro pins s σ H x xs v us Q I rx rs q
  rcases q with q | q
  · exact h pins s σ H x xs v us Q I rx rs q
  · exact h' pins s σ H x xs v us Q I rx rs q
/-- a[b] -/
theorem pe_ix {r : R2} (hr : IxR X r) (ha : PE X a ta) (hb : PE X b tb) (hs : PlainIx b) : PE X (.Subscript a b pos) (tOp r ta tb) := by
  intro pins s σ H Q I h
  exact Subscript_ (binT ha hb I h fun v u s2 x y H2 I2 rx ry q => hr a b pins s2 σ H2 x y v u Q I2 rx ry q (hs _ _))

def rIxL (K : PySem.W.Frag) : R2 := fun x y H Q => ∃ p xs i v, x = .ref p ∧ y = .int i ∧ SqL K H p xs ∧ atI xs i = some v ∧ Q v H
def rIxT (K : PySem.W.Frag) : R2 := fun x y H Q => ∃ p xs i v, x = .ref p ∧ y = .int i ∧ SqT K H p xs ∧ atI xs i = some v ∧ Q v H
def rIxS : R2 := fun x y H Q => ∃ z i c, x = .str z ∧ y = .int i ∧ z.length ≤ sizeLine ∧ atI z.cps.toList i = some c ∧ Q (.str ⟨#[c]⟩) H
theorem ix_list : IxR X (rIxL X.K) := by
  intro value slice pins s σ H x y v u Q I rx ry h hs
  obtain ⟨p, xs, i, z, rfl, rfl, hq, he, q⟩ := h
  cases rx
  obtain ⟨t, rfl⟩ := ry
  obtain ⟨its, r, pl, hz⟩ := I.list hq
  obtain ⟨j, h1, h2, h3, h4, h5⟩ := atI_get he
  obtain ⟨w, ew, rw'⟩ := r.get h2
  have hl := r.length
  have hn := line63
  have fin : EP X pins σ Q w s := ⟨z, H, I, rw', q⟩
  by_cases h0 : 0 ≤ i
  · have hj : i.toNat = j := by
      rw [seqIndex_of h0 h5] at h1
      exact Option.some.inj h1
    exact item_listR pl.isList h0 (by omega) (by rw [hj]; simpa using ew) fin hs
  · have hj : (i + (its.toArray.size : Int)).toNat = j := by
      rw [seqIndex_neg (by omega) h4] at h1
      rw [List.size_toArray, ← hl]
      exact Option.some.inj h1
    exact subscriptTail_builtinR (x := w) pl.isList.typeIs slot_list_getitem.lookup
      (wpAny_getItem_list_neg (Q := fun r s' => r = w ∧ EP X pins σ Q r s') pl.isList (by omega) (by rw [List.size_toArray] <;> omega) (by omega) (by rw [hj]; simpa using ew) ⟨rfl, fin⟩) hs
theorem ix_tup : IxR X (rIxT X.K) := by
  intro value slice pins s σ H x y v u Q I rx ry h hs
  obtain ⟨p, xs, i, z, rfl, rfl, hq, he, q⟩ := h
  cases rx
  obtain ⟨t, rfl⟩ := ry
  obtain ⟨its, r, pl, hz⟩ := I.tuple hq
  obtain ⟨j, h1, h2, h3, h4, h5⟩ := atI_get he
  obtain ⟨w, ew, rw'⟩ := r.get h2
  have hl := r.length
  have hn := line63
  have fin : EP X pins σ Q w s := ⟨z, H, I, rw', q⟩
  exact subscriptTail_builtinR (x := w) pl.typeIs slot_tuple_getitem.lookup
    (getItem_tuple (j := j) (Q := fun r s' => r = w ∧ EP X pins σ Q r s') pl (by omega) (by omega) (by rw [List.size_toArray, ← hl]; exact h1) (by simpa using ew) ⟨rfl, fin⟩) hs
theorem ix_str : IxR X rIxS := by
  intro value slice pins s σ H x y v u Q I rx ry h hs
  obtain ⟨z, i, c, rfl, rfl, hz, he, q⟩ := h
  obtain ⟨t, rfl⟩ := rx
  obtain ⟨t', rfl⟩ := ry
  obtain ⟨j, h1, h2, h3, h4, h5⟩ := atI_get he
  have hl : z.cps.toList.length = z.length := by simp [Str.length]
  rw [hl] at h1 h4 h5
  have hn := line63
  exact tail_any (typeIs_str s z t) slot_str_getitem.lookup (getItem_str (c := c) (by
    have e1 : decide (i < -(2 ^ 63 : Int)) = false := decide_eq_false (by omega)
    have e2 : decide (i ≥ 2 ^ 63) = false := decide_eq_false (by omega)
    rw [e1, e2, Bool.or_false]) (by rw [h1]; simpa using h2) ⟨.str ⟨#[c]⟩, H, I.tok _, ⟨_, rfl⟩, q⟩) hs
/-- list, tuple or str -/
def rIx (K : PySem.W.Frag) : R2 := fun x y H Q => rIxL K x y H Q ∨ rIxT K x y H Q ∨ rIxS x y H Q
theorem ix_seq : IxR X (rIx X.K) := ix_list.or (ix_tup.or ix_str)

/-! ### xs[i] = v, any sign -/
/-- the list's object behind a store -/
theorem mapSeq_set (its : List Value) (n j : Nat) (u : Value) : Obj.mapSeq (·.setIfInBounds j u) { cls := .type "list", data := .seq its.toArray n } = { cls := .type "list", data := .seq (its.set j u).toArray n } := by
  simp [Obj.mapSeq]
theorem Inv.lst {pins : List (Addr × Obj)} {σ : St} {H : Hp} {s : Shared} {p : Addr} {xs : List V} (I : Inv X pins σ H s) (h : H p = some (.lst xs)) :
    ∃ (its : List Value) (n : Nat), Vals xs its ∧ s.heap.get? p = some { cls := .type "list", data := .seq its.toArray n } ∧ xs.length ≤ sizeLine := by
  obtain ⟨z, its, n, r, e⟩ := I.hok p _ h
  exact ⟨its, n, r, e, z⟩
/-- the list at p is written by an update of its object -/
theorem Inv.lstUpd {pins : List (Addr × Obj)} {σ : St} {H : Hp} {s : Shared} {p : Addr} {xs ys : List V} {its its' : List Value} {n n' : Nat} {f : Obj → Obj} (I : Inv X pins σ H s) (h : H p = some (.lst xs))
    (ho : s.heap.get? p = some { cls := .type "list", data := .seq its.toArray n }) (hf : f { cls := .type "list", data := .seq its.toArray n } = { cls := .type "list", data := .seq its'.toArray n' }) (r : Vals ys its') (hz : ys.length ≤ sizeLine) (t : Nat) :
    Inv X pins σ (upd H p (.lst ys)) { s with heap := s.heap.update p f, toks := t } := by
  have e : (s.heap.update p f).get? p = some { cls := .type "list", data := .seq its'.toArray n' } := by
    rw [Heap.get?_update_self f ho (by rw [hf] <;> rfl), hf]
  refine I.write (x := p) (e := p) (by rw [h]; trivial) (.inl rfl) (fun b u hb q => (Heap.get?_update_other _ _ (Ne.symm hb)).trans q) ⟨_, e⟩ ?_
  exact ⟨hz, its', n', r, e⟩
def rSetL : V → V → V → Hp → (Hp → Prop) → Prop := fun o i v H Q => ∃ p xs k j, o = .ref p ∧ i = .int k ∧ H p = some (.lst xs) ∧ ixN xs.length k = some j ∧ Q (upd H p (.lst (xs.set j v)))
theorem set_list : PSet X rSetL := by
  intro pins s σ H o i v ov iv u Q I ro ri rv h
  obtain ⟨p, xs, k, j, rfl, rfl, hp, hj, q⟩ := h
  cases ro
  obtain ⟨t, rfl⟩ := ri
  obtain ⟨its, n, r, ho, hz⟩ := I.lst hp
  obtain ⟨h1, h2, h3, h4⟩ := ixN_seq hj
  have hl := r.length
  have hn := line63
  have I' : Inv X pins σ (upd H p (.lst (xs.set j v))) { s with heap := s.heap.update p (Obj.mapSeq (·.setIfInBounds j u)) } :=
    I.lstUpd hp ho (mapSeq_set its n j u) (r.set rv j) (by rw [List.length_set]; exact hz) s.toks
  by_cases h0 : 0 ≤ k
  · have hk : k.toNat = j := by
      rw [seqIndex_of h0 h4] at h1
      exact Option.some.inj h1
    exact PySem.W.ki_setAt ho h0 (by omega) (by rw [List.size_toArray, ← hl]; exact h4) (by rw [hk]; exact ⟨_, I', q⟩)
  · have hk : (k + (its.toArray.size : Int)).toNat = j := by
      rw [seqIndex_neg (by omega) h3] at h1
      rw [List.size_toArray, ← hl]
      exact Option.some.inj h1
    exact PySem.W.ki_setBack ho (by omega) (by rw [List.size_toArray, ← hl]; exact h3) (by omega) (by rw [hk]; exact ⟨_, I', q⟩)

/-! ### slices -/
theorem slice_bounds (lo hi : Option Int) (n : Nat) : (sliceBounds lo hi none n).1 = ((HT.sIx n 0 lo : Nat) : Int) ∧ (sliceBounds lo hi none n).2.1 = ((HT.sIx n n hi : Nat) : Int) ∧ (sliceBounds lo hi none n).2.2 = 1 := by
  refine ⟨?_, ?_, rfl⟩
  · cases lo with
    | none => simp [sliceBounds, HT.sIx]
    | some i =>
      simp only [sliceBounds, HT.sIx, Option.getD_none, show (1 : Int) > 0 by decide, if_true]
      by_cases h : i < 0
      · simp only [h, if_true] <;> omega
      · simp only [h, if_false] <;> omega
  · cases hi with
    | none => simp [sliceBounds, HT.sIx]
    | some i =>
      simp only [sliceBounds, HT.sIx, Option.getD_none, show (1 : Int) > 0 by decide, if_true]
      by_cases h : i < 0
      · simp only [h, if_true] <;> omega
      · simp only [h, if_false] <;> omega
theorem slicePick_cut (its : List Value) (lo hi : Option Int) : slicePick its.toArray lo hi none = ((its.drop (HT.sIx its.length 0 lo)).take (HT.sIx its.length its.length hi - HT.sIx its.length 0 lo)).toArray := by
  obtain ⟨h1, h2, h3⟩ := slice_bounds lo hi its.toArray.size
  unfold slicePick
  rw [h1, h2, h3]
  simp only [sliceRange_one, pick_run, List.size_toArray] <;> rfl
/-- xs[lo:hi] of a list: a new list -/
def rSlL (K : PySem.W.Frag) : V → Option Int → Option Int → Hp → VK → Prop := fun x lo hi H Q => ∃ a xs, x = .ref a ∧ SqL K H a xs ∧ ∀ p, H p = none → Q (.ref p) (upd H p (.lst (cutV xs lo hi)))
theorem sl_list : SlR X (rSlL X.K) := by
  intro pins s σ H x v vl vu lo hi sl Q I rx hs pl pu h
  obtain ⟨a, xs, rfl, hx, q⟩ := h
  cases rx
  obtain ⟨its, r, ht, hz⟩ := I.list hx
  have hlen := r.length
  refine ⟨"list", _, slot_list_getitem.lookup, ht.isList.typeIs, ?_⟩
  refine wpAny_getItem_list_slice ht.isList hs pl pu .none (by simp) ?_ (by rw [List.size_toArray] <;> omega)
  rw [slicePick_cut, ← hlen]
  refine ⟨.ref s.heap.objs.size, _, I.laid (t' := s.toks) (o := .lst (cutV xs lo hi)) (fun b ob q => Heap.get?_push_of_some _ q) (Nat.le_refl _) ?_, rfl, q _ (I.hok.fresh (Nat.le_refl _))⟩
  exact ⟨Nat.le_trans (cutV_length xs lo hi) hz, _, 0, (r.drop (HT.sIx xs.length 0 lo)).take (HT.sIx xs.length xs.length hi - HT.sIx xs.length 0 lo), Heap.get?_push_size _ rfl⟩

/-! ### in, not in: flat items -/
def flatV : V → Bool
  | .non => true
  | .bl _ => true
  | .int _ => true
  | .str _ => true
  | _ => false
/-- == of flat values -/
def eqV : V → V → Bool
  | .non, .non => true
  | .bl a, .bl b => a == b
  | .bl a, .int b => (if a then 1 else 0) == b
  | .int a, .bl b => a == (if b then 1 else 0)
  | .int a, .int b => a == b
  | .str a, .str b => a == b
  | _, _ => false
theorem eqAt_V {A : Around} {s : Shared} {y x : V} {u v : Value} (ry : RelV y u) (rx : RelV x v) (fy : flatV y = true) (fx : flatV x = true) : SeqAt.EqAt A s u v (eqV y x) := by
  cases y with
  | non =>
    cases ry
    cases x with
    | non => cases rx; exact SeqAt.EqAt.same _
    | bl b => cases rx; exact SeqAt.EqAt.none_bool b
    | int b => obtain ⟨t, rfl⟩ := rx; exact SeqAt.EqAt.none_int b t
    | str b => obtain ⟨t, rfl⟩ := rx; exact SeqAt.EqAt.none_str b t
    | _ => exact absurd (show false = true from fx) Bool.false_ne_true
  | bl a =>
    cases ry
    cases x with
    | non => cases rx; exact SeqAt.EqAt.bool_none a
    | bl b => cases rx; exact SeqAt.EqAt.bool_bool a b
    | int b => obtain ⟨t, rfl⟩ := rx; exact SeqAt.EqAt.bool_int a b t
    | str b => obtain ⟨t, rfl⟩ := rx; exact SeqAt.EqAt.bool_str a b t
    | _ => exact absurd (show false = true from fx) Bool.false_ne_true
  | int a =>
    obtain ⟨t', rfl⟩ := ry
    cases x with
    | non => cases rx; exact SeqAt.EqAt.int_none a t'
    | bl b => cases rx; exact SeqAt.EqAt.int_bool a t' b
    | int b => obtain ⟨t, rfl⟩ := rx; exact SeqAt.EqAt.int_int a t' b t
    | str b => obtain ⟨t, rfl⟩ := rx; exact SeqAt.EqAt.int_str a t' b t
    | _ => exact absurd (show false = true from fx) Bool.false_ne_true
  | str a =>
    obtain ⟨t', rfl⟩ := ry
    cases x with
    | non => cases rx; exact SeqAt.EqAt.str_none a t'
    | bl b => cases rx; exact SeqAt.EqAt.str_bool a t' b
    | int b => obtain ⟨t, rfl⟩ := rx; exact SeqAt.EqAt.str_int a t' b t
    | str b => obtain ⟨t, rfl⟩ := rx; exact SeqAt.EqAt.str_str a t' b t
    | _ => exact absurd (show false = true from fx) Bool.false_ne_true
  | _ => exact absurd (show false = true from fy) Bool.false_ne_true
/-- the items' answers, read off the values (a value's own answer does not lean on its token) -/
def eqU (x : V) (u : Value) : Bool := match u with
  | .none => eqV .non x
  | .bool b => eqV (.bl b) x
  | .int i _ => eqV (.int i) x
  | .str z _ => eqV (.str z) x
  | _ => false
theorem eqU_of {x y : V} {u : Value} (r : RelV y u) (f : flatV y = true) : eqU x u = eqV y x := by
  cases y with
  | non => cases r; rfl
  | bl b => cases r; rfl
  | int i => obtain ⟨t, rfl⟩ := r; rfl
  | str z => obtain ⟨t, rfl⟩ := r; rfl
  | _ => exact absurd (show false = true from f) Bool.false_ne_true
theorem any_eqU {x : V} : ∀ {xs : List V} {us : List Value}, Vals xs us → xs.all flatV = true → us.any (eqU x) = xs.any fun y => eqV y x
  | _, _, .nil, _ => rfl
  | y :: xs, u :: us, .cons r t, f => by
    rw [List.all_cons, Bool.and_eq_true] at f
    rw [List.any_cons, List.any_cons, eqU_of r f.1, any_eqU t f.2]
theorem mem_eqAt {A : Around} {s : Shared} {x : V} {v : Value} (rx : RelV x v) (fx : flatV x = true) : ∀ {xs : List V} {us : List Value}, Vals xs us → xs.all flatV = true → ∀ u ∈ us, SeqAt.EqAt A s u v (eqU x u)
  | _, _, .nil, _ => fun u hu => by cases hu
  | y :: xs, u :: us, .cons r t, f => fun u' hu => by
    rw [List.all_cons, Bool.and_eq_true] at f
    rcases List.mem_cons.mp hu with rfl | hu
    · rw [eqU_of r f.1]; exact eqAt_V r rx f.1 fx
    · exact mem_eqAt rx fx t f.2 u' hu
def inV (x : V) (xs : List V) : Bool := xs.any fun y => eqV y x
/-- x in a list or tuple of flat items -/
def rIn (K : PySem.W.Frag) (neg : Bool) : R2 := fun x y H Q => ∃ p xs, y = .ref p ∧ (SqL K H p xs ∨ SqT K H p xs) ∧ flatV x = true ∧ xs.all flatV = true ∧ Q (.bl (if neg then !inV x xs else inV x xs)) H
theorem op_in_seq : OpR X (compareOp .In) (rIn X.K false) := by
  intro pins s σ H x y v u Q I rx ry h
  obtain ⟨p, xs, rfl, hq, fx, fs, q⟩ := h
  cases ry
  rcases hq with hq | hq
  · obtain ⟨its, r, pl, hz⟩ := I.list hq
    refine SeqAt.in_listAt (eqU x) pl.isList (fun w hw => mem_eqAt rx fx r fs w (by simpa using hw)) ⟨.bl _, H, I, rfl, ?_⟩
    rw [show its.toArray.any (eqU x) = its.any (eqU x) by simp, any_eqU r fs]
    exact q
  · obtain ⟨its, r, pl, hz⟩ := I.tuple hq
    refine SeqAt.in_tupleAt (eqU x) pl (fun w hw => mem_eqAt rx fx r fs w (by simpa using hw)) ⟨.bl _, H, I, rfl, ?_⟩
    rw [show its.toArray.any (eqU x) = its.any (eqU x) by simp, any_eqU r fs]
    exact q
theorem op_notIn_seq : OpR X (compareOp .NotIn) (rIn X.K true) := by
  intro pins s σ H x y v u Q I rx ry h
  obtain ⟨p, xs, rfl, hq, fx, fs, q⟩ := h
  cases ry
  rcases hq with hq | hq
  · obtain ⟨its, r, pl, hz⟩ := I.list hq
    refine SeqAt.notIn_listAt (eqU x) pl.isList (fun w hw => mem_eqAt rx fx r fs w (by simpa using hw)) ⟨.bl _, H, I, rfl, ?_⟩
    rw [show its.toArray.any (eqU x) = its.any (eqU x) by simp, any_eqU r fs]
    exact q
  · obtain ⟨its, r, pl, hz⟩ := I.tuple hq
    refine SeqAt.notIn_tupleAt (eqU x) pl (fun w hw => mem_eqAt rx fx r fs w (by simpa using hw)) ⟨.bl _, H, I, rfl, ?_⟩
    rw [show its.toArray.any (eqU x) = its.any (eqU x) by simp, any_eqU r fs]
    exact q
theorem op_notIn_str : OpR X (compareOp .NotIn) (fun x y H Q => ∃ i j, x = .str i ∧ y = .str j ∧ Q (.bl (!(!(Builtin.Str.occurrences j i 0 j.length 1).isEmpty))) H) := by
  intro pins s σ H x y v u Q I rx ry h
  obtain ⟨i, j, rfl, rfl, q⟩ := h
  obtain ⟨t, rfl⟩ := rx
  obtain ⟨t', rfl⟩ := ry
  exact notIn_str ⟨.bl _, H, I, rfl, q⟩

/-! ### len, list(x), tuple(x) of any list or tuple that is read -/
theorem call_len_seq : CallR X (.builtin "len") (fun xs H Q => ∃ p ys, xs = [.ref p] ∧ (SqL X.K H p ys ∨ SqT X.K H p ys) ∧ Q (.int ys.length) H) := by
  intro pins s σ H xs us Q I r h
  obtain ⟨p, ys, rfl, hq, q⟩ := h
  obtain ⟨u, rfl, rx⟩ := vals1 r
  cases rx
  have hn := line63
  rcases hq with hq | hq
  · obtain ⟨its, r', pl, hz⟩ := I.list hq
    have hlen := r'.length
    exact Calls.call_len_list pl.isList (by simp only [List.size_toArray] <;> omega) ⟨.int ys.length, H, I.tok _, ⟨s.toks + 1, by rw [List.size_toArray, hlen]⟩, q⟩
  · obtain ⟨its, r', pl, hz⟩ := I.tuple hq
    have hlen := r'.length
    exact len_tuple pl (by simp only [List.size_toArray] <;> omega) ⟨.int ys.length, H, I.tok _, ⟨s.toks + 1, by rw [List.size_toArray, hlen]⟩, q⟩
theorem call_len_str : CallR X (.builtin "len") (fun xs H Q => ∃ z, xs = [.str z] ∧ z.length ≤ sizeLine ∧ Q (.int z.length) H) := by
  intro pins s σ H xs us Q I r h
  obtain ⟨z, rfl, hz, q⟩ := h
  obtain ⟨u, rfl, t, rfl⟩ := vals1 r
  have hn := line63
  exact len_str (by omega) ⟨.int z.length, H, I.tok _, ⟨_, rfl⟩, q⟩
theorem CallR.or {f : Value} {r r' : List V → Hp → VK → Prop} (h : CallR X f r) (h' : CallR X f r') : CallR X f (fun xs H Q => r xs H Q ∨ r' xs H Q) := by
  intro pins s σ H xs us Q I rs q
  rcases q with q | q
  · exact h pins s σ H xs us Q I rs q
  · exact h' pins s σ H xs us Q I rs q
theorem call_list_of : CallR X (.type "list") (fun xs H Q => ∃ p ys, xs = [.ref p] ∧ (SqL X.K H p ys ∨ SqT X.K H p ys) ∧ ∀ l, H l = none → Q (.ref l) (upd H l (.lst ys))) := by
  intro pins s σ H xs us Q I r h
  obtain ⟨p, ys, rfl, hq, q⟩ := h
  obtain ⟨u, rfl, rx⟩ := vals1 r
  cases rx
  have fin : ∀ (its : List Value), Vals ys its → ys.length ≤ sizeLine → ∀ (h' : Heap) (c' : Nat), (∀ b o', s.heap.get? b = some o' → h'.get? b = some o') →
      h'.get? s.heap.objs.size = some { cls := .type "list", dict := none, data := .seq its.toArray c', slots := #[] } → EP X pins σ Q (.ref s.heap.objs.size) { s with heap := h' } := fun its r' hz h' c' kp e =>
    ⟨.ref s.heap.objs.size, _, I.laid (t' := s.toks) kp (Nat.le_refl _) (show ObjOk X.prog X.w _ h' _ (.lst ys) from ⟨hz, its, c', r', e⟩), rfl, q _ (I.hok.fresh (Nat.le_refl _))⟩
  rcases hq with hq | hq
  · obtain ⟨its, r', pl, hz⟩ := I.list hq
    have hlen := r'.length
    obtain ⟨o, ho, hc, n, hd⟩ := pl.isList
    exact call_list_seq p (.inl rfl) ho hc hd (fun h' c' kp e => fin its r' hz h' c' kp e) (by simp only [List.size_toArray] <;> omega)
  · obtain ⟨its, r', pl, hz⟩ := I.tuple hq
    have hlen := r'.length
    obtain ⟨o, ho, hc, n, hd⟩ := pl
    exact call_list_seq p (.inr rfl) ho hc hd (fun h' c' kp e => fin its r' hz h' c' kp e) (by simp only [List.size_toArray] <;> omega)
theorem call_tuple_of : CallR X (.type "tuple") (fun xs H Q => ∃ p ys, xs = [.ref p] ∧ ((SqL X.K H p ys ∧ ∀ l, H l = none → Q (.ref l) (upd H l (.tup ys))) ∨ (SqT X.K H p ys ∧ Q (.ref p) H))) := by
  intro pins s σ H xs us Q I r h
  obtain ⟨p, ys, rfl, h⟩ := h
  obtain ⟨u, rfl, rx⟩ := vals1 r
  cases rx
  rcases h with ⟨hq, q⟩ | ⟨hq, q⟩
  · obtain ⟨its, r', pl, hz⟩ := I.list hq
    have hlen := r'.length
    refine call_tuple_list pl.isList (fun h' kp => ?_) (by simp only [List.size_toArray] <;> omega)
    have I1 : Inv X pins σ H { s with heap := h' } := I.kept (t' := s.toks) kp
    have I2 : Inv X pins σ (upd H h'.objs.size (.tup ys)) { s with heap := h'.push { cls := .type "tuple", data := .seq its.toArray } } :=
      I1.laid (t' := s.toks) (fun b o e => Heap.get?_push_of_some _ e) (Nat.le_refl _) (show ObjOk X.prog X.w _ _ _ (.tup ys) from ⟨hz, its, r', IsTup.new _ _⟩)
    exact ⟨.ref h'.objs.size, _, I2, rfl, q _ (I1.hok.fresh (Nat.le_refl _))⟩
  · obtain ⟨its, r', pl, hz⟩ := I.tuple hq
    exact call_tuple_same pl ⟨.ref p, H, I, rfl, q⟩

/-! ### the call of a builtin's method: o.m(..) -/
/-- the value is of that builtin type -/
def tyV (K : PySem.W.Frag) (T : String) (x : V) (H : Hp) : Prop := match x with
  | .str _ => T = "str"
  | .int _ => T = "int"
  | .ref p => (T = "list" ∧ ∃ xs, SqL K H p xs) ∨ (T = "tuple" ∧ ∃ o, K.lookup p = some o ∧ o.cls = .type "tuple" ∧ o.dict = none) ∨
      (T = "dict" ∧ ((∃ kvs, H p = some (.dK kvs)) ∨ ∃ kvs, H p = some (.dT kvs))) ∨ (T = "set" ∧ ∃ S n, H p = some (.set S n))
  | _ => False
theorem tyV_is {pins : List (Addr × Obj)} {σ : St} {H : Hp} {s : Shared} {T : String} {x : V} {v : Value} (I : Inv X pins σ H s) (r : RelV x v) (ty : tyV X.K T x H) :
    s.TypeIs v T ∧ ∀ a, v = .ref a → ∃ ob, s.heap.get? a = some ob ∧ ob.dict = none := by
  cases x with
  | str z =>
    obtain ⟨t, rfl⟩ := r
    cases (show T = "str" from ty)
    exact ⟨typeIs_str s z t, fun _ e => nomatch e⟩
  | int i =>
    obtain ⟨t, rfl⟩ := r
    cases (show T = "int" from ty)
    exact ⟨typeIs_int s i t, fun _ e => nomatch e⟩
  | ref p =>
    cases r
    rcases ty with ⟨rfl, xs, hq⟩ | ⟨rfl, o, hk, hc, hd⟩ | ⟨rfl, hk⟩ | ⟨rfl, S, n, hk⟩
    · obtain ⟨its, _, pl, _⟩ := I.list hq
      refine ⟨pl.isList.typeIs, fun a e => ?_⟩
      cases e
      obtain ⟨o, n, e, c, hd, _⟩ := pl
      exact ⟨o, e, hd⟩
    · refine ⟨⟨o, I.kIn p o hk, hc⟩, fun a e => ?_⟩
      cases e
      exact ⟨o, I.kIn _ o hk, hd⟩
    · have z : ∃ o, s.heap.get? p = some o ∧ o.ExactDict := by
        rcases hk with ⟨kvs, hk⟩ | ⟨kvs, hk⟩
        · obtain ⟨_, _, _, _, o, _, _, e, ex, _⟩ := I.hok p _ hk
          exact ⟨o, e, ex⟩
        · obtain ⟨_, _, _, _, o, _, _, e, ex, _⟩ := I.hok p _ hk
          exact ⟨o, e, ex⟩
      obtain ⟨o, e, ex⟩ := z
      refine ⟨⟨o, e, ex.1⟩, fun a e2 => ?_⟩
      cases e2
      exact ⟨o, e, ex.2.1⟩
    · obtain ⟨o, _, _, _, e, ex, _⟩ := I.hok p _ hk
      refine ⟨⟨o, e, ex.1⟩, fun a e2 => ?_⟩
      cases e2
      exact ⟨o, e, ex.2.1⟩
  | _ => exact False.elim ty
def tBM0 (K : PySem.W.Frag) (T : String) (r : V → List V → Hp → VK → Prop) (to : TE) : TE := fun σ H Q => to σ H fun x H1 => tyV K T x H1 ∧ r x [] H1 Q
def tBM (K : PySem.W.Frag) (T : String) (r : V → List V → Hp → VK → Prop) (to : TE) (t : TA) : TE := fun σ H Q => to σ H fun x H1 => tyV K T x H1 ∧ t σ H1 fun xs H2 => r x xs H2 Q
variable {o e : Expr} {es : List Expr} {to : TE} {t : TA} {name : Str} {apos cpos : Pos} {T id : String} {r : V → List V → Hp → VK → Prop}
theorem pe_bm0 (pa : PlainAttrs T) (slot : Slot T name id) (hty : typeOf (.builtin id) = pure (.type "method_descriptor")) (hm : MtR X id r) (ho : PE X o to)
    (hbase : attributeBase o name X.env (eval o X.env) = eval o X.env := by rfl) (hline : (apos.endLine == cpos.line) = true := by rfl) : PE X (.Call (.Attribute o name apos) [] [] cpos) (tBM0 X.K T r to) := by
  intro pins s σ H Q I h
  refine wpAny_Call_method0_late hbase hline (thn (ho pins s σ H _ I h) fun v s1 ⟨x, H1, I1, r1, ty, q1⟩ => ?_)
  obtain ⟨h1, h2⟩ := tyV_is I1 r1 ty
  exact ⟨T, id, pa, slot, hty, h1, h2, Calls.callWith_builtin rfl (PySem.evalArgs_none (hm pins s1 σ H1 x [] v [] Q I1 r1 .nil q1))⟩
theorem pe_bm (pa : PlainAttrs T) (slot : Slot T name id) (hty : typeOf (.builtin id) = pure (.type "method_descriptor")) (hm : MtR X id r) (ho : PE X o to) (ha : PA X (e :: es) t)
    (hbase : attributeBase o name X.env (eval o X.env) = eval o X.env := by rfl)
    (hfew : ((backTo cpos (starEach (e :: es) X.env)).all (fun x => !x.1) && (backToKw cpos (keywordEach [] X.env)).all (fun x => x.1.isSome)
      && decide ((e :: es).length + ([] : List Keyword).length + (if ([] : List Keyword).isEmpty then 0 else 1) < 30)) = true := by rfl)
    (hline : (apos.endLine == cpos.line) = true := by rfl) (hs : starEach (e :: es) X.env = (false, eval e X.env) :: starEach es X.env := by rfl) (hplain : (backTo cpos (starEach es X.env)).any (·.1) = false := by rfl) :
    PE X (.Call (.Attribute o name apos) (e :: es) [] cpos) (tBM X.K T r to t) := by
  intro pins s σ H Q I h
  refine wpAny_Call_method_late hbase hfew hline rfl (thn (ho pins s σ H _ I h) fun v s1 ⟨x, H1, I1, r1, ty, q1⟩ => ?_)
  obtain ⟨h1, h2⟩ := tyV_is I1 r1 ty
  refine ⟨T, id, pa, slot, hty, h1, h2, ?_⟩
  have hA := ha cpos pins s1 σ H1 _ I1 q1
  rw [hs] at hA ⊢
  refine Calls.callWith_builtin (by show (false || (backTo cpos (starEach es X.env)).any (·.1)) = false; rw [hplain] <;> rfl) (Calls.evalArgs_plain ?_)
  exact thn hA fun us s2 ⟨vs, H2, I2, r2, q2⟩ => hm pins s2 σ H2 x vs v us Q I2 r1 r2 q2
/- xs.append(e), list.index on a module's tuple .. are MtR facts of 06m -/
end
end L2

namespace L2
open PySem PySem.Spec PyProof.Rows

def MtM (X : Cx) (id : String) (r : V → List V → Hp → VK → Prop) : Prop :=
  ∀ (pins : List (Addr × Obj)) (s : Shared) (σ : St) (H : Hp) (x : V) (xs : List V) (v : Value) (us : List Value) (Q : VK), Inv X pins σ H s → RelV x v → Vals xs us → r x xs H Q →
    wpAny (model X.prog X.w) X.A (call (.builtin id) (v :: us)) (EP X pins σ Q) X.xe s

/-! ### lists of values -/
theorem Vals.one : ∀ {x : V} {us : List Value}, Vals [x] us → ∃ u, us = [u] ∧ RelV x u
  | _, _, .cons r .nil => ⟨_, rfl, r⟩
theorem Vals.two : ∀ {x y : V} {us : List Value}, Vals [x, y] us → ∃ u v, us = [u, v] ∧ RelV x u ∧ RelV y v
  | _, _, _, .cons r (.cons q .nil) => ⟨_, _, rfl, r, q⟩
theorem Vals.zero : ∀ {us : List Value}, Vals [] us → us = []
  | _, .nil => rfl
theorem Vals.dropLast {xs : List V} {us : List Value} (h : Vals xs us) : Vals xs.dropLast us.dropLast := by
  induction h with
  | nil => exact .nil
  | cons r t ih =>
    cases t with
    | nil => exact .nil
    | cons q t' => exact .cons r ih
theorem Vals.eraseIdx : ∀ {xs : List V} {us : List Value} (i : Nat), Vals xs us → Vals (xs.eraseIdx i) (us.eraseIdx i)
  | _, _, _, .nil => .nil
  | _, _, 0, .cons _ t => t
  | _, _, i + 1, .cons r t => .cons r (Vals.eraseIdx i t)
theorem Vals.reverse {xs : List V} {us : List Value} (h : Vals xs us) : Vals xs.reverse us.reverse := by
  induction h with
  | nil => exact .nil
  | cons r t ih => rw [List.reverse_cons, List.reverse_cons]; exact Vals.append ih (.cons r .nil)
theorem Vals.rep {xs : List V} {us : List Value} (h : Vals xs us) : ∀ k : Nat, Vals (List.replicate k xs).flatten (List.replicate k us).flatten
  | 0 => .nil
  | k + 1 => by
    rw [List.replicate_succ, List.replicate_succ, List.flatten_cons, List.flatten_cons]
    exact Vals.append h (Vals.rep h k)
theorem erase_last {α : Type} (l : List α) : l.eraseIdx (l.length - 1) = l.dropLast := by
  induction l with
  | nil => rfl
  | cons a r ih =>
    cases r with
    | nil => rfl
    | cons b r =>
      have e : (a :: b :: r).length - 1 = ((b :: r).length - 1) + 1 := by
        have h1 : (a :: b :: r).length = r.length + 2 := rfl
        have h2 : (b :: r).length = r.length + 1 := rfl
        omega
      rw [e, List.eraseIdx_cons_succ, ih]
      all_goals rfl
theorem len_erase {α : Type} : ∀ (l : List α) (i : Nat), (l.eraseIdx i).length ≤ l.length
  | [], _ => Nat.le_refl _
  | _ :: _, 0 => Nat.le_succ _
  | _ :: r, i + 1 => Nat.succ_le_succ (len_erase r i)
theorem foldl_rep (its : List Value) : ∀ (k : Nat) (acc : List Value),
    List.foldl (fun x1 x2 => x1 ++ x2) acc.toArray (List.replicate k its.toArray) = (acc ++ (List.replicate k its).flatten).toArray
  | 0, acc => by simp
  | k + 1, acc => by
    have e : acc.toArray ++ its.toArray = (acc ++ its).toArray := by simp
    have e2 : (acc ++ its) ++ (List.replicate k its).flatten = acc ++ (List.replicate (k + 1) its).flatten := by
      rw [List.replicate_succ, List.flatten_cons, List.append_assoc]
    rw [← e2, ← foldl_rep its k (acc ++ its), ← e, List.replicate_succ, List.foldl_cons]

section
variable {X : Cx} {pins : List (Addr × Obj)} {σ : St} {H : Hp} {s : Shared} {l b : Addr} {xs ys zs : List V}

/-! ### the two steps: a tracked list is rewritten, a new list is laid -/
theorem Inv.lset {its its' : List Value} {n : Nat} {f : Array Value → Array Value} {t' : Nat} (I : Inv X pins σ H s) (hH : H l = some (.lst xs))
    (e : s.heap.get? l = some { cls := .type "list", data := .seq its.toArray n }) (hf : f its.toArray = its'.toArray) (hv : Vals ys its') (hz : ys.length ≤ sizeLine) :
    Inv X pins σ (upd H l (.lst ys)) { s with heap := s.heap.update l (Obj.mapSeq f), toks := t' } := by
  have q := PySem.IsL.update e f
  rw [hf] at q
  refine I.write (x := l) (e := l) (by rw [hH]; exact trivial) (.inl rfl) (fun b' u hb hu => (Heap.get?_update_other s.heap (Obj.mapSeq f) (Ne.symm hb)).trans hu) ⟨_, q⟩ ?_
  exact ⟨hz, its', _, hv, q⟩
theorem Inv.lnew {its : List Value} {t' : Nat} (I : Inv X pins σ H s) (hv : Vals ys its) (hz : ys.length ≤ sizeLine) :
    Inv X pins σ (upd H s.heap.objs.size (.lst ys)) { s with heap := s.heap.push { cls := .type "list", data := .seq its.toArray }, toks := t' } :=
  I.laid (fun _ _ q => Heap.get?_push_of_some _ q) (Nat.le_refl _) ⟨hz, its, 0, hv, Heap.get?_push_size _ rfl⟩
theorem Inv.fresh (I : Inv X pins σ H s) : H s.heap.objs.size = none := I.hok.fresh (Nat.le_refl _)
theorem Inv.lstM (I : Inv X pins σ H s) (hH : H l = some (.lst xs)) : xs.length ≤ sizeLine ∧ ∃ (its : List Value) (n : Nat), Vals xs its ∧ xs.length = its.length ∧ s.heap.get? l = some { cls := .type "list", data := .seq its.toArray n } := by
  obtain ⟨z, its, n, r, e⟩ := I.hok l _ hH
  exact ⟨z, its, n, r, r.length, e⟩

theorem notLongL {n : Nat} (h : n ≤ sizeLine) : Builtin.List.listTooLong n = false := by
  unfold Builtin.List.listTooLong
  exact decide_eq_false (by omega)
end

section
variable {X : Cx}

/-! ### methods -/
def rAppend : V → List V → Hp → VK → Prop := fun x vs H Q => ∃ l xs y, x = .ref l ∧ vs = [y] ∧ H l = some (.lst xs) ∧ xs.length < sizeLine ∧ Q .non (upd H l (.lst (xs ++ [y])))
theorem mt_append : MtM X "list.append" rAppend := by
  intro pins s σ H x vs v us Q I rx rv h
  obtain ⟨l, xs, y, rfl, rfl, hH, hz, q⟩ := h
  cases rx
  obtain ⟨u, rfl, ru⟩ := rv.one
  obtain ⟨z, its, n, r, hl, e⟩ := I.lstM hH
  refine call_meets F.slot_list_append ⟨_, e, rfl⟩ F.entry_list_append (F.args_list_append_2 _ _) (PySem.list_append l its.toArray n u (by rw [List.size_toArray]; omega)) ⟨e, ?_⟩
  refine ⟨.non, _, I.lset (its' := its ++ [u]) hH e (by simp) (r.append (.cons ru .nil)) ?_, rfl, q⟩
  rw [List.length_append, List.length_singleton]
  omega

def rExtend : V → List V → Hp → VK → Prop := fun x vs H Q => ∃ l b xs zs, x = .ref l ∧ vs = [.ref b] ∧ H l = some (.lst xs) ∧ H b = some (.lst zs) ∧ xs.length + zs.length ≤ sizeLine ∧ Q .non (upd H l (.lst (xs ++ zs)))
theorem mt_extend : MtM X "list.extend" rExtend := by
  intro pins s σ H x vs v us Q I rx rv h
  obtain ⟨l, b, xs, zs, rfl, rfl, hH, hB, hz, q⟩ := h
  cases rx
  obtain ⟨u, rfl, ru⟩ := rv.one
  cases ru
  obtain ⟨z, its, n, r, hl, e⟩ := I.lstM hH
  obtain ⟨z2, its2, n2, r2, hl2, e2⟩ := I.lstM hB
  have hsz : its.toArray.size + its2.toArray.size ≤ sizeLine := by rw [List.size_toArray, List.size_toArray]; omega
  have hlong : ¬ (!its.toArray.isEmpty && Builtin.List.listTooLong (its.toArray.size + its2.toArray.size)) = true := by
    rw [notLongL hsz, Bool.and_false]
    exact Bool.false_ne_true
  refine call_meets F.slot_list_extend ⟨_, e, rfl⟩ F.entry_list_extend (F.args_list_extend_2 _ _)
    (AutoSeq1.list_extend_list_list_0 l its.toArray n b its2.toArray n2 hlong (by rw [List.size_toArray]; omega) (by omega)) ⟨e, e2, ?_⟩
  refine ⟨.non, _, I.lset (its' := its ++ its2) hH e (by simp) (r.append r2) ?_, rfl, q⟩
  rw [List.length_append]
  omega

def rPop : V → List V → Hp → VK → Prop := fun x vs H Q => ∃ l xs y, x = .ref l ∧ vs = [] ∧ H l = some (.lst xs) ∧ xs[xs.length - 1]? = some y ∧ Q y (upd H l (.lst xs.dropLast))
theorem mt_pop : MtM X "list.pop" rPop := by
  intro pins s σ H x vs v us Q I rx rv h
  obtain ⟨l, xs, y, rfl, rfl, hH, hy, q⟩ := h
  cases rx
  have hus := rv.zero
  subst hus
  obtain ⟨z, its, n, r, hl, e⟩ := I.lstM hH
  obtain ⟨u, hu, ru⟩ := r.get hy
  have hy' : its.toArray[its.toArray.size - 1]? = some u := by
    show its.toArray[its.length - 1]? = some u
    rw [← Array.getElem?_toList, ← hl]
    exact hu
  refine call_meets F.slot_list_pop ⟨_, e, rfl⟩ F.entry_list_pop (F.args_list_pop_1 _) (MeetsSeq.list_pop_last l its.toArray n u hy' (by rw [List.size_toArray]; omega)) ⟨e, ?_⟩
  refine ⟨y, _, I.lset (its' := its.dropLast) hH e ?_ r.dropLast ?_, ru, q⟩
  · show its.toArray.eraseIdxIfInBounds (its.toArray.size - 1) = its.dropLast.toArray
    rw [List.size_toArray, List.eraseIdxIfInBounds_toArray, erase_last]
  · rw [List.length_dropLast]
    omega

def rPopAt : V → List V → Hp → VK → Prop := fun x vs H Q => ∃ l xs i k y, x = .ref l ∧ vs = [.int i] ∧ H l = some (.lst xs) ∧ -(2 ^ 63) ≤ i ∧ i < 2 ^ 63 ∧ seqIndex? i xs.length = some k ∧ xs[k]? = some y ∧ Q y (upd H l (.lst (xs.eraseIdx k)))
theorem mt_popAt : MtM X "list.pop" rPopAt := by
  intro pins s σ H x vs v us Q I rx rv h
  obtain ⟨l, xs, i, k, y, rfl, rfl, hH, h1, h2, hk, hy, q⟩ := h
  cases rx
  obtain ⟨u, rfl, ru⟩ := rv.one
  obtain ⟨t, rfl⟩ := ru
  obtain ⟨z, its, n, r, hl, e⟩ := I.lstM hH
  obtain ⟨w, hw, rw'⟩ := r.get hy
  refine call_meets F.slot_list_pop ⟨_, e, rfl⟩ F.entry_list_pop (F.args_list_pop_2 _ _)
    (MeetsSeq.list_pop_at l its.toArray n i t k w (fitsIndex_both h1 h2) (by rw [List.size_toArray, ← hl]; exact hk) (by rw [← Array.getElem?_toList]; exact hw) (by rw [List.size_toArray]; omega)) ⟨e, ?_⟩
  refine ⟨y, _, I.lset (its' := its.eraseIdx k) hH e ?_ (r.eraseIdx k) ?_, rw', q⟩
  · show its.toArray.eraseIdxIfInBounds k = (its.eraseIdx k).toArray
    rw [List.eraseIdxIfInBounds_toArray]
  · have := len_erase xs k
    omega

def rReverse : V → List V → Hp → VK → Prop := fun x vs H Q => ∃ l xs, x = .ref l ∧ vs = [] ∧ H l = some (.lst xs) ∧ Q .non (upd H l (.lst xs.reverse))
theorem mt_reverse : MtM X "list.reverse" rReverse := by
  intro pins s σ H x vs v us Q I rx rv h
  obtain ⟨l, xs, rfl, rfl, hH, q⟩ := h
  cases rx
  have hus := rv.zero
  subst hus
  obtain ⟨z, its, n, r, hl, e⟩ := I.lstM hH
  refine call_meets F.slot_list_reverse ⟨_, e, rfl⟩ F.entry_list_reverse (F.args_list_reverse_1 _) (AutoSeq1.list_reverse_list_0 l its.toArray n (by rw [List.size_toArray]; omega)) ⟨e, ?_⟩
  refine ⟨.non, _, I.lset (its' := its.reverse) hH e (by simp) r.reverse ?_, rfl, q⟩
  rw [List.length_reverse]
  omega

def rClear : V → List V → Hp → VK → Prop := fun x vs H Q => ∃ l xs, x = .ref l ∧ vs = [] ∧ H l = some (.lst xs) ∧ Q .non (upd H l (.lst []))
theorem mt_clear : MtM X "list.clear" rClear := by
  intro pins s σ H x vs v us Q I rx rv h
  obtain ⟨l, xs, rfl, rfl, hH, q⟩ := h
  cases rx
  have hus := rv.zero
  subst hus
  obtain ⟨z, its, n, r, hl, e⟩ := I.lstM hH
  refine call_meets F.slot_list_clear ⟨_, e, rfl⟩ F.entry_list_clear (F.args_list_clear_1 _) (AutoSeq1.list_clear_list_0 l its.toArray n (by rw [List.size_toArray]; omega)) ⟨e, ?_⟩
  exact ⟨.non, _, I.lset (its' := []) (ys := []) hH e rfl .nil (Nat.zero_le _), rfl, q⟩

/-! ### list + list, list += list, list * int -/
def rCat : R2 := fun x y H Q => ∃ l b xs zs, x = .ref l ∧ y = .ref b ∧ H l = some (.lst xs) ∧ H b = some (.lst zs) ∧ xs.length + zs.length ≤ sizeLine ∧ ∀ p, H p = none → Q (.ref p) (upd H p (.lst (xs ++ zs)))
theorem op_cat : OpR X (binaryOp .Add) rCat := by
  intro pins s σ H x y v u Q I rx ry h
  obtain ⟨l, b, xs, zs, rfl, rfl, hH, hB, hz, q⟩ := h
  cases rx
  cases ry
  obtain ⟨z, its, n, r, hl, e⟩ := I.lstM hH
  obtain ⟨z2, its2, n2, r2, hl2, e2⟩ := I.lstM hB
  refine PySem.P.add_list e e2 ?_ (by rw [List.size_toArray, List.size_toArray]; omega)
  have ea : its.toArray ++ its2.toArray = (its ++ its2).toArray := by simp
  rw [ea]
  exact ⟨.ref _, _, I.lnew (t' := s.toks) (r.append r2) (by rw [List.length_append]; omega), rfl, q _ I.fresh⟩
/-- a list times an int (a negative one is nothing) -/
def rRep : R2 := fun x y H Q => ∃ l k xs, x = .ref l ∧ y = .int k ∧ H l = some (.lst xs) ∧ -(2 ^ 63) ≤ k ∧ k < 2 ^ 63 ∧ xs.length * k.toNat ≤ sizeLine ∧
  ∀ p, H p = none → Q (.ref p) (upd H p (.lst (List.replicate k.toNat xs).flatten))
theorem len_rep {α : Type} (xs : List α) (k : Nat) : (List.replicate k xs).flatten.length = k * xs.length := by
  induction k with
  | zero => simp
  | succ k ih => rw [List.replicate_succ, List.flatten_cons, List.length_append, ih, Nat.succ_mul, Nat.add_comm]
theorem op_rep : OpR X (binaryOp .Mult) rRep := by
  intro pins s σ H x y v u Q I rx ry h
  obtain ⟨l, k, xs, rfl, rfl, hH, h1, h2, hz, q⟩ := h
  cases rx
  obtain ⟨t, rfl⟩ := ry
  obtain ⟨z, its, n, r, hl, e⟩ := I.lstM hH
  have hlen : its.toArray.size * k.toNat ≤ sizeLine := by rw [List.size_toArray, ← hl]; exact hz
  have hcap : ¬ its.toArray.size * k.toNat > (2 ^ 63 - 1) / 8 := by
    have : (sizeLine : Nat) ≤ (2 ^ 63 - 1) / 8 := by decide
    omega
  have hfit : ¬ (!Builtin.List.listFitsIndex k) = true := by
    rw [fitsIndex_both h1 h2]
    exact Bool.false_ne_true
  have hlong : ¬ Builtin.List.listTooLong (its.toArray.size * k.toNat) = true := by
    rw [notLongL hlen]
    exact Bool.false_ne_true
  have hnew : List.foldl (fun x1 x2 => x1 ++ x2) #[] (List.replicate (if its.toArray.isEmpty = true then 0 else k.toNat) its.toArray) = (List.replicate k.toNat its).flatten.toArray := by
    have f0 : ∀ m : Nat, List.foldl (fun x1 x2 => x1 ++ x2) #[] (List.replicate m its.toArray) = (List.replicate m its).flatten.toArray := fun m => by
      have := foldl_rep its m []
      rw [List.nil_append] at this
      exact this
    rw [f0]
    cases its with
    | nil => simp
    | cons a r' => rw [if_neg (by simp)]
  refine wpAny_binaryOp_repeat_ref (T := "list") (U := "int") (by decide) ⟨_, e, rfl⟩ (fun s' => typeIs_int s' k t) noFill_list_mul F.fills_int_mul F.slot_int_rmul repeat_list F.slot_int_index.lookup
    (call_meets F.slot_int_rmul (typeIs_int s k t) F.entry_int_rmul (F.args_int_rmul_2 _ _) (int___rmul___int_list k t l its.toArray n)
      ⟨e, rfl, ⟨_, e, rfl⟩, call_meets F.slot_list_mul ⟨_, e, rfl⟩ F.entry_list_mul (F.args_list_mul_2 _ _) (AutoListH.list___mul___list_int_3 l its.toArray n k t hfit hcap hlong) ⟨e, ?_⟩⟩)
  rw [hnew]
  exact ⟨.ref _, _, I.lnew (t' := s.toks) (r.rep k.toNat) (by rw [len_rep, Nat.mul_comm]; exact hz), rfl, q _ I.fresh⟩

/-! ### del xs[i] -/
theorem del_list {pins : List (Addr × Obj)} {s : Shared} {σ : St} {H : Hp} {l : Addr} {xs : List V} {i : Int} {t : Tok} {k : Nat} {Q : Unit → Shared → Prop} (I : Inv X pins σ H s) (hH : H l = some (.lst xs))
    (h1 : -(2 ^ 63) ≤ i) (h2 : i < 2 ^ 63) (hk : seqIndex? i xs.length = some k) (h : ∀ s', Inv X pins σ (upd H l (.lst (xs.eraseIdx k))) s' → Q () s') :
    wpAny (model X.prog X.w) X.A (delItem (.ref l) (.int i t)) Q X.xe s := by
  obtain ⟨z, its, n, r, hl, e⟩ := I.lstM hH
  refine PySem.P.delItem_list (k := k) e (fitsIndex_both h1 h2) (by rw [List.size_toArray, ← hl]; exact hk) (h _ ?_) (by rw [List.size_toArray]; omega)
  refine I.lset (its' := its.eraseIdx k) (t' := s.toks) hH e ?_ (r.eraseIdx k) ?_
  · show its.toArray.eraseIdxIfInBounds k = (its.eraseIdx k).toArray
    rw [List.eraseIdxIfInBounds_toArray]
  · have := len_erase xs k
    omega
end

/-! ### xs[a:b] = ys -/
section
variable {prog : Program} {w : World} {A : Around} {E : Value → Shared → Prop} {s : Shared}
theorem splice_eq (its its2 : List Value) (a c : Nat) : its.toArray.extract 0 a ++ its2.toArray ++ its.toArray.extract c its.toArray.size = (its.take a ++ its2 ++ its.drop c).toArray := by
  apply Array.toList_inj.mp
  first
    | (simp
       exact List.take_of_length_le (by simp))
    | simp [List.take_of_length_le]
    | simp
theorem bounds_run {a c n : Nat} (hac : a ≤ c) (hc : c ≤ n) : sliceBounds (some (a : Int)) (some (c : Int)) none n = ((a : Int), (c : Int), 1) := by
  simp only [sliceBounds, Option.getD_none]
  have h1 : ¬ ((a : Int) < 0) := by omega
  have h2 : ¬ ((c : Int) < 0) := by omega
  simp only [h1, h2, if_false, show (1 : Int) > 0 by decide, if_true]
  congr 1
  · omega
  · congr 1; omega
set_option maxRecDepth 100000 in
/-- list.__setitem__ with a slice of step one and another list -/
theorem setItem_slice {l b sl : Addr} {items new : Array Value} {n n2 : Nat} {vl vu : Value} {a c : Nat} {Q : Unit → Shared → Prop}
    (e : s.heap.get? l = some { cls := .type "list", data := .seq items n }) (e2 : s.heap.get? b = some { cls := .type "list", data := .seq new n2 }) (hne : l ≠ b)
    (hs : s.heap.IsSliceOf sl vl vu .none) (pl : IsPart vl (some (a : Int))) (pu : IsPart vu (some (c : Int))) (hac : a ≤ c) (hc : c ≤ items.size)
    (hsz : items.size + new.size ≤ sizeLine) (h : Q () { s with heap := s.heap.update l (Obj.mapSeq fun xs => xs.extract 0 a ++ new ++ xs.extract c xs.size) }) :
    wpAny (model prog w) A (setItem (.ref l) (.ref sl) (.ref b)) Q E s := by
  have hl : s.heap.IsList l items := PySem.IsL.isList e
  have hb : s.heap.IsList b new := PySem.IsL.isList e2
  obtain ⟨os, hos, hcs, hds⟩ := id hs
  have hTs : s.TypeIs (.ref sl) "slice" := ⟨os, hos, hcs⟩
  have hstep : ¬ ((rawPart none == rawInt 0) = true) := Bool.false_ne_true
  have hsame : Builtin.List.listSameRef (.ref l) (.ref b) = false := by
    unfold Builtin.List.listSameRef
    exact beq_eq_false_iff_ne.mpr hne
  have hmax : (max (a : Int) (c : Int)).toNat = c := by omega
  have hz' : ((fun xs : Array Value => xs.extract 0 a ++ new ++ xs.extract c xs.size) items).size ≤ sizeLine + 1 := by
    simp only [Array.size_append, Array.size_extract]
    omega
  unfold setItem
  try with_reducible refine wpAny_holding ?_
  first | refine wpAny_bind (wpAny_pure ?_) | skip
  refine wpAny_bind (wpAny_sequenceKey hl.typeIs (by decide) ?_)
  refine wpAny_bind (wpAny_callSpecial?_slot (name := Str.ofString "__setitem__") hl.typeIs slot_list_setitem
    (wpAny_call_entry slot_list_setitem hl.typeIs entry_list_setitem ?_ (args_list_setitem _ _ _)))
  show wpAny _ _ (Builtin.List.listSubscript? (.ref sl) >>= _) _ _ s
  refine wpAny_bind ?_
  unfold Builtin.List.listSubscript?
  refine wpAny_bind (wpAny_specialOf hTs slice_no_index ?_)
  simp only [Option.isNone_none, if_true]
  refine wpAny_pure ?_
  show wpAny _ _ (typeOf (.ref sl) >>= _) _ _ s
  refine wpAny_bind (wpAny_typeOf hTs ?_)
  first
    | rw [if_neg (by decide)]
    | refine PySem.W.KFB.if_not (by decide) ?_
  rw [listSliceParts_eq]
  refine wpAny_bind (wpAny_bind (wpAny_field hos hds (x := .none) rfl (wpAny_bind (wpAny_listPart .none ?_))))
  rw [if_neg hstep]
  refine wpAny_bind (wpAny_field hos hds (x := vl) rfl (wpAny_bind (wpAny_listPart pl ?_)))
  refine wpAny_bind (wpAny_field hos hds (x := vu) rfl (wpAny_bind (wpAny_listPart pu (wpAny_pure ?_))))
  first
    | simp only [hsame, Bool.false_eq_true, if_false]
    | refine PySem.W.KFB.if_not hsame ?_
    | (dsimp only
       rw [if_neg (by rw [hsame]; exact Bool.false_ne_true)])
  refine wpAny_bind (m := Builtin.List.listAllItems (.ref b) "must assign iterable to extended slice") ?_
  unfold Builtin.List.listAllItems
  refine wpAny_bind (wpAny_typeOf hb.typeIs ?_)
  first
    | refine PySem.W.KFB.if_so (by decide) ?_
    | rw [if_pos (by decide)]
    | simp only [beq_self_eq_true, Bool.true_or, if_true]
  unfold Builtin.List.listItems
  refine wpAny_bind (wpAny_seqItems e2 rfl (wpAny_pure ?_))
  refine wpAny_bind (wpAny_bind (wpAny_seqItems e rfl (wpAny_pure ?_)))
  refine wpAny_bind (wpAny_of_eq ((sliceIndices_raw (some (a : Int)) (some (c : Int)) none items.size (by simp)).trans (congrArg (pure : Int × Int × Int → Sem (Int × Int × Int)) (bounds_run hac hc))) ?_)
  show wpAny _ _ (if ((1 : Int) == 1) = true then _ else _) _ _ s
  rw [if_pos (by decide)]
  refine wpAny_bind (wpAny_rule ?_)
  first
    | simp only [notLongL hsz, Bool.false_eq_true, if_false]
    | refine PySem.W.KFB.if_not (notLongL hsz) ?_
  first | refine wpAny_bind (wpAny_pure ?_) | skip
  show wpAny _ _ (updateSeq l (fun xs => xs.extract 0 ((a : Int)).toNat ++ new ++ xs.extract (max (a : Int) (c : Int)).toNat xs.size) >>= _) _ _ s
  rw [hmax, Int.toNat_natCast]
  refine wpAny_bind (wpAny_updateSeq (hz := Nat.le_trans (Nat.le_add_right _ _) hsz) (_hz' := hz') e rfl ?_)
  refine wpAny_bind (wpAny_letGo ?_)
  first
    | exact wpAny_bind (wpAny_pure (wpAny_pure ⟨.none, rfl, wpAny_pure h⟩))
    | exact wpAny_pure ⟨.none, rfl, wpAny_pure h⟩
end

section
variable {X : Cx}
/-- xs[a:c] = ys of another list, at the value level: sl is the slice object that was just made -/
theorem set_slice {pins : List (Addr × Obj)} {s : Shared} {σ : St} {H : Hp} {l b sl : Addr} {xs ys : List V} {a c : Int} {vl vu : Value} {Q : Unit → Shared → Prop} (I : Inv X pins σ H s)
    (hH : H l = some (.lst xs)) (hB : H b = some (.lst ys)) (hne : l ≠ b) (hs : s.heap.IsSliceOf sl vl vu .none) (ra : RelV (.int a) vl) (rc : RelV (.int c) vu) (h0 : 0 ≤ a) (hac : a ≤ c) (hc : c ≤ xs.length)
    (hz : xs.length + ys.length ≤ sizeLine) (h : ∀ s', Inv X pins σ (upd H l (.lst (xs.take a.toNat ++ ys ++ xs.drop c.toNat))) s' → Q () s') :
    wpAny (model X.prog X.w) X.A (setItem (.ref l) (.ref sl) (.ref b)) Q X.xe s := by
  obtain ⟨ta, rfl⟩ := ra
  obtain ⟨tc, rfl⟩ := rc
  obtain ⟨z, its, n, r, hl, e⟩ := I.lstM hH
  obtain ⟨z2, its2, n2, r2, hl2, e2⟩ := I.lstM hB
  obtain ⟨a', rfl⟩ := Int.eq_ofNat_of_zero_le h0
  obtain ⟨c', rfl⟩ := Int.eq_ofNat_of_zero_le (Int.le_trans h0 hac)
  simp only [Int.toNat_natCast] at h
  refine setItem_slice (a := a') (c := c') e e2 hne hs (.int _ _) (.int _ _) (by omega) (by rw [List.size_toArray]; omega) (by rw [List.size_toArray, List.size_toArray]; omega) (h _ ?_)
  refine I.lset (its' := its.take a' ++ its2 ++ its.drop c') (t' := s.toks) hH e ?_ (Vals.append (Vals.append (r.take _) r2) (r.drop _)) ?_
  · exact splice_eq its its2 a' c'
  · rw [List.length_append, List.length_append, List.length_take, List.length_drop]
    omega
end
end L2

namespace L2
open PySem PySem.Spec PyProof.Rows

theorem Vals.ints : ∀ {ns : List Int} {us : List Value}, Vals (ns.map V.int) us → IntsAre us ns
  | [], us, h => by
    rw [List.map_nil] at h
    cases h
    exact IntsAre.nil
  | n :: ns, us, h => by
    rw [List.map_cons] at h
    cases h with
    | cons r t =>
      obtain ⟨k, rfl⟩ := r
      exact IntsAre.cons n k (Vals.ints t)
theorem vals_of_ints : ∀ {us : List Value} {ns : List Int}, IntsAre us ns → Vals (ns.map V.int) us
  | _, _, .nil => by rw [List.map_nil]; exact Paired.nil
  | _, _, .cons n t h => by rw [List.map_cons]; exact Paired.cons (show RelV (V.int n) (Value.int n t) from ⟨t, rfl⟩) (vals_of_ints h)
theorem Vals.strs : ∀ {xs : List Str} {us : List Value}, Vals (xs.map V.str) us → StrsAre us xs
  | [], us, h => by
    rw [List.map_nil] at h
    cases h
    exact StrsAre.nil
  | x :: xs, us, h => by
    rw [List.map_cons] at h
    cases h with
    | cons r t =>
      obtain ⟨k, rfl⟩ := r
      exact StrsAre.cons x k (Vals.strs t)
theorem vals_of_strs : ∀ {us : List Value} {xs : List Str}, StrsAre us xs → Vals (xs.map V.str) us
  | _, _, .nil => by rw [List.map_nil]; exact Paired.nil
  | _, _, .cons x t h => by rw [List.map_cons]; exact Paired.cons (show RelV (V.str x) (Value.str x t) from ⟨t, rfl⟩) (vals_of_strs h)
theorem Vals.bls : ∀ {bs : List Bool} {us : List Value}, Vals (bs.map V.bl) us → us = bs.map Value.bool
  | [], us, h => by
    rw [List.map_nil] at h
    cases h
    rfl
  | b :: bs, us, h => by
    rw [List.map_cons] at h
    cases h with
    | cons r t =>
      cases r
      rw [Vals.bls t, List.map_cons]
theorem Vals.ref1 {a : Addr} {us : List Value} (r : Vals [V.ref a] us) : us = [Value.ref a] := by
  cases r with
  | cons r t =>
    cases t
    cases r
    rfl
theorem Vals.int2 {i j : Int} {us : List Value} (r : Vals [V.int i, V.int j] us) : ∃ t u, us = [Value.int i t, Value.int j u] := by
  cases r with
  | cons r t =>
    cases t with
    | cons r2 t2 =>
      cases t2
      obtain ⟨t, rfl⟩ := r
      obtain ⟨u, rfl⟩ := r2
      exact ⟨t, u, rfl⟩

/-! ### the library's walks over a list of ints, kept objects alone -/
section
variable {prog : Program} {w : World} {A : Around} {E : Value → Shared → Prop} {s : Shared} {l : Addr} {its : List Value} {ns : List Int} {Q : Value → Shared → Prop}
theorem sum_raw (hh : A.handled = none) (hl : s.heap.IsList l its.toArray) (hi : IntsAre its ns)
    (h : ∀ h' tk t', (∀ b o, s.heap.get? b = some o → h'.get? b = some o) → Q (.int ns.sum t') { s with heap := h', toks := tk }) : wpAny (model prog w) A (call (.builtin "sum") [.ref l]) Q E s := by
  obtain ⟨xs, e⟩ := hi.allInts.items
  have hn : numsOf (intItems xs).toList = ns := by rw [← e]; exact hi.numsOf
  rw [nums_intItems] at hn
  rw [e] at hl
  refine PySem.sum_intListG hh hl fun h' tk t' hk => ?_
  have := h h' tk t' hk
  rw [preSum_eq, List.take_of_length_le (by simp), hn]; exact this
theorem max_raw (hh : A.handled = none) (hl : s.heap.IsList l its.toArray) (hi : IntsAre its ns) (hne : 0 < ns.length)
    (h : ∀ h' tk M t', (∀ b o, s.heap.get? b = some o → h'.get? b = some o) → M ∈ ns → (∀ a, a ∈ ns → a ≤ M) → Q (.int M t') { s with heap := h', toks := tk }) : wpAny (model prog w) A (call (.builtin "max") [.ref l]) Q E s := by
  obtain ⟨xs, e⟩ := hi.allInts.items
  have hn : numsOf (intItems xs).toList = ns := by rw [← e]; exact hi.numsOf
  rw [nums_intItems] at hn
  subst hn
  rw [e] at hl
  have hsz : 0 < xs.size := by simpa using hne
  refine PySem.max_intList hh hl hsz fun v h' tk hv hk => ?_
  obtain ⟨t, rfl⟩ := intItems_at hv
  obtain ⟨h1, h2⟩ := argBest_gt (numAt xs) (xs.size - 1)
  refine h h' tk _ t hk ?_ fun a ha => ?_
  · rw [numAt_eq]; exact PySem.getD_mem (by rw [List.length_map, Array.length_toList]; omega)
  · obtain ⟨j, hj, rfl⟩ := mem_getD ha
    rw [List.length_map, Array.length_toList] at hj
    rw [← numAt_eq]; exact h2 j (by omega)
theorem min_raw (hh : A.handled = none) (hl : s.heap.IsList l its.toArray) (hi : IntsAre its ns) (hne : 0 < ns.length)
    (h : ∀ h' tk M t', (∀ b o, s.heap.get? b = some o → h'.get? b = some o) → M ∈ ns → (∀ a, a ∈ ns → M ≤ a) → Q (.int M t') { s with heap := h', toks := tk }) : wpAny (model prog w) A (call (.builtin "min") [.ref l]) Q E s := by
  obtain ⟨xs, e⟩ := hi.allInts.items
  have hn : numsOf (intItems xs).toList = ns := by rw [← e]; exact hi.numsOf
  rw [nums_intItems] at hn
  subst hn
  rw [e] at hl
  have hsz : 0 < xs.size := by simpa using hne
  refine PySem.min_intList hh hl hsz fun v h' tk hv hk => ?_
  obtain ⟨t, rfl⟩ := intItems_at hv
  obtain ⟨h1, h2⟩ := argBest_lt (numAt xs) (xs.size - 1)
  refine h h' tk _ t hk ?_ fun a ha => ?_
  · rw [numAt_eq]; exact PySem.getD_mem (by rw [List.length_map, Array.length_toList]; omega)
  · obtain ⟨j, hj, rfl⟩ := mem_getD ha
    rw [List.length_map, Array.length_toList] at hj
    rw [← numAt_eq]; exact h2 j (by omega)
end

/-! ### the calls, by values (CallR of 03t; MtR of 06l) -/
section
variable {X : Cx}
/-- sum(xs) of a list of ints -/
def rSum (K : PySem.W.Frag) : List V → Hp → VK → Prop := fun vs H Q => ∃ (a : Addr) (ns : List Int), vs = [V.ref a] ∧ SqL K H a (ns.map V.int) ∧ Q (.int ns.sum) H
/-- max(xs), min(xs) of a list of ints -/
def rMax (K : PySem.W.Frag) : List V → Hp → VK → Prop := fun vs H Q => ∃ (a : Addr) (ns : List Int), vs = [V.ref a] ∧ SqL K H a (ns.map V.int) ∧ 0 < ns.length ∧ ∀ m, m ∈ ns → (∀ y, y ∈ ns → y ≤ m) → Q (.int m) H
def rMin (K : PySem.W.Frag) : List V → Hp → VK → Prop := fun vs H Q => ∃ (a : Addr) (ns : List Int), vs = [V.ref a] ∧ SqL K H a (ns.map V.int) ∧ 0 < ns.length ∧ ∀ m, m ∈ ns → (∀ y, y ∈ ns → m ≤ y) → Q (.int m) H
theorem cr_sum (hc : X.calm = true) : CallR X (.builtin "sum") (rSum X.K) := by
  intro pins s σ H vs us Q I r h
  obtain ⟨a, ns, rfl, hs, q⟩ := h
  obtain ⟨its, rv, hl, _⟩ := I.list hs
  rw [Vals.ref1 r]
  exact sum_raw (I.ok.hd hc) hl.isList rv.ints fun h' tk t' hk => ⟨.int _, H, I.kept hk, ⟨_, rfl⟩, q⟩
theorem cr_max (hc : X.calm = true) : CallR X (.builtin "max") (rMax X.K) := by
  intro pins s σ H vs us Q I r h
  obtain ⟨a, ns, rfl, hs, hne, q⟩ := h
  obtain ⟨its, rv, hl, _⟩ := I.list hs
  rw [Vals.ref1 r]
  exact max_raw (I.ok.hd hc) hl.isList rv.ints hne fun h' tk m t' hk h1 h2 => ⟨.int _, H, I.kept hk, ⟨_, rfl⟩, q m h1 h2⟩
theorem cr_min (hc : X.calm = true) : CallR X (.builtin "min") (rMin X.K) := by
  intro pins s σ H vs us Q I r h
  obtain ⟨a, ns, rfl, hs, hne, q⟩ := h
  obtain ⟨its, rv, hl, _⟩ := I.list hs
  rw [Vals.ref1 r]
  exact min_raw (I.ok.hd hc) hl.isList rv.ints hne fun h' tk m t' hk h1 h2 => ⟨.int _, H, I.kept hk, ⟨_, rfl⟩, q m h1 h2⟩

/-! sorted, sort (fewer than 64 items: the library's own bound) -/
def rSorted (K : PySem.W.Frag) : List V → Hp → VK → Prop := fun vs H Q => ∃ (a : Addr) (ns : List Int), vs = [V.ref a] ∧ SqL K H a (ns.map V.int) ∧ ns.length < 64 ∧
  ∀ (ns' : List Int) (p : Addr), ns'.Perm ns → ns'.Pairwise (· ≤ ·) → H p = none → Q (.ref p) (upd H p (.lst (ns'.map V.int)))
def rSortedS (K : PySem.W.Frag) : List V → Hp → VK → Prop := fun vs H Q => ∃ (a : Addr) (xs : List Str), vs = [V.ref a] ∧ SqL K H a (xs.map V.str) ∧ xs.length < 64 ∧
  ∀ (ys : List Str) (p : Addr), ys.Perm xs → sortedS ys = true → H p = none → Q (.ref p) (upd H p (.lst (ys.map V.str)))
theorem small64 {n : Nat} (h : n < 64) : n ≤ sizeLine := by rw [sizeLine_eq]; omega
theorem cr_sorted : CallR X (.builtin "sorted") (rSorted X.K) := by
  intro pins s σ H vs us Q I r h
  obtain ⟨a, ns, rfl, hs, h64, q⟩ := h
  obtain ⟨its, rv, hl, _⟩ := I.list hs
  rw [Vals.ref1 r]
  have hi := rv.ints
  refine PyProof.Rows.sorted_ints hl.isList hi (by rw [hi.length]; exact h64) fun out ns' h1 h2 h3 => ?_
  obtain ⟨ep, he'⟩ := PyProof.Rows.sortedAll_at s.heap its out
  have hlen : (ns'.map V.int).length ≤ sizeLine := by rw [List.length_map, h2.length_eq]; exact small64 h64
  exact ⟨.ref _, upd H (s.heap.objs.size + 1) (.lst (ns'.map V.int)), I.laid (t' := s.toks) (fun _ _ => PyProof.Rows.sortedAll_old) (Nat.le_succ _) ⟨hlen, out.toList, ep, vals_of_ints h1, he'⟩, rfl, q ns' _ h2 h3 (I.hok.fresh (Nat.le_succ _))⟩
theorem cr_sortedS : CallR X (.builtin "sorted") (rSortedS X.K) := by
  intro pins s σ H vs us Q I r h
  obtain ⟨a, xs, rfl, hs, h64, q⟩ := h
  obtain ⟨its, rv, hl, _⟩ := I.list hs
  rw [Vals.ref1 r]
  have hlen0 := rv.length
  rw [List.length_map] at hlen0
  refine PyProof.Rows.sorted_strs hl.isList rv.strs (by rw [← hlen0]; exact h64) fun out ys h1 h2 h3 => ?_
  obtain ⟨ep, he'⟩ := PyProof.Rows.sortedAll_at s.heap its out
  have hlen : (ys.map V.str).length ≤ sizeLine := by rw [List.length_map, h2.length_eq]; exact small64 h64
  exact ⟨.ref _, upd H (s.heap.objs.size + 1) (.lst (ys.map V.str)), I.laid (t' := s.toks) (fun _ _ => PyProof.Rows.sortedAll_old) (Nat.le_succ _) ⟨hlen, out.toList, ep, vals_of_strs h1, he'⟩, rfl, q ys _ h2 h3 (I.hok.fresh (Nat.le_succ _))⟩
/-- xs.sort(), ints -/
def rSort : V → List V → Hp → VK → Prop := fun x xs H Q => ∃ (a : Addr) (ns : List Int), x = V.ref a ∧ xs = [] ∧ H a = some (.lst (ns.map V.int)) ∧ ns.length < 64 ∧
  ∀ ns' : List Int, ns'.Perm ns → ns'.Pairwise (· ≤ ·) → Q .non (upd H a (.lst (ns'.map V.int)))
theorem mt_sort : MtR X "list.sort" rSort := by
  intro pins s σ H x xs v us Q I rx rxs h
  obtain ⟨a, ns, rfl, rfl, ha, h64, q⟩ := h
  cases rx
  cases rxs
  obtain ⟨hz, its, n, rv, hob⟩ := I.hok a _ ha
  have hi := rv.ints
  refine wpAny_call_entry PyProof.Rows.slot_list_sort ⟨_, hob, rfl⟩ PyProof.Rows.entry_list_sort
    (PyProof.Rows.list_sort_tree hob hi (by rw [hi.length]; exact h64) fun out ns' h1 h2 h3 => ⟨.none, rfl, ?_⟩) (PyProof.Rows.args_list_sort _)
  obtain ⟨ep, he'⟩ := PyProof.Rows.sortedHeap_at (vs := its) (out := out) hob
  have hlen : (ns'.map V.int).length ≤ sizeLine := by rw [List.length_map, h2.length_eq]; exact small64 h64
  refine ⟨.non, upd H a (.lst (ns'.map V.int)), I.write (e := a) (t' := s.toks) (by rw [ha]; trivial) (.inl rfl) (fun b u hb hu => ?_) ⟨_, he'⟩ ⟨hlen, out.toList, ep, vals_of_ints h1, he'⟩, rfl, q ns' h2 h3⟩
  rw [PyProof.Rows.sortedHeap_old hb (Heap.lt_size hu)]; exact hu
end

/-! ### list.index, flat items -/
section
variable {X : Cx}
def rIndex (K : PySem.W.Frag) : V → List V → Hp → VK → Prop := fun x xs H Q => ∃ (a : Addr) (ys : List V) (y : V) (j : Nat) (z : V), x = V.ref a ∧ xs = [y] ∧ SqL K H a ys ∧ flatV y = true ∧ ys.all flatV = true ∧ ys[j]? = some z ∧ eqV z y = true ∧
  (∀ (m : Nat) (z' : V), m < j → ys[m]? = some z' → eqV z' y = false) ∧ Q (.int (j : Nat)) H
theorem flat_at {ys : List V} (f : ys.all flatV = true) {j : Nat} {z : V} (h : ys[j]? = some z) : flatV z = true := List.all_eq_true.mp f z (List.mem_of_getElem? h)
theorem mt_index : MtR X "list.index" (rIndex X.K) := by
  intro pins s σ H x xs v us Q I rx rxs h
  obtain ⟨a, ys, y, j, z, rfl, rfl, hs, fy, fys, hz, hzj, hno, q⟩ := h
  cases rx
  cases rxs with
  | cons ry rt =>
    rename_i uy ut
    cases rt
    obtain ⟨its, rv, ⟨⟨cls, dd, data, sl⟩, n, ho, hc, hdn, hd⟩, hlen⟩ := I.list hs
    simp only at hc hd
    subst hc hd
    obtain ⟨u, hu, ru⟩ := rv.get hz
    obtain ⟨hjl, hje⟩ := List.getElem?_eq_some_iff.mp hu
    have hvl := rv.length
    have hj : j < its.toArray.size := by simpa using hjl
    have hsl := sizeLine_eq
    refine call_meets PySem.F.slot_list_index ⟨_, ho, rfl⟩ PySem.F.entry_list_index (PySem.F.args_list_index_2 _ _)
      (SeqAt.list_indexAt a its.toArray n dd sl uy (eqU y) j hj (by omega) ?_ ?_) ⟨ho, fun u' hu' => mem_eqAt ry fy rv fys u' (by simpa using hu'), ?_⟩
    · have e1 : its.toArray[j] = u := by simpa using hje
      rw [e1, eqU_of ru (flat_at fys hz)]
      exact hzj
    · intro m hm hmj
      have hml : m < its.length := by simpa using hm
      have hmy : m < ys.length := by omega
      have hy' : ys[m]? = some ys[m] := List.getElem?_eq_getElem hmy
      obtain ⟨u2, hu2, ru2⟩ := rv.get hy'
      obtain ⟨_, hme⟩ := List.getElem?_eq_some_iff.mp hu2
      have e1 : its.toArray[m] = u2 := by simpa using hme
      rw [e1, eqU_of ru2 (flat_at fys hy')]
      exact hno m _ hmj hy'
    · exact ⟨.int (j : Nat), H, I.tok _, ⟨_, rfl⟩, q⟩
end

/-! ### type(x) of an own instance; is, is not of a module's class -/
section
variable {X : Cx}
theorem cr_type : CallR X (.type "type") (fun xs H Q => ∃ a C dx fs, xs = [V.ref a] ∧ H a = some (.ins C dx fs) ∧ Q (.ref C) H) := by
  intro pins s σ H xs us Q I r h
  obtain ⟨a, C, dx, fs, rfl, ha, q⟩ := h
  rw [Vals.ref1 r]
  obtain ⟨mA, O, _⟩ := ins_get I.hok ha
  obtain ⟨od, J, _⟩ := O.look
  exact PySem.W.kto_own J ⟨.ref C, H, I, rfl, q⟩
/-- an object of the module whose class is no tuple: a class of the text (makesIn says that its type is a type's heir) -/
theorem cls_there {K : PySem.W.Frag} {C : Addr} (h : PySem.W.makesIn K C = true) : ∃ o, K.lookup C = some o ∧ o.cls ≠ .type "tuple" := by
  unfold PySem.W.makesIn at h
  split at h
  · rename_i oc od cd sl ho
    refine ⟨_, ho, fun e => ?_⟩
    rw [Bool.and_eq_true] at h
    have h2 : PySem.W.instIn K (.ref C) (.type "type") = some true := beq_iff_eq.mp h.2
    have e2 : oc = .type "tuple" := e
    have h3 : PySem.W.instIn K (.ref C) (.type "type") = PySem.W.subIn K oc (.type "type") := by
      show ((K.lookup C).map (fun o => o.cls)).bind (fun t => PySem.W.subIn K t (.type "type")) = _
      rw [ho]
      all_goals rfl
    rw [h3, e2] at h2
    have h4 : PySem.W.subIn K (.type "tuple") (.type "type") = some false := by
      show (fastBuiltinMro "tuple").map (·.contains (.type "type")) = some false
      decide +kernel
    rw [h4] at h2
    cases h2
  · cases h
theorem op_is_cls : OpR X (compareOp .Is) (fun x y H Q => ∃ a b, x = V.ref a ∧ y = V.ref b ∧ (a = b ∨ (PySem.W.makesIn X.K a = true ∧ PySem.W.makesIn X.K b = true)) ∧ Q (.bl (decide (a = b))) H) := by
  intro pins s σ H x y v u Q I rx ry h
  obtain ⟨a, b, rfl, rfl, hab, q⟩ := h
  cases rx
  cases ry
  by_cases z : a = b
  · subst z
    exact wpAny_is_ref_self ⟨.bl _, H, I, by simp [RelV], q⟩
  · rcases hab with e | ⟨h1, h2⟩
    · exact absurd e z
    · obtain ⟨o1, e1, n1⟩ := cls_there h1
      obtain ⟨o2, e2, _⟩ := cls_there h2
      exact wpAny_is_ref_other z (I.kIn _ _ e1) (I.kIn _ _ e2) n1 ⟨.bl _, H, I, by simp [RelV, z], q⟩
theorem op_isnot_cls : OpR X (compareOp .IsNot) (fun x y H Q => ∃ a b, x = V.ref a ∧ y = V.ref b ∧ (a = b ∨ (PySem.W.makesIn X.K a = true ∧ PySem.W.makesIn X.K b = true)) ∧ Q (.bl (!decide (a = b))) H) := by
  intro pins s σ H x y v u Q I rx ry h
  obtain ⟨a, b, rfl, rfl, hab, q⟩ := h
  cases rx
  cases ry
  by_cases z : a = b
  · subst z
    exact wpAny_isNot_ref_self ⟨.bl _, H, I, by simp [RelV], q⟩
  · rcases hab with e | ⟨h1, h2⟩
    · exact absurd e z
    · obtain ⟨o1, e1, n1⟩ := cls_there h1
      obtain ⟨o2, e2, _⟩ := cls_there h2
      exact wpAny_isNot_ref_other z (I.kIn _ _ e1) (I.kIn _ _ e2) n1 ⟨.bl _, H, I, by simp [RelV, z], q⟩
end

/-! ### any(xs), all(xs) of a list of bools -/
theorem iter_any {prog : Program} {w : World} {A : Around} {E : Value → Shared → Prop} {s : Shared} {l : Addr} {items : Array Value} {Q : Value → Shared → Prop} (hl : s.heap.IsList l items)
    (h : ∀ s₂ : Shared, s₂ = { s with heap := s.heap.push { cls := .type "list_iterator", data := .fields #[.ref l, .int 0 0] } } →
      (s₂.heap.IsListIter s.heap.objs.size l 0 ∧ s₂.heap.IsList l items) → l ≠ s.heap.objs.size → Q (.ref s.heap.objs.size) s₂) : wpAny (model prog w) A (pyIter (.ref l)) Q E s := by
  have hlt : l < s.heap.objs.size := by obtain ⟨_, e, _⟩ := hl; exact Heap.lt_size e
  exact wpAny_pyIter_list hl (h _ rfl ⟨⟨_, Heap.get?_push_size _ rfl, rfl, rfl⟩, hl.push _⟩ (Nat.ne_of_lt hlt))
theorem truth_bools {prog : Program} {w : World} {A : Around} {bs : List Bool} {its : List Value} (e : its = bs.map Value.bool) :
    TruthOf prog w A (fun i v => its.toArray[i]? = some v) (fun i => bs.getD i false) := fun i v s Q E hv hq => by
  have hv' : its[i]? = some v := by simpa using hv
  rw [e, List.getElem?_map] at hv'
  obtain ⟨b, hb, rfl⟩ := Option.map_eq_some_iff.mp hv'
  have hg : bs.getD i false = b := by rw [List.getD_eq_getElem?_getD, hb] <;> rfl
  have hq' : Q (bs.getD i false) s := hq
  rw [hg] at hq'
  exact wpAny_truthy_bool hq'
theorem any_range : ∀ bs : List Bool, (List.range bs.length).any (fun i => bs.getD i false) = bs.any id
  | [] => rfl
  | b :: bs => by
    rw [List.length_cons, List.range_succ_eq_map, List.any_cons, List.any_map, List.any_cons, ← any_range bs]
    all_goals rfl
theorem all_range : ∀ bs : List Bool, (List.range bs.length).all (fun i => bs.getD i false) = bs.all id
  | [] => rfl
  | b :: bs => by
    rw [List.length_cons, List.range_succ_eq_map, List.all_cons, List.all_map, List.all_cons, ← all_range bs]
    all_goals rfl
section
variable {X : Cx}
def rAny (K : PySem.W.Frag) : List V → Hp → VK → Prop := fun vs H Q => ∃ (a : Addr) (bs : List Bool), vs = [V.ref a] ∧ SqL K H a (bs.map V.bl) ∧ Q (.bl (bs.any id)) H
def rAll (K : PySem.W.Frag) : List V → Hp → VK → Prop := fun vs H Q => ∃ (a : Addr) (bs : List Bool), vs = [V.ref a] ∧ SqL K H a (bs.map V.bl) ∧ Q (.bl (bs.all id)) H
theorem cr_any (hc : X.calm = true) : CallR X (.builtin "any") (rAny X.K) := by
  intro pins s σ H vs us Q I r h
  obtain ⟨a, bs, rfl, hs, q⟩ := h
  obtain ⟨its, rv, hl, _⟩ := I.list hs
  rw [Vals.ref1 r]
  have hb := rv.bls
  refine call_any_walk (iter_any hl.isList fun s₂ e2 st hne => ?_)
  subst e2
  refine ⟨_, _, _, _, _, _, _, rfl, Walks.list (A := X.A.in1) (I.ok.hd hc) _ a hne its.toArray, st, truth_bools hb, fun h' tk hk => ?_⟩
  refine ⟨.bl _, H, I.kept fun b o eo => hk b o (fun hmem => ?_) (Heap.get?_push_of_some _ eo), ?_, q⟩
  · rcases List.mem_cons.mp hmem with e1 | hmem
    · exact absurd (e1 ▸ Heap.lt_size eo) (Nat.lt_irrefl _)
    · cases hmem
  · show Value.bool _ = Value.bool _
    rw [← any_range, hb, List.size_toArray, List.length_map]
theorem cr_all (hc : X.calm = true) : CallR X (.builtin "all") (rAll X.K) := by
  intro pins s σ H vs us Q I r h
  obtain ⟨a, bs, rfl, hs, q⟩ := h
  obtain ⟨its, rv, hl, _⟩ := I.list hs
  rw [Vals.ref1 r]
  have hb := rv.bls
  refine call_all_walk (iter_any hl.isList fun s₂ e2 st hne => ?_)
  subst e2
  refine ⟨_, _, _, _, _, _, _, rfl, Walks.list (A := X.A.in1) (I.ok.hd hc) _ a hne its.toArray, st, truth_bools hb, fun h' tk hk => ?_⟩
  refine ⟨.bl _, H, I.kept fun b o eo => hk b o (fun hmem => ?_) (Heap.get?_push_of_some _ eo), ?_, q⟩
  · rcases List.mem_cons.mp hmem with e1 | hmem
    · exact absurd (e1 ▸ Heap.lt_size eo) (Nat.lt_irrefl _)
    · cases hmem
  · show Value.bool _ = Value.bool _
    rw [← all_range, hb, List.size_toArray, List.length_map]
end

/-! ### == and != of data at any depth: none, bools, ints, texts, lists, tuples -/
mutual
inductive Dp (K : PySem.W.Frag) (H : Hp) : V → PyData → Prop
  | non : Dp K H .non .none
  | bl (b : Bool) : Dp K H (.bl b) (.bool b)
  | int (i : Int) : Dp K H (.int i) (.int i)
  | str (x : Str) : Dp K H (.str x) (.str x)
  | lst {a : Addr} {xs : List V} {ds : List PyData} : SqL K H a xs → DpAll K H xs ds → Dp K H (.ref a) (.list ds)
  | tup {a : Addr} {xs : List V} {ds : List PyData} : SqT K H a xs → DpAll K H xs ds → Dp K H (.ref a) (.tuple ds)
inductive DpAll (K : PySem.W.Frag) (H : Hp) : List V → List PyData → Prop
  | nil : DpAll K H [] []
  | cons {v : V} {vs : List V} {d : PyData} {ds : List PyData} : Dp K H v d → DpAll K H vs ds → DpAll K H (v :: vs) (d :: ds)
end
section
variable {X : Cx} {pins : List (Addr × Obj)} {σ : St} {H : Hp} {s : Shared}
mutual
theorem Dp.reads (I : Inv X pins σ H s) : ∀ (d : PyData) (v : V) (u : Value), Dp X.K H v d → RelV v u → ∃ as, Reads s.heap u d as
  | .none, _, _, h, r => by
    cases h
    cases r
    exact ⟨_, Reads.none⟩
  | .bool b, _, _, h, r => by
    cases h
    cases r
    exact ⟨_, Reads.bool b⟩
  | .int i, _, _, h, r => by
    cases h
    obtain ⟨t, rfl⟩ := r
    exact ⟨_, Reads.int i t⟩
  | .str x, _, _, h, r => by
    cases h
    obtain ⟨t, rfl⟩ := r
    exact ⟨_, Reads.str x t⟩
  | .list ds, _, _, h, r => by
    cases h with
    | lst hs ha =>
      cases r
      obtain ⟨its, rv, ⟨o, n, ho, hc, _, hd⟩, _⟩ := I.list hs
      obtain ⟨as, hr⟩ := Dp.readsAll I ds _ its ha rv
      exact ⟨_, Reads.list ho hc hd hr⟩
  | .tuple ds, _, _, h, r => by
    cases h with
    | tup hs ha =>
      cases r
      obtain ⟨its, rv, ⟨o, ho, hc, n, hd⟩, _⟩ := I.tuple hs
      obtain ⟨as, hr⟩ := Dp.readsAll I ds _ its ha rv
      exact ⟨_, Reads.tuple ho hc hd hr⟩
  | .dict _, _, _, h, _ => by cases h
theorem Dp.readsAll (I : Inv X pins σ H s) : ∀ (ds : List PyData) (vs : List V) (us : List Value), DpAll X.K H vs ds → Vals vs us → ∃ as, ReadsAll s.heap us ds as
  | [], _, _, h, r => by
    cases h
    cases r
    exact ⟨_, ReadsAll.nil⟩
  | d :: ds, _, _, h, r => by
    cases h with
    | cons h1 h2 =>
      cases r with
      | cons r1 r2 =>
        obtain ⟨as, q1⟩ := Dp.reads I d _ _ h1 r1
        obtain ⟨bs, q2⟩ := Dp.readsAll I ds _ _ h2 r2
        exact ⟨_, ReadsAll.cons q1 q2⟩
end
end
section
variable {X : Cx}
def rEqD (K : PySem.W.Frag) : R2 := fun x y H Q => ∃ d e, Dp K H x d ∧ Dp K H y e ∧ SeqAt.shaped d = true ∧ SeqAt.shaped e = true ∧ Q (.bl (PyData.eqv d e)) H
def rNeD (K : PySem.W.Frag) : R2 := fun x y H Q => ∃ d e, Dp K H x d ∧ Dp K H y e ∧ SeqAt.shaped d = true ∧ SeqAt.shaped e = true ∧ Q (.bl (!PyData.eqv d e)) H
theorem op_eqD (hu : X.A.units + 64 < cLine) : OpR X (compareOp .Eq) (rEqD X.K) := by
  intro pins s σ H x y v u Q I rx ry h
  obtain ⟨d, e, hd, he, sd, se, q⟩ := h
  obtain ⟨as, r1⟩ := Dp.reads I d x v hd rx
  obtain ⟨bs, r2⟩ := Dp.reads I e y u he ry
  exact SeqAt.compareEq_shaped r1 r2 sd se hu ⟨.bl _, H, I, rfl, q⟩
theorem op_neD (hu : X.A.units + 64 < cLine) : OpR X (compareOp .NotEq) (rNeD X.K) := by
  intro pins s σ H x y v u Q I rx ry h
  obtain ⟨d, e, hd, he, sd, se, q⟩ := h
  obtain ⟨as, r1⟩ := Dp.reads I d x v hd rx
  obtain ⟨bs, r2⟩ := Dp.reads I e y u he ry
  exact SeqAt.compareNe_shaped r1 r2 sd se hu ⟨.bl _, H, I, rfl, q⟩
end
end L2

namespace L2
open PySem PySem.Spec PyProof.Rows
abbrev CellAt (h : Heap) (c : Addr) (v : Option Value) : Prop := h.IsCell c v
def relS (scope sc : Scope) : Scope :=
  { scope with names := scope.names.map fun (n, k) => if (k == .free && sc.kind == .function && sc.names.lookup n == some .cell) then (n, .cell) else (n, k) }

def cloFrom (cells : List (Str × Addr)) : List (Str × NameKind) → List (Str × Addr) → List (Str × Addr)
  | [], acc => acc
  | (n, k) :: r, acc => if k == .free then cloFrom cells r ((n, (cells.lookup n).getD 0) :: acc) else cloFrom cells r acc

theorem closure_loop (env : Env) (f : Str × NameKind → List (Str × Addr) → Sem (ForInStep (List (Str × Addr))))
    (hf : ∀ n k c, f (n, k) c = if k == .free then (do let a ← cellOf env n; pure (.yield ((n, a) :: c))) else pure (.yield c)) :
    ∀ (names : List (Str × NameKind)) (acc : List (Str × Addr)), (∀ y ∈ names, y.2 = .free → ∃ c, env.cells.lookup y.1 = some c) → forIn names acc f = pure (cloFrom env.cells names acc)
  | [], acc, _ => by rw [List.forIn_nil]; rfl
  | (n, k) :: r, acc, h => by
    rw [List.forIn_cons, hf]
    have ih := fun acc => closure_loop env f hf r acc fun y hy => h y (List.mem_cons_of_mem _ hy)
    unfold cloFrom
    by_cases hk : (k == NameKind.free) = true
    · rw [if_pos hk, if_pos hk]
      obtain ⟨c, hc⟩ := h (n, k) List.mem_cons_self (by simpa using hk)
      have e : cellOf env n = pure c := by unfold cellOf; rw [hc]
      rw [e]
      have e2 : (env.cells.lookup n).getD 0 = c := by rw [hc]; rfl
      rw [e2]
      exact ih _
    · rw [if_neg hk, if_neg hk]
      exact ih _
theorem closure_ok {scope : Scope} {env : Env} (h : ∀ y ∈ scope.names, y.2 = .free → ∃ c, env.cells.lookup y.1 = some c) : closureFor scope env = pure (cloFrom env.cells scope.names []) := by
  simp only [closureFor]
  rw [closure_loop env _ (fun n k c => rfl) scope.names [] h]
  rfl

theorem mem_lookup {α : Type} : ∀ {l : List (Str × α)} {n : Str} {c : α}, (n, c) ∈ l → ∃ c', l.lookup n = some c'
  | (k, v) :: r, n, c, h => by
    rw [List.lookup_cons]
    cases hb : n == k with
    | true => exact ⟨_, rfl⟩
    | false =>
      rcases List.mem_cons.mp h with e | h
      · cases e; simp at hb
      · exact mem_lookup h

theorem cloFrom_mem {cells : List (Str × Addr)} : ∀ {names : List (Str × NameKind)} {acc : List (Str × Addr)} {n : Str} {c : Addr}, (n, c) ∈ cloFrom cells names acc → (n, c) ∈ acc ∨ ((n, .free) ∈ names ∧ c = (cells.lookup n).getD 0)
  | [], _, _, _, h => .inl h
  | (m, k) :: r, acc, n, c, h => by
    unfold cloFrom at h
    split at h
    · rename_i hk
      have hk : k = .free := by simpa using hk
      rcases cloFrom_mem h with h | ⟨h1, h2⟩
      · rcases List.mem_cons.mp h with e | h
        · cases e; exact .inr ⟨hk ▸ List.mem_cons_self, rfl⟩
        · exact .inl h
      · exact .inr ⟨List.mem_cons_of_mem _ h1, h2⟩
    · rcases cloFrom_mem h with h | ⟨h1, h2⟩
      · exact .inl h
      · exact .inr ⟨List.mem_cons_of_mem _ h1, h2⟩
theorem cloFrom_acc {cells : List (Str × Addr)} : ∀ {names : List (Str × NameKind)} {acc : List (Str × Addr)} {p : Str × Addr}, p ∈ acc → p ∈ cloFrom cells names acc
  | [], _, _, h => h
  | (m, k) :: r, acc, p, h => by
    unfold cloFrom
    split
    · exact cloFrom_acc (List.mem_cons_of_mem _ h)
    · exact cloFrom_acc h
theorem cloFrom_has {cells : List (Str × Addr)} : ∀ {names : List (Str × NameKind)} {acc : List (Str × Addr)} {n : Str}, (n, .free) ∈ names → (n, (cells.lookup n).getD 0) ∈ cloFrom cells names acc
  | (m, k) :: r, acc, n, h => by
    unfold cloFrom
    rcases List.mem_cons.mp h with e | h
    · cases e
      exact cloFrom_acc List.mem_cons_self
    · split
      · exact cloFrom_has h
      · exact cloFrom_has h

theorem cells_mem : ∀ {names : List (Str × NameKind)} {h : Heap} {acc : List (Str × Addr)} {x : Str} {c : Addr}, (x, c) ∈ cellsFrom h.objs.size names acc →
    (x, c) ∈ acc ∨ ((x, .cell) ∈ names ∧ h.objs.size ≤ c ∧ CellAt (pushCells h names) c none)
  | [], _, _, _, _, h => .inl h
  | (n, k) :: r, h, acc, x, c, hm => by
    unfold cellsFrom at hm
    unfold pushCells
    split at hm
    · rename_i hk
      rw [if_pos hk]
      have hk : k = .cell := by simpa using hk
      rw [← Heap.size_push h { cls := .type "cell", data := .cell none }] at hm
      rcases cells_mem hm with hm | ⟨h1, h2, h3⟩
      · rcases List.mem_cons.mp hm with e | hm
        · cases e
          exact .inr ⟨hk ▸ List.mem_cons_self, Nat.le_refl _, _, pushCells_keeps r _ _ _ (Heap.get?_push_size _ rfl), rfl⟩
        · exact .inl hm
      · rw [Heap.size_push] at h2
        exact .inr ⟨List.mem_cons_of_mem _ h1, Nat.le_of_succ_le h2, h3⟩
    · rename_i hk
      rw [if_neg hk]
      rcases cells_mem hm with hm | ⟨h1, h2, h3⟩
      · exact .inl hm
      · exact .inr ⟨List.mem_cons_of_mem _ h1, h2, h3⟩
theorem cells_acc : ∀ {names : List (Str × NameKind)} {n : Nat} {acc : List (Str × Addr)} {p : Str × Addr}, p ∈ acc → p ∈ cellsFrom n names acc
  | [], _, _, _, h => h
  | (m, k) :: r, n, acc, p, h => by
    unfold cellsFrom
    split
    · exact cells_acc (List.mem_cons_of_mem _ h)
    · exact cells_acc h
theorem cells_has : ∀ {names : List (Str × NameKind)} {n : Nat} {acc : List (Str × Addr)} {x : Str}, (x, .cell) ∈ names → ∃ c, (x, c) ∈ cellsFrom n names acc
  | (m, k) :: r, n, acc, x, h => by
    unfold cellsFrom
    rcases List.mem_cons.mp h with e | h
    · cases e
      exact ⟨n, cells_acc List.mem_cons_self⟩
    · split
      · exact cells_has h
      · exact cells_has h
theorem cells_inj : ∀ {names : List (Str × NameKind)} {h : Heap} {acc : List (Str × Addr)} {x y : Str} {c : Addr}, (∀ p ∈ acc, p.2 < h.objs.size) → (∀ x y c, (x, c) ∈ acc → (y, c) ∈ acc → x = y) →
    (x, c) ∈ cellsFrom h.objs.size names acc → (y, c) ∈ cellsFrom h.objs.size names acc → x = y
  | [], _, _, _, _, _, _, hi, h1, h2 => hi _ _ _ h1 h2
  | (n, k) :: r, h, acc, x, y, c, hl, hi, h1, h2 => by
    unfold cellsFrom at h1 h2
    split at h1
    · rename_i hk
      rw [if_pos hk] at h2
      rw [← Heap.size_push h { cls := .type "cell", data := .cell none }] at h1 h2
      refine cells_inj (h := h.push _) (fun p hp => ?_) (fun x y c a b => ?_) h1 h2
      · rw [Heap.size_push]
        rcases List.mem_cons.mp hp with rfl | hp
        · exact Nat.lt_succ_self _
        · exact Nat.lt_succ_of_lt (hl p hp)
      · rcases List.mem_cons.mp a with e | a <;> rcases List.mem_cons.mp b with e' | b
        · cases e; cases e'; rfl
        · cases e; exact absurd (hl _ b) (Nat.lt_irrefl _)
        · cases e'; exact absurd (hl _ a) (Nat.lt_irrefl _)
        · exact hi _ _ _ a b
    · rename_i hk
      rw [if_neg hk] at h2
      exact cells_inj hl hi h1 h2

theorem newEnv_comp {M : Model} {A : Around} {E : Value → Shared → Prop} {s : Shared} {scope : Scope} {globals : Addr} {closure : List (Str × Addr)} {qual : Str} {func : Option Addr} {code : Value} {around : Env} {builtins : Addr} {Q : Env → Shared → Prop}
    (h : Q (newEnv scope s.heap.objs.size globals (cellsFrom (s.heap.objs.size + 1) scope.names closure) qual func code (some around) builtins)
      { s with heap := pushCells (s.heap.push { cls := .type "dict", data := .dict #[] }) scope.names }) :
    wpAny M A (newFunctionEnv scope globals closure [] qual func code (some around) builtins) Q E s := by
  simp only [newFunctionEnv, Option.isSome_some, if_true]
  refine wpAny_bind (wpAny_alloc ?_)
  refine wpAny_bind (wpAny_layCells _ (fun n k c => rfl) scope.names closure _ _ ?_)
  rw [show ({ s with heap := s.heap.push { cls := .type "dict", data := .dict #[] } } : Shared).heap.objs.size = s.heap.objs.size + 1 from Heap.size_push ..]
  rw [List.forIn_nil]
  exact wpAny_bind (wpAny_pure (wpAny_pure h))

/-- every name of the written scope, in the scope that runs -/
theorem lookup_relS {sc : Scope} : ∀ {names : List (Str × NameKind)} {x : Str} {k : NameKind},
    (names.map fun (n, k) => if (k == NameKind.free && sc.kind == .function && sc.names.lookup n == some .cell) then (n, NameKind.cell) else (n, k)).lookup x = some k →
    ∃ k', names.lookup x = some k' ∧ (k = k' ∨ (k' = .free ∧ k = .cell))
  | [], _, _, h => by simp at h
  | (n, k₀) :: r, x, k, h => by
    have ih := @lookup_relS sc r x k
    have h' : List.lookup x ((if (k₀ == NameKind.free && sc.kind == .function && sc.names.lookup n == some .cell) = true then (n, NameKind.cell) else (n, k₀)) :: (r.map _)) = some k := h
    cases hx : x == n with
    | true =>
      simp only [List.lookup_cons, hx]
      by_cases hc : (k₀ == NameKind.free && sc.kind == .function && sc.names.lookup n == some .cell) = true
      · rw [if_pos hc] at h'
        simp only [List.lookup_cons, hx] at h'
        cases h'
        simp only [Bool.and_eq_true, beq_iff_eq] at hc
        exact ⟨k₀, rfl, .inr ⟨hc.1.1, rfl⟩⟩
      · rw [if_neg hc] at h'
        simp only [List.lookup_cons, hx] at h'
        cases h'
        exact ⟨_, rfl, .inl rfl⟩
    | false =>
      simp only [List.lookup_cons, hx]
      by_cases hc : (k₀ == NameKind.free && sc.kind == .function && sc.names.lookup n == some .cell) = true
      · rw [if_pos hc] at h'
        simp only [List.lookup_cons, hx] at h'
        exact ih h'
      · rw [if_neg hc] at h'
        simp only [List.lookup_cons, hx] at h'
        exact ih h'
theorem lookup_relS_keep {sc : Scope} : ∀ {names : List (Str × NameKind)} {x : Str} {k : NameKind}, k ≠ .free → names.lookup x = some k →
    (names.map fun (n, k) => if (k == NameKind.free && sc.kind == .function && sc.names.lookup n == some .cell) then (n, NameKind.cell) else (n, k)).lookup x = some k
  | [], _, _, _, h => by simp at h
  | (n, k₀) :: r, x, k, hk, h => by
    have ih := @lookup_relS_keep sc r x k hk
    show List.lookup x ((if (k₀ == NameKind.free && sc.kind == .function && sc.names.lookup n == some .cell) = true then (n, NameKind.cell) else (n, k₀)) :: (r.map _)) = some k
    cases hx : x == n with
    | true =>
      simp only [List.lookup_cons, hx] at h
      cases h
      have : ¬ (k₀ == NameKind.free && sc.kind == .function && sc.names.lookup n == some .cell) = true := by simp [hk]
      rw [if_neg this]
      simp only [List.lookup_cons, hx]
    | false =>
      simp only [List.lookup_cons, hx] at h
      by_cases hc : (k₀ == NameKind.free && sc.kind == .function && sc.names.lookup n == some .cell) = true
      · rw [if_pos hc]; simp only [List.lookup_cons, hx]; exact ih h
      · rw [if_neg hc]; simp only [List.lookup_cons, hx]; exact ih h

theorem pushCells_size : ∀ (names : List (Str × NameKind)) (h : Heap), h.objs.size ≤ (pushCells h names).objs.size
  | [], _ => Nat.le_refl _
  | (_, k) :: r, h => by
    unfold pushCells
    split
    · refine Nat.le_trans ?_ (pushCells_size r _)
      rw [Heap.size_push]; exact Nat.le_succ _
    · exact pushCells_size r h


/-- the names of a comprehension's block: its own (with their places in N), or captured -/
structure BlkOk (N : List Str) (sc scope : Scope) (own : List (Str × Nat)) : Prop where
  kind : scope.kind = .function
  uniq : ∀ y ∈ scope.names, scope.names.lookup y.1 = some y.2
  ix : ∀ p ∈ own, N[p.2]? = some p.1
  free : ∀ y ∈ scope.names, y.2 = .free → sc.names.lookup y.1 = some .cell ∨ sc.names.lookup y.1 = some .free
  own : ∀ y ∈ scope.names, y.2 = .local ∨ y.2 = .cell → y.1 ∈ own.map (·.1) ∨ y.1 ∉ N
/-- the slots of the block's own names forgotten -/
def wipe (σ : St) : List Nat → St
  | [] => σ
  | v :: vs => (wipe σ vs).set v none
theorem wipe_length (σ : St) : ∀ vs : List Nat, (wipe σ vs).length = σ.length
  | [] => rfl
  | v :: vs => by unfold wipe; rw [List.length_set, wipe_length σ vs]
theorem wipe_some {σ : St} {i : Nat} {x : V} : ∀ {vs : List Nat}, (wipe σ vs)[i]? = some (some x) → σ[i]? = some (some x) ∧ i ∉ vs
  | [], h => ⟨h, by simp⟩
  | v :: vs, h => by
    unfold wipe at h
    by_cases hi : v = i
    · subst hi
      by_cases hv : v < (wipe σ vs).length
      · rw [List.getElem?_set_self hv] at h; cases h
      · rw [List.getElem?_eq_none (by simpa using hv)] at h; cases h
    · rw [List.getElem?_set_ne hi] at h
      obtain ⟨h1, h2⟩ := wipe_some h
      exact ⟨h1, by simp only [List.mem_cons, not_or]; exact ⟨fun e => hi e.symm, h2⟩⟩

/-- the context of a block that starts at s, its iterator's objects at fp -/
abbrev Cx.blk (X : Cx) (s : Shared) (H : Hp) (scope : Scope) (cenv : Env) (fp : List Addr) : Cx := { X with s_0 := s, H_0 := H, env := cenv, outer := X.stack, ex := fp, fn := fun x => scope.names.lookup x == some .cell, pn := [], xe := fun _ _ => False }
section
variable {X : Cx} {pins : List (Addr × Obj)} {σ : St} {H : Hp} {s : Shared}
theorem block_start {scope : Scope} {own : List (Str × Nat)} {fp : List Addr} (I : Inv X pins σ H s) (ok : BlkOk X.N X.env.scope scope own) (hN : X.N.Nodup) (hfp : ∀ b ∈ fp, FpOk X pins H b ∧ b < s.heap.objs.size) :
    Inv (X.blk s H scope (compEnvC scope (cellsFrom (s.heap.objs.size + 1) scope.names (cloFrom X.env.cells scope.names [])) s.heap.objs.size X.env) fp) [] (wipe σ (own.map (·.2))) H { s with heap := pushCells (s.heap.push { cls := .type "dict", data := .dict #[] }) scope.names } := by
  have hfree : ∀ y ∈ scope.names, y.2 = .free → ∃ c, X.env.cells.lookup y.1 = some c := fun y hy e => by
    rcases ok.free y hy e with k | k
    · exact I.ok.has _ (.inl k)
    · exact I.ok.has _ (.inr k)
  generalize hcenv : compEnvC scope (cellsFrom (s.heap.objs.size + 1) scope.names (cloFrom X.env.cells scope.names [])) s.heap.objs.size X.env = cenv
  have kp : ∀ b o, s.heap.get? b = some o → (pushCells (s.heap.push { cls := .type "dict", data := .dict #[] }) scope.names).get? b = some o := fun b o e => pushCells_keeps _ _ _ _ (Heap.get?_push_of_some _ e)
  have hL : cenv.locals = s.heap.objs.size := by rw [← hcenv]; rfl
  have hcl : cenv.cells = cellsFrom (s.heap.objs.size + 1) scope.names (cloFrom X.env.cells scope.names []) := by rw [← hcenv]; rfl
  have hsc : cenv.scope = relS scope X.env.scope := by rw [← hcenv]; rfl
  rw [← Heap.size_push s.heap { cls := .type "dict", data := .dict #[] }] at hcl
  have cm : ∀ {y c}, (y, c) ∈ cloFrom X.env.cells scope.names [] → X.env.cells.lookup y = some c ∧ c < s.heap.objs.size := fun {y c} hm => by
    rcases cloFrom_mem hm with hm | ⟨h1, rfl⟩
    · cases hm
    · obtain ⟨c, hc⟩ := hfree _ h1 rfl
      rw [hc]
      obtain ⟨w, z⟩ := I.cell _ _ hc
      exact ⟨rfl, z.lt⟩
  have mem : ∀ {y c}, cenv.cells.lookup y = some c → (X.env.cells.lookup y = some c ∧ c < s.heap.objs.size) ∨ (s.heap.objs.size + 1 ≤ c ∧ CellAt (pushCells (s.heap.push { cls := .type "dict", data := .dict #[] }) scope.names) c none) := fun {y c} e => by
    rw [hcl] at e
    rcases cells_mem (PySem.mem_of_lookup e) with hm | ⟨_, h2, h3⟩
    · exact .inl (cm hm)
    · rw [Heap.size_push] at h2; exact .inr ⟨h2, h3⟩
  have look : ∀ {y}, scope.names.lookup y = some .free → ∃ c, cenv.cells.lookup y = some c ∧ X.env.cells.lookup y = some c := fun {y} hl => by
    have hy : (y, NameKind.free) ∈ scope.names := PySem.mem_of_lookup hl
    obtain ⟨c', e'⟩ := mem_lookup (cells_acc (names := scope.names) (n := (s.heap.push { cls := .type "dict", data := .dict #[] }).objs.size) (cloFrom_has (cells := X.env.cells) (acc := []) hy))
    rw [← hcl] at e'
    refine ⟨c', e', ?_⟩
    rw [hcl] at e'
    rcases cells_mem (PySem.mem_of_lookup e') with hm | ⟨h1, _, _⟩
    · exact (cm hm).1
    · have := ok.uniq _ h1
      rw [hl] at this; cases this
  have okB : (X.blk s H scope cenv fp).Ok := by
    refine ⟨I.ok.mod, by show cenv.scope.kind = _; rw [hsc]; exact ok.kind, by show cenv.globals = _; rw [← hcenv]; exact I.ok.glob, by show cenv.builtins = _; rw [← hcenv]; exact I.ok.blt, by show s.heap.objs.size ≤ cenv.locals; rw [hL]; exact Nat.le_refl _,
      fun y z c e1 e2 => ?_, fun y hy => ?_, fun y c z e => ?_, I.ok.hd, I.ok.frames, .inl rfl, fun b hb => ⟨?_, fun y c e z => ?_⟩, I.bs, Nat.le_trans I.ok.bsz I.sz, fun b o e hb => ?_, fun b hb z => ?_, I.stack, I.stkFree⟩
    · have e1 : cenv.cells.lookup y = some c := e1
      have e2 : cenv.cells.lookup z = some c := e2
      rw [hcl] at e1 e2
      refine cells_inj (fun p hp => ?_) (fun y z c a b => I.ok.inj y z c (cm a).1 (cm b).1) (PySem.mem_of_lookup e1) (PySem.mem_of_lookup e2)
      rw [Heap.size_push]
      exact Nat.lt_succ_of_lt (cm (y := p.1) (c := p.2) hp).2
    · show ∃ c, cenv.cells.lookup y = some c
      have key : ∀ k, cenv.kindOf y = some k → (k = .cell ∨ k = .free) → ∃ c, cenv.cells.lookup y = some c := fun k hk hk' => by
        unfold Env.kindOf at hk
        rw [hsc] at hk
        obtain ⟨k', e, r⟩ := lookup_relS hk
        have : k' = .cell ∨ k' = .free := by
          rcases r with rfl | ⟨rfl, _⟩
          · exact hk'
          · exact .inr rfl
        rcases this with rfl | rfl
        · obtain ⟨c, hm⟩ := cells_has (n := (s.heap.push { cls := .type "dict", data := .dict #[] }).objs.size) (acc := cloFrom X.env.cells scope.names []) (PySem.mem_of_lookup e)
          obtain ⟨c', e'⟩ := mem_lookup hm
          exact ⟨c', by rw [hcl]; exact e'⟩
        · obtain ⟨c, h1, _⟩ := look e
          exact ⟨c, h1⟩
      rcases hy with hy | hy
      · exact key _ hy (.inl rfl)
      · exact key _ hy (.inr rfl)
    · have z : (scope.names.lookup y == some NameKind.cell) = true := z
      have z : scope.names.lookup y = some .cell := by simpa using z
      have e : cenv.cells.lookup y = some c := e
      rw [hcl] at e
      rcases cells_mem (PySem.mem_of_lookup e) with hm | ⟨_, h2, _⟩
      · rcases cloFrom_mem hm with hm | ⟨h1, _⟩
        · cases hm
        · have q := ok.uniq _ h1
          rw [z] at q; cases q
      · rw [Heap.size_push] at h2
        exact Nat.le_of_succ_le h2
    · show b ≠ cenv.locals
      rw [hL]; exact Nat.ne_of_lt (hfp b hb).2
    · have e : cenv.cells.lookup y = some c := e
      rcases mem e with ⟨h1, _⟩ | ⟨h1, _⟩
      · exact (hfp b hb).1.2.2.2.2.1 y c h1 z
      · have h2 : s.heap.objs.size + 1 ≤ b := by rw [← z]; exact h1
        exact absurd (Nat.lt_of_lt_of_le (hfp b hb).2 (Nat.le_of_succ_le h2)) (Nat.lt_irrefl _)
    · rcases (hfp b hb).1.2.2.2.1 with z | z
      · exact I.ok.noex b o e z
      · exact absurd (Nat.lt_of_lt_of_le (Heap.lt_size e) (Nat.le_trans I.ok.bsz z)) (Nat.lt_irrefl _)
    · rcases List.mem_cons.mp (I.stkSub b z) with z | z
      · exact (hfp b hb).1.2.1 z
      · exact (hfp b hb).1.2.2.1 z
  refine ⟨okB, rfl, I.bare, Un.kept kp, ⟨fun _ => none, ?_, fun i y av e1 e2 e3 => ?_⟩, fun y c e => ?_, ?_, fun y c e => ?_, fun p hp => ?_, I.hok.kept kp, by rw [wipe_length]; exact I.len⟩
  · show Heap.Ns _ cenv.locals _
    rw [hL]
    exact Heap.Ns.keeps (Heap.Ns.new ..) fun b o e => pushCells_keeps _ _ _ _ e
  · obtain ⟨e2, hne⟩ := wipe_some e2
    have hfr : scope.names.lookup y = some .free ∧ (cenv.kindOf y = some .cell ∨ cenv.kindOf y = some .free) := by
      have key : ∀ k, cenv.scope.names.lookup y = some k → k = .local ∨ k = .cell ∨ k = .free → scope.names.lookup y = some .free ∧ (cenv.kindOf y = some .cell ∨ cenv.kindOf y = some .free) := fun k hk hk' => by
        have hk0 := hk
        rw [hsc] at hk
        obtain ⟨k', e, r⟩ := lookup_relS hk
        have no : ¬ (k' = .local ∨ k' = .cell) := fun hh => by
          rcases ok.own _ (PySem.mem_of_lookup e) hh with e' | e'
          · obtain ⟨p, hp, hpy⟩ := List.mem_map.mp e'
            have e3 := ok.ix p hp
            have : p.1 = y := hpy
            rw [this] at e3
            exact hne (List.mem_map.mpr ⟨p, hp, nodup_ix hN e3 e1⟩)
          · exact e' (List.mem_of_getElem? e1)
        rcases r with rfl | ⟨rfl, rfl⟩
        · rcases hk' with rfl | rfl | rfl
          · exact absurd (.inl rfl) no
          · exact absurd (.inr rfl) no
          · exact ⟨e, .inr hk0⟩
        · exact ⟨e, .inl hk0⟩
      have e3 : Vis cenv.scope y := e3
      rcases e3 with e3 | e3 | e3
      · exact key _ e3 (.inl rfl)
      · exact key _ e3 (.inr (.inl rfl))
      · exact key _ e3 (.inr (.inr rfl))
    obtain ⟨m, hn, hl⟩ := I.loc
    have hvis : Vis X.env.scope y := (ok.free _ (PySem.mem_of_lookup hfr.1) rfl).elim (fun k => .inr (.inl k)) (fun k => .inr (.inr k))
    obtain ⟨w, r, q⟩ := hl i y av e1 e2 hvis
    refine ⟨w, r, .inr ⟨hfr.2, ?_⟩⟩
    obtain ⟨c, h1, h2⟩ := look hfr.1
    rcases q with ⟨k, _⟩ | ⟨_, c', e', z⟩
    · have k : X.env.scope.names.lookup y = some .local := k
      rcases ok.free _ (PySem.mem_of_lookup hfr.1) rfl with k' | k' <;> rw [show X.env.scope.names.lookup y = _ from k'] at k <;> cases k
    · rw [h2] at e'; cases e'
      exact ⟨c, h1, z.keeps kp⟩
  · have e : cenv.cells.lookup y = some c := e
    rcases mem e with ⟨h1, _⟩ | ⟨_, z⟩
    · obtain ⟨w, z⟩ := I.cell y c h1
      exact ⟨w, z.keeps kp⟩
    · exact ⟨_, z⟩
  · show H cenv.locals = none
    rw [hL]; exact I.hok.fresh (Nat.le_refl _)
  · have e : cenv.cells.lookup y = some c := e
    rcases mem e with ⟨h1, _⟩ | ⟨h1, _⟩
    · exact I.freeC y c h1
    · exact I.hok.fresh (Nat.le_of_succ_le h1)
  · exact absurd (show p ∈ ([] : List (Addr × Obj)) ++ [] from hp) (by simp)

/-- an item appended to a tracked list -/
theorem app_ok {E : Value → Shared → Prop} {D : Addr} {xs : List V} {y : V} {v : Value} {Q : Value → Shared → Prop} (I : Inv X pins σ H s) (hD : H D = some (.lst xs)) (hz : xs.length < sizeLine) (r : RelV y v)
    (h : ∀ s', Inv X pins σ (upd H D (.lst (xs ++ [y]))) s' → Q .none s') : wpAny (model X.prog X.w) X.A (call (.builtin "list.append") [.ref D, v]) Q E s := by
  obtain ⟨hz', its, n, ri, e⟩ := I.hok D _ hD
  have hl := ri.length
  refine append_at (hsz := by rw [List.size_toArray]; omega) e fun h' sb ho' => ?_
  refine h { s with heap := h' } (I.write (t' := s.toks) (by rw [hD]; trivial) (.inl rfl) (fun b u hb q => (sb.2 b hb).trans q) ⟨_, ho'⟩ ⟨by rw [List.length_append]; exact hz, its ++ [v], n + 1, ri.append (.cons r .nil), ?_⟩)
  rw [ho']
  simp

/-- a clause's tests -/
def PTs (X : Cx) (ifs : List Expr) (t : TT) : Prop :=
  ∀ (pins : List (Addr × Obj)) (s : Shared) (σ : St) (H : Hp) (Q : Bool → Hp → Prop), Inv X pins σ H s → t σ H Q →
    wpAny (model X.prog X.w) X.A (forIn ifs true fun c r => if r = true then do let ok ← isTrue c X.env (eval c X.env); pure (ForInStep.yield ok) else pure (ForInStep.yield r)) (TP X pins σ Q) X.xe s
def tYes : TT := fun _ H Q => Q true H
theorem pts_nil : PTs X [] tYes := fun _ _ _ H _ I h => wpAny_tests_nil ⟨H, I, h⟩
theorem pts_one {c : Expr} {t : TT} (h : PT X c t) : PTs X [c] t := fun pins s σ H Q I hw => wpAny_tests_one (h pins s σ H Q I hw)
end

theorem thnF {α : Type} {t : Sem α} {Q Q' : α → Shared → Prop} {M : Model} {A : Around} {E : Value → Shared → Prop} {s : Shared} (h : wpAny M A t Q (fun _ _ => False) s) (hQ : ∀ a s, Q a s → Q' a s) : wpAny M A t Q' E s := wpAny_mono h hQ fun _ _ z => False.elim z

/-- the loop of a list comprehension's block, the target of any form (codeAny_compLoop_tests asks a target that no tuple goes to; statement and proof follow it, PyProof/CompMap.lean:41-61, with the step letOwnedTupleGo kept) -/
theorem compLoop_any {prog : Program} {w : World} {A : Around} {R : Result → Shared → Prop} {s : Shared} {elt target iter : Expr} {ifs : List Expr} {scope : Scope} {pos : Pos} {it acc : Value} {env : Env} (I : Nat → Shared → Prop)
    (turn : ∀ n s, I n s → wpAny (model prog w) A (pyNext it) (fun r s₁ => match r with
      | none => R (.ok .next) s₁
      | some v => wpAny (model prog w) A (letOwnedTupleGo target it v) (fun _ s₁' => wpAny (model prog w) A (assign target env v) (fun _ s₂ =>
          wpAny (model prog w) A (forIn ifs true fun c r => if r = true then do let ok ← isTrue c env (eval c env); pure (ForInStep.yield ok) else pure (ForInStep.yield r)) (fun ok s₃ =>
            if ok = true then wpAny (model prog w) A (eval elt env) (fun x s₄ =>
              wpAny (model prog w) A (call (.builtin "list.append") [acc, x]) (fun _ s₅ => ∃ m, m < n ∧ I m s₅) (notedBy (model prog w) A env fun e s' => R (.error e) s') s₄) (notedBy (model prog w) A env fun e s' => R (.error e) s') s₃
            else ∃ m, m < n ∧ I m s₃) (notedBy (model prog w) A env fun e s' => R (.error e) s') s₂) (notedBy (model prog w) A env fun e s' => R (.error e) s') s₁') (notedBy (model prog w) A env fun e s' => R (.error e) s') s₁) (notedBy (model prog w) A env fun e s' => R (.error e) s') s)
    (n : Nat) (h : I n s) :
    codeAny (model prog w) A (.compLoop (.ListComp elt [⟨target, iter, ifs, 0⟩] scope pos) 0 it acc env) R s := by
  refine codeAny_loop rfl I (fun n s hI => ?_) n h
  show wpAny _ A ((compTurn (.ListComp elt [⟨target, iter, ifs, 0⟩] scope pos) 0 it acc env).onRaise (fun x => do noteFrame x env; theTreesLotGoes x)) _ _ s
  refine wpAny_noted ?_
  rw [compTurn_list]
  refine wpAny_bind (wpAny_standAt (wpAny_bind (wpAny_mono (turn n s hI) (fun r s₁ h₁ => ?_) fun _ _ h' => h')))
  cases r with
  | none => exact wpAny_pure h₁
  | some v =>
    refine wpAny_bind (wpAny_mono h₁ (fun _ s₁' h₁' => ?_) fun _ _ h' => h')
    refine wpAny_bind (wpAny_mono h₁' (fun _ s₂ h₂ => wpAny_bind (wpAny_mono h₂ (fun ok s₃ h₃ => ?_) fun _ _ h' => h')) fun _ _ h' => h')
    cases ok with
    | false => exact wpAny_pure ⟨rfl, h₃⟩
    | true =>
      exact wpAny_bind (wpAny_bind (wpAny_mono h₃ (fun x s₄ h₄ => wpAny_bind (wpAny_mono h₄ (fun _ s₅ h₅ => wpAny_pure (wpAny_pure ⟨rfl, h₅⟩)) fun _ _ h' => h')) fun _ _ h' => h'))

section
variable {X : Cx}
/-- [elt for target in iter if ..]: D the new list; W by the turn and a measure, Nx what a turn is to reach -/
def tLc (wi : TI) (g : TG) (tt : TT) (te : TE) (vs : List Nat) : TE := fun σ H Q => wi σ H fun J H1 => ∀ D, H1 D = none → ∃ W : Nat → Nat → Hp → Prop, (∃ m, W 0 m (upd H1 D (.lst []))) ∧ ∀ i m H, W i m H →
  (J.stop i H ∧ Q (.ref D) H) ∨ (J.go i H ∧ ∃ Nx : Hp → Prop, (∀ H', Nx H' → ∃ m', m' < m ∧ W (i + 1) m' H') ∧ ∀ x H', J.yld i H x H' → g x (wipe σ vs) H' fun σ2 H2 => wipe σ2 vs = wipe σ vs ∧ tt σ2 H2 fun b H3 =>
    if b = true then te σ2 H3 fun y H4 => ∃ acc, H4 D = some (.lst acc) ∧ acc.length < sizeLine ∧ Nx (upd H4 D (.lst (acc ++ [y]))) else Nx H3)
theorem lc_core {pins : List (Addr × Obj)} {s : Shared} {σ : St} {H : Hp} {Q : VK} {elt tg iter : Expr} {ifs : List Expr} {scope : Scope} {own : List (Str × Nat)} {pos pos' : Pos} {wi : TI} {g : TG} {tt : TT} {te : TE} {use : Option (Value → Sem Unit)} {Qf : Value → Shared → Prop}
    (hc : X.calm = true) (hN : X.N.Nodup) (I : Inv X pins σ H s) (hi : PI X tg iter wi) (ok : BlkOk X.N X.env.scope scope own)
    (hg : ∀ (s : Shared) (H : Hp) (C : Addr) (cl : List (Str × Addr)) (fp : List Addr), PG (X.blk s H scope (compEnvC scope cl C X.env) fp) tg g) (ht : ∀ (s : Shared) (H : Hp) (C : Addr) (cl : List (Str × Addr)) (fp : List Addr), PTs (X.blk s H scope (compEnvC scope cl C X.env) fp) ifs tt)
    (he : ∀ (s : Shared) (H : Hp) (C : Addr) (cl : List (Str × Addr)) (fp : List Addr), PE (X.blk s H scope (compEnvC scope cl C X.env) fp) elt te) (hs : ∀ x, foldedSetIterable iter X.env x = pure x)
    (h : tLc wi g tt te (own.map (·.2)) σ H Q)
    (hRR : ∀ D C s' m H', Inv X pins σ H' s' → Q (.ref D) H' → s'.heap.Ns C m → FpOk X pins H' C → compPost (model X.prog X.w) X.A X.xe use Qf (.ref D) C (.ok .next) s') :
    wpAny (model X.prog X.w) X.A (comprehension (.ListComp elt [⟨tg, iter, ifs, 0⟩] scope pos) scope X.env pos' (newList []) false (eval iter X.env) use) Qf X.xe s := by
  have hfree : ∀ y ∈ scope.names, y.2 = .free → ∃ c, X.env.cells.lookup y.1 = some c := fun y hy e => by
    rcases ok.free y hy e with k | k
    · exact I.ok.has _ (.inl k)
    · exact I.ok.has _ (.inr k)
  refine wpAny_comprehension_free (use := use) rfl hs (closure_ok hfree) ok.kind (fun y hy e => by rw [ok.uniq y hy, e])
    (thn (hi pins s σ H _ I h) fun xv s1 hx => thn hx fun itv s2 h2 => ?_)
  obtain ⟨it, fp, tn, J, H2, e, I2, T, st2, f2, q⟩ := h2
  subst e
  refine wpAny_newObj_type (newEnv_comp ?_) (by show 0 ≤ sizeLine; decide)
  generalize hD : s2.heap.objs.size = D
  have hDn : H2 D = none := I2.hok.fresh (Nat.le_of_eq hD)
  obtain ⟨W, ⟨m0, w0⟩, turn⟩ := q D hDn
  -- the new list
  generalize hs3 : ({ s2 with heap := s2.heap.push { cls := .type "list", data := .seq ([] : List Value).toArray } } : Shared) = s3
  have I3 : Inv X pins σ (upd H2 D (.lst [])) s3 := by
    rw [← hs3]
    refine I2.laid (t' := s2.toks) (fun b o e => Heap.get?_push_of_some _ e) (Nat.le_of_eq hD) ⟨Nat.zero_le _, [], 0, .nil, ?_⟩
    rw [← hD]
    exact Heap.get?_push_size _ rfl
  have h3 : s3.heap = s2.heap.push { cls := .type "list", data := .seq ([] : List Value).toArray } := by rw [← hs3]
  have sz : ∀ b ∈ fp, b < s2.heap.objs.size := fun b hb => by
    obtain ⟨o, e, _⟩ := T.obj _ _ st2 b hb
    exact Heap.lt_size e
  have f3 : ∀ b ∈ fp, FpOk X pins (upd H2 D (.lst [])) b ∧ b < s3.heap.objs.size := fun b hb => by
    have hlt := sz b hb
    refine ⟨⟨?_, (f2 b hb).2⟩, by rw [h3, Heap.size_push]; exact Nat.lt_succ_of_lt hlt⟩
    rw [upd_ne (by rw [← hD]; exact Nat.ne_of_lt hlt)]
    exact (f2 b hb).1
  have st3 : tn 0 s3.heap := T.keep _ _ _ st2 fun b _ o e => by rw [h3]; exact Heap.get?_push_of_some _ e
  have I4 := block_start I3 ok hN f3
  have pg := hg s3 (upd H2 D (.lst [])) s3.heap.objs.size (cellsFrom (s3.heap.objs.size + 1) scope.names (cloFrom X.env.cells scope.names [])) fp
  have pt := ht s3 (upd H2 D (.lst [])) s3.heap.objs.size (cellsFrom (s3.heap.objs.size + 1) scope.names (cloFrom X.env.cells scope.names [])) fp
  have pe := he s3 (upd H2 D (.lst [])) s3.heap.objs.size (cellsFrom (s3.heap.objs.size + 1) scope.names (cloFrom X.env.cells scope.names [])) fp
  show codeAny _ _ (.compStart (.ListComp elt [⟨tg, iter, ifs, 0⟩] scope pos) 0 (.ref it) (.ref D) (compEnvC scope (cellsFrom (s3.heap.objs.size + 1) scope.names (cloFrom X.env.cells scope.names [])) s3.heap.objs.size X.env)) (compPost (model X.prog X.w) X.A X.xe use Qf (.ref D) s3.heap.objs.size) { s3 with heap := pushCells (s3.heap.push { cls := .type "dict", data := .dict #[] }) scope.names }
  have nfp : ∀ b ∈ fp, (upd H2 D (.lst [])) b = none := fun b hb => (f3 b hb).1.1
  generalize hce : compEnvC scope (cellsFrom (s3.heap.objs.size + 1) scope.names (cloFrom X.env.cells scope.names [])) s3.heap.objs.size X.env = ce at I4 pg pt pe ⊢
  have cL : ce.locals = s3.heap.objs.size := by subst hce; rfl
  generalize hH3 : upd H2 D (.lst []) = H3 at I3 I4 pg pt pe w0 nfp f3
  generalize hs4 : ({ s3 with heap := pushCells (s3.heap.push { cls := .type "dict", data := .dict #[] }) scope.names } : Shared) = s4 at I4 ⊢
  have st4 : tn 0 s4.heap := T.keep _ _ _ st3 fun b _ o e => by rw [← hs4]; exact pushCells_keeps _ _ _ _ (Heap.get?_push_of_some _ e)
  have stat : ∀ {σ' : St} {H' : Hp} {s' : Shared}, Inv (X.blk s3 H3 scope ce fp) [] σ' H' s' → (∀ b ∈ fp, H' b = none) → ∀ b ∈ fp, FpOk (X.blk s3 H3 scope ce fp) [] H' b := fun {σ' H' s'} I' hn b hb =>
    ⟨hn b hb, (I'.ok.exf b hb).1, I'.ok.exfs b hb, .inl hb, fun x c e => (I'.ok.exf b hb).2 x c e, fun p hp => absurd (show p ∈ ([] : List (Addr × Obj)) ++ [] from hp) (by simp)⟩
  have loop : codeAny (model X.prog X.w) X.A (.compLoop (.ListComp elt [⟨tg, iter, ifs, 0⟩] scope pos) 0 (.ref it) (.ref D) ce) (compPost (model X.prog X.w) X.A X.xe use Qf (.ref D) s3.heap.objs.size) s4 := by
    refine compLoop_any (fun n s' => ∃ i H', Inv (X.blk s3 H3 scope ce fp) [] (wipe σ (own.map (·.2))) H' s' ∧ tn i s'.heap ∧ (∀ b ∈ fp, H' b = none) ∧ W i n H') ?_ m0 ⟨0, H3, I4, st4, nfp, w0⟩
    rintro n s5 ⟨i, H5, I5, st5, n5, w5⟩
    rcases turn i n H5 w5 with ⟨stop, qq⟩ | ⟨go, Nx, hNx, step⟩
    · have td := T.done (X.blk s3 H3 scope ce fp) rfl rfl rfl hc i [] s5 _ H5 (fun _ _ => False) I5 (stat I5 n5) st5 stop
      refine thnF td fun r s6 ⟨hr, I6⟩ => ?_
      subst hr
      -- back in the def's context
      have I7 : Inv X pins σ H5 s6 := I3.call' (ch := fp) I6.os I6.base I6.hok I6.bare fun b hb => ⟨(f3 b hb).1.2.2.2.1, (f3 b hb).1.2.1, (f3 b hb).1.2.2.2.2.1, (f3 b hb).1.2.2.2.2.2⟩
      have nC : H5 s3.heap.objs.size = none := by
        have z : H5 ce.locals = none := I6.free
        rw [cL] at z
        exact z
      obtain ⟨m, hn, _⟩ := I6.loc
      have hn : s6.heap.Ns ce.locals m := hn
      rw [cL] at hn
      exact hRR D s3.heap.objs.size s6 m H5 I7 qq hn (I3.fpOk (Nat.le_refl _) nC)
    · have ti := T.item (X.blk s3 H3 scope ce fp) rfl rfl rfl hc i [] s5 _ H5 (fun _ _ => False) I5 (stat I5 n5) st5 go
      refine thnF ti fun r s6 ⟨u, hr, h6⟩ => ?_
      subst hr
      refine thnF h6 fun _ s7 ⟨x, H7, I7, r7, y7, st7, n7⟩ => ?_
      have I7' := I7.pinned (stat I7 n7) (T.obj _ _ st7)
      refine thnF (pg _ s7 _ H7 x u _ I7' r7 (step x H7 y7)) fun _ s8 ⟨σ8, H8, I8, hw8, q8⟩ => ?_
      refine thnF (pt _ s8 σ8 H8 _ I8 q8) fun b s9 ⟨H9, I9, q9⟩ => ?_
      -- the turn's end
      have fin : ∀ {s' : Shared} {H' : Hp}, Inv (X.blk s3 H3 scope ce fp) ([] ++ pinsAt fp s7.heap) σ8 H' s' → Nx H' → ∃ m, m < n ∧ ∃ i H', Inv (X.blk s3 H3 scope ce fp) [] (wipe σ (own.map (·.2))) H' s' ∧ tn i s'.heap ∧ (∀ b ∈ fp, H' b = none) ∧ W i m H' := fun {s' H'} I' nx => by
        obtain ⟨m', hm, w'⟩ := hNx H' nx
        have pin' : ∀ b ∈ fp, ∀ o, s7.heap.get? b = some o → s'.heap.get? b = some o ∧ H' b = none := fun b hb o e =>
          let z := I'.pin (b, o) (List.mem_append_right _ (List.mem_append_right _ (mem_pinsAt hb e)))
          ⟨z.1, z.2.1⟩
        have hl : (wipe σ (own.map (·.2))).length = σ8.length := by rw [← hw8, wipe_length]
        refine ⟨m', hm, i + 1, H', (I'.unpinned (pins := [])).weak hl (fun j v e => ?_), T.keep _ _ _ st7 fun b hb o e => (pin' b hb o e).1, fun b hb => ?_, w'⟩
        · rw [← hw8] at e
          exact (wipe_some e).1
        · obtain ⟨o, e, _⟩ := T.obj _ _ st7 b hb
          exact (pin' b hb o e).2
      cases b with
      | false =>
        simp only [Bool.false_eq_true, if_false] at q9 ⊢
        exact fin I9 q9
      | true =>
        simp only [if_true] at q9 ⊢
        refine thnF (pe _ s9 σ8 H9 _ I9 q9) fun z s10 ⟨yv, H10, I10, r10, acc, hD10, hz10, nx⟩ => ?_
        exact app_ok (X := X.blk s3 H3 scope ce fp) I10 hD10 hz10 r10 fun s11 I11 => fin I11 nx
  exact codeAny_compStart_list loop (T.self X.A 0 _ _ _ st4 loop)
/-- as a value -/
theorem pe_lc {elt tg iter : Expr} {ifs : List Expr} {scope : Scope} {own : List (Str × Nat)} {pos : Pos} {wi : TI} {g : TG} {tt : TT} {te : TE} (hc : X.calm = true) (hN : X.N.Nodup) (hi : PI X tg iter wi) (ok : BlkOk X.N X.env.scope scope own)
    (hg : ∀ (s : Shared) (H : Hp) (C : Addr) (cl : List (Str × Addr)) (fp : List Addr), PG (X.blk s H scope (compEnvC scope cl C X.env) fp) tg g) (ht : ∀ (s : Shared) (H : Hp) (C : Addr) (cl : List (Str × Addr)) (fp : List Addr), PTs (X.blk s H scope (compEnvC scope cl C X.env) fp) ifs tt)
    (he : ∀ (s : Shared) (H : Hp) (C : Addr) (cl : List (Str × Addr)) (fp : List Addr), PE (X.blk s H scope (compEnvC scope cl C X.env) fp) elt te) (hs : ∀ x, foldedSetIterable iter X.env x = pure x := by intro _; rfl) :
    PE X (.ListComp elt [⟨tg, iter, ifs, 0⟩] scope pos) (tLc wi g tt te (own.map (·.2))) := by
  intro pins s σ H Q I h
  rw [eval_ListComp]
  refine lc_core hc hN I hi ok hg ht he hs h fun D C s' m H' I' q hn f => ⟨m, hn, fun h'' sb => ?_⟩
  obtain ⟨f0, f1, f2, f3, f4, f5⟩ := f
  exact ⟨.ref D, H', I'.turned (t' := s'.toks) (fun b o hb e => (sb.2 b hb).trans e) f0 f1 f3 f4 f5, rfl, q⟩
/-- name = [..] on one line, the name a local -/
theorem ps_setLc {i : Nat} {y : Str} {py : Pos} {elt tg iter : Expr} {ifs : List Expr} {scope : Scope} {own : List (Str × Nat)} {pos spos : Pos} {wi : TI} {g : TG} {tt : TT} {te : TE} (hc : X.calm = true) (hN : X.N.Nodup) (hy : X.N[i]? = some y) (hyl : X.env.scope.names.lookup y = some .local)
    (hsw : swapsWith (.ListComp elt [⟨tg, iter, ifs, 0⟩] scope pos) (some (.Name y py)) spos.line X.env = pure true) (hi : PI X tg iter wi) (ok : BlkOk X.N X.env.scope scope own)
    (hg : ∀ (s : Shared) (H : Hp) (C : Addr) (cl : List (Str × Addr)) (fp : List Addr), PG (X.blk s H scope (compEnvC scope cl C X.env) fp) tg g) (ht : ∀ (s : Shared) (H : Hp) (C : Addr) (cl : List (Str × Addr)) (fp : List Addr), PTs (X.blk s H scope (compEnvC scope cl C X.env) fp) ifs tt)
    (he : ∀ (s : Shared) (H : Hp) (C : Addr) (cl : List (Str × Addr)) (fp : List Addr), PE (X.blk s H scope (compEnvC scope cl C X.env) fp) elt te) (hs : ∀ x, foldedSetIterable iter X.env x = pure x := by intro _; rfl) :
    PS X (.Assign [.Name y py] (.ListComp elt [⟨tg, iter, ifs, 0⟩] scope pos) spos) (tAsg (tLc wi g tt te (own.map (·.2))) (gName i)) := by
  intro pins s σ H D I h
  rw [exec_Assign_Name_used _ _ _ _ hsw]
  refine wpAny_bind (wpAny_standAt (wpAny_bind ?_))
  show wpAny _ X.A (do let _ ← comprehension (.ListComp elt [⟨tg, iter, ifs, 0⟩] scope pos) scope X.env (firstIterPos [⟨tg, iter, ifs, 0⟩] pos) (newList []) false (eval iter X.env) (some (assign (.Name y py) X.env))) _ _ s
  have h : tLc wi g tt te (own.map (·.2)) σ H (fun x H1 => gName i x σ H1 D.nx) := h
  refine wpAny_bind (thn (lc_core (Qf := fun _ s' => SP X pins D .next s') hc hN I hi ok hg ht he hs h fun L C s' m H' I' q hn f => ?_) fun _ s' hq => wpAny_pure (wpAny_pure hq))
  show wpAny _ _ (assign (.Name y py) X.env (.ref L)) _ _ _
  refine wpAny_assign_Name (store_ok2 (v := V.ref L) I' hN hy (.inl hyl) rfl (fun s2 I2 ⟨a, sb, ha⟩ => ?_) (.inr hyl))
  obtain ⟨f0, f1, f2, f3, f4, f5⟩ := f
  have haC : C ≠ a := by
    rcases ha with z | z
    · rw [z]; exact f1
    · exact fun e => f4 y a z e.symm
  refine ⟨m, hn.sameBut sb haC, fun h3 sb3 => ?_⟩
  exact ⟨_, H', I2.turned (t' := s2.toks) (fun b o hb e => (sb3.2 b hb).trans e) f0 f1 f3 f4 f5, q⟩
theorem sw_true {elt : Expr} {gs : List Comprehension} {scope : Scope} {pos py : Pos} {y : Str} {l : Nat} {env : Env} (hk : env.scope.kind = .function) (hy : env.scope.names.lookup y = some .local) (hl : (py.line == pos.line) = true)
    (ha : (scope.names.any fun (n, k) => n == y && (k == .local || k == .cell)) = false) : swapsWith (.ListComp elt gs scope pos) (some (.Name y py)) l env = pure true := by
  have ky : env.kindOf y = some .local := hy
  have hb : env.blockKind = .function := by unfold Env.blockKind; rw [hk]; rfl
  unfold swapsWith
  simp only [hb, ky, ha, Expr.pos, hl]
  rfl
end

/-! ### the forms one uses -/
/-- over a range: Pv by the turn and the heap (the new list at D within) -/
theorem lc_range {lo : Int} {n : Nat} {g : TG} {tt : TT} {te : TE} {vs : List Nat} {σ : St} {H1 : Hp} {D : Addr} {Qd : Hp → Prop} (Pv : Nat → Hp → Prop) (h0 : Pv 0 (upd H1 D (.lst [])))
    (hs : ∀ i H, i < n → Pv i H → g (.int (lo + i)) (wipe σ vs) H fun σ2 H2 => wipe σ2 vs = wipe σ vs ∧ tt σ2 H2 fun b H3 =>
      if b = true then te σ2 H3 fun y H4 => ∃ acc, H4 D = some (.lst acc) ∧ acc.length < sizeLine ∧ Pv (i + 1) (upd H4 D (.lst (acc ++ [y]))) else Pv (i + 1) H3) (hd : ∀ H, Pv n H → Qd H) :
    ∃ W : Nat → Nat → Hp → Prop, (∃ m, W 0 m (upd H1 D (.lst []))) ∧ ∀ i m H, W i m H →
      ((Itr lo n).stop i H ∧ Qd H) ∨ ((Itr lo n).go i H ∧ ∃ Nx : Hp → Prop, (∀ H', Nx H' → ∃ m', m' < m ∧ W (i + 1) m' H') ∧ ∀ x H', (Itr lo n).yld i H x H' → g x (wipe σ vs) H' fun σ2 H2 => wipe σ2 vs = wipe σ vs ∧ tt σ2 H2 fun b H3 =>
        if b = true then te σ2 H3 fun y H4 => ∃ acc, H4 D = some (.lst acc) ∧ acc.length < sizeLine ∧ Nx (upd H4 D (.lst (acc ++ [y]))) else Nx H3) := by
  refine ⟨fun i m H => m = n - i ∧ i ≤ n ∧ Pv i H, ⟨n, by simp, Nat.zero_le _, h0⟩, ?_⟩
  rintro i m H ⟨rfl, hi, p⟩
  by_cases hlt : i < n
  · refine .inr ⟨hlt, Pv (i + 1), fun H' p' => ⟨n - (i + 1), by omega, rfl, hlt, p'⟩, fun x H' y => ?_⟩
    obtain ⟨e, y⟩ := y
    subst e y
    exact hs i _ hlt p
  · have e : i = n := by omega
    subst e
    exact .inl ⟨Nat.le_refl _, hd H p⟩
/-- over a list that the block leaves as it is -/
theorem lc_list {K : PySem.W.Frag} {a : Addr} {xs : List V} {g : TG} {tt : TT} {te : TE} {vs : List Nat} {σ : St} {H1 : Hp} {D : Addr} {Qd : Hp → Prop} (Pv : Nat → Hp → Prop) (h0 : Pv 0 (upd H1 D (.lst []))) (hl : ∀ i H, i ≤ xs.length → Pv i H → SqL K H a xs)
    (hs : ∀ i x H, xs[i]? = some x → Pv i H → g x (wipe σ vs) H fun σ2 H2 => wipe σ2 vs = wipe σ vs ∧ tt σ2 H2 fun b H3 =>
      if b = true then te σ2 H3 fun y H4 => ∃ acc, H4 D = some (.lst acc) ∧ acc.length < sizeLine ∧ Pv (i + 1) (upd H4 D (.lst (acc ++ [y]))) else Pv (i + 1) H3) (hd : ∀ H, Pv xs.length H → Qd H) :
    ∃ W : Nat → Nat → Hp → Prop, (∃ m, W 0 m (upd H1 D (.lst []))) ∧ ∀ i m H, W i m H →
      ((Itl K a).stop i H ∧ Qd H) ∨ ((Itl K a).go i H ∧ ∃ Nx : Hp → Prop, (∀ H', Nx H' → ∃ m', m' < m ∧ W (i + 1) m' H') ∧ ∀ x H', (Itl K a).yld i H x H' → g x (wipe σ vs) H' fun σ2 H2 => wipe σ2 vs = wipe σ vs ∧ tt σ2 H2 fun b H3 =>
        if b = true then te σ2 H3 fun y H4 => ∃ acc, H4 D = some (.lst acc) ∧ acc.length < sizeLine ∧ Nx (upd H4 D (.lst (acc ++ [y]))) else Nx H3) := by
  refine ⟨fun i m H => m = xs.length - i ∧ i ≤ xs.length ∧ Pv i H, ⟨xs.length, by simp, Nat.zero_le _, h0⟩, ?_⟩
  rintro i m H ⟨rfl, hi, p⟩
  have q := hl i H hi p
  by_cases hlt : i < xs.length
  · refine .inr ⟨⟨xs, xs[i], q, by simp [hlt]⟩, Pv (i + 1), fun H' p' => ⟨xs.length - (i + 1), by omega, rfl, hlt, p'⟩, fun x H' y => ?_⟩
    obtain ⟨e, y⟩ := y
    subst e
    exact hs i x _ (y xs q) p
  · have e : i = xs.length := by omega
    subst e
    exact .inl ⟨⟨xs, q, Nat.le_refl _⟩, hd H p⟩
/-- over a tuple -/
theorem lc_tup {K : PySem.W.Frag} {a : Addr} {xs : List V} {g : TG} {tt : TT} {te : TE} {vs : List Nat} {σ : St} {H1 : Hp} {D : Addr} {Qd : Hp → Prop} (Pv : Nat → Hp → Prop) (h0 : Pv 0 (upd H1 D (.lst []))) (hl : ∀ i H, i ≤ xs.length → Pv i H → SqT K H a xs)
    (hs : ∀ i x H, xs[i]? = some x → Pv i H → g x (wipe σ vs) H fun σ2 H2 => wipe σ2 vs = wipe σ vs ∧ tt σ2 H2 fun b H3 =>
      if b = true then te σ2 H3 fun y H4 => ∃ acc, H4 D = some (.lst acc) ∧ acc.length < sizeLine ∧ Pv (i + 1) (upd H4 D (.lst (acc ++ [y]))) else Pv (i + 1) H3) (hd : ∀ H, Pv xs.length H → Qd H) :
    ∃ W : Nat → Nat → Hp → Prop, (∃ m, W 0 m (upd H1 D (.lst []))) ∧ ∀ i m H, W i m H →
      ((Itt K a).stop i H ∧ Qd H) ∨ ((Itt K a).go i H ∧ ∃ Nx : Hp → Prop, (∀ H', Nx H' → ∃ m', m' < m ∧ W (i + 1) m' H') ∧ ∀ x H', (Itt K a).yld i H x H' → g x (wipe σ vs) H' fun σ2 H2 => wipe σ2 vs = wipe σ vs ∧ tt σ2 H2 fun b H3 =>
        if b = true then te σ2 H3 fun y H4 => ∃ acc, H4 D = some (.lst acc) ∧ acc.length < sizeLine ∧ Nx (upd H4 D (.lst (acc ++ [y]))) else Nx H3) := by
  refine ⟨fun i m H => m = xs.length - i ∧ i ≤ xs.length ∧ Pv i H, ⟨xs.length, by simp, Nat.zero_le _, h0⟩, ?_⟩
  rintro i m H ⟨rfl, hi, p⟩
  have q := hl i H hi p
  by_cases hlt : i < xs.length
  · refine .inr ⟨⟨xs, xs[i], q, by simp [hlt]⟩, Pv (i + 1), fun H' p' => ⟨xs.length - (i + 1), by omega, rfl, hlt, p'⟩, fun x H' y => ?_⟩
    obtain ⟨e, y⟩ := y
    subst e
    exact hs i x _ (y xs q) p
  · have e : i = xs.length := by omega
    subst e
    exact .inl ⟨⟨xs, q, Nat.le_refl _⟩, hd H p⟩
def blkC (N : List Str) (sc scope : Scope) (own : List (Str × Nat)) : Bool :=
  (match scope.kind with | .function => true | _ => false) && (scope.names.all fun y => decide (scope.names.lookup y.1 = some y.2)) && (own.all fun p => decide (N[p.2]? = some p.1)) &&
    (scope.names.all fun y => match y.2 with
      | .free => (match sc.names.lookup y.1 with | some .cell => true | some .free => true | _ => false)
      | .local => decide (y.1 ∈ own.map (·.1)) || decide (y.1 ∉ N)
      | .cell => decide (y.1 ∈ own.map (·.1)) || decide (y.1 ∉ N)
      | _ => true)
theorem blkOk_by {N : List Str} {sc scope : Scope} {own : List (Str × Nat)} (h : blkC N sc scope own = true) : BlkOk N sc scope own := by
  unfold blkC at h
  simp only [Bool.and_eq_true, List.all_eq_true, decide_eq_true_eq] at h
  obtain ⟨⟨⟨h1, h2⟩, h3⟩, h4⟩ := h
  refine ⟨?_, h2, h3, fun y hy e => ?_, fun y hy e => ?_⟩
  · split at h1
    · assumption
    · cases h1
  · have q := h4 y hy
    simp only [e] at q
    split at q <;> first | exact .inl (by assumption) | exact .inr (by assumption) | cases q
  · have q := h4 y hy
    rcases e with e | e <;> (simp only [e, Bool.or_eq_true, decide_eq_true_eq] at q; exact q)
end L2

namespace L2
open PySem PySem.Spec PyProof.Rows

theorem compTurn2_out (elt t0 i0 t1 i1 : Expr) (ifs0 ifs1 : List Expr) (scope : Scope) (pos : Pos) (it acc : Value) (env : Env) :
    compTurn (.ListComp elt [⟨t0, i0, ifs0, 0⟩, ⟨t1, i1, ifs1, 0⟩] scope pos) 0 it acc env = (do
      standAt i0.pos
      match ← pyNext it with
      | none => pure (.done .next)
      | some v =>
        letOwnedTupleGo t0 it v
        assign t0 env v
        let mut ok := true
        for c in ifs0 do
          if ok then ok ← isTrue c env (eval c env)
        if ok then
          let x ← eval i1 env
          standAt i1.pos
          let x ← foldedSetIterable i1 env x
          let _ ← runOwn (.compStart (.ListComp elt [⟨t0, i0, ifs0, 0⟩, ⟨t1, i1, ifs1, 0⟩] scope pos) 1 (← holding [x] (pyIter x)) acc env) env
        again (.compLoop (.ListComp elt [⟨t0, i0, ifs0, 0⟩, ⟨t1, i1, ifs1, 0⟩] scope pos) 0 it acc env)) := by rfl
theorem compTurn2_in (elt t0 i0 t1 i1 : Expr) (ifs0 ifs1 : List Expr) (scope : Scope) (pos : Pos) (it acc : Value) (env : Env) :
    compTurn (.ListComp elt [⟨t0, i0, ifs0, 0⟩, ⟨t1, i1, ifs1, 0⟩] scope pos) 1 it acc env = (do
      standAt i1.pos
      match ← pyNext it with
      | none => pure (.done .next)
      | some v =>
        letOwnedTupleGo t1 it v
        assign t1 env v
        let mut ok := true
        for c in ifs1 do
          if ok then ok ← isTrue c env (eval c env)
        if ok then
          (do let _ ← call (.builtin "list.append") [acc, ← eval elt env])
        again (.compLoop (.ListComp elt [⟨t0, i0, ifs0, 0⟩, ⟨t1, i1, ifs1, 0⟩] scope pos) 1 it acc env)) := by rfl

section
variable {prog : Program} {w : World} {A : Around} {R : Result → Shared → Prop} {s : Shared} {elt t0 i0 t1 i1 : Expr} {ifs0 ifs1 : List Expr} {scope : Scope} {pos : Pos} {it acc : Value} {env : Env}
/-- the loop of the first clause -/
theorem compLoop2_out (hs : ∀ x, foldedSetIterable i1 env x = pure x) (I : Nat → Shared → Prop)
    (turn : ∀ n s, I n s → wpAny (model prog w) A (pyNext it) (fun r s₁ => match r with
      | none => R (.ok .next) s₁
      | some v => wpAny (model prog w) A (letOwnedTupleGo t0 it v) (fun _ s₁' => wpAny (model prog w) A (assign t0 env v) (fun _ s₂ =>
          wpAny (model prog w) A (forIn ifs0 true fun c r => if r = true then do let ok ← isTrue c env (eval c env); pure (ForInStep.yield ok) else pure (ForInStep.yield r)) (fun ok s₃ =>
            if ok = true then wpAny (model prog w) A (eval i1 env) (fun x s₄ => wpAny (model prog w) A (pyIter x) (fun it1 s₅ =>
              codeAny (model prog w) A (.compStart (.ListComp elt [⟨t0, i0, ifs0, 0⟩, ⟨t1, i1, ifs1, 0⟩] scope pos) 1 it1 acc env) (fun r s' => match r with
                | .ok _ => ∃ m, m < n ∧ I m s'
                | .error _ => False) s₅) (notedBy (model prog w) A env fun e s' => R (.error e) s') s₄) (notedBy (model prog w) A env fun e s' => R (.error e) s') s₃
            else ∃ m, m < n ∧ I m s₃) (notedBy (model prog w) A env fun e s' => R (.error e) s') s₂) (notedBy (model prog w) A env fun e s' => R (.error e) s') s₁') (notedBy (model prog w) A env fun e s' => R (.error e) s') s₁) (notedBy (model prog w) A env fun e s' => R (.error e) s') s)
    (n : Nat) (h : I n s) :
    codeAny (model prog w) A (.compLoop (.ListComp elt [⟨t0, i0, ifs0, 0⟩, ⟨t1, i1, ifs1, 0⟩] scope pos) 0 it acc env) R s := by
  refine codeAny_loop rfl I (fun n s hI => ?_) n h
  show wpAny _ A ((compTurn (.ListComp elt [⟨t0, i0, ifs0, 0⟩, ⟨t1, i1, ifs1, 0⟩] scope pos) 0 it acc env).onRaise (fun x => do noteFrame x env; theTreesLotGoes x)) _ _ s
  refine wpAny_noted ?_
  rw [compTurn2_out]
  refine wpAny_bind (wpAny_standAt (wpAny_bind (wpAny_mono (turn n s hI) (fun r s₁ h₁ => ?_) fun _ _ h' => h')))
  cases r with
  | none => exact wpAny_pure h₁
  | some v =>
    refine wpAny_bind (wpAny_mono h₁ (fun _ s₁' h₁' => ?_) fun _ _ h' => h')
    refine wpAny_bind (wpAny_mono h₁' (fun _ s₂ h₂ => wpAny_bind (wpAny_mono h₂ (fun ok s₃ h₃ => ?_) fun _ _ h' => h')) fun _ _ h' => h')
    cases ok with
    | false => exact wpAny_pure ⟨rfl, h₃⟩
    | true =>
      refine wpAny_bind (wpAny_mono h₃ (fun x s₄ h₄ => ?_) fun _ _ h' => h')
      refine wpAny_bind (wpAny_standAt (wpAny_bind (wpAny_of_eq (hs x) (wpAny_bind (wpAny_holding (wpAny_mono h₄ (fun it1 s₅ h₅ => ?_) fun _ _ h' => h'))))))
      refine wpAny_bind (wpAny_runOwn ?_)
      rw [Around.mark_none]
      refine codeAny_mono h₅ fun r s' hr => ?_
      cases r with
      | ok f =>
        first
          | exact wpAny_pure ⟨rfl, hr⟩
          | exact wpAny_bind (wpAny_pure (wpAny_pure ⟨rfl, hr⟩))
      | error e => exact hr.elim
/-- the loop of the second -/
theorem compLoop2_in (I : Nat → Shared → Prop)
    (turn : ∀ n s, I n s → wpAny (model prog w) A (pyNext it) (fun r s₁ => match r with
      | none => R (.ok .next) s₁
      | some v => wpAny (model prog w) A (letOwnedTupleGo t1 it v) (fun _ s₁' => wpAny (model prog w) A (assign t1 env v) (fun _ s₂ =>
          wpAny (model prog w) A (forIn ifs1 true fun c r => if r = true then do let ok ← isTrue c env (eval c env); pure (ForInStep.yield ok) else pure (ForInStep.yield r)) (fun ok s₃ =>
            if ok = true then wpAny (model prog w) A (eval elt env) (fun x s₄ =>
              wpAny (model prog w) A (call (.builtin "list.append") [acc, x]) (fun _ s₅ => ∃ m, m < n ∧ I m s₅) (notedBy (model prog w) A env fun e s' => R (.error e) s') s₄) (notedBy (model prog w) A env fun e s' => R (.error e) s') s₃
            else ∃ m, m < n ∧ I m s₃) (notedBy (model prog w) A env fun e s' => R (.error e) s') s₂) (notedBy (model prog w) A env fun e s' => R (.error e) s') s₁') (notedBy (model prog w) A env fun e s' => R (.error e) s') s₁) (notedBy (model prog w) A env fun e s' => R (.error e) s') s)
    (n : Nat) (h : I n s) :
    codeAny (model prog w) A (.compLoop (.ListComp elt [⟨t0, i0, ifs0, 0⟩, ⟨t1, i1, ifs1, 0⟩] scope pos) 1 it acc env) R s := by
  refine codeAny_loop rfl I (fun n s hI => ?_) n h
  show wpAny _ A ((compTurn (.ListComp elt [⟨t0, i0, ifs0, 0⟩, ⟨t1, i1, ifs1, 0⟩] scope pos) 1 it acc env).onRaise (fun x => do noteFrame x env; theTreesLotGoes x)) _ _ s
  refine wpAny_noted ?_
  rw [compTurn2_in]
  refine wpAny_bind (wpAny_standAt (wpAny_bind (wpAny_mono (turn n s hI) (fun r s₁ h₁ => ?_) fun _ _ h' => h')))
  cases r with
  | none => exact wpAny_pure h₁
  | some v =>
    refine wpAny_bind (wpAny_mono h₁ (fun _ s₁' h₁' => ?_) fun _ _ h' => h')
    refine wpAny_bind (wpAny_mono h₁' (fun _ s₂ h₂ => wpAny_bind (wpAny_mono h₂ (fun ok s₃ h₃ => ?_) fun _ _ h' => h')) fun _ _ h' => h')
    cases ok with
    | false => exact wpAny_pure ⟨rfl, h₃⟩
    | true =>
      exact wpAny_bind (wpAny_bind (wpAny_mono h₃ (fun x s₄ h₄ => wpAny_bind (wpAny_mono h₄ (fun _ s₅ h₅ => wpAny_pure (wpAny_pure ⟨rfl, h₅⟩)) fun _ _ h' => h')) fun _ _ h' => h'))
/-- the second clause's start -/
theorem compStart1_ok (h0 : codeAny (model prog w) A (.compLoop (.ListComp elt [⟨t0, i0, ifs0, 0⟩, ⟨t1, i1, ifs1, 0⟩] scope pos) 1 it acc env) R s)
    (h : wpAny (model prog w) A (pyIter it) (fun it' s' => codeAny (model prog w) A (.compLoop (.ListComp elt [⟨t0, i0, ifs0, 0⟩, ⟨t1, i1, ifs1, 0⟩] scope pos) 1 it' acc env) R s')
      (notedBy (model prog w) A env fun x s' => R (.error x) s') s) :
    codeAny (model prog w) A (.compStart (.ListComp elt [⟨t0, i0, ifs0, 0⟩, ⟨t1, i1, ifs1, 0⟩] scope pos) 1 it acc env) R s := by
  refine codeAny_of_tree ?_
  show wpAny _ _ ((compStart (.ListComp elt [⟨t0, i0, ifs0, 0⟩, ⟨t1, i1, ifs1, 0⟩] scope pos) 1 it acc env).onRaise (fun x => do noteFrame x env; standAt theWindowsPlace)) _ _ s
  refine wpAny_notedAt ?_
  unfold compStart
  show wpAny _ _ (ask >>= _) _ _ s
  refine wpAny_bind (wpAny_askSetting (wpAny_ite ?_))
  split
  · first
      | exact wpAny_bind (wpAny_pure (wpAny_pure (And.intro rfl h0)))
      | exact wpAny_pure (And.intro rfl h0)
  · first
      | exact wpAny_bind (wpAny_rule (wpAny_bind (wpAny_standAt (wpAny_bind (wpAny_mono h (fun it' s' h' => wpAny_pure (And.intro rfl h')) fun _ _ x => x)))))
      | (refine wpAny_bind (wpAny_rule ?_); show wpAny _ _ (standAt i1.pos >>= _) _ _ s; exact wpAny_bind (wpAny_standAt (wpAny_bind (wpAny_mono h (fun it' s' h' => wpAny_pure (And.intro rfl h')) fun _ _ x => x))))
end

theorem wipe_out {σ : St} {i : Nat} : ∀ {vs : List Nat}, i ∉ vs → (wipe σ vs)[i]? = σ[i]?
  | [], _ => rfl
  | v :: vs, h => by
    have h1 : v ≠ i := fun e => h (by rw [e]; exact List.mem_cons_self)
    have h2 : i ∉ vs := fun m => h (List.mem_cons_of_mem _ m)
    unfold wipe
    rw [List.getElem?_set_ne h1]
    exact wipe_out h2
section
variable {X : Cx}
/-- [elt for tg in iter if .. for tg1 in iter1 if ..]: behind the first clause's store and tests the second source's own loop, from which Nx is reached. vs: the block's names; vs1: those of the second target -/
def tLc2 (wi : TI) (g : TG) (tt : TT) (wi1 : TI) (g1 : TG) (tt1 : TT) (te : TE) (vs vs1 : List Nat) : TE := fun σ H Q => wi σ H fun J H1 => ∀ D, H1 D = none → ∃ W : Nat → Nat → Hp → Prop, (∃ m, W 0 m (upd H1 D (.lst []))) ∧ ∀ i m H, W i m H →
  (J.stop i H ∧ Q (.ref D) H) ∨ (J.go i H ∧ ∃ Nx : Hp → Prop, (∀ H', Nx H' → ∃ m', m' < m ∧ W (i + 1) m' H') ∧ ∀ x H', J.yld i H x H' → g x (wipe σ vs) H' fun σ2 H2 => wipe σ2 vs = wipe σ vs ∧ tt σ2 H2 fun b H3 =>
    if b = true then wi1 σ2 H3 fun J1 H4 => ∃ W1 : Nat → Nat → Hp → Prop, (∃ m, W1 0 m H4) ∧ ∀ j k H, W1 j k H →
      (J1.stop j H ∧ Nx H) ∨ (J1.go j H ∧ ∃ Nx1 : Hp → Prop, (∀ H', Nx1 H' → ∃ k', k' < k ∧ W1 (j + 1) k' H') ∧ ∀ x H', J1.yld j H x H' → g1 x (wipe σ2 vs1) H' fun σ3 H5 => wipe σ3 vs1 = wipe σ2 vs1 ∧ tt1 σ3 H5 fun b H6 =>
        if b = true then te σ3 H6 fun y H7 => ∃ acc, H7 D = some (.lst acc) ∧ acc.length < sizeLine ∧ Nx1 (upd H7 D (.lst (acc ++ [y]))) else Nx1 H6)
    else Nx H3)
theorem lc2_core {pins : List (Addr × Obj)} {s : Shared} {σ : St} {H : Hp} {Q : VK} {elt tg iter tg1 iter1 : Expr} {ifs ifs1 : List Expr} {scope : Scope} {own : List (Str × Nat)} {vs1 : List Nat} {pos pos' : Pos} {wi wi1 : TI} {g g1 : TG} {tt tt1 : TT} {te : TE} {use : Option (Value → Sem Unit)} {Qf : Value → Shared → Prop}
    (hc : X.calm = true) (hN : X.N.Nodup) (I : Inv X pins σ H s) (hi : PI X tg iter wi) (ok : BlkOk X.N X.env.scope scope own) (hv : ∀ i ∈ vs1, i ∈ own.map (·.2))
    (hg : ∀ (s : Shared) (H : Hp) (C : Addr) (cl : List (Str × Addr)) (fp : List Addr), PG (X.blk s H scope (compEnvC scope cl C X.env) fp) tg g) (ht : ∀ (s : Shared) (H : Hp) (C : Addr) (cl : List (Str × Addr)) (fp : List Addr), PTs (X.blk s H scope (compEnvC scope cl C X.env) fp) ifs tt)
    (he : ∀ (s : Shared) (H : Hp) (C : Addr) (cl : List (Str × Addr)) (fp : List Addr), PE (X.blk s H scope (compEnvC scope cl C X.env) fp) elt te) (hs : ∀ x, foldedSetIterable iter X.env x = pure x)
    (hi1 : ∀ (s : Shared) (H : Hp) (C : Addr) (cl : List (Str × Addr)) (fp : List Addr), PI (X.blk s H scope (compEnvC scope cl C X.env) fp) tg1 iter1 wi1)
    (hg1 : ∀ (s : Shared) (H : Hp) (C : Addr) (cl : List (Str × Addr)) (fp : List Addr), PG (X.blk s H scope (compEnvC scope cl C X.env) fp) tg1 g1)
    (ht1 : ∀ (s : Shared) (H : Hp) (C : Addr) (cl : List (Str × Addr)) (fp : List Addr), PTs (X.blk s H scope (compEnvC scope cl C X.env) fp) ifs1 tt1)
    (hs1 : ∀ env x, foldedSetIterable iter1 env x = pure x)
    (h : tLc2 wi g tt wi1 g1 tt1 te (own.map (·.2)) vs1 σ H Q)
    (hRR : ∀ D C s' m H', Inv X pins σ H' s' → Q (.ref D) H' → s'.heap.Ns C m → FpOk X pins H' C → compPost (model X.prog X.w) X.A X.xe use Qf (.ref D) C (.ok .next) s') :
    wpAny (model X.prog X.w) X.A (comprehension (.ListComp elt [⟨tg, iter, ifs, 0⟩, ⟨tg1, iter1, ifs1, 0⟩] scope pos) scope X.env pos' (newList []) false (eval iter X.env) use) Qf X.xe s := by
  have hfree : ∀ y ∈ scope.names, y.2 = .free → ∃ c, X.env.cells.lookup y.1 = some c := fun y hy e => by
    rcases ok.free y hy e with k | k
    · exact I.ok.has _ (.inl k)
    · exact I.ok.has _ (.inr k)
  refine wpAny_comprehension_free (use := use) rfl hs (closure_ok hfree) ok.kind (fun y hy e => by rw [ok.uniq y hy, e])
    (thn (hi pins s σ H _ I h) fun xv s1 hx => thn hx fun itv s2 h2 => ?_)
  obtain ⟨it, fp, tn, J, H2, e, I2, T, st2, f2, q⟩ := h2
  subst e
  refine wpAny_newObj_type (newEnv_comp ?_) (by show 0 ≤ sizeLine; decide)
  generalize hD : s2.heap.objs.size = D
  have hDn : H2 D = none := I2.hok.fresh (Nat.le_of_eq hD)
  obtain ⟨W, ⟨m0, w0⟩, turn⟩ := q D hDn
  -- the new list
  generalize hs3 : ({ s2 with heap := s2.heap.push { cls := .type "list", data := .seq ([] : List Value).toArray } } : Shared) = s3
  have I3 : Inv X pins σ (upd H2 D (.lst [])) s3 := by
    rw [← hs3]
    refine I2.laid (t' := s2.toks) (fun b o e => Heap.get?_push_of_some _ e) (Nat.le_of_eq hD) ⟨Nat.zero_le _, [], 0, .nil, ?_⟩
    rw [← hD]
    exact Heap.get?_push_size _ rfl
  have h3 : s3.heap = s2.heap.push { cls := .type "list", data := .seq ([] : List Value).toArray } := by rw [← hs3]
  have sz : ∀ b ∈ fp, b < s2.heap.objs.size := fun b hb => by
    obtain ⟨o, e, _⟩ := T.obj _ _ st2 b hb
    exact Heap.lt_size e
  have f3 : ∀ b ∈ fp, FpOk X pins (upd H2 D (.lst [])) b ∧ b < s3.heap.objs.size := fun b hb => by
    have hlt := sz b hb
    refine ⟨⟨?_, (f2 b hb).2⟩, by rw [h3, Heap.size_push]; exact Nat.lt_succ_of_lt hlt⟩
    rw [upd_ne (by rw [← hD]; exact Nat.ne_of_lt hlt)]
    exact (f2 b hb).1
  have st3 : tn 0 s3.heap := T.keep _ _ _ st2 fun b _ o e => by rw [h3]; exact Heap.get?_push_of_some _ e
  have I4 := block_start I3 ok hN f3
  have pg := hg s3 (upd H2 D (.lst [])) s3.heap.objs.size (cellsFrom (s3.heap.objs.size + 1) scope.names (cloFrom X.env.cells scope.names [])) fp
  have pt := ht s3 (upd H2 D (.lst [])) s3.heap.objs.size (cellsFrom (s3.heap.objs.size + 1) scope.names (cloFrom X.env.cells scope.names [])) fp
  have pe := he s3 (upd H2 D (.lst [])) s3.heap.objs.size (cellsFrom (s3.heap.objs.size + 1) scope.names (cloFrom X.env.cells scope.names [])) fp
  have pi1 := hi1 s3 (upd H2 D (.lst [])) s3.heap.objs.size (cellsFrom (s3.heap.objs.size + 1) scope.names (cloFrom X.env.cells scope.names [])) fp
  have pg1 := hg1 s3 (upd H2 D (.lst [])) s3.heap.objs.size (cellsFrom (s3.heap.objs.size + 1) scope.names (cloFrom X.env.cells scope.names [])) fp
  have pt1 := ht1 s3 (upd H2 D (.lst [])) s3.heap.objs.size (cellsFrom (s3.heap.objs.size + 1) scope.names (cloFrom X.env.cells scope.names [])) fp
  show codeAny _ _ (.compStart (.ListComp elt [⟨tg, iter, ifs, 0⟩, ⟨tg1, iter1, ifs1, 0⟩] scope pos) 0 (.ref it) (.ref D) (compEnvC scope (cellsFrom (s3.heap.objs.size + 1) scope.names (cloFrom X.env.cells scope.names [])) s3.heap.objs.size X.env)) (compPost (model X.prog X.w) X.A X.xe use Qf (.ref D) s3.heap.objs.size) { s3 with heap := pushCells (s3.heap.push { cls := .type "dict", data := .dict #[] }) scope.names }
  have nfp : ∀ b ∈ fp, (upd H2 D (.lst [])) b = none := fun b hb => (f3 b hb).1.1
  generalize hce : compEnvC scope (cellsFrom (s3.heap.objs.size + 1) scope.names (cloFrom X.env.cells scope.names [])) s3.heap.objs.size X.env = ce at I4 pg pt pe pi1 pg1 pt1 ⊢
  have cL : ce.locals = s3.heap.objs.size := by subst hce; rfl
  generalize hH3 : upd H2 D (.lst []) = H3 at I3 I4 pg pt pe pi1 pg1 pt1 w0 nfp f3
  generalize hs4 : ({ s3 with heap := pushCells (s3.heap.push { cls := .type "dict", data := .dict #[] }) scope.names } : Shared) = s4 at I4 ⊢
  have st4 : tn 0 s4.heap := T.keep _ _ _ st3 fun b _ o e => by rw [← hs4]; exact pushCells_keeps _ _ _ _ (Heap.get?_push_of_some _ e)
  have stat : ∀ {σ' : St} {H' : Hp} {s' : Shared}, Inv (X.blk s3 H3 scope ce fp) [] σ' H' s' → (∀ b ∈ fp, H' b = none) → ∀ b ∈ fp, FpOk (X.blk s3 H3 scope ce fp) [] H' b := fun {σ' H' s'} I' hn b hb =>
    ⟨hn b hb, (I'.ok.exf b hb).1, I'.ok.exfs b hb, .inl hb, fun x c e => (I'.ok.exf b hb).2 x c e, fun p hp => absurd (show p ∈ ([] : List (Addr × Obj)) ++ [] from hp) (by simp)⟩
  have loop : codeAny (model X.prog X.w) X.A (.compLoop (.ListComp elt [⟨tg, iter, ifs, 0⟩, ⟨tg1, iter1, ifs1, 0⟩] scope pos) 0 (.ref it) (.ref D) ce) (compPost (model X.prog X.w) X.A X.xe use Qf (.ref D) s3.heap.objs.size) s4 := by
    refine compLoop2_out (hs1 ce) (fun n s' => ∃ i H', Inv (X.blk s3 H3 scope ce fp) [] (wipe σ (own.map (·.2))) H' s' ∧ tn i s'.heap ∧ (∀ b ∈ fp, H' b = none) ∧ W i n H') ?_ m0 ⟨0, H3, I4, st4, nfp, w0⟩
    rintro n s5 ⟨i, H5, I5, st5, n5, w5⟩
    rcases turn i n H5 w5 with ⟨stop, qq⟩ | ⟨go, Nx, hNx, step⟩
    · have td := T.done (X.blk s3 H3 scope ce fp) rfl rfl rfl hc i [] s5 _ H5 (fun _ _ => False) I5 (stat I5 n5) st5 stop
      refine thnF td fun r s6 ⟨hr, I6⟩ => ?_
      subst hr
      -- back in the def's context
      have I7 : Inv X pins σ H5 s6 := I3.call' (ch := fp) I6.os I6.base I6.hok I6.bare fun b hb => ⟨(f3 b hb).1.2.2.2.1, (f3 b hb).1.2.1, (f3 b hb).1.2.2.2.2.1, (f3 b hb).1.2.2.2.2.2⟩
      have nC : H5 s3.heap.objs.size = none := by
        have z : H5 ce.locals = none := I6.free
        rw [cL] at z
        exact z
      obtain ⟨m, hn, _⟩ := I6.loc
      have hn : s6.heap.Ns ce.locals m := hn
      rw [cL] at hn
      exact hRR D s3.heap.objs.size s6 m H5 I7 qq hn (I3.fpOk (Nat.le_refl _) nC)
    · have ti := T.item (X.blk s3 H3 scope ce fp) rfl rfl rfl hc i [] s5 _ H5 (fun _ _ => False) I5 (stat I5 n5) st5 go
      refine thnF ti fun r s6 ⟨u, hr, h6⟩ => ?_
      subst hr
      refine thnF h6 fun _ s7 ⟨x, H7, I7, r7, y7, st7, n7⟩ => ?_
      have I7' := I7.pinned (stat I7 n7) (T.obj _ _ st7)
      refine thnF (pg _ s7 _ H7 x u _ I7' r7 (step x H7 y7)) fun _ s8 ⟨σ8, H8, I8, hw8, q8⟩ => ?_
      refine thnF (pt _ s8 σ8 H8 _ I8 q8) fun b s9 ⟨H9, I9, q9⟩ => ?_
      -- the turn's end, from any slots that know what the block knew at its start
      have fin : ∀ {σ9 : St} {s' : Shared} {H' : Hp}, Inv (X.blk s3 H3 scope ce fp) ([] ++ pinsAt fp s7.heap) σ9 H' s' → (wipe σ (own.map (·.2))).length = σ9.length → (∀ (j : Nat) v, (wipe σ (own.map (·.2)))[j]? = some (some v) → σ9[j]? = some (some v)) → Nx H' →
          ∃ m, m < n ∧ ∃ i H', Inv (X.blk s3 H3 scope ce fp) [] (wipe σ (own.map (·.2))) H' s' ∧ tn i s'.heap ∧ (∀ b ∈ fp, H' b = none) ∧ W i m H' := fun {σ9 s' H'} I' hl hk nx => by
        obtain ⟨m', hm, w'⟩ := hNx H' nx
        have pin' : ∀ b ∈ fp, ∀ o, s7.heap.get? b = some o → s'.heap.get? b = some o ∧ H' b = none := fun b hb o e =>
          let z := I'.pin (b, o) (List.mem_append_right _ (List.mem_append_right _ (mem_pinsAt hb e)))
          ⟨z.1, z.2.1⟩
        refine ⟨m', hm, i + 1, H', (I'.unpinned (pins := [])).weak hl hk, T.keep _ _ _ st7 fun b hb o e => (pin' b hb o e).1, fun b hb => ?_, w'⟩
        obtain ⟨o, e, _⟩ := T.obj _ _ st7 b hb
        exact (pin' b hb o e).2
      have hl8 : (wipe σ (own.map (·.2))).length = σ8.length := by rw [← hw8, wipe_length]
      have hk8 : ∀ (j : Nat) v, (wipe σ (own.map (·.2)))[j]? = some (some v) → σ8[j]? = some (some v) := fun j v e => by
        rw [← hw8] at e
        exact (wipe_some e).1
      have hk9 : ∀ (j : Nat) v, (wipe σ (own.map (·.2)))[j]? = some (some v) → (wipe σ8 vs1)[j]? = some (some v) := fun j v e => by
        rw [← hw8] at e
        obtain ⟨e1, e2⟩ := wipe_some e
        rw [wipe_out fun z => e2 (hv j z)]
        exact e1
      cases b with
      | false =>
        simp only [Bool.false_eq_true, if_false] at q9 ⊢
        exact fin I9 hl8 hk8 q9
      | true =>
        simp only [if_true] at q9 ⊢
        refine thnF (pi1 _ s9 σ8 H9 _ I9 q9) fun xv s10 hx => thnF hx fun itv s11 h11 => ?_
        obtain ⟨it1, fp1, tn1, J1, H11, e1, I11, T1, st11, f11, W1, ⟨m1, w1⟩, turn1⟩ := h11
        subst e1
        -- the inner loop
        have stat1 : ∀ {H' : Hp}, (∀ b ∈ fp1, H' b = none) → ∀ b ∈ fp1, FpOk (X.blk s3 H3 scope ce fp) ([] ++ pinsAt fp s7.heap) H' b := fun hn b hb => ⟨hn b hb, (f11 b hb).2⟩
        have loop1 : codeAny (model X.prog X.w) X.A (.compLoop (.ListComp elt [⟨tg, iter, ifs, 0⟩, ⟨tg1, iter1, ifs1, 0⟩] scope pos) 1 (.ref it1) (.ref D) ce)
            (fun r s' => match r with
              | .ok _ => ∃ m, m < n ∧ ∃ i H', Inv (X.blk s3 H3 scope ce fp) [] (wipe σ (own.map (·.2))) H' s' ∧ tn i s'.heap ∧ (∀ b ∈ fp, H' b = none) ∧ W i m H'
              | .error _ => False) s11 := by
          refine compLoop2_in (fun k s' => ∃ j H', Inv (X.blk s3 H3 scope ce fp) ([] ++ pinsAt fp s7.heap) (wipe σ8 vs1) H' s' ∧ tn1 j s'.heap ∧ (∀ b ∈ fp1, H' b = none) ∧ W1 j k H') ?_ m1 ⟨0, H11, I11.weak (wipe_length _ _) (fun j v e => (wipe_some e).1), st11, fun b hb => (f11 b hb).1, w1⟩
          rintro k s12 ⟨j, H12, I12, st12, n12, w12⟩
          rcases turn1 j k H12 w12 with ⟨stop1, nx1⟩ | ⟨go1, Nx1, hNx1, step1⟩
          · refine thnF (T1.done (X.blk s3 H3 scope ce fp) rfl rfl rfl hc j _ s12 (wipe σ8 vs1) H12 (fun _ _ => False) I12 (stat1 n12) st12 stop1) fun r s13 ⟨hr, I13⟩ => ?_
            subst hr
            exact fin I13 (hl8.trans (wipe_length σ8 vs1).symm) hk9 nx1
          · refine thnF (T1.item (X.blk s3 H3 scope ce fp) rfl rfl rfl hc j _ s12 (wipe σ8 vs1) H12 (fun _ _ => False) I12 (stat1 n12) st12 go1) fun r s13 ⟨u1, hr, h13⟩ => ?_
            subst hr
            refine thnF h13 fun _ s14 ⟨x1, H14, I14, r14, y14, st14, n14⟩ => ?_
            have I14' := I14.pinned (stat1 n14) (T1.obj _ _ st14)
            refine thnF (pg1 _ s14 (wipe σ8 vs1) H14 x1 u1 _ I14' r14 (step1 x1 H14 y14)) fun _ s15 ⟨σ15, H15, I15, hw15, q15⟩ => ?_
            refine thnF (pt1 _ s15 σ15 H15 _ I15 q15) fun b1 s16 ⟨H16, I16, q16⟩ => ?_
            have fin1 : ∀ {s' : Shared} {H' : Hp}, Inv (X.blk s3 H3 scope ce fp) (([] ++ pinsAt fp s7.heap) ++ pinsAt fp1 s14.heap) σ15 H' s' → Nx1 H' → ∃ m, m < k ∧ ∃ j H', Inv (X.blk s3 H3 scope ce fp) ([] ++ pinsAt fp s7.heap) (wipe σ8 vs1) H' s' ∧ tn1 j s'.heap ∧ (∀ b ∈ fp1, H' b = none) ∧ W1 j m H' := fun {s' H'} I' nx => by
              obtain ⟨m', hm, w'⟩ := hNx1 H' nx
              have pin' : ∀ b ∈ fp1, ∀ o, s14.heap.get? b = some o → s'.heap.get? b = some o ∧ H' b = none := fun b hb o e =>
                let z := I'.pin (b, o) (List.mem_append_right _ (List.mem_append_right _ (mem_pinsAt hb e)))
                ⟨z.1, z.2.1⟩
              refine ⟨m', hm, j + 1, H', I'.unpinned.weak (by rw [← hw15, wipe_length]) (fun j v e => by rw [← hw15] at e; exact (wipe_some e).1), T1.keep _ _ _ st14 fun b hb o e => (pin' b hb o e).1, fun b hb => ?_, w'⟩
              obtain ⟨o, e, _⟩ := T1.obj _ _ st14 b hb
              exact (pin' b hb o e).2
            cases b1 with
            | false =>
              simp only [Bool.false_eq_true, if_false] at q16 ⊢
              exact fin1 I16 q16
            | true =>
              simp only [if_true] at q16 ⊢
              refine thnF (pe _ s16 σ15 H16 _ I16 q16) fun z s17 ⟨yv, H17, I17, r17, acc, hD17, hz17, nx⟩ => ?_
              exact app_ok (X := X.blk s3 H3 scope ce fp) I17 hD17 hz17 r17 fun s18 I18 => fin1 I18 nx
        exact compStart1_ok loop1 (T1.self X.A 0 _ _ _ st11 loop1)
  exact codeAny_compStart_list loop (T.self X.A 0 _ _ _ st4 loop)
/-- as a value -/
theorem pe_lc2 {elt tg iter tg1 iter1 : Expr} {ifs ifs1 : List Expr} {scope : Scope} {own : List (Str × Nat)} {vs1 : List Nat} {pos : Pos} {wi wi1 : TI} {g g1 : TG} {tt tt1 : TT} {te : TE} (hc : X.calm = true) (hN : X.N.Nodup) (hi : PI X tg iter wi) (ok : BlkOk X.N X.env.scope scope own) (hv : ∀ i ∈ vs1, i ∈ own.map (·.2))
    (hg : ∀ (s : Shared) (H : Hp) (C : Addr) (cl : List (Str × Addr)) (fp : List Addr), PG (X.blk s H scope (compEnvC scope cl C X.env) fp) tg g) (ht : ∀ (s : Shared) (H : Hp) (C : Addr) (cl : List (Str × Addr)) (fp : List Addr), PTs (X.blk s H scope (compEnvC scope cl C X.env) fp) ifs tt)
    (hi1 : ∀ (s : Shared) (H : Hp) (C : Addr) (cl : List (Str × Addr)) (fp : List Addr), PI (X.blk s H scope (compEnvC scope cl C X.env) fp) tg1 iter1 wi1)
    (hg1 : ∀ (s : Shared) (H : Hp) (C : Addr) (cl : List (Str × Addr)) (fp : List Addr), PG (X.blk s H scope (compEnvC scope cl C X.env) fp) tg1 g1) (ht1 : ∀ (s : Shared) (H : Hp) (C : Addr) (cl : List (Str × Addr)) (fp : List Addr), PTs (X.blk s H scope (compEnvC scope cl C X.env) fp) ifs1 tt1)
    (he : ∀ (s : Shared) (H : Hp) (C : Addr) (cl : List (Str × Addr)) (fp : List Addr), PE (X.blk s H scope (compEnvC scope cl C X.env) fp) elt te) (hs : ∀ x, foldedSetIterable iter X.env x = pure x := by intro _; rfl) (hs1 : ∀ env x, foldedSetIterable iter1 env x = pure x := by intro _ _; rfl) :
    PE X (.ListComp elt [⟨tg, iter, ifs, 0⟩, ⟨tg1, iter1, ifs1, 0⟩] scope pos) (tLc2 wi g tt wi1 g1 tt1 te (own.map (·.2)) vs1) := by
  intro pins s σ H Q I h
  rw [eval_ListComp]
  refine lc2_core hc hN I hi ok hv hg ht he hs hi1 hg1 ht1 hs1 h fun D C s' m H' I' q hn f => ⟨m, hn, fun h'' sb => ?_⟩
  obtain ⟨f0, f1, f2, f3, f4, f5⟩ := f
  exact ⟨.ref D, H', I'.turned (t' := s'.toks) (fun b o hb e => (sb.2 b hb).trans e) f0 f1 f3 f4 f5, rfl, q⟩
theorem ps_setLc2 {i : Nat} {y : Str} {py : Pos} {elt tg iter tg1 iter1 : Expr} {ifs ifs1 : List Expr} {scope : Scope} {own : List (Str × Nat)} {vs1 : List Nat} {pos spos : Pos} {wi wi1 : TI} {g g1 : TG} {tt tt1 : TT} {te : TE} (hc : X.calm = true) (hN : X.N.Nodup) (hy : X.N[i]? = some y) (hyl : X.env.scope.names.lookup y = some .local)
    (hsw : swapsWith (.ListComp elt [⟨tg, iter, ifs, 0⟩, ⟨tg1, iter1, ifs1, 0⟩] scope pos) (some (.Name y py)) spos.line X.env = pure true) (hi : PI X tg iter wi) (ok : BlkOk X.N X.env.scope scope own) (hv : ∀ i ∈ vs1, i ∈ own.map (·.2))
    (hg : ∀ (s : Shared) (H : Hp) (C : Addr) (cl : List (Str × Addr)) (fp : List Addr), PG (X.blk s H scope (compEnvC scope cl C X.env) fp) tg g) (ht : ∀ (s : Shared) (H : Hp) (C : Addr) (cl : List (Str × Addr)) (fp : List Addr), PTs (X.blk s H scope (compEnvC scope cl C X.env) fp) ifs tt)
    (hi1 : ∀ (s : Shared) (H : Hp) (C : Addr) (cl : List (Str × Addr)) (fp : List Addr), PI (X.blk s H scope (compEnvC scope cl C X.env) fp) tg1 iter1 wi1)
    (hg1 : ∀ (s : Shared) (H : Hp) (C : Addr) (cl : List (Str × Addr)) (fp : List Addr), PG (X.blk s H scope (compEnvC scope cl C X.env) fp) tg1 g1) (ht1 : ∀ (s : Shared) (H : Hp) (C : Addr) (cl : List (Str × Addr)) (fp : List Addr), PTs (X.blk s H scope (compEnvC scope cl C X.env) fp) ifs1 tt1)
    (he : ∀ (s : Shared) (H : Hp) (C : Addr) (cl : List (Str × Addr)) (fp : List Addr), PE (X.blk s H scope (compEnvC scope cl C X.env) fp) elt te) (hs : ∀ x, foldedSetIterable iter X.env x = pure x := by intro _; rfl) (hs1 : ∀ env x, foldedSetIterable iter1 env x = pure x := by intro _ _; rfl) :
    PS X (.Assign [.Name y py] (.ListComp elt [⟨tg, iter, ifs, 0⟩, ⟨tg1, iter1, ifs1, 0⟩] scope pos) spos) (tAsg (tLc2 wi g tt wi1 g1 tt1 te (own.map (·.2)) vs1) (gName i)) := by
  intro pins s σ H D I h
  rw [exec_Assign_Name_used _ _ _ _ hsw]
  refine wpAny_bind (wpAny_standAt (wpAny_bind ?_))
  show wpAny _ X.A (do let _ ← comprehension (.ListComp elt [⟨tg, iter, ifs, 0⟩, ⟨tg1, iter1, ifs1, 0⟩] scope pos) scope X.env (firstIterPos [⟨tg, iter, ifs, 0⟩, ⟨tg1, iter1, ifs1, 0⟩] pos) (newList []) false (eval iter X.env) (some (assign (.Name y py) X.env))) _ _ s
  have h : tLc2 wi g tt wi1 g1 tt1 te (own.map (·.2)) vs1 σ H (fun x H1 => gName i x σ H1 D.nx) := h
  refine wpAny_bind (thn (lc2_core (Qf := fun _ s' => SP X pins D .next s') hc hN I hi ok hv hg ht he hs hi1 hg1 ht1 hs1 h fun L C s' m H' I' q hn f => ?_) fun _ s' hq => wpAny_pure (wpAny_pure hq))
  show wpAny _ _ (assign (.Name y py) X.env (.ref L)) _ _ _
  refine wpAny_assign_Name (store_ok2 (v := V.ref L) I' hN hy (.inl hyl) rfl (fun s2 I2 ⟨a, sb, ha⟩ => ?_) (.inr hyl))
  obtain ⟨f0, f1, f2, f3, f4, f5⟩ := f
  have haC : C ≠ a := by
    rcases ha with z | z
    · rw [z]; exact f1
    · exact fun e => f4 y a z e.symm
  refine ⟨m, hn.sameBut sb haC, fun h3 sb3 => ?_⟩
  exact ⟨_, H', I2.turned (t' := s2.toks) (fun b o hb e => (sb3.2 b hb).trans e) f0 f1 f3 f4 f5, q⟩
end
end L2

namespace L2
open PySem PySem.Spec PyProof.Rows

/-! ### lists of pairs as tables -/
section
variable {κ : Type} [DecidableEq κ]
def valV (kvs : List (κ × V)) (k : κ) : Option V := (kvs.find? fun kv => decide (kv.1 = k)).map (·.2)
/-- in its place, or at the end -/
def putK (kvs : List (κ × V)) (k : κ) (v : V) : List (κ × V) :=
  if (kvs.any fun kv => decide (kv.1 = k)) = true then kvs.map (fun kv => if kv.1 = k then (kv.1, v) else kv) else kvs ++ [(k, v)]
def dropK (kvs : List (κ × V)) (k : κ) : List (κ × V) := kvs.filter fun kv => decide (kv.1 ≠ k)

theorem valV_nil {k : κ} : valV ([] : List (κ × V)) k = none := rfl
theorem valV_pos {p : κ × V} {r : List (κ × V)} {k : κ} (e : p.1 = k) : valV (p :: r) k = some p.2 := by simp [valV, List.find?_cons, e]
theorem valV_neg {p : κ × V} {r : List (κ × V)} {k : κ} (e : ¬ p.1 = k) : valV (p :: r) k = valV r k := by simp [valV, List.find?_cons, e]
theorem valV_any (k : κ) : ∀ kvs : List (κ × V), (kvs.any fun kv => decide (kv.1 = k)) = (valV kvs k).isSome
  | [] => rfl
  | p :: r => by
    rw [List.any_cons]
    by_cases e : p.1 = k
    · simp only [valV_pos e, decide_eq_true e, Bool.true_or, Option.isSome_some]
    · rw [valV_neg e, decide_eq_false e, Bool.false_or]; exact valV_any k r
theorem valV_map (k j : κ) (y : V) : ∀ kvs : List (κ × V), valV (kvs.map fun kv => if kv.1 = k then (kv.1, y) else kv) j = (valV kvs j).map fun x => if j = k then y else x
  | [] => rfl
  | p :: r => by
    have ih := valV_map k j y r
    rw [List.map_cons]
    by_cases h : p.1 = k
    · rw [if_pos h]
      by_cases e : p.1 = j
      · rw [valV_pos (p := (p.1, y)) e, valV_pos e, Option.map_some, if_pos (e.symm.trans h)]
      · rw [valV_neg (p := (p.1, y)) e, valV_neg e, ih]
    · rw [if_neg h]
      by_cases e : p.1 = j
      · rw [valV_pos (p := p) e, valV_pos e, Option.map_some, if_neg (fun z => h (e.trans z))]
      · rw [valV_neg (p := p) e, valV_neg e, ih]
theorem valV_snoc (k j : κ) (y : V) : ∀ kvs : List (κ × V), valV kvs k = none → valV (kvs ++ [(k, y)]) j = if j = k then some y else valV kvs j
  | [], _ => by
    by_cases e : k = j
    · rw [if_pos e.symm]; exact valV_pos (p := (k, y)) e
    · rw [if_neg (fun z => e z.symm)]; exact valV_neg (p := (k, y)) e
  | p :: r, hn => by
    rw [List.cons_append]
    have hk : ¬ p.1 = k := fun z => by rw [valV_pos z] at hn; cases hn
    rw [valV_neg hk] at hn
    have ih := valV_snoc k j y r hn
    by_cases e : p.1 = j
    · rw [valV_pos e, valV_pos e, if_neg (fun z => hk (e.trans z))]
    · rw [valV_neg e, valV_neg e, ih]
theorem valV_put (kvs : List (κ × V)) (k j : κ) (y : V) : valV (putK kvs k y) j = if j = k then some y else valV kvs j := by
  unfold putK
  by_cases a : (kvs.any fun kv => decide (kv.1 = k)) = true
  · rw [if_pos a, valV_map]
    rw [valV_any] at a
    by_cases e : j = k
    · obtain ⟨x, hx⟩ := Option.isSome_iff_exists.mp a
      rw [if_pos e, e, hx, Option.map_some, if_pos rfl]
    · rw [if_neg e]
      cases valV kvs j with
      | none => rfl
      | some x => rw [Option.map_some, if_neg e]
  · rw [if_neg a]
    refine valV_snoc k j y kvs ?_
    rw [valV_any] at a
    cases q : valV kvs k with
    | none => rfl
    | some x => rw [q] at a; exact (a rfl).elim
theorem length_putK (kvs : List (κ × V)) (k : κ) (v : V) : (putK kvs k v).length ≤ kvs.length + 1 := by
  unfold putK
  split
  · rw [List.length_map]; omega
  · rw [List.length_append, List.length_cons, List.length_nil]; omega
theorem putK_new {kvs : List (κ × V)} {k : κ} (v : V) (h : valV kvs k = none) : putK kvs k v = kvs ++ [(k, v)] := by
  unfold putK
  rw [valV_any, h]
  exact if_neg (by decide)

theorem RelO.isSome_eq {o : Option V} {u : Option Value} (r : RelO o u) : o.isSome = u.isSome := by
  cases o with
  | none => cases u with
    | none => rfl
    | some _ => exact (show False from r).elim
  | some _ => cases u with
    | none => exact (show False from r).elim
    | some _ => rfl
theorem RelO.getD {o : Option V} {u : Option Value} {d : V} {d' : Value} (r : RelO o u) (rd : RelV d d') : RelV (o.getD d) (u.getD d') := by
  cases o with
  | none => cases u with
    | none => exact rd
    | some _ => exact (show False from r).elim
  | some _ => cases u with
    | none => exact (show False from r).elim
    | some _ => exact r

/-- raw tables of the same keys -/
theorem KV.val {kvs : List (κ × V)} {vs : List (κ × Value)} (r : KV kvs vs) (k : κ) : RelO (valV kvs k) (valueAt vs k) := by
  unfold KV at r
  induction r with
  | nil => exact True.intro
  | @cons p q ps qs h t ih =>
    obtain ⟨h1, h2⟩ := h
    by_cases e : p.1 = k
    · have e' : q.1 = k := h1.symm.trans e
      have b : valueAt (q :: qs) k = some q.2 := by simp [valueAt, List.find?_cons, e']
      rw [valV_pos e, b]; exact h2
    · have e' : ¬ q.1 = k := fun z => e (h1.trans z)
      have b : valueAt (q :: qs) k = valueAt qs k := by simp [valueAt, List.find?_cons, e']
      rw [valV_neg e, b]; exact ih
theorem KV.any {kvs : List (κ × V)} {vs : List (κ × Value)} (r : KV kvs vs) (k : κ) : (kvs.any fun kv => decide (kv.1 = k)) = vs.any fun kv => decide (kv.1 = k) := by
  unfold KV at r
  induction r with
  | nil => rfl
  | cons h t ih => rw [List.any_cons, List.any_cons, ih, h.1]
theorem KV.repl {kvs : List (κ × V)} {vs : List (κ × Value)} (r : KV kvs vs) (k : κ) {y : V} {u : Value} (ry : RelV y u) :
    KV (kvs.map fun kv => if kv.1 = k then (kv.1, y) else kv) (vs.map fun kv => if kv.1 = k then (kv.1, u) else kv) := by
  unfold KV at r ⊢
  induction r with
  | nil => exact .nil
  | @cons p q ps qs h t ih =>
    rw [List.map_cons, List.map_cons]
    refine .cons ?_ ih
    obtain ⟨h1, h2⟩ := h
    by_cases e : p.1 = k
    · rw [if_pos e, if_pos (h1.symm.trans e)]; exact ⟨h1, ry⟩
    · rw [if_neg e, if_neg (fun z => e (h1.trans z))]; exact ⟨h1, h2⟩
theorem KV.put {kvs : List (κ × V)} {vs : List (κ × Value)} (r : KV kvs vs) (k : κ) {y : V} {u : Value} (ry : RelV y u) : KV (putK kvs k y) (stored vs k u) := by
  unfold putK stored
  rw [r.any k]
  by_cases e : (vs.any fun kv => decide (kv.1 = k)) = true
  · rw [if_pos e, if_pos e]; exact r.repl k ry
  · rw [if_neg e, if_neg e]; exact Paired.snoc r ⟨rfl, ry⟩
theorem KV.drop {kvs : List (κ × V)} {vs : List (κ × Value)} (r : KV kvs vs) (k : κ) : KV (dropK kvs k) (without vs k) := by
  unfold KV at r ⊢
  unfold dropK without
  induction r with
  | nil => exact .nil
  | @cons p q ps qs h t ih =>
    obtain ⟨h1, h2⟩ := h
    rw [List.filter_cons, List.filter_cons]
    by_cases e : p.1 = k
    · have a : ¬ decide (p.1 ≠ k) = true := by simp [e]
      have b : ¬ decide (q.1 ≠ k) = true := by simp [h1.symm.trans e]
      rw [if_neg a, if_neg b]; exact ih
    · have e' : ¬ q.1 = k := fun z => e (h1.trans z)
      have a : decide (p.1 ≠ k) = true := by simp [e]
      have b : decide (q.1 ≠ k) = true := by simp [e']
      rw [if_pos a, if_pos b]; exact .cons ⟨h1, h2⟩ ih
theorem KV.keys {kvs : List (κ × V)} {vs : List (κ × Value)} (r : KV kvs vs) : kvs.map (·.1) = vs.map (·.1) := by
  unfold KV at r
  induction r with
  | nil => rfl
  | cons h t ih => rw [List.map_cons, List.map_cons, ih, h.1]
theorem KV.length {kvs : List (κ × V)} {vs : List (κ × Value)} (r : KV kvs vs) : kvs.length = vs.length := Paired.length r
theorem dropK_le (kvs : List (κ × V)) (k : κ) : (dropK kvs k).length ≤ kvs.length := List.length_filter_le _ _
end


/-! ### a tracked dict, its keys ints and texts or tuples of these -/
theorem kV_is {P : Program} {w : World} {k : Key} {u : Value} (r : RelV (kV k) u) : (mixKind P w).is k u = true := by
  cases k with
  | inl i => obtain ⟨t, e⟩ := (show ∃ t, u = Value.int i t from r); subst e; exact mixKind_int P w i t
  | inr x => obtain ⟨t, e⟩ := (show ∃ t, u = Value.str x t from r); subst e; exact mixKind_str P w x t
theorem kV_inj {a b : Key} (e : kV a = kV b) : a = b := by
  cases a with
  | inl i => cases b with
    | inl j => have e' : V.int i = V.int j := e; injection e' with e'; rw [e']
    | inr y => exact nomatch (show V.int i = V.str y from e)
  | inr x => cases b with
    | inl j => exact nomatch (show V.str x = V.int j from e)
    | inr y => have e' : V.str x = V.str y := e; injection e' with e'; rw [e']
theorem kVs_inj : ∀ {a b : List Key}, a.map kV = b.map kV → a = b
  | [], [], _ => rfl
  | [], _ :: _, e => by simp at e
  | _ :: _, [], e => by simp at e
  | x :: xs, y :: ys, e => by
    rw [List.map_cons, List.map_cons] at e
    injection e with e1 e2
    rw [kV_inj e1, kVs_inj e2]
theorem items_are {P : Program} {w : World} : ∀ {ks : List Key} {us : List Value}, Vals (ks.map kV) us → ItemsAre (mixKind P w) ks us
  | [], _, r => by rw [List.map_nil] at r; cases r; exact .nil
  | k :: ks, _, r => by
    rw [List.map_cons] at r
    cases r with
    | cons h t => exact .cons (kV_is h) (items_are t)

/-- raw entries of a dict with tuple keys -/
abbrev KT (H : Hp) : List (List Key × V) → List (List Key × Addr × Value) → Prop := Paired fun p q => p.1 = q.1 ∧ H q.2.1 = some (.tup (p.1.map kV)) ∧ RelV p.2 q.2.2
theorem KT.val {H : Hp} {kvs : List (List Key × V)} {xs : List (List Key × Addr × Value)} (r : KT H kvs xs) (k : List Key) : RelO (valV kvs k) ((atKey xs k).map (·.2)) := by
  induction r with
  | nil => exact True.intro
  | @cons p q ps qs h t ih =>
    obtain ⟨h1, _, h2⟩ := h
    by_cases e : p.1 = k
    · have e' : q.1 = k := h1.symm.trans e
      have b : atKey (q :: qs) k = some q.2 := by simp [atKey, List.find?_cons, e']
      rw [valV_pos e, b]; exact h2
    · have e' : ¬ q.1 = k := fun z => e (h1.trans z)
      have b : atKey (q :: qs) k = atKey qs k := by simp [atKey, List.find?_cons, e']
      rw [valV_neg e, b]; exact ih
theorem KT.repl {H : Hp} {kvs : List (List Key × V)} {xs : List (List Key × Addr × Value)} (r : KT H kvs xs) (k : List Key) {y : V} {u : Value} (ry : RelV y u) :
    KT H (kvs.map fun kv => if kv.1 = k then (kv.1, y) else kv) (xs.map (putAt k u)) := by
  induction r with
  | nil => exact .nil
  | @cons p q ps qs h t ih =>
    rw [List.map_cons, List.map_cons]
    refine .cons ?_ ih
    obtain ⟨h1, h2, h3⟩ := h
    unfold putAt
    by_cases e : p.1 = k
    · rw [if_pos e, if_pos (h1.symm.trans e)]; exact ⟨h1, h2, ry⟩
    · rw [if_neg e, if_neg (fun z => e (h1.trans z))]; exact ⟨h1, h2, h3⟩
theorem KT.put {H : Hp} {kvs : List (List Key × V)} {xs : List (List Key × Addr × Value)} (r : KT H kvs xs) (k : List Key) {b : Addr} {y : V} {u : Value} (hb : H b = some (.tup (k.map kV))) (ry : RelV y u) :
    KT H (putK kvs k y) (storedH xs k b u) := by
  have e : (kvs.any fun kv => decide (kv.1 = k)) = (atKey xs k).isSome := by
    rw [valV_any, (r.val k).isSome_eq, Option.isSome_map]
  unfold putK storedH
  rw [e]
  by_cases q : (atKey xs k).isSome = true
  · rw [if_pos q, if_pos q]; exact r.repl k ry
  · rw [if_neg q, if_neg q]; exact Paired.snoc r ⟨rfl, hb, ry⟩
theorem KT.keeps {H H' : Hp} {kvs : List (List Key × V)} {xs : List (List Key × Addr × Value)} (r : KT H kvs xs) (ht : ∀ b ys, H b = some (.tup ys) → H' b = some (.tup ys)) : KT H' kvs xs :=
  Paired.mapP r fun _ _ z => ⟨z.1, ht _ _ z.2.1, z.2.2⟩

section
variable {P : Program} {w : World} {H : Hp} {h : Heap} {a : Addr}
theorem rd_of {u : HO} (ok : HOk P w H h) (e : Rd H a u) : ObjOk P w H h a u := e.ok ok
theorem dk_rd {kvs : List (Key × V)} (ok : HOk P w H h) (e : Rd H a (.dK kvs)) : kvs.length ≤ sizeLine ∧ (a == sysModules) = false ∧ ∃ vs, KV kvs vs ∧ h.DictOf (mixKind P w) a vs :=
  show ObjOk P w H h a (.dK kvs) from rd_of ok e
theorem dk_of {kvs : List (Key × V)} (ok : HOk P w H h) (e : H a = some (.dK kvs)) : kvs.length ≤ sizeLine ∧ (a == sysModules) = false ∧ ∃ vs, KV kvs vs ∧ h.DictOf (mixKind P w) a vs := dk_rd ok (.inl e)
/-- a tracked tuple of ints and texts is a key -/
theorem key_of {ks : List Key} (ok : HOk P w H h) (e : H a = some (.tup (ks.map kV))) : (tupleKind (mixKind P w)).is h ks a := by
  obtain ⟨_, its, r, o, h1, h2, n, h3⟩ := (show ObjOk P w H h a (.tup (ks.map kV)) from ok a _ e)
  exact ⟨o, its.toArray, n, h1, h2, h3, by simpa using items_are r⟩
theorem dt_rd {kvs : List (List Key × V)} (ok : HOk P w H h) (e : Rd H a (.dT kvs)) : kvs.length ≤ sizeLine ∧ (a == sysModules) = false ∧
    ∃ xs, KT H kvs xs ∧ h.DictOfH (tupleKind (mixKind P w)) a xs := by
  obtain ⟨z, y, xs, r, o, es, ep, h1, h2, h3, h4, h5⟩ := (show ObjOk P w H h a (.dT kvs) from rd_of ok e)
  refine ⟨z, y, xs, r, o, es, ep, h1, h2, h3, h4, fun x hx => ?_, h5⟩
  have all : ∀ {l : List (List Key × V)} {m : List (List Key × Addr × Value)}, KT H l m → ∀ x ∈ m, (tupleKind (mixKind P w)).is h x.1 x.2.1 := by
    intro l m q
    induction q with
    | nil => intro x hx; exact nomatch hx
    | @cons p q ps qs hq t ih =>
      intro x hx
      rcases List.mem_cons.mp hx with e | hx
      · subst e
        exact key_of ok (by rw [← hq.1]; exact hq.2.1)
      · exact ih x hx
  exact all r x hx
theorem dt_of {kvs : List (List Key × V)} (ok : HOk P w H h) (e : H a = some (.dT kvs)) : kvs.length ≤ sizeLine ∧ (a == sysModules) = false ∧
    ∃ xs, KT H kvs xs ∧ h.DictOfH (tupleKind (mixKind P w)) a xs := dt_rd ok (.inl e)
end

/-- what the dict at a holds at the key y -/
def DGet (H : Hp) (a : Addr) (y : V) (r : Option V) : Prop :=
  (∃ kvs k, Rd H a (.dK kvs) ∧ y = kV k ∧ r = valV kvs k) ∨ ∃ kvs k b, Rd H a (.dT kvs) ∧ y = .ref b ∧ H b = some (.tup (k.map kV)) ∧ r = valV kvs k
/-- the heap behind a[y] = v -/
def DPut (H : Hp) (a : Addr) (y v : V) (H' : Hp) : Prop :=
  (∃ kvs k, H a = some (.dK kvs) ∧ y = kV k ∧ kvs.length < sizeLine ∧ H' = upd H a (.dK (putK kvs k v))) ∨
  ∃ kvs k b, H a = some (.dT kvs) ∧ y = .ref b ∧ H b = some (.tup (k.map kV)) ∧ kvs.length < sizeLine ∧ H' = upd H a (.dT (putK kvs k v))
theorem DGet.k {H : Hp} {a : Addr} {kvs : List (Key × V)} {k : Key} (e : H a = some (.dK kvs)) : DGet H a (kV k) (valV kvs k) := .inl ⟨kvs, k, .inl e, rfl, rfl⟩
theorem DGet.t {H : Hp} {a b : Addr} {kvs : List (List Key × V)} {k : List Key} (e : H a = some (.dT kvs)) (eb : H b = some (.tup (k.map kV))) : DGet H a (.ref b) (valV kvs k) := .inr ⟨kvs, k, b, .inl e, rfl, eb, rfl⟩
theorem DPut.k {H : Hp} {a : Addr} {kvs : List (Key × V)} {k : Key} {v : V} (e : H a = some (.dK kvs)) (hl : kvs.length < sizeLine) : DPut H a (kV k) v (upd H a (.dK (putK kvs k v))) := .inl ⟨kvs, k, e, rfl, hl, rfl⟩
theorem DPut.t {H : Hp} {a b : Addr} {kvs : List (List Key × V)} {k : List Key} {v : V} (e : H a = some (.dT kvs)) (eb : H b = some (.tup (k.map kV))) (hl : kvs.length < sizeLine) :
    DPut H a (.ref b) v (upd H a (.dT (putK kvs k v))) := .inr ⟨kvs, k, b, e, rfl, eb, hl, rfl⟩


section
variable {X : Cx} {pins : List (Addr × Obj)} {σ : St} {H : Hp} {s : Shared} {a : Addr} {y v : V} {u r : Value} {o : Option V} {A : Around} {E : Value → Shared → Prop}

theorem Inv.big (I : Inv X pins σ H s) : sysModules < s.heap.objs.size := by
  have h : mainGlobals < s.heap.objs.size := (I.mod.glob.keeps I.bk).lt
  exact Nat.lt_trans (by decide) h

/-- d[y], there -/
theorem d_getItem {Q : Value → Shared → Prop} (hu : A.units + 1 < cLine) (I : Inv X pins σ H s) (g : DGet H a y (some v)) (ry : RelV y u) (h : ∀ w' s', Inv X pins σ H s' → RelV v w' → Q w' s') :
    wpAny (model X.prog X.w) A (getItem (.ref a) u) Q E s := by
  rcases g with ⟨kvs, k, e, ey, l⟩ | ⟨kvs, k, b, e, ey, eb, l⟩
  · subst ey
    obtain ⟨z, hd, vs, rel, dd⟩ := dk_rd I.hok e
    obtain ⟨w', hw, rw'⟩ := RelO.some_of (v := v) (o := valueAt vs k) (by rw [l]; exact rel.val k)
    exact wpAny_getItem_of (kV_is ry) dd.mapOf hw (h w' _ (I.tok _) rw')
  · subst ey
    cases (show u = Value.ref b from ry)
    obtain ⟨z, hd, xs, rel, dd⟩ := dt_rd I.hok e
    obtain ⟨w', hw, rw'⟩ := RelO.some_of (v := v) (o := (atKey xs k).map (·.2)) (by rw [l]; exact rel.val k)
    obtain ⟨p, hp, hp2⟩ := Option.map_eq_some_iff.mp hw
    refine wpAny_getItem_heap (tupleKind_room_in1 hu) (key_of I.hok eb) dd hp ?_
    rw [hp2]
    exact h w' _ (I.tok _) rw'
/-- y in d -/
theorem d_in {Q : Value → Shared → Prop} (hu : A.units + 1 < cLine) (I : Inv X pins σ H s) (g : DGet H a y o) (ry : RelV y u) (h : ∀ s', Inv X pins σ H s' → Q (.bool o.isSome) s') :
    wpAny (model X.prog X.w) A (compareOp .In u (.ref a)) Q E s := by
  rcases g with ⟨kvs, k, e, ey, l⟩ | ⟨kvs, k, b, e, ey, eb, l⟩
  · subst ey
    obtain ⟨z, hd, vs, rel, dd⟩ := dk_rd I.hok e
    refine wpAny_in_of (kV_is ry) hd dd.mapOf ?_
    rw [← (rel.val k).isSome_eq, ← l]
    exact h _ (I.tok _)
  · subst ey
    cases (show u = Value.ref b from ry)
    obtain ⟨z, hd, xs, rel, dd⟩ := dt_rd I.hok e
    refine wpAny_in_heap (tupleKind_room_in1 hu) (key_of I.hok eb) hd dd ?_
    have q := (rel.val k).isSome_eq
    rw [Option.isSome_map] at q
    rw [← q, ← l]
    exact h _ (I.tok _)
theorem d_notIn {Q : Value → Shared → Prop} (hu : A.units + 1 < cLine) (I : Inv X pins σ H s) (g : DGet H a y o) (ry : RelV y u) (h : ∀ s', Inv X pins σ H s' → Q (.bool (!o.isSome)) s') :
    wpAny (model X.prog X.w) A (compareOp .NotIn u (.ref a)) Q E s := by
  rcases g with ⟨kvs, k, e, ey, l⟩ | ⟨kvs, k, b, e, ey, eb, l⟩
  · subst ey
    obtain ⟨z, hd, vs, rel, dd⟩ := dk_rd I.hok e
    refine wpAny_notIn_of (kV_is ry) hd dd.mapOf ?_
    rw [← (rel.val k).isSome_eq, ← l]
    exact h _ (I.tok _)
  · subst ey
    cases (show u = Value.ref b from ry)
    obtain ⟨z, hd, xs, rel, dd⟩ := dt_rd I.hok e
    refine wpAny_notIn_heap (tupleKind_room_in1 hu) (key_of I.hok eb) hd dd ?_
    have q := (rel.val k).isSome_eq
    rw [Option.isSome_map] at q
    rw [← q, ← l]
    exact h _ (I.tok _)
/-- a dict's object is replaced -/
theorem d_write {h' : Heap} {t' : Nat} {ob : HO} (I : Inv X pins σ H s) (mu : Mut (H a)) (hs : Heap.SameBut a s.heap h') (he : ∃ q, h'.get? a = some q) (new : ObjOk X.prog X.w (upd H a ob) h' a ob) :
    Inv X pins σ (upd H a ob) { s with heap := h', toks := t' } :=
  I.write (x := a) (e := a) mu (.inl rfl) (fun b q hb z => (hs.2 b hb).trans z) he new
theorem dk_new {P : Program} {w : World} {H' : Hp} {h' : Heap} {kvs : List (Key × V)} {vs : List (Key × Value)} (z : kvs.length ≤ sizeLine) (hd : (a == sysModules) = false) (rel : KV kvs vs) (dd : h'.DictOf (mixKind P w) a vs) :
    ObjOk P w H' h' a (.dK kvs) := ⟨z, hd, vs, rel, dd⟩
/-- d[y] = v -/
theorem d_setItem {H' : Hp} {Q : Unit → Shared → Prop} (hu : A.units + 1 < cLine) (I : Inv X pins σ H s) (g : DPut H a y v H') (ry : RelV y u) (rv : RelV v r) (h : ∀ s', Inv X pins σ H' s' → Q () s') :
    wpAny (model X.prog X.w) A (setItem (.ref a) u r) Q E s := by
  rcases g with ⟨kvs, k, e, ey, l, eH⟩ | ⟨kvs, k, b, e, ey, eb, l, eH⟩
  · subst ey eH
    obtain ⟨z, hd, vs, rel, dd⟩ := dk_of I.hok e
    have hz : vs.length ≤ sizeLine := by rw [← rel.length]; exact z
    have hl : (putK kvs k v).length ≤ sizeLine := by have := length_putK kvs k v; omega
    refine wpAny_setItem_pairs (hsz := hz) (kV_is ry) dd fun h' dd' hs => h _ ?_
    have he : ∃ q, h'.get? a = some q := let ⟨q, _, _, hq, _⟩ := dd'; ⟨q, hq⟩
    exact d_write I (by rw [e]; exact True.intro) hs he (dk_new hl hd (rel.put k rv) dd')
  · subst ey eH
    cases (show u = Value.ref b from ry)
    obtain ⟨z, hd, xs, rel, dd⟩ := dt_of I.hok e
    have hz : xs.length ≤ sizeLine := by rw [← Paired.length rel]; exact z
    have hl : (putK kvs k v).length ≤ sizeLine := by have := length_putK kvs k v; omega
    refine wpAny_setItem_heap (hsz := hz) (tupleKind_room_in1 hu) (key_of I.hok eb) dd fun h' dd' hs => h _ ?_
    obtain ⟨q, es, ep, hq, h2, h3, h4, _, h5⟩ := dd'
    refine d_write I (by rw [e]; exact True.intro) hs ⟨q, hq⟩ ⟨hl, hd, _, (rel.put k eb rv).keeps fun c ys ec => ?_, q, es, ep, hq, h2, h3, h4, h5⟩
    rw [upd_ne (ne_of ec e (fun z => nomatch z))]
    exact ec
end

section
variable {X : Cx} {pins : List (Addr × Obj)} {σ : St} {H : Hp} {s : Shared} {a : Addr} {kvs : List (Key × V)} {k : Key} {u : Value} {A : Around} {E : Value → Shared → Prop}
/-- del d[k] -/
theorem d_delItem {Q : Unit → Shared → Prop} (I : Inv X pins σ H s) (e : H a = some (.dK kvs)) (ry : RelV (kV k) u) (l : (valV kvs k).isSome = true) (h : ∀ s', Inv X pins σ (upd H a (.dK (dropK kvs k))) s' → Q () s') :
    wpAny (model X.prog X.w) A (delItem (.ref a) u) Q E s := by
  obtain ⟨z, hd, vs, rel, dd⟩ := dk_of I.hok e
  refine wpAny_delItem_slot dd.typeIs (by decide) PySem.F.slot_dict_delitem
    (call_meetsIn PySem.F.slot_dict_delitem dd.typeIs PySem.F.entry_dict_delitem (PySem.F.args_dict_delitem_2 _ _) (meets_dict_delitem_pairs (mixKind X.prog X.w) a (kV_is ry)) ⟨vs, dd, by rw [← rel.length]; exact z, by rw [← (rel.val k).isSome_eq]; exact l, fun h' dd' hs => h _ ?_⟩)
  have he : ∃ q, h'.get? a = some q := let ⟨q, _, _, hq, _⟩ := dd'; ⟨q, hq⟩
  exact d_write I (by rw [e]; exact True.intro) hs he (dk_new (Nat.le_trans (dropK_le kvs k) z) hd (rel.drop k) dd')
/-- d.pop(k[, x]), there -/
theorem d_pop {v : V} {more : List Value} {Q : Value → Shared → Prop} (I : Inv X pins σ H s) (e : H a = some (.dK kvs)) (ry : RelV (kV k) u) (l : valV kvs k = some v) (hm : more = [] ∨ ∃ x, more = [x])
    (h : ∀ w' s', Inv X pins σ (upd H a (.dK (dropK kvs k))) s' → RelV v w' → Q w' s') : wpAny (model X.prog X.w) A (call (.builtin "dict.pop") (.ref a :: u :: more)) Q E s := by
  obtain ⟨z, hd, vs, rel, dd⟩ := dk_of I.hok e
  obtain ⟨w', hw, rw'⟩ := RelO.some_of (v := v) (o := valueAt vs k) (by rw [← l]; exact rel.val k)
  have hp : (keyPart u).isSome = true := by
    cases k with
    | inl i => obtain ⟨t, q⟩ := (show ∃ t, u = Value.int i t from ry); subst q; rfl
    | inr x => obtain ⟨t, q⟩ := (show ∃ t, u = Value.str x t from ry); subst q; rfl
  have ha : argsOk "dict.pop" ⟨.ref a :: u :: more, []⟩ := by
    rcases hm with q | ⟨x, q⟩
    · subst q; exact PySem.F.args_dict_pop_2 _ _
    · subst q; exact PySem.F.args_dict_pop_3 _ _ _
  refine call_meetsIn PySem.F.slot_dict_pop dd.typeIs PySem.F.entry_dict_pop ha (meets_dict_pop_there (mixKind X.prog X.w) a (kV_is ry) more hm hp)
    ⟨vs, w', dd, by rw [← rel.length]; exact z, hw, fun h' dd' hs => h w' _ ?_ rw'⟩
  have he : ∃ q, h'.get? a = some q := let ⟨q, _, _, hq, _⟩ := dd'; ⟨q, hq⟩
  exact d_write I (by rw [e]; exact True.intro) hs he (dk_new (Nat.le_trans (dropK_le kvs k) z) hd (rel.drop k) dd')
/-- d.pop(k, x), not there -/
theorem d_popD {r : Value} {Q : Value → Shared → Prop} (I : Inv X pins σ H s) (e : H a = some (.dK kvs)) (ry : RelV (kV k) u) (l : valV kvs k = none) (h : ∀ s', Inv X pins σ H s' → Q r s') :
    wpAny (model X.prog X.w) A (call (.builtin "dict.pop") [.ref a, u, r]) Q E s := by
  obtain ⟨z, hd, vs, rel, dd⟩ := dk_of I.hok e
  have hn : valueAt vs k = none := RelO.none_of (by rw [← l]; exact rel.val k)
  have hp : (keyPart u).isSome = true := by
    cases k with
    | inl i => obtain ⟨t, q⟩ := (show ∃ t, u = Value.int i t from ry); subst q; rfl
    | inr x => obtain ⟨t, q⟩ := (show ∃ t, u = Value.str x t from ry); subst q; rfl
  exact call_meetsIn PySem.F.slot_dict_pop dd.typeIs PySem.F.entry_dict_pop (PySem.F.args_dict_pop_3 _ _ _) (meets_dict_pop_default (mixKind X.prog X.w) a (kV_is ry) hd hp r) ⟨vs, dd, hn, h _ (I.tok _)⟩
/-- d.clear() -/
theorem d_clear {Q : Value → Shared → Prop} (I : Inv X pins σ H s) (e : H a = some (.dK kvs)) (h : ∀ s', Inv X pins σ (upd H a (.dK [])) s' → Q .none s') : wpAny (model X.prog X.w) A (call (.builtin "dict.clear") [.ref a]) Q E s := by
  obtain ⟨z, hd, vs, rel, dd⟩ := dk_of I.hok e
  refine call_meetsIn PySem.F.slot_dict_clear dd.typeIs PySem.F.entry_dict_clear (PySem.F.args_dict_clear_1 _) (meets_dict_clear (mixKind X.prog X.w) a) ⟨vs, dd, by rw [← rel.length]; exact z, fun h' dd' hs => h _ ?_⟩
  have he : ∃ q, h'.get? a = some q := let ⟨q, _, _, hq, _⟩ := dd'; ⟨q, hq⟩
  exact d_write (t' := s.toks) I (by rw [e]; exact True.intro) hs he (dk_new (Nat.zero_le _) hd .nil dd')
/-- len(d) -/
theorem d_len {Q : Value → Shared → Prop} (I : Inv X pins σ H s) (e : Rd H a (.dK kvs)) (h : ∀ t s', Inv X pins σ H s' → Q (.int kvs.length t) s') : wpAny (model X.prog X.w) A (call (.builtin "len") [.ref a]) Q E s := by
  obtain ⟨z, hd, vs, rel, dd⟩ := dk_rd I.hok e
  refine call_len_dict hd dd (by rw [← rel.length]; rw [sizeLine_eq] at z; omega) ?_
  rw [← rel.length]
  exact h _ _ (I.tok _)
/-- if d -/
theorem d_truth {Q : Bool → Shared → Prop} (I : Inv X pins σ H s) (e : Rd H a (.dK kvs)) (h : ∀ s', Inv X pins σ H s' → Q (!kvs.isEmpty) s') : wpAny (model X.prog X.w) A (truthy (.ref a)) Q E s := by
  obtain ⟨z, hd, vs, rel, dd⟩ := dk_rd I.hok e
  refine wpAny_truthy_dict hd dd (by rw [← rel.length]; rw [sizeLine_eq] at z; omega) ?_
  have q : kvs.isEmpty = vs.isEmpty := by cases rel <;> rfl
  rw [← q]
  exact h _ (I.tok _)
end


/-! ### readings and rules -/
/-- the element of a subscription, not a slice -/
def NoSl (i : Expr) : Prop := ∀ ov iv, subscripted i false ov iv = operate [ov, iv] (getItem ov iv)
theorem subD_of {prog : Program} {w : World} {A : Around} {E : Value → Shared → Prop} {s : Shared} {env : Env} {value slice : Expr} {pos : Pos} {T id : String} {Q : Value → Shared → Prop}
    (hl : typeLookup (.type T) "__getitem__" = pure (some (.builtin id))) (hs : NoSl slice)
    (h : wpAny (model prog w) A (eval value env) (fun o s₁ => wpAny (model prog w) A (eval slice env) (fun i s₂ => s₂.TypeIs o T ∧ wpAny (model prog w) A (getItem o i) Q E s₂) E s₁) E s) :
    wpAny (model prog w) A (eval (.Subscript value slice pos) env) Q E s := by
  refine Subscript_ (wpAny_mono h (fun o s₁ h₁ => wpAny_mono h₁ (fun i s₂ h₂ => ?_) fun _ _ x => x) fun _ _ x => x)
  obtain ⟨hT, h₂⟩ := h₂
  unfold subscriptTail
  refine wpAny_bind ?_
  rw [getitemInPython_of_ne hT.not_modules]
  refine wpAny_bind (wpAny_specialOf hT hl ?_)
  have fin : wpAny (model prog w) A (subscripted slice false o i) (fun r s₃ => wpAny (model prog w) A (letTemporaryGo value o r >>= fun _ => pure r) Q E s₃) E s₂ := by
    rw [hs o i]
    exact wpAny_operating (wpAny_mono h₂ (fun r s₃ h₃ => wpAny_bind (wpAny_letTemporaryGo (wpAny_pure h₃))) fun _ _ x => x)
  first
    | exact wpAny_pure (wpAny_bind fin)
    | exact wpAny_bind (wpAny_pure (wpAny_bind fin))
    | exact wpAny_bind fin

theorem dict_typeIs {X : Cx} {pins : List (Addr × Obj)} {σ : St} {H : Hp} {s : Shared} {a : Addr} {y : V} {o : Option V} (I : Inv X pins σ H s) (g : DGet H a y o) : s.TypeIs (.ref a) "dict" := by
  rcases g with ⟨kvs, k, e, _, _⟩ | ⟨kvs, k, b, e, _, _, _⟩
  · obtain ⟨_, _, vs, _, dd⟩ := dk_rd I.hok e
    exact dd.typeIs
  · obtain ⟨_, _, xs, _, dd⟩ := dt_rd I.hok e
    exact dd.typeIs
theorem dict_noDict {X : Cx} {pins : List (Addr × Obj)} {σ : St} {H : Hp} {s : Shared} {a : Addr} {y : V} {o : Option V} (I : Inv X pins σ H s) (g : DGet H a y o) :
    ∀ b, Value.ref a = .ref b → ∃ ob, s.heap.get? b = some ob ∧ ob.dict = none := fun b q => by
  cases q
  rcases g with ⟨kvs, k, e, _, _⟩ | ⟨kvs, k, b, e, _, _, _⟩
  · obtain ⟨_, _, vs, _, ob, _, _, h1, h2, _⟩ := dk_rd I.hok e
    exact ⟨ob, h1, h2.2.1⟩
  · obtain ⟨_, _, xs, _, ob, _, _, h1, h2, _⟩ := dt_rd I.hok e
    exact ⟨ob, h1, h2.2.1⟩

/-- d[y] -/
def tDGet (td ty : TE) : TE := fun σ H Q => td σ H fun x H1 => ty σ H1 fun y H2 => ∃ a v, x = .ref a ∧ DGet H2 a y (some v) ∧ Q v H2
/-- y in d, y not in d -/
def tDIn (ty td : TE) : TE := fun σ H Q => ty σ H fun y H1 => td σ H1 fun x H2 => ∃ a o, x = .ref a ∧ DGet H2 a y o ∧ Q (.bl o.isSome) H2
def tDNotIn (ty td : TE) : TE := fun σ H Q => ty σ H fun y H1 => td σ H1 fun x H2 => ∃ a o, x = .ref a ∧ DGet H2 a y o ∧ Q (.bl (!o.isSome)) H2
/-- d[y] = v -/
def sDPut (td ty tv : TE) : TS := fun D σ H => tv σ H fun v H1 => td σ H1 fun x H2 => ty σ H2 fun y H3 => ∃ a H4, x = .ref a ∧ DPut H3 a y v H4 ∧ D.nx σ H4
/-- d[y] op= v -/
def sDAug (td ty tv : TE) (rd : V → V → Hp → VK → Prop) : TS := fun D σ H => td σ H fun x H1 => ty σ H1 fun y H2 => ∃ a v, x = .ref a ∧ DGet H2 a y (some v) ∧
  tv σ H2 fun y2 H3 => rd v y2 H3 fun z H4 => ∃ H5, DPut H4 a y z H5 ∧ D.nx σ H5
/-- del d[y] -/
def sDDel (td ty : TE) : TS := fun D σ H => td σ H fun x H1 => ty σ H1 fun y H2 => ∃ a kvs k, x = .ref a ∧ H2 a = some (.dK kvs) ∧ y = kV k ∧ (valV kvs k).isSome = true ∧ D.nx σ (upd H2 a (.dK (dropK kvs k)))

section
variable {X : Cx} {o i e value : Expr} {pos pos' tpos : Pos} {td ty tv : TE}
theorem pe_dget (hu : X.A.units + 1 < cLine) (ho : PE X o td) (hi : PE X i ty) (hs : NoSl i) : PE X (.Subscript o i pos) (tDGet td ty) := by
  intro pins s σ H Q I h
  refine subD_of PySem.F.slot_dict_getitem.lookup hs (thn (ho pins s σ H _ I h) fun u s1 ⟨x, H1, I1, rx, q1⟩ => thn (hi pins s1 σ H1 _ I1 q1) fun iv s2 ⟨y, H2, I2, ry, a, v, ex, g, q2⟩ => ?_)
  subst ex
  obtain rfl : u = Value.ref a := rx
  exact ⟨dict_typeIs I2 g, d_getItem hu I2 g ry fun w' s3 I3 rw' => ⟨v, H2, I3, rw', q2⟩⟩
theorem pc_din (hu : X.A.units + 1 < cLine) (hi : PE X i ty) (ho : PE X o td) : PC X .In i o (tDIn ty td) := by
  intro pins s σ H Q I h
  refine thn (hi pins s σ H _ I h) fun iv s1 ⟨y, H1, I1, ry, q1⟩ => thn (ho pins s1 σ H1 _ I1 q1) fun u s2 ⟨x, H2, I2, rx, a, ov, ex, g, q2⟩ => ?_
  subst ex
  obtain rfl : u = Value.ref a := rx
  exact d_in hu I2 g ry fun s3 I3 => ⟨.bl ov.isSome, H2, I3, rfl, q2⟩
theorem pc_dnotin (hu : X.A.units + 1 < cLine) (hi : PE X i ty) (ho : PE X o td) : PC X .NotIn i o (tDNotIn ty td) := by
  intro pins s σ H Q I h
  refine thn (hi pins s σ H _ I h) fun iv s1 ⟨y, H1, I1, ry, q1⟩ => thn (ho pins s1 σ H1 _ I1 q1) fun u s2 ⟨x, H2, I2, rx, a, ov, ex, g, q2⟩ => ?_
  subst ex
  obtain rfl : u = Value.ref a := rx
  exact d_notIn hu I2 g ry fun s3 I3 => ⟨.bl (!ov.isSome), H2, I3, rfl, q2⟩
theorem ps_dput (hu : X.A.units + 1 < cLine) (ho : PE X o td) (hi : PE X i ty) (hv : PE X value tv) (hs : swapsWith value (some (.Subscript o i pos')) pos.line X.env = pure false) :
    PS X (.Assign [.Subscript o i pos'] value pos) (sDPut td ty tv) := by
  intro pins s σ H D I h
  refine wpAny_Assign_Subscript (thn (hv pins s σ H _ I h) fun r s1 ⟨v, H1, I1, rv, q1⟩ => thn (ho pins s1 σ H1 _ I1 q1) fun u s2 ⟨x, H2, I2, rx, q2⟩ => thn (hi pins s2 σ H2 _ I2 q2) fun iv s3 ⟨y, H3, I3, ry, a, H4, ex, g, q3⟩ => ?_) hs
  subst ex
  obtain rfl : u = Value.ref a := rx
  exact d_setItem hu I3 g ry rv fun s4 I4 => ⟨σ, H4, I4, q3⟩
theorem ps_daug {op : Operator} {rd : V → V → Hp → VK → Prop} (hu : X.A.units + 1 < cLine) (ho : PE X o td) (hi : PE X i ty) (hv : PE X value tv) (hop : InOp X op rd)
    (ha : ∀ ov iv new, augStore i ov iv new = (do holding [new, ov, iv] (setItem ov iv new); release [new, ov, iv] []; pure .next)) : PS X (.AugAssign (.Subscript o i tpos) op value pos) (sDAug td ty tv rd) := by
  intro pins s σ H D I h
  refine wpAny_AugAssign_SubscriptAny (thn (ho pins s σ H _ I h) fun u s1 ⟨x, H1, I1, rx, q1⟩ => thn (hi pins s1 σ H1 _ I1 q1) fun iv s2 ⟨y, H2, I2, ry, a, v, ex, g, q2⟩ => ?_) ha
  subst ex
  obtain rfl : u = Value.ref a := rx
  refine d_getItem hu I2 g ry fun w' s3 I3 rw' => thn (hv pins s3 σ H2 _ I3 q2) fun w2 s4 ⟨y2, H3, I4, ry2, q3⟩ => thn (hop pins s4 σ H3 v y2 w' w2 _ I4 rw' ry2 q3) fun w3 s5 ⟨z, H4, I5, rz, H5, g5, q4⟩ => ?_
  exact d_setItem hu I5 g5 ry rz fun s6 I6 => ⟨σ, H5, I6, q4⟩
theorem ps_ddel (ho : PE X o td) (hi : PE X i ty) : PS X (.Delete [.Subscript o i tpos] pos) (sDDel td ty) := by
  intro pins s σ H D I h
  refine wpAny_Delete (wpAny_deleteEach_cons (wpAny_delete_Subscript (thn (ho pins s σ H _ I h) fun u s1 ⟨x, H1, I1, rx, q1⟩ => thn (hi pins s1 σ H1 _ I1 q1) fun iv s2 ⟨y, H2, I2, ry, a, kvs, k, ex, e, ey, l, q2⟩ => ?_)))
  subst ex ey
  obtain rfl : u = Value.ref a := rx
  exact d_delItem I2 e ry l fun s3 I3 => wpAny_deleteEach_nil ⟨σ, _, I3, q2⟩
end


/-! ### displays -/
theorem dk_empty {P : Program} {w : World} {H : Hp} (h : Heap) (hb : sysModules < h.objs.size) : ObjOk P w H (h.push { cls := .type "dict", data := .dict #[] }) h.objs.size (.dK []) :=
  ⟨Nat.zero_le _, beq_eq_false_iff_ne.mpr (Ne.symm (Nat.ne_of_lt hb)), [], .nil, Heap.DictOf.new h⟩
theorem dt_empty {P : Program} {w : World} {H : Hp} (h : Heap) (hb : sysModules < h.objs.size) : ObjOk P w H (h.push { cls := .type "dict", data := .dict #[] }) h.objs.size (.dT []) :=
  ⟨Nat.zero_le _, beq_eq_false_iff_ne.mpr (Ne.symm (Nat.ne_of_lt hb)), [], .nil, _, #[], 0, Heap.get?_push_size _ rfl, ⟨rfl, rfl, rfl⟩, rfl, rfl, List.nodup_nil⟩
/-- {}, to be a dict of the kind that is wanted -/
def tDNewK : TE := fun _ H Q => ∀ p, H p = none → Q (.ref p) (upd H p (.dK []))
def tDNewT : TE := fun _ H Q => ∀ p, H p = none → Q (.ref p) (upd H p (.dT []))
section
variable {X : Cx} {pos : Pos}
theorem pe_dnewK : PE X (.Dict [] [] pos) tDNewK := fun pins s σ H Q I h =>
  wpAny_Dict_empty ⟨.ref s.heap.objs.size, _, I.laid (a := s.heap.objs.size) (o := .dK []) (t' := s.toks) (fun _ _ q => Heap.get?_push_of_some _ q) (Nat.le_refl _) (dk_empty s.heap I.big), rfl, h _ (I.hok.fresh (Nat.le_refl _))⟩
theorem pe_dnewT : PE X (.Dict [] [] pos) tDNewT := fun pins s σ H Q I h =>
  wpAny_Dict_empty ⟨.ref s.heap.objs.size, _, I.laid (a := s.heap.objs.size) (o := .dT []) (t' := s.toks) (fun _ _ q => Heap.get?_push_of_some _ q) (Nat.le_refl _) (dt_empty s.heap I.big), rfl, h _ (I.hok.fresh (Nat.le_refl _))⟩
end

/-- the pairs of a display, from the left -/
def tPairs : List (TE × TE) → St → Hp → (List (V × V) → Hp → Prop) → Prop
  | [], _, H, Q => Q [] H
  | (tk, tv) :: r, σ, H, Q => tk σ H fun x H1 => tv σ H1 fun y H2 => tPairs r σ H2 fun ps H3 => Q ((x, y) :: ps) H3
abbrev VV : List (V × V) → List (Value × Value) → Prop := Paired fun p q => RelV p.1 q.1 ∧ RelV p.2 q.2
def PPs (X : Cx) (pos : Pos) (keys : List (Option Expr)) (values : List Expr) (trs : List (TE × TE)) : Prop :=
  ∀ (pins : List (Addr × Obj)) (s : Shared) (σ : St) (H : Hp) (Q : List (V × V) → Hp → Prop), Inv X pins σ H s → tPairs trs σ H Q →
    wpAny (model X.prog X.w) X.A (evalPairs (pairTrees keys values X.env pos)) (fun vs s' => ∃ ps H', Inv X pins σ H' s' ∧ VV ps vs ∧ Q ps H') X.xe s
theorem pps_nil {X : Cx} {pos : Pos} : PPs X pos [] [] [] := fun pins s σ H Q I h => pairTrees_nil_walk ⟨[], H, I, .nil, h⟩
theorem pps_cons {X : Cx} {pos : Pos} {k v : Expr} {ks : List (Option Expr)} {vs : List Expr} {tk tv : TE} {trs : List (TE × TE)} (hk : PE X k tk) (hv : PE X v tv) (hr : PPs X pos ks vs trs) :
    PPs X pos (some k :: ks) (v :: vs) ((tk, tv) :: trs) := fun pins s σ H Q I h =>
  pairTrees_cons_walk (thn (hk pins s σ H _ I h) fun u s1 ⟨x, H1, I1, rx, q1⟩ => thn (hv pins s1 σ H1 _ I1 q1) fun w2 s2 ⟨y, H2, I2, ry, q2⟩ =>
    thn (hr pins s2 σ H2 _ I2 q2) fun ws s3 ⟨ps, H3, I3, rel, q3⟩ => ⟨(x, y) :: ps, H3, I3, .cons ⟨rx, ry⟩ rel, q3⟩)

def mergeK (kvs more : List (Key × V)) : List (Key × V) := more.foldl (fun acc kv => putK acc kv.1 kv.2) kvs
theorem KV.merge : ∀ {more : List (Key × V)} {rs : List (Key × Value)} {kvs : List (Key × V)} {vs : List (Key × Value)}, KV more rs → KV kvs vs → KV (mergeK kvs more) (merged vs rs) := by
  intro more rs kvs vs r
  unfold KV at r
  induction r generalizing kvs vs with
  | nil => intro q; exact q
  | @cons p q ps qs h t ih =>
    intro r0
    have e : KV (putK kvs p.1 p.2) (stored vs q.1 q.2) := by
      have := r0.put p.1 h.2
      rw [← h.1]; exact this
    exact ih e
theorem length_mergeK : ∀ (more kvs : List (Key × V)), (mergeK kvs more).length ≤ kvs.length + more.length
  | [], kvs => by show kvs.length ≤ kvs.length + 0; omega
  | p :: r, kvs => by
    have h1 := length_mergeK r (putK kvs p.1 p.2)
    have h2 := length_putK kvs p.1 p.2
    show (mergeK (putK kvs p.1 p.2) r).length ≤ _
    rw [List.length_cons]; omega
theorem carries_of {P : Program} {w : World} : ∀ {kvs : List (Key × V)} {ws : List (Value × Value)}, VV (kvs.map fun kv => (kV kv.1, kv.2)) ws → ∃ rs, Carries (mixKind P w) ws rs ∧ KV kvs rs
  | [], _, r => by rw [List.map_nil] at r; cases r; exact ⟨[], True.intro, .nil⟩
  | p :: kvs, _, r => by
    rw [List.map_cons] at r
    cases r with
    | @cons a b as bs h t =>
      obtain ⟨rs, c, q⟩ := carries_of (P := P) (w := w) t
      obtain ⟨b1, b2⟩ := b
      exact ⟨(p.1, b2) :: rs, ⟨kV_is h.1, rfl, c⟩, .cons ⟨rfl, h.2⟩ q⟩
/-- {k: v, ..} with keys ints and texts; the new dict stands empty while the pairs are made -/
def tDisp (trs : List (TE × TE)) : TE := fun σ H Q => ∀ p, H p = none → tPairs trs σ (upd H p (.dK [])) fun ps H2 => H2 p = some (.dK []) ∧ ∃ kvs : List (Key × V), ps = kvs.map (fun kv => (kV kv.1, kv.2)) ∧ kvs.length ≤ 15 ∧ Q (.ref p) (upd H2 p (.dK (mergeK [] kvs)))
theorem pe_disp {X : Cx} {pos : Pos} {keys : List (Option Expr)} {values : List Expr} {trs : List (TE × TE)} (h : PPs X pos keys values trs) (hall : keys.all (·.isSome) = true) (hl : keys.length = values.length) (h0 : keys ≠ [])
    (h15 : keys.length ≤ 15) : PE X (.Dict keys values pos) (tDisp trs) := by
  intro pins s σ H Q I q
  have hn := I.hok.fresh (Nat.le_refl s.heap.objs.size)
  have I1 := I.laid (a := s.heap.objs.size) (o := .dK []) (h' := s.heap.push { cls := .type "dict", data := .dict #[] }) (t' := s.toks) (fun _ _ q => Heap.get?_push_of_some _ q) (Nat.le_refl _) (dk_empty s.heap I.big)
  refine wpAny_Dict_walk (knd := mixKind X.prog X.w) hall hl h0 h15 (thn (h pins _ σ _ _ I1 (q _ hn)) fun ws s2 ⟨ps, H2, I2, rel, e, kvs, ep, lk, q2⟩ => ?_)
  subst ep
  obtain ⟨rs, c, rk⟩ := carries_of (P := X.prog) (w := X.w) rel
  obtain ⟨z, hd, vs0, r0, dd⟩ := dk_of I2.hok e
  cases r0
  refine ⟨rs, c, dd, fun h' dd' hs => ⟨.ref s.heap.objs.size, _, ?_, rfl, q2⟩⟩
  have hz : (mergeK [] kvs).length ≤ sizeLine := by
    have h1 := length_mergeK kvs []
    rw [List.length_nil] at h1
    rw [sizeLine_eq]; omega
  have he : ∃ q, h'.get? s.heap.objs.size = some q := let ⟨q, _, _, hq, _⟩ := dd'; ⟨q, hq⟩
  exact d_write I2 (by rw [e]; exact True.intro) hs he (dk_new hz hd (rk.merge .nil) dd')


/-! ### methods -/
/-- a method call o.m(e) of a built-in, with one argument: what must be seen of the text -/
structure M1 (X : Cx) (o : Expr) (m : Str) (apos : Pos) (e : Expr) (cpos : Pos) : Prop where
  base : attributeBase o m X.env (eval o X.env) = eval o X.env
  few : ((backTo cpos (starEach [e] X.env)).all (fun x => !x.1) && (backToKw cpos (keywordEach [] X.env)).all (fun x => x.1.isSome)
    && decide (([e] : List Expr).length + ([] : List Keyword).length + (if ([] : List Keyword).isEmpty then 0 else 1) < 30)) = true
  line : (apos.endLine == cpos.line) = true
  trees : backTo cpos (starEach [e] X.env) = [(false, eval e X.env)]
structure M2 (X : Cx) (o : Expr) (m : Str) (apos : Pos) (e f : Expr) (cpos : Pos) : Prop where
  base : attributeBase o m X.env (eval o X.env) = eval o X.env
  few : ((backTo cpos (starEach [e, f] X.env)).all (fun x => !x.1) && (backToKw cpos (keywordEach [] X.env)).all (fun x => x.1.isSome)
    && decide (([e, f] : List Expr).length + ([] : List Keyword).length + (if ([] : List Keyword).isEmpty then 0 else 1) < 30)) = true
  line : (apos.endLine == cpos.line) = true
  trees : backTo cpos (starEach [e, f] X.env) = [(false, eval e X.env), (false, eval f X.env)]

/-- a is a dict, whatever its keys -/
def IsD (H : Hp) (a : Addr) : Prop := (∃ kvs, Rd H a (.dK kvs)) ∨ ∃ kvs, Rd H a (.dT kvs)
theorem isD_at {X : Cx} {pins : List (Addr × Obj)} {σ : St} {H : Hp} {s : Shared} {a : Addr} (I : Inv X pins σ H s) (d : IsD H a) :
    s.TypeIs (.ref a) "dict" ∧ (∀ b, Value.ref a = .ref b → ∃ ob, s.heap.get? b = some ob ∧ ob.dict = none) ∧ (a == sysModules) = false := by
  rcases d with ⟨kvs, e⟩ | ⟨kvs, e⟩
  · obtain ⟨_, hd, vs, _, dd⟩ := dk_rd I.hok e
    refine ⟨dd.typeIs, fun b q => ?_, hd⟩
    cases q
    obtain ⟨ob, _, _, h1, h2, _⟩ := dd
    exact ⟨ob, h1, h2.2.1⟩
  · obtain ⟨_, hd, xs, _, dd⟩ := dt_rd I.hok e
    refine ⟨dd.typeIs, fun b q => ?_, hd⟩
    cases q
    obtain ⟨ob, _, _, h1, h2, _⟩ := dd
    exact ⟨ob, h1, h2.2.1⟩

section
variable {X : Cx} {pins : List (Addr × Obj)} {σ : St} {H : Hp} {s : Shared} {a : Addr} {y d : V} {u r : Value} {o : Option V} {A : Around} {E : Value → Shared → Prop}
/-- d.get(y) -/
theorem d_get1 {Q : Value → Shared → Prop} (hu : A.units + 1 < cLine) (I : Inv X pins σ H s) (g : DGet H a y o) (ry : RelV y u) (h : ∀ w' s', Inv X pins σ H s' → RelV (o.getD .non) w' → Q w' s') :
    wpAny (model X.prog X.w) A (call (.builtin "dict.get") [.ref a, u]) Q E s := by
  rcases g with ⟨kvs, k, e, ey, l⟩ | ⟨kvs, k, b, e, ey, eb, l⟩
  · subst ey
    obtain ⟨z, hd, vs, rel, dd⟩ := dk_rd I.hok e
    refine call_meetsIn PySem.F.slot_dict_get dd.typeIs PySem.F.entry_dict_get (PySem.F.args_dict_get_2 _ _) (meets_dict_get (mixKind X.prog X.w) a (kV_is ry) hd) ⟨_, dd.mapOf, h _ _ (I.tok _) ?_⟩
    rw [l]
    exact (rel.val k).getD rfl
  · subst ey
    cases (show u = Value.ref b from ry)
    obtain ⟨z, hd, xs, rel, dd⟩ := dt_rd I.hok e
    refine call_meetsIn PySem.F.slot_dict_get dd.typeIs PySem.F.entry_dict_get (PySem.F.args_dict_get_2 _ _) (meetsH_dict_get (tupleKind (mixKind X.prog X.w)) a b hd) ⟨tupleKind_room_in1 hu, k, xs, key_of I.hok eb, dd, h _ _ (I.tok _) ?_⟩
    rw [l]
    exact (rel.val k).getD rfl
/-- d.get(y, x) -/
theorem d_get2 {Q : Value → Shared → Prop} (hu : A.units + 1 < cLine) (I : Inv X pins σ H s) (g : DGet H a y o) (ry : RelV y u) (rd : RelV d r) (h : ∀ w' s', Inv X pins σ H s' → RelV (o.getD d) w' → Q w' s') :
    wpAny (model X.prog X.w) A (call (.builtin "dict.get") [.ref a, u, r]) Q E s := by
  rcases g with ⟨kvs, k, e, ey, l⟩ | ⟨kvs, k, b, e, ey, eb, l⟩
  · subst ey
    obtain ⟨z, hd, vs, rel, dd⟩ := dk_rd I.hok e
    refine call_meetsIn PySem.F.slot_dict_get dd.typeIs PySem.F.entry_dict_get (PySem.F.args_dict_get_3 _ _ _) (meets_dict_get_default (mixKind X.prog X.w) a (kV_is ry) hd r) ⟨_, dd.mapOf, h _ _ (I.tok _) ?_⟩
    rw [l]
    exact (rel.val k).getD rd
  · subst ey
    cases (show u = Value.ref b from ry)
    obtain ⟨z, hd, xs, rel, dd⟩ := dt_rd I.hok e
    refine call_meetsIn PySem.F.slot_dict_get dd.typeIs PySem.F.entry_dict_get (PySem.F.args_dict_get_3 _ _ _) (meetsH_dict_get_default (tupleKind (mixKind X.prog X.w)) a b hd r) ⟨tupleKind_room_in1 hu, k, xs, key_of I.hok eb, dd, h _ _ (I.tok _) ?_⟩
    rw [l]
    exact (rel.val k).getD rd
end

def tDGet1 (td ty : TE) : TE := fun σ H Q => td σ H fun x H1 => ∃ a, x = .ref a ∧ IsD H1 a ∧ ty σ H1 fun y H2 => ∃ o, DGet H2 a y o ∧ Q (o.getD .non) H2
def tDGet2 (td ty tx : TE) : TE := fun σ H Q => td σ H fun x H1 => ∃ a, x = .ref a ∧ IsD H1 a ∧ ty σ H1 fun y H2 => tx σ H2 fun z H3 => ∃ o, DGet H3 a y o ∧ Q (o.getD z) H3
/-- d.pop(k): there; d.pop(k, x): there or not -/
def tDPop1 (td ty : TE) : TE := fun σ H Q => td σ H fun x H1 => ∃ a, x = .ref a ∧ IsD H1 a ∧ ty σ H1 fun y H2 => ∃ kvs k v, H2 a = some (.dK kvs) ∧ y = kV k ∧ valV kvs k = some v ∧ Q v (upd H2 a (.dK (dropK kvs k)))
def tDPop2 (td ty tx : TE) : TE := fun σ H Q => td σ H fun x H1 => ∃ a, x = .ref a ∧ IsD H1 a ∧ ty σ H1 fun y H2 => tx σ H2 fun z H3 => ∃ kvs k, H3 a = some (.dK kvs) ∧ y = kV k ∧
  (∀ v, valV kvs k = some v → Q v (upd H3 a (.dK (dropK kvs k)))) ∧ (valV kvs k = none → Q z H3)
section
variable {X : Cx} {o e f : Expr} {apos cpos : Pos} {td ty tx : TE}
theorem pe_dget1 (hu : X.A.units + 1 < cLine) (ho : PE X o td) (he : PE X e ty) (m : M1 X o "get" apos e cpos) : PE X (.Call (.Attribute o "get" apos) [e] [] cpos) (tDGet1 td ty) := by
  intro pins s σ H Q I h
  refine wpAny_Call_method m.base m.few m.line PySem.F.plainAttrs_dict PySem.F.slot_dict_get PySem.F.type_dict_get (thn (ho pins s σ H _ I h) fun u s1 ⟨x, H1, I1, rx, a, ex, d, q1⟩ => ?_)
  subst ex
  obtain rfl : u = Value.ref a := rx
  obtain ⟨t1, t2, _⟩ := isD_at I1 d
  refine ⟨t1, t2, ?_⟩
  rw [m.trees]
  refine Calls.callWith_builtin rfl (Calls.evalArgs_plain (Calls.spliced_cons (thn (he pins s1 σ H1 _ I1 q1) fun iv s2 ⟨y, H2, I2, ry, ov, g, q2⟩ => Calls.spliced_nil ?_)))
  exact d_get1 hu I2 g ry fun w' s3 I3 rw' => ⟨_, H2, I3, rw', q2⟩
theorem pe_dget2 (hu : X.A.units + 1 < cLine) (ho : PE X o td) (he : PE X e ty) (hf : PE X f tx) (m : M2 X o "get" apos e f cpos) : PE X (.Call (.Attribute o "get" apos) [e, f] [] cpos) (tDGet2 td ty tx) := by
  intro pins s σ H Q I h
  refine wpAny_Call_method m.base m.few m.line PySem.F.plainAttrs_dict PySem.F.slot_dict_get PySem.F.type_dict_get (thn (ho pins s σ H _ I h) fun u s1 ⟨x, H1, I1, rx, a, ex, d, q1⟩ => ?_)
  subst ex
  obtain rfl : u = Value.ref a := rx
  obtain ⟨t1, t2, _⟩ := isD_at I1 d
  refine ⟨t1, t2, ?_⟩
  rw [m.trees]
  refine Calls.callWith_builtin rfl (Calls.evalArgs_plain (Calls.spliced_cons (thn (he pins s1 σ H1 _ I1 q1) fun iv s2 ⟨y, H2, I2, ry, q2⟩ =>
    Calls.spliced_cons (thn (hf pins s2 σ H2 _ I2 q2) fun fv s3 ⟨z, H3, I3, rz, ov, g, q3⟩ => Calls.spliced_nil ?_))))
  exact d_get2 hu I3 g ry rz fun w' s4 I4 rw' => ⟨_, H3, I4, rw', q3⟩
theorem pe_dpop1 (ho : PE X o td) (he : PE X e ty) (m : M1 X o "pop" apos e cpos) : PE X (.Call (.Attribute o "pop" apos) [e] [] cpos) (tDPop1 td ty) := by
  intro pins s σ H Q I h
  refine wpAny_Call_method m.base m.few m.line PySem.F.plainAttrs_dict PySem.F.slot_dict_pop PySem.F.type_dict_pop (thn (ho pins s σ H _ I h) fun u s1 ⟨x, H1, I1, rx, a, ex, d, q1⟩ => ?_)
  subst ex
  obtain rfl : u = Value.ref a := rx
  obtain ⟨t1, t2, _⟩ := isD_at I1 d
  refine ⟨t1, t2, ?_⟩
  rw [m.trees]
  refine Calls.callWith_builtin rfl (Calls.evalArgs_plain (Calls.spliced_cons (thn (he pins s1 σ H1 _ I1 q1) fun iv s2 ⟨y, H2, I2, ry, kvs, k, v, ea, ey, l, q2⟩ => Calls.spliced_nil ?_)))
  subst ey
  exact d_pop I2 ea ry l (.inl rfl) fun w' s3 I3 rw' => ⟨v, _, I3, rw', q2⟩
theorem pe_dpop2 (ho : PE X o td) (he : PE X e ty) (hf : PE X f tx) (m : M2 X o "pop" apos e f cpos) : PE X (.Call (.Attribute o "pop" apos) [e, f] [] cpos) (tDPop2 td ty tx) := by
  intro pins s σ H Q I h
  refine wpAny_Call_method m.base m.few m.line PySem.F.plainAttrs_dict PySem.F.slot_dict_pop PySem.F.type_dict_pop (thn (ho pins s σ H _ I h) fun u s1 ⟨x, H1, I1, rx, a, ex, d, q1⟩ => ?_)
  subst ex
  obtain rfl : u = Value.ref a := rx
  obtain ⟨t1, t2, _⟩ := isD_at I1 d
  refine ⟨t1, t2, ?_⟩
  rw [m.trees]
  refine Calls.callWith_builtin rfl (Calls.evalArgs_plain (Calls.spliced_cons (thn (he pins s1 σ H1 _ I1 q1) fun iv s2 ⟨y, H2, I2, ry, q2⟩ =>
    Calls.spliced_cons (thn (hf pins s2 σ H2 _ I2 q2) fun fv s3 ⟨z, H3, I3, rz, kvs, k, ea, ey, q3, q4⟩ => Calls.spliced_nil ?_))))
  subst ey
  cases l : valV kvs k with
  | some v => exact d_pop I3 ea ry l (.inr ⟨fv, rfl⟩) fun w' s4 I4 rw' => ⟨v, _, I4, rw', q3 v l⟩
  | none => exact d_popD I3 ea ry l fun s4 I4 => ⟨z, H3, I4, rz, q4 l⟩
end

/-! ### dict(d): a copy -/
section
variable {X : Cx} {pins : List (Addr × Obj)} {σ : St} {H : Hp} {s : Shared} {a : Addr} {kvs : List (Key × V)} {A : Around} {E : Value → Shared → Prop}
theorem d_copyOf {Q : Value → Shared → Prop} (I : Inv X pins σ H s) (e : Rd H a (.dK kvs)) (h : ∀ p s', H p = none → Inv X pins σ (upd H p (.dK kvs)) s' → Q (.ref p) s') : wpAny (model X.prog X.w) A (call (.type "dict") [.ref a]) Q E s := by
  obtain ⟨z, hd, vs, rel, dd⟩ := dk_rd I.hok e
  refine kt_call_dict hd dd (by rw [← rel.length]; exact z) fun h' dd' hs => ?_
  refine h _ _ (I.hok.fresh (Nat.le_refl _)) (I.laid (a := s.heap.objs.size) (o := .dK kvs) (t' := s.toks) (fun b q hq => ?_) (Nat.le_refl _) (dk_new z (beq_eq_false_iff_ne.mpr (Ne.symm (Nat.ne_of_lt I.big))) rel dd'))
  exact (hs.2 b (Nat.ne_of_lt (Heap.lt_size hq))).trans (Heap.get?_push_of_some _ hq)
end


section
variable {X : Cx} {pins : List (Addr × Obj)} {σ : St} {H : Hp} {s : Shared} {a : Addr} {y : V} {u : Value} {A : Around} {E : Value → Shared → Prop}
/-- d[y], not there: a KeyError -/
theorem d_missing {Q : Value → Shared → Prop} (hu : A.units + 1 < cLine) (hh : A.handled = none) (I : Inv X pins σ H s) (g : DGet H a y none) (ry : RelV y u)
    (h : ∀ h' e t', Heap.NewExc s.heap h' e "KeyError" → E (.ref e) { s with heap := h', toks := t' }) : wpAny (model X.prog X.w) A (getItem (.ref a) u) Q E s := by
  rcases g with ⟨kvs, k, e, ey, l⟩ | ⟨kvs, k, b, e, ey, eb, l⟩
  · subst ey
    obtain ⟨z, hd, vs, rel, dd⟩ := dk_rd I.hok e
    have hn : valueAt vs k = none := RelO.none_of (by rw [l]; exact rel.val k)
    exact wpAny_getItem_missing_of (kV_is ry) hd hh dd.mapOf hn fun h' ex ne => h h' ex _ ne
  · subst ey
    cases (show u = Value.ref b from ry)
    obtain ⟨z, hd, xs, rel, dd⟩ := dt_rd I.hok e
    have hn : (atKey xs k).map (·.2) = none := RelO.none_of (by rw [l]; exact rel.val k)
    exact wpAny_getItem_missing_heap (tupleKind_room_in1 hu) (key_of I.hok eb) hd hh dd (Option.map_eq_none_iff.mp hn) fun h' ex ne => h h' ex _ ne
end
end L2

namespace L2
open PySem PySem.Spec PyProof.Rows

theorem list_keys_none : typeLookup (.type "list") "keys" = pure none := am_miss_of_fast (by first | decide +kernel | rfl)
theorem ud_entry : entryFor table "dict.update.loop" = some Builtin.«dict.update.loop» := entryFor_of_tree (by kernel_rfl)
theorem ud_plain : plainId "dict.update.loop" = true := by decide +kernel

section
variable {prog : Program} {w : World} {A : Around} {E : Value → Shared → Prop}
/-- a list has no attribute 'keys': an AttributeError is made, and forgotten -/
theorem miss_list {s : Shared} {a : Addr} {o : Obj} {xs : Array Value} {k : Nat} {Q : Option Value → Shared → Prop} (hx : s.heap.get? a = some o) (hc : o.cls = .type "list") (hdat : o.data = .seq xs k) (hd : o.dict = none) (hA : A.handled = none)
    (h : ∀ h' tk, (∀ b ob, s.heap.get? b = some ob → h'.get? b = some ob) → Q none { s with heap := h', toks := tk }) : wpAny (model prog w) A (getAttr? (.ref a) "keys") Q E s := by
  obtain ⟨c, dct, dat, sl⟩ := o
  simp only at hc hdat hd
  subst hc hdat hd
  obtain ⟨hp, g, d, tk, os⟩ := s
  have hT : ∀ tk', (⟨hp, g, d, tk', os⟩ : Shared).TypeIs (.ref a) "list" := fun _ => ⟨_, hx, rfl⟩
  have hmiss := list_keys_none
  have hname : (["__module__", "__name__", "__qualname__", "__doc__", "__annotations__"] : List Str).contains "keys" = false := by decide +kernel
  have hsz : ("keys" : Str).length + 100 ≤ sizeLine := by first | size_fits | decide +kernel
  have f1 := sub_AttributeError
  have f3 := PySem.F.slot_list_getattribute.lookup
  have f4 := PySem.F.slot_list_getattribute.bind (.ref a)
  have f5 := am_list_getattr_none
  unfold getAttr? getAttrBy? getAttrBy
  repeat (any_goals (first | assumption | exact hT _ | ((with_reducible show wpAny _ _ (call (Value.builtin "list.__getattribute__") _ _) _ _ _); refine call_meets PySem.F.slot_list_getattribute (hT _) am_entry_list_getattribute (PySem.F.args_list_getattribute_2 _ _) (meets_getattribute_miss_list a xs k sl "keys" _ hmiss hname hsz) ⟨hx, hA, fun h' tk' e hx' => ?_⟩) | wp_step))
  obtain ⟨t', u', he⟩ := hx'.there
  show wpAny _ _ (getattributeRaised _ _ _ _ _ _ _) _ _ _
  unfold getattributeRaised
  repeat (any_goals (first | assumption | wp_step))
  all_goals first | exact h _ _ hx'.keeps | (dsimp only; repeat (any_goals (first | assumption | exact h _ _ hx'.keeps | wp_step)))

/-- the walk over the pairs -/
theorem upd_loop {R : Result → Shared → Prop} {S I l : Addr} {items : Array Value} {res : Value} (hh : A.handled = none) (hlI : l ≠ I) (hSI : S ≠ I) (hSl : S ≠ l) :
    ∀ (rest : List (Key × Value)) (i : Nat) (acc : List (Key × Value)) (ix : Int) (t : Tok) (s : Shared), items.size = i + rest.length → acc.length + rest.length ≤ sizeLine →
      (∀ (j : Nat) (q : Key × Value), rest[j]? = some q → ∃ (b : Addr) (u : Value), items[i + j]? = some (.ref b) ∧ b ≠ S ∧ b ≠ I ∧ IsTup s.heap b #[u, q.2] ∧ keyIs q.1 u = true) →
      s.heap.IsListIter I l i → s.heap.IsList l items → s.heap.DictOf (mixKind prog w) S acc →
      (∀ h' tk, h'.DictOf (mixKind prog w) S (merged acc rest) → (∀ b o, b ≠ S → b ≠ I → s.heap.get? b = some o → h'.get? b = some o) → R (.ok (.ret res)) { s with heap := h', toks := tk }) →
      codeAny (model prog w) A (.builtin "dict.update.loop" ⟨[.ref S, .ref I, .int ix t, res], []⟩) R s
  | [], i, acc, ix, t, s, hsz, hln, ht, hit, hl, hm, hR => by
    refine codeAny_builtin ud_entry ?_
    rw [Around.under_plainId ud_plain _]
    show wpAny _ A.in1 (pyNext (.ref I) >>= _) _ _ s
    refine wpAny_bind (wpAny_pyNext_list_end (A := A.in1) hh hit hl (by first | exact Array.getElem?_eq_none (Nat.le_of_eq hsz) | (simp at hsz; simp; omega)) fun h' he => ?_)
    show wpAny _ A.in1 (Builtin.Dict.addKeywords S [] >>= _) _ _ _
    refine wpAny_bind (wpAny_pure (wpAny_pure ?_))
    exact hR h' s.toks (hm.extBut he hSI) fun b o _ hb e => he b o hb e
  | q :: rest, i, acc, ix, t, s, hsz, hln, ht, hit, hl, hm, hR => by
    obtain ⟨b, u, hb, hbS, hbI, htup, hk⟩ := ht 0 q rfl
    rw [List.length_cons] at hsz hln
    refine codeAny_builtin ud_entry ?_
    rw [Around.under_plainId ud_plain _]
    show wpAny _ A.in1 (pyNext (.ref I) >>= _) _ _ s
    refine wpAny_bind (wpAny_pyNext_list_item (x := .ref b) hit hl (by simpa using hb) fun h1 hit1 hs1 => ?_)
    have ht1 : IsTup h1 b #[u, q.2] := htup.extBut hs1.extBut hbI
    have hl1 : h1.IsList l items := hl.extBut hs1.extBut hlI
    have hm1 : h1.DictOf (mixKind prog w) S acc := hm.extBut hs1.extBut hSI
    obtain ⟨o, ho, hc, n, hd⟩ := id ht1
    show wpAny _ A.in1 (holding [Value.ref b] _ >>= _) _ _ _
    refine wpAny_bind (wpAny_holding ?_)
    refine wpAny_bind (wpAny_tryCatch ?_)
    unfold Builtin.Dict.pairItems
    refine wpAny_bind (wpAny_typeOf (T := "tuple") ⟨o, ho, hc⟩ ?_)
    rw [if_pos (by first | decide | rfl | simp)]
    refine wpAny_bind (wpAny_seqItems ho hd (wpAny_pure ?_))
    show wpAny _ A.in1 (holding [u, q.2] (dictSet S u q.2)) _ _ _
    refine wpAny_holding (wpAny_dictSet_pairs (knd := mixKind prog w) (k := q.1) hk hm1 (fun h2 hm2 hs2 => ?_) (by omega))
    refine wpAny_pure ⟨plainId_quiet ud_plain _, upd_loop (items := items) hh hlI hSI hSl rest (i + 1) (stored acc q.1 q.2) (ix + 1) 0 _ (show items.size = i + 1 + rest.length by omega) ?_ (fun j q' e => ?_) ?_ ?_ hm2 fun h' tk hd' k => ?_⟩
    · have z := stored_length_le acc q.1 q.2
      omega
    · obtain ⟨b', u', hb', hbS', hbI', htup', hk'⟩ := ht (j + 1) q' (by simpa using e)
      refine ⟨b', u', ?_, hbS', hbI', (htup'.extBut hs1.extBut hbI').extBut hs2.extBut hbS', hk'⟩
      rw [show i + 1 + j = i + (j + 1) by omega]
      exact hb'
    · exact hit1.at fun o' e => hs2.extBut I o' (Ne.symm hSI) e
    · exact hl1.extBut hs2.extBut (Ne.symm hSl)
    · exact hR h' tk hd' fun c oc h3 h4 e => k c oc h3 h4 (hs2.extBut c oc h3 (hs1.extBut c oc h4 e))

/-- dict(l) of a list of pairs -/
theorem call_dict_pairs {s : Shared} {l : Addr} {ol : Obj} {items : Array Value} {n : Nat} {prs : List (Key × Value)} {Q : Value → Shared → Prop} (hh : A.handled = none) (hl : s.heap.get? l = some ol) (hc : ol.cls = .type "list") (hd : ol.dict = none)
    (hdat : ol.data = .seq items n) (hsz : items.size = prs.length) (hln : prs.length ≤ sizeLine)
    (ht : ∀ (j : Nat) (q : Key × Value), prs[j]? = some q → ∃ (b : Addr) (u : Value), items[j]? = some (.ref b) ∧ IsTup s.heap b #[u, q.2] ∧ keyIs q.1 u = true)
    (h : ∀ h' tk, h'.DictOf (mixKind prog w) s.heap.objs.size (merged [] prs) → (∀ b o, s.heap.get? b = some o → h'.get? b = some o) → Q (.ref s.heap.objs.size) { s with heap := h', toks := tk }) :
    wpAny (model prog w) A (call (.type "dict") [.ref l]) Q E s := by
  refine callType_codes (Q₁ := fun obj s₁ => obj = .ref s.heap.objs.size ∧ s₁ = { s with heap := s.heap.push { cls := .type "dict", data := .dict #[] } }) PySem.F.kt_called_dict (PySem.F.kt_typeCall_dict_1 _) PySem.F.entry_dict_init (kt_code_dict_new _ ⟨rfl, rfl⟩) ?_
  rintro obj s₁ ⟨rfl, rfl⟩
  have hnew : (s.heap.push { cls := .type "dict", data := .dict #[] }).DictOf (mixKind prog w) s.heap.objs.size [] := Heap.DictOf.new s.heap
  have k0 : ∀ b o, s.heap.get? b = some o → (s.heap.push { cls := .type "dict", data := .dict #[] }).get? b = some o := fun b o e => Heap.get?_push_of_some _ e
  refine ⟨hnew.typeIs, PySem.F.args_dict_init_2 _ _, ?_⟩
  unfold Builtin.«dict.__init__»
  refine wpAny_bind ?_
  unfold Builtin.Dict.selfAndRest
  refine wpAny_bind (wpAny_notOrdered_dict hnew.typeIs ?_)
  show wpAny _ _ (pure (s.heap.objs.size, [Value.ref l])) _ _ _
  refine wpAny_pure ?_
  show wpAny _ _ (Builtin.Dict.updateFrom "dict.__init__" s.heap.objs.size (.ref l) [] .none) _ _ _
  unfold Builtin.Dict.updateFrom
  refine wpAny_bind (wpAny_typeOf (T := "list") ⟨ol, k0 _ _ hl, hc⟩ ?_)
  rw [if_pos (by first | decide | rfl | simp)]
  refine wpAny_bind (miss_list (k0 _ _ hl) hc hdat hd hh fun h1 tk1 hk1 => ?_)
  rw [if_pos (show (none : Option Value).isNone = true from rfl)]
  refine wpAny_bind (wpAny_rule ?_)
  have hl1 : h1.IsList l items := ⟨ol, hk1 _ _ (k0 _ _ hl), hc, n, hdat⟩
  have hS1 : s.heap.objs.size < h1.objs.size := by
    have e : (s.heap.push { cls := .type "dict", data := .dict #[] }).get? s.heap.objs.size = some { cls := .type "dict", data := .dict #[] } := Heap.get?_push_size _ rfl
    exact Heap.lt_size (hk1 _ _ e)
  refine wpAny_bind (wpAny_pyIter_list hl1 ?_)
  have k2 : ∀ b o, h1.get? b = some o → (h1.push { cls := .type "list_iterator", data := .fields #[.ref l, .int 0 0] }).get? b = some o := fun b o e => Heap.get?_push_of_some _ e
  have hlt : l < s.heap.objs.size := Heap.lt_size hl
  have key := upd_loop (prog := prog) (w := w) (A := A.in1) (R := wants (fun r s₂ => r = .none ∧ Q (.ref s.heap.objs.size) s₂) E) (S := s.heap.objs.size) (I := h1.objs.size) (l := l) (items := items) (res := Value.none) hh
    (Nat.ne_of_lt (Nat.lt_trans hlt hS1)) (Nat.ne_of_lt hS1) (Nat.ne_of_gt hlt) prs 0 [] 0 0
    { s with heap := h1.push { cls := .type "list_iterator", data := .fields #[.ref l, .int 0 0] }, toks := tk1 } (by rw [hsz, Nat.zero_add]) (by rw [List.length_nil, Nat.zero_add]; exact hln)
    (fun j q e => by
      obtain ⟨b, u, e1, e2, e3⟩ := ht j q e
      have hb : b < s.heap.objs.size := e2.lt
      exact ⟨b, u, by rw [Nat.zero_add]; exact e1, Nat.ne_of_lt hb, Nat.ne_of_lt (Nat.lt_trans hb hS1), e2.keeps fun c o z => k2 _ _ (hk1 _ _ (k0 _ _ z)), e3⟩)
    ⟨_, Heap.get?_push_size _ rfl, rfl, rfl⟩ (hl1.at fun o e => k2 _ _ e) ((hnew.at fun o e => hk1 _ _ e).at fun o e => k2 _ _ e)
    (fun h' tk hd' k => ⟨rfl, h h' tk hd' fun b o e => k b o (Nat.ne_of_lt (Heap.lt_size e)) (Nat.ne_of_lt (Nat.lt_trans (Heap.lt_size e) hS1)) (k2 _ _ (hk1 _ _ (k0 _ _ e)))⟩)
  first
    | exact wpAny_pure ⟨plainId_quiet ud_plain _, key⟩
    | exact wpAny_bind (wpAny_pure (wpAny_pure ⟨plainId_quiet ud_plain _, key⟩))
end

section
variable {X : Cx}
theorem pairs_of {pins : List (Addr × Obj)} {σ : St} {H : Hp} {s : Shared} (I : Inv X pins σ H s) : ∀ {ps : List Addr} {kvs : List (Key × V)}, Paired (fun p kv => SqT X.K H p [kV kv.1, kv.2]) ps kvs →
    ∃ prs : List (Key × Value), KV kvs prs ∧ prs.length = ps.length ∧ ∀ (j : Nat) (q : Key × Value), prs[j]? = some q → ∃ (b : Addr) (u : Value), ps[j]? = some b ∧ IsTup s.heap b #[u, q.2] ∧ keyIs q.1 u = true
  | _, _, .nil => ⟨[], .nil, rfl, fun j q e => by simp at e⟩
  | _, _, .cons (a := p) (b := kv) h t => by
    obtain ⟨prs, r, hl, hp⟩ := pairs_of I t
    obtain ⟨its, rv, ht, _⟩ := I.tuple h
    obtain ⟨u, y, ei, ru, ry⟩ := vals2 rv
    subst ei
    refine ⟨(kv.1, y) :: prs, .cons ⟨rfl, ry⟩ r, by rw [List.length_cons, List.length_cons, hl], fun j q e => ?_⟩
    cases j with
    | zero =>
      have e' : (kv.1, y) = q := Option.some.inj e
      subst e'
      exact ⟨p, u, rfl, ht, kV_is (P := X.prog) (w := X.w) ru⟩
    | succ j =>
      obtain ⟨b, u', e1, e2, e3⟩ := hp j q (by simpa using e)
      exact ⟨b, u', by simpa using e1, e2, e3⟩
theorem refs_at : ∀ {ps : List Addr} {us : List Value}, Vals (ps.map V.ref) us → us = ps.map Value.ref
  | [], us, r => by
    rw [List.map_nil] at r
    cases r
    rfl
  | p :: ps, us, r => by
    rw [List.map_cons] at r
    cases r with
    | cons h t =>
      cases h
      rw [List.map_cons, ← refs_at t]
/-- dict(xs) of a list of pairs (key, value): later pairs win, the place is the first one's -/
theorem call_dictP (hcalm : X.calm = true) : CallR X (.type "dict") (fun xs H Q => ∃ (a : Addr) (ps : List Addr) (kvs : List (Key × V)), xs = [.ref a] ∧ SqL X.K H a (ps.map V.ref) ∧ Paired (fun p kv => SqT X.K H p [kV kv.1, kv.2]) ps kvs ∧
    ∀ p, H p = none → Q (.ref p) (upd H p (.dK (mergeK [] kvs)))) := by
  intro pins s σ H xs us Q I r q
  obtain ⟨a, ps, kvs, ex, hq, hp, q⟩ := q
  subst ex
  obtain ⟨u, eu, rx⟩ := vals1 r
  subst eu
  cases rx
  obtain ⟨its, rv, pl, hz⟩ := I.list hq
  have ei := refs_at rv
  subst ei
  rw [List.length_map] at hz
  obtain ⟨prs, rel, hl, hpr⟩ := pairs_of I hp
  obtain ⟨o, n, ho, hc, hd, hdat⟩ := pl
  refine call_dict_pairs (prs := prs) (I.ok.hd hcalm) ho hc hd hdat (by simp [hl]) (by rw [hl]; exact hz) (fun j q' e => ?_) fun h' tk hd' k => ?_
  · obtain ⟨b, u, e1, e2, e3⟩ := hpr j q' e
    exact ⟨b, u, by simp [e1], e2, e3⟩
  · have hm : (s.heap.objs.size == sysModules) = false := beq_eq_false_iff_ne.mpr (Nat.ne_of_gt I.big)
    have hlen : (mergeK [] kvs).length ≤ sizeLine := by
      refine Nat.le_trans (length_mergeK kvs []) ?_
      rw [List.length_nil, Nat.zero_add, rel.length, hl]
      exact hz
    exact ⟨.ref s.heap.objs.size, upd H s.heap.objs.size (.dK (mergeK [] kvs)), I.laid (t' := tk) k (Nat.le_refl _) (show ObjOk X.prog X.w _ _ _ (.dK (mergeK [] kvs)) from ⟨hlen, hm, merged [] prs, KV.merge rel .nil, hd'⟩), rfl, q _ (I.hok.fresh (Nat.le_refl _))⟩
end
end L2

namespace L2
open PySem PySem.Spec PyProof.Rows

theorem boot_reversed5 : bootBuiltins "reversed" = some (.type "reversed") := by decide +kernel

section
variable {X : Cx} {pins : List (Addr × Obj)} {σ : St} {H : Hp} {s : Shared} {h' : Heap}
/-- several records of ours have turned -/
theorem Inv.turnedL {t' : Nat} {ch : List Addr} (I : Inv X pins σ H s) (k : ∀ b o, b ∉ ch → s.heap.get? b = some o → h'.get? b = some o) (hf : ∀ b ∈ ch, FpOk X pins H b) : Inv X pins σ H { s with heap := h', toks := t' } := by
  have nit : ∀ b u, H b = some u → b ∉ ch := fun b u e z => by
    have q := (hf b z).1
    rw [q] at e; cases e
  refine I.step (g' := s.gens) (d' := s.drawn) (ch := ch) (fun b hb => ⟨(hf b hb).2.2.2.1, (hf b hb).2.1, (hf b hb).2.2.2.2.1, (hf b hb).2.2.2.2.2⟩) (fun b o _ _ hc e _ => k b o hc e) (fun b o _ _ hc e _ => ⟨o.slots, k b o hc e⟩)
    (fun _ _ _ _ n => n) (fun b o hc e => ⟨o, k b o hc e⟩) (fun _ _ e => e) (fun _ _ _ e => e) (fun b ps e => ⟨#[], by rw [e]; simp⟩) (fun m hm => ?_) (fun b u e => ?_) I.bare
  · obtain ⟨o, es, ep, ho, r⟩ := hm
    exact ⟨o, es, ep, k _ o (fun z => (hf _ z).2.1 rfl) ho, r⟩
  · refine (I.hok b u e).stay (fun c v hc q => k c v ?_ q) (fun _ q => q) fun _ _ q => q
    rcases hc with z | z
    · rw [z]; exact nit b u e
    · exact nit c _ z
/-- .. and one new object is laid -/
theorem Inv.turnedNew {t' : Nat} {ch : List Addr} {T : Addr} {ob : HO} (I : Inv X pins σ H s) (k : ∀ b o, b ∉ ch → s.heap.get? b = some o → h'.get? b = some o) (hf : ∀ b ∈ ch, FpOk X pins H b) (hT : s.heap.objs.size ≤ T)
    (new : ObjOk X.prog X.w (upd H T ob) h' T ob) : Inv X pins σ (upd H T ob) { s with heap := h', toks := t' } := by
  have hn : H T = none := I.hok.fresh hT
  have nit : ∀ b u, H b = some u → b ∉ ch := fun b u e z => by
    have q := (hf b z).1
    rw [q] at e; cases e
  refine I.step (g' := s.gens) (d' := s.drawn) (ch := ch) (fun b hb => ⟨(hf b hb).2.2.2.1, (hf b hb).2.1, (hf b hb).2.2.2.2.1, (hf b hb).2.2.2.2.2⟩) (fun b o _ _ hc e _ => k b o hc e) (fun b o _ _ hc e _ => ⟨o.slots, k b o hc e⟩)
    (fun b o _ e n => ?_) (fun b o hc e => ⟨o, k b o hc e⟩) (fun b xs e => ?_) (fun b o u e => ?_) (fun b ps e => ⟨#[], ?_⟩) (fun m hm => ?_) (fun b u e => ?_) I.bare
  · rw [upd_ne (Nat.ne_of_lt (Nat.lt_of_lt_of_le (Heap.lt_size e) hT))]; exact n
  · rw [upd_ne (ne_of_none e hn)]; exact e
  · rw [upd_ne (ne_of_none e hn)]; exact e
  · rw [upd_ne (ne_of_none e hn), e]; simp
  · obtain ⟨o, es, ep, ho, r⟩ := hm
    exact ⟨o, es, ep, k _ o (fun z => (hf _ z).2.1 rfl) ho, r⟩
  · by_cases hb : b = T
    · subst hb
      rw [upd_same] at e
      cases e
      exact new
    · rw [upd_ne hb] at e
      refine (I.hok b u e).stay (fun c v hc q => k c v ?_ q) (fun c q => by rw [upd_ne (ne_of_none q hn)]; exact q) fun c xs q => by rw [upd_ne (ne_of_none q hn)]; exact q
      rcases hc with z | z
      · rw [z]; exact nit b u e
      · exact nit c _ z

/-! ### locking a thing while a statement runs -/
theorem Inv.lock {d : Addr} {u : HO} (I : Inv X pins σ H s) (h : H d = some u) (mu : Mut (some u)) : ∃ od, Inv X pins σ (upd H d (.frz od u)) s := by
  have x := I.hok d u h
  have ex : ∃ od, s.heap.get? d = some od := by
    cases u with
    | lst xs => obtain ⟨_, _, _, _, e⟩ := x; exact ⟨_, e⟩
    | dK kvs => obtain ⟨_, _, _, _, o, _, _, e, _⟩ := x; exact ⟨o, e⟩
    | dT kvs => obtain ⟨_, _, _, _, o, _, _, e, _⟩ := x; exact ⟨o, e⟩
    | set S n => obtain ⟨o, _, _, _, e, _⟩ := x; exact ⟨o, e⟩
    | ins C dx fs => obtain ⟨_, _, _, e, _⟩ := x; exact ⟨_, e⟩
    | ext φ => obtain ⟨_, ⟨_, e⟩, _⟩ := x; exact ⟨_, e⟩
    | _ => exact False.elim mu
  obtain ⟨od, e⟩ := ex
  have new : ObjOk X.prog X.w (upd H d (.frz od u)) s.heap d (.frz od u) := by
    refine ⟨e, x.stay (fun b v _ q => q) (fun b q => ?_) fun b xs q => ?_⟩
    · rw [upd_ne (fun z => by rw [z, h] at q; cases q; exact mu)]; exact q
    · rw [upd_ne (fun z => by rw [z, h] at q; cases q; exact mu)]; exact q
  exact ⟨od, I.write (x := d) (e := d) (t' := s.toks) (h' := s.heap) (by rw [h]; exact mu) (.inl rfl) (fun b v _ q => q) ⟨od, e⟩ new⟩
theorem Inv.nofrz {d : Addr} {u : HO} (I : Inv X pins σ H s) (h : H d = some u) (mu : Mut (some u)) : ∀ o' u', X.H_0 d ≠ some (.frz o' u') := fun o' u' e => by
  have q := I.base.frzs d o' u' e
  rw [h] at q
  cases q
  exact mu
theorem Inv.unlock {d : Addr} {od : Obj} {u : HO} (I : Inv X pins σ H s) (h : H d = some (.frz od u)) (hn : ∀ o' u', X.H_0 d ≠ some (.frz o' u')) : Inv X pins σ (upd H d u) s := by
  have neH : ∀ b o, H b = some o → (∀ o' u', o ≠ .frz o' u') → b ≠ d := fun b o e hne z => by
    rw [z, h] at e
    cases e
    exact hne _ _ rfl
  have neN : ∀ b, H b = none → b ≠ d := fun b e z => by rw [z, h] at e; cases e
  refine ⟨I.ok, I.os, I.bare, ⟨I.base.keep, I.base.slot, fun b o e n hx => ?_, I.base.there, fun b xs e => ?_, fun b o x e => ?_, fun b ps e => ?_⟩, I.loc, I.cell, ?_, fun x c e => ?_, fun p hp => ?_, fun b o e => ?_, I.len⟩
  · rw [upd_ne (neN b (I.base.free b o e n hx))]; exact I.base.free b o e n hx
  · have q := I.base.tups b xs e
    rw [upd_ne (neH b _ q (fun _ _ z => nomatch z))]; exact q
  · have q := I.base.frzs b o x e
    rw [upd_ne (fun z => by rw [z] at e; exact hn _ _ e)]; exact q
  · obtain ⟨m, q⟩ := I.base.tbls b ps e
    exact ⟨m, by rw [upd_ne (neH b _ q (fun _ _ z => nomatch z))]; exact q⟩
  · rw [upd_ne (neN _ I.free)]; exact I.free
  · rw [upd_ne (neN c (I.freeC x c e))]; exact I.freeC x c e
  · obtain ⟨e, n, r⟩ := I.pin p hp
    exact ⟨e, by rw [upd_ne (neN _ n)]; exact n, r⟩
  · by_cases hb : b = d
    · rw [hb, upd_same] at e
      cases e
      rw [hb]
      obtain ⟨_, x⟩ := I.hok d _ h
      exact x.stay (fun c v _ q => q) (fun c q => by rw [upd_ne (neH c _ q (fun _ _ z => nomatch z))]; exact q) fun c xs q => by rw [upd_ne (neH c _ q (fun _ _ z => nomatch z))]; exact q
    · rw [upd_ne hb] at e
      exact (I.hok b o e).stay (fun c v _ q => q) (fun c q => by rw [upd_ne (neH c _ q (fun _ _ z => nomatch z))]; exact q) fun c xs q => by rw [upd_ne (neH c _ q (fun _ _ z => nomatch z))]; exact q
end
/-- the statement runs while the thing at d is locked (read, not written); d and what stands there are the reading's choice -/
def tLock (t : TS) : TS := fun D σ H => ∃ d u, H d = some u ∧ Mut (some u) ∧ ∀ od, t ⟨fun σ' H' => H' d = some (.frz od u) ∧ D.nx σ' (upd H' d u), fun v H' => H' d = some (.frz od u) ∧ D.rt v (upd H' d u), fun σ' H' => H' d = some (.frz od u) ∧ D.bk σ' (upd H' d u), fun σ' H' => H' d = some (.frz od u) ∧ D.ct σ' (upd H' d u)⟩ σ (upd H d (.frz od u))
def tLockE (t : TE) : TE := fun σ H Q => ∃ d u, H d = some u ∧ Mut (some u) ∧ ∀ od, t σ (upd H d (.frz od u)) fun v H' => H' d = some (.frz od u) ∧ Q v (upd H' d u)
section
variable {X : Cx}
theorem ps_lock {st : Stmt} {t : TS} (h : PS X st t) : PS X st (tLock t) := by
  intro pins s σ H D I hw
  obtain ⟨d, u, hd, mu, hw⟩ := hw
  obtain ⟨od, I1⟩ := I.lock hd mu
  refine thn (h pins s σ _ _ I1 (hw od)) fun f s1 q => ?_
  cases f with
  | next => obtain ⟨σ', H', I2, e, q⟩ := q; exact ⟨σ', _, I2.unlock e (I.nofrz hd mu), q⟩
  | brk => obtain ⟨σ', H', I2, e, q⟩ := q; exact ⟨σ', _, I2.unlock e (I.nofrz hd mu), q⟩
  | cont => obtain ⟨σ', H', I2, e, q⟩ := q; exact ⟨σ', _, I2.unlock e (I.nofrz hd mu), q⟩
  | ret v => obtain ⟨x, σ', H', I2, r, e, q⟩ := q; exact ⟨x, σ', _, I2.unlock e (I.nofrz hd mu), r, q⟩
theorem pe_lock {e : Expr} {t : TE} (h : PE X e t) : PE X e (tLockE t) := by
  intro pins s σ H Q I hw
  obtain ⟨d, u, hd, mu, hw⟩ := hw
  obtain ⟨od, I1⟩ := I.lock hd mu
  refine thn (h pins s σ _ _ I1 (hw od)) fun v s1 ⟨x, H1, I2, r, e2, q⟩ => ?_
  exact ⟨x, _, I2.unlock e2 (I.nofrz hd mu), r, q⟩

/-! ### one iterator just laid -/
theorem pi_one {tg : Expr} {pins : List (Addr × Obj)} {σ : St} {H : Hp} {s : Shared} {R : It → Hp → Prop} {J : It} {tn : Nat → Heap → Prop} {tk : Nat} (I : Inv X pins σ H s) (o : Obj)
    (T : Turn X.prog X.w X.K tg J [s.heap.objs.size] s.heap.objs.size tn) (st : tn 0 (s.heap.push o)) (q : R J H) : PIE X pins σ tg R (.ref s.heap.objs.size) { s with heap := s.heap.push o, toks := tk } := by
  refine ⟨s.heap.objs.size, [s.heap.objs.size], tn, J, H, rfl, I.kept fun b ob e => Heap.get?_push_of_some _ e, T, st, fun b hb => ?_, q⟩
  have e : b = s.heap.objs.size := by simpa using hb
  subst e
  exact I.fpOk (Nat.le_refl _) (I.hok.fresh (Nat.le_refl _))
end

/-! ### range with a step -/
/-- lo, lo + c, .. (n of them) -/
def Itc (lo c : Int) (n : Nat) : It := ⟨fun i _ => i < n, fun i H x H' => H' = H ∧ x = .int (lo + (i : Nat) * c), fun i _ => n ≤ i⟩
theorem turn_rangeC {P : Program} {w : World} {K : PySem.W.Frag} {tg : Expr} (it : Addr) (lo c : Int) (n : Nat) : Turn P w K tg (Itc lo c n) [it] it (fun i h => IsRangeIter h it (lo + (i : Nat) * c) ((n : Int) - (i : Nat)) c) where
  mem := by simp
  obj := fun i h st b hb => by
    have e : b = it := by simpa using hb
    subst e
    exact ⟨_, st, fun v z => nomatch z⟩
  keep := fun i h h' st k => k it (by simp) _ st
  item := by
    intro X hP hw hK hc i pins s σ H E I hf st hg
    subst hP hw hK
    obtain ⟨f0, f1, f2, f3, f4, f5⟩ := hf it (by simp)
    have W := Walks.range (prog := X.prog) (w := X.w) (I.ok.hd hc) it lo c n
    refine W.item i s _ _ hg st fun v h' tk hv st' kk => ?_
    obtain ⟨t, rfl⟩ := hv
    have I1 : Inv X pins σ H { s with heap := h', toks := tk } := I.turned (fun b o hb e => kk b o (by simpa using hb) e) f0 f1 f3 f4 f5
    exact ⟨_, rfl, go_of (s := { s with heap := h', toks := tk }) (n := "range_iterator") st' rfl rfl (by decide) ⟨.int (lo + (i : Nat) * c), H, I1, ⟨t, rfl⟩, ⟨rfl, rfl⟩, st', fun b hb => (hf b hb).1⟩⟩
  done := by
    intro X hP hw hK hc i pins s σ H E I hf st hg
    subst hP hw hK
    obtain ⟨f0, f1, f2, f3, f4, f5⟩ := hf it (by simp)
    exact wpAny_pyNext_range_end (I.ok.hd hc) st (by have : n ≤ i := hg; omega) fun h' eb => ⟨rfl, I.turned (t' := s.toks) (fun b o hb e => eb b o hb e) f0 f1 f3 f4 f5⟩
  self := fun A i s Q E st h => wpAny_pyIter_rangeiter st h
/-- range(i, j, c): small bounds, n items -/
def RgC (i j c : Int) (n : Nat) : Prop := c ≠ 0 ∧ c.natAbs < 1073741824 ∧ Builtin.Range.small i j c = true ∧ Builtin.Range.rangeSize i j c = n
theorem RgC.neg {i j : Int} (ha : -(2 ^ 62) ≤ i) (ha' : i < 2 ^ 62) (hb : -(2 ^ 62) ≤ j) (hb' : j < 2 ^ 62) : RgC i j (-1) (i - j).toNat :=
  ⟨by decide, by decide, PySem.W.small_down ha ha' hb hb', PySem.W.rangeSize_downNat i j⟩
def iRng3 (ta : TA) : TI := fun σ H R => ta σ H fun vs H1 => ∃ (i j c : Int) (n : Nat), vs = [.int i, .int j, .int c] ∧ RgC i j c n ∧ R (Itc i c n) H1
section
variable {X : Cx} {tg : Expr}
theorem pi_range3 {a b c : Expr} {ta : TA} {p pos : Pos} (hg : Gl X "range") (hm : X.mg "range" = none) (ha : PA X [a, b, c] ta)
    (hs : starEach [a, b, c] X.env = (false, eval a X.env) :: starEach [b, c] X.env := by rfl) (hpl : (backTo pos (starEach [b, c] X.env)).any (·.1) = false := by rfl) :
    PI X tg (.Call (.Name "range" p) [a, b, c] [] pos) (iRng3 ta) := by
  intro pins s σ H R I h
  refine Call_ (ld_blt I hg hm boot_range (PyProof.Rows.callWith_type1 (thn (ha pos pins s σ H _ I h) fun us s1 ⟨vs, H1, I1, r1, q1⟩ => ?_) hs hpl))
  obtain ⟨i, j, k, n, e, ⟨c0, c1, c2, c3⟩, q⟩ := q1
  subst e
  cases r1 with
  | cons r rr =>
    cases rr with
    | cons r' rr =>
      cases rr with
      | cons r'' rr =>
        cases rr
        obtain ⟨t, rfl⟩ := r
        obtain ⟨t', rfl⟩ := r'
        obtain ⟨t'', rfl⟩ := r''
        refine call_range_3 c0 ?_ (.inl (PyProof.noPylong_small c1))
        refine wpAny_pyIter_range (IsRange.new ..) c2 ?_
        have I2 : Inv X pins σ H1 { s1 with heap := s1.heap.push { cls := .type "range", data := .fields #[.int i t, .int j t', .int k t''] } } := I1.kept (t' := s1.toks) fun b o e => Heap.get?_push_of_some _ e
        refine pi_one (tk := s1.toks) I2 _ (turn_rangeC _ i k n) ?_ q
        have e1 : i + ((0 : Nat) : Int) * k = i := by simp
        have e2 : (n : Int) - ((0 : Nat) : Int) = Builtin.Range.rangeSize i j k := by rw [c3]; simp
        show IsRangeIter _ _ (i + ((0 : Nat) : Int) * k) ((n : Int) - ((0 : Nat) : Int)) k
        rw [e1, e2]
        exact Heap.get?_push_size _ rfl
end
/-- the turns of a step range, for the for loop -/
theorem for_rangeC {lo c : Int} {n : Nat} {g : TG} {tb : TS} {D : Ends} {σ : St} {H : Hp} (Pv : Nat → St → Hp → Prop) (h0 : Pv 0 σ H)
    (hs : ∀ i σ H, i < n → Pv i σ H → g (.int (lo + (i : Nat) * c)) σ H fun σ2 H2 => tb { D with nx := Pv (i + 1), ct := Pv (i + 1), bk := D.nx } σ2 H2) (hd : ∀ σ H, Pv n σ H → D.nx σ H) :
    ∃ W : Nat → Nat → St → Hp → Prop, (∃ m, W 0 m σ H) ∧ ∀ i m σ H, W i m σ H →
      ((Itc lo c n).stop i H ∧ D.nx σ H) ∨ ((Itc lo c n).go i H ∧ ∃ N : St → Hp → Prop, (∀ σ' H', N σ' H' → ∃ m', m' < m ∧ W (i + 1) m' σ' H') ∧ ∀ x H', (Itc lo c n).yld i H x H' → g x σ H' fun σ2 H2 => tb { D with nx := N, ct := N, bk := D.nx } σ2 H2) := by
  refine ⟨fun i m σ H => m = n - i ∧ i ≤ n ∧ Pv i σ H, ⟨n, by simp, Nat.zero_le _, h0⟩, ?_⟩
  rintro i m σ H ⟨rfl, hi, p⟩
  by_cases hlt : i < n
  · refine .inr ⟨hlt, Pv (i + 1), fun σ' H' p' => ⟨n - (i + 1), by omega, rfl, hlt, p'⟩, fun x H' y => ?_⟩
    obtain ⟨e, y⟩ := y
    subst e y
    exact hs i σ _ hlt p
  · have e : i = n := by omega
    subst e
    exact .inl ⟨Nat.le_refl _, hd σ H p⟩

/-! ### reversed(list) -/
/-- the list at a (n items at the start, which the loop leaves there), from its end -/
def Itv (K : PySem.W.Frag) (a : Addr) (n : Nat) : It :=
  ⟨fun i H => i < n ∧ ∃ (xs : List V) (x : V), SqL K H a xs ∧ xs[n - 1 - i]? = some x, fun i H x H' => H' = H ∧ ∀ xs, SqL K H a xs → xs[n - 1 - i]? = some x, fun i _ => n ≤ i⟩
theorem turn_rev {P : Program} {w : World} {K : PySem.W.Frag} {tg : Expr} (a it : Addr) (n : Nat) : Turn P w K tg (Itv K a n) [it] it (fun i h => i ≤ n ∧ h.IsRevIter it a ((n : Int) - 1 - (i : Nat))) where
  mem := by simp
  obj := fun i h st b hb => by
    have e : b = it := by simpa using hb
    subst e
    obtain ⟨_, o, e, c, d⟩ := st
    exact ⟨o, e, fun v z => by rw [d] at z; cases z⟩
  keep := fun i h h' st k => ⟨st.1, st.2.at fun o e => k it (by simp) o e⟩
  item := by
    intro X hP hw hK hc i pins s σ H E I hf st hg
    subst hP hw hK
    obtain ⟨hin, xs, x, hq, hx⟩ := hg
    obtain ⟨its, rv, p, hz⟩ := I.list hq
    obtain ⟨u, hu, ru⟩ := rv.get hx
    obtain ⟨f0, f1, f2, f3, f4, f5⟩ := hf it (by simp)
    obtain ⟨_, hit⟩ := st
    have e1 : (n : Int) - 1 - ((i : Nat) : Int) = ((n - 1 - i : Nat) : Int) := by omega
    rw [e1] at hit
    refine wpAny_pyNext_rev_item hit p.isList (x := u) (by simpa using hu) fun h' st' sb => ?_
    have e2 : ((n - 1 - i : Nat) : Int) - 1 = (n : Int) - 1 - ((i + 1 : Nat) : Int) := by omega
    rw [e2] at st'
    have I1 : Inv X pins σ H { s with heap := h' } := I.turned (t' := s.toks) (fun b o hb e => (sb.2 b hb).trans e) f0 f1 f3 f4 f5
    obtain ⟨o, e, c, d⟩ := id st'
    exact ⟨u, rfl, go_of (s := { s with heap := h' }) e c d (by decide) ⟨x, H, I1, ru, ⟨rfl, fun ys hy => by rw [I.list_inj hy hq]; exact hx⟩, ⟨hin, st'⟩, fun b hb => (hf b hb).1⟩⟩
  done := by
    intro X hP hw hK hc i pins s σ H E I hf st hg
    subst hP hw hK
    obtain ⟨f0, f1, f2, f3, f4, f5⟩ := hf it (by simp)
    obtain ⟨hin, hit⟩ := st
    have hge : n ≤ i := hg
    have e1 : (n : Int) - 1 - ((i : Nat) : Int) = -1 := by omega
    rw [e1] at hit
    exact wpAny_pyNext_rev_end (I.ok.hd hc) hit fun h' eb => ⟨rfl, I.turned (t' := s.toks) (fun b o hb e => eb b o hb e) f0 f1 f3 f4 f5⟩
  self := fun A i s Q E st h => wpAny_pyIter_revIter st.2 h
def iRev (K : PySem.W.Frag) (ta : TA) : TI := fun σ H R => ta σ H fun vs H1 => ∃ (a : Addr) (xs : List V), vs = [.ref a] ∧ SqL K H1 a xs ∧ R (Itv K a xs.length) H1
section
variable {X : Cx} {tg : Expr}
theorem pi_reversed {e : Expr} {ta : TA} {p pos : Pos} (hg : Gl X "reversed") (hm : X.mg "reversed" = none) (ha : PA X [e] ta) (hs : starEach [e] X.env = [(false, eval e X.env)] := by rfl) : PI X tg (.Call (.Name "reversed" p) [e] [] pos) (iRev X.K ta) := by
  intro pins s σ H R I h
  refine Call_ (ld_blt I hg hm boot_reversed5 (PyProof.Rows.callWith_type1 (thn (ha pos pins s σ H _ I h) fun us s1 ⟨vs, H1, I1, r1, q1⟩ => ?_) hs rfl))
  obtain ⟨a, xs, e, hq, q⟩ := q1
  subst e
  cases r1 with
  | cons r rr =>
    cases rr
    cases r
    obtain ⟨its, rv, p', hz⟩ := I1.list hq
    have hl := rv.length
    have e1 : ((its.toArray.size : Nat) : Int) - 1 = (xs.length : Int) - 1 - ((0 : Nat) : Int) := by simp only [List.size_toArray]; omega
    refine call_reversed_list p'.isList (wpAny_pyIter_revIter (l := a) (i := ((its.toArray.size : Nat) : Int) - 1) ⟨_, Heap.get?_push_size _ rfl, rfl, rfl⟩ ?_)
    refine pi_one (tk := s1.toks) I1 _ (turn_rev a _ xs.length) ⟨Nat.zero_le _, ?_⟩ q
    rw [← e1]
    exact ⟨_, Heap.get?_push_size _ rfl, rfl, rfl⟩
end

/-! ### a str -/
def Its (x : Str) : It := ⟨fun i _ => i < x.cps.size, fun i H v H' => H' = H ∧ ∃ c, x.cps[i]? = some c ∧ v = .str ⟨#[c]⟩, fun i _ => x.cps.size ≤ i⟩
theorem turn_str {P : Program} {w : World} {K : PySem.W.Frag} {tg : Expr} (it : Addr) (x : Str) (t : Tok) (ty : String) (hty : ty = "str_ascii_iterator" ∨ ty = "str_iterator") :
    Turn P w K tg (Its x) [it] it (fun i h => h.IsStrIter it ty x t i) where
  mem := by simp
  obj := fun i h st b hb => by
    have e : b = it := by simpa using hb
    subst e
    obtain ⟨o, e, c, d⟩ := st
    exact ⟨o, e, fun v z => by rw [d] at z; cases z⟩
  keep := fun i h h' st k => let ⟨o, ho, r⟩ := st; ⟨o, k it (by simp) o ho, r⟩
  item := by
    intro X hP hw hK hc i pins s σ H E I hf st hg
    subst hP hw hK
    obtain ⟨f0, f1, f2, f3, f4, f5⟩ := hf it (by simp)
    have W : Walks X.prog X.w X.A it [it] [it] x.cps.size (SignAt x) (fun i h => h.IsStrIter it ty x t i) := by
      rcases hty with e | e
      · rw [e]; exact Walks.strAscii (I.ok.hd hc) it x t
      · rw [e]; exact Walks.strWide (I.ok.hd hc) it x t
    have hno : ["enumerate", "zip", "dict_itemiterator", "dict_reverseitemiterator", "odict_iterator", "itertools.zip_longest", "itertools.pairwise"].contains ty = false := by
      rcases hty with e | e
      · rw [e]; decide
      · rw [e]; decide
    refine W.item i s _ _ hg st fun v h' tk hv st' kk => ?_
    obtain ⟨c, u, hcx, rfl⟩ := hv
    have I1 : Inv X pins σ H { s with heap := h', toks := tk } := I.turned (fun b o hb e => kk b o (by simpa using hb) e) f0 f1 f3 f4 f5
    obtain ⟨oi, e, cc, dd⟩ := id st'
    exact ⟨_, rfl, go_of (s := { s with heap := h', toks := tk }) e cc dd hno ⟨.str ⟨#[c]⟩, H, I1, ⟨u, rfl⟩, ⟨rfl, c, hcx, rfl⟩, st', fun b hb => (hf b hb).1⟩⟩
  done := by
    intro X hP hw hK hc i pins s σ H E I hf st hg
    subst hP hw hK
    obtain ⟨f0, f1, f2, f3, f4, f5⟩ := hf it (by simp)
    have hx : x.cps[i]? = none := Array.getElem?_eq_none hg
    rcases hty with e | e
    · rw [e] at st
      exact wpAny_pyNext_ascii_end (I.ok.hd hc) st hx fun h' eb => ⟨rfl, I.turned (t' := s.toks) (fun b o hb e => eb b o hb e) f0 f1 f3 f4 f5⟩
    · rw [e] at st
      exact wpAny_pyNext_wide_end (I.ok.hd hc) st hx fun h' eb => ⟨rfl, I.turned (t' := s.toks) (fun b o hb e => eb b o hb e) f0 f1 f3 f4 f5⟩
  self := fun A i s Q E st h => by
    rcases hty with e | e
    · rw [e] at st; exact wpAny_pyIter_striter_ascii st h
    · rw [e] at st; exact wpAny_pyIter_striter_wide st h
def iStr (te : TE) : TI := fun σ H R => te σ H fun v H1 => ∃ x, v = .str x ∧ R (Its x) H1
theorem pi_str {X : Cx} {tg e : Expr} {te : TE} (he : PE X e te) : PI X tg e (iStr te) := by
  intro pins s σ H R I h
  refine thn (he pins s σ H _ I h) fun v s1 ⟨y, H1, I1, r1, x, ex, q⟩ => ?_
  subst ex
  obtain ⟨t, rfl⟩ := r1
  cases ha : x.cps.all (· < 128)
  · exact wpAny_pyIter_wide ha (pi_one (tk := s1.toks) I1 _ (turn_str _ x t "str_iterator" (.inr rfl)) ⟨_, Heap.get?_push_size _ rfl, rfl, rfl⟩ q)
  · exact wpAny_pyIter_ascii ha (pi_one (tk := s1.toks) I1 _ (turn_str _ x t "str_ascii_iterator" (.inl rfl)) ⟨_, Heap.get?_push_size _ rfl, rfl, rfl⟩ q)

/-! ### a dict's keys: any dict's entries -/
section
variable {prog : Program} {w : World} {A : Around} {E : Value → Shared → Prop} {s : Shared}
theorem iter_keys {d : Addr} {o : Obj} {es : Array DictEntry} {ep : Nat} {Q : Value → Shared → Prop} (hd : (d == sysModules) = false) (ho : s.heap.get? d = some o) (hc : o.ExactDict) (hdat : o.data = .dict es ep)
    (hQ : Q (.ref s.heap.objs.size) { s with heap := s.heap.push { cls := .type "dict_keyiterator", data := .fields #[.ref d, .int 0 0, .int es.size 0, .int ep 0] } }) :
    wpAny (model prog w) A (pyIter (.ref d)) Q E s := by
  have hT : s.TypeIs (.ref d) "dict" := ⟨o, ho, hc.1⟩
  refine wpAny_pyIter_slot hT F.slot_dict_iter (wpAny_call_entry F.slot_dict_iter hT F.entry_dict_iter ?_ (F.args_dict_iter_1 _))
  unfold Builtin.«dict.__iter__»
  refine wpAny_bind ?_
  unfold Builtin.Dict.dictSlotNone
  refine wpAny_bind (wpAny_notOrdered_dict hT ?_)
  show wpAny _ _ (pure (Value.ref d)) _ _ s
  refine wpAny_pure ?_
  show wpAny _ _ (Builtin.Dict.showsAll d >>= _) _ _ s
  unfold Builtin.Dict.showsAll
  rw [if_neg (by rw [hd]; exact Bool.false_ne_true)]
  refine wpAny_bind (wpAny_pure ?_)
  refine wpAny_bind (wpAny_dictEntries ho hdat ?_)
  refine wpAny_bind (wpAny_dictEpoch ho hdat ?_)
  refine wpAny_bind (wpAny_newObj_type (wpAny_pure ⟨_, rfl, "dict_keyiterator", _, ⟨_, Heap.get?_push_size _ rfl, rfl⟩, F.slot_dict_keyiterator_next.lookup, ?_⟩))
  simpa [rawInt] using hQ
theorem next_key_item {it d : Addr} {i n ep : Nat} {od : Obj} {es : Array DictEntry} {en : DictEntry} {Q : Option Value → Shared → Prop} (hit : s.heap.IsKeyIter it d i n ep) (hod : s.heap.get? d = some od) (hdd : od.data = .dict es ep)
    (hsz : es.size = n) (hx : es[i]? = some en) (hQ : ∀ h', h'.IsKeyIter it d (i + 1) n ep → Heap.SameBut it s.heap h' → Q (some en.key) { s with heap := h' }) : wpAny (model prog w) A (pyNext (.ref it)) Q E s := by
  obtain ⟨o, ho, hc, hd⟩ := id hit
  unfold pyNext
  refine wpAny_bind (wpAny_attempt (wpAny_callSpecial?_slot (name := Str.ofString "__next__") hit.typeIs F.slot_dict_keyiterator_next
    (wpAny_call_entry F.slot_dict_keyiterator_next hit.typeIs F.entry_dict_keyiterator_next ?_ (F.args_dict_keyiterator_next_1 _))))
  refine wpAny_bind (wpAny_pure ?_)
  refine wpAny_bind ?_
  refine wpAny_bind ?_
  first | refine wpAny_bind (wpAny_typeNameOfWhole_keyiter hit.typeIs (wpAny_pure ?_)) | refine wpAny_bind (wpAny_typeNameOf_keyiter hit.typeIs (wpAny_pure ?_))
  refine wpAny_bind (wpAny_fieldsOf ho hd ?_)
  have hown : Builtin.Dict_items.ownsTuple "dict_keyiterator" = false := by decide
  simp only [hown, Bool.false_eq_true, if_false]
  show wpAny _ _ (if (Value.ref d == Value.none) = true then _ else _) _ _ s
  rw [if_neg (show ¬ ((Value.ref d == Value.none) = true) from Bool.false_ne_true)]
  refine wpAny_bind (wpAny_pure ?_)
  refine wpAny_bind (wpAny_dictEntries hod hdd ?_)
  rw [if_neg (by rw [hsz]; simp)]
  refine wpAny_bind (wpAny_pure ?_)
  refine wpAny_bind (wpAny_dictEpoch hod hdd ?_)
  rw [if_neg (by simp)]
  refine wpAny_pure ?_
  obtain ⟨hlt', hen⟩ := Array.getElem?_eq_some_iff.mp hx
  simp only [show ¬ ((i : Int) < 0) from by omega, if_false, Int.toNat_natCast, Array.getElem?_eq_getElem hlt']
  refine wpAny_bind ?_
  first | refine wpAny_bind (wpAny_typeNameOfWhole_keyiter hit.typeIs (wpAny_pure ?_)) | refine wpAny_bind (wpAny_typeNameOf_keyiter hit.typeIs (wpAny_pure ?_))
  refine wpAny_bind (wpAny_isOneOf_keyiter hit.typeIs ?_)
  show wpAny _ _ (setField (.ref it) 1 (rawInt ((i : Int) + 1)) >>= _) _ _ s
  refine wpAny_bind (wpAny_setField ho hd (by simp) ?_)
  have hit' : (s.heap.update it (Obj.mapFields (·.setIfInBounds 1 (rawInt ((i : Int) + 1))))).IsKeyIter it d (i + 1) n ep :=
    ⟨_, Heap.get?_update_self _ ho (Obj.isFreed_of_fields (Obj.data_mapFields hd _)), (Obj.cls_mapFields ..).trans hc, by rw [Obj.data_mapFields hd]; simp [rawInt]⟩
  refine wpAny_bind (wpAny_holding ?_)
  refine wpAny_bind (wpAny_isOneOf_keyiter (s := { s with heap := s.heap.update it (Obj.mapFields (·.setIfInBounds 1 (rawInt ((i : Int) + 1)))) }) hit'.typeIs ?_)
  show wpAny _ _ (pure es[i].key) _ _ _
  rw [hen]
  exact wpAny_pure (wpAny_pure ⟨_, rfl, wpAny_pure (hQ _ hit' (Heap.SameBut.update ..))⟩)
theorem next_key_end {it d : Addr} {i n ep : Nat} {od : Obj} {es : Array DictEntry} {Q : Option Value → Shared → Prop} (hh : A.handled = none) (hit : s.heap.IsKeyIter it d i n ep) (hod : s.heap.get? d = some od) (hdd : od.data = .dict es ep)
    (hsz : es.size = n) (hge : n ≤ i) (hQ : ∀ h', Heap.ExtBut it s.heap h' → Q none { s with heap := h' }) : wpAny (model prog w) A (pyNext (.ref it)) Q E s := by
  obtain ⟨o, ho, hc, hd⟩ := id hit
  unfold pyNext
  refine wpAny_bind (wpAny_attempt (wpAny_callSpecial?_slot (name := Str.ofString "__next__") hit.typeIs F.slot_dict_keyiterator_next
    (wpAny_call_entry F.slot_dict_keyiterator_next hit.typeIs F.entry_dict_keyiterator_next ?_ (F.args_dict_keyiterator_next_1 _))))
  refine wpAny_bind (wpAny_pure ?_)
  refine wpAny_bind ?_
  refine wpAny_bind ?_
  first | refine wpAny_bind (wpAny_typeNameOfWhole_keyiter hit.typeIs (wpAny_pure ?_)) | refine wpAny_bind (wpAny_typeNameOf_keyiter hit.typeIs (wpAny_pure ?_))
  refine wpAny_bind (wpAny_fieldsOf ho hd ?_)
  have hown : Builtin.Dict_items.ownsTuple "dict_keyiterator" = false := by decide
  simp only [hown, Bool.false_eq_true, if_false]
  show wpAny _ _ (if (Value.ref d == Value.none) = true then _ else _) _ _ s
  rw [if_neg (show ¬ ((Value.ref d == Value.none) = true) from Bool.false_ne_true)]
  refine wpAny_bind (wpAny_pure ?_)
  refine wpAny_bind (wpAny_dictEntries hod hdd ?_)
  rw [if_neg (by rw [hsz]; simp)]
  refine wpAny_bind (wpAny_pure ?_)
  refine wpAny_bind (wpAny_dictEpoch hod hdd ?_)
  rw [if_neg (by simp)]
  refine wpAny_pure ?_
  have hge' : es.size ≤ i := by rw [hsz]; exact hge
  simp only [show ¬ ((i : Int) < 0) from by omega, if_false, Int.toNat_natCast, Array.getElem?_eq_none hge']
  refine wpAny_bind ?_
  first | refine wpAny_bind (wpAny_typeNameOfWhole_keyiter hit.typeIs (wpAny_pure ?_)) | refine wpAny_bind (wpAny_typeNameOf_keyiter hit.typeIs (wpAny_pure ?_))
  show wpAny _ _ (setField (.ref it) 0 .none >>= _) _ _ s
  refine wpAny_bind (wpAny_setField ho hd (by simp) ?_)
  show wpAny _ _ (newExc (.type "StopIteration") [] >>= _) _ _ _
  refine wpAny_bind ?_
  simp only [newExc, newTuple]
  refine wpAny_bind (wpAny_newObj_type ?_ (by size_fits))
  refine wpAny_bind (m := firstArgMember _ _) (wpAny_of_eq (a := Value.none) (by first | rfl | (simp only [firstArgMember]; rfl)) ?_)
  refine wpAny_newObj_type ?_ (by size_fits)
  simp only [raiseNew]
  refine wpAny_bind (wpAny_handled ?_)
  rw [show A.in1.handled = none from hh]
  refine wpAny_bind (wpAny_pure (wpAny_throw ?_))
  refine wpAny_bind (wpAny_isInstance (T := "StopIteration") (b := true) ⟨_, Heap.get?_push_size _ rfl, rfl⟩ isSubtype_stop ?_)
  exact wpAny_pure (hQ _ (((Heap.SameBut.update ..).extBut.push _).push _))
end

/-! ### a locked dict -/
theorem kv_get {κ : Type} {kvs : List (κ × V)} {vs : List (κ × Value)} (h : KV kvs vs) : ∀ {i : Nat} {k : κ} {v : V}, kvs[i]? = some (k, v) → ∃ u, vs[i]? = some (k, u) ∧ RelV v u := by
  unfold KV at h
  induction h with
  | nil => intro i k v e; simp at e
  | @cons a b l₁ l₂ r t ih =>
    intro i k v e
    cases i with
    | zero =>
      simp only [List.getElem?_cons_zero, Option.some.injEq] at e
      subst e
      refine ⟨b.2, ?_, r.2⟩
      simp only [List.getElem?_cons_zero]
      exact congrArg some (Prod.ext r.1.symm rfl)
    | succ j =>
      simp only [List.getElem?_cons_succ] at e ⊢
      exact ih e
theorem paired_get {α β : Type} {G : α → β → Prop} {l₁ : List α} {l₂ : List β} (h : Paired G l₁ l₂) : ∀ {i : Nat} {a : α}, l₁[i]? = some a → ∃ b, l₂[i]? = some b ∧ G a b := by
  induction h with
  | nil => intro i a e; simp at e
  | @cons a b l₁ l₂ r t ih =>
    intro i a' e
    cases i with
    | zero =>
      simp only [List.getElem?_cons_zero, Option.some.injEq] at e
      subst e
      exact ⟨b, rfl, r⟩
    | succ j =>
      simp only [List.getElem?_cons_succ] at e ⊢
      exact ih e
theorem relV_key {k : Key} {u : Value} (h : keyIs k u = true) : RelV (kV k) u := by
  rcases keyIs_shape h with ⟨i, t, rfl, rfl⟩ | ⟨x, t, rfl, rfl⟩
  · exact ⟨t, rfl⟩
  · exact ⟨t, rfl⟩
section
variable {X : Cx} {pins : List (Addr × Obj)} {σ : St} {H : Hp} {s : Shared} {d : Addr} {o : Obj}
theorem Inv.frzK {kvs : List (Key × V)} (I : Inv X pins σ H s) (h : H d = some (.frz o (.dK kvs))) :
    (d == sysModules) = false ∧ s.heap.get? d = some o ∧ o.ExactDict ∧ ∃ (es : Array DictEntry) (ep : Nat) (vs : List (Key × Value)), o.data = .dict es ep ∧ es.size = kvs.length ∧ KV kvs vs ∧ s.heap.DictAt (mixKind X.prog X.w) d vs ep := by
  obtain ⟨hd, z, hs, vs, kv, o', es, ep, ho, hx, hdt, r⟩ := I.hok d _ h
  rw [hd] at ho
  cases ho
  refine ⟨hs, hd, hx, es, ep, vs, hdt, ?_, kv, o, es, hd, hx, hdt, r⟩
  have l1 := r.2.1.length
  have l2 : kvs.length = vs.length := Paired.length kv
  rw [Array.length_toList] at l1
  omega
/-- the same for tuple keys -/
theorem Inv.frzT {kvs : List (List Key × V)} (I : Inv X pins σ H s) (h : H d = some (.frz o (.dT kvs))) :
    (d == sysModules) = false ∧ s.heap.get? d = some o ∧ o.ExactDict ∧ ∃ (es : Array DictEntry) (ep : Nat), o.data = .dict es ep ∧ es.size = kvs.length ∧
      ∀ (i : Nat) (k : List Key) (v : V), kvs[i]? = some (k, v) → ∃ (en : DictEntry) (q : Addr), es[i]? = some en ∧ en.key = .ref q ∧ H q = some (.tup (k.map kV)) := by
  obtain ⟨hd, z, hs, xs, pr, o', es, ep, ho, hx, hdt, he, _⟩ := I.hok d _ h
  rw [hd] at ho
  cases ho
  refine ⟨hs, hd, hx, es, ep, hdt, ?_, fun i k v e => ?_⟩
  · have l1 : es.size = xs.length := size_of_entries he
    have l2 : kvs.length = xs.length := Paired.length pr
    omega
  · obtain ⟨b, hb, e1, e2, _⟩ := paired_get pr e
    have q := entry_at he i
    rw [hb] at q
    exact ⟨_, b.2.1, q, rfl, e2⟩
end

/-- the keys of the locked dict at d, in their order -/
def Itk (d : Addr) (o : Obj) (kvs : List (Key × V)) : It :=
  ⟨fun i H => H d = some (.frz o (.dK kvs)) ∧ i < kvs.length, fun i H x H' => H' = H ∧ ∃ k v, kvs[i]? = some (k, v) ∧ x = kV k, fun i H => H d = some (.frz o (.dK kvs)) ∧ kvs.length ≤ i⟩
/-- .. of tuple keys: the key's own tuple -/
def Itkt (d : Addr) (o : Obj) (kvs : List (List Key × V)) : It :=
  ⟨fun i H => H d = some (.frz o (.dT kvs)) ∧ i < kvs.length, fun i H x H' => H' = H ∧ ∃ (k : List Key) (v : V) (q : Addr), kvs[i]? = some (k, v) ∧ x = .ref q ∧ H q = some (.tup (k.map kV)), fun i H => H d = some (.frz o (.dT kvs)) ∧ kvs.length ≤ i⟩
/-- the values -/
def Itd (d : Addr) (o : Obj) (kvs : List (Key × V)) : It :=
  ⟨fun i H => H d = some (.frz o (.dK kvs)) ∧ i < kvs.length, fun i H x H' => H' = H ∧ ∃ k, kvs[i]? = some (k, x), fun i H => H d = some (.frz o (.dK kvs)) ∧ kvs.length ≤ i⟩
/-- the pairs, each a new tuple -/
def Iti (d : Addr) (o : Obj) (kvs : List (Key × V)) : It :=
  ⟨fun i H => H d = some (.frz o (.dK kvs)) ∧ i < kvs.length, fun i H x H' => ∃ T k v, kvs[i]? = some (k, v) ∧ x = .ref T ∧ H T = none ∧ H' = upd H T (.tup [kV k, v]), fun i H => H d = some (.frz o (.dK kvs)) ∧ kvs.length ≤ i⟩
theorem dict_ep {o : Obj} {es es' : Array DictEntry} {ep ep' : Nat} (h : o.data = .dict es ep) (h' : o.data = .dict es' ep') : es' = es ∧ ep' = ep := by
  rw [h] at h'
  cases h'
  exact ⟨rfl, rfl⟩
section
variable {P : Program} {w : World} {K : PySem.W.Frag} {tg : Expr} {d : Addr} {o : Obj} {es : Array DictEntry} {ep : Nat}
theorem turn_keys {kvs : List (Key × V)} (it : Addr) (hod : o.data = .dict es ep) : Turn P w K tg (Itk d o kvs) [it] it (fun i h => h.IsKeyIter it d i kvs.length ep) where
  mem := by simp
  obj := fun i h st b hb => by
    have e : b = it := by simpa using hb
    subst e
    obtain ⟨oi, e, c, dd⟩ := st
    exact ⟨oi, e, fun v z => by rw [dd] at z; cases z⟩
  keep := fun i h h' st k => st.at fun oi e => k it (by simp) oi e
  item := by
    intro X hP hw hK hc i pins s σ H E I hf st hg
    subst hP hw hK
    obtain ⟨hd, hi⟩ := hg
    obtain ⟨f0, f1, f2, f3, f4, f5⟩ := hf it (by simp)
    obtain ⟨hs, hgd, hx, es', ep', vs, hdt, hsz, kv, hm⟩ := I.frzK hd
    obtain ⟨rfl, rfl⟩ := dict_ep hod hdt
    obtain ⟨⟨k, v⟩, hkv⟩ : ∃ p, kvs[i]? = some p := ⟨kvs[i], List.getElem?_eq_getElem hi⟩
    obtain ⟨u, hu, ru⟩ := kv_get kv hkv
    have hl : kvs.length = vs.length := Paired.length kv
    rw [hl] at st
    refine wpAny_pyNext_dict_item st hm hu fun key h' hkey st' sb => ?_
    have I1 : Inv X pins σ H { s with heap := h' } := I.turned (t' := s.toks) (fun b ob hb e => (sb.2 b hb).trans e) f0 f1 f3 f4 f5
    obtain ⟨oi, e, c, dd⟩ := id st'
    refine ⟨key, rfl, go_of (s := { s with heap := h' }) e c dd (by decide) ⟨kV k, H, I1, relV_key (show keyIs k key = true from hkey), ⟨rfl, k, v, hkv, rfl⟩, ?_, fun b hb => (hf b hb).1⟩⟩
    show h'.IsKeyIter it d (i + 1) kvs.length _
    rw [hl]
    exact st'
  done := by
    intro X hP hw hK hc i pins s σ H E I hf st hg
    subst hP hw hK
    obtain ⟨hd, hi⟩ := hg
    obtain ⟨f0, f1, f2, f3, f4, f5⟩ := hf it (by simp)
    obtain ⟨hs, hgd, hx, es', ep', vs, hdt, hsz, kv, hm⟩ := I.frzK hd
    obtain ⟨rfl, rfl⟩ := dict_ep hod hdt
    exact next_key_end (I.ok.hd hc) st hgd hdt hsz hi fun h' eb => ⟨rfl, I.turned (t' := s.toks) (fun b ob hb e => eb b ob hb e) f0 f1 f3 f4 f5⟩
  self := fun A i s Q E st h => wpAny_pyIter_keyiter st h
theorem turn_keysT {kvs : List (List Key × V)} (it : Addr) (hod : o.data = .dict es ep) : Turn P w K tg (Itkt d o kvs) [it] it (fun i h => h.IsKeyIter it d i kvs.length ep) where
  mem := by simp
  obj := fun i h st b hb => by
    have e : b = it := by simpa using hb
    subst e
    obtain ⟨oi, e, c, dd⟩ := st
    exact ⟨oi, e, fun v z => by rw [dd] at z; cases z⟩
  keep := fun i h h' st k => st.at fun oi e => k it (by simp) oi e
  item := by
    intro X hP hw hK hc i pins s σ H E I hf st hg
    subst hP hw hK
    obtain ⟨hd, hi⟩ := hg
    obtain ⟨f0, f1, f2, f3, f4, f5⟩ := hf it (by simp)
    obtain ⟨hs, hgd, hx, es', ep', hdt, hsz, ent⟩ := I.frzT hd
    obtain ⟨rfl, rfl⟩ := dict_ep hod hdt
    obtain ⟨⟨k, v⟩, hkv⟩ : ∃ p, kvs[i]? = some p := ⟨kvs[i], List.getElem?_eq_getElem hi⟩
    obtain ⟨en, q, hen, hkey, hq⟩ := ent i k v hkv
    refine next_key_item st hgd hdt hsz hen fun h' st' sb => ?_
    have I1 : Inv X pins σ H { s with heap := h' } := I.turned (t' := s.toks) (fun b ob hb e => (sb.2 b hb).trans e) f0 f1 f3 f4 f5
    obtain ⟨oi, e, c, dd⟩ := id st'
    exact ⟨en.key, rfl, go_of (s := { s with heap := h' }) e c dd (by decide) ⟨.ref q, H, I1, hkey, ⟨rfl, k, v, q, hkv, rfl, hq⟩, st', fun b hb => (hf b hb).1⟩⟩
  done := by
    intro X hP hw hK hc i pins s σ H E I hf st hg
    subst hP hw hK
    obtain ⟨hd, hi⟩ := hg
    obtain ⟨f0, f1, f2, f3, f4, f5⟩ := hf it (by simp)
    obtain ⟨hs, hgd, hx, es', ep', hdt, hsz, ent⟩ := I.frzT hd
    obtain ⟨rfl, rfl⟩ := dict_ep hod hdt
    exact next_key_end (I.ok.hd hc) st hgd hdt hsz hi fun h' eb => ⟨rfl, I.turned (t' := s.toks) (fun b ob hb e => eb b ob hb e) f0 f1 f3 f4 f5⟩
  self := fun A i s Q E st h => by
    refine wpAny_pyIter_slot st.typeIs F.slot_dict_keyiterator_iter (wpAny_call_entry F.slot_dict_keyiterator_iter st.typeIs F.entry_dict_keyiterator_iter ?_ (F.args_dict_keyiterator_iter_1 _))
    show wpAny _ _ (ret (.ref it)) _ _ s
    exact wpAny_pure ⟨_, rfl, "dict_keyiterator", _, st.typeIs, F.slot_dict_keyiterator_next.lookup, h⟩
theorem turn_vals {kvs : List (Key × V)} (it : Addr) (hod : o.data = .dict es ep) : Turn P w K tg (Itd d o kvs) [it] it (fun i h => h.IsValIter it d i kvs.length ep) where
  mem := by simp
  obj := fun i h st b hb => by
    have e : b = it := by simpa using hb
    subst e
    obtain ⟨oi, e, c, dd⟩ := st
    exact ⟨oi, e, fun v z => by rw [dd] at z; cases z⟩
  keep := fun i h h' st k => st.at fun oi e => k it (by simp) oi e
  item := by
    intro X hP hw hK hc i pins s σ H E I hf st hg
    subst hP hw hK
    obtain ⟨hd, hi⟩ := hg
    obtain ⟨f0, f1, f2, f3, f4, f5⟩ := hf it (by simp)
    obtain ⟨hs, hgd, hx, es', ep', vs, hdt, hsz, kv, hm⟩ := I.frzK hd
    obtain ⟨rfl, rfl⟩ := dict_ep hod hdt
    obtain ⟨⟨k, v⟩, hkv⟩ : ∃ p, kvs[i]? = some p := ⟨kvs[i], List.getElem?_eq_getElem hi⟩
    obtain ⟨u, hu, ru⟩ := kv_get kv hkv
    have hl : kvs.length = vs.length := Paired.length kv
    rw [hl] at st
    refine wpAny_pyNext_values_item st hm hu fun h' st' sb => ?_
    have I1 : Inv X pins σ H { s with heap := h' } := I.turned (t' := s.toks) (fun b ob hb e => (sb.2 b hb).trans e) f0 f1 f3 f4 f5
    obtain ⟨oi, e, c, dd⟩ := id st'
    refine ⟨u, rfl, go_of (s := { s with heap := h' }) e c dd (by decide) ⟨v, H, I1, ru, ⟨rfl, k, hkv⟩, ?_, fun b hb => (hf b hb).1⟩⟩
    show h'.IsValIter it d (i + 1) kvs.length _
    rw [hl]
    exact st'
  done := by
    intro X hP hw hK hc i pins s σ H E I hf st hg
    subst hP hw hK
    obtain ⟨hd, hi⟩ := hg
    obtain ⟨f0, f1, f2, f3, f4, f5⟩ := hf it (by simp)
    obtain ⟨hs, hgd, hx, es', ep', vs, hdt, hsz, kv, hm⟩ := I.frzK hd
    obtain ⟨rfl, rfl⟩ := dict_ep hod hdt
    have hl : kvs.length = vs.length := Paired.length kv
    rw [hl] at st
    exact wpAny_pyNext_values_end (I.ok.hd hc) st hm (List.getElem?_eq_none (by omega)) fun h' eb => ⟨rfl, I.turned (t' := s.toks) (fun b ob hb e => eb b ob hb e) f0 f1 f3 f4 f5⟩
  self := fun A i s Q E st h => wpAny_pyIter_valiter st h
theorem turn_items {kvs : List (Key × V)} {elts : List Expr} {kk : Nat} {tpos : Pos} (it : Addr) (hod : o.data = .dict es ep) :
    Turn P w K (.Tuple elts kk tpos) (Iti d o kvs) [it] it (fun i h => ∃ ok ov, IsItemIter h it d i kvs.length ep ok ov) where
  mem := by simp
  obj := fun i h st b hb => by
    have e : b = it := by simpa using hb
    subst e
    obtain ⟨ok, ov, e⟩ := st
    exact ⟨_, e, fun v z => nomatch z⟩
  keep := fun i h h' st k => let ⟨ok, ov, e⟩ := st; ⟨ok, ov, k it (by simp) _ e⟩
  item := by
    intro X hP hw hK hc i pins s σ H E I hf st hg
    subst hP hw hK
    obtain ⟨hd, hi⟩ := hg
    obtain ⟨hs, hgd, hx, es', ep', vs, hdt, hsz, kv, hm⟩ := I.frzK hd
    obtain ⟨rfl, rfl⟩ := dict_ep hod hdt
    obtain ⟨⟨k, v⟩, hkv⟩ : ∃ p, kvs[i]? = some p := ⟨kvs[i], List.getElem?_eq_getElem hi⟩
    obtain ⟨u, hu, ru⟩ := kv_get kv hkv
    have hl : kvs.length = vs.length := Paired.length kv
    obtain ⟨ok, ov, he⟩ := st
    rw [hl] at he
    have hlt : it < s.heap.objs.size := Heap.lt_size he
    refine wpAny_pyNext_items_item he hm hu fun key h' hkey ho hT hz hk => ?_
    refine ⟨_, rfl, wpAny_letOwnedTupleGo_items (s := { s with heap := h' }) ho fun h'' he' sb => ?_⟩
    have hT2 : h''.get? s.heap.objs.size = some { cls := .type "tuple", data := .seq #[key, u] } := (sb.2 _ (Nat.ne_of_gt hlt)).trans hT
    have new : ObjOk X.prog X.w (upd H s.heap.objs.size (.tup [kV k, v])) h'' s.heap.objs.size (.tup [kV k, v]) :=
      ⟨by show 2 ≤ sizeLine; decide, [key, u], .cons (relV_key (show keyIs k key = true from hkey)) (.cons ru .nil), ⟨_, hT2, rfl, _, rfl⟩⟩
    have I1 : Inv X pins σ (upd H s.heap.objs.size (.tup [kV k, v])) { s with heap := h'' } :=
      I.turnedNew (t' := s.toks) (ch := [it]) (fun b ob hb e => (sb.2 b (by simpa using hb)).trans (hk b ob (by simpa using hb) e)) hf (Nat.le_refl _) new
    refine ⟨.ref s.heap.objs.size, _, I1, rfl, ⟨_, k, v, hkv, rfl, I.hok.fresh (Nat.le_refl _), rfl⟩, ⟨key, u, ?_⟩, fun b hb => ?_⟩
    · rw [hl]; exact he'
    · have e : b = it := by simpa using hb
      rw [e, upd_ne (Nat.ne_of_lt hlt)]
      exact (hf it (by simp)).1
  done := by
    intro X hP hw hK hc i pins s σ H E I hf st hg
    subst hP hw hK
    obtain ⟨hd, hi⟩ := hg
    obtain ⟨f0, f1, f2, f3, f4, f5⟩ := hf it (by simp)
    obtain ⟨hs, hgd, hx, es', ep', vs, hdt, hsz, kv, hm⟩ := I.frzK hd
    obtain ⟨rfl, rfl⟩ := dict_ep hod hdt
    have hl : kvs.length = vs.length := Paired.length kv
    obtain ⟨ok, ov, he⟩ := st
    rw [hl] at he
    exact wpAny_pyNext_items_end (I.ok.hd hc) he hm (List.getElem?_eq_none (by omega)) fun h' eb => ⟨rfl, I.turned (t' := s.toks) (fun b ob hb e => eb b ob hb e) f0 f1 f3 f4 f5⟩
  self := fun A i s Q E st h => let ⟨_, _, e⟩ := st; PySem.W.kcp_self e h
end

/-! ### for k in d, d.keys(), d.values(), d.items() -/
/-- the dict is locked (tLock, or by the caller) -/
def iKeys (td : TE) : TI := fun σ H R => td σ H fun x H1 => ∃ d o, x = .ref d ∧ ((∃ kvs, H1 d = some (.frz o (.dK kvs)) ∧ R (Itk d o kvs) H1) ∨ ∃ kvs, H1 d = some (.frz o (.dT kvs)) ∧ R (Itkt d o kvs) H1)
def iVals (td : TE) : TI := fun σ H R => td σ H fun x H1 => ∃ d o kvs, x = .ref d ∧ H1 d = some (.frz o (.dK kvs)) ∧ R (Itd d o kvs) H1
def iItems (td : TE) : TI := fun σ H R => td σ H fun x H1 => ∃ d o kvs, x = .ref d ∧ H1 d = some (.frz o (.dK kvs)) ∧ R (Iti d o kvs) H1
def iKeysM (td : TE) : TI := fun σ H R => td σ H fun x H1 => ∃ d o kvs, x = .ref d ∧ H1 d = some (.frz o (.dK kvs)) ∧ R (Itk d o kvs) H1
section
variable {X : Cx} {tg e : Expr} {td : TE} {apos cpos : Pos}
theorem pi_keys (he : PE X e td) : PI X tg e (iKeys td) := by
  intro pins s σ H R I h
  refine thn (he pins s σ H _ I h) fun u s1 ⟨x, H1, I1, rx, d, o, ex, q⟩ => ?_
  subst ex
  obtain rfl : u = Value.ref d := rx
  rcases q with ⟨kvs, hd, q⟩ | ⟨kvs, hd, q⟩
  · obtain ⟨hs, hgd, hx, es, ep, vs, hdt, hsz, kv, hm⟩ := I1.frzK hd
    refine iter_keys hs hgd hx hdt (pi_one (tk := s1.toks) I1 _ (turn_keys _ hdt) ⟨_, Heap.get?_push_size _ rfl, rfl, ?_⟩ q)
    rw [hsz] <;> rfl
  · obtain ⟨hs, hgd, hx, es, ep, hdt, hsz, ent⟩ := I1.frzT hd
    refine iter_keys hs hgd hx hdt (pi_one (tk := s1.toks) I1 _ (turn_keysT _ hdt) ⟨_, Heap.get?_push_size _ rfl, rfl, ?_⟩ q)
    rw [hsz] <;> rfl
theorem pi_values (he : PE X e td) (hbase : attributeBase e "values" X.env (eval e X.env) = eval e X.env := by rfl) (hline : (apos.endLine == cpos.line) = true := by rfl) : PI X tg (.Call (.Attribute e "values" apos) [] [] cpos) (iVals td) := by
  intro pins s σ H R I h
  refine wpAny_Call_method (T := "dict") (id := "dict.values") hbase rfl hline F.plainAttrs_dict F.slot_dict_values F.type_dict_values (thn (he pins s σ H _ I h) fun u s1 ⟨x, H1, I1, rx, d, o, kvs, ex, hd, q⟩ => ?_)
  subst ex
  obtain rfl : u = Value.ref d := rx
  obtain ⟨hs, hgd, hx, es, ep, vs, hdt, hsz, kv, hm⟩ := I1.frzK hd
  have hl : kvs.length = vs.length := Paired.length kv
  refine ⟨hm.dictOf.typeIs, hm.dictOf.mapOf.noDict, ?_⟩
  have I2 : Inv X pins σ H1 { s1 with heap := s1.heap.push { cls := .type "dict_values", data := .fields #[.ref d] } } := I1.kept (t' := s1.toks) fun b ob q => Heap.get?_push_of_some _ q
  have fin : wpAny (model X.prog X.w) X.A (pyIter (.ref s1.heap.objs.size)) (PIE X pins σ tg R) X.xe { s1 with heap := s1.heap.push { cls := .type "dict_values", data := .fields #[.ref d] } } := by
    refine wpAny_pyIter_values (d := d) (knd := mixKind X.prog X.w) ⟨_, Heap.get?_push_size _ rfl, rfl, rfl⟩ (hm.push _) (pi_one (tk := s1.toks) I2 _ (turn_vals _ hdt) ⟨_, Heap.get?_push_size _ rfl, rfl, ?_⟩ q)
    rw [hl] <;> rfl
  show wpAny _ _ (callWith cpos (.builtin "dict.values") [.ref d] [] []) _ X.xe s1
  exact method_meetsIn F.slot_dict_values F.entry_dict_values rfl (PySem.evalArgs_none ⟨rfl, hm.dictOf.typeIs, F.args_dict_values_1 _, _, meets_dict_values (mixKind X.prog X.w) d hs, ⟨vs, hm.dictOf⟩, fin⟩)
theorem pi_items {elts : List Expr} {kk : Nat} {tpos : Pos} (he : PE X e td) (hbase : attributeBase e "items" X.env (eval e X.env) = eval e X.env := by rfl) (hline : (apos.endLine == cpos.line) = true := by rfl) :
    PI X (.Tuple elts kk tpos) (.Call (.Attribute e "items" apos) [] [] cpos) (iItems td) := by
  intro pins s σ H R I h
  refine wpAny_Call_method (T := "dict") (id := "dict.items") hbase rfl hline F.plainAttrs_dict F.slot_dict_items F.type_dict_items (thn (he pins s σ H _ I h) fun u s1 ⟨x, H1, I1, rx, d, o, kvs, ex, hd, q⟩ => ?_)
  subst ex
  obtain rfl : u = Value.ref d := rx
  obtain ⟨hs, hgd, hx, es, ep, vs, hdt, hsz, kv, hm⟩ := I1.frzK hd
  have hl : kvs.length = vs.length := Paired.length kv
  refine ⟨hm.dictOf.typeIs, hm.dictOf.mapOf.noDict, ?_⟩
  have I2 : Inv X pins σ H1 { s1 with heap := s1.heap.push { cls := .type "dict_items", data := .fields #[.ref d] } } := I1.kept (t' := s1.toks) fun b ob q => Heap.get?_push_of_some _ q
  have fin : wpAny (model X.prog X.w) X.A (pyIter (.ref s1.heap.objs.size)) (PIE X pins σ (.Tuple elts kk tpos) R) X.xe { s1 with heap := s1.heap.push { cls := .type "dict_items", data := .fields #[.ref d] } } := by
    refine wpAny_pyIter_items (d := d) (knd := mixKind X.prog X.w) ⟨_, Heap.get?_push_size _ rfl, rfl, rfl⟩ (hm.push _) (pi_one (tk := s1.toks) I2 _ (turn_items _ hdt) ⟨.none, .none, ?_⟩ q)
    rw [hl]
    exact Heap.get?_push_size _ rfl
  show wpAny _ _ (callWith cpos (.builtin "dict.items") [.ref d] [] []) _ X.xe s1
  exact method_meetsIn F.slot_dict_items F.entry_dict_items rfl (PySem.evalArgs_none ⟨rfl, hm.dictOf.typeIs, F.args_dict_items_1 _, _, meets_dict_items (mixKind X.prog X.w) d hs, ⟨vs, hm.dictOf⟩, fin⟩)
theorem pi_keysM (he : PE X e td) (hbase : attributeBase e "keys" X.env (eval e X.env) = eval e X.env := by rfl) (hline : (apos.endLine == cpos.line) = true := by rfl) : PI X tg (.Call (.Attribute e "keys" apos) [] [] cpos) (iKeysM td) := by
  intro pins s σ H R I h
  refine wpAny_Call_method (T := "dict") (id := "dict.keys") hbase rfl hline F.plainAttrs_dict F.slot_dict_keys F.type_dict_keys (thn (he pins s σ H _ I h) fun u s1 ⟨x, H1, I1, rx, d, o, kvs, ex, hd, q⟩ => ?_)
  subst ex
  obtain rfl : u = Value.ref d := rx
  obtain ⟨hs, hgd, hx, es, ep, vs, hdt, hsz, kv, hm⟩ := I1.frzK hd
  have hl : kvs.length = vs.length := Paired.length kv
  refine ⟨hm.dictOf.typeIs, hm.dictOf.mapOf.noDict, ?_⟩
  have I2 : Inv X pins σ H1 { s1 with heap := s1.heap.push { cls := .type "dict_keys", data := .fields #[.ref d] } } := I1.kept (t' := s1.toks) fun b ob q => Heap.get?_push_of_some _ q
  have fin : wpAny (model X.prog X.w) X.A (pyIter (.ref s1.heap.objs.size)) (PIE X pins σ tg R) X.xe { s1 with heap := s1.heap.push { cls := .type "dict_keys", data := .fields #[.ref d] } } := by
    refine PySem.W.kdl_pyIter_keys (d := d) (knd := mixKind X.prog X.w) ⟨_, Heap.get?_push_size _ rfl, rfl, rfl⟩ (hm.push _) (pi_one (tk := s1.toks) I2 _ (turn_keys _ hdt) ⟨_, Heap.get?_push_size _ rfl, rfl, ?_⟩ q)
    rw [hl] <;> rfl
  show wpAny _ _ (callWith cpos (.builtin "dict.keys") [.ref d] [] []) _ X.xe s1
  exact method_meetsIn F.slot_dict_keys F.entry_dict_keys rfl (PySem.evalArgs_none ⟨rfl, hm.dictOf.typeIs, F.args_dict_keys_1 _, _, PySem.W.kdl_meets_keys (mixKind X.prog X.w) d hs, ⟨vs, hm.dictOf⟩, fin⟩)
end

/-! ### enumerate(list) -/
/-- the list at a as it stands at each turn, each item in a new pair -/
def Ite (K : PySem.W.Frag) (a : Addr) : It :=
  ⟨fun i H => ∃ (xs : List V) (x : V), SqL K H a xs ∧ xs[i]? = some x, fun i H v H' => ∃ T x, v = .ref T ∧ H T = none ∧ H' = upd H T (.tup [.int (i : Nat), x]) ∧ ∀ xs, SqL K H a xs → xs[i]? = some x, fun i H => ∃ xs : List V, SqL K H a xs ∧ xs.length ≤ i⟩
theorem turn_enum {P : Program} {w : World} {K : PySem.W.Frag} {elts : List Expr} {kk : Nat} {tpos : Pos} (a e it : Addr) :
    Turn P w K (.Tuple elts kk tpos) (Ite K a) [e, it] e (fun i h => (∃ old, IsEnum h e it ((i : Nat) : Int) old) ∧ h.IsListIter it a i ∧ e ≠ it) where
  mem := by simp
  obj := fun i h st b hb => by
    obtain ⟨⟨old, he⟩, ⟨o, ho, hc, hd⟩, _⟩ := st
    have e' : b = e ∨ b = it := by simpa using hb
    rcases e' with z | z
    · rw [z]; exact ⟨_, he, fun v q => nomatch q⟩
    · rw [z]; exact ⟨o, ho, fun v q => by rw [hd] at q; cases q⟩
  keep := fun i h h' st k => let ⟨⟨old, he⟩, hi, hne⟩ := st; ⟨⟨old, k e (by simp) _ he⟩, hi.at fun o q => k it (by simp) o q, hne⟩
  item := by
    intro X hP hw hK hc i pins s σ H E I hf st hg
    subst hP hw hK
    obtain ⟨⟨old, he⟩, hit, hne⟩ := st
    obtain ⟨xs, x, hq, hx⟩ := hg
    obtain ⟨its, rv, p, hz⟩ := I.list hq
    obtain ⟨u, hu, ru⟩ := rv.get hx
    have hel : e < s.heap.objs.size := Heap.lt_size he
    have hil : it < s.heap.objs.size := by obtain ⟨_, q, _⟩ := hit; exact Heap.lt_size q
    refine wpAny_pyNext_enum_item he hit p.isList (x := u) (by simpa using hu) hne fun h' ho hit' hT hsz hk => ?_
    refine ⟨_, rfl, wpAny_letOwnedTupleGo_enum (s := { s with heap := h', toks := s.toks + 1 }) ho fun h'' he' sb => ?_⟩
    have hT2 : h''.get? s.heap.objs.size = some { cls := .type "tuple", data := .seq #[.int i s.toks, u] } := (sb.2 _ (Nat.ne_of_gt hel)).trans hT
    have new : ObjOk X.prog X.w (upd H s.heap.objs.size (.tup [.int (i : Nat), x])) h'' s.heap.objs.size (.tup [.int (i : Nat), x]) :=
      ⟨by show 2 ≤ sizeLine; decide, [.int i s.toks, u], .cons ⟨_, rfl⟩ (.cons ru .nil), ⟨_, hT2, rfl, _, rfl⟩⟩
    have I1 : Inv X pins σ (upd H s.heap.objs.size (.tup [.int (i : Nat), x])) { s with heap := h'', toks := s.toks + 1 } :=
      I.turnedNew (ch := [e, it]) (fun b ob hb q => (sb.2 b (fun z => hb (by simp [z]))).trans (hk b ob (fun z => hb (by simp [z])) (fun z => hb (by simp [z])) q)) hf (Nat.le_refl _) new
    refine ⟨.ref s.heap.objs.size, _, I1, rfl, ⟨_, x, rfl, I.hok.fresh (Nat.le_refl _), rfl, fun ys hy => by rw [I.list_inj hy hq]; exact hx⟩, ⟨⟨u, ?_⟩, hit'.at fun o q => (sb.2 it (Ne.symm hne)).trans q, hne⟩, fun b hb => ?_⟩
    · have e1 : ((i + 1 : Nat) : Int) = (i : Int) + 1 := by omega
      rw [e1]; exact he'
    · have hb' : b < s.heap.objs.size := by
        have e' : b = e ∨ b = it := by simpa using hb
        rcases e' with z | z
        · rw [z]; exact hel
        · rw [z]; exact hil
      rw [upd_ne (Nat.ne_of_lt hb')]
      exact (hf b hb).1
  done := by
    intro X hP hw hK hc i pins s σ H E I hf st hg
    subst hP hw hK
    obtain ⟨⟨old, he⟩, hit, hne⟩ := st
    obtain ⟨xs, hq, hx⟩ := hg
    obtain ⟨its, rv, p, hz⟩ := I.list hq
    obtain ⟨f0, f1, f2, f3, f4, f5⟩ := hf it (by simp)
    have hl := rv.length
    exact wpAny_pyNext_enum_end (I.ok.hd hc) he hit p.isList (by simp; omega) fun h' eb => ⟨rfl, I.turned (t' := s.toks) (fun b o hb q => eb b o hb q) f0 f1 f3 f4 f5⟩
  self := fun A i s Q E st h => let ⟨⟨_, he⟩, _⟩ := st; wpAny_pyIter_enum he h
def iEnum (K : PySem.W.Frag) (ta : TA) : TI := fun σ H R => ta σ H fun vs H1 => ∃ a xs, vs = [.ref a] ∧ SqL K H1 a xs ∧ R (Ite K a) H1
theorem pi_enum {X : Cx} {e : Expr} {ta : TA} {p pos tpos : Pos} {elts : List Expr} {kk : Nat} (hg : Gl X "enumerate") (hm : X.mg "enumerate" = none) (ha : PA X [e] ta) (hs : starEach [e] X.env = [(false, eval e X.env)] := by rfl) :
    PI X (.Tuple elts kk tpos) (.Call (.Name "enumerate" p) [e] [] pos) (iEnum X.K ta) := by
  intro pins s σ H R I h
  refine Call_ (ld_blt I hg hm boot_enumerate (PyProof.Rows.callWith_type1 (thn (ha pos pins s σ H _ I h) fun us s1 ⟨vs, H1, I1, r1, q1⟩ => ?_) hs rfl))
  obtain ⟨a, xs, ex, hq, q⟩ := q1
  subst ex
  cases r1 with
  | cons r rr =>
    cases rr
    cases r
    obtain ⟨its, rv, p', hz⟩ := I1.list hq
    refine call_enumerate_list p'.isList fun h' he hit hsz hk => wpAny_pyIter_enum he ?_
    have I2 : Inv X pins σ H1 { s1 with heap := h' } := I1.kept (t' := s1.toks) hk
    refine ⟨s1.heap.objs.size + 1, [s1.heap.objs.size + 1, s1.heap.objs.size], _, _, H1, rfl, I2, turn_enum a (s1.heap.objs.size + 1) s1.heap.objs.size, ⟨⟨.none, he⟩, hit, Nat.succ_ne_self _⟩, fun b hb => ?_, q⟩
    have e' : b = s1.heap.objs.size + 1 ∨ b = s1.heap.objs.size := by simpa using hb
    have hle : s1.heap.objs.size ≤ b := by
      rcases e' with z | z
      · rw [z]; exact Nat.le_add_right _ _
      · rw [z]; exact Nat.le_refl _
    exact I1.fpOk hle (I1.hok.fresh hle)
/-! ### zip(list, list) -/
theorem boot_zip5 : bootBuiltins "zip" = some (.type "zip") := by decide +kernel
/-- the lists at a and b as they stand at each turn, the items in new pairs -/
def Itz (K : PySem.W.Frag) (a b : Addr) : It :=
  ⟨fun i H => ∃ (xs ys : List V) (x y : V), SqL K H a xs ∧ SqL K H b ys ∧ xs[i]? = some x ∧ ys[i]? = some y,
    fun i H v H' => ∃ T x y, v = .ref T ∧ H T = none ∧ H' = upd H T (.tup [x, y]) ∧ (∀ xs, SqL K H a xs → xs[i]? = some x) ∧ ∀ ys, SqL K H b ys → ys[i]? = some y,
    fun i H => ∃ xs ys : List V, SqL K H a xs ∧ SqL K H b ys ∧ (xs.length ≤ i ∨ ys.length ≤ i)⟩
theorem turn_zip {P : Program} {w : World} {K : PySem.W.Frag} {elts : List Expr} {kk : Nat} {tpos : Pos} {a b z TI TO i1 i2 : Addr} (D : ZipApart z TI TO i1 i2 a b) :
    Turn P w K (.Tuple elts kk tpos) (Itz K a b) [z, TI, TO, i1, i2] z (fun i h => IsZip h z TI TO .none ∧ IsPair h TI (.ref i1) (.ref i2) ∧ (∃ x y, IsPair h TO x y) ∧ h.IsListIter i1 a i ∧ h.IsListIter i2 b i) where
  mem := by simp
  obj := fun i h st c hc => by
    obtain ⟨hz, hTI, ⟨x, y, hTO⟩, ⟨o1, e1, _, d1⟩, ⟨o2, e2, _, d2⟩⟩ := st
    have e' : c = z ∨ c = TI ∨ c = TO ∨ c = i1 ∨ c = i2 := by simpa using hc
    rcases e' with q | q | q | q | q
    · rw [q]; exact ⟨_, hz, fun v q => nomatch q⟩
    · rw [q]; exact ⟨_, hTI, fun v q => nomatch q⟩
    · rw [q]; exact ⟨_, hTO, fun v q => nomatch q⟩
    · rw [q]; exact ⟨o1, e1, fun v q => by rw [d1] at q; cases q⟩
    · rw [q]; exact ⟨o2, e2, fun v q => by rw [d2] at q; cases q⟩
  keep := fun i h h' st k => by
    obtain ⟨hz, hTI, ⟨x, y, hTO⟩, h1, h2⟩ := st
    exact ⟨k z (by simp) _ hz, k TI (by simp) _ hTI, ⟨x, y, k TO (by simp) _ hTO⟩, h1.at fun o q => k i1 (by simp) o q, h2.at fun o q => k i2 (by simp) o q⟩
  item := by
    intro X hP hw hK hc i pins s σ H E I hf st hg
    subst hP hw hK
    obtain ⟨hz, hTI, ⟨x0, y0, hTO⟩, h1, h2⟩ := st
    obtain ⟨xs, ys, x, y, hqx, hqy, hx, hy⟩ := hg
    obtain ⟨its, rv, p, _⟩ := I.list hqx
    obtain ⟨its2, rv2, p2, _⟩ := I.list hqy
    obtain ⟨u, hu, ru⟩ := rv.get hx
    obtain ⟨u2, hu2, ru2⟩ := rv2.get hy
    have hzl : z < s.heap.objs.size := Heap.lt_size hz
    refine wpAny_pyNext_zip_item D hz hTI hTO h1 h2 p.isList p2.isList (x := u) (y := u2) (by simpa using hu) (by simpa using hu2) fun h' z' TO' h1' h2' hT hsz hk => ?_
    refine ⟨_, rfl, wpAny_letOwnedTupleGo_zip (s := { s with heap := h' }) z' fun h'' z'' sb => ?_⟩
    have hT2 : h''.get? s.heap.objs.size = some { cls := .type "tuple", data := .seq #[u, u2] } := (sb.2 _ (Nat.ne_of_gt hzl)).trans hT
    have new : ObjOk X.prog X.w (upd H s.heap.objs.size (.tup [x, y])) h'' s.heap.objs.size (.tup [x, y]) :=
      ⟨by show 2 ≤ sizeLine; decide, [u, u2], .cons ru (.cons ru2 .nil), ⟨_, hT2, rfl, _, rfl⟩⟩
    have I1 : Inv X pins σ (upd H s.heap.objs.size (.tup [x, y])) { s with heap := h'' } :=
      I.turnedNew (t' := s.toks) (ch := [z, TI, TO, i1, i2]) (fun c o hb q => (sb.2 c (fun q' => hb (by simp [q']))).trans (hk c o (fun q' => hb (by simp [q'])) (fun q' => hb (by simp [q'])) (fun q' => hb (by simp [q'])) (fun q' => hb (by simp [q'])) q)) hf (Nat.le_refl _) new
    refine ⟨.ref s.heap.objs.size, _, I1, rfl, ⟨_, x, y, rfl, I.hok.fresh (Nat.le_refl _), rfl, fun l hl => by rw [I.list_inj hl hqx]; exact hx, fun l hl => by rw [I.list_inj hl hqy]; exact hy⟩, ⟨z'', ?_, ⟨u, u2, ?_⟩, ?_, ?_⟩, fun c hcm => ?_⟩
    · exact (sb.2 _ D.TIz).trans (hk _ _ D.TIz D.TITO D.TIi1 D.TIi2 hTI)
    · exact (sb.2 _ D.TOz).trans TO'
    · exact h1'.at fun o q => (sb.2 _ D.i1z).trans q
    · exact h2'.at fun o q => (sb.2 _ D.i2z).trans q
    · have hlt : c < s.heap.objs.size := by
        have e' : c = z ∨ c = TI ∨ c = TO ∨ c = i1 ∨ c = i2 := by simpa using hcm
        rcases e' with q | q | q | q | q
        · rw [q]; exact hzl
        · rw [q]; exact Heap.lt_size hTI
        · rw [q]; exact Heap.lt_size hTO
        · rw [q]; obtain ⟨_, e1, _⟩ := h1; exact Heap.lt_size e1
        · rw [q]; obtain ⟨_, e2, _⟩ := h2; exact Heap.lt_size e2
      rw [upd_ne (Nat.ne_of_lt hlt)]
      exact (hf c hcm).1
  done := by
    intro X hP hw hK hc i pins s σ H E I hf st hg
    subst hP hw hK
    obtain ⟨hz, hTI, ⟨x0, y0, hTO⟩, h1, h2⟩ := st
    obtain ⟨xs, ys, hqx, hqy, hend⟩ := hg
    obtain ⟨its, rv, p, _⟩ := I.list hqx
    obtain ⟨its2, rv2, p2, _⟩ := I.list hqy
    have l1 := rv.length
    have l2 := rv2.length
    have he : its.toArray[i]? = none ∨ its2.toArray[i]? = none := by
      rcases hend with q | q
      · exact .inl (by simp; omega)
      · exact .inr (by simp; omega)
    exact wpAny_pyNext_zip_end (I.ok.hd hc) D hz hTI hTO h1 h2 p.isList p2.isList he fun h' hk => ⟨rfl, I.turnedL (t' := s.toks) (ch := [z, TI, TO, i1, i2]) (fun c o hb q =>
      hk c o (fun q' => hb (by simp [q'])) (fun q' => hb (by simp [q'])) (fun q' => hb (by simp [q'])) (fun q' => hb (by simp [q'])) q) hf⟩
  self := fun A i s Q E st h => wpAny_pyIter_zip st.1 h
def iZip (K : PySem.W.Frag) (ta : TA) : TI := fun σ H R => ta σ H fun vs H1 => ∃ a b xs ys, vs = [.ref a, .ref b] ∧ SqL K H1 a xs ∧ SqL K H1 b ys ∧ R (Itz K a b) H1
theorem pi_zip {X : Cx} {e e2 : Expr} {ta : TA} {p pos tpos : Pos} {elts : List Expr} {kk : Nat} (hg : Gl X "zip") (hm : X.mg "zip" = none) (ha : PA X [e, e2] ta)
    (hs : starEach [e, e2] X.env = (false, eval e X.env) :: starEach [e2] X.env := by rfl) (hpl : (backTo pos (starEach [e2] X.env)).any (·.1) = false := by rfl) :
    PI X (.Tuple elts kk tpos) (.Call (.Name "zip" p) [e, e2] [] pos) (iZip X.K ta) := by
  intro pins s σ H R I h
  refine Call_ (ld_blt I hg hm boot_zip5 (PyProof.Rows.callWith_type1 (thn (ha pos pins s σ H _ I h) fun us s1 ⟨vs, H1, I1, r1, q1⟩ => ?_) hs hpl))
  obtain ⟨a, b, xs, ys, ex, hqx, hqy, q⟩ := q1
  subst ex
  cases r1 with
  | cons r rr =>
    cases rr with
    | cons r' rr =>
      cases rr
      cases r
      cases r'
      obtain ⟨its, rv, p1, _⟩ := I1.list hqx
      obtain ⟨its2, rv2, p2, _⟩ := I1.list hqy
      have la : a < s1.heap.objs.size := p1.lt
      have lb : b < s1.heap.objs.size := p2.lt
      refine call_zip_2 p1.isList p2.isList fun h' hz hTI hTO h1 h2 hsz hk => wpAny_pyIter_zip hz ?_
      have I2 : Inv X pins σ H1 { s1 with heap := h' } := I1.kept (t' := s1.toks) hk
      refine ⟨s1.heap.objs.size + 4, [s1.heap.objs.size + 4, s1.heap.objs.size + 2, s1.heap.objs.size + 3, s1.heap.objs.size, s1.heap.objs.size + 1], _, _, H1, rfl, I2, turn_zip (PySem.W.ktu_apart s1.heap.objs.size a b la lb), ⟨hz, hTI, ⟨_, _, hTO⟩, h1, h2⟩, fun c hcm => ?_, q⟩
      have e' : c = s1.heap.objs.size + 4 ∨ c = s1.heap.objs.size + 2 ∨ c = s1.heap.objs.size + 3 ∨ c = s1.heap.objs.size ∨ c = s1.heap.objs.size + 1 := by simpa using hcm
      have hle : s1.heap.objs.size ≤ c := by
        rcases e' with z | z | z | z | z
        · rw [z]; exact Nat.le_add_right _ _
        · rw [z]; exact Nat.le_add_right _ _
        · rw [z]; exact Nat.le_add_right _ _
        · rw [z]; exact Nat.le_refl _
        · rw [z]; exact Nat.le_add_right _ _
      exact I1.fpOk hle (I1.hok.fresh hle)
end L2

section 
namespace Bits
open PySem PyProof.Rows

theorem nat_and_mul_pow (k : Nat) : ∀ a b : Nat, a < 2 ^ k → a &&& (b * 2 ^ k) = 0 := by
  induction k with
  | zero =>
    intro a b h
    have h0 : a = 0 := by
      rw [Nat.pow_zero] at h
      omega
    subst h0
    simp
  | succ k ih =>
    intro a b h
    have hm : (b * 2 ^ (k + 1)) = (b * 2 ^ k) * 2 := by rw [Nat.pow_succ, Nat.mul_assoc]
    have hlt : a / 2 < 2 ^ k := by
      rw [Nat.pow_succ] at h
      generalize 2 ^ k = m at h ⊢
      omega
    have i := ih (a / 2) b hlt
    rw [hm]
    generalize b * 2 ^ k = B at i ⊢
    have e : (a &&& (B * 2)) / 2 = a / 2 &&& (B * 2) / 2 := Nat.and_div_two
    have e2 : (B * 2) / 2 = B := by omega
    have o := @Nat.and_mod_two_eq_one a (B * 2)
    rw [e2, i] at e
    omega

theorem natCast_mul_pow (m k : Nat) : (m : Int) * 2 ^ k = ((m * 2 ^ k : Nat) : Int) := by
  rw [two_pow_cast]
  first
    | exact (Int.natCast_mul _ _).symm
    | simp

/-- low bits a, high part b: (b << k) | a -/
theorem bitOr_join {a b : Int} {k : Nat} (h0 : 0 ≤ a) (h1 : a < 2 ^ k) (hb : 0 ≤ b) : Builtin.bitOr a (b * 2 ^ k) = a + b * 2 ^ k := by
  obtain ⟨n, rfl⟩ := Int.eq_ofNat_of_zero_le h0
  obtain ⟨m, rfl⟩ := Int.eq_ofNat_of_zero_le hb
  have hn : n < 2 ^ k := by
    rw [two_pow_cast] at h1
    omega
  have e : Builtin.bitAnd (n : Int) ((m * 2 ^ k : Nat) : Int) = 0 := by
    rw [bitAnd_pp (by omega) (by omega), Int.toNat_natCast, Int.toNat_natCast, nat_and_mul_pow k n m hn] <;> rfl
  rw [natCast_mul_pow, bitOr_and, e]
  omega
theorem bitOr_join' {a b : Int} {k : Nat} (h0 : 0 ≤ a) (h1 : a < 2 ^ k) (hb : 0 ≤ b) : Builtin.bitOr (b * 2 ^ k) a = a + b * 2 ^ k := by
  rw [bitOr_comm]
  exact bitOr_join h0 h1 hb

/-- x & ((1 << k) - 1) -/
theorem bitAnd_mask {x : Int} (k : Nat) (hx : 0 ≤ x) : Builtin.bitAnd x (2 ^ k - 1) = x % 2 ^ k := by
  obtain ⟨n, rfl⟩ := Int.eq_ofNat_of_zero_le hx
  have hp : 0 < 2 ^ k := Nat.two_pow_pos k
  rw [two_pow_cast]
  have e : ((2 ^ k : Nat) : Int) - 1 = ((2 ^ k - 1 : Nat) : Int) := by
    generalize (2 : Nat) ^ k = m at hp
    omega
  rw [e, bitAnd_pp (by omega) (by omega), Int.toNat_natCast, Int.toNat_natCast, Nat.and_two_pow_sub_one_eq_mod]
  first
    | rfl
    | exact Int.natCast_emod _ _
    | simp

/-- (x >> i) & 1 -/
theorem bit_at {x : Int} (i : Nat) : Builtin.bitAnd (x.fdiv (2 ^ i)) 1 = x / 2 ^ i % 2 := by
  have hp : (0 : Int) ≤ 2 ^ i := by
    rw [two_pow_cast]
    exact Int.natCast_nonneg _
  rw [Int.fdiv_eq_ediv_of_nonneg _ hp, bitAnd_m1]

theorem nat_xor_add_and (m : Nat) : ∀ n : Nat, (m ^^^ n) + 2 * (m &&& n) = m + n := by
  induction m using Nat.strongRecOn with
  | _ m ih =>
    intro n
    by_cases h0 : m = 0
    · subst h0
      simp
    · have ih' := ih (m / 2) (by omega) (n / 2)
      rw [← Nat.xor_div_two, ← Nat.and_div_two] at ih'
      have o1 := @Nat.xor_mod_two_eq_one m n
      have a1 := @Nat.and_mod_two_eq_one m n
      omega

theorem bitXor_pp {x y : Int} (hx : 0 ≤ x) (hy : 0 ≤ y) : Builtin.bitXor x y = ((x.toNat ^^^ y.toNat : Nat) : Int) := by
  have e := nat_xor_add_and x.toNat y.toNat
  rw [bitXor_and, bitAnd_pp hx hy]
  omega
theorem bitOr_pp {x y : Int} (hx : 0 ≤ x) (hy : 0 ≤ y) : Builtin.bitOr x y = ((x.toNat ||| y.toNat : Nat) : Int) := by
  have e := nat_or_add_and x.toNat y.toNat
  rw [bitOr_and, bitAnd_pp hx hy]
  omega
theorem bitXor_nonneg {x y : Int} (hx : 0 ≤ x) (hy : 0 ≤ y) : 0 ≤ Builtin.bitXor x y := by
  rw [bitXor_pp hx hy]
  omega
theorem bitOr_nonneg {x y : Int} (hx : 0 ≤ x) (hy : 0 ≤ y) : 0 ≤ Builtin.bitOr x y := by
  rw [bitOr_pp hx hy]
  omega

end Bits
end 

section 
namespace TL
open PySem PySem.Builtin PySem.Builtin.Str PySem.StrLaws

abbrev tl (x : Str) : List Nat := x.cps.toList
theorem len_tl (x : Str) : x.length = (tl x).length := by simp [tl, Str.length]
theorem ext_tl {x y : Str} (h : tl x = tl y) : x = y := Str.ext' (Array.toList_inj.mp h)
theorem tl_append (x y : Str) : tl (x ++ y) = tl x ++ tl y := by
  show (x ++ y).cps.toList = _
  rw [Str.cps_append, Array.toList_append]
theorem tl_mk (l : List Nat) : tl ⟨l.toArray⟩ = l := rfl
theorem mk_tl (x : Str) : (⟨(tl x).toArray⟩ : Str) = x := ext_tl rfl
theorem map_tl_inj : ∀ {l m : List Str}, l.map tl = m.map tl → l = m
  | [], [], _ => rfl
  | [], _ :: _, h => by simp at h
  | _ :: _, [], h => by simp at h
  | x :: l, y :: m, h => by
    rw [List.map_cons, List.map_cons] at h
    injection h with h1 h2
    rw [ext_tl h1, map_tl_inj h2]
theorem tl_ofString (s : String) : tl (Str.ofString s) = s.toList.map Char.toNat := PyProof.Rows.signs_ofString s

/-! ### the list functions -/
/-- S stands at the head of l -/
def pre (S l : List Nat) : Bool := l.take S.length == S
/-- l cut at each S from the left; k signs are still to be passed over -/
def spl (S : List Nat) : Nat → List Nat → List Nat → List (List Nat)
  | _, acc, [] => [acc]
  | 0, acc, c :: r => if pre S (c :: r) = true then acc :: spl S (S.length - 1) [] r else spl S 0 (acc ++ [c]) r
  | k + 1, acc, _ :: r => spl S k acc r
/-- what stands before the first S, and behind it -/
def par (S : List Nat) : List Nat → List Nat → Option (List Nat × List Nat)
  | _, [] => none
  | acc, c :: r => if pre S (c :: r) = true then some (acc, (c :: r).drop S.length) else par S (acc ++ [c]) r

theorem spl_nil (S : List Nat) (k : Nat) (acc : List Nat) : spl S k acc [] = [acc] := by cases k <;> rfl
theorem spl_hit {S acc r : List Nat} {c : Nat} (h : pre S (c :: r) = true) : spl S 0 acc (c :: r) = acc :: spl S (S.length - 1) [] r := by
  show (if pre S (c :: r) = true then acc :: spl S (S.length - 1) [] r else spl S 0 (acc ++ [c]) r) = _
  rw [if_pos h]
theorem spl_miss {S acc r : List Nat} {c : Nat} (h : pre S (c :: r) = false) : spl S 0 acc (c :: r) = spl S 0 (acc ++ [c]) r := by
  show (if pre S (c :: r) = true then acc :: spl S (S.length - 1) [] r else spl S 0 (acc ++ [c]) r) = _
  rw [if_neg (by rw [h]; exact Bool.false_ne_true)]
theorem spl_pass (S : List Nat) : ∀ (k : Nat) (acc l : List Nat), spl S k acc l = spl S 0 acc (l.drop k)
  | 0, _, _ => by rw [List.drop_zero]
  | k + 1, acc, [] => by rw [List.drop_nil, spl_nil, spl_nil]
  | k + 1, acc, c :: r => by
    show spl S k acc r = spl S 0 acc (r.drop k)
    exact spl_pass S k acc r
theorem par_hit {S acc r : List Nat} {c : Nat} (h : pre S (c :: r) = true) : par S acc (c :: r) = some (acc, (c :: r).drop S.length) := by
  show (if pre S (c :: r) = true then some (acc, (c :: r).drop S.length) else par S (acc ++ [c]) r) = _
  rw [if_pos h]
theorem par_miss {S acc r : List Nat} {c : Nat} (h : pre S (c :: r) = false) : par S acc (c :: r) = par S (acc ++ [c]) r := by
  show (if pre S (c :: r) = true then some (acc, (c :: r).drop S.length) else par S (acc ++ [c]) r) = _
  rw [if_neg (by rw [h]; exact Bool.false_ne_true)]

theorem pre_nil {S : List Nat} (hS : S ≠ []) : pre S [] = false := by
  cases S with
  | nil => exact absurd rfl hS
  | cons s S => rfl
theorem pre_of_head {s c : Nat} (S r : List Nat) (h : c ≠ s) : pre (s :: S) (c :: r) = false := by
  cases hp : pre (s :: S) (c :: r) with
  | false => rfl
  | true =>
    have e : (c :: r).take (s :: S).length = s :: S := eq_of_beq hp
    rw [List.length_cons, List.take_succ_cons] at e
    injection e with e1 e2
    exact absurd e1 h
theorem pre_self (S r : List Nat) : pre S (S ++ r) = true := by
  show ((S ++ r).take S.length == S) = true
  have e : (S ++ r).take S.length = S := List.take_left
  rw [e] <;> exact beq_self_eq_true S

theorem getElem_drop_cons {L : List Nat} {a : Nat} (h : a < L.length) : ∃ c, L.drop a = c :: L.drop (a + 1) := ⟨L[a], List.drop_eq_getElem_cons h⟩
theorem spl_run (S L : List Nat) : ∀ (m a : Nat) (acc : List Nat), a + m ≤ L.length → (∀ k, a ≤ k → k < a + m → pre S (L.drop k) = false) →
    spl S 0 acc (L.drop a) = spl S 0 (acc ++ (L.drop a).take m) (L.drop (a + m))
  | 0, a, acc, _, _ => by rw [List.take_zero, List.append_nil, Nat.add_zero]
  | m + 1, a, acc, h, hn => by
    have hlt : a < L.length := by omega
    obtain ⟨c, e⟩ := getElem_drop_cons hlt
    have h0 := hn a (Nat.le_refl _) (by omega)
    have ih := spl_run S L m (a + 1) (acc ++ [c]) (by omega) (fun k h1 h2 => hn k (by omega) (by omega))
    have e2 : a + 1 + m = a + (m + 1) := by omega
    rw [e2] at ih
    rw [e] at h0
    rw [e, spl_miss h0, ih, List.take_succ_cons, List.append_assoc] <;> rfl
theorem par_run (S L : List Nat) : ∀ (m a : Nat) (acc : List Nat), a + m ≤ L.length → (∀ k, a ≤ k → k < a + m → pre S (L.drop k) = false) →
    par S acc (L.drop a) = par S (acc ++ (L.drop a).take m) (L.drop (a + m))
  | 0, a, acc, _, _ => by rw [List.take_zero, List.append_nil, Nat.add_zero]
  | m + 1, a, acc, h, hn => by
    have hlt : a < L.length := by omega
    obtain ⟨c, e⟩ := getElem_drop_cons hlt
    have h0 := hn a (Nat.le_refl _) (by omega)
    have ih := par_run S L m (a + 1) (acc ++ [c]) (by omega) (fun k h1 h2 => hn k (by omega) (by omega))
    have e2 : a + 1 + m = a + (m + 1) := by omega
    rw [e2] at ih
    rw [e] at h0
    rw [e, par_miss h0, ih, List.take_succ_cons, List.append_assoc] <;> rfl
theorem drop_two (L : List Nat) (a b : Nat) : (L.drop a).drop b = L.drop (a + b) := by
  first
    | rw [List.drop_drop]
    | rw [List.drop_drop, Nat.add_comm]
theorem spl_at {S L : List Nat} (hS : S ≠ []) {c : Nat} {acc : List Nat} (h : pre S (L.drop c) = true) : spl S 0 acc (L.drop c) = acc :: spl S 0 [] (L.drop (c + S.length)) := by
  rw [← drop_two]
  cases e : L.drop c with
  | nil => rw [e, pre_nil hS] at h; cases h
  | cons d r =>
    rw [e] at h
    rw [spl_hit h, spl_pass]
    cases S with
    | nil => exact absurd rfl hS
    | cons s S => rfl
theorem par_at {S L : List Nat} (hS : S ≠ []) {c : Nat} {acc : List Nat} (h : pre S (L.drop c) = true) : par S acc (L.drop c) = some (acc, L.drop (c + S.length)) := by
  rw [← drop_two]
  cases e : L.drop c with
  | nil => rw [e, pre_nil hS] at h; cases h
  | cons d r =>
    rw [e] at h
    rw [par_hit h]

/-! ### the model's split and partition are these -/
theorem at_iff {x y : Str} (hy : tl y ≠ []) (i : Nat) : At x y x.length i ↔ pre (tl y) ((tl x).drop i) = true := by
  have hx := len_tl x
  have hl := len_tl y
  constructor
  · intro h
    have h2 := h.2
    rw [subAt_eq, hl] at h2
    exact h2
  · intro h
    have e : ((tl x).drop i).take (tl y).length = tl y := eq_of_beq h
    have e1 := congrArg List.length e
    rw [List.length_take, List.length_drop] at e1
    have e2 : 0 < (tl y).length := List.length_pos_iff.mpr hy
    refine ⟨by omega, ?_⟩
    rw [subAt_eq, hl]
    exact h
theorem no_at {x y : Str} (hy : tl y ≠ []) {i : Nat} (h : ¬ At x y x.length i) : pre (tl y) ((tl x).drop i) = false := by
  cases hp : pre (tl y) ((tl x).drop i) with
  | false => rfl
  | true => exact absurd ((at_iff hy i).mpr hp) h
theorem len1 {y : Str} (hy : tl y ≠ []) : 1 ≤ y.length := by
  have e2 : 0 < (tl y).length := List.length_pos_iff.mpr hy
  rw [len_tl y]
  exact e2
theorem tl_strSub (x : Str) (i j : Nat) : tl (strSub x i j) = ((tl x).drop i).take (j - i) := strSub_toList x i j
theorem tl_strSub_end (x : Str) (i : Nat) : tl (strSub x i x.length) = (tl x).drop i := by
  rw [tl_strSub, len_tl x]
  exact List.take_of_length_le (by rw [List.length_drop] <;> omega)

theorem parts_spl {x y : Str} (hy : tl y ≠ []) : ∀ (cuts : List Nat) (a f : Nat), a ≤ (tl x).length → ChainG x y x.length a cuts f → (∀ k, f ≤ k → ¬ At x y x.length k) →
    (partsFrom x y.length a cuts).map tl = spl (tl y) 0 [] ((tl x).drop a)
  | [], a, f, ha, h, hn => by
    have e : f = a := h
    subst e
    show [tl (strSub x f x.length)] = _
    have run := spl_run (tl y) (tl x) ((tl x).length - f) f [] (by omega) (fun k h1 _ => no_at hy (hn k h1))
    have e2 : f + ((tl x).length - f) = (tl x).length := by omega
    rw [e2, List.drop_length, spl_nil, List.nil_append, List.take_of_length_le (by rw [List.length_drop] <;> omega)] at run
    rw [run, tl_strSub_end]
  | c :: r, a, f, ha, h, hn => by
    obtain ⟨h1, h2, h3, h4⟩ := h
    have hc : c + y.length ≤ x.length := h2.1
    have hx := len_tl x
    have hl := len_tl y
    have ih := parts_spl hy r (c + y.length) f (by omega) h4 hn
    show tl (strSub x a c) :: (partsFrom x y.length (c + y.length) r).map tl = _
    have run := spl_run (tl y) (tl x) (c - a) a [] (by omega) (fun k k1 k2 => no_at hy (h3 k k1 (by omega)))
    have e2 : a + (c - a) = c := by omega
    rw [e2, List.nil_append, spl_at hy ((at_iff hy c).mp h2)] at run
    rw [run, ih, tl_strSub, hl]

/-- hk: by kind_ok where the separator is plain -/
theorem split_spl (x y : Str) (hy : tl y ≠ []) (hk : ¬ Builtin.Str.strKind x < Builtin.Str.strKind y) : (Txt.split x y).map tl = spl (tl y) 0 [] (tl x) := by
  obtain ⟨f, g, hn⟩ := occ_tight x y (len1 hy)
  have key := parts_spl hy _ 0 f (Nat.zero_le _) g hn
  rw [List.drop_zero] at key
  have none_case : occurrences x y 0 x.length (x.length + 1) = [] → [x].map tl = spl (tl y) 0 [] (tl x) := fun ho => by
    rw [ho] at key
    rw [← key]
    show [tl x] = [tl (strSub x 0 x.length)]
    rw [sub_whole]
  unfold Txt.split
  by_cases h1 : (decide (x.length < y.length) || decide (Builtin.Str.strKind x < Builtin.Str.strKind y)) = true
  · rw [if_pos h1]
    have hlt : x.length < y.length := by
      simp only [Bool.or_eq_true, decide_eq_true_eq] at h1
      rcases h1 with h | h
      · exact h
      · exact absurd h hk
    refine none_case ?_
    cases ho : occurrences x y 0 x.length (x.length + 1) with
    | nil => rfl
    | cons c r =>
      rw [ho] at g
      have hc : c + y.length ≤ x.length := g.2.1.1
      omega
  · rw [if_neg h1]
    by_cases h2 : (occurrences x y 0 x.length (x.length + 1)).isEmpty = true
    · rw [if_pos h2]
      exact none_case (List.isEmpty_iff.mp h2)
    · rw [if_neg h2, partsBetween_eq]
      exact key
theorem kind_ok {x y : Str} (h : y.cps.all (· < 256) = true) : ¬ Builtin.Str.strKind x < Builtin.Str.strKind y := by
  have e : Builtin.Str.strKind y = 1 := by unfold PySem.Builtin.Str.strKind; rw [if_pos h]
  rw [e]
  unfold PySem.Builtin.Str.strKind
  split
  · omega
  · split <;> omega

theorem partition_par (x y : Str) (hy : tl y ≠ []) :
    Txt.partition x y = (match par (tl y) [] (tl x) with | some (a, b) => (⟨a.toArray⟩, y, ⟨b.toArray⟩) | none => (x, Str.empty, Str.empty)) := by
  have hx := len_tl x
  have hl := len_tl y
  rcases PyProof.Rows.partition_whole x y with ⟨e, hn⟩ | ⟨i, e, hi, hn⟩
  · have run := par_run (tl y) (tl x) (tl x).length 0 [] (by omega) (fun k _ _ => no_at hy (hn k))
    rw [List.drop_zero, Nat.zero_add, List.drop_length] at run
    rw [e, run] <;> rfl
  · have hb : i + y.length ≤ x.length := hi.1
    have run := par_run (tl y) (tl x) i 0 [] (by omega) (fun k _ k2 => no_at hy (hn k (by omega)))
    rw [List.drop_zero, Nat.zero_add, List.nil_append, par_at hy ((at_iff hy i).mp hi)] at run
    rw [e, run]
    have e1 : strSub x 0 i = ⟨((tl x).take i).toArray⟩ := ext_tl (by rw [tl_strSub, List.drop_zero, Nat.sub_zero])
    have e2 : strSub x (i + y.length) x.length = ⟨((tl x).drop (i + (tl y).length)).toArray⟩ := ext_tl (by rw [tl_strSub_end, hl])
    rw [e1, e2] <;> rfl

/-! ### computing spl and par -/
/-- a part that the separator does not begin in, then the separator -/
theorem spl_part {S p rest acc : List Nat} (hS : S ≠ []) (h : ∀ i, i < p.length → pre S ((p ++ (S ++ rest)).drop i) = false) :
    spl S 0 acc (p ++ (S ++ rest)) = (acc ++ p) :: spl S 0 [] rest := by
  have run := spl_run S (p ++ (S ++ rest)) p.length 0 acc (by rw [List.length_append]; omega) (fun k _ k2 => h k (by omega))
  have ed : (p ++ (S ++ rest)).drop p.length = S ++ rest := List.drop_left
  rw [List.drop_zero, Nat.zero_add, List.take_left] at run
  rw [run, spl_at hS (by rw [ed]; exact pre_self S rest), ← drop_two, ed, List.drop_left]
theorem spl_last {S p acc : List Nat} (h : ∀ i, i < p.length → pre S (p.drop i) = false) : spl S 0 acc p = [acc ++ p] := by
  have run := spl_run S p p.length 0 acc (by omega) (fun k _ k2 => h k (by omega))
  rw [List.drop_zero, Nat.zero_add, List.drop_length, spl_nil, List.take_length] at run
  exact run
theorem par_part {S p rest acc : List Nat} (hS : S ≠ []) (h : ∀ i, i < p.length → pre S ((p ++ (S ++ rest)).drop i) = false) :
    par S acc (p ++ (S ++ rest)) = some (acc ++ p, rest) := by
  have run := par_run S (p ++ (S ++ rest)) p.length 0 acc (by rw [List.length_append]; omega) (fun k _ k2 => h k (by omega))
  have ed : (p ++ (S ++ rest)).drop p.length = S ++ rest := List.drop_left
  rw [List.drop_zero, Nat.zero_add, List.take_left] at run
  rw [run, par_at hS (by rw [ed]; exact pre_self S rest), ← drop_two, ed, List.drop_left]
theorem par_none {S p acc : List Nat} (h : ∀ i, i < p.length → pre S (p.drop i) = false) : par S acc p = none := by
  have run := par_run S p p.length 0 acc (by omega) (fun k _ k2 => h k (by omega))
  rw [List.drop_zero, Nat.zero_add, List.drop_length] at run
  exact run
/-- the separator's first sign is not in the part -/
theorem free_of {s : Nat} {S p q : List Nat} (h : s ∉ p) : ∀ i, i < p.length → pre (s :: S) ((p ++ q).drop i) = false := fun i hi => by
  have hlt : i < (p ++ q).length := by rw [List.length_append]; omega
  have e : (p ++ q).drop i = (p ++ q)[i] :: (p ++ q).drop (i + 1) := List.drop_eq_getElem_cons hlt
  rw [e]
  refine pre_of_head _ _ fun z => h ?_
  have e1 : (p ++ q)[i] = p[i] := List.getElem_append_left hi
  rw [← z, e1]
  exact List.getElem_mem hi
theorem spl_part1 {s : Nat} {S p rest acc : List Nat} (h : s ∉ p) : spl (s :: S) 0 acc (p ++ (s :: S ++ rest)) = (acc ++ p) :: spl (s :: S) 0 [] rest :=
  spl_part (by simp) (free_of h)
theorem spl_last1 {s : Nat} {S p acc : List Nat} (h : s ∉ p) : spl (s :: S) 0 acc p = [acc ++ p] := spl_last fun i hi => by
  have z := free_of (S := S) (q := []) h i hi
  rw [List.append_nil] at z
  exact z
theorem par_part1 {s : Nat} {S p rest acc : List Nat} (h : s ∉ p) : par (s :: S) acc (p ++ (s :: S ++ rest)) = some (acc ++ p, rest) := par_part (by simp) (free_of h)
theorem par_none1 {s : Nat} {S p acc : List Nat} (h : s ∉ p) : par (s :: S) acc p = none := par_none fun i hi => by
  have z := free_of (S := S) (q := []) h i hi
  rw [List.append_nil] at z
  exact z

/-- joined lists -/
def joinL (S : List Nat) : List (List Nat) → List Nat
  | [] => []
  | [p] => p
  | p :: q :: r => p ++ (S ++ joinL S (q :: r))
theorem tl_join (y : Str) : ∀ parts : List Str, tl (Str.join y parts) = joinL (tl y) (parts.map tl)
  | [] => rfl
  | [_] => rfl
  | x :: z :: r => by
    show tl (x ++ y ++ Str.join y (z :: r)) = tl x ++ (tl y ++ joinL (tl y) ((z :: r).map tl))
    rw [tl_append, tl_append, tl_join y (z :: r), List.append_assoc]
theorem spl_join {s : Nat} {S : List Nat} : ∀ {parts : List (List Nat)}, parts ≠ [] → (∀ p ∈ parts, s ∉ p) → spl (s :: S) 0 [] (joinL (s :: S) parts) = parts
  | [], h, _ => absurd rfl h
  | [p], _, hp => by
    show spl (s :: S) 0 [] p = [p]
    rw [spl_last1 (hp p (List.mem_singleton.mpr rfl)), List.nil_append]
  | p :: q :: r, _, hp => by
    show spl (s :: S) 0 [] (p ++ (s :: S ++ joinL (s :: S) (q :: r))) = p :: q :: r
    rw [spl_part1 (hp p (List.mem_cons_self ..)), List.nil_append, spl_join (by simp) fun z hz => hp z (List.mem_cons_of_mem _ hz)]
theorem join_eq (y : Str) (parts : List Str) : Txt.join y parts = Str.join y parts := glued_eq_join y parts
/-- THE READ-BACK: a joined text, split -/
theorem split_join {y : Str} {s : Nat} {S : List Nat} (ey : tl y = s :: S) (hk : y.cps.all (· < 256) = true) {parts : List Str} (hne : parts ≠ []) (hp : ∀ p ∈ parts, s ∉ tl p) :
    Txt.split (Txt.join y parts) y = parts := by
  refine map_tl_inj ?_
  rw [split_spl _ y (by rw [ey]; simp) (kind_ok hk), join_eq, tl_join, ey]
  refine spl_join (fun e => hne (List.map_eq_nil_iff.mp e)) fun p h => ?_
  obtain ⟨z, hz, rfl⟩ := List.mem_map.mp h
  exact hp z hz
/-- a text cut at its first separator -/
theorem partition_app {y : Str} {s : Nat} {S : List Nat} (ey : tl y = s :: S) {a b : Str} (h : s ∉ tl a) : Txt.partition (a ++ y ++ b) y = (a, y, b) := by
  rw [partition_par _ y (by rw [ey]; simp), tl_append, tl_append, List.append_assoc, ey, par_part1 h]
  show ((⟨([] ++ tl a).toArray⟩ : Str), y, (⟨(tl b).toArray⟩ : Str)) = _
  rw [List.nil_append, mk_tl, mk_tl]
theorem partition_none {y : Str} {s : Nat} {S : List Nat} (ey : tl y = s :: S) {a : Str} (h : s ∉ tl a) : Txt.partition a y = (a, Str.empty, Str.empty) := by
  rw [partition_par _ y (by rw [ey]; simp), ey, par_none1 h]

/-! ### digits -/
/-- the signs of a number -/
def numL (n : Nat) : List Nat := (Nat.toDigits 10 n).map Char.toNat
theorem tl_num (n : Nat) : tl (Str.ofString (toString ((n : Nat) : Int))) = numL n := PySem.W.KIN.signs_num n
theorem digitChar_nat : ∀ d : Nat, d < 10 → (Nat.digitChar d).toNat = 48 + d := by decide
theorem numL_lt {n : Nat} (h : n < 10) : numL n = [48 + n] := by
  unfold numL
  rw [Nat.toDigits_of_lt_base h]
  show [(Nat.digitChar n).toNat] = _
  rw [digitChar_nat n h]
theorem numL_step {n : Nat} (h : 10 ≤ n) : numL n = numL (n / 10) ++ [48 + n % 10] := by
  have hm : n % 10 < 10 := Nat.mod_lt n (by decide)
  have t : Nat.toDigits 10 (n / 10) ++ Nat.toDigits 10 (n % 10) = Nat.toDigits 10 (10 * (n / 10) + n % 10) := Nat.toDigits_append_toDigits (by decide) (by omega) hm
  rw [Nat.div_add_mod] at t
  show (Nat.toDigits 10 n).map Char.toNat = _
  rw [← t, List.map_append, Nat.toDigits_of_lt_base hm]
  show (Nat.toDigits 10 (n / 10)).map Char.toNat ++ [(Nat.digitChar (n % 10)).toNat] = _
  rw [digitChar_nat _ hm] <;> rfl
theorem numL_digits (n : Nat) : NumText.AllDigits (numL n) := by
  induction n using Nat.strongRecOn with
  | _ n ih =>
    by_cases h : n < 10
    · rw [numL_lt h]
      intro c hc
      rw [List.mem_singleton.mp hc]
      omega
    · rw [numL_step (by omega)]
      intro c hc
      rcases List.mem_append.mp hc with hc | hc
      · exact ih (n / 10) (by omega) c hc
      · have hm : n % 10 < 10 := Nat.mod_lt n (by decide)
        rw [List.mem_singleton.mp hc]
        omega
theorem numL_ne (n : Nat) : numL n ≠ [] := by
  by_cases h : n < 10
  · rw [numL_lt h]
    simp
  · rw [numL_step (by omega)]
    simp
theorem numL_free {n s : Nat} (h : s < 48 ∨ 57 < s) : s ∉ numL n := fun hm => by
  have r := numL_digits n s hm
  omega
theorem numL_val (n : Nat) : NumText.digitsVal (numL n) = n := PySem.W.KIN.val_back n
theorem numL_inj {m n : Nat} (h : numL m = numL n) : m = n := by
  have e := congrArg NumText.digitsVal h
  rw [numL_val, numL_val] at e
  exact e
theorem numL_len {n k : Nat} (hk : 0 < k) (h : n < 10 ^ k) : (numL n).length ≤ k := by
  have z := PyProof.Rows.toString_length_le (v := (n : Int)) (by omega) hk (by
    have e : ((10 : Int) ^ k) = ((10 ^ k : Nat) : Int) := by
      first
        | exact (Int.natCast_pow 10 k).symm
        | simp
    rw [e]
    first | exact Int.ofNat_lt.mpr h | omega)
  rw [len_tl, tl_num] at z
  exact z
/-- int(str(n)) -/
theorem int_num {n : Nat} (h : (numL n).length ≤ 4300) : intText? (Str.ofString (toString ((n : Nat) : Int))) = some (n : Int) := by
  have e := intText_digits (x := Str.ofString (toString ((n : Nat) : Int))) (by rw [show (Str.ofString (toString ((n : Nat) : Int))).cps.toList = numL n from tl_num n]; exact numL_digits n)
    (by rw [show (Str.ofString (toString ((n : Nat) : Int))).cps.toList = numL n from tl_num n]; exact numL_ne n) (by rw [len_tl, tl_num]; exact h)
  rw [show (Str.ofString (toString ((n : Nat) : Int))).cps.toList = numL n from tl_num n, numL_val] at e
  exact e
/-- a program's own loop over digits: total = total * 10 + (ord(sign) - ord("0")) -/
theorem fold_digits : ∀ (l : List Nat) (a : Nat), NumText.AllDigits l → l.foldl (fun (t : Int) (c : Nat) => t * 10 + ((c : Int) - 48)) (a : Int) = ((l.foldl (fun acc c => acc * 10 + (c - 48)) a : Nat) : Int)
  | [], _, _ => rfl
  | c :: r, a, h => by
    have hc := h.head
    rw [List.foldl_cons, List.foldl_cons, ← fold_digits r _ h.tail]
    have e : (a : Int) * 10 + ((c : Int) - 48) = ((a * 10 + (c - 48) : Nat) : Int) := by omega
    rw [e]
theorem fold_num (n : Nat) : (numL n).foldl (fun (t : Int) (c : Nat) => t * 10 + ((c : Int) - 48)) 0 = (n : Int) := by
  have e := fold_digits (numL n) 0 (numL_digits n)
  have v := numL_val n
  unfold NumText.digitsVal at v
  rw [v] at e
  exact e

/-! ### words: x.split() -/
def wstep (st : List (List Nat) × List Nat) (c : Nat) : List (List Nat) × List Nat :=
  if Unicode.isSpace c = true then (if st.2 = [] then st else (st.1 ++ [st.2], [])) else (st.1, st.2 ++ [c])
def wfin (st : List (List Nat) × List Nat) : List (List Nat) := if st.2 = [] then st.1 else st.1 ++ [st.2]
theorem len0_tl (x : Str) : x.length = 0 ↔ tl x = [] := by
  rw [len_tl]
  exact List.length_eq_zero_iff
theorem step_tl (ws : List Str) (u : Str) (c : Nat) : ((KWd.step (ws, u) c).1.map tl, tl (KWd.step (ws, u) c).2) = wstep (ws.map tl, tl u) c := by
  by_cases hc : Unicode.isSpace c = true
  · by_cases hu : u.length = 0
    · have a : KWd.step (ws, u) c = (ws, u) := (if_pos hc).trans (if_pos hu)
      have b : wstep (ws.map tl, tl u) c = (ws.map tl, tl u) := (if_pos hc).trans (if_pos ((len0_tl u).mp hu))
      rw [a, b] <;> rfl
    · have a : KWd.step (ws, u) c = (ws ++ [u], Str.empty) := (if_pos hc).trans (if_neg hu)
      have b : wstep (ws.map tl, tl u) c = (ws.map tl ++ [tl u], []) := (if_pos hc).trans (if_neg fun z => hu ((len0_tl u).mpr z))
      rw [a, b]
      show ((ws ++ [u]).map tl, ([] : List Nat)) = _
      rw [List.map_append] <;> rfl
  · have a : KWd.step (ws, u) c = (ws, u ++ ⟨#[c]⟩) := if_neg hc
    have b : wstep (ws.map tl, tl u) c = (ws.map tl, tl u ++ [c]) := if_neg hc
    rw [a, b]
    show (ws.map tl, tl (u ++ ⟨#[c]⟩)) = _
    rw [tl_append] <;> rfl
theorem scan_tl : ∀ (l : List Nat) (st : KWd.St), ((l.foldl KWd.step st).1.map tl, tl (l.foldl KWd.step st).2) = l.foldl wstep (st.1.map tl, tl st.2)
  | [], _ => rfl
  | c :: r, (ws, u) => by
    show ((r.foldl KWd.step (KWd.step (ws, u) c)).1.map tl, tl (r.foldl KWd.step (KWd.step (ws, u) c)).2) = r.foldl wstep (wstep (ws.map tl, tl u) c)
    exact (scan_tl r (KWd.step (ws, u) c)).trans (congrArg (fun z => r.foldl wstep z) (step_tl ws u c))
theorem fin_tl : ∀ q : KWd.St, (KWd.fin q).map tl = wfin (q.1.map tl, tl q.2)
  | (ws, u) => by
    show (if u.length = 0 then ws else ws ++ [u]).map tl = (if tl u = [] then ws.map tl else ws.map tl ++ [tl u])
    by_cases hu : u.length = 0
    · rw [if_pos hu, if_pos ((len0_tl u).mp hu)]
    · rw [if_neg hu, if_neg (fun z => hu ((len0_tl u).mpr z)), List.map_append] <;> rfl
theorem words_tl (x : Str) : (Txt.words x).map tl = wfin ((tl x).foldl wstep ([], [])) := by
  rw [KWd.words_scan]
  exact (fin_tl (KWd.scan x)).trans (congrArg wfin (scan_tl (tl x) ([], Str.empty)))
/-- a run of signs that are no blanks -/
theorem wfold_word : ∀ (p : List Nat) (ws : List (List Nat)) (u : List Nat), (∀ c ∈ p, Unicode.isSpace c = false) → p.foldl wstep (ws, u) = (ws, u ++ p)
  | [], ws, u, _ => by rw [List.append_nil] <;> rfl
  | c :: r, ws, u, h => by
    have hc := h c (List.mem_cons_self ..)
    rw [List.foldl_cons]
    have e : wstep (ws, u) c = (ws, u ++ [c]) := if_neg (by rw [hc]; exact Bool.false_ne_true)
    rw [e, wfold_word r ws (u ++ [c]) fun d hd => h d (List.mem_cons_of_mem _ hd), List.append_assoc] <;> rfl
theorem isSpace_plain {c : Nat} (h1 : 33 ≤ c) (h2 : c ≤ 126) : Unicode.isSpace c = false := PySem.W.KWk.nosp h1 h2
/-- words joined by one blank -/
theorem wfold_join : ∀ (ps : List (List Nat)) (ws : List (List Nat)), ps ≠ [] → (∀ p ∈ ps, p ≠ [] ∧ ∀ c ∈ p, Unicode.isSpace c = false) → wfin ((joinL [32] ps).foldl wstep (ws, [])) = ws ++ ps
  | [], _, h, _ => absurd rfl h
  | [p], ws, _, h => by
    obtain ⟨h1, h2⟩ := h p (List.mem_singleton.mpr rfl)
    show wfin (p.foldl wstep (ws, [])) = _
    rw [wfold_word p ws [] h2, List.nil_append]
    exact if_neg h1
  | p :: q :: r, ws, _, h => by
    obtain ⟨h1, h2⟩ := h p (List.mem_cons_self ..)
    show wfin ((p ++ ([32] ++ joinL [32] (q :: r))).foldl wstep (ws, [])) = _
    rw [List.foldl_append, wfold_word p ws [] h2, List.nil_append, List.foldl_append]
    have e : [32].foldl wstep (ws, p) = (ws ++ [p], []) := by
      have hs : Unicode.isSpace 32 = true := by decide +kernel
      have a : wstep (ws, p) 32 = (if p = [] then (ws, p) else (ws ++ [p], [])) := if_pos hs
      exact a.trans (if_neg h1)
    rw [e, wfold_join (q :: r) (ws ++ [p]) (by simp) fun z hz => h z (List.mem_cons_of_mem _ hz), List.append_assoc] <;> rfl
end TL
end 

namespace L2
open PySem PySem.Spec PyProof.Rows

theorem notLong {n : Nat} (h : n ≤ 16777216) : Builtin.Str.tooLong n = false := by
  have e : (2 : Nat) ^ 24 = 16777216 := by decide
  unfold Builtin.Str.tooLong sizeLine
  exact decide_eq_false (by omega)

/-- a list of texts, of numbered texts -/
theorem vals_strs : ∀ l : List (Str × Tok), Vals ((l.map (·.1)).map V.str) (strValues l)
  | [] => .nil
  | p :: r => .cons ⟨p.2, rfl⟩ (vals_strs r)
theorem strs_of_vals : ∀ {ys : List Str} {us : List Value}, Vals (ys.map V.str) us → StrsAre us ys
  | [], _, .nil => .nil
  | y :: ys, _, .cons r t => by
    obtain ⟨k, rfl⟩ := r
    exact .cons y k (strs_of_vals t)

/-- a new list of texts, tracked -/
def rNewStrs (ys : List Str) : Hp → VK → Prop := fun H Q => ∀ p, H p = none → Q (.ref p) (upd H p (.lst (ys.map V.str)))

section
variable {X : Cx} {pins : List (Addr × Obj)} {σ : St} {H : Hp} {s : Shared} {Q : VK}
theorem laid_strs {l : List (Str × Tok)} {ys : List Str} {k : Nat} (I : Inv X pins σ H s) (e : l.map (·.1) = ys) (hz : ys.length ≤ sizeLine) (h : rNewStrs ys H Q) :
    EP X pins σ Q (.ref s.heap.objs.size) { s with toks := k, heap := s.heap.push { cls := .type "list", data := .seq (strValues l).toArray } } := by
  have hp := I.hok.fresh (Nat.le_refl _)
  refine ⟨.ref s.heap.objs.size, upd H s.heap.objs.size (.lst (ys.map V.str)), I.laid (fun b u q => Heap.get?_push_of_some _ q) (Nat.le_refl _) ⟨by rw [List.length_map]; exact hz, strValues l, _, ?_, Heap.get?_push_size _ rfl⟩, rfl, h _ hp⟩
  rw [← e]
  exact vals_strs l
theorem laid_parts {x y z : Str} {t u v : Tok} {k : Nat} (I : Inv X pins σ H s) (h : ∀ p, H p = none → Q (.ref p) (upd H p (.tup [.str x, .str y, .str z]))) :
    EP X pins σ Q (.ref s.heap.objs.size) { s with toks := k, heap := s.heap.push { cls := .type "tuple", data := .seq [Value.str x t, .str y u, .str z v].toArray } } := by
  have hp := I.hok.fresh (Nat.le_refl _)
  exact ⟨.ref s.heap.objs.size, upd H s.heap.objs.size (.tup [.str x, .str y, .str z]), I.laid (fun b u q => Heap.get?_push_of_some _ q) (Nat.le_refl _)
    ⟨by show 3 ≤ sizeLine; decide, [Value.str x t, .str y u, .str z v], .cons ⟨t, rfl⟩ (.cons ⟨u, rfl⟩ (.cons ⟨v, rfl⟩ .nil)), _, Heap.get?_push_size _ rfl, rfl, _, rfl⟩, rfl, h _ hp⟩
end

section
variable {X : Cx}

/-- x.split(sep) -/
theorem mt_split : MtR X "str.split" (fun x xs H Q => ∃ a b, x = .str a ∧ xs = [.str b] ∧ (b.length == 0) = false ∧ a.length + 2 ≤ sizeLine ∧ rNewStrs (Txt.split a b) H Q) := by
  intro pins s σ H x xs v us Q I rx rs h
  obtain ⟨a, b, rfl, rfl, hb, hz, h⟩ := h
  obtain ⟨t, rfl⟩ := rx
  cases rs with
  | cons r1 rs =>
    cases rs
    obtain ⟨u, rfl⟩ := r1
    have hl : (Txt.split a b).length ≤ sizeLine := Nat.le_trans (PyProof.Rows.split_le a b) hz
    have hn : (Builtin.Str.partsBetween a (Builtin.Str.occurrences a b 0 a.length (a.length + 1)) b.length).length ≤ sizeLine := by
      have e1 := StrLaws.occ_length_le a b 0 a.length (a.length + 1)
      rw [length_partsBetween]; omega
    cases h1 : (decide (a.length < b.length) || decide (Builtin.Str.strKind a < Builtin.Str.strKind b))
    · cases hf : (Builtin.Str.occurrences a b 0 a.length (a.length + 1)).isEmpty
      · refine call_meets F.slot_str_split (typeIs_str _ _ _) F.entry_str_split (F.args_str_split_2 _ _) (meets_str_split_sep a b t u h1 hb hf (by omega) hn) ?_
        show EP X pins σ Q (.ref s.heap.objs.size) { s with toks := _, heap := s.heap.push { cls := .type "list", data := .seq (strsFrom s.toks (Builtin.Str.partsBetween a (Builtin.Str.occurrences a b 0 a.length (a.length + 1)) b.length)).toArray } }
        rw [strsFrom_eq]
        exact laid_strs (ys := Txt.split a b) I ((numbered_texts _ _).trans ((if_neg (ne_true_of_eq_false h1)).trans (if_neg (ne_true_of_eq_false hf))).symm) hl h
      · refine call_meets F.slot_str_split (typeIs_str _ _ _) F.entry_str_split (F.args_str_split_2 _ _) (meets_str_split_not_found a b t u h1 hb hf) ?_
        exact laid_strs (l := [(a, t)]) (ys := Txt.split a b) (k := s.toks) I ((if_neg (ne_true_of_eq_false h1)).trans (if_pos hf)).symm hl h
    · refine call_meets F.slot_str_split (typeIs_str _ _ _) F.entry_str_split (F.args_str_split_2 _ _) (meets_str_split_cannot_occur a b t u h1) ?_
      exact laid_strs (l := [(a, t)]) (ys := Txt.split a b) (k := s.toks) I (if_pos h1).symm hl h

theorem words_le (x : Str) : (Txt.words x).length ≤ x.length + 1 := by
  have e1 := StrLaws.words_weight x
  omega
/-- x.split() -/
theorem mt_words : MtR X "str.split" (fun x xs H Q => ∃ a, x = .str a ∧ xs = [] ∧ a.length + 2 ≤ sizeLine ∧ rNewStrs (Txt.words a) H Q) := by
  intro pins s σ H x xs v us Q I rx rs h
  obtain ⟨a, rfl, rfl, hz, h⟩ := h
  obtain ⟨t, rfl⟩ := rx
  cases rs
  have hl : (Txt.words a).length ≤ sizeLine := Nat.le_trans (words_le a) (by omega)
  have hn : (Builtin.Str.spaceWords a (a.length + 1)).length ≤ sizeLine := by
    have e1 := (StrLaws.sw_weight a).1
    have e2 := StrLaws.len_le_wsum (Builtin.Str.spaceWords a (a.length + 1))
    omega
  refine call_meets F.slot_str_split (typeIs_str _ _ _) F.entry_str_split (F.args_str_split_1 _) (meets_str_split_space a t (by omega) hn) ?_
  cases hw : Builtin.Str.spaceWords a (a.length + 1) == [(0, a.length)]
  · simp only [Bool.false_eq_true, if_false]
    rw [strsFrom_eq]
    exact laid_strs (ys := Txt.words a) I ((numbered_texts _ _).trans (if_neg (ne_true_of_eq_false hw)).symm) hl h
  · simp only [if_true]
    exact laid_strs (l := [(a, t)]) (ys := Txt.words a) (k := s.toks) I (if_pos hw).symm hl h

/-- x.partition(sep) -/
theorem mt_partition : MtR X "str.partition" (fun x xs H Q => ∃ a b, x = .str a ∧ xs = [.str b] ∧ (b.length == 0) = false ∧ a.length ≤ sizeLine ∧
    ∀ p, H p = none → Q (.ref p) (upd H p (.tup [.str (Txt.partition a b).1, .str (Txt.partition a b).2.1, .str (Txt.partition a b).2.2]))) := by
  intro pins s σ H x xs v us Q I rx rs h
  obtain ⟨a, b, rfl, rfl, hb, hz, h⟩ := h
  obtain ⟨t, rfl⟩ := rx
  cases rs with
  | cons r1 rs =>
    cases rs
    obtain ⟨u, rfl⟩ := r1
    refine call_meets F.slot_str_partition (typeIs_str _ _ _) F.entry_str_partition (F.args_str_partition_2 _ _) (meets_str_partition a b t u hb hz) ?_
    unfold Txt.partition at h
    revert h
    cases Builtin.Str.occurrences a b 0 a.length 1 with
    | nil => intro h; exact laid_parts I h
    | cons i r => intro h; exact laid_parts I h

/-- sep.join(a list | a tuple of texts) -/
theorem mt_join : MtR X "str.join" (fun x xs H Q => ∃ a p, ∃ ys : List Str, x = .str a ∧ xs = [.ref p] ∧ (SqL X.K H p (ys.map V.str) ∨ SqT X.K H p (ys.map V.str)) ∧
    (ys.map (·.length)).sum + ys.length * a.length ≤ 16777216 ∧ Q (.str (Txt.join a ys)) H) := by
  intro pins s σ H x xs v us Q I rx rs h
  obtain ⟨a, p, ys, rfl, rfl, hp, hz, h⟩ := h
  obtain ⟨t, rfl⟩ := rx
  cases rs with
  | cons r1 rs =>
    cases rs
    cases r1
    rcases hp with hp | hp
    · obtain ⟨its, r, ⟨o, n, ho, hc, _, hd⟩, _⟩ := I.list hp
      exact PyProof.Rows.join_list (items := its.toArray) ⟨o, ho, hc, n, hd⟩ (by rw [List.toList_toArray]; exact strs_of_vals r) hz fun t' k => ⟨.str _, H, I.tok k, ⟨t', rfl⟩, h⟩
    · obtain ⟨its, r, ht, _⟩ := I.tuple hp
      exact PyProof.Rows.join_tuple (items := its.toArray) ht (by rw [List.toList_toArray]; exact strs_of_vals r) hz fun t' k => ⟨.str _, H, I.tok k, ⟨t', rfl⟩, h⟩

/-! ### of a text alone -/
theorem mt0 {id : String} {C : Str → Prop} {g : Str → V} (rule : ∀ (a : Str) (t : Tok) (s : Shared) (Q : Value → Shared → Prop), C a → (∀ (u : Value) (k : Nat), RelV (g a) u → Q u { s with toks := k }) →
    wpAny (model X.prog X.w) X.A (call (.builtin id) [.str a t]) Q X.xe s) : MtR X id (fun x xs H Q => ∃ a, x = .str a ∧ xs = [] ∧ C a ∧ Q (g a) H) := by
  intro pins s σ H x xs v us Q I rx rs h
  obtain ⟨a, rfl, rfl, hc, h⟩ := h
  obtain ⟨t, rfl⟩ := rx
  cases rs
  exact rule a t s _ hc fun u k r => ⟨g a, H, I.tok k, r, h⟩
theorem mt_strip : MtR X "str.strip" (fun x xs H Q => ∃ a, x = .str a ∧ xs = [] ∧ a.length ≤ sizeLine ∧ Q (.str (Txt.strip a)) H) :=
  mt0 (C := fun a => a.length ≤ sizeLine) (g := fun a => .str (Txt.strip a)) fun _ _ _ _ hc h => PySem.SC.strip (fun t' k => h _ k ⟨t', rfl⟩) hc
theorem mt_lstrip : MtR X "str.lstrip" (fun x xs H Q => ∃ a, x = .str a ∧ xs = [] ∧ a.length ≤ sizeLine ∧ Q (.str (Txt.lstrip a)) H) :=
  mt0 (C := fun a => a.length ≤ sizeLine) (g := fun a => .str (Txt.lstrip a)) fun _ _ _ _ hc h => PySem.SC.lstrip (fun t' k => h _ k ⟨t', rfl⟩) hc
theorem mt_rstrip : MtR X "str.rstrip" (fun x xs H Q => ∃ a, x = .str a ∧ xs = [] ∧ a.length ≤ sizeLine ∧ Q (.str (Txt.rstrip a)) H) :=
  mt0 (C := fun a => a.length ≤ sizeLine) (g := fun a => .str (Txt.rstrip a)) fun _ _ _ _ hc h => PySem.SC.rstrip (fun t' k => h _ k ⟨t', rfl⟩) hc
theorem mt_lower : MtR X "str.lower" (fun x xs H Q => ∃ a, x = .str a ∧ xs = [] ∧ a.length ≤ 5592405 ∧ Q (.str (Txt.lower a)) H) :=
  mt0 (C := fun a => a.length ≤ 5592405) (g := fun a => .str (Txt.lower a)) fun a _ s _ hc h =>
    PySem.SC.lower (notLong (by have h1 : a.length ≤ 5592405 := hc; have := PyProof.Rows.len_lower a; omega)) (h _ (s.toks + 1) ⟨_, rfl⟩)
theorem mt_upper : MtR X "str.upper" (fun x xs H Q => ∃ a, x = .str a ∧ xs = [] ∧ a.length ≤ 5592405 ∧ Q (.str (Txt.upper a)) H) :=
  mt0 (C := fun a => a.length ≤ 5592405) (g := fun a => .str (Txt.upper a)) fun a _ s _ hc h =>
    PySem.SC.upper (notLong (by have h1 : a.length ≤ 5592405 := hc; have := PyProof.Rows.len_upper a; omega)) (h _ (s.toks + 1) ⟨_, rfl⟩)
theorem mt_isdigit : MtR X "str.isdigit" (fun x xs H Q => ∃ a, x = .str a ∧ xs = [] ∧ True ∧ Q (.bl (Txt.isdigit a)) H) :=
  mt0 (C := fun _ => True) (g := fun a => .bl (Txt.isdigit a)) fun _ _ s _ _ h => PySem.SC.isdigit (h _ s.toks rfl)
theorem mt_isalpha : MtR X "str.isalpha" (fun x xs H Q => ∃ a, x = .str a ∧ xs = [] ∧ True ∧ Q (.bl (Txt.isalpha a)) H) :=
  mt0 (C := fun _ => True) (g := fun a => .bl (Txt.isalpha a)) fun _ _ s _ _ h => PySem.SC.isalpha (h _ s.toks rfl)
theorem mt_isalnum : MtR X "str.isalnum" (fun x xs H Q => ∃ a, x = .str a ∧ xs = [] ∧ True ∧ Q (.bl (Txt.isalnum a)) H) :=
  mt0 (C := fun _ => True) (g := fun a => .bl (Txt.isalnum a)) fun _ _ s _ _ h => PySem.SC.isalnum (h _ s.toks rfl)
theorem mt_isspace : MtR X "str.isspace" (fun x xs H Q => ∃ a, x = .str a ∧ xs = [] ∧ True ∧ Q (.bl (Txt.isspace a)) H) :=
  mt0 (C := fun _ => True) (g := fun a => .bl (Txt.isspace a)) fun _ _ s _ _ h => PySem.SC.isspace (h _ s.toks rfl)

/-! ### of a text and a text -/
theorem mt1 {id : String} {g : Str → Str → V} (rule : ∀ (a b : Str) (t u : Tok) (s : Shared) (Q : Value → Shared → Prop), (∀ (v : Value) (k : Nat), RelV (g a b) v → Q v { s with toks := k }) →
    wpAny (model X.prog X.w) X.A (call (.builtin id) [.str a t, .str b u]) Q X.xe s) : MtR X id (fun x xs H Q => ∃ a b, x = .str a ∧ xs = [.str b] ∧ Q (g a b) H) := by
  intro pins s σ H x xs v us Q I rx rs h
  obtain ⟨a, b, rfl, rfl, h⟩ := h
  obtain ⟨t, rfl⟩ := rx
  cases rs with
  | cons r1 rs =>
    cases rs
    obtain ⟨u, rfl⟩ := r1
    exact rule a b t u s _ fun v k r => ⟨g a b, H, I.tok k, r, h⟩
theorem mt_startswith : MtR X "str.startswith" (fun x xs H Q => ∃ a b, x = .str a ∧ xs = [.str b] ∧ Q (.bl (Txt.startswith a b)) H) :=
  mt1 (g := fun a b => .bl (Txt.startswith a b)) fun _ _ _ _ s _ h => PySem.SC.startswith (h _ s.toks rfl)
theorem mt_endswith : MtR X "str.endswith" (fun x xs H Q => ∃ a b, x = .str a ∧ xs = [.str b] ∧ Q (.bl (Txt.endswith a b)) H) :=
  mt1 (g := fun a b => .bl (Txt.endswith a b)) fun _ _ _ _ s _ h => PySem.SC.endswith (h _ s.toks rfl)
theorem mt_find : MtR X "str.find" (fun x xs H Q => ∃ a b, x = .str a ∧ xs = [.str b] ∧ Q (.int (Txt.find a b)) H) :=
  mt1 (g := fun a b => .int (Txt.find a b)) fun _ _ _ _ s _ h => PySem.SC.find (h _ (s.toks + 1) ⟨_, rfl⟩)
theorem mt_count : MtR X "str.count" (fun x xs H Q => ∃ a b, x = .str a ∧ xs = [.str b] ∧ Q (.int (Txt.count a b)) H) :=
  mt1 (g := fun a b => .int (Txt.count a b)) fun _ _ _ _ s _ h => PySem.SC.count (h _ (s.toks + 1) ⟨_, rfl⟩)

/-- int(text) -/
theorem call_int_str : CallR X (.type "int") (fun xs H Q => ∃ a n, xs = [.str a] ∧ PySem.intText? a = some n ∧ a.length ≤ 640 ∧ Q (.int n) H) := by
  intro pins s σ H xs us Q I rs h
  obtain ⟨a, n, rfl, hn, hl, h⟩ := h
  cases rs with
  | cons r1 rs =>
    cases rs
    obtain ⟨t, rfl⟩ := r1
    exact PySem.W.KIN.call_text hn hl ⟨.int n, H, I.tok _, ⟨_, rfl⟩, h⟩
end

section
variable {X : Cx} {o e : Expr} {to te : TE}
def tM0 (r : V → List V → Hp → VK → Prop) (to : TE) : TE := fun σ H Q => to σ H fun x H1 => (∃ a, x = .str a) ∧ r x [] H1 Q
def tM1 (r : V → List V → Hp → VK → Prop) (to te : TE) : TE := fun σ H Q => to σ H fun x H1 => (∃ a, x = .str a) ∧ te σ H1 fun y H2 => r x [y] H2 Q
theorem pe_m0 {id : String} {name : Str} {apos pos : Pos} {r : V → List V → Hp → VK → Prop} (slot : Slot "str" name id) (ty : typeOf (.builtin id) = pure (.type "method_descriptor")) (rule : MtR X id r) (ho : PE X o to)
    (hbase : attributeBase o name X.env (eval o X.env) = eval o X.env := by rfl) (hline : (apos.endLine == pos.line) = true := by rfl) : PE X (.Call (.Attribute o name apos) [] [] pos) (tM0 r to) := by
  intro pins s σ H Q I h
  refine PySem.Call_method0 hbase hline (thn (ho pins s σ H _ I h) fun v s1 ⟨x, H1, I1, r1, q1⟩ => ?_)
  obtain ⟨⟨a, rfl⟩, q1⟩ := q1
  obtain ⟨t, rfl⟩ := _root_.id r1
  exact ⟨"str", _, F.plainAttrs_str, slot, ty, typeIs_str _ _ _, (fun _ e => nomatch e), Calls.callWith_builtin rfl (PySem.evalArgs_none (rule pins s1 σ H1 _ [] _ [] Q I1 r1 .nil q1))⟩
theorem pe_m1 {id : String} {name : Str} {apos pos : Pos} {r : V → List V → Hp → VK → Prop} (slot : Slot "str" name id) (ty : typeOf (.builtin id) = pure (.type "method_descriptor")) (rule : MtR X id r) (ho : PE X o to) (he : PE X e te)
    (hs : starEach [e] X.env = [(false, eval e X.env)] := by rfl) (hbase : attributeBase o name X.env (eval o X.env) = eval o X.env := by rfl) (hline : (apos.endLine == pos.line) = true := by rfl) :
    PE X (.Call (.Attribute o name apos) [e] [] pos) (tM1 r to te) := by
  intro pins s σ H Q I h
  refine PySem.Call_method1 hbase hs hline (thn (ho pins s σ H _ I h) fun v s1 ⟨x, H1, I1, r1, q1⟩ => ?_)
  obtain ⟨⟨a, rfl⟩, q1⟩ := q1
  obtain ⟨t, rfl⟩ := _root_.id r1
  refine ⟨"str", _, F.plainAttrs_str, slot, ty, typeIs_str _ _ _, (fun _ e => nomatch e), Calls.callWith_builtin rfl (Calls.evalArgs_plain (Calls.spliced_cons ?_))⟩
  exact thn (he pins s1 σ H1 _ I1 q1) fun u s2 ⟨y, H2, I2, r2, q2⟩ => Calls.spliced_nil (rule pins s2 σ H2 _ [y] _ [u] Q I2 r1 (.cons r2 .nil) q2)

theorem pe_split {apos pos : Pos} (ho : PE X o to) (he : PE X e te) (hs : starEach [e] X.env = [(false, eval e X.env)] := by rfl) (hbase : attributeBase o "split" X.env (eval o X.env) = eval o X.env := by rfl) (hline : (apos.endLine == pos.line) = true := by rfl) :
    PE X (.Call (.Attribute o "split" apos) [e] [] pos) (tM1 (fun x xs H Q => ∃ a b, x = .str a ∧ xs = [.str b] ∧ (b.length == 0) = false ∧ a.length + 2 ≤ sizeLine ∧ rNewStrs (Txt.split a b) H Q) to te) :=
  pe_m1 F.slot_str_split F.type_str_split mt_split ho he hs hbase hline
theorem pe_words {apos pos : Pos} (ho : PE X o to) (hbase : attributeBase o "split" X.env (eval o X.env) = eval o X.env := by rfl) (hline : (apos.endLine == pos.line) = true := by rfl) :
    PE X (.Call (.Attribute o "split" apos) [] [] pos) (tM0 (fun x xs H Q => ∃ a, x = .str a ∧ xs = [] ∧ a.length + 2 ≤ sizeLine ∧ rNewStrs (Txt.words a) H Q) to) :=
  pe_m0 F.slot_str_split F.type_str_split mt_words ho hbase hline
theorem pe_partition {apos pos : Pos} (ho : PE X o to) (he : PE X e te) (hs : starEach [e] X.env = [(false, eval e X.env)] := by rfl) (hbase : attributeBase o "partition" X.env (eval o X.env) = eval o X.env := by rfl) (hline : (apos.endLine == pos.line) = true := by rfl) :
    PE X (.Call (.Attribute o "partition" apos) [e] [] pos) (tM1 (fun x xs H Q => ∃ a b, x = .str a ∧ xs = [.str b] ∧ (b.length == 0) = false ∧ a.length ≤ sizeLine ∧
      ∀ p, H p = none → Q (.ref p) (upd H p (.tup [.str (Txt.partition a b).1, .str (Txt.partition a b).2.1, .str (Txt.partition a b).2.2]))) to te) :=
  pe_m1 F.slot_str_partition F.type_str_partition mt_partition ho he hs hbase hline
theorem pe_join {apos pos : Pos} (ho : PE X o to) (he : PE X e te) (hs : starEach [e] X.env = [(false, eval e X.env)] := by rfl) (hbase : attributeBase o "join" X.env (eval o X.env) = eval o X.env := by rfl) (hline : (apos.endLine == pos.line) = true := by rfl) :
    PE X (.Call (.Attribute o "join" apos) [e] [] pos) (tM1 (fun x xs H Q => ∃ a p, ∃ ys : List Str, x = .str a ∧ xs = [.ref p] ∧ (SqL X.K H p (ys.map V.str) ∨ SqT X.K H p (ys.map V.str)) ∧
      (ys.map (·.length)).sum + ys.length * a.length ≤ 16777216 ∧ Q (.str (Txt.join a ys)) H) to te) :=
  pe_m1 F.slot_str_join F.type_str_join mt_join ho he hs hbase hline
theorem pe_strip {apos pos : Pos} (ho : PE X o to) (hbase : attributeBase o "strip" X.env (eval o X.env) = eval o X.env := by rfl) (hline : (apos.endLine == pos.line) = true := by rfl) :
    PE X (.Call (.Attribute o "strip" apos) [] [] pos) (tM0 (fun x xs H Q => ∃ a, x = .str a ∧ xs = [] ∧ a.length ≤ sizeLine ∧ Q (.str (Txt.strip a)) H) to) :=
  pe_m0 F.slot_str_strip F.type_str_strip mt_strip ho hbase hline
theorem pe_lower {apos pos : Pos} (ho : PE X o to) (hbase : attributeBase o "lower" X.env (eval o X.env) = eval o X.env := by rfl) (hline : (apos.endLine == pos.line) = true := by rfl) :
    PE X (.Call (.Attribute o "lower" apos) [] [] pos) (tM0 (fun x xs H Q => ∃ a, x = .str a ∧ xs = [] ∧ a.length ≤ 5592405 ∧ Q (.str (Txt.lower a)) H) to) :=
  pe_m0 F.slot_str_lower F.type_str_lower mt_lower ho hbase hline
theorem pe_upper {apos pos : Pos} (ho : PE X o to) (hbase : attributeBase o "upper" X.env (eval o X.env) = eval o X.env := by rfl) (hline : (apos.endLine == pos.line) = true := by rfl) :
    PE X (.Call (.Attribute o "upper" apos) [] [] pos) (tM0 (fun x xs H Q => ∃ a, x = .str a ∧ xs = [] ∧ a.length ≤ 5592405 ∧ Q (.str (Txt.upper a)) H) to) :=
  pe_m0 F.slot_str_upper F.type_str_upper mt_upper ho hbase hline
end
end L2

namespace L2
open PySem PySem.Spec PyProof.Rows

section
variable {X : Cx}
theorem op_le_str : OpR X (compareOp .LtE) (fun x y H Q => ∃ i j, x = .str i ∧ y = .str j ∧ Q (.bl (!decide (j.cps.toList < i.cps.toList))) H) := by
  intro pins s σ H x y v u Q I rx ry h
  obtain ⟨i, j, rfl, rfl, q⟩ := h
  obtain ⟨t, rfl⟩ := rx
  obtain ⟨t', rfl⟩ := ry
  exact PySem.P.le_str (fin_bl I q rfl)
theorem op_gt_str : OpR X (compareOp .Gt) (fun x y H Q => ∃ i j, x = .str i ∧ y = .str j ∧ Q (.bl (decide (j.cps.toList < i.cps.toList))) H) := by
  intro pins s σ H x y v u Q I rx ry h
  obtain ⟨i, j, rfl, rfl, q⟩ := h
  obtain ⟨t, rfl⟩ := rx
  obtain ⟨t', rfl⟩ := ry
  exact PySem.P.gt_str (fin_bl I q rfl)
theorem op_ge_str : OpR X (compareOp .GtE) (fun x y H Q => ∃ i j, x = .str i ∧ y = .str j ∧ Q (.bl (!decide (i.cps.toList < j.cps.toList))) H) := by
  intro pins s σ H x y v u Q I rx ry h
  obtain ⟨i, j, rfl, rfl, q⟩ := h
  obtain ⟨t, rfl⟩ := rx
  obtain ⟨t', rfl⟩ := ry
  exact PySem.P.ge_str (fin_bl I q rfl)
/-- one sign in a text -/
theorem op_in_sign : OpR X (compareOp .In) (fun x y H Q => ∃ (c : Nat) (z : Str), x = .str ⟨#[c]⟩ ∧ y = .str z ∧ Q (.bl (decide (c ∈ z.cps.toList))) H) := by
  intro pins s σ H x y v u Q I rx ry h
  obtain ⟨c, z, rfl, rfl, q⟩ := h
  obtain ⟨t, rfl⟩ := rx
  obtain ⟨t', rfl⟩ := ry
  exact PyProof.Rows.in_str (fin_bl I q (PySem.StrLaws.found_one z c).symm)
theorem op_notIn_sign : OpR X (compareOp .NotIn) (fun x y H Q => ∃ (c : Nat) (z : Str), x = .str ⟨#[c]⟩ ∧ y = .str z ∧ Q (.bl (!decide (c ∈ z.cps.toList))) H) := by
  intro pins s σ H x y v u Q I rx ry h
  obtain ⟨c, z, rfl, rfl, q⟩ := h
  obtain ⟨t, rfl⟩ := rx
  obtain ⟨t', rfl⟩ := ry
  exact PyProof.Rows.notIn_str (fin_bl I q (congrArg Bool.not (PySem.StrLaws.found_one z c).symm))
end

/-! ### slices of a text -/
theorem IsPart.raw {v : Value} {o : Option Int} (p : IsPart v o) : ∃ l : Option (Int × Tok), v = partValue l ∧ l.map (·.1) = o := by
  cases p with
  | none => exact ⟨none, rfl, rfl⟩
  | int i t => exact ⟨some (i, t), rfl, rfl⟩

/-- a part, clipped, as the text's slice reckons it -/
def clipS (n d : Nat) : Option Int → Int
  | none => (d : Int)
  | some i => max 0 (min (if i < 0 then i + (n : Int) else i) (n : Int))
theorem clipS_eq (n d : Nat) (o : Option Int) : clipS n d o = ((HT.sIx n d o : Nat) : Int) := by
  cases o with
  | none => rfl
  | some v =>
    show max (0 : Int) (min (if v < 0 then v + (n : Int) else v) (n : Int)) = (((if v < 0 then (v + (n : Int)).toNat else min v.toNat n) : Nat) : Int)
    by_cases hv : v < 0
    · simp only [if_pos hv]
      omega
    · simp only [if_neg hv]
      omega
theorem sidx_clip (a b : Option Int) (n : Nat) : Builtin.Str.strSliceIndices a b 1 n = sliceRange (clipS n 0 a) (clipS n n b) 1 := by
  have h1 : ((1 : Int) > 0) = True := by simp
  cases a <;> cases b <;> first
    | rfl
    | (simp only [Builtin.Str.strSliceIndices, clipS, h1, if_true]; rfl)
    | simp [Builtin.Str.strSliceIndices, clipS]
theorem sidx (a b : Option Int) (n : Nat) : Builtin.Str.strSliceIndices a b 1 n = (List.range (HT.sIx n n b - HT.sIx n 0 a)).map (fun k => HT.sIx n 0 a + k) := by
  rw [sidx_clip, clipS_eq, clipS_eq]
  generalize HT.sIx n 0 a = p
  generalize HT.sIx n n b = q
  simp only [sliceRange, show ((1 : Int) > 0) = True from by simp, if_true]
  by_cases hlt : (p : Int) < q
  · have e3 : (((q : Int) - p + 1 - 1) / 1).toNat = q - p := by first | omega | (simp; done) | (simp; omega)
    simp only [hlt, if_true, e3]
    refine List.map_congr_left fun k _ => ?_
    omega
  · have : q - p = 0 := by omega
    simp [hlt, this]

/-- z[lo:hi] -/
def cutS (z : Str) (lo hi : Option Int) : Str :=
  ⟨((z.cps.toList.drop (HT.sIx z.length 0 lo)).take (HT.sIx z.length z.length hi - HT.sIx z.length 0 lo)).toArray⟩
theorem sliceText_cut (z : Str) (lo hi : Option Int) : PySem.StrLaws.sliceText z lo hi = cutS z lo hi := by
  have h1 : HT.sIx z.length 0 lo ≤ z.length := HT.sIx_le _ _ (Nat.zero_le _) _
  have h2 : HT.sIx z.length z.length hi ≤ z.length := HT.sIx_le _ _ (Nat.le_refl _) _
  have hp : HT.sIx z.length 0 lo ≤ max (HT.sIx z.length 0 lo) (HT.sIx z.length z.length hi) := Nat.le_max_left _ _
  have hq : max (HT.sIx z.length 0 lo) (HT.sIx z.length z.length hi) ≤ z.length := Nat.max_le.mpr ⟨h1, h2⟩
  have hd : max (HT.sIx z.length 0 lo) (HT.sIx z.length z.length hi) - HT.sIx z.length 0 lo = HT.sIx z.length z.length hi - HT.sIx z.length 0 lo := by omega
  have e : Builtin.Str.strSliceIndices lo hi 1 z.length =
      Builtin.Str.strSliceIndices (some ((HT.sIx z.length 0 lo : Nat) : Int)) (some ((max (HT.sIx z.length 0 lo) (HT.sIx z.length z.length hi) : Nat) : Int)) 1 z.length := by
    rw [PySem.StrLaws.strSliceIndices_plain hp hq, hd, sidx]
  have e2 : PySem.StrLaws.sliceText z lo hi =
      PySem.StrLaws.sliceText z (some ((HT.sIx z.length 0 lo : Nat) : Int)) (some ((max (HT.sIx z.length 0 lo) (HT.sIx z.length z.length hi) : Nat) : Int)) := by
    unfold PySem.StrLaws.sliceText
    rw [e]
  rw [e2, PySem.StrLaws.sliceText_nat z hp hq, hd]
  rfl
theorem cutS_length (z : Str) (lo hi : Option Int) : (cutS z lo hi).length ≤ z.length := by
  show (((z.cps.toList.drop (HT.sIx z.length 0 lo)).take (HT.sIx z.length z.length hi - HT.sIx z.length 0 lo)).toArray).size ≤ z.cps.size
  rw [List.size_toArray, List.length_take, List.length_drop, Array.length_toList]
  omega
def rSlS : V → Option Int → Option Int → Hp → VK → Prop := fun x lo hi H Q => ∃ z, x = .str z ∧ z.length ≤ sizeLine ∧ Q (.str (cutS z lo hi)) H
theorem sl_str {X : Cx} : SlR X rSlS := by
  intro pins s σ H x v vl vu lo hi sl Q I rx hs pl pu h
  obtain ⟨z, rfl, hz, q⟩ := h
  obtain ⟨t, rfl⟩ := rx
  obtain ⟨os, hos, hcs, hds⟩ := hs
  obtain ⟨l, rfl, rfl⟩ := IsPart.raw pl
  obtain ⟨u, rfl, rfl⟩ := IsPart.raw pu
  refine ⟨"str", _, F.slot_str_getitem.lookup, typeIs_str _ _ _, ?_⟩
  refine wpAny_getItem_str_slice (l := l) (u := u) (st := none) ⟨os, hos, hcs, hds⟩ rfl ?_
  have hl : (PySem.StrLaws.sliceText z (l.map (·.1)) (u.map (·.1))).length ≤ sizeLine := by
    rw [sliceText_cut]
    exact Nat.le_trans (cutS_length z _ _) hz
  rw [← sliceText_cut] at q
  unfold PySem.StrLaws.sliceText at q hl
  show Made.post (if ((1 : Int) == 1 && (Builtin.Str.strSliceIndices (l.map (·.1)) (u.map (·.1)) 1 z.length).length == z.length) = true then Made.val (.str z t)
    else Made.str ⟨((Builtin.Str.strSliceIndices (l.map (·.1)) (u.map (·.1)) 1 z.length).filterMap (z.cps[·]?)).toArray⟩) (EP X pins σ Q) s
  by_cases c : ((1 : Int) == 1 && (Builtin.Str.strSliceIndices (l.map (·.1)) (u.map (·.1)) 1 z.length).length == z.length) = true
  · rw [if_pos c] at q ⊢
    exact ⟨.str z, H, I, ⟨t, rfl⟩, q⟩
  · rw [if_neg c] at q hl ⊢
    exact ⟨hl, .str _, H, I.tok _, ⟨_, rfl⟩, q⟩
end L2

namespace Att
open PySem PySem.W PySem.Calls PyProof.Rows

/-! ### the script -/
theorem ints_of_wellAll {P : Params} {h : Heap} : ∀ (ns : List Int) (vs : List Value), WellAll P h vs (ns.map WData.int) → IntsAre vs ns := by
  intro ns
  induction ns with
  | nil =>
    intro vs w
    rw [List.map_nil] at w
    cases w
    exact .nil
  | cons n ns ih =>
    intro vs w
    rw [List.map_cons] at w
    cases w with
    | cons a b =>
      cases a
      exact .cons _ _ (ih _ b)

theorem script_of {l : OpenLaw} {n : Nat} (hn : l.most = some n) {P : Params} {h : Heap} {args : List WData} {vals : List Value}
    (hpre : l.row.toRowW.claim.pre args = true) (hwl : WellAll P h vals args) :
    ∃ a vs ns, vals = [Value.ref a] ∧ args = [WData.list (ns.map WData.int)] ∧ h.get? a = some { cls := .type "list", data := .seq vs.toArray } ∧ IntsAre vs ns ∧ ns.length ≤ n := by
  have hsh : WShape.hasAll [] args [.list .int] = true := (pre_splitW hpre).1
  have hc : l.pre.holds [] { args := args } = true := (pre_splitW hpre).2
  obtain ⟨d, r, rfl, h1, h2⟩ := hasAllW_cons hsh
  obtain rfl := hasAllW_nil h2
  obtain ⟨xs, rfl, h3⟩ := hasW_list h1
  obtain ⟨ns, rfl⟩ := items_int h3
  have hlen : ns.length ≤ n := by
    unfold OpenLaw.pre at hc
    have h4 : (WTm.not (.lt (.lit (.int (n : Int))) (.len (.arg 0)))).holds [] { args := [.list (ns.map .int)] } = true := by
      have h4 := (holds_andW hc).1
      rw [hn] at h4
      exact h4
    have h5 := condW_of h4 (w_not (w_lt w_lit (w_len_list (w_arg rfl))))
    rw [List.length_map] at h5
    refine Nat.le_of_not_lt fun q => ?_
    have q' : (n : Int) < ((ns.length : Nat) : Int) := by omega
    first
      | (rw [decide_eq_true q'] at h5; exact absurd h5 (by decide))
      | (simp at h5; omega)
  cases hwl with
  | cons w1 w2 =>
    cases w2
    cases w1 with
    | list ho hall => exact ⟨_, _, ns, rfl, rfl, ho, ints_of_wellAll ns _ hall, hlen⟩

theorem post_true (l : OpenLaw) (args : List WData) : l.row.toRowW.claim.post args (.bool true) args = true :=
  postW_of (r := l.row.toRowW) (X := (true == true))
    (show WShape.has [] (.bool true) .bool = true by first | rfl | decide | simp [WShape.has, WShape.arms, WShape.armsAll])
    (show (WTm.eq .res (.lit (.bool true))).value [] { args := args, res := some (.bool true), after := args } = some (.bool (true == true)) from w_eq_bool (w_res rfl) w_lit) rfl

/-! ### the attachment: holds_open's last premise (the goal 'hc' behind k_head) from a wpAny of the law's body -/
theorem attach {l : OpenLaw} {n : Nat} {q : Program} {loose : List Str} {XP : (Str → Option Value) → Heap → Prop} {YP : World → Heap → Prop} {d : DefRec} {x : Str}
    (hn : l.most = some n) (hdf : d.params.defaults = [])
    (hbind : ∀ pm cd doc v : Value, bindArgs (docDef d.name d.params d.body d.scope pm cd doc) ⟨[v], []⟩ = pure [(x, v)])
    (hx : d.scope.names.lookup x = some .local ∨ d.scope.names.lookup x = some .cell)
    (hk : d.scope.kind = .function) (hco : d.scope.isCoroutine = false) (hgen : d.scope.isGenerator = false)
    (body : ∀ (w : World) (s₀ s₁ s : Shared) (mg mb : Str → Option Value) (fa : Addr) (o : Obj) (pm cd doc : Value) (a : Addr) (vs : List Value) (ns : List Int),
      Ground q loose [] XP w s₀ mg mb s₁.heap → YP w s₁.heap →
      s₁.heap.get? fa = some o → o.data = .func (docDef d.name d.params d.body d.scope pm cd doc) → s₁.heap.CodeRec cd d.name → mg d.name = some (.ref fa) →
      s₁.heap.get? a = some { cls := .type "list", data := .seq vs.toArray } → IntsAre vs ns → ns.length ≤ n →
      s.gens = #[] → s.os = s₁.os →
      Fr s₁.heap s₁.heap.objs.size s.heap (bindL (envOfC d.name d.scope s₁.heap.objs.size fa cd).kindOf [(x, .ref a)] fun _ => none) →
      Cl s₁.heap.objs.size (cellsFrom (s₁.heap.objs.size + 1) d.scope.names []) s.heap (bindC (envOfC d.name d.scope s₁.heap.objs.size fa cd).kindOf [(x, .ref a)] fun _ => none) →
      wpAny (model l.prog w) (callerA.deeper (envOfC d.name d.scope s₁.heap.objs.size fa cd)) (execs d.body (envOfC d.name d.scope s₁.heap.objs.size fa cd))
        (fun f s' => f = .ret (.bool true) ∧ OldK s₁.heap s'.heap ∧ s'.os = s₁.os ∧ AllBare s'.gens) (fun _ _ => False) s) :
    WalkO q loose XP YP l.row.toRowW d [] (fun f vs => PySem.call f vs) := by
  intro w s₀ s₁ mg mb G Y fa o pm cd doc dV kV ho hd hcd hD hmg hg args vals as hpre hlay hrd hwl hlo
  obtain rfl : dV = .none := Dflts.none hD hdf
  obtain rfl : kV = .none := Dflts.noKw hD
  obtain ⟨a, vs, ns, rfl, rfl, hobj, hints, hlen⟩ := script_of hn hpre hwl
  refine enter_call ?_
  refine call_cells_ret (o := o) (by rw [depth_caller]; decide) ho (fd_plain hd) G.T.nolimit hcd (hbind pm cd doc (.ref a)) (fun y hy => ?_) (fun h₁ tk F X => ?_) hco hgen hk
  · obtain rfl : y = (x, Value.ref a) := List.mem_singleton.mp hy
    rcases hx with e | e
    · exact .inl e
    · exact .inr ⟨e, cellsFrom_some _ _ _ (.inl e)⟩
  · refine wpAny_mono (body w s₀ s₁ { s₁ with heap := h₁, toks := tk } mg mb fa o pm cd doc a vs ns G Y ho (fd_plain hd) hcd hmg hobj hints hlen hg rfl F X) (fun f s' hq => ?_) (fun _ _ hq => hq)
    obtain ⟨rfl, h2, h3, h4⟩ := hq
    exact ⟨.inl ⟨.bool true, .bool true, [], rfl, fun _ => rfl, .bool true, post_true l _, fun _ => ⟨List.Pairwise.nil, fun _ hm => (nomatch hm)⟩⟩, h2, h3, h4⟩

/-- the same from a codeAny of the CALL (for a layer whose function contracts speak of calls) -/
theorem attach_call {l : OpenLaw} {n : Nat} {q : Program} {loose : List Str} {XP : (Str → Option Value) → Heap → Prop} {YP : World → Heap → Prop} {d : DefRec}
    (hn : l.most = some n) (hdf : d.params.defaults = [])
    (call : ∀ (w : World) (s₀ s₁ : Shared) (mg mb : Str → Option Value) (fa : Addr) (o : Obj) (pm cd doc : Value) (a : Addr) (vs : List Value) (ns : List Int),
      Ground q loose [] XP w s₀ mg mb s₁.heap → YP w s₁.heap →
      s₁.heap.get? fa = some o → o.data = .func (docDef d.name d.params d.body d.scope pm cd doc) → s₁.heap.CodeRec cd d.name → mg d.name = some (.ref fa) →
      s₁.heap.get? a = some { cls := .type "list", data := .seq vs.toArray } → IntsAre vs ns → ns.length ≤ n → s₁.gens = #[] →
      codeAny (model l.prog w) callerA (.call (.ref fa) ⟨[.ref a], []⟩) (fun r s' => r = .ok (.ret (.bool true)) ∧ OldK s₁.heap s'.heap ∧ s'.os = s₁.os ∧ AllBare s'.gens) s₁) :
    WalkO q loose XP YP l.row.toRowW d [] (fun f vs => PySem.call f vs) := by
  intro w s₀ s₁ mg mb G Y fa o pm cd doc dV kV ho hd hcd hD hmg hg args vals as hpre hlay hrd hwl hlo
  obtain rfl : dV = .none := Dflts.none hD hdf
  obtain rfl : kV = .none := Dflts.noKw hD
  obtain ⟨a, vs, ns, rfl, rfl, hobj, hints, hlen⟩ := script_of hn hpre hwl
  refine enter_call (codeAny_mono (call w s₀ s₁ mg mb fa o pm cd doc a vs ns G Y ho (fd_plain hd) hcd hmg hobj hints hlen hg) fun r s' hq => ?_)
  obtain ⟨rfl, h2, h3, h4⟩ := hq
  exact ⟨.inl ⟨.bool true, .bool true, [], rfl, fun _ => rfl, .bool true, post_true l _, fun _ => ⟨List.Pairwise.nil, fun _ hm => (nomatch hm)⟩⟩, h2, h3, h4⟩

/-- the same where the top left finished generators (o_head chose holds_openN): nothing may have changed at all and no generator may be left -/
theorem attachN {l : OpenLaw} {n : Nat} {q : Program} {loose : List Str} {XP : (Str → Option Value) → Heap → Prop} {YP : World → Heap → Prop} {d : DefRec} {x : Str}
    (hn : l.most = some n) (hdf : d.params.defaults = [])
    (hbind : ∀ pm cd doc v : Value, bindArgs (docDef d.name d.params d.body d.scope pm cd doc) ⟨[v], []⟩ = pure [(x, v)])
    (hx : d.scope.names.lookup x = some .local ∨ d.scope.names.lookup x = some .cell)
    (hk : d.scope.kind = .function) (hco : d.scope.isCoroutine = false) (hgen : d.scope.isGenerator = false)
    (body : ∀ (w : World) (s₀ s₁ s : Shared) (mg mb : Str → Option Value) (fa : Addr) (o : Obj) (pm cd doc : Value) (a : Addr) (vs : List Value) (ns : List Int),
      Ground q loose [] XP w s₀ mg mb s₁.heap → YP w s₁.heap →
      s₁.heap.get? fa = some o → o.data = .func (docDef d.name d.params d.body d.scope pm cd doc) → s₁.heap.CodeRec cd d.name → mg d.name = some (.ref fa) →
      s₁.heap.get? a = some { cls := .type "list", data := .seq vs.toArray } → IntsAre vs ns → ns.length ≤ n →
      s.gens = #[] → s.os = s₁.os →
      Fr s₁.heap s₁.heap.objs.size s.heap (bindL (envOfC d.name d.scope s₁.heap.objs.size fa cd).kindOf [(x, .ref a)] fun _ => none) →
      Cl s₁.heap.objs.size (cellsFrom (s₁.heap.objs.size + 1) d.scope.names []) s.heap (bindC (envOfC d.name d.scope s₁.heap.objs.size fa cd).kindOf [(x, .ref a)] fun _ => none) →
      wpAny (model l.prog w) (callerA.deeper (envOfC d.name d.scope s₁.heap.objs.size fa cd)) (execs d.body (envOfC d.name d.scope s₁.heap.objs.size fa cd))
        (fun f s' => f = .ret (.bool true) ∧ (∀ b o, s₁.heap.get? b = some o → s'.heap.get? b = some o) ∧ s'.os = s₁.os ∧ s'.gens = #[]) (fun _ _ => False) s) :
    WalkN q loose XP YP l.row.toRowW d [] (fun f vs => PySem.call f vs) := by
  intro w s₀ s₁ mg mb G Y fa o pm cd doc dV kV ho hd hcd hD hmg hg args vals as hpre hlay hrd hwl hlo
  obtain rfl : dV = .none := Dflts.none hD hdf
  obtain rfl : kV = .none := Dflts.noKw hD
  obtain ⟨a, vs, ns, rfl, rfl, hobj, hints, hlen⟩ := script_of hn hpre hwl
  refine enter_callW ?_
  refine call_cells_ret (o := o) (by rw [depth_caller]; decide) ho (fd_plain hd) G.T.nolimit hcd (hbind pm cd doc (.ref a)) (fun y hy => ?_) (fun h₁ tk F X => ?_) hco hgen hk
  · obtain rfl : y = (x, Value.ref a) := List.mem_singleton.mp hy
    rcases hx with e | e
    · exact .inl e
    · exact .inr ⟨e, cellsFrom_some _ _ _ (.inl e)⟩
  · refine wpAny_mono (body w s₀ s₁ { s₁ with heap := h₁, toks := tk } mg mb fa o pm cd doc a vs ns G Y ho (fd_plain hd) hcd hmg hobj hints hlen hg rfl F X) (fun f s' hq => ?_) (fun _ _ hq => hq)
    obtain ⟨rfl, h2, h3, h4⟩ := hq
    exact ⟨.inl ⟨.bool true, .bool true, [], rfl, fun _ => rfl, .bool true, post_true l _, fun _ => ⟨List.Pairwise.nil, fun _ hm => (nomatch hm)⟩⟩, h2, h3, h4⟩

/-! ### rules over ANY heap (no ledger) from facts about the written part K: the library's own take a ledger (News) for what they write -/
section
variable {prog : Program} {w : World} {A : Around} {E : Value → Shared → Prop} {s : Shared} {K : Frag}

/-- a def of the module, or a method (qual 'C.m'), entered: the frame is the next address; cells behind it -/
theorem call_fn {R : Result → Shared → Prop} {name qual : Str} {params : Arguments} {body : List Stmt} {scope : Scope} {dV kV doc pm cdv ct oc : Value} {an od : Option Addr} {osl : Array (Option Value)} {f : Addr} {args : Args} {binds : List (Str × Value)}
    (X : K.In s.heap) (hlim : s.heap.NoLimit) (ho : K.lookup f = some ⟨oc, od, .func (fnOf name qual params body scope dV kV doc pm an cdv ct), osl⟩) (hcd : codeIn K cdv qual = true) (hroom : A.depth < recursionLimit)
    (hbind : BindsTo s (fnOf name qual params body scope dV kV doc pm an cdv ct) args binds)
    (hkind : (binds.all fun y => scope.names.lookup y.1 == some .local || scope.names.lookup y.1 == some .cell) = true)
    (h : ∀ s₁, InCallC s s.heap.objs.size (bindL (envOfC qual scope s.heap.objs.size f cdv).kindOf binds fun _ => none) (cellsFrom (s.heap.objs.size + 1) scope.names [])
        (bindC (envOfC qual scope s.heap.objs.size f cdv).kindOf binds fun _ => none) s₁ →
      wpAny (model prog w) (A.deeper (envOfC qual scope s.heap.objs.size f cdv)) (execs body (envOfC qual scope s.heap.objs.size f cdv))
        (fun fl s' => R (.ok (.ret (match fl with | .ret v => v | _ => .none))) s')
        (fun e s' => wpAny (model prog w) (A.deeper (envOfC qual scope s.heap.objs.size f cdv)) (leaving (envOfC qual scope s.heap.objs.size f cdv) e) (fun _ s'' => R (.error e) s'') (fun e' s'' => R (.error e') s'') s') s₁)
    (hco : scope.isCoroutine = false) (hgen : scope.isGenerator = false) (hk : scope.kind = .function) : codeAny (model prog w) A (.call (.ref f) args) R s := by
  refine codeAny_call_function hroom (X _ _ ho) rfl hco hgen rfl (codeRec_of X hcd) (hbind _ _ _ _ ?_)
  refine wpAny_newFunctionEnv_cells hk (kindsX hkind _) fun env he s₁ x => ?_
  subst he
  exact ⟨hlim.keeps x.toInCall.keep, codeAny_func (h s₁ x)⟩

/-- C(..): dict at size, instance at size + 1, then __init__ -/
theorem make_obj {R : Result → Shared → Prop} {C fI : Addr} {rest : List Value} {kw : List (Str × Value)}
    (X : K.In s.heap) (hm : makesIn K C = true) (hi : findIn K (.ref C) "__init__" = some (some (.ref fI))) (hf : isFn K (.ref fI) = true)
    (h : codeAny (model prog w) (A.under (.builtin "type.__call__" ⟨.ref C :: rest, kw⟩)) (.call (.ref fI) ⟨.ref (s.heap.objs.size + 1) :: rest, kw⟩) (InitBack (s.heap.objs.size + 1) R)
      { s with heap := (s.heap.push emptyDict).push (instObj C s.heap.objs.size) }) : codeAny (model prog w) A (.call (.ref C) ⟨rest, kw⟩) R s := by
  obtain ⟨hh, g, d, t, os⟩ := s
  exact make_core (makes_of X hm) (looks_findIn X hi) (fun self => bind_fn X self (beq_iff_eq.mp hf)) (.inl rfl) h

/-- x.name where the instance's dict holds the name and the class does not -/
theorem get_field {x C : Addr} {ox : Obj} {es : List DictEntry} {n : Nat} {name : Str} {expr : Bool} {v : Value} {Q : Value → Shared → Prop}
    (X : K.In s.heap) (I : PySem.W.InstAt s.heap x ox C (some (dictOf es n))) (hg : plainGet K C name = true) (hh : hasDictIn K C = true) (ha : findIn K (.ref C) name = some none)
    (hl : getL name es = some (some v)) (hv : handedIn v = true) (h : Q v { s with toks := s.toks + 1 }) : wpAny (model prog w) A (getAttr (.ref x) name expr) Q E s :=
  get_value X I (plainGet_of hg).1 (findObj_own hh ha rfl hl) hv h

/-- x.m(..): the method found in the class -/
theorem get_method {x C f : Addr} {ox : Obj} {es : List DictEntry} {n : Nat} {name : Str} {pl : Sem Bool} {Q : Value × List Value → Shared → Prop}
    (X : K.In s.heap) (I : PySem.W.InstAt s.heap x ox C (some (dictOf es n))) (hg : plainGet K C name = true) (hf : findIn K (.ref C) name = some (some (.ref f))) (ht : isFn K (.ref f) = true)
    (hl : getL name es = some none) (h : Q (.ref f, [.ref x]) s) : wpAny (model prog w) A (getMethod (.ref x) name pl) Q E s :=
  method_fn X I (plainGet_of hg).1 (plainGet_of hg).2 hf (beq_iff_eq.mp ht) (by show (lookIn name (dictOf es n)).map _ = _; rw [lookIn_dict, hl]; rfl) h

/-! the whole heap as the ledger: makes every rule that writes through a ledger a rule over any heap -/
def noObjs (h : Heap) : Heap := { h with objs := #[] }
theorem noObjs_get (h : Heap) (b : Addr) : (noObjs h).get? b = none := by
  cases e : (noObjs h).get? b with
  | none => rfl
  | some o => exact absurd (Heap.lt_size e) (Nat.not_lt_zero _)
def ledger (h : Heap) (L d : Addr) : List (Addr × Obj) := (List.range h.objs.size).filterMap fun a => if a = L ∨ a = d then none else (h.get? a).map fun o => (a, o)
theorem mem_ledger {h : Heap} {L d a : Addr} {o : Obj} : (a, o) ∈ ledger h L d ↔ a ≠ L ∧ a ≠ d ∧ h.get? a = some o := by
  unfold ledger
  rw [List.mem_filterMap]
  constructor
  · rintro ⟨b, _, e⟩
    split at e
    · cases e
    · rename_i hb
      obtain ⟨o', ho, e'⟩ := Option.map_eq_some_iff.mp e
      cases e'
      exact ⟨fun q => hb (.inl q), fun q => hb (.inr q), ho⟩
  · rintro ⟨n1, n2, ho⟩
    refine ⟨a, List.mem_range.mpr (Heap.lt_size ho), ?_⟩
    rw [if_neg (show ¬ (a = L ∨ a = d) from fun q => q.elim n1 n2), ho] <;> rfl
theorem news_ledger {h : Heap} {L d : Addr} {od : Obj} (hne : d ≠ L) (ho : h.get? d = some od) : News (noObjs h) L h ([] ++ (d, od) :: ledger h L d) := by
  rintro ⟨a, o⟩ hp
  rcases List.mem_cons.mp hp with e | hp
  · cases e
    exact ⟨ho, hne, noObjs_get _ _⟩
  · obtain ⟨n1, n2, e⟩ := mem_ledger.mp hp
    exact ⟨e, n1, noObjs_get _ _⟩
theorem fr_all {h : Heap} {L : Addr} {m : Str → Option Value} (n : h.Ns L m) : Fr (noObjs h) L h m :=
  ⟨n, fun b o e => (by rw [noObjs_get] at e; cases e), Nat.zero_le _⟩
/-- Upd of the head entry (for append_K, setItem_K ..) -/
theorem upd_ledger {h : Heap} {L d : Addr} {o o' : Obj} : Upd d o o' ((d, o) :: ledger h L d) ((d, o') :: ledger h L d) :=
  .head fun ⟨_, _⟩ hp => (mem_ledger.mp hp).2.1

/-- x.name = v over any heap: L is any namespace of the heap (the frame's, say): its map stays, its object is not told; all else but the dict stays -/
theorem set_field {x C dx L : Addr} {ox : Obj} {m : Str → Option Value} {es es' : List DictEntry} {n n' : Nat} {name : Str} {v : Value} {Q : Unit → Shared → Prop}
    (X : K.In s.heap) (I : PySem.W.InstAt s.heap x ox C (some (dictOf es n))) (hd : ox.dict = some dx) (hL : s.heap.Ns L m) (hne : dx ≠ L)
    (hs : findIn K (.ref C) "__setattr__" = some (some (.builtin "object.__setattr__"))) (hp : plainOver K C = true) (ht : takerIn K C name = some none) (hh : hasDictIn K C = true) (hl : (getL name es).isSome = true)
    (e : (putL name (PyData.keyHash w.params name) (.str name (s.toks + 1)) v es, putN name es n) = (es', n')) (hz : es'.length ≤ 1000)
    (h : ∀ h' : Heap, h'.Ns L m → h'.get? dx = some (dictOf es' n') → (∀ b o, b ≠ dx → b ≠ L → s.heap.get? b = some o → h'.get? b = some o) → Q () { s with heap := h', toks := s.toks + 2 }) :
    wpAny (model prog w) A (setAttr (.ref x) name v) Q E s := by
  obtain ⟨e1, e2⟩ := Prod.mk.inj e
  have hdx : s.heap.get? dx = some (dictOf es n) := by
    have := I.dict
    rw [hd] at this
    exact this
  refine set_plain X I hs (osa_dict (s := { s with toks := s.toks + 1 }) (h₀ := noObjs s.heap) (L := L) (m := m) (od := dictOf es n) (od' := dictOf es' n') (es := es') (n := n') (pre := []) (post := ledger s.heap L dx)
    (fr_all hL) (news_ledger hne hdx) X I hd hp ht hh hl (fun _ q => nomatch q) (fun ⟨_, _⟩ q => (mem_ledger.mp q).2.1) (by rw [putName_dict, e1, e2]) rfl hz fun h' F' N' => ?_)
  exact h h' F'.ns (N'.get (List.Mem.head _)) fun b o n1 n2 ho => N'.get (List.Mem.tail _ (mem_ledger.mpr ⟨n2, n1, ho⟩))
end
end Att

namespace L2
open PySem PySem.Spec PyProof.Rows

theorem vals_ints : ∀ {vs : List Value} {ns : List Int}, IntsAre vs ns → Vals (ns.map V.int) vs
  | _, _, .nil => .nil
  | _, _, .cons n t h => .cons ⟨t, rfl⟩ (vals_ints h)

/-- nothing is tracked but the script, known to the object (or it is an object of the module) -/
def Only (H : Hp) : Prop := ∀ b, H b = none ∨ ∃ o xs, H b = some (.frz o (.lst xs))

/-- THE HEAD: the law's promise, at the heap behind the top. F, the promise of the law's def, may use that base is part of the heap (so K.In base, base.Ns mainGlobals mg stand in Mod) -/
theorem law_call {P : Program} {w : World} {K : PySem.W.Frag} {mg mb : Str → Option Value} {CX : CXT} {k : Nat} {fa a : Addr} {fd : FuncData} {x : Str} {sp : Sp} {s₁ : Shared} {vs : List Value} {ns : List Int}
    (KX : K.In s₁.heap) (hns : s₁.heap.Ns mainGlobals mg) (hb : s₁.heap.Ns builtinsNs mb) (hbb : ∀ x : Str, x ≠ "__name__" → mb x = bootBuiltins x) (hlim : s₁.heap.NoLimit) (hg : s₁.gens = #[])
    (ha : s₁.heap.get? a = some { cls := .type "list", data := .seq vs.toArray }) (hi : IntsAre vs ns) (hl : ns.length ≤ sizeLine) (hr : Room k callerA)
    (F : ∀ base : Heap, K.In base → base.Ns mainGlobals mg → FnOk P w K mg base CX k fa fd [x] sp) (hbind : ∀ (s : Shared) (u : Value), BindsTo s fd ⟨[u], []⟩ [(x, u)])
    (hsp : ∀ H : Hp, Only H → SqL K H a (ns.map V.int) → sp [.ref a] H (fun v _ => v = .bl true) fun _ _ _ => False)
    (hCX : ∀ H e s', CX [] H s₁ (fun _ _ _ => False) e s' → False) :
    codeAny (model P w) callerA (.call (.ref fa) ⟨[.ref a], []⟩) (fun r s' => r = .ok (.ret (.bool true)) ∧ OldK s₁.heap s'.heap ∧ s'.os = s₁.os ∧ AllBare s'.gens) s₁ := by
  have rv := vals_ints hi
  have lenV := hi.length
  -- from an abstract heap in which nothing but the script may be tracked
  have core : ∀ H : Hp, Only H → SqL K H a (ns.map V.int) → HOk P w H s₁.heap → (∀ b, H b ≠ none → b = a) → (H a ≠ none → K.lookup a = none) →
      codeAny (model P w) callerA (.call (.ref fa) ⟨[.ref a], []⟩) (fun r s' => r = .ok (.ret (.bool true)) ∧ OldK s₁.heap s'.heap ∧ s'.os = s₁.os ∧ AllBare s'.gens) s₁ := by
    intro H hO hS hok hA hK
    have base_of : ∀ {b : Addr} {o : Obj}, s₁.heap.get? b = some o → H b = none → (hidT s₁.heap H).get? b = some o := fun e n => hidT_get e n
    have noA : ∀ {b : Addr} {o : Obj} {es : Array DictEntry} {ep : Nat}, s₁.heap.get? b = some o → o.data = .dict es ep → H b = none := fun {b o es ep} e d => by
      cases q : H b with
      | none => rfl
      | some u =>
        have e' : b = a := hA b (by rw [q]; simp)
        subst e'
        rw [ha] at e; cases e
        have d' : Data.seq vs.toArray _ = Data.dict es ep := d
        cases d'
    have nsK : ∀ {b : Addr} {m : Str → Option Value}, s₁.heap.Ns b m → (hidT s₁.heap H).Ns b m := fun {b m} ⟨o, es, ep, e, d, r⟩ => ⟨o, es, ep, base_of e (noA e d), d, r⟩
    have hKb : K.In (hidT s₁.heap H) := fun b o e => base_of (KX b o e) (by
      cases q : H b with
      | none => rfl
      | some u =>
        have e' : b = a := hA b (by rw [q]; simp)
        subst e'
        rw [hK (by rw [q]; simp)] at e; cases e)
    have hM : Mod K mg (hidT s₁.heap H) := ⟨hKb, nsK hns, ⟨mb, nsK hb, hbb⟩, let ⟨mc, h1, h2⟩ := hlim; ⟨mc, nsK h1, h2⟩⟩
    have e0 : Env0 P w K mg (hidT s₁.heap H) callerA [] s₁ H := ⟨rfl, hM, fun b o e => of_hidT e, Nat.le_of_eq (hidT_size _ _), trivial, fun b hb => absurd (show b ∈ ([] : List Addr) from hb) (by simp), hok, .of_eq hg⟩
    refine codeAny_mono ((F _ hKb (nsK hns)).run callerA [] s₁ H ⟨[.ref a], []⟩ [.ref a] [.ref a] _ _ hr e0 (hbind s₁ (.ref a)) (.cons rfl .nil) (hsp H hO hS)) fun r s' h => ?_
    cases r with
    | error e => exact (hCX H e s' h).elim
    | ok fl =>
      cases fl with
      | next => exact False.elim h
      | brk => exact False.elim h
      | cont => exact False.elim h
      | ret u =>
        obtain ⟨v, H', os, bare, un, hok', r', q⟩ := h
        have q' : v = .bl true := q
        subst q'
        obtain rfl : u = Value.bool true := r'
        refine ⟨rfl, OldK.of_keep fun b o e => ?_, os, bare⟩
        cases q : H b with
        | none => exact un.keep b o e q (by intro z; exact absurd (show b ∈ ([] : List Addr) from z) (by simp)) (by simp)
        | some u =>
          rcases hO b with z | ⟨ob, xs, z⟩
          · rw [q] at z; cases z
          · have z2 := un.frzs b ob _ z
            obtain ⟨e1, _⟩ := hok b _ z
            obtain ⟨e2, _⟩ := hok' b _ z2
            rw [e] at e1; cases e1
            exact e2
  cases hk : K.lookup a with
  | some o =>
    -- the script is one of the module's own objects
    have e := KX a o hk
    rw [ha] at e
    cases e
    refine core (fun _ => none) (fun _ => .inl rfl) (.inr ⟨_, vs.toArray, _, hk, rfl, rfl, rfl, by rw [List.size_toArray, lenV]; exact hl, by simpa using rv⟩) (fun b u z => by have z' : (none : Option HO) = some u := z; cases z') (fun b z => absurd rfl z) fun z => absurd rfl z
  | none =>
    refine core (fun b => if b = a then some (.frz { cls := .type "list", data := .seq vs.toArray } (.lst (ns.map V.int))) else none) (fun b => ?_) (.inl (.inr ⟨{ cls := .type "list", data := .seq vs.toArray }, if_pos rfl⟩)) (fun b u z => ?_) (fun b z => ?_) fun _ => hk
    · by_cases hb : b = a
      · exact .inr ⟨_, _, if_pos hb⟩
      · exact .inl (if_neg hb)
    · by_cases hb : b = a
      · have z' := (if_pos hb).symm.trans z
        cases z'
        subst hb
        exact ⟨ha, by rw [List.length_map]; exact hl, vs, _, rv, ha⟩
      · have z' := (if_neg hb).symm.trans z
        cases z'
    · by_cases hb : b = a
      · exact hb
      · exact absurd (if_neg hb) z
end L2

namespace L2
open PySem PySem.Spec PyProof.Rows

abbrev KOf {K : PySem.W.Frag} {h : Heap} (_ : K.In h) : PySem.W.Frag := K

/-- the goal that k_head leaves (case hc), from the law's promise. F gives the function object fd (K's own) once, then the promise over every base -/
theorem walk_of {l : PySem.W.OpenLaw} {n k : Nat} {q : Program} {loose : List Str} {XP : (Str → Option Value) → Heap → Prop} {YP : World → Heap → Prop} {d : DefRec} {K : Params → PySem.W.Frag} {CX : World → CXT} {sp : World → Sp} {x : Str}
    (hn : l.most = some n) (hn2 : n ≤ sizeLine) (hdf : d.params.defaults = []) (hr : Room k callerA)
    (hY : ∀ (w : World) (h : Heap), YP w h → (K w.params).In h)
    (F : ∀ (w : World) (mg : Str → Option Value) (fa : Addr) (h : Heap), (K w.params).In h → h.Ns mainGlobals mg → mg d.name = some (.ref fa) →
      ∃ fd : FuncData, (∀ (s : Shared) (u : Value), BindsTo s fd ⟨[u], []⟩ [(x, u)]) ∧
        ∀ base : Heap, (K w.params).In base → base.Ns mainGlobals mg → FnOk l.prog w (K w.params) mg base (CX w) k fa fd [x] (sp w))
    (hsp : ∀ (w : World) (H : Hp) (a : Addr) (ns : List Int), ns.length ≤ n → Only H → SqL (K w.params) H a (ns.map V.int) → sp w [.ref a] H (fun v _ => v = .bl true) fun _ _ _ => False)
    (hCX : ∀ (w : World) (H : Hp) (s : Shared) (e : Value) (s' : Shared), CX w [] H s (fun _ _ _ => False) e s' → False) :
    PySem.W.WalkO q loose XP YP l.row.toRowW d [] (fun f vs => PySem.call f vs) := by
  refine Att.attach_call hn hdf fun w s₀ s₁ mg mb fa o pm cd doc a vs ns G Y ho hd hcd hmg hobj hints hlen hg => ?_
  have KX := hY w _ Y
  obtain ⟨fd, hb, hF⟩ := F w mg fa _ KX G.T.g hmg
  exact law_call KX G.T.g G.T.b G.T.builtins G.T.nolimit hg hobj hints (Nat.le_trans hlen hn2) hr hF hb (fun H hO hS => hsp w H a ns hlen hO hS) fun H e s' => hCX w H s₁ e s'
/-- the same where the promise hangs on the written part alone: (sp := My.sp_law), no hole under a binder -/
theorem walk_ofK {l : PySem.W.OpenLaw} {n k : Nat} {q : Program} {loose : List Str} {XP : (Str → Option Value) → Heap → Prop} {YP : World → Heap → Prop} {d : DefRec} {K : Params → PySem.W.Frag} {CX : CXT} {sp : PySem.W.Frag → Sp} {x : Str}
    (hn : l.most = some n) (hn2 : n ≤ sizeLine) (hdf : d.params.defaults = []) (hr : Room k callerA)
    (hY : ∀ (w : World) (h : Heap), YP w h → (K w.params).In h)
    (F : ∀ (w : World) (mg : Str → Option Value) (fa : Addr) (h : Heap), (K w.params).In h → h.Ns mainGlobals mg → mg d.name = some (.ref fa) →
      ∃ fd : FuncData, (∀ (s : Shared) (u : Value), BindsTo s fd ⟨[u], []⟩ [(x, u)]) ∧
        ∀ base : Heap, (K w.params).In base → base.Ns mainGlobals mg → FnOk l.prog w (K w.params) mg base CX k fa fd [x] (sp (K w.params)))
    (hsp : ∀ (K : PySem.W.Frag) (H : Hp) (a : Addr) (ns : List Int), ns.length ≤ n → Only H → SqL K H a (ns.map V.int) → sp K [.ref a] H (fun v _ => v = .bl true) fun _ _ _ => False)
    (hCX : ∀ (H : Hp) (s : Shared) (e : Value) (s' : Shared), CX [] H s (fun _ _ _ => False) e s' → False) :
    PySem.W.WalkO q loose XP YP l.row.toRowW d [] (fun f vs => PySem.call f vs) :=
  walk_of (K := K) (CX := fun _ => CX) (sp := fun w => sp (K w.params)) hn hn2 hdf hr hY F (fun w H a ns h1 h2 h3 => hsp (K w.params) H a ns h1 h2 h3) fun _ H s e s' => hCX H s e s'
end L2

/- THE LAST THEOREM (shape; LID, My.* are yours):
   My.Adr: a structure of the addresses that your layer names (classes, functions); My.Txt K t: a structure (Prop) of the equations over K;
   My.txt_mk : {K} {implicit addresses ..} (e1 : nsIn K mainGlobals "law" = some (some (.ref f))) (e2 : K.lookup f = some ⟨oc, od, .func (fnOf "law" "law" params body scope dV kV doc pm an cdv ct), sl⟩) (e3 : codeIn K cdv "law" = true) .. : ∃ t, My.Txt K t

set_option maxRecDepth 100000 in
set_option maxHeartbeats 0 in
theorem PySem.Challenge.cw_LID_holds : PySem.Challenge.rw_LID.Holds := by
  w_on; o_law; k_head; (case hw => w_witness2)
  k_fill
  refine L2.walk_of (l := PySem.Challenge.rw_LID) (n := 63) (k := 40) (x := "script") (CX := fun w => ..) (sp := fun _ => My.sp_law) rfl (by decide) rfl ⟨rfl, by decide, by decide⟩ (fun w h Y => PySem.W.kIn_of Y) ?F ?S ?C
  case F =>
    intro w mg fa h KX G hmg
    have T : ∃ t, My.Txt (L2.KOf KX) t := by
      dsimp only [L2.KOf]                          -- K must stand as «<heap const> w.params» for k_is
      refine' My.txt_mk ?e1 ?e2 ?e3 ..
      (case e1 => PySem.W.k_is)                    -- in the order: a name -> its address -> its object -> its parts
      (case e2 => PySem.W.k_is)
      ..
    obtain ⟨t, T⟩ := T
    have e0 := hmg.symm.trans (PySem.W.mg_of KX G T.law)
    cases e0                                       -- fa is the law's own address
    exact ⟨_, fun s u => .of_eq rfl, fun base kb nb => My.law_fn T kb nb⟩     -- if «.of_eq rfl» comes too early: refine' ⟨_, ?b, fun base kb nb => My.law_fn T kb nb⟩; exact fun s u => .of_eq rfl
  case S => exact fun w H a ns hl hO hS => ..
  case C => exact ..
(the tactic k_is has no namespace: write k_is) -/

/-! SHORT WORDS over the layer: a def of the text, its body, what a loop and a test want. -/
namespace L2
open PySem PySem.Spec PyProof.Rows

/-! ### the text by places -/
/-- the j-th statement of a class's body -/
def inClass (s : Stmt) (j : Nat) : Stmt := match s with
  | .ClassDef _ _ _ body _ _ _ _ _ _ _ => body.getD j (.Pass ⟨0, 0, 0, 0⟩)
  | _ => .Pass ⟨0, 0, 0, 0⟩
def defArgs (s : Stmt) : Arguments := match s with
  | .FunctionDef _ a _ _ _ _ _ _ _ _ => a
  | _ => { posonlyargs := [], args := [], vararg := none, kwonlyargs := [], kw_defaults := [], kwarg := none, defaults := [] }
def defBody (s : Stmt) : List Stmt := match s with
  | .FunctionDef _ _ b _ _ _ _ _ _ _ => b
  | _ => []
def defScope (s : Stmt) : Scope := match s with
  | .FunctionDef _ _ _ _ _ _ sc _ _ _ => sc
  | _ => { kind := .function, names := [], isGenerator := false, isCoroutine := false }

/-! ### no exception leaves a def -/
abbrev CX0 : CXT := fun _ _ _ _ _ _ => False
abbrev E0 : XK := fun _ _ _ => False
theorem pass0 {X : Cx} : Passes CX0 X E0 := fun _ _ _ _ _ _ _ h => h.elim

/-! ### a def (or method) of the text as it stands behind the top -/
structure Fun (K : PySem.W.Frag) (x qual : Str) (st : Stmt) (f : Addr) (fd : FuncData) : Prop where
  ex : ∃ (oc : Value) (od : Option Addr) (kV doc pm : Value) (an : Option Addr) (cdv ct : Value) (osl : Array (Option Value)),
    fd = PySem.W.fnOf x qual (defArgs st) (defBody st) (defScope st) .none kV doc pm an cdv ct ∧ K.lookup f = some ⟨oc, od, .func fd, osl⟩ ∧ PySem.W.codeIn K cdv qual = true
  kp : PySem.W.keepIn K (.ref f) = true
section
variable {P : Program} {w : World} {K : PySem.W.Frag} {mg : Str → Option Value} {base : Heap}
/-- THE RULE for a def: its body as a term of rules, and the reading of that term -/
theorem Fun.ok {x qual : Str} {st : Stmt} {f : Addr} {fd : FuncData} {N ps : List Str} {k : Nat} {sp : Sp} (F : Fun K x qual st f fd) (S : FnScope N ps (defScope st)) (len : ∀ vs H Q E, sp vs H Q E → vs.length = ps.length)
    (hbody : ∀ (cdv : Value) (A : Around) (outer : List Env) (s : Shared) (H : Hp) (vs : List V) (Q : VK) (E : XK), Room k (A.deeper (envOfC qual (defScope st) s.heap.objs.size f cdv)) → sp vs H Q E →
      ∃ t, PSs (cxOf CX0 P w K mg base N qual (defScope st) f cdv A outer s H E).nox (defBody st) t ∧ t { nx := fun _ H' => Q .non H', rt := Q } (start N vs) H) : FnOk P w K mg base CX0 (k + 1) f fd ps sp := by
  obtain ⟨oc, od, kV, doc, pm, an, cdv, ct, osl, rfl, lk, hcd⟩ := F.ex
  refine fn_of lk hcd S len fun A outer s H vs Q E hr hsp => ?_
  obtain ⟨t, h, q⟩ := hbody cdv A outer s H vs Q E hr hsp
  exact ⟨t, h.nox, q⟩
/-- how its arguments bind (no defaults): h is «fun _ _ _ _ _ _ us hl => match us, hl with | [_, _], _ => rfl», one _ a parameter -/
theorem Fun.binds {x qual : Str} {st : Stmt} {f : Addr} {fd : FuncData} {ps : List Str} (F : Fun K x qual st f fd)
    (h : ∀ (kV doc pm : Value) (an : Option Addr) (cdv ct : Value) (us : List Value), us.length = ps.length → bindArgs (PySem.W.fnOf x qual (defArgs st) (defBody st) (defScope st) .none kV doc pm an cdv ct) ⟨us, []⟩ = pure (ps.zip us)) : Binds K fd ps [] := by
  obtain ⟨oc, od, kV, doc, pm, an, cdv, ct, osl, rfl, lk, hcd⟩ := F.ex
  exact .all (h kV doc pm an cdv ct)
theorem fun_mk {x qual : Str} {st : Stmt} {f : Addr} {oc : Value} {od an : Option Addr} {osl : Array (Option Value)} {kV doc pm cdv ct : Value} (l : K.lookup f = some ⟨oc, od, .func (PySem.W.fnOf x qual (defArgs st) (defBody st) (defScope st) .none kV doc pm an cdv ct), osl⟩)
    (c : PySem.W.codeIn K cdv qual = true) (k : PySem.W.keepIn K (.ref f) = true) : Fun K x qual st f (PySem.W.fnOf x qual (defArgs st) (defBody st) (defScope st) .none kV doc pm an cdv ct) := ⟨⟨oc, od, kV, doc, pm, an, cdv, ct, osl, rfl, l, c⟩, k⟩
end
theorem hu_of {A : Around} {k : Nat} (hr : Room k A) : A.units + 1 < cLine := Nat.lt_of_le_of_lt (Nat.add_le_add_left (by decide : 1 ≤ 64) _) hr.units
theorem small1000 {n : Nat} (h : n ≤ 1000) : n < sizeLine := Nat.lt_of_le_of_lt h (by decide)

/-! ### expressions in short: the name that stands in the i-th slot -/
section
variable {X : Cx}
theorem pv (i : Nat) {x : Str} {pos : Pos} (hN : X.N[i]? = some x := by rfl) (hv : Vis X.env.scope x := by first | exact Or.inl rfl | exact Or.inr (Or.inl rfl) | exact Or.inr (Or.inr rfl)) (hd : (x == ("__debug__" : Str)) = false := by decide)
    (hcd : (x == ("__classdict__" : Str)) = false := by decide) : PE X (.Name x pos) (tVar i) := pe_var hN hv hd hcd
/-- len of a dict -/
theorem call_lenD : CallR X (.builtin "len") (fun xs H Q => ∃ a kvs, xs = [V.ref a] ∧ H a = some (.dK kvs) ∧ Q (.int kvs.length) H) := by
  intro pins s σ H xs us Q I r h
  obtain ⟨a, kvs, rfl, ha, q⟩ := h
  obtain ⟨u, rfl, ru⟩ := vals1 r
  cases ru
  exact d_len I (.inl ha) fun t s' I' => ⟨.int kvs.length, H, I', ⟨t, rfl⟩, q⟩
end

/-! ### tests -/
theorem iteF {A B : Prop} (h : B) : if false = true then A else B := by
  rw [if_neg Bool.false_ne_true]
  exact h
theorem iteT {A B : Prop} (h : A) : if true = true then A else B := by
  rw [if_pos rfl]
  exact h
theorem ite2 {c A B : Prop} [Decidable c] (h1 : c → A) (h2 : ¬ c → B) : if c then A else B := by
  by_cases h : c
  · rw [if_pos h]
    exact h1 h
  · rw [if_neg h]
    exact h2 h
theorem iteNS {c A B : Prop} [Decidable c] (hc : c) (h : B) : if (!decide c) = true then A else B := by
  rw [decide_eq_true hc]
  exact iteF h

/-! ### heaps -/
/-- all that was tracked is as it was -/
def Same (H H' : Hp) : Prop := ∀ b o, H b = some o → H' b = some o
theorem Same.refl (H : Hp) : Same H H := fun _ _ h => h
theorem Same.trans {H H1 H2 : Hp} (a : Same H H1) (b : Same H1 H2) : Same H H2 := fun c o h => b c o (a c o h)
theorem Same.free {H H' : Hp} (e : Same H H') {l : Addr} (h : H' l = Option.none) : H l = Option.none := by
  cases q : H l with
  | none => rfl
  | some o =>
    rw [e l o q] at h
    cases h
theorem Same.seq {K : PySem.W.Frag} {H H' : Hp} {a : Addr} {xs : List V} (e : Same H H') (h : SqL K H a xs) : SqL K H' a xs := by
  rcases h with (h | ⟨o, h⟩) | h
  · exact .inl (.inl (e _ _ h))
  · exact .inl (.inr ⟨o, e _ _ h⟩)
  · exact .inr h

/-! ### a dict's pairs: keys that differ -/
section
variable {κ : Type} [DecidableEq κ]
theorem valV_not {kvs : List (κ × V)} {k : κ} (h : valV kvs k = none) : ¬ k ∈ kvs.map (·.1) := by
  intro m
  obtain ⟨p, hp, e⟩ := List.mem_map.mp m
  have q : (kvs.any fun kv => decide (kv.1 = k)) = true := List.any_eq_true.mpr ⟨p, hp, decide_eq_true e⟩
  rw [valV_any, h] at q
  exact absurd q (by simp)
theorem valV_in {kvs : List (κ × V)} {k : κ} {v : V} (h : valV kvs k = some v) : k ∈ kvs.map (·.1) := by
  have q : (kvs.any fun kv => decide (kv.1 = k)) = true := by
    rw [valV_any, h]
    all_goals rfl
  obtain ⟨p, hp, e⟩ := List.any_eq_true.mp q
  exact List.mem_map.mpr ⟨p, hp, of_decide_eq_true e⟩
theorem nd_snoc : ∀ {l : List κ} {k : κ}, l.Nodup → ¬ k ∈ l → (l ++ [k]).Nodup
  | [], k, _, _ => by simp
  | a :: r, k, h, hk => by
    obtain ⟨h1, h2⟩ := List.nodup_cons.mp h
    show (a :: (r ++ [k])).Nodup
    refine List.nodup_cons.mpr ⟨fun m => ?_, nd_snoc h2 fun m => hk (List.mem_cons.mpr (Or.inr m))⟩
    rcases List.mem_append.mp m with q | q
    · exact h1 q
    · exact hk (List.mem_cons.mpr (Or.inl (List.mem_singleton.mp q).symm))
theorem nd_putK {kvs : List (κ × V)} {k : κ} (v : V) (hn : (kvs.map (·.1)).Nodup) (h : valV kvs k = none) : ((putK kvs k v).map (·.1)).Nodup := by
  rw [putK_new v h, List.map_append]
  exact nd_snoc hn (valV_not h)
theorem dropK_pos {p : κ × V} {r : List (κ × V)} {k : κ} (e : p.1 = k) : dropK (p :: r) k = dropK r k := by
  unfold dropK
  rw [List.filter_cons, if_neg (by simp [e])]
theorem dropK_neg {p : κ × V} {r : List (κ × V)} {k : κ} (e : ¬ p.1 = k) : dropK (p :: r) k = p :: dropK r k := by
  unfold dropK
  rw [List.filter_cons, if_pos (by simp [e])]
theorem dropK_no : ∀ {kvs : List (κ × V)} {k : κ}, ¬ k ∈ kvs.map (·.1) → dropK kvs k = kvs
  | [], _, _ => rfl
  | p :: r, k, h => by
    have h' : ¬ k ∈ r.map (·.1) := fun m => by
      obtain ⟨q, hq, e⟩ := List.mem_map.mp m
      exact h (List.mem_map.mpr ⟨q, List.mem_cons.mpr (Or.inr hq), e⟩)
    rw [dropK_neg fun e => h (List.mem_map.mpr ⟨p, List.mem_cons.mpr (Or.inl rfl), e⟩), dropK_no h']
theorem dropK_mem {kvs : List (κ × V)} {k : κ} {p : κ × V} (h : p ∈ dropK kvs k) : p ∈ kvs := (List.mem_filter.mp h).1
theorem nd_dropK : ∀ {kvs : List (κ × V)} {k : κ}, (kvs.map (·.1)).Nodup → ((dropK kvs k).map (·.1)).Nodup
  | [], _, _ => List.nodup_nil
  | p :: r, k, h => by
    have h : (p.1 :: r.map (·.1)).Nodup := h
    obtain ⟨h1, h2⟩ := List.nodup_cons.mp h
    by_cases e : p.1 = k
    · rw [dropK_pos e]
      exact nd_dropK h2
    · rw [dropK_neg e]
      show (p.1 :: (dropK r k).map (·.1)).Nodup
      refine List.nodup_cons.mpr ⟨fun m => h1 ?_, nd_dropK h2⟩
      obtain ⟨q, hq, eq⟩ := List.mem_map.mp m
      exact List.mem_map.mpr ⟨q, dropK_mem hq, eq⟩
theorem dropK_len : ∀ {kvs : List (κ × V)} {k : κ}, (kvs.map (·.1)).Nodup → k ∈ kvs.map (·.1) → (dropK kvs k).length + 1 = kvs.length
  | [], _, _, m => by simp at m
  | p :: r, k, h, m => by
    have h : (p.1 :: r.map (·.1)).Nodup := h
    have m : k = p.1 ∨ k ∈ r.map (·.1) := List.mem_cons.mp m
    obtain ⟨h1, h2⟩ := List.nodup_cons.mp h
    by_cases e : p.1 = k
    · subst e
      rw [dropK_pos rfl, dropK_no h1]
      all_goals rfl
    · have m' : k ∈ r.map (·.1) := m.resolve_left fun z => e z.symm
      have q := dropK_len h2 m'
      rw [dropK_neg e, List.length_cons, List.length_cons]
      omega
end
/-! ### lists -/
theorem at_of {xs : List V} {z : Int} {j : Nat} {v : V} (e : z = (j : Int)) (h : xs[j]? = some v) : atI xs z = some v := by
  rw [e]
  exact atI_nat h
theorem nd_ix {α : Type} {l : List α} (hN : l.Nodup) {i j : Nat} {x : α} (a : l[i]? = some x) (b : l[j]? = some x) : i = j := by
  obtain ⟨h1, e1⟩ := List.getElem?_eq_some_iff.mp a
  obtain ⟨h2, e2⟩ := List.getElem?_eq_some_iff.mp b
  exact (List.getElem_inj hN).mp (e1.trans e2.symm)
theorem sum_set : ∀ {l : List Int} {j : Nat} {z y : Int}, l[j]? = some z → (l.set j y).sum = l.sum - z + y
  | [], j, z, y, h => by simp at h
  | a :: r, 0, z, y, h => by
    have e : a = z := Option.some.inj h
    subst e
    show (y :: r).sum = (a :: r).sum - a + y
    rw [List.sum_cons, List.sum_cons]
    omega
  | a :: r, j + 1, z, y, h => by
    have ih := sum_set (l := r) (j := j) (z := z) (y := y) h
    show (a :: r.set j y).sum = (a :: r).sum - z + y
    rw [List.sum_cons, List.sum_cons, ih]
    omega
theorem sum_take : ∀ {l : List Int} {i : Nat} {z : Int}, l[i]? = some z → (l.take (i + 1)).sum = (l.take i).sum + z
  | [], i, z, h => by simp at h
  | a :: r, 0, z, h => by
    have e : a = z := Option.some.inj h
    subst e
    show ([a] : List Int).sum = ([] : List Int).sum + a
    rw [List.sum_cons]
    exact Int.add_comm _ _
  | a :: r, i + 1, z, h => by
    have ih := sum_take (l := r) (i := i) (z := z) h
    show (a :: r.take (i + 1)).sum = (a :: r.take i).sum + z
    rw [List.sum_cons, List.sum_cons, ih]
    omega
/-- a new instance and its __init__ leave all that was tracked as it was -/
theorem Same.made {H H1 : Hp} {x dx C : Addr} (nx : H x = Option.none) (nd : H dx = Option.none) (k : ∀ b o, (upd (upd H dx (.own x)) x (.ins C dx [])) b = some o → b ≠ x → H1 b = some o) : Same H H1 := fun b o e =>
  k b o (by rw [upd_ne (ne_of_none e nx), upd_ne (ne_of_none e nd)]; exact e) (ne_of_none e nx)
end L2

set_option Elab.async false
set_option linter.all false
set_option maxRecDepth 100000
set_option maxHeartbeats 4000000
namespace L2.EV
open PySem PySem.Spec PyProof.Rows
/-! ### keys: numbers, texts, tuples of keys -/
inductive KD where
  | int (i : Int) | str (x : Str) | tup (ks : List KD)
open Classical in
noncomputable instance : DecidableEq KD := fun a b => propDecidable (a = b)
mutual
def isV (h : Heap) : KD → Value → Prop
  | .int i, v => ∃ t, v = .int i t
  | .str x, v => (∃ t, v = .str x t) ∧ PyData.strOk x = true
  | .tup ks, v => ∃ a o items n, v = .ref a ∧ h.get? a = some o ∧ o.cls = .type "tuple" ∧ o.data = .seq items n ∧ isVs h ks items.toList
def isVs (h : Heap) : List KD → List Value → Prop
  | [], vs => vs = []
  | k :: ks, vs => ∃ v r, vs = v :: r ∧ isV h k v ∧ isVs h ks r
end
mutual
def kHash (w : World) : KD → Int
  | .int i => hashInt i
  | .str x => hashStr w x
  | .tup ks => reduceHash (Builtin.Tuple.tupleHashOf (kHashes w ks))
def kHashes (w : World) : List KD → List Int
  | [] => []
  | k :: ks => kHash w k :: kHashes w ks
end
mutual
def kDraws : KD → Nat
  | .int _ => 1
  | .str _ => 1
  | .tup ks => kDrawsA ks + 1
def kDrawsA : List KD → Nat
  | [] => 0
  | k :: ks => kDraws k + kDrawsA ks
end
mutual
def kDeep : KD → Nat
  | .int _ => 0
  | .str _ => 0
  | .tup ks => 1 + kDeeps ks
def kDeeps : List KD → Nat
  | [] => 0
  | k :: ks => max (kDeep k) (kDeeps ks)
end
theorem deep_mem : ∀ {ks : List KD} {k : KD}, k ∈ ks → kDeep k ≤ kDeeps ks
  | k' :: ks, k, h => by
    rcases List.mem_cons.mp h with rfl | h
    · exact Nat.le_max_left _ _
    · exact Nat.le_trans (deep_mem h) (Nat.le_max_right _ _)
mutual
theorem isV_inj {h : Heap} : ∀ {x y : KD} {v : Value}, isV h x v → isV h y v → x = y
  | .int i, y, v, hx, hy => by
    obtain ⟨t, rfl⟩ := hx
    cases y with
    | int j => obtain ⟨u, e⟩ := hy; cases e; rfl
    | str z => obtain ⟨⟨u, e⟩, _⟩ := hy; cases e
    | tup ks => obtain ⟨_, _, _, _, e, _⟩ := hy; cases e
  | .str z, y, v, hx, hy => by
    obtain ⟨⟨t, rfl⟩, _⟩ := hx
    cases y with
    | int j => obtain ⟨u, e⟩ := hy; cases e
    | str z => obtain ⟨⟨u, e⟩, _⟩ := hy; cases e; rfl
    | tup ks => obtain ⟨_, _, _, _, e, _⟩ := hy; cases e
  | .tup ks, y, v, hx, hy => by
    obtain ⟨a, o, items, n, rfl, h1, _, h3, h4⟩ := hx
    cases y with
    | int j => obtain ⟨u, e⟩ := hy; cases e
    | str z => obtain ⟨⟨u, e⟩, _⟩ := hy; cases e
    | tup ls =>
      obtain ⟨b, o', items', n', e, g1, _, g3, g4⟩ := hy
      cases e
      rw [h1] at g1
      cases g1
      rw [h3] at g3
      cases g3
      rw [isVs_inj h4 g4]
theorem isVs_inj {h : Heap} : ∀ {xs ys : List KD} {vs : List Value}, isVs h xs vs → isVs h ys vs → xs = ys
  | [], ys, vs, hx, hy => by
    obtain rfl : vs = [] := hx
    cases ys with
    | nil => rfl
    | cons y ys => obtain ⟨_, _, e, _⟩ := hy; cases e
  | x :: xs, ys, vs, hx, hy => by
    obtain ⟨v, r, rfl, h1, h2⟩ := hx
    cases ys with
    | nil => cases (show v :: r = [] from hy)
    | cons y ys =>
      obtain ⟨_, _, e, g1, g2⟩ := hy
      cases e
      rw [isV_inj h1 g1, isVs_inj h2 g2]
end
mutual
theorem isV_keep {h h' : Heap} (hk : ∀ a o items n, h.get? a = some o → o.data = .seq items n → h'.get? a = some o) : ∀ {k : KD} {v : Value}, isV h k v → isV h' k v
  | .int _, _, hx => hx
  | .str _, _, hx => hx
  | .tup ks, v, hx => by
    obtain ⟨a, o, items, n, e, h1, h2, h3, h4⟩ := hx
    exact ⟨a, o, items, n, e, hk a o items n h1 h3, h2, h3, isVs_keep hk h4⟩
theorem isVs_keep {h h' : Heap} (hk : ∀ a o items n, h.get? a = some o → o.data = .seq items n → h'.get? a = some o) : ∀ {ks : List KD} {vs : List Value}, isVs h ks vs → isVs h' ks vs
  | [], _, hx => hx
  | k :: ks, vs, hx => by
    obtain ⟨v, r, e, h1, h2⟩ := hx
    exact ⟨v, r, e, isV_keep hk h1, isVs_keep hk h2⟩
end
theorem kHashes_append {w : World} : ∀ {xs ys : List KD}, kHashes w (xs ++ ys) = kHashes w xs ++ kHashes w ys
  | [], _ => rfl
  | x :: xs, ys => by show kHash w x :: kHashes w (xs ++ ys) = _; rw [kHashes_append]; rfl
theorem kDrawsA_append : ∀ {xs ys : List KD}, kDrawsA (xs ++ ys) = kDrawsA xs + kDrawsA ys
  | [], _ => by simp [kDrawsA]
  | x :: xs, ys => by show kDraws x + kDrawsA (xs ++ ys) = kDraws x + kDrawsA xs + kDrawsA ys; rw [kDrawsA_append]; omega
section
variable {prog : Program} {w : World}
/-- hash(v) -/
theorem key_hash : ∀ (d : Nat) (k : KD), kDeep k ≤ d → ∀ {A : Around} {E : Value → Shared → Prop} {s : Shared} {v : Value} {Q : Int → Shared → Prop}, A.units + d < cLine → isV s.heap k v → Q (kHash w k) { s with toks := s.toks + kDraws k } → wpAny (model prog w) A (pyHash v) Q E s := by
  intro d
  induction d with
  | zero =>
    intro k hk A E s v Q hu hv h
    cases k with
    | int i => obtain ⟨t, rfl⟩ := hv; exact wpAny_pyHash_int h
    | str x => obtain ⟨⟨t, rfl⟩, _⟩ := hv; exact wpAny_pyHash_str h
    | tup ks => simp [kDeep] at hk
  | succ d ih =>
    intro k hk A E s v Q hu hv h
    cases k with
    | int i => obtain ⟨t, rfl⟩ := hv; exact wpAny_pyHash_int h
    | str x => obtain ⟨⟨t, rfl⟩, _⟩ := hv; exact wpAny_pyHash_str h
    | tup ks =>
      obtain ⟨a, o, items, n, rfl, ho, hcl, hd, hi⟩ := hv
      have hT : s.TypeIs (.ref a) "tuple" := ⟨o, ho, hcl⟩
      have hks : kDeeps ks ≤ d := by simp only [kDeep] at hk; omega
      unfold pyHash
      first | unfold pyHashByItsType | skip
      first | refine wpAny_bind (wpAny_cRoomFor_or (.inr (by omega)) ?_) | skip
      refine wpAny_bind (wpAny_specialOf hT F.slot_tuple_hash.lookup ?_)
      show wpAny _ _ (if (some (Value.builtin "tuple.__hash__") == some Value.none) = true then _ else _) Q E s
      rw [if_neg (by rw [beq_builtin_none]; exact Bool.false_ne_true)]
      refine wpAny_bind (wpAny_specialOf hT F.slot_tuple_hash.lookup ?_)
      show wpAny _ _ (callSpecialIfBoundUnlessNone? (.ref a) "__hash__" _ >>= _) Q E s
      refine wpAny_bind (wpAny_callSpecialIfBoundUnlessNone?_slot hT F.slot_tuple_hash (wpAny_call_entry F.slot_tuple_hash hT F.entry_tuple_hash ?_ (F.args_tuple_hash_1 _)))
      show wpAny _ _ (Builtin.Tuple.tupleItemsOf (.ref a) >>= _) _ _ s
      refine wpAny_bind (wpAny_tupleItemsOf ho hd ?_)
      refine wpAny_bind ?_
      rw [← Array.forIn_toList]
      refine wpAny_forIn_list _ (fun rest (b : Array Int) s' => ∃ done left, ks = done ++ left ∧ isVs s.heap left rest ∧ b.toList = kHashes w done ∧ s' = { s with toks := s.toks + kDrawsA done }) _ ?_ ?_ _ _ ⟨[], ks, rfl, hi, rfl, rfl⟩
      · rintro x rest b s' ⟨done, left, hks', hl, hb, rfl⟩
        cases left with
        | nil => cases (show x :: rest = [] from hl)
        | cons k ks' =>
          obtain ⟨_, _, e, h1, hl'⟩ := hl
          cases e
          have hk' : kDeep k ≤ d := Nat.le_trans (deep_mem (by rw [hks']; simp)) hks
          refine wpAny_bind (ih k hk' (by show A.units + 1 + d < cLine; omega) h1 ?_)
          have fin : ∃ done' left', ks = done' ++ left' ∧ isVs s.heap left' rest ∧ (b.push (kHash w k)).toList = kHashes w done' ∧ ({ s with toks := s.toks + kDrawsA done + kDraws k } : Shared) = { s with toks := s.toks + kDrawsA done' } :=
            ⟨done ++ [k], ks', by rw [hks']; simp, hl', by rw [kHashes_append]; simp [hb, kHashes], by rw [kDrawsA_append]; simp [kDrawsA, Nat.add_assoc]⟩
          first
            | exact wpAny_pure fin
            | exact wpAny_bind (wpAny_pure (wpAny_pure fin))
      · rintro b s' ⟨done, left, hks', hl, hb, rfl⟩
        cases left with
        | cons k ks' => obtain ⟨_, _, e, _⟩ := hl; cases e
        | nil =>
          rw [List.append_nil] at hks'
          subst hks'
          show wpAny _ _ (retInt (Builtin.Tuple.tupleHashOf b.toList)) _ _ _
          rw [hb]
          refine wpAny_ret_mkInt ?_
          show wpAny _ _ (if (decide (-(2 : Int) ^ 63 ≤ Builtin.Tuple.tupleHashOf (kHashes w ks)) && decide (Builtin.Tuple.tupleHashOf (kHashes w ks) < 2 ^ 63)) = true then _ else _) Q E _
          have h : Q (reduceHash (Builtin.Tuple.tupleHashOf (kHashes w ks))) { s with toks := s.toks + (kDrawsA ks + 1) } := h
          unfold reduceHash at h
          by_cases hr : (decide (-(2 : Int) ^ 63 ≤ Builtin.Tuple.tupleHashOf (kHashes w ks)) && decide (Builtin.Tuple.tupleHashOf (kHashes w ks) < 2 ^ 63)) = true
          · rw [if_pos hr]
            rw [if_pos hr] at h
            exact wpAny_pure (by simpa [Nat.add_assoc] using h)
          · rw [if_neg hr]
            rw [if_neg hr] at h
            exact wpAny_bind (wpAny_rule (wpAny_pure (by simpa [Nat.add_assoc] using h)))
end
mutual
def kPy : KD → PyData
  | .int i => .int i
  | .str x => .str x
  | .tup ks => .tuple (kPys ks)
def kPys : List KD → List PyData
  | [] => []
  | k :: ks => kPy k :: kPys ks
end
mutual
theorem kPy_eqv : ∀ (x y : KD), PyData.eqv (kPy x) (kPy y) = decide (x = y)
  | .int i, y => by
    cases y with
    | int j => show (i == j) = _; by_cases e : i = j <;> simp [e]
    | str z => show false = _; simp
    | tup ks => show false = _; simp
  | .str x, y => by
    cases y with
    | int j => show false = _; simp
    | str z => show (x == z) = _; by_cases e : x = z <;> simp [e]
    | tup ks => show false = _; simp
  | .tup xs, y => by
    cases y with
    | int j => show false = _; simp
    | str z => show false = _; simp
    | tup ys =>
      show PyData.eqvAll (kPys xs) (kPys ys) = _
      rw [kPys_eqv xs ys]
      by_cases e : xs = ys <;> simp [e]
theorem kPys_eqv : ∀ (xs ys : List KD), PyData.eqvAll (kPys xs) (kPys ys) = decide (xs = ys)
  | [], ys => by cases ys <;> simp [kPys, PyData.eqvAll]
  | x :: xs, ys => by
    cases ys with
    | nil => simp [kPys, PyData.eqvAll]
    | cons y ys =>
      show (PyData.eqv (kPy x) (kPy y) && PyData.eqvAll (kPys xs) (kPys ys)) = _
      rw [kPy_eqv x y, kPys_eqv xs ys]
      by_cases e : x = y <;> by_cases e' : xs = ys <;> simp [e, e']
end
mutual
theorem isV_reads {h : Heap} : ∀ {k : KD} {v : Value}, isV h k v → (∃ as, Reads h v (kPy k) as) ∧ (kPy k).canLay0 = true
  | .int i, v, hx => by obtain ⟨t, rfl⟩ := hx; exact ⟨⟨_, .int i t⟩, rfl⟩
  | .str x, v, hx => by obtain ⟨⟨t, rfl⟩, hz⟩ := hx; exact ⟨⟨_, .str x t⟩, hz⟩
  | .tup ks, v, hx => by
    obtain ⟨a, o, items, n, rfl, h1, h2, h3, h4⟩ := hx
    obtain ⟨⟨as, r⟩, c⟩ := isVs_reads h4
    exact ⟨⟨_, .tuple h1 h2 h3 r⟩, c⟩
theorem isVs_reads {h : Heap} : ∀ {ks : List KD} {vs : List Value}, isVs h ks vs → (∃ as, ReadsAll h vs (kPys ks) as) ∧ PyData.canLayAll0 (kPys ks) = true
  | [], vs, hx => by obtain rfl : vs = [] := hx; exact ⟨⟨_, .nil⟩, rfl⟩
  | k :: ks, vs, hx => by
    obtain ⟨v, r, rfl, h1, h2⟩ := hx
    obtain ⟨⟨as, q1⟩, c1⟩ := isV_reads h1
    obtain ⟨⟨bs, q2⟩, c2⟩ := isVs_reads h2
    exact ⟨⟨_, .cons q1 q2⟩, by show (_ && _) = true; rw [c1, c2]; rfl⟩
end
def kRoom (A : Around) : Prop := A.units + 64 < cLine
def kIs (h : Heap) (ks : List KD) (a : Addr) : Prop := isV h (.tup ks) (.ref a) ∧ kDeep (.tup ks) ≤ 8 ∧ (kPy (.tup ks)).depth ≤ 64
section
variable {prog : Program} {w : World}
theorem key_eq {x y : List KD} {a b : Addr} {A : Around} {E : Value → Shared → Prop} {s : Shared} {Q : Bool → Shared → Prop} (hu : kRoom A) (hx : kIs s.heap x a) (hy : kIs s.heap y b) (h : Q (decide (x = y)) s) : wpAny (model prog w) A (eqBool (.ref a) (.ref b)) Q E s := by
  obtain ⟨⟨as, r1⟩, c1⟩ := isV_reads hx.1
  obtain ⟨⟨bs, r2⟩, c2⟩ := isV_reads hy.1
  refine SeqAt.eqAt_reads _ _ A s _ _ as bs r1 r2 c1 c2 ?_ prog w E Q ?_
  · have := hx.2.2
    have : min (kPy (.tup x)).depth (kPy (.tup y)).depth ≤ (kPy (.tup x)).depth := Nat.min_le_left _ _
    have hu : A.units + 64 < cLine := hu
    omega
  · rw [kPy_eqv]
    have e : decide (KD.tup x = KD.tup y) = decide (x = y) := by by_cases e : x = y <;> simp [e]
    rw [e]
    exact h
theorem key_quiet : ∀ (n : Nat) (k : KD), kDeep k ≤ n → ∀ {A : Around} {E : Value → Shared → Prop} {s : Shared} {v : Value} {Q : Bool → Shared → Prop}, isV s.heap k v → Q true s → wpAny (model prog w) A (eqIsQuiet n v) Q E s := by
  have flat : ∀ (n : Nat) (v : Value), carriedByValue v = true → ∀ {A : Around} {E : Value → Shared → Prop} {s : Shared} {Q : Bool → Shared → Prop}, Q true s → wpAny (model prog w) A (eqIsQuiet n v) Q E s := by
    intro n v hv A E s Q h
    rw [eqIsQuiet_byValue n hv]
    exact wpAny_pure h
  intro n
  induction n with
  | zero =>
    intro k hk A E s v Q hv h
    cases k with
    | int i => obtain ⟨t, rfl⟩ := hv; exact flat _ _ rfl h
    | str x => obtain ⟨⟨t, rfl⟩, _⟩ := hv; exact flat _ _ rfl h
    | tup ks => simp [kDeep] at hk
  | succ n ih =>
    intro k hk A E s v Q hv h
    cases k with
    | int i => obtain ⟨t, rfl⟩ := hv; exact flat _ _ rfl h
    | str x => obtain ⟨⟨t, rfl⟩, _⟩ := hv; exact flat _ _ rfl h
    | tup ks =>
      obtain ⟨a, o, items, m, rfl, ho, hcl, hd, hi⟩ := hv
      have hT : s.TypeIs (.ref a) "tuple" := ⟨o, ho, hcl⟩
      have hks : kDeeps ks ≤ n := by simp only [kDeep] at hk; omega
      unfold eqIsQuiet
      refine wpAny_bind (wpAny_specialOf hT F.slot_tuple_eq.lookup ?_)
      show wpAny _ _ (isInstance (.ref a) (.type "tuple") >>= _) _ _ s
      refine wpAny_bind (wpAny_isInstance hT isSubtype_tuple_tuple ?_)
      simp only [Bool.not_true, Bool.false_eq_true, if_false]
      refine wpAny_bind (wpAny_seqItems ho hd ?_)
      refine wpAny_bind ?_
      show wpAny _ _ (forIn items _ _) _ _ s
      rw [← Array.forIn_toList]
      refine wpAny_forIn_list _ (fun rest r s' => r.1 = none ∧ s' = s ∧ ∃ left, isVs s.heap left rest ∧ kDeeps left ≤ n) _ ?_ ?_ _ _ ⟨rfl, rfl, ks, hi, hks⟩
      · rintro v rest r s' ⟨hr, rfl, left, hl, hdl⟩
        cases left with
        | nil => cases (show v :: rest = [] from hl)
        | cons k ks' =>
          obtain ⟨_, _, e, h1, hl'⟩ := hl
          cases e
          have d1 : kDeep k ≤ n := Nat.le_trans (Nat.le_max_left _ _) hdl
          have d2 : kDeeps ks' ≤ n := Nat.le_trans (Nat.le_max_right _ _) hdl
          refine wpAny_bind (ih k d1 h1 ?_)
          simp only [Bool.not_true, Bool.false_eq_true, if_false]
          exact wpAny_pure ⟨rfl, rfl, ks', hl', d2⟩
      · rintro ⟨r1, r2⟩ s' ⟨hr, rfl, _⟩
        simp only at hr
        subst hr
        exact wpAny_pure h
/-- keys that are tuples of numbers, texts, and such tuples -/
noncomputable def kKind (prog : Program) (w : World) : HeapKind prog w (List KD) where
  is := kIs
  hash := fun ks => kHash w (.tup ks)
  draws := fun ks => kDraws (.tup ks)
  room := kRoom
  inj := fun hx hy => by
    have := isV_inj hx.1 hy.1
    injection this
  keeps := fun {h h' k a d o es ep} hx ho hd hs => ⟨isV_keep (fun b ob items n e e2 => by
    have hne : b ≠ d := by
      rintro rfl
      rw [ho] at e
      cases e
      rw [hd] at e2
      cases e2
    exact (hs.2 b hne).trans e) hx.1, hx.2⟩
  pyHash := fun {A E s k a Q} hu hx h => key_hash 8 (.tup k) hx.2.1 (by have hu : A.units + 64 < cLine := hu; omega) hx.1 h
  eqBool := fun hu hx hy h => key_eq hu hx hy h
  quiet := fun {A E s k a Q} hx h => key_quiet 8 (.tup k) hx.2.1 hx.1 h
end
end L2.EV

set_option Elab.async false
set_option linter.all false
set_option maxRecDepth 100000
set_option maxHeartbeats 4000000
namespace L2.EV
open PySem PySem.Spec PyProof.Rows

/-- the text's own objects, the program, the world -/
structure KX where
  K : PySem.W.Frag
  P : Program
  w : World
abbrev _root_.L2.Cx.kx (X : Cx) : KX := ⟨X.K, X.prog, X.w⟩
/-- plain data -/
inductive D where
  | non | bl (b : Bool) | int (i : Int) | str (x : Str) | tup (xs : List D) | lst (xs : List D) | dct (ks : List (List KD)) (vs : List D)

/-! ### a key as it lies in the heap -/
mutual
def kIn (K : KX) (F : Hp) : KD → V → Prop
  | .int i, v => v = .int i
  | .str x, v => v = .str x ∧ PyData.strOk x = true
  | .tup ks, v => ∃ a vs, v = .ref a ∧ SqT K.K F a vs ∧ kIns K F ks vs
def kIns (K : KX) (F : Hp) : List KD → List V → Prop
  | [], vs => vs = []
  | k :: ks, vs => ∃ v r, vs = v :: r ∧ kIn K F k v ∧ kIns K F ks r
end
theorem sqT_mono {K : PySem.W.Frag} {F G : Hp} (s : Same F G) {a : Addr} {xs : List V} (h : SqT K F a xs) : SqT K G a xs := by
  rcases h with (h | ⟨o, h⟩) | h
  · exact .inl (.inl (s _ _ h))
  · exact .inl (.inr ⟨o, s _ _ h⟩)
  · exact .inr h
mutual
theorem kIn_mono {K : KX} {F G : Hp} (s : Same F G) : ∀ {k : KD} {v : V}, kIn K F k v → kIn K G k v
  | .int _, _, h => h
  | .str _, _, h => h
  | .tup ks, v, h => by
    obtain ⟨a, vs, e, h1, h2⟩ := h
    exact ⟨a, vs, e, sqT_mono s h1, kIns_mono s h2⟩
theorem kIns_mono {K : KX} {F G : Hp} (s : Same F G) : ∀ {ks : List KD} {vs : List V}, kIns K F ks vs → kIns K G ks vs
  | [], _, h => h
  | k :: ks, vs, h => by
    obtain ⟨v, r, e, h1, h2⟩ := h
    exact ⟨v, r, e, kIn_mono s h1, kIns_mono s h2⟩
end
def kOk (ks : List KD) : Prop := kDeep (.tup ks) ≤ 8 ∧ (kPy (.tup ks)).depth ≤ 64
/-- the dict at a with these entries: key, where the key's tuple lies, value -/
def dPhi (K : KX) (a : Addr) (es : List (List KD × Addr × V)) : Heap → Prop := fun h => (a == sysModules) = false ∧ es.length ≤ sizeLine ∧
  ∃ xs : List (List KD × Addr × Value), Paired (fun p q => p.1 = q.1 ∧ p.2.1 = q.2.1 ∧ RelV p.2.2 q.2.2) es xs ∧ ∃ o en ep, h.get? a = some o ∧ o.ExactDict ∧ o.data = .dict en ep ∧ en.toList = xs.map (entryOfKey (kKind K.P K.w)) ∧ (xs.map (·.1)).Nodup
def dOb (K : KX) (a : Addr) (es : List (List KD × Addr × V)) : HO := .ext (dPhi K a es)
mutual
inductive Rl (K : KX) (F : Hp) : V → D → Prop
  | non : Rl K F .non .non
  | bl (b : Bool) : Rl K F (.bl b) (.bl b)
  | int (i : Int) : Rl K F (.int i) (.int i)
  | str (x : Str) : Rl K F (.str x) (.str x)
  | tup {a : Addr} {vs : List V} {ds : List D} : SqT K.K F a vs → RlA K F vs ds → Rl K F (.ref a) (.tup ds)
  | lst {a : Addr} {vs : List V} {ds : List D} : SqL K.K F a vs → RlA K F vs ds → Rl K F (.ref a) (.lst ds)
  | dct {a : Addr} {es : List (List KD × Addr × V)} {ks : List (List KD)} {ds : List D} : F a = some (dOb K a es) → REn K F es ks ds → Rl K F (.ref a) (.dct ks ds)
inductive RlA (K : KX) (F : Hp) : List V → List D → Prop
  | nil : RlA K F [] []
  | cons {v : V} {vs : List V} {d : D} {ds : List D} : Rl K F v d → RlA K F vs ds → RlA K F (v :: vs) (d :: ds)
inductive REn (K : KX) (F : Hp) : List (List KD × Addr × V) → List (List KD) → List D → Prop
  | nil : REn K F [] [] []
  | cons {k : List KD} {b : Addr} {v : V} {d : D} {es : List (List KD × Addr × V)} {ks : List (List KD)} {ds : List D} : kIn K F (.tup k) (.ref b) → kOk k → Rl K F v d → REn K F es ks ds → REn K F ((k, b, v) :: es) (k :: ks) (d :: ds)
end

mutual
theorem Rl.mono {K : KX} {F G : Hp} (s : Same F G) : ∀ (d : D) (v : V), Rl K F v d → Rl K G v d
  | .non, _, h => by cases h; exact .non
  | .bl _, _, h => by cases h; exact .bl _
  | .int _, _, h => by cases h; exact .int _
  | .str _, _, h => by cases h; exact .str _
  | .tup ds, _, h => by
    cases h with
    | tup h1 h2 => exact .tup (sqT_mono s h1) (RlA.mono s ds _ h2)
  | .lst ds, _, h => by
    cases h with
    | lst h1 h2 => exact .lst (s.seq h1) (RlA.mono s ds _ h2)
  | .dct ks ds, _, h => by
    cases h with
    | dct h1 h2 => exact .dct (s _ _ h1) (REn.mono s ds ks _ h2)
theorem RlA.mono {K : KX} {F G : Hp} (s : Same F G) : ∀ (ds : List D) (vs : List V), RlA K F vs ds → RlA K G vs ds
  | [], _, h => by cases h; exact .nil
  | d :: ds, _, h => by
    cases h with
    | cons h1 h2 => exact .cons (Rl.mono s d _ h1) (RlA.mono s ds _ h2)
theorem REn.mono {K : KX} {F G : Hp} (s : Same F G) : ∀ (ds : List D) (ks : List (List KD)) (es : List (List KD × Addr × V)), REn K F es ks ds → REn K G es ks ds
  | [], _, _, h => by cases h; exact .nil
  | d :: ds, ks, es, h => by
    cases h with
    | cons h1 h2 h3 h4 => exact .cons (kIn_mono s h1) h2 (Rl.mono s d _ h3) (REn.mono s ds _ _ h4)
end
section
variable {K : KX} {F G : Hp}
theorem RlA.length {vs : List V} : ∀ {ds : List D}, RlA K F vs ds → vs.length = ds.length := by
  induction vs with
  | nil => intro ds h; cases h; rfl
  | cons v vs ih => intro ds h; cases h with | cons h1 h2 => simp [ih h2]
theorem RlA.get : ∀ {vs : List V} {ds : List D} {i : Nat} {d : D}, RlA K F vs ds → ds[i]? = some d → ∃ v, vs[i]? = some v ∧ Rl K F v d
  | _, _, _, _, .nil, e => by simp at e
  | _, _, 0, _, .cons r _, e => by simp at e; subst e; exact ⟨_, rfl, r⟩
  | _, _, i + 1, d, .cons _ t, e => by
    obtain ⟨v, h1, h2⟩ := RlA.get (i := i) (d := d) t (by simpa using e)
    exact ⟨v, by simpa using h1, h2⟩
theorem RlA.getV : ∀ {vs : List V} {ds : List D} {i : Nat} {v : V}, RlA K F vs ds → vs[i]? = some v → ∃ d, ds[i]? = some d ∧ Rl K F v d
  | _, _, _, _, .nil, e => by simp at e
  | _, _, 0, _, .cons r _, e => by simp at e; subst e; exact ⟨_, rfl, r⟩
  | _, _, i + 1, d, .cons _ t, e => by
    obtain ⟨v, h1, h2⟩ := RlA.getV (i := i) (v := d) t (by simpa using e)
    exact ⟨v, by simpa using h1, h2⟩
theorem RlA.append : ∀ {vs ws : List V} {ds es : List D}, RlA K F vs ds → RlA K F ws es → RlA K F (vs ++ ws) (ds ++ es)
  | _, _, _, _, .nil, h => h
  | _, _, _, _, .cons r t, h => .cons r (RlA.append t h)
theorem RlA.take : ∀ {vs : List V} {ds : List D} (n : Nat), RlA K F vs ds → RlA K F (vs.take n) (ds.take n)
  | _, _, 0, _ => by simp; exact .nil
  | _, _, _ + 1, .nil => .nil
  | _, _, n + 1, .cons r t => .cons r (RlA.take n t)
theorem RlA.drop : ∀ {vs : List V} {ds : List D} (n : Nat), RlA K F vs ds → RlA K F (vs.drop n) (ds.drop n)
  | _, _, 0, r => r
  | _, _, _ + 1, .nil => .nil
  | _, _, n + 1, .cons _ t => RlA.drop n t
theorem RlA.ints : ∀ {vs : List V} {ns : List Int}, RlA K F vs (ns.map D.int) → vs = ns.map V.int
  | _, [], h => by cases h; rfl
  | _, n :: ns, h => by
    cases h with
    | cons h1 h2 => cases h1; rw [RlA.ints h2]; rfl
theorem RlA.of_ints : ∀ (ns : List Int), RlA K F (ns.map V.int) (ns.map D.int)
  | [] => .nil
  | n :: ns => .cons (.int n) (RlA.of_ints ns)
theorem RlA.set {v : V} {d : D} (r : Rl K F v d) : ∀ {vs : List V} {ds : List D} (i : Nat), RlA K F vs ds → RlA K F (vs.set i v) (ds.set i d)
  | _, _, _, .nil => .nil
  | _, _, 0, .cons _ t => .cons r t
  | _, _, i + 1, .cons q t => .cons q (RlA.set r i t)
end

/-- what a thing that may be changed holds -/
inductive Cell (K : KX) (F : Hp) (p : Addr) : HO → D → Prop
  | lst {vs : List V} {ds : List D} : RlA K F vs ds → Cell K F p (.lst vs) (.lst ds)
  | dct {es : List (List KD × Addr × V)} {ks : List (List KD)} {ds : List D} : REn K F es ks ds → Cell K F p (dOb K p es) (.dct ks ds)
theorem Cell.mono {K : KX} {F G : Hp} (s : Same F G) {p : Addr} {o : HO} {d : D} (h : Cell K F p o d) : Cell K G p o d := by
  cases h with
  | lst h => exact .lst (RlA.mono s _ _ h)
  | dct h => exact .dct (REn.mono s _ _ _ h)

/-- from (F, H) to (F', H'): nothing tracked changed, what was kept out of F stays out -/
structure Ext (F H F' H' : Hp) : Prop where
  ff : Same F F'
  hh : Same H H'
  ex : ∀ a, (H a).isSome = true → F a = none → F' a = none
  sub : Same F' H'
theorem Ext.trans {F H F1 H1 F2 H2 : Hp} (a : Ext F H F1 H1) (b : Ext F1 H1 F2 H2) : Ext F H F2 H2 :=
  ⟨a.ff.trans b.ff, a.hh.trans b.hh, fun p h1 h2 => b.ex p (by
    cases q : H p with
    | none => rw [q] at h1; cases h1
    | some o => rw [a.hh _ _ q]; rfl) (a.ex p h1 h2), b.sub⟩
theorem Ext.refl {F H : Hp} (s : Same F H) : Ext F H F H := ⟨.refl _, .refl _, fun _ _ h => h, s⟩
theorem upd_same' {H : Hp} {p : Addr} {o : HO} (h : H p = none) : Same H (upd H p o) := fun b u e => by
  rw [upd_ne (ne_of_none e h)]; exact e
/-- a new thing that stays out of F -/
theorem Ext.new {F H : Hp} (s : Same F H) {p : Addr} {o : HO} (h : H p = none) : Ext F H F (upd H p o) :=
  ⟨.refl _, upd_same' h, fun _ _ e => e, s.trans (upd_same' h)⟩
theorem isSome_ne {H : Hp} {a p : Addr} (h1 : (H a).isSome = true) (h2 : H p = none) : a ≠ p := by
  intro e; subst e; rw [h2] at h1; cases h1
/-- a new thing that goes into F -/
theorem Ext.newF {F H : Hp} (s : Same F H) {p : Addr} {o : HO} (h : H p = none) : Ext F H (upd F p o) (upd H p o) :=
  ⟨upd_same' (s.free h), upd_same' h, fun a h1 h2 => by rw [upd_ne (isSome_ne h1 h)]; exact h2, fun b u e => by
    by_cases hb : b = p
    · subst hb; rw [upd_same] at e ⊢; exact e
    · rw [upd_ne hb] at e ⊢; exact s _ _ e⟩

abbrev Env := List (Option (Bool × D))
structure SRel (K : KX) (F : Hp) (σ : St) (H : Hp) (env : Env) : Prop where
  len : env.length = σ.length
  sub : Same F H
  sh : ∀ (i : Nat) d, env[i]? = some (some (false, d)) → ∃ v, σ[i]? = some (some v) ∧ Rl K F v d
  ow : ∀ (i : Nat) d, env[i]? = some (some (true, d)) → ∃ p o, σ[i]? = some (some (.ref p)) ∧ F p = none ∧ H p = some o ∧ Cell K F p o d
  inj : ∀ (i j : Nat) d e p, env[i]? = some (some (true, d)) → env[j]? = some (some (true, e)) → σ[i]? = some (some (.ref p)) → σ[j]? = some (some (.ref p)) → i = j
theorem SRel.ext {K : KX} {F H F' H' : Hp} {σ : St} {env : Env} (S : SRel K F σ H env) (x : Ext F H F' H') : SRel K F' σ H' env where
  len := S.len
  sub := x.sub
  sh := fun i d e => let ⟨v, h1, h2⟩ := S.sh i d e; ⟨v, h1, Rl.mono x.ff _ _ h2⟩
  ow := fun i d e => let ⟨p, o, h1, h2, h3, h4⟩ := S.ow i d e; ⟨p, o, h1, x.ex p (by rw [h3]; rfl) h2, x.hh _ _ h3, h4.mono x.ff⟩
  inj := S.inj

/-- a value that is read: shared, or a thing of one's own -/
def Pk (K : KX) (F H : Hp) (v : V) (d : D) : Prop := Rl K F v d ∨ ∃ p o, v = .ref p ∧ H p = some o ∧ Cell K F p o d
/-- an expression's value behind it: shared, or new -/
def VR (K : KX) (H F' H' : Hp) (v : V) (r : Bool × D) : Prop :=
  match r.1 with
  | false => Rl K F' v r.2
  | true => ∃ p o, v = .ref p ∧ H p = none ∧ F' p = none ∧ H' p = some o ∧ Cell K F' p o r.2
theorem Pk.ext {K : KX} {F H F' H' : Hp} {v : V} {d : D} (h : Pk K F H v d) (x : Ext F H F' H') : Pk K F' H' v d := by
  rcases h with h | ⟨p, o, h1, h2, h3⟩
  · exact .inl (Rl.mono x.ff _ _ h)
  · exact .inr ⟨p, o, h1, x.hh _ _ h2, h3.mono x.ff⟩
theorem Pk.rl {K : KX} {F H : Hp} {v : V} {d : D} (h : Pk K F H v d) (s : Same F H) : Rl K H v d := by
  rcases h with h | ⟨p, o, h1, h2, h3⟩
  · exact Rl.mono s _ _ h
  · subst h1
    cases h3 with
    | lst h3 => exact .lst (.inl (.inl h2)) (RlA.mono s _ _ h3)
    | dct h3 => exact .dct h2 (REn.mono s _ _ _ h3)
theorem VR.pk {K : KX} {H F' H' : Hp} {v : V} {r : Bool × D} (h : VR K H F' H' v r) : Pk K F' H' v r.2 := by
  obtain ⟨fr, d⟩ := r
  cases fr with
  | false => exact .inl h
  | true => obtain ⟨p, o, h1, h2, h3, h4, h5⟩ := h; exact .inr ⟨p, o, h1, h4, h5⟩
theorem VR.older {K : KX} {H0 H F' H' : Hp} {v : V} {r : Bool × D} (h : VR K H F' H' v r) (s : Same H0 H) : VR K H0 F' H' v r := by
  obtain ⟨fr, d⟩ := r
  cases fr with
  | false => exact h
  | true => obtain ⟨p, o, h1, h2, h3, h4, h5⟩ := h; exact ⟨p, o, h1, s.free h2, h3, h4, h5⟩
theorem Cell.rl {K : KX} {F : Hp} {p : Addr} {o : HO} {d : D} (h : Cell K F p o d) (hn : F p = none) : Rl K (upd F p o) (.ref p) d := by
  cases h with
  | lst h => exact .lst (.inl (.inl upd_same)) (RlA.mono (upd_same' hn) _ _ h)
  | dct h => exact .dct upd_same (REn.mono (upd_same' hn) _ _ _ h)
/-- a new thing is shared from here on -/
theorem VR.demote {K : KX} {F H F' H' : Hp} {v : V} {r : Bool × D} (x : Ext F H F' H') (h : VR K H F' H' v r) : ∃ F'', Ext F H F'' H' ∧ Rl K F'' v r.2 ∧ Same F' F'' := by
  obtain ⟨fr, d⟩ := r
  cases fr with
  | false => exact ⟨F', x, h, .refl _⟩
  | true =>
    obtain ⟨p, o, h1, h2, h3, h4, h5⟩ := h
    subst h1
    refine ⟨upd F' p o, ⟨x.ff.trans (upd_same' h3), x.hh, fun a q1 q2 => ?_, fun b u e => ?_⟩, h5.rl h3, upd_same' h3⟩
    · rw [upd_ne (isSome_ne q1 h2)]; exact x.ex a q1 q2
    · by_cases hb : b = p
      · subst hb; rw [upd_same] at e; rw [← e]; exact h4
      · rw [upd_ne hb] at e; exact x.sub _ _ e

/-! ### what the parts of a text are worth -/
abbrev CE := Env → Option (Bool × D)
abbrev CP := Env → Option D
abbrev CT := Env → Option Bool
abbrev CA := Env → Option (List D)
def tE (K : KX) (c : CE) : TE := fun σ H Q => ∃ F env r, SRel K F σ H env ∧ c env = some r ∧ ∀ v H' F', Ext F H F' H' → VR K H F' H' v r → Q v H'
def tP (K : KX) (c : CP) : TE := fun σ H Q => ∃ F env d, SRel K F σ H env ∧ c env = some d ∧ ∀ v H' F', Ext F H F' H' → Pk K F' H' v d → Q v H'
def tT (K : KX) (c : CT) : TT := fun σ H Q => ∃ F env b, SRel K F σ H env ∧ c env = some b ∧ ∀ H' F', Ext F H F' H' → Q b H'
def tA (K : KX) (c : CA) : TA := fun σ H Q => ∃ F env ds, SRel K F σ H env ∧ c env = some ds ∧ ∀ vs H' F', Ext F H F' H' → RlA K F' vs ds → Q vs H'
/-- the arguments read only -/
def PkA (K : KX) (F H : Hp) (vs : List V) (ds : List D) : Prop := Paired (Pk K F H) vs ds
def tAP (K : KX) (c : CA) : TA := fun σ H Q => ∃ F env ds, SRel K F σ H env ∧ c env = some ds ∧ ∀ vs H' F', Ext F H F' H' → PkA K F' H' vs ds → Q vs H'
structure SE (X : Cx) (e : Expr) (c : CE) : Prop where pe : PE X e (tE X.kx c)
structure SP (X : Cx) (e : Expr) (c : CP) : Prop where pe : PE X e (tP X.kx c)
structure STt (X : Cx) (e : Expr) (c : CT) : Prop where pe : PT X e (tT X.kx c)
structure SW (X : Cx) (e : Expr) (c : CT) : Prop where pe : PW X e (tT X.kx c)
structure SA (X : Cx) (es : List Expr) (c : CA) : Prop where
  pe : PA X es (tA X.kx c)
  len : ∀ env ds, c env = some ds → ds.length = es.length
structure SAP (X : Cx) (es : List Expr) (c : CA) : Prop where
  pe : PA X es (tAP X.kx c)

theorem PE.mono {X : Cx} {e : Expr} {t t' : TE} (h : PE X e t) (m : ∀ σ H Q, t' σ H Q → t σ H Q) : PE X e t' := fun pins s σ H Q I q => h pins s σ H Q I (m σ H Q q)
theorem PT.mono {X : Cx} {e : Expr} {t t' : TT} (h : PT X e t) (m : ∀ σ H Q, t' σ H Q → t σ H Q) : PT X e t' := fun pins s σ H Q I q => h pins s σ H Q I (m σ H Q q)
theorem PW.mono {X : Cx} {e : Expr} {t t' : TT} (h : PW X e t) (m : ∀ σ H Q, t' σ H Q → t σ H Q) : PW X e t' := fun w pins s σ H Q I q => h w pins s σ H Q I (m σ H Q q)
theorem PA.mono {X : Cx} {es : List Expr} {t t' : TA} (h : PA X es t) (m : ∀ σ H Q, t' σ H Q → t σ H Q) : PA X es t' := fun pos pins s σ H Q I q => h pos pins s σ H Q I (m σ H Q q)
theorem PS.mono {X : Cx} {st : Stmt} {t t' : TS} (h : PS X st t) (m : ∀ D σ H, t' D σ H → t D σ H) : PS X st t' := fun pins s σ H D I q => h pins s σ H D I (m D σ H q)
theorem PSs.mono {X : Cx} {st : List Stmt} {t t' : TS} (h : PSs X st t) (m : ∀ D σ H, t' D σ H → t D σ H) : PSs X st t' := fun pins s σ H D I q => h pins s σ H D I (m D σ H q)

def cRead (c : CE) : CP := fun env => (c env).map (·.2)
def cVal (d : D) : CE := fun _ => some (false, d)
def cVar (i : Nat) : CE := fun env => match env[i]? with
  | some (some (false, d)) => some (false, d)
  | _ => none
def cPeek (i : Nat) : CP := fun env => match env[i]? with
  | some (some fd) => some fd.2
  | _ => none
section
variable {X : Cx} {e a b : Expr} {pos : Pos}
theorem SE.sp {c : CE} (h : SE X e c) : SP X e (cRead c) := ⟨PE.mono h.pe fun σ H Q ⟨F, env, d, S, hc, k⟩ => by
  unfold cRead at hc
  cases q : c env with
  | none => rw [q] at hc; cases hc
  | some r =>
    rw [q] at hc
    cases hc
    exact ⟨F, env, r, S, q, fun v H' F' x hv => k v H' F' x hv.pk⟩⟩
theorem se_const {v : V} {d : D} (h : PE X e (tC v)) (r : ∀ K F, Rl K F v d) : SE X e (cVal d) := ⟨PE.mono h fun σ H Q ⟨F, env, d', S, hc, k⟩ => by
  cases hc
  exact k v H F (.refl S.sub) (r _ _)⟩
theorem se_int {i : Int} {j} : SE X (.Constant (.int i) j pos) (cVal (.int i)) := se_const pe_int fun _ _ => .int _
theorem se_bl {i : Bool} {j} : SE X (.Constant (.bool i) j pos) (cVal (.bl i)) := se_const pe_bl fun _ _ => .bl _
theorem se_non {j} : SE X (.Constant .none j pos) (cVal .non) := se_const pe_non fun _ _ => .non
theorem se_str {x : Str} {j} : SE X (.Constant (.str x) j pos) (cVal (.str x)) := se_const pe_str fun _ _ => .str _
theorem se_var (i : Nat) {x : Str} (h : PE X (.Name x pos) (tVar i)) : SE X (.Name x pos) (cVar i) := ⟨PE.mono h fun σ H Q ⟨F, env, r, S, hc, k⟩ => by
  unfold cVar at hc
  split at hc
  · rename_i d he
    cases hc
    obtain ⟨v, h1, h2⟩ := S.sh i d he
    exact ⟨v, h1, k v H F (.refl S.sub) h2⟩
  · cases hc⟩
theorem sp_var (i : Nat) {x : Str} (h : PE X (.Name x pos) (tVar i)) : SP X (.Name x pos) (cPeek i) := ⟨PE.mono h fun σ H Q ⟨F, env, r, S, hc, k⟩ => by
  unfold cPeek at hc
  split at hc
  · rename_i fd he
    obtain ⟨fr, d⟩ := fd
    cases hc
    cases fr with
    | false =>
      obtain ⟨v, h1, h2⟩ := S.sh i d he
      exact ⟨v, h1, k v H F (.refl S.sub) (.inl h2)⟩
    | true =>
      obtain ⟨p, o, h1, h2, h3, h4⟩ := S.ow i d he
      exact ⟨.ref p, h1, k _ H F (.refl S.sub) (.inr ⟨p, o, rfl, h3, h4⟩)⟩
  · cases hc⟩

/-! ### operations of two places -/
abbrev G2 := D → D → Option (Bool × D)
def rD (K : KX) (g : G2) : R2 := fun x y H Q => ∃ F d e r, Same F H ∧ Pk K F H x d ∧ Pk K F H y e ∧ g d e = some r ∧ ∀ v H' F', Ext F H F' H' → VR K H F' H' v r → Q v H'
def OpD (X : Cx) (f : Value → Value → Sem Value) (g : G2) : Prop := OpR X f (rD X.kx g)
def cBin (g : G2) (ca cb : CP) : CE := fun env => match ca env, cb env with
  | some d, some e => g d e
  | _, _ => none
theorem tOp_bin {K : KX} {g : G2} {ca cb : CP} (σ : St) (H : Hp) (Q : VK) : tE K (cBin g ca cb) σ H Q → tOp (rD K g) (tP K ca) (tP K cb) σ H Q := by
  rintro ⟨F, env, r, S, hc, k⟩
  unfold cBin at hc
  split at hc
  · rename_i d e h1 h2
    refine ⟨F, env, d, S, h1, fun v1 H1 F1 x1 p1 => ?_⟩
    refine ⟨F1, env, e, S.ext x1, h2, fun v2 H2 F2 x2 p2 => ?_⟩
    refine ⟨F2, d, e, r, x2.sub, p1.ext x2, p2, hc, fun v H' F' x3 hv => ?_⟩
    exact k v H' F' ((x1.trans x2).trans x3) (hv.older (x1.trans x2).hh)
  · cases hc
theorem se_bin {op : Operator} {g : G2} {ca cb : CP} (o : OpD X (binaryOp op) g) (ha : SP X a ca) (hb : SP X b cb) : SE X (.BinOp a op b pos) (cBin g ca cb) := ⟨PE.mono (pe_op o ha.pe hb.pe) tOp_bin⟩
theorem se_cmp {op : CmpOp} {g : G2} {ca cb : CP} (o : OpD X (compareOp op) g) (ha : SP X a ca) (hb : SP X b cb) (hm : behindInMarks op b = false) : SE X (.Compare a [op] [b] pos) (cBin g ca cb) := ⟨PE.mono (pe_cmpR o ha.pe hb.pe hm) tOp_bin⟩
def cTest (c : CE) : CT := fun env => match c env with
  | some (_, .bl b) => some b
  | _ => none
theorem VR.bl {K : KX} {H F' H' : Hp} {v : V} {fr b : Bool} (h : VR K H F' H' v (fr, .bl b)) : v = .bl b := by
  cases fr with
  | false => cases h; rfl
  | true => obtain ⟨p, o, h1, h2, h3, h4, h5⟩ := h; cases h5
theorem cTest_t {K : KX} {c : CE} (σ : St) (H : Hp) (Q : Bool → Hp → Prop) : tT K (cTest c) σ H Q → tTest (tE K c) σ H Q := by
  rintro ⟨F, env, r, S, hc, k⟩
  unfold cTest at hc
  split at hc
  · rename_i fr bb h1
    cases hc
    exact ⟨F, env, (fr, .bl _), S, h1, fun v H' F' x hv => ⟨_, hv.bl, k H' F' x⟩⟩
  · cases hc
theorem st_cmp {op : CmpOp} {g : G2} {ca cb : CP} (o : OpD X (compareOp op) g) (ha : SP X a ca) (hb : SP X b cb) (hm : behindInMarks op b = false) : STt X (.Compare a [op] [b] pos) (cTest (cBin g ca cb)) :=
  ⟨PT.mono (pt_cmpR o ha.pe hb.pe hm) fun σ H Q h => by
    obtain q := cTest_t (K := X.kx) σ H Q h
    exact tOp_bin σ H _ q⟩
theorem st_val {c : CE} (h : SE X e c) (he : ∀ whole : Sem Value, isTrue e X.env whole = (do let v ← whole; standAt e.pos; holding [v] (truthy v)) := by intro _; rfl) : STt X e (cTest c) :=
  ⟨PT.mono (pt_val h.pe he) fun σ H Q h => cTest_t (K := X.kx) σ H Q h⟩
end
end L2.EV

set_option Elab.async false
set_option linter.all false
set_option maxRecDepth 100000
set_option maxHeartbeats 4000000
namespace L2.EV
open PySem PySem.Spec PyProof.Rows
section
variable {X : Cx} {K : KX} {F H : Hp} {v : V}
theorem Pk.int {i : Int} (h : Pk K F H v (.int i)) : v = .int i := by
  rcases h with h | ⟨p, o, _, _, h⟩
  · cases h; rfl
  · cases h
theorem Pk.bl {i : Bool} (h : Pk K F H v (.bl i)) : v = .bl i := by
  rcases h with h | ⟨p, o, _, _, h⟩
  · cases h; rfl
  · cases h
theorem Pk.str {i : Str} (h : Pk K F H v (.str i)) : v = .str i := by
  rcases h with h | ⟨p, o, _, _, h⟩
  · cases h; rfl
  · cases h
theorem Pk.non (h : Pk K F H v .non) : v = .non := by
  rcases h with h | ⟨p, o, _, _, h⟩
  · cases h; rfl
  · cases h
theorem Pk.lst {ds : List D} (h : Pk K F H v (.lst ds)) (s : Same F H) : ∃ a vs, v = .ref a ∧ SqL K.K H a vs ∧ RlA K F vs ds := by
  rcases h with h | ⟨p, o, h1, h2, h⟩
  · cases h with
    | lst h1 h2 => exact ⟨_, _, rfl, s.seq h1, h2⟩
  · cases h with
    | lst h => exact ⟨p, _, h1, .inl (.inl h2), h⟩
theorem Pk.tup {ds : List D} (h : Pk K F H v (.tup ds)) (s : Same F H) : ∃ a vs, v = .ref a ∧ SqT K.K H a vs ∧ RlA K F vs ds := by
  rcases h with h | ⟨p, o, h1, h2, h⟩
  · cases h with
    | tup h1 h2 => exact ⟨_, _, rfl, sqT_mono s h1, h2⟩
  · cases h
theorem Pk.tupF {ds : List D} (h : Pk K F H v (.tup ds)) : Rl K F v (.tup ds) := by
  rcases h with h | ⟨p, o, h1, h2, h⟩
  · exact h
  · cases h
theorem Pk.dct {ks : List (List KD)} {ds : List D} (h : Pk K F H v (.dct ks ds)) (s : Same F H) : ∃ a es, v = .ref a ∧ H a = some (dOb K a es) ∧ REn K F es ks ds := by
  rcases h with h | ⟨p, o, h1, h2, h⟩
  · cases h with
    | dct h1 h2 => exact ⟨_, _, rfl, s _ _ h1, h2⟩
  · cases h with
    | dct h => exact ⟨p, _, h1, h2, h⟩
/-- an operation on data by a rule of two places -/
theorem opD {f : Value → Value → Sem Value} {g : G2}
    (h : ∀ (pins : List (Addr × Obj)) (s : Shared) (σ : St) (H F : Hp) (x y : V) (v u : Value) (Q : VK) (d e : D) (r : Bool × D), Inv X pins σ H s → RelV x v → RelV y u → Same F H → Pk X.kx F H x d → Pk X.kx F H y e → g d e = some r →
      (∀ v H' F', Ext F H F' H' → VR X.kx H F' H' v r → Q v H') → wpAny (model X.prog X.w) X.A (f v u) (EP X pins σ Q) X.xe s) : OpD X f g := by
  intro pins s σ H x y v u Q I rx ry ⟨F, d, e, r, sub, px, py, hg, k⟩
  exact h pins s σ H F x y v u Q d e r I rx ry sub px py hg k

def dI (p : Int → Int → Bool) (f : Int → Int → D) : G2
  | .int a, .int b => if p a b then some (false, f a b) else none
  | _, _ => none
/-- an operation of two ints under a test -/
theorem opD_int {f : Value → Value → Sem Value} {C : Int → Int → Prop} {g : Int → Int → V} {p : Int → Int → Bool} {gd : Int → Int → D} (o : OpR X f (rI C g)) (hp : ∀ a b, p a b = true → C a b) (hg : ∀ K F a b, Rl K F (g a b) (gd a b)) : OpD X f (dI p gd) :=
  opD fun pins s σ H F x y v u Q d e r I rx ry sub px py hr k => by
    unfold dI at hr
    split at hr
    · rename_i a b
      split at hr
      · rename_i hab
        cases hr
        exact o pins s σ H x y v u Q I rx ry ⟨a, b, px.int, py.int, hp a b hab, k _ H F (.refl sub) (hg _ _ a b)⟩
      · cases hr
    · cases hr
theorem opR0 {f : Value → Value → Sem Value} {g : Int → Int → V} (o : OpR X f (rI0 g)) : OpR X f (rI (fun _ _ => True) g) := fun pins s σ H x y v u Q I rx ry ⟨i, j, h1, h2, _, q⟩ => o pins s σ H x y v u Q I rx ry ⟨i, j, h1, h2, q⟩

instance (a b : Int) : Decidable (IntMulOk a b) := by unfold IntMulOk; exact inferInstance
def mulOk (a b : Int) : Bool := decide (IntMulOk a b)
def divOk (_ b : Int) : Bool := decide (b ≠ 0 ∧ b.natAbs.log2 < 9000)
def modOk (_ b : Int) : Bool := decide (b ≠ 0)
def powOk (a n : Int) : Bool := decide (0 ≤ n ∧ (Builtin.Int.intBits a : Int) * n ≤ 2 ^ 27)
def dSub : G2 := dI (fun _ _ => true) fun a b => .int (a - b)
def dMul : G2 := dI mulOk fun a b => .int (a * b)
def dDiv : G2 := dI divOk fun a b => .int (a.fdiv b)
def dMod : G2 := dI modOk fun a b => .int (a.fmod b)
def dPow : G2 := dI powOk fun a n => .int (a ^ n.toNat)
theorem od_sub : OpD X (binaryOp .Sub) dSub := opD_int (opR0 op_sub) (fun _ _ _ => trivial) fun _ _ _ _ => .int _
theorem od_mul : OpD X (binaryOp .Mult) dMul := opD_int (C := fun a b => IntMulOk a b) (opI fun _ _ _ _ _ _ _ hc q => mul_int q hc) (fun _ _ h => of_decide_eq_true h) fun _ _ _ _ => .int _
theorem od_div : OpD X (binaryOp .FloorDiv) dDiv := opD_int (C := fun _ b => b ≠ 0 ∧ b.natAbs.log2 < 9000) (opI fun _ _ _ _ _ _ _ hc q => floordiv_int hc.1 q (.inl (PyProof.noPylong_of_log2 hc.2))) (fun _ _ h => of_decide_eq_true h) fun _ _ _ _ => .int _
theorem od_mod : OpD X (binaryOp .Mod) dMod := opD_int op_modN (fun _ _ h => of_decide_eq_true h) fun _ _ _ _ => .int _
theorem od_pow : OpD X (binaryOp .Pow) dPow := opD_int (C := fun a n => 0 ≤ n ∧ (Builtin.Int.intBits a : Int) * n ≤ 2 ^ 27) (opI fun _ _ _ _ _ _ _ hc q => pow_int hc.1 hc.2 q) (fun _ _ h => of_decide_eq_true h) fun _ _ _ _ => .int _
def dLt : G2 := dI (fun _ _ => true) fun a b => .bl (decide (a < b))
def dLe : G2 := dI (fun _ _ => true) fun a b => .bl (decide (a ≤ b))
def dGt : G2 := dI (fun _ _ => true) fun a b => .bl (decide (b < a))
def dGe : G2 := dI (fun _ _ => true) fun a b => .bl (decide (b ≤ a))
theorem od_lt : OpD X (compareOp .Lt) dLt := opD_int (opR0 op_lt) (fun _ _ _ => trivial) fun _ _ _ _ => .bl _
theorem od_le : OpD X (compareOp .LtE) dLe := opD_int (opR0 op_le) (fun _ _ _ => trivial) fun _ _ _ _ => .bl _
theorem od_gt : OpD X (compareOp .Gt) dGt := opD_int (opR0 op_gt) (fun _ _ _ => trivial) fun _ _ _ _ => .bl _
theorem od_ge : OpD X (compareOp .GtE) dGe := opD_int (opR0 op_ge) (fun _ _ _ => trivial) fun _ _ _ _ => .bl _

/-! ### + -/
def dAdd : G2
  | .int a, .int b => some (false, .int (a + b))
  | .str a, .str b => if a.length + b.length ≤ sizeLine then some (false, .str (a ++ b)) else none
  | .lst a, .lst b => if a.length + b.length ≤ sizeLine then some (true, .lst (a ++ b)) else none
  | .tup a, .tup b => if a.length + b.length ≤ sizeLine then some (false, .tup (a ++ b)) else none
  | _, _ => none
theorem Vals.size {xs : List V} {us : List Value} (r : Vals xs us) : us.toArray.size = xs.length := by rw [List.size_toArray]; exact r.length.symm
theorem od_add : OpD X (binaryOp .Add) dAdd := opD fun pins s σ H F x y v u Q d e r I rx ry sub px py hr k => by
  unfold dAdd at hr
  split at hr
  · cases hr
    exact op_add pins s σ H x y v u Q I rx ry ⟨_, _, px.int, py.int, k _ H F (.refl sub) (.int _)⟩
  · split at hr
    · rename_i hz
      cases hr
      exact op_add_str pins s σ H x y v u Q I rx ry ⟨_, _, px.str, py.str, hz, k _ H F (.refl sub) (.str _)⟩
    · cases hr
  · split at hr
    · rename_i ds es hz
      cases hr
      obtain ⟨a, vs, rfl, ha, ra⟩ := px.lst sub
      obtain ⟨b, ws, rfl, hb, rb⟩ := py.lst sub
      cases rx
      cases ry
      obtain ⟨its, r1, ⟨⟨c1, dd1, dt1, sl1⟩, n1, e1, c1', d1, hd1⟩, _⟩ := I.list ha
      obtain ⟨its2, r2, ⟨⟨c2, dd2, dt2, sl2⟩, n2, e2, c2', d2, hd2⟩, _⟩ := I.list hb
      simp only at c1' hd1 c2' hd2
      subst c1' hd1 c2' hd2
      have hz' : vs.length + ws.length ≤ sizeLine := by rw [ra.length, rb.length]; exact hz
      refine concat_meets ⟨_, e1, rfl⟩ ⟨_, e2, rfl⟩ noFill_list_add seq_list_add PySem.F.slot_list_add PySem.F.entry_list_add (PySem.F.args_list_add_2 _ _)
        (list_addW a b its.toArray its2.toArray n1 n2 dd1 dd2 sl1 sl2 (by rw [Vals.size r1, Vals.size r2]; exact hz')) ⟨e1, e2, ?_⟩
      have ea : its.toArray ++ its2.toArray = (its ++ its2).toArray := by simp
      rw [ea]
      exact ⟨.ref _, _, I.lnew (t' := s.toks) (r1.append r2) (by rw [List.length_append]; omega), rfl, k _ _ F (.new sub I.fresh) ⟨_, _, rfl, I.fresh, sub.free I.fresh, upd_same, .lst (ra.append rb)⟩⟩
    · cases hr
  · split at hr
    · rename_i ds es hz
      cases hr
      obtain ⟨a, vs, rfl, ha, ra⟩ := px.tup sub
      obtain ⟨b, ws, rfl, hb, rb⟩ := py.tup sub
      have rxF := px.tupF
      have ryF := py.tupF
      cases rx
      cases ry
      obtain ⟨its, r1, ht, _⟩ := I.tuple ha
      obtain ⟨its2, r2, ht2, _⟩ := I.tuple hb
      have hz' : vs.length + ws.length ≤ sizeLine := by rw [ra.length, rb.length]; exact hz
      by_cases hv : vs = []
      · subst hv
        cases ra
        cases r1
        obtain ⟨⟨cls, dd, data, sl⟩, ho, hc, n, hd⟩ := id ht
        obtain ⟨⟨cls2, dd2, data2, sl2⟩, ho2, hc2, n2, hd2⟩ := id ht2
        simp only at hc hd hc2 hd2
        subst hc hd hc2 hd2
        exact concat_meets ⟨_, ho, rfl⟩ ⟨_, ho2, rfl⟩ noFill_tuple_add seq_tuple_add PySem.F.slot_tuple_add PySem.F.entry_tuple_add (PySem.F.args_tuple_add_2 _ _)
          (tuple_addW0 a b _ _ n n2 dd dd2 sl sl2 (by simp)) ⟨ho, ho2, ⟨.ref b, H, I, rfl, k _ H F (.refl sub) (by show Rl _ _ _ (.tup ([] ++ _)); simpa using ryF)⟩⟩
      · have hv' : its ≠ [] := fun z => hv (r1.nil_iff.mp z)
        refine HT.cat_tup ht ht2 hv' (fun z => ⟨.ref a, H, I, rfl, k _ H F (.refl sub) ?_⟩) (fun z => ?_) (by rw [← r1.length, ← r2.length]; exact hz')
        · have e0 : ws = [] := r2.nil_iff.mp z
          subst e0
          cases rb
          show Rl _ _ _ (.tup (_ ++ []))
          simpa using rxF
        · refine ⟨.ref s.heap.objs.size, _, I.laid (t' := s.toks) (o := .tup (vs ++ ws)) (fun b ob q => Heap.get?_push_of_some _ q) (Nat.le_refl _) ⟨by rw [List.length_append]; exact hz', _, r1.append r2, IsTup.new _ _⟩, rfl, k _ _ _ (.newF sub I.fresh) ?_⟩
          exact .tup (.inl (.inl upd_same)) (RlA.mono (upd_same' (sub.free I.fresh)) _ _ (ra.append rb))
    · cases hr
  · cases hr

/-! ### unary, not, and, or -/
def cNeg (c : CP) : CE := fun env => match c env with
  | some (.int i) => some (false, .int (-i))
  | _ => none
theorem se_neg {a : Expr} {pos : Pos} {c : CP} (h : SP X a c) : SE X (.UnaryOp .USub a pos) (cNeg c) := ⟨PE.mono (pe_un un_neg h.pe) fun σ H Q ⟨F, env, r, S, hc, k⟩ => by
  unfold cNeg at hc
  split at hc
  · rename_i i h1
    cases hc
    exact ⟨F, env, _, S, h1, fun v H' F' x p => ⟨i, p.int, k _ H' F' x (.int _)⟩⟩
  · cases hc⟩
def cNot (c : CT) : CT := fun env => (c env).map (!·)
def cAnd (c c' : CT) : CT := fun env => match c env with
  | some true => c' env
  | some false => some false
  | none => none
def cOr (c c' : CT) : CT := fun env => match c env with
  | some true => some true
  | some false => c' env
  | none => none
theorem st_not {a : Expr} {pos : Pos} {c : CT} (h : STt X a c) : STt X (.UnaryOp .Not a pos) (cNot c) := ⟨PT.mono (pt_not h.pe) fun σ H Q ⟨F, env, r, S, hc, k⟩ => by
  unfold cNot at hc
  cases q : c env with
  | none => rw [q] at hc; cases hc
  | some b =>
    rw [q] at hc
    cases hc
    exact ⟨F, env, b, S, q, fun H' F' x => k H' F' x⟩⟩
theorem sw_and1 {a : Expr} {pos : Pos} {c : CT} (h : STt X a c) : SW X (.BoolOp .And [a] pos) c := ⟨pw_and1 h.pe⟩
theorem sw_or1 {a : Expr} {pos : Pos} {c : CT} (h : STt X a c) : SW X (.BoolOp .Or [a] pos) c := ⟨pw_or1 h.pe⟩
theorem sw_and {a b : Expr} {rest : List Expr} {pos : Pos} {c c' : CT} (h : STt X a c) (h' : SW X (.BoolOp .And (b :: rest) pos) c') : SW X (.BoolOp .And (a :: b :: rest) pos) (cAnd c c') := ⟨PW.mono (pw_and h.pe h'.pe) fun σ H Q ⟨F, env, r, S, hc, k⟩ => by
  unfold cAnd at hc
  split at hc
  · rename_i h1
    refine ⟨F, env, true, S, h1, fun H' F' x => ?_⟩
    refine iteT ?_
    exact ⟨F', env, r, S.ext x, hc, fun H2 F2 x2 => k H2 F2 (x.trans x2)⟩
  · rename_i h1
    cases hc
    refine ⟨F, env, false, S, h1, fun H' F' x => ?_⟩
    refine iteF ?_
    exact k H' F' x
  · cases hc⟩
theorem sw_or {a b : Expr} {rest : List Expr} {pos : Pos} {c c' : CT} (h : STt X a c) (h' : SW X (.BoolOp .Or (b :: rest) pos) c') : SW X (.BoolOp .Or (a :: b :: rest) pos) (cOr c c') := ⟨PW.mono (pw_or h.pe h'.pe) fun σ H Q ⟨F, env, r, S, hc, k⟩ => by
  unfold cOr at hc
  split at hc
  · rename_i h1
    cases hc
    refine ⟨F, env, true, S, h1, fun H' F' x => ?_⟩
    refine iteT ?_
    exact k H' F' x
  · rename_i h1
    refine ⟨F, env, false, S, h1, fun H' F' x => ?_⟩
    refine iteF ?_
    exact ⟨F', env, r, S.ext x, hc, fun H2 F2 x2 => k H2 F2 (x.trans x2)⟩
  · cases hc⟩
theorem SW.st {a : Expr} {c : CT} (h : SW X a c) : STt X a c := ⟨PW.pt h.pe⟩
def cIf (t : CT) (a b : CE) : CE := fun env => match t env with
  | some true => a env
  | some false => b env
  | none => none
theorem se_if {c a b : Expr} {pos : Pos} {t : CT} {ca cb : CE} (h : STt X c t) (ha : SE X a ca) (hb : SE X b cb) : SE X (.IfExp c a b pos) (cIf t ca cb) := ⟨PE.mono (pe_ifExp h.pe ha.pe hb.pe) fun σ H Q ⟨F, env, r, S, hc, k⟩ => by
  unfold cIf at hc
  split at hc
  · rename_i h1
    refine ⟨F, env, true, S, h1, fun H' F' x => ?_⟩
    refine iteT ?_
    exact ⟨F', env, r, S.ext x, hc, fun v H2 F2 x2 hv => k v H2 F2 (x.trans x2) (hv.older x.hh)⟩
  · rename_i h1
    refine ⟨F, env, false, S, h1, fun H' F' x => ?_⟩
    refine iteF ?_
    exact ⟨F', env, r, S.ext x, hc, fun v H2 F2 x2 hv => k v H2 F2 (x.trans x2) (hv.older x.hh)⟩
  · cases hc⟩
/-- and, or, not as values of True and False -/

def cAndV (c c' : CE) : CE := fun env => match c env with
  | some (_, .bl true) => c' env
  | some (_, .bl false) => some (false, .bl false)
  | _ => none
def cOrV (c c' : CE) : CE := fun env => match c env with
  | some (_, .bl true) => some (false, .bl true)
  | some (_, .bl false) => c' env
  | _ => none
def cNotV (c : CE) : CE := fun env => match c env with
  | some (_, .bl b) => some (false, .bl (!b))
  | _ => none
theorem se_one {op : BoolOp} {a : Expr} {pos : Pos} {c : CE} (h : SE X a c) : SE X (.BoolOp op [a] pos) c := ⟨pe_one h.pe⟩
theorem se_and {a b : Expr} {rest : List Expr} {pos : Pos} {c c' : CE} (h : SE X a c) (h' : SE X (.BoolOp .And (b :: rest) pos) c') : SE X (.BoolOp .And (a :: b :: rest) pos) (cAndV c c') := ⟨PE.mono (pe_and h.pe h'.pe) fun σ H Q ⟨F, env, r, S, hc, k⟩ => by
  unfold cAndV at hc
  split at hc
  · rename_i fr h1
    refine ⟨F, env, _, S, h1, fun v H' F' x hv => ⟨true, hv.bl, iteT ?_⟩⟩
    exact ⟨F', env, r, S.ext x, hc, fun v H2 F2 x2 hv => k v H2 F2 (x.trans x2) (hv.older x.hh)⟩
  · rename_i fr h1
    cases hc
    exact ⟨F, env, _, S, h1, fun v H' F' x hv => ⟨false, hv.bl, iteF (k _ H' F' x (Rl.bl _))⟩⟩
  · cases hc⟩
theorem se_or {a b : Expr} {rest : List Expr} {pos : Pos} {c c' : CE} (h : SE X a c) (h' : SE X (.BoolOp .Or (b :: rest) pos) c') : SE X (.BoolOp .Or (a :: b :: rest) pos) (cOrV c c') := ⟨PE.mono (pe_or h.pe h'.pe) fun σ H Q ⟨F, env, r, S, hc, k⟩ => by
  unfold cOrV at hc
  split at hc
  · rename_i fr h1
    cases hc
    exact ⟨F, env, _, S, h1, fun v H' F' x hv => ⟨true, hv.bl, iteT (k _ H' F' x (Rl.bl _))⟩⟩
  · rename_i fr h1
    refine ⟨F, env, _, S, h1, fun v H' F' x hv => ⟨false, hv.bl, iteF ?_⟩⟩
    exact ⟨F', env, r, S.ext x, hc, fun v H2 F2 x2 hv => k v H2 F2 (x.trans x2) (hv.older x.hh)⟩
  · cases hc⟩
theorem se_not {a : Expr} {pos : Pos} {c : CE} (h : SE X a c) : SE X (.UnaryOp .Not a pos) (cNotV c) := ⟨PE.mono (pe_not h.pe) fun σ H Q ⟨F, env, r, S, hc, k⟩ => by
  unfold cNotV at hc
  split at hc
  · rename_i fr b h1
    cases hc
    exact ⟨F, env, _, S, h1, fun v H' F' x hv => ⟨b, hv.bl, k _ H' F' x (Rl.bl _)⟩⟩
  · cases hc⟩

/-! ### argument lists -/
def cNil : CA := fun _ => some []
def cCons (c : CE) (cs : CA) : CA := fun env => match c env, cs env with
  | some r, some ds => some (r.2 :: ds)
  | _, _ => none
theorem sa_nil : SA X [] cNil := ⟨PA.mono pa_nil fun σ H Q ⟨F, env, ds, S, hc, k⟩ => by
  cases hc
  exact k [] H F (.refl S.sub) .nil, fun env ds h => by cases h; rfl⟩
theorem sa_cons {e : Expr} {es : List Expr} {c : CE} {cs : CA} (h : SE X e c) (hs : SA X es cs) (hst : starEach (e :: es) X.env = (false, eval e X.env) :: starEach es X.env := by rfl) : SA X (e :: es) (cCons c cs) := ⟨PA.mono (pa_cons h.pe hs.pe hst) fun σ H Q ⟨F, env, ds, S, hc, k⟩ => by
  unfold cCons at hc
  split at hc
  · rename_i r ds' h1 h2
    cases hc
    refine ⟨F, env, r, S, h1, fun v H1 F1 x1 hv => ?_⟩
    obtain ⟨F1', x1', hv', _⟩ := VR.demote x1 hv
    refine ⟨F1', env, ds', S.ext x1', h2, fun vs H2 F2 x2 hvs => ?_⟩
    exact k (v :: vs) H2 F2 (x1'.trans x2) (.cons (Rl.mono x2.ff _ _ hv') hvs)
  · exact absurd hc (by simp), fun env ds q => by
    unfold cCons at q
    split at q
    · rename_i r ds' h1 h2
      cases q
      simp [hs.len env ds' h2]
    · cases q⟩
def cConsP (c : CP) (cs : CA) : CA := fun env => match c env, cs env with
  | some d, some ds => some (d :: ds)
  | _, _ => none
theorem sap_nil : SAP X [] cNil := ⟨PA.mono pa_nil fun σ H Q ⟨F, env, ds, S, hc, k⟩ => by
  cases hc
  exact k [] H F (.refl S.sub) .nil⟩
theorem PkA.ext {F' H' : Hp} {vs : List V} {ds : List D} (h : PkA K F H vs ds) (x : Ext F H F' H') : PkA K F' H' vs ds := Paired.mapP h fun _ _ q => q.ext x
theorem sap_cons {e : Expr} {es : List Expr} {c : CP} {cs : CA} (h : SP X e c) (hs : SAP X es cs) (hst : starEach (e :: es) X.env = (false, eval e X.env) :: starEach es X.env := by rfl) : SAP X (e :: es) (cConsP c cs) := ⟨PA.mono (pa_cons h.pe hs.pe hst) fun σ H Q ⟨F, env, ds, S, hc, k⟩ => by
  unfold cConsP at hc
  split at hc
  · rename_i d ds' h1 h2
    cases hc
    refine ⟨F, env, d, S, h1, fun v H1 F1 x1 hv => ?_⟩
    refine ⟨F1, env, ds', S.ext x1, h2, fun vs H2 F2 x2 hvs => ?_⟩
    exact k (v :: vs) H2 F2 (x1.trans x2) (.cons (hv.ext x2) hvs)
  · cases hc⟩

/-! ### displays -/
def cTup (c : CA) : CE := fun env => match c env with
  | some ds => if ds.length ≤ sizeLine then some (false, .tup ds) else none
  | none => none
def cLst (c : CA) : CE := fun env => match c env with
  | some ds => if ds.length ≤ sizeLine then some (true, .lst ds) else none
  | none => none
theorem se_tup {es : List Expr} {k : Nat} {pos : Pos} {c : CA} (h : SA X es c) : SE X (.Tuple es k pos) (cTup c) := ⟨PE.mono (pe_tup h.pe) fun σ H Q ⟨F, env, r, S, hc, k⟩ => by
  unfold cTup at hc
  split at hc
  · rename_i ds h1
    split at hc
    · rename_i hz
      cases hc
      refine ⟨F, env, ds, S, h1, fun vs H' F' x hv => ⟨by rw [hv.length]; exact hz, fun p hp => k _ _ _ (x.trans (.newF x.sub hp)) ?_⟩⟩
      exact .tup (.inl (.inl upd_same)) (RlA.mono (upd_same' (x.sub.free hp)) _ _ hv)
    · cases hc
  · cases hc⟩
theorem se_lst {es : List Expr} {pos : Pos} {c : CA} (h : SA X es c) : SE X (.List es pos) (cLst c) := ⟨PE.mono (pe_lst h.pe) fun σ H Q ⟨F, env, r, S, hc, k⟩ => by
  unfold cLst at hc
  split at hc
  · rename_i ds h1
    split at hc
    · rename_i hz
      cases hc
      refine ⟨F, env, ds, S, h1, fun vs H' F' x hv => ⟨by rw [hv.length]; exact hz, fun p hp => k _ _ _ (x.trans (.new x.sub hp)) ?_⟩⟩
      exact ⟨p, _, rfl, x.hh.free hp, x.sub.free hp, upd_same, .lst hv⟩
    · cases hc
  · cases hc⟩

/-! ### a def of the text, by a function of data -/
abbrev Fn := List D → Option (Bool × D)
def spF (K : KX) (n : Nat) (g : Fn) : Sp := fun vs H Q _ => vs.length = n ∧ ∃ F ds r, Same F H ∧ RlA K F vs ds ∧ g ds = some r ∧ ∀ v H' F', Ext F H F' H' → VR K H F' H' v r → Q v H'
/-- what a call asks of a def -/
structure FOk (P : Program) (w : World) (K : PySem.W.Frag) (mg : Str → Option Value) (base : Heap) (k : Nat) (x : Str) (n : Nat) (g : Fn) : Prop where
  ex : ∃ (f : Addr) (fd : FuncData) (ps : List Str), FnOk P w K mg base CX0 k f fd ps (spF ⟨K, P, w⟩ n g) ∧ mg x = some (.ref f) ∧ PySem.W.keepIn K (.ref f) = true ∧ Binds K fd ps []
def cCall (g : Fn) (c : CA) : CE := fun env => match c env with
  | some ds => g ds
  | none => none
theorem se_call {x : Str} {p pos : Pos} {e : Expr} {es : List Expr} {k n : Nat} {g : Fn} {c : CA} (G : FOk X.prog X.w X.K X.mg X.base k x n g) (hr : Room k X.A) (hg : Gl X x) (h : SA X (e :: es) c) (hn : (e :: es).length = n := by rfl)
    (hdb : (x == ("__debug__" : Str)) = false := by decide) (he : starEach (e :: es) X.env = (false, eval e X.env) :: starEach es X.env := by rfl) (hpl : (backTo pos (starEach es X.env)).any (·.1) = false := by rfl) :
    SE X (.Call (.Name x p) (e :: es) [] pos) (cCall g c) := by
  obtain ⟨f, fd, ps, F1, F2, F3, F4⟩ := G.ex
  refine ⟨PE.mono (pe_call (E := E0) F1 hr hg F2 F3 F4 .nil pass0 h.pe hdb he hpl) fun σ H Q ⟨F, env, r, S, hc, k⟩ => ?_⟩
  unfold cCall at hc
  split at hc
  · rename_i ds h1
    refine ⟨F, env, ds, S, h1, fun vs H' F' x hv => ?_⟩
    show spF X.kx n g (vs ++ []) H' Q E0
    rw [List.append_nil]
    exact ⟨by rw [hv.length, h.len env ds h1]; exact hn, F', ds, r, x.sub, hv, hc, fun v H2 F2 x2 q => k v H2 F2 (x.trans x2) (q.older x.hh)⟩
  · cases hc
end
end L2.EV

set_option Elab.async false
set_option linter.all false
set_option maxRecDepth 100000
set_option maxHeartbeats 4000000
namespace L2.EV
open PySem PySem.Spec PyProof.Rows
inductive Out where
  | nx (env : Env) | rt (r : Bool × D) | bk (env : Env) | ct (env : Env)
abbrev CS := Env → Option Out
/-- since the entry -/
structure Ent (F0 H0 B F H : Hp) (σ : St) (env : Env) : Prop where
  ext : Ext F0 H0 F H
  bs : Same B F
  own : ∀ (i : Nat) d p, env[i]? = some (some (true, d)) → σ[i]? = some (some (.ref p)) → H0 p = none
def Post (K : KX) (F0 H0 B : Hp) (E : Ends) : Out → Prop
  | .nx env' => ∀ σ' H' F', SRel K F' σ' H' env' → Ent F0 H0 B F' H' σ' env' → E.nx σ' H'
  | .bk env' => ∀ σ' H' F', SRel K F' σ' H' env' → Ent F0 H0 B F' H' σ' env' → E.bk σ' H'
  | .ct env' => ∀ σ' H' F', SRel K F' σ' H' env' → Ent F0 H0 B F' H' σ' env' → E.ct σ' H'
  | .rt r => ∀ v H' F', Ext F0 H0 F' H' → VR K H0 F' H' v r → E.rt v H'
def tS (K : KX) (c : CS) : TS := fun E σ H => ∃ F0 H0 B F env o, SRel K F σ H env ∧ Ent F0 H0 B F H σ env ∧ c env = some o ∧ Post K F0 H0 B E o
structure SS (X : Cx) (st : Stmt) (c : CS) : Prop where pe : PS X st (tS X.kx c)
structure SSs (X : Cx) (st : List Stmt) (c : CS) : Prop where pe : PSs X st (tS X.kx c)
theorem Ent.step {F0 H0 B F H F' H' : Hp} {σ : St} {env : Env} (E : Ent F0 H0 B F H σ env) (x : Ext F H F' H') : Ent F0 H0 B F' H' σ env := ⟨E.ext.trans x, E.bs.trans x.ff, E.own⟩
section
variable {X : Cx} {K : KX} {F0 H0 B F H : Hp} {σ : St} {env : Env} {e : Expr} {pos : Pos}
theorem get_set {α : Type} {l : List α} {i j : Nat} {a b : α} (h : (l.set i a)[j]? = some b) : (i = j ∧ b = a) ∨ (i ≠ j ∧ l[j]? = some b) := by
  by_cases e : i = j
  · subst e
    by_cases hl : i < l.length
    · rw [List.getElem?_set_self hl] at h; cases h; exact .inl ⟨rfl, rfl⟩
    · rw [List.getElem?_eq_none (by simpa using hl)] at h; cases h
  · rw [List.getElem?_set_ne e] at h; exact .inr ⟨e, h⟩
/-- x = a shared value -/
theorem SRel.setF (S : SRel K F σ H env) {i : Nat} {v : V} {d : D} (h : Rl K F v d) : SRel K F (σ.set i (some v)) H (env.set i (some (false, d))) where
  len := by simp [S.len]
  sub := S.sub
  sh := fun j d' e => by
    rcases get_set e with ⟨rfl, q⟩ | ⟨hj, e⟩
    · cases q
      have hl : i < env.length := by
        rcases Nat.lt_or_ge i env.length with hl | hl
        · exact hl
        · rw [List.getElem?_eq_none (by simpa using hl)] at e; cases e
      exact ⟨v, List.getElem?_set_self (by rw [← S.len]; exact hl), h⟩
    · obtain ⟨w, h1, h2⟩ := S.sh j d' e
      exact ⟨w, by rw [List.getElem?_set_ne hj]; exact h1, h2⟩
  ow := fun j d' e => by
    rcases get_set e with ⟨rfl, q⟩ | ⟨hj, e⟩
    · cases q
    · obtain ⟨p, o, h1, h2⟩ := S.ow j d' e
      exact ⟨p, o, by rw [List.getElem?_set_ne hj]; exact h1, h2⟩
  inj := fun j k d1 d2 p e1 e2 s1 s2 => by
    rcases get_set e1 with ⟨rfl, q⟩ | ⟨hj, e1⟩
    · cases q
    rcases get_set e2 with ⟨rfl, q⟩ | ⟨hk, e2⟩
    · cases q
    rw [List.getElem?_set_ne hj] at s1
    rw [List.getElem?_set_ne hk] at s2
    exact S.inj j k d1 d2 p e1 e2 s1 s2
theorem Ent.setF (E : Ent F0 H0 B F H σ env) {i : Nat} {v : V} {d : D} : Ent F0 H0 B F H (σ.set i (some v)) (env.set i (some (false, d))) := ⟨E.ext, E.bs, fun j d' p e s => by
  rcases get_set e with ⟨rfl, q⟩ | ⟨hj, e⟩
  · cases q
  · rw [List.getElem?_set_ne hj] at s
    exact E.own j d' p e s⟩
/-- x = a new thing -/
theorem SRel.setT (S : SRel K F σ H env) {i : Nat} {p : Addr} {o : HO} {d : D} (h1 : F p = none) (h2 : H p = some o) (h3 : Cell K F p o d) (h4 : ∀ (j : Nat) e, env[j]? = some (some (true, e)) → σ[j]? ≠ some (some (.ref p))) :
    SRel K F (σ.set i (some (.ref p))) H (env.set i (some (true, d))) where
  len := by simp [S.len]
  sub := S.sub
  sh := fun j d' e => by
    rcases get_set e with ⟨rfl, q⟩ | ⟨hj, e⟩
    · cases q
    · obtain ⟨w, h1, h2⟩ := S.sh j d' e
      exact ⟨w, by rw [List.getElem?_set_ne hj]; exact h1, h2⟩
  ow := fun j d' e => by
    rcases get_set e with ⟨rfl, q⟩ | ⟨hj, e⟩
    · cases q
      have hl : i < env.length := by
        rcases Nat.lt_or_ge i env.length with hl | hl
        · exact hl
        · rw [List.getElem?_eq_none (by simpa using hl)] at e; cases e
      exact ⟨p, o, List.getElem?_set_self (by rw [← S.len]; exact hl), h1, h2, h3⟩
    · obtain ⟨p, o, h1, h2⟩ := S.ow j d' e
      exact ⟨p, o, by rw [List.getElem?_set_ne hj]; exact h1, h2⟩
  inj := fun j k d1 d2 q e1 e2 s1 s2 => by
    rcases get_set e1 with ⟨rfl, z1⟩ | ⟨hj, e1⟩
    · rcases get_set e2 with ⟨rfl, z2⟩ | ⟨hk, e2⟩
      · rfl
      · rw [List.getElem?_set_ne hk] at s2
        rcases get_set s1 with ⟨_, z⟩ | ⟨z, _⟩
        · cases z
          exact absurd s2 (h4 k d2 e2)
        · exact absurd rfl z
    · rw [List.getElem?_set_ne hj] at s1
      rcases get_set e2 with ⟨rfl, z2⟩ | ⟨hk, e2⟩
      · rcases get_set s2 with ⟨_, z⟩ | ⟨z, _⟩
        · cases z
          exact absurd s1 (h4 j d1 e1)
        · exact absurd rfl z
      · rw [List.getElem?_set_ne hk] at s2
        exact S.inj j k d1 d2 q e1 e2 s1 s2
theorem Ent.setT (E : Ent F0 H0 B F H σ env) {i : Nat} {p : Addr} {d : D} (h : H0 p = none) : Ent F0 H0 B F H (σ.set i (some (.ref p))) (env.set i (some (true, d))) := ⟨E.ext, E.bs, fun j d' q e s => by
  rcases get_set e with ⟨rfl, z⟩ | ⟨hj, e⟩
  · rcases get_set s with ⟨_, z⟩ | ⟨z, _⟩
    · cases z; exact h
    · exact absurd rfl z
  · rw [List.getElem?_set_ne hj] at s
    exact E.own j d' q e s⟩
/-- x = the value of an expression -/
theorem SRel.setV (S : SRel K F σ H env) (E : Ent F0 H0 B F H σ env) {F' H' : Hp} {i : Nat} {v : V} {r : Bool × D} (x : Ext F H F' H') (hv : VR K H F' H' v r) :
    SRel K F' (σ.set i (some v)) H' (env.set i (some r)) ∧ Ent F0 H0 B F' H' (σ.set i (some v)) (env.set i (some r)) := by
  obtain ⟨fr, d⟩ := r
  cases fr with
  | false => exact ⟨(S.ext x).setF hv, (E.step x).setF⟩
  | true =>
    obtain ⟨p, o, rfl, h1, h2, h3, h4⟩ := hv
    refine ⟨(S.ext x).setT h2 h3 h4 fun j e he hs => ?_, (E.step x).setT (E.ext.hh.free h1)⟩
    obtain ⟨q, o', q1, q2, q3, q4⟩ := S.ow j e he
    rw [hs] at q1
    cases q1
    rw [h1] at q3
    cases q3

def cAsg (i : Nat) (c : CE) : CS := fun env => (c env).map fun r => .nx (env.set i (some r))
theorem ss_of {st : Stmt} {c : CE} {i : Nat} (h : PS X st (tAsg (tE X.kx c) (gName i))) : SS X st (cAsg i c) := ⟨PS.mono h fun E σ H ⟨F0, H0, B, F, env, o, S, en, hc, k⟩ => by
  unfold cAsg at hc
  cases q : c env with
  | none => rw [q] at hc; cases hc
  | some r =>
    rw [q] at hc
    cases hc
    refine ⟨F, env, r, S, q, fun v H' F' x hv => ?_⟩
    obtain ⟨S', E'⟩ := S.setV en (i := i) x hv
    exact k _ H' F' S' E'⟩
theorem ss_set (i : Nat) {x : Str} {pos' : Pos} {c : CE} (hN : X.N.Nodup) (hi : X.N[i]? = some x) (hx : Loc X.env.scope x) (he : SE X e c) (hs : swapsWith e (some (.Name x pos')) pos.line X.env = pure false := by rfl) (hf : X.fn x = true ∨ X.env.scope.names.lookup x = some .local := by first | exact Or.inl rfl | exact Or.inr rfl) :
    SS X (.Assign [.Name x pos'] e pos) (cAsg i c) := ss_of (ps_set hN hi hx he.pe hs hf)
def cRet (c : CE) : CS := fun env => (c env).map .rt
theorem ss_ret {c : CE} (he : SE X e c) : SS X (.Return (some e) pos) (cRet c) := ⟨PS.mono (ps_ret he.pe) fun E σ H ⟨F0, H0, B, F, env, o, S, en, hc, k⟩ => by
  unfold cRet at hc
  cases q : c env with
  | none => rw [q] at hc; cases hc
  | some r =>
    rw [q] at hc
    cases hc
    exact ⟨F, env, r, S, q, fun v H' F' x hv => k v H' F' (en.ext.trans x) (hv.older en.ext.hh)⟩⟩
/-- return of a name: a thing of its own is handed on -/
def cRetVar (i : Nat) : CS := fun env => match env[i]? with
  | some (some r) => some (.rt r)
  | _ => none
theorem ss_retVar (i : Nat) {x : Str} {p : Pos} (h : PE X (.Name x p) (tVar i)) : SS X (.Return (some (.Name x p)) pos) (cRetVar i) := ⟨PS.mono (ps_ret h) fun E σ H ⟨F0, H0, B, F, env, o, S, en, hc, k⟩ => by
  unfold cRetVar at hc
  split at hc
  · rename_i r he
    obtain ⟨fr, d⟩ := r
    cases hc
    cases fr with
    | false =>
      obtain ⟨v, h1, h2⟩ := S.sh i d he
      exact ⟨v, h1, k v H F en.ext h2⟩
    | true =>
      obtain ⟨p, o, h1, h2, h3, h4⟩ := S.ow i d he
      exact ⟨.ref p, h1, k _ H F en.ext ⟨p, o, rfl, en.own i d p he h1, h2, h3, h4⟩⟩
  · cases hc⟩
def cRetN : CS := fun _ => some (.rt (false, .non))
theorem ss_retN : SS X (.Return none pos) cRetN := ⟨PS.mono ps_retN fun E σ H ⟨F0, H0, B, F, env, o, S, en, hc, k⟩ => by
  cases hc
  exact k .non H F en.ext .non⟩
def cPass : CS := fun env => some (.nx env)
def cBreak : CS := fun env => some (.bk env)
def cCont : CS := fun env => some (.ct env)
theorem ss_pass : SS X (.Pass pos) cPass := ⟨PS.mono ps_pass fun E σ H ⟨F0, H0, B, F, env, o, S, en, hc, k⟩ => by
  cases hc
  exact k σ H F S en⟩
theorem ss_break : SS X (.Break pos) cBreak := ⟨PS.mono ps_break fun E σ H ⟨F0, H0, B, F, env, o, S, en, hc, k⟩ => by
  cases hc
  exact k σ H F S en⟩
theorem ss_cont : SS X (.Continue pos) cCont := ⟨PS.mono ps_continue fun E σ H ⟨F0, H0, B, F, env, o, S, en, hc, k⟩ => by
  cases hc
  exact k σ H F S en⟩
def cDrop (c : CE) : CS := fun env => (c env).map fun _ => .nx env
theorem ss_drop {c : CE} (he : SE X e c) (h : ∀ t, PE X e t → PS X (.Expr e pos) (tDrop t)) : SS X (.Expr e pos) (cDrop c) := ⟨PS.mono (h _ he.pe) fun E σ H ⟨F0, H0, B, F, env, o, S, en, hc, k⟩ => by
  unfold cDrop at hc
  cases q : c env with
  | none => rw [q] at hc; cases hc
  | some r =>
    rw [q] at hc
    cases hc
    exact ⟨F, env, r, S, q, fun v H' F' x hv => k σ H' F' (S.ext x) (en.step x)⟩⟩
/-! ### blocks -/
def cSeq (a b : CS) : CS := fun env => match a env with
  | some (.nx env') => b env'
  | o => o
theorem sss_nil : SSs X [] cPass := ⟨PSs.mono pss_nil fun E σ H ⟨F0, H0, B, F, env, o, S, en, hc, k⟩ => by
  cases hc
  exact k σ H F S en⟩
theorem sss_cons {st : Stmt} {rest : List Stmt} {a b : CS} (h : SS X st a) (h' : SSs X rest b) : SSs X (st :: rest) (cSeq a b) := ⟨PSs.mono (pss_cons h.pe h'.pe) fun E σ H ⟨F0, H0, B, F, env, o, S, en, hc, k⟩ => by
  unfold cSeq at hc
  cases q : a env with
  | none => rw [q] at hc; cases hc
  | some o1 =>
    rw [q] at hc
    refine ⟨F0, H0, B, F, env, o1, S, en, q, ?_⟩
    cases o1 with
    | nx env1 => exact fun σ' H' F' S' E' => ⟨F0, H0, B, F', env1, o, S', E', hc, k⟩
    | rt r => cases hc; exact k
    | bk env1 => cases hc; exact k
    | ct env1 => cases hc; exact k⟩
def cIfS (t : CT) (a b : CS) : CS := fun env => match t env with
  | some true => a env
  | some false => b env
  | none => none
theorem ss_if {t : CT} {body els : List Stmt} {a b : CS} (ht : STt X e t) (ha : SSs X body a) (hb : SSs X els b) : SS X (.If e body els pos) (cIfS t a b) := ⟨PS.mono (ps_if ht.pe ha.pe hb.pe) fun E σ H ⟨F0, H0, B, F, env, o, S, en, hc, k⟩ => by
  unfold cIfS at hc
  split at hc
  · rename_i h1
    exact ⟨F, env, true, S, h1, fun H' F' x => iteT ⟨F0, H0, B, F', env, o, S.ext x, en.step x, hc, k⟩⟩
  · rename_i h1
    exact ⟨F, env, false, S, h1, fun H' F' x => iteF ⟨F0, H0, B, F', env, o, S.ext x, en.step x, hc, k⟩⟩
  · cases hc⟩
/-! ### a thing of one's own is shared from here on -/
def frzAt (i : Nat) (env : Env) : Env := match env[i]? with
  | some (some (true, d)) => env.set i (some (false, d))
  | _ => env
def frzs : List Nat → Env → Env
  | [], env => env
  | i :: is, env => frzs is (frzAt i env)
theorem SRel.frz (S : SRel K F σ H env) (E : Ent F0 H0 B F H σ env) (i : Nat) : ∃ F', SRel K F' σ H (frzAt i env) ∧ Ent F0 H0 B F' H σ (frzAt i env) := by
  unfold frzAt
  split
  · rename_i d he
    obtain ⟨p, o, h1, h2, h3, h4⟩ := S.ow i d he
    have hn : ∀ (j : Nat) d', (env.set i (some (false, d)))[j]? = some (some (true, d')) → i ≠ j ∧ env[j]? = some (some (true, d')) := fun j d' e => by
      rcases get_set e with ⟨_, q⟩ | q
      · cases q
      · exact q
    have np : ∀ (j : Nat) d', i ≠ j → env[j]? = some (some (true, d')) → ∀ q, σ[j]? = some (some (.ref q)) → q ≠ p := fun j d' hj e q hq z => by
      subst z
      exact hj (S.inj i j d d' q he e h1 hq)
    have sf : Same F (upd F p o) := upd_same' h2
    refine ⟨upd F p o, ⟨by simp [S.len], fun b u e => ?_, fun j d' e => ?_, fun j d' e => ?_, fun j k d1 d2 q e1 e2 s1 s2 => S.inj j k d1 d2 q (hn j d1 e1).2 (hn k d2 e2).2 s1 s2⟩, ⟨⟨E.ext.ff.trans sf, E.ext.hh, fun a q1 q2 => ?_, fun b u e => ?_⟩, E.bs.trans sf, fun j d' q e s => E.own j d' q (hn j d' e).2 s⟩⟩
    · by_cases hb : b = p
      · subst hb; rw [upd_same] at e; rw [← e]; exact h3
      · rw [upd_ne hb] at e; exact S.sub _ _ e
    · rcases get_set e with ⟨rfl, q⟩ | ⟨hj, e⟩
      · cases q
        exact ⟨_, h1, h4.rl h2⟩
      · obtain ⟨w, q1, q2⟩ := S.sh j d' e
        exact ⟨w, q1, Rl.mono sf _ _ q2⟩
    · obtain ⟨hj, e⟩ := hn j d' e
      obtain ⟨q, o', q1, q2, q3, q4⟩ := S.ow j d' e
      exact ⟨q, o', q1, by rw [upd_ne (np j d' hj e q q1)]; exact q2, q3, q4.mono sf⟩
    · have : a ≠ p := isSome_ne q1 (E.own i d p he h1)
      rw [upd_ne this]; exact E.ext.ex a q1 q2
    · by_cases hb : b = p
      · subst hb; rw [upd_same] at e; rw [← e]; exact h3
      · rw [upd_ne hb] at e; exact S.sub _ _ e
  · exact ⟨F, S, E⟩
theorem SRel.frzs {is : List Nat} : ∀ {F : Hp} {env : Env}, SRel K F σ H env → Ent F0 H0 B F H σ env → ∃ F', SRel K F' σ H (frzs is env) ∧ Ent F0 H0 B F' H σ (frzs is env) := by
  induction is with
  | nil => intro F env S E; exact ⟨F, S, E⟩
  | cons i is ih =>
    intro F env S E
    obtain ⟨F', S', E'⟩ := S.frz E i
    exact ih S' E'
def cFrz (is : List Nat) (c : CS) : CS := fun env => c (frzs is env)
theorem ss_frz (is : List Nat) {st : Stmt} {c : CS} (h : SS X st c) : SS X st (cFrz is c) := ⟨PS.mono h.pe fun E σ H ⟨F0, H0, B, F, env, o, S, en, hc, k⟩ => by
  obtain ⟨F', S', E'⟩ := S.frzs (is := is) en
  exact ⟨F0, H0, B, F', _, o, S', E', hc, k⟩⟩
end
/-! ### what is walked -/
/-- J goes through ds, whatever is made meanwhile -/
def Items (K : KX) (J : It) (F : Hp) (ds : List D) : Prop := ∀ G Hc, Same F G → Same G Hc → ∀ i, (i < ds.length → J.go i Hc ∧ ∀ x H', J.yld i Hc x H' → ∃ G' d, Ext G Hc G' H' ∧ ds[i]? = some d ∧ Rl K G' x d) ∧ (ds.length ≤ i → J.stop i Hc)
abbrev CI := Env → Option (List D)
def tI (K : KX) (c : CI) : TI := fun σ H R => ∃ F env ds, SRel K F σ H env ∧ c env = some ds ∧ ∀ J H' F', Ext F H F' H' → Items K J F' ds → R J H'
structure SI (X : Cx) (tg iter : Expr) (c : CI) : Prop where pe : PI X tg iter (tI X.kx c)
theorem PI.mono {X : Cx} {tg e : Expr} {t t' : TI} (h : PI X tg e t) (m : ∀ σ H Q, t' σ H Q → t σ H Q) : PI X tg e t' := fun pins s σ H Q I q => h pins s σ H Q I (m σ H Q q)
def cItems (c : CE) : CI := fun env => match c env with
  | some (_, .lst ds) => some ds
  | _ => none
def cItemsT (c : CE) : CI := fun env => match c env with
  | some (_, .tup ds) => some ds
  | _ => none
section
variable {X : Cx} {K : KX}
theorem items_list {F : Hp} {a : Addr} {vs : List V} {ds : List D} (hs : SqL X.K F a vs) (hr : RlA X.kx F vs ds) : Items X.kx (Itl X.K a) F ds := fun G Hc s1 s2 i => by
  have hq : SqL X.K Hc a vs := (s1.trans s2).seq hs
  have hl := hr.length
  refine ⟨fun hi => ⟨⟨vs, vs[i], hq, by simp⟩, fun x H' ⟨e, y⟩ => ?_⟩, fun hi => ⟨vs, hq, by omega⟩⟩
  subst e
  obtain ⟨d, h1, h2⟩ := hr.getV (y vs hq)
  exact ⟨G, d, .refl s2, h1, Rl.mono s1 _ _ h2⟩
theorem items_tup {F : Hp} {a : Addr} {vs : List V} {ds : List D} (hs : SqT X.K F a vs) (hr : RlA X.kx F vs ds) : Items X.kx (Itt X.K a) F ds := fun G Hc s1 s2 i => by
  have hq : SqT X.K Hc a vs := sqT_mono (s1.trans s2) hs
  have hl := hr.length
  refine ⟨fun hi => ⟨⟨vs, vs[i], hq, by simp⟩, fun x H' ⟨e, y⟩ => ?_⟩, fun hi => ⟨vs, hq, by omega⟩⟩
  subst e
  obtain ⟨d, h1, h2⟩ := hr.getV (y vs hq)
  exact ⟨G, d, .refl s2, h1, Rl.mono s1 _ _ h2⟩
theorem si_list {tg iter : Expr} {c : CE} (h : SE X iter c) : SI X tg iter (cItems c) := ⟨PI.mono (pi_list h.pe) fun σ H R ⟨F, env, ds, S, hc, k⟩ => by
  unfold cItems at hc
  split at hc
  · rename_i fr ds' h1
    cases hc
    refine ⟨F, env, _, S, h1, fun v H' F' x hv => ?_⟩
    obtain ⟨F2, x2, r2, _⟩ := VR.demote x hv
    cases r2 with
    | lst q1 q2 => exact ⟨_, rfl, ⟨_, x2.sub.seq q1⟩, k _ H' F2 x2 (items_list q1 q2)⟩
  · cases hc⟩
theorem si_tup {tg iter : Expr} {c : CE} (h : SE X iter c) : SI X tg iter (cItemsT c) := ⟨PI.mono (pi_tup h.pe) fun σ H R ⟨F, env, ds, S, hc, k⟩ => by
  unfold cItemsT at hc
  split at hc
  · rename_i fr ds' h1
    cases hc
    refine ⟨F, env, _, S, h1, fun v H' F' x hv => ?_⟩
    obtain ⟨F2, x2, r2, _⟩ := VR.demote x hv
    cases r2 with
    | tup q1 q2 => exact ⟨_, rfl, ⟨_, sqT_mono x2.sub q1⟩, k _ H' F2 x2 (items_tup q1 q2)⟩
  · cases hc⟩
/-- lo, lo + 1, .. -/
def rngD (lo : Int) (n : Nat) : List D := (List.range n).map fun (i : Nat) => D.int (lo + (i : Int))
theorem rngD_get {lo : Int} {n i : Nat} (h : i < n) : (rngD lo n)[i]? = some (.int (lo + (i : Int))) := by
  unfold rngD
  rw [List.getElem?_map, List.getElem?_range h]
  rfl
theorem rngD_length {lo : Int} {n : Nat} : (rngD lo n).length = n := by simp [rngD]
/-- at turn i it goes on -/
theorem items_rng {F : Hp} {lo : Int} {n : Nat} : Items K (Itr lo n) F (rngD lo n) := fun G Hc s1 s2 i => by
  refine ⟨fun hi => ?_, fun hi => by rw [rngD_length] at hi; exact hi⟩
  rw [rngD_length] at hi
  refine ⟨hi, fun x H' ⟨e, y⟩ => ?_⟩
  subst e y
  exact ⟨G, _, .refl s2, rngD_get hi, .int _⟩
def small62 (i : Int) : Bool := decide (-(2 ^ 62) ≤ i ∧ i < 2 ^ 62)
def cRng1 (c : CA) : CI := fun env => match c env with
  | some [.int j] => if small62 j then some (rngD 0 j.toNat) else none
  | _ => none
def cRng2 (c : CA) : CI := fun env => match c env with
  | some [.int i, .int j] => if small62 i && small62 j then some (rngD i (j - i).toNat) else none
  | _ => none
theorem RlA.one {F : Hp} {vs : List V} {i : Int} (h : RlA K F vs [.int i]) : vs = [.int i] := RlA.ints (ns := [i]) h
theorem RlA.two {F : Hp} {vs : List V} {i j : Int} (h : RlA K F vs [.int i, .int j]) : vs = [.int i, .int j] := RlA.ints (ns := [i, j]) h
theorem si_rng1 {tg a : Expr} {p pos : Pos} {c : CA} (hg : Gl X "range") (hm : X.mg "range" = none) (h : SA X [a] c) (hs : starEach [a] X.env = [(false, eval a X.env)] := by rfl) : SI X tg (.Call (.Name "range" p) [a] [] pos) (cRng1 c) := ⟨PI.mono (pi_range1 hg hm h.pe hs) fun σ H R ⟨F, env, ds, S, hc, k⟩ => by
  unfold cRng1 at hc
  split at hc
  · rename_i j h1
    split at hc
    · rename_i hz
      cases hc
      have hz := of_decide_eq_true hz
      exact ⟨F, env, _, S, h1, fun vs H' F' x hv => ⟨j, hv.one, hz.1, hz.2, k _ H' F' x items_rng⟩⟩
    · cases hc
  · cases hc⟩
theorem si_rng2 {tg a b : Expr} {p pos : Pos} {c : CA} (hg : Gl X "range") (hm : X.mg "range" = none) (h : SA X [a, b] c) (hs : starEach [a, b] X.env = [(false, eval a X.env), (false, eval b X.env)] := by rfl) (hs2 : starEach [b] X.env = [(false, eval b X.env)] := by rfl) : SI X tg (.Call (.Name "range" p) [a, b] [] pos) (cRng2 c) := ⟨PI.mono (pi_range2 hg hm h.pe hs hs2) fun σ H R ⟨F, env, ds, S, hc, k⟩ => by
  unfold cRng2 at hc
  split at hc
  · rename_i i j h1
    split at hc
    · rename_i hz
      cases hc
      rw [Bool.and_eq_true] at hz
      have hz1 := of_decide_eq_true hz.1
      have hz2 := of_decide_eq_true hz.2
      exact ⟨F, env, _, S, h1, fun vs H' F' x hv => ⟨i, j, hv.two, ⟨hz1.1, hz1.2, hz2.1, hz2.2⟩, k _ H' F' x items_rng⟩⟩
    · cases hc
  · cases hc⟩
end
/-! ### targets -/
abbrev CG := D → Env → Option Env
/-- a store of a shared value into names -/
def tG (K : KX) (is : List Nat) (g : CG) : TG := fun v σ H Q => ∃ F env env' d, SRel K F σ H env ∧ Rl K F v d ∧ g d env = some env' ∧
  ∀ σ', SRel K F σ' H env' → (∀ j, j ∉ is → σ'[j]? = σ[j]?) → σ'.length = σ.length → (∀ F0 H0 B, Ent F0 H0 B F H σ env → Ent F0 H0 B F H σ' env') → Q σ' H
structure SG (X : Cx) (tg : Expr) (is : List Nat) (g : CG) : Prop where pe : PG X tg (tG X.kx is g)
def gSet (i : Nat) : CG := fun d env => some (env.set i (some (false, d)))
abbrev CGs := List D → Env → Option Env
def tGs (K : KX) (is : List Nat) (g : CGs) : TGs := fun vs σ H Q => ∃ F env env' ds, SRel K F σ H env ∧ RlA K F vs ds ∧ g ds env = some env' ∧
  ∀ σ', SRel K F σ' H env' → (∀ j, j ∉ is → σ'[j]? = σ[j]?) → σ'.length = σ.length → (∀ F0 H0 B, Ent F0 H0 B F H σ env → Ent F0 H0 B F H σ' env') → Q σ' H
structure SGs (X : Cx) (tgs : List Expr) (is : List Nat) (g : CGs) : Prop where pe : PGs X tgs (tGs X.kx is g)
def gNilC : CGs := fun ds env => match ds with
  | [] => some env
  | _ => none
def gConsC (g : CG) (gs : CGs) : CGs := fun ds env => match ds with
  | d :: r => match g d env with
    | some env' => gs r env'
    | none => none
  | [] => none
def gTupC (n : Nat) (gs : CGs) : CG := fun d env => match d with
  | .tup ds => if ds.length = n then gs ds env else none
  | _ => none
theorem PG.mono {X : Cx} {tg : Expr} {t t' : TG} (h : PG X tg t) (m : ∀ v σ H Q, t' v σ H Q → t v σ H Q) : PG X tg t' := fun pins s σ H x u Q I r q => h pins s σ H x u Q I r (m x σ H Q q)
theorem PGs.mono {X : Cx} {tg : List Expr} {t t' : TGs} (h : PGs X tg t) (m : ∀ v σ H Q, t' v σ H Q → t v σ H Q) : PGs X tg t' := fun pins s σ H x u Q I r q => h pins s σ H x u Q I r (m x σ H Q q)
section
variable {X : Cx}
theorem sg_name (i : Nat) {x : Str} {pos : Pos} (h : PG X (.Name x pos) (gName i)) : SG X (.Name x pos) [i] (gSet i) := ⟨PG.mono h fun v σ H Q ⟨F, env, env', d, S, r, hg, k⟩ => by
  cases hg
  exact k _ (S.setF r) (fun j hj => List.getElem?_set_ne fun z => hj (by simp [z])) (by simp) fun F0 H0 B E => E.setF⟩
theorem sgs_nil : SGs X [] [] gNilC := ⟨PGs.mono pgs_nil fun vs σ H Q ⟨F, env, env', ds, S, r, hg, k⟩ => by
  cases r with
  | nil => cases hg; exact ⟨rfl, k σ S (fun _ _ => rfl) rfl fun _ _ _ E => E⟩
  | cons _ _ => cases hg⟩
theorem sgs_cons {e : Expr} {es : List Expr} {is js : List Nat} {g : CG} {gs : CGs} (h : SG X e is g) (hs : SGs X es js gs) (hm : (assignEach (e :: es) X.env).map (·.2) = assign e X.env :: (assignEach es X.env).map (·.2) := by rfl) : SGs X (e :: es) (is ++ js) (gConsC g gs) := ⟨PGs.mono (pgs_cons h.pe hs.pe hm) fun vs σ H Q ⟨F, env, env', ds, S, r, hg, k⟩ => by
  cases r with
  | nil => cases hg
  | cons r1 r2 =>
    unfold gConsC at hg
    simp only at hg
    split at hg
    · rename_i env1 h1
      refine ⟨_, _, rfl, F, env, env1, _, S, r1, h1, fun σ1 S1 i1 l1 E1 => ?_⟩
      exact ⟨F, env1, env', _, S1, r2, hg, fun σ2 S2 i2 l2 E2 => k σ2 S2 (fun j hj => (i2 j fun z => hj (List.mem_append_right _ z)).trans (i1 j fun z => hj (List.mem_append_left _ z))) (l2.trans l1) fun F0 H0 B E => E2 F0 H0 B (E1 F0 H0 B E)⟩
    · cases hg⟩
theorem sg_tup {es : List Expr} {k n : Nat} {is : List Nat} {pos : Pos} {gs : CGs} (hc : X.calm = true) (h : SGs X es is gs) (hl : (assignEach es X.env).length = n := by rfl) (hi : (assignEach es X.env).findIdx? (·.1) = none := by rfl) : SG X (.Tuple es k pos) is (gTupC n gs) := ⟨PG.mono (pg_tup hc h.pe hl hi) fun v σ H Q ⟨F, env, env', d, S, r, hg, k⟩ => by
  unfold gTupC at hg
  split at hg
  · split at hg
    · rename_i ds hn
      cases r with
      | tup q1 q2 => exact ⟨_, _, rfl, sqT_mono S.sub q1, by rw [q2.length]; exact hn, F, env, env', ds, S, q2, hg, k⟩
    · cases hg
  · cases hg⟩
/-! ### loops -/
def forL (g : CG) (body : CS) : List D → Env → Option Out
  | [], env => some (.nx env)
  | d :: r, env => match g d env with
    | none => none
    | some env1 => match body env1 with
      | some (.nx env2) => forL g body r env2
      | some (.ct env2) => forL g body r env2
      | some (.bk env2) => some (.nx env2)
      | some (.rt v) => some (.rt v)
      | none => none
def cFor (c : CI) (g : CG) (body : CS) : CS := fun env => match c env with
  | some ds => forL g body ds env
  | none => none
theorem drop_get {α : Type} {l : List α} {i : Nat} {a : α} (h : l[i]? = some a) : l.drop i = a :: l.drop (i + 1) := by
  have hl : i < l.length := by
    rcases Nat.lt_or_ge i l.length with hl | hl
    · exact hl
    · rw [List.getElem?_eq_none hl] at h; cases h
  rw [List.drop_eq_getElem_cons hl]
  rw [List.getElem?_eq_getElem hl] at h
  cases h
  rfl
theorem ss_for {tg iter : Expr} {body : List Stmt} {pos : Pos} {is : List Nat} {c : CI} {g : CG} {b : CS} (hp : PassesOwn (model X.prog X.w) X.A X.env X.xe) (hc : X.calm = true) (hi : SI X tg iter c) (hg : SG X tg is g) (hb : SSs X body b)
    (hs : ∀ x, foldedSetIterable iter X.env x = pure x := by intro _; rfl) : SS X (.For tg iter body [] pos) (cFor c g b) := ⟨PS.mono (ps_for hp hc hi.pe hg.pe hb.pe hs) fun E σ H ⟨F0, H0, B, F, env, o, S, en, hc, k⟩ => by
  unfold cFor at hc
  split at hc
  · rename_i ds h1
    refine ⟨F, env, ds, S, h1, fun J H1 F1 x1 it => ?_⟩
    refine ⟨fun i m σ H => m = ds.length - i ∧ i ≤ ds.length ∧ ∃ F env o, SRel X.kx F σ H env ∧ Ent F0 H0 B F H σ env ∧ Same F1 F ∧ forL g b (ds.drop i) env = some o ∧ Post X.kx F0 H0 B E o,
      ⟨_, rfl, Nat.zero_le _, F1, env, o, S.ext x1, en.step x1, .refl _, hc, k⟩, ?_⟩
    rintro i m σ2 H2 ⟨rfl, hi, F2, env2, o2, S2, E2, s2, h2, k2⟩
    obtain ⟨go, stop⟩ := it F2 H2 s2 S2.sub i
    by_cases hlt : i < ds.length
    · obtain ⟨go, yld⟩ := go hlt
      refine .inr ⟨go, fun σ' H' => i + 1 ≤ ds.length ∧ ∃ F env o, SRel X.kx F σ' H' env ∧ Ent F0 H0 B F H' σ' env ∧ Same F1 F ∧ forL g b (ds.drop (i + 1)) env = some o ∧ Post X.kx F0 H0 B E o, fun σ' H' q => ⟨_, by omega, rfl, q⟩, fun x H3 hy => ?_⟩
      obtain ⟨F3, d, x3, hd, rd⟩ := yld x H3 hy
      rw [drop_get hd] at h2
      unfold forL at h2
      split at h2
      · cases h2
      · rename_i env3 h3
        refine ⟨F3, env2, env3, d, S2.ext x3, rd, h3, fun σ4 S4 _ _ e4 => ?_⟩
        have E4 := e4 F0 H0 B (E2.step x3)
        have s3 : Same F1 F3 := s2.trans x3.ff
        cases q : b env3 with
        | none => rw [q] at h2; cases h2
        | some o3 =>
          rw [q] at h2
          have fin : ∀ env' σ' H' F', forL g b (ds.drop (i + 1)) env' = some o2 → SRel X.kx F' σ' H' env' → Ent F0 H0 F3 F' H' σ' env' →
              i + 1 ≤ ds.length ∧ ∃ F env o, SRel X.kx F σ' H' env ∧ Ent F0 H0 B F H' σ' env ∧ Same F1 F ∧ forL g b (ds.drop (i + 1)) env = some o ∧ Post X.kx F0 H0 B E o := fun env' σ' H' F' hf S' E' =>
            ⟨hlt, F', env', o2, S', ⟨E'.ext, (E2.step x3).bs.trans E'.bs, E'.own⟩, s3.trans E'.bs, hf, k2⟩
          refine ⟨F0, H0, F3, F3, env3, o3, S4, ⟨E4.ext, .refl _, E4.own⟩, q, ?_⟩
          cases o3 with
          | nx env' => exact fun σ' H' F' S' E' => fin env' σ' H' F' h2 S' E'
          | ct env' => exact fun σ' H' F' S' E' => fin env' σ' H' F' h2 S' E'
          | bk env' => cases h2; exact fun σ' H' F' S' E' => k2 σ' H' F' S' ⟨E'.ext, (E2.step x3).bs.trans E'.bs, E'.own⟩
          | rt r => cases h2; exact k2
    · exact .inl ⟨stop (by omega), by
        have : ds.drop i = [] := List.drop_eq_nil_of_le (by omega)
        rw [this] at h2
        cases h2
        exact k2 σ2 H2 F2 S2 E2⟩
  · cases hc⟩
end
end L2.EV

set_option Elab.async false
set_option linter.all false
set_option maxRecDepth 100000
set_option maxHeartbeats 4000000
namespace L2.EV
open PySem PySem.Spec PyProof.Rows
/-! ### while -/
def whileF (t : CT) (b : CS) : Nat → Env → Option Out
  | 0, _ => none
  | n + 1, env => match t env with
    | none => none
    | some false => some (.nx env)
    | some true => match b env with
      | some (.nx e) => whileF t b n e
      | some (.ct e) => whileF t b n e
      | some (.bk e) => some (.nx e)
      | some (.rt r) => some (.rt r)
      | none => none
theorem whileF_up {t : CT} {b : CS} {o : Out} : ∀ {n m : Nat} {env : Env}, whileF t b n env = some o → n ≤ m → whileF t b m env = some o
  | 0, _, _, h, _ => by cases h
  | n + 1, 0, _, _, hm => absurd hm (by omega)
  | n + 1, m + 1, env, h, hm => by
    unfold whileF at h ⊢
    cases q : t env with
    | none => rw [q] at h; cases h
    | some c =>
      rw [q] at h
      cases c with
      | false => exact h
      | true =>
        simp only at h ⊢
        cases q2 : b env with
        | none => rw [q2] at h; cases h
        | some o2 =>
          rw [q2] at h
          cases o2 with
          | nx e => exact whileF_up h (by omega)
          | ct e => exact whileF_up h (by omega)
          | bk e => exact h
          | rt r => exact h
open Classical in
noncomputable def cWhile (t : CT) (b : CS) : CS := fun env => if h : ∃ o n, whileF t b n env = some o then some (Classical.choose h) else none
theorem cWhile_eq {t : CT} {b : CS} {env : Env} {o : Out} {n : Nat} (h : whileF t b n env = some o) : cWhile t b env = some o := by
  have e : ∃ o n, whileF t b n env = some o := ⟨o, n, h⟩
  unfold cWhile
  rw [dif_pos e]
  obtain ⟨m, hm⟩ := Classical.choose_spec e
  have h1 := whileF_up hm (Nat.le_max_left m n)
  have h2 := whileF_up h (Nat.le_max_right m n)
  rw [h1] at h2
  exact h2
theorem cWhile_of {t : CT} {b : CS} {env : Env} {o : Out} (h : cWhile t b env = some o) : ∃ n, whileF t b n env = some o := by
  unfold cWhile at h
  split at h
  · rename_i e
    cases h
    exact Classical.choose_spec e
  · cases h
section
variable {X : Cx} {pos : Pos}
theorem ss_while {c : Expr} {body : List Stmt} {t : CT} {b : CS} (hp : PassesOwn (model X.prog X.w) X.A X.env X.xe) (hc : STt X c t) (hb : SSs X body b) : SS X (.While c body [] pos) (cWhile t b) := ⟨PS.mono (ps_while hp hc.pe hb.pe) fun E σ H ⟨F0, H0, B, F, env, o, S, en, hc, k⟩ => by
  obtain ⟨n, hn⟩ := cWhile_of hc
  refine ⟨fun m σ H => ∃ F env, SRel X.kx F σ H env ∧ Ent F0 H0 B F H σ env ∧ whileF t b m env = some o, ⟨n, F, env, S, en, hn⟩, ?_⟩
  rintro m σ2 H2 ⟨F2, env2, S2, E2, h2⟩
  cases m with
  | zero => cases h2
  | succ m =>
    unfold whileF at h2
    cases q : t env2 with
    | none => rw [q] at h2; cases h2
    | some c =>
      rw [q] at h2
      refine ⟨F2, env2, c, S2, q, fun H3 F3 x3 => ?_⟩
      cases c with
      | false =>
        cases h2
        exact iteF (k σ2 H3 F3 (S2.ext x3) (E2.step x3))
      | true =>
        refine iteT ⟨fun σ H => ∃ F env, SRel X.kx F σ H env ∧ Ent F0 H0 B F H σ env ∧ whileF t b m env = some o, fun σ' H' q => ⟨m, Nat.lt_succ_self m, q⟩, ?_⟩
        simp only at h2
        cases q2 : b env2 with
        | none => rw [q2] at h2; cases h2
        | some o2 =>
          rw [q2] at h2
          refine ⟨F0, H0, B, F3, env2, o2, S2.ext x3, E2.step x3, q2, ?_⟩
          cases o2 with
          | nx e => exact fun σ' H' F' S' E' => ⟨F', e, S', E', h2⟩
          | ct e => exact fun σ' H' F' S' E' => ⟨F', e, S', E', h2⟩
          | bk e => cases h2; exact k
          | rt r => cases h2; exact k⟩
end
/-! ### comprehensions -/
def wipeE (env : Env) : List Nat → Env
  | [] => env
  | v :: vs => (wipeE env vs).set v none
theorem SRel.setN {K : KX} {F H : Hp} {σ : St} {env : Env} (S : SRel K F σ H env) (i : Nat) : SRel K F (σ.set i none) H (env.set i none) where
  len := by simp [S.len]
  sub := S.sub
  sh := fun j d e => by
    rcases get_set e with ⟨rfl, q⟩ | ⟨hj, e⟩
    · cases q
    · obtain ⟨w, h1, h2⟩ := S.sh j d e
      exact ⟨w, by rw [List.getElem?_set_ne hj]; exact h1, h2⟩
  ow := fun j d' e => by
    rcases get_set e with ⟨rfl, q⟩ | ⟨hj, e⟩
    · cases q
    · obtain ⟨p, o, h1, h2⟩ := S.ow j d' e
      exact ⟨p, o, by rw [List.getElem?_set_ne hj]; exact h1, h2⟩
  inj := fun j k d1 d2 p e1 e2 s1 s2 => by
    rcases get_set e1 with ⟨rfl, q⟩ | ⟨hj, e1⟩
    · cases q
    rcases get_set e2 with ⟨rfl, q⟩ | ⟨hk, e2⟩
    · cases q
    rw [List.getElem?_set_ne hj] at s1
    rw [List.getElem?_set_ne hk] at s2
    exact S.inj j k d1 d2 p e1 e2 s1 s2
theorem SRel.wipe {K : KX} {F H : Hp} {σ : St} {env : Env} (S : SRel K F σ H env) : ∀ vs : List Nat, SRel K F (wipe σ vs) H (wipeE env vs)
  | [] => S
  | v :: vs => (S.wipe vs).setN v
theorem wipe_get {σ : St} {i : Nat} : ∀ {vs : List Nat}, i ∈ vs → i < σ.length → (wipe σ vs)[i]? = some none
  | v :: vs, h, hl => by
    unfold wipe
    by_cases e : v = i
    · subst e
      exact List.getElem?_set_self (by rw [wipe_length]; exact hl)
    · rw [List.getElem?_set_ne e]
      exact wipe_get ((List.mem_cons.mp h).resolve_left fun z => e z.symm) hl
theorem wipe_eq {σ τ : St} {vs : List Nat} (h : ∀ j, j ∉ vs → σ[j]? = τ[j]?) (hl : σ.length = τ.length) : wipe σ vs = wipe τ vs := by
  apply List.ext_getElem?
  intro j
  by_cases hj : j ∈ vs
  · by_cases hl' : j < σ.length
    · rw [wipe_get hj hl', wipe_get hj (by omega)]
    · rw [List.getElem?_eq_none (by rw [wipe_length]; omega), List.getElem?_eq_none (by rw [wipe_length]; omega)]
  · rw [wipe_out hj, wipe_out hj]
    exact h j hj
def compL (g : CG) (t : CT) (c : CE) (env : Env) : List D → Option (List D)
  | [] => some []
  | d :: r => match g d env with
    | none => none
    | some env1 => match t env1 with
      | none => none
      | some false => compL g t c env r
      | some true => match c env1 with
        | none => none
        | some v => match compL g t c env r with
          | none => none
          | some out => some (v.2 :: out)
def cLc (ci : CI) (g : CG) (t : CT) (c : CE) (vs : List Nat) : CE := fun env => match ci env with
  | none => none
  | some ds => match compL g t c (wipeE env vs) ds with
    | none => none
    | some out => if out.length ≤ sizeLine then some (true, .lst out) else none
theorem SRel.updD {K : KX} {F H : Hp} {σ : St} {env : Env} {p : Addr} {o : HO} (S : SRel K F σ H env) (hF : F p = none) (hn : ∀ (j : Nat) e, env[j]? = some (some (true, e)) → σ[j]? ≠ some (some (.ref p))) : SRel K F σ (upd H p o) env where
  len := S.len
  sub := fun b u e => by rw [upd_ne (ne_of_none e hF)]; exact S.sub _ _ e
  sh := S.sh
  ow := fun j d e => by
    obtain ⟨q, o', h1, h2, h3, h4⟩ := S.ow j d e
    have : q ≠ p := fun z => by subst z; exact hn j d e h1
    exact ⟨q, o', h1, h2, by rw [upd_ne this]; exact h3, h4⟩
  inj := S.inj
theorem Ext.updD {F H F' H' : Hp} {p : Addr} {o : HO} (x : Ext F H F' H') (h : H p = none) (hF : F' p = none) : Ext F H F' (upd H' p o) :=
  ⟨x.ff, fun b u e => by rw [upd_ne (ne_of_none e h)]; exact x.hh _ _ e, x.ex, fun b u e => by rw [upd_ne (ne_of_none e hF)]; exact x.sub _ _ e⟩
section
variable {X : Cx}
theorem lc_read {K : KX} {ci : CI} {is vs : List Nat} {g : CG} {t : CT} {c : CE} (hv : ∀ i ∈ is, i ∈ vs) (σ : St) (H : Hp) (Q : VK) (h : tE K (cLc ci g t c vs) σ H Q) : tLc (tI K ci) (tG K is g) (tT K t) (tE K c) vs σ H Q := by
  obtain ⟨F, env, r, S, hc, k⟩ := h
  unfold cLc at hc
  split at hc
  · cases hc
  rename_i ds h1
  split at hc
  · cases hc
  rename_i out h2
  split at hc
  · rename_i hz
    cases hc
    refine ⟨F, env, ds, S, h1, fun J H1 F1 x1 it D hD => ?_⟩
    have hD0 : H D = none := x1.hh.free hD
    have hF1 : F1 D = none := x1.sub.free hD
    have nown : ∀ (j : Nat) e, (wipeE env vs)[j]? = some (some (true, e)) → (wipe σ vs)[j]? ≠ some (some (.ref D)) := fun j e he hs => by
      obtain ⟨q, o', q1, q2, q3, q4⟩ := ((S.ext x1).wipe vs).ow j e he
      rw [hs] at q1
      cases q1
      rw [hD] at q3
      cases q3
    refine ⟨fun i m Hc => m = ds.length - i ∧ i ≤ ds.length ∧ ∃ G acc accD rest, SRel K G (wipe σ vs) Hc (wipeE env vs) ∧ Same F1 G ∧ Ext F H G Hc ∧ Hc D = some (.lst acc) ∧ G D = none ∧ RlA K G acc accD ∧ compL g t c (wipeE env vs) (ds.drop i) = some rest ∧ out = accD ++ rest,
      ⟨_, rfl, Nat.zero_le _, F1, [], [], out, ((S.ext x1).wipe vs).updD hF1 nown, .refl _, x1.updD hD0 hF1, upd_same, hF1, .nil, h2, rfl⟩, ?_⟩
    rintro i m Hc ⟨rfl, hi, G, acc, accD, rest, S2, s2, x2, hd2, g2, r2, h2', eo⟩
    obtain ⟨go, stop⟩ := it G Hc s2 S2.sub i
    by_cases hlt : i < ds.length
    · obtain ⟨go, yld⟩ := go hlt
      refine .inr ⟨go, fun H' => i + 1 ≤ ds.length ∧ ∃ G acc accD rest, SRel K G (wipe σ vs) H' (wipeE env vs) ∧ Same F1 G ∧ Ext F H G H' ∧ H' D = some (.lst acc) ∧ G D = none ∧ RlA K G acc accD ∧ compL g t c (wipeE env vs) (ds.drop (i + 1)) = some rest ∧ out = accD ++ rest, fun H' q => ⟨_, by omega, rfl, q⟩, fun x H3 hy => ?_⟩
      obtain ⟨F3, d, x3, hd, rd⟩ := yld x H3 hy
      rw [drop_get hd] at h2'
      unfold compL at h2'
      split at h2'
      · cases h2'
      rename_i env3 h3
      have iD : (Hc D).isSome = true := by rw [hd2]; rfl
      have g3 : F3 D = none := x3.ex D iD g2
      refine ⟨F3, wipeE env vs, env3, d, S2.ext x3, rd, h3, fun σ4 S4 i4 l4 e4 => ⟨?_, ?_⟩⟩
      · refine (wipe_eq (τ := wipe σ vs) (fun j hj => i4 j fun z => hj (hv j z)) l4).trans (wipe_eq (fun j hj => wipe_out hj) (wipe_length σ vs))
      split at h2'
      · cases h2'
      · rename_i ht
        refine ⟨F3, env3, false, S4, ht, fun H5 F5 x5 => iteF ⟨hlt, F5, acc, accD, rest, (S2.ext x3).ext x5, (s2.trans x3.ff).trans x5.ff, (x2.trans x3).trans x5, x5.hh _ _ (x3.hh _ _ hd2), x5.ex D (by rw [x3.hh _ _ hd2]; rfl) g3, RlA.mono (x3.ff.trans x5.ff) _ _ r2, h2', eo⟩⟩
      · rename_i ht
        refine ⟨F3, env3, true, S4, ht, fun H5 F5 x5 => iteT ?_⟩
        split at h2'
        · cases h2'
        rename_i w hw
        split at h2'
        · cases h2'
        rename_i rest' hr'
        cases h2'
        refine ⟨F5, env3, w, S4.ext x5, hw, fun y H6 F6 x6 hy6 => ?_⟩
        obtain ⟨F7, x7, r7, _⟩ := VR.demote x6 hy6
        have hd5 : H5 D = some (.lst acc) := x5.hh _ _ (x3.hh _ _ hd2)
        have g5 : F5 D = none := x5.ex D (by rw [x3.hh _ _ hd2]; rfl) g3
        have g7 : F7 D = none := x7.ex D (by rw [hd5]; rfl) g5
        have hl : acc.length = accD.length := r2.length
        have hlen : acc.length < sizeLine := by
          rw [eo] at hz
          simp at hz
          omega
        have xx : Ext F H F7 H6 := ((x2.trans x3).trans x5).trans x7
        refine ⟨acc, x7.hh _ _ hd5, hlen, hlt, F7, acc ++ [y], accD ++ [w.2], rest', (((S2.ext x3).ext x5).ext x7).updD g7 nown, ((s2.trans x3.ff).trans x5.ff).trans x7.ff, xx.updD hD0 g7, upd_same, g7, ?_, hr', by rw [eo]; simp⟩
        exact (RlA.mono ((x3.ff.trans x5.ff).trans x7.ff) _ _ r2).append (.cons r7 .nil)
    · refine .inl ⟨stop (by omega), k _ Hc G x2 ?_⟩
      have : ds.drop i = [] := List.drop_eq_nil_of_le (by omega)
      rw [this] at h2'
      cases h2'
      rw [List.append_nil] at eo
      subst eo
      exact ⟨D, _, rfl, hD0, g2, hd2, .lst r2⟩
  · cases hc
structure STs (X : Cx) (ifs : List Expr) (c : CT) : Prop where pe : PTs X ifs (tT X.kx c)
def cYes : CT := fun _ => some true
theorem sts_nil : STs X [] cYes := ⟨fun pins s σ H Q I h => pts_nil pins s σ H Q I (by
  obtain ⟨F, env, b, S, hc, k⟩ := h
  cases hc
  exact k H F (.refl S.sub))⟩
theorem sts_one {e : Expr} {c : CT} (h : STt X e c) : STs X [e] c := ⟨pts_one h.pe⟩
variable {elt tg iter : Expr} {ifs : List Expr} {scope : Scope} {own : List (Str × Nat)} {vs : List Nat} {pos : Pos} {ci : CI} {is : List Nat} {g : CG} {t : CT} {c : CE}
theorem se_lc (hc : X.calm = true) (hN : X.N.Nodup) (hi : SI X tg iter ci) (ok : BlkOk X.N X.env.scope scope own)
    (hg : ∀ (s : Shared) (H : Hp) (C : Addr) (cl : List (Str × Addr)) (fp : List Addr), SG (X.blk s H scope (compEnvC scope cl C X.env) fp) tg is g)
    (ht : ∀ (s : Shared) (H : Hp) (C : Addr) (cl : List (Str × Addr)) (fp : List Addr), STs (X.blk s H scope (compEnvC scope cl C X.env) fp) ifs t)
    (he : ∀ (s : Shared) (H : Hp) (C : Addr) (cl : List (Str × Addr)) (fp : List Addr), SE (X.blk s H scope (compEnvC scope cl C X.env) fp) elt c)
    (hvs : own.map (·.2) = vs := by rfl) (hv : ∀ i ∈ is, i ∈ vs := by decide) (hs : ∀ x, foldedSetIterable iter X.env x = pure x := by intro _; rfl) : SE X (.ListComp elt [⟨tg, iter, ifs, 0⟩] scope pos) (cLc ci g t c vs) := by
  subst hvs
  exact ⟨PE.mono (pe_lc hc hN hi.pe ok (fun s H C cl fp => (hg s H C cl fp).pe) (fun s H C cl fp => (ht s H C cl fp).pe) (fun s H C cl fp => (he s H C cl fp).pe) hs) fun σ H Q h => lc_read hv σ H Q h⟩
/-- y = [..] on one line -/
theorem ss_setLc (i : Nat) {y : Str} {py spos : Pos} (hc : X.calm = true) (hN : X.N.Nodup) (hy : X.N[i]? = some y) (hl : X.env.scope.names.lookup y = some .local)
    (hsw : swapsWith (.ListComp elt [⟨tg, iter, ifs, 0⟩] scope pos) (some (.Name y py)) spos.line X.env = pure true) (hi : SI X tg iter ci) (ok : BlkOk X.N X.env.scope scope own)
    (hg : ∀ (s : Shared) (H : Hp) (C : Addr) (cl : List (Str × Addr)) (fp : List Addr), SG (X.blk s H scope (compEnvC scope cl C X.env) fp) tg is g)
    (ht : ∀ (s : Shared) (H : Hp) (C : Addr) (cl : List (Str × Addr)) (fp : List Addr), STs (X.blk s H scope (compEnvC scope cl C X.env) fp) ifs t)
    (he : ∀ (s : Shared) (H : Hp) (C : Addr) (cl : List (Str × Addr)) (fp : List Addr), SE (X.blk s H scope (compEnvC scope cl C X.env) fp) elt c)
    (hvs : own.map (·.2) = vs := by rfl) (hv : ∀ i ∈ is, i ∈ vs := by decide) (hs : ∀ x, foldedSetIterable iter X.env x = pure x := by intro _; rfl) : SS X (.Assign [.Name y py] (.ListComp elt [⟨tg, iter, ifs, 0⟩] scope pos) spos) (cAsg i (cLc ci g t c vs)) := by
  subst hvs
  exact ss_of (PS.mono (ps_setLc hc hN hy hl hsw hi.pe ok (fun s H C cl fp => (hg s H C cl fp).pe) (fun s H C cl fp => (ht s H C cl fp).pe) (fun s H C cl fp => (he s H C cl fp).pe) hs) fun E σ H h => lc_read hv σ H _ h)
end
/-! ### a def -/
def startE (n : Nat) (ds : List D) : Env := ds.map (fun d => some (false, d)) ++ List.replicate (n - ds.length) none
def runF (n : Nat) (c : CS) : Fn := fun ds => match c (startE n ds) with
  | some (.rt r) => some r
  | some (.nx _) => some (false, .non)
  | _ => none
theorem startE_get {n : Nat} {ds : List D} {i : Nat} {b : Bool} {d : D} (h : (startE n ds)[i]? = some (some (b, d))) : b = false ∧ ds[i]? = some d := by
  unfold startE at h
  by_cases hi : i < ds.length
  · rw [List.getElem?_append_left (by simpa using hi), List.getElem?_map] at h
    cases q : ds[i]? with
    | none => rw [q] at h; cases h
    | some e => rw [q] at h; cases h; exact ⟨rfl, rfl⟩
  · rw [List.getElem?_append_right (by simpa using hi), List.getElem?_replicate] at h
    split at h <;> cases h
theorem srel_start {K : KX} {F H : Hp} {N : List Str} {vs : List V} {ds : List D} (sub : Same F H) (r : RlA K F vs ds) : SRel K F (start N vs) H (startE N.length ds) where
  len := by simp [start, startE, r.length]
  sub := sub
  sh := fun i d e => by
    obtain ⟨_, h⟩ := startE_get e
    obtain ⟨v, h1, h2⟩ := r.get h
    refine ⟨v, ?_, h2⟩
    have hi : i < vs.length := by
      rcases Nat.lt_or_ge i vs.length with hl | hl
      · exact hl
      · rw [List.getElem?_eq_none hl] at h1; cases h1
    unfold start
    rw [List.getElem?_append_left (by simpa using hi), List.getElem?_map, h1]
    rfl
  ow := fun i d e => by
    obtain ⟨h, _⟩ := startE_get e
    cases h
  inj := fun i j d e p h => by
    obtain ⟨h, _⟩ := startE_get h
    cases h
theorem fnok {P : Program} {w : World} {K : PySem.W.Frag} {mg : Str → Option Value} {base : Heap} {x qual : Str} {st : Stmt} {f : Addr} {fd : FuncData} {N ps : List Str} {k : Nat} {c : CS} (F : Fun K x qual st f fd) (S : FnScope N ps (defScope st))
    (body : ∀ (cdv : Value) (A : Around) (outer : List PySem.Env) (s : Shared) (H : Hp) (E : XK), Room k (A.deeper (envOfC qual (defScope st) s.heap.objs.size f cdv)) → SSs (cxOf CX0 P w K mg base N qual (defScope st) f cdv A outer s H E).nox (defBody st) c) :
    FnOk P w K mg base CX0 (k + 1) f fd ps (spF ⟨K, P, w⟩ ps.length (runF N.length c)) := by
  refine F.ok S (fun vs H Q E h => h.1) (fun cdv A outer s H vs Q E hr h => ?_)
  refine ⟨_, (body cdv A outer s H E hr).pe, ?_⟩
  obtain ⟨_, F0, ds, r, sub, ra, hg, k⟩ := h
  have S0 := srel_start (N := N) sub ra
  have E0 : Ent F0 H F0 F0 H (start N vs) (startE N.length ds) := ⟨.refl sub, .refl _, fun i d p e => by
    obtain ⟨h, _⟩ := startE_get e
    cases h⟩
  unfold runF at hg
  split at hg
  · rename_i r' h1
    cases hg
    exact ⟨F0, H, F0, F0, _, _, S0, E0, h1, fun v H' F' x hv => k v H' F' x hv⟩
  · rename_i e' h1
    cases hg
    exact ⟨F0, H, F0, F0, _, _, S0, E0, h1, fun σ' H' F' S' E' => k _ H' F' E'.ext .non⟩
  · cases hg
theorem fok {P : Program} {w : World} {K : PySem.W.Frag} {mg : Str → Option Value} {base : Heap} {x qual : Str} {st : Stmt} {f : Addr} {fd : FuncData} {N ps : List Str} {k : Nat} {c : CS} (F : Fun K x qual st f fd) (S : FnScope N ps (defScope st)) (hm : mg x = some (.ref f)) (hb : Binds K fd ps [])
    (body : ∀ (cdv : Value) (A : Around) (outer : List PySem.Env) (s : Shared) (H : Hp) (E : XK), Room k (A.deeper (envOfC qual (defScope st) s.heap.objs.size f cdv)) → SSs (cxOf CX0 P w K mg base N qual (defScope st) f cdv A outer s H E).nox (defBody st) c) :
    FOk P w K mg base (k + 1) x ps.length (runF N.length c) := ⟨f, fd, ps, fnok F S body, hm, F.kp, hb⟩
theorem FOk.up {P : Program} {w : World} {K : PySem.W.Frag} {mg : Str → Option Value} {base : Heap} {x : Str} {j k n : Nat} {g : Fn} (h : FOk P w K mg base j x n g) (hk : j ≤ k) : FOk P w K mg base k x n g := by
  obtain ⟨f, fd, ps, F1, F2⟩ := h.ex
  exact ⟨f, fd, ps, F1.mono hk, F2⟩
/-- the law's own promise -/
theorem law_sp {K : KX} {g : Fn} {H : Hp} {a : Addr} {ns : List Int} {r : Bool} (hS : SqL K.K H a (ns.map V.int)) (hg : g [.lst (ns.map D.int)] = some (r, .bl true)) : spF K 1 g [.ref a] H (fun v _ => v = .bl true) fun _ _ _ => False :=
  ⟨rfl, H, _, _, .refl _, .cons (.lst hS (RlA.of_ints ns)) .nil, hg, fun v H' F' x hv => hv.bl⟩
end L2.EV

set_option Elab.async false
set_option linter.all false
set_option maxRecDepth 100000
set_option maxHeartbeats 4000000
namespace L2.EV
open PySem PySem.Spec PyProof.Rows
/-! ### built-in functions -/
def CallD (X : Cx) (f : Value) (g : Fn) : Prop := CallR X f fun vs H Q => ∃ F ds r, Same F H ∧ PkA X.kx F H vs ds ∧ g ds = some r ∧ ∀ v H' F', Ext F H F' H' → VR X.kx H F' H' v r → Q v H'
section
variable {X : Cx} {x : Str} {p pos : Pos} {e a b : Expr} {es : List Expr}
theorem cb_read {K : KX} {g : Fn} {c : CA} (σ : St) (H : Hp) (Q : VK) (h : tE K (cCall g c) σ H Q) :
    tCB (fun vs H Q => ∃ F ds r, Same F H ∧ PkA K F H vs ds ∧ g ds = some r ∧ ∀ v H' F', Ext F H F' H' → VR K H F' H' v r → Q v H') (tAP K c) σ H Q := by
  obtain ⟨F, env, r, S, hc, k⟩ := h
  unfold cCall at hc
  split at hc
  · rename_i ds h1
    exact ⟨F, env, ds, S, h1, fun vs H' F' x hv => ⟨F', ds, r, x.sub, hv, hc, fun v H2 F2 x2 q => k v H2 F2 (x.trans x2) (q.older x.hh)⟩⟩
  · cases hc
theorem se_callB {id : String} {g : Fn} {c : CA} (r : CallD X (.builtin id) g) (hg : Gl X x) (hm : X.mg x = none) (hv : bootBuiltins x = some (.builtin id)) (h : SAP X (e :: es) c) (hn : x ≠ "__name__" := by decide) (hdb : (x == ("__debug__" : Str)) = false := by decide)
    (he : starEach (e :: es) X.env = (false, eval e X.env) :: starEach es X.env := by rfl) (hpl : (backTo pos (starEach es X.env)).any (·.1) = false := by rfl) : SE X (.Call (.Name x p) (e :: es) [] pos) (cCall g c) :=
  ⟨PE.mono (pe_callB r hg hm hv h.pe hn hdb he hpl) fun σ H Q h => cb_read σ H Q h⟩
theorem se_callTy {T : String} {g : Fn} {c : CA} (r : CallD X (.type T) g) (hg : Gl X x) (hm : X.mg x = none) (hv : bootBuiltins x = some (.type T)) (h : SAP X (e :: es) c) (hn : x ≠ "__name__" := by decide) (hdb : (x == ("__debug__" : Str)) = false := by decide)
    (he : starEach (e :: es) X.env = (false, eval e X.env) :: starEach es X.env := by rfl) (hpl : (backTo pos (starEach es X.env)).any (·.1) = false := by rfl) : SE X (.Call (.Name x p) (e :: es) [] pos) (cCall g c) :=
  ⟨PE.mono (pe_callTy r hg hm hv h.pe hn hdb he hpl) fun σ H Q h => cb_read σ H Q h⟩
theorem PkA.one {K : KX} {F H : Hp} {vs : List V} {d : D} (h : PkA K F H vs [d]) : ∃ v, vs = [v] ∧ Pk K F H v d := by
  cases h with
  | cons h t => cases t; exact ⟨_, rfl, h⟩
theorem PkA.two {K : KX} {F H : Hp} {vs : List V} {d e : D} (h : PkA K F H vs [d, e]) : ∃ v w, vs = [v, w] ∧ Pk K F H v d ∧ Pk K F H w e := by
  cases h with
  | cons h t => cases t with
    | cons h2 t => cases t; exact ⟨_, _, rfl, h, h2⟩
def fLen : Fn
  | [.lst ds] => some (false, .int ds.length)
  | [.tup ds] => some (false, .int ds.length)
  | [.str z] => if z.length ≤ sizeLine then some (false, .int z.length) else none
  | _ => none
theorem cd_len : CallD X (.builtin "len") fLen := by
  rintro pins s σ H vs us Q I r ⟨F, ds, z, sub, pk, hg, k⟩
  unfold fLen at hg
  split at hg
  · cases hg
    obtain ⟨v, rfl, pv⟩ := pk.one
    obtain ⟨a, ws, rfl, ha, ra⟩ := pv.lst sub
    exact call_len_seq pins s σ H _ us Q I r ⟨a, ws, rfl, .inl ha, by rw [ra.length]; exact k _ H F (.refl sub) (.int _)⟩
  · cases hg
    obtain ⟨v, rfl, pv⟩ := pk.one
    obtain ⟨a, ws, rfl, ha, ra⟩ := pv.tup sub
    exact call_len_seq pins s σ H _ us Q I r ⟨a, ws, rfl, .inr ha, by rw [ra.length]; exact k _ H F (.refl sub) (.int _)⟩
  · split at hg
    · rename_i hz
      cases hg
      obtain ⟨v, rfl, pv⟩ := pk.one
      cases pv.str
      exact call_len_str pins s σ H _ us Q I r ⟨_, rfl, hz, k _ H F (.refl sub) (.int _)⟩
    · cases hg
  · cases hg
def fAbs : Fn
  | [.int i] => some (false, .int (if i < 0 then -i else i))
  | _ => none
theorem cd_abs : CallD X (.builtin "abs") fAbs := by
  rintro pins s σ H vs us Q I r ⟨F, ds, z, sub, pk, hg, k⟩
  unfold fAbs at hg
  split at hg
  · cases hg
    obtain ⟨v, rfl, pv⟩ := pk.one
    cases pv.int
    exact call_abs pins s σ H _ us Q I r ⟨_, rfl, k _ H F (.refl sub) (.int _)⟩
  · cases hg
def intsOf : List D → Option (List Int)
  | [] => some []
  | .int i :: r => (intsOf r).map (i :: ·)
  | _ :: _ => none
theorem intsOf_eq : ∀ {ds : List D} {ns : List Int}, intsOf ds = some ns → ds = ns.map D.int
  | [], _, h => by cases h; rfl
  | d :: r, ns, h => by
    cases d <;> try (cases h; done)
    unfold intsOf at h
    cases q : intsOf r with
    | none => rw [q] at h; cases h
    | some ms => rw [q] at h; cases h; rw [intsOf_eq q]; rfl
theorem intsOf_map : ∀ (ns : List Int), intsOf (ns.map D.int) = some ns
  | [] => rfl
  | n :: ns => by show (intsOf (ns.map D.int)).map (n :: ·) = _; rw [intsOf_map ns]; rfl
def maxL : List Int → Int
  | [] => 0
  | [i] => i
  | i :: r => if i < maxL r then maxL r else i
def minL : List Int → Int
  | [] => 0
  | [i] => i
  | i :: r => if maxL r < i then i else i
def fMax : Fn
  | [.int i, .int j] => some (false, .int (if j > i then j else i))
  | _ => none
def fMin : Fn
  | [.int i, .int j] => some (false, .int (if j < i then j else i))
  | _ => none
theorem cd_max2 (hc : X.calm = true) : CallD X (.builtin "max") fMax := by
  rintro pins s σ H vs us Q I r ⟨F, ds, z, sub, pk, hg, k⟩
  unfold fMax at hg
  split at hg
  · cases hg
    obtain ⟨v, w, rfl, pv, pw⟩ := pk.two
    cases pv.int
    cases pw.int
    exact call_max2 hc pins s σ H _ us Q I r ⟨_, _, rfl, k _ H F (.refl sub) (.int _)⟩
  · cases hg
theorem cd_min2 (hc : X.calm = true) : CallD X (.builtin "min") fMin := by
  rintro pins s σ H vs us Q I r ⟨F, ds, z, sub, pk, hg, k⟩
  unfold fMin at hg
  split at hg
  · cases hg
    obtain ⟨v, w, rfl, pv, pw⟩ := pk.two
    cases pv.int
    cases pw.int
    exact call_min2 hc pins s σ H _ us Q I r ⟨_, _, rfl, k _ H F (.refl sub) (.int _)⟩
  · cases hg
/-! ### isinstance of a built-in class -/
def tyD : D → String
  | .non => "NoneType" | .bl _ => "bool" | .int _ => "int" | .str _ => "str" | .tup _ => "tuple" | .lst _ => "list" | .dct _ _ => "dict"
def isD (T : String) : D → Bool
  | .non => T == "NoneType" | .bl _ => T == "bool" || T == "int" | .int _ => T == "int" | .str _ => T == "str" | .tup _ => T == "tuple" | .lst _ => T == "list" | .dct _ _ => T == "dict"
def cIsI (T : String) (c : CP) : CE := fun env => (c env).map fun d => (false, .bl (isD T d))
theorem isinst {T : String} (hk : ∀ K d, PySem.W.kitOne K (.type (tyD d)) (.type T) = some (isD T d)) {pins : List (Addr × Obj)} {s : Shared} {σ : St} {H F : Hp} {v : V} {u : Value} {d : D} {Q : VK} (I : Inv X pins σ H s) (r : RelV v u) (sub : Same F H) (pk : Pk X.kx F H v d) (q : Q (.bl (isD T d)) H) :
    wpAny (model X.prog X.w) X.A (call (.builtin "isinstance") [u, .type T]) (EP X pins σ Q) X.xe s := by
  have fin : ∀ tk, EP X pins σ Q (.bool (isD T d)) { s with toks := tk } := fun tk => ⟨.bl (isD T d), H, I.tok _, rfl, q⟩
  have kk := hk X.K d
  cases d with
  | non => cases pk.non; cases (show u = Value.none from r); exact PySem.W.kia_one PySem.W.kitx_none I.kIn True.intro kk (fun z => nomatch z) fin
  | bl y => cases pk.bl; cases (show u = Value.bool y from r); exact PySem.W.kia_one PySem.W.kitx_bool I.kIn True.intro kk (fun z => nomatch z) fin
  | int i => cases pk.int; obtain ⟨t, q⟩ := (show ∃ t, u = Value.int i t from r); cases q; exact PySem.W.kia_one PySem.W.kitx_int I.kIn True.intro kk (fun z => nomatch z) fin
  | str y => cases pk.str; obtain ⟨t, q⟩ := (show ∃ t, u = Value.str y t from r); cases q; exact PySem.W.kia_one PySem.W.kitx_str I.kIn True.intro kk (fun z => nomatch z) fin
  | tup ds =>
    obtain ⟨a, ws, rfl, ha, ra⟩ := pk.tup sub
    cases (show u = Value.ref a from r)
    obtain ⟨its, r1, ⟨o, h1, h2, _⟩, _⟩ := I.tuple ha
    exact PySem.W.kia_one PySem.W.kitx_tuple I.kIn ⟨o, h1, h2⟩ kk (fun z => nomatch z) fin
  | lst ds =>
    obtain ⟨a, ws, rfl, ha, ra⟩ := pk.lst sub
    cases (show u = Value.ref a from r)
    obtain ⟨its, r1, ⟨o, n, h1, h2, _⟩, _⟩ := I.list ha
    exact PySem.W.kia_one PySem.W.kitx_list I.kIn ⟨o, h1, h2⟩ kk (fun z => nomatch z) fin
  | dct ks ds =>
    obtain ⟨a, es, rfl, ha, ra⟩ := pk.dct sub
    cases (show u = Value.ref a from r)
    obtain ⟨⟨_, _, xs, _, o, en, ep, h1, h2, _⟩, _⟩ := (show ObjOk X.prog X.w H s.heap a (.ext _) from I.hok a _ ha)
    exact PySem.W.kia_one PySem.W.kitx_dict I.kIn ⟨o, h1, h2.1⟩ kk (fun z => nomatch z) fin
theorem se_isI {T : String} {y : Str} {py : Pos} {c : CP} (hk : ∀ K d, PySem.W.kitOne K (.type (tyD d)) (.type T) = some (isD T d)) (hg : Gl X "isinstance") (hm : X.mg "isinstance" = none) (hg2 : Gl X y) (hm2 : X.mg y = none) (hv : bootBuiltins y = some (.type T)) (h : SP X e c)
    (hst : starEach [e, .Name y py] X.env = (false, eval e X.env) :: starEach [.Name y py] X.env := by rfl) (hn : y ≠ "__name__" := by decide) (hd : (y == ("__debug__" : Str)) = false := by decide) : SE X (.Call (.Name "isinstance" p) [e, .Name y py] [] pos) (cIsI T c) := by
  have r : CallR X (.builtin "isinstance") (fun vs H Q => ∃ v F d, vs = [v, V.ty T] ∧ Same F H ∧ Pk X.kx F H v d ∧ Q (.bl (isD T d)) H) := by
    rintro pins s σ H vs us Q I r ⟨v, F, d, rfl, sub, pk, q⟩
    cases r with
    | cons r1 r2 => cases r2 with
      | cons r2 r3 =>
        cases r3
        cases (show _ = Value.type T from r2)
        exact isinst hk I r1 sub pk q
  refine ⟨PE.mono (pe_callB r hg hm (by decide +kernel) (pa_cons h.pe (pa_cons (pe_bltn (v := .ty T) hg2 hm2 hv rfl hn hd) pa_nil) hst) (by decide) (by decide) hst rfl) fun σ H Q ⟨F, env, r, S, hc, k⟩ => ?_⟩
  unfold cIsI at hc
  cases q : c env with
  | none => rw [q] at hc; cases hc
  | some d =>
    rw [q] at hc
    cases hc
    exact ⟨F, env, d, S, q, fun v H' F' x pv => ⟨v, F', d, rfl, x.sub, pv, k _ H' F' x (Rl.bl _)⟩⟩
/-! ### items -/
def dIx : G2
  | .lst ds, .int i => (atI ds i).map fun d => (false, d)
  | .tup ds, .int i => (atI ds i).map fun d => (false, d)
  | .str z, .int i => if z.length ≤ sizeLine then (atI z.cps.toList i).map fun c => (false, .str ⟨#[c]⟩) else none
  | _, _ => none
theorem RlA.at {K : KX} {F : Hp} {vs : List V} {ds : List D} {i : Int} {d : D} (r : RlA K F vs ds) (h : atI ds i = some d) : ∃ v, atI vs i = some v ∧ Rl K F v d := by
  unfold atI at h ⊢
  rw [r.length]
  cases q : ixN ds.length i with
  | none => rw [q] at h; cases h
  | some j =>
    rw [q] at h
    exact r.get h
theorem se_ix {ca cb : CP} (ha : SP X a ca) (hb : SP X b cb) (hp : PlainIx b := by intro _ _; rfl) : SE X (.Subscript a b pos) (cBin dIx ca cb) := ⟨PE.mono (pe_ix ix_seq ha.pe hb.pe hp) fun σ H Q h => by
  have h := tOp_bin (K := X.kx) σ H Q h
  obtain ⟨F, env, d, S, h1, k⟩ := h
  refine ⟨F, env, d, S, h1, fun v1 H1 F1 x1 p1 => ?_⟩
  obtain ⟨F', env', e, S', h2, k'⟩ := k v1 H1 F1 x1 p1
  refine ⟨F', env', e, S', h2, fun v2 H2 F2 x2 p2 => ?_⟩
  obtain ⟨F3, d3, e3, r, sub, q1, q2, hg, k3⟩ := k' v2 H2 F2 x2 p2
  unfold dIx at hg
  split at hg
  · rename_i ds i
    cases q : atI ds i with
    | none => rw [q] at hg; cases hg
    | some d =>
      rw [q] at hg
      cases hg
      obtain ⟨a, ws, rfl, ha, ra⟩ := q1.lst sub
      obtain ⟨w, h4, h5⟩ := ra.at q
      exact .inl ⟨a, ws, i, w, rfl, q2.int, ha, h4, k3 w H2 F3 (.refl sub) h5⟩
  · rename_i ds i
    cases q : atI ds i with
    | none => rw [q] at hg; cases hg
    | some d =>
      rw [q] at hg
      cases hg
      obtain ⟨a, ws, rfl, ha, ra⟩ := q1.tup sub
      obtain ⟨w, h4, h5⟩ := ra.at q
      exact .inr (.inl ⟨a, ws, i, w, rfl, q2.int, ha, h4, k3 w H2 F3 (.refl sub) h5⟩)
  · rename_i z i
    split at hg
    · rename_i hz
      cases q : atI z.cps.toList i with
      | none => rw [q] at hg; cases hg
      | some c =>
        rw [q] at hg
        cases hg
        cases q1.str
        exact .inr (.inr ⟨z, i, c, rfl, q2.int, hz, q, k3 _ H2 F3 (.refl sub) (.str _)⟩)
    · cases hg
  · cases hg⟩
/-! ### equal, unlike -/
def vS : D → Option V
  | .non => some .non | .bl b => some (.bl b) | .int i => some (.int i) | .str x => some (.str x) | _ => none
mutual
def toPy : D → PyData
  | .non => .none | .bl b => .bool b | .int i => .int i | .str x => .str x | .tup ds => .tuple (toPys ds) | .lst ds => .list (toPys ds) | .dct _ _ => .dict []
def toPys : List D → List PyData
  | [] => []
  | d :: ds => toPy d :: toPys ds
end
mutual
theorem Rl.dp {K : KX} {H : Hp} : ∀ (d : D) (v : V), (toPy d).canLay0 = true → Rl K H v d → Dp K.K H v (toPy d)
  | .non, _, _, h => by cases h; exact .non
  | .bl _, _, _, h => by cases h; exact .bl _
  | .int _, _, _, h => by cases h; exact .int _
  | .str _, _, _, h => by cases h; exact .str _
  | .tup ds, _, c, h => by
    cases h with
    | tup h1 h2 => exact .tup h1 (RlA.dp ds _ c h2)
  | .lst ds, _, c, h => by
    cases h with
    | lst h1 h2 => exact .lst h1 (RlA.dp ds _ c h2)
  | .dct _ _, _, c, _ => by cases c
theorem RlA.dp {K : KX} {H : Hp} : ∀ (ds : List D) (vs : List V), PyData.canLayAll0 (toPys ds) = true → RlA K H vs ds → DpAll K.K H vs (toPys ds)
  | [], _, _, h => by cases h; exact .nil
  | d :: ds, _, c, h => by
    cases h with
    | cons h1 h2 =>
      have c : ((toPy d).canLay0 && PyData.canLayAll0 (toPys ds)) = true := c
      rw [Bool.and_eq_true] at c
      exact .cons (Rl.dp d _ c.1 h1) (RlA.dp ds _ c.2 h2)
end
def eqD (a b : D) : Option Bool := match a, b with
  | .int a, .int b => some (decide (a = b))
  | .str a, .str b => some (decide (a = b))
  | .bl a, .bl b => some (decide (a = b))
  | a, b => if SeqAt.shaped (toPy a) && SeqAt.shaped (toPy b) then some (PyData.eqv (toPy a) (toPy b)) else none
def dEq : G2 := fun a b => (eqD a b).map fun b => (false, .bl b)
def dNe : G2 := fun a b => (eqD a b).map fun b => (false, .bl (!b))
theorem od_eq (hu : X.A.units + 64 < cLine) : OpD X (compareOp .Eq) dEq := opD fun pins s σ H F x y v u Q d e r I rx ry sub px py hr k => by
  unfold dEq at hr
  cases q : eqD d e with
  | none => rw [q] at hr; cases hr
  | some bb =>
    rw [q] at hr
    cases hr
    have fin := k (.bl bb) H F (.refl sub) (Rl.bl _)
    unfold eqD at q
    split at q
    · cases q
      cases px.int
      cases py.int
      exact op_eq pins s σ H _ _ v u Q I rx ry ⟨rfl, by simpa [dec_int] using fin⟩
    · cases q
      cases px.str
      cases py.str
      exact op_eq pins s σ H _ _ v u Q I rx ry ⟨rfl, by simpa using fin⟩
    · cases q
      cases px.bl
      cases py.bl
      exact op_eq pins s σ H _ _ v u Q I rx ry ⟨rfl, by simpa using fin⟩
    · split at q
      · rename_i hz
        cases q
        rw [Bool.and_eq_true] at hz
        exact op_eqD hu pins s σ H x y v u Q I rx ry ⟨_, _, Rl.dp d x (SeqAt.canLay_of_shaped hz.1) (px.rl sub), Rl.dp e y (SeqAt.canLay_of_shaped hz.2) (py.rl sub), hz.1, hz.2, fin⟩
      · cases q
theorem od_ne (hu : X.A.units + 64 < cLine) : OpD X (compareOp .NotEq) dNe := opD fun pins s σ H F x y v u Q d e r I rx ry sub px py hr k => by
  unfold dNe at hr
  cases q : eqD d e with
  | none => rw [q] at hr; cases hr
  | some bb =>
    rw [q] at hr
    cases hr
    have fin := k (.bl !bb) H F (.refl sub) (Rl.bl _)
    unfold eqD at q
    split at q
    · cases q
      cases px.int
      cases py.int
      exact op_ne pins s σ H _ _ v u Q I rx ry ⟨rfl, by simpa [dec_int] using fin⟩
    · cases q
      cases px.str
      cases py.str
      exact op_ne pins s σ H _ _ v u Q I rx ry ⟨rfl, by simpa using fin⟩
    · cases q
      cases px.bl
      cases py.bl
      exact op_ne pins s σ H _ _ v u Q I rx ry ⟨rfl, by simpa using fin⟩
    · split at q
      · rename_i hz
        cases q
        rw [Bool.and_eq_true] at hz
        exact op_neD hu pins s σ H x y v u Q I rx ry ⟨_, _, Rl.dp d x (SeqAt.canLay_of_shaped hz.1) (px.rl sub), Rl.dp e y (SeqAt.canLay_of_shaped hz.2) (py.rl sub), hz.1, hz.2, fin⟩
      · cases q
theorem kit_int : ∀ K d, PySem.W.kitOne K (.type (tyD d)) (.type "int") = some (isD "int" d) := by intro K d; cases d <;> rfl
theorem kit_bool : ∀ K d, PySem.W.kitOne K (.type (tyD d)) (.type "bool") = some (isD "bool" d) := by intro K d; cases d <;> rfl
theorem kit_list : ∀ K d, PySem.W.kitOne K (.type (tyD d)) (.type "list") = some (isD "list" d) := by intro K d; cases d <;> rfl
theorem kit_tuple : ∀ K d, PySem.W.kitOne K (.type (tyD d)) (.type "tuple") = some (isD "tuple" d) := by intro K d; cases d <;> rfl
theorem kit_str : ∀ K d, PySem.W.kitOne K (.type (tyD d)) (.type "str") = some (isD "str" d) := by intro K d; cases d <;> rfl
theorem kit_dict : ∀ K d, PySem.W.kitOne K (.type (tyD d)) (.type "dict") = some (isD "dict" d) := by intro K d; cases d <;> rfl
end
end L2.EV

set_option Elab.async false
set_option linter.all false
set_option maxRecDepth 100000
set_option maxHeartbeats 4000000
namespace L2.EV
open PySem PySem.Spec PyProof.Rows
/-! ### *a, b = t -/
section
variable {prog : Program} {w : World} {A : Around} {E : Value → Shared → Prop} {s : Shared}
theorem starT {l : Addr} {items : Array Value} {n i : Nat} {Q : List Value → Shared → Prop} (hl : IsTup s.heap l items) (hh : A.handled = none) (hi : i < n) (hn : n ≤ items.size + 1) (hz : items.size ≤ sizeLine)
    (h : ∀ (h₂ : Heap) (tk : Nat), (∀ b o, s.heap.get? b = some o → h₂.get? b = some o) → Q (items.toList.take i ++ [.ref h₂.objs.size] ++ (items.toList.drop i).drop (items.size + 1 - n)) { s with heap := h₂.push { cls := .type "list", data := .seq ((items.toList.drop i).take (items.size + 1 - n)).toArray }, toks := tk }) :
    wpAny (model prog w) A (unpackItems (.ref l) n (some i)) Q E s := by
  have hlt : l ≠ s.heap.objs.size := by obtain ⟨o, ho, _⟩ := hl; exact Nat.ne_of_lt (Heap.lt_size ho)
  have hll : l < s.heap.objs.size := by obtain ⟨o, ho, _⟩ := hl; exact Heap.lt_size ho
  unfold unpackItems
  refine wpAny_bind ?_
  unfold notIterableAtAll
  refine wpAny_bind (wpAny_specialOf hl.typeIs slot_tuple_iter.lookup ?_)
  refine wpAny_pure ?_
  simp only [Bool.false_eq_true, if_false]
  refine wpAny_bind (wpAny_holding (iter_tuple hl ?_))
  refine wpAny_bind (wpAny_holding (draw_tuple hlt i 0 _ _ ⟨_, Heap.get?_push_size _ rfl, rfl, rfl⟩ (hl.push _) (by omega) fun h₁ hit₁ hs₁ => ?_))
  have hl₁ : IsTup h₁ l items := (hl.push _).extBut hs₁.extBut hlt
  rw [Nat.zero_add] at hit₁
  have hit₁' := hit₁
  obtain ⟨oi, hoi, _⟩ := hit₁'
  have hl₁' := hl₁
  obtain ⟨ol, hol, _⟩ := hl₁'
  rw [List.drop_zero]
  have hfl : (items.toList.take i).length = i := by rw [List.length_take, Array.length_toList]; omega
  rw [if_neg (show ¬ ((items.toList.take i).length < i) by rw [hfl]; omega)]
  refine wpAny_bind (wpAny_holding (PySem.W.kun_collect (s := { s with heap := h₁ }) (T := "tuple_iterator") (.inr (.inr (.inr rfl))) (Walks.tuple (A := A.in1) hh s.heap.objs.size l hlt items) (fun j u st => st.1.typeIs) (k := i) (by omega) ⟨hit₁, hl₁⟩ (Heap.lt_size hoi) (Heap.lt_size hol) (fun h₂ tk hk => ?_) hz))
  have hrl : (items.toList.drop i).length = items.size - i := by rw [List.length_drop, Array.length_toList]
  have hmid : (items.toList.drop i).length - (n - 1 - i) = items.size + 1 - n := by rw [hrl]; omega
  show wpAny _ _ (if (items.toList.drop i).length < n - 1 - i then _ else _) _ _ _
  rw [if_neg (by rw [hrl]; omega)]
  show wpAny _ _ (newList ((items.toList.drop i).take ((items.toList.drop i).length - (n - 1 - i))) >>= fun d => pure (items.toList.take i ++ [d] ++ (items.toList.drop i).drop ((items.toList.drop i).length - (n - 1 - i)))) _ _ _
  rw [hmid]
  refine wpAny_bind (wpAny_newObj_type (wpAny_pure (h h₂ tk fun b o e => ?_)) (by show _ ≤ _; rw [List.size_toArray, List.length_take, hrl]; omega))
  exact hk b o (Nat.ne_of_lt (Heap.lt_size e)) (hs₁.extBut b o (Nat.ne_of_lt (Heap.lt_size e)) (Heap.get?_push_of_some _ e))
end
section
variable {X : Cx} {pos : Pos} {e : Expr}
def gStar (K : PySem.W.Frag) (i j : Nat) : TG := fun v σ H Q => ∃ a xs y, v = .ref a ∧ SqT K H a (xs ++ [y]) ∧ ∀ p, H p = none → Q ((σ.set i (some (.ref p))).set j (some y)) (upd H p (.lst xs))
theorem pg_star {i j : Nat} {t u : Expr} {elts : List Expr} {k : Nat} (hc : X.calm = true) (h : PGs X [t, u] (gCons (gName i) (gCons (gName j) gNil))) (hm : (assignEach elts X.env).map (·.2) = (assignEach [t, u] X.env).map (·.2)) (hlen : (assignEach elts X.env).length = 2) (hst : (assignEach elts X.env).findIdx? (·.1) = some 0) :
    PG X (.Tuple elts k pos) (gStar X.K i j) := by
  intro pins s σ H v uv Q I r hw
  obtain ⟨a, xs, y, rfl, hq, hw⟩ := hw
  cases r
  obtain ⟨its, rv, ht, hz⟩ := I.tuple hq
  rw [assign_Tuple]
  refine wpAny_bind (wpAny_standAt ?_)
  unfold unpack
  rw [hlen, hst, hm]
  have hl : its.length = xs.length + 1 := by rw [← rv.length]; simp
  have hl' : its.toArray.size = xs.length + 1 := by rw [List.size_toArray]; exact hl
  refine wpAny_bind (wpAny_holding (starT ht (I.ok.hd hc) (by decide) (by omega) (by rw [hl']; simpa using hz) fun h₂ tk hk => ?_))
  have e1 : its.toArray.size + 1 - 2 = xs.length := by omega
  have I2 : Inv X pins σ H { s with heap := h₂ } := I.kept (t' := s.toks) hk
  obtain ⟨us, z, rfl⟩ : ∃ us z, its = us ++ [z] := by
    have hne : its ≠ [] := by intro q; rw [q] at hl; simp at hl
    exact ⟨its.dropLast, its.getLast hne, (List.dropLast_concat_getLast hne).symm⟩
  have hus : us.length = xs.length := by simpa using hl
  have rx : Vals xs us := by
    have := rv.take xs.length
    simpa [hus] using this
  have ry : RelV y z := by
    obtain ⟨q, hq1, hq2⟩ := rv.get (i := xs.length) (x := y) (by simp)
    rw [show (us ++ [z])[xs.length]? = some z by rw [← hus]; simp] at hq1
    cases hq1
    exact hq2
  have hz' : xs.length ≤ sizeLine := by simp at hz; omega
  have I3 := I2.lnew (t' := tk) rx hz'
  have hf : H h₂.objs.size = none := I2.fresh
  have := h pins _ σ _ [.ref h₂.objs.size, y] [.ref h₂.objs.size, z] Q I3 (.cons rfl (.cons ry .nil)) ⟨_, _, rfl, _, _, rfl, rfl, hw _ hf⟩
  rw [e1]
  simp only [List.take_zero, List.drop_zero, List.nil_append]
  have e2 : (us ++ [z]).toArray.toList.take xs.length = us := by simp [hus]
  have e3 : (us ++ [z]).toArray.toList.drop xs.length = [z] := by simp [← hus]
  rw [e2, e3]
  exact this
def cStar (i j : Nat) (c : CE) : CS := fun env => match c env with
  | some (_, .tup ds) => match ds.getLast? with
    | some d => some (.nx ((env.set i (some (true, .lst ds.dropLast))).set j (some (false, d))))
    | none => none
  | _ => none
theorem RlA.snoc {K : KX} {F : Hp} {vs : List V} {ds : List D} {d : D} (h : RlA K F vs ds) (hd : ds.getLast? = some d) : ∃ ws w, vs = ws ++ [w] ∧ RlA K F ws ds.dropLast ∧ Rl K F w d := by
  have hne : ds ≠ [] := by intro q; subst q; cases hd
  have hl := h.length
  have hv : vs ≠ [] := by intro q; subst q; simp at hl; exact hne (by simpa using hl.symm)
  refine ⟨vs.dropLast, vs.getLast hv, (List.dropLast_concat_getLast hv).symm, ?_, ?_⟩
  · rw [List.dropLast_eq_take, List.dropLast_eq_take, hl]; exact h.take _
  · obtain ⟨w, h1, h2⟩ := h.get (i := ds.length - 1) (d := d) (by rw [← List.getLast?_eq_getElem?]; exact hd)
    rw [← hl, ← List.getLast?_eq_getElem?, List.getLast?_eq_some_getLast hv] at h1
    cases h1
    exact h2
theorem ss_star {i j : Nat} {t u : Expr} {elts : List Expr} {k : Nat} {pt : Pos} {c : CE} (hc : X.calm = true) (h : PGs X [t, u] (gCons (gName i) (gCons (gName j) gNil))) (he : SE X e c)
    (hm : (assignEach elts X.env).map (·.2) = (assignEach [t, u] X.env).map (·.2) := by rfl) (hlen : (assignEach elts X.env).length = 2 := by rfl) (hst : (assignEach elts X.env).findIdx? (·.1) = some 0 := by rfl)
    (hs : swapsWithSole [.Tuple elts k pt] e pos.line X.env = pure false := by rfl) (hw : swappedStores [.Tuple elts k pt] e X.env = pure none := by rfl) (h1 : (assignEach [.Tuple elts k pt] X.env).map (·.2) = [assign (.Tuple elts k pt) X.env] := by rfl) :
    SS X (.Assign [.Tuple elts k pt] e pos) (cStar i j c) := ⟨PS.mono (ps_asg he.pe (pg_star hc h hm hlen hst) hs hw h1) fun E σ H ⟨F0, H0, B, F, env, o, S, en, hc, k⟩ => by
  unfold cStar at hc
  split at hc
  · rename_i fr ds h1
    split at hc
    · rename_i d h2
      cases hc
      refine ⟨F, env, _, S, h1, fun v H' F' x hv => ?_⟩
      obtain ⟨F2, x2, r2, _⟩ := VR.demote x hv
      cases r2 with
      | tup q1 q2 =>
        obtain ⟨ws, w, rfl, q3, q4⟩ := q2.snoc h2
        refine ⟨_, ws, w, rfl, sqT_mono x2.sub q1, fun p hp => ?_⟩
        have xp : Ext F2 H' F2 (upd H' p (.lst ws)) := .new x2.sub hp
        have S2 := (S.ext x2)
        have E2 := (en.step x2)
        obtain ⟨S3, E3⟩ := S2.setV E2 (i := i) (r := (true, .lst ds.dropLast)) xp ⟨p, _, rfl, hp, x2.sub.free hp, upd_same, .lst q3⟩
        exact k _ _ F2 (S3.setF q4) E3.setF
    · cases hc
  · cases hc⟩
/-! ### a, b = x, y -/
def cPar (i j : Nat) (c : CA) : CS := fun env => match c env with
  | some [d, e] => some (.nx ((env.set i (some (false, d))).set j (some (false, e))))
  | _ => none
theorem ss_par {i j : Nat} {x y : Str} {a b : Expr} {c : CA} {px py pt : Pos} {kt k2 : Nat} {pt2 : Pos} (hc : X.calm = true) (hN : X.N.Nodup) (hi : X.N[i]? = some x) (hj : X.N[j]? = some y) (hij : i ≠ j) (hx : X.env.scope.names.lookup x = some .local) (hy : X.env.scope.names.lookup y = some .local) (h : SA X [a, b] c)
    (hw : swappedStores [.Tuple [.Name x px, .Name y py] kt pt] (.Tuple [a, b] k2 pt2) X.env = pure (some [x, y])) (hs : swapsWithSole [.Tuple [.Name x px, .Name y py] kt pt] (.Tuple [a, b] k2 pt2) pos.line X.env = pure false := by rfl) :
    SS X (.Assign [.Tuple [.Name x px, .Name y py] kt pt] (.Tuple [a, b] k2 pt2) pos) (cPar i j c) := ⟨PS.mono (ps_par hc hN hi hj hij hx hy h.pe hw hs) fun E σ H ⟨F0, H0, B, F, env, o, S, en, hc, k⟩ => by
  unfold cPar at hc
  split at hc
  · rename_i d e h1
    cases hc
    refine ⟨F, env, _, S, h1, fun vs H' F' x hv => ?_⟩
    cases hv with
    | cons r1 r2 => cases r2 with
      | cons r2 r3 =>
        cases r3
        exact ⟨_, _, rfl, k _ H' F' (((S.ext x).setF r1).setF r2) (((en.step x).setF).setF)⟩
  · cases hc⟩
/-! ### (a, b) = a tuple's value -/
def cUnp (c : CE) (g : CG) : CS := fun env => match c env with
  | some r => (g r.2 env).map .nx
  | none => none
theorem ss_unp {tg : Expr} {is : List Nat} {c : CE} {g : CG} (he : SE X e c) (hg : SG X tg is g) (hs : swapsWithSole [tg] e pos.line X.env = pure false := by rfl) (hw : swappedStores [tg] e X.env = pure none := by rfl) (h1 : (assignEach [tg] X.env).map (·.2) = [assign tg X.env] := by rfl) :
    SS X (.Assign [tg] e pos) (cUnp c g) := ⟨PS.mono (ps_asg he.pe hg.pe hs hw h1) fun E σ H ⟨F0, H0, B, F, env, o, S, en, hc, k⟩ => by
  unfold cUnp at hc
  split at hc
  · rename_i r h1
    cases q : g r.2 env with
    | none => rw [q] at hc; cases hc
    | some env' =>
      rw [q] at hc
      cases hc
      refine ⟨F, env, r, S, h1, fun v H' F' x hv => ?_⟩
      obtain ⟨F2, x2, r2, _⟩ := VR.demote x hv
      exact ⟨F2, env, env', r.2, S.ext x2, r2, q, fun σ' S' _ _ e' => k σ' H' F2 S' (e' F0 H0 B (en.step x2))⟩
  · cases hc⟩
/-! ### a target (a, b) for a tuple or a list -/
def gSeqC (n : Nat) (gs : CGs) : CG := fun d env => match d with
  | .tup ds => if ds.length = n then gs ds env else none
  | .lst ds => if ds.length = n then gs ds env else none
  | _ => none
theorem pg_lst {es : List Expr} {k : Nat} {t : TGs} {n : Nat} (hc : X.calm = true) (h : PGs X es t) (hn : (assignEach es X.env).length = n) (hst : (assignEach es X.env).findIdx? (·.1) = none) :
    PG X (.Tuple es k pos) (fun v σ H Q => ∃ a xs, v = .ref a ∧ SqL X.K H a xs ∧ xs.length = n ∧ t xs σ H Q) := by
  intro pins s σ H v u Q I r hw
  obtain ⟨a, xs, rfl, hq, hl, hw⟩ := hw
  cases r
  obtain ⟨its, rv, ht, hz⟩ := I.list hq
  rw [assign_Tuple]
  refine wpAny_bind (wpAny_standAt ?_)
  unfold unpack
  rw [hst, hn]
  have e : n = its.toArray.size := by rw [List.size_toArray, ← rv.length]; exact hl.symm
  rw [e]
  refine wpAny_bind (wpAny_holding (PySem.W.kun_itemsOf (I.ok.hd hc) ht.isList fun h' hx => ?_))
  have I1 : Inv X pins σ H { s with heap := h' } := I.kept (t' := s.toks) fun b o e => hx b o (Nat.ne_of_lt (Heap.lt_size e)) e
  exact h pins _ σ H xs _ Q I1 (by simpa using rv) hw
theorem sg_seq {es : List Expr} {k n : Nat} {is : List Nat} {gs : CGs} (hc : X.calm = true) (h : SGs X es is gs) (hl : (assignEach es X.env).length = n := by rfl) (hi : (assignEach es X.env).findIdx? (·.1) = none := by rfl) : SG X (.Tuple es k pos) is (gSeqC n gs) :=
  ⟨fun pins s σ H v u Q I r hw => by
    obtain ⟨F, env, env', d, S, rd, hg, k⟩ := hw
    unfold gSeqC at hg
    split at hg
    · split at hg
      · rename_i ds hn
        cases rd with
        | tup q1 q2 => exact pg_tup hc h.pe hl hi pins s σ H _ u Q I r ⟨_, _, rfl, sqT_mono S.sub q1, by rw [q2.length]; exact hn, F, env, env', ds, S, q2, hg, k⟩
      · cases hg
    · split at hg
      · rename_i ds hn
        cases rd with
        | lst q1 q2 => exact pg_lst hc h.pe hl hi pins s σ H _ u Q I r ⟨_, _, rfl, S.sub.seq q1, by rw [q2.length]; exact hn, F, env, env', ds, S, q2, hg, k⟩
      · cases hg
    · cases hg⟩
/-! ### slices -/
abbrev CO := Env → Option (Option Int)
def tO (K : KX) (c : CO) : TO := fun σ H Q => ∃ F env i, SRel K F σ H env ∧ c env = some i ∧ ∀ H' F', Ext F H F' H' → Q i H'
structure SO (X : Cx) (o : Option Expr) (c : CO) : Prop where pe : PO X o (tO X.kx c)
def cNoPart : CO := fun _ => some none
def cPart (c : CP) : CO := fun env => match c env with
  | some (.int i) => some (some i)
  | _ => none
theorem PO.mono {e : Option Expr} {t t' : TO} (h : PO X e t) (m : ∀ σ H Q, t' σ H Q → t σ H Q) : PO X e t' := fun pins s σ H Q I q => h pins s σ H Q I (m σ H Q q)
theorem so_none : SO X none cNoPart := ⟨PO.mono po_none fun σ H Q ⟨F, env, i, S, hc, k⟩ => by
  cases hc
  exact k H F (.refl S.sub)⟩
theorem so_some {c : CP} (h : SP X e c) : SO X (some e) (cPart c) := ⟨PO.mono (po_some h.pe) fun σ H Q ⟨F, env, i, S, hc, k⟩ => by
  unfold cPart at hc
  split at hc
  · rename_i j h1
    cases hc
    exact ⟨F, env, _, S, h1, fun v H' F' x p => ⟨j, p.int, k H' F' x⟩⟩
  · cases hc⟩
def cutD {α : Type} (xs : List α) (lo hi : Option Int) : List α := (xs.drop (HT.sIx xs.length 0 lo)).take (HT.sIx xs.length xs.length hi - HT.sIx xs.length 0 lo)
theorem RlA.cut {K : KX} {F : Hp} {vs : List V} {ds : List D} (h : RlA K F vs ds) (lo hi : Option Int) : RlA K F (cutV vs lo hi) (cutD ds lo hi) := by
  unfold cutV cutD
  rw [h.length]
  exact (h.drop _).take _
def dSl : D → Option Int → Option Int → Option (Bool × D)
  | .lst ds, lo, hi => some (true, .lst (cutD ds lo hi))
  | .tup ds, lo, hi => if HT.sIx ds.length 0 lo = 0 ∧ HT.sIx ds.length ds.length hi = ds.length then none else some (false, .tup (cutD ds lo hi))
  | .str z, lo, hi => if z.length ≤ sizeLine then some (false, .str (cutS z lo hi)) else none
  | _, _, _ => none
def cSl (c : CP) (l h : CO) : CE := fun env => match c env, l env, h env with
  | some d, some lo, some hi => dSl d lo hi
  | _, _, _ => none
theorem se_slice {lo hi : Option Expr} {p2 : Pos} {c : CP} {l h : CO} (he : SP X e c) (hl : SO X lo l) (hh : SO X hi h) : SE X (.Subscript e (.Slice lo hi none p2) pos) (cSl c l h) :=
  ⟨PE.mono (pe_slice (sl_list.or (sl_tup.or sl_str)) he.pe hl.pe hh.pe) fun σ H Q ⟨F, env, r, S, hc, k⟩ => by
    unfold cSl at hc
    split at hc
    · rename_i d a b h1 h2 h3
      refine ⟨F, env, d, S, h1, fun v H1 F1 x1 p1 => ⟨F1, env, a, S.ext x1, h2, fun H2 F2 x2 => ⟨F2, env, b, (S.ext x1).ext x2, h3, fun H3 F3 x3 => ?_⟩⟩⟩
      have p3 := (p1.ext x2).ext x3
      have x : Ext F H F3 H3 := (x1.trans x2).trans x3
      unfold dSl at hc
      split at hc
      · cases hc
        obtain ⟨q, ws, rfl, ha, ra⟩ := p3.lst x.sub
        exact .inl ⟨q, ws, rfl, ha, fun p hp => k _ _ F3 (x.trans (.new x.sub hp)) ⟨p, _, rfl, x.hh.free hp, x.sub.free hp, upd_same, .lst (ra.cut a b)⟩⟩
      · split at hc
        · cases hc
        · rename_i hw
          cases hc
          obtain ⟨q, ws, rfl, ha, ra⟩ := p3.tup x.sub
          exact .inr (.inl ⟨q, ws, rfl, ha, by rw [ra.length]; exact hw, fun p hp => k _ _ _ (x.trans (.newF x.sub hp)) (Rl.tup (.inl (.inl upd_same)) (RlA.mono (upd_same' (x.sub.free hp)) _ _ (ra.cut a b)))⟩)
      · split at hc
        · rename_i hz
          cases hc
          cases p3.str
          exact .inr (.inr ⟨_, rfl, hz, k _ H3 F3 x (Rl.str _)⟩)
        · cases hc
      · cases hc
    · cases hc⟩
/-! ### tuple(x), list(x), sum(x), xs.append(e) -/
def fTuple : Fn
  | [.lst ds] => some (false, .tup ds)
  | [.tup ds] => some (false, .tup ds)
  | _ => none
def fList : Fn
  | [.lst ds] => some (true, .lst ds)
  | [.tup ds] => some (true, .lst ds)
  | _ => none
theorem cd_tuple : CallD X (.type "tuple") fTuple := by
  rintro pins s σ H vs us Q I r ⟨F, ds, z, sub, pk, hg, k⟩
  unfold fTuple at hg
  split at hg
  · cases hg
    obtain ⟨v, rfl, pv⟩ := pk.one
    obtain ⟨a, ws, rfl, ha, ra⟩ := pv.lst sub
    exact call_tuple_of pins s σ H _ us Q I r ⟨a, ws, rfl, .inl ⟨ha, fun p hp => k _ _ _ (.newF sub hp) (Rl.tup (.inl (.inl upd_same)) (RlA.mono (upd_same' (sub.free hp)) _ _ ra))⟩⟩
  · cases hg
    obtain ⟨v, rfl, pv⟩ := pk.one
    have pv' := pv.tupF
    obtain ⟨a, ws, rfl, ha, ra⟩ := pv.tup sub
    exact call_tuple_of pins s σ H _ us Q I r ⟨a, ws, rfl, .inr ⟨ha, k _ H F (.refl sub) pv'⟩⟩
  · cases hg
theorem cd_list : CallD X (.type "list") fList := by
  rintro pins s σ H vs us Q I r ⟨F, ds, z, sub, pk, hg, k⟩
  unfold fList at hg
  split at hg
  · cases hg
    obtain ⟨v, rfl, pv⟩ := pk.one
    obtain ⟨a, ws, rfl, ha, ra⟩ := pv.lst sub
    exact call_list_of pins s σ H _ us Q I r ⟨a, ws, rfl, .inl ha, fun p hp => k _ _ F (.new sub hp) ⟨p, _, rfl, hp, sub.free hp, upd_same, .lst ra⟩⟩
  · cases hg
    obtain ⟨v, rfl, pv⟩ := pk.one
    obtain ⟨a, ws, rfl, ha, ra⟩ := pv.tup sub
    exact call_list_of pins s σ H _ us Q I r ⟨a, ws, rfl, .inr ha, fun p hp => k _ _ F (.new sub hp) ⟨p, _, rfl, hp, sub.free hp, upd_same, .lst ra⟩⟩
  · cases hg
def fSum : Fn
  | [.lst ds] => (intsOf ds).map fun ns => (false, .int ns.sum)
  | _ => none
theorem cd_sum (hc : X.calm = true) : CallD X (.builtin "sum") fSum := by
  rintro pins s σ H vs us Q I r ⟨F, ds, z, sub, pk, hg, k⟩
  unfold fSum at hg
  split at hg
  · rename_i es
    cases q : intsOf es with
    | none => rw [q] at hg; cases hg
    | some ns =>
      rw [q] at hg
      cases hg
      cases intsOf_eq q
      obtain ⟨v, rfl, pv⟩ := pk.one
      obtain ⟨a, ws, rfl, ha, ra⟩ := pv.lst sub
      cases ra.ints
      exact cr_sum hc pins s σ H _ us Q I r ⟨a, ns, rfl, ha, k _ H F (.refl sub) (Rl.int _)⟩
  · cases hg
def cAppend (i : Nat) (c : CE) : CS := fun env => match c env, env[i]? with
  | some r, some (some (true, .lst ds)) => if ds.length < sizeLine then some (.nx (env.set i (some (true, .lst (ds ++ [r.2]))))) else none
  | _, _ => none
theorem ss_append (i : Nat) {x : Str} {p apos cpos : Pos} {c : CE} (h : SE X e c) (hst : starEach [e] X.env = (false, eval e X.env) :: starEach [] X.env := by rfl)
    (hp : ∀ t, PA X [e] t → PS X (.Expr (.Call (.Attribute (.Name x p) "append" apos) [e] [] cpos) pos) (tDrop (tBM X.K "list" rAppend (tVar i) t))) :
    SS X (.Expr (.Call (.Attribute (.Name x p) "append" apos) [e] [] cpos) pos) (cAppend i c) :=
  ⟨PS.mono (hp _ (pa_cons h.pe pa_nil hst)) fun E σ H ⟨F0, H0, B, F, env, o, S, en, hc, k⟩ => by
    unfold cAppend at hc
    split at hc
    · rename_i r ds h1 h2
      split at hc
      · rename_i hz
        cases hc
        obtain ⟨q, o, q1, q2, q3, q4⟩ := S.ow i _ h2
        cases q4 with
        | lst q4 =>
          refine ⟨.ref q, q1, ?_⟩
          refine ⟨.inl ⟨rfl, _, .inl (.inl q3)⟩, F, env, r, S, h1, fun v H' F' x hv => ?_⟩
          obtain ⟨F2, x2, r2, _⟩ := VR.demote x hv
          have q3' := x2.hh _ _ q3
          refine ⟨q, _, v, rfl, rfl, q3', by rw [q4.length]; exact hz, ?_⟩
          have hF : F2 q = none := x2.ex q (by rw [q3]; rfl) q2
          have hil : i < env.length := by
            rcases Nat.lt_or_ge i env.length with hl | hl
            · exact hl
            · rw [List.getElem?_eq_none hl] at h2; cases h2
          have hσ : σ.set i (some (.ref q)) = σ := by
            apply List.ext_getElem?
            intro j
            by_cases hj : i = j
            · subst hj; rw [List.getElem?_set_self (by rw [← S.len]; exact hil)]; exact q1.symm
            · rw [List.getElem?_set_ne hj]
          have S2 := S.ext x2
          have E2 := en.step x2
          have hnew : RlA X.kx F2 (_ ++ [v]) (ds ++ [r.2]) := (RlA.mono x2.ff _ _ q4).append (.cons r2 .nil)
          refine k σ _ F2 ⟨by simp [S.len], fun b u e => by rw [upd_ne (ne_of_none e hF)]; exact x2.sub _ _ e, fun j d' e => ?_, fun j d' e => ?_, fun j l d1 d2 p e1 e2 s1 s2 => ?_⟩ ⟨⟨E2.ext.ff, fun b u e => ?_, E2.ext.ex, fun b u e => by rw [upd_ne (ne_of_none e hF)]; exact x2.sub _ _ e⟩, E2.bs, fun j d' p e s => ?_⟩
          · rcases get_set e with ⟨rfl, z⟩ | ⟨hj, e⟩
            · cases z
            · exact S2.sh j d' e
          · rcases get_set e with ⟨rfl, z⟩ | ⟨hj, e⟩
            · cases z
              exact ⟨q, _, q1, hF, upd_same, .lst hnew⟩
            · obtain ⟨p, o, w1, w2, w3, w4⟩ := S2.ow j d' e
              have : p ≠ q := fun z => by subst z; exact hj (S.inj i j _ d' p h2 e q1 w1)
              exact ⟨p, o, w1, w2, by rw [upd_ne this]; exact w3, w4⟩
          · rcases get_set e1 with ⟨rfl, z1⟩ | ⟨hj, e1⟩
            · rcases get_set e2 with ⟨rfl, z2⟩ | ⟨hk, e2⟩
              · rfl
              · exact S.inj i l _ d2 p h2 e2 s1 s2
            · rcases get_set e2 with ⟨rfl, z2⟩ | ⟨hk, e2⟩
              · exact S.inj j i d1 _ p e1 h2 s1 s2
              · exact S.inj j l d1 d2 p e1 e2 s1 s2
          · have hb0 : H0 q = none := en.own i _ q h2 q1
            rw [upd_ne (ne_of_none e hb0)]
            exact E2.ext.hh _ _ e
          · rcases get_set e with ⟨rfl, z⟩ | ⟨hj, e⟩
            · exact en.own i _ p h2 s
            · exact en.own j d' p e s
      · cases hc
    · cases hc⟩
end
end L2.EV

set_option Elab.async false
set_option linter.all false
set_option maxRecDepth 100000
set_option maxHeartbeats 4000000
namespace L2.EV
open PySem PySem.Spec PyProof.Rows
section
variable {X : Cx} {pos : Pos} {e a b : Expr}
/-! ### a statement that is never reached -/
def cNever : CS := fun _ => none
theorem ss_never {st : Stmt} : SS X st cNever := ⟨PS.mono ps_never fun E σ H ⟨F0, H0, B, F, env, o, S, en, hc, k⟩ => by cases hc⟩
/-! ### is None -/
def isNon : D → Bool
  | .non => true
  | _ => false
def dIsN : G2
  | d, .non => some (false, .bl (isNon d))
  | _, _ => none
def dNotN : G2
  | d, .non => some (false, .bl (!isNon d))
  | _, _ => none
theorem Pk.isN {K : KX} {F H : Hp} {v : V} {d : D} (h : Pk K F H v d) : decide (v = V.non) = isNon d := by
  rcases h with h | ⟨p, o, rfl, _, h⟩
  · cases h <;> rfl
  · cases h <;> rfl
theorem od_isN : OpD X (compareOp .Is) dIsN := opD fun pins s σ H F x y v u Q d e r I rx ry sub px py hr k => by
  unfold dIsN at hr
  split at hr
  · cases hr
    refine op_isN pins s σ H x y v u Q I rx ry ⟨py.non, ?_⟩
    rw [px.isN]
    exact k _ H F (.refl sub) (Rl.bl _)
  · cases hr
theorem od_notN : OpD X (compareOp .IsNot) dNotN := opD fun pins s σ H F x y v u Q d e r I rx ry sub px py hr k => by
  unfold dNotN at hr
  split at hr
  · cases hr
    refine op_notN pins s σ H x y v u Q I rx ry ⟨py.non, ?_⟩
    rw [px.isN]
    exact k _ H F (.refl sub) (Rl.bl _)
  · cases hr
theorem units65 {k : Nat} {A : Around} (hr : Room k A) : A.units + 65 < cLine := by have := hr.un; omega
/-! ### in, not in -/
def inD (x c : D) : Option Bool := match c with
  | .lst ds => if SeqAt.shaped (toPy x) && SeqAt.shaped (toPy (.lst ds)) then some ((toPys ds).any fun y => PyData.eqv y (toPy x)) else none
  | .tup ds => if SeqAt.shaped (toPy x) && SeqAt.shaped (toPy (.tup ds)) then some ((toPys ds).any fun y => PyData.eqv y (toPy x)) else none
  | _ => none
def dIn : G2 := fun x c => (inD x c).map fun b => (false, .bl b)
def dNotIn : G2 := fun x c => (inD x c).map fun b => (false, .bl (!b))
theorem canAll_list {xs : List PyData} (h : SeqAt.shaped (.list xs) = true) : PyData.canLayAll0 xs = true := by
  have := SeqAt.canLay_of_shaped h
  simpa [PyData.canLay0] using this
theorem canAll_tuple {xs : List PyData} (h : SeqAt.shaped (.tuple xs) = true) : PyData.canLayAll0 xs = true := by
  have := SeqAt.canLay_of_shaped h
  simpa [PyData.canLay0] using this
theorem od_in (hu : X.A.units + 65 < cLine) : OpD X (compareOp .In) dIn := opD fun pins s σ H F x y v u Q d e r I rx ry sub px py hr k => by
  unfold dIn at hr
  cases q : inD d e with
  | none => rw [q] at hr; cases hr
  | some bb =>
    rw [q] at hr
    cases hr
    have fin : EP X pins σ Q (.bool bb) s := ⟨.bl bb, H, I, rfl, k (.bl bb) H F (.refl sub) (Rl.bl _)⟩
    unfold inD at q
    split at q
    · split at q
      · rename_i hz
        cases q
        rw [Bool.and_eq_true] at hz
        obtain ⟨as, r1⟩ := Dp.reads I _ x v (Rl.dp _ x (SeqAt.canLay_of_shaped hz.1) (px.rl sub)) rx
        obtain ⟨bs, r2⟩ := Dp.reads I _ y u (Rl.dp _ y (SeqAt.canLay_of_shaped hz.2) (py.rl sub)) ry
        exact SeqAt.in_list_reads r2 r1 (canAll_list hz.2) (SeqAt.canLay_of_shaped hz.1) (room_in_shaped hz.1 hu) fin
      · cases q
    · split at q
      · rename_i hz
        cases q
        rw [Bool.and_eq_true] at hz
        obtain ⟨as, r1⟩ := Dp.reads I _ x v (Rl.dp _ x (SeqAt.canLay_of_shaped hz.1) (px.rl sub)) rx
        obtain ⟨bs, r2⟩ := Dp.reads I _ y u (Rl.dp _ y (SeqAt.canLay_of_shaped hz.2) (py.rl sub)) ry
        exact SeqAt.in_tuple_reads r2 r1 (canAll_tuple hz.2) (SeqAt.canLay_of_shaped hz.1) (room_in_shaped hz.1 hu) fin
      · cases q
    · cases q
theorem od_notin (hu : X.A.units + 65 < cLine) : OpD X (compareOp .NotIn) dNotIn := opD fun pins s σ H F x y v u Q d e r I rx ry sub px py hr k => by
  unfold dNotIn at hr
  cases q : inD d e with
  | none => rw [q] at hr; cases hr
  | some bb =>
    rw [q] at hr
    cases hr
    have fin : EP X pins σ Q (.bool !bb) s := ⟨.bl !bb, H, I, rfl, k (.bl !bb) H F (.refl sub) (Rl.bl _)⟩
    unfold inD at q
    split at q
    · split at q
      · rename_i hz
        cases q
        rw [Bool.and_eq_true] at hz
        obtain ⟨as, r1⟩ := Dp.reads I _ x v (Rl.dp _ x (SeqAt.canLay_of_shaped hz.1) (px.rl sub)) rx
        obtain ⟨bs, r2⟩ := Dp.reads I _ y u (Rl.dp _ y (SeqAt.canLay_of_shaped hz.2) (py.rl sub)) ry
        exact SeqAt.notIn_list_reads r2 r1 (canAll_list hz.2) (SeqAt.canLay_of_shaped hz.1) (room_in_shaped hz.1 hu) fin
      · cases q
    · split at q
      · rename_i hz
        cases q
        rw [Bool.and_eq_true] at hz
        obtain ⟨as, r1⟩ := Dp.reads I _ x v (Rl.dp _ x (SeqAt.canLay_of_shaped hz.1) (px.rl sub)) rx
        obtain ⟨bs, r2⟩ := Dp.reads I _ y u (Rl.dp _ y (SeqAt.canLay_of_shaped hz.2) (py.rl sub)) ry
        exact SeqAt.notIn_tuple_reads r2 r1 (canAll_tuple hz.2) (SeqAt.canLay_of_shaped hz.1) (room_in_shaped hz.1 hu) fin
      · cases q
    · cases q
/-! ### max(xs), min(xs) -/
def maxI : List Int → Int
  | [] => 0
  | i :: r => r.foldl (fun m j => if m < j then j else m) i
def minI : List Int → Int
  | [] => 0
  | i :: r => r.foldl (fun m j => if j < m then j else m) i
theorem fold_max : ∀ (r : List Int) (i : Int), (r.foldl (fun m j => if m < j then j else m) i = i ∨ r.foldl (fun m j => if m < j then j else m) i ∈ r) ∧ i ≤ r.foldl (fun m j => if m < j then j else m) i ∧ ∀ y ∈ r, y ≤ r.foldl (fun m j => if m < j then j else m) i
  | [], i => ⟨.inl rfl, Int.le_refl _, fun y hy => by cases hy⟩
  | j :: r, i => by
    obtain ⟨h1, h2, h3⟩ := fold_max r (if i < j then j else i)
    rw [List.foldl_cons]
    have h4 : i ≤ (if i < j then j else i) ∧ j ≤ (if i < j then j else i) := by split <;> omega
    refine ⟨?_, Int.le_trans h4.1 h2, fun y hy => ?_⟩
    · rcases h1 with h1 | h1
      · rw [h1]; split
        · exact .inr List.mem_cons_self
        · exact .inl rfl
      · exact .inr (List.mem_cons_of_mem _ h1)
    · rcases List.mem_cons.mp hy with rfl | hy
      · exact Int.le_trans h4.2 h2
      · exact h3 y hy
theorem fold_min : ∀ (r : List Int) (i : Int), (r.foldl (fun m j => if j < m then j else m) i = i ∨ r.foldl (fun m j => if j < m then j else m) i ∈ r) ∧ r.foldl (fun m j => if j < m then j else m) i ≤ i ∧ ∀ y ∈ r, r.foldl (fun m j => if j < m then j else m) i ≤ y
  | [], i => ⟨.inl rfl, Int.le_refl _, fun y hy => by cases hy⟩
  | j :: r, i => by
    obtain ⟨h1, h2, h3⟩ := fold_min r (if j < i then j else i)
    rw [List.foldl_cons]
    have h4 : (if j < i then j else i) ≤ i ∧ (if j < i then j else i) ≤ j := by split <;> omega
    refine ⟨?_, Int.le_trans h2 h4.1, fun y hy => ?_⟩
    · rcases h1 with h1 | h1
      · rw [h1]; split
        · exact .inr List.mem_cons_self
        · exact .inl rfl
      · exact .inr (List.mem_cons_of_mem _ h1)
    · rcases List.mem_cons.mp hy with rfl | hy
      · exact Int.le_trans h2 h4.2
      · exact h3 y hy
theorem maxI_spec {l : List Int} (h : l ≠ []) : maxI l ∈ l ∧ ∀ y ∈ l, y ≤ maxI l := by
  cases l with
  | nil => exact absurd rfl h
  | cons i r =>
    obtain ⟨h1, h2, h3⟩ := fold_max r i
    refine ⟨?_, fun y hy => ?_⟩
    · rcases h1 with h1 | h1
      · show r.foldl _ i ∈ _; rw [h1]; exact List.mem_cons_self
      · exact List.mem_cons_of_mem _ h1
    · rcases List.mem_cons.mp hy with rfl | hy
      · exact h2
      · exact h3 y hy
theorem minI_spec {l : List Int} (h : l ≠ []) : minI l ∈ l ∧ ∀ y ∈ l, minI l ≤ y := by
  cases l with
  | nil => exact absurd rfl h
  | cons i r =>
    obtain ⟨h1, h2, h3⟩ := fold_min r i
    refine ⟨?_, fun y hy => ?_⟩
    · rcases h1 with h1 | h1
      · show r.foldl _ i ∈ _; rw [h1]; exact List.mem_cons_self
      · exact List.mem_cons_of_mem _ h1
    · rcases List.mem_cons.mp hy with rfl | hy
      · exact h2
      · exact h3 y hy
def fMaxL : Fn
  | [.lst ds] => match intsOf ds with
    | some (i :: r) => some (false, .int (maxI (i :: r)))
    | _ => none
  | _ => none
def fMinL : Fn
  | [.lst ds] => match intsOf ds with
    | some (i :: r) => some (false, .int (minI (i :: r)))
    | _ => none
  | _ => none
theorem cd_maxL (hc : X.calm = true) : CallD X (.builtin "max") fMaxL := by
  rintro pins s σ H vs us Q I r ⟨F, ds, z, sub, pk, hg, k⟩
  unfold fMaxL at hg
  split at hg
  · rename_i es
    split at hg
    · rename_i i l q
      cases hg
      cases intsOf_eq q
      obtain ⟨v, rfl, pv⟩ := pk.one
      obtain ⟨a, ws, rfl, ha, ra⟩ := pv.lst sub
      cases ra.ints
      obtain ⟨h1, h2⟩ := maxI_spec (l := i :: l) (by simp)
      refine cr_max hc pins s σ H _ us Q I r ⟨a, i :: l, rfl, ha, by simp, fun m hm hle => ?_⟩
      have : m = maxI (i :: l) := by have := hle _ h1; have := h2 _ hm; omega
      rw [this]
      exact k _ H F (.refl sub) (Rl.int _)
    · cases hg
  · cases hg
theorem cd_minL (hc : X.calm = true) : CallD X (.builtin "min") fMinL := by
  rintro pins s σ H vs us Q I r ⟨F, ds, z, sub, pk, hg, k⟩
  unfold fMinL at hg
  split at hg
  · rename_i es
    split at hg
    · rename_i i l q
      cases hg
      cases intsOf_eq q
      obtain ⟨v, rfl, pv⟩ := pk.one
      obtain ⟨a, ws, rfl, ha, ra⟩ := pv.lst sub
      cases ra.ints
      obtain ⟨h1, h2⟩ := minI_spec (l := i :: l) (by simp)
      refine cr_min hc pins s σ H _ us Q I r ⟨a, i :: l, rfl, ha, by simp, fun m hm hle => ?_⟩
      have : m = minI (i :: l) := by have := hle _ h1; have := h2 _ hm; omega
      rw [this]
      exact k _ H F (.refl sub) (Rl.int _)
    · cases hg
  · cases hg
/-! ### int(flag) -/
def fInt : Fn
  | [.int i] => some (false, .int i)
  | [.bl c] => some (false, .int (if c then 1 else 0))
  | _ => none
theorem cd_int : CallD X (.type "int") fInt := by
  rintro pins s σ H vs us Q I r ⟨F, ds, z, sub, pk, hg, k⟩
  unfold fInt at hg
  split at hg
  · cases hg
    obtain ⟨v, rfl, pv⟩ := pk.one
    cases pv.int
    exact call_int1 pins s σ H _ us Q I r (.inl ⟨_, rfl, k _ H F (.refl sub) (Rl.int _)⟩)
  · cases hg
    obtain ⟨v, rfl, pv⟩ := pk.one
    cases pv.bl
    exact call_int1 pins s σ H _ us Q I r (.inr ⟨_, rfl, k _ H F (.refl sub) (Rl.int _)⟩)
  · cases hg
/-! ### list(range(..)) -/
theorem cr_range2 : CallR X (.type "range") (fun vs H Q => ∃ i j : Int, vs = [.int i, .int j] ∧ ∀ p, H p = none → Q (.ref p) (upd H p (.rng i j))) := by
  rintro pins s σ H vs us Q I r ⟨i, j, rfl, q⟩
  cases r with
  | cons r1 r2 => cases r2 with
    | cons r2 r3 =>
      cases r3
      obtain ⟨t, rfl⟩ := r1
      obtain ⟨u, rfl⟩ := r2
      exact call_range_2 ⟨.ref _, _, I.laid (o := .rng i j) (fun b o e => Heap.get?_push_of_some _ e) (Nat.le_refl _) ⟨_, _, _, Heap.get?_push_size _ rfl⟩, rfl, q _ I.fresh⟩
theorem cr_range1 : CallR X (.type "range") (fun vs H Q => ∃ j : Int, vs = [.int j] ∧ ∀ p, H p = none → Q (.ref p) (upd H p (.rng 0 j))) := by
  rintro pins s σ H vs us Q I r ⟨j, rfl, q⟩
  cases r with
  | cons r1 r2 =>
    cases r2
    obtain ⟨t, rfl⟩ := r1
    exact call_range_1 ⟨.ref _, _, I.laid (o := .rng 0 j) (fun b o e => Heap.get?_push_of_some _ e) (Nat.le_refl _) ⟨_, _, _, Heap.get?_push_size _ rfl⟩, rfl, q _ I.fresh⟩
def rngI (lo : Int) (n : Nat) : List Int := (List.range n).map fun (i : Nat) => lo + (i : Int)
theorem rngI_D (lo : Int) (n : Nat) : (rngI lo n).map D.int = rngD lo n := by simp [rngI, rngD, Function.comp_def]
theorem items_ints {lo : Int} : ∀ {acc : List Value} {n : Nat}, ItemsOf (fun i v => ∃ t, v = Value.int (lo + i * 1) t) acc.toArray n → Vals ((rngI lo n).map V.int) acc := by
  intro acc n h
  have hl : acc.length = n := by have := h.1; simpa using this
  subst hl
  have : ∀ (acc : List Value) (k : Nat), (∀ (i : Nat) v, acc[i]? = some v → ∃ t, v = Value.int (lo + ((k + i : Nat) : Int) * 1) t) → Vals (((List.range acc.length).map fun (i : Nat) => lo + ((k + i : Nat) : Int)).map V.int) acc := by
    intro acc
    induction acc with
    | nil => intro k _; exact .nil
    | cons v acc ih =>
      intro k hk
      rw [List.length_cons, List.range_succ_eq_map, List.map_cons, List.map_cons]
      refine .cons ?_ ?_
      · obtain ⟨t, e⟩ := hk 0 v (by simp)
        refine ⟨t, ?_⟩
        rw [e]; simp
      · have := ih (k + 1) (fun i w hw => by
          obtain ⟨t, e⟩ := hk (i + 1) w (by simpa using hw)
          exact ⟨t, by rw [e, show k + (i + 1) = k + 1 + i by omega]⟩)
        simpa [List.map_map, Function.comp_def, Nat.add_assoc, Nat.add_comm 1] using this
  have q := this acc 0 (fun i v hv => by
    obtain ⟨t, e⟩ := h.2 i v (by simpa using hv)
    exact ⟨t, by rw [e]; simp⟩)
  simpa [rngI] using q
theorem cr_list_rng (hc : X.calm = true) : CallR X (.type "list") (fun vs H Q => ∃ (p : Addr) (i j : Int), vs = [.ref p] ∧ H p = some (.rng i j) ∧ (small62 i && small62 j) = true ∧ (j - i).toNat ≤ sizeLine ∧ ∀ l, H l = none → Q (.ref l) (upd H l (.lst ((rngI i (j - i).toNat).map V.int)))) := by
  rintro pins s σ H vs us Q I r ⟨p, i, j, rfl, hp, hz, hl, q⟩
  rw [Vals.ref1 r]
  obtain ⟨t, u, v, ho⟩ := I.hok p _ hp
  rw [Bool.and_eq_true] at hz
  have z1 := of_decide_eq_true hz.1
  have z2 := of_decide_eq_true hz.2
  have hsz : Builtin.Range.rangeSize i j 1 = (j - i).toNat := by rw [rangeSize_one]; split <;> omega
  refine call_list_range (n := (j - i).toNat) (t := t) (u := u) (v := v) (I.ok.hd hc) ho (small_one z1.1 z1.2 z2.1 z2.2) hsz hl fun h' tk acc c hk hn hi => ?_
  have hv : Vals ((rngI i (j - i).toNat).map V.int) acc.toList := items_ints (by simpa using hi)
  refine ⟨.ref _, _, I.laid (t' := tk) (o := .lst ((rngI i (j - i).toNat).map V.int)) hk (Nat.le_refl _) ⟨by simp [rngI]; omega, acc.toList, c, hv, by simpa using hn⟩, rfl, q _ I.fresh⟩
def cListR (c : CI) : CE := fun env => match c env with
  | some ds => if ds.length ≤ sizeLine then some (true, .lst ds) else none
  | none => none
theorem se_listR2 {p q rp : Pos} {c : CA} (hc : X.calm = true) (hg : Gl X "list") (hm : X.mg "list" = none) (hg2 : Gl X "range") (hm2 : X.mg "range" = none) (h : SA X [a, b] c)
    (hs : starEach [a, b] X.env = (false, eval a X.env) :: starEach [b] X.env := by rfl) (hpl : (backTo rp (starEach [b] X.env)).any (·.1) = false := by rfl) :
    SE X (.Call (.Name "list" p) [.Call (.Name "range" q) [a, b] [] rp] [] pos) (cListR (cRng2 c)) :=
  ⟨PE.mono (pe_callTy (cr_list_rng hc) hg hm (by decide +kernel) (pa_cons (pe_callTy cr_range2 hg2 hm2 (by decide +kernel) h.pe (by decide) (by decide) hs hpl) pa_nil rfl) (by decide) (by decide) rfl rfl) fun σ H Q ⟨F, env, r, S, hc, k⟩ => by
    unfold cListR at hc
    split at hc
    · rename_i ds h1
      split at hc
      · rename_i hz
        cases hc
        unfold cRng2 at h1
        split at h1
        · rename_i i j h2
          split at h1
          · rename_i hsm
            cases h1
            rw [rngD_length] at hz
            refine ⟨F, env, _, S, h2, fun vs H1 F1 x1 hv => ⟨i, j, hv.two, fun p hp => ?_⟩⟩
            have xp : Ext F1 H1 F1 (upd H1 p (.rng i j)) := .new x1.sub hp
            refine ⟨p, i, j, rfl, upd_same, hsm, hz, fun l hl => ?_⟩
            have x2 := (x1.trans xp)
            refine k _ _ F1 (x2.trans (.new x2.sub hl)) ⟨l, _, rfl, x2.hh.free hl, x2.sub.free hl, upd_same, .lst ?_⟩
            rw [← rngI_D]
            exact RlA.of_ints _
          · cases h1
        · cases h1
      · cases hc
    · cases hc⟩
/-! ### xs[i] = v of a list of one's own -/
def cSetIx (i : Nat) (ci : CP) (c : CE) : CS := fun env => match c env, ci env, env[i]? with
  | some r, some (.int k), some (some (true, .lst ds)) => match ixN ds.length k with
    | some j => some (.nx (env.set i (some (true, .lst (ds.set j r.2)))))
    | none => none
  | _, _, _ => none
/-- what stands at an owned name is another thing -/
theorem SRel.own_upd {K : KX} {F0 H0 B F H : Hp} {σ : St} {env : Env} {i : Nat} {q : Addr} {d d' : D} {o' : HO} (S : SRel K F σ H env) (en : Ent F0 H0 B F H σ env) (h : env[i]? = some (some (true, d))) (hσ : σ[i]? = some (some (.ref q))) (hc : Cell K F q o' d') :
    SRel K F σ (upd H q o') (env.set i (some (true, d'))) ∧ Ent F0 H0 B F (upd H q o') σ (env.set i (some (true, d'))) := by
  obtain ⟨p, o, q1, q2, q3, q4⟩ := S.ow i d h
  rw [hσ] at q1
  cases q1
  refine ⟨⟨by simp [S.len], fun b u e => by rw [upd_ne (ne_of_none e q2)]; exact S.sub _ _ e, fun j d1 e => ?_, fun j d1 e => ?_, fun j l d1 d2 p e1 e2 s1 s2 => ?_⟩, ⟨⟨en.ext.ff, fun b u e => ?_, en.ext.ex, fun b u e => by rw [upd_ne (ne_of_none e q2)]; exact S.sub _ _ e⟩, en.bs, fun j d1 p e s => ?_⟩⟩
  · rcases get_set e with ⟨rfl, z⟩ | ⟨hj, e⟩
    · cases z
    · exact S.sh j d1 e
  · rcases get_set e with ⟨rfl, z⟩ | ⟨hj, e⟩
    · cases z
      exact ⟨q, _, hσ, q2, upd_same, hc⟩
    · obtain ⟨p, o, w1, w2, w3, w4⟩ := S.ow j d1 e
      have : p ≠ q := fun z => by subst z; exact hj (S.inj i j _ d1 p h e hσ w1)
      exact ⟨p, o, w1, w2, by rw [upd_ne this]; exact w3, w4⟩
  · rcases get_set e1 with ⟨rfl, z1⟩ | ⟨hj, e1⟩
    · rcases get_set e2 with ⟨rfl, z2⟩ | ⟨hk, e2⟩
      · rfl
      · exact S.inj i l _ d2 p h e2 s1 s2
    · rcases get_set e2 with ⟨rfl, z2⟩ | ⟨hk, e2⟩
      · exact S.inj j i d1 _ p e1 h s1 s2
      · exact S.inj j l d1 d2 p e1 e2 s1 s2
  · rw [upd_ne (ne_of_none e (en.own i _ q h hσ))]
    exact en.ext.hh _ _ e
  · rcases get_set e with ⟨rfl, z⟩ | ⟨hj, e⟩
    · exact en.own i _ p h s
    · exact en.own j d1 p e s
theorem ss_setIx (i : Nat) {x : Str} {px tp : Pos} {at_ : Expr} {ci : CP} {c : CE} (hv : PE X (.Name x px) (tVar i)) (hi : SP X at_ ci) (h : SE X e c)
    (hp : ∀ te to ti, PE X e te → PE X (.Name x px) to → PE X at_ ti → PS X (.Assign [.Subscript (.Name x px) at_ tp] e pos) (tAsg te (gSub to ti rSetL))) :
    SS X (.Assign [.Subscript (.Name x px) at_ tp] e pos) (cSetIx i ci c) := ⟨PS.mono (hp _ _ _ h.pe hv hi.pe) fun E σ H ⟨F0, H0, B, F, env, o, S, en, hc, k⟩ => by
  unfold cSetIx at hc
  split at hc
  · rename_i r kk ds h1 h2 h3
    split at hc
    · rename_i j hj
      cases hc
      obtain ⟨q, o, q1, q2, q3, q4⟩ := S.ow i _ h3
      cases q4 with
      | lst q4 =>
        refine ⟨F, env, r, S, h1, fun v H' F' x hv => ?_⟩
        obtain ⟨F2, x2, r2, _⟩ := VR.demote x hv
        refine ⟨.ref q, q1, ?_⟩
        refine ⟨F2, env, _, S.ext x2, h2, fun v3 H3 F3 x3 p3 => ?_⟩
        have x23 := x2.trans x3
        refine ⟨q, _, kk, j, rfl, p3.int, x23.hh _ _ q3, by rw [q4.length]; exact hj, ?_⟩
        obtain ⟨S4, E4⟩ := (S.ext x23).own_upd (en.step x23) h3 q1 (.lst ((RlA.mono x23.ff _ _ q4).set (Rl.mono x3.ff _ _ r2) j))
        exact k σ _ F3 S4 E4
    · cases hc
  · cases hc⟩
/-! ### a list or a tuple is walked -/
def iSeq (K : PySem.W.Frag) (tl : TE) : TI := fun σ H R => tl σ H fun x H1 => ∃ a, x = .ref a ∧ (((∃ xs, SqL K H1 a xs) ∧ R (Itl K a) H1) ∨ ((∃ xs, SqT K H1 a xs) ∧ R (Itt K a) H1))
theorem pi_seq {l tg : Expr} {tl : TE} (hl : PE X l tl) : PI X tg l (iSeq X.K tl) := by
  intro pins s σ H R I h
  refine thn (hl pins s σ H _ I h) fun v s1 ⟨x, H1, I1, r1, q1⟩ => ?_
  obtain ⟨a, e, q⟩ := q1
  subst e
  cases r1
  rcases q with ⟨⟨xs, hq⟩, q⟩ | ⟨⟨xs, hq⟩, q⟩
  · obtain ⟨its, rv, p, hz⟩ := I1.list hq
    refine wpAny_pyIter_list p.isList ?_
    refine ⟨s1.heap.objs.size, [s1.heap.objs.size], _, _, H1, rfl, I1.kept (t' := s1.toks) fun b o e => Heap.get?_push_of_some _ e, turn_list a _, ⟨_, Heap.get?_push_size _ rfl, rfl, rfl⟩, fun b hb => ?_, q⟩
    have e : b = s1.heap.objs.size := by simpa using hb
    subst e
    exact I1.fpOk (Nat.le_refl _) (I1.hok.fresh (Nat.le_refl _))
  · obtain ⟨its, rv, p, hz⟩ := I1.tuple hq
    refine wpAny_pyIter_tuple (show s1.heap.IsTuple a its.toArray from p) ?_
    refine ⟨s1.heap.objs.size, [s1.heap.objs.size], _, _, H1, rfl, I1.kept (t' := s1.toks) fun b o e => Heap.get?_push_of_some _ e, turn_tuple a _, ⟨_, Heap.get?_push_size _ rfl, rfl, rfl⟩, fun b hb => ?_, q⟩
    have e : b = s1.heap.objs.size := by simpa using hb
    subst e
    exact I1.fpOk (Nat.le_refl _) (I1.hok.fresh (Nat.le_refl _))
def seqOf : D → Option (List D)
  | .lst ds => some ds
  | .tup ds => some ds
  | _ => none
def cSeqI (c : CE) : CI := fun env => match c env with
  | some r => seqOf r.2
  | none => none
theorem si_seq {tg iter : Expr} {c : CE} (h : SE X iter c) : SI X tg iter (cSeqI c) := ⟨PI.mono (pi_seq h.pe) fun σ H R ⟨F, env, ds, S, hc, k⟩ => by
  unfold cSeqI at hc
  split at hc
  · rename_i r h1
    refine ⟨F, env, _, S, h1, fun v H' F' x hv => ?_⟩
    obtain ⟨F2, x2, r2, _⟩ := VR.demote x hv
    unfold seqOf at hc
    split at hc
    · rename_i es he
      cases hc
      rw [he] at r2
      cases r2 with
      | lst q1 q2 => exact ⟨_, rfl, .inl ⟨⟨_, x2.sub.seq q1⟩, k _ H' F2 x2 (items_list q1 q2)⟩⟩
    · rename_i es he
      cases hc
      rw [he] at r2
      cases r2 with
      | tup q1 q2 => exact ⟨_, rfl, .inr ⟨⟨_, sqT_mono x2.sub q1⟩, k _ H' F2 x2 (items_tup q1 q2)⟩⟩
    · cases hc
  · cases hc⟩
/-! ### zip of two lists, enumerate of a list -/
def zipD : List D → List D → List D
  | a :: r, b :: s => .tup [a, b] :: zipD r s
  | _, _ => []
theorem zipD_get : ∀ {xs ys : List D} {i : Nat}, (zipD xs ys)[i]? = match xs[i]?, ys[i]? with | some a, some b => some (.tup [a, b]) | _, _ => none
  | [], ys, i => by cases ys <;> simp [zipD]
  | a :: r, [], i => by simp [zipD]
  | a :: r, b :: s, 0 => by simp [zipD]
  | a :: r, b :: s, i + 1 => by simp [zipD]; exact zipD_get
theorem zipD_length : ∀ {xs ys : List D}, (zipD xs ys).length = min xs.length ys.length
  | [], ys => by cases ys <;> simp [zipD]
  | a :: r, [] => by simp [zipD]
  | a :: r, b :: s => by simp [zipD, zipD_length, Nat.succ_min_succ]
def cZip (c : CA) : CI := fun env => match c env with
  | some [.lst xs, .lst ys] => some (zipD xs ys)
  | _ => none
theorem items_zip {F : Hp} {a b : Addr} {vs ws : List V} {ds es : List D} (h1 : SqL X.K F a vs) (r1 : RlA X.kx F vs ds) (h2 : SqL X.K F b ws) (r2 : RlA X.kx F ws es) : Items X.kx (Itz X.K a b) F (zipD ds es) := fun G Hc s1 s2 i => by
  have q1 : SqL X.K Hc a vs := (s1.trans s2).seq h1
  have q2 : SqL X.K Hc b ws := (s1.trans s2).seq h2
  have l1 := r1.length
  have l2 := r2.length
  rw [zipD_length]
  refine ⟨fun hi => ⟨⟨vs, ws, vs[i], ws[i], q1, q2, by simp, by simp⟩, fun x H' ⟨T, x1, y1, e1, e2, e3, e4, e5⟩ => ?_⟩, fun hi => ⟨vs, ws, q1, q2, by omega⟩⟩
  subst e1 e3
  obtain ⟨d, hd, rd⟩ := r1.getV (e4 vs q1)
  obtain ⟨e, he, re⟩ := r2.getV (e5 ws q2)
  refine ⟨upd G T (.tup [x1, y1]), .tup [d, e], .newF s2 e2, by rw [zipD_get, hd, he], .tup (.inl (.inl upd_same)) ?_⟩
  have sG : Same F (upd G T (.tup [x1, y1])) := s1.trans (upd_same' (s2.free e2))
  exact .cons (Rl.mono sG _ _ rd) (.cons (Rl.mono sG _ _ re) .nil)
theorem si_zip {elts : List Expr} {kk : Nat} {tpos p : Pos} {c : CA} (hg : Gl X "zip") (hm : X.mg "zip" = none) (h : SA X [a, b] c) (hs : starEach [a, b] X.env = (false, eval a X.env) :: starEach [b] X.env := by rfl) (hpl : (backTo pos (starEach [b] X.env)).any (·.1) = false := by rfl) :
    SI X (.Tuple elts kk tpos) (.Call (.Name "zip" p) [a, b] [] pos) (cZip c) := ⟨PI.mono (pi_zip hg hm h.pe hs hpl) fun σ H R ⟨F, env, ds, S, hc, k⟩ => by
  unfold cZip at hc
  split at hc
  · rename_i xs ys h1
    cases hc
    refine ⟨F, env, _, S, h1, fun vs H' F' x hv => ?_⟩
    cases hv with
    | cons r1 r2 => cases r2 with
      | cons r2 r3 =>
        cases r3
        cases r1 with
        | lst p1 p2 => cases r2 with
          | lst q1 q2 => exact ⟨_, _, _, _, rfl, x.sub.seq p1, x.sub.seq q1, k _ H' F' x (items_zip p1 p2 q1 q2)⟩
  · cases hc⟩
def enumD (n : Nat) : List D → List D
  | [] => []
  | d :: r => .tup [.int n, d] :: enumD (n + 1) r
theorem enumD_get : ∀ {xs : List D} {n i : Nat}, (enumD n xs)[i]? = xs[i]?.map fun d => .tup [.int ((n + i : Nat) : Int), d]
  | [], n, i => by simp [enumD]
  | d :: r, n, 0 => by simp [enumD]
  | d :: r, n, i + 1 => by
    have := enumD_get (xs := r) (n := n + 1) (i := i)
    simp only [enumD, List.getElem?_cons_succ, this]
    rw [show n + 1 + i = n + (i + 1) by omega]
theorem enumD_length : ∀ {xs : List D} {n : Nat}, (enumD n xs).length = xs.length
  | [], n => rfl
  | d :: r, n => by simp [enumD, enumD_length]
def cEnum (c : CA) : CI := fun env => match c env with
  | some [.lst xs] => some (enumD 0 xs)
  | _ => none
theorem items_enum {F : Hp} {a : Addr} {vs : List V} {ds : List D} (h1 : SqL X.K F a vs) (r1 : RlA X.kx F vs ds) : Items X.kx (Ite X.K a) F (enumD 0 ds) := fun G Hc s1 s2 i => by
  have q1 : SqL X.K Hc a vs := (s1.trans s2).seq h1
  have l1 := r1.length
  rw [enumD_length]
  refine ⟨fun hi => ⟨⟨vs, vs[i], q1, by simp⟩, fun x H' ⟨T, x1, e1, e2, e3, e4⟩ => ?_⟩, fun hi => ⟨vs, q1, by omega⟩⟩
  subst e1 e3
  obtain ⟨d, hd, rd⟩ := r1.getV (e4 vs q1)
  refine ⟨upd G T (.tup [.int i, x1]), .tup [.int ((0 + i : Nat) : Int), d], .newF s2 e2, by rw [enumD_get, hd]; rfl, .tup (.inl (.inl upd_same)) ?_⟩
  have sG : Same F (upd G T (.tup [.int i, x1])) := s1.trans (upd_same' (s2.free e2))
  rw [Nat.zero_add]
  exact .cons (.int _) (.cons (Rl.mono sG _ _ rd) .nil)
theorem si_enum {elts : List Expr} {kk : Nat} {tpos p : Pos} {c : CA} (hg : Gl X "enumerate") (hm : X.mg "enumerate" = none) (h : SA X [a] c) (hs : starEach [a] X.env = [(false, eval a X.env)] := by rfl) :
    SI X (.Tuple elts kk tpos) (.Call (.Name "enumerate" p) [a] [] pos) (cEnum c) := ⟨PI.mono (pi_enum hg hm h.pe hs) fun σ H R ⟨F, env, ds, S, hc, k⟩ => by
  unfold cEnum at hc
  split at hc
  · rename_i xs h1
    cases hc
    refine ⟨F, env, _, S, h1, fun vs H' F' x hv => ?_⟩
    cases hv with
    | cons r1 r2 =>
      cases r2
      cases r1 with
      | lst p1 p2 => exact ⟨_, _, rfl, x.sub.seq p1, k _ H' F' x (items_enum p1 p2)⟩
  · cases hc⟩
end
end L2.EV

set_option Elab.async false
set_option linter.all false
set_option maxRecDepth 100000
set_option maxHeartbeats 4000000
namespace L2.EV
open PySem PySem.Spec PyProof.Rows
/-! ### dicts whose keys are tuples -/
mutual
def toK : D → Option KD
  | .int i => some (.int i)
  | .str x => if PyData.strOk x then some (.str x) else none
  | .tup ds => match toKs ds with
    | some ks => some (.tup ks)
    | none => none
  | _ => none
def toKs : List D → Option (List KD)
  | [] => some []
  | d :: ds => match toK d, toKs ds with
    | some k, some ks => some (k :: ks)
    | _, _ => none
end
mutual
theorem toK_in {K : KX} {F : Hp} : ∀ (d : D) {k : KD} {v : V}, toK d = some k → Rl K F v d → kIn K F k v
  | .int i, k, v, h, r => by cases h; cases r; rfl
  | .str x, k, v, h, r => by
    unfold toK at h
    split at h
    · rename_i hz; cases h; cases r; exact ⟨rfl, hz⟩
    · cases h
  | .tup ds, k, v, h, r => by
    unfold toK at h
    split at h
    · rename_i ks hk
      cases h
      cases r with
      | tup q1 q2 => exact ⟨_, _, rfl, q1, toKs_in ds hk q2⟩
    · cases h
  | .non, k, v, h, _ => by cases h
  | .bl _, k, v, h, _ => by cases h
  | .lst _, k, v, h, _ => by cases h
  | .dct _ _, k, v, h, _ => by cases h
theorem toKs_in {K : KX} {F : Hp} : ∀ (ds : List D) {ks : List KD} {vs : List V}, toKs ds = some ks → RlA K F vs ds → kIns K F ks vs
  | [], ks, vs, h, r => by cases h; cases r; rfl
  | d :: ds, ks, vs, h, r => by
    unfold toKs at h
    split at h
    · rename_i k ks' h1 h2
      cases h
      cases r with
      | cons r1 r2 => exact ⟨_, _, rfl, toK_in d h1 r1, toKs_in ds h2 r2⟩
    · cases h
end
section
variable {X : Cx} {pins : List (Addr × Obj)} {σ : St} {H : Hp} {s : Shared}
mutual
theorem kIn_isV (I : Inv X pins σ H s) : ∀ (k : KD) {v : V} {u : Value}, kIn X.kx H k v → RelV v u → isV s.heap k u
  | .int i, v, u, h, r => by cases h; exact r
  | .str x, v, u, h, r => by obtain ⟨rfl, hz⟩ := h; exact ⟨r, hz⟩
  | .tup ks, v, u, h, r => by
    obtain ⟨a, vs, rfl, h1, h2⟩ := h
    cases r
    obtain ⟨its, rv, ⟨o, ho, hc, n, hd⟩, _⟩ := I.tuple h1
    exact ⟨a, o, its.toArray, n, rfl, ho, hc, hd, by simpa using kIns_isVs I ks h2 rv⟩
theorem kIns_isVs (I : Inv X pins σ H s) : ∀ (ks : List KD) {vs : List V} {us : List Value}, kIns X.kx H ks vs → Vals vs us → isVs s.heap ks us
  | [], vs, us, h, r => by
    obtain rfl : vs = [] := h
    cases r
    rfl
  | k :: ks, vs, us, h, r => by
    obtain ⟨v, w, rfl, h1, h2⟩ := h
    cases r with
    | cons r1 r2 => exact ⟨_, _, rfl, kIn_isV I k h1 r1, kIns_isVs I ks h2 r2⟩
end
end
abbrev En := List (List KD × Addr × V)
abbrev EnR (es : En) (xs : List (List KD × Addr × Value)) : Prop := Paired (fun p q => p.1 = q.1 ∧ p.2.1 = q.2.1 ∧ RelV p.2.2 q.2.2) es xs
/-- the value at a key -/
noncomputable def lookD : List (List KD) → List D → List KD → Option D
  | k' :: ks, d :: ds, k => if k' = k then some d else lookD ks ds k
  | _, _, _ => none
noncomputable def lookE : En → List KD → Option (Addr × V)
  | (k', b, v) :: es, k => if k' = k then some (b, v) else lookE es k
  | [], _ => none
theorem lookE_rel : ∀ {es : En} {xs : List (List KD × Addr × Value)} {k : List KD}, EnR es xs → (match lookE es k, atKey xs k with | some p, some q => p.1 = q.1 ∧ RelV p.2 q.2 | none, none => True | _, _ => False)
  | [], _, k, .nil => by simp [lookE, atKey]
  | (k', b, v) :: es, (k2, b2, u) :: xs, k, .cons ⟨h1, h2, h3⟩ t => by
    have h1 : k' = k2 := h1
    have h2 : b = b2 := h2
    subst h1 h2
    by_cases e : k' = k
    · subst e; simp [lookE, atKey]; exact h3
    · have ih := lookE_rel (k := k) t
      have e1 : lookE ((k', b, v) :: es) k = lookE es k := by simp [lookE, e]
      have e2 : atKey ((k', b, u) :: xs) k = atKey xs k := by simp [atKey, List.find?_cons, e]
      rw [e1, e2]
      exact ih
theorem look_some {K : KX} {F : Hp} : ∀ {es : En} {ks : List (List KD)} {ds : List D} {k : List KD} {d : D}, REn K F es ks ds → lookD ks ds k = some d → ∃ b v, lookE es k = some (b, v) ∧ Rl K F v d
  | _, _, _, k, d, .nil, h => by cases h
  | _, _, _, k, d, .cons (k := k') (b := b) (v := v) (d := d') (es := es) (ks := ks) (ds := ds) h1 h2 h3 h4, h => by
    by_cases e : k' = k
    · subst e
      simp [lookD] at h
      subst h
      exact ⟨b, v, by simp [lookE], h3⟩
    · simp [lookD, e] at h
      obtain ⟨b', v', q1, q2⟩ := look_some h4 h
      exact ⟨b', v', by simp [lookE, e, q1], q2⟩
theorem look_none {K : KX} {F : Hp} : ∀ {es : En} {ks : List (List KD)} {ds : List D} {k : List KD}, REn K F es ks ds → lookD ks ds k = none → lookE es k = none
  | _, _, _, k, .nil, h => rfl
  | _, _, _, k, .cons (k := k') (b := b) (v := v) (d := d') (es := es) (ks := ks) (ds := ds) h1 h2 h3 h4, h => by
    by_cases e : k' = k
    · subst e
      simp [lookD] at h
    · simp [lookD, e] at h
      simp [lookE, e, look_none h4 h]
/-- d[k] = v -/
noncomputable def putDs : List (List KD) → List D → List KD → D → List D
  | k' :: ks, d' :: ds, k, d => (if k' = k then d else d') :: putDs ks ds k d
  | _, _, _, _ => []
noncomputable def putE (es : En) (k : List KD) (v : V) : En := es.map fun p => if p.1 = k then (p.1, p.2.1, v) else p
theorem putE_rel {es : En} {xs : List (List KD × Addr × Value)} {k : List KD} {v : V} {u : Value} (h : EnR es xs) (r : RelV v u) : EnR (putE es k v) (xs.map (putAt k u)) := by
  induction h with
  | nil => exact .nil
  | @cons p q ps qs hq t ih =>
    refine .cons ?_ ih
    unfold putAt
    by_cases e : p.1 = k
    · have e' : q.1 = k := by rw [← hq.1]; exact e
      dsimp only
      rw [if_pos e, if_pos e']
      exact ⟨hq.1, hq.2.1, r⟩
    · have e' : ¬ q.1 = k := by rw [← hq.1]; exact e
      dsimp only
      rw [if_neg e, if_neg e']
      exact hq
theorem putE_ren {K : KX} {F : Hp} {k : List KD} {v : V} {d : D} (r : Rl K F v d) : ∀ {es : En} {ks : List (List KD)} {ds : List D}, REn K F es ks ds → REn K F (putE es k v) ks (putDs ks ds k d)
  | _, _, _, .nil => .nil
  | _, _, _, .cons (k := k') (b := b) (v := v') (d := d') h1 h2 h3 h4 => by
    have ih := putE_ren r (k := k) h4
    unfold putE putDs
    rw [List.map_cons]
    by_cases e : k' = k
    · rw [if_pos (show ((k', b, v') : List KD × Addr × V).1 = k from e), if_pos e]
      exact .cons h1 h2 r ih
    · rw [if_neg (show ¬ ((k', b, v') : List KD × Addr × V).1 = k from e), if_neg e]
      exact .cons h1 h2 h3 ih
theorem REn.append {K : KX} {F : Hp} {k : List KD} {b : Addr} {v : V} {d : D} (h1 : kIn K F (.tup k) (.ref b)) (h2 : kOk k) (r : Rl K F v d) : ∀ {es : En} {ks : List (List KD)} {ds : List D}, REn K F es ks ds → REn K F (es ++ [(k, b, v)]) (ks ++ [k]) (ds ++ [d])
  | _, _, _, .nil => .cons h1 h2 r .nil
  | _, _, _, .cons q1 q2 q3 q4 => .cons q1 q2 q3 (REn.append h1 h2 r q4)
theorem REn.length {K : KX} {F : Hp} : ∀ {es : En} {ks : List (List KD)} {ds : List D}, REn K F es ks ds → es.length = ks.length ∧ es.length = ds.length
  | _, _, _, .nil => ⟨rfl, rfl⟩
  | _, _, _, .cons _ _ _ t => by have := REn.length t; simp; omega
/-- the dict as the library's rules read it -/
theorem d_of {X : Cx} {pins : List (Addr × Obj)} {σ : St} {H F : Hp} {s : Shared} {a : Addr} {es : En} {ks : List (List KD)} {ds : List D} (I : Inv X pins σ H s) (sub : Same F H) (ha : H a = some (dOb X.kx a es)) (r : REn X.kx F es ks ds) :
    (a == sysModules) = false ∧ es.length ≤ sizeLine ∧ ∃ xs, EnR es xs ∧ s.heap.DictOfH (kKind X.prog X.w) a xs := by
  obtain ⟨⟨h1, h2, xs, q, o, en, ep, g1, g2, g3, g4, g5⟩, _⟩ := (show ObjOk X.prog X.w H s.heap a (.ext _) from I.hok a _ ha)
  refine ⟨h1, h2, xs, q, o, en, ep, g1, g2, g3, g4, fun x hx => ?_, g5⟩
  have all : ∀ {es : En} {xs : List (List KD × Addr × Value)} {ks : List (List KD)} {ds : List D}, EnR es xs → REn X.kx F es ks ds → ∀ x ∈ xs, (kKind X.prog X.w).is s.heap x.1 x.2.1 := by
    intro es xs ks ds q
    induction q generalizing ks ds with
    | nil => intro _ x hx; cases hx
    | @cons p q ps qs hq t ih =>
      intro r x hx
      cases r with
      | cons r1 r2 r3 r4 =>
        rcases List.mem_cons.mp hx with rfl | hx
        · obtain ⟨e1, e2, _⟩ := hq
          have e1 : _ = x.1 := e1
          have e2 : _ = x.2.1 := e2
          subst e1 e2
          exact ⟨kIn_isV I _ (kIn_mono sub r1) rfl, r2.1, r2.2⟩
        · exact ih r4 x hx
  exact all q r x hx
instance (k : List KD) : Decidable (kOk k) := by unfold kOk; exact inferInstance
def keyOf (d : D) : Option (List KD) := match d with
  | .tup ds => match toKs ds with
    | some k => if kOk k then some k else none
    | none => none
  | _ => none
theorem keyOf_in {K : KX} {F H : Hp} {v : V} {d : D} {k : List KD} (h : keyOf d = some k) (p : Pk K F H v d) : ∃ b, v = .ref b ∧ kIn K F (.tup k) (.ref b) ∧ kOk k := by
  unfold keyOf at h
  split at h
  · split at h
    · rename_i ds k' hk
      split at h
      · rename_i ho
        cases h
        have r := p.tupF
        cases r with
        | tup q1 q2 => exact ⟨_, rfl, ⟨_, _, rfl, q1, toKs_in _ hk q2⟩, ho⟩
      · cases h
    · cases h
  · cases h
section
variable {X : Cx} {pos : Pos} {e a b : Expr}
theorem kroom {k : Nat} {A : Around} (hr : Room k A) : kRoom A.in1 := by
  have := hr.un
  show A.units + 1 + 64 < cLine
  omega
/-! ### {} -/
def cDnew : CE := fun _ => some (true, .dct [] [])
theorem se_dnew : SE X (.Dict [] [] pos) cDnew := ⟨fun pins s σ H Q I ⟨F, env, r, S, hc, k⟩ => by
  cases hc
  refine wpAny_Dict_empty ⟨.ref s.heap.objs.size, _, I.laid (a := s.heap.objs.size) (o := dOb X.kx s.heap.objs.size []) (t' := s.toks) (fun _ _ q => Heap.get?_push_of_some _ q) (Nat.le_refl _) ?_, rfl,
    k _ _ F (.new S.sub I.fresh) ⟨_, _, rfl, I.fresh, S.sub.free I.fresh, upd_same, .dct .nil⟩⟩
  refine ⟨⟨beq_eq_false_iff_ne.mpr (Ne.symm (Nat.ne_of_lt I.big)), Nat.zero_le _, [], .nil, _, #[], 0, Heap.get?_push_size _ rfl, ⟨rfl, rfl, rfl⟩, rfl, rfl, List.nodup_nil⟩, ⟨_, Heap.get?_push_size _ rfl⟩, ?_⟩
  rintro h1 h2 ⟨p1, p2, xs, p3, o, en, ep, g1, g2⟩ hk
  exact ⟨p1, p2, xs, p3, o, en, ep, hk _ g1, g2⟩⟩
/-! ### d[k] = v -/
theorem storedH_E {es : En} {xs : List (List KD × Addr × Value)} {k : List KD} {b : Addr} {v : V} {u : Value} (q : EnR es xs) (r : RelV v u) :
    EnR (match lookE es k with | some _ => putE es k v | none => es ++ [(k, b, v)]) (storedH xs k b u) := by
  have h := lookE_rel (k := k) q
  cases e1 : lookE es k with
  | none =>
    rw [e1] at h
    cases e2 : atKey xs k with
    | some p => rw [e2] at h; exact h.elim
    | none =>
      rw [storedH_new e2]
      have app : ∀ {es : En} {xs : List (List KD × Addr × Value)}, EnR es xs → EnR (es ++ [(k, b, v)]) (xs ++ [(k, b, u)]) := by
        intro es xs q
        induction q with
        | nil => exact .cons ⟨rfl, rfl, r⟩ .nil
        | cons hq t ih => exact .cons hq ih
      exact app q
  | some p =>
    rw [e1] at h
    cases e2 : atKey xs k with
    | none => rw [e2] at h; exact h.elim
    | some p' => rw [storedH_old e2]; exact putE_rel q r
def rSetN (K : KX) : TSet := fun o i v H Q => ∃ (a b : Addr) (es : En) (F : Hp) (ks : List (List KD)) (ds : List D) (k : List KD), o = .ref a ∧ i = .ref b ∧ H a = some (dOb K a es) ∧ Same F H ∧ REn K F es ks ds ∧ kIn K F (.tup k) (.ref b) ∧ kOk k ∧ es.length < sizeLine ∧
  Q (upd H a (dOb K a (match lookE es k with | some _ => putE es k v | none => es ++ [(k, b, v)])))
theorem putE_length {es : En} {k : List KD} {v : V} : (putE es k v).length = es.length := by simp [putE]
theorem set_dct (hu : kRoom X.A.in1) : PSet X (rSetN X.kx) := by
  intro pins s σ H o i v ov iv u Q I ro ri rv h
  obtain ⟨a, b, es, F, ks, ds, k, rfl, rfl, ha, sub, hr, hk, hko, hl, q⟩ := h
  cases ro
  cases ri
  obtain ⟨h1, h2, xs, hq, dd⟩ := d_of I sub ha hr
  have hz : xs.length ≤ sizeLine := by rw [← Paired.length hq]; exact h2
  refine wpAny_setItem_heap (knd := kKind X.prog X.w) (hsz := hz) hu ⟨kIn_isV I _ (kIn_mono sub hk) rfl, hko.1, hko.2⟩ dd fun h' dd' hs => ?_
  obtain ⟨o', en, ep, g1, g2, g3, g4, _, g6⟩ := dd'
  refine ⟨_, d_write I (by rw [ha]; exact True.intro) hs ⟨o', g1⟩ ?_, q⟩
  refine ⟨⟨h1, ?_, storedH xs k b u, storedH_E hq rv, o', en, ep, g1, g2, g3, g4, g6⟩, ⟨o', g1⟩, ?_⟩
  · split
    · rw [putE_length]; exact h2
    · rw [List.length_append]; simp; omega
  · rintro h1 h2 ⟨p1, p2, xs, p3, o, en, ep, g1, g2⟩ hk
    exact ⟨p1, p2, xs, p3, o, en, ep, hk _ g1, g2⟩
theorem PSet.or {t t' : TSet} (h : PSet X t) (h' : PSet X t') : PSet X (fun o i v H Q => t o i v H Q ∨ t' o i v H Q) := by
  intro pins s σ H o i v ov iv u Q I ro ri rv q
  rcases q with q | q
  · exact h pins s σ H o i v ov iv u Q I ro ri rv q
  · exact h' pins s σ H o i v ov iv u Q I ro ri rv q
noncomputable def putKD (ks : List (List KD)) (ds : List D) (k : List KD) (d : D) : D := match lookD ks ds k with
  | some _ => .dct ks (putDs ks ds k d)
  | none => .dct (ks ++ [k]) (ds ++ [d])
/-- x[i] = v: a list of one's own, a dict of one's own -/
noncomputable def cSetItem (i : Nat) (ci : CP) (c : CE) : CS := fun env => match c env, ci env, env[i]? with
  | some r, some (.int k), some (some (true, .lst ds)) => match ixN ds.length k with
    | some j => some (.nx (env.set i (some (true, .lst (ds.set j r.2)))))
    | none => none
  | some r, some kd, some (some (true, .dct ks ds)) => match keyOf kd with
    | some k => if ks.length < sizeLine then some (.nx (env.set i (some (true, putKD ks ds k r.2)))) else none
    | none => none
  | _, _, _ => none
theorem ss_setItem (i : Nat) {x : Str} {px tp : Pos} {at_ : Expr} {ci : CP} {c : CE} (hv : PE X (.Name x px) (tVar i)) (hi : SP X at_ ci) (h : SE X e c)
    (hp : ∀ te to ti, PE X e te → PE X (.Name x px) to → PE X at_ ti → PS X (.Assign [.Subscript (.Name x px) at_ tp] e pos) (tAsg te (gSub to ti (fun o i v H Q => rSetL o i v H Q ∨ rSetN X.kx o i v H Q)))) :
    SS X (.Assign [.Subscript (.Name x px) at_ tp] e pos) (cSetItem i ci c) := ⟨PS.mono (hp _ _ _ h.pe hv hi.pe) fun E σ H ⟨F0, H0, B, F, env, o, S, en, hc, k⟩ => by
  unfold cSetItem at hc
  split at hc
  · rename_i r kk ds h1 h2 h3
    split at hc
    · rename_i j hj
      cases hc
      obtain ⟨q, o, q1, q2, q3, q4⟩ := S.ow i _ h3
      cases q4 with
      | lst q4 =>
        refine ⟨F, env, r, S, h1, fun v H' F' x hv => ?_⟩
        obtain ⟨F2, x2, r2, _⟩ := VR.demote x hv
        refine ⟨.ref q, q1, ?_⟩
        refine ⟨F2, env, _, S.ext x2, h2, fun v3 H3 F3 x3 p3 => .inl ?_⟩
        have x23 := x2.trans x3
        refine ⟨q, _, kk, j, rfl, p3.int, x23.hh _ _ q3, by rw [q4.length]; exact hj, ?_⟩
        obtain ⟨S4, E4⟩ := (S.ext x23).own_upd (en.step x23) h3 q1 (.lst ((RlA.mono x23.ff _ _ q4).set (Rl.mono x3.ff _ _ r2) j))
        exact k σ _ F3 S4 E4
    · cases hc
  · rename_i r kd ks ds h1 h2 h3
    split at hc
    · rename_i kk hkk
      split at hc
      · rename_i hl
        cases hc
        obtain ⟨q, o, q1, q2, q3, q4⟩ := S.ow i _ h3
        cases q4 with
        | dct q4 =>
          rename_i es
          refine ⟨F, env, r, S, h1, fun v H' F' x hv => ?_⟩
          obtain ⟨F2, x2, r2, _⟩ := VR.demote x hv
          refine ⟨.ref q, q1, ?_⟩
          refine ⟨F2, env, _, S.ext x2, h2, fun v3 H3 F3 x3 p3 => .inr ?_⟩
          have x23 := x2.trans x3
          obtain ⟨b, rfl, hk1, hk2⟩ := keyOf_in hkk p3
          have q4' := REn.mono x23.ff _ _ _ q4
          refine ⟨q, b, es, F3, ks, ds, kk, rfl, rfl, x23.hh _ _ q3, x23.sub, q4', hk1, hk2, by rw [q4.length.1]; exact hl, ?_⟩
          have hcell : Cell X.kx F3 q (dOb X.kx q (match lookE es kk with | some _ => putE es kk v | none => es ++ [(kk, b, v)])) (putKD ks ds kk r.2) := by
            unfold putKD
            cases hlk : lookD ks ds kk with
            | none =>
              rw [look_none q4' hlk]
              exact .dct (q4'.append hk1 hk2 (Rl.mono x3.ff _ _ r2))
            | some d =>
              obtain ⟨b', v', e1, _⟩ := look_some q4' hlk
              rw [e1]
              exact .dct (putE_ren (Rl.mono x3.ff _ _ r2) q4')
          obtain ⟨S4, E4⟩ := (S.ext x23).own_upd (en.step x23) h3 q1 hcell
          exact k σ _ F3 S4 E4
      · cases hc
    · cases hc
  · cases hc⟩
/-! ### d.get(k, x) -/
def tGet2 (K : KX) (td ty tx : TE) : TE := fun σ H Q => td σ H fun x H1 => ∃ (a : Addr) (es : En), x = .ref a ∧ H1 a = some (dOb K a es) ∧ ty σ H1 fun y H2 => tx σ H2 fun z H3 =>
  ∃ (F : Hp) (ks : List (List KD)) (ds : List D) (k : List KD) (b : Addr), Same F H3 ∧ H3 a = some (dOb K a es) ∧ REn K F es ks ds ∧ y = .ref b ∧ kIn K F (.tup k) (.ref b) ∧ kOk k ∧ Q (match lookE es k with | some p => p.2 | none => z) H3
theorem pe_get2N {o f : Expr} {apos cpos : Pos} {td ty tx : TE} (hu : kRoom X.A.in1) (ho : PE X o td) (he : PE X e ty) (hf : PE X f tx) (m : M2 X o "get" apos e f cpos) : PE X (.Call (.Attribute o "get" apos) [e, f] [] cpos) (tGet2 X.kx td ty tx) := by
  intro pins s σ H Q I h
  refine wpAny_Call_method m.base m.few m.line PySem.F.plainAttrs_dict PySem.F.slot_dict_get PySem.F.type_dict_get (thn (ho pins s σ H _ I h) fun u s1 ⟨x, H1, I1, rx, a, es, ex, ha, q1⟩ => ?_)
  subst ex
  obtain rfl : u = Value.ref a := rx
  obtain ⟨⟨_, _, xs, _, o', en, ep, g1, g2, _⟩, _⟩ := (show ObjOk X.prog X.w H1 s1.heap a (.ext _) from I1.hok a _ ha)
  refine ⟨⟨o', g1, g2.1⟩, fun b q => ?_, ?_⟩
  · cases q; exact ⟨o', g1, g2.2.1⟩
  rw [m.trees]
  refine Calls.callWith_builtin rfl (Calls.evalArgs_plain (Calls.spliced_cons (thn (he pins s1 σ H1 _ I1 q1) fun iv s2 ⟨y, H2, I2, ry, q2⟩ => Calls.spliced_cons (thn (hf pins s2 σ H2 _ I2 q2) fun fv s3 ⟨z, H3, I3, rz, F, ks, ds, k, b, sub, ha3, hr, ey, hk, hko, q3⟩ => Calls.spliced_nil ?_))))
  subst ey
  cases ry
  obtain ⟨h1, h2, xs, hq, dd⟩ := d_of I3 sub ha3 hr
  refine call_meetsIn PySem.F.slot_dict_get dd.typeIs PySem.F.entry_dict_get (PySem.F.args_dict_get_3 _ _ _) (meetsH_dict_get_default (kKind X.prog X.w) a b h1 fv) ⟨hu, k, xs, ⟨kIn_isV I3 _ (kIn_mono sub hk) rfl, hko.1, hko.2⟩, dd, ?_⟩
  have hrel := lookE_rel (k := k) hq
  refine ⟨_, H3, I3.tok _, ?_, q3⟩
  cases e1 : lookE es k with
  | none =>
    rw [e1] at hrel
    cases e2 : atKey xs k with
    | some p => rw [e2] at hrel; exact hrel.elim
    | none => exact rz
  | some p =>
    rw [e1] at hrel
    cases e2 : atKey xs k with
    | none => rw [e2] at hrel; exact hrel.elim
    | some p' => rw [e2] at hrel; exact hrel.2
noncomputable def cGet2 (c : CP) (ck : CP) (cx : CE) : CE := fun env => match c env, ck env, cx env with
  | some (.dct ks ds), some kd, some r => match keyOf kd with
    | some k => match lookD ks ds k with
      | some d => some (false, d)
      | none => some r
    | none => none
  | _, _, _ => none
theorem se_get2 {o f : Expr} {apos cpos : Pos} {c ck : CP} {cx : CE} (hu : kRoom X.A.in1) (ho : SP X o c) (he : SP X e ck) (hf : SE X f cx) (m : M2 X o "get" apos e f cpos) : SE X (.Call (.Attribute o "get" apos) [e, f] [] cpos) (cGet2 c ck cx) :=
  ⟨PE.mono (pe_get2N hu ho.pe he.pe hf.pe m) fun σ H Q ⟨F, env, r, S, hc, k⟩ => by
    unfold cGet2 at hc
    split at hc
    · rename_i ks ds kd rx h1 h2 h3
      split at hc
      · rename_i kk hkk
        refine ⟨F, env, _, S, h1, fun v1 H1 F1 x1 p1 => ?_⟩
        obtain ⟨a, es, rfl, ha, hr⟩ := p1.dct x1.sub
        refine ⟨a, es, rfl, ha, F1, env, _, S.ext x1, h2, fun v2 H2 F2 x2 p2 => ⟨F2, env, _, (S.ext x1).ext x2, h3, fun v3 H3 F3 x3 p3 => ?_⟩⟩
        obtain ⟨b, rfl, hk1, hk2⟩ := keyOf_in hkk p2
        have x23 := x2.trans x3
        have hr3 := REn.mono x23.ff _ _ _ hr
        refine ⟨F3, ks, ds, kk, b, x3.sub, x23.hh _ _ ha, hr3, rfl, kIn_mono x3.ff hk1, hk2, ?_⟩
        have xx := x1.trans x23
        split at hc
        · rename_i d hlk
          cases hc
          obtain ⟨b', v', e1, e2⟩ := look_some hr3 hlk
          rw [e1]
          exact k _ H3 F3 xx e2
        · rename_i hlk
          cases hc
          rw [look_none hr3 hlk]
          exact k _ H3 F3 xx (p3.older (x1.trans x2).hh)
      · cases hc
    · cases hc⟩
end
end L2.EV

set_option Elab.async false
set_option linter.all false
set_option maxRecDepth 100000
set_option maxHeartbeats 4000000
namespace L2.EV
open PySem PySem.Spec PyProof.Rows
/-! ### slices with a step: lists -/
def pickIx (n : Nat) (lo hi st : Option Int) : List Nat := sliceRange (sliceBounds lo hi st n).1 (sliceBounds lo hi st n).2.1 (sliceBounds lo hi st n).2.2
def pickD {α : Type} (xs : List α) (lo hi st : Option Int) : List α := (pickIx xs.length lo hi st).filterMap (xs[·]?)
theorem pick_vals {vs : List V} {us : List Value} (r : Vals vs us) : ∀ ix : List Nat, Vals (ix.filterMap (vs[·]?)) (ix.filterMap (us[·]?))
  | [] => .nil
  | i :: ix => by
    have ih := pick_vals r ix
    rcases Nat.lt_or_ge i vs.length with h | h
    · obtain ⟨u, hu, ru⟩ := r.get (List.getElem?_eq_getElem h)
      rw [List.filterMap_cons, List.filterMap_cons, List.getElem?_eq_getElem h, hu]
      exact .cons ru ih
    · rw [List.filterMap_cons, List.filterMap_cons, List.getElem?_eq_none h, List.getElem?_eq_none (by rw [← r.length]; exact h)]
      exact ih
theorem pick_rl {K : KX} {F : Hp} {vs : List V} {ds : List D} (r : RlA K F vs ds) : ∀ ix : List Nat, RlA K F (ix.filterMap (vs[·]?)) (ix.filterMap (ds[·]?))
  | [] => .nil
  | i :: ix => by
    have ih := pick_rl r ix
    rcases Nat.lt_or_ge i vs.length with h | h
    · obtain ⟨d, hd, rd⟩ := r.getV (List.getElem?_eq_getElem h)
      rw [List.filterMap_cons, List.filterMap_cons, List.getElem?_eq_getElem h, hd]
      exact .cons rd ih
    · rw [List.filterMap_cons, List.filterMap_cons, List.getElem?_eq_none h, List.getElem?_eq_none (by rw [← r.length]; exact h)]
      exact ih
theorem RlA.pick {K : KX} {F : Hp} {vs : List V} {ds : List D} (r : RlA K F vs ds) (lo hi st : Option Int) : RlA K F (pickD vs lo hi st) (pickD ds lo hi st) := by
  unfold pickD
  rw [r.length]
  exact pick_rl r _
section
variable {X : Cx} {e : Expr} {pos p2 : Pos}
def tSl3 (K : PySem.W.Frag) (te : TE) (tl th tt : TO) : TE := fun σ H Q => te σ H fun x H1 => tl σ H1 fun l H2 => th σ H2 fun u H3 => tt σ H3 fun t H4 =>
  ∃ a xs, x = .ref a ∧ SqL K H4 a xs ∧ t ≠ some 0 ∧ (pickD xs l u t).length ≤ sizeLine ∧ ∀ p, H4 p = none → Q (.ref p) (upd H4 p (.lst (pickD xs l u t)))
theorem pe_slice3 {te : TE} {tl th tt : TO} {lo hi : Option Expr} {st : Expr} (he : PE X e te) (hl : PO X lo tl) (hu : PO X hi th) (ht : PO X (some st) tt) : PE X (.Subscript e (.Slice lo hi (some st) p2) pos) (tSl3 X.K te tl th tt) := by
  intro pins s σ H Q I h
  refine Subscript_ (thn (he pins s σ H _ I h) fun v s1 ⟨x, H1, I1, r1, q1⟩ => ?_)
  refine wpAny_Slice (thn (hl pins s1 σ H1 _ I1 q1) fun vl s2 ⟨l, H2, I2, pl, q2⟩ => thn (hu pins s2 σ H2 _ I2 q2) fun vu s3 ⟨u, H3, I3, pu, q3⟩ => ?_)
  refine thn (ht pins s3 σ H3 _ I3 q3) fun vt s4 ⟨t, H4, I4, pt, q4⟩ => ?_
  obtain ⟨a, xs, rfl, hx, h0, hz, q⟩ := q4
  cases r1
  have I5 : Inv X pins σ H4 { s4 with heap := s4.heap.push { cls := .type "slice", data := .fields #[vl, vu, vt] } } := I4.kept (t' := s4.toks) fun b ob q => Heap.get?_push_of_some _ q
  obtain ⟨its, r, hl5, hz5⟩ := I5.list hx
  have hlen := r.length
  show wpAny (model X.prog X.w) X.A (subscriptTail e (.Slice lo hi (some st) p2) (.ref a) (.ref s4.heap.objs.size)) (EP X pins σ Q) X.xe { s4 with heap := s4.heap.push { cls := .type "slice", data := .fields #[vl, vu, vt] } }
  refine tail_any (T := "list") (ops := [.ref a, .ref s4.heap.objs.size]) hl5.isList.typeIs slot_list_getitem.lookup ?_ (by with_unfolding_all rfl)
  refine wpAny_getItem_list_slice hl5.isList (Heap.IsSliceOf.new ..) pl pu pt h0 ?_ (by rw [List.size_toArray] <;> omega)
  refine ⟨.ref _, _, I5.laid (t' := s4.toks) (o := .lst (pickD xs l u t)) (fun b ob q => Heap.get?_push_of_some _ q) (Nat.le_refl _) ?_, rfl, q _ (I5.hok.fresh (Nat.le_refl _))⟩
  refine ⟨hz, (pickIx xs.length l u t).filterMap (its[·]?), 0, pick_vals r _, ?_⟩
  have e1 : slicePick its.toArray l u t = ((pickIx xs.length l u t).filterMap (its[·]?)).toArray := by
    unfold slicePick pickIx
    rw [List.size_toArray, ← hlen]
    congr 1
    congr 1
    funext i
    simp
  rw [e1]
  exact Heap.get?_push_size _ rfl
def cSl3 (c : CP) (l h t : CO) : CE := fun env => match c env, l env, h env, t env with
  | some (.lst ds), some lo, some hi, some st => if st ≠ some 0 ∧ (pickD ds lo hi st).length ≤ sizeLine then some (true, .lst (pickD ds lo hi st)) else none
  | _, _, _, _ => none
theorem se_slice3 {lo hi : Option Expr} {st : Expr} {c : CP} {l h t : CO} (he : SP X e c) (hl : SO X lo l) (hh : SO X hi h) (ht : SO X (some st) t) : SE X (.Subscript e (.Slice lo hi (some st) p2) pos) (cSl3 c l h t) :=
  ⟨PE.mono (pe_slice3 he.pe hl.pe hh.pe ht.pe) fun σ H Q ⟨F, env, r, S, hc, k⟩ => by
    unfold cSl3 at hc
    split at hc
    · rename_i ds a b d h1 h2 h3 h4
      split at hc
      · rename_i hz
        cases hc
        refine ⟨F, env, _, S, h1, fun v H1 F1 x1 p1 => ⟨F1, env, a, S.ext x1, h2, fun H2 F2 x2 => ⟨F2, env, b, (S.ext x1).ext x2, h3, fun H3 F3 x3 => ⟨F3, env, d, ((S.ext x1).ext x2).ext x3, h4, fun H4 F4 x4 => ?_⟩⟩⟩⟩
        have p3 := ((p1.ext x2).ext x3).ext x4
        have x : Ext F H F4 H4 := ((x1.trans x2).trans x3).trans x4
        obtain ⟨q, ws, rfl, ha, ra⟩ := p3.lst x.sub
        have rp := ra.pick a b d
        exact ⟨q, ws, rfl, ha, hz.1, by rw [rp.length]; exact hz.2, fun p hp => k _ _ F4 (x.trans (.new x.sub hp)) ⟨p, _, rfl, x.hh.free hp, x.sub.free hp, upd_same, .lst rp⟩⟩
      · cases hc
    · cases hc⟩
end
end L2.EV
namespace HT
open PySem PySem.Spec PyProof.Rows
section
variable {prog : Program} {w : World} {A : Around} {E : Value → Shared → Prop} {s : Shared}
theorem getItem_tuple_whole {t sl : Addr} {items : Array Value} {vl vu : Value} {lo hi : Option Int} {Q : Value → Shared → Prop} (ht : IsTup s.heap t items) (hs : s.heap.IsSliceOf sl vl vu .none) (pl : IsPart vl lo) (pu : IsPart vu hi)
    (hw : sIx items.size 0 lo = 0 ∧ sIx items.size items.size hi = items.size) (h : Q (.ref t) s) : wpAny (model prog w) A (getItem (.ref t) (.ref sl)) Q E s := by
  obtain ⟨os, hos, hcs, hds⟩ := id hs
  have hTs : s.TypeIs (.ref sl) "slice" := ⟨os, hos, hcs⟩
  unfold getItem
  try with_reducible refine wpAny_holding ?_
  first | refine wpAny_bind (wpAny_pure ?_) | skip
  refine wpAny_bind (wpAny_sequenceKey ht.typeIs (by decide) ?_)
  refine wpAny_bind (wpAny_callSpecial?_slot (name := Str.ofString "__getitem__") ht.typeIs PyProof.Rows.slot_tuple_getitem
    (wpAny_call_entry PyProof.Rows.slot_tuple_getitem ht.typeIs entry_tuple_getitem ?_ (args_tuple_getitem _ _)))
  show wpAny _ _ (Builtin.Tuple.tupleItemsOf (.ref t) >>= _) _ _ s
  refine wpAny_bind (tupleItemsOf_ ht ?_)
  refine wpAny_bind (wpAny_typeOf hTs ?_)
  rw [if_pos (by decide)]
  refine wpAny_bind (sliceApplied_gen hs pl pu ?_)
  have hyes : ((((sIx items.size 0 lo : Nat) : Int) == 0 && (1 : Int) == 1 && (sIx items.size items.size hi - sIx items.size 0 lo) == items.size) = true) := by
    rw [hw.1, hw.2]; simp
  show wpAny _ _ (if (((sIx items.size 0 lo : Nat) : Int) == 0 && (1 : Int) == 1 && (sIx items.size items.size hi - sIx items.size 0 lo) == items.size) = true then _ else _) _ _ s
  rw [if_pos hyes]
  refine wpAny_bind (m := Builtin.Tuple.tupleIsExact _) ?_
  unfold Builtin.Tuple.tupleIsExact
  refine wpAny_bind (wpAny_typeOf ht.typeIs (wpAny_pure ?_))
  rw [if_pos (by decide)]
  exact wpAny_bind (wpAny_rule (wpAny_pure ⟨_, rfl, wpAny_pure h⟩))
end
end HT
namespace L2
open PySem PySem.Spec PyProof.Rows
section
variable {X : Cx}
/-- t[lo:hi] of a tuple, where it is the whole of it -/
def rSlW (K : PySem.W.Frag) : V → Option Int → Option Int → Hp → VK → Prop := fun x lo hi H Q => ∃ a xs, x = .ref a ∧ SqT K H a xs ∧
  (HT.sIx xs.length 0 lo = 0 ∧ HT.sIx xs.length xs.length hi = xs.length) ∧ Q (.ref a) H
theorem sl_whole : SlR X (rSlW X.K) := by
  intro pins s σ H x v vl vu lo hi sl Q I rx hs pl pu h
  obtain ⟨a, xs, rfl, hx, hw, q⟩ := h
  cases rx
  obtain ⟨its, r, ht, hz⟩ := I.tuple hx
  have hlen : its.toArray.size = xs.length := by rw [List.size_toArray]; exact r.length.symm
  refine ⟨"tuple", _, PyProof.Rows.slot_tuple_getitem.lookup, ht.typeIs, ?_⟩
  exact HT.getItem_tuple_whole ht hs pl pu (by rw [hlen]; exact hw) ⟨.ref a, H, I, rfl, q⟩
end
end L2
namespace L2.EV
open PySem PySem.Spec PyProof.Rows
section
variable {X : Cx} {e : Expr} {pos : Pos}
/-- a slice of anything that has one -/
def dSlA : D → Option Int → Option Int → Option (Bool × D)
  | .lst ds, lo, hi => some (true, .lst (cutD ds lo hi))
  | .tup ds, lo, hi => some (false, .tup (cutD ds lo hi))
  | .str z, lo, hi => if z.length ≤ sizeLine then some (false, .str (cutS z lo hi)) else none
  | _, _, _ => none
def cSlA (c : CP) (l h : CO) : CE := fun env => match c env, l env, h env with
  | some d, some lo, some hi => dSlA d lo hi
  | _, _, _ => none
theorem cut_whole {α : Type} {xs : List α} {lo hi : Option Int} (h : HT.sIx xs.length 0 lo = 0 ∧ HT.sIx xs.length xs.length hi = xs.length) : cutD xs lo hi = xs := by
  unfold cutD
  rw [h.1, h.2]
  simp
theorem Pk.tupR {K : KX} {F H : Hp} {v : V} {ds : List D} (h : Pk K F H v (.tup ds)) : Rl K F v (.tup ds) := by
  rcases h with h | ⟨p, o, _, _, h⟩
  · exact h
  · cases h
theorem se_sliceA {lo hi : Option Expr} {p2 : Pos} {c : CP} {l h : CO} (he : SP X e c) (hl : SO X lo l) (hh : SO X hi h) : SE X (.Subscript e (.Slice lo hi none p2) pos) (cSlA c l h) :=
  ⟨PE.mono (pe_slice (sl_list.or (sl_tup.or (sl_str.or sl_whole))) he.pe hl.pe hh.pe) fun σ H Q ⟨F, env, r, S, hc, k⟩ => by
    unfold cSlA at hc
    split at hc
    · rename_i d a b h1 h2 h3
      refine ⟨F, env, d, S, h1, fun v H1 F1 x1 p1 => ⟨F1, env, a, S.ext x1, h2, fun H2 F2 x2 => ⟨F2, env, b, (S.ext x1).ext x2, h3, fun H3 F3 x3 => ?_⟩⟩⟩
      have p3 := (p1.ext x2).ext x3
      have x : Ext F H F3 H3 := (x1.trans x2).trans x3
      unfold dSlA at hc
      split at hc
      · cases hc
        obtain ⟨q, ws, rfl, ha, ra⟩ := p3.lst x.sub
        exact .inl ⟨q, ws, rfl, ha, fun p hp => k _ _ F3 (x.trans (.new x.sub hp)) ⟨p, _, rfl, x.hh.free hp, x.sub.free hp, upd_same, .lst (ra.cut a b)⟩⟩
      · rename_i ds
        cases hc
        obtain ⟨q, ws, rfl, ha, ra⟩ := p3.tup x.sub
        by_cases hw : HT.sIx ds.length 0 a = 0 ∧ HT.sIx ds.length ds.length b = ds.length
        · refine .inr (.inr (.inr ⟨q, ws, rfl, ha, by rw [ra.length]; exact hw, k _ H3 F3 x ?_⟩))
          show Rl X.kx F3 _ (.tup (cutD ds a b))
          rw [cut_whole hw]
          exact p3.tupR
        · exact .inr (.inl ⟨q, ws, rfl, ha, by rw [ra.length]; exact hw, fun p hp => k _ _ _ (x.trans (.newF x.sub hp)) (Rl.tup (.inl (.inl upd_same)) (RlA.mono (upd_same' (x.sub.free hp)) _ _ (ra.cut a b)))⟩)
      · split at hc
        · rename_i hz
          cases hc
          cases p3.str
          exact .inr (.inr (.inl ⟨_, rfl, hz, k _ H3 F3 x (Rl.str _)⟩))
        · cases hc
      · cases hc
    · cases hc⟩
end
end L2.EV

set_option Elab.async false
set_option linter.all false
set_option maxRecDepth 100000
set_option maxHeartbeats 4000000
namespace L2.EV
open PySem PySem.Spec PyProof.Rows
section
variable {X : Cx} {e : Expr} {pos : Pos}
/-! ### methods of a list of one's own -/
def cM0 (i : Nat) (f : List D → List D) : CS := fun env => match env[i]? with
  | some (some (true, .lst ds)) => some (.nx (env.set i (some (true, .lst (f ds)))))
  | _ => none
theorem ss_m0 (i : Nat) {x m : Str} {p apos cpos : Pos} {r : V → List V → Hp → VK → Prop} {f : List D → List D} {fv : List V → List V}
    (hr : ∀ l xs H (Q : VK), H l = some (.lst xs) → Q .non (upd H l (.lst (fv xs))) → r (.ref l) [] H Q) (hf : ∀ (K : KX) F vs ds, RlA K F vs ds → RlA K F (fv vs) (f ds))
    (hp : PS X (.Expr (.Call (.Attribute (.Name x p) m apos) [] [] cpos) pos) (tDrop (tBM0 X.K "list" r (tVar i)))) :
    SS X (.Expr (.Call (.Attribute (.Name x p) m apos) [] [] cpos) pos) (cM0 i f) :=
  ⟨PS.mono hp fun E σ H ⟨F0, H0, B, F, env, o, S, en, hc, k⟩ => by
    unfold cM0 at hc
    split at hc
    · rename_i ds h2
      cases hc
      obtain ⟨q, o, q1, q2, q3, q4⟩ := S.ow i _ h2
      cases q4 with
      | lst q4 =>
        refine ⟨.ref q, q1, .inl ⟨rfl, _, .inl (.inl q3)⟩, ?_⟩
        obtain ⟨S4, E4⟩ := S.own_upd en h2 q1 (.lst (hf _ _ _ _ q4))
        exact hr q _ H _ q3 (k σ _ F S4 E4)
    · cases hc⟩
theorem ss_clear (i : Nat) {x : Str} {p apos cpos : Pos} (hp : PS X (.Expr (.Call (.Attribute (.Name x p) "clear" apos) [] [] cpos) pos) (tDrop (tBM0 X.K "list" rClear (tVar i)))) :
    SS X (.Expr (.Call (.Attribute (.Name x p) "clear" apos) [] [] cpos) pos) (cM0 i fun _ => []) :=
  ss_m0 (fv := fun _ => []) i (fun l xs H Q h q => ⟨l, xs, rfl, rfl, h, q⟩) (fun _ _ _ _ _ => .nil) hp
theorem RlA.reverse {K : KX} {F : Hp} : ∀ {vs : List V} {ds : List D}, RlA K F vs ds → RlA K F vs.reverse ds.reverse
  | _, _, .nil => .nil
  | _, _, .cons h t => by
    rw [List.reverse_cons, List.reverse_cons]
    exact (RlA.reverse t).append (.cons h .nil)
theorem ss_reverse (i : Nat) {x : Str} {p apos cpos : Pos} (hp : PS X (.Expr (.Call (.Attribute (.Name x p) "reverse" apos) [] [] cpos) pos) (tDrop (tBM0 X.K "list" rReverse (tVar i)))) :
    SS X (.Expr (.Call (.Attribute (.Name x p) "reverse" apos) [] [] cpos) pos) (cM0 i List.reverse) :=
  ss_m0 (fv := List.reverse) i (fun l xs H Q h q => ⟨l, xs, rfl, rfl, h, q⟩) (fun _ _ _ _ h => h.reverse) hp
/-! pop -/
def cPop (i : Nat) (j : Option Nat) : CS := fun env => match env[i]? with
  | some (some (true, .lst ds)) => match ds.getLast? with
    | some d => match j with
      | some j => some (.nx ((env.set i (some (true, .lst ds.dropLast))).set j (some (false, d))))
      | none => some (.nx (env.set i (some (true, .lst ds.dropLast))))
    | none => none
  | _ => none
theorem ss_pop (i : Nat) {x : Str} {p apos cpos : Pos} (hp : PS X (.Expr (.Call (.Attribute (.Name x p) "pop" apos) [] [] cpos) pos) (tDrop (tBM0 X.K "list" rPop (tVar i)))) :
    SS X (.Expr (.Call (.Attribute (.Name x p) "pop" apos) [] [] cpos) pos) (cPop i none) :=
  ⟨PS.mono hp fun E σ H ⟨F0, H0, B, F, env, o, S, en, hc, k⟩ => by
    unfold cPop at hc
    split at hc
    · rename_i ds h2
      split at hc
      · rename_i d hd
        cases hc
        obtain ⟨q, o, q1, q2, q3, q4⟩ := S.ow i _ h2
        cases q4 with
        | lst q4 =>
          obtain ⟨ws, w, rfl, r1, r2⟩ := q4.snoc hd
          refine ⟨.ref q, q1, .inl ⟨rfl, _, .inl (.inl q3)⟩, ?_⟩
          obtain ⟨S4, E4⟩ := S.own_upd en h2 q1 (.lst r1)
          refine ⟨q, _, w, rfl, rfl, q3, by simp, ?_⟩
          rw [List.dropLast_concat]
          exact k σ _ F S4 E4
      · cases hc
    · cases hc⟩
theorem ss_popSet (i j : Nat) {x y : Str} {p apos cpos yp : Pos} (hp : PS X (.Assign [.Name y yp] (.Call (.Attribute (.Name x p) "pop" apos) [] [] cpos) pos) (tAsg (tBM0 X.K "list" rPop (tVar i)) (gName j))) :
    SS X (.Assign [.Name y yp] (.Call (.Attribute (.Name x p) "pop" apos) [] [] cpos) pos) (cPop i (some j)) :=
  ⟨PS.mono hp fun E σ H ⟨F0, H0, B, F, env, o, S, en, hc, k⟩ => by
    unfold cPop at hc
    split at hc
    · rename_i ds h2
      split at hc
      · rename_i d hd
        cases hc
        obtain ⟨q, o, q1, q2, q3, q4⟩ := S.ow i _ h2
        cases q4 with
        | lst q4 =>
          obtain ⟨ws, w, rfl, r1, r2⟩ := q4.snoc hd
          refine ⟨.ref q, q1, .inl ⟨rfl, _, .inl (.inl q3)⟩, ?_⟩
          obtain ⟨S4, E4⟩ := S.own_upd en h2 q1 (.lst r1)
          refine ⟨q, _, w, rfl, rfl, q3, by simp, ?_⟩
          rw [List.dropLast_concat]
          have S5 := S4.setF (i := j) r2
          exact k _ _ F S5 E4.setF
      · cases hc
    · cases hc⟩
/-! ### a call that only reads: what is handed in stays one's own -/
def scal : D → Bool
  | .non => true
  | .bl _ => true
  | .int _ => true
  | .str _ => true
  | _ => false
def cCallP (n : Nat) (g : Fn) (c : CA) : CE := fun env => match c env with
  | some ds => if ds.length = n then (match g ds with
    | some (false, d) => if scal d then some (false, d) else none
    | _ => none) else none
  | none => none
theorem Rl.scal {K : KX} {F F' : Hp} {v : V} {d : D} (h : Rl K F v d) (hd : EV.scal d = true) : Rl K F' v d := by
  cases h with
  | non => exact .non
  | bl b => exact .bl b
  | int i => exact .int i
  | str x => exact .str x
  | tup _ _ => cases hd
  | lst _ _ => cases hd
  | dct _ _ => cases hd
theorem PkA.rl {K : KX} {F H : Hp} (s : Same F H) : ∀ {vs : List V} {ds : List D}, PkA K F H vs ds → RlA K H vs ds
  | _, _, .nil => .nil
  | _, _, .cons h t => .cons (h.rl s) (PkA.rl s t)
theorem se_callP {x : Str} {p pos : Pos} {e : Expr} {es : List Expr} {k n : Nat} {g : Fn} {c : CA} (G : FOk X.prog X.w X.K X.mg X.base k x n g) (hr : Room k X.A) (hg : Gl X x) (h : SAP X (e :: es) c)
    (hdb : (x == ("__debug__" : Str)) = false := by decide) (he : starEach (e :: es) X.env = (false, eval e X.env) :: starEach es X.env := by rfl) (hpl : (backTo pos (starEach es X.env)).any (·.1) = false := by rfl) :
    SE X (.Call (.Name x p) (e :: es) [] pos) (cCallP n g c) := by
  obtain ⟨f, fd, ps, F1, F2, F3, F4⟩ := G.ex
  refine ⟨PE.mono (pe_call (E := E0) F1 hr hg F2 F3 F4 .nil pass0 h.pe hdb he hpl) fun σ H Q ⟨F, env, r, S, hc, k⟩ => ?_⟩
  unfold cCallP at hc
  split at hc
  · rename_i ds h1
    split at hc
    · rename_i hn
      split at hc
      · rename_i d hg
        split at hc
        · rename_i hs
          cases hc
          refine ⟨F, env, ds, S, h1, fun vs H' F' x hv => ?_⟩
          show spF X.kx n g (vs ++ []) H' Q E0
          rw [List.append_nil]
          have hl := PkA.rl x.sub hv
          refine ⟨by rw [hl.length]; exact hn, H', ds, _, .refl _, hl, hg, fun v H2 F2 x2 q => k v H2 F' (x.trans ⟨.refl _, x2.hh, fun _ _ z => z, x.sub.trans x2.hh⟩) ?_⟩
          exact Rl.scal (show Rl X.kx F2 v d from q) hs
        · cases hc
      · cases hc
    · cases hc
  · cases hc
end
end L2.EV

set_option Elab.async false
set_option linter.all false
set_option maxRecDepth 100000
set_option maxHeartbeats 4000000
namespace L2.EV
open PySem
/-! ### sizes of numbers -/
theorem log2_of {n k : Nat} (h : n < 2 ^ k) (hk : 0 < k) : n.log2 < k := by
  rcases Nat.eq_zero_or_pos n with h0 | hp
  · subst h0; simpa using hk
  · exact (Nat.log2_lt (Nat.ne_of_gt hp)).mpr h
theorem big200 : (10 : Nat) ^ 200 < 2 ^ 700 := by decide +kernel
theorem lt700 {n : Int} (h1 : -(10 ^ 200) ≤ n) (h2 : n ≤ 10 ^ 200) : n.natAbs < 2 ^ 700 := by
  have : n.natAbs ≤ 10 ^ 200 := by
    have e : ((10 ^ 200 : Nat) : Int) = 10 ^ 200 := by decide +kernel
    omega
  exact Nat.lt_of_le_of_lt this big200
theorem divOk_of {a b : Int} (h0 : b ≠ 0) (h1 : -(10 ^ 200) ≤ b) (h2 : b ≤ 10 ^ 200) : divOk a b = true :=
  decide_eq_true ⟨h0, Nat.lt_trans (log2_of (lt700 h1 h2) (by decide)) (by decide)⟩
theorem divOk_sm {a b : Int} (h0 : b ≠ 0) (h : b.natAbs ≤ 1000000000000000000) : divOk a b = true := by
  have : (1000000000000000000 : Int) ≤ 10 ^ 200 := by decide
  exact divOk_of h0 (by omega) (by omega)
theorem modOk_of {a b : Int} (h0 : b ≠ 0) : modOk a b = true := decide_eq_true h0
theorem bits_of {n : Int} (h1 : -(10 ^ 200) ≤ n) (h2 : n ≤ 10 ^ 200) : Builtin.Int.intBits n ≤ 2 ^ 20 := by
  unfold Builtin.Int.intBits
  split
  · exact Nat.zero_le _
  · have := log2_of (lt700 h1 h2) (by decide)
    have e : (2 : Nat) ^ 20 = 1048576 := by decide
    omega
theorem mulOk_of {a b : Int} (h1 : -(10 ^ 200) ≤ a) (h2 : a ≤ 10 ^ 200) (h3 : -(10 ^ 200) ≤ b) (h4 : b ≤ 10 ^ 200) : mulOk a b = true :=
  decide_eq_true (IntMulOk.of_bits (bits_of h1 h2) (bits_of h3 h4))
theorem mulOk_left {a b : Int} (h1 : -(2 ^ 64) < a) (h2 : a < 2 ^ 64) : mulOk a b = true := decide_eq_true (IntMulOk.of_left (intBits_le_64 h1 h2))
theorem mulOk_right {a b : Int} (h1 : -(2 ^ 64) < b) (h2 : b < 2 ^ 64) : mulOk a b = true := decide_eq_true (IntMulOk.of_right (intBits_le_64 h1 h2))
theorem bits_pow {n : Int} {i : Nat} (h : n.natAbs < 2 ^ i) (hi : 0 < i) (hj : i ≤ 1000000) : Builtin.Int.intBits n ≤ 2 ^ 20 := by
  unfold Builtin.Int.intBits
  split
  · exact Nat.zero_le _
  · have := log2_of h hi
    have e : (2 : Nat) ^ 20 = 1048576 := by decide
    omega
theorem mulOk_pow {a b : Int} {i j : Nat} (ha : a.natAbs < 2 ^ i) (hb : b.natAbs < 2 ^ j) (hi : 0 < i) (hi2 : i ≤ 1000000) (hj : 0 < j) (hj2 : j ≤ 1000000) : mulOk a b = true :=
  decide_eq_true (IntMulOk.of_bits (bits_pow ha hi hi2) (bits_pow hb hj hj2))
theorem divOk_pow {a b : Int} {i : Nat} (h0 : b ≠ 0) (hb : b.natAbs < 2 ^ i) (hi : 0 < i) (hi2 : i ≤ 9000) : divOk a b = true :=
  decide_eq_true ⟨h0, Nat.lt_of_lt_of_le (log2_of hb hi) hi2⟩
/-- a product lies in the product of the bounds -/
theorem mul_in {a b : Int} {A B : Nat} (h1 : -(A : Int) ≤ a) (h2 : a ≤ A) (h3 : -(B : Int) ≤ b) (h4 : b ≤ B) : -((A * B : Nat) : Int) ≤ a * b ∧ a * b ≤ ((A * B : Nat) : Int) := by
  have ha : a.natAbs ≤ A := by omega
  have hb : b.natAbs ≤ B := by omega
  have h := Nat.mul_le_mul ha hb
  rw [← Int.natAbs_mul] at h
  omega
theorem fdiv_spec {x b : Int} (hb : 0 < b) : ∃ q r, x.fdiv b = q ∧ x = b * q + r ∧ 0 ≤ r ∧ r < b := by
  refine ⟨_, x.fmod b, rfl, ?_, Int.fmod_nonneg_of_pos x hb, Int.fmod_lt_of_pos x hb⟩
  rw [Int.fmod_def]; omega
theorem fdiv_in {x b : Int} (hb : 1 ≤ b) {A : Nat} (h1 : -(A : Int) ≤ x) (h2 : x ≤ A) : -(A : Int) ≤ x.fdiv b ∧ x.fdiv b ≤ A := by
  rw [Int.fdiv_eq_ediv_of_nonneg x (by omega)]
  constructor
  · exact (Int.le_ediv_iff_mul_le (by omega)).mpr (by
      have := Int.mul_le_mul_of_nonneg_left hb (show (0 : Int) ≤ A by omega)
      rw [Int.neg_mul]; omega)
  · rcases Int.lt_or_le x 0 with hx | hx
    · have := Int.ediv_neg_of_neg_of_pos hx (show 0 < b by omega); omega
    · have := Int.ediv_le_self b hx; omega
/-! ### items -/
theorem atI_nat' {α : Type} {xs : List α} {k : Nat} : atI xs (k : Int) = xs[k]? := by
  unfold atI ixN
  rw [if_pos (Int.natCast_nonneg k)]
  by_cases h : k < xs.length
  · rw [if_pos (by omega)]; simp
  · rw [if_neg (by omega)]; simp; omega
theorem atI_last' {α : Type} {xs : List α} (h : xs ≠ []) : atI xs (-1) = xs[xs.length - 1]? := by
  have hl : 0 < xs.length := List.length_pos_iff.mpr h
  unfold atI ixN
  rw [if_neg (by decide), if_pos (by omega)]
  show xs[(-1 + (xs.length : Int)).toNat]? = _
  congr 1
  omega
/-! ### loops -/
theorem forL_inv {g : CG} {body : CS} (I : Env → Prop) : ∀ (ds : List D), (∀ d ∈ ds, ∀ env, I env → ∃ env1 env2, g d env = some env1 ∧ body env1 = some (.nx env2) ∧ I env2) → ∀ env, I env → ∃ env', forL g body ds env = some (.nx env') ∧ I env'
  | [], _, env, h => ⟨env, rfl, h⟩
  | d :: ds, hs, env, h => by
    obtain ⟨env1, env2, h1, h2, h3⟩ := hs d List.mem_cons_self env h
    obtain ⟨env', h4, h5⟩ := forL_inv I ds (fun d hd => hs d (List.mem_cons_of_mem _ hd)) env2 h3
    refine ⟨env', ?_, h5⟩
    unfold forL
    rw [h1]
    simp only [h2]
    exact h4
theorem cSeq_nx {a b : CS} {env env' : Env} (h : a env = some (.nx env')) : cSeq a b env = b env' := by
  unfold cSeq; rw [h]
theorem cSeq_rt {a b : CS} {env : Env} {r : Bool × D} (h : a env = some (.rt r)) : cSeq a b env = some (.rt r) := by
  unfold cSeq; rw [h]
theorem forL_cons {g : CG} {body : CS} {d : D} {r : List D} {env env1 env2 : Env} (h1 : g d env = some env1) (h2 : body env1 = some (.nx env2)) : forL g body (d :: r) env = forL g body r env2 := by
  rw [forL, h1]
  simp only [h2]
theorem whileF_step {t : CT} {b : CS} {n : Nat} {env env1 : Env} (h1 : t env = some true) (h2 : b env = some (.nx env1)) : whileF t b (n + 1) env = whileF t b n env1 := by
  rw [whileF, h1]
  simp only [h2]
theorem whileF_done {t : CT} {b : CS} {n : Nat} {env : Env} (h1 : t env = some false) : whileF t b (n + 1) env = some (.nx env) := by
  rw [whileF, h1]
/-- a loop as a fold: what is known behind each item -/
theorem forL_fold {α : Type} {g : CG} {body : CS} (R : α → Env → Prop) (f : α → D → α) : ∀ (ds : List D) (a : α), (∀ d ∈ ds, ∀ a env, R a env → ∃ env1 env2, g d env = some env1 ∧ body env1 = some (.nx env2) ∧ R (f a d) env2) → ∀ env, R a env → ∃ env', forL g body ds env = some (.nx env') ∧ R (ds.foldl f a) env'
  | [], a, _, env, h => ⟨env, rfl, h⟩
  | d :: ds, a, hs, env, h => by
    obtain ⟨env1, env2, h1, h2, h3⟩ := hs d List.mem_cons_self a env h
    obtain ⟨env', h4, h5⟩ := forL_fold R f ds (f a d) (fun d hd => hs d (List.mem_cons_of_mem _ hd)) env2 h3
    refine ⟨env', ?_, h5⟩
    unfold forL
    rw [h1]
    simp only [h2]
    exact h4
theorem rngD_mem {lo : Int} {n : Nat} {d : D} (h : d ∈ rngD lo n) : ∃ i : Nat, i < n ∧ d = .int (lo + i) := by
  unfold rngD at h
  obtain ⟨i, hi, e⟩ := List.mem_map.mp h
  exact ⟨i, List.mem_range.mp hi, e.symm⟩
theorem cLc_some {ci : CI} {g : CG} {t : CT} {c : CE} {vs : List Nat} {env : Env} {ds out : List D} (h1 : ci env = some ds) (h2 : compL g t c (wipeE env vs) ds = some out) (h3 : out.length ≤ sizeLine) : cLc ci g t c vs env = some (true, .lst out) := by
  unfold cLc
  rw [h1]
  simp only [h2]
  rw [if_pos h3]
/-- a comprehension without a test -/
theorem compL_map {g : CG} {c : CE} {env : Env} (f : D → D) : ∀ (ds : List D), (∀ d ∈ ds, ∃ env1 b, g d env = some env1 ∧ c env1 = some (b, f d)) → compL g cYes c env ds = some (ds.map f)
  | [], _ => rfl
  | d :: ds, h => by
    obtain ⟨env1, b, h1, h2⟩ := h d List.mem_cons_self
    have ih := compL_map f ds fun d hd => h d (List.mem_cons_of_mem _ hd)
    unfold compL
    rw [h1]
    simp only [cYes, h2, ih]
    rfl
/-! ### the law's head -/
theorem walk_ev {l : PySem.W.OpenLaw} {k : Nat} {q : Program} {loose : List Str} {XP : (Str → Option Value) → Heap → Prop} {YP : World → Heap → Prop} {d : DefRec} {K : Params → PySem.W.Frag} {x : Str} {g : Fn} (hn : l.most = some 63) (hdf : d.params.defaults = []) (hr : Room k callerA)
    (hY : ∀ (w : World) (h : Heap), YP w h → (K w.params).In h)
    (F : ∀ (w : World) (mg : Str → Option Value) (fa : Addr) (h : Heap), (K w.params).In h → h.Ns mainGlobals mg → mg d.name = some (.ref fa) →
      ∃ fd : FuncData, (∀ (s : Shared) (u : Value), BindsTo s fd ⟨[u], []⟩ [(x, u)]) ∧ ∀ base : Heap, (K w.params).In base → base.Ns mainGlobals mg → FnOk l.prog w (K w.params) mg base CX0 k fa fd [x] (spF ⟨K w.params, l.prog, w⟩ 1 g))
    (hg : ∀ ns : List Int, ns.length ≤ 63 → ∃ r, g [.lst (ns.map D.int)] = some (r, .bl true)) :
    PySem.W.WalkO q loose XP YP l.row.toRowW d [] (fun f vs => PySem.call f vs) :=
  L2.walk_of (n := 63) (k := k) (x := x) (CX := fun _ => CX0) (sp := fun w => spF ⟨K w.params, l.prog, w⟩ 1 g) hn (by decide) hdf hr hY F (fun _ _ a ns hl _ hS => let ⟨_, e⟩ := hg ns hl; law_sp hS e) fun _ _ _ _ _ z => z
end L2.EV

set_option Elab.async false
set_option linter.all false
set_option maxRecDepth 100000
set_option maxHeartbeats 4000000
namespace L2.EV
open PySem
/-! ### codes run from behind: what must hold of what they tell -/
def wO1 {α : Type} (o : Option α) (Q : α → Prop) : Prop := match o with
  | some x => Q x
  | none => False
theorem wO1_some {α : Type} {x : α} {Q : α → Prop} : wO1 (some x) Q ↔ Q x := .rfl
theorem wO1_none {α : Type} {Q : α → Prop} : wO1 none Q ↔ False := .rfl
theorem wO1_ex {α : Type} {o : Option α} {Q : α → Prop} (h : wO1 o Q) : ∃ x, o = some x ∧ Q x := by
  cases o with
  | none => exact h.elim
  | some x => exact ⟨x, rfl, h⟩
theorem wO1_of {α : Type} {o : Option α} {x : α} {Q : α → Prop} (h : o = some x) (q : Q x) : wO1 o Q := by rw [h]; exact q
theorem wO1_mono {α : Type} {o : Option α} {Q Q' : α → Prop} (h : wO1 o Q) (m : ∀ x, Q x → Q' x) : wO1 o Q' := by
  cases o with
  | none => exact h
  | some x => exact m x h
def wS (c : CS) (env : Env) (Q : Out → Prop) : Prop := wO1 (c env) Q
def wE (c : CE) (env : Env) (Q : Bool → D → Prop) : Prop := wO1 (c env) fun r => Q r.1 r.2
def wP (c : CP) (env : Env) (Q : D → Prop) : Prop := wO1 (c env) Q
def wT (c : CT) (env : Env) (Q : Bool → Prop) : Prop := wO1 (c env) Q
def wA (c : CA) (env : Env) (Q : List D → Prop) : Prop := wO1 (c env) Q
def wO (c : CO) (env : Env) (Q : Option Int → Prop) : Prop := wO1 (c env) Q
def w2 (g : G2) (x y : D) (Q : Bool → D → Prop) : Prop := wO1 (g x y) fun r => Q r.1 r.2
def wF (g : Fn) (ds : List D) (Q : Bool → D → Prop) : Prop := wO1 (g ds) fun r => Q r.1 r.2
def wG (g : CG) (d : D) (env : Env) (K : Env → Prop) : Prop := wO1 (g d env) K
def wGs (g : CGs) (ds : List D) (env : Env) (K : Env → Prop) : Prop := wO1 (g ds env) K
def atE (env : Env) (i : Nat) (Q : Bool → D → Prop) : Prop := match env[i]? with
  | some (some r) => Q r.1 r.2
  | _ => False
def setK (env : Env) (i : Nat) (v : Option (Bool × D)) (K : Env → Prop) : Prop := K (env.set i v)
def wipeK (env : Env) (vs : List Nat) (K : Env → Prop) : Prop := K (wipeE env vs)
def wL (g : CG) (body : CS) (ds : List D) (env : Env) (Q : Out → Prop) : Prop := wO1 (forL g body ds env) Q
def wC (g : CG) (t : CT) (c : CE) (ds : List D) (env : Env) (Q : List D → Prop) : Prop := wO1 (compL g t c env ds) fun out => out.length ≤ sizeLine ∧ Q out
def wW (t : CT) (b : CS) (env : Env) (Q : Out → Prop) : Prop := ∃ n, wO1 (whileF t b n env) Q
def wSl (d : D) (lo hi : Option Int) (Q : Bool → D → Prop) : Prop := wO1 (dSl d lo hi) fun r => Q r.1 r.2
def asB (d : D) (T : Bool → Prop) : Prop := match d with
  | .bl b => T b
  | _ => False
def asI (d : D) (T : Int → Prop) : Prop := match d with
  | .int i => T i
  | _ => False
def asL (d : D) (T : List D → Prop) : Prop := match d with
  | .lst ds => T ds
  | _ => False
def asT (d : D) (T : List D → Prop) : Prop := match d with
  | .tup ds => T ds
  | _ => False
def asSq (d : D) (T : List D → Prop) : Prop := match d with
  | .lst ds => T ds
  | .tup ds => T ds
  | _ => False
def asA1 (ds : List D) (T : D → Prop) : Prop := match ds with
  | [d] => T d
  | _ => False
def asA2 (ds : List D) (T : D → D → Prop) : Prop := match ds with
  | [d, e] => T d e
  | _ => False
def ift (x : Bool) (p q : Prop) : Prop := (x = true → p) ∧ (x = false → q)
def sq (b : CS) (Q : Out → Prop) : Out → Prop
  | .nx e => wS b e Q
  | .rt r => Q (.rt r)
  | .bk e => Q (.bk e)
  | .ct e => Q (.ct e)
def fin (Q : Bool → D → Prop) : Out → Prop
  | .rt r => Q r.1 r.2
  | .nx _ => Q false .non
  | _ => False
def itm (I : Env → Prop) (Q : Out → Prop) : Out → Prop
  | .nx e => I e
  | .ct e => I e
  | .bk e => Q (.nx e)
  | .rt r => Q (.rt r)
def setD (k l d : D) (K : D → Prop) : Prop := match k, l with
  | .int n, .lst ds => wO1 (ixN ds.length n) fun j => K (.lst (ds.set j d))
  | kd, .dct ks ds => wO1 (keyOf kd) fun k => ks.length < sizeLine ∧ K (putKD ks ds k d)
  | _, _ => False
def getK (d kd : D) (b : Bool) (x : D) (R : Bool → D → Prop) : Prop := match d with
  | .dct ks ds => wO1 (keyOf kd) fun k => match lookD ks ds k with
    | some v => R false v
    | none => R b x
  | _ => False
/-! what is done behind, as names -/
def kNx (Q : Out → Prop) (e : Env) : Prop := Q (.nx e)
def kCons (x : Option (Bool × D)) (K : Env → Prop) (e : Env) : Prop := K (x :: e)
def kAsg (env : Env) (i : Nat) (Q : Out → Prop) (b : Bool) (d : D) : Prop := setK env i (some (b, d)) (kNx Q)
def kRet (Q : Out → Prop) (b : Bool) (d : D) : Prop := Q (.rt (b, d))
def kDrop (env : Env) (Q : Out → Prop) (b : Bool) (d : D) : Prop := Q (.nx env)
def kIfS (p q : CS) (env : Env) (Q : Out → Prop) (x : Bool) : Prop := ift x (wS p env Q) (wS q env Q)
def kIfE (p q : CE) (env : Env) (R : Bool → D → Prop) (x : Bool) : Prop := ift x (wE p env R) (wE q env R)
def kFor (g : CG) (body : CS) (env : Env) (Q : Out → Prop) (ds : List D) : Prop := wL g body ds env Q
def kSet (i : Nat) (v : Option (Bool × D)) (M : Env → Prop) (e : Env) : Prop := setK e i v M
def kStar2 (env : Env) (i j : Nat) (ds : List D) (Q : Out → Prop) (d : D) : Prop := setK env i (some (true, .lst ds.dropLast)) (kSet j (some (false, d)) (kNx Q))
def kStar1 (env : Env) (i j : Nat) (Q : Out → Prop) (ds : List D) : Prop := wO1 ds.getLast? (kStar2 env i j ds Q)
def kStar (env : Env) (i j : Nat) (Q : Out → Prop) (b : Bool) (d : D) : Prop := asT d (kStar1 env i j Q)
def kPar1 (env : Env) (i j : Nat) (Q : Out → Prop) (d e : D) : Prop := setK env i (some (false, d)) (kSet j (some (false, e)) (kNx Q))
def kPar (env : Env) (i j : Nat) (Q : Out → Prop) (ds : List D) : Prop := asA2 ds (kPar1 env i j Q)
def kUnp (g : CG) (env : Env) (Q : Out → Prop) (b : Bool) (d : D) : Prop := wG g d env (kNx Q)
def kApp2 (env : Env) (i : Nat) (d : D) (Q : Out → Prop) (ds : List D) : Prop := ds.length < sizeLine ∧ setK env i (some (true, .lst (ds ++ [d]))) (kNx Q)
def kApp1 (env : Env) (i : Nat) (d : D) (Q : Out → Prop) (b : Bool) (l : D) : Prop := b = true ∧ asL l (kApp2 env i d Q)
def kApp (env : Env) (i : Nat) (Q : Out → Prop) (b : Bool) (d : D) : Prop := atE env i (kApp1 env i d Q)
def kSit3 (env : Env) (i : Nat) (Q : Out → Prop) (z : D) : Prop := setK env i (some (true, z)) (kNx Q)
def kSit2 (env : Env) (i : Nat) (d k : D) (Q : Out → Prop) (b : Bool) (l : D) : Prop := b = true ∧ setD k l d (kSit3 env i Q)
def kSit1 (env : Env) (i : Nat) (d : D) (Q : Out → Prop) (k : D) : Prop := atE env i (kSit2 env i d k Q)
def kSit (ci : CP) (env : Env) (i : Nat) (Q : Out → Prop) (b : Bool) (d : D) : Prop := wP ci env (kSit1 env i d Q)
def kTest (T : Bool → Prop) (b : Bool) (d : D) : Prop := asB d T
def kNot (T : Bool → Prop) (x : Bool) : Prop := T (!x)
def kAnd (q : CT) (env : Env) (T : Bool → Prop) (x : Bool) : Prop := ift x (wT q env T) (T false)
def kOr (q : CT) (env : Env) (T : Bool → Prop) (x : Bool) : Prop := ift x (T true) (wT q env T)
def kVar (R : Bool → D → Prop) (b : Bool) (d : D) : Prop := b = false ∧ R false d
def kPk (K : D → Prop) (b : Bool) (d : D) : Prop := K d
def kBin2 (g : G2) (x : D) (R : Bool → D → Prop) (y : D) : Prop := w2 g x y R
def kBin1 (g : G2) (q : CP) (env : Env) (R : Bool → D → Prop) (x : D) : Prop := wP q env (kBin2 g x R)
def kNeg1 (R : Bool → D → Prop) (i : Int) : Prop := R false (.int (-i))
def kNeg (R : Bool → D → Prop) (x : D) : Prop := asI x (kNeg1 R)
def kAndV1 (q : CE) (env : Env) (R : Bool → D → Prop) (x : Bool) : Prop := ift x (wE q env R) (R false (.bl false))
def kAndV (q : CE) (env : Env) (R : Bool → D → Prop) (b : Bool) (d : D) : Prop := asB d (kAndV1 q env R)
def kOrV1 (q : CE) (env : Env) (R : Bool → D → Prop) (x : Bool) : Prop := ift x (R false (.bl true)) (wE q env R)
def kOrV (q : CE) (env : Env) (R : Bool → D → Prop) (b : Bool) (d : D) : Prop := asB d (kOrV1 q env R)
def kNotV1 (R : Bool → D → Prop) (x : Bool) : Prop := R false (.bl (!x))
def kNotV (R : Bool → D → Prop) (b : Bool) (d : D) : Prop := asB d (kNotV1 R)
def kArg2 (d : D) (K : List D → Prop) (ds : List D) : Prop := K (d :: ds)
def kArg (cs : CA) (env : Env) (K : List D → Prop) (b : Bool) (d : D) : Prop := wA cs env (kArg2 d K)
def kArgP (cs : CA) (env : Env) (K : List D → Prop) (d : D) : Prop := wA cs env (kArg2 d K)
def kTup (R : Bool → D → Prop) (ds : List D) : Prop := ds.length ≤ sizeLine ∧ R false (.tup ds)
def kLst (R : Bool → D → Prop) (ds : List D) : Prop := ds.length ≤ sizeLine ∧ R true (.lst ds)
def kCall (g : Fn) (R : Bool → D → Prop) (ds : List D) : Prop := wF g ds R
def kIsI (t : String) (R : Bool → D → Prop) (d : D) : Prop := R false (.bl (isD t d))
def kSl3 (d : D) (lo : Option Int) (R : Bool → D → Prop) (hi : Option Int) : Prop := wSl d lo hi R
def kSl2 (h : CO) (env : Env) (d : D) (R : Bool → D → Prop) (lo : Option Int) : Prop := wO h env (kSl3 d lo R)
def kSl1 (l h : CO) (env : Env) (R : Bool → D → Prop) (d : D) : Prop := wO l env (kSl2 h env d R)
def kPart1 (K : Option Int → Prop) (i : Int) : Prop := K (some i)
def kPart (K : Option Int → Prop) (d : D) : Prop := asI d (kPart1 K)
def kGet3 (d kd : D) (R : Bool → D → Prop) (b : Bool) (x : D) : Prop := getK d kd b x R
def kGet2 (cx : CE) (env : Env) (d : D) (R : Bool → D → Prop) (kd : D) : Prop := wE cx env (kGet3 d kd R)
def kGet1 (ck : CP) (cx : CE) (env : Env) (R : Bool → D → Prop) (d : D) : Prop := wP ck env (kGet2 cx env d R)
def kLc3 (R : Bool → D → Prop) (out : List D) : Prop := R true (.lst out)
def kLc2 (g : CG) (t : CT) (c : CE) (ds : List D) (R : Bool → D → Prop) (e : Env) : Prop := wC g t c ds e (kLc3 R)
def kLc1 (g : CG) (t : CT) (c : CE) (env : Env) (vs : List Nat) (R : Bool → D → Prop) (ds : List D) : Prop := wipeK env vs (kLc2 g t c ds R)
def kRng1b (K : List D → Prop) (j : Int) : Prop := small62 j = true ∧ K (rngD 0 j.toNat)
def kRng1a (K : List D → Prop) (x : D) : Prop := asI x (kRng1b K)
def kRng1 (K : List D → Prop) (ds : List D) : Prop := asA1 ds (kRng1a K)
def kRng2c (i : Int) (K : List D → Prop) (j : Int) : Prop := small62 i = true ∧ small62 j = true ∧ K (rngD i (j - i).toNat)
def kRng2b (y : D) (K : List D → Prop) (i : Int) : Prop := asI y (kRng2c i K)
def kRng2a (K : List D → Prop) (x y : D) : Prop := asI x (kRng2b y K)
def kRng2 (K : List D → Prop) (ds : List D) : Prop := asA2 ds (kRng2a K)
def kSeqI (K : List D → Prop) (b : Bool) (d : D) : Prop := asSq d K
def kItL (K : List D → Prop) (b : Bool) (d : D) : Prop := asL d K
def kItT (K : List D → Prop) (b : Bool) (d : D) : Prop := asT d K
def kZip2 (xs : List D) (K : List D → Prop) (ys : List D) : Prop := K (zipD xs ys)
def kZip1 (y : D) (K : List D → Prop) (xs : List D) : Prop := asL y (kZip2 xs K)
def kZip0 (K : List D → Prop) (x y : D) : Prop := asL x (kZip1 y K)
def kZip (K : List D → Prop) (ds : List D) : Prop := asA2 ds (kZip0 K)
def kEnum2 (K : List D → Prop) (xs : List D) : Prop := K (enumD 0 xs)
def kEnum1 (K : List D → Prop) (x : D) : Prop := asL x (kEnum2 K)
def kEnum (K : List D → Prop) (ds : List D) : Prop := asA1 ds (kEnum1 K)
def kGs (gs : CGs) (ds : List D) (M : Env → Prop) (e : Env) : Prop := wGs gs ds e M
def kLp (g : CG) (body : CS) (ds : List D) (Q : Out → Prop) (e : Env) : Prop := wL g body ds e Q
section
theorem kNx_ {Q : Out → Prop} {e : Env} : kNx Q e ↔ (Q (.nx e)) := .rfl
theorem kCons_ {x : Option (Bool × D)} {K : Env → Prop} {e : Env} : kCons x K e ↔ (K (x :: e)) := .rfl
theorem kAsg_ {env : Env} {i : Nat} {Q : Out → Prop} {b : Bool} {d : D} : kAsg env i Q b d ↔ (setK env i (some (b, d)) (kNx Q)) := .rfl
theorem kRet_ {Q : Out → Prop} {b : Bool} {d : D} : kRet Q b d ↔ (Q (.rt (b, d))) := .rfl
theorem kDrop_ {env : Env} {Q : Out → Prop} {b : Bool} {d : D} : kDrop env Q b d ↔ (Q (.nx env)) := .rfl
theorem kIfS_ {p q : CS} {env : Env} {Q : Out → Prop} {x : Bool} : kIfS p q env Q x ↔ (ift x (wS p env Q) (wS q env Q)) := .rfl
theorem kIfE_ {p q : CE} {env : Env} {R : Bool → D → Prop} {x : Bool} : kIfE p q env R x ↔ (ift x (wE p env R) (wE q env R)) := .rfl
theorem kFor_ {g : CG} {body : CS} {env : Env} {Q : Out → Prop} {ds : List D} : kFor g body env Q ds ↔ (wL g body ds env Q) := .rfl
theorem kSet_ {i : Nat} {v : Option (Bool × D)} {M : Env → Prop} {e : Env} : kSet i v M e ↔ (setK e i v M) := .rfl
theorem kStar2_ {env : Env} {i j : Nat} {ds : List D} {Q : Out → Prop} {d : D} : kStar2 env i j ds Q d ↔ (setK env i (some (true, .lst ds.dropLast)) (kSet j (some (false, d)) (kNx Q))) := .rfl
theorem kStar1_ {env : Env} {i j : Nat} {Q : Out → Prop} {ds : List D} : kStar1 env i j Q ds ↔ (wO1 ds.getLast? (kStar2 env i j ds Q)) := .rfl
theorem kStar_ {env : Env} {i j : Nat} {Q : Out → Prop} {b : Bool} {d : D} : kStar env i j Q b d ↔ (asT d (kStar1 env i j Q)) := .rfl
theorem kPar1_ {env : Env} {i j : Nat} {Q : Out → Prop} {d e : D} : kPar1 env i j Q d e ↔ (setK env i (some (false, d)) (kSet j (some (false, e)) (kNx Q))) := .rfl
theorem kPar_ {env : Env} {i j : Nat} {Q : Out → Prop} {ds : List D} : kPar env i j Q ds ↔ (asA2 ds (kPar1 env i j Q)) := .rfl
theorem kUnp_ {g : CG} {env : Env} {Q : Out → Prop} {b : Bool} {d : D} : kUnp g env Q b d ↔ (wG g d env (kNx Q)) := .rfl
theorem kApp2_ {env : Env} {i : Nat} {d : D} {Q : Out → Prop} {ds : List D} : kApp2 env i d Q ds ↔ (ds.length < sizeLine ∧ setK env i (some (true, .lst (ds ++ [d]))) (kNx Q)) := .rfl
theorem kApp1_ {env : Env} {i : Nat} {d : D} {Q : Out → Prop} {b : Bool} {l : D} : kApp1 env i d Q b l ↔ (b = true ∧ asL l (kApp2 env i d Q)) := .rfl
theorem kApp_ {env : Env} {i : Nat} {Q : Out → Prop} {b : Bool} {d : D} : kApp env i Q b d ↔ (atE env i (kApp1 env i d Q)) := .rfl
theorem kSit3_ {env : Env} {i : Nat} {Q : Out → Prop} {z : D} : kSit3 env i Q z ↔ (setK env i (some (true, z)) (kNx Q)) := .rfl
theorem kSit2_ {env : Env} {i : Nat} {d k : D} {Q : Out → Prop} {b : Bool} {l : D} : kSit2 env i d k Q b l ↔ (b = true ∧ setD k l d (kSit3 env i Q)) := .rfl
theorem kSit1_ {env : Env} {i : Nat} {d : D} {Q : Out → Prop} {k : D} : kSit1 env i d Q k ↔ (atE env i (kSit2 env i d k Q)) := .rfl
theorem kSit_ {ci : CP} {env : Env} {i : Nat} {Q : Out → Prop} {b : Bool} {d : D} : kSit ci env i Q b d ↔ (wP ci env (kSit1 env i d Q)) := .rfl
theorem kTest_ {T : Bool → Prop} {b : Bool} {d : D} : kTest T b d ↔ (asB d T) := .rfl
theorem kNot_ {T : Bool → Prop} {x : Bool} : kNot T x ↔ (T (!x)) := .rfl
theorem kAnd_ {q : CT} {env : Env} {T : Bool → Prop} {x : Bool} : kAnd q env T x ↔ (ift x (wT q env T) (T false)) := .rfl
theorem kOr_ {q : CT} {env : Env} {T : Bool → Prop} {x : Bool} : kOr q env T x ↔ (ift x (T true) (wT q env T)) := .rfl
theorem kVar_ {R : Bool → D → Prop} {b : Bool} {d : D} : kVar R b d ↔ (b = false ∧ R false d) := .rfl
theorem kPk_ {K : D → Prop} {b : Bool} {d : D} : kPk K b d ↔ (K d) := .rfl
theorem kBin2_ {g : G2} {x : D} {R : Bool → D → Prop} {y : D} : kBin2 g x R y ↔ (w2 g x y R) := .rfl
theorem kBin1_ {g : G2} {q : CP} {env : Env} {R : Bool → D → Prop} {x : D} : kBin1 g q env R x ↔ (wP q env (kBin2 g x R)) := .rfl
theorem kNeg1_ {R : Bool → D → Prop} {i : Int} : kNeg1 R i ↔ (R false (.int (-i))) := .rfl
theorem kNeg_ {R : Bool → D → Prop} {x : D} : kNeg R x ↔ (asI x (kNeg1 R)) := .rfl
theorem kAndV1_ {q : CE} {env : Env} {R : Bool → D → Prop} {x : Bool} : kAndV1 q env R x ↔ (ift x (wE q env R) (R false (.bl false))) := .rfl
theorem kAndV_ {q : CE} {env : Env} {R : Bool → D → Prop} {b : Bool} {d : D} : kAndV q env R b d ↔ (asB d (kAndV1 q env R)) := .rfl
theorem kOrV1_ {q : CE} {env : Env} {R : Bool → D → Prop} {x : Bool} : kOrV1 q env R x ↔ (ift x (R false (.bl true)) (wE q env R)) := .rfl
theorem kOrV_ {q : CE} {env : Env} {R : Bool → D → Prop} {b : Bool} {d : D} : kOrV q env R b d ↔ (asB d (kOrV1 q env R)) := .rfl
theorem kNotV1_ {R : Bool → D → Prop} {x : Bool} : kNotV1 R x ↔ (R false (.bl (!x))) := .rfl
theorem kNotV_ {R : Bool → D → Prop} {b : Bool} {d : D} : kNotV R b d ↔ (asB d (kNotV1 R)) := .rfl
theorem kArg2_ {d : D} {K : List D → Prop} {ds : List D} : kArg2 d K ds ↔ (K (d :: ds)) := .rfl
theorem kArg_ {cs : CA} {env : Env} {K : List D → Prop} {b : Bool} {d : D} : kArg cs env K b d ↔ (wA cs env (kArg2 d K)) := .rfl
theorem kArgP_ {cs : CA} {env : Env} {K : List D → Prop} {d : D} : kArgP cs env K d ↔ (wA cs env (kArg2 d K)) := .rfl
theorem kTup_ {R : Bool → D → Prop} {ds : List D} : kTup R ds ↔ (ds.length ≤ sizeLine ∧ R false (.tup ds)) := .rfl
theorem kLst_ {R : Bool → D → Prop} {ds : List D} : kLst R ds ↔ (ds.length ≤ sizeLine ∧ R true (.lst ds)) := .rfl
theorem kCall_ {g : Fn} {R : Bool → D → Prop} {ds : List D} : kCall g R ds ↔ (wF g ds R) := .rfl
theorem kIsI_ {t : String} {R : Bool → D → Prop} {d : D} : kIsI t R d ↔ (R false (.bl (isD t d))) := .rfl
theorem kSl3_ {d : D} {lo : Option Int} {R : Bool → D → Prop} {hi : Option Int} : kSl3 d lo R hi ↔ (wSl d lo hi R) := .rfl
theorem kSl2_ {h : CO} {env : Env} {d : D} {R : Bool → D → Prop} {lo : Option Int} : kSl2 h env d R lo ↔ (wO h env (kSl3 d lo R)) := .rfl
theorem kSl1_ {l h : CO} {env : Env} {R : Bool → D → Prop} {d : D} : kSl1 l h env R d ↔ (wO l env (kSl2 h env d R)) := .rfl
theorem kPart1_ {K : Option Int → Prop} {i : Int} : kPart1 K i ↔ (K (some i)) := .rfl
theorem kPart_ {K : Option Int → Prop} {d : D} : kPart K d ↔ (asI d (kPart1 K)) := .rfl
theorem kGet3_ {d kd : D} {R : Bool → D → Prop} {b : Bool} {x : D} : kGet3 d kd R b x ↔ (getK d kd b x R) := .rfl
theorem kGet2_ {cx : CE} {env : Env} {d : D} {R : Bool → D → Prop} {kd : D} : kGet2 cx env d R kd ↔ (wE cx env (kGet3 d kd R)) := .rfl
theorem kGet1_ {ck : CP} {cx : CE} {env : Env} {R : Bool → D → Prop} {d : D} : kGet1 ck cx env R d ↔ (wP ck env (kGet2 cx env d R)) := .rfl
theorem kLc3_ {R : Bool → D → Prop} {out : List D} : kLc3 R out ↔ (R true (.lst out)) := .rfl
theorem kLc2_ {g : CG} {t : CT} {c : CE} {ds : List D} {R : Bool → D → Prop} {e : Env} : kLc2 g t c ds R e ↔ (wC g t c ds e (kLc3 R)) := .rfl
theorem kLc1_ {g : CG} {t : CT} {c : CE} {env : Env} {vs : List Nat} {R : Bool → D → Prop} {ds : List D} : kLc1 g t c env vs R ds ↔ (wipeK env vs (kLc2 g t c ds R)) := .rfl
theorem kRng1b_ {K : List D → Prop} {j : Int} : kRng1b K j ↔ (small62 j = true ∧ K (rngD 0 j.toNat)) := .rfl
theorem kRng1a_ {K : List D → Prop} {x : D} : kRng1a K x ↔ (asI x (kRng1b K)) := .rfl
theorem kRng1_ {K : List D → Prop} {ds : List D} : kRng1 K ds ↔ (asA1 ds (kRng1a K)) := .rfl
theorem kRng2c_ {i : Int} {K : List D → Prop} {j : Int} : kRng2c i K j ↔ (small62 i = true ∧ small62 j = true ∧ K (rngD i (j - i).toNat)) := .rfl
theorem kRng2b_ {y : D} {K : List D → Prop} {i : Int} : kRng2b y K i ↔ (asI y (kRng2c i K)) := .rfl
theorem kRng2a_ {K : List D → Prop} {x y : D} : kRng2a K x y ↔ (asI x (kRng2b y K)) := .rfl
theorem kRng2_ {K : List D → Prop} {ds : List D} : kRng2 K ds ↔ (asA2 ds (kRng2a K)) := .rfl
theorem kSeqI_ {K : List D → Prop} {b : Bool} {d : D} : kSeqI K b d ↔ (asSq d K) := .rfl
theorem kItL_ {K : List D → Prop} {b : Bool} {d : D} : kItL K b d ↔ (asL d K) := .rfl
theorem kItT_ {K : List D → Prop} {b : Bool} {d : D} : kItT K b d ↔ (asT d K) := .rfl
theorem kZip2_ {xs : List D} {K : List D → Prop} {ys : List D} : kZip2 xs K ys ↔ (K (zipD xs ys)) := .rfl
theorem kZip1_ {y : D} {K : List D → Prop} {xs : List D} : kZip1 y K xs ↔ (asL y (kZip2 xs K)) := .rfl
theorem kZip0_ {K : List D → Prop} {x y : D} : kZip0 K x y ↔ (asL x (kZip1 y K)) := .rfl
theorem kZip_ {K : List D → Prop} {ds : List D} : kZip K ds ↔ (asA2 ds (kZip0 K)) := .rfl
theorem kEnum2_ {K : List D → Prop} {xs : List D} : kEnum2 K xs ↔ (K (enumD 0 xs)) := .rfl
theorem kEnum1_ {K : List D → Prop} {x : D} : kEnum1 K x ↔ (asL x (kEnum2 K)) := .rfl
theorem kEnum_ {K : List D → Prop} {ds : List D} : kEnum K ds ↔ (asA1 ds (kEnum1 K)) := .rfl
theorem kGs_ {gs : CGs} {ds : List D} {M : Env → Prop} {e : Env} : kGs gs ds M e ↔ (wGs gs ds e M) := .rfl
theorem kLp_ {g : CG} {body : CS} {ds : List D} {Q : Out → Prop} {e : Env} : kLp g body ds Q e ↔ (wL g body ds e Q) := .rfl
end
section
variable {env : Env} {Q : Out → Prop} {R : Bool → D → Prop}
theorem asB_ {b : Bool} {T : Bool → Prop} : asB (.bl b) T ↔ T b := .rfl
theorem asI_ {i : Int} {T : Int → Prop} : asI (.int i) T ↔ T i := .rfl
theorem asL_ {ds : List D} {T : List D → Prop} : asL (.lst ds) T ↔ T ds := .rfl
theorem asT_ {ds : List D} {T : List D → Prop} : asT (.tup ds) T ↔ T ds := .rfl
theorem asSqL_ {ds : List D} {T : List D → Prop} : asSq (.lst ds) T ↔ T ds := .rfl
theorem asSqT_ {ds : List D} {T : List D → Prop} : asSq (.tup ds) T ↔ T ds := .rfl
theorem asA1_ {d : D} {T : D → Prop} : asA1 [d] T ↔ T d := .rfl
theorem asA2_ {d e : D} {T : D → D → Prop} : asA2 [d, e] T ↔ T d e := .rfl
theorem ift_t {p q : Prop} : ift true p q ↔ p := by simp [ift]
theorem ift_f {p q : Prop} : ift false p q ↔ q := by simp [ift]
theorem ift_d {c : Prop} [Decidable c] {p q : Prop} : ift (decide c) p q ↔ ((c → p) ∧ (¬ c → q)) := by simp [ift]
theorem ift_n {b : Bool} {p q : Prop} : ift (!b) p q ↔ ift b q p := by cases b <;> simp [ift]
theorem ift_y {c : Prop} [Decidable c] {p q : Prop} (h : c) : ift (decide c) p q ↔ p := by simp [ift, h]
theorem ift_no {c : Prop} [Decidable c] {p q : Prop} (h : ¬ c) : ift (decide c) p q ↔ q := by simp [ift, h]
theorem sq_nx {b : CS} {e : Env} : sq b Q (.nx e) ↔ wS b e Q := .rfl
theorem sq_rt {b : CS} {r : Bool × D} : sq b Q (.rt r) ↔ Q (.rt r) := .rfl
theorem sq_bk {b : CS} {e : Env} : sq b Q (.bk e) ↔ Q (.bk e) := .rfl
theorem sq_ct {b : CS} {e : Env} : sq b Q (.ct e) ↔ Q (.ct e) := .rfl
theorem fin_rt {b : Bool} {d : D} : fin R (.rt (b, d)) ↔ R b d := .rfl
theorem fin_nx {e : Env} : fin R (.nx e) ↔ R false .non := .rfl
theorem itm_nx {I : Env → Prop} {e : Env} : itm I Q (.nx e) ↔ I e := .rfl
theorem itm_ct {I : Env → Prop} {e : Env} : itm I Q (.ct e) ↔ I e := .rfl
theorem itm_bk {I : Env → Prop} {e : Env} : itm I Q (.bk e) ↔ Q (.nx e) := .rfl
theorem itm_rt {I : Env → Prop} {r : Bool × D} : itm I Q (.rt r) ↔ Q (.rt r) := .rfl
theorem wF_run {n : Nat} {c : CS} {ds : List D} : wF (runF n c) ds R ↔ wS c (startE n ds) (fin R) := by
  unfold wF wS runF
  cases h : c (startE n ds) with
  | none => exact .rfl
  | some o => cases o <;> exact .rfl
theorem wF_of {g : Fn} {ds : List D} {b : Bool} {d : D} (h : g ds = some (b, d)) : wF g ds R ↔ R b d := by
  unfold wF; rw [h]; exact .rfl
theorem wF_eq {g : Fn} {ds : List D} {b : Bool} {d : D} (h : wF g ds fun b' d' => b' = b ∧ d' = d) : g ds = some (b, d) := by
  obtain ⟨⟨b', d'⟩, h1, e⟩ := wO1_ex (show wO1 (g ds) (fun r => r.1 = b ∧ r.2 = d) from h)
  obtain ⟨rfl, rfl⟩ : b' = b ∧ d' = d := e
  exact h1
theorem wS_seq {a b : CS} : wS (cSeq a b) env Q ↔ wS a env (sq b Q) := by
  unfold wS cSeq
  cases h : a env with
  | none => exact .rfl
  | some o => cases o <;> exact .rfl
theorem wS_asg' {i : Nat} {c : CE} : wS (cAsg i c) env Q ↔ wE c env fun b d => setK env i (some (b, d)) fun e => Q (.nx e) := by
  unfold wS cAsg wE setK
  cases h : c env <;> exact .rfl
theorem wS_asg {i : Nat} {c : CE} : wS (cAsg i c) env Q ↔ wE c env (kAsg env i Q) := wS_asg'
theorem wS_ret' {c : CE} : wS (cRet c) env Q ↔ wE c env fun b d => Q (.rt (b, d)) := by
  unfold wS cRet wE
  cases h : c env <;> exact .rfl
theorem wS_ret {c : CE} : wS (cRet c) env Q ↔ wE c env (kRet Q) := wS_ret'
theorem wS_retVar' {i : Nat} : wS (cRetVar i) env Q ↔ atE env i fun b d => Q (.rt (b, d)) := by
  unfold wS cRetVar atE
  cases h : env[i]? with
  | none => exact .rfl
  | some r => cases r <;> exact .rfl
theorem wS_retVar {i : Nat} : wS (cRetVar i) env Q ↔ atE env i (kRet Q) := wS_retVar'
theorem wS_retN : wS cRetN env Q ↔ Q (.rt (false, .non)) := .rfl
theorem wS_pass : wS cPass env Q ↔ Q (.nx env) := .rfl
theorem wS_break : wS cBreak env Q ↔ Q (.bk env) := .rfl
theorem wS_cont : wS cCont env Q ↔ Q (.ct env) := .rfl
theorem wS_drop' {c : CE} : wS (cDrop c) env Q ↔ wE c env fun _ _ => Q (.nx env) := by
  unfold wS cDrop wE
  cases h : c env <;> exact .rfl
theorem wS_drop {c : CE} : wS (cDrop c) env Q ↔ wE c env (kDrop env Q) := wS_drop'
theorem wS_if' {t : CT} {a b : CS} : wS (cIfS t a b) env Q ↔ wT t env fun x => ift x (wS a env Q) (wS b env Q) := by
  unfold wS cIfS wT
  cases h : t env with
  | none => exact .rfl
  | some r => cases r <;> simp [ift, wO1]
theorem wS_if {t : CT} {a b : CS} : wS (cIfS t a b) env Q ↔ wT t env (kIfS a b env Q) := wS_if'
theorem wS_frz {is : List Nat} {c : CS} : wS (cFrz is c) env Q ↔ wS c (frzs is env) Q := .rfl
theorem wS_for' {ci : CI} {g : CG} {body : CS} : wS (cFor ci g body) env Q ↔ wA ci env fun ds => wL g body ds env Q := by
  unfold wS cFor wA wL
  cases h : ci env <;> exact .rfl
theorem wS_for {ci : CI} {g : CG} {body : CS} : wS (cFor ci g body) env Q ↔ wA ci env (kFor g body env Q) := wS_for'
theorem wS_while {t : CT} {b : CS} (h : wW t b env Q) : wS (cWhile t b) env Q := by
  obtain ⟨n, h⟩ := h
  obtain ⟨o, h, q⟩ := wO1_ex h
  exact wO1_of (cWhile_eq h) q
theorem wS_star' {i j : Nat} {c : CE} : wS (cStar i j c) env Q ↔ wE c env fun _ d => asT d fun ds => wO1 ds.getLast? fun d' => setK env i (some (true, .lst ds.dropLast)) fun e => setK e j (some (false, d')) fun e => Q (.nx e) := by
  unfold wS cStar wE setK
  cases h : c env with
  | none => exact .rfl
  | some r =>
    obtain ⟨b, d⟩ := r
    cases d <;> try exact .rfl
    rename_i ds
    simp only [wO1_some, asT_]
    cases h2 : ds.getLast? <;> exact .rfl
theorem wS_star {i j : Nat} {c : CE} : wS (cStar i j c) env Q ↔ wE c env (kStar env i j Q) := wS_star'
theorem wS_par' {i j : Nat} {c : CA} : wS (cPar i j c) env Q ↔ wA c env fun ds => asA2 ds fun d e => setK env i (some (false, d)) fun env => setK env j (some (false, e)) fun env => Q (.nx env) := by
  unfold wS cPar wA setK
  cases h : c env with
  | none => exact .rfl
  | some r =>
    match r with
    | [] => exact .rfl
    | [_] => exact .rfl
    | [a, b] => exact .rfl
    | _ :: _ :: _ :: _ => exact .rfl
theorem wS_par {i j : Nat} {c : CA} : wS (cPar i j c) env Q ↔ wA c env (kPar env i j Q) := wS_par'
theorem wS_unp' {c : CE} {g : CG} : wS (cUnp c g) env Q ↔ wE c env fun _ d => wG g d env fun e => Q (.nx e) := by
  unfold wS cUnp wE wG
  cases h : c env with
  | none => exact .rfl
  | some r =>
    obtain ⟨b, d⟩ := r
    simp only [wO1_some]
    cases h2 : g d env <;> exact .rfl
theorem wS_unp {c : CE} {g : CG} : wS (cUnp c g) env Q ↔ wE c env (kUnp g env Q) := wS_unp'
theorem wS_append' {i : Nat} {c : CE} : wS (cAppend i c) env Q ↔ wE c env fun _ d => atE env i fun b l => b = true ∧ asL l fun ds => ds.length < sizeLine ∧ setK env i (some (true, .lst (ds ++ [d]))) fun e => Q (.nx e) := by
  unfold wS cAppend wE atE setK
  cases h : c env with
  | none => exact .rfl
  | some r =>
    obtain ⟨b, d⟩ := r
    cases h2 : env[i]? with
    | none => exact .rfl
    | some x => cases x with
      | none => exact .rfl
      | some x =>
        obtain ⟨b2, l⟩ := x
        cases b2 <;> cases l <;> try (simp [wO1, asL]; done)
        rename_i ds
        by_cases h3 : ds.length < sizeLine <;> simp [h3, wO1, asL]
theorem wS_append {i : Nat} {c : CE} : wS (cAppend i c) env Q ↔ wE c env (kApp env i Q) := wS_append'
theorem wS_setItem' {i : Nat} {ci : CP} {c : CE} : wS (cSetItem i ci c) env Q ↔ wE c env fun _ d => wP ci env fun k => atE env i fun b l => b = true ∧ setD k l d fun z => setK env i (some (true, z)) fun e => Q (.nx e) := by
  unfold wS cSetItem wE wP atE setK
  cases h : c env with
  | none => exact .rfl
  | some r =>
    obtain ⟨b, d⟩ := r
    cases h1 : ci env with
    | none => exact .rfl
    | some k =>
      cases h2 : env[i]? with
      | none => cases k <;> exact .rfl
      | some x => cases x with
        | none => cases k <;> exact .rfl
        | some x =>
          obtain ⟨b2, l⟩ := x
          cases b2 with
          | false => cases k <;> simp [wO1]
          | true =>
            cases l with
            | lst ds =>
              cases k <;> try (simp [wO1, setD]; done)
              rename_i n
              cases h5 : ixN ds.length n <;> simp [wO1, setD, h5]
            | dct ks ds =>
              cases h3 : keyOf k with
              | none => cases k <;> simp [wO1, setD, h3]
              | some kk => by_cases h5 : ks.length < sizeLine <;> cases k <;> simp [wO1, setD, h3, h5]
            | non => cases k <;> simp [wO1, setD]
            | bl => cases k <;> simp [wO1, setD]
            | int => cases k <;> simp [wO1, setD]
            | str => cases k <;> simp [wO1, setD]
            | tup => cases k <;> simp [wO1, setD]
theorem wS_setItem {i : Nat} {ci : CP} {c : CE} : wS (cSetItem i ci c) env Q ↔ wE c env (kSit ci env i Q) := wS_setItem'
/-! names -/
theorem atE_zero {b : Bool} {d : D} : atE (some (b, d) :: env) 0 R ↔ R b d := .rfl
theorem atE_succ {x : Option (Bool × D)} {i : Nat} : atE (x :: env) (i + 1) R ↔ atE env i R := by simp [atE]
theorem setK_zero {x v : Option (Bool × D)} {K : Env → Prop} : setK (x :: env) 0 v K ↔ K (v :: env) := .rfl
theorem setK_succ' {x v : Option (Bool × D)} {i : Nat} {K : Env → Prop} : setK (x :: env) (i + 1) v K ↔ setK env i v fun e => K (x :: e) := .rfl
theorem setK_succ {x v : Option (Bool × D)} {i : Nat} {K : Env → Prop} : setK (x :: env) (i + 1) v K ↔ setK env i v (kCons x K) := setK_succ'
theorem wipeK_nil {K : Env → Prop} : wipeK env [] K ↔ K env := .rfl
theorem wipeK_cons' {v : Nat} {vs : List Nat} {K : Env → Prop} : wipeK env (v :: vs) K ↔ wipeK env vs fun e => setK e v none K := .rfl
theorem wipeK_cons {v : Nat} {vs : List Nat} {K : Env → Prop} : wipeK env (v :: vs) K ↔ wipeK env vs (kSet v none K) := wipeK_cons'
/-! tests -/
variable {T : Bool → Prop}
theorem wT_test' {c : CE} : wT (cTest c) env T ↔ wE c env fun _ d => asB d T := by
  unfold wT cTest wE
  cases h : c env with
  | none => exact .rfl
  | some r => obtain ⟨b, d⟩ := r; cases d <;> exact .rfl
theorem wT_test {c : CE} : wT (cTest c) env T ↔ wE c env (kTest T) := wT_test'
theorem wT_not' {c : CT} : wT (cNot c) env T ↔ wT c env fun x => T (!x) := by
  unfold wT cNot
  cases h : c env <;> exact .rfl
theorem wT_not {c : CT} : wT (cNot c) env T ↔ wT c env (kNot T) := wT_not'
theorem wT_and' {a b : CT} : wT (cAnd a b) env T ↔ wT a env fun x => ift x (wT b env T) (T false) := by
  unfold wT cAnd
  cases h : a env with
  | none => exact .rfl
  | some r => cases r <;> simp [ift, wO1]
theorem wT_and {a b : CT} : wT (cAnd a b) env T ↔ wT a env (kAnd b env T) := wT_and'
theorem wT_or' {a b : CT} : wT (cOr a b) env T ↔ wT a env fun x => ift x (T true) (wT b env T) := by
  unfold wT cOr
  cases h : a env with
  | none => exact .rfl
  | some r => cases r <;> simp [ift, wO1]
theorem wT_or {a b : CT} : wT (cOr a b) env T ↔ wT a env (kOr b env T) := wT_or'
theorem wT_yes : wT cYes env T ↔ T true := .rfl
/-! expressions -/
theorem wE_val {d : D} : wE (cVal d) env R ↔ R false d := .rfl
theorem wE_var' {i : Nat} : wE (cVar i) env R ↔ atE env i fun b d => b = false ∧ R false d := by
  unfold wE cVar atE
  cases h : env[i]? with
  | none => exact .rfl
  | some x => cases x with
    | none => exact .rfl
    | some x => obtain ⟨b, d⟩ := x; cases b <;> simp [wO1]
theorem wE_var {i : Nat} : wE (cVar i) env R ↔ atE env i (kVar R) := wE_var'
theorem wP_peek' {i : Nat} {K : D → Prop} : wP (cPeek i) env K ↔ atE env i fun _ d => K d := by
  unfold wP cPeek atE
  cases h : env[i]? with
  | none => exact .rfl
  | some x => cases x <;> exact .rfl
theorem wP_peek {i : Nat} {K : D → Prop} : wP (cPeek i) env K ↔ atE env i (kPk K) := wP_peek'
theorem wP_read' {c : CE} {K : D → Prop} : wP (cRead c) env K ↔ wE c env fun _ d => K d := by
  unfold wP cRead wE
  cases h : c env <;> exact .rfl
theorem wP_read {c : CE} {K : D → Prop} : wP (cRead c) env K ↔ wE c env (kPk K) := wP_read'
theorem wE_bin' {g : G2} {a b : CP} : wE (cBin g a b) env R ↔ wP a env fun x => wP b env fun y => w2 g x y R := by
  unfold wE cBin wP w2
  cases h : a env with
  | none => exact .rfl
  | some x => cases h : b env <;> exact .rfl
theorem wE_bin {g : G2} {a b : CP} : wE (cBin g a b) env R ↔ wP a env (kBin1 g b env R) := wE_bin'
theorem wE_neg' {c : CP} : wE (cNeg c) env R ↔ wP c env fun x => asI x fun i => R false (.int (-i)) := by
  unfold wE cNeg wP
  cases h : c env with
  | none => exact .rfl
  | some x => cases x <;> exact .rfl
theorem wE_neg {c : CP} : wE (cNeg c) env R ↔ wP c env (kNeg R) := wE_neg'
theorem wE_if' {t : CT} {a b : CE} : wE (cIf t a b) env R ↔ wT t env fun x => ift x (wE a env R) (wE b env R) := by
  unfold wE cIf wT
  cases h : t env with
  | none => exact .rfl
  | some r => cases r <;> simp [ift, wO1]
theorem wE_if {t : CT} {a b : CE} : wE (cIf t a b) env R ↔ wT t env (kIfE a b env R) := wE_if'
theorem wE_and' {a b : CE} : wE (cAndV a b) env R ↔ wE a env fun _ d => asB d fun x => ift x (wE b env R) (R false (.bl false)) := by
  unfold wE cAndV
  cases h : a env with
  | none => exact .rfl
  | some r =>
    obtain ⟨_, d⟩ := r
    cases d <;> try exact .rfl
    rename_i b; cases b <;> simp [ift, wO1, asB]
theorem wE_and {a b : CE} : wE (cAndV a b) env R ↔ wE a env (kAndV b env R) := wE_and'
theorem wE_or' {a b : CE} : wE (cOrV a b) env R ↔ wE a env fun _ d => asB d fun x => ift x (R false (.bl true)) (wE b env R) := by
  unfold wE cOrV
  cases h : a env with
  | none => exact .rfl
  | some r =>
    obtain ⟨_, d⟩ := r
    cases d <;> try exact .rfl
    rename_i b; cases b <;> simp [ift, wO1, asB]
theorem wE_or {a b : CE} : wE (cOrV a b) env R ↔ wE a env (kOrV b env R) := wE_or'
theorem wE_not' {a : CE} : wE (cNotV a) env R ↔ wE a env fun _ d => asB d fun x => R false (.bl (!x)) := by
  unfold wE cNotV
  cases h : a env with
  | none => exact .rfl
  | some r => obtain ⟨_, d⟩ := r; cases d <;> exact .rfl
theorem wE_not {a : CE} : wE (cNotV a) env R ↔ wE a env (kNotV R) := wE_not'
theorem wA_nil {K : List D → Prop} : wA cNil env K ↔ K [] := .rfl
theorem wA_cons' {c : CE} {cs : CA} {K : List D → Prop} : wA (cCons c cs) env K ↔ wE c env fun _ d => wA cs env fun ds => K (d :: ds) := by
  unfold wA cCons wE
  cases h : c env with
  | none => exact .rfl
  | some r => cases h : cs env <;> exact .rfl
theorem wA_cons {c : CE} {cs : CA} {K : List D → Prop} : wA (cCons c cs) env K ↔ wE c env (kArg cs env K) := wA_cons'
theorem wA_consP' {c : CP} {cs : CA} {K : List D → Prop} : wA (cConsP c cs) env K ↔ wP c env fun d => wA cs env fun ds => K (d :: ds) := by
  unfold wA cConsP wP
  cases h : c env with
  | none => exact .rfl
  | some r => cases h : cs env <;> exact .rfl
theorem wA_consP {c : CP} {cs : CA} {K : List D → Prop} : wA (cConsP c cs) env K ↔ wP c env (kArgP cs env K) := wA_consP'
theorem wE_tup' {c : CA} : wE (cTup c) env R ↔ wA c env fun ds => ds.length ≤ sizeLine ∧ R false (.tup ds) := by
  unfold wE cTup wA
  cases h : c env with
  | none => exact .rfl
  | some r => by_cases h : r.length ≤ sizeLine <;> simp [h, wO1]
theorem wE_tup {c : CA} : wE (cTup c) env R ↔ wA c env (kTup R) := wE_tup'
theorem wE_lst' {c : CA} : wE (cLst c) env R ↔ wA c env fun ds => ds.length ≤ sizeLine ∧ R true (.lst ds) := by
  unfold wE cLst wA
  cases h : c env with
  | none => exact .rfl
  | some r => by_cases h : r.length ≤ sizeLine <;> simp [h, wO1]
theorem wE_lst {c : CA} : wE (cLst c) env R ↔ wA c env (kLst R) := wE_lst'
theorem wE_call' {g : Fn} {c : CA} : wE (cCall g c) env R ↔ wA c env fun ds => wF g ds R := by
  unfold wE cCall wA wF
  cases h : c env <;> exact .rfl
theorem wE_call {g : Fn} {c : CA} : wE (cCall g c) env R ↔ wA c env (kCall g R) := wE_call'
theorem wE_isI' {t : String} {c : CP} : wE (cIsI t c) env R ↔ wP c env fun d => R false (.bl (isD t d)) := by
  unfold wE cIsI wP
  cases h : c env <;> exact .rfl
theorem wE_isI {t : String} {c : CP} : wE (cIsI t c) env R ↔ wP c env (kIsI t R) := wE_isI'
theorem wE_sl' {c : CP} {l h : CO} : wE (cSl c l h) env R ↔ wP c env fun d => wO l env fun lo => wO h env fun hi => wSl d lo hi R := by
  unfold wE cSl wP wO
  cases h1 : c env with
  | none => exact .rfl
  | some x => cases h2 : l env with
    | none => exact .rfl
    | some y => cases h3 : h env <;> exact .rfl
theorem wE_sl {c : CP} {l h : CO} : wE (cSl c l h) env R ↔ wP c env (kSl1 l h env R) := wE_sl'
theorem wO_no {K : Option Int → Prop} : wO cNoPart env K ↔ K none := .rfl
theorem wO_part' {c : CP} {K : Option Int → Prop} : wO (cPart c) env K ↔ wP c env fun d => asI d fun i => K (some i) := by
  unfold wO cPart wP
  cases h : c env with
  | none => exact .rfl
  | some x => cases x <;> exact .rfl
theorem wO_part {c : CP} {K : Option Int → Prop} : wO (cPart c) env K ↔ wP c env (kPart K) := wO_part'
theorem wE_dnew : wE cDnew env R ↔ R true (.dct [] []) := .rfl
theorem wE_get2' {c ck : CP} {cx : CE} : wE (cGet2 c ck cx) env R ↔ wP c env fun d => wP ck env fun kd => wE cx env fun b x => getK d kd b x R := by
  unfold wE cGet2 wP
  cases h : c env with
  | none => exact .rfl
  | some d =>
    cases h1 : ck env with
    | none => cases d <;> exact .rfl
    | some kd =>
      cases h2 : cx env with
      | none => cases d <;> exact .rfl
      | some r =>
        cases d <;> try exact .rfl
        rename_i ks ds
        simp only [wO1_some, getK]
        cases h3 : keyOf kd with
        | none => exact .rfl
        | some k =>
          simp only [wO1_some]
          cases h4 : lookD ks ds k <;> exact .rfl
theorem wE_get2 {c ck : CP} {cx : CE} : wE (cGet2 c ck cx) env R ↔ wP c env (kGet1 ck cx env R) := wE_get2'
theorem wE_lc' {ci : CI} {g : CG} {t : CT} {c : CE} {vs : List Nat} : wE (cLc ci g t c vs) env R ↔ wA ci env fun ds => wipeK env vs fun e => wC g t c ds e fun out => R true (.lst out) := by
  unfold wE cLc wA wipeK wC
  cases h : ci env with
  | none => exact .rfl
  | some ds =>
    simp only [wO1_some]
    cases h2 : compL g t c (wipeE env vs) ds with
    | none => exact .rfl
    | some out => by_cases h : out.length ≤ sizeLine <;> simp [h, wO1]
theorem wE_lc {ci : CI} {g : CG} {t : CT} {c : CE} {vs : List Nat} : wE (cLc ci g t c vs) env R ↔ wA ci env (kLc1 g t c env vs R) := wE_lc'
/-! what is walked -/
variable {K : List D → Prop}
theorem wA_rng1' {c : CA} : wA (cRng1 c) env K ↔ wA c env fun ds => asA1 ds fun x => asI x fun j => small62 j = true ∧ K (rngD 0 j.toNat) := by
  unfold wA cRng1
  cases h : c env with
  | none => exact .rfl
  | some r =>
    match r with
    | [] => exact .rfl
    | [d] => cases d <;> try exact .rfl
             rename_i j
             cases h : small62 j <;> simp [wO1, asA1, asI, h]
    | a :: b :: r => cases a <;> exact .rfl
theorem wA_rng1 {c : CA} : wA (cRng1 c) env K ↔ wA c env (kRng1 K) := wA_rng1'
theorem wA_rng2' {c : CA} : wA (cRng2 c) env K ↔ wA c env fun ds => asA2 ds fun x y => asI x fun i => asI y fun j => small62 i = true ∧ small62 j = true ∧ K (rngD i (j - i).toNat) := by
  unfold wA cRng2
  cases h : c env with
  | none => exact .rfl
  | some r =>
    match r with
    | [] => exact .rfl
    | [d] => cases d <;> exact .rfl
    | [a, b] =>
      cases a <;> try (cases b <;> exact .rfl; done)
      rename_i i
      cases b <;> try exact .rfl
      rename_i j
      cases h : small62 i <;> cases h2 : small62 j <;> simp [wO1, asA2, asI, h, h2]
    | a :: b :: c :: r => cases a <;> cases b <;> exact .rfl
theorem wA_rng2 {c : CA} : wA (cRng2 c) env K ↔ wA c env (kRng2 K) := wA_rng2'
theorem wA_seqI' {c : CE} : wA (cSeqI c) env K ↔ wE c env fun _ d => asSq d K := by
  unfold wA cSeqI wE
  cases h : c env with
  | none => exact .rfl
  | some r => obtain ⟨_, d⟩ := r; cases d <;> exact .rfl
theorem wA_seqI {c : CE} : wA (cSeqI c) env K ↔ wE c env (kSeqI K) := wA_seqI'
theorem wA_items' {c : CE} : wA (cItems c) env K ↔ wE c env fun _ d => asL d K := by
  unfold wA cItems wE
  cases h : c env with
  | none => exact .rfl
  | some r => obtain ⟨_, d⟩ := r; cases d <;> exact .rfl
theorem wA_items {c : CE} : wA (cItems c) env K ↔ wE c env (kItL K) := wA_items'
theorem wA_itemsT' {c : CE} : wA (cItemsT c) env K ↔ wE c env fun _ d => asT d K := by
  unfold wA cItemsT wE
  cases h : c env with
  | none => exact .rfl
  | some r => obtain ⟨_, d⟩ := r; cases d <;> exact .rfl
theorem wA_itemsT {c : CE} : wA (cItemsT c) env K ↔ wE c env (kItT K) := wA_itemsT'
theorem wA_zip' {c : CA} : wA (cZip c) env K ↔ wA c env fun ds => asA2 ds fun x y => asL x fun xs => asL y fun ys => K (zipD xs ys) := by
  unfold wA cZip
  cases h : c env with
  | none => exact .rfl
  | some r =>
    match r with
    | [] => exact .rfl
    | [d] => cases d <;> exact .rfl
    | [a, b] => cases a <;> cases b <;> exact .rfl
    | a :: b :: c :: r => cases a <;> cases b <;> exact .rfl
theorem wA_zip {c : CA} : wA (cZip c) env K ↔ wA c env (kZip K) := wA_zip'
theorem wA_enum' {c : CA} : wA (cEnum c) env K ↔ wA c env fun ds => asA1 ds fun x => asL x fun xs => K (enumD 0 xs) := by
  unfold wA cEnum
  cases h : c env with
  | none => exact .rfl
  | some r =>
    match r with
    | [] => exact .rfl
    | [d] => cases d <;> exact .rfl
    | a :: b :: r => cases a <;> exact .rfl
theorem wA_enum {c : CA} : wA (cEnum c) env K ↔ wA c env (kEnum K) := wA_enum'
theorem wE_listR' {c : CI} : wE (cListR c) env R ↔ wA c env fun ds => ds.length ≤ sizeLine ∧ R true (.lst ds) := by
  unfold wE cListR wA
  cases h : c env with
  | none => exact .rfl
  | some r => by_cases h : r.length ≤ sizeLine <;> simp [h, wO1]
theorem wE_listR {c : CI} : wE (cListR c) env R ↔ wA c env (kLst R) := wE_listR'
/-! targets -/
variable {M : Env → Prop}
theorem wG_set {i : Nat} {d : D} : wG (gSet i) d env M ↔ setK env i (some (false, d)) M := .rfl
theorem wG_tup {n : Nat} {gs : CGs} {ds : List D} : wG (gTupC n gs) (.tup ds) env M ↔ ds.length = n ∧ wGs gs ds env M := by
  unfold wG gTupC wGs
  by_cases h : ds.length = n <;> simp [h, wO1]
theorem wG_seqT {n : Nat} {gs : CGs} {ds : List D} : wG (gSeqC n gs) (.tup ds) env M ↔ ds.length = n ∧ wGs gs ds env M := by
  unfold wG gSeqC wGs
  by_cases h : ds.length = n <;> simp [h, wO1]
theorem wG_seqL {n : Nat} {gs : CGs} {ds : List D} : wG (gSeqC n gs) (.lst ds) env M ↔ ds.length = n ∧ wGs gs ds env M := by
  unfold wG gSeqC wGs
  by_cases h : ds.length = n <;> simp [h, wO1]
theorem wGs_nil : wGs gNilC [] env M ↔ M env := .rfl
theorem wGs_cons' {g : CG} {gs : CGs} {d : D} {ds : List D} : wGs (gConsC g gs) (d :: ds) env M ↔ wG g d env fun e => wGs gs ds e M := by
  unfold wGs gConsC wG
  simp only []
  cases h : g d env <;> exact .rfl
theorem wGs_cons {g : CG} {gs : CGs} {d : D} {ds : List D} : wGs (gConsC g gs) (d :: ds) env M ↔ wG g d env (kGs gs ds M) := wGs_cons'
/-! operators -/
variable {a b : Int} {xs ys : List D}
theorem w2_add : w2 dAdd (.int a) (.int b) R ↔ R false (.int (a + b)) := by simp [w2, wO1, dAdd]
theorem w2_addL : w2 dAdd (.lst xs) (.lst ys) R ↔ xs.length + ys.length ≤ sizeLine ∧ R true (.lst (xs ++ ys)) := by
  unfold w2 dAdd; by_cases h : xs.length + ys.length ≤ sizeLine <;> simp [h, wO1]
theorem w2_addT : w2 dAdd (.tup xs) (.tup ys) R ↔ xs.length + ys.length ≤ sizeLine ∧ R false (.tup (xs ++ ys)) := by
  unfold w2 dAdd; by_cases h : xs.length + ys.length ≤ sizeLine <;> simp [h, wO1]
theorem w2_addS {x y : Str} : w2 dAdd (.str x) (.str y) R ↔ x.length + y.length ≤ sizeLine ∧ R false (.str (x ++ y)) := by
  unfold w2 dAdd; by_cases h : x.length + y.length ≤ sizeLine <;> simp [h, wO1]
theorem w2_sub : w2 dSub (.int a) (.int b) R ↔ R false (.int (a - b)) := by simp [w2, wO1, dSub, dI]
theorem w2_mul : w2 dMul (.int a) (.int b) R ↔ mulOk a b = true ∧ R false (.int (a * b)) := by
  unfold w2 dMul dI; cases h : mulOk a b <;> simp [h, wO1]
theorem w2_div : w2 dDiv (.int a) (.int b) R ↔ divOk a b = true ∧ R false (.int (a.fdiv b)) := by
  unfold w2 dDiv dI; cases h : divOk a b <;> simp [h, wO1]
theorem w2_mod : w2 dMod (.int a) (.int b) R ↔ modOk a b = true ∧ R false (.int (a.fmod b)) := by
  unfold w2 dMod dI; cases h : modOk a b <;> simp [h, wO1]
theorem w2_pow : w2 dPow (.int a) (.int b) R ↔ powOk a b = true ∧ R false (.int (a ^ b.toNat)) := by
  unfold w2 dPow dI; cases h : powOk a b <;> simp [h, wO1]
theorem w2_lt : w2 dLt (.int a) (.int b) R ↔ R false (.bl (decide (a < b))) := by simp [w2, wO1, dLt, dI]
theorem w2_le : w2 dLe (.int a) (.int b) R ↔ R false (.bl (decide (a ≤ b))) := by simp [w2, wO1, dLe, dI]
theorem w2_gt : w2 dGt (.int a) (.int b) R ↔ R false (.bl (decide (b < a))) := by simp [w2, wO1, dGt, dI]
theorem w2_ge : w2 dGe (.int a) (.int b) R ↔ R false (.bl (decide (b ≤ a))) := by simp [w2, wO1, dGe, dI]
theorem w2_eqI : w2 dEq (.int a) (.int b) R ↔ R false (.bl (decide (a = b))) := by simp [w2, wO1, dEq, eqD]
theorem w2_neI : w2 dNe (.int a) (.int b) R ↔ R false (.bl (!decide (a = b))) := by simp [w2, wO1, dNe, eqD]
theorem w2_eqS {x y : Str} : w2 dEq (.str x) (.str y) R ↔ R false (.bl (decide (x = y))) := by simp [w2, wO1, dEq, eqD]
theorem w2_neS {x y : Str} : w2 dNe (.str x) (.str y) R ↔ R false (.bl (!decide (x = y))) := by simp [w2, wO1, dNe, eqD]
theorem w2_eqB {x y : Bool} : w2 dEq (.bl x) (.bl y) R ↔ R false (.bl (decide (x = y))) := by simp [w2, wO1, dEq, eqD]
theorem w2_neB {x y : Bool} : w2 dNe (.bl x) (.bl y) R ↔ R false (.bl (!decide (x = y))) := by simp [w2, wO1, dNe, eqD]
theorem w2_ixL : w2 dIx (.lst xs) (.int a) R ↔ wO1 (atI xs a) fun d => R false d := by
  unfold w2 dIx; simp only []; cases h : atI xs a <;> exact .rfl
theorem w2_ixT : w2 dIx (.tup xs) (.int a) R ↔ wO1 (atI xs a) fun d => R false d := by
  unfold w2 dIx; simp only []; cases h : atI xs a <;> exact .rfl
theorem w2_isN {d : D} : w2 dIsN d .non R ↔ R false (.bl (isNon d)) := by simp [w2, wO1, dIsN]
theorem w2_notN {d : D} : w2 dNotN d .non R ↔ R false (.bl (!isNon d)) := by simp [w2, wO1, dNotN]
/-! built-ins -/
theorem wF_lenL : wF fLen [.lst xs] R ↔ R false (.int xs.length) := by simp [wF, wO1, fLen]
theorem wF_lenT : wF fLen [.tup xs] R ↔ R false (.int xs.length) := by simp [wF, wO1, fLen]
theorem wF_tupL : wF fTuple [.lst xs] R ↔ R false (.tup xs) := by simp [wF, wO1, fTuple]
theorem wF_tupT : wF fTuple [.tup xs] R ↔ R false (.tup xs) := by simp [wF, wO1, fTuple]
theorem wF_lstL : wF fList [.lst xs] R ↔ R true (.lst xs) := by simp [wF, wO1, fList]
theorem wF_lstT : wF fList [.tup xs] R ↔ R true (.lst xs) := by simp [wF, wO1, fList]
theorem wF_max2 : wF fMax [.int a, .int b] R ↔ R false (.int (if b > a then b else a)) := by simp [wF, wO1, fMax]
theorem wF_min2 : wF fMin [.int a, .int b] R ↔ R false (.int (if b < a then b else a)) := by simp [wF, wO1, fMin]
theorem wF_abs : wF fAbs [.int a] R ↔ R false (.int (if a < 0 then -a else a)) := by simp [wF, wO1, fAbs]
theorem wF_intI : wF fInt [.int a] R ↔ R false (.int a) := by simp [wF, wO1, fInt]
theorem wF_intB {c : Bool} : wF fInt [.bl c] R ↔ R false (.int (if c then 1 else 0)) := by simp [wF, wO1, fInt]
theorem intsOf_map' : ∀ {ns : List Int}, intsOf (ns.map D.int) = some ns
  | [] => rfl
  | i :: r => by simp [intsOf, intsOf_map' (ns := r)]
theorem wF_sum {ns : List Int} : wF fSum [.lst (ns.map D.int)] R ↔ R false (.int ns.sum) := by simp [wF, wO1, fSum, intsOf_map']
theorem wF_maxL {ns : List Int} (h : ns ≠ []) : wF fMaxL [.lst (ns.map D.int)] R ↔ R false (.int (maxI ns)) := by
  cases ns with
  | nil => exact absurd rfl h
  | cons i r =>
    have := intsOf_map' (ns := i :: r)
    simp only [wF, fMaxL, this]; exact .rfl
theorem wF_minL {ns : List Int} (h : ns ≠ []) : wF fMinL [.lst (ns.map D.int)] R ↔ R false (.int (minI ns)) := by
  cases ns with
  | nil => exact absurd rfl h
  | cons i r =>
    have := intsOf_map' (ns := i :: r)
    simp only [wF, fMinL, this]; exact .rfl
/-! items of mapped lists -/
theorem atI_in {α β : Type} {f : α → β} {l : List α} {i : Int} (h0 : 0 ≤ i) (h1 : i < l.length) : atI (l.map f) i = some (f (l[i.toNat]'(by omega))) := by
  obtain ⟨k, rfl⟩ := Int.eq_ofNat_of_zero_le h0
  rw [atI_nat', List.getElem?_map]
  simp
  exact ⟨_, List.getElem?_eq_getElem (by omega), rfl⟩
theorem w2_ixTI {l : List Int} (h0 : 0 ≤ a) (h1 : a < l.length) : w2 dIx (.tup (l.map D.int)) (.int a) R ↔ R false (.int (l.getD a.toNat 0)) := by
  rw [w2_ixT, atI_in h0 h1]
  have : l.getD a.toNat 0 = l[a.toNat]'(by omega) := by simp [show a.toNat < l.length by omega]
  rw [this]; exact .rfl
theorem w2_ixLI {l : List Int} (h0 : 0 ≤ a) (h1 : a < l.length) : w2 dIx (.lst (l.map D.int)) (.int a) R ↔ R false (.int (l.getD a.toNat 0)) := by
  rw [w2_ixL, atI_in h0 h1]
  have : l.getD a.toNat 0 = l[a.toNat]'(by omega) := by simp [show a.toNat < l.length by omega]
  rw [this]; exact .rfl
/-! ### loops -/
theorem wL_nil {g : CG} {body : CS} : wL g body [] env Q ↔ Q (.nx env) := .rfl
theorem wL_cons {g : CG} {body : CS} {d : D} {ds : List D} : wL g body (d :: ds) env Q ↔ wG g d env fun e => wS body e (itm (kLp g body ds Q) Q) := by
  unfold wL wG wS
  rw [forL]
  cases h : g d env with
  | none => exact .rfl
  | some e =>
    simp only [wO1_some]
    cases h2 : body e with
    | none => exact .rfl
    | some o => cases o <;> exact .rfl
theorem wS_mono {c : CS} {Q' : Out → Prop} (h : wS c env Q) (m : ∀ o, Q o → Q' o) : wS c env Q' := wO1_mono h m
theorem wG_mono {g : CG} {d : D} {M' : Env → Prop} (h : wG g d env M) (m : ∀ e, M e → M' e) : wG g d env M' := wO1_mono h m
theorem wL_ix {α : Type} {g : CG} {body : CS} (enc : α → D) (I : Nat → Env → Prop) : ∀ (l : List α) (k : Nat) (env : Env), I k env →
    (∀ j (hj : j < l.length) env, I (k + j) env → wG g (enc l[j]) env fun e => wS body e (itm (I (k + j + 1)) Q)) → (∀ env, I (k + l.length) env → Q (.nx env)) → wL g body (l.map enc) env Q
  | [], k, env, h0, hs, hf => wL_nil.mpr (hf env h0)
  | x :: l, k, env, h0, hs, hf => by
    rw [List.map_cons, wL_cons]
    refine wG_mono (hs 0 (by simp) env h0) fun e h => wS_mono h fun o q => ?_
    have rec' : ∀ e, I (k + 1) e → wL g body (l.map enc) e Q := fun e h => wL_ix enc I l (k + 1) e h (fun j hj env h => by
      have := hs (j + 1) (by simpa using hj) env (by rw [← Nat.add_assoc, Nat.add_right_comm]; exact h)
      simpa [Nat.add_assoc, Nat.add_comm 1 j] using this) (fun env h => hf env (by simpa [Nat.add_assoc, Nat.add_comm 1] using h))
    cases o with
    | nx e => exact rec' e q
    | ct e => exact rec' e q
    | bk e => exact q
    | rt r => exact q
theorem rngD_map {lo : Int} {n : Nat} : rngD lo n = (List.range n).map fun (i : Nat) => D.int (lo + (i : Int)) := rfl
/-- a loop over range -/
theorem wL_rng {g : CG} {body : CS} {lo : Int} {n : Nat} (I : Nat → Env → Prop) (h0 : I 0 env) (hs : ∀ k, k < n → ∀ env, I k env → wG g (.int (lo + (k : Int))) env fun e => wS body e (itm (I (k + 1)) Q)) (hf : ∀ env, I n env → Q (.nx env)) : wL g body (rngD lo n) env Q := by
  rw [rngD_map]
  refine wL_ix (α := Nat) (fun i => D.int (lo + (i : Int))) I (List.range n) 0 env h0 (fun j hj env h => ?_) fun env h => hf env (by simpa using h)
  rw [List.length_range] at hj
  have := hs j hj env (by simpa using h)
  simpa using this
/-- a loop over given items -/
theorem wL_map {α : Type} {g : CG} {body : CS} {l : List α} {enc : α → D} (I : Nat → Env → Prop) (h0 : I 0 env) (hs : ∀ k (hk : k < l.length) env, I k env → wG g (enc l[k]) env fun e => wS body e (itm (I (k + 1)) Q)) (hf : ∀ env, I l.length env → Q (.nx env)) : wL g body (l.map enc) env Q :=
  wL_ix enc I l 0 env h0 (fun j hj env h => by simpa using hs j hj env (by simpa using h)) fun env h => hf env (by simpa using h)
/-- a while -/
theorem wW_inv {t : CT} {b : CS} (I : Nat → Env → Prop) : ∀ (n : Nat) (env : Env), I n env → (∀ n env, I n env → wT t env fun x => ift x (wS b env (itm (fun e => ∃ m, m < n ∧ I m e) Q)) (Q (.nx env))) → wW t b env Q := by
  intro n
  induction n using Nat.strongRecOn with
  | _ n ih =>
    intro env h0 hs
    obtain ⟨x, hx, h1, h2⟩ := wO1_ex (hs n env h0)
    cases x with
    | false => exact ⟨1, wO1_of (x := .nx env) (by rw [whileF, hx]) (h2 rfl)⟩
    | true =>
      obtain ⟨o, ho, q⟩ := wO1_ex (h1 rfl)
      cases o with
      | nx e =>
        obtain ⟨m, hm, hI⟩ := q
        obtain ⟨k, hk⟩ := ih m hm e hI hs
        obtain ⟨o, hk, q⟩ := wO1_ex hk
        exact ⟨k + 1, wO1_of (x := o) (by rw [whileF, hx]; simp only [ho]; exact hk) q⟩
      | ct e =>
        obtain ⟨m, hm, hI⟩ := q
        obtain ⟨k, hk⟩ := ih m hm e hI hs
        obtain ⟨o, hk, q⟩ := wO1_ex hk
        exact ⟨k + 1, wO1_of (x := o) (by rw [whileF, hx]; simp only [ho]; exact hk) q⟩
      | bk e => exact ⟨1, wO1_of (x := Out.nx e) (by rw [whileF, hx]; simp only [ho]) (show Q (.nx e) from q)⟩
      | rt r => exact ⟨1, wO1_of (x := Out.rt r) (by rw [whileF, hx]; simp only [ho]) (show Q (.rt r) from q)⟩
/-- comprehensions -/
theorem wC_map {α : Type} {g : CG} {c : CE} {l : List α} {enc f : α → D} (hl : l.length ≤ sizeLine) (h : ∀ x, x ∈ l → wG g (enc x) env fun e => wE c e fun _ d => d = f x) (q : K (l.map f)) : wC g cYes c (l.map enc) env K := by
  refine wO1_of (x := l.map f) ?_ ⟨by simpa using hl, q⟩
  clear q hl
  induction l with
  | nil => rfl
  | cons x l ih =>
    obtain ⟨e, h1, h2⟩ := wO1_ex (h x List.mem_cons_self)
    obtain ⟨⟨b, d⟩, h2, hd⟩ := wO1_ex h2
    have hd : d = f x := hd
    subst hd
    have ih := ih fun x hx => h x (List.mem_cons_of_mem _ hx)
    rw [List.map_cons, compL, h1]
    simp only [cYes, h2, ih]
    rfl
theorem wC_rng {g : CG} {c : CE} {lo : Int} {n : Nat} (f : Nat → D) (hl : n ≤ sizeLine) (h : ∀ k, k < n → wG g (.int (lo + (k : Int))) env fun e => wE c e fun _ d => d = f k) (q : K ((List.range n).map f)) : wC g cYes c (rngD lo n) env K := by
  rw [rngD_map]
  exact wC_map (by simpa using hl) (fun x hx => h x (List.mem_range.mp hx)) q
theorem wC_filter {α : Type} {g : CG} {t : CT} {c : CE} {l : List α} {enc f : α → D} (p : α → Bool) (hl : l.length ≤ sizeLine) (h : ∀ x, x ∈ l → wG g (enc x) env fun e => wT t e fun b => b = p x ∧ (p x = true → wE c e fun _ d => d = f x)) (q : K ((l.filter p).map f)) : wC g t c (l.map enc) env K := by
  refine wO1_of (x := (l.filter p).map f) ?_ ⟨by rw [List.length_map]; exact Nat.le_trans (List.length_filter_le _ _) hl, q⟩
  clear q hl
  induction l with
  | nil => rfl
  | cons x l ih =>
    obtain ⟨e, h1, h2⟩ := wO1_ex (h x List.mem_cons_self)
    obtain ⟨b, h2, h3, h4⟩ := wO1_ex h2
    have ih := ih fun x hx => h x (List.mem_cons_of_mem _ hx)
    rw [List.map_cons, compL, h1]
    cases hp : p x with
    | false => rw [hp] at h3; subst h3; simp only [h2, List.filter_cons, hp, ih]; rfl
    | true =>
      rw [hp] at h3; subst h3
      obtain ⟨⟨b, d⟩, h5, hd⟩ := wO1_ex (h4 hp)
      have hd : d = f x := hd
      subst hd
      simp only [h2, List.filter_cons, hp, h5, ih]
      rfl
end
/-! freezing -/
def frK (env : Env) (i : Nat) (K : Env → Prop) : Prop := K (frzAt i env)
def kFrz (is : List Nat) (c : CS) (Q : Out → Prop) (e : Env) : Prop := wS (cFrz is c) e Q
theorem kFrz_ {is : List Nat} {c : CS} {Q : Out → Prop} {e : Env} : kFrz is c Q e ↔ wS (cFrz is c) e Q := .rfl
theorem wS_frz0 {c : CS} {env : Env} {Q : Out → Prop} : wS (cFrz [] c) env Q ↔ wS c env Q := .rfl
theorem wS_frz1 {i : Nat} {is : List Nat} {c : CS} {env : Env} {Q : Out → Prop} : wS (cFrz (i :: is) c) env Q ↔ frK env i (kFrz is c Q) := .rfl
theorem frK_zero {b : Bool} {d : D} {env : Env} {K : Env → Prop} : frK (some (b, d) :: env) 0 K ↔ K (some (false, d) :: env) := by
  unfold frK frzAt
  cases b <;> simp
theorem frK_none {env : Env} {K : Env → Prop} : frK (none :: env) 0 K ↔ K (none :: env) := by
  unfold frK frzAt; simp
theorem frK_succ {x : Option (Bool × D)} {i : Nat} {env : Env} {K : Env → Prop} : frK (x :: env) (i + 1) K ↔ frK env i (kCons x K) := by
  have : frzAt (i + 1) (x :: env) = x :: frzAt i env := by
    unfold frzAt
    rw [List.getElem?_cons_succ]
    cases h : env[i]? with
    | none => rfl
    | some y => cases y with
      | none => rfl
      | some z => obtain ⟨b, d⟩ := z; cases b <;> rfl
  unfold frK kCons
  rw [this]
theorem ixN_in {n : Nat} {i : Int} (h0 : 0 ≤ i) (h1 : i < n) : ixN n i = some i.toNat := by
  unfold ixN; rw [if_pos h0, if_pos h1]
theorem setD_L {n : Int} {ds : List D} {d : D} {K : D → Prop} (h0 : 0 ≤ n) (h1 : n < ds.length) : setD (.int n) (.lst ds) d K ↔ K (.lst (ds.set n.toNat d)) := by
  show wO1 (ixN ds.length n) _ ↔ _
  rw [ixN_in h0 h1]; exact .rfl
theorem setD_LI {n v : Int} {l : List Int} {K : D → Prop} (h0 : 0 ≤ n) (h1 : n < l.length) : setD (.int n) (.lst (l.map D.int)) (.int v) K ↔ K (.lst ((l.set n.toNat v).map D.int)) := by
  rw [setD_L h0 (by simpa using h1), List.map_set]
theorem tk_map {α β : Type} {f : α → β} {xs : List α} {n : Nat} : (xs.map f).take n = (xs.take n).map f := by simp
theorem dr_map {α β : Type} {f : α → β} {xs : List α} {n : Nat} : (xs.map f).drop n = (xs.drop n).map f := by simp
theorem dl_map {α β : Type} {f : α → β} {xs : List α} : (xs.map f).dropLast = xs.dropLast.map f := by simp
theorem map_cat {xs ys : List Int} : xs.map D.int ++ ys.map D.int = (xs ++ ys).map D.int := by simp
theorem map_snoc {xs : List Int} {v : Int} : xs.map D.int ++ [D.int v] = (xs ++ [v]).map D.int := by simp
theorem map_cons' {xs : List Int} {v : Int} : D.int v :: xs.map D.int = (v :: xs).map D.int := by simp
/-! slices, methods of lists, calls that read -/
def wSlA (d : D) (lo hi : Option Int) (R : Bool → D → Prop) : Prop := wO1 (dSlA d lo hi) fun r => R r.1 r.2
def kSlA3 (d : D) (lo : Option Int) (R : Bool → D → Prop) (hi : Option Int) : Prop := wSlA d lo hi R
def kSlA2 (h : CO) (env : Env) (d : D) (R : Bool → D → Prop) (lo : Option Int) : Prop := wO h env (kSlA3 d lo R)
def kSlA1 (l h : CO) (env : Env) (R : Bool → D → Prop) (d : D) : Prop := wO l env (kSlA2 h env d R)
theorem kSlA3_ {d : D} {lo : Option Int} {R : Bool → D → Prop} {hi : Option Int} : kSlA3 d lo R hi ↔ wSlA d lo hi R := .rfl
theorem kSlA2_ {h : CO} {env : Env} {d : D} {R : Bool → D → Prop} {lo : Option Int} : kSlA2 h env d R lo ↔ wO h env (kSlA3 d lo R) := .rfl
theorem kSlA1_ {l h : CO} {env : Env} {R : Bool → D → Prop} {d : D} : kSlA1 l h env R d ↔ wO l env (kSlA2 h env d R) := .rfl
theorem wE_slA {env : Env} {R : Bool → D → Prop} {c : CP} {l h : CO} : wE (cSlA c l h) env R ↔ wP c env (kSlA1 l h env R) := by
  unfold wE cSlA wP
  cases h1 : c env with
  | none => exact .rfl
  | some x =>
    show _ ↔ wO1 (l env) _
    cases h2 : l env with
    | none => exact .rfl
    | some y =>
      show _ ↔ wO1 (h env) _
      cases h3 : h env <;> exact .rfl
theorem wSlA_T {xs : List D} {lo hi : Option Int} {R : Bool → D → Prop} : wSlA (.tup xs) lo hi R ↔ R false (.tup (cutD xs lo hi)) := .rfl
theorem wSlA_L {xs : List D} {lo hi : Option Int} {R : Bool → D → Prop} : wSlA (.lst xs) lo hi R ↔ R true (.lst (cutD xs lo hi)) := .rfl
theorem cut_map {α β : Type} {f : α → β} {xs : List α} {lo hi : Option Int} : cutD (xs.map f) lo hi = (cutD xs lo hi).map f := by
  unfold cutD; simp [List.map_drop, List.map_take]
theorem cut_to {α : Type} {xs : List α} {k : Int} (h : 0 ≤ k) : cutD xs none (some k) = xs.take k.toNat := by
  unfold cutD HT.sIx
  simp only [List.drop_zero, Nat.sub_zero]
  rw [if_neg (by omega)]
  rcases Nat.lt_or_ge k.toNat xs.length with h2 | h2
  · congr 1; omega
  · rw [List.take_of_length_le (by omega), List.take_of_length_le (by omega)]
theorem cut_from {α : Type} {xs : List α} {k : Int} (h : 0 ≤ k) : cutD xs (some k) none = xs.drop k.toNat := by
  unfold cutD HT.sIx
  simp only
  rw [if_neg (by omega)]
  rcases Nat.lt_or_ge k.toNat xs.length with h2 | h2
  · rw [show min k.toNat xs.length = k.toNat from by omega, List.take_of_length_le (by simp)]
  · rw [List.drop_eq_nil_of_le (show xs.length ≤ min k.toNat xs.length from by omega), List.drop_eq_nil_of_le h2]; simp
theorem cut_all {α : Type} {xs : List α} : cutD xs none none = xs := by
  unfold cutD HT.sIx; simp
theorem cut_init {α : Type} {xs : List α} : cutD xs none (some (-1)) = xs.dropLast := by
  unfold cutD HT.sIx
  simp only [List.drop_zero, Nat.sub_zero]
  rw [if_pos (by omega), List.dropLast_eq_take]
  congr 1
  omega
theorem cut_mid {α : Type} {xs : List α} {a b : Int} (h : 0 ≤ a) (h2 : 0 ≤ b) : cutD xs (some a) (some b) = (xs.drop a.toNat).take (b.toNat - a.toNat) := by
  unfold cutD HT.sIx
  simp only
  rw [if_neg (by omega), if_neg (by omega)]
  rcases Nat.lt_or_ge a.toNat xs.length with h3 | h3
  · rw [show min a.toNat xs.length = a.toNat from by omega]
    rcases Nat.lt_or_ge b.toNat xs.length with h4 | h4
    · rw [show min b.toNat xs.length = b.toNat from by omega]
    · rw [List.take_of_length_le (by simp; omega), List.take_of_length_le (by simp; omega)]
  · rw [List.drop_eq_nil_of_le (show xs.length ≤ min a.toNat xs.length from by omega), List.drop_eq_nil_of_le h3]; simp
def kM0 (env : Env) (i : Nat) (f : List D → List D) (Q : Out → Prop) (ds : List D) : Prop := setK env i (some (true, .lst (f ds))) (kNx Q)
def kM (env : Env) (i : Nat) (f : List D → List D) (Q : Out → Prop) (b : Bool) (d : D) : Prop := b = true ∧ asL d (kM0 env i f Q)
theorem kM0_ {env : Env} {i : Nat} {f : List D → List D} {Q : Out → Prop} {ds : List D} : kM0 env i f Q ds ↔ setK env i (some (true, .lst (f ds))) (kNx Q) := .rfl
theorem kM_ {env : Env} {i : Nat} {f : List D → List D} {Q : Out → Prop} {b : Bool} {d : D} : kM env i f Q b d ↔ (b = true ∧ asL d (kM0 env i f Q)) := .rfl
theorem wS_m0 {env : Env} {i : Nat} {f : List D → List D} {Q : Out → Prop} : wS (cM0 i f) env Q ↔ atE env i (kM env i f Q) := by
  unfold wS cM0 atE
  cases h : env[i]? with
  | none => exact .rfl
  | some x => cases x with
    | none => exact .rfl
    | some x =>
      obtain ⟨b, d⟩ := x
      cases b <;> cases d <;> simp [wO1, kM, asL, kM0, setK, kNx]
def kCP (n : Nat) (g : Fn) (R : Bool → D → Prop) (ds : List D) : Prop := ds.length = n ∧ wF g ds fun b d => b = false ∧ scal d = true ∧ R false d
def kCP2 (R : Bool → D → Prop) (b : Bool) (d : D) : Prop := b = false ∧ scal d = true ∧ R false d
theorem kCP2_ {R : Bool → D → Prop} {b : Bool} {d : D} : kCP2 R b d ↔ (b = false ∧ scal d = true ∧ R false d) := .rfl
theorem kCP_ {n : Nat} {g : Fn} {R : Bool → D → Prop} {ds : List D} : kCP n g R ds ↔ (ds.length = n ∧ wF g ds (kCP2 R)) := .rfl
theorem wE_callP {env : Env} {R : Bool → D → Prop} {n : Nat} {g : Fn} {c : CA} : wE (cCallP n g c) env R ↔ wA c env (kCP n g R) := by
  unfold wE cCallP wA
  cases h : c env with
  | none => exact .rfl
  | some ds =>
    simp only [wO1_some, kCP, wF]
    by_cases hn : ds.length = n
    · simp only [hn, if_true, true_and]
      cases hg : g ds with
      | none => exact .rfl
      | some r =>
        obtain ⟨b, d⟩ := r
        cases b <;> cases hs : scal d <;> simp [wO1, hs]
    · simp [hn, wO1]
theorem scal_int {i : Int} : scal (.int i) = true := rfl
theorem scal_bl {b : Bool} : scal (.bl b) = true := rfl
theorem scal_str {x : Str} : scal (.str x) = true := rfl
theorem scal_non : scal .non = true := rfl
theorem powOk10 {n : Int} (h0 : 0 ≤ n) (h : n ≤ 100000) : powOk 10 n = true := by
  refine decide_eq_true ⟨h0, ?_⟩
  have : Builtin.Int.intBits 10 = 4 := by decide
  rw [this]
  have e : (2 : Int) ^ 27 = 134217728 := by decide
  omega
theorem powOk2 {n : Int} (h0 : 0 ≤ n) (h : n ≤ 100000) : powOk 2 n = true := by
  refine decide_eq_true ⟨h0, ?_⟩
  have : Builtin.Int.intBits 2 = 2 := by decide
  rw [this]
  have e : (2 : Int) ^ 27 = 134217728 := by decide
  omega
theorem sm62 {i : Int} (h0 : -4000000000000000000 ≤ i) (h : i ≤ 4000000000000000000) : small62 i = true := decide_eq_true ⟨by omega, by omega⟩
theorem szl {n : Nat} (h : n ≤ 1000000) : n ≤ sizeLine := Nat.le_trans h (by decide)
theorem szl' {n : Nat} (h : n < 1000000) : n < sizeLine := Nat.lt_of_lt_of_le h (by decide)
theorem start_cons {n : Nat} {d : D} {ds : List D} : startE (n + 1) (d :: ds) = some (false, d) :: startE n ds := by simp [startE]
theorem start_nil {n : Nat} : startE (n + 1) [] = none :: startE n [] := by simp [startE, List.replicate_succ]
theorem start_zero : startE 0 [] = [] := rfl
end L2.EV

set_option Elab.async false
set_option linter.all false
set_option maxRecDepth 100000
set_option maxHeartbeats 4000000
namespace L2.EV
open PySem
/-! ### data without truths and dicts: == is = -/
mutual
def okD : Nat → D → Bool
  | _, .non => true
  | _, .bl _ => false
  | _, .int _ => true
  | _, .str x => PyData.strOk x
  | n, .tup ds => decide (0 < n) && okDs (n - 1) ds
  | n, .lst ds => decide (0 < n) && okDs (n - 1) ds
  | _, .dct _ _ => false
def okDs : Nat → List D → Bool
  | _, [] => true
  | n, d :: ds => okD n d && okDs n ds
end
theorem okDs_iff {n : Nat} : ∀ {ds : List D}, okDs n ds = true ↔ ∀ d ∈ ds, okD n d = true
  | [] => by simp [okDs]
  | d :: ds => by
    rw [okDs, Bool.and_eq_true, okDs_iff (ds := ds)]
    simp
theorem okDs_map {α : Type} {n : Nat} {f : α → D} {l : List α} (h : ∀ x ∈ l, okD n (f x) = true) : okDs n (l.map f) = true := by
  rw [okDs_iff]
  intro d hd
  obtain ⟨x, hx, rfl⟩ := List.mem_map.mp hd
  exact h x hx
theorem okD_ints {n : Nat} {l : List Int} : okDs n (l.map D.int) = true := okDs_map fun x _ => rfl
mutual
theorem ok_lay : ∀ (d : D) (n : Nat), okD n d = true → (toPy d).canLay0 = true ∧ (toPy d).depth ≤ n
  | .non, n, _ => ⟨rfl, Nat.zero_le _⟩
  | .bl _, n, h => by cases h
  | .int _, n, _ => ⟨rfl, Nat.zero_le _⟩
  | .str _, n, h => ⟨h, Nat.zero_le _⟩
  | .tup ds, n, h => by
    rw [okD, Bool.and_eq_true] at h
    have h0 : 0 < n := of_decide_eq_true h.1
    obtain ⟨a, b⟩ := oks_lay ds (n - 1) h.2
    exact ⟨a, by show PyData.depthAll (toPys ds) + 1 ≤ n; omega⟩
  | .lst ds, n, h => by
    rw [okD, Bool.and_eq_true] at h
    have h0 : 0 < n := of_decide_eq_true h.1
    obtain ⟨a, b⟩ := oks_lay ds (n - 1) h.2
    exact ⟨a, by show PyData.depthAll (toPys ds) + 1 ≤ n; omega⟩
  | .dct _ _, n, h => by cases h
theorem oks_lay : ∀ (ds : List D) (n : Nat), okDs n ds = true → PyData.canLayAll0 (toPys ds) = true ∧ PyData.depthAll (toPys ds) ≤ n
  | [], n, _ => ⟨rfl, Nat.zero_le _⟩
  | d :: ds, n, h => by
    rw [okDs, Bool.and_eq_true] at h
    obtain ⟨a, b⟩ := ok_lay d n h.1
    obtain ⟨c, e⟩ := oks_lay ds n h.2
    refine ⟨?_, ?_⟩
    · show ((toPy d).canLay0 && PyData.canLayAll0 (toPys ds)) = true
      rw [a, c]; rfl
    · show max (toPy d).depth (PyData.depthAll (toPys ds)) ≤ n
      omega
end
theorem ok_shaped {d : D} {n : Nat} (h : okD n d = true) (hn : n ≤ 64) : SeqAt.shaped (toPy d) = true := by
  obtain ⟨a, b⟩ := ok_lay d n h
  unfold SeqAt.shaped
  rw [a, Bool.true_and]
  exact decide_eq_true (by omega)
mutual
theorem ok_eqv : ∀ (d e : D) (n m : Nat), okD n d = true → okD m e = true → (PyData.eqv (toPy d) (toPy e) = true ↔ d = e)
  | .non, e, n, m, h, h' => by cases e <;> simp [toPy, PyData.eqv] <;> cases h'
  | .bl _, _, _, _, h, _ => by cases h
  | .int _, e, n, m, h, h' => by cases e <;> simp [toPy, PyData.eqv] <;> cases h'
  | .str _, e, n, m, h, h' => by cases e <;> simp [toPy, PyData.eqv] <;> cases h'
  | .tup ds, e, n, m, h, h' => by
    rw [okD, Bool.and_eq_true] at h
    cases e with
    | tup es =>
      rw [okD, Bool.and_eq_true] at h'
      have := oks_eqv ds es _ _ h.2 h'.2
      simp only [toPy, PyData.eqv, this, D.tup.injEq]
    | _ => simp [toPy, PyData.eqv] <;> cases h'
  | .lst ds, e, n, m, h, h' => by
    rw [okD, Bool.and_eq_true] at h
    cases e with
    | lst es =>
      rw [okD, Bool.and_eq_true] at h'
      have := oks_eqv ds es _ _ h.2 h'.2
      simp only [toPy, PyData.eqv, this, D.lst.injEq]
    | _ => simp [toPy, PyData.eqv] <;> cases h'
  | .dct _ _, _, _, _, h, _ => by cases h
theorem oks_eqv : ∀ (ds es : List D) (n m : Nat), okDs n ds = true → okDs m es = true → (PyData.eqvAll (toPys ds) (toPys es) = true ↔ ds = es)
  | [], [], n, m, _, _ => by simp [toPys, PyData.eqvAll]
  | [], _ :: _, n, m, _, _ => by simp [toPys, PyData.eqvAll]
  | _ :: _, [], n, m, _, _ => by simp [toPys, PyData.eqvAll]
  | d :: ds, e :: es, n, m, h, h' => by
    rw [okDs, Bool.and_eq_true] at h h'
    rw [toPys, toPys, PyData.eqvAll, Bool.and_eq_true, ok_eqv d e n m h.1 h'.1, oks_eqv ds es n m h.2 h'.2]
    simp
end
theorem eqD_ok {d e : D} {n m : Nat} [Decidable (d = e)] (h : okD n d = true) (h' : okD m e = true) (hn : n ≤ 64) (hm : m ≤ 64) : eqD d e = some (decide (d = e)) := by
  have key : PyData.eqv (toPy d) (toPy e) = decide (d = e) := by
    have := ok_eqv d e n m h h'
    by_cases q : d = e
    · rw [decide_eq_true q]; exact this.mpr q
    · rw [decide_eq_false q]
      cases hh : PyData.eqv (toPy d) (toPy e) with
      | false => rfl
      | true => exact absurd (this.mp hh) q
  have gen : (if SeqAt.shaped (toPy d) && SeqAt.shaped (toPy e) then some (PyData.eqv (toPy d) (toPy e)) else none) = some (decide (d = e)) := by
    rw [ok_shaped h hn, ok_shaped h' hm, key]; rfl
  cases d <;> cases e <;> first
    | exact gen
    | (simp [eqD]; done)
    | cases h
theorem w2_eqO {d e : D} {R : Bool → D → Prop} {n m : Nat} [Decidable (d = e)] (h : okD n d = true) (h' : okD m e = true) (hn : n ≤ 64) (hm : m ≤ 64) : w2 dEq d e R ↔ R false (.bl (decide (d = e))) := by
  unfold w2 dEq; rw [eqD_ok h h' hn hm]; exact .rfl
theorem w2_neO {d e : D} {R : Bool → D → Prop} {n m : Nat} [Decidable (d = e)] (h : okD n d = true) (h' : okD m e = true) (hn : n ≤ 64) (hm : m ≤ 64) : w2 dNe d e R ↔ R false (.bl (!decide (d = e))) := by
  unfold w2 dNe; rw [eqD_ok h h' hn hm]; exact .rfl
open Classical in
theorem w2_eqSame {d : D} {R : Bool → D → Prop} {n : Nat} (h : okD n d = true) (hn : n ≤ 64) : w2 dEq d d R ↔ R false (.bl true) := by
  rw [w2_eqO h h hn hn]; simp
open Classical in
theorem w2_neSame {d : D} {R : Bool → D → Prop} {n : Nat} (h : okD n d = true) (hn : n ≤ 64) : w2 dNe d d R ↔ R false (.bl false) := by
  rw [w2_neO h h hn hn]; simp
/-! in -/
theorem any_eqv {x : D} {n m : Nat} (hx : okD m x = true) : ∀ (ds : List D), okDs n ds = true → ((toPys ds).any (fun y => PyData.eqv y (toPy x)) = true ↔ x ∈ ds)
  | [], _ => by simp [toPys]
  | d :: ds, h => by
    rw [okDs, Bool.and_eq_true] at h
    rw [toPys, List.any_cons, Bool.or_eq_true, ok_eqv d x n m h.1 hx, any_eqv hx ds h.2, List.mem_cons]
    constructor
    · rintro (h | h)
      · exact .inl h.symm
      · exact .inr h
    · rintro (h | h)
      · exact .inl h.symm
      · exact .inr h
theorem inD_ok {x : D} {ds : List D} {n m : Nat} [Decidable (x ∈ ds)] (hx : okD m x = true) (h : okDs n ds = true) (hn : n < 64) (hm : m ≤ 64) : inD x (.lst ds) = some (decide (x ∈ ds)) ∧ inD x (.tup ds) = some (decide (x ∈ ds)) := by
  have key : (toPys ds).any (fun y => PyData.eqv y (toPy x)) = decide (x ∈ ds) := by
    have := any_eqv hx ds h
    by_cases q : x ∈ ds
    · rw [decide_eq_true q]; exact this.mpr q
    · rw [decide_eq_false q]
      cases hh : (toPys ds).any (fun y => PyData.eqv y (toPy x)) with
      | false => rfl
      | true => exact absurd (this.mp hh) q
  have s1 : SeqAt.shaped (toPy (.lst ds)) = true := ok_shaped (n := n + 1) (by rw [okD]; simpa using h) (by omega)
  have s2 : SeqAt.shaped (toPy (.tup ds)) = true := ok_shaped (n := n + 1) (by rw [okD]; simpa using h) (by omega)
  refine ⟨?_, ?_⟩
  · unfold inD; simp only [ok_shaped hx hm, s1, key, Bool.and_self, if_true]
  · unfold inD; simp only [ok_shaped hx hm, s2, key, Bool.and_self, if_true]
theorem w2_inL {x : D} {ds : List D} {R : Bool → D → Prop} {n m : Nat} [Decidable (x ∈ ds)] (hx : okD m x = true) (h : okDs n ds = true) (hn : n < 64) (hm : m ≤ 64) : w2 dIn x (.lst ds) R ↔ R false (.bl (decide (x ∈ ds))) := by
  unfold w2 dIn; rw [(inD_ok hx h hn hm).1]; exact .rfl
theorem w2_notInL {x : D} {ds : List D} {R : Bool → D → Prop} {n m : Nat} [Decidable (x ∈ ds)] (hx : okD m x = true) (h : okDs n ds = true) (hn : n < 64) (hm : m ≤ 64) : w2 dNotIn x (.lst ds) R ↔ R false (.bl (!decide (x ∈ ds))) := by
  unfold w2 dNotIn; rw [(inD_ok hx h hn hm).1]; exact .rfl
theorem w2_inT {x : D} {ds : List D} {R : Bool → D → Prop} {n m : Nat} [Decidable (x ∈ ds)] (hx : okD m x = true) (h : okDs n ds = true) (hn : n < 64) (hm : m ≤ 64) : w2 dIn x (.tup ds) R ↔ R false (.bl (decide (x ∈ ds))) := by
  unfold w2 dIn; rw [(inD_ok hx h hn hm).2]; exact .rfl
/-! items of written and of mapped lists -/
theorem atI_zero {α : Type} {x : α} {l : List α} : atI (x :: l) 0 = some x := by
  have := atI_nat' (xs := x :: l) (k := 0); simpa using this
theorem atI_one {α : Type} {x y : α} {l : List α} : atI (x :: y :: l) 1 = some y := by
  have := atI_nat' (xs := x :: y :: l) (k := 1); simpa using this
theorem atI_two {α : Type} {x y z : α} {l : List α} : atI (x :: y :: z :: l) 2 = some z := by
  have := atI_nat' (xs := x :: y :: z :: l) (k := 2); simpa using this
section
variable {R : Bool → D → Prop} {x y z : D} {l : List D}
theorem w2_ixT0 : w2 dIx (.tup (x :: l)) (.int 0) R ↔ R false x := by rw [w2_ixT, atI_zero]; exact .rfl
theorem w2_ixT1 : w2 dIx (.tup (x :: y :: l)) (.int 1) R ↔ R false y := by rw [w2_ixT, atI_one]; exact .rfl
theorem w2_ixT2 : w2 dIx (.tup (x :: y :: z :: l)) (.int 2) R ↔ R false z := by rw [w2_ixT, atI_two]; exact .rfl
theorem w2_ixL0 : w2 dIx (.lst (x :: l)) (.int 0) R ↔ R false x := by rw [w2_ixL, atI_zero]; exact .rfl
theorem w2_ixL1 : w2 dIx (.lst (x :: y :: l)) (.int 1) R ↔ R false y := by rw [w2_ixL, atI_one]; exact .rfl
theorem w2_ixL2 : w2 dIx (.lst (x :: y :: z :: l)) (.int 2) R ↔ R false z := by rw [w2_ixL, atI_two]; exact .rfl
theorem w2_ixTM {α : Type} [Inhabited α] {f : α → D} {l : List α} {i : Int} (h0 : 0 ≤ i) (h1 : i < l.length) : w2 dIx (.tup (l.map f)) (.int i) R ↔ R false (f (l.getD i.toNat default)) := by
  rw [w2_ixT, atI_in h0 h1]
  have : l.getD i.toNat default = l[i.toNat]'(by omega) := by simp [show i.toNat < l.length by omega]
  rw [this]; exact .rfl
theorem w2_ixLM {α : Type} [Inhabited α] {f : α → D} {l : List α} {i : Int} (h0 : 0 ≤ i) (h1 : i < l.length) : w2 dIx (.lst (l.map f)) (.int i) R ↔ R false (f (l.getD i.toNat default)) := by
  rw [w2_ixL, atI_in h0 h1]
  have : l.getD i.toNat default = l[i.toNat]'(by omega) := by simp [show i.toNat < l.length by omega]
  rw [this]; exact .rfl
theorem w2_ixTlast {α : Type} [Inhabited α] {f : α → D} {l : List α} {n : Nat} (h : l.length = n + 1) : w2 dIx (.tup (l.map f)) (.int (-1)) R ↔ R false (f (l.getD n default)) := by
  rw [w2_ixT, atI_last' (by intro e; have := congrArg List.length e; simp [h] at this)]
  simp [h]
  exact .rfl
theorem w2_ixLlast {α : Type} [Inhabited α] {f : α → D} {l : List α} {n : Nat} (h : l.length = n + 1) : w2 dIx (.lst (l.map f)) (.int (-1)) R ↔ R false (f (l.getD n default)) := by
  rw [w2_ixL, atI_last' (by intro e; have := congrArg List.length e; simp [h] at this)]
  simp [h]
  exact .rfl
end
theorem map_snocF {α : Type} {f : α → D} {xs : List α} {x : α} : xs.map f ++ [f x] = (xs ++ [x]).map f := by simp
/-! slices with a step -/
def kS35 (lo hi st : Option Int) (R : Bool → D → Prop) (ds : List D) : Prop := (st ≠ some 0 ∧ (pickD ds lo hi st).length ≤ sizeLine) ∧ R true (.lst (pickD ds lo hi st))
def kS34 (d : D) (lo hi : Option Int) (R : Bool → D → Prop) (st : Option Int) : Prop := asL d (kS35 lo hi st R)
def kS33 (t : CO) (env : Env) (d : D) (lo : Option Int) (R : Bool → D → Prop) (hi : Option Int) : Prop := wO t env (kS34 d lo hi R)
def kS32 (h t : CO) (env : Env) (d : D) (R : Bool → D → Prop) (lo : Option Int) : Prop := wO h env (kS33 t env d lo R)
def kS31 (l h t : CO) (env : Env) (R : Bool → D → Prop) (d : D) : Prop := wO l env (kS32 h t env d R)
theorem kS35_ {lo hi st : Option Int} {R : Bool → D → Prop} {ds : List D} : kS35 lo hi st R ds ↔ ((st ≠ some 0 ∧ (pickD ds lo hi st).length ≤ sizeLine) ∧ R true (.lst (pickD ds lo hi st))) := .rfl
theorem kS34_ {d : D} {lo hi st : Option Int} {R : Bool → D → Prop} : kS34 d lo hi R st ↔ asL d (kS35 lo hi st R) := .rfl
theorem kS33_ {t : CO} {env : Env} {d : D} {lo hi : Option Int} {R : Bool → D → Prop} : kS33 t env d lo R hi ↔ wO t env (kS34 d lo hi R) := .rfl
theorem kS32_ {h t : CO} {env : Env} {d : D} {lo : Option Int} {R : Bool → D → Prop} : kS32 h t env d R lo ↔ wO h env (kS33 t env d lo R) := .rfl
theorem kS31_ {l h t : CO} {env : Env} {d : D} {R : Bool → D → Prop} : kS31 l h t env R d ↔ wO l env (kS32 h t env d R) := .rfl
theorem wE_sl3 {env : Env} {R : Bool → D → Prop} {c : CP} {l h t : CO} : wE (cSl3 c l h t) env R ↔ wP c env (kS31 l h t env R) := by
  unfold wE cSl3 wP
  cases h1 : c env with
  | none => exact .rfl
  | some x =>
    show _ ↔ wO1 (l env) _
    cases h2 : l env with
    | none => cases x <;> exact .rfl
    | some y =>
      show _ ↔ wO1 (h env) _
      cases h3 : h env with
      | none => cases x <;> exact .rfl
      | some z =>
        show _ ↔ wO1 (t env) _
        cases h4 : t env with
        | none => cases x <;> exact .rfl
        | some w =>
          cases x <;> try exact .rfl
          rename_i ds
          simp only [wO1_some, kS34, asL_, kS35]
          by_cases hc : w ≠ some 0 ∧ (pickD ds y z w).length ≤ sizeLine
          · simp [hc, wO1]
          · simp only [hc, if_false, false_and]; exact .rfl
theorem pick_map {α β : Type} {f : α → β} {xs : List α} {lo hi st : Option Int} : pickD (xs.map f) lo hi st = (pickD xs lo hi st).map f := by
  unfold pickD
  rw [List.length_map, List.map_filterMap]
  congr 1
  funext i
  simp
theorem pick_mem {α : Type} {xs : List α} {lo hi st : Option Int} {x : α} (h : x ∈ pickD xs lo hi st) : x ∈ xs := by
  unfold pickD at h
  obtain ⟨i, _, hi⟩ := List.mem_filterMap.mp h
  exact List.mem_of_getElem? hi
/-- every second item from the start on, from the second on -/
theorem pick2_ne {α : Type} {xs : List α} {s : Nat} (hs : s = 0 ∨ s = 1) (h : 2 ≤ xs.length) : pickD xs (some (s : Int)) none (some 2) ≠ [] := by
  have hx : s < xs.length := by omega
  have : xs[s] ∈ pickD xs (some (s : Int)) none (some 2) := by
    unfold pickD
    refine List.mem_filterMap.mpr ⟨s, ?_, List.getElem?_eq_getElem hx⟩
    unfold pickIx sliceRange sliceBounds
    simp only [Option.getD_some]
    refine List.mem_map.mpr ⟨0, ?_, ?_⟩
    · rw [List.mem_range]
      rcases hs with rfl | rfl <;> simp <;> omega
    · rcases hs with rfl | rfl <;> simp <;> omega
  intro e
  rw [e] at this
  cases this
theorem pick2_len {α : Type} {xs : List α} {s : Nat} : (pickD xs (some (s : Int)) none (some 2)).length ≤ xs.length := by
  unfold pickD
  refine Nat.le_trans (List.length_filterMap_le _ _) ?_
  unfold pickIx sliceRange sliceBounds
  simp only [Option.getD_some, List.length_map, List.length_range]
  simp
  split <;> omega
end L2.EV

set_option Elab.async false
set_option linter.all false
set_option maxRecDepth 100000
set_option maxHeartbeats 4000000
namespace L2.EV
open PySem
/-! ### short texts -/
def okS (n : Nat) (x : Str) : Prop := PyData.strOk x = true ∧ x.length ≤ n
theorem str_len (x y : Str) : (x ++ y).length = x.length + y.length := by
  show (x.cps ++ y.cps).size = _
  rw [Array.size_append]; rfl
theorem okS_add {n m : Nat} {x y : Str} (h : okS n x) (h' : okS m y) : okS (n + m) (x ++ y) := by
  refine ⟨?_, by rw [str_len]; have := h.2; have := h'.2; omega⟩
  have a := h.1
  have b := h'.1
  unfold PyData.strOk at *
  show (x.cps ++ y.cps).all _ = true
  rw [Array.all_append, a, b]; rfl
theorem okS_le {n m : Nat} {x : Str} (h : okS n x) (hm : n ≤ m) : okS m x := ⟨h.1, Nat.le_trans h.2 hm⟩
theorem okS_mem {n : Nat} {x : Str} : okS n x ↔ (∀ c ∈ x.cps.toList, c < 0x110000) ∧ x.cps.toList.length ≤ n := by
  unfold okS PyData.strOk Str.length
  rw [← Array.all_toList, List.all_eq_true]
  simp
theorem okS_cut {n : Nat} {x : Str} {lo hi : Option Int} (h : okS n x) : okS n (cutS x lo hi) := by
  rw [okS_mem] at h ⊢
  unfold cutS
  simp only []
  refine ⟨fun c hc => h.1 c (List.mem_of_mem_drop (List.mem_of_mem_take hc)), ?_⟩
  rw [List.length_take, List.length_drop]
  have := h.2
  omega
theorem okS_one {n : Nat} {x : Str} {c : Nat} (h : okS n x) (hc : c ∈ x.cps.toList) : okS 1 ⟨#[c]⟩ := by
  rw [okS_mem] at h ⊢
  simp
  exact h.1 c hc
section
variable {R : Bool → D → Prop} {x y : Str} {i : Int}
theorem w2_ixS : w2 dIx (.str x) (.int i) R ↔ x.length ≤ sizeLine ∧ wO1 (atI x.cps.toList i) fun c => R false (.str ⟨#[c]⟩) := by
  unfold w2 dIx
  by_cases h : x.length ≤ sizeLine
  · simp only [h, if_true, true_and]
    cases atI x.cps.toList i <;> exact .rfl
  · simp only [h, if_false, false_and]; exact .rfl
theorem wSlA_S {lo hi : Option Int} : wSlA (.str x) lo hi R ↔ x.length ≤ sizeLine ∧ R false (.str (cutS x lo hi)) := by
  unfold wSlA dSlA
  by_cases h : x.length ≤ sizeLine
  · simp [h, wO1]
  · simp [h, wO1]
theorem wF_lenS : wF fLen [.str x] R ↔ x.length ≤ sizeLine ∧ R false (.int x.length) := by
  unfold wF fLen
  by_cases h : x.length ≤ sizeLine
  · simp [h, wO1]
  · simp [h, wO1]
/-- a letter of a text -/
theorem ix_letter {n : Nat} (h : okS n x) (hn : n ≤ 1000000) (h0 : 0 ≤ i) (h1 : i < x.length) : ∃ z, okS 1 z ∧ ∀ R, w2 dIx (.str x) (.int i) R ↔ R false (.str z) := by
  obtain ⟨k, rfl⟩ := Int.eq_ofNat_of_zero_le h0
  have hk : k < x.cps.toList.length := by
    have : (k : Int) < (x.cps.size : Int) := h1
    simp; omega
  refine ⟨⟨#[x.cps.toList[k]]⟩, okS_one h (List.getElem_mem hk), fun R => ?_⟩
  rw [w2_ixS, atI_nat', List.getElem?_eq_getElem hk]
  exact ⟨fun h => h.2, fun q => ⟨szl (Nat.le_trans h.2 hn), q⟩⟩
end
/-- what holds of a def's answer, put by -/
theorem wF_ex {g : Fn} {ds : List D} {Q : Bool → D → Prop} (h : wF g ds Q) : ∃ b d, g ds = some (b, d) ∧ Q b d := by
  obtain ⟨⟨b, d⟩, h1, h2⟩ := wO1_ex (show wO1 (g ds) (fun r => Q r.1 r.2) from h)
  exact ⟨b, d, h1, h2⟩
theorem wC_all {α : Type} {g : CG} {c : CE} {l : List α} {enc : α → D} {env : Env} {K : List D → Prop} (P : α → D → Prop) (hl : l.length ≤ sizeLine) (h : ∀ x, x ∈ l → wG g (enc x) env fun e => wE c e fun _ d => P x d)
    (q : ∀ out : List D, out.length = l.length → (∀ i (hi : i < l.length) (ho : i < out.length), P l[i] out[i]) → K out) : wC g cYes c (l.map enc) env K := by
  have : ∃ out, compL g cYes c env (l.map enc) = some out ∧ out.length = l.length ∧ ∀ i (hi : i < l.length) (ho : i < out.length), P l[i] out[i] := by
    clear q hl
    induction l with
    | nil => exact ⟨[], rfl, rfl, fun i hi => absurd hi (by simp)⟩
    | cons x l ih =>
      obtain ⟨e, h1, h2⟩ := wO1_ex (h x List.mem_cons_self)
      obtain ⟨⟨b, d⟩, h2, hd⟩ := wO1_ex h2
      obtain ⟨out, h3, h4, h5⟩ := ih fun x hx => h x (List.mem_cons_of_mem _ hx)
      refine ⟨d :: out, ?_, by simp [h4], ?_⟩
      · rw [List.map_cons, compL, h1]
        simp only [cYes, h2, h3]
      · intro i hi ho
        cases i with
        | zero => exact hd
        | succ i => exact h5 i (by simpa using hi) (by simpa using ho)
  obtain ⟨out, h1, h2, h3⟩ := this
  exact wO1_of h1 ⟨by rw [h2]; exact hl, q out h2 h3⟩
/-- a list whose items all are of a form -/
theorem all_enc {α : Type} {enc : α → D} {P : α → Prop} : ∀ (out : List D), (∀ d ∈ out, ∃ x, d = enc x ∧ P x) → ∃ l : List α, out = l.map enc ∧ ∀ x ∈ l, P x
  | [], _ => ⟨[], rfl, fun _ h => by cases h⟩
  | d :: r, h => by
    obtain ⟨x, rfl, hx⟩ := h d List.mem_cons_self
    obtain ⟨l, rfl, hl⟩ := all_enc r fun d hd => h d (List.mem_cons_of_mem _ hd)
    exact ⟨x :: l, rfl, fun y hy => by
      rcases List.mem_cons.mp hy with rfl | hy
      · exact hx
      · exact hl y hy⟩
end L2.EV

set_option Elab.async false
set_option linter.all false
set_option maxRecDepth 100000
set_option maxHeartbeats 4000000
namespace L2.EV
theorem zipD_map {α β : Type} {f : α → D} {g : β → D} : ∀ {xs : List α} {ys : List β}, zipD (xs.map f) (ys.map g) = (xs.zip ys).map fun p => .tup [f p.1, g p.2]
  | [], ys => by cases ys <;> rfl
  | a :: r, [] => rfl
  | a :: r, b :: s => by
    show D.tup [f a, g b] :: zipD (r.map f) (s.map g) = _
    rw [zipD_map]; rfl
theorem lastI {l : List Int} {n : Nat} (h : l.length = n + 1) : (l.map D.int).getLast? = some (.int (l.getD n 0)) := by
  rw [List.getLast?_eq_getElem?]
  simp [h]
theorem dotZ {n : Nat} {u : List (Int × Int)} : u.length = n → (u.map fun p => p.1 * p.2).sum = ((List.range n).map fun k => (u.getD k (0, 0)).1 * (u.getD k (0, 0)).2).sum := by
  intro h
  congr 1
  apply List.ext_getElem
  · simp [h]
  · intro k h1 h2
    simp at h1 h2
    simp [h1]
end L2.EV

set_option Elab.async false
set_option linter.all false
set_option maxRecDepth 100000
set_option maxHeartbeats 4000000
namespace K05
open PySem PySem.Spec PyProof.Rows L2 L2.EV
abbrev L : List Stmt := PySem.Challenge.pw_loopturn_k05_least_and_most.main.body
def top (i : Nat) : Stmt := PySem.Challenge.pw_loopturn_k05_least_and_most.main.body.getD i (.Pass ⟨0, 0, 0, 0⟩)
structure Bl (mg : Str → Option Value) : Prop where
  b_bool : mg "bool" = none
  b_int : mg "int" = none
  b_isinstance : mg "isinstance" = none
  b_len : mg "len" = none
  b_list : mg "list" = none
  b_min : mg "min" = none
  b_range : mg "range" = none
  b_sum : mg "sum" = none
  b_tuple : mg "tuple" = none
  b_zip : mg "zip" = none
section
variable {P : Program} {w : World} {K : PySem.W.Frag} {mg : Str → Option Value} {base : Heap}
abbrev N_least : List Str := ["total", "box", "number", "weights", "weight", "low", "high"]
theorem sc_least : FnScope N_least ["total", "box"] (defScope (top 1)) := ⟨rfl, rfl, rfl, by decide +kernel, rfl, by decide +kernel, by decide +kernel⟩
noncomputable def e0_least : CE := cBin dMul (cPeek 4) (cRead (cIf (cTest (cBin dGt (cPeek 4) (cRead (cVal (.int 0))))) (cVar 5) (cVar 6)))
noncomputable def c_least : CS := cSeq (cStar 3 2 (cVar 0)) (cSeq (cFrz [3] (cRet (cBin dAdd (cPeek 2) (cRead (cCall fSum (cConsP (cRead (cLc (cZip (cCons (cVar 3) (cCons (cVar 1) (cNil)))) (gSeqC 2 (gConsC (gSet 4) (gConsC (gSeqC 2 (gConsC (gSet 5) (gConsC (gSet 6) (gNilC)))) (gNilC)))) (cYes) (e0_least) [4, 5, 6])) (cNil))))))) (cPass))
@[irreducible] noncomputable def g_least : Fn := runF 7 c_least
theorem ok_least {f : Addr} {fd : FuncData} (F : Fun K "least" "least" (top 1) f fd) (hm : mg "least" = some (.ref f)) (hb : Binds K fd ["total", "box"] []) (T : Bl mg) : FOk P w K mg base 1 "least" 2 g_least :=
  by unfold g_least; exact fok F sc_least hm hb fun cdv A outer s H E hr => by
            exact sss_cons (ss_star (i := 3) (j := 2) rfl (pgs_cons (pg_name sc_least.nd rfl (by first | exact Or.inl rfl | exact Or.inr rfl)) (pgs_cons (pg_name sc_least.nd rfl (by first | exact Or.inl rfl | exact Or.inr rfl)) pgs_nil)) (se_var 0 (pv 0))) (sss_cons (ss_frz [3] (ss_ret (se_bin od_add (sp_var 2 (pv 2)) (SE.sp (se_callB (cd_sum rfl) rfl T.b_sum (by decide +kernel) (sap_cons (SE.sp (se_lc rfl sc_least.nd (si_zip rfl T.b_zip (sa_cons (se_var 3 (pv 3)) (sa_cons (se_var 1 (pv 1)) (sa_nil)))) (blkOk_by (own := [("weight", 4), ("low", 5), ("high", 6)]) (N := N_least) (sc := defScope (top 1)) (by decide +kernel)) (fun _ _ _ _ _ => sg_seq rfl (sgs_cons (sg_name 4 (pg_name sc_least.nd rfl (by first | exact Or.inl rfl | exact Or.inr rfl))) (sgs_cons (sg_seq rfl (sgs_cons (sg_name 5 (pg_name sc_least.nd rfl (by first | exact Or.inl rfl | exact Or.inr rfl))) (sgs_cons (sg_name 6 (pg_name sc_least.nd rfl (by first | exact Or.inl rfl | exact Or.inr rfl))) (sgs_nil)))) (sgs_nil)))) (fun _ _ _ _ _ => sts_nil) (fun _ _ _ _ _ => se_bin od_mul (sp_var 4 (pv 4)) (SE.sp (se_if (st_cmp od_gt (sp_var 4 (pv 4)) (SE.sp (se_int)) (nomark _)) (se_var 5 (pv 5)) (se_var 6 (pv 6))))))) (sap_nil))))))) (sss_nil))
abbrev N_most : List Str := ["total", "box", "number", "weights", "weight", "low", "high"]
theorem sc_most : FnScope N_most ["total", "box"] (defScope (top 2)) := ⟨rfl, rfl, rfl, by decide +kernel, rfl, by decide +kernel, by decide +kernel⟩
noncomputable def e0_most : CE := cBin dMul (cPeek 4) (cRead (cIf (cTest (cBin dGt (cPeek 4) (cRead (cVal (.int 0))))) (cVar 6) (cVar 5)))
noncomputable def c_most : CS := cSeq (cStar 3 2 (cVar 0)) (cSeq (cFrz [3] (cRet (cBin dAdd (cPeek 2) (cRead (cCall fSum (cConsP (cRead (cLc (cZip (cCons (cVar 3) (cCons (cVar 1) (cNil)))) (gSeqC 2 (gConsC (gSet 4) (gConsC (gSeqC 2 (gConsC (gSet 5) (gConsC (gSet 6) (gNilC)))) (gNilC)))) (cYes) (e0_most) [4, 5, 6])) (cNil))))))) (cPass))
@[irreducible] noncomputable def g_most : Fn := runF 7 c_most
theorem ok_most {f : Addr} {fd : FuncData} (F : Fun K "most" "most" (top 2) f fd) (hm : mg "most" = some (.ref f)) (hb : Binds K fd ["total", "box"] []) (T : Bl mg) : FOk P w K mg base 1 "most" 2 g_most :=
  by unfold g_most; exact fok F sc_most hm hb fun cdv A outer s H E hr => by
            exact sss_cons (ss_star (i := 3) (j := 2) rfl (pgs_cons (pg_name sc_most.nd rfl (by first | exact Or.inl rfl | exact Or.inr rfl)) (pgs_cons (pg_name sc_most.nd rfl (by first | exact Or.inl rfl | exact Or.inr rfl)) pgs_nil)) (se_var 0 (pv 0))) (sss_cons (ss_frz [3] (ss_ret (se_bin od_add (sp_var 2 (pv 2)) (SE.sp (se_callB (cd_sum rfl) rfl T.b_sum (by decide +kernel) (sap_cons (SE.sp (se_lc rfl sc_most.nd (si_zip rfl T.b_zip (sa_cons (se_var 3 (pv 3)) (sa_cons (se_var 1 (pv 1)) (sa_nil)))) (blkOk_by (own := [("weight", 4), ("low", 5), ("high", 6)]) (N := N_most) (sc := defScope (top 2)) (by decide +kernel)) (fun _ _ _ _ _ => sg_seq rfl (sgs_cons (sg_name 4 (pg_name sc_most.nd rfl (by first | exact Or.inl rfl | exact Or.inr rfl))) (sgs_cons (sg_seq rfl (sgs_cons (sg_name 5 (pg_name sc_most.nd rfl (by first | exact Or.inl rfl | exact Or.inr rfl))) (sgs_cons (sg_name 6 (pg_name sc_most.nd rfl (by first | exact Or.inl rfl | exact Or.inr rfl))) (sgs_nil)))) (sgs_nil)))) (fun _ _ _ _ _ => sts_nil) (fun _ _ _ _ _ => se_bin od_mul (sp_var 4 (pv 4)) (SE.sp (se_if (st_cmp od_gt (sp_var 4 (pv 4)) (SE.sp (se_int)) (nomark _)) (se_var 6 (pv 6)) (se_var 5 (pv 5))))))) (sap_nil))))))) (sss_nil))
abbrev N__law_cell_at : List Str := ["_law_script", "_law_k"]
theorem sc__law_cell_at : FnScope N__law_cell_at ["_law_script", "_law_k"] (defScope (top 4)) := ⟨rfl, rfl, rfl, by decide +kernel, rfl, by decide +kernel, by decide +kernel⟩
noncomputable def c__law_cell_at : CS := cSeq (cIfS (cTest (cBin dLt (cPeek 1) (cRead (cCall fLen (cConsP (cPeek 0) (cNil)))))) (cSeq (cRet (cBin dIx (cPeek 0) (cPeek 1))) (cPass)) (cPass)) (cSeq (cRet (cVal (.int 0))) (cPass))
@[irreducible] noncomputable def g__law_cell_at : Fn := runF 2 c__law_cell_at
theorem ok__law_cell_at {f : Addr} {fd : FuncData} (F : Fun K "_law_cell_at" "_law_cell_at" (top 4) f fd) (hm : mg "_law_cell_at" = some (.ref f)) (hb : Binds K fd ["_law_script", "_law_k"] []) (T : Bl mg) : FOk P w K mg base 1 "_law_cell_at" 2 g__law_cell_at :=
  by unfold g__law_cell_at; exact fok F sc__law_cell_at hm hb fun cdv A outer s H E hr => by
            exact sss_cons (ss_if (st_cmp od_lt (sp_var 1 (pv 1)) (SE.sp (se_callB cd_len rfl T.b_len (by decide +kernel) (sap_cons (sp_var 0 (pv 0)) (sap_nil)))) (nomark _)) (sss_cons (ss_ret (se_ix (sp_var 0 (pv 0)) (sp_var 1 (pv 1)))) (sss_nil)) (sss_nil)) (sss_cons (ss_ret (se_int)) (sss_nil))
abbrev N__law_whole : List Str := ["_law_found"]
theorem sc__law_whole : FnScope N__law_whole ["_law_found"] (defScope (top 5)) := ⟨rfl, rfl, rfl, by decide +kernel, rfl, by decide +kernel, by decide +kernel⟩
noncomputable def c__law_whole : CS := cSeq (cRet (cAndV (cIsI "int" (cPeek 0)) (cNotV (cIsI "bool" (cPeek 0))))) (cPass)
@[irreducible] noncomputable def g__law_whole : Fn := runF 1 c__law_whole
theorem ok__law_whole {f : Addr} {fd : FuncData} (F : Fun K "_law_whole" "_law_whole" (top 5) f fd) (hm : mg "_law_whole" = some (.ref f)) (hb : Binds K fd ["_law_found"] []) (T : Bl mg) : FOk P w K mg base 1 "_law_whole" 1 g__law_whole :=
  by unfold g__law_whole; exact fok F sc__law_whole hm hb fun cdv A outer s H E hr => by
            exact sss_cons (ss_ret (se_and (se_isI kit_int rfl T.b_isinstance rfl T.b_int (by decide +kernel) (sp_var 0 (pv 0))) (se_one (se_not (se_isI kit_bool rfl T.b_isinstance rfl T.b_bool (by decide +kernel) (sp_var 0 (pv 0))))))) (sss_nil)
abbrev N__law_number : List Str := ["_law_cell"]
theorem sc__law_number : FnScope N__law_number ["_law_cell"] (defScope (top 6)) := ⟨rfl, rfl, rfl, by decide +kernel, rfl, by decide +kernel, by decide +kernel⟩
noncomputable def c__law_number : CS := cSeq (cIfS (cTest (cBin dEq (cRead (cBin dMod (cPeek 0) (cRead (cVal (.int 3))))) (cRead (cVal (.int 0))))) (cSeq (cRet (cBin dSub (cRead (cBin dMod (cRead (cBin dDiv (cPeek 0) (cRead (cVal (.int 3))))) (cRead (cVal (.int 7))))) (cRead (cVal (.int 3))))) (cPass)) (cPass)) (cSeq (cRet (cBin dSub (cRead (cBin dMod (cRead (cBin dDiv (cPeek 0) (cRead (cVal (.int 3))))) (cRead (cBin dAdd (cRead (cBin dMul (cRead (cVal (.int 2))) (cRead (cBin dPow (cRead (cVal (.int 10))) (cRead (cVal (.int 59))))))) (cRead (cVal (.int 1))))))) (cRead (cBin dPow (cRead (cVal (.int 10))) (cRead (cVal (.int 59))))))) (cPass))
@[irreducible] noncomputable def g__law_number : Fn := runF 1 c__law_number
theorem ok__law_number {f : Addr} {fd : FuncData} (F : Fun K "_law_number" "_law_number" (top 6) f fd) (hm : mg "_law_number" = some (.ref f)) (hb : Binds K fd ["_law_cell"] []) (T : Bl mg) : FOk P w K mg base 1 "_law_number" 1 g__law_number :=
  by unfold g__law_number; exact fok F sc__law_number hm hb fun cdv A outer s H E hr => by
            exact sss_cons (ss_if (st_cmp (od_eq hr.units) (SE.sp (se_bin od_mod (sp_var 0 (pv 0)) (SE.sp (se_int)))) (SE.sp (se_int)) (nomark _)) (sss_cons (ss_ret (se_bin od_sub (SE.sp (se_bin od_mod (SE.sp (se_bin od_div (sp_var 0 (pv 0)) (SE.sp (se_int)))) (SE.sp (se_int)))) (SE.sp (se_int)))) (sss_nil)) (sss_nil)) (sss_cons (ss_ret (se_bin od_sub (SE.sp (se_bin od_mod (SE.sp (se_bin od_div (sp_var 0 (pv 0)) (SE.sp (se_int)))) (SE.sp (se_bin od_add (SE.sp (se_bin od_mul (SE.sp (se_int)) (SE.sp (se_bin od_pow (SE.sp (se_int)) (SE.sp (se_int)))))) (SE.sp (se_int)))))) (SE.sp (se_bin od_pow (SE.sp (se_int)) (SE.sp (se_int)))))) (sss_nil))
abbrev N__law_row : List Str := ["_law_script", "_law_start", "_law_many", "_law_k"]
theorem sc__law_row : FnScope N__law_row ["_law_script", "_law_start", "_law_many"] (defScope (top 7)) := ⟨rfl, rfl, rfl, by decide +kernel, rfl, by decide +kernel, by decide +kernel⟩
noncomputable def e0__law_row : CE := cCall g__law_number (cCons (cCall g__law_cell_at (cCons (cVar 0) (cCons (cBin dAdd (cPeek 1) (cPeek 3)) (cNil)))) (cNil))
noncomputable def c__law_row : CS := cSeq (cRet (cCall fTuple (cConsP (cRead (cLc (cRng1 (cCons (cVar 2) (cNil))) (gSet 3) (cYes) (e0__law_row) [3])) (cNil)))) (cPass)
@[irreducible] noncomputable def g__law_row : Fn := runF 4 c__law_row
theorem ok__law_row {f : Addr} {fd : FuncData} (F : Fun K "_law_row" "_law_row" (top 7) f fd) (hm : mg "_law_row" = some (.ref f)) (hb : Binds K fd ["_law_script", "_law_start", "_law_many"] []) (T : Bl mg) (G__law_number : FOk P w K mg base 1 "_law_number" 1 g__law_number) (G__law_cell_at : FOk P w K mg base 1 "_law_cell_at" 2 g__law_cell_at) : FOk P w K mg base 2 "_law_row" 3 g__law_row :=
  by unfold g__law_row; exact fok F sc__law_row hm hb fun cdv A outer s H E hr => by
            have G__law_number := G__law_number.up (k := 1) (by decide)
            have G__law_cell_at := G__law_cell_at.up (k := 1) (by decide)
            exact sss_cons (ss_ret (se_callTy cd_tuple rfl T.b_tuple (by decide +kernel) (sap_cons (SE.sp (se_lc rfl sc__law_row.nd (si_rng1 rfl T.b_range (sa_cons (se_var 2 (pv 2)) (sa_nil))) (blkOk_by (own := [("_law_k", 3)]) (N := N__law_row) (sc := defScope (top 7)) (by decide +kernel)) (fun _ _ _ _ _ => sg_name 3 (pg_name sc__law_row.nd rfl (by first | exact Or.inl rfl | exact Or.inr rfl))) (fun _ _ _ _ _ => sts_nil) (fun _ _ _ _ _ => se_call G__law_number hr rfl (sa_cons (se_call G__law_cell_at hr rfl (sa_cons (se_var 0 (pv 0)) (sa_cons (se_bin od_add (sp_var 1 (pv 1)) (sp_var 3 (pv 3))) (sa_nil)))) (sa_nil))))) (sap_nil)))) (sss_nil)
abbrev N__law_dot : List Str := ["_law_total", "_law_turn", "_law_found", "_law_k"]
theorem sc__law_dot : FnScope N__law_dot ["_law_total", "_law_turn"] (defScope (top 8)) := ⟨rfl, rfl, rfl, by decide +kernel, rfl, by decide +kernel, by decide +kernel⟩
noncomputable def b0__law_dot : CS := cSeq (cAsg 2 (cBin dAdd (cPeek 2) (cRead (cBin dMul (cRead (cBin dIx (cPeek 0) (cPeek 3))) (cRead (cBin dIx (cPeek 1) (cPeek 3))))))) (cPass)
noncomputable def c__law_dot : CS := cSeq (cAsg 2 (cBin dIx (cPeek 0) (cRead (cNeg (cRead (cVal (.int 1))))))) (cSeq (cFor (cRng1 (cCons (cCall fLen (cConsP (cPeek 1) (cNil))) (cNil))) (gSet 3) (b0__law_dot)) (cSeq (cRetVar 2) (cPass)))
@[irreducible] noncomputable def g__law_dot : Fn := runF 4 c__law_dot
theorem ok__law_dot {f : Addr} {fd : FuncData} (F : Fun K "_law_dot" "_law_dot" (top 8) f fd) (hm : mg "_law_dot" = some (.ref f)) (hb : Binds K fd ["_law_total", "_law_turn"] []) (T : Bl mg) : FOk P w K mg base 1 "_law_dot" 2 g__law_dot :=
  by unfold g__law_dot; exact fok F sc__law_dot hm hb fun cdv A outer s H E hr => by
            exact sss_cons (ss_set 2 sc__law_dot.nd rfl (by first | exact Or.inl rfl | exact Or.inr rfl) (se_ix (sp_var 0 (pv 0)) (SE.sp (se_neg (SE.sp (se_int)))))) (sss_cons (ss_for PassesOwn.never rfl (si_rng1 rfl T.b_range (sa_cons (se_callB cd_len rfl T.b_len (by decide +kernel) (sap_cons (sp_var 1 (pv 1)) (sap_nil))) (sa_nil))) (sg_name 3 (pg_name sc__law_dot.nd rfl (by first | exact Or.inl rfl | exact Or.inr rfl))) (sss_cons (ss_set 2 sc__law_dot.nd rfl (by first | exact Or.inl rfl | exact Or.inr rfl) (se_bin od_add (sp_var 2 (pv 2)) (SE.sp (se_bin od_mul (SE.sp (se_ix (sp_var 0 (pv 0)) (sp_var 3 (pv 3)))) (SE.sp (se_ix (sp_var 1 (pv 1)) (sp_var 3 (pv 3)))))))) (sss_nil))) (sss_cons (ss_retVar 2 (pv 2)) (sss_nil)))
abbrev N__law_box : List Str := ["_law_script", "_law_start", "_law_size", "_law_pairs", "_law_k", "_law_cell", "_law_low", "_law_far", "_law_at"]
theorem sc__law_box : FnScope N__law_box ["_law_script", "_law_start", "_law_size"] (defScope (top 9)) := ⟨rfl, rfl, rfl, by decide +kernel, rfl, by decide +kernel, by decide +kernel⟩
noncomputable def b0__law_box : CS := cSeq (cAsg 6 (cCall g__law_number (cCons (cCall g__law_cell_at (cCons (cVar 0) (cCons (cBin dAdd (cPeek 1) (cRead (cBin dMul (cRead (cVal (.int 2))) (cPeek 4)))) (cNil)))) (cNil)))) (cSeq (cAsg 5 (cCall g__law_cell_at (cCons (cVar 0) (cCons (cBin dAdd (cRead (cBin dAdd (cPeek 1) (cRead (cBin dMul (cRead (cVal (.int 2))) (cPeek 4))))) (cRead (cVal (.int 1)))) (cNil))))) (cSeq (cAsg 7 (cBin dMod (cRead (cBin dDiv (cPeek 5) (cRead (cVal (.int 2))))) (cRead (cVal (.int 10))))) (cSeq (cIfS (cTest (cBin dEq (cRead (cBin dMod (cPeek 5) (cRead (cVal (.int 2))))) (cRead (cVal (.int 1))))) (cSeq (cAsg 7 (cBin dMod (cRead (cBin dDiv (cPeek 5) (cRead (cVal (.int 2))))) (cRead (cBin dAdd (cRead (cBin dPow (cRead (cVal (.int 10))) (cRead (cVal (.int 58))))) (cRead (cVal (.int 1))))))) (cPass)) (cPass)) (cSeq (cAppend 3 (cTup (cCons (cVar 6) (cCons (cBin dAdd (cPeek 6) (cPeek 7)) (cNil))))) (cPass)))))
noncomputable def c__law_box : CS := cSeq (cAsg 3 (cLst (cNil))) (cSeq (cFor (cRng1 (cCons (cVar 2) (cNil))) (gSet 4) (b0__law_box)) (cSeq (cAsg 5 (cCall g__law_cell_at (cCons (cVar 0) (cCons (cVal (.int 5)) (cNil))))) (cSeq (cIfS (cAnd (cTest (cBin dEq (cRead (cBin dMod (cPeek 5) (cRead (cVal (.int 5))))) (cRead (cVal (.int 1))))) (cTest (cBin dGt (cPeek 2) (cRead (cVal (.int 0)))))) (cSeq (cAsg 8 (cBin dMod (cRead (cBin dDiv (cPeek 5) (cRead (cVal (.int 5))))) (cPeek 2))) (cSeq (cSetItem 3 (cPeek 8) (cTup (cCons (cBin dIx (cRead (cBin dIx (cPeek 3) (cPeek 8))) (cRead (cVal (.int 0)))) (cCons (cBin dSub (cRead (cBin dSub (cRead (cBin dIx (cRead (cBin dIx (cPeek 3) (cPeek 8))) (cRead (cVal (.int 0))))) (cRead (cVal (.int 1))))) (cRead (cBin dMod (cRead (cCall g__law_cell_at (cCons (cVar 0) (cCons (cVal (.int 6)) (cNil))))) (cRead (cVal (.int 9)))))) (cNil))))) (cPass))) (cPass)) (cSeq (cRetVar 3) (cPass)))))
@[irreducible] noncomputable def g__law_box : Fn := runF 9 c__law_box
theorem ok__law_box {f : Addr} {fd : FuncData} (F : Fun K "_law_box" "_law_box" (top 9) f fd) (hm : mg "_law_box" = some (.ref f)) (hb : Binds K fd ["_law_script", "_law_start", "_law_size"] []) (T : Bl mg) (G__law_cell_at : FOk P w K mg base 1 "_law_cell_at" 2 g__law_cell_at) (G__law_number : FOk P w K mg base 1 "_law_number" 1 g__law_number) : FOk P w K mg base 2 "_law_box" 3 g__law_box :=
  by unfold g__law_box; exact fok F sc__law_box hm hb fun cdv A outer s H E hr => by
            have G__law_cell_at := G__law_cell_at.up (k := 1) (by decide)
            have G__law_number := G__law_number.up (k := 1) (by decide)
            exact sss_cons (ss_set 3 sc__law_box.nd rfl (by first | exact Or.inl rfl | exact Or.inr rfl) (se_lst (sa_nil))) (sss_cons (ss_for PassesOwn.never rfl (si_rng1 rfl T.b_range (sa_cons (se_var 2 (pv 2)) (sa_nil))) (sg_name 4 (pg_name sc__law_box.nd rfl (by first | exact Or.inl rfl | exact Or.inr rfl))) (sss_cons (ss_set 6 sc__law_box.nd rfl (by first | exact Or.inl rfl | exact Or.inr rfl) (se_call G__law_number hr rfl (sa_cons (se_call G__law_cell_at hr rfl (sa_cons (se_var 0 (pv 0)) (sa_cons (se_bin od_add (sp_var 1 (pv 1)) (SE.sp (se_bin od_mul (SE.sp (se_int)) (sp_var 4 (pv 4))))) (sa_nil)))) (sa_nil)))) (sss_cons (ss_set 5 sc__law_box.nd rfl (by first | exact Or.inl rfl | exact Or.inr rfl) (se_call G__law_cell_at hr rfl (sa_cons (se_var 0 (pv 0)) (sa_cons (se_bin od_add (SE.sp (se_bin od_add (sp_var 1 (pv 1)) (SE.sp (se_bin od_mul (SE.sp (se_int)) (sp_var 4 (pv 4)))))) (SE.sp (se_int))) (sa_nil))))) (sss_cons (ss_set 7 sc__law_box.nd rfl (by first | exact Or.inl rfl | exact Or.inr rfl) (se_bin od_mod (SE.sp (se_bin od_div (sp_var 5 (pv 5)) (SE.sp (se_int)))) (SE.sp (se_int)))) (sss_cons (ss_if (st_cmp (od_eq hr.units) (SE.sp (se_bin od_mod (sp_var 5 (pv 5)) (SE.sp (se_int)))) (SE.sp (se_int)) (nomark _)) (sss_cons (ss_set 7 sc__law_box.nd rfl (by first | exact Or.inl rfl | exact Or.inr rfl) (se_bin od_mod (SE.sp (se_bin od_div (sp_var 5 (pv 5)) (SE.sp (se_int)))) (SE.sp (se_bin od_add (SE.sp (se_bin od_pow (SE.sp (se_int)) (SE.sp (se_int)))) (SE.sp (se_int)))))) (sss_nil)) (sss_nil)) (sss_cons (ss_append 3 (se_tup (sa_cons (se_var 6 (pv 6)) (sa_cons (se_bin od_add (sp_var 6 (pv 6)) (sp_var 7 (pv 7))) (sa_nil)))) (hp := fun _ h => ps_expr (pe_bm PySem.F.plainAttrs_list PySem.F.slot_list_append PySem.F.type_list_append mt_append (pv 3) h))) (sss_nil))))))) (sss_cons (ss_set 5 sc__law_box.nd rfl (by first | exact Or.inl rfl | exact Or.inr rfl) (se_call G__law_cell_at hr rfl (sa_cons (se_var 0 (pv 0)) (sa_cons (se_int) (sa_nil))))) (sss_cons (ss_if (SW.st (sw_and (st_cmp (od_eq hr.units) (SE.sp (se_bin od_mod (sp_var 5 (pv 5)) (SE.sp (se_int)))) (SE.sp (se_int)) (nomark _)) (sw_and1 (st_cmp od_gt (sp_var 2 (pv 2)) (SE.sp (se_int)) (nomark _))))) (sss_cons (ss_set 8 sc__law_box.nd rfl (by first | exact Or.inl rfl | exact Or.inr rfl) (se_bin od_mod (SE.sp (se_bin od_div (sp_var 5 (pv 5)) (SE.sp (se_int)))) (sp_var 2 (pv 2)))) (sss_cons (ss_setItem 3 (pv 3) (sp_var 8 (pv 8)) (se_tup (sa_cons (se_ix (SE.sp (se_ix (sp_var 3 (pv 3)) (sp_var 8 (pv 8)))) (SE.sp (se_int))) (sa_cons (se_bin od_sub (SE.sp (se_bin od_sub (SE.sp (se_ix (SE.sp (se_ix (sp_var 3 (pv 3)) (sp_var 8 (pv 8)))) (SE.sp (se_int)))) (SE.sp (se_int)))) (SE.sp (se_bin od_mod (SE.sp (se_call G__law_cell_at hr rfl (sa_cons (se_var 0 (pv 0)) (sa_cons (se_int) (sa_nil))))) (SE.sp (se_int))))) (sa_nil)))) (hp := fun _ _ _ h1 h2 h3 => ps_asg h1 (pg_sub h2 h3 (PSet.or set_list (set_dct (kroom hr)))))) (sss_nil))) (sss_nil)) (sss_cons (ss_retVar 3 (pv 3)) (sss_nil)))))
abbrev N__law_corner : List Str := ["_law_total", "_law_pairs", "_law_upper", "_law_values", "_law_k"]
theorem sc__law_corner : FnScope N__law_corner ["_law_total", "_law_pairs", "_law_upper"] (defScope (top 10)) := ⟨rfl, rfl, rfl, by decide +kernel, rfl, by decide +kernel, by decide +kernel⟩
noncomputable def b0__law_corner : CS := cSeq (cIfS (cTest (cBin dEq (cRead (cBin dGt (cRead (cBin dIx (cPeek 0) (cPeek 4))) (cRead (cVal (.int 0))))) (cPeek 2))) (cSeq (cAppend 3 (cBin dIx (cRead (cBin dIx (cPeek 1) (cPeek 4))) (cRead (cVal (.int 1))))) (cPass)) (cSeq (cAppend 3 (cBin dIx (cRead (cBin dIx (cPeek 1) (cPeek 4))) (cRead (cVal (.int 0))))) (cPass))) (cPass)
noncomputable def c__law_corner : CS := cSeq (cAsg 3 (cLst (cNil))) (cSeq (cFor (cRng1 (cCons (cCall fLen (cConsP (cPeek 1) (cNil))) (cNil))) (gSet 4) (b0__law_corner)) (cSeq (cRetVar 3) (cPass)))
@[irreducible] noncomputable def g__law_corner : Fn := runF 5 c__law_corner
theorem ok__law_corner {f : Addr} {fd : FuncData} (F : Fun K "_law_corner" "_law_corner" (top 10) f fd) (hm : mg "_law_corner" = some (.ref f)) (hb : Binds K fd ["_law_total", "_law_pairs", "_law_upper"] []) (T : Bl mg) : FOk P w K mg base 1 "_law_corner" 3 g__law_corner :=
  by unfold g__law_corner; exact fok F sc__law_corner hm hb fun cdv A outer s H E hr => by
            exact sss_cons (ss_set 3 sc__law_corner.nd rfl (by first | exact Or.inl rfl | exact Or.inr rfl) (se_lst (sa_nil))) (sss_cons (ss_for PassesOwn.never rfl (si_rng1 rfl T.b_range (sa_cons (se_callB cd_len rfl T.b_len (by decide +kernel) (sap_cons (sp_var 1 (pv 1)) (sap_nil))) (sa_nil))) (sg_name 4 (pg_name sc__law_corner.nd rfl (by first | exact Or.inl rfl | exact Or.inr rfl))) (sss_cons (ss_if (st_cmp (od_eq hr.units) (SE.sp (se_cmp od_gt (SE.sp (se_ix (sp_var 0 (pv 0)) (sp_var 4 (pv 4)))) (SE.sp (se_int)) (nomark _))) (sp_var 2 (pv 2)) (nomark _)) (sss_cons (ss_append 3 (se_ix (SE.sp (se_ix (sp_var 1 (pv 1)) (sp_var 4 (pv 4)))) (SE.sp (se_int))) (hp := fun _ h => ps_expr (pe_bm PySem.F.plainAttrs_list PySem.F.slot_list_append PySem.F.type_list_append mt_append (pv 3) h))) (sss_nil)) (sss_cons (ss_append 3 (se_ix (SE.sp (se_ix (sp_var 1 (pv 1)) (sp_var 4 (pv 4)))) (SE.sp (se_int))) (hp := fun _ h => ps_expr (pe_bm PySem.F.plainAttrs_list PySem.F.slot_list_append PySem.F.type_list_append mt_append (pv 3) h))) (sss_nil))) (sss_nil))) (sss_cons (ss_retVar 3 (pv 3)) (sss_nil)))
abbrev N_law : List Str := ["_law_script", "_law_size", "_law_total", "_law_pairs", "_law_handed", "_law_low", "_law_high", "_law_turn", "_law_k", "_law_found", "_law_cell"]
theorem sc_law : FnScope N_law ["_law_script"] (defScope (top 11)) := ⟨rfl, rfl, rfl, by decide +kernel, rfl, by decide +kernel, by decide +kernel⟩
noncomputable def b0_law : CS := cSeq (cIfS (cTest (cBin dLt (cRead (cBin dIx (cRead (cBin dIx (cPeek 3) (cPeek 8))) (cRead (cVal (.int 1))))) (cRead (cBin dIx (cRead (cBin dIx (cPeek 3) (cPeek 8))) (cRead (cVal (.int 0))))))) (cSeq (cRet (cVal (.bl true))) (cPass)) (cPass)) (cSeq (cAsg 10 (cBin dAdd (cRead (cBin dMul (cRead (cCall g__law_cell_at (cCons (cVar 0) (cCons (cBin dSub (cRead (cBin dAdd (cRead (cBin dMul (cRead (cVal (.int 3))) (cPeek 1))) (cRead (cVal (.int 1))))) (cPeek 8)) (cNil))))) (cRead (cVal (.int 48271))))) (cRead (cBin dMul (cPeek 8) (cPeek 8))))) (cSeq (cAppend 7 (cBin dAdd (cRead (cBin dIx (cRead (cBin dIx (cPeek 3) (cPeek 8))) (cRead (cVal (.int 0))))) (cRead (cBin dMod (cPeek 10) (cRead (cBin dAdd (cRead (cBin dSub (cRead (cBin dIx (cRead (cBin dIx (cPeek 3) (cPeek 8))) (cRead (cVal (.int 1))))) (cRead (cBin dIx (cRead (cBin dIx (cPeek 3) (cPeek 8))) (cRead (cVal (.int 0))))))) (cRead (cVal (.int 1))))))))) (cPass)))
noncomputable def c_law : CS := cSeq (cAsg 1 (cCall fMin (cConsP (cRead (cBin dDiv (cRead (cCall fLen (cConsP (cPeek 0) (cNil)))) (cRead (cVal (.int 3))))) (cConsP (cRead (cVal (.int 20))) (cNil))))) (cSeq (cIfS (cTest (cBin dEq (cRead (cBin dMod (cRead (cBin dDiv (cRead (cCall g__law_cell_at (cCons (cVar 0) (cCons (cVal (.int 1)) (cNil))))) (cRead (cVal (.int 3))))) (cRead (cVal (.int 4))))) (cRead (cVal (.int 1))))) (cSeq (cAsg 1 (cBin dMod (cRead (cBin dDiv (cRead (cCall g__law_cell_at (cCons (cVar 0) (cCons (cVal (.int 2)) (cNil))))) (cRead (cVal (.int 3))))) (cRead (cVal (.int 4))))) (cPass)) (cPass)) (cSeq (cAsg 2 (cCall g__law_row (cCons (cVar 0) (cCons (cVal (.int 0)) (cCons (cBin dAdd (cPeek 1) (cRead (cVal (.int 1)))) (cNil)))))) (cSeq (cAsg 3 (cCall g__law_box (cCons (cVar 0) (cCons (cBin dAdd (cPeek 1) (cRead (cVal (.int 1)))) (cCons (cVar 1) (cNil)))))) (cSeq (cAsg 4 (cCall fList (cConsP (cPeek 3) (cNil)))) (cSeq (cAsg 5 (cCallP 2 g_least (cConsP (cPeek 2) (cConsP (cPeek 4) (cNil))))) (cSeq (cAsg 6 (cCallP 2 g_most (cConsP (cPeek 2) (cConsP (cPeek 4) (cNil))))) (cSeq (cIfS (cOr (cNot (cTest (cCall g__law_whole (cCons (cVar 5) (cNil))))) (cOr (cNot (cTest (cCall g__law_whole (cCons (cVar 6) (cNil))))) (cTest (cBin dNe (cPeek 4) (cPeek 3))))) (cSeq (cRet (cVal (.bl false))) (cPass)) (cPass)) (cSeq (cFrz [3] (cIfS (cTest (cBin dNe (cPeek 5) (cRead (cCall g__law_dot (cCons (cVar 2) (cCons (cCall g__law_corner (cCons (cVar 2) (cCons (cVar 3) (cCons (cVal (.bl false)) (cNil))))) (cNil))))))) (cSeq (cRet (cVal (.bl false))) (cPass)) (cPass))) (cSeq (cFrz [3] (cIfS (cTest (cBin dNe (cPeek 6) (cRead (cCall g__law_dot (cCons (cVar 2) (cCons (cCall g__law_corner (cCons (cVar 2) (cCons (cVar 3) (cCons (cVal (.bl true)) (cNil))))) (cNil))))))) (cSeq (cRet (cVal (.bl false))) (cPass)) (cPass))) (cSeq (cAsg 7 (cLst (cNil))) (cSeq (cFor (cRng1 (cCons (cVar 1) (cNil))) (gSet 8) (b0_law)) (cSeq (cAsg 9 (cCallP 2 g__law_dot (cConsP (cPeek 2) (cConsP (cPeek 7) (cNil))))) (cSeq (cRet (cAndV (cBin dLe (cPeek 5) (cPeek 9)) (cBin dLe (cPeek 9) (cPeek 6)))) (cPass))))))))))))))
@[irreducible] noncomputable def g_law : Fn := runF 11 c_law
theorem ok_law {f : Addr} {fd : FuncData} (F : Fun K "law" "law" (top 11) f fd) (T : Bl mg) (G__law_dot : FOk P w K mg base 1 "_law_dot" 2 g__law_dot) (G__law_cell_at : FOk P w K mg base 1 "_law_cell_at" 2 g__law_cell_at) (G__law_corner : FOk P w K mg base 1 "_law_corner" 3 g__law_corner) (G__law_whole : FOk P w K mg base 1 "_law_whole" 1 g__law_whole) (G_most : FOk P w K mg base 1 "most" 2 g_most) (G_least : FOk P w K mg base 1 "least" 2 g_least) (G__law_box : FOk P w K mg base 2 "_law_box" 3 g__law_box) (G__law_row : FOk P w K mg base 2 "_law_row" 3 g__law_row) : FnOk P w K mg base CX0 3 f fd ["_law_script"] (spF ⟨K, P, w⟩ 1 g_law) :=
  by unfold g_law; exact fnok F sc_law fun cdv A outer s H E hr => by
            have G__law_dot := G__law_dot.up (k := 2) (by decide)
            have G__law_cell_at := G__law_cell_at.up (k := 2) (by decide)
            have G__law_corner := G__law_corner.up (k := 2) (by decide)
            have G__law_whole := G__law_whole.up (k := 2) (by decide)
            have G_most := G_most.up (k := 2) (by decide)
            have G_least := G_least.up (k := 2) (by decide)
            have G__law_box := G__law_box.up (k := 2) (by decide)
            have G__law_row := G__law_row.up (k := 2) (by decide)
            exact sss_cons (ss_set 1 sc_law.nd rfl (by first | exact Or.inl rfl | exact Or.inr rfl) (se_callB (cd_min2 rfl) rfl T.b_min (by decide +kernel) (sap_cons (SE.sp (se_bin od_div (SE.sp (se_callB cd_len rfl T.b_len (by decide +kernel) (sap_cons (sp_var 0 (pv 0)) (sap_nil)))) (SE.sp (se_int)))) (sap_cons (SE.sp (se_int)) (sap_nil))))) (sss_cons (ss_if (st_cmp (od_eq hr.units) (SE.sp (se_bin od_mod (SE.sp (se_bin od_div (SE.sp (se_call G__law_cell_at hr rfl (sa_cons (se_var 0 (pv 0)) (sa_cons (se_int) (sa_nil))))) (SE.sp (se_int)))) (SE.sp (se_int)))) (SE.sp (se_int)) (nomark _)) (sss_cons (ss_set 1 sc_law.nd rfl (by first | exact Or.inl rfl | exact Or.inr rfl) (se_bin od_mod (SE.sp (se_bin od_div (SE.sp (se_call G__law_cell_at hr rfl (sa_cons (se_var 0 (pv 0)) (sa_cons (se_int) (sa_nil))))) (SE.sp (se_int)))) (SE.sp (se_int)))) (sss_nil)) (sss_nil)) (sss_cons (ss_set 2 sc_law.nd rfl (by first | exact Or.inl rfl | exact Or.inr rfl) (se_call G__law_row hr rfl (sa_cons (se_var 0 (pv 0)) (sa_cons (se_int) (sa_cons (se_bin od_add (sp_var 1 (pv 1)) (SE.sp (se_int))) (sa_nil)))))) (sss_cons (ss_set 3 sc_law.nd rfl (by first | exact Or.inl rfl | exact Or.inr rfl) (se_call G__law_box hr rfl (sa_cons (se_var 0 (pv 0)) (sa_cons (se_bin od_add (sp_var 1 (pv 1)) (SE.sp (se_int))) (sa_cons (se_var 1 (pv 1)) (sa_nil)))))) (sss_cons (ss_set 4 sc_law.nd rfl (by first | exact Or.inl rfl | exact Or.inr rfl) (se_callTy cd_list rfl T.b_list (by decide +kernel) (sap_cons (sp_var 3 (pv 3)) (sap_nil)))) (sss_cons (ss_set 5 sc_law.nd rfl (by first | exact Or.inl rfl | exact Or.inr rfl) (se_callP G_least hr rfl (sap_cons (sp_var 2 (pv 2)) (sap_cons (sp_var 4 (pv 4)) (sap_nil))))) (sss_cons (ss_set 6 sc_law.nd rfl (by first | exact Or.inl rfl | exact Or.inr rfl) (se_callP G_most hr rfl (sap_cons (sp_var 2 (pv 2)) (sap_cons (sp_var 4 (pv 4)) (sap_nil))))) (sss_cons (ss_if (SW.st (sw_or (st_not (st_val (se_call G__law_whole hr rfl (sa_cons (se_var 5 (pv 5)) (sa_nil))))) (sw_or (st_not (st_val (se_call G__law_whole hr rfl (sa_cons (se_var 6 (pv 6)) (sa_nil))))) (sw_or1 (st_cmp (od_ne hr.units) (sp_var 4 (pv 4)) (sp_var 3 (pv 3)) (nomark _)))))) (sss_cons (ss_ret (se_bl)) (sss_nil)) (sss_nil)) (sss_cons (ss_frz [3] (ss_if (st_cmp (od_ne hr.units) (sp_var 5 (pv 5)) (SE.sp (se_call G__law_dot hr rfl (sa_cons (se_var 2 (pv 2)) (sa_cons (se_call G__law_corner hr rfl (sa_cons (se_var 2 (pv 2)) (sa_cons (se_var 3 (pv 3)) (sa_cons (se_bl) (sa_nil))))) (sa_nil))))) (nomark _)) (sss_cons (ss_ret (se_bl)) (sss_nil)) (sss_nil))) (sss_cons (ss_frz [3] (ss_if (st_cmp (od_ne hr.units) (sp_var 6 (pv 6)) (SE.sp (se_call G__law_dot hr rfl (sa_cons (se_var 2 (pv 2)) (sa_cons (se_call G__law_corner hr rfl (sa_cons (se_var 2 (pv 2)) (sa_cons (se_var 3 (pv 3)) (sa_cons (se_bl) (sa_nil))))) (sa_nil))))) (nomark _)) (sss_cons (ss_ret (se_bl)) (sss_nil)) (sss_nil))) (sss_cons (ss_set 7 sc_law.nd rfl (by first | exact Or.inl rfl | exact Or.inr rfl) (se_lst (sa_nil))) (sss_cons (ss_for PassesOwn.never rfl (si_rng1 rfl T.b_range (sa_cons (se_var 1 (pv 1)) (sa_nil))) (sg_name 8 (pg_name sc_law.nd rfl (by first | exact Or.inl rfl | exact Or.inr rfl))) (sss_cons (ss_if (st_cmp od_lt (SE.sp (se_ix (SE.sp (se_ix (sp_var 3 (pv 3)) (sp_var 8 (pv 8)))) (SE.sp (se_int)))) (SE.sp (se_ix (SE.sp (se_ix (sp_var 3 (pv 3)) (sp_var 8 (pv 8)))) (SE.sp (se_int)))) (nomark _)) (sss_cons (ss_ret (se_bl)) (sss_nil)) (sss_nil)) (sss_cons (ss_set 10 sc_law.nd rfl (by first | exact Or.inl rfl | exact Or.inr rfl) (se_bin od_add (SE.sp (se_bin od_mul (SE.sp (se_call G__law_cell_at hr rfl (sa_cons (se_var 0 (pv 0)) (sa_cons (se_bin od_sub (SE.sp (se_bin od_add (SE.sp (se_bin od_mul (SE.sp (se_int)) (sp_var 1 (pv 1)))) (SE.sp (se_int)))) (sp_var 8 (pv 8))) (sa_nil))))) (SE.sp (se_int)))) (SE.sp (se_bin od_mul (sp_var 8 (pv 8)) (sp_var 8 (pv 8)))))) (sss_cons (ss_append 7 (se_bin od_add (SE.sp (se_ix (SE.sp (se_ix (sp_var 3 (pv 3)) (sp_var 8 (pv 8)))) (SE.sp (se_int)))) (SE.sp (se_bin od_mod (sp_var 10 (pv 10)) (SE.sp (se_bin od_add (SE.sp (se_bin od_sub (SE.sp (se_ix (SE.sp (se_ix (sp_var 3 (pv 3)) (sp_var 8 (pv 8)))) (SE.sp (se_int)))) (SE.sp (se_ix (SE.sp (se_ix (sp_var 3 (pv 3)) (sp_var 8 (pv 8)))) (SE.sp (se_int)))))) (SE.sp (se_int))))))) (hp := fun _ h => ps_expr (pe_bm PySem.F.plainAttrs_list PySem.F.slot_list_append PySem.F.type_list_append mt_append (pv 7) h))) (sss_nil))))) (sss_cons (ss_set 9 sc_law.nd rfl (by first | exact Or.inl rfl | exact Or.inr rfl) (se_callP G__law_dot hr rfl (sap_cons (sp_var 2 (pv 2)) (sap_cons (sp_var 7 (pv 7)) (sap_nil))))) (sss_cons (ss_ret (se_and (se_cmp od_le (sp_var 5 (pv 5)) (sp_var 9 (pv 9)) (nomark _)) (se_one (se_cmp od_le (sp_var 9 (pv 9)) (sp_var 6 (pv 6)) (nomark _))))) (sss_nil))))))))))))))
end
theorem all_mk {l : PySem.W.OpenLaw} {w : World} {K : PySem.W.Frag} {h : Heap} {mg : Str → Option Value} {fa f0 f1 f2 f3 f4 f5 f6 f7 f8 f9 : Addr} (X : K.In h) (G : h.Ns mainGlobals mg) (hfa : mg "law" = some (.ref fa))
    {od0 an0 od1 an1 od2 an2 od3 an3 od4 an4 od5 an5 od6 an6 od7 an7 od8 an8 od9 an9 : Option Addr} {sl0 sl1 sl2 sl3 sl4 sl5 sl6 sl7 sl8 sl9 : Array (Option Value)} {oc0 kV0 dc0 pm0 cd0 ct0 oc1 kV1 dc1 pm1 cd1 ct1 oc2 kV2 dc2 pm2 cd2 ct2 oc3 kV3 dc3 pm3 cd3 ct3 oc4 kV4 dc4 pm4 cd4 ct4 oc5 kV5 dc5 pm5 cd5 ct5 oc6 kV6 dc6 pm6 cd6 ct6 oc7 kV7 dc7 pm7 cd7 ct7 oc8 kV8 dc8 pm8 cd8 ct8 oc9 kV9 dc9 pm9 cd9 ct9 : Value}
    (a0 : PySem.W.nsIn K mainGlobals "least" = some (some (.ref f0))) (l0 : K.lookup f0 = some ⟨oc0, od0, .func (PySem.W.fnOf "least" "least" (defArgs (top 1)) (defBody (top 1)) (defScope (top 1)) .none kV0 dc0 pm0 an0 cd0 ct0), sl0⟩) (c0 : PySem.W.codeIn K cd0 "least" = true) (k0 : PySem.W.keepIn K (.ref f0) = true)
    (a1 : PySem.W.nsIn K mainGlobals "most" = some (some (.ref f1))) (l1 : K.lookup f1 = some ⟨oc1, od1, .func (PySem.W.fnOf "most" "most" (defArgs (top 2)) (defBody (top 2)) (defScope (top 2)) .none kV1 dc1 pm1 an1 cd1 ct1), sl1⟩) (c1 : PySem.W.codeIn K cd1 "most" = true) (k1 : PySem.W.keepIn K (.ref f1) = true)
    (a2 : PySem.W.nsIn K mainGlobals "_law_cell_at" = some (some (.ref f2))) (l2 : K.lookup f2 = some ⟨oc2, od2, .func (PySem.W.fnOf "_law_cell_at" "_law_cell_at" (defArgs (top 4)) (defBody (top 4)) (defScope (top 4)) .none kV2 dc2 pm2 an2 cd2 ct2), sl2⟩) (c2 : PySem.W.codeIn K cd2 "_law_cell_at" = true) (k2 : PySem.W.keepIn K (.ref f2) = true)
    (a3 : PySem.W.nsIn K mainGlobals "_law_whole" = some (some (.ref f3))) (l3 : K.lookup f3 = some ⟨oc3, od3, .func (PySem.W.fnOf "_law_whole" "_law_whole" (defArgs (top 5)) (defBody (top 5)) (defScope (top 5)) .none kV3 dc3 pm3 an3 cd3 ct3), sl3⟩) (c3 : PySem.W.codeIn K cd3 "_law_whole" = true) (k3 : PySem.W.keepIn K (.ref f3) = true)
    (a4 : PySem.W.nsIn K mainGlobals "_law_number" = some (some (.ref f4))) (l4 : K.lookup f4 = some ⟨oc4, od4, .func (PySem.W.fnOf "_law_number" "_law_number" (defArgs (top 6)) (defBody (top 6)) (defScope (top 6)) .none kV4 dc4 pm4 an4 cd4 ct4), sl4⟩) (c4 : PySem.W.codeIn K cd4 "_law_number" = true) (k4 : PySem.W.keepIn K (.ref f4) = true)
    (a5 : PySem.W.nsIn K mainGlobals "_law_row" = some (some (.ref f5))) (l5 : K.lookup f5 = some ⟨oc5, od5, .func (PySem.W.fnOf "_law_row" "_law_row" (defArgs (top 7)) (defBody (top 7)) (defScope (top 7)) .none kV5 dc5 pm5 an5 cd5 ct5), sl5⟩) (c5 : PySem.W.codeIn K cd5 "_law_row" = true) (k5 : PySem.W.keepIn K (.ref f5) = true)
    (a6 : PySem.W.nsIn K mainGlobals "_law_dot" = some (some (.ref f6))) (l6 : K.lookup f6 = some ⟨oc6, od6, .func (PySem.W.fnOf "_law_dot" "_law_dot" (defArgs (top 8)) (defBody (top 8)) (defScope (top 8)) .none kV6 dc6 pm6 an6 cd6 ct6), sl6⟩) (c6 : PySem.W.codeIn K cd6 "_law_dot" = true) (k6 : PySem.W.keepIn K (.ref f6) = true)
    (a7 : PySem.W.nsIn K mainGlobals "_law_box" = some (some (.ref f7))) (l7 : K.lookup f7 = some ⟨oc7, od7, .func (PySem.W.fnOf "_law_box" "_law_box" (defArgs (top 9)) (defBody (top 9)) (defScope (top 9)) .none kV7 dc7 pm7 an7 cd7 ct7), sl7⟩) (c7 : PySem.W.codeIn K cd7 "_law_box" = true) (k7 : PySem.W.keepIn K (.ref f7) = true)
    (a8 : PySem.W.nsIn K mainGlobals "_law_corner" = some (some (.ref f8))) (l8 : K.lookup f8 = some ⟨oc8, od8, .func (PySem.W.fnOf "_law_corner" "_law_corner" (defArgs (top 10)) (defBody (top 10)) (defScope (top 10)) .none kV8 dc8 pm8 an8 cd8 ct8), sl8⟩) (c8 : PySem.W.codeIn K cd8 "_law_corner" = true) (k8 : PySem.W.keepIn K (.ref f8) = true)
    (a9 : PySem.W.nsIn K mainGlobals "law" = some (some (.ref f9))) (l9 : K.lookup f9 = some ⟨oc9, od9, .func (PySem.W.fnOf "law" "law" (defArgs (top 11)) (defBody (top 11)) (defScope (top 11)) .none kV9 dc9 pm9 an9 cd9 ct9), sl9⟩) (c9 : PySem.W.codeIn K cd9 "law" = true) (k9 : PySem.W.keepIn K (.ref f9) = true)
    (z_bool : PySem.W.nsIn K mainGlobals "bool" = some none)
    (z_int : PySem.W.nsIn K mainGlobals "int" = some none)
    (z_isinstance : PySem.W.nsIn K mainGlobals "isinstance" = some none)
    (z_len : PySem.W.nsIn K mainGlobals "len" = some none)
    (z_list : PySem.W.nsIn K mainGlobals "list" = some none)
    (z_min : PySem.W.nsIn K mainGlobals "min" = some none)
    (z_range : PySem.W.nsIn K mainGlobals "range" = some none)
    (z_sum : PySem.W.nsIn K mainGlobals "sum" = some none)
    (z_tuple : PySem.W.nsIn K mainGlobals "tuple" = some none)
    (z_zip : PySem.W.nsIn K mainGlobals "zip" = some none)
    : ∃ fd : FuncData, (∀ (s : Shared) (v : Value), BindsTo s fd ⟨[v], []⟩ [("_law_script", v)]) ∧ ∀ base : Heap, K.In base → base.Ns mainGlobals mg → FnOk l.prog w K mg base CX0 3 fa fd ["_law_script"] (spF ⟨K, l.prog, w⟩ 1 g_law) := by
  have e := hfa.symm.trans (PySem.W.mg_of X G a9)
  cases e
  have T : Bl mg := ⟨PySem.W.mg_none_of X G z_bool, PySem.W.mg_none_of X G z_int, PySem.W.mg_none_of X G z_isinstance, PySem.W.mg_none_of X G z_len, PySem.W.mg_none_of X G z_list, PySem.W.mg_none_of X G z_min, PySem.W.mg_none_of X G z_range, PySem.W.mg_none_of X G z_sum, PySem.W.mg_none_of X G z_tuple, PySem.W.mg_none_of X G z_zip⟩
  have F0 := fun_mk (st := top 1) l0 c0 k0
  have b0 := F0.binds (ps := ["total", "box"]) fun _ _ _ _ _ _ us hl => match us, hl with | [_, _], _ => rfl
  have F1 := fun_mk (st := top 2) l1 c1 k1
  have b1 := F1.binds (ps := ["total", "box"]) fun _ _ _ _ _ _ us hl => match us, hl with | [_, _], _ => rfl
  have F2 := fun_mk (st := top 4) l2 c2 k2
  have b2 := F2.binds (ps := ["_law_script", "_law_k"]) fun _ _ _ _ _ _ us hl => match us, hl with | [_, _], _ => rfl
  have F3 := fun_mk (st := top 5) l3 c3 k3
  have b3 := F3.binds (ps := ["_law_found"]) fun _ _ _ _ _ _ us hl => match us, hl with | [_], _ => rfl
  have F4 := fun_mk (st := top 6) l4 c4 k4
  have b4 := F4.binds (ps := ["_law_cell"]) fun _ _ _ _ _ _ us hl => match us, hl with | [_], _ => rfl
  have F5 := fun_mk (st := top 7) l5 c5 k5
  have b5 := F5.binds (ps := ["_law_script", "_law_start", "_law_many"]) fun _ _ _ _ _ _ us hl => match us, hl with | [_, _, _], _ => rfl
  have F6 := fun_mk (st := top 8) l6 c6 k6
  have b6 := F6.binds (ps := ["_law_total", "_law_turn"]) fun _ _ _ _ _ _ us hl => match us, hl with | [_, _], _ => rfl
  have F7 := fun_mk (st := top 9) l7 c7 k7
  have b7 := F7.binds (ps := ["_law_script", "_law_start", "_law_size"]) fun _ _ _ _ _ _ us hl => match us, hl with | [_, _, _], _ => rfl
  have F8 := fun_mk (st := top 10) l8 c8 k8
  have b8 := F8.binds (ps := ["_law_total", "_law_pairs", "_law_upper"]) fun _ _ _ _ _ _ us hl => match us, hl with | [_, _, _], _ => rfl
  have F9 := fun_mk (st := top 11) l9 c9 k9
  have b9 := F9.binds (ps := ["_law_script"]) fun _ _ _ _ _ _ us hl => match us, hl with | [_], _ => rfl
  refine ⟨PySem.W.fnOf "law" "law" (defArgs (top 11)) (defBody (top 11)) (defScope (top 11)) .none kV9 dc9 pm9 an9 cd9 ct9, fun s v => .of_eq rfl, fun base _ _ => ?_⟩
  have G_least : FOk l.prog w K mg base 1 "least" 2 g_least := ok_least F0 (PySem.W.mg_of X G a0) b0 T
  have G_most : FOk l.prog w K mg base 1 "most" 2 g_most := ok_most F1 (PySem.W.mg_of X G a1) b1 T
  have G__law_cell_at : FOk l.prog w K mg base 1 "_law_cell_at" 2 g__law_cell_at := ok__law_cell_at F2 (PySem.W.mg_of X G a2) b2 T
  have G__law_whole : FOk l.prog w K mg base 1 "_law_whole" 1 g__law_whole := ok__law_whole F3 (PySem.W.mg_of X G a3) b3 T
  have G__law_number : FOk l.prog w K mg base 1 "_law_number" 1 g__law_number := ok__law_number F4 (PySem.W.mg_of X G a4) b4 T
  have G__law_row : FOk l.prog w K mg base 2 "_law_row" 3 g__law_row := ok__law_row F5 (PySem.W.mg_of X G a5) b5 T G__law_number G__law_cell_at
  have G__law_dot : FOk l.prog w K mg base 1 "_law_dot" 2 g__law_dot := ok__law_dot F6 (PySem.W.mg_of X G a6) b6 T
  have G__law_box : FOk l.prog w K mg base 2 "_law_box" 3 g__law_box := ok__law_box F7 (PySem.W.mg_of X G a7) b7 T G__law_cell_at G__law_number
  have G__law_corner : FOk l.prog w K mg base 1 "_law_corner" 3 g__law_corner := ok__law_corner F8 (PySem.W.mg_of X G a8) b8 T
  exact ok_law F9 T G__law_dot G__law_cell_at G__law_corner G__law_whole G_most G_least G__law_box G__law_row
end K05

set_option Elab.async false
set_option linter.all false
set_option maxRecDepth 100000
set_option maxHeartbeats 4000000
local macro_rules | `(tactic| simp_arith [$ls,*]) => `(tactic| simp (disch := first | omega | (simp only [List.length_map, List.length_set, List.length_append, List.length_take, List.length_drop, List.length_range, List.length_cons, List.length_nil, List.length_reverse]; omega)) only [↓L2.EV.wSlA_S, ↓L2.EV.wF_lenS, ↓L2.EV.kS35_, ↓L2.EV.kS34_, ↓L2.EV.kS33_, ↓L2.EV.kS32_, ↓L2.EV.kS31_, ↓L2.EV.wE_sl3, ↓L2.EV.w2_ixT0, ↓L2.EV.w2_ixT1, ↓L2.EV.w2_ixT2, ↓L2.EV.w2_ixL0, ↓L2.EV.w2_ixL1, ↓L2.EV.w2_ixL2, decide_true, decide_false, L2.EV.tk_map, L2.EV.dr_map, L2.EV.dl_map, L2.EV.szl, L2.EV.szl', List.length_append, List.length_take, List.length_drop, List.length_set, List.length_reverse, ↓L2.EV.kFrz_, ↓L2.EV.wS_frz0, ↓L2.EV.wS_frz1, ↓L2.EV.frK_zero, ↓L2.EV.frK_none, ↓L2.EV.frK_succ, ↓L2.EV.setD_LI, L2.EV.map_cat, L2.EV.map_snoc, L2.EV.map_cons', ↓L2.EV.kSlA3_, ↓L2.EV.kSlA2_, ↓L2.EV.kSlA1_, ↓L2.EV.wE_slA, ↓L2.EV.wSlA_T, ↓L2.EV.wSlA_L, ↓L2.EV.kM0_, ↓L2.EV.kM_, ↓L2.EV.wS_m0, ↓L2.EV.kCP2_, ↓L2.EV.kCP_, ↓L2.EV.wE_callP, L2.EV.scal_int, L2.EV.scal_bl, L2.EV.scal_str, L2.EV.scal_non, L2.EV.cut_map, L2.EV.cut_to, L2.EV.cut_from, L2.EV.cut_all, L2.EV.cut_init, L2.EV.cut_mid, ↓L2.EV.kNx_, ↓L2.EV.kCons_, ↓L2.EV.kAsg_, ↓L2.EV.kRet_, ↓L2.EV.kDrop_, ↓L2.EV.kIfS_, ↓L2.EV.kIfE_, ↓L2.EV.kFor_, ↓L2.EV.kSet_, ↓L2.EV.kStar2_, ↓L2.EV.kStar1_, ↓L2.EV.kStar_, ↓L2.EV.kPar1_, ↓L2.EV.kPar_, ↓L2.EV.kUnp_, ↓L2.EV.kApp2_, ↓L2.EV.kApp1_, ↓L2.EV.kApp_, ↓L2.EV.kSit3_, ↓L2.EV.kSit2_, ↓L2.EV.kSit1_, ↓L2.EV.kSit_, ↓L2.EV.kTest_, ↓L2.EV.kNot_, ↓L2.EV.kAnd_, ↓L2.EV.kOr_, ↓L2.EV.kVar_, ↓L2.EV.kPk_, ↓L2.EV.kBin2_, ↓L2.EV.kBin1_, ↓L2.EV.kNeg1_, ↓L2.EV.kNeg_, ↓L2.EV.kAndV1_, ↓L2.EV.kAndV_, ↓L2.EV.kOrV1_, ↓L2.EV.kOrV_, ↓L2.EV.kNotV1_, ↓L2.EV.kNotV_, ↓L2.EV.kArg2_, ↓L2.EV.kArg_, ↓L2.EV.kArgP_, ↓L2.EV.kTup_, ↓L2.EV.kLst_, ↓L2.EV.kCall_, ↓L2.EV.kIsI_, ↓L2.EV.kSl3_, ↓L2.EV.kSl2_, ↓L2.EV.kSl1_, ↓L2.EV.kPart1_, ↓L2.EV.kPart_, ↓L2.EV.kGet3_, ↓L2.EV.kGet2_, ↓L2.EV.kGet1_, ↓L2.EV.kLc3_, ↓L2.EV.kLc2_, ↓L2.EV.kLc1_, ↓L2.EV.kRng1b_, ↓L2.EV.kRng1a_, ↓L2.EV.kRng1_, ↓L2.EV.kRng2c_, ↓L2.EV.kRng2b_, ↓L2.EV.kRng2a_, ↓L2.EV.kRng2_, ↓L2.EV.kSeqI_, ↓L2.EV.kItL_, ↓L2.EV.kItT_, ↓L2.EV.kZip2_, ↓L2.EV.kZip1_, ↓L2.EV.kZip0_, ↓L2.EV.kZip_, ↓L2.EV.kEnum2_, ↓L2.EV.kEnum1_, ↓L2.EV.kEnum_, ↓L2.EV.kGs_, ↓L2.EV.kLp_, ↓L2.EV.sq_nx, ↓L2.EV.sq_rt, ↓L2.EV.sq_bk, ↓L2.EV.sq_ct, ↓L2.EV.fin_rt, ↓L2.EV.fin_nx, ↓L2.EV.itm_nx, ↓L2.EV.itm_ct, ↓L2.EV.itm_bk, ↓L2.EV.itm_rt, ↓L2.EV.wF_run, ↓L2.EV.wS_seq, ↓L2.EV.wS_asg, ↓L2.EV.wS_ret, ↓L2.EV.wS_retVar, ↓L2.EV.wS_retN, ↓L2.EV.wS_pass, ↓L2.EV.wS_break, ↓L2.EV.wS_cont, ↓L2.EV.wS_drop, ↓L2.EV.wS_if, ↓L2.EV.wS_for, ↓L2.EV.wS_star, ↓L2.EV.wS_par, ↓L2.EV.wS_unp, ↓L2.EV.wS_append, ↓L2.EV.wS_setItem, ↓L2.EV.wE_get2, ↓L2.EV.asB_, ↓L2.EV.asI_, ↓L2.EV.asL_, ↓L2.EV.asT_, ↓L2.EV.asSqL_, ↓L2.EV.asSqT_, ↓L2.EV.asA1_, ↓L2.EV.asA2_, ↓L2.EV.ift_t, ↓L2.EV.ift_f, ↓L2.EV.ift_n, ↓L2.EV.ift_y, ↓L2.EV.ift_no, ↓L2.EV.wO1_some, ↓L2.EV.atE_zero, ↓L2.EV.atE_succ, ↓L2.EV.setK_zero, ↓L2.EV.setK_succ, ↓L2.EV.wipeK_nil, ↓L2.EV.wipeK_cons, ↓L2.EV.wT_test, ↓L2.EV.wT_not, ↓L2.EV.wT_and, ↓L2.EV.wT_or, ↓L2.EV.wT_yes, ↓L2.EV.wE_val, ↓L2.EV.wE_var, ↓L2.EV.wP_peek, ↓L2.EV.wP_read, ↓L2.EV.wE_bin, ↓L2.EV.wE_neg, ↓L2.EV.wE_if, ↓L2.EV.wE_and, ↓L2.EV.wE_or, ↓L2.EV.wE_not, ↓L2.EV.wA_nil, ↓L2.EV.wA_cons, ↓L2.EV.wA_consP, ↓L2.EV.wE_tup, ↓L2.EV.wE_lst, ↓L2.EV.wE_call, ↓L2.EV.wE_isI, ↓L2.EV.wE_sl, ↓L2.EV.wO_no, ↓L2.EV.wO_part, ↓L2.EV.wE_dnew, ↓L2.EV.wE_lc, ↓L2.EV.wA_rng1, ↓L2.EV.wA_rng2, ↓L2.EV.wA_seqI, ↓L2.EV.wA_items, ↓L2.EV.wA_itemsT, ↓L2.EV.wA_zip, ↓L2.EV.wA_enum, ↓L2.EV.wE_listR, ↓L2.EV.wG_set, ↓L2.EV.wG_tup, ↓L2.EV.wG_seqT, ↓L2.EV.wG_seqL, ↓L2.EV.wGs_nil, ↓L2.EV.wGs_cons, ↓L2.EV.w2_add, ↓L2.EV.w2_addL, ↓L2.EV.w2_addT, ↓L2.EV.w2_addS, ↓L2.EV.w2_sub, ↓L2.EV.w2_mul, ↓L2.EV.w2_div, ↓L2.EV.w2_mod, ↓L2.EV.w2_pow, ↓L2.EV.w2_lt, ↓L2.EV.w2_le, ↓L2.EV.w2_gt, ↓L2.EV.w2_ge, ↓L2.EV.w2_eqI, ↓L2.EV.w2_neI, ↓L2.EV.w2_eqS, ↓L2.EV.w2_neS, ↓L2.EV.w2_eqB, ↓L2.EV.w2_neB, ↓L2.EV.w2_ixTI, ↓L2.EV.w2_ixLI, ↓L2.EV.w2_isN, ↓L2.EV.w2_notN, ↓L2.EV.wF_lenL, ↓L2.EV.wF_lenT, ↓L2.EV.wF_tupL, ↓L2.EV.wF_tupT, ↓L2.EV.wF_lstL, ↓L2.EV.wF_lstT, ↓L2.EV.wF_max2, ↓L2.EV.wF_min2, ↓L2.EV.wF_abs, ↓L2.EV.wF_intI, ↓L2.EV.wF_intB, ↓L2.EV.wF_sum, ↓L2.EV.start_cons, ↓L2.EV.start_nil, ↓L2.EV.start_zero, L2.EV.modOk_of, L2.EV.divOk_sm, L2.EV.powOk10, L2.EV.powOk2, L2.EV.sm62, Int.reduceToNat, Int.reduceNeg, List.length_map, List.length_range, L2.EV.rngD_length, List.length_cons, List.length_nil, Nat.reduceAdd, L2.EV.ift_d, L2.EV.isD, L2.EV.isNon, String.reduceBEq, Bool.or_true, Bool.or_false, Bool.not_true, Bool.not_false, Bool.and_true, Bool.true_and, Bool.and_false, Bool.false_and, exists_eq_left, exists_eq_left', exists_eq_right, exists_eq_right', exists_and_left, exists_and_right, L2.EV.D.int.injEq, L2.EV.D.bl.injEq, L2.EV.D.str.injEq, L2.EV.D.tup.injEq, L2.EV.D.lst.injEq, Option.some.injEq, Prod.mk.injEq, List.cons.injEq, and_true, true_and, and_assoc, decide_eq_true_eq, decide_eq_false_iff_not, Bool.not_eq_true', Bool.not_eq_false', reduceCtorEq, false_implies, true_implies, implies_true, forall_const, eq_self, not_true_eq_false, not_false_eq_true, exists_eq', Int.toNat_natCast, Int.zero_add, $ls,*])
local macro_rules | `(tactic| simp_arith) => `(tactic| simp (disch := first | omega | (simp only [List.length_map, List.length_set, List.length_append, List.length_take, List.length_drop, List.length_range, List.length_cons, List.length_nil, List.length_reverse]; omega)) only [↓L2.EV.wSlA_S, ↓L2.EV.wF_lenS, ↓L2.EV.kS35_, ↓L2.EV.kS34_, ↓L2.EV.kS33_, ↓L2.EV.kS32_, ↓L2.EV.kS31_, ↓L2.EV.wE_sl3, ↓L2.EV.w2_ixT0, ↓L2.EV.w2_ixT1, ↓L2.EV.w2_ixT2, ↓L2.EV.w2_ixL0, ↓L2.EV.w2_ixL1, ↓L2.EV.w2_ixL2, decide_true, decide_false, L2.EV.tk_map, L2.EV.dr_map, L2.EV.dl_map, L2.EV.szl, L2.EV.szl', List.length_append, List.length_take, List.length_drop, List.length_set, List.length_reverse, ↓L2.EV.kFrz_, ↓L2.EV.wS_frz0, ↓L2.EV.wS_frz1, ↓L2.EV.frK_zero, ↓L2.EV.frK_none, ↓L2.EV.frK_succ, ↓L2.EV.setD_LI, L2.EV.map_cat, L2.EV.map_snoc, L2.EV.map_cons', ↓L2.EV.kSlA3_, ↓L2.EV.kSlA2_, ↓L2.EV.kSlA1_, ↓L2.EV.wE_slA, ↓L2.EV.wSlA_T, ↓L2.EV.wSlA_L, ↓L2.EV.kM0_, ↓L2.EV.kM_, ↓L2.EV.wS_m0, ↓L2.EV.kCP2_, ↓L2.EV.kCP_, ↓L2.EV.wE_callP, L2.EV.scal_int, L2.EV.scal_bl, L2.EV.scal_str, L2.EV.scal_non, L2.EV.cut_map, L2.EV.cut_to, L2.EV.cut_from, L2.EV.cut_all, L2.EV.cut_init, L2.EV.cut_mid, ↓L2.EV.kNx_, ↓L2.EV.kCons_, ↓L2.EV.kAsg_, ↓L2.EV.kRet_, ↓L2.EV.kDrop_, ↓L2.EV.kIfS_, ↓L2.EV.kIfE_, ↓L2.EV.kFor_, ↓L2.EV.kSet_, ↓L2.EV.kStar2_, ↓L2.EV.kStar1_, ↓L2.EV.kStar_, ↓L2.EV.kPar1_, ↓L2.EV.kPar_, ↓L2.EV.kUnp_, ↓L2.EV.kApp2_, ↓L2.EV.kApp1_, ↓L2.EV.kApp_, ↓L2.EV.kSit3_, ↓L2.EV.kSit2_, ↓L2.EV.kSit1_, ↓L2.EV.kSit_, ↓L2.EV.kTest_, ↓L2.EV.kNot_, ↓L2.EV.kAnd_, ↓L2.EV.kOr_, ↓L2.EV.kVar_, ↓L2.EV.kPk_, ↓L2.EV.kBin2_, ↓L2.EV.kBin1_, ↓L2.EV.kNeg1_, ↓L2.EV.kNeg_, ↓L2.EV.kAndV1_, ↓L2.EV.kAndV_, ↓L2.EV.kOrV1_, ↓L2.EV.kOrV_, ↓L2.EV.kNotV1_, ↓L2.EV.kNotV_, ↓L2.EV.kArg2_, ↓L2.EV.kArg_, ↓L2.EV.kArgP_, ↓L2.EV.kTup_, ↓L2.EV.kLst_, ↓L2.EV.kCall_, ↓L2.EV.kIsI_, ↓L2.EV.kSl3_, ↓L2.EV.kSl2_, ↓L2.EV.kSl1_, ↓L2.EV.kPart1_, ↓L2.EV.kPart_, ↓L2.EV.kGet3_, ↓L2.EV.kGet2_, ↓L2.EV.kGet1_, ↓L2.EV.kLc3_, ↓L2.EV.kLc2_, ↓L2.EV.kLc1_, ↓L2.EV.kRng1b_, ↓L2.EV.kRng1a_, ↓L2.EV.kRng1_, ↓L2.EV.kRng2c_, ↓L2.EV.kRng2b_, ↓L2.EV.kRng2a_, ↓L2.EV.kRng2_, ↓L2.EV.kSeqI_, ↓L2.EV.kItL_, ↓L2.EV.kItT_, ↓L2.EV.kZip2_, ↓L2.EV.kZip1_, ↓L2.EV.kZip0_, ↓L2.EV.kZip_, ↓L2.EV.kEnum2_, ↓L2.EV.kEnum1_, ↓L2.EV.kEnum_, ↓L2.EV.kGs_, ↓L2.EV.kLp_, ↓L2.EV.sq_nx, ↓L2.EV.sq_rt, ↓L2.EV.sq_bk, ↓L2.EV.sq_ct, ↓L2.EV.fin_rt, ↓L2.EV.fin_nx, ↓L2.EV.itm_nx, ↓L2.EV.itm_ct, ↓L2.EV.itm_bk, ↓L2.EV.itm_rt, ↓L2.EV.wF_run, ↓L2.EV.wS_seq, ↓L2.EV.wS_asg, ↓L2.EV.wS_ret, ↓L2.EV.wS_retVar, ↓L2.EV.wS_retN, ↓L2.EV.wS_pass, ↓L2.EV.wS_break, ↓L2.EV.wS_cont, ↓L2.EV.wS_drop, ↓L2.EV.wS_if, ↓L2.EV.wS_for, ↓L2.EV.wS_star, ↓L2.EV.wS_par, ↓L2.EV.wS_unp, ↓L2.EV.wS_append, ↓L2.EV.wS_setItem, ↓L2.EV.wE_get2, ↓L2.EV.asB_, ↓L2.EV.asI_, ↓L2.EV.asL_, ↓L2.EV.asT_, ↓L2.EV.asSqL_, ↓L2.EV.asSqT_, ↓L2.EV.asA1_, ↓L2.EV.asA2_, ↓L2.EV.ift_t, ↓L2.EV.ift_f, ↓L2.EV.ift_n, ↓L2.EV.ift_y, ↓L2.EV.ift_no, ↓L2.EV.wO1_some, ↓L2.EV.atE_zero, ↓L2.EV.atE_succ, ↓L2.EV.setK_zero, ↓L2.EV.setK_succ, ↓L2.EV.wipeK_nil, ↓L2.EV.wipeK_cons, ↓L2.EV.wT_test, ↓L2.EV.wT_not, ↓L2.EV.wT_and, ↓L2.EV.wT_or, ↓L2.EV.wT_yes, ↓L2.EV.wE_val, ↓L2.EV.wE_var, ↓L2.EV.wP_peek, ↓L2.EV.wP_read, ↓L2.EV.wE_bin, ↓L2.EV.wE_neg, ↓L2.EV.wE_if, ↓L2.EV.wE_and, ↓L2.EV.wE_or, ↓L2.EV.wE_not, ↓L2.EV.wA_nil, ↓L2.EV.wA_cons, ↓L2.EV.wA_consP, ↓L2.EV.wE_tup, ↓L2.EV.wE_lst, ↓L2.EV.wE_call, ↓L2.EV.wE_isI, ↓L2.EV.wE_sl, ↓L2.EV.wO_no, ↓L2.EV.wO_part, ↓L2.EV.wE_dnew, ↓L2.EV.wE_lc, ↓L2.EV.wA_rng1, ↓L2.EV.wA_rng2, ↓L2.EV.wA_seqI, ↓L2.EV.wA_items, ↓L2.EV.wA_itemsT, ↓L2.EV.wA_zip, ↓L2.EV.wA_enum, ↓L2.EV.wE_listR, ↓L2.EV.wG_set, ↓L2.EV.wG_tup, ↓L2.EV.wG_seqT, ↓L2.EV.wG_seqL, ↓L2.EV.wGs_nil, ↓L2.EV.wGs_cons, ↓L2.EV.w2_add, ↓L2.EV.w2_addL, ↓L2.EV.w2_addT, ↓L2.EV.w2_addS, ↓L2.EV.w2_sub, ↓L2.EV.w2_mul, ↓L2.EV.w2_div, ↓L2.EV.w2_mod, ↓L2.EV.w2_pow, ↓L2.EV.w2_lt, ↓L2.EV.w2_le, ↓L2.EV.w2_gt, ↓L2.EV.w2_ge, ↓L2.EV.w2_eqI, ↓L2.EV.w2_neI, ↓L2.EV.w2_eqS, ↓L2.EV.w2_neS, ↓L2.EV.w2_eqB, ↓L2.EV.w2_neB, ↓L2.EV.w2_ixTI, ↓L2.EV.w2_ixLI, ↓L2.EV.w2_isN, ↓L2.EV.w2_notN, ↓L2.EV.wF_lenL, ↓L2.EV.wF_lenT, ↓L2.EV.wF_tupL, ↓L2.EV.wF_tupT, ↓L2.EV.wF_lstL, ↓L2.EV.wF_lstT, ↓L2.EV.wF_max2, ↓L2.EV.wF_min2, ↓L2.EV.wF_abs, ↓L2.EV.wF_intI, ↓L2.EV.wF_intB, ↓L2.EV.wF_sum, ↓L2.EV.start_cons, ↓L2.EV.start_nil, ↓L2.EV.start_zero, L2.EV.modOk_of, L2.EV.divOk_sm, L2.EV.powOk10, L2.EV.powOk2, L2.EV.sm62, Int.reduceToNat, Int.reduceNeg, List.length_map, List.length_range, L2.EV.rngD_length, List.length_cons, List.length_nil, Nat.reduceAdd, L2.EV.ift_d, L2.EV.isD, L2.EV.isNon, String.reduceBEq, Bool.or_true, Bool.or_false, Bool.not_true, Bool.not_false, Bool.and_true, Bool.true_and, Bool.and_false, Bool.false_and, exists_eq_left, exists_eq_left', exists_eq_right, exists_eq_right', exists_and_left, exists_and_right, L2.EV.D.int.injEq, L2.EV.D.bl.injEq, L2.EV.D.str.injEq, L2.EV.D.tup.injEq, L2.EV.D.lst.injEq, Option.some.injEq, Prod.mk.injEq, List.cons.injEq, and_true, true_and, and_assoc, decide_eq_true_eq, decide_eq_false_iff_not, Bool.not_eq_true', Bool.not_eq_false', reduceCtorEq, false_implies, true_implies, implies_true, forall_const, eq_self, not_true_eq_false, not_false_eq_true, exists_eq', Int.toNat_natCast, Int.zero_add])
namespace K05
open PySem L2 L2.EV
def cellI (ns : List Int) (k : Int) : Int := ns.getD k.toNat 0
theorem w_cell {ns : List Int} {k : Int} {R : Bool → D → Prop} (h0 : 0 ≤ k) : wF g__law_cell_at [.lst (ns.map D.int), .int k] R ↔ R false (.int (cellI ns k)) := by
  unfold g__law_cell_at c__law_cell_at
  by_cases h : k < ns.length
  · simp_arith [h]
    exact .rfl
  · simp_arith [h]
    rw [cellI, List.getD_eq_getElem?_getD, List.getElem?_eq_none (by omega)]; exact .rfl
theorem w_whole {i : Int} {R : Bool → D → Prop} : wF g__law_whole [.int i] R ↔ R false (.bl true) := by
  unfold g__law_whole c__law_whole
  simp_arith
def numF (c : Int) : Int := if c.fmod 3 = 0 then (c.fdiv 3).fmod 7 - 3 else (c.fdiv 3).fmod (2 * 10 ^ 59 + 1) - 10 ^ 59
theorem w_number {c : Int} {R : Bool → D → Prop} : wF g__law_number [.int c] R ↔ R false (.int (numF c)) := by
  unfold g__law_number c__law_number numF
  by_cases h : c.fmod 3 = 0
  · simp_arith [h]; simp only [if_true]
  · simp_arith [h, mulOk_left]; simp only [if_false]
theorem numF_in (c : Int) : (numF c).natAbs < 2 ^ 197 := by
  unfold numF
  split
  · have a1 := Int.fmod_nonneg_of_pos (c.fdiv 3) (show (0 : Int) < 7 by decide)
    have a2 := Int.fmod_lt_of_pos (c.fdiv 3) (show (0 : Int) < 7 by decide)
    omega
  · have a1 := Int.fmod_nonneg_of_pos (c.fdiv 3) (show (0 : Int) < 2 * 10 ^ 59 + 1 by decide)
    have a2 := Int.fmod_lt_of_pos (c.fdiv 3) (show (0 : Int) < 2 * 10 ^ 59 + 1 by decide)
    omega
def rowF (ns : List Int) (s : Int) (m : Nat) : List Int := (List.range m).map fun (k : Nat) => numF (cellI ns (s + k))
theorem row_len {ns : List Int} {s : Int} {m : Nat} : (rowF ns s m).length = m := by simp [rowF]
theorem row_in {ns : List Int} {s : Int} {m : Nat} : ∀ x ∈ rowF ns s m, x.natAbs < 2 ^ 197 := by
  intro x hx
  obtain ⟨k, _, rfl⟩ := List.mem_map.mp hx
  exact numF_in _
theorem w_row {ns : List Int} {s m : Int} {R : Bool → D → Prop} (h0 : 0 ≤ s) (h1 : 0 ≤ m) (h2 : m ≤ 100) : wF g__law_row [.lst (ns.map D.int), .int s, .int m] R ↔ R false (.tup ((rowF ns s m.toNat).map D.int)) := by
  refine wF_of (wF_eq ?_)
  unfold g__law_row c__law_row
  simp_arith
  refine wC_rng (fun k => .int (numF (cellI ns (s + k)))) (szl (by omega)) (fun k hk => ?_) ?_
  · unfold e0__law_row
    simp_arith [w_number, w_cell, Int.zero_add]
  · simp_arith
    simp [rowF, Function.comp_def]
/-- each weight times its value, and the number -/
def dotF (l vs : List Int) : Nat → Int
  | 0 => l.getD vs.length 0
  | k + 1 => dotF l vs k + l.getD k 0 * vs.getD k 0
theorem getD_in {l : List Int} {B : Nat} (h : ∀ x ∈ l, x.natAbs < 2 ^ B) (k : Nat) : (l.getD k 0).natAbs < 2 ^ B := by
  by_cases hk : k < l.length
  · have : l.getD k 0 = l[k] := by simp [hk]
    rw [this]; exact h _ (List.getElem_mem hk)
  · rw [List.getD_eq_getElem?_getD, List.getElem?_eq_none (by omega)]
    exact Nat.two_pow_pos _
theorem w2_last {l : List Int} {n : Nat} {R : Bool → D → Prop} (h : l.length = n + 1) : w2 dIx (.tup (l.map D.int)) (.int (-1)) R ↔ R false (.int (l.getD n 0)) := by
  rw [w2_ixT, atI_last' (by intro e; have := congrArg List.length e; simp [h] at this)]
  simp [h]
  exact .rfl
theorem w_dot {l vs : List Int} {B C : Nat} {R : Bool → D → Prop} (hl : l.length = vs.length + 1) (hv : vs.length ≤ 100) (h1 : ∀ x ∈ l, x.natAbs < 2 ^ B) (h2 : ∀ x ∈ vs, x.natAbs < 2 ^ C) (hB : 0 < B) (hB2 : B ≤ 100000) (hC : 0 < C) (hC2 : C ≤ 100000) :
    wF g__law_dot [.tup (l.map D.int), .tup (vs.map D.int)] R ↔ R false (.int (dotF l vs vs.length)) := by
  refine wF_of (wF_eq ?_)
  unfold g__law_dot c__law_dot
  simp_arith [w2_last hl]
  refine wL_rng (fun k env => ∃ x, env = [some (false, .tup (l.map D.int)), some (false, .tup (vs.map D.int)), some (false, .int (dotF l vs k)), x]) ⟨_, rfl⟩ (fun k hk env h => ?_) (fun env h => ?_)
  · obtain ⟨x, rfl⟩ := h
    unfold b0__law_dot
    have hm : mulOk (l.getD k 0) (vs.getD k 0) = true := mulOk_pow (getD_in h1 k) (getD_in h2 k) hB (by omega) hC (by omega)
    simp_arith [Int.zero_add, Int.toNat_natCast, hm, List.cons.injEq, exists_eq', dotF]
  · obtain ⟨x, rfl⟩ := h
    simp_arith [Int.toNat_natCast]
theorem w_dotL {l vs : List Int} {B C : Nat} {R : Bool → D → Prop} (hl : l.length = vs.length + 1) (hv : vs.length ≤ 100) (h1 : ∀ x ∈ l, x.natAbs < 2 ^ B) (h2 : ∀ x ∈ vs, x.natAbs < 2 ^ C) (hB : 0 < B) (hB2 : B ≤ 100000) (hC : 0 < C) (hC2 : C ≤ 100000) :
    wF g__law_dot [.tup (l.map D.int), .lst (vs.map D.int)] R ↔ R false (.int (dotF l vs vs.length)) := by
  refine wF_of (wF_eq ?_)
  unfold g__law_dot c__law_dot
  simp_arith [w2_last hl]
  refine wL_rng (fun k env => ∃ x, env = [some (false, .tup (l.map D.int)), some (false, .lst (vs.map D.int)), some (false, .int (dotF l vs k)), x]) ⟨_, rfl⟩ (fun k hk env h => ?_) (fun env h => ?_)
  · obtain ⟨x, rfl⟩ := h
    unfold b0__law_dot
    have hm : mulOk (l.getD k 0) (vs.getD k 0) = true := mulOk_pow (getD_in h1 k) (getD_in h2 k) hB (by omega) hC (by omega)
    simp_arith [hm, dotF]
  · obtain ⟨x, rfl⟩ := h
    simp_arith
def encP (p : Int × Int) : D := .tup [.int p.1, .int p.2]
def farF (c : Int) : Int := if c.fmod 2 = 1 then (c.fdiv 2).fmod (10 ^ 58 + 1) else (c.fdiv 2).fmod 10
def pairF (ns : List Int) (s : Int) (k : Nat) : Int × Int := (numF (cellI ns (s + 2 * (k : Int))), numF (cellI ns (s + 2 * (k : Int))) + farF (cellI ns (s + 2 * (k : Int) + 1)))
def box0 (ns : List Int) (s : Int) (n : Nat) : List (Int × Int) := (List.range n).map (pairF ns s)
def boxF (ns : List Int) (s : Int) (n : Nat) : List (Int × Int) :=
  if (cellI ns 5).fmod 5 = 1 ∧ 0 < n then (box0 ns s n).set (((cellI ns 5).fdiv 5).fmod n).toNat (((box0 ns s n).getD (((cellI ns 5).fdiv 5).fmod n).toNat default).1, ((box0 ns s n).getD (((cellI ns 5).fdiv 5).fmod n).toNat default).1 - 1 - (cellI ns 6).fmod 9) else box0 ns s n
theorem box0_len {ns : List Int} {s : Int} {n : Nat} : (box0 ns s n).length = n := by simp [box0]
theorem box_len {ns : List Int} {s : Int} {n : Nat} : (boxF ns s n).length = n := by
  unfold boxF; split <;> simp [box0_len]
theorem setD_LM {α : Type} {f : α → D} {l : List α} {n : Int} {x : α} {K : D → Prop} (h0 : 0 ≤ n) (h1 : n < l.length) : setD (.int n) (.lst (l.map f)) (f x) K ↔ K (.lst ((l.set n.toNat x).map f)) := by
  rw [setD_L h0 (by simpa using h1), List.map_set]
theorem w_box {ns : List Int} {s : Int} {n : Nat} {R : Bool → D → Prop} (hs : 0 ≤ s) (hn : n ≤ 20) : wF g__law_box [.lst (ns.map D.int), .int s, .int n] R ↔ R true (.lst ((boxF ns s n).map encP)) := by
  refine wF_of (wF_eq ?_)
  unfold g__law_box c__law_box
  simp_arith
  refine wL_rng (fun k env => ∃ x4 x5 x6 x7, env = [some (false, .lst (ns.map D.int)), some (false, .int s), some (false, .int n), some (true, .lst ((box0 ns s k).map encP)), x4, x5, x6, x7, none]) ⟨_, _, _, _, rfl⟩ (fun k hk env h => ?_) (fun env h => ?_)
  · obtain ⟨x4, x5, x6, x7, rfl⟩ := h
    unfold b0__law_box
    have hstep : (box0 ns s k).map encP ++ [D.tup [D.int (numF (cellI ns (s + 2 * (k : Int)))), D.int (numF (cellI ns (s + 2 * (k : Int))) + farF (cellI ns (s + 2 * (k : Int) + 1)))]] = (box0 ns s (k + 1)).map encP := by
      simp [box0, List.range_succ, encP, pairF]
    by_cases h : (cellI ns (s + 2 * (k : Int) + 1)).fmod 2 = 1
    · have hf : farF (cellI ns (s + 2 * (k : Int) + 1)) = ((cellI ns (s + 2 * (k : Int) + 1)).fdiv 2).fmod (10 ^ 58 + 1) := by rw [farF, if_pos h]
      rw [hf] at hstep
      simp_arith [mulOk_left, w_cell, w_number, h, hstep, box0_len]
    · have hf : farF (cellI ns (s + 2 * (k : Int) + 1)) = ((cellI ns (s + 2 * (k : Int) + 1)).fdiv 2).fmod 10 := by rw [farF, if_neg h]
      rw [hf] at hstep
      simp_arith [mulOk_left, w_cell, w_number, h, hstep, box0_len]
  · obtain ⟨x4, x5, x6, x7, rfl⟩ := h
    by_cases h5 : (cellI ns 5).fmod 5 = 1
    · by_cases h6 : 0 < n
      · have h6' : (0 : Int) < (n : Int) := by omega
        have m1 := Int.fmod_nonneg_of_pos ((cellI ns 5).fdiv 5) h6'
        have m2 := Int.fmod_lt_of_pos ((cellI ns 5).fdiv 5) h6'
        have hm : modOk ((cellI ns 5).fdiv 5) (n : Int) = true := modOk_of (by omega)
        unfold boxF
        rw [if_pos ⟨h5, h6⟩]
        generalize hA : ((cellI ns 5).fdiv 5).fmod (n : Int) = a at m1 m2
        have hl := box0_len (ns := ns) (s := s) (n := n)
        have q1 : ∀ R, w2 dIx (.lst ((box0 ns s n).map encP)) (.int a) R ↔ R false (encP ((box0 ns s n).getD a.toNat default)) := fun R => w2_ixLM m1 (by omega)
        have q2 : ∀ x K, setD (.int a) (.lst ((box0 ns s n).map encP)) (encP x) K ↔ K (.lst (((box0 ns s n).set a.toNat x).map encP)) := fun x K => setD_LM m1 (by omega)
        have q3 : ∀ x y K, setD (.int a) (.lst ((box0 ns s n).map encP)) (.tup [.int x, .int y]) K ↔ K (.lst (((box0 ns s n).set a.toNat (x, y)).map encP)) := fun x y K => q2 (x, y) K
        generalize hp : (box0 ns s n).getD a.toNat default = p at q1
        have hp' : encP p = .tup [.int p.1, .int p.2] := rfl
        rw [hp'] at q1
        simp_arith [w_cell, h5, h6', hm, hA, q1, q3]
      · have h6' : ¬ (0 : Int) < (n : Int) := by omega
        unfold boxF
        rw [if_neg (by rintro ⟨_, z⟩; exact h6 z)]
        simp_arith [w_cell, h5, h6']
    · unfold boxF
      rw [if_neg (by rintro ⟨z, _⟩; exact h5 z)]
      simp_arith [w_cell, h5]
theorem far_in (c : Int) : 0 ≤ farF c ∧ farF c ≤ 10 ^ 58 := by
  have a1 := Int.fmod_nonneg_of_pos (c.fdiv 2) (show (0 : Int) < 10 ^ 58 + 1 by decide)
  have a2 := Int.fmod_lt_of_pos (c.fdiv 2) (show (0 : Int) < 10 ^ 58 + 1 by decide)
  have b1 := Int.fmod_nonneg_of_pos (c.fdiv 2) (show (0 : Int) < 10 by decide)
  have b2 := Int.fmod_lt_of_pos (c.fdiv 2) (show (0 : Int) < 10 by decide)
  unfold farF
  split <;> omega
theorem box0_in {ns : List Int} {s : Int} {n : Nat} : ∀ p ∈ box0 ns s n, p.1.natAbs < 2 ^ 197 ∧ p.2.natAbs < 2 ^ 198 := by
  intro p hp
  obtain ⟨k, _, rfl⟩ := List.mem_map.mp hp
  have a := numF_in (cellI ns (s + 2 * (k : Int)))
  have b := far_in (cellI ns (s + 2 * (k : Int) + 1))
  unfold pairF
  refine ⟨a, ?_⟩
  show (numF (cellI ns (s + 2 * (k : Int))) + farF (cellI ns (s + 2 * (k : Int) + 1))).natAbs < 2 ^ 198
  omega
theorem box_in {ns : List Int} {s : Int} {n : Nat} : ∀ p ∈ boxF ns s n, p.1.natAbs < 2 ^ 198 ∧ p.2.natAbs < 2 ^ 198 := by
  intro p hp
  unfold boxF at hp
  split at hp
  · rename_i h
    rcases List.mem_or_eq_of_mem_set hp with h2 | h2
    · have := box0_in p h2; omega
    · have hl := box0_len (ns := ns) (s := s) (n := n)
      have m1 := Int.fmod_nonneg_of_pos ((cellI ns 5).fdiv 5) (show (0 : Int) < (n : Int) by omega)
      have m2 := Int.fmod_lt_of_pos ((cellI ns 5).fdiv 5) (show (0 : Int) < (n : Int) by omega)
      generalize ((cellI ns 5).fdiv 5).fmod (n : Int) = a at m1 m2 h2
      have hk : a.toNat < (box0 ns s n).length := by omega
      have e : (box0 ns s n).getD a.toNat default = (box0 ns s n)[a.toNat] := by simp [hk]
      have := box0_in _ (List.getElem_mem hk)
      rw [e] at h2
      have c1 := Int.fmod_nonneg_of_pos (cellI ns 6) (show (0 : Int) < 9 by decide)
      have c2 := Int.fmod_lt_of_pos (cellI ns 6) (show (0 : Int) < 9 by decide)
      rw [h2]
      refine ⟨by show ((box0 ns s n)[a.toNat].1).natAbs < 2 ^ 198; omega, ?_⟩
      show ((box0 ns s n)[a.toNat].1 - 1 - (cellI ns 6).fmod 9).natAbs < 2 ^ 198
      omega
  · have := box0_in p hp; omega
/-- the corner's values -/
def cornF (up : Bool) (l : List Int) (b : List (Int × Int)) (k : Nat) : Int := if decide (0 < l.getD k 0) = up then (b.getD k default).2 else (b.getD k default).1
def corner (up : Bool) (l : List Int) (b : List (Int × Int)) (n : Nat) : List Int := (List.range n).map (cornF up l b)
theorem w_corner {up : Bool} {l : List Int} {b : List (Int × Int)} {R : Bool → D → Prop} (hl : l.length = b.length + 1) (hb : b.length ≤ 100) : wF g__law_corner [.tup (l.map D.int), .lst (b.map encP), .bl up] R ↔ R true (.lst ((corner up l b b.length).map D.int)) := by
  refine wF_of (wF_eq ?_)
  unfold g__law_corner c__law_corner
  simp_arith
  refine wL_rng (fun k env => ∃ x, env = [some (false, .tup (l.map D.int)), some (false, .lst (b.map encP)), some (false, .bl up), some (true, .lst ((corner up l b k).map D.int)), x]) ⟨_, rfl⟩ (fun k hk env h => ?_) (fun env h => ?_)
  · obtain ⟨x, rfl⟩ := h
    unfold b0__law_corner
    have q1 : ∀ R, w2 dIx (.lst (b.map encP)) (.int (k : Int)) R ↔ R false (.tup [.int (b.getD k default).1, .int (b.getD k default).2]) := fun R => by
      rw [w2_ixLM (by omega) (by omega), Int.toNat_natCast]; exact .rfl
    have hstep : corner up l b k ++ [cornF up l b k] = corner up l b (k + 1) := by simp [corner, List.range_succ]
    have hlen : (corner up l b k).length = k := by simp [corner]
    by_cases h : decide (0 < l.getD k 0) = up
    · have e : cornF up l b k = (b.getD k default).2 := by rw [cornF, if_pos h]
      rw [e] at hstep
      simp_arith [q1, h, hlen, hstep]
    · have e : cornF up l b k = (b.getD k default).1 := by rw [cornF, if_neg h]
      rw [e] at hstep
      simp_arith [q1, h, hlen, hstep]
  · obtain ⟨x, rfl⟩ := h
    simp_arith
theorem corner_len {up : Bool} {l : List Int} {b : List (Int × Int)} {n : Nat} : (corner up l b n).length = n := by simp [corner]
theorem corner_get {up : Bool} {l : List Int} {b : List (Int × Int)} {n k : Nat} (h : k < n) : (corner up l b n).getD k 0 = cornF up l b k := by simp [corner, h]
theorem corner_in {up : Bool} {l : List Int} {b : List (Int × Int)} (hb : ∀ p ∈ b, p.1.natAbs < 2 ^ 198 ∧ p.2.natAbs < 2 ^ 198) {n : Nat} (hn : n ≤ b.length) : ∀ x ∈ corner up l b n, x.natAbs < 2 ^ 198 := by
  intro x hx
  obtain ⟨k, hk, rfl⟩ := List.mem_map.mp hx
  have hk : k < n := List.mem_range.mp hk
  have hk' : k < b.length := by omega
  have e : b.getD k default = b[k] := by simp [hk']
  have := hb _ (List.getElem_mem hk')
  unfold cornF
  rw [e]
  split
  · exact this.2
  · exact this.1
def corZ (up : Bool) (p : Int × Int × Int) : Int := if decide (0 < p.1) = up then p.2.2 else p.2.1
theorem corZ_sum {up : Bool} {l : List Int} {b : List (Int × Int)} {n : Nat} (hl : l.length = n + 1) (hb : b.length = n) : ∀ k, k ≤ n → l.getD n 0 + (((l.dropLast.zip b).take k).map fun p => p.1 * corZ up p).sum = dotF l (corner up l b n) k
  | 0, _ => by simp [dotF, corner_len]
  | k + 1, hk => by
    have hz : k < (l.dropLast.zip b).length := by simp [hl, hb]; omega
    have e : (l.dropLast.zip b).take (k + 1) = (l.dropLast.zip b).take k ++ [(l.dropLast.zip b)[k]] := by rw [List.take_succ_eq_append_getElem hz]
    have i := corZ_sum (up := up) hl hb k (by omega)
    rw [e, List.map_append, List.sum_append, ← Int.add_assoc, i, dotF, corner_get (by omega)]
    have h1 : k < l.length := by omega
    have h2 : k < b.length := by omega
    simp [corZ, cornF, h1, h2]
theorem w_least {l : List Int} {b : List (Int × Int)} {R : Bool → D → Prop} (hl : l.length = b.length + 1) (hn : b.length ≤ 100) (h1 : ∀ x ∈ l, x.natAbs < 2 ^ 197) (hb : ∀ p ∈ b, p.1.natAbs < 2 ^ 198 ∧ p.2.natAbs < 2 ^ 198) :
    wF g_least [.tup (l.map D.int), .lst (b.map encP)] R ↔ R false (.int (dotF l (corner false l b b.length) b.length)) := by
  refine wF_of (wF_eq ?_)
  have hs := corZ_sum (up := false) hl rfl b.length (Nat.le_refl _)
  have hz : (l.dropLast.zip b).length = b.length := by simp [hl]
  rw [List.take_of_length_le (by omega)] at hs
  unfold g_least c_least
  simp_arith [lastI hl, dl_map, zipD_map]
  refine wC_map (f := fun p => .int (p.1 * corZ false p)) (szl (by omega)) (fun p hp => ?_) ?_
  · unfold e0_least
    have m1 := h1 _ (List.dropLast_subset _ (List.of_mem_zip hp).1)
    have m2 := hb _ (List.of_mem_zip hp).2
    have hm : mulOk p.1 (corZ false p) = true := mulOk_pow m1 (show (corZ false p).natAbs < 2 ^ 198 by unfold corZ; split <;> omega) (by omega) (by omega) (by omega) (by omega)
    by_cases h : 0 < p.1
    · have e : corZ false p = p.2.1 := by rw [corZ, if_neg (by simpa using h)]
      rw [e] at hm ⊢
      simp_arith [encP, h, hm]
    · have e : corZ false p = p.2.2 := by rw [corZ, if_pos (by simpa using h)]
      rw [e] at hm ⊢
      simp_arith [encP, h, hm]
  · rw [show ((l.dropLast.zip b).map fun p => D.int (p.1 * corZ false p)) = ((l.dropLast.zip b).map fun p => p.1 * corZ false p).map D.int by simp]
    simp_arith [hs]
theorem w_most {l : List Int} {b : List (Int × Int)} {R : Bool → D → Prop} (hl : l.length = b.length + 1) (hn : b.length ≤ 100) (h1 : ∀ x ∈ l, x.natAbs < 2 ^ 197) (hb : ∀ p ∈ b, p.1.natAbs < 2 ^ 198 ∧ p.2.natAbs < 2 ^ 198) :
    wF g_most [.tup (l.map D.int), .lst (b.map encP)] R ↔ R false (.int (dotF l (corner true l b b.length) b.length)) := by
  refine wF_of (wF_eq ?_)
  have hs := corZ_sum (up := true) hl rfl b.length (Nat.le_refl _)
  have hz : (l.dropLast.zip b).length = b.length := by simp [hl]
  rw [List.take_of_length_le (by omega)] at hs
  unfold g_most c_most
  simp_arith [lastI hl, dl_map, zipD_map]
  refine wC_map (f := fun p => .int (p.1 * corZ true p)) (szl (by omega)) (fun p hp => ?_) ?_
  · unfold e0_most
    have m1 := h1 _ (List.dropLast_subset _ (List.of_mem_zip hp).1)
    have m2 := hb _ (List.of_mem_zip hp).2
    have hm : mulOk p.1 (corZ true p) = true := mulOk_pow m1 (show (corZ true p).natAbs < 2 ^ 198 by unfold corZ; split <;> omega) (by omega) (by omega) (by omega) (by omega)
    by_cases h : 0 < p.1
    · have e : corZ true p = p.2.2 := by rw [corZ, if_pos (by simpa using h)]
      rw [e] at hm ⊢
      simp_arith [encP, h, hm]
    · have e : corZ true p = p.2.1 := by rw [corZ, if_neg (by simpa using h)]
      rw [e] at hm ⊢
      simp_arith [encP, h, hm]
  · rw [show ((l.dropLast.zip b).map fun p => D.int (p.1 * corZ true p)) = ((l.dropLast.zip b).map fun p => p.1 * corZ true p).map D.int by simp]
    simp_arith [hs]
/-- the turn lies between the corners -/
theorem between {l ts : List Int} {b : List (Int × Int)} {n : Nat} (hb : b.length = n) (hl : ts.length = n) (h : ∀ k, k < n → (b.getD k default).1 ≤ ts.getD k 0 ∧ ts.getD k 0 ≤ (b.getD k default).2) :
    ∀ k, k ≤ n → dotF l (corner false l b n) k ≤ dotF l ts k ∧ dotF l ts k ≤ dotF l (corner true l b n) k
  | 0, _ => by rw [dotF, dotF, dotF, corner_len, corner_len, hl]; omega
  | k + 1, hk => by
    obtain ⟨i1, i2⟩ := between (l := l) hb hl h k (by omega)
    obtain ⟨h1, h2⟩ := h k (by omega)
    rw [dotF, dotF, dotF, corner_get (by omega), corner_get (by omega)]
    unfold cornF
    by_cases hp : 0 < l.getD k 0
    · have a := Int.mul_le_mul_of_nonneg_left h1 (show 0 ≤ l.getD k 0 by omega)
      have c := Int.mul_le_mul_of_nonneg_left h2 (show 0 ≤ l.getD k 0 by omega)
      rw [if_neg (by simpa using hp), if_pos (by simpa using hp)]
      omega
    · have a := Int.mul_le_mul_of_nonpos_left (show l.getD k 0 ≤ 0 by omega) h1
      have c := Int.mul_le_mul_of_nonpos_left (show l.getD k 0 ≤ 0 by omega) h2
      rw [if_pos (by simpa using hp), if_neg (by simpa using hp)]
      omega
def turnF (ns : List Int) (b : List (Int × Int)) (n : Nat) (j : Nat) : Int := (b.getD j default).1 + (cellI ns (3 * (n : Int) + 1 - (j : Int)) * 48271 + (j : Int) * (j : Int)).fmod ((b.getD j default).2 - (b.getD j default).1 + 1)
def turnL (ns l : List Int) (b : List (Int × Int)) (n : Nat) (j : Nat) : List Int := (List.range j).map (turnF ns b n)
theorem turn_len {ns l : List Int} {b : List (Int × Int)} {n j : Nat} : (turnL ns l b n j).length = j := by simp [turnL]
theorem turn_get {ns l : List Int} {b : List (Int × Int)} {n j i : Nat} (h : i < j) : (turnL ns l b n j).getD i 0 = turnF ns b n i := by simp [turnL, h]
theorem e_law {ns : List Int} (hn : ns.length ≤ 63) : g_law [.lst (ns.map D.int)] = some (false, .bl true) := by
  have a1 := Int.fmod_nonneg_of_pos ((cellI ns 2).fdiv 3) (show (0 : Int) < 4 by decide)
  have a2 := Int.fmod_lt_of_pos ((cellI ns 2).fdiv 3) (show (0 : Int) < 4 by decide)
  have a3 : 0 ≤ (ns.length : Int).fdiv 3 := by rw [Int.fdiv_eq_ediv_of_nonneg _ (by decide)]; omega
  apply wF_eq
  unfold g_law c_law
  by_cases h : ((cellI ns 1).fdiv 3).fmod 4 = 1
  case' pos =>
    simp_arith [w_cell, h]
    generalize ((cellI ns 2).fdiv 3).fmod 4 = sz at a1 a2
    replace a2 : sz ≤ 20 := by omega
    clear h a3
    revert a2 a1 sz
  case' neg =>
    simp_arith [w_cell, h]
    generalize hz : (if (20 : Int) < (ns.length : Int).fdiv 3 then (20 : Int) else (ns.length : Int).fdiv 3) = sz
    have b1 : 0 ≤ sz := by rw [← hz]; split <;> omega
    have b2 : sz ≤ 20 := by rw [← hz]; split <;> omega
    clear hz h a3 a1 a2
    revert b2 b1 sz
  all_goals
    intro sz a1 a2
    obtain ⟨k, rfl⟩ := Int.eq_ofNat_of_zero_le a1
    have e1 : ((k : Int) + 1).toNat = k + 1 := by omega
    simp_arith [w_row, w_cell, w_box, e1]
    have l1 := row_len (ns := ns) (s := 0) (m := k + 1)
    have b1 := row_in (ns := ns) (s := 0) (m := k + 1)
    have l2 := box_len (ns := ns) (s := (k : Int) + 1) (n := k)
    have b2 := box_in (ns := ns) (s := (k : Int) + 1) (n := k)
    generalize rowF ns 0 (k + 1) = l at l1 b1
    generalize boxF ns ((k : Int) + 1) k = b at l2 b2
    have f1 : ∀ R, wF g_least [.tup (l.map D.int), .lst (b.map encP)] R ↔ R false (.int (dotF l (corner false l b k) k)) := fun R => by
      rw [w_least (by omega) (by omega) b1 b2, l2]
    have f2 : ∀ R, wF g_most [.tup (l.map D.int), .lst (b.map encP)] R ↔ R false (.int (dotF l (corner true l b k) k)) := fun R => by
      rw [w_most (by omega) (by omega) b1 b2, l2]
    have f3 : ∀ up R, wF g__law_corner [.tup (l.map D.int), .lst (b.map encP), .bl up] R ↔ R true (.lst ((corner up l b k).map D.int)) := fun up R => by
      rw [w_corner (by omega) (by omega), l2]
    have f4 : ∀ up R, wF g__law_dot [.tup (l.map D.int), .lst ((corner up l b k).map D.int)] R ↔ R false (.int (dotF l (corner up l b k) k)) := fun up R => by
      rw [w_dotL (B := 197) (C := 198) (by rw [corner_len]; omega) (by rw [corner_len]; omega) b1 (corner_in b2 (by omega)) (by omega) (by omega) (by omega) (by omega), corner_len]
    have hok : okD 5 (.lst (b.map encP)) = true := by
      rw [okD]; simp only [Bool.and_eq_true]
      exact ⟨by decide, okDs_map fun x _ => rfl⟩
    have f5 : ∀ R, w2 dNe (.lst (b.map encP)) (.lst (b.map encP)) R ↔ R false (.bl false) := fun R => w2_neSame hok (by omega)
    simp_arith [f1, f2, f3, f4, f5, w_whole]
    have nb : ∀ j, j < k → (b.getD j default).1.natAbs < 2 ^ 198 ∧ (b.getD j default).2.natAbs < 2 ^ 198 := fun j hj => by
      have hj' : j < b.length := by omega
      have e : b.getD j default = b[j] := by simp [hj']
      rw [e]; exact b2 _ (List.getElem_mem hj')
    refine wL_rng (fun j env => (∀ i, i < j → (b.getD i default).1 ≤ (turnL ns l b k j).getD i 0 ∧ (turnL ns l b k j).getD i 0 ≤ (b.getD i default).2) ∧ ∃ x4 x8 x10, env = [some (false, .lst (ns.map D.int)), some (false, .int k), some (false, .tup (l.map D.int)), some (false, .lst (b.map encP)), x4, some (false, .int (dotF l (corner false l b k) k)), some (false, .int (dotF l (corner true l b k) k)), some (true, .lst ((turnL ns l b k j).map D.int)), x8, none, x10]) ⟨fun i hi => absurd hi (by omega), _, _, _, rfl⟩ (fun j hj env h => ?_) (fun env h => ?_)
    · obtain ⟨hI, x4, x8, x10, rfl⟩ := h
      unfold b0_law
      have q1 : ∀ R, w2 dIx (.lst (b.map encP)) (.int (j : Int)) R ↔ R false (.tup [.int (b.getD j default).1, .int (b.getD j default).2]) := fun R => by
        rw [w2_ixLM (by omega) (by omega), Int.toNat_natCast]; exact .rfl
      by_cases hlt : (b.getD j default).2 < (b.getD j default).1
      · simp_arith [q1, hlt]
      · have hmo : modOk (cellI ns (3 * (k : Int) + 1 - (j : Int)) * 48271 + (j : Int) * (j : Int)) ((b.getD j default).2 - (b.getD j default).1 + 1) = true := modOk_of (by omega)
        have r1 := Int.fmod_nonneg_of_pos (cellI ns (3 * (k : Int) + 1 - (j : Int)) * 48271 + (j : Int) * (j : Int)) (show 0 < (b.getD j default).2 - (b.getD j default).1 + 1 by omega)
        have r2 := Int.fmod_lt_of_pos (cellI ns (3 * (k : Int) + 1 - (j : Int)) * 48271 + (j : Int) * (j : Int)) (show 0 < (b.getD j default).2 - (b.getD j default).1 + 1 by omega)
        have hstep : turnL ns l b k j ++ [(b.getD j default).1 + (cellI ns (3 * (k : Int) + 1 - (j : Int)) * 48271 + (j : Int) * (j : Int)).fmod ((b.getD j default).2 - (b.getD j default).1 + 1)] = turnL ns l b k (j + 1) := by simp [turnL, List.range_succ, turnF]
        have hlen : (turnL ns l b k j).length = j := turn_len
        simp_arith [q1, hlt, w_cell, mulOk_left, mulOk_right, hmo, hlen, hstep]
        refine fun i hi => ?_
        by_cases hij : i = j
        · subst hij
          rw [turn_get (by omega), turnF]
          omega
        · have := hI i (by omega)
          rw [turn_get (by omega)] at this ⊢
          exact this
    · obtain ⟨hI, x4, x8, x10, rfl⟩ := h
      have hin : ∀ x ∈ turnL ns l b k k, x.natAbs < 2 ^ 199 := by
        intro x hx
        obtain ⟨i, hi, rfl⟩ := List.mem_map.mp hx
        have hi : i < k := List.mem_range.mp hi
        have h1 := hI i hi
        rw [turn_get hi] at h1
        have h2 := nb i hi
        omega
      have f6 : ∀ R, wF g__law_dot [.tup (l.map D.int), .lst ((turnL ns l b k k).map D.int)] R ↔ R false (.int (dotF l (turnL ns l b k k) k)) := fun R => by
        rw [w_dotL (B := 197) (C := 199) (by rw [turn_len]; omega) (by rw [turn_len]; omega) b1 hin (by omega) (by omega) (by omega) (by omega), turn_len]
      obtain ⟨c1, c2⟩ := between (l := l) l2 turn_len hI k (Nat.le_refl _)
      simp_arith [f6, c1, c2]
end K05

open PySem PySem.W PyProof.Rows
set_option maxRecDepth 100000 in
set_option maxHeartbeats 0 in
theorem PySem.Challenge.cw_loopturn_k05_least_and_most_holds : PySem.Challenge.rw_loopturn_k05_least_and_most.Holds := by
  w_on; o_law; k_head; (case hw => w_witness2)
  k_fill
  refine L2.EV.walk_ev (l := PySem.Challenge.rw_loopturn_k05_least_and_most) (k := 3) (x := "_law_script") (g := K05.g_law) rfl rfl ⟨rfl, by decide, by decide⟩ (fun w h Y => PySem.W.kIn_of Y) ?F (fun ns hl => ⟨_, K05.e_law hl⟩)
  case F =>
    intro w mg fa h KX G hmg
    refine' K05.all_mk KX G hmg ?a0 ?l0 ?c0 ?k0 ?a1 ?l1 ?c1 ?k1 ?a2 ?l2 ?c2 ?k2 ?a3 ?l3 ?c3 ?k3 ?a4 ?l4 ?c4 ?k4 ?a5 ?l5 ?c5 ?k5 ?a6 ?l6 ?c6 ?k6 ?a7 ?l7 ?c7 ?k7 ?a8 ?l8 ?c8 ?k8 ?a9 ?l9 ?c9 ?k9 ?z_bool ?z_int ?z_isinstance ?z_len ?z_list ?z_min ?z_range ?z_sum ?z_tuple ?z_zip
    (case a0 => k_is)
    (case l0 => k_is)
    (case c0 => k_is)
    (case k0 => k_is)
    (case a1 => k_is)
    (case l1 => k_is)
    (case c1 => k_is)
    (case k1 => k_is)
    (case a2 => k_is)
    (case l2 => k_is)
    (case c2 => k_is)
    (case k2 => k_is)
    (case a3 => k_is)
    (case l3 => k_is)
    (case c3 => k_is)
    (case k3 => k_is)
    (case a4 => k_is)
    (case l4 => k_is)
    (case c4 => k_is)
    (case k4 => k_is)
    (case a5 => k_is)
    (case l5 => k_is)
    (case c5 => k_is)
    (case k5 => k_is)
    (case a6 => k_is)
    (case l6 => k_is)
    (case c6 => k_is)
    (case k6 => k_is)
    (case a7 => k_is)
    (case l7 => k_is)
    (case c7 => k_is)
    (case k7 => k_is)
    (case a8 => k_is)
    (case l8 => k_is)
    (case c8 => k_is)
    (case k8 => k_is)
    (case a9 => k_is)
    (case l9 => k_is)
    (case c9 => k_is)
    (case k9 => k_is)
    (case z_bool => k_is)
    (case z_int => k_is)
    (case z_isinstance => k_is)
    (case z_len => k_is)
    (case z_list => k_is)
    (case z_min => k_is)
    (case z_range => k_is)
    (case z_sum => k_is)
    (case z_tuple => k_is)
    (case z_zip => k_is)
