import PyProof.Rows.All
import Wide.All
import OpenK.AllK
import Wide.FinOn
import PyProof.EqAt
import PyProof.EqKinds
import PyProof.TupleCall
import Open.SpecLaws
import KE.OsHead
import KE.OsGo
import KE.BitLaws
import PySem.Challenge.RW_givenback_s01_answers
section
set_option Elab.async false
set_option linter.all false
set_option maxRecDepth 100000
/-! THE HAND LAYER, for ints, bools, texts, own classes, lists, tuples, dicts, comprehensions, walks over dicts, enumerate, zip, reversed, texts, calls, loops. Paste it whole ahead of your own text; what your proof does not reach may be deleted. -/
namespace L2
open PySem PySem.Spec PyProof.Rows

/-- a key: an int or a str -/
abbrev Key := Sum Int Str
def keyIs : Key → Value → Bool
  | .inl k, v => Value.isInt k v
  | .inr x, v => Value.isStrOf x v
def keyH (w : World) : Key → Int
  | .inl k => hashInt k
  | .inr x => hashStr w x
theorem keyIs_shape : ∀ {k : Key} {v : Value}, keyIs k v = true → (∃ i t, k = Sum.inl i ∧ v = Value.int i t) ∨ (∃ x t, k = Sum.inr x ∧ v = Value.str x t)
  | .inl i, v, h => by
    obtain ⟨t, e⟩ := Value.isInt_shape (k := i) (v := v) h
    exact .inl ⟨i, t, rfl, e⟩
  | .inr x, v, h => by
    obtain ⟨t, e⟩ := Value.isStrOf_shape (x := x) (v := v) h
    exact .inr ⟨x, t, rfl, e⟩
theorem keyIs_int (i : Int) (t : Tok) : keyIs (.inl i) (.int i t) = true := by simp [keyIs, Value.isInt]
theorem keyIs_str (x : Str) (t : Tok) : keyIs (.inr x) (.str x t) = true := by simp [keyIs, Value.isStrOf]
theorem key_ll (a b : Int) : decide ((Sum.inl a : Key) = Sum.inl b) = (a == b) := by
  by_cases e : a = b
  · subst e; simp
  · have h : ¬ (Sum.inl a : Key) = Sum.inl b := fun q => e (Sum.inl.inj q)
    rw [decide_eq_false h]
    exact (beq_eq_false_iff_ne.mpr e).symm
theorem key_rr (a b : Str) : decide ((Sum.inr a : Key) = Sum.inr b) = decide (a = b) := by
  by_cases e : a = b
  · subst e; simp
  · have h : ¬ (Sum.inr a : Key) = Sum.inr b := fun q => e (Sum.inr.inj q)
    rw [decide_eq_false h, decide_eq_false e]
theorem key_lr (a : Int) (b : Str) : decide ((Sum.inl a : Key) = Sum.inr b) = false := decide_eq_false (fun q => nomatch q)
theorem key_rl (a : Str) (b : Int) : decide ((Sum.inr a : Key) = Sum.inl b) = false := decide_eq_false (fun q => nomatch q)

def mixKind (prog : Program) (w : World) : PySem.KeyKind prog w Key where
  is := keyIs
  hash := keyH w
  inj := fun v a b ha hb => by
    rcases keyIs_shape ha with ⟨i, t, rfl, rfl⟩ | ⟨x, t, rfl, rfl⟩
    · rcases keyIs_shape hb with ⟨j, u, rfl, e⟩ | ⟨y, u, rfl, e⟩
      · injection e with e1 _; rw [e1]
      · exact nomatch e
    · rcases keyIs_shape hb with ⟨j, u, rfl, e⟩ | ⟨y, u, rfl, e⟩
      · exact nomatch e
      · injection e with e1 _; rw [e1]
  byValue := fun k v h => by
    rcases keyIs_shape h with ⟨i, t, rfl, rfl⟩ | ⟨x, t, rfl, rfl⟩ <;> rfl
  pyHash := fun hv h => by
    rcases keyIs_shape hv with ⟨i, t, rfl, rfl⟩ | ⟨x, t, rfl, rfl⟩
    · exact wpAny_pyHash_int h
    · exact wpAny_pyHash_str h
  eqBool := fun hu hv h => by
    rcases keyIs_shape hu with ⟨i, t, rfl, rfl⟩ | ⟨x, t, rfl, rfl⟩
    · rcases keyIs_shape hv with ⟨j, u, rfl, rfl⟩ | ⟨y, u, rfl, rfl⟩
      · rw [key_ll] at h; exact wpAny_eqBool_int h
      · rw [key_lr] at h; exact SeqAt.EqAt.int_str i t y u _ _ _ _ h
    · rcases keyIs_shape hv with ⟨j, u, rfl, rfl⟩ | ⟨y, u, rfl, rfl⟩
      · rw [key_rl] at h; exact SeqAt.EqAt.str_int x t j u _ _ _ _ h
      · rw [key_rr] at h; exact wpAny_eqBool_str h
  «strs» := fun k x t v h => by
    rcases keyIs_shape h with ⟨i, u, rfl, e⟩ | ⟨y, u, rfl, e⟩
    · exact nomatch e
    · injection e with e1 _
      subst e1
      cases v <;> rfl

theorem mixKind_is (prog : Program) (w : World) (k : Key) (v : Value) : (mixKind prog w).is k v = keyIs k v := rfl
theorem mixKind_int (prog : Program) (w : World) (i : Int) (t : Tok) : (mixKind prog w).is (.inl i) (.int i t) = true := keyIs_int i t
theorem mixKind_str (prog : Program) (w : World) (x : Str) (t : Tok) : (mixKind prog w).is (.inr x) (.str x t) = true := keyIs_str x t
end L2

namespace L2
open PySem PySem.Spec PyProof.Rows

/-- a value, without the heap -/
inductive V where
  | non | bl (b : Bool) | int (i : Int) | str (x : Str) | byt (b : Array UInt8) | flt (b : UInt64) | ref (a : Addr) | ty (n : String)
  deriving DecidableEq

def RelV : V → Value → Prop
  | .non, u => u = Value.none
  | .bl b, u => u = Value.bool b
  | .int i, u => ∃ t, u = Value.int i t
  | .str x, u => ∃ t, u = Value.str x t
  | .byt b, u => ∃ t, u = Value.bytes b t
  | .flt b, u => ∃ t, u = Value.float b t
  | .ref a, u => u = Value.ref a
  | .ty n, u => u = Value.type n

abbrev Vals : List V → List Value → Prop := Paired RelV
theorem Vals.length {xs : List V} {us : List Value} (r : Vals xs us) : xs.length = us.length := Paired.length r
theorem Vals.get : ∀ {xs : List V} {us : List Value} {i : Nat} {x : V}, Vals xs us → xs[i]? = some x → ∃ u, us[i]? = some u ∧ RelV x u
  | _, _, _, _, .nil, e => by simp at e
  | _, _, 0, _, .cons r _, e => by simp at e; subst e; exact ⟨_, rfl, r⟩
  | _, _, i + 1, x, .cons _ t, e => by
    obtain ⟨u, h1, h2⟩ := Vals.get (i := i) (x := x) t (by simpa using e)
    exact ⟨u, by simpa using h1, h2⟩
theorem Vals.set {x : V} {u : Value} (r : RelV x u) : ∀ {xs : List V} {us : List Value} (i : Nat), Vals xs us → Vals (xs.set i x) (us.set i u)
  | _, _, _, .nil => .nil
  | _, _, 0, .cons _ t => .cons r t
  | _, _, i + 1, .cons q t => .cons q (Vals.set r i t)
theorem Vals.append : ∀ {xs ys : List V} {us ws : List Value}, Vals xs us → Vals ys ws → Vals (xs ++ ys) (us ++ ws)
  | _, _, _, _, .nil, s => s
  | _, _, _, _, .cons r t, s => .cons r (Vals.append t s)
theorem Vals.take : ∀ {xs : List V} {us : List Value} (n : Nat), Vals xs us → Vals (xs.take n) (us.take n)
  | _, _, 0, _ => .nil
  | _, _, _ + 1, .nil => .nil
  | _, _, n + 1, .cons r t => .cons r (Vals.take n t)
theorem Vals.drop : ∀ {xs : List V} {us : List Value} (n : Nat), Vals xs us → Vals (xs.drop n) (us.drop n)
  | _, _, 0, r => r
  | _, _, _ + 1, .nil => .nil
  | _, _, n + 1, .cons _ t => Vals.drop n t
theorem Vals.none_of : ∀ {xs : List V} {us : List Value} {i : Nat}, Vals xs us → xs[i]? = none → us[i]? = none := fun {xs us i} r e => by
  have h1 := r.length
  have h2 : xs.length ≤ i := List.getElem?_eq_none_iff.mp e
  exact List.getElem?_eq_none_iff.mpr (by omega)

def RelO : Option V → Option Value → Prop
  | some v, some u => RelV v u
  | none, none => True
  | _, _ => False
def KV {κ : Type} : List (κ × V) → List (κ × Value) → Prop := Paired fun (p : κ × V) (q : κ × Value) => p.1 = q.1 ∧ RelV p.2 q.2

/-- a key of a dict (00_mix): an int or a text -/
def kV : Key → V
  | .inl i => .int i
  | .inr x => .str x

/-- what stands at a tracked address -/
inductive HO where
  /-- a list -/
  | lst (xs : List V)
  /-- a tuple (never changes) -/
  | tup (xs : List V)
  /-- a dict whose keys are ints and texts; one whose keys are tuples of ints and texts (the empty one is both) -/
  | dK (kvs : List (Key × V)) | dT (kvs : List (List Key × V))
  /-- a set of ints: its members, its size -/
  | set (S : Int → Bool) (n : Nat)
  /-- an instance of the class at C, its dict at dx, its attributes -/
  | ins (C dx : Addr) (fs : List (Str × V))
  /-- the dict of the instance at x -/
  | own (x : Addr)
  /-- the dict of an exception -/
  | xd (fs : List (Str × V))
  /-- a bound method, f of x -/
  | met (f x : Addr)
  /-- a range object lo, lo + 1, .. below hi -/
  | rng (lo hi : Int)
  /-- a thing that is known to the object (the script; a dict while a loop walks it): read, never written while it is so -/
  | frz (o : Obj) (u : HO)
  /-- a code object's table -/
  | tbl (ps : Array Value)
  /-- any other thing, by what is true of its one object (a def of one's own: SetO a S n := HO.ext fun h => ..) -/
  | ext (φ : Heap → Prop)

abbrev Hp := Addr → Option HO
def upd (H : Hp) (a : Addr) (o : HO) : Hp := fun b => if b = a then some o else H b
theorem upd_same {H : Hp} {a : Addr} {o : HO} : upd H a o a = some o := by unfold upd; rw [if_pos rfl]
theorem upd_ne {H : Hp} {a b : Addr} {o : HO} (h : b ≠ a) : upd H a o b = H b := by unfold upd; rw [if_neg h]
theorem upd_upd {H : Hp} {a : Addr} {o u : HO} : upd (upd H a o) a u = upd H a u := by
  funext b; unfold upd; split <;> rfl
/-- two objects of different content stand apart -/
theorem ne_of {H : Hp} {a b : Addr} {o u : HO} (h : H a = some o) (h' : H b = some u) (d : o ≠ u) : a ≠ b := by
  intro e; subst e; rw [h] at h'; exact d (Option.some.inj h')
theorem ne_of_none {H : Hp} {a b : Addr} {o : HO} (h : H a = some o) (h' : H b = none) : a ≠ b := by
  intro e; subst e; rw [h] at h'; cases h'

section
variable (P : Program) (w : World)
def ObjOk (H : Hp) (h : Heap) (a : Addr) : HO → Prop
  | .lst xs => xs.length ≤ sizeLine ∧ ∃ (its : List Value) (n : Nat), Vals xs its ∧ h.get? a = some { cls := .type "list", data := .seq its.toArray n }
  | .tup xs => xs.length ≤ sizeLine ∧ ∃ its : List Value, Vals xs its ∧ IsTup h a its.toArray
  | .dK kvs => kvs.length ≤ sizeLine ∧ (a == sysModules) = false ∧ ∃ vs, KV kvs vs ∧ h.DictOf (mixKind P w) a vs
  | .dT kvs => kvs.length ≤ sizeLine ∧ (a == sysModules) = false ∧ ∃ xs : List (List Key × Addr × Value),
      Paired (fun (p : List Key × V) (q : List Key × Addr × Value) => p.1 = q.1 ∧ H q.2.1 = some (.tup (p.1.map kV)) ∧ RelV p.2 q.2.2) kvs xs ∧
      ∃ o es ep, h.get? a = some o ∧ o.ExactDict ∧ o.data = .dict es ep ∧ es.toList = xs.map (entryOfKey (tupleKind (mixKind P w))) ∧ (xs.map (·.1)).Nodup
  | .set S n => h.SetOf (intKind P w) a S n
  | .ins C dx fs => H dx = some (.own a) ∧ fs.length ≤ 1000 ∧ dx ≠ a ∧ h.get? a = some (PySem.W.instObj C dx) ∧
      ∃ mA, h.Ns1 dx mA ∧ (∀ f, RelO (fs.lookup f) (mA f)) ∧ PySem.Within mA (fs.map (·.1))
  | .own _ => ∃ o, h.get? a = some o
  | .xd fs => ∃ mA, h.Ns1 a mA ∧ ∀ f, RelO (fs.lookup f) (mA f)
  | .rng lo hi => ∃ t u v, h.get? a = some { cls := .type "range", data := .fields #[.int lo t, .int hi u, .int 1 v] }
  | .frz o u => h.get? a = some o ∧ ObjOk H h a u
  | .tbl ps => h.get? a = some { cls := .none, data := .fields ps }
  | .met f x => h.get? a = some (PySem.W.methodObj (.ref f) (.ref x))
  | .ext φ => φ h ∧ (∃ o, h.get? a = some o) ∧ ∀ h1 h2 : Heap, φ h1 → (∀ o, h1.get? a = some o → h2.get? a = some o) → φ h2
/-- the abstract heap is held -/
def HOk (H : Hp) (h : Heap) : Prop := ∀ a o, H a = some o → ObjOk P w H h a o
end

section
variable {P : Program} {w : World} {H H' : Hp} {h h' : Heap} {a : Addr} {o : HO}
theorem ObjOk.lt (x : ObjOk P w H h a o) : a < h.objs.size := by
  cases o with
  | lst xs => obtain ⟨_, _, _, _, e⟩ := x; exact Heap.lt_size e
  | tup xs => obtain ⟨_, _, _, p⟩ := x; exact p.lt
  | dK kvs => obtain ⟨_, _, _, _, o, _, _, e, _⟩ := x; exact Heap.lt_size e
  | dT kvs => obtain ⟨_, _, _, _, o, _, _, e, _⟩ := x; exact Heap.lt_size e
  | set S n => obtain ⟨o, _, _, _, e, _⟩ := x; exact Heap.lt_size e
  | ins C dx fs => obtain ⟨_, _, _, e, _⟩ := x; exact Heap.lt_size e
  | own y => obtain ⟨_, e⟩ := x; exact Heap.lt_size e
  | xd fs => obtain ⟨_, ⟨_, _, _, e, _⟩, _⟩ := x; exact Heap.lt_size e
  | rng lo hi => obtain ⟨_, _, _, e⟩ := x; exact Heap.lt_size e
  | frz ob u => obtain ⟨e, _⟩ := x; exact Heap.lt_size e
  | tbl ps => exact Heap.lt_size (show h.get? a = some _ from x)
  | met f y => exact Heap.lt_size (show h.get? a = some _ from x)
  | ext φ => obtain ⟨_, ⟨_, e⟩, _⟩ := x; exact Heap.lt_size e
theorem Paired.mapP {α β : Type} {F G : α → β → Prop} : ∀ {l₁ : List α} {l₂ : List β}, Paired F l₁ l₂ → (∀ a b, F a b → G a b) → Paired G l₁ l₂
  | _, _, .nil, _ => .nil
  | _, _, .cons r t, f => .cons (f _ _ r) (Paired.mapP t f)
theorem Paired.imp' {α β : Type} {F G : α → β → Prop} (f : ∀ a b, F a b → G a b) {l₁ : List α} {l₂ : List β} (r : Paired F l₁ l₂) : Paired G l₁ l₂ := Paired.mapP r f
/-- what an object's description leans on: its own object, its own dict, the tuples -/
theorem ObjOk.stay (x : ObjOk P w H h a o) (k : ∀ b u, (b = a ∨ H b = some (.own a)) → h.get? b = some u → h'.get? b = some u)
    (ho : ∀ b, H b = some (.own a) → H' b = some (.own a)) (ht : ∀ b xs, H b = some (.tup xs) → H' b = some (.tup xs)) : ObjOk P w H' h' a o := by
  induction o with
  | lst xs => obtain ⟨z, its, n, r, e⟩ := x; exact ⟨z, its, n, r, k _ _ (.inl rfl) e⟩
  | tup xs => obtain ⟨z, its, r, ob, e, c⟩ := x; exact ⟨z, its, r, ob, k _ _ (.inl rfl) e, c⟩
  | dK kvs => obtain ⟨z, y, vs, r, ob, es, ep, e, c⟩ := x; exact ⟨z, y, vs, r, ob, es, ep, k _ _ (.inl rfl) e, c⟩
  | dT kvs =>
    obtain ⟨z, y, xs, r, ob, es, ep, e, c⟩ := x
    exact ⟨z, y, xs, Paired.mapP r fun p q z => ⟨z.1, ht _ _ z.2.1, z.2.2⟩, ob, es, ep, k _ _ (.inl rfl) e, c⟩
  | set S n => obtain ⟨ob, es, ep, t, e, c⟩ := x; exact ⟨ob, es, ep, t, k _ _ (.inl rfl) e, c⟩
  | ins C dx fs =>
    obtain ⟨d, z, ne, e, mA, ⟨od, es, ep, e2, c⟩, r⟩ := x
    exact ⟨ho _ d, z, ne, k _ _ (.inl rfl) e, mA, ⟨od, es, ep, k _ _ (.inr d) e2, c⟩, r⟩
  | own y => obtain ⟨ob, e⟩ := x; exact ⟨ob, k _ _ (.inl rfl) e⟩
  | xd fs => obtain ⟨mA, ⟨od, es, ep, e, c⟩, r⟩ := x; exact ⟨mA, ⟨od, es, ep, k _ _ (.inl rfl) e, c⟩, r⟩
  | rng lo hi => obtain ⟨t, u, v, e⟩ := x; exact ⟨t, u, v, k _ _ (.inl rfl) e⟩
  | frz ob u ih => obtain ⟨e, q⟩ := x; exact ⟨k _ _ (.inl rfl) e, ih q⟩
  | tbl ps =>
    have e : h.get? a = some { cls := .none, data := .fields ps } := x
    show h'.get? a = some { cls := .none, data := .fields ps }
    exact k a _ (.inl rfl) e
  | met f y =>
    have e : h.get? a = some (PySem.W.methodObj (.ref f) (.ref y)) := x
    show h'.get? a = some (PySem.W.methodObj (.ref f) (.ref y))
    exact k a _ (.inl rfl) e
  | ext φ => obtain ⟨p, ⟨o, e⟩, st⟩ := x; exact ⟨st _ _ p fun o q => k _ _ (.inl rfl) q, ⟨o, k _ _ (.inl rfl) e⟩, st⟩
theorem HOk.lt (x : HOk P w H h) (e : H a = some o) : a < h.objs.size := (x a o e).lt
theorem HOk.fresh (x : HOk P w H h) (e : h.objs.size ≤ a) : H a = none := by
  cases q : H a with
  | none => rfl
  | some u => exact absurd (Nat.lt_of_lt_of_le (x.lt q) e) (Nat.lt_irrefl _)
/-- every object of the heap is kept -/
theorem HOk.kept (x : HOk P w H h) (k : ∀ b u, h.get? b = some u → h'.get? b = some u) : HOk P w H h' := fun a o e =>
  (x a o e).stay (fun b u _ q => k b u q) (fun _ q => q) fun _ _ q => q
/-- a new object is laid and tracked -/
theorem HOk.laid (x : HOk P w H h) (k : ∀ b u, h.get? b = some u → h'.get? b = some u) (hp : h.objs.size ≤ a) (new : ObjOk P w (upd H a o) h' a o) : HOk P w (upd H a o) h' := fun b u e => by
  have hn := x.fresh hp
  by_cases hb : b = a
  · subst hb; rw [upd_same] at e; cases e; exact new
  · rw [upd_ne hb] at e
    exact (x b u e).stay (fun c v _ q => k c v q) (fun c q => by rw [upd_ne (ne_of_none q hn)]; exact q) fun c xs q => by rw [upd_ne (ne_of_none q hn)]; exact q
end

/-- what may be read as u: it is u, or a known u -/
def Rd (H : Hp) (a : Addr) (u : HO) : Prop := H a = some u ∨ ∃ o, H a = some (.frz o u)
theorem Rd.of {H : Hp} {a : Addr} {u : HO} (h : H a = some u) : Rd H a u := .inl h
theorem Rd.ok {P : Program} {w : World} {H : Hp} {h : Heap} {a : Addr} {u : HO} (r : Rd H a u) (x : HOk P w H h) : ObjOk P w H h a u := by
  rcases r with r | ⟨o, r⟩
  · exact x a u r
  · obtain ⟨_, q⟩ := x a _ r
    exact q
/-- what may be written -/
def Mut : Option HO → Prop
  | some (.lst _) => True
  | some (.dK _) => True
  | some (.dT _) => True
  | some (.set _ _) => True
  | some (.ins _ _ _) => True
  | some (.ext _) => True
  | _ => False
section
variable {P : Program} {w : World} {H : Hp} {h h' : Heap} {x e : Addr} {o' : HO}
/-- the object at e is changed: x itself, or the dict of the instance x -/
theorem HOk.write (ok : HOk P w H h) (mu : Mut (H x)) (he : e = x ∨ H e = some (.own x)) (k : ∀ b u, b ≠ e → h.get? b = some u → h'.get? b = some u) (heo : ∃ u, h'.get? e = some u)
    (new : ObjOk P w (upd H x o') h' x o') : HOk P w (upd H x o') h' := fun b u q => by
  have nown : ∀ c y, H c = some (.own y) → c ≠ x := fun c y r z => by subst z; rw [r] at mu; exact mu
  have ntup : ∀ c xs, H c = some (.tup xs) → c ≠ x := fun c xs r z => by subst z; rw [r] at mu; exact mu
  by_cases hb : b = x
  · subst hb; rw [upd_same] at q; cases q; exact new
  · rw [upd_ne hb] at q
    by_cases hbe : b = e
    · have q' : H b = some (.own x) := by
        rcases he with z | z
        · exact absurd (hbe.trans z) hb
        · rw [hbe]; exact z
      rw [q] at q'; cases q'
      obtain ⟨v, hv⟩ := heo
      exact ⟨v, by rw [hbe]; exact hv⟩
    · refine (ok b u q).stay (fun c v hc r => k c v ?_ r) (fun c r => by rw [upd_ne (nown c b r)]; exact r) fun c xs r => by rw [upd_ne (ntup c xs r)]; exact r
      rcases hc with rfl | hc
      · exact hbe
      · rintro rfl
        rcases he with z | z
        · exact nown c b hc z
        · rw [hc] at z; cases z; exact hb rfl
end

/-! ### kept unless tracked; of the frames at fs (the callers') the slots may change (an exception that passes writes there); of the records at ex (iterators) nothing is said -/
structure Un (fs ex : List Addr) (H H' : Hp) (h h' : Heap) : Prop where
  keep : ∀ b o, h.get? b = some o → H b = none → b ∉ fs → b ∉ ex → h'.get? b = some o
  slot : ∀ b o, h.get? b = some o → H b = none → b ∈ fs → b ∉ ex → ∃ sl, h'.get? b = some { o with slots := sl }
  free : ∀ b o, h.get? b = some o → H b = none → b ∉ ex → H' b = none
  there : ∀ b o, h.get? b = some o → b ∉ ex → ∃ o', h'.get? b = some o'
  tups : ∀ b xs, H b = some (.tup xs) → H' b = some (.tup xs)
  frzs : ∀ b o u, H b = some (.frz o u) → H' b = some (.frz o u)
  tbls : ∀ b ps, H b = some (.tbl ps) → ∃ more, H' b = some (.tbl (ps ++ more))
section
variable {fs fs' ex ex' : List Addr} {H H1 H2 : Hp} {h h1 h2 h' : Heap} {a x e : Addr} {o : HO}
theorem Un.any (u : Un fs ex H H1 h h1) {b : Addr} {ob : Obj} (q : h.get? b = some ob) (n : H b = none) (hx : b ∉ ex) : ∃ sl, h1.get? b = some { ob with slots := sl } := by
  by_cases hb : b ∈ fs
  · exact u.slot b ob q n hb hx
  · exact ⟨ob.slots, u.keep b ob q n hb hx⟩
theorem Un.trans (a : Un fs ex H H1 h h1) (b : Un fs ex H1 H2 h1 h2) : Un fs ex H H2 h h2 where
  keep := fun c ob q n hc hx => b.keep c ob (a.keep c ob q n hc hx) (a.free c ob q n hx) hc hx
  slot := fun c ob q n hc hx => by
    obtain ⟨sl, e1⟩ := a.slot c ob q n hc hx
    obtain ⟨sl', e2⟩ := b.slot c _ e1 (a.free c ob q n hx) hc hx
    exact ⟨sl', e2⟩
  free := fun c ob q n hx => by
    obtain ⟨o', e1⟩ := a.there c ob q hx
    exact b.free c o' e1 (a.free c ob q n hx) hx
  there := fun c ob q hx => by
    obtain ⟨o', e1⟩ := a.there c ob q hx
    exact b.there c o' e1 hx
  tups := fun c xs q => b.tups c xs (a.tups c xs q)
  frzs := fun c ob xs q => b.frzs c ob xs (a.frzs c ob xs q)
  tbls := fun c ps q => by
    obtain ⟨m1, e1⟩ := a.tbls c ps q
    obtain ⟨m2, e2⟩ := b.tbls c _ e1
    exact ⟨m1 ++ m2, by rw [e2, Array.append_assoc]⟩
theorem Un.kept (k : ∀ b u, h.get? b = some u → h'.get? b = some u) : Un fs ex H H h h' :=
  ⟨fun b ob q _ _ _ => k b ob q, fun b ob q _ _ _ => ⟨ob.slots, k b ob q⟩, fun _ _ _ n _ => n, fun b ob q _ => ⟨ob, k b ob q⟩, fun _ _ q => q, fun _ _ _ q => q, fun _ ps q => ⟨#[], by rw [q]; simp⟩⟩
theorem Un.refl : Un fs ex H H h h := Un.kept fun _ _ q => q
theorem Un.laid (k : ∀ b u, h.get? b = some u → h'.get? b = some u) (hp : h.objs.size ≤ a) (hn : H a = none) : Un fs ex H (upd H a o) h h' where
  keep := fun b u q _ _ _ => k b u q
  slot := fun b u q _ _ _ => ⟨u.slots, k b u q⟩
  free := fun b u q n _ => by rw [upd_ne (Nat.ne_of_lt (Nat.lt_of_lt_of_le (Heap.lt_size q) hp))]; exact n
  there := fun b u q _ => ⟨u, k b u q⟩
  tups := fun b xs q => by rw [upd_ne (ne_of_none q hn)]; exact q
  frzs := fun b u xs q => by rw [upd_ne (ne_of_none q hn)]; exact q
  tbls := fun b ps q => ⟨#[], by rw [upd_ne (ne_of_none q hn), q]; simp⟩
theorem Un.write (mu : Mut (H x)) (he : e = x ∨ H e = some (.own x)) (k : ∀ b u, b ≠ e → h.get? b = some u → h'.get? b = some u) (heo : ∃ u, h'.get? e = some u) : Un fs ex H (upd H x o) h h' := by
  have hx : ∀ b, H b = none → b ≠ x := fun b n z => by subst z; rw [n] at mu; exact mu
  have hb : ∀ b, H b = none → b ≠ e := fun b n z => by
    subst z
    rcases he with r | r
    · exact hx b n r
    · rw [n] at r; cases r
  have hm : ∀ b u, H b = some u → ¬ Mut (some u) → b ≠ x := fun b u q nm z => by subst z; rw [q] at mu; exact nm mu
  refine ⟨fun b u q n _ _ => k b u (hb b n) q, fun b u q n _ _ => ⟨u.slots, k b u (hb b n) q⟩, fun b u q n _ => by rw [upd_ne (hx b n)]; exact n, fun b u q _ => ?_,
    fun b xs q => by rw [upd_ne (hm b _ q fun z => z)]; exact q, fun b u xs q => by rw [upd_ne (hm b _ q fun z => z)]; exact q, fun b ps q => ⟨#[], by rw [upd_ne (hm b _ q fun z => z), q]; simp⟩⟩
  by_cases hbe : b = e
  · subst hbe; exact heo
  · exact ⟨u, k b u hbe q⟩
theorem Un.mono (u : Un fs ex H H1 h h1) (hs : ∀ b ∈ fs, b ∈ fs') (hx : ∀ b ∈ ex, b ∈ ex') : Un fs' ex' H H1 h h1 :=
  ⟨fun b ob q n hb he => u.keep b ob q n (fun z => hb (hs b z)) fun z => he (hx b z), fun _ _ q n _ he => u.any q n fun z => he (hx _ z), fun b ob q n he => u.free b ob q n fun z => he (hx b z), fun b ob q he => u.there b ob q fun z => he (hx b z), u.tups, u.frzs, u.tbls⟩
end

/-! ### the heap without what is tracked -/
def trk (h : Heap) (H : Hp) : List Addr := (List.range h.objs.size).filter fun a => (H a).isSome
def hidT (h : Heap) (H : Hp) : Heap := PySem.W.hideAll h (trk h H)
theorem hidT_size (h : Heap) (H : Hp) : (hidT h H).objs.size = h.objs.size := PySem.W.hideAll_size _ _
theorem hidT_get {h : Heap} {H : Hp} {b : Addr} {o : Obj} (e : h.get? b = some o) (n : H b = none) : (hidT h H).get? b = some o :=
  PySem.W.hideAll_get _ e fun hm => by
    have q : (H b).isSome = true := (List.mem_filter.mp hm).2
    rw [n] at q; simp at q
theorem of_hidT {h : Heap} {H : Hp} {b : Addr} {o : Obj} (e : (hidT h H).get? b = some o) : h.get? b = some o ∧ H b = none := by
  have e' : h.get? b = some o := PySem.W.of_hideAll (trk h H) e
  refine ⟨e', ?_⟩
  cases q : H b with
  | none => rfl
  | some x =>
    have hm : b ∈ trk h H := List.mem_filter.mpr ⟨List.mem_range.mpr (Heap.lt_size e'), by simp [q]⟩
    have z : (hidT h H).get? b = none := PySem.W.hideAll_none (trk h H) hm
    rw [z] at e; cases e

/-! ### OpenK's ledger, filled with every new object but one -/
def allNews (g h : Heap) (L : Addr) : List (Addr × Obj) := (List.range h.objs.size).filterMap fun a => if a = L ∨ (g.get? a).isSome = true then none else (h.get? a).map fun o => (a, o)
theorem mem_allNews {g h : Heap} {L a : Addr} {o : Obj} (h1 : a ≠ L) (h2 : g.get? a = none) (h3 : h.get? a = some o) : (a, o) ∈ allNews g h L :=
  List.mem_filterMap.mpr ⟨a, List.mem_range.mpr (Heap.lt_size h3), by simp [h1, h2, h3]⟩
theorem of_mem_allNews {g h : Heap} {L : Addr} {p : Addr × Obj} (hp : p ∈ allNews g h L) : p.1 ≠ L ∧ g.get? p.1 = none ∧ h.get? p.1 = some p.2 := by
  obtain ⟨b, _, e⟩ := List.mem_filterMap.mp hp
  split at e
  · cases e
  · rename_i hn
    cases q : h.get? b with
    | none => rw [q] at e; simp at e
    | some u =>
      rw [q] at e
      simp only [Option.map_some, Option.some.injEq] at e
      subst e
      refine ⟨fun z => hn (.inl z), ?_, q⟩
      show g.get? b = none
      cases r : g.get? b with
      | none => rfl
      | some v => exact (hn (.inr (by simp [r]))).elim
def rest (g h : Heap) (L d : Addr) : List (Addr × Obj) := (allNews g h L).filter fun p => decide (p.1 ≠ d)
theorem rest_ne {g h : Heap} {L d : Addr} : ∀ p ∈ rest g h L d, p.1 ≠ d := fun p hp => of_decide_eq_true (List.mem_filter.mp hp).2
theorem mem_rest {g h : Heap} {L d a : Addr} {o : Obj} (h1 : a ≠ L) (h2 : g.get? a = none) (h3 : h.get? a = some o) (h4 : a ≠ d) : (a, o) ∈ rest g h L d :=
  List.mem_filter.mpr ⟨mem_allNews h1 h2 h3, decide_eq_true h4⟩
theorem news_all {g h : Heap} {L : Addr} : News g L h (allNews g h L) := fun p hp => let ⟨a, b, c⟩ := of_mem_allNews hp; ⟨c, a, b⟩
theorem news_at {g h : Heap} {L d : Addr} {o : Obj} (h1 : d ≠ L) (h2 : g.get? d = none) (h3 : h.get? d = some o) : News g L h ((d, o) :: rest g h L d) := fun p hp => by
  rcases List.mem_cons.mp hp with rfl | hp
  · exact ⟨h3, h1, h2⟩
  · exact news_all p (List.mem_filter.mp hp).1
/-- behind a rule that changed d alone: all else but the frame is kept -/
theorem kept_of_news {g h h' : Heap} {L d : Addr} {m : Str → Option Value} (k : ∀ b o, g.get? b = some o → h.get? b = some o) (F : Fr g L h' m) (N : News g L h' (rest g h L d)) :
    ∀ b o, b ≠ L → b ≠ d → h.get? b = some o → h'.get? b = some o := fun b o h1 h2 e => by
  cases q : g.get? b with
  | some u =>
    have := k b u q
    rw [e] at this; cases this
    exact F.keep b _ q
  | none => exact (N (b, o) (mem_rest h1 q e h2)).1
end L2

namespace L2
open PySem PySem.Spec PyProof.Rows

/-- the module's facts, over the base: the heap at the law's entry without what is tracked there -/
structure Mod (K : PySem.W.Frag) (mg : Str → Option Value) (base : Heap) : Prop where
  kin : K.In base
  glob : base.Ns mainGlobals mg
  blt : ∃ mb, base.Ns builtinsNs mb ∧ ∀ x : Str, x ≠ "__name__" → mb x = bootBuiltins x
  nolimit : base.NoLimit

/-- the context: a def's body (or a comprehension's block) running. base: fixed through the whole law; s₀, H₀: the entry; outer: the frames whose slots others may change (a def's callers); stack: all frames that run;
   ex: iterators that were made ahead of the entry and are walked here (a comprehension's); fn: the names whose cells were made at the entry (a def: all; a comprehension's block: its own); calm: not within an except suite; pn: pins that every state bears; xe: what is wanted of an exception that leaves the code -/
structure Cx where
  prog : Program
  w : World
  K : PySem.W.Frag
  mg : Str → Option Value
  base : Heap
  A : Around
  N : List Str
  s_0 : Shared
  H_0 : Hp
  env : Env
  outer : List Env
  stack : List Env
  ex : List Addr
  fn : Str → Bool
  calm : Bool
  pn : List (Addr × Obj)
  xe : Value → Shared → Prop
/-- the callers' frames -/
def frs (l : List Env) : List Addr := l.filterMap (·.frame)
abbrev Cx.fs (X : Cx) : List Addr := frs X.outer

def Vis (sc : Scope) (x : Str) : Prop := sc.names.lookup x = some .local ∨ sc.names.lookup x = some .cell ∨ sc.names.lookup x = some .free
def Loc (sc : Scope) (x : Str) : Prop := sc.names.lookup x = some .local ∨ sc.names.lookup x = some .cell
def Look (env : Env) (h : Heap) (m : Str → Option Value) (x : Str) (u : Value) : Prop :=
  (env.kindOf x = some .local ∧ m x = some u) ∨ ((env.kindOf x = some .cell ∨ env.kindOf x = some .free) ∧ ∃ c, env.cells.lookup x = some c ∧ h.IsCell c (some u))

structure Cx.Ok (X : Cx) : Prop where
  mod : Mod X.K X.mg X.base
  kind : X.env.scope.kind = .function
  glob : X.env.globals = mainGlobals
  blt : X.env.builtins = builtinsNs
  above : X.s_0.heap.objs.size ≤ X.env.locals
  inj : ∀ x y c, X.env.cells.lookup x = some c → X.env.cells.lookup y = some c → x = y
  has : ∀ x, (X.env.kindOf x = some .cell ∨ X.env.kindOf x = some .free) → ∃ c, X.env.cells.lookup x = some c
  cab : ∀ x c, X.fn x = true → X.env.cells.lookup x = some c → X.s_0.heap.objs.size ≤ c
  hd : X.calm = true → X.A.handled = none
  frames : X.A.frames = some X.stack
  stk : X.stack = X.outer ∨ (X.stack = X.env :: X.outer ∧ X.env.frame = some X.env.locals)
  exf : ∀ b ∈ X.ex, b ≠ X.env.locals ∧ ∀ x c, X.env.cells.lookup x = some c → c ≠ b
  bs : ∀ b o, X.base.get? b = some o → X.s_0.heap.get? b = some o ∧ X.H_0 b = none
  bsz : X.base.objs.size ≤ X.s_0.heap.objs.size
  noex : ∀ b o, X.base.get? b = some o → b ∉ X.ex
  exfs : ∀ b ∈ X.ex, b ∉ X.fs
  funs : X.s_0.heap.FunFrames X.base X.outer
  frf : ∀ b ∈ X.fs, X.H_0 b = none

structure Inv (X : Cx) (pins : List (Addr × Obj)) (σ : List (Option V)) (H : Hp) (s : Shared) : Prop where
  ok : X.Ok
  os : s.os = X.s_0.os
  bare : AllBare s.gens
  base : Un X.fs X.ex X.H_0 H X.s_0.heap s.heap
  loc : ∃ m, s.heap.Ns X.env.locals m ∧ ∀ (i : Nat) (x : Str) (v : V), X.N[i]? = some x → σ[i]? = some (some v) → Vis X.env.scope x → ∃ u, RelV v u ∧ Look X.env s.heap m x u
  cell : ∀ x c, X.env.cells.lookup x = some c → ∃ v, s.heap.IsCell c v
  free : H X.env.locals = none
  freeC : ∀ x c, X.env.cells.lookup x = some c → H c = none
  pin : ∀ p ∈ X.pn ++ pins, s.heap.get? p.1 = some p.2 ∧ H p.1 = none ∧ p.1 ≠ X.env.locals ∧ p.1 ∉ X.fs ∧ ∀ v, p.2.data ≠ .cell v
  hok : HOk X.prog X.w H s.heap
  len : σ.length = X.N.length

section
variable {X : Cx} {pins : List (Addr × Obj)} {σ : List (Option V)} {H H' : Hp} {s : Shared} {h' : Heap}

theorem Cx.Ok.nofr (ok : X.Ok) {b : Addr} {o : Obj} (e : X.base.get? b = some o) : b ∉ X.fs := fun hb => by
  have := (ok.funs.mem hb).1
  rw [e] at this; cases this
theorem Inv.bs (I : Inv X pins σ H s) : ∀ b o, X.base.get? b = some o → s.heap.get? b = some o ∧ H b = none := fun b o e =>
  ⟨I.base.keep b o (I.ok.bs b o e).1 (I.ok.bs b o e).2 (I.ok.nofr e) (I.ok.noex b o e), I.base.free b o (I.ok.bs b o e).1 (I.ok.bs b o e).2 (I.ok.noex b o e)⟩
theorem Inv.bk (I : Inv X pins σ H s) : ∀ b o, X.base.get? b = some o → s.heap.get? b = some o := fun b o e => (I.bs b o e).1
theorem Inv.mod (I : Inv X pins σ H s) : Mod X.K X.mg X.base := I.ok.mod
theorem Inv.kIn (I : Inv X pins σ H s) : X.K.In s.heap := I.ok.mod.kin.keeps I.bk
theorem Inv.nolimit (I : Inv X pins σ H s) : s.heap.NoLimit := I.ok.mod.nolimit.keeps I.bk
/-- the frame over the base: for OpenK's rules (K.In X.base is I.mod.kin) -/
theorem Inv.fr (I : Inv X pins σ H s) : ∃ m, Fr X.base X.env.locals s.heap m :=
  let ⟨m, hn, _⟩ := I.loc
  ⟨m, hn, I.bk, Nat.le_trans I.ok.bsz I.ok.above⟩
theorem Inv.lt (I : Inv X pins σ H s) : X.env.locals < s.heap.objs.size := let ⟨_, hn, _⟩ := I.loc; hn.lt
theorem Inv.sz (I : Inv X pins σ H s) : X.s_0.heap.objs.size ≤ s.heap.objs.size := Nat.le_trans I.ok.above (Nat.le_of_lt I.lt)
theorem Inv.nofs (I : Inv X pins σ H s) {a : Addr} (h : s.heap.objs.size ≤ a) : a ∉ X.fs := fun hb => by
  obtain ⟨_, o, ho, _⟩ := I.ok.funs.mem hb
  exact absurd (Nat.lt_of_lt_of_le (Heap.lt_size ho) (Nat.le_trans I.sz h)) (Nat.lt_irrefl _)
theorem Inv.cne (I : Inv X pins σ H s) : ∀ x c, X.env.cells.lookup x = some c → c ≠ X.env.locals := fun x c e z => by
  obtain ⟨v, o, ho, hd⟩ := I.cell x c e
  obtain ⟨m, ⟨o', es, ep, ho', hd', _⟩, _⟩ := I.loc
  rw [z, ho'] at ho; cases ho; rw [hd'] at hd; cases hd
theorem Inv.funs (I : Inv X pins σ H s) : s.heap.FunFrames X.base X.outer := by
  have all : ∀ (l : List Env), (∀ b ∈ frs l, b ∈ X.fs) → X.s_0.heap.FunFrames X.base l → s.heap.FunFrames X.base l := by
    intro l
    induction l with
    | nil => intro _ _; trivial
    | cons env r ih =>
      intro hs hl
      obtain ⟨hk, ⟨L, o, hf, hn, ho, hd⟩, hr⟩ := hl
      have hL : L ∈ X.fs := hs L (by unfold frs; rw [List.filterMap_cons, hf]; exact List.mem_cons_self)
      obtain ⟨sl, e⟩ := I.base.slot L o ho (I.ok.frf L hL) hL fun z => I.ok.exfs L z hL
      exact ⟨hk, ⟨L, _, hf, hn, e, hd⟩, ih (fun b hb => hs b (by unfold frs; rw [List.filterMap_cons, hf]; exact List.mem_cons_of_mem _ hb)) hr⟩
  exact all X.outer (fun _ hb => hb) I.ok.funs

/-- the frames that run, for a call -/
theorem Inv.stack (I : Inv X pins σ H s) : s.heap.FunFrames X.base X.stack := by
  rcases I.ok.stk with e | ⟨e, hf⟩
  · rw [e]; exact I.funs
  · rw [e]
    obtain ⟨m, hn, _⟩ := I.loc
    refine .cons (by rw [I.ok.kind]; decide) hf hn ?_ I.funs
    exact Heap.get?_none_of_le (Nat.le_trans I.ok.bsz I.ok.above)
theorem Inv.stkSub (I : Inv X pins σ H s) : ∀ b ∈ frs X.stack, b ∈ X.env.locals :: X.fs := fun b hb => by
  rcases I.ok.stk with e | ⟨e, hf⟩
  · rw [e] at hb; exact List.mem_cons_of_mem _ hb
  · rw [e] at hb
    unfold frs at hb
    rw [List.filterMap_cons, hf] at hb
    exact hb
theorem Inv.stkFree (I : Inv X pins σ H s) : ∀ b ∈ frs X.stack, H b = none := fun b hb => by
  rcases List.mem_cons.mp (I.stkSub b hb) with e | hb
  · rw [e]; exact I.free
  · obtain ⟨_, o, ho, _⟩ := I.ok.funs.mem hb
    exact I.base.free b o ho (I.ok.frf b hb) fun z => I.ok.exfs b z hb

/-- THE STEP: the untracked objects but the frame and the records at ch are kept (the callers' frames up to slots), the frame's map is kept, the new abstract heap is held -/
theorem Inv.step {g' : Array GenState} {t' : Nat} {d' : Drawn} {ch : List Addr} (I : Inv X pins σ H s)
    (hch : ∀ b ∈ ch, (b ∈ X.ex ∨ X.s_0.heap.objs.size ≤ b) ∧ b ≠ X.env.locals ∧ (∀ x c, X.env.cells.lookup x = some c → c ≠ b) ∧ ∀ p ∈ X.pn ++ pins, p.1 ≠ b)
    (keep : ∀ b o, b ≠ X.env.locals → b ∉ X.fs → b ∉ ch → s.heap.get? b = some o → H b = none → h'.get? b = some o)
    (slot : ∀ b o, b ≠ X.env.locals → b ∈ X.fs → b ∉ ch → s.heap.get? b = some o → H b = none → ∃ sl, h'.get? b = some { o with slots := sl }) (free : ∀ b o, b ∉ ch → s.heap.get? b = some o → H b = none → H' b = none)
    (there : ∀ b o, b ∉ ch → s.heap.get? b = some o → ∃ o', h'.get? b = some o')
    (tups : ∀ b xs, H b = some (.tup xs) → H' b = some (.tup xs)) (frzs : ∀ b o u, H b = some (.frz o u) → H' b = some (.frz o u)) (tbls : ∀ b ps, H b = some (.tbl ps) → ∃ more, H' b = some (.tbl (ps ++ more)))
    (ns : ∀ m, s.heap.Ns X.env.locals m → h'.Ns X.env.locals m) (hok : HOk X.prog X.w H' h') (hg : AllBare g') :
    Inv X pins σ H' { s with heap := h', gens := g', drawn := d', toks := t' } := by
  have neL : ∀ b o, X.s_0.heap.get? b = some o → b ≠ X.env.locals := fun b o e => Nat.ne_of_lt (Nat.lt_of_lt_of_le (Heap.lt_size e) I.ok.above)
  have neC : ∀ b o, X.s_0.heap.get? b = some o → b ∉ X.ex → b ∉ ch := fun b o e hx hb => by
    rcases (hch b hb).1 with z | z
    · exact hx z
    · exact absurd (Nat.lt_of_lt_of_le (Heap.lt_size e) z) (Nat.lt_irrefl _)
  have cellK : ∀ x c, X.env.cells.lookup x = some c → ∀ v, s.heap.IsCell c v → h'.IsCell c v := fun x c e v ⟨o, ho, hd⟩ => by
    have nch : c ∉ ch := fun z => (hch c z).2.2.1 x c e rfl
    by_cases hc : c ∈ X.fs
    · obtain ⟨sl, q⟩ := slot c o (I.cne x c e) hc nch ho (I.freeC x c e)
      exact ⟨_, q, hd⟩
    · exact ⟨o, keep c o (I.cne x c e) hc nch ho (I.freeC x c e), hd⟩
  refine ⟨I.ok, I.os, hg, ⟨fun b o e n hb hx => ?_, fun b o e n hb hx => ?_, fun b o e n hx => ?_, fun b o e hx => ?_, fun b xs e => tups b xs (I.base.tups b xs e), fun b o xs e => frzs b o xs (I.base.frzs b o xs e), fun b ps e => ?_⟩, ?_, fun x c e => ?_, ?_, fun x c e => ?_, fun p hp => ?_, hok, I.len⟩
  · exact keep b o (neL b o e) hb (neC b o e hx) (I.base.keep b o e n hb hx) (I.base.free b o e n hx)
  · obtain ⟨sl, e1⟩ := I.base.slot b o e n hb hx
    obtain ⟨sl', e2⟩ := slot b _ (neL b o e) hb (neC b o e hx) e1 (I.base.free b o e n hx)
    exact ⟨sl', e2⟩
  · obtain ⟨o', e1⟩ := I.base.there b o e hx
    exact free b o' (neC b o e hx) e1 (I.base.free b o e n hx)
  · obtain ⟨o', e1⟩ := I.base.there b o e hx
    exact there b o' (neC b o e hx) e1
  · obtain ⟨m1, e1⟩ := I.base.tbls b ps e
    obtain ⟨m2, e2⟩ := tbls b _ e1
    exact ⟨m1 ++ m2, by rw [e2, Array.append_assoc]⟩
  · obtain ⟨m, hn, hl⟩ := I.loc
    refine ⟨m, ns m hn, fun i x v e1 e2 e3 => ?_⟩
    obtain ⟨u, r, l⟩ := hl i x v e1 e2 e3
    refine ⟨u, r, ?_⟩
    rcases l with l | ⟨k, c, e, z⟩
    · exact .inl l
    · exact .inr ⟨k, c, e, cellK x c e _ z⟩
  · obtain ⟨v, z⟩ := I.cell x c e
    exact ⟨v, cellK x c e v z⟩
  · obtain ⟨m, ⟨o, _, _, ho, _⟩, _⟩ := I.loc
    exact free _ o (fun z => (hch _ z).2.1 rfl) ho I.free
  · obtain ⟨v, o, ho, hd⟩ := I.cell x c e
    exact free c o (fun z => (hch c z).2.2.1 x c e rfl) ho (I.freeC x c e)
  · obtain ⟨e, n, ne, nf, d⟩ := I.pin p hp
    have nch : p.1 ∉ ch := fun z => (hch p.1 z).2.2.2 p hp rfl
    exact ⟨keep p.1 p.2 ne nf nch e n, free p.1 p.2 nch e n, ne, nf, d⟩
/-- .. where the frame's own object is kept too -/
theorem Inv.un {t' : Nat} (I : Inv X pins σ H s) (u : Un X.fs [] H H' s.heap h') (hok : HOk X.prog X.w H' h') : Inv X pins σ H' { s with heap := h', toks := t' } := by
  obtain ⟨m, ⟨o, es, ep, ho, r⟩, _⟩ := id I.loc
  obtain ⟨sl, hL⟩ := u.any ho I.free (by simp)
  exact I.step (g' := s.gens) (d' := s.drawn) (ch := []) (fun _ z => nomatch z) (fun b o _ hb _ e n => u.keep b o e n hb (by simp)) (fun b o _ hb _ e n => u.slot b o e n hb (by simp)) (fun b o _ e n => u.free b o e n (by simp)) (fun b o _ e => u.there b o e (by simp)) u.tups u.frzs u.tbls (fun m' hm => by
    obtain ⟨o', es', ep', ho', r'⟩ := hm
    rw [ho] at ho'; cases ho'
    exact ⟨_, es', ep', hL, r'⟩) hok I.bare
/-- behind a call (or a comprehension's block): the slots of this frame may have changed too, the records at ch may have turned -/
theorem Inv.call {g' : Array GenState} {t' : Nat} {d' : Drawn} {ch : List Addr} (I : Inv X pins σ H s) (u : Un (frs X.stack) ch H H' s.heap h') (hok : HOk X.prog X.w H' h') (hg : AllBare g')
    (hch : ∀ b ∈ ch, (b ∈ X.ex ∨ X.s_0.heap.objs.size ≤ b) ∧ b ≠ X.env.locals ∧ (∀ x c, X.env.cells.lookup x = some c → c ≠ b) ∧ ∀ p ∈ X.pn ++ pins, p.1 ≠ b) :
    Inv X pins σ H' { s with heap := h', gens := g', drawn := d', toks := t' } := by
  obtain ⟨m, ⟨o, es, ep, ho, r⟩, _⟩ := id I.loc
  obtain ⟨sl, hL⟩ := u.any ho I.free fun z => (hch _ z).2.1 rfl
  exact I.step (ch := ch) hch (fun b o hL hb hc e n => u.keep b o e n (fun z => (List.mem_cons.mp (I.stkSub b z)).elim hL hb) hc) (fun b o _ _ hc e n => u.any e n hc) (fun b o hc e n => u.free b o e n hc) (fun b o hc e => u.there b o e hc) u.tups u.frzs u.tbls (fun m' hm => by
    obtain ⟨o', es', ep', ho', r'⟩ := hm
    rw [ho] at ho'; cases ho'
    exact ⟨_, es', ep', hL, r'⟩) hok hg
/-- an untracked record of ours (an iterator) has turned -/
theorem Inv.turned {t' : Nat} {it : Addr} (I : Inv X pins σ H s) (k : ∀ b o, b ≠ it → s.heap.get? b = some o → h'.get? b = some o) (hn : H it = none) (hL : it ≠ X.env.locals)
    (h1 : it ∈ X.ex ∨ X.s_0.heap.objs.size ≤ it) (h2 : ∀ x c, X.env.cells.lookup x = some c → c ≠ it) (h3 : ∀ p ∈ X.pn ++ pins, p.1 ≠ it) : Inv X pins σ H { s with heap := h', toks := t' } := by
  have nit : ∀ b u, H b = some u → b ≠ it := fun b u e z => by rw [z, hn] at e; cases e
  refine I.step (g' := s.gens) (d' := s.drawn) (ch := [it]) (fun b hb => ?_) (fun b o _ _ hc e _ => k b o (fun z => hc (by simp [z])) e) (fun b o _ _ hc e _ => ⟨o.slots, k b o (fun z => hc (by simp [z])) e⟩) (fun _ _ _ _ n => n)
    (fun b o hc e => ⟨o, k b o (fun z => hc (by simp [z])) e⟩) (fun _ _ e => e) (fun _ _ _ e => e) (fun b ps e => ⟨#[], by rw [e]; simp⟩) (fun m hm => ?_) (fun b u e => ?_) I.bare
  · have e : b = it := by simpa using hb
    subst e
    exact ⟨h1, hL, h2, h3⟩
  · obtain ⟨o, es, ep, ho, r⟩ := hm
    exact ⟨o, es, ep, k _ o (Ne.symm hL) ho, r⟩
  · refine (I.hok b u e).stay (fun c v hc q => k c v ?_ q) (fun _ q => q) fun _ _ q => q
    rcases hc with z | z
    · rw [z]; exact nit b u e
    · exact nit c _ z
theorem Inv.tok (I : Inv X pins σ H s) (t : Nat) : Inv X pins σ H { s with toks := t } := I.un (h' := s.heap) (t' := t) Un.refl I.hok
/-- all objects kept -/
theorem Inv.kept {t' : Nat} (I : Inv X pins σ H s) (k : ∀ b u, s.heap.get? b = some u → h'.get? b = some u) : Inv X pins σ H { s with heap := h', toks := t' } := I.un (Un.kept k) (I.hok.kept k)
/-- a new object laid and tracked -/
theorem Inv.laid {a : Addr} {o : HO} {t' : Nat} (I : Inv X pins σ H s) (k : ∀ b u, s.heap.get? b = some u → h'.get? b = some u) (hp : s.heap.objs.size ≤ a) (new : ObjOk X.prog X.w (upd H a o) h' a o) :
    Inv X pins σ (upd H a o) { s with heap := h', toks := t' } := I.un (Un.laid k hp (I.hok.fresh hp)) (I.hok.laid k hp new)
/-- an object written -/
theorem Inv.write {x e : Addr} {o : HO} {t' : Nat} (I : Inv X pins σ H s) (mu : Mut (H x)) (he : e = x ∨ H e = some (.own x)) (k : ∀ b u, b ≠ e → s.heap.get? b = some u → h'.get? b = some u) (heo : ∃ u, h'.get? e = some u)
    (new : ObjOk X.prog X.w (upd H x o) h' x o) : Inv X pins σ (upd H x o) { s with heap := h', toks := t' } := I.un (Un.write mu he k heo) (I.hok.write mu he k heo new)
/-- forgetting slots, pins -/
theorem Inv.weak {σ' : List (Option V)} (I : Inv X pins σ H s) (hl : σ'.length = σ.length) (w : ∀ (i : Nat) v, σ'[i]? = some (some v) → σ[i]? = some (some v)) : Inv X pins σ' H s :=
  ⟨I.ok, I.os, I.bare, I.base, let ⟨m, hn, hl'⟩ := I.loc; ⟨m, hn, fun i x v e1 e2 e3 => hl' i x v e1 (w i v e2) e3⟩, I.cell, I.free, I.freeC, I.pin, I.hok, hl.trans I.len⟩
theorem Inv.pins_of {pins' : List (Addr × Obj)} (I : Inv X pins σ H s) (h : ∀ p ∈ pins', s.heap.get? p.1 = some p.2 ∧ H p.1 = none ∧ p.1 ≠ X.env.locals ∧ p.1 ∉ X.fs ∧ ∀ v, p.2.data ≠ .cell v) : Inv X pins' σ H s :=
  ⟨I.ok, I.os, I.bare, I.base, I.loc, I.cell, I.free, I.freeC, fun p hp => (List.mem_append.mp hp).elim (fun z => I.pin p (List.mem_append_left _ z)) (h p), I.hok, I.len⟩

theorem nodup_ix {N : List Str} (hN : N.Nodup) {i j : Nat} {x : Str} (a : N[i]? = some x) (b : N[j]? = some x) : i = j := by
  obtain ⟨h1, e1⟩ := List.getElem?_eq_some_iff.mp a
  obtain ⟨h2, e2⟩ := List.getElem?_eq_some_iff.mp b
  exact (List.getElem_inj hN).mp (e1.trans e2.symm)

/-- a name is stored; what changed -/
theorem store_ok2 {M : Model} {A : Around} {E : Value → Shared → Prop} {i : Nat} {x : Str} {v : V} {u : Value} {Q : Unit → Shared → Prop} (I : Inv X pins σ H s) (hN : X.N.Nodup) (hi : X.N[i]? = some x) (hx : Loc X.env.scope x) (r : RelV v u)
    (h : ∀ s', Inv X pins (σ.set i (some v)) H s' → (∃ a, Heap.SameBut a s.heap s'.heap ∧ (a = X.env.locals ∨ X.env.cells.lookup x = some a)) → Q () s') (hf : X.fn x = true ∨ X.env.scope.names.lookup x = some .local := by first | exact .inl rfl | exact .inr rfl | assumption) : wpAny M A (storeName X.env x u) Q E s := by
  obtain ⟨m, hn, hl⟩ := id I.loc
  have hcls : (X.env.scope.kind == .class || (X.env.scope.kind == .module && X.env.locals != X.env.globals)) = false := by rw [I.ok.kind]; rfl
  have hiσ : i < σ.length := by rw [I.len]; exact (List.getElem?_eq_some_iff.mp hi).1
  have cne := I.cne
  have tracked : ∀ {a : Addr} {h' : Heap}, (∃ o, s.heap.get? a = some o ∧ H a = none) → Heap.SameBut a s.heap h' → HOk X.prog X.w H h' := fun {a h'} ha hs b ob e => by
    obtain ⟨_, _, hfree⟩ := ha
    refine (I.hok b ob e).stay (fun c w' hc q => (hs.2 c ?_).trans q) (fun _ q => q) fun _ _ q => q
    rintro rfl
    rcases hc with rfl | hc
    · rw [hfree] at e; cases e
    · rw [hfree] at hc; cases hc
  rcases hx with hk | hk
  · refine wpAny_storeName_local hk hn (fun h' hn' hs => ?_) hcls
    obtain ⟨oL, _, _, hoL, _⟩ := id hn
    refine h _ ⟨I.ok, I.os, I.bare, ⟨fun b o e n hb hx => ?_, fun b o e n hb hx => ?_, I.base.free, fun b o e hx => ?_, I.base.tups, I.base.frzs, I.base.tbls⟩, ⟨_, hn', fun j y v' e1 e2 e3 => ?_⟩, fun y c e => ?_, I.free, I.freeC, fun p hp => ?_, tracked ⟨oL, hoL, I.free⟩ hs, by simpa using I.len⟩ ⟨_, hs, .inl rfl⟩
    · exact (hs.2 b (Nat.ne_of_lt (Nat.lt_of_lt_of_le (Heap.lt_size e) I.ok.above))).trans (I.base.keep b o e n hb hx)
    · obtain ⟨sl, e1⟩ := I.base.slot b o e n hb hx
      exact ⟨sl, (hs.2 b (Nat.ne_of_lt (Nat.lt_of_lt_of_le (Heap.lt_size e) I.ok.above))).trans e1⟩
    · obtain ⟨o', e1⟩ := I.base.there b o e hx
      exact ⟨o', (hs.2 b (Nat.ne_of_lt (Nat.lt_of_lt_of_le (Heap.lt_size e) I.ok.above))).trans e1⟩
    · by_cases hj : j = i
      · subst hj
        rw [hi] at e1; cases e1
        rw [List.getElem?_set_self hiσ] at e2
        cases e2
        exact ⟨u, r, .inl ⟨hk, by simp⟩⟩
      · rw [List.getElem?_set_ne (Ne.symm hj)] at e2
        obtain ⟨u', r', q⟩ := hl j y v' e1 e2 e3
        refine ⟨u', r', ?_⟩
        rcases q with ⟨k, e⟩ | ⟨k, c, e, z⟩
        · refine .inl ⟨k, ?_⟩
          have : y ≠ x := fun e => hj (nodup_ix hN e1 (e ▸ hi))
          simp [this, e]
        · exact .inr ⟨k, c, e, z.sameBut hs (cne y c e)⟩
    · obtain ⟨w', z⟩ := I.cell y c e
      exact ⟨w', z.sameBut hs (cne y c e)⟩
    · obtain ⟨e, n, ne, nf, d⟩ := I.pin p hp
      exact ⟨(hs.2 p.1 ne).trans e, n, ne, nf, d⟩
  · have hfn : X.fn x = true := by
      rcases hf with z | z
      · exact z
      · rw [z] at hk; cases hk
    obtain ⟨c, hc⟩ := I.ok.has x (.inl hk)
    obtain ⟨w', z⟩ := I.cell x c hc
    refine wpAny_storeName_cell I.ok.kind hk hc z (fun h' hc' hs => ?_)
    obtain ⟨oc, hoc, hocd⟩ := id z
    refine h { s with heap := h' } ⟨I.ok, I.os, I.bare, ⟨fun b o e n hb hx => ?_, fun b o e n hb hx => ?_, I.base.free, fun b o e hx => ?_, I.base.tups, I.base.frzs, I.base.tbls⟩, ⟨m, hn.sameBut hs (Ne.symm (cne x c hc)), fun j y v' e1 e2 e3 => ?_⟩, fun y c' e => ?_, I.free, I.freeC, fun p hp => ?_, tracked ⟨oc, hoc, I.freeC x c hc⟩ hs, by simpa using I.len⟩ ⟨c, hs, .inr hc⟩
    · exact (hs.2 b (Nat.ne_of_lt (Nat.lt_of_lt_of_le (Heap.lt_size e) (I.ok.cab x c hfn hc)))).trans (I.base.keep b o e n hb hx)
    · obtain ⟨sl, e1⟩ := I.base.slot b o e n hb hx
      exact ⟨sl, (hs.2 b (Nat.ne_of_lt (Nat.lt_of_lt_of_le (Heap.lt_size e) (I.ok.cab x c hfn hc)))).trans e1⟩
    · obtain ⟨o', e1⟩ := I.base.there b o e hx
      exact ⟨o', (hs.2 b (Nat.ne_of_lt (Nat.lt_of_lt_of_le (Heap.lt_size e) (I.ok.cab x c hfn hc)))).trans e1⟩
    · by_cases hj : j = i
      · subst hj
        rw [hi] at e1; cases e1
        rw [List.getElem?_set_self hiσ] at e2
        cases e2
        exact ⟨u, r, .inr ⟨.inl hk, c, hc, hc'⟩⟩
      · rw [List.getElem?_set_ne (Ne.symm hj)] at e2
        obtain ⟨u', r', q⟩ := hl j y v' e1 e2 e3
        refine ⟨u', r', ?_⟩
        rcases q with q | ⟨k, c', e, z'⟩
        · exact .inl q
        · refine .inr ⟨k, c', e, z'.sameBut hs ?_⟩
          rintro rfl
          exact hj (nodup_ix hN e1 (I.ok.inj _ _ _ e hc ▸ hi))
    · by_cases hcc : c' = c
      · subst hcc; exact ⟨_, hc'⟩
      · obtain ⟨w2, z2⟩ := I.cell y c' e
        exact ⟨w2, z2.sameBut hs hcc⟩
    · obtain ⟨e, n, ne, nf, d⟩ := I.pin p hp
      refine ⟨(hs.2 p.1 ?_).trans e, n, ne, nf, d⟩
      intro q
      rw [q, hoc] at e
      have q' : oc = p.2 := Option.some.inj e
      exact d w' (by rw [← q']; exact hocd)
theorem store_ok {M : Model} {A : Around} {E : Value → Shared → Prop} {i : Nat} {x : Str} {v : V} {u : Value} {Q : Unit → Shared → Prop} (I : Inv X pins σ H s) (hN : X.N.Nodup) (hi : X.N[i]? = some x) (hx : Loc X.env.scope x) (r : RelV v u)
    (h : ∀ s', Inv X pins (σ.set i (some v)) H s' → Q () s') (hf : X.fn x = true ∨ X.env.scope.names.lookup x = some .local := by first | exact .inl rfl | exact .inr rfl | assumption) : wpAny M A (storeName X.env x u) Q E s :=
  store_ok2 I hN hi hx r (fun s' I' _ => h s' I') hf
/-- behind a call or a block, the state as it is -/
theorem Inv.call' {s' : Shared} {ch : List Addr} (I : Inv X pins σ H s) (ho : s'.os = s.os) (u : Un (frs X.stack) ch H H' s.heap s'.heap) (hok : HOk X.prog X.w H' s'.heap) (hg : AllBare s'.gens)
    (hch : ∀ b ∈ ch, (b ∈ X.ex ∨ X.s_0.heap.objs.size ≤ b) ∧ b ≠ X.env.locals ∧ (∀ x c, X.env.cells.lookup x = some c → c ≠ b) ∧ ∀ p ∈ X.pn ++ pins, p.1 ≠ b) : Inv X pins σ H' s' := by
  obtain ⟨h', g', d', t', o'⟩ := s'
  have e : o' = s.os := ho
  subst e
  exact I.call (g' := g') (t' := t') (d' := d') u hok hg hch
end

/-! ### the judgements -/
/-- an exception: its class, its own dict's address (where it has one), the abstract heap behind it -/
abbrev XK := Value → Option Addr → Hp → Prop
abbrev St := List (Option V)
abbrev VK := V → Hp → Prop
/-- an expression's reading; a test's; an argument list's -/
abbrev TE := St → Hp → VK → Prop
abbrev TT := St → Hp → (Bool → Hp → Prop) → Prop
abbrev TA := St → Hp → (List V → Hp → Prop) → Prop
/-- what is wanted behind a statement -/
structure Ends where
  nx : St → Hp → Prop
  rt : VK
  bk : St → Hp → Prop := fun _ _ => False
  ct : St → Hp → Prop := fun _ _ => False
abbrev TS := Ends → St → Hp → Prop

def EP (X : Cx) (pins : List (Addr × Obj)) (σ : St) (Q : VK) (u : Value) (s' : Shared) : Prop := ∃ v H', Inv X pins σ H' s' ∧ RelV v u ∧ Q v H'
def TP (X : Cx) (pins : List (Addr × Obj)) (σ : St) (Q : Bool → Hp → Prop) (b : Bool) (s' : Shared) : Prop := ∃ H', Inv X pins σ H' s' ∧ Q b H'
def AP (X : Cx) (pins : List (Addr × Obj)) (σ : St) (Q : List V → Hp → Prop) (us : List Value) (s' : Shared) : Prop := ∃ vs H', Inv X pins σ H' s' ∧ Vals vs us ∧ Q vs H'
def SP (X : Cx) (pins : List (Addr × Obj)) (D : Ends) (f : Flow) (s' : Shared) : Prop :=
  match f with
  | .next => ∃ σ' H', Inv X pins σ' H' s' ∧ D.nx σ' H'
  | .brk => ∃ σ' H', Inv X pins σ' H' s' ∧ D.bk σ' H'
  | .cont => ∃ σ' H', Inv X pins σ' H' s' ∧ D.ct σ' H'
  | .ret u => ∃ v σ' H', Inv X pins σ' H' s' ∧ RelV v u ∧ D.rt v H'

def PE (X : Cx) (e : Expr) (t : TE) : Prop :=
  ∀ (pins : List (Addr × Obj)) (s : Shared) (σ : St) (H : Hp) (Q : VK), Inv X pins σ H s → t σ H Q → wpAny (model X.prog X.w) X.A (eval e X.env) (EP X pins σ Q) X.xe s
def PT (X : Cx) (e : Expr) (t : TT) : Prop :=
  ∀ (pins : List (Addr × Obj)) (s : Shared) (σ : St) (H : Hp) (Q : Bool → Hp → Prop), Inv X pins σ H s → t σ H Q → wpAny (model X.prog X.w) X.A (isTrue e X.env (eval e X.env)) (TP X pins σ Q) X.xe s
/-- a test whatever its 'whole' is (and, or) -/
def PW (X : Cx) (e : Expr) (t : TT) : Prop :=
  ∀ (whole : Sem Value) (pins : List (Addr × Obj)) (s : Shared) (σ : St) (H : Hp) (Q : Bool → Hp → Prop), Inv X pins σ H s → t σ H Q → wpAny (model X.prog X.w) X.A (isTrue e X.env whole) (TP X pins σ Q) X.xe s
theorem PW.pt {X : Cx} {e : Expr} {t : TT} (h : PW X e t) : PT X e t := h _
/-- an argument list (no star), from the left -/
def PA (X : Cx) (es : List Expr) (t : TA) : Prop :=
  ∀ (pos : Pos) (pins : List (Addr × Obj)) (s : Shared) (σ : St) (H : Hp) (Q : List V → Hp → Prop), Inv X pins σ H s → t σ H Q → wpAny (model X.prog X.w) X.A (spliced (backTo pos (starEach es X.env))) (AP X pins σ Q) X.xe s
def PS (X : Cx) (st : Stmt) (t : TS) : Prop :=
  ∀ (pins : List (Addr × Obj)) (s : Shared) (σ : St) (H : Hp) (D : Ends), Inv X pins σ H s → t D σ H → wpAny (model X.prog X.w) X.A (exec st X.env) (SP X pins D) X.xe s
def PSs (X : Cx) (st : List Stmt) (t : TS) : Prop :=
  ∀ (pins : List (Addr × Obj)) (s : Shared) (σ : St) (H : Hp) (D : Ends), Inv X pins σ H s → t D σ H → wpAny (model X.prog X.w) X.A (execs st X.env) (SP X pins D) X.xe s
/-- weaken the end -/
theorem thn {α : Type} {t : Sem α} {Q Q' : α → Shared → Prop} {M : Model} {A : Around} {E : Value → Shared → Prop} {s : Shared} (h : wpAny M A t Q E s) (hQ : ∀ a s, Q a s → Q' a s) : wpAny M A t Q' E s := wpAny_mono h hQ fun _ _ x => x
end L2

namespace L2
open PySem PySem.Spec PyProof.Rows
section
variable {X : Cx}

/-- two expressions in a row -/
theorem bin {a b : Expr} {ta tb : TE} (ha : PE X a ta) (hb : PE X b tb) {pins : List (Addr × Obj)} {s : Shared} {σ : St} {H : Hp} {R : V → V → Hp → Prop} (I : Inv X pins σ H s) (h : ta σ H fun x H1 => tb σ H1 fun y H2 => R x y H2)
    {α : Type} {Q : α → Shared → Prop} {f : Value → Value → Sem α}
    (hf : ∀ v u s2 x y H2, Inv X pins σ H2 s2 → RelV x v → RelV y u → R x y H2 → wpAny (model X.prog X.w) X.A (f v u) Q X.xe s2) :
    wpAny (model X.prog X.w) X.A (eval a X.env) (fun v s₁ => wpAny (model X.prog X.w) X.A (eval b X.env) (fun u s₂ => wpAny (model X.prog X.w) X.A (f v u) Q X.xe s₂) X.xe s₁) X.xe s := by
  refine thn (ha pins s σ H _ I h) fun v s1 ⟨x, H1, I1, r1, q1⟩ => ?_
  refine thn (hb pins s1 σ H1 _ I1 q1) fun u s2 ⟨y, H2, I2, r2, q2⟩ => ?_
  exact hf v u s2 x y H2 I2 r1 r2 q2

/-! ### names and constants -/
def tVar (i : Nat) : TE := fun σ H Q => ∃ v, σ[i]? = some (some v) ∧ Q v H
def tC (v : V) : TE := fun _ H Q => Q v H
theorem pe_var {i : Nat} {x : Str} {pos : Pos} (hN : X.N[i]? = some x) (hv : Vis X.env.scope x) (hd : (x == ("__debug__" : Str)) = false := by decide) (hcd : (x == ("__classdict__" : Str)) = false := by decide) : PE X (.Name x pos) (tVar i) := by
  intro pins s σ H Q I h
  obtain ⟨v, e, h⟩ := h
  obtain ⟨m, hn, hl⟩ := I.loc
  obtain ⟨u, r, l⟩ := hl i x v hN e hv
  have fin : EP X pins σ Q u s := ⟨v, H, I, r, h⟩
  rcases l with ⟨hk, hm⟩ | ⟨hk, c, hc, hcell⟩
  · exact wpAny_Name (wpAny_loadName_local I.ok.kind hk hn hm fin) hd
  · rcases hk with hk | hk
    · exact wpAny_Name (wpAny_loadName_cell I.ok.kind hk hc hcell fin) hd
    · exact wpAny_Name (wpAny_loadName_free I.ok.kind hk hc hcell fin hcd) hd
theorem pe_int {i j pos} : PE X (.Constant (.int i) j pos) (tC (.int i)) := fun _ _ _ H _ I h => wpAny_Constant_int ⟨.int i, H, I.tok _, ⟨_, rfl⟩, h⟩
theorem pe_bl {b j pos} : PE X (.Constant (.bool b) j pos) (tC (.bl b)) := fun _ _ _ H _ I h => Constant_bool ⟨.bl b, H, I, rfl, h⟩
theorem pe_non {j pos} : PE X (.Constant .none j pos) (tC .non) := fun _ _ _ H _ I h => Constant_none ⟨.non, H, I, rfl, h⟩
theorem pe_str {x j pos} : PE X (.Constant (.str x) j pos) (tC (.str x)) := fun _ _ _ H _ I h => Calls.Constant_str ⟨.str x, H, I.tok _, ⟨_, rfl⟩, h⟩

/-- a global name of the def -/
def Gl (X : Cx) (x : Str) : Prop := X.env.kindOf x = some .globalImplicit
theorem ld_glob {E : Value → Shared → Prop} {pins : List (Addr × Obj)} {s : Shared} {σ : St} {H : Hp} {x : Str} {u : Value} {pos : Pos} {Q : Value → Shared → Prop} (I : Inv X pins σ H s) (hg : Gl X x) (hm : X.mg x = some u) (h : Q u s)
    (hd : (x == ("__debug__" : Str)) = false := by decide) : wpAny (model X.prog X.w) X.A (eval (.Name x pos) X.env) Q E s :=
  Calls.Name_function_global I.ok.kind hg (Calls.loadGlobal_global (by rw [I.ok.glob]; exact I.mod.glob.keeps I.bk) hm h) hd
theorem ld_blt {E : Value → Shared → Prop} {pins : List (Addr × Obj)} {s : Shared} {σ : St} {H : Hp} {x : Str} {u : Value} {pos : Pos} {Q : Value → Shared → Prop} (I : Inv X pins σ H s) (hg : Gl X x) (hm : X.mg x = none) (hv : bootBuiltins x = some u) (h : Q u s)
    (hn : x ≠ "__name__" := by decide) (hd : (x == ("__debug__" : Str)) = false := by decide) : wpAny (model X.prog X.w) X.A (eval (.Name x pos) X.env) Q E s := by
  obtain ⟨mb, h1, h2⟩ := I.mod.blt
  exact Calls.Name_function_global I.ok.kind hg (Calls.loadGlobal_builtin (by rw [I.ok.glob]; exact I.mod.glob.keeps I.bk) hm (by rw [I.ok.blt]; exact h1.keeps I.bk) ((h2 x hn).trans hv) h) hd
/-- a module's constant, a class, a function, as a value -/
theorem pe_glob {x : Str} {v : V} {u : Value} {pos : Pos} (hg : Gl X x) (hm : X.mg x = some u) (r : RelV v u) (hd : (x == ("__debug__" : Str)) = false := by decide) : PE X (.Name x pos) (tC v) :=
  fun _ _ _ H _ I h => ld_glob I hg hm ⟨v, H, I, r, h⟩ hd
theorem pe_bltn {x : Str} {v : V} {u : Value} {pos : Pos} (hg : Gl X x) (hm : X.mg x = none) (hv : bootBuiltins x = some u) (r : RelV v u) (hn : x ≠ "__name__" := by decide) (hd : (x == ("__debug__" : Str)) = false := by decide) : PE X (.Name x pos) (tC v) :=
  fun _ _ _ H _ I h => ld_blt I hg hm hv ⟨v, H, I, r, h⟩ hn hd

/-! ### arithmetic -/
/-- two ints -/
def t2I (ta tb : TE) (k : Int → Int → Hp → Prop) : St → Hp → Prop := fun σ H => ta σ H fun x H1 => tb σ H1 fun y H2 => ∃ i j, x = .int i ∧ y = .int j ∧ k i j H2
def tAdd (ta tb : TE) : TE := fun σ H Q => t2I ta tb (fun i j H2 => Q (.int (i + j)) H2) σ H
def tSub (ta tb : TE) : TE := fun σ H Q => t2I ta tb (fun i j H2 => Q (.int (i - j)) H2) σ H
/-- the left factor below 2^64 -/
def tMul (ta tb : TE) : TE := fun σ H Q => t2I ta tb (fun i j H2 => (-(2 ^ 64) < i ∧ i < 2 ^ 64) ∧ Q (.int (i * j)) H2) σ H
variable {a b : Expr} {ta tb : TE} {pos : Pos}
theorem pe_add (ha : PE X a ta) (hb : PE X b tb) : PE X (.BinOp a .Add b pos) (tAdd ta tb) := by
  intro pins s σ H Q I h
  refine wpAny_BinOp (bin ha hb I h fun v u s2 x y H2 I2 rx ry q => ?_)
  obtain ⟨i, j, rfl, rfl, q⟩ := q
  obtain ⟨t, rfl⟩ := rx
  obtain ⟨t', rfl⟩ := ry
  exact add_int ⟨.int _, H2, I2.tok _, ⟨_, rfl⟩, q⟩
theorem pe_sub (ha : PE X a ta) (hb : PE X b tb) : PE X (.BinOp a .Sub b pos) (tSub ta tb) := by
  intro pins s σ H Q I h
  refine wpAny_BinOp (bin ha hb I h fun v u s2 x y H2 I2 rx ry q => ?_)
  obtain ⟨i, j, rfl, rfl, q⟩ := q
  obtain ⟨t, rfl⟩ := rx
  obtain ⟨t', rfl⟩ := ry
  exact sub_int ⟨.int _, H2, I2.tok _, ⟨_, rfl⟩, q⟩
theorem pe_mul (ha : PE X a ta) (hb : PE X b tb) : PE X (.BinOp a .Mult b pos) (tMul ta tb) := by
  intro pins s σ H Q I h
  refine wpAny_BinOp (bin ha hb I h fun v u s2 x y H2 I2 rx ry q => ?_)
  obtain ⟨i, j, rfl, rfl, ⟨q1, q2⟩, q⟩ := q
  obtain ⟨t, rfl⟩ := rx
  obtain ⟨t', rfl⟩ := ry
  exact mul_int ⟨.int _, H2, I2.tok _, ⟨_, rfl⟩, q⟩ (.of_left (intBits_le_64 q1 q2))

/-! ### comparisons -/
def PC (X : Cx) (op : CmpOp) (a b : Expr) (t : TE) : Prop :=
  ∀ (pins : List (Addr × Obj)) (s : Shared) (σ : St) (H : Hp) (Q : VK), Inv X pins σ H s → t σ H Q →
    wpAny (model X.prog X.w) X.A (eval a X.env) (fun v s₁ => wpAny (model X.prog X.w) X.A (eval b X.env) (fun u s₂ => wpAny (model X.prog X.w) X.A (compareOp op v u) (EP X pins σ Q) X.xe s₂) X.xe s₁) X.xe s
theorem nobehind (b : Expr) {op : CmpOp} (h : op ≠ .In) (h2 : op ≠ .NotIn) : behindInMarks op b = false := by
  have e1 : (op == CmpOp.In) = false := by cases op <;> first | rfl | exact absurd rfl h
  have e2 : (op == CmpOp.NotIn) = false := by cases op <;> first | rfl | exact absurd rfl h2
  cases b <;> simp [behindInMarks, e1, e2]
def tCmp (p : Int → Int → Bool) (ta tb : TE) : TE := fun σ H Q => t2I ta tb (fun i j H2 => Q (.bl (p i j)) H2) σ H
abbrev tLt : TE → TE → TE := tCmp fun i j => decide (i < j)
abbrev tLe : TE → TE → TE := tCmp fun i j => decide (i ≤ j)
abbrev tGt : TE → TE → TE := tCmp fun i j => decide (j < i)
abbrev tGe : TE → TE → TE := tCmp fun i j => decide (j ≤ i)
abbrev tEqI : TE → TE → TE := tCmp fun i j => decide (i = j)
abbrev tNeI : TE → TE → TE := tCmp fun i j => !decide (i = j)
/-- a comparison of two ints, by its rule -/
theorem pc_int {op : CmpOp} {p : Int → Int → Bool} (ha : PE X a ta) (hb : PE X b tb)
    (rule : ∀ (i j : Int) (t u : Tok) (Q : Value → Shared → Prop) (s : Shared), Q (.bool (p i j)) s → wpAny (model X.prog X.w) X.A (compareOp op (.int i t) (.int j u)) Q X.xe s) : PC X op a b (tCmp p ta tb) := by
  intro pins s σ H Q I h
  refine bin ha hb I h fun v u s2 x y H2 I2 rx ry q => ?_
  obtain ⟨i, j, rfl, rfl, q⟩ := q
  obtain ⟨t, rfl⟩ := rx
  obtain ⟨t', rfl⟩ := ry
  exact rule i j t t' _ s2 ⟨.bl _, H2, I2, rfl, q⟩
theorem pc_lt (ha : PE X a ta) (hb : PE X b tb) : PC X .Lt a b (tLt ta tb) := pc_int ha hb fun _ _ _ _ _ _ h => lt_int h
theorem pc_le (ha : PE X a ta) (hb : PE X b tb) : PC X .LtE a b (tLe ta tb) := pc_int ha hb fun _ _ _ _ _ _ h => le_int h
theorem pc_gt (ha : PE X a ta) (hb : PE X b tb) : PC X .Gt a b (tGt ta tb) := pc_int ha hb fun _ _ _ _ _ _ h => gt_int h
theorem pc_ge (ha : PE X a ta) (hb : PE X b tb) : PC X .GtE a b (tGe ta tb) := pc_int ha hb fun _ _ _ _ _ _ h => ge_int h
theorem pc_eqI (ha : PE X a ta) (hb : PE X b tb) : PC X .Eq a b (tEqI ta tb) := pc_int ha hb fun _ _ _ _ _ _ h => eq_int (by rw [Bool.beq_eq_decide_eq]; exact h)
theorem pc_neI (ha : PE X a ta) (hb : PE X b tb) : PC X .NotEq a b (tNeI ta tb) := pc_int ha hb fun _ _ _ _ _ _ h => ne_int (by rw [bne, Bool.beq_eq_decide_eq]; exact h)
/-- is None -/
def tIsN (ta : TE) : TE := fun σ H Q => ta σ H fun x H1 => Q (.bl (decide (x = .non))) H1
def tNotN (ta : TE) : TE := fun σ H Q => ta σ H fun x H1 => Q (.bl (!decide (x = .non))) H1
theorem RelV.none_iff {x : V} {v : Value} (r : RelV x v) : (v == Value.none) = decide (x = .non) := by
  cases x with
  | non => cases r; rfl
  | bl _ => cases r; rfl
  | int _ => obtain ⟨t, rfl⟩ := r; rfl
  | str _ => obtain ⟨t, rfl⟩ := r; rfl
  | byt _ => obtain ⟨t, rfl⟩ := r; rfl
  | flt _ => obtain ⟨t, rfl⟩ := r; rfl
  | ref _ => cases r; rfl
  | ty _ => cases r; rfl
theorem pc_isN {j pos'} (ha : PE X a ta) : PC X .Is a (.Constant .none j pos') (tIsN ta) := by
  intro pins s σ H Q I h
  refine thn (ha pins s σ H _ I h) fun v s1 ⟨x, H1, I1, r1, q1⟩ => ?_
  exact Constant_none (is_none_gen ⟨.bl _, H1, I1, by rw [r1.none_iff]; rfl, q1⟩)
theorem pc_notN {j pos'} (ha : PE X a ta) : PC X .IsNot a (.Constant .none j pos') (tNotN ta) := by
  intro pins s σ H Q I h
  refine thn (ha pins s σ H _ I h) fun v s1 ⟨x, H1, I1, r1, q1⟩ => ?_
  exact Constant_none (isnot_none_gen ⟨.bl _, H1, I1, by rw [r1.none_iff]; rfl, q1⟩)
/-- a comparison as a value, as a test -/
def tB (t : TE) : TT := fun σ H Q => t σ H fun x H1 => ∃ c, x = .bl c ∧ Q c H1
theorem pe_cmp {op : CmpOp} {t : TE} (h : PC X op a b t) (h1 : behindInMarks op b = false := by first | exact nobehind _ (by decide) (by decide) | rfl) : PE X (.Compare a [op] [b] pos) t := fun pins s σ H Q I hw => wpAny_Compare1 (h pins s σ H Q I hw) h1
theorem pt_cmp {op : CmpOp} {t : TE} (h : PC X op a b t) (h1 : behindInMarks op b = false := by first | exact nobehind _ (by decide) (by decide) | rfl) : PT X (.Compare a [op] [b] pos) (tB t) := by
  intro pins s σ H Q I hw
  refine wpAny_isTrue_Compare1 (thn (h pins s σ H _ I hw) fun v s1 h1 => thn h1 fun u s2 h2 => thn h2 fun c s3 ⟨x, H1, I1, r1, q1⟩ => ?_) h1
  obtain ⟨d, rfl, q⟩ := q1
  cases r1
  exact wpAny_truthy_bool ⟨H1, I1, q⟩
/-- an expression whose value is a bool, as a test -/
theorem pt_val {e : Expr} {t : TE} (h : PE X e t) (he : ∀ whole, isTrue e X.env whole = (do let v ← whole; standAt e.pos; holding [v] (truthy v)) := by intro _; rfl) : PT X e (tB t) := by
  intro pins s σ H Q I hw
  refine isTrue_plain (thn (h pins s σ H _ I hw) fun v s1 ⟨x, H1, I1, r1, q1⟩ => ?_) (he _)
  obtain ⟨d, rfl, q⟩ := q1
  cases r1
  exact wpAny_truthy_bool ⟨H1, I1, q⟩

/-! ### and, or, not -/
variable {tA tB' : TT} {rest : List Expr}
def tAnd (t u : TT) : TT := fun σ H Q => t σ H fun c H1 => if c = true then u σ H1 Q else Q false H1
def tOr (t u : TT) : TT := fun σ H Q => t σ H fun c H1 => if c = true then Q true H1 else u σ H1 Q
def tNot (t : TT) : TT := fun σ H Q => t σ H fun c H1 => Q (!c) H1
theorem pw_and1 (ha : PT X a tA) : PW X (.BoolOp .And [a] pos) tA := by
  intro wh pins s σ H Q I h
  refine isTrue_and (thn (ha pins s σ H Q I h) fun c s1 e => ?_)
  cases c with
  | true => exact isTrue_and_nil e
  | false => exact e
theorem pw_or1 (ha : PT X a tA) : PW X (.BoolOp .Or [a] pos) tA := by
  intro wh pins s σ H Q I h
  refine isTrue_or (thn (ha pins s σ H Q I h) fun c s1 e => ?_)
  cases c with
  | false => exact isTrue_or_nil e
  | true => exact e
theorem pw_and (ha : PT X a tA) (hb : PW X (.BoolOp .And (b :: rest) pos) tB') : PW X (.BoolOp .And (a :: b :: rest) pos) (tAnd tA tB') := by
  intro wh pins s σ H Q I h
  refine isTrue_and (thn (ha pins s σ H _ I h) fun c s1 ⟨H1, I1, q1⟩ => ?_)
  cases c with
  | true => exact hb wh pins s1 σ H1 Q I1 q1
  | false => exact ⟨H1, I1, q1⟩
theorem pw_or (ha : PT X a tA) (hb : PW X (.BoolOp .Or (b :: rest) pos) tB') : PW X (.BoolOp .Or (a :: b :: rest) pos) (tOr tA tB') := by
  intro wh pins s σ H Q I h
  refine isTrue_or (thn (ha pins s σ H _ I h) fun c s1 ⟨H1, I1, q1⟩ => ?_)
  cases c with
  | true => exact ⟨H1, I1, q1⟩
  | false => exact hb wh pins s1 σ H1 Q I1 q1
theorem pt_not (ha : PT X a tA) : PT X (.UnaryOp .Not a pos) (tNot tA) := by
  intro pins s σ H Q I h
  exact isTrue_not (ha pins s σ H (fun c H1 => Q (!c) H1) I h)
/-- .. as values (bools) -/
def tAndV (ta tb : TE) : TE := fun σ H Q => ta σ H fun x H1 => ∃ c, x = .bl c ∧ if c = true then tb σ H1 Q else Q (.bl false) H1
def tOrV (ta tb : TE) : TE := fun σ H Q => ta σ H fun x H1 => ∃ c, x = .bl c ∧ if c = true then Q (.bl true) H1 else tb σ H1 Q
def tNotV (ta : TE) : TE := fun σ H Q => ta σ H fun x H1 => ∃ c, x = .bl c ∧ Q (.bl (!c)) H1
theorem pe_one {op} {t : TE} (h : PE X a t) : PE X (.BoolOp op [a] pos) t := fun pins s σ H Q I hw => BoolOp_one (h pins s σ H Q I hw)
theorem pe_and (ha : PE X a ta) (hb : PE X (.BoolOp .And (b :: rest) pos) tb) : PE X (.BoolOp .And (a :: b :: rest) pos) (tAndV ta tb) := by
  intro pins s σ H Q I h
  refine BoolOp_and (thn (ha pins s σ H _ I h) fun v s1 ⟨x, H1, I1, r1, q1⟩ => ?_)
  obtain ⟨c, rfl, q1⟩ := q1
  cases r1
  refine wpAny_truthy_bool ?_
  cases c with
  | true => exact hb pins s1 σ H1 Q I1 q1
  | false => exact ⟨.bl false, H1, I1, rfl, q1⟩
theorem pe_or (ha : PE X a ta) (hb : PE X (.BoolOp .Or (b :: rest) pos) tb) : PE X (.BoolOp .Or (a :: b :: rest) pos) (tOrV ta tb) := by
  intro pins s σ H Q I h
  refine BoolOp_or (thn (ha pins s σ H _ I h) fun v s1 ⟨x, H1, I1, r1, q1⟩ => ?_)
  obtain ⟨c, rfl, q1⟩ := q1
  cases r1
  refine wpAny_truthy_bool ?_
  cases c with
  | false => exact hb pins s1 σ H1 Q I1 q1
  | true => exact ⟨.bl true, H1, I1, rfl, q1⟩
theorem pe_not (ha : PE X a ta) : PE X (.UnaryOp .Not a pos) (tNotV ta) := by
  intro pins s σ H Q I h
  refine UnaryOp_ (thn (ha pins s σ H _ I h) fun v s1 ⟨x, H1, I1, r1, q1⟩ => ?_)
  obtain ⟨c, rfl, q1⟩ := q1
  cases r1
  exact not_of (wpAny_truthy_bool ⟨.bl (!c), H1, I1, rfl, q1⟩)
/-- a if t else b -/
def tIf (t : TT) (ta tb : TE) : TE := fun σ H Q => t σ H fun c H1 => if c = true then ta σ H1 Q else tb σ H1 Q
theorem pe_ifExp {c : Expr} (hc : PT X c tA) (ha : PE X a ta) (hb : PE X b tb) : PE X (.IfExp c a b pos) (tIf tA ta tb) := by
  intro pins s σ H Q I h
  refine wpAny_IfExp (thn (hc pins s σ H _ I h) fun d s1 ⟨H1, I1, q1⟩ => ?_)
  cases d with
  | true => exact ha pins s1 σ H1 Q I1 q1
  | false => exact hb pins s1 σ H1 Q I1 q1
end
end L2

namespace L2
open PySem PySem.Spec PyProof.Rows

/-! ### a list, a tuple that is read: tracked, frozen, or an object of the module -/
def SqL (K : PySem.W.Frag) (H : Hp) (a : Addr) (xs : List V) : Prop :=
  Rd H a (.lst xs) ∨
    ∃ (o : Obj) (its : Array Value) (n : Nat), K.lookup a = some o ∧ o.cls = .type "list" ∧ o.dict = none ∧ o.data = .seq its n ∧ its.size ≤ sizeLine ∧ Vals xs its.toList
def SqT (K : PySem.W.Frag) (H : Hp) (a : Addr) (xs : List V) : Prop :=
  Rd H a (.tup xs) ∨
    ∃ (o : Obj) (its : Array Value) (n : Nat), K.lookup a = some o ∧ o.cls = .type "tuple" ∧ o.data = .seq its n ∧ its.size ≤ sizeLine ∧ Vals xs its.toList
def absV : Value → Option V
  | .none => some .non
  | .bool b => some (.bl b)
  | .int i _ => some (.int i)
  | .str x _ => some (.str x)
  | .bytes b _ => some (.byt b)
  | .float b _ => some (.flt b)
  | .ref a => some (.ref a)
  | .type n => some (.ty n)
  | _ => none
theorem RelV.abs {x : V} {u : Value} (r : RelV x u) : absV u = some x := by
  cases x with
  | non => cases r; rfl
  | bl _ => cases r; rfl
  | int _ => obtain ⟨t, rfl⟩ := r; rfl
  | str _ => obtain ⟨t, rfl⟩ := r; rfl
  | byt _ => obtain ⟨t, rfl⟩ := r; rfl
  | flt _ => obtain ⟨t, rfl⟩ := r; rfl
  | ref _ => cases r; rfl
  | ty _ => cases r; rfl
theorem RelV.inj {x y : V} {u : Value} (r : RelV x u) (q : RelV y u) : x = y := Option.some.inj (r.abs.symm.trans q.abs)
theorem Vals.inj : ∀ {xs ys : List V} {us : List Value}, Vals xs us → Vals ys us → xs = ys
  | _, _, _, .nil, .nil => rfl
  | _, _, _, .cons r t, .cons r' t' => by rw [r.inj r', Vals.inj t t']
section
variable {X : Cx} {pins : List (Addr × Obj)} {σ : St} {H : Hp} {s : Shared} {a : Addr} {xs ys : List V}
theorem SqL.of {K : PySem.W.Frag} (h : H a = some (.lst xs)) : SqL K H a xs := .inl (.inl h)
theorem SqT.of {K : PySem.W.Frag} (h : H a = some (.tup xs)) : SqT K H a xs := .inl (.inl h)
theorem Inv.list (I : Inv X pins σ H s) (h : SqL X.K H a xs) : ∃ its : List Value, Vals xs its ∧ PlainL s.heap a its.toArray ∧ xs.length ≤ sizeLine := by
  rcases h with h | ⟨o, its, n, hk, hc, hd, hs, hz, r⟩
  · obtain ⟨z, its, n, r, e⟩ := h.ok I.hok
    exact ⟨its, r, ⟨_, n, e, rfl, rfl, rfl⟩, z⟩
  · refine ⟨its.toList, r, ⟨o, n, I.kIn a o hk, hc, hd, by simpa using hs⟩, ?_⟩
    have e := r.length
    simp only [Array.length_toList] at e
    omega
theorem Inv.tuple (I : Inv X pins σ H s) (h : SqT X.K H a xs) : ∃ its : List Value, Vals xs its ∧ IsTup s.heap a its.toArray ∧ xs.length ≤ sizeLine := by
  rcases h with h | ⟨o, its, n, hk, hc, hs, hz, r⟩
  · obtain ⟨z, its, r, p⟩ := h.ok I.hok
    exact ⟨its, r, p, z⟩
  · refine ⟨its.toList, r, ⟨o, I.kIn a o hk, hc, n, by simpa using hs⟩, ?_⟩
    have e := r.length
    simp only [Array.length_toList] at e
    omega
theorem Inv.list_inj (I : Inv X pins σ H s) (h : SqL X.K H a xs) (h' : SqL X.K H a ys) : xs = ys := by
  obtain ⟨its, r, ⟨o, n, e, _, _, d⟩, _⟩ := I.list h
  obtain ⟨its', r', ⟨o', n', e', _, _, d'⟩, _⟩ := I.list h'
  rw [e] at e'; cases e'
  rw [d] at d'
  injection d' with d1 _
  have : its = its' := by simpa using congrArg Array.toList d1
  subst this
  exact r.inj r'
theorem Inv.tuple_inj (I : Inv X pins σ H s) (h : SqT X.K H a xs) (h' : SqT X.K H a ys) : xs = ys := by
  obtain ⟨its, r, ⟨o, e, _, n, d⟩, _⟩ := I.tuple h
  obtain ⟨its', r', ⟨o', e', _, n', d'⟩, _⟩ := I.tuple h'
  rw [e] at e'; cases e'
  rw [d] at d'
  injection d' with d1 _
  have : its = its' := by simpa using congrArg Array.toList d1
  subst this
  exact r.inj r'
end

/-! ### another wish about exceptions -/
abbrev Cx.wish (X : Cx) (E : Value → Shared → Prop) : Cx := { X with xe := E }
/-- no exception leaves -/
abbrev Cx.nox (X : Cx) : Cx := X.wish fun _ _ => False
theorem Cx.Ok.wish {X : Cx} (ok : X.Ok) (E : Value → Shared → Prop) : (X.wish E).Ok :=
  ⟨ok.mod, ok.kind, ok.glob, ok.blt, ok.above, ok.inj, ok.has, ok.cab, ok.hd, ok.frames, ok.stk, ok.exf, ok.bs, ok.bsz, ok.noex, ok.exfs, ok.funs, ok.frf⟩
theorem Cx.Ok.unwish {X : Cx} {E : Value → Shared → Prop} (ok : (X.wish E).Ok) : X.Ok :=
  ⟨ok.mod, ok.kind, ok.glob, ok.blt, ok.above, ok.inj, ok.has, ok.cab, ok.hd, ok.frames, ok.stk, ok.exf, ok.bs, ok.bsz, ok.noex, ok.exfs, ok.funs, ok.frf⟩
section
variable {X : Cx} {pins : List (Addr × Obj)} {σ : St} {H : Hp} {s : Shared} {E : Value → Shared → Prop}
theorem Inv.wish (I : Inv X pins σ H s) (E : Value → Shared → Prop) : Inv (X.wish E) pins σ H s := ⟨I.ok.wish E, I.os, I.bare, I.base, I.loc, I.cell, I.free, I.freeC, I.pin, I.hok, I.len⟩
theorem Inv.unwish (I : Inv (X.wish E) pins σ H s) : Inv X pins σ H s := ⟨I.ok.unwish, I.os, I.bare, I.base, I.loc, I.cell, I.free, I.freeC, I.pin, I.hok, I.len⟩
theorem SP.unwish {D : Ends} {f : Flow} {s' : Shared} (h : SP (X.wish E) pins D f s') : SP X pins D f s' := by
  cases f with
  | next => obtain ⟨σ', H', I, q⟩ := h; exact ⟨σ', H', I.unwish, q⟩
  | brk => obtain ⟨σ', H', I, q⟩ := h; exact ⟨σ', H', I.unwish, q⟩
  | cont => obtain ⟨σ', H', I, q⟩ := h; exact ⟨σ', H', I.unwish, q⟩
  | ret u => obtain ⟨v, σ', H', I, r, q⟩ := h; exact ⟨v, σ', H', I.unwish, r, q⟩
theorem PE.nox {e : Expr} {t : TE} (h : PE X.nox e t) : PE X e t := fun pins s σ H Q I hw =>
  wpAny_mono (h pins s σ H Q (I.wish _) hw) (fun _ _ ⟨v, H', I', r, q⟩ => ⟨v, H', I'.unwish, r, q⟩) fun _ _ z => False.elim z
theorem PT.nox {e : Expr} {t : TT} (h : PT X.nox e t) : PT X e t := fun pins s σ H Q I hw =>
  wpAny_mono (h pins s σ H Q (I.wish _) hw) (fun _ _ ⟨H', I', q⟩ => ⟨H', I'.unwish, q⟩) fun _ _ z => False.elim z
theorem PSs.nox {st : List Stmt} {t : TS} (h : PSs X.nox st t) : PSs X st t := fun pins s σ H D I hw =>
  wpAny_mono (h pins s σ H D (I.wish _) hw) (fun _ _ q => q.unwish) fun _ _ z => False.elim z
end

/-! ### blocks and small statements -/
section
variable {X : Cx} {st : Stmt} {rest : List Stmt} {t u : TS} {e : Expr} {te : TE} {pos : Pos}
def tNext : TS := fun D σ H => D.nx σ H
def tSeq (t u : TS) : TS := fun D σ H => t { D with nx := u D } σ H
theorem pss_nil : PSs X [] tNext := fun _ _ σ H _ I h => wpAny_execs_nil ⟨σ, H, I, h⟩
theorem pss_cons (h1 : PS X st t) (h2 : PSs X rest u) : PSs X (st :: rest) (tSeq t u) := by
  intro pins s σ H D I h
  refine wpAny_execs_cons (thn (h1 pins s σ H { D with nx := u D } I h) fun f s1 q => ?_)
  cases f with
  | next =>
    obtain ⟨σ', H', I', q⟩ := q
    exact h2 pins s1 σ' H' D I' q
  | ret v => exact q
  | brk => exact q
  | cont => exact q
theorem pss_one (h1 : PS X st t) : PSs X [st] t := by
  intro pins s σ H D I h
  refine wpAny_execs_cons (thn (h1 pins s σ H D I h) fun f s1 q => ?_)
  cases f with
  | next => exact wpAny_execs_nil q
  | ret v => exact q
  | brk => exact q
  | cont => exact q
def tBreak : TS := fun D σ H => D.bk σ H
def tCont : TS := fun D σ H => D.ct σ H
theorem ps_pass : PS X (.Pass pos) tNext := fun _ _ σ H _ I h => wpAny_Pass ⟨σ, H, I, h⟩
theorem ps_break : PS X (.Break pos) tBreak := fun _ _ σ H _ I h => wpAny_Break ⟨σ, H, I, h⟩
theorem ps_continue : PS X (.Continue pos) tCont := fun _ _ σ H _ I h => wpAny_Continue ⟨σ, H, I, h⟩
/-- in a def's body nothing is shown -/
theorem Inv.quiet {pins : List (Addr × Obj)} {σ : St} {H : Hp} {s : Shared} (I : Inv X pins σ H s) : interactive X.env = false := by simp [interactive, I.ok.kind]
/-- a docstring -/
theorem ps_doc {x j pos pos'} : PS X (.Expr (.Constant (.str x) j pos) pos') tNext := fun _ s σ H _ I h => wpAny_Expr (Calls.Constant_str (show SP X _ _ .next { s with toks := s.toks + 1 } from ⟨σ, H, I.tok _, h⟩)) I.quiet
/-- an expression whose value is dropped -/
def tDrop (te : TE) : TS := fun D σ H => te σ H fun _ H1 => D.nx σ H1
theorem ps_expr (he : PE X e te) (hs : swapsWith e none pos.line X.env = pure false := by rfl) : PS X (.Expr e pos) (tDrop te) := by
  intro pins s σ H D I h
  exact wpAny_Expr_any (thn (he pins s σ H _ I h) fun v s1 ⟨x, H1, I1, r1, q1⟩ => ⟨σ, H1, I1, q1⟩) I.quiet hs
def tRet (te : TE) : TS := fun D σ H => te σ H D.rt
theorem ps_ret (he : PE X e te) : PS X (.Return (some e) pos) (tRet te) := by
  intro pins s σ H D I h
  exact wpAny_Return_some (thn (he pins s σ H _ I h) fun v s1 ⟨x, H1, I1, r1, q1⟩ => ⟨x, σ, H1, I1, r1, q1⟩)
def tRetN : TS := fun D _ H => D.rt .non H
theorem ps_retN : PS X (.Return none pos) tRetN := fun _ _ σ H _ I h => wpAny_Return_none ⟨.non, σ, H, I, rfl, h⟩
def tIfS (c : TT) (t u : TS) : TS := fun D σ H => c σ H fun b H1 => if b = true then t D σ H1 else u D σ H1
theorem ps_if {c : Expr} {a b : List Stmt} {tc : TT} (hc : PT X c tc) (ha : PSs X a t) (hb : PSs X b u) : PS X (.If c a b pos) (tIfS tc t u) := by
  intro pins s σ H D I h
  refine wpAny_If (thn (hc pins s σ H _ I h) fun d s1 ⟨H1, I1, q1⟩ => ?_)
  cases d with
  | true => exact ha pins s1 σ H1 D I1 q1
  | false => exact hb pins s1 σ H1 D I1 q1
/-- code that the proof never comes to -/
def tNever : TS := fun _ _ _ => False
theorem ps_never : PS X st tNever := fun _ _ _ _ _ _ h => h.elim
theorem pss_never {sts : List Stmt} : PSs X sts tNever := fun _ _ _ _ _ _ h => h.elim
end

/-! ### targets -/
abbrev TG := V → St → Hp → (St → Hp → Prop) → Prop
abbrev TGs := List V → St → Hp → (St → Hp → Prop) → Prop
def PG (X : Cx) (target : Expr) (t : TG) : Prop :=
  ∀ (pins : List (Addr × Obj)) (s : Shared) (σ : St) (H : Hp) (v : V) (u : Value) (Q : St → Hp → Prop), Inv X pins σ H s → RelV v u → t v σ H Q →
    wpAny (model X.prog X.w) X.A (assign target X.env u) (fun _ s' => ∃ σ' H', Inv X pins σ' H' s' ∧ Q σ' H') X.xe s
/-- several targets, one after another -/
def PGs (X : Cx) (ts : List Expr) (t : TGs) : Prop :=
  ∀ (pins : List (Addr × Obj)) (s : Shared) (σ : St) (H : Hp) (vs : List V) (us : List Value) (Q : St → Hp → Prop), Inv X pins σ H s → Vals vs us → t vs σ H Q →
    wpAny (model X.prog X.w) X.A (assignInOrder ((assignEach ts X.env).map (·.2)) us) (fun _ s' => ∃ σ' H', Inv X pins σ' H' s' ∧ Q σ' H') X.xe s
/-- o[i] = v, by values -/
abbrev TSet := V → V → V → Hp → (Hp → Prop) → Prop
def PSet (X : Cx) (t : TSet) : Prop :=
  ∀ (pins : List (Addr × Obj)) (s : Shared) (σ : St) (H : Hp) (o i v : V) (ov iv u : Value) (Q : Hp → Prop), Inv X pins σ H s → RelV o ov → RelV i iv → RelV v u → t o i v H Q →
    wpAny (model X.prog X.w) X.A (setItem ov iv u) (fun _ s' => ∃ H', Inv X pins σ H' s' ∧ Q H') X.xe s
/-- a op= b, by values -/
abbrev TIp := V → V → Hp → VK → Prop
def PIp (X : Cx) (op : Operator) (t : TIp) : Prop :=
  ∀ (pins : List (Addr × Obj)) (s : Shared) (σ : St) (H : Hp) (x y : V) (v u : Value) (Q : VK), Inv X pins σ H s → RelV x v → RelV y u → t x y H Q →
    wpAny (model X.prog X.w) X.A (inplaceOp op v u) (EP X pins σ Q) X.xe s
section
variable {X : Cx} {pos : Pos}
def gName (i : Nat) : TG := fun v σ H Q => Q (σ.set i (some v)) H
theorem pg_name {i : Nat} {x : Str} (hN : X.N.Nodup) (hi : X.N[i]? = some x) (hx : Loc X.env.scope x) (hf : X.fn x = true ∨ X.env.scope.names.lookup x = some .local := by first | exact .inl rfl | exact .inr rfl | assumption) : PG X (.Name x pos) (gName i) := by
  intro pins s σ H v u Q I r h
  exact wpAny_assign_Name (store_ok I hN hi hx r (fun s' I' => ⟨_, H, I', h⟩) hf)
def gNil : TGs := fun vs σ H Q => vs = [] ∧ Q σ H
def gCons (t : TG) (u : TGs) : TGs := fun vs σ H Q => ∃ v r, vs = v :: r ∧ t v σ H fun σ' H' => u r σ' H' Q
theorem pgs_nil : PGs X [] gNil := by
  intro pins s σ H vs us Q I r h
  obtain ⟨e, h⟩ := h
  subst e
  cases r
  exact assignInOrder_nil ⟨σ, H, I, h⟩
theorem pgs_cons {e : Expr} {es : List Expr} {t : TG} {u : TGs} (h1 : PG X e t) (h2 : PGs X es u)
    (hs : (assignEach (e :: es) X.env).map (·.2) = assign e X.env :: (assignEach es X.env).map (·.2) := by rfl) : PGs X (e :: es) (gCons t u) := by
  intro pins s σ H vs us Q I r h
  obtain ⟨v, vr, e1, h⟩ := h
  subst e1
  cases r with
  | cons r rr =>
    rw [hs]
    refine assignInOrder_cons (thn (h1 pins s σ H _ _ _ I r h) fun _ s1 ⟨σ1, H1, I1, q1⟩ => ?_)
    exact h2 pins s1 σ1 H1 _ _ Q I1 rr q1
/-- (a, b, ..) = a tuple of that length -/
def gTup (K : PySem.W.Frag) (n : Nat) (t : TGs) : TG := fun v σ H Q => ∃ a xs, v = .ref a ∧ SqT K H a xs ∧ xs.length = n ∧ t xs σ H Q
theorem pg_tup {es : List Expr} {k : Nat} {t : TGs} {n : Nat} (hc : X.calm = true) (h : PGs X es t)
    (hn : (assignEach es X.env).length = n := by rfl) (hst : (assignEach es X.env).findIdx? (·.1) = none := by rfl) : PG X (.Tuple es k pos) (gTup X.K n t) := by
  intro pins s σ H v u Q I r hw
  obtain ⟨a, xs, e1, hq, hl, hw⟩ := hw
  subst e1
  cases r
  obtain ⟨its, rv, ht, hz⟩ := I.tuple hq
  refine assign_Tuple_tuple (I.ok.hd hc) ht (by simp [hn, ← hl, rv.length]) hst fun h' hx => ?_
  have I1 : Inv X pins σ H { s with heap := h' } := I.kept (t' := s.toks) fun b o e => hx b o (Nat.ne_of_lt (Heap.lt_size e)) e
  exact h pins _ σ H xs _ Q I1 (by simpa using rv) hw
/-- o[i] = .. -/
def gSub (to ti : TE) (t : TSet) : TG := fun v σ H Q => to σ H fun o H1 => ti σ H1 fun i H2 => t o i v H2 fun H3 => Q σ H3
theorem pg_sub {o i : Expr} {to ti : TE} {t : TSet} (ho : PE X o to) (hi : PE X i ti) (hs : PSet X t)
    (ha : ∀ v, assign (.Subscript o i pos) X.env v = (do
      let ov ← holding [v] (eval o X.env)
      let iv ← holding [v, ov] (eval i X.env)
      standAt pos
      holding [v, ov, iv] (setItem ov iv v)
      release [v, ov, iv] []) := by intro _; rfl) : PG X (.Subscript o i pos) (gSub to ti t) := by
  intro pins s σ H v u Q I r h
  rw [ha]
  refine wpAny_bind (wpAny_holding (thn (ho pins s σ H _ I h) fun ov s1 ⟨x, H1, I1, r1, q1⟩ => ?_))
  refine wpAny_bind (wpAny_holding (thn (hi pins s1 σ H1 _ I1 q1) fun iv s2 ⟨y, H2, I2, r2, q2⟩ => ?_))
  refine wpAny_bind (wpAny_standAt (wpAny_bind (wpAny_holding (thn (hs pins s2 σ H2 x y v ov iv u _ I2 r1 r2 r q2) fun _ s3 ⟨H3, I3, q3⟩ => ?_))))
  exact wpAny_release ⟨σ, H3, I3, q3⟩
/-- target = value -/
def tAsg (te : TE) (g : TG) : TS := fun D σ H => te σ H fun x H1 => g x σ H1 D.nx
theorem ps_asg {tg e : Expr} {te : TE} {g : TG} (he : PE X e te) (hg : PG X tg g) (hs : swapsWithSole [tg] e pos.line X.env = pure false := by rfl) (hw : swappedStores [tg] e X.env = pure none := by rfl)
    (h1 : (assignEach [tg] X.env).map (·.2) = [assign tg X.env] := by rfl) : PS X (.Assign [tg] e pos) (tAsg te g) := by
  intro pins s σ H D I h
  refine wpAny_Assign_stores (thn (he pins s σ H _ I h) fun v s1 ⟨x, H1, I1, r1, q1⟩ => ?_) hs hw
  rw [h1]
  exact thn (hg pins s1 σ H1 x v _ I1 r1 q1) fun _ s2 q => q
/-- name = value -/
theorem ps_set {i : Nat} {x : Str} {e : Expr} {te : TE} {pos' : Pos} (hN : X.N.Nodup) (hi : X.N[i]? = some x) (hx : Loc X.env.scope x) (he : PE X e te) (hs : swapsWith e (some (.Name x pos')) pos.line X.env = pure false := by rfl) (hf : X.fn x = true ∨ X.env.scope.names.lookup x = some .local := by first | exact .inl rfl | exact .inr rfl | assumption) :
    PS X (.Assign [.Name x pos'] e pos) (tAsg te (gName i)) := by
  intro pins s σ H D I h
  refine wpAny_Assign_Name (thn (he pins s σ H _ I h) fun v s1 ⟨y, H1, I1, r1, q1⟩ => ?_) hs
  exact store_ok I1 hN hi hx r1 (fun s2 I2 => ⟨_, H1, I2, q1⟩) hf
/-- a, b = x, y with plain local names: stored from the right; the pair itself is not tracked (the opening rows as in PyProof/Rows/TupAssign.lean:23) -/
def tPar (i j : Nat) (ta : TA) : TS := fun D σ H => ta σ H fun vs H1 => ∃ v w, vs = [v, w] ∧ D.nx ((σ.set i (some v)).set j (some w)) H1
theorem ps_par {i j : Nat} {x y : Str} {a b : Expr} {ta : TA} {px py pt : Pos} {kt k2 pt2} (hc : X.calm = true) (hN : X.N.Nodup) (hi : X.N[i]? = some x) (hj : X.N[j]? = some y) (hij : i ≠ j)
    (hx : X.env.scope.names.lookup x = some .local) (hy : X.env.scope.names.lookup y = some .local) (ha : PA X [a, b] ta)
    (hw : swappedStores [.Tuple [.Name x px, .Name y py] kt pt] (.Tuple [a, b] k2 pt2) X.env = pure (some [x, y]))
    (hs : swapsWithSole [.Tuple [.Name x px, .Name y py] kt pt] (.Tuple [a, b] k2 pt2) pos.line X.env = pure false := by rfl) :
    PS X (.Assign [.Tuple [.Name x px, .Name y py] kt pt] (.Tuple [a, b] k2 pt2) pos) (tPar i j ta) := by
  intro pins s σ H D I h
  rw [exec_Assign_arm]
  refine wpAny_bind (wpAny_standAt ?_)
  rw [hs]
  refine wpAny_bind (wpAny_pure ?_)
  rw [if_neg (by decide)]
  refine wpAny_bind (Tuple_ (thn (ha _ pins s σ H _ I h) fun us s1 ⟨vs, H1, I1, r1, q1⟩ => ?_))
  obtain ⟨v, w, e1, q1⟩ := q1
  subst e1
  obtain ⟨u1, u2, rfl, rv, rw'⟩ : ∃ u1 u2, us = [u1, u2] ∧ RelV v u1 ∧ RelV w u2 := by
    cases r1 with
    | cons p q =>
      cases q with
      | cons p' q' =>
        cases q'
        exact ⟨_, _, rfl, p, p'⟩
  refine wpAny_newObj_type ?_ (by show 2 ≤ sizeLine; decide)
  have I2 : Inv X pins σ H1 { s1 with heap := s1.heap.push { cls := .type "tuple", data := .seq [u1, u2].toArray } } := I1.kept (t' := s1.toks) fun b o e => Heap.get?_push_of_some _ e
  rw [hw]
  refine wpAny_bind (wpAny_pure ?_)
  show wpAny (model X.prog X.w) X.A (do rule "assign.swapped-stores"; let items ← unpackItems (.ref s1.heap.objs.size) 2 none; assignInOrder [fun v => bindName X.env y v, fun v => bindName X.env x v] items.reverse; pure Flow.next) _ _ _
  refine wpAny_bind (wpAny_rule (wpAny_bind (unpackItems_tuple (items := #[u1, u2]) (I.ok.hd hc) (IsTup.new s1.heap _) fun h' hx' => ?_)))
  have I3 := I2.kept (h' := h') (t' := s1.toks) fun b o e => hx' b o (Nat.ne_of_lt (Heap.lt_size e)) e
  show wpAny _ _ (assignInOrder [fun v => bindName X.env y v, fun v => bindName X.env x v] [u2, u1] >>= fun _ => pure Flow.next) _ _ _
  refine wpAny_bind (assignInOrder_cons (wpAny_bindName (store_ok I3 hN hj (.inl hy) rw' (fun s2 I4 => ?_) (.inr hy))))
  refine assignInOrder_cons (wpAny_bindName (store_ok I4 hN hi (.inl hx) rv (fun s3 I5 => assignInOrder_nil (wpAny_pure ?_)) (.inr hx)))
  rw [List.set_comm _ _ (Ne.symm hij)] at I5
  exact ⟨_, H1, I5, q1⟩
/-- name op= e -/
def tAug (i : Nat) (te : TE) (ti : TIp) : TS := fun D σ H => ∃ x, σ[i]? = some (some x) ∧ te σ H fun y H1 => ti x y H1 fun z H2 => D.nx (σ.set i (some z)) H2
theorem ps_aug {i : Nat} {x : Str} {e : Expr} {te : TE} {op : Operator} {ti : TIp} {pos' : Pos} (hN : X.N.Nodup) (hi : X.N[i]? = some x) (hx : Loc X.env.scope x) (he : PE X e te) (ho : PIp X op ti) (hf : X.fn x = true ∨ X.env.scope.names.lookup x = some .local := by first | exact .inl rfl | exact .inr rfl | assumption) :
    PS X (.AugAssign (.Name x pos') op e pos) (tAug i te ti) := by
  intro pins s σ H D I h
  obtain ⟨v, e1, h⟩ := h
  obtain ⟨m, hn, hl⟩ := I.loc
  have vis : Vis X.env.scope x := by rcases hx with k | k; exact .inl k; exact .inr (.inl k)
  obtain ⟨u, r, l⟩ := hl i x v hi e1 vis
  refine wpAny_AugAssign_Name ?_
  have go : wpAny (model X.prog X.w) X.A (eval e X.env) (fun w s₂ => wpAny (model X.prog X.w) X.A (inplaceOp op u w) (fun r s₃ => wpAny (model X.prog X.w) X.A (storeName X.env x r) (fun _ => SP X pins D .next) X.xe s₃) X.xe s₂) X.xe s := by
    refine thn (he pins s σ H _ I h) fun w s1 ⟨y, H1, I1, r1, q1⟩ => ?_
    refine thn (ho pins s1 σ H1 v y u w _ I1 r r1 q1) fun z s2 ⟨zv, H2, I2, r2, q2⟩ => ?_
    exact store_ok I2 hN hi hx r2 (fun s3 I3 => ⟨_, H2, I3, q2⟩) hf
  rcases l with ⟨hk, hm⟩ | ⟨hk, c, hc, hcell⟩
  · exact wpAny_loadName_local I.ok.kind hk hn hm go
  · rcases hk with hk | hk
    · exact wpAny_loadName_cell I.ok.kind hk hc hcell go
    · rcases hx with k | k
      · have : X.env.scope.names.lookup x = some .free := hk
        rw [k] at this; cases this
      · have : X.env.scope.names.lookup x = some .free := hk
        rw [k] at this; cases this
/-- o[i] op= e -/
def tAugS (to ti te : TE) (tget : V → V → Hp → VK → Prop) (tip : TIp) (tset : TSet) : TS := fun D σ H => to σ H fun o H1 => ti σ H1 fun i H2 => tget o i H2 fun x H3 => te σ H3 fun y H4 => tip x y H4 fun z H5 => tset o i z H5 fun H6 => D.nx σ H6
/-- o[i], by values -/
def PGet (X : Cx) (t : V → V → Hp → VK → Prop) : Prop :=
  ∀ (pins : List (Addr × Obj)) (s : Shared) (σ : St) (H : Hp) (o i : V) (ov iv : Value) (Q : VK), Inv X pins σ H s → RelV o ov → RelV i iv → t o i H Q →
    wpAny (model X.prog X.w) X.A (getItem ov iv) (EP X pins σ Q) X.xe s
theorem ps_augS {o i e : Expr} {to ti te : TE} {tget : V → V → Hp → VK → Prop} {tip : TIp} {tset : TSet} {op : Operator} {tpos : Pos} (ho : PE X o to) (hi : PE X i ti) (hg : PGet X tget) (he : PE X e te) (hp : PIp X op tip) (hs : PSet X tset)
    (ha : ∀ ov iv new, augStore i ov iv new = (do holding [new, ov, iv] (setItem ov iv new); release [new, ov, iv] []; pure .next) := by intros; rfl) : PS X (.AugAssign (.Subscript o i tpos) op e pos) (tAugS to ti te tget tip tset) := by
  intro pins s σ H D I h
  refine wpAny_AugAssign_SubscriptAny (thn (ho pins s σ H _ I h) fun ov s1 ⟨x1, H1, I1, r1, q1⟩ => ?_) ha
  refine thn (hi pins s1 σ H1 _ I1 q1) fun iv s2 ⟨x2, H2, I2, r2, q2⟩ => ?_
  refine thn (hg pins s2 σ H2 x1 x2 ov iv _ I2 r1 r2 q2) fun old s3 ⟨x3, H3, I3, r3, q3⟩ => ?_
  refine thn (he pins s3 σ H3 _ I3 q3) fun v s4 ⟨x4, H4, I4, r4, q4⟩ => ?_
  refine thn (hp pins s4 σ H4 x3 x4 old v _ I4 r3 r4 q4) fun new s5 ⟨x5, H5, I5, r5, q5⟩ => ?_
  exact thn (hs pins s5 σ H5 x1 x2 x5 ov iv new _ I5 r1 r2 r5 q5) fun _ s6 ⟨H6, I6, q6⟩ => ⟨σ, H6, I6, q6⟩
/-- ints -/
def ipI (f : Int → Int → Int) : TIp := fun x y H Q => ∃ i j, x = .int i ∧ y = .int j ∧ Q (.int (f i j)) H
theorem ip_add : PIp X .Add (ipI fun i j => i + j) := by
  intro pins s σ H x y v u Q I r1 r2 h
  obtain ⟨i, j, e1, e2, q⟩ := h
  subst e1; subst e2
  obtain ⟨t, rfl⟩ := r1
  obtain ⟨t', rfl⟩ := r2
  exact iadd_int ⟨.int _, H, I.tok _, ⟨_, rfl⟩, q⟩
theorem ip_sub : PIp X .Sub (ipI fun i j => i - j) := by
  intro pins s σ H x y v u Q I r1 r2 h
  obtain ⟨i, j, e1, e2, q⟩ := h
  subst e1; subst e2
  obtain ⟨t, rfl⟩ := r1
  obtain ⟨t', rfl⟩ := r2
  exact isub_int ⟨.int _, H, I.tok _, ⟨_, rfl⟩, q⟩
end

/-! ### while -/
section
variable {X : Cx} {pos : Pos}
/-- the invariant W with its measure -/
def tWhile (c : TT) (tb : TS) : TS := fun D σ H => ∃ W : Nat → St → Hp → Prop, (∃ m, W m σ H) ∧ ∀ m σ H, W m σ H →
  c σ H fun b H1 => if b = true then ∃ N : St → Hp → Prop, (∀ σ' H', N σ' H' → ∃ m', m' < m ∧ W m' σ' H') ∧ tb { D with nx := N, ct := N, bk := D.nx } σ H1 else D.nx σ H1
theorem ps_while {c : Expr} {body : List Stmt} {tc : TT} {tb : TS} (hp : PassesOwn (model X.prog X.w) X.A X.env X.xe) (hc : PT X c tc) (hb : PSs X body tb) : PS X (.While c body [] pos) (tWhile tc tb) := by
  intro pins s σ H D I h
  obtain ⟨W, ⟨m0, w0⟩, turn⟩ := h
  refine wpAny_While (codeAny_whileLoop (fun n s' => ∃ σ' H', Inv X pins σ' H' s' ∧ W n σ' H') ?_ m0 ⟨σ, H, I, w0⟩)
  rintro n s1 ⟨σ1, H1, I1, w1⟩
  refine wpAny_passesOwn hp (thn (hc pins s1 σ1 H1 _ I1 (turn n σ1 H1 w1)) fun b s2 ⟨H2, I2, q2⟩ => ?_)
  cases b with
  | true =>
    obtain ⟨N, hN, q2⟩ := q2
    rw [if_pos rfl]
    refine wpAny_passesOwn hp (thn (hb pins s2 σ1 H2 _ I2 q2) fun f s3 q3 => ?_)
    cases f with
    | next =>
      obtain ⟨σ3, H3, I3, n3⟩ := q3
      obtain ⟨m', hm, w3⟩ := hN σ3 H3 n3
      exact ⟨m', hm, σ3, H3, I3, w3⟩
    | cont =>
      obtain ⟨σ3, H3, I3, n3⟩ := q3
      obtain ⟨m', hm, w3⟩ := hN σ3 H3 n3
      exact ⟨m', hm, σ3, H3, I3, w3⟩
    | brk => exact q3
    | ret v => exact q3
  | false =>
    rw [if_neg Bool.false_ne_true]
    exact wpAny_execs_nil ⟨σ1, H2, I2, q2⟩
end

/-! ### what a loop or a comprehension walks -/
/-- at turn i: it yields x (the heap may grow), or it stops -/
structure It where
  go : Nat → Hp → Prop
  yld : Nat → Hp → V → Hp → Prop
  stop : Nat → Hp → Prop
/-- the iterator's own objects may turn: they are not the frame's, not pinned, younger than the entry (or a comprehension's own) -/
def FpOk (X : Cx) (pins : List (Addr × Obj)) (H : Hp) (b : Addr) : Prop :=
  H b = none ∧ b ≠ X.env.locals ∧ b ∉ X.fs ∧ (b ∈ X.ex ∨ X.s_0.heap.objs.size ≤ b) ∧ (∀ x c, X.env.cells.lookup x = some c → c ≠ b) ∧ ∀ p ∈ X.pn ++ pins, p.1 ≠ b
theorem Inv.fpOk {X : Cx} {pins : List (Addr × Obj)} {σ : St} {H H' : Hp} {s : Shared} {b : Addr} (I : Inv X pins σ H s) (hb : s.heap.objs.size ≤ b) (hn : H' b = none) : FpOk X pins H' b := by
  refine ⟨hn, Nat.ne_of_gt (Nat.lt_of_lt_of_le I.lt hb), I.nofs hb, .inr (Nat.le_trans I.sz hb), fun x c e z => ?_, fun p hp z => ?_⟩
  · obtain ⟨v, q⟩ := I.cell x c e
    exact absurd (Nat.lt_of_lt_of_le q.lt (by rw [z]; exact hb)) (Nat.lt_irrefl _)
  · exact absurd (Nat.lt_of_lt_of_le (Heap.lt_size (I.pin p hp).1) (by rw [z]; exact hb)) (Nat.lt_irrefl _)
structure Turn (P : Program) (w : World) (K : PySem.W.Frag) (tg : Expr) (J : It) (fp : List Addr) (it : Addr) (tn : Nat → Heap → Prop) : Prop where
  mem : it ∈ fp
  obj : ∀ i h, tn i h → ∀ b ∈ fp, ∃ o, h.get? b = some o ∧ ∀ v, o.data ≠ .cell v
  keep : ∀ i h h', tn i h → (∀ b ∈ fp, ∀ o, h.get? b = some o → h'.get? b = some o) → tn i h'
  item : ∀ (X : Cx), X.prog = P → X.w = w → X.K = K → X.calm = true → ∀ (i : Nat) (pins : List (Addr × Obj)) (s : Shared) (σ : St) (H : Hp) (E : Value → Shared → Prop), Inv X pins σ H s → (∀ b ∈ fp, FpOk X pins H b) → tn i s.heap → J.go i H →
    wpAny (model P w) X.A (pyNext (.ref it)) (fun r s1 => ∃ u, r = some u ∧
      wpAny (model P w) X.A (letOwnedTupleGo tg (.ref it) u) (fun _ s2 => ∃ x H', Inv X pins σ H' s2 ∧ RelV x u ∧ J.yld i H x H' ∧ tn (i + 1) s2.heap ∧ ∀ b ∈ fp, H' b = none) E s1) E s
  done : ∀ (X : Cx), X.prog = P → X.w = w → X.K = K → X.calm = true → ∀ (i : Nat) (pins : List (Addr × Obj)) (s : Shared) (σ : St) (H : Hp) (E : Value → Shared → Prop), Inv X pins σ H s → (∀ b ∈ fp, FpOk X pins H b) → tn i s.heap → J.stop i H →
    wpAny (model P w) X.A (pyNext (.ref it)) (fun r s1 => r = none ∧ Inv X pins σ H s1) E s
  self : ∀ (A : Around) (i : Nat) (s : Shared) (Q : Value → Shared → Prop) (E : Value → Shared → Prop), tn i s.heap → Q (.ref it) s → wpAny (model P w) A (pyIter (.ref it)) Q E s
abbrev TI := St → Hp → (It → Hp → Prop) → Prop
/-- an iterator has come -/
def PIE (X : Cx) (pins : List (Addr × Obj)) (σ : St) (tg : Expr) (R : It → Hp → Prop) (itv : Value) (s2 : Shared) : Prop :=
  ∃ (it : Addr) (fp : List Addr) (tn : Nat → Heap → Prop) (J : It) (H' : Hp), itv = .ref it ∧ Inv X pins σ H' s2 ∧ Turn X.prog X.w X.K tg J fp it tn ∧ tn 0 s2.heap ∧ (∀ b ∈ fp, FpOk X pins H' b) ∧ R J H'
def PI (X : Cx) (tg iter : Expr) (wi : TI) : Prop :=
  ∀ (pins : List (Addr × Obj)) (s : Shared) (σ : St) (H : Hp) (R : It → Hp → Prop), Inv X pins σ H s → wi σ H R →
    wpAny (model X.prog X.w) X.A (eval iter X.env) (fun v s1 => wpAny (model X.prog X.w) X.A (pyIter v) (PIE X pins σ tg R) X.xe s1) X.xe s

/-- the step ahead of the store is nothing for an iterator that keeps no tuple -/
theorem go_of {M : Model} {A : Around} {E : Value → Shared → Prop} {s : Shared} {tg : Expr} {it : Addr} {u : Value} {o : Obj} {n : String} {vs : Array Value} {Q : Unit → Shared → Prop} (ho : s.heap.get? it = some o) (hc : o.cls = .type n) (hd : o.data = .fields vs)
    (hn : ["enumerate", "zip", "dict_itemiterator", "dict_reverseitemiterator", "odict_iterator", "itertools.zip_longest", "itertools.pairwise"].contains n = false) (hQ : Q () s) : wpAny M A (letOwnedTupleGo tg (.ref it) u) Q E s := by
  unfold letOwnedTupleGo
  cases tg <;> first
    | exact wpAny_pure hQ
    | (cases u <;> first
        | exact wpAny_pure hQ
        | (refine wpAny_bind (wpAny_load ho ?_)
           rw [hc, hd]
           show wpAny M A (if (["enumerate", "zip", "dict_itemiterator", "dict_reverseitemiterator", "odict_iterator", "itertools.zip_longest", "itertools.pairwise"].contains n && vs[0]? == some (rawInt _)) = true then _ else _) Q E s
           rw [if_neg (by intro h; rw [hn, Bool.false_and] at h; cases h)]
           exact wpAny_pure hQ))

/-- the list at a, as it stands at each turn (a loop may append to it) -/
def Itl (K : PySem.W.Frag) (a : Addr) : It :=
  ⟨fun i H => ∃ xs x, SqL K H a xs ∧ xs[i]? = some x, fun i H x H' => H' = H ∧ ∀ xs, SqL K H a xs → xs[i]? = some x, fun i H => ∃ xs, SqL K H a xs ∧ xs.length ≤ i⟩
def Itt (K : PySem.W.Frag) (a : Addr) : It :=
  ⟨fun i H => ∃ xs x, SqT K H a xs ∧ xs[i]? = some x, fun i H x H' => H' = H ∧ ∀ xs, SqT K H a xs → xs[i]? = some x, fun i H => ∃ xs, SqT K H a xs ∧ xs.length ≤ i⟩
/-- lo, lo + 1, .. (n of them) -/
def Itr (lo : Int) (n : Nat) : It := ⟨fun i _ => i < n, fun i H x H' => H' = H ∧ x = .int (lo + i), fun i _ => n ≤ i⟩
theorem turn_list {P : Program} {w : World} {K : PySem.W.Frag} {tg : Expr} (a it : Addr) : Turn P w K tg (Itl K a) [it] it (fun i h => h.IsListIter it a i) where
  mem := by simp
  obj := fun i h st b hb => by
    have e : b = it := by simpa using hb
    subst e
    obtain ⟨o, e, c, d⟩ := st
    exact ⟨o, e, fun v z => by rw [d] at z; cases z⟩
  keep := fun i h h' st k => st.at fun o e => k it (by simp) o e
  item := by
    intro X hP hw hK hc i pins s σ H E I hf st hg
    subst hP hw hK
    obtain ⟨xs, x, hq, hx⟩ := hg
    obtain ⟨its, rv, p, hz⟩ := I.list hq
    obtain ⟨u, hu, ru⟩ := rv.get hx
    obtain ⟨f0, f1, f2, f3, f4, f5⟩ := hf it (by simp)
    refine wpAny_pyNext_list_item st p.isList (x := u) (by simpa using hu) fun h' st' sb => ?_
    have I1 : Inv X pins σ H { s with heap := h' } := I.turned (t' := s.toks) (fun b o hb e => (sb.2 b hb).trans e) f0 f1 f3 f4 f5
    obtain ⟨o, e, c, d⟩ := id st'
    exact ⟨u, rfl, go_of (s := { s with heap := h' }) e c d (by decide) ⟨x, H, I1, ru, ⟨rfl, fun ys hy => by rw [I.list_inj hy hq]; exact hx⟩, st', fun b hb => (hf b hb).1⟩⟩
  done := by
    intro X hP hw hK hc i pins s σ H E I hf st hg
    subst hP hw hK
    obtain ⟨xs, hq, hx⟩ := hg
    obtain ⟨its, rv, p, hz⟩ := I.list hq
    obtain ⟨f0, f1, f2, f3, f4, f5⟩ := hf it (by simp)
    have hl := rv.length
    exact wpAny_pyNext_list_end (I.ok.hd hc) st p.isList (by simp; omega) fun h' eb => ⟨rfl, I.turned (t' := s.toks) (fun b o hb e => eb b o hb e) f0 f1 f3 f4 f5⟩
  self := fun _ _ _ _ _ st h => wpAny_pyIter_listiter st h
theorem turn_tuple {P : Program} {w : World} {K : PySem.W.Frag} {tg : Expr} (a it : Addr) : Turn P w K tg (Itt K a) [it] it (fun i h => h.IsTupleIter it a i) where
  mem := by simp
  obj := fun i h st b hb => by
    have e : b = it := by simpa using hb
    subst e
    obtain ⟨o, e, c, d⟩ := st
    exact ⟨o, e, fun v z => by rw [d] at z; cases z⟩
  keep := fun i h h' st k => st.at fun o e => k it (by simp) o e
  item := by
    intro X hP hw hK hc i pins s σ H E I hf st hg
    subst hP hw hK
    obtain ⟨xs, x, hq, hx⟩ := hg
    obtain ⟨its, rv, p, hz⟩ := I.tuple hq
    obtain ⟨u, hu, ru⟩ := rv.get hx
    obtain ⟨f0, f1, f2, f3, f4, f5⟩ := hf it (by simp)
    refine wpAny_pyNext_tuple_item st (show s.heap.IsTuple a its.toArray from p) (x := u) (by simpa using hu) fun h' st' sb => ?_
    have I1 : Inv X pins σ H { s with heap := h' } := I.turned (t' := s.toks) (fun b o hb e => (sb.2 b hb).trans e) f0 f1 f3 f4 f5
    obtain ⟨o, e, c, d⟩ := id st'
    exact ⟨u, rfl, go_of (s := { s with heap := h' }) e c d (by decide) ⟨x, H, I1, ru, ⟨rfl, fun ys hy => by rw [I.tuple_inj hy hq]; exact hx⟩, st', fun b hb => (hf b hb).1⟩⟩
  done := by
    intro X hP hw hK hc i pins s σ H E I hf st hg
    subst hP hw hK
    obtain ⟨xs, hq, hx⟩ := hg
    obtain ⟨its, rv, p, hz⟩ := I.tuple hq
    obtain ⟨f0, f1, f2, f3, f4, f5⟩ := hf it (by simp)
    have hl := rv.length
    exact wpAny_pyNext_tuple_end (I.ok.hd hc) st (show s.heap.IsTuple a its.toArray from p) (by simp; omega) fun h' eb => ⟨rfl, I.turned (t' := s.toks) (fun b o hb e => eb b o hb e) f0 f1 f3 f4 f5⟩
  self := fun _ _ _ _ _ st h => wpAny_pyIter_tupleiter st h
theorem turn_range {P : Program} {w : World} {K : PySem.W.Frag} {tg : Expr} (it : Addr) (lo : Int) (n : Nat) : Turn P w K tg (Itr lo n) [it] it (fun i h => IsRangeIter h it (lo + (i : Nat) * 1) ((n : Int) - (i : Nat)) 1) where
  mem := by simp
  obj := fun i h st b hb => by
    have e : b = it := by simpa using hb
    subst e
    exact ⟨_, st, fun v z => by
      have z' : Data.fields _ = Data.cell v := z
      cases z'⟩
  keep := fun i h h' st k => k it (by simp) _ st
  item := by
    intro X hP hw hK hc i pins s σ H E I hf st hg
    subst hP hw hK
    obtain ⟨f0, f1, f2, f3, f4, f5⟩ := hf it (by simp)
    have W := Walks.range (prog := X.prog) (w := X.w) (I.ok.hd hc) it lo 1 n
    refine W.item i s _ _ hg st fun v h' tk hv st' kk => ?_
    obtain ⟨t, rfl⟩ := hv
    have I1 : Inv X pins σ H { s with heap := h', toks := tk } := I.turned (fun b o hb e => kk b o (by simpa using hb) e) f0 f1 f3 f4 f5
    refine ⟨_, rfl, go_of (s := { s with heap := h', toks := tk }) (n := "range_iterator") st' rfl rfl (by decide) ⟨.int (lo + i), H, I1, ⟨t, ?_⟩, ⟨rfl, rfl⟩, st', fun b hb => (hf b hb).1⟩⟩
    rw [Int.mul_one]
  done := by
    intro X hP hw hK hc i pins s σ H E I hf st hg
    subst hP hw hK
    obtain ⟨f0, f1, f2, f3, f4, f5⟩ := hf it (by simp)
    exact wpAny_pyNext_range_end (I.ok.hd hc) st (by have : n ≤ i := hg; omega) fun h' eb => ⟨rfl, I.turned (t' := s.toks) (fun b o hb e => eb b o hb e) f0 f1 f3 f4 f5⟩
  self := fun _ _ _ _ _ st h => wpAny_pyIter_rangeiter st h
end L2

namespace L2
open PySem PySem.Spec PyProof.Rows
section
variable {X : Cx} {tg : Expr}
def iList (K : PySem.W.Frag) (tl : TE) : TI := fun σ H R => tl σ H fun x H1 => ∃ a, x = .ref a ∧ (∃ xs, SqL K H1 a xs) ∧ R (Itl K a) H1
def iTup (K : PySem.W.Frag) (tl : TE) : TI := fun σ H R => tl σ H fun x H1 => ∃ a, x = .ref a ∧ (∃ xs, SqT K H1 a xs) ∧ R (Itt K a) H1
theorem pi_list {l : Expr} {tl : TE} (hl : PE X l tl) : PI X tg l (iList X.K tl) := by
  intro pins s σ H R I h
  refine thn (hl pins s σ H _ I h) fun v s1 ⟨x, H1, I1, r1, q1⟩ => ?_
  obtain ⟨a, e, ⟨xs, hq⟩, q⟩ := q1
  subst e
  cases r1
  obtain ⟨its, rv, p, hz⟩ := I1.list hq
  refine wpAny_pyIter_list p.isList ?_
  refine ⟨s1.heap.objs.size, [s1.heap.objs.size], _, _, H1, rfl, I1.kept (t' := s1.toks) fun b o e => Heap.get?_push_of_some _ e, turn_list a _, ⟨_, Heap.get?_push_size _ rfl, rfl, rfl⟩, fun b hb => ?_, q⟩
  have e : b = s1.heap.objs.size := by simpa using hb
  subst e
  exact I1.fpOk (Nat.le_refl _) (I1.hok.fresh (Nat.le_refl _))
theorem pi_tup {l : Expr} {tl : TE} (hl : PE X l tl) : PI X tg l (iTup X.K tl) := by
  intro pins s σ H R I h
  refine thn (hl pins s σ H _ I h) fun v s1 ⟨x, H1, I1, r1, q1⟩ => ?_
  obtain ⟨a, e, ⟨xs, hq⟩, q⟩ := q1
  subst e
  cases r1
  obtain ⟨its, rv, p, hz⟩ := I1.tuple hq
  refine wpAny_pyIter_tuple (show s1.heap.IsTuple a its.toArray from p) ?_
  refine ⟨s1.heap.objs.size, [s1.heap.objs.size], _, _, H1, rfl, I1.kept (t' := s1.toks) fun b o e => Heap.get?_push_of_some _ e, turn_tuple a _, ⟨_, Heap.get?_push_size _ rfl, rfl, rfl⟩, fun b hb => ?_, q⟩
  have e : b = s1.heap.objs.size := by simpa using hb
  subst e
  exact I1.fpOk (Nat.le_refl _) (I1.hok.fresh (Nat.le_refl _))
/-- a range object just made, walked -/
theorem range_it {pins : List (Addr × Obj)} {σ : St} {H : Hp} {s : Shared} {R : It → Hp → Prop} {E : Value → Shared → Prop} {lo hi : Int} {t u v : Tok} {tk : Nat} (I : Inv X pins σ H s) (h1 : -(2 ^ 62) ≤ lo) (h2 : lo < 2 ^ 62) (h3 : -(2 ^ 62) ≤ hi) (h4 : hi < 2 ^ 62)
    (q : R (Itr lo (hi - lo).toNat) H) : wpAny (model X.prog X.w) X.A (pyIter (.ref s.heap.objs.size)) (PIE X pins σ tg R) E { s with heap := s.heap.push { cls := .type "range", data := .fields #[.int lo t, .int hi u, .int 1 v] }, toks := tk } := by
  refine wpAny_pyIter_range (IsRange.new ..) (small_one h1 h2 h3 h4) ?_
  have I1 : Inv X pins σ H { s with heap := s.heap.push { cls := .type "range", data := .fields #[.int lo t, .int hi u, .int 1 v] }, toks := tk } := I.kept fun b o e => Heap.get?_push_of_some _ e
  refine ⟨(s.heap.push { cls := .type "range", data := .fields #[.int lo t, .int hi u, .int 1 v] }).objs.size, [(s.heap.push { cls := .type "range", data := .fields #[.int lo t, .int hi u, .int 1 v] }).objs.size], _, _, H, rfl,
    I1.kept (t' := tk) fun b o e => Heap.get?_push_of_some _ e, turn_range _ lo (hi - lo).toNat, ?_, fun b hb => ?_, q⟩
  · have e1 : lo + ((0 : Nat) : Int) * 1 = lo := by simp
    have e2 : (((hi - lo).toNat : Nat) : Int) - ((0 : Nat) : Int) = Builtin.Range.rangeSize lo hi 1 := by rw [rangeSize_one]; split <;> omega
    show IsRangeIter _ _ (lo + ((0 : Nat) : Int) * 1) ((((hi - lo).toNat : Nat) : Int) - ((0 : Nat) : Int)) 1
    rw [e1, e2]
    exact Heap.get?_push_size _ rfl
  · have e : b = (s.heap.push { cls := .type "range", data := .fields #[.int lo t, .int hi u, .int 1 v] }).objs.size := by simpa using hb
    subst e
    exact I1.fpOk (Nat.le_refl _) (I1.hok.fresh (Nat.le_refl _))
def iRng1 (ta : TA) : TI := fun σ H R => ta σ H fun vs H1 => ∃ j : Int, vs = [.int j] ∧ -(2 ^ 62) ≤ j ∧ j < 2 ^ 62 ∧ R (Itr 0 j.toNat) H1
def iRng2 (ta : TA) : TI := fun σ H R => ta σ H fun vs H1 => ∃ i j : Int, vs = [.int i, .int j] ∧ (-(2 ^ 62) ≤ i ∧ i < 2 ^ 62 ∧ -(2 ^ 62) ≤ j ∧ j < 2 ^ 62) ∧ R (Itr i (j - i).toNat) H1
theorem pi_range1 {a : Expr} {ta : TA} {p pos : Pos} (hg : Gl X "range") (hm : X.mg "range" = none) (ha : PA X [a] ta) (hs : starEach [a] X.env = [(false, eval a X.env)] := by rfl) : PI X tg (.Call (.Name "range" p) [a] [] pos) (iRng1 ta) := by
  intro pins s σ H R I h
  refine Call_ (ld_blt I hg hm boot_range (PyProof.Rows.callWith_type1 (thn (ha pos pins s σ H _ I h) fun us s1 ⟨vs, H1, I1, r1, q1⟩ => ?_) hs rfl))
  obtain ⟨j, e, q1, q2, q⟩ := q1
  subst e
  cases r1 with
  | cons r rr =>
    cases rr
    obtain ⟨t, rfl⟩ := r
    exact call_range_1 (range_it I1 (by omega) (by omega) q1 q2 (by simpa using q))
theorem pi_range2 {a b : Expr} {ta : TA} {p pos : Pos} (hg : Gl X "range") (hm : X.mg "range" = none) (ha : PA X [a, b] ta) (hs : starEach [a, b] X.env = [(false, eval a X.env), (false, eval b X.env)] := by rfl) (hs2 : starEach [b] X.env = [(false, eval b X.env)] := by rfl) :
    PI X tg (.Call (.Name "range" p) [a, b] [] pos) (iRng2 ta) := by
  intro pins s σ H R I h
  refine Call_ (ld_blt I hg hm boot_range (PyProof.Rows.callWith_type1 (thn (ha pos pins s σ H _ I h) fun us s1 ⟨vs, H1, I1, r1, q1⟩ => ?_) (by rw [hs, hs2]) (by rw [hs2]; rfl)))
  obtain ⟨i, j, e, ⟨q1, q2, q3, q4⟩, q⟩ := q1
  subst e
  cases r1 with
  | cons r rr =>
    cases rr with
    | cons r' rr =>
      cases rr
      obtain ⟨t, rfl⟩ := r
      obtain ⟨t', rfl⟩ := r'
      exact call_range_2 (range_it I1 q1 q2 q3 q4 q)

/-! ### for -/
/-- W: the invariant by the turn and a measure; N: what the body is to reach -/
def tFor (wi : TI) (g : TG) (tb : TS) : TS := fun D σ H => wi σ H fun J H1 => ∃ W : Nat → Nat → St → Hp → Prop, (∃ m, W 0 m σ H1) ∧ ∀ i m σ H, W i m σ H →
  (J.stop i H ∧ D.nx σ H) ∨ (J.go i H ∧ ∃ N : St → Hp → Prop, (∀ σ' H', N σ' H' → ∃ m', m' < m ∧ W (i + 1) m' σ' H') ∧ ∀ x H', J.yld i H x H' → g x σ H' fun σ2 H2 => tb { D with nx := N, ct := N, bk := D.nx } σ2 H2)
/-- the records at fp as they stand -/
def pinsAt (fp : List Addr) (h : Heap) : List (Addr × Obj) := fp.filterMap fun b => (h.get? b).map fun o => (b, o)
theorem mem_pinsAt {fp : List Addr} {h : Heap} {b : Addr} {o : Obj} (hb : b ∈ fp) (e : h.get? b = some o) : (b, o) ∈ pinsAt fp h := List.mem_filterMap.mpr ⟨b, hb, by rw [e]; rfl⟩
theorem of_pinsAt {fp : List Addr} {h : Heap} {p : Addr × Obj} (hp : p ∈ pinsAt fp h) : p.1 ∈ fp ∧ h.get? p.1 = some p.2 := by
  obtain ⟨b, hb, e⟩ := List.mem_filterMap.mp hp
  cases q : h.get? b with
  | none => rw [q] at e; cases e
  | some o =>
    rw [q] at e
    have e' : (b, o) = p := Option.some.inj e
    subst e'
    exact ⟨hb, q⟩
theorem Inv.pinned {pins : List (Addr × Obj)} {σ : St} {H : Hp} {s : Shared} {fp : List Addr} (I : Inv X pins σ H s) (hf : ∀ b ∈ fp, FpOk X pins H b) (ho : ∀ b ∈ fp, ∃ o, s.heap.get? b = some o ∧ ∀ v, o.data ≠ .cell v) : Inv X (pins ++ pinsAt fp s.heap) σ H s :=
  I.pins_of fun p hp => (List.mem_append.mp hp).elim (fun z => I.pin p (List.mem_append_right _ z)) fun z => by
    obtain ⟨hb, e⟩ := of_pinsAt z
    obtain ⟨f0, f1, f2, _⟩ := hf p.1 hb
    obtain ⟨o, e', d⟩ := ho p.1 hb
    rw [e] at e'; cases e'
    exact ⟨e, f0, f1, f2, d⟩
theorem Inv.unpinned {pins pl : List (Addr × Obj)} {σ : St} {H : Hp} {s : Shared} (I : Inv X (pins ++ pl) σ H s) : Inv X pins σ H s := I.pins_of fun p hp => I.pin p (List.mem_append_right _ (List.mem_append_left _ hp))
theorem ps_for {iter : Expr} {body : List Stmt} {wi : TI} {g : TG} {tb : TS} {pos : Pos} (hp : PassesOwn (model X.prog X.w) X.A X.env X.xe) (hc : X.calm = true) (hi : PI X tg iter wi) (hg : PG X tg g) (hb : PSs X body tb)
    (hs : ∀ x, foldedSetIterable iter X.env x = pure x := by intro _; rfl) : PS X (.For tg iter body [] pos) (tFor wi g tb) := by
  intro pins s σ H D I h
  refine wpAny_For (thn (hi pins s σ H _ I h) fun v s1 h1 => thn h1 fun itv s2 h2 => ?_) hs
  obtain ⟨it, fp, tn, J, H2, e, I2, T, st2, f2, W, ⟨m0, w0⟩, turn⟩ := h2
  subst e
  -- what stays true of the iterator's objects through the loop
  have stat : ∀ {H' : Hp}, (∀ b ∈ fp, H' b = none) → ∀ b ∈ fp, FpOk X pins H' b := fun hn b hb => ⟨hn b hb, (f2 b hb).2⟩
  refine codeAny_forLoop_any (fun n s' => ∃ i σ' H', Inv X pins σ' H' s' ∧ tn i s'.heap ∧ (∀ b ∈ fp, H' b = none) ∧ W i n σ' H') ?_ m0 ⟨0, σ, H2, I2, st2, fun b hb => (f2 b hb).1, w0⟩
  rintro n s3 ⟨i, σ3, H3, I3, st3, fr3, w3⟩
  rcases turn i n σ3 H3 w3 with ⟨stop, qn⟩ | ⟨go, N, hN, step⟩
  · refine wpAny_passesOwn hp (thn (T.done X rfl rfl rfl hc i pins s3 σ3 H3 X.xe I3 (stat fr3) st3 stop) fun r s4 ⟨hr, I4⟩ => ?_)
    subst hr
    exact wpAny_execs_nil ⟨σ3, H3, I4, qn⟩
  · refine wpAny_passesOwn hp (thn (T.item X rfl rfl rfl hc i pins s3 σ3 H3 X.xe I3 (stat fr3) st3 go) fun r s4 ⟨u, hr, h4⟩ => ?_)
    subst hr
    refine wpAny_passesOwn hp (thn h4 fun _ s5 ⟨x, H5, I5, r5, y5, st5, fr5⟩ => ?_)
    have I5' := I5.pinned (stat fr5) (T.obj _ _ st5)
    refine wpAny_passesOwn hp (thn (hg _ s5 σ3 H5 x u _ I5' r5 (step x H5 y5)) fun _ s6 ⟨σ6, H6, I6, q6⟩ => ?_)
    refine wpAny_passesOwn hp (thn (hb _ s6 σ6 H6 _ I6 q6) fun f s7 q7 => ?_)
    have again : ∀ {σ7 : St} {H7 : Hp}, Inv X (pins ++ pinsAt fp s5.heap) σ7 H7 s7 → N σ7 H7 → ∃ m, m < n ∧ ∃ i σ' H', Inv X pins σ' H' s7 ∧ tn i s7.heap ∧ (∀ b ∈ fp, H' b = none) ∧ W i m σ' H' := fun {σ7 H7} I7 n7 => by
      obtain ⟨m', hm, w7⟩ := hN σ7 H7 n7
      refine ⟨m', hm, i + 1, σ7, H7, I7.unpinned, T.keep _ _ _ st5 fun b hb o e => (I7.pin (b, o) (List.mem_append_right _ (List.mem_append_right _ (mem_pinsAt hb e)))).1, fun b hb => ?_, w7⟩
      obtain ⟨o, e, d⟩ := T.obj _ _ st5 b hb
      exact (I7.pin (b, o) (List.mem_append_right _ (List.mem_append_right _ (mem_pinsAt hb e)))).2.1
    cases f with
    | next => obtain ⟨σ7, H7, I7, n7⟩ := q7; exact again I7 n7
    | cont => obtain ⟨σ7, H7, I7, n7⟩ := q7; exact again I7 n7
    | brk => obtain ⟨σ7, H7, I7, q7⟩ := q7; exact ⟨σ7, H7, I7.unpinned, q7⟩
    | ret v => obtain ⟨x7, σ7, H7, I7, r7, q7⟩ := q7; exact ⟨x7, σ7, H7, I7.unpinned, r7, q7⟩
end

/-! ### the forms one uses -/
/-- over a list that the body leaves as it is -/
theorem for_list {K : PySem.W.Frag} {a : Addr} {xs : List V} {g : TG} {tb : TS} {D : Ends} {σ : St} {H : Hp} (Pv : Nat → St → Hp → Prop) (h0 : Pv 0 σ H) (hl : ∀ i σ H, i ≤ xs.length → Pv i σ H → SqL K H a xs)
    (hs : ∀ i x σ H, xs[i]? = some x → Pv i σ H → g x σ H fun σ2 H2 => tb { D with nx := Pv (i + 1), ct := Pv (i + 1), bk := D.nx } σ2 H2) (hd : ∀ σ H, Pv xs.length σ H → D.nx σ H) :
    ∃ W : Nat → Nat → St → Hp → Prop, (∃ m, W 0 m σ H) ∧ ∀ i m σ H, W i m σ H →
      ((Itl K a).stop i H ∧ D.nx σ H) ∨ ((Itl K a).go i H ∧ ∃ N : St → Hp → Prop, (∀ σ' H', N σ' H' → ∃ m', m' < m ∧ W (i + 1) m' σ' H') ∧ ∀ x H', (Itl K a).yld i H x H' → g x σ H' fun σ2 H2 => tb { D with nx := N, ct := N, bk := D.nx } σ2 H2) := by
  refine ⟨fun i m σ H => m = xs.length - i ∧ i ≤ xs.length ∧ Pv i σ H, ⟨xs.length, by simp, Nat.zero_le _, h0⟩, ?_⟩
  rintro i m σ H ⟨rfl, hi, p⟩
  have q := hl i σ H hi p
  by_cases hlt : i < xs.length
  · refine .inr ⟨⟨xs, xs[i], q, by simp [hlt]⟩, Pv (i + 1), fun σ' H' p' => ⟨xs.length - (i + 1), by omega, rfl, hlt, p'⟩, fun x H' y => ?_⟩
    obtain ⟨e, y⟩ := y
    subst e
    exact hs i x σ _ (y xs q) p
  · have e : i = xs.length := by omega
    subst e
    exact .inl ⟨⟨xs, q, Nat.le_refl _⟩, hd σ H p⟩
theorem for_tup {K : PySem.W.Frag} {a : Addr} {xs : List V} {g : TG} {tb : TS} {D : Ends} {σ : St} {H : Hp} (Pv : Nat → St → Hp → Prop) (h0 : Pv 0 σ H) (hl : ∀ i σ H, i ≤ xs.length → Pv i σ H → SqT K H a xs)
    (hs : ∀ i x σ H, xs[i]? = some x → Pv i σ H → g x σ H fun σ2 H2 => tb { D with nx := Pv (i + 1), ct := Pv (i + 1), bk := D.nx } σ2 H2) (hd : ∀ σ H, Pv xs.length σ H → D.nx σ H) :
    ∃ W : Nat → Nat → St → Hp → Prop, (∃ m, W 0 m σ H) ∧ ∀ i m σ H, W i m σ H →
      ((Itt K a).stop i H ∧ D.nx σ H) ∨ ((Itt K a).go i H ∧ ∃ N : St → Hp → Prop, (∀ σ' H', N σ' H' → ∃ m', m' < m ∧ W (i + 1) m' σ' H') ∧ ∀ x H', (Itt K a).yld i H x H' → g x σ H' fun σ2 H2 => tb { D with nx := N, ct := N, bk := D.nx } σ2 H2) := by
  refine ⟨fun i m σ H => m = xs.length - i ∧ i ≤ xs.length ∧ Pv i σ H, ⟨xs.length, by simp, Nat.zero_le _, h0⟩, ?_⟩
  rintro i m σ H ⟨rfl, hi, p⟩
  have q := hl i σ H hi p
  by_cases hlt : i < xs.length
  · refine .inr ⟨⟨xs, xs[i], q, by simp [hlt]⟩, Pv (i + 1), fun σ' H' p' => ⟨xs.length - (i + 1), by omega, rfl, hlt, p'⟩, fun x H' y => ?_⟩
    obtain ⟨e, y⟩ := y
    subst e
    exact hs i x σ _ (y xs q) p
  · have e : i = xs.length := by omega
    subst e
    exact .inl ⟨⟨xs, q, Nat.le_refl _⟩, hd σ H p⟩
theorem for_range {lo : Int} {n : Nat} {g : TG} {tb : TS} {D : Ends} {σ : St} {H : Hp} (Pv : Nat → St → Hp → Prop) (h0 : Pv 0 σ H)
    (hs : ∀ i σ H, i < n → Pv i σ H → g (.int (lo + i)) σ H fun σ2 H2 => tb { D with nx := Pv (i + 1), ct := Pv (i + 1), bk := D.nx } σ2 H2) (hd : ∀ σ H, Pv n σ H → D.nx σ H) :
    ∃ W : Nat → Nat → St → Hp → Prop, (∃ m, W 0 m σ H) ∧ ∀ i m σ H, W i m σ H →
      ((Itr lo n).stop i H ∧ D.nx σ H) ∨ ((Itr lo n).go i H ∧ ∃ N : St → Hp → Prop, (∀ σ' H', N σ' H' → ∃ m', m' < m ∧ W (i + 1) m' σ' H') ∧ ∀ x H', (Itr lo n).yld i H x H' → g x σ H' fun σ2 H2 => tb { D with nx := N, ct := N, bk := D.nx } σ2 H2) := by
  refine ⟨fun i m σ H => m = n - i ∧ i ≤ n ∧ Pv i σ H, ⟨n, by simp, Nat.zero_le _, h0⟩, ?_⟩
  rintro i m σ H ⟨rfl, hi, p⟩
  by_cases hlt : i < n
  · refine .inr ⟨hlt, Pv (i + 1), fun σ' H' p' => ⟨n - (i + 1), by omega, rfl, hlt, p'⟩, fun x H' y => ?_⟩
    obtain ⟨e, y⟩ := y
    subst e y
    exact hs i σ _ hlt p
  · have e : i = n := by omega
    subst e
    exact .inl ⟨Nat.le_refl _, hd σ H p⟩
/-- while, by a word and a measure of the state -/
theorem while_by {c : TT} {tb : TS} {D : Ends} {σ : St} {H : Hp} (Pv : St → Hp → Prop) (μ : St → Hp → Nat) (h0 : Pv σ H)
    (hs : ∀ σ H, Pv σ H → c σ H fun b H1 => if b = true then tb { D with nx := fun σ' H' => Pv σ' H' ∧ μ σ' H' < μ σ H, ct := fun σ' H' => Pv σ' H' ∧ μ σ' H' < μ σ H, bk := D.nx } σ H1 else D.nx σ H1)
    (mono : ∀ σ H Q Q', (∀ b H1, Q b H1 → Q' b H1) → c σ H Q → c σ H Q') : tWhile c tb D σ H := by
  refine ⟨fun m σ H => m = μ σ H ∧ Pv σ H, ⟨_, rfl, h0⟩, ?_⟩
  rintro m σ H ⟨rfl, p⟩
  refine mono σ H _ _ (fun b H1 q => ?_) (hs σ H p)
  cases b with
  | true => exact ⟨_, fun σ' H' ⟨p', l⟩ => ⟨_, l, rfl, p'⟩, q⟩
  | false => exact q
end L2

namespace L2
open PySem PySem.Spec PyProof.Rows

abbrev R2 := V → V → Hp → VK → Prop
/-- a two-place operation on values: f is binaryOp op, inplaceOp op or compareOp op -/
def OpR (X : Cx) (f : Value → Value → Sem Value) (r : R2) : Prop :=
  ∀ (pins : List (Addr × Obj)) (s : Shared) (σ : St) (H : Hp) (x y : V) (v u : Value) (Q : VK), Inv X pins σ H s → RelV x v → RelV y u → r x y H Q →
    wpAny (model X.prog X.w) X.A (f v u) (EP X pins σ Q) X.xe s
/-- a one-place operation -/
def UnR (X : Cx) (f : Value → Sem Value) (r : V → Hp → VK → Prop) : Prop :=
  ∀ (pins : List (Addr × Obj)) (s : Shared) (σ : St) (H : Hp) (x : V) (v : Value) (Q : VK), Inv X pins σ H s → RelV x v → r x H Q →
    wpAny (model X.prog X.w) X.A (f v) (EP X pins σ Q) X.xe s
/-- a call of a value that is known (a builtin, a type) with values -/
def CallR (X : Cx) (f : Value) (r : List V → Hp → VK → Prop) : Prop :=
  ∀ (pins : List (Addr × Obj)) (s : Shared) (σ : St) (H : Hp) (xs : List V) (us : List Value) (Q : VK), Inv X pins σ H s → Vals xs us → r xs H Q →
    wpAny (model X.prog X.w) X.A (call f us) (EP X pins σ Q) X.xe s
/-- a value's truth -/
def TruR (X : Cx) (r : V → Hp → (Bool → Hp → Prop) → Prop) : Prop :=
  ∀ (pins : List (Addr × Obj)) (s : Shared) (σ : St) (H : Hp) (x : V) (v : Value) (Q : Bool → Hp → Prop), Inv X pins σ H s → RelV x v → r x H Q →
    wpAny (model X.prog X.w) X.A (truthy v) (TP X pins σ Q) X.xe s

def tOp (r : R2) (ta tb : TE) : TE := fun σ H Q => ta σ H fun x H1 => tb σ H1 fun y H2 => r x y H2 Q
def tUn (r : V → Hp → VK → Prop) (ta : TE) : TE := fun σ H Q => ta σ H fun x H1 => r x H1 Q
/-- ints in, under C, and a value out -/
def rI (C : Int → Int → Prop) (g : Int → Int → V) : R2 := fun x y H Q => ∃ i j, x = .int i ∧ y = .int j ∧ C i j ∧ Q (g i j) H
def rI0 (g : Int → Int → V) : R2 := fun x y H Q => ∃ i j, x = .int i ∧ y = .int j ∧ Q (g i j) H
def rU (g : Int → V) : V → Hp → VK → Prop := fun x H Q => ∃ i, x = .int i ∧ Q (g i) H

section
variable {X : Cx} {a b c : Expr} {ta tb tc : TE} {pos : Pos}

theorem binT (ha : PE X a ta) (hb : PE X b tb) {pins : List (Addr × Obj)} {s : Shared} {σ : St} {H : Hp} {R : V → V → Hp → Prop} (I : Inv X pins σ H s)
    (h : ta σ H fun x H1 => tb σ H1 fun y H2 => R x y H2) {Q : Value → Shared → Prop} {f : Value → Value → Sem Value}
    (hf : ∀ v u s2 x y H2, Inv X pins σ H2 s2 → RelV x v → RelV y u → R x y H2 → wpAny (model X.prog X.w) X.A (f v u) Q X.xe s2) :
    wpAny (model X.prog X.w) X.A (eval a X.env) (fun v s₁ => wpAny (model X.prog X.w) X.A (eval b X.env) (fun u s₂ => wpAny (model X.prog X.w) X.A (f v u) Q X.xe s₂) X.xe s₁) X.xe s := by
  refine thn (ha pins s σ H _ I h) fun v s1 ⟨x, H1, I1, r1, q1⟩ => ?_
  refine thn (hb pins s1 σ H1 _ I1 q1) fun u s2 ⟨y, H2, I2, r2, q2⟩ => ?_
  exact hf v u s2 x y H2 I2 r1 r2 q2

theorem pe_op {op : Operator} {r : R2} (ho : OpR X (binaryOp op) r) (ha : PE X a ta) (hb : PE X b tb) : PE X (.BinOp a op b pos) (tOp r ta tb) := by
  intro pins s σ H Q I h
  exact wpAny_BinOp (binT ha hb I h fun v u s2 x y H2 I2 rx ry q => ho pins s2 σ H2 x y v u Q I2 rx ry q)
theorem pe_un {op : UnaryOp} {r : V → Hp → VK → Prop} (ho : UnR X (unaryOp op) r) (ha : PE X a ta) : PE X (.UnaryOp op a pos) (tUn r ta) := by
  intro pins s σ H Q I h
  exact UnaryOp_ (thn (ha pins s σ H _ I h) fun v s1 ⟨x, H1, I1, r1, q1⟩ => ho pins s1 σ H1 x v Q I1 r1 q1)
/-- a op= e at a name: the name's slot i -/
theorem augR {op : Operator} {r : R2} (ho : OpR X (inplaceOp op) r) {pins : List (Addr × Obj)} {s : Shared} {σ : St} {H : Hp} {x y : V} {v u : Value} {Q : VK} (I : Inv X pins σ H s)
    (rx : RelV x v) (ry : RelV y u) (q : r x y H Q) : wpAny (model X.prog X.w) X.A (inplaceOp op v u) (EP X pins σ Q) X.xe s := ho pins s σ H x y v u Q I rx ry q

/-! ### ints -/
theorem opI {f : Value → Value → Sem Value} {C : Int → Int → Prop} {g : Int → Int → Int}
    (rule : ∀ (i j : Int) (t u : Tok) (s : Shared) (Q : Value → Shared → Prop) (E : Value → Shared → Prop), C i j → Q (.int (g i j) s.toks) { s with toks := s.toks + 1 } → wpAny (model X.prog X.w) X.A (f (.int i t) (.int j u)) Q E s) :
    OpR X f (rI C fun i j => .int (g i j)) := by
  intro pins s σ H x y v u Q I rx ry h
  obtain ⟨i, j, rfl, rfl, hc, q⟩ := h
  obtain ⟨t, rfl⟩ := rx
  obtain ⟨t', rfl⟩ := ry
  exact rule i j t t' s _ _ hc ⟨.int (g i j), H, I.tok _, ⟨_, rfl⟩, q⟩
theorem opI0 {f : Value → Value → Sem Value} {g : Int → Int → Int}
    (rule : ∀ (i j : Int) (t u : Tok) (s : Shared) (Q : Value → Shared → Prop) (E : Value → Shared → Prop), Q (.int (g i j) s.toks) { s with toks := s.toks + 1 } → wpAny (model X.prog X.w) X.A (f (.int i t) (.int j u)) Q E s) :
    OpR X f (rI0 fun i j => .int (g i j)) := by
  intro pins s σ H x y v u Q I rx ry h
  obtain ⟨i, j, rfl, rfl, q⟩ := h
  obtain ⟨t, rfl⟩ := rx
  obtain ⟨t', rfl⟩ := ry
  exact rule i j t t' s _ _ ⟨.int (g i j), H, I.tok _, ⟨_, rfl⟩, q⟩
theorem opB0 {f : Value → Value → Sem Value} {g : Int → Int → Bool}
    (rule : ∀ (i j : Int) (t u : Tok) (s : Shared) (Q : Value → Shared → Prop) (E : Value → Shared → Prop), Q (.bool (g i j)) s → wpAny (model X.prog X.w) X.A (f (.int i t) (.int j u)) Q E s) :
    OpR X f (rI0 fun i j => .bl (g i j)) := by
  intro pins s σ H x y v u Q I rx ry h
  obtain ⟨i, j, rfl, rfl, q⟩ := h
  obtain ⟨t, rfl⟩ := rx
  obtain ⟨t', rfl⟩ := ry
  exact rule i j t t' s _ _ ⟨.bl (g i j), H, I, rfl, q⟩

def CDiv (i j : Int) : Prop := 0 < j ∧ j < 1073741824
def CDivN (i j : Int) : Prop := j ≠ 0 ∧ j.natAbs < 1073741824
def CPow (i j : Int) : Prop := 0 ≤ j ∧ j ≤ 1000000 ∧ i.natAbs < 2 ^ 64
def CMul (i j : Int) : Prop := (-(2 ^ 64) < i ∧ i < 2 ^ 64) ∨ (-(2 ^ 64) < j ∧ j < 2 ^ 64)
theorem CMul.ok {i j : Int} (h : CMul i j) : IntMulOk i j := by
  rcases h with ⟨h1, h2⟩ | ⟨h1, h2⟩
  · exact .of_left (intBits_le_64 h1 h2)
  · exact .of_right (intBits_le_64 h1 h2)
theorem two_pow_nn (k : Nat) : (0 : Int) ≤ 2 ^ k := by
  rw [two_pow_cast]
  exact Int.natCast_nonneg _

theorem op_add : OpR X (binaryOp .Add) (rI0 fun i j => .int (i + j)) := opI0 fun _ _ _ _ _ _ _ q => add_int q
theorem op_sub : OpR X (binaryOp .Sub) (rI0 fun i j => .int (i - j)) := opI0 fun _ _ _ _ _ _ _ q => sub_int q
theorem op_mul : OpR X (binaryOp .Mult) (rI CMul fun i j => .int (i * j)) := opI fun _ _ _ _ _ _ _ hc q => mul_int q hc.ok
/-- // by a positive divisor -/
theorem op_fdiv : OpR X (binaryOp .FloorDiv) (rI CDiv fun i j => .int (i / j)) := opI fun i j _ _ _ _ _ hc q => by
  have h1 : (0 : Int) < j := hc.1
  have h2 : j < 1073741824 := hc.2
  exact floordiv_int (by omega) (by rw [Int.fdiv_eq_ediv_of_nonneg i (by omega)]; exact q) (.inl (PyProof.noPylong_small (by omega)))
theorem op_fdivN : OpR X (binaryOp .FloorDiv) (rI CDivN fun i j => .int (i.fdiv j)) := opI fun _ _ _ _ _ _ _ hc q => floordiv_int hc.1 q (.inl (PyProof.noPylong_small hc.2))
/-- % by a positive divisor of any size -/
theorem op_mod : OpR X (binaryOp .Mod) (rI (fun _ j => 0 < j) fun i j => .int (i % j)) := opI fun i j _ _ _ _ _ hc q => by
  have h1 : (0 : Int) < j := hc
  exact mod_int' (by omega) (by rw [Int.fmod_eq_emod_of_nonneg i (by omega)]; exact q)
theorem op_modN : OpR X (binaryOp .Mod) (rI (fun _ j => j ≠ 0) fun i j => .int (i.fmod j)) := opI fun _ _ _ _ _ _ _ hc q => mod_int' hc q
theorem op_pow : OpR X (binaryOp .Pow) (rI CPow fun i j => .int (i ^ j.toNat)) := opI fun _ _ _ _ _ _ _ hc q => pow_int_small hc.1 hc.2.1 hc.2.2 q
theorem op_shl : OpR X (binaryOp .LShift) (rI CPow fun i j => .int (i * 2 ^ j.toNat)) := opI fun _ _ _ _ _ _ _ hc q => lshift_int_small hc.1 hc.2.1 hc.2.2 q
theorem op_shr : OpR X (binaryOp .RShift) (rI (fun _ j => 0 ≤ j) fun i j => .int (i / 2 ^ j.toNat)) := opI fun i j _ _ _ _ _ hc q =>
  rshift_int hc (by rw [Int.fdiv_eq_ediv_of_nonneg i (two_pow_nn _)]; exact q)
theorem op_and : OpR X (binaryOp .BitAnd) (rI0 fun i j => .int (Builtin.bitAnd i j)) := opI0 fun _ _ _ _ _ _ _ q => and_int q
theorem op_or : OpR X (binaryOp .BitOr) (rI0 fun i j => .int (Builtin.bitOr i j)) := opI0 fun _ _ _ _ _ _ _ q => or_int q
theorem op_xor : OpR X (binaryOp .BitXor) (rI0 fun i j => .int (Builtin.bitXor i j)) := opI0 fun _ _ _ _ _ _ _ q => xor_int q

theorem iop_add : OpR X (inplaceOp .Add) (rI0 fun i j => .int (i + j)) := opI0 fun _ _ _ _ _ _ _ q => iadd_int q
theorem iop_sub : OpR X (inplaceOp .Sub) (rI0 fun i j => .int (i - j)) := opI0 fun _ _ _ _ _ _ _ q => isub_int q
theorem iop_mul : OpR X (inplaceOp .Mult) (rI CMul fun i j => .int (i * j)) := opI fun _ _ _ _ _ _ _ hc q => imul_int q hc.ok
theorem iop_fdiv : OpR X (inplaceOp .FloorDiv) (rI CDiv fun i j => .int (i / j)) := opI fun i j _ _ _ _ _ hc q => by
  have h1 : (0 : Int) < j := hc.1
  have h2 : j < 1073741824 := hc.2
  exact ifloordiv_int (by omega) (by rw [Int.fdiv_eq_ediv_of_nonneg i (by omega)]; exact q) (.inl (PyProof.noPylong_small (by omega)))
theorem iop_mod : OpR X (inplaceOp .Mod) (rI (fun _ j => 0 < j) fun i j => .int (i % j)) := opI fun i j _ _ _ _ _ hc q => by
  have h1 : (0 : Int) < j := hc
  exact imod_int (by omega) (by rw [Int.fmod_eq_emod_of_nonneg i (by omega)]; exact q)
theorem iop_shl : OpR X (inplaceOp .LShift) (rI CPow fun i j => .int (i * 2 ^ j.toNat)) := opI fun _ _ _ _ _ _ _ hc q => ilshift_int_small hc.1 hc.2.1 hc.2.2 q
theorem iop_shr : OpR X (inplaceOp .RShift) (rI (fun _ j => 0 ≤ j) fun i j => .int (i / 2 ^ j.toNat)) := opI fun i j _ _ _ _ _ hc q =>
  irshift_int hc (by rw [Int.fdiv_eq_ediv_of_nonneg i (two_pow_nn _)]; exact q)
theorem iop_and : OpR X (inplaceOp .BitAnd) (rI0 fun i j => .int (Builtin.bitAnd i j)) := opI0 fun _ _ _ _ _ _ _ q => iand_int q
theorem iop_or : OpR X (inplaceOp .BitOr) (rI0 fun i j => .int (Builtin.bitOr i j)) := opI0 fun _ _ _ _ _ _ _ q => ior_int q
theorem iop_xor : OpR X (inplaceOp .BitXor) (rI0 fun i j => .int (Builtin.bitXor i j)) := opI0 fun _ _ _ _ _ _ _ q => ixor_int q

theorem unI {f : Value → Sem Value} {g : Int → Int}
    (rule : ∀ (i : Int) (t : Tok) (s : Shared) (Q : Value → Shared → Prop) (E : Value → Shared → Prop), Q (.int (g i) s.toks) { s with toks := s.toks + 1 } → wpAny (model X.prog X.w) X.A (f (.int i t)) Q E s) :
    UnR X f (rU fun i => .int (g i)) := by
  intro pins s σ H x v Q I rx h
  obtain ⟨i, rfl, q⟩ := h
  obtain ⟨t, rfl⟩ := rx
  exact rule i t s _ _ ⟨.int (g i), H, I.tok _, ⟨_, rfl⟩, q⟩
theorem un_neg : UnR X (unaryOp .USub) (rU fun i => .int (-i)) := unI fun _ _ _ _ _ q => neg_int q
theorem un_inv : UnR X (unaryOp .Invert) (rU fun i => .int (Builtin.bitNot i)) := unI fun _ _ _ _ _ q => invert_int q

/-! ### bools among ints: n += (a < b) -/
theorem op_add_ib : OpR X (binaryOp .Add) (fun x y H Q => ∃ i k, x = .int i ∧ y = .bl k ∧ Q (.int (i + b2i k)) H) := by
  intro pins s σ H x y v u Q I rx ry h
  obtain ⟨i, k, rfl, rfl, q⟩ := h
  obtain ⟨t, rfl⟩ := rx
  cases ry
  exact add_int_bool ⟨.int (i + b2i k), H, I.tok _, ⟨_, rfl⟩, q⟩
end

/-! ### comparisons -/
/-- the scalars that == tells apart as data does -/
def scal : V → V → Bool
  | .non, .non => true | .non, .int _ => true | .int _, .non => true | .non, .bl _ => true | .bl _, .non => true | .non, .str _ => true | .str _, .non => true
  | .int _, .int _ => true | .bl _, .bl _ => true | .str _, .str _ => true | .byt _, .byt _ => true
  | .int _, .str _ => true | .str _, .int _ => true | .bl _, .str _ => true | .str _, .bl _ => true
  | _, _ => false
def rEq : R2 := fun x y H Q => scal x y = true ∧ Q (.bl (decide (x = y))) H
def rNe : R2 := fun x y H Q => scal x y = true ∧ Q (.bl (!decide (x = y))) H

theorem dec_int {i j : Int} : decide (V.int i = V.int j) = (i == j) := by
  rw [Bool.eq_iff_iff]
  simp
theorem dec_bl {i j : Bool} : decide (V.bl i = V.bl j) = (i == j) := by
  rw [Bool.eq_iff_iff]
  simp
theorem dec_str {i j : Str} : decide (V.str i = V.str j) = (i == j) := by
  rw [Bool.eq_iff_iff]
  simp
theorem dec_byt {i j : Array UInt8} : decide (V.byt i = V.byt j) = (i.toList == j.toList) := by
  rw [Bool.eq_iff_iff]
  cases i
  cases j
  simp

section
variable {X : Cx} {a b c : Expr} {ta tb tc : TE} {pos : Pos}
theorem fin_bl {pins : List (Addr × Obj)} {σ : St} {H : Hp} {s : Shared} {Q : VK} {k k' : Bool} (I : Inv X pins σ H s) (q : Q (.bl k) H) (e : k = k') : EP X pins σ Q (.bool k') s := by
  subst e
  exact ⟨.bl k, H, I, rfl, q⟩
theorem op_eq : OpR X (compareOp .Eq) rEq := by
  intro pins s σ H x y v u Q I rx ry h
  obtain ⟨hs, q⟩ := h
  cases x with
  | non =>
    cases rx
    cases y with
    | non => cases ry; exact PySem.EqNone.eq_none_none (fin_bl I q (by simp))
    | bl j => cases ry; exact PySem.EqNone.eq_none_bool (fin_bl I q (by simp))
    | int j => obtain ⟨t', rfl⟩ := ry; exact PySem.EqNone.eq_none_int (fin_bl I q (by simp))
    | str j => obtain ⟨t', rfl⟩ := ry; exact PySem.EqNone.eq_none_str (fin_bl I q (by simp))
    | _ => exact absurd (show false = true from hs) Bool.false_ne_true
  | bl i =>
    cases rx
    cases y with
    | non => cases ry; exact PySem.EqNone.eq_bool_none (fin_bl I q (by simp))
    | bl j => cases ry; exact eq_bool (fin_bl I q dec_bl)
    | str j => obtain ⟨t', rfl⟩ := ry; exact PySem.EqMixed.eq_bool_str (fin_bl I q (by simp))
    | _ => exact absurd (show false = true from hs) Bool.false_ne_true
  | int i =>
    obtain ⟨t, rfl⟩ := rx
    cases y with
    | non => cases ry; exact PySem.EqNone.eq_int_none (fin_bl I q (by simp))
    | int j => obtain ⟨t', rfl⟩ := ry; exact eq_int (fin_bl I q dec_int)
    | str j => obtain ⟨t', rfl⟩ := ry; exact PySem.EqMixed.eq_int_str (fin_bl I q (by simp))
    | _ => exact absurd (show false = true from hs) Bool.false_ne_true
  | str i =>
    obtain ⟨t, rfl⟩ := rx
    cases y with
    | non => cases ry; exact PySem.EqNone.eq_str_none (fin_bl I q (by simp))
    | bl j => cases ry; exact PySem.EqMixed.eq_str_bool (fin_bl I q (by simp))
    | int j => obtain ⟨t', rfl⟩ := ry; exact PySem.EqMixed.eq_str_int (fin_bl I q (by simp))
    | str j => obtain ⟨t', rfl⟩ := ry; exact eq_str (fin_bl I q dec_str)
    | _ => exact absurd (show false = true from hs) Bool.false_ne_true
  | byt i =>
    obtain ⟨t, rfl⟩ := rx
    cases y with
    | byt j => obtain ⟨t', rfl⟩ := ry; exact PySem.W.eq_bytes (fin_bl I q dec_byt)
    | _ => exact absurd (show false = true from hs) Bool.false_ne_true
  | _ => cases y <;> exact absurd (show false = true from hs) Bool.false_ne_true
theorem op_ne : OpR X (compareOp .NotEq) rNe := by
  intro pins s σ H x y v u Q I rx ry h
  obtain ⟨hs, q⟩ := h
  cases x with
  | non =>
    cases rx
    cases y with
    | non => cases ry; exact PySem.EqNone.ne_none_none (fin_bl I q (by simp))
    | bl j => cases ry; exact PySem.EqNone.ne_none_bool (fin_bl I q (by simp))
    | int j => obtain ⟨t', rfl⟩ := ry; exact PySem.EqNone.ne_none_int (fin_bl I q (by simp))
    | str j => obtain ⟨t', rfl⟩ := ry; exact PySem.EqNone.ne_none_str (fin_bl I q (by simp))
    | _ => exact absurd (show false = true from hs) Bool.false_ne_true
  | bl i =>
    cases rx
    cases y with
    | non => cases ry; exact PySem.EqNone.ne_bool_none (fin_bl I q (by simp))
    | bl j => cases ry; exact ne_bool (fin_bl I q (congrArg not dec_bl))
    | str j => obtain ⟨t', rfl⟩ := ry; exact PySem.EqMixed.ne_bool_str (fin_bl I q (by simp))
    | _ => exact absurd (show false = true from hs) Bool.false_ne_true
  | int i =>
    obtain ⟨t, rfl⟩ := rx
    cases y with
    | non => cases ry; exact PySem.EqNone.ne_int_none (fin_bl I q (by simp))
    | int j => obtain ⟨t', rfl⟩ := ry; exact ne_int (fin_bl I q (congrArg not dec_int))
    | str j => obtain ⟨t', rfl⟩ := ry; exact PySem.EqMixed.ne_int_str (fin_bl I q (by simp))
    | _ => exact absurd (show false = true from hs) Bool.false_ne_true
  | str i =>
    obtain ⟨t, rfl⟩ := rx
    cases y with
    | non => cases ry; exact PySem.EqNone.ne_str_none (fin_bl I q (by simp))
    | bl j => cases ry; exact PySem.EqMixed.ne_str_bool (fin_bl I q (by simp))
    | int j => obtain ⟨t', rfl⟩ := ry; exact PySem.EqMixed.ne_str_int (fin_bl I q (by simp))
    | str j => obtain ⟨t', rfl⟩ := ry; exact ne_str (fin_bl I q (congrArg not dec_str))
    | _ => exact absurd (show false = true from hs) Bool.false_ne_true
  | byt i =>
    obtain ⟨t, rfl⟩ := rx
    cases y with
    | byt j => obtain ⟨t', rfl⟩ := ry; exact PySem.W.ne_bytes (fin_bl I q (congrArg not dec_byt))
    | _ => exact absurd (show false = true from hs) Bool.false_ne_true
  | _ => cases y <;> exact absurd (show false = true from hs) Bool.false_ne_true

theorem op_lt : OpR X (compareOp .Lt) (rI0 fun i j => .bl (decide (i < j))) := opB0 fun _ _ _ _ _ _ _ q => lt_int q
theorem op_le : OpR X (compareOp .LtE) (rI0 fun i j => .bl (decide (i ≤ j))) := opB0 fun _ _ _ _ _ _ _ q => le_int q
theorem op_gt : OpR X (compareOp .Gt) (rI0 fun i j => .bl (decide (j < i))) := opB0 fun _ _ _ _ _ _ _ q => gt_int q
theorem op_ge : OpR X (compareOp .GtE) (rI0 fun i j => .bl (decide (j ≤ i))) := opB0 fun _ _ _ _ _ _ _ q => ge_int q
theorem op_lt_str : OpR X (compareOp .Lt) (fun x y H Q => ∃ i j, x = .str i ∧ y = .str j ∧ Q (.bl (decide (i.cps.toList < j.cps.toList))) H) := by
  intro pins s σ H x y v u Q I rx ry h
  obtain ⟨i, j, rfl, rfl, q⟩ := h
  obtain ⟨t, rfl⟩ := rx
  obtain ⟨t', rfl⟩ := ry
  exact lt_str (fin_bl I q rfl)
/-- the one string within the other -/
theorem op_in_str : OpR X (compareOp .In) (fun x y H Q => ∃ i j, x = .str i ∧ y = .str j ∧ Q (.bl (!(Builtin.Str.occurrences j i 0 j.length 1).isEmpty)) H) := by
  intro pins s σ H x y v u Q I rx ry h
  obtain ⟨i, j, rfl, rfl, q⟩ := h
  obtain ⟨t, rfl⟩ := rx
  obtain ⟨t', rfl⟩ := ry
  exact in_str (fin_bl I q rfl)

/-- is None, is not None: the right side a value none -/
theorem op_isN : OpR X (compareOp .Is) (fun x y H Q => y = .non ∧ Q (.bl (decide (x = .non))) H) := by
  intro pins s σ H x y v u Q I rx ry h
  obtain ⟨rfl, q⟩ := h
  cases ry
  refine is_none_gen (fin_bl I q ?_)
  cases x <;> first
    | (cases rx; rfl)
    | (obtain ⟨t, rfl⟩ := rx; rfl)
theorem op_notN : OpR X (compareOp .IsNot) (fun x y H Q => y = .non ∧ Q (.bl (!decide (x = .non))) H) := by
  intro pins s σ H x y v u Q I rx ry h
  obtain ⟨rfl, q⟩ := h
  cases ry
  refine isnot_none_gen (fin_bl I q ?_)
  cases x <;> first
    | (cases rx; rfl)
    | (obtain ⟨t, rfl⟩ := rx; rfl)

theorem op_notin_str : OpR X (compareOp .NotIn) (fun x y H Q => ∃ i j, x = .str i ∧ y = .str j ∧ Q (.bl (!(!(Builtin.Str.occurrences j i 0 j.length 1).isEmpty))) H) := by
  intro pins s σ H x y v u Q I rx ry h
  obtain ⟨i, j, rfl, rfl, q⟩ := h
  obtain ⟨t, rfl⟩ := rx
  obtain ⟨t', rfl⟩ := ry
  exact notIn_str (fin_bl I q rfl)
/-- is, is not of two objects that are tracked lists or instances -/
def isObj : HO → Bool
  | .lst _ => true
  | .ins _ _ _ => true
  | _ => false
theorem obj_there {pins : List (Addr × Obj)} {s : Shared} {σ : St} {H : Hp} {a : Addr} {o : HO} (I : Inv X pins σ H s) (h : H a = some o) (p : isObj o = true) : ∃ ob, s.heap.get? a = some ob ∧ ob.cls ≠ .type "tuple" := by
  cases o with
  | lst xs =>
    obtain ⟨_, its, n, _, e⟩ : xs.length ≤ sizeLine ∧ ∃ (its : List Value) (n : Nat), Vals xs its ∧ s.heap.get? a = some { cls := .type "list", data := .seq its.toArray n } := I.hok a _ h
    exact ⟨_, e, (by show Value.type "list" ≠ .type "tuple"; decide +kernel)⟩
  | ins C dx fs =>
    have x := I.hok a _ h
    obtain ⟨_, _, _, e, _⟩ := x
    exact ⟨_, e, (by show Value.ref C ≠ .type "tuple"; exact fun z => by cases z)⟩
  | _ => exact absurd (show false = true from p) Bool.false_ne_true
theorem op_is_ref : OpR X (compareOp .Is) (fun x y H Q => ∃ a b oa ob, x = .ref a ∧ y = .ref b ∧ H a = some oa ∧ isObj oa = true ∧ H b = some ob ∧ isObj ob = true ∧ Q (.bl (decide (a = b))) H) := by
  intro pins s σ H x y v u Q I rx ry h
  obtain ⟨a, b, oa, ob, rfl, rfl, ha, pa, hb, pb, q⟩ := h
  cases rx
  cases ry
  obtain ⟨o1, e1, n1⟩ := obj_there I ha pa
  obtain ⟨o2, e2, _⟩ := obj_there I hb pb
  by_cases z : a = b
  · subst z
    exact wpAny_is_ref_self (fin_bl I q (by simp))
  · exact wpAny_is_ref_other z e1 e2 n1 (fin_bl I q (by simp [z]))
theorem op_isnot_ref : OpR X (compareOp .IsNot) (fun x y H Q => ∃ a b oa ob, x = .ref a ∧ y = .ref b ∧ H a = some oa ∧ isObj oa = true ∧ H b = some ob ∧ isObj ob = true ∧ Q (.bl (!decide (a = b))) H) := by
  intro pins s σ H x y v u Q I rx ry h
  obtain ⟨a, b, oa, ob, rfl, rfl, ha, pa, hb, pb, q⟩ := h
  cases rx
  cases ry
  obtain ⟨o1, e1, n1⟩ := obj_there I ha pa
  obtain ⟨o2, e2, _⟩ := obj_there I hb pb
  by_cases z : a = b
  · subst z
    exact wpAny_isNot_ref_self (fin_bl I q (by simp))
  · exact wpAny_isNot_ref_other z e1 e2 n1 (fin_bl I q (by simp [z]))

/-- two rules for one operation: by cases -/
theorem OpR.or {f : Value → Value → Sem Value} {r r' : R2} (h : OpR X f r) (h' : OpR X f r') : OpR X f (fun x y H Q => r x y H Q ∨ r' x y H Q) := by
  intro pins s σ H x y v u Q I rx ry q
  rcases q with q | q
  · exact h pins s σ H x y v u Q I rx ry q
  · exact h' pins s σ H x y v u Q I rx ry q

theorem nomark (b : Expr) {op : CmpOp} (h : op ≠ .In := by decide) (h2 : op ≠ .NotIn := by decide) : behindInMarks op b = false := by
  have e1 : (op == CmpOp.In) = false := by cases op <;> first | rfl | exact absurd rfl h
  have e2 : (op == CmpOp.NotIn) = false := by cases op <;> first | rfl | exact absurd rfl h2
  cases b <;> simp [behindInMarks, e1, e2]
/-- a comparison as a value; hm: nomark b, or (for in, not in) by with_unfolding_all rfl -/
theorem pe_cmpR {op : CmpOp} {r : R2} (ho : OpR X (compareOp op) r) (ha : PE X a ta) (hb : PE X b tb) (hm : behindInMarks op b = false) : PE X (.Compare a [op] [b] pos) (tOp r ta tb) := by
  intro pins s σ H Q I h
  exact wpAny_Compare1 (binT ha hb I h fun v u s2 x y H2 I2 rx ry q => ho pins s2 σ H2 x y v u Q I2 rx ry q) hm
/-- a reading of a value as a test -/
def tTest (t : TE) : TT := fun σ H Q => t σ H fun x H' => ∃ k, x = .bl k ∧ Q k H'
theorem pt_cmpR {op : CmpOp} {r : R2} (ho : OpR X (compareOp op) r) (ha : PE X a ta) (hb : PE X b tb) (hm : behindInMarks op b = false) : PT X (.Compare a [op] [b] pos) (tTest (tOp r ta tb)) := by
  intro pins s σ H Q I h
  refine wpAny_isTrue_Compare1 (thn (ha pins s σ H _ I h) fun v s1 ⟨x, H1, I1, r1, q1⟩ => thn (hb pins s1 σ H1 _ I1 q1) fun u s2 ⟨y, H2, I2, r2, q2⟩ =>
    thn (ho pins s2 σ H2 x y v u _ I2 r1 r2 q2) fun c s3 ⟨z, H3, I3, r3, k, e, q3⟩ => ?_) hm
  subst e
  cases r3
  exact wpAny_truthy_bool ⟨H3, I3, q3⟩
/-- a op1 b op2 c -/
def tChain (r r' : R2) (ta tb tc : TE) : TE := fun σ H Q => ta σ H fun x H1 => tb σ H1 fun y H2 => r x y H2 fun z H3 => ∃ k, z = .bl k ∧
  (if k = true then tc σ H3 fun w' H4 => r' y w' H4 Q else Q (.bl false) H3)
theorem pe_chain {op op' : CmpOp} {r r' : R2} (ho : OpR X (compareOp op) r) (ho' : OpR X (compareOp op') r') (ha : PE X a ta) (hb : PE X b tb) (hc : PE X c tc)
    (hm : lastMarks [op, op'] [b, c] = false := by with_unfolding_all rfl) : PE X (.Compare a [op, op'] [b, c] pos) (tChain r r' ta tb tc) := by
  intro pins s σ H Q I h
  refine Compare_chain (thn (ha pins s σ H _ I h) fun v s1 ⟨x, H1, I1, r1, q1⟩ => chain_link (thn (hb pins s1 σ H1 _ I1 q1) fun u s2 ⟨y, H2, I2, r2, q2⟩ =>
    thn (ho pins s2 σ H2 x y v u _ I2 r1 r2 q2) fun d s3 ⟨z, H3, I3, r3, k, e, q3⟩ => ?_)) hm
  subst e
  cases r3
  refine wpAny_truthy_bool ?_
  cases k with
  | false => exact ite_ff ⟨.bl false, H3, I3, rfl, q3⟩
  | true => exact ite_tt (chain_last (thn (hc pins s3 σ H3 _ I3 q3) fun w' s4 ⟨z', H4, I4, r4, q4⟩ => ho' pins s4 σ H4 y z' u w' Q I4 r2 r4 q4))
theorem pt_chain {op op' : CmpOp} {r r' : R2} (ho : OpR X (compareOp op) r) (ho' : OpR X (compareOp op') r') (ha : PE X a ta) (hb : PE X b tb) (hc : PE X c tc)
    (hm : lastMarks [op, op'] [b, c] = false := by with_unfolding_all rfl) : PT X (.Compare a [op, op'] [b, c] pos) (tTest (tChain r r' ta tb tc)) := by
  intro pins s σ H Q I h
  refine isTrue_chain (thn (ha pins s σ H _ I h) fun v s1 ⟨x, H1, I1, r1, q1⟩ => test_link (thn (hb pins s1 σ H1 _ I1 q1) fun u s2 ⟨y, H2, I2, r2, q2⟩ =>
    thn (ho pins s2 σ H2 x y v u _ I2 r1 r2 q2) fun d s3 ⟨z, H3, I3, r3, k, e, q3⟩ => ?_)) hm
  subst e
  cases r3
  refine wpAny_truthy_bool ?_
  cases k with
  | false =>
    obtain ⟨k', e', q'⟩ := q3
    cases e'
    exact ite_ff ⟨H3, I3, q'⟩
  | true =>
    refine ite_tt (test_last (thn (hc pins s3 σ H3 _ I3 q3) fun w' s4 ⟨z', H4, I4, r4, q4⟩ => thn (ho' pins s4 σ H4 y z' u w' _ I4 r2 r4 q4) fun d' s5 ⟨z2, H5, I5, r5, k2, e2, q5⟩ => ?_))
    subst e2
    cases r5
    exact wpAny_truthy_bool ⟨H5, I5, q5⟩

/-! ### truth -/
/-- a value's truth by the abstract heap -/
def TruV (K : PySem.W.Frag) (x : V) (H : Hp) (k : Bool) : Prop :=
  match x with
  | .non => k = false
  | .bl b => k = b
  | .int i => k = (i != 0)
  | .str y => y.length ≤ sizeLine ∧ k = ((y.length : Int) != 0)
  | .byt y => y.size ≤ sizeLine ∧ k = ((y.size : Int) != 0)
  | .ref p => (∃ xs, SqL K H p xs ∧ k = !xs.isEmpty) ∨ (∃ xs, SqT K H p xs ∧ k = !xs.isEmpty) ∨ ∃ kvs, H p = some (.dK kvs) ∧ k = !kvs.isEmpty
  | _ => False
theorem isEmpty_kv {κ : Type} {kvs : List (κ × V)} {vs : List (κ × Value)} (r : KV kvs vs) : (!vs.isEmpty) = !kvs.isEmpty := by
  cases r <;> rfl
theorem isEmpty_of {xs : List V} {its : List Value} (r : Vals xs its) : (!its.toArray.isEmpty) = !xs.isEmpty := by
  cases r <;> simp
theorem line63 : (sizeLine : Nat) < 2 ^ 63 := by rw [sizeLine_eq]; decide
theorem tru_ok : TruR X (fun x H Q => ∃ k, TruV X.K x H k ∧ Q k H) := by
  intro pins s σ H x v Q I rx h
  obtain ⟨k, e, q⟩ := h
  have hl := line63
  have hs : sizeLine = 16777216 := sizeLine_eq
  cases x with
  | non =>
    cases rx
    have e' : k = false := e
    subst e'
    exact truthy_none ⟨H, I, q⟩
  | bl b =>
    cases rx
    have e' : k = b := e
    subst e'
    exact wpAny_truthy_bool ⟨H, I, q⟩
  | int i =>
    obtain ⟨t, rfl⟩ := rx
    have e' : k = (i != 0) := e
    subst e'
    exact PySem.P.truthy_int ⟨H, I, q⟩
  | str y =>
    obtain ⟨t, rfl⟩ := rx
    obtain ⟨hy, e'⟩ : y.length ≤ sizeLine ∧ k = ((y.length : Int) != 0) := e
    subst e'
    exact PySem.P.truthy_str (by omega) ⟨H, I.tok _, q⟩
  | byt y =>
    obtain ⟨t, rfl⟩ := rx
    obtain ⟨hy, e'⟩ : y.size ≤ sizeLine ∧ k = ((y.size : Int) != 0) := e
    subst e'
    exact PySem.W.truthy_bytes (by omega) ⟨H, I.tok _, q⟩
  | ref p =>
    cases rx
    have e' : (∃ xs, SqL X.K H p xs ∧ k = !xs.isEmpty) ∨ (∃ xs, SqT X.K H p xs ∧ k = !xs.isEmpty) ∨ ∃ kvs, H p = some (.dK kvs) ∧ k = !kvs.isEmpty := e
    rcases e' with ⟨xs, hx, e'⟩ | ⟨xs, hx, e'⟩ | ⟨kvs, hx, e'⟩
    · subst e'
      obtain ⟨its, r, pl, hz⟩ := I.list hx
      have hlen := r.length
      exact wpAny_truthy_list pl.isList (by simp only [List.size_toArray]; omega) ⟨H, I.tok _, by rw [isEmpty_of r]; exact q⟩
    · subst e'
      obtain ⟨its, r, pl, hz⟩ := I.tuple hx
      have hlen := r.length
      exact truthy_tuple pl (by simp only [List.size_toArray]; omega) ⟨H, I.tok _, by rw [isEmpty_of r]; exact q⟩
    · subst e'
      obtain ⟨hz, hS, vs, r, m⟩ : kvs.length ≤ sizeLine ∧ (p == sysModules) = false ∧ ∃ vs, KV kvs vs ∧ s.heap.DictOf (mixKind X.prog X.w) p vs := I.hok p _ hx
      have hlen : kvs.length = vs.length := Paired.length r
      exact wpAny_truthy_dict hS m (by omega) ⟨H, I.tok _, by rw [isEmpty_kv r]; exact q⟩
  | _ => exact (show False from e).elim
/-- any expression whose test is its value's truth (a name, a call, a subscript, a field ..: he by fun _ => rfl) -/
theorem pt_truth (ha : PE X a ta) (he : ∀ whole, isTrue a X.env whole = (do let v ← whole; standAt a.pos; holding [v] (truthy v))) :
    PT X a (fun σ H Q => ta σ H fun x H' => ∃ k, TruV X.K x H' k ∧ Q k H') := by
  intro pins s σ H Q I h
  exact isTrue_plain (thn (ha pins s σ H _ I h) fun v s1 ⟨x, H1, I1, r1, q1⟩ => tru_ok pins s1 σ H1 x v Q I1 r1 q1) (he _)

/-! ### strs and bytes -/
theorem pe_byt {x : List UInt8} {k : Nat} : PE X (.Constant (.bytes x) k pos) (fun _ H Q => Q (.byt x.toArray) H) := fun _ _ _ H _ I h => PySem.W.Constant_bytes ⟨.byt x.toArray, H, I.tok _, ⟨_, rfl⟩, h⟩
theorem op_add_str : OpR X (binaryOp .Add) (fun x y H Q => ∃ i j, x = .str i ∧ y = .str j ∧ i.length + j.length ≤ sizeLine ∧ Q (.str (i ++ j)) H) := by
  intro pins s σ H x y v u Q I rx ry h
  obtain ⟨i, j, rfl, rfl, hz, q⟩ := h
  obtain ⟨t, rfl⟩ := rx
  obtain ⟨t', rfl⟩ := ry
  exact add_str (fun t' tk => ⟨.str (i ++ j), H, I.tok _, ⟨_, rfl⟩, q⟩) hz
theorem iop_add_str : OpR X (inplaceOp .Add) (fun x y H Q => ∃ i j, x = .str i ∧ y = .str j ∧ i.length + j.length ≤ sizeLine ∧ Q (.str (i ++ j)) H) := by
  intro pins s σ H x y v u Q I rx ry h
  obtain ⟨i, j, rfl, rfl, hz, q⟩ := h
  obtain ⟨t, rfl⟩ := rx
  obtain ⟨t', rfl⟩ := ry
  exact iadd_str (fun t' tk => ⟨.str (i ++ j), H, I.tok _, ⟨_, rfl⟩, q⟩) hz
theorem op_add_byt : OpR X (binaryOp .Add) (fun x y H Q => ∃ i j, x = .byt i ∧ y = .byt j ∧ i.size + j.size ≤ 16777216 ∧ Q (.byt (i ++ j)) H) := by
  intro pins s σ H x y v u Q I rx ry h
  obtain ⟨i, j, rfl, rfl, hz, q⟩ := h
  obtain ⟨t, rfl⟩ := rx
  obtain ⟨t', rfl⟩ := ry
  exact PySem.W.KBy.add_bytes hz (fun t' tk => ⟨.byt (i ++ j), H, I.tok _, ⟨_, rfl⟩, q⟩)

def PlainIxT (b : Expr) : Prop := ∀ o i, subscripted b false o i = operate [o, i] (getItem o i)
/-- s[i], 0 ≤ i < len -/
theorem pe_item_str (ha : PE X a ta) (hb : PE X b tb) (hs : PlainIxT b) :
    PE X (.Subscript a b pos) (tOp (fun x y H Q => ∃ z i c, x = .str z ∧ y = .int i ∧ 0 ≤ i ∧ i < 2 ^ 63 ∧ i < z.length ∧ z.cps[i.toNat]? = some c ∧ Q (.str ⟨#[c]⟩) H) ta tb) := by
  intro pins s σ H Q I h
  refine Subscript_ (binT ha hb I h fun v u s2 x y H2 I2 rx ry q => ?_)
  obtain ⟨z, i, c, rfl, rfl, h0, h63, h1, hc, q⟩ := q
  obtain ⟨t, rfl⟩ := rx
  obtain ⟨t', rfl⟩ := ry
  have e : seqIndex? i z.length = some i.toNat := PySem.StrLaws.seqIndex_nonneg h0 h1
  exact tail_any (typeIs_str s2 z t) slot_str_getitem.lookup (getItem_str (c := c) (by
    have e1 : decide (i < -(2 ^ 63 : Int)) = false := decide_eq_false (by omega)
    have e2 : decide (i ≥ 2 ^ 63) = false := decide_eq_false (by omega)
    rw [e1, e2] <;> rfl) (by rw [e]; exact hc) ⟨.str ⟨#[c]⟩, H2, I2.tok _, ⟨_, rfl⟩, q⟩) (hs _ _)
/-- b[i], 0 ≤ i < len -/
theorem pe_item_byt (ha : PE X a ta) (hb : PE X b tb) (hs : PlainIxT b) :
    PE X (.Subscript a b pos) (tOp (fun x y H Q => ∃ (z : List UInt8) (i : Int), x = .byt z.toArray ∧ y = .int i ∧ z.length ≤ sizeLine ∧ 0 ≤ i ∧ i < z.length ∧ Q (.int ((z.getD i.toNat 0).toNat : Nat)) H) ta tb) := by
  intro pins s σ H Q I h
  refine Subscript_ (binT ha hb I h fun v u s2 x y H2 I2 rx ry q => ?_)
  obtain ⟨z, i, rfl, rfl, hz, h0, h1, q⟩ := q
  obtain ⟨t, rfl⟩ := rx
  obtain ⟨t', rfl⟩ := ry
  have hl : sizeLine = 16777216 := sizeLine_eq
  exact tail_any (PySem.W.typeIs_bytes s2 z.toArray t) PySem.W.FB.slot_bytes_getitem.lookup (PySem.W.getItem_bytes (by omega) h0 h1 ⟨.int ((z.getD i.toNat 0).toNat : Nat), H2, I2.tok _, ⟨_, rfl⟩, q⟩) (hs _ _)

/-! ### scalar builtins, by CallR -/
theorem vals1 {x : V} {us : List Value} (r : Vals [x] us) : ∃ u, us = [u] ∧ RelV x u := by
  cases r with
  | cons r1 r2 => cases r2; exact ⟨_, rfl, r1⟩
theorem vals2 {x y : V} {us : List Value} (r : Vals [x, y] us) : ∃ u w', us = [u, w'] ∧ RelV x u ∧ RelV y w' := by
  cases r with
  | cons r1 r2 =>
    cases r2 with
    | cons r3 r4 => cases r4; exact ⟨_, _, rfl, r1, r3⟩
theorem call_abs : CallR X (.builtin "abs") (fun xs H Q => ∃ i, xs = [.int i] ∧ Q (.int (if i < 0 then -i else i)) H) := by
  intro pins s σ H xs us Q I r h
  obtain ⟨i, rfl, q⟩ := h
  obtain ⟨u, rfl, t, rfl⟩ := vals1 r
  exact call_abs_int fun u tk => ⟨.int (if i < 0 then -i else i), H, I.tok _, ⟨_, rfl⟩, q⟩
theorem call_max2 (hc : X.calm = true) : CallR X (.builtin "max") (fun xs H Q => ∃ i j, xs = [.int i, .int j] ∧ Q (.int (if j > i then j else i)) H) := by
  intro pins s σ H xs us Q I r h
  obtain ⟨i, j, rfl, q⟩ := h
  obtain ⟨u, w', rfl, ⟨t, rfl⟩, ⟨t', rfl⟩⟩ := vals2 r
  refine max_two_ints (I.ok.hd hc) fun h' tk k => ⟨_, H, I.kept k, ?_, q⟩
  by_cases hj : j > i
  · rw [if_pos hj, if_pos hj]; exact ⟨_, rfl⟩
  · rw [if_neg hj, if_neg hj]; exact ⟨_, rfl⟩
theorem call_min2 (hc : X.calm = true) : CallR X (.builtin "min") (fun xs H Q => ∃ i j, xs = [.int i, .int j] ∧ Q (.int (if j < i then j else i)) H) := by
  intro pins s σ H xs us Q I r h
  obtain ⟨i, j, rfl, q⟩ := h
  obtain ⟨u, w', rfl, ⟨t, rfl⟩, ⟨t', rfl⟩⟩ := vals2 r
  refine min_two_ints (I.ok.hd hc) fun h' tk k => ⟨_, H, I.kept k, ?_, q⟩
  by_cases hj : j < i
  · rw [if_pos hj, if_pos hj]; exact ⟨_, rfl⟩
  · rw [if_neg hj, if_neg hj]; exact ⟨_, rfl⟩
theorem call_int1 : CallR X (.type "int") (fun xs H Q => (∃ i, xs = [.int i] ∧ Q (.int i) H) ∨ ∃ k, xs = [.bl k] ∧ Q (.int (if k then 1 else 0)) H) := by
  intro pins s σ H xs us Q I r h
  rcases h with ⟨i, rfl, q⟩ | ⟨k, rfl, q⟩
  · obtain ⟨u, rfl, t, rfl⟩ := vals1 r
    exact call_int_int ⟨.int i, H, I, ⟨_, rfl⟩, q⟩
  · obtain ⟨u, rfl, r1⟩ := vals1 r
    cases r1
    exact call_int_bool ⟨.int (if k then 1 else 0), H, I.tok _, ⟨_, rfl⟩, q⟩
theorem call_bool1 : CallR X (.type "bool") (fun xs H Q => (∃ i, xs = [.int i] ∧ Q (.bl (i != 0)) H) ∨ ∃ k, xs = [.bl k] ∧ Q (.bl k) H) := by
  intro pins s σ H xs us Q I r h
  rcases h with ⟨i, rfl, q⟩ | ⟨k, rfl, q⟩
  · obtain ⟨u, rfl, t, rfl⟩ := vals1 r
    exact call_bool_int ⟨.bl (i != 0), H, I, rfl, q⟩
  · obtain ⟨u, rfl, r1⟩ := vals1 r
    cases r1
    exact call_bool_bool ⟨.bl k, H, I, rfl, q⟩
theorem call_str_int : CallR X (.type "str") (fun xs H Q => ∃ i, xs = [.int i] ∧ i.natAbs.log2 < 1920 ∧ Q (.str (toString i)) H) := by
  intro pins s σ H xs us Q I r h
  obtain ⟨i, rfl, hz, q⟩ := h
  obtain ⟨u, rfl, t, rfl⟩ := vals1 r
  exact PySem.P.str_of_int hz ⟨.str _, H, I.tok _, ⟨_, rfl⟩, q⟩
theorem call_ord : CallR X (.builtin "ord") (fun xs H Q => ∃ x, xs = [.str x] ∧ x.length = 1 ∧ Q (.int (x.cps.getD 0 0 : Nat)) H) := by
  intro pins s σ H xs us Q I r h
  obtain ⟨x, rfl, hz, q⟩ := h
  obtain ⟨u, rfl, t, rfl⟩ := vals1 r
  exact ord_of_one hz ⟨.int _, H, I.tok _, ⟨_, rfl⟩, q⟩
theorem call_chr : CallR X (.builtin "chr") (fun xs H Q => ∃ i, xs = [.int i] ∧ 0 ≤ i ∧ i ≤ 1114111 ∧ Q (.str ⟨#[i.toNat]⟩) H) := by
  intro pins s σ H xs us Q I r h
  obtain ⟨i, rfl, h0, h1, q⟩ := h
  obtain ⟨u, rfl, t, rfl⟩ := vals1 r
  exact chr_of_range h0 h1 ⟨.str _, H, I.tok _, ⟨_, rfl⟩, q⟩
/-- len of a str, a bytes, a list, a tuple -/
def LenV (K : PySem.W.Frag) (x : V) (H : Hp) (n : Nat) : Prop :=
  match x with
  | .str y => y.length ≤ sizeLine ∧ n = y.length
  | .byt y => y.size ≤ sizeLine ∧ n = y.size
  | .ref p => (∃ xs, SqL K H p xs ∧ n = xs.length) ∨ ∃ xs, SqT K H p xs ∧ n = xs.length
  | _ => False
theorem call_len : CallR X (.builtin "len") (fun xs H Q => ∃ x n, xs = [x] ∧ LenV X.K x H n ∧ Q (.int n) H) := by
  intro pins s σ H xs us Q I r h
  obtain ⟨x, n, rfl, e, q⟩ := h
  obtain ⟨u, rfl, rx⟩ := vals1 r
  have hl := line63
  have hs : sizeLine = 16777216 := sizeLine_eq
  cases x with
  | str y =>
    obtain ⟨t, rfl⟩ := rx
    obtain ⟨hy, e'⟩ : y.length ≤ sizeLine ∧ n = y.length := e
    subst e'
    exact len_str (by omega) ⟨.int _, H, I.tok _, ⟨_, rfl⟩, q⟩
  | byt y =>
    obtain ⟨t, rfl⟩ := rx
    obtain ⟨hy, e'⟩ : y.size ≤ sizeLine ∧ n = y.size := e
    subst e'
    exact PySem.W.len_bytes (by omega) ⟨.int _, H, I.tok _, ⟨_, rfl⟩, q⟩
  | ref p =>
    cases rx
    have e' : (∃ xs, SqL X.K H p xs ∧ n = xs.length) ∨ ∃ xs, SqT X.K H p xs ∧ n = xs.length := e
    rcases e' with ⟨xs, hx, e'⟩ | ⟨xs, hx, e'⟩
    · subst e'
      obtain ⟨its, r', pl, hz⟩ := I.list hx
      have hlen := r'.length
      exact Calls.call_len_list pl.isList (by simp only [List.size_toArray]; omega) ⟨.int xs.length, H, I.tok _, ⟨_, by simp only [List.size_toArray]; rw [hlen]⟩, q⟩
    · subst e'
      obtain ⟨its, r', pl, hz⟩ := I.tuple hx
      have hlen := r'.length
      exact len_tuple pl (by simp only [List.size_toArray]; omega) ⟨.int xs.length, H, I.tok _, ⟨_, by simp only [List.size_toArray]; rw [hlen]⟩, q⟩
  | _ => exact (show False from e).elim
/-- divmod: a new tuple -/
theorem call_divmod : CallR X (.builtin "divmod") (fun xs H Q => ∃ i j, xs = [.int i, .int j] ∧ CDiv i j ∧ ∀ p, H p = none → Q (.ref p) (upd H p (.tup [.int (i / j), .int (i % j)]))) := by
  intro pins s σ H xs us Q I r h
  obtain ⟨i, j, rfl, ⟨h1, h2⟩, q⟩ := h
  obtain ⟨u, w', rfl, ⟨t, rfl⟩, ⟨t', rfl⟩⟩ := vals2 r
  refine divmod_int (by omega) ?_ (.inl (PyProof.noPylong_small (by omega)))
  rw [Int.fdiv_eq_ediv_of_nonneg i (by omega), Int.fmod_eq_emod_of_nonneg i (by omega)]
  have hn : H s.heap.objs.size = none := I.hok.fresh (Nat.le_refl _)
  refine ⟨.ref s.heap.objs.size, _, ?_, rfl, q _ hn⟩
  refine I.laid (fun b o e => Heap.get?_push_of_some _ e) (Nat.le_refl _) ⟨by simp only [List.length_cons, List.length_nil]; rw [sizeLine_eq]; decide, [.int (i / j) s.toks, .int (i % j) (s.toks + 1)], .cons ⟨_, rfl⟩ (.cons ⟨_, rfl⟩ .nil), ?_⟩
  exact ⟨_, Heap.get?_push_size s.heap rfl, rfl, 0, rfl⟩
end
end L2

namespace L2
open PySem PySem.Spec PyProof.Rows

/-! ### an instance, its attributes a map -/
structure ObjM (h : Heap) (x dx C : Addr) (mA : Str → Option Value) : Prop where
  obj : h.get? x = some (PySem.W.instObj C dx)
  ns : h.Ns1 dx mA
  ne : dx ≠ x

theorem lookIn_ns {h : Heap} {dx : Addr} {mA : Str → Option Value} (n : h.Ns1 dx mA) : ∃ od, h.get? dx = some od ∧ ∀ name, PySem.W.lookIn name od = some (mA name) := by
  obtain ⟨o, es, ep, ho, hd, hk, _, hm⟩ := n
  refine ⟨o, ho, fun name => ?_⟩
  have e := hm name
  unfold nsFind findBy at e
  rw [← Array.find?_toList] at e
  unfold PySem.W.lookIn
  rw [hd]
  dsimp only
  split
  · rename_i y q
    rw [q] at e
    exact congrArg some e
  · rename_i q
    rw [q] at e
    have a : es.toList.any (·.refKey) = false := by
      rw [List.any_eq_false]
      intro y hy
      obtain ⟨z, t, hkey⟩ := hk y (Array.mem_toList_iff.mp hy)
      simp [DictEntry.refKey, hkey]
    have a' : ¬ es.toList.any (·.refKey) = true := by rw [a]; exact Bool.false_ne_true
    rw [if_neg a']
    exact congrArg some e

theorem ObjM.look {h : Heap} {x dx C : Addr} {mA : Str → Option Value} (I : ObjM h x dx C mA) : ∃ od, PySem.W.InstAt h x (PySem.W.instObj C dx) C (some od) ∧ ∀ name, PySem.W.lookIn name od = some (mA name) :=
  let ⟨od, ho, hl⟩ := lookIn_ns I.ns
  ⟨od, ⟨I.obj, rfl, rfl, ho⟩, hl⟩

section
variable {prog : Program} {w : World} {A : Around} {E : Value → Shared → Prop} {s : Shared} {K : PySem.W.Frag} {x dx C f : Addr} {mA : Str → Option Value} {name : Str} {v : Value}

theorem get_map {expr : Bool} {Q : Value → Shared → Prop} (X : K.In s.heap) (I : ObjM s.heap x dx C mA) (hg : PySem.W.plainGet K C name = true) (hh : PySem.W.hasDictIn K C = true)
    (ha : PySem.W.findIn K (.ref C) name = some none) (hv : mA name = some v) (hv' : PySem.W.handedIn v = true) (h : Q v { s with toks := s.toks + 1 }) :
    wpAny (model prog w) A (getAttr (.ref x) name expr) Q E s := by
  obtain ⟨od, J, hl⟩ := I.look
  exact PySem.W.get_value X J (PySem.W.plainGet_of hg).1 (PySem.W.findObj_own hh ha rfl (by rw [hl, hv])) hv' h

theorem get_const {expr : Bool} {a : Value} {Q : Value → Shared → Prop} (X : K.In s.heap) (I : ObjM s.heap x dx C mA) (hg : PySem.W.plainGet K C name = true) (hh : PySem.W.hasDictIn K C = true)
    (ha : PySem.W.findIn K (.ref C) name = some (some a)) (hn : PySem.W.specialIn K a "__get__" = some none) (hc : PySem.W.copiedNames.contains name = false) (hv : mA name = none) (hv' : PySem.W.handedIn a = true)
    (h : Q a { s with toks := s.toks + 1 }) : wpAny (model prog w) A (getAttr (.ref x) name expr) Q E s := by
  obtain ⟨od, J, hl⟩ := I.look
  exact PySem.W.get_value X J (PySem.W.plainGet_of hg).1 (PySem.W.findObj_cls hh ha hn hv' hc (by rw [hl, hv])) hv' h

theorem get_meth {pl : Sem Bool} {Q : Value × List Value → Shared → Prop} (X : K.In s.heap) (I : ObjM s.heap x dx C mA) (hg : PySem.W.plainGet K C name = true)
    (hf : PySem.W.findIn K (.ref C) name = some (some (.ref f))) (ht : PySem.W.isFn K (.ref f) = true) (hv : mA name = none) (h : Q (.ref f, [.ref x]) s) :
    wpAny (model prog w) A (getMethod (.ref x) name pl) Q E s := by
  obtain ⟨od, J, hl⟩ := I.look
  exact PySem.W.method_fn X J (PySem.W.plainGet_of hg).1 (PySem.W.plainGet_of hg).2 hf (beq_iff_eq.mp ht) (by show (PySem.W.lookIn name od).map (·.isSome) = some false; rw [hl, hv]; rfl) h

theorem set_map {ns : List Str} {Q : Unit → Shared → Prop} (X : K.In s.heap) (I : ObjM s.heap x dx C mA)
    (hs : PySem.W.findIn K (.ref C) "__setattr__" = some (some (.builtin "object.__setattr__"))) (hp : PySem.W.plainOver K C = true) (ht : PySem.W.takerIn K C name = some none) (hh : PySem.W.hasDictIn K C = true)
    (hw : PySem.Within mA ns) (hsz : ns.length ≤ sizeLine)
    (h : ∀ h', ObjM h' x dx C (fun y => if y = name then some v else mA y) → Heap.SameBut dx s.heap h' → Q () { s with heap := h', toks := s.toks + 2 }) :
    wpAny (model prog w) A (setAttr (.ref x) name v) Q E s := by
  obtain ⟨od, J, hl⟩ := I.look
  refine PySem.W.set_plain X J hs (PySem.W.osa_open (s := { s with toks := s.toks + 1 }) (r := none) X J hp ht fun b => ?_)
  obtain ⟨cd, hc, hd'⟩ := PySem.W.any_some hh
  have hx : s.heap.get? x = some ⟨.ref C, some dx, .plain, #[]⟩ := I.obj
  refine wpAny_bind (wpAny_pure (wpAny_bind (wpAny_bind (wpAny_loadPart hx (wpAny_bind (PySem.W.Looks.here (s := { s with toks := s.toks + 1 }) (PySem.W.looks_clsIn X hc) ?_))))))
  rw [hd']
  refine wpAny_pure (a := some dx) (wpAny_bind (wpAny_pure (wpAny_bind ?_)))
  refine wpAny_nsSet1 (s := { s with toks := s.toks + 1 }) I.ns fun h' hn2 hs2 => ?_
  obtain ⟨oD, esD, epD, hoD, hdD, hcD⟩ := hn2.count (PySem.Within.cons name v hw)
  refine wpAny_bind (wpAny_lookBehind hoD (by rw [hdD]; exact pastItsLine_dict (Nat.le_trans hcD (by rw [List.length_cons]; omega))) ?_)
  exact wpAny_pure (h _ ⟨(hs2.2 _ (Ne.symm I.ne)).trans I.obj, hn2, I.ne⟩ hs2)

/-- C(..): the dict at the heap's end, the instance behind it; then its __init__ -/
theorem make_map {R : Result → Shared → Prop} {vs : List Value} {kw : List (Str × Value)} (X : K.In s.heap) (hm : PySem.W.makesIn K C = true)
    (hi : PySem.W.findIn K (.ref C) "__init__" = some (some (.ref f))) (hf : PySem.W.typeIn K (.ref f) = some (.type "function"))
    (h : codeAny (model prog w) (A.under (.builtin "type.__call__" ⟨.ref C :: vs, kw⟩)) (.call (.ref f) ⟨.ref (s.heap.objs.size + 1) :: vs, kw⟩) (PySem.W.InitBack (s.heap.objs.size + 1) R)
      { s with heap := (s.heap.push PySem.W.emptyDict).push (PySem.W.instObj C s.heap.objs.size) }) :
    codeAny (model prog w) A (.call (.ref C) ⟨vs, kw⟩) R s := by
  obtain ⟨hh, g, d, t, os⟩ := s
  exact PySem.W.make_core (PySem.W.makes_of X hm) (PySem.W.looks_findIn X hi) (fun self => PySem.W.bind_fn X self hf) (.inl rfl) h
/-- C() where there is no __init__ but object's -/
theorem make_map0 {R : Result → Shared → Prop} (X : K.In s.heap) (hm : PySem.W.makesIn K C = true)
    (hi : PySem.W.findIn K (.ref C) "__init__" = some (some (.builtin "object.__init__")))
    (hb : ∀ self, PySem.W.Looks (model prog w) s.heap (bindSpecial (.builtin "object.__init__") self) (.builtin "object.__init__", [self]))
    (h : codeAny (model prog w) (A.under (.builtin "type.__call__" ⟨[.ref C], []⟩)) (.call (.builtin "object.__init__") ⟨[.ref (s.heap.objs.size + 1)], []⟩) (PySem.W.InitBack (s.heap.objs.size + 1) R)
      { s with heap := (s.heap.push PySem.W.emptyDict).push (PySem.W.instObj C s.heap.objs.size) }) :
    codeAny (model prog w) A (.call (.ref C) ⟨[], []⟩) R s := by
  obtain ⟨hh, g, d, t, os⟩ := s
  exact PySem.W.make_core (PySem.W.makes_of X hm) (PySem.W.looks_findIn X hi) hb (.inr ⟨rfl, rfl⟩) h
end

/-! ### the attributes as a list of pairs -/
def putF (f : Str) (v : V) : List (Str × V) → List (Str × V)
  | [] => [(f, v)]
  | (g, x) :: r => if g = f then (g, v) :: r else (g, x) :: putF f v r
theorem lookup_putF (f g : Str) (v : V) : ∀ fs : List (Str × V), (putF f v fs).lookup g = if g = f then some v else fs.lookup g
  | [] => by
    show List.lookup g [(f, v)] = _
    by_cases h : g = f
    · have hb : (g == f) = true := beq_iff_eq.mpr h
      simp only [List.lookup, hb, if_pos h]
    · have hb : (g == f) = false := beq_eq_false_iff_ne.mpr h
      simp only [List.lookup, hb, if_neg h]
  | (k, x) :: r => by
    have ih := lookup_putF f g v r
    rw [show putF f v ((k, x) :: r) = (if k = f then (k, v) :: r else (k, x) :: putF f v r) from rfl]
    by_cases hk : k = f
    · rw [if_pos hk]
      by_cases h : g = k
      · have hb : (g == k) = true := beq_iff_eq.mpr h
        simp only [List.lookup, hb, if_pos (h.trans hk)]
      · have hb : (g == k) = false := beq_eq_false_iff_ne.mpr h
        simp only [List.lookup, hb, if_neg (fun e : g = f => h (e.trans hk.symm))]
    · rw [if_neg hk]
      by_cases h : g = k
      · have hb : (g == k) = true := beq_iff_eq.mpr h
        simp only [List.lookup, hb, if_neg (fun e : g = f => hk (h.symm.trans e))]
      · have hb : (g == k) = false := beq_eq_false_iff_ne.mpr h
        simp only [List.lookup, hb]
        exact ih
theorem keys_putF (f : Str) (v : V) : ∀ fs : List (Str × V), f ∈ (putF f v fs).map (·.1) ∧ ∀ g, g ∈ fs.map (·.1) → g ∈ (putF f v fs).map (·.1)
  | [] => ⟨by simp [putF], fun g h => by simp at h⟩
  | (k, x) :: r => by
    obtain ⟨i1, i2⟩ := keys_putF f v r
    rw [show putF f v ((k, x) :: r) = (if k = f then (k, v) :: r else (k, x) :: putF f v r) from rfl]
    by_cases hk : k = f
    · rw [if_pos hk]
      subst hk
      exact ⟨by simp, fun g h => by simpa using h⟩
    · rw [if_neg hk]
      refine ⟨?_, fun g h => ?_⟩
      · rw [List.map_cons]
        exact List.mem_cons_of_mem _ i1
      · rw [List.map_cons] at h ⊢
        rcases List.mem_cons.mp h with e | e
        · exact List.mem_cons.mpr (.inl e)
        · exact List.mem_cons_of_mem _ (i2 g e)
theorem length_putF (f : Str) (v : V) : ∀ fs : List (Str × V), (putF f v fs).length ≤ fs.length + 1
  | [] => by simp [putF]
  | (k, x) :: r => by
    have ih := length_putF f v r
    rw [show putF f v ((k, x) :: r) = (if k = f then (k, v) :: r else (k, x) :: putF f v r) from rfl]
    by_cases hk : k = f
    · rw [if_pos hk, List.length_cons, List.length_cons]; omega
    · rw [if_neg hk, List.length_cons, List.length_cons]; omega

theorem RelO.some_of {v : V} {o : Option Value} (r : RelO (some v) o) : ∃ u, o = some u ∧ RelV v u := by
  cases o with
  | none => exact (show False from r).elim
  | some u => exact ⟨u, rfl, r⟩
theorem RelO.none_of {o : Option Value} (r : RelO none o) : o = none := by
  cases o with
  | none => rfl
  | some u => exact (show False from r).elim
theorem handed_of {v : V} {u : Value} (r : RelV v u) : PySem.W.handedIn u = true := by
  cases v with
  | non => cases (show u = Value.none from r); rfl
  | bl b => cases (show u = Value.bool b from r); rfl
  | int i => obtain ⟨t, e⟩ := (show ∃ t, u = Value.int i t from r); cases e; rfl
  | str x => obtain ⟨t, e⟩ := (show ∃ t, u = Value.str x t from r); cases e; rfl
  | byt b => obtain ⟨t, e⟩ := (show ∃ t, u = Value.bytes b t from r); cases e; rfl
  | flt b => obtain ⟨t, e⟩ := (show ∃ t, u = Value.float b t from r); cases e; rfl
  | ref a => cases (show u = Value.ref a from r); rfl
  | ty n => cases (show u = Value.type n from r); rfl

section
variable {P : Program} {w : World} {H H' : Hp} {h h' : Heap} {a C dx : Addr} {fs fs' : List (Str × V)}
theorem ins_get (hok : HOk P w H h) (e : H a = some (.ins C dx fs)) : ∃ mA, ObjM h a dx C mA ∧ (∀ f, RelO (fs.lookup f) (mA f)) ∧ PySem.Within mA (fs.map (·.1)) ∧ fs.length ≤ 1000 ∧ H dx = some (.own a) := by
  obtain ⟨d, z, ne, ob, mA, n, r, q⟩ := (show ObjOk P w H h a (.ins C dx fs) from hok a _ e)
  exact ⟨mA, ⟨ob, n, ne⟩, r, q, z, d⟩
end

/-! ### what of the text a class must have -/
structure Cls (K : PySem.W.Frag) (C : Addr) : Prop where
  pg : PySem.W.plainGet K C Str.empty = true
  hd : PySem.W.hasDictIn K C = true
  po : PySem.W.plainOver K C = true
  sa : PySem.W.findIn K (.ref C) "__setattr__" = some (some (.builtin "object.__setattr__"))
theorem Cls.get {K : PySem.W.Frag} {C : Addr} (c : Cls K C) (f : Str) : PySem.W.plainGet K C f = true := c.pg
/-- no class of it has the name -/
def NoAttr (K : PySem.W.Frag) (C : Addr) (f : Str) : Prop := PySem.W.findIn K (.ref C) f = some none
theorem NoAttr.taker {K : PySem.W.Frag} {C : Addr} {f : Str} (n : NoAttr K C f) : PySem.W.takerIn K C f = some none := by
  unfold PySem.W.takerIn
  rw [show PySem.W.findIn K (.ref C) f = some none from n]
  rfl
/-- a constant of the class -/
structure Con (K : PySem.W.Frag) (C : Addr) (f : Str) (v : V) (u : Value) : Prop where
  at_ : PySem.W.findIn K (.ref C) f = some (some u)
  rel : RelV v u
  get : PySem.W.specialIn K u "__get__" = some none
  cp : PySem.W.copiedNames.contains f = false
/-- a method: a plain def of the class or of one above it -/
structure Meth (K : PySem.W.Frag) (C : Addr) (m : Str) (f : Addr) : Prop where
  at_ : PySem.W.findIn K (.ref C) m = some (some (.ref f))
  fn : PySem.W.isFn K (.ref f) = true
  kp : PySem.W.keepIn K (.ref f) = true

section
variable {X : Cx} {pins : List (Addr × Obj)} {σ : St} {H : Hp} {s : Shared} {a C dx : Addr} {fs : List (Str × V)} {f : Str} {v : V} {A : Around} {E : Value → Shared → Prop}

theorem getattr_ok {b : Bool} {Q : Value → Shared → Prop} (I : Inv X pins σ H s) (e : H a = some (.ins C dx fs)) (c : Cls X.K C) (n : NoAttr X.K C f) (l : fs.lookup f = some v)
    (h : ∀ u s', Inv X pins σ H s' → RelV v u → Q u s') : wpAny (model X.prog X.w) A (getAttr (.ref a) f b) Q E s := by
  obtain ⟨mA, O, r, _, _, _⟩ := ins_get I.hok e
  obtain ⟨u, hu, ru⟩ := RelO.some_of (v := v) (o := mA f) (by rw [← l]; exact r f)
  exact get_map I.kIn O (c.get f) c.hd n hu (handed_of ru) (h u _ (I.tok _) ru)

theorem getcon_ok {b : Bool} {u : Value} {Q : Value → Shared → Prop} (I : Inv X pins σ H s) (e : H a = some (.ins C dx fs)) (c : Cls X.K C) (k : Con X.K C f v u) (l : fs.lookup f = none)
    (h : ∀ s', Inv X pins σ H s' → Q u s') : wpAny (model X.prog X.w) A (getAttr (.ref a) f b) Q E s := by
  obtain ⟨mA, O, r, _, _, _⟩ := ins_get I.hok e
  have hn : mA f = none := RelO.none_of (by rw [← l]; exact r f)
  exact get_const I.kIn O (c.get f) c.hd k.at_ k.get k.cp hn (handed_of k.rel) (h _ (I.tok _))

theorem getmeth_ok {m : Str} {g : Addr} {pl : Sem Bool} {Q : Value × List Value → Shared → Prop} (I : Inv X pins σ H s) (e : H a = some (.ins C dx fs)) (c : Cls X.K C) (k : Meth X.K C m g) (l : fs.lookup m = none)
    (h : Q (.ref g, [.ref a]) s) : wpAny (model X.prog X.w) A (getMethod (.ref a) m pl) Q E s := by
  obtain ⟨mA, O, r, _, _, _⟩ := ins_get I.hok e
  have hn : mA m = none := RelO.none_of (by rw [← l]; exact r m)
  exact get_meth I.kIn O (c.get m) k.at_ k.fn hn h

theorem setattr_ok {y : V} {u : Value} {Q : Unit → Shared → Prop} (I : Inv X pins σ H s) (e : H a = some (.ins C dx fs)) (c : Cls X.K C) (n : NoAttr X.K C f) (hl : fs.length < 1000) (ry : RelV y u)
    (h : ∀ s', Inv X pins σ (upd H a (.ins C dx (putF f y fs))) s' → Q () s') : wpAny (model X.prog X.w) A (setAttr (.ref a) f u) Q E s := by
  obtain ⟨mA, O, r, wi, _, ho⟩ := ins_get I.hok e
  have hz : (fs.map (·.1)).length ≤ sizeLine := by rw [List.length_map, sizeLine_eq]; omega
  refine set_map I.kIn O c.sa c.po n.taker c.hd wi hz fun h' O' sb => h _ ?_
  have hd : ∃ o, h'.get? dx = some o := let ⟨o, _, _, e', _⟩ := O'.ns; ⟨o, e'⟩
  refine I.write (x := a) (e := dx) (by rw [e]; exact True.intro) (.inr ho) (fun b q hb z => (sb.2 b hb).trans z) hd ?_
  refine ⟨by rw [upd_ne O.ne]; exact ho, ?_, O.ne, O'.obj, _, O'.ns, fun g => ?_, fun g hg => ?_⟩
  · have := length_putF f y fs; omega
  · show RelO ((putF f y fs).lookup g) (if g = f then some u else mA g)
    rw [lookup_putF]
    by_cases q : g = f
    · rw [if_pos q, if_pos q]; exact ry
    · rw [if_neg q, if_neg q]; exact r g
  · by_cases q : g = f
    · rw [q]; exact (keys_putF f y fs).1
    · refine (keys_putF f y fs).2 g (wi g fun z => hg ?_)
      show (if g = f then some u else mA g) = none
      rw [if_neg q]; exact z

/-- a new instance, tracked, without attributes -/
theorem Inv.made (I : Inv X pins σ H s) : Inv X pins σ (upd (upd H s.heap.objs.size (.own (s.heap.objs.size + 1))) (s.heap.objs.size + 1) (.ins C s.heap.objs.size []))
    { s with heap := (s.heap.push PySem.W.emptyDict).push (PySem.W.instObj C s.heap.objs.size) } := by
  have e1 : (s.heap.push PySem.W.emptyDict).get? s.heap.objs.size = some PySem.W.emptyDict := Heap.get?_push_size s.heap rfl
  have e2 : ((s.heap.push PySem.W.emptyDict).push (PySem.W.instObj C s.heap.objs.size)).get? (s.heap.objs.size + 1) = some (PySem.W.instObj C s.heap.objs.size) := by
    have := Heap.get?_push_size (s.heap.push PySem.W.emptyDict) (o := PySem.W.instObj C s.heap.objs.size) rfl
    rwa [Heap.size_push] at this
  have e3 : (s.heap.push PySem.W.emptyDict).Ns s.heap.objs.size (fun _ => none) := ⟨PySem.W.emptyDict, #[], _, e1, rfl, (fun e he => absurd he (by simp)), fun _ => rfl⟩
  have I1 := I.laid (a := s.heap.objs.size) (o := .own (s.heap.objs.size + 1)) (h' := s.heap.push PySem.W.emptyDict) (t' := s.toks) (fun b u q => Heap.get?_push_of_some _ q) (Nat.le_refl _) ⟨_, e1⟩
  refine I1.laid (a := s.heap.objs.size + 1) (o := .ins C s.heap.objs.size []) (t' := s.toks) (fun b u q => Heap.get?_push_of_some _ q) (Nat.le_of_eq (Heap.size_push _ _)) ?_
  have ne : s.heap.objs.size ≠ s.heap.objs.size + 1 := Nat.ne_of_lt (Nat.lt_succ_self _)
  refine ⟨by rw [upd_ne ne, upd_same], Nat.zero_le _, ne, e2, fun _ => none, (Heap.Ns1.of_empty e3).at fun o q => Heap.get?_push_of_some _ q, fun _ => True.intro, fun y hy => absurd rfl hy⟩

/-- e.f where nothing but the object is asked: through attributeBase (super) and the last hold -/
theorem attr_of {prog : Program} {w : World} {env : Env} {e : Expr} {f : Str} {pos : Pos} {s : Shared} {Q : Value → Shared → Prop} (hb : attributeBase e f env (eval e env) = eval e env)
    (h : wpAny (model prog w) A (eval e env) (fun o s₁ => wpAny (model prog w) A (getAttr o f true) Q E s₁) E s) : wpAny (model prog w) A (eval (.Attribute e f pos) env) Q E s :=
  Attribute_any_ h (by rw [arm_eval_Attribute, hb])
end

/-! ### readings and rules -/
/-- e.f, an attribute of the instance -/
def tFld (K : PySem.W.Frag) (ta : TE) (f : Str) : TE := fun σ H Q => ta σ H fun x H1 => ∃ a C dx fs v, x = .ref a ∧ H1 a = some (.ins C dx fs) ∧ Cls K C ∧ NoAttr K C f ∧ fs.lookup f = some v ∧ Q v H1
/-- e.f, a constant of the class -/
def tCon (K : PySem.W.Frag) (ta : TE) (f : Str) : TE := fun σ H Q => ta σ H fun x H1 => ∃ a C dx fs v u, x = .ref a ∧ H1 a = some (.ins C dx fs) ∧ Cls K C ∧ Con K C f v u ∧ fs.lookup f = none ∧ Q v H1
/-- e.f = value -/
def sFld (K : PySem.W.Frag) (ta tv : TE) (f : Str) : TS := fun D σ H => tv σ H fun y H1 => ta σ H1 fun x H2 => ∃ a C dx fs, x = .ref a ∧ H2 a = some (.ins C dx fs) ∧ Cls K C ∧ NoAttr K C f ∧ fs.length < 1000 ∧
  D.nx σ (upd H2 a (.ins C dx (putF f y fs)))
/-- an augmented operator on two values -/
def InOp (X : Cx) (op : Operator) (rd : V → V → Hp → VK → Prop) : Prop :=
  ∀ (pins : List (Addr × Obj)) (s : Shared) (σ : St) (H : Hp) (x y : V) (u v : Value) (Q : VK), Inv X pins σ H s → RelV x u → RelV y v → rd x y H Q → wpAny (model X.prog X.w) X.A (inplaceOp op u v) (EP X pins σ Q) X.xe s
/-- e.f op= value -/
def sFldAug (K : PySem.W.Frag) (ta tv : TE) (rd : V → V → Hp → VK → Prop) (f : Str) : TS := fun D σ H => ta σ H fun x H1 => ∃ a C dx fs v, x = .ref a ∧ H1 a = some (.ins C dx fs) ∧ Cls K C ∧ NoAttr K C f ∧ fs.lookup f = some v ∧
  tv σ H1 fun y H2 => rd v y H2 fun z H3 => ∃ dx' fs', H3 a = some (.ins C dx' fs') ∧ fs'.length < 1000 ∧ D.nx σ (upd H3 a (.ins C dx' (putF f z fs')))

section
variable {X : Cx} {o e value : Expr} {f : Str} {pos pos' tpos : Pos} {ta tv : TE}
theorem pe_fld (he : PE X e ta) (hb : attributeBase e f X.env (eval e X.env) = eval e X.env) : PE X (.Attribute e f pos) (tFld X.K ta f) := by
  intro pins s σ H Q I h
  refine attr_of hb (thn (he pins s σ H _ I h) fun u s1 ⟨x, H1, I1, rx, a, C, dx, fs, v, ex, ea, c, n, l, q⟩ => ?_)
  subst ex
  obtain rfl : u = Value.ref a := rx
  exact getattr_ok I1 ea c n l fun u' s2 I2 ru => ⟨v, H1, I2, ru, q⟩
theorem pe_con (he : PE X e ta) (hb : attributeBase e f X.env (eval e X.env) = eval e X.env) : PE X (.Attribute e f pos) (tCon X.K ta f) := by
  intro pins s σ H Q I h
  refine attr_of hb (thn (he pins s σ H _ I h) fun u s1 ⟨x, H1, I1, rx, a, C, dx, fs, v, u0, ex, ea, c, k, l, q⟩ => ?_)
  subst ex
  obtain rfl : u = Value.ref a := rx
  exact getcon_ok I1 ea c k l fun s2 I2 => ⟨v, H1, I2, k.rel, q⟩
theorem ps_fld (ha : PE X o ta) (hv : PE X value tv) (hs : swapsWith value (some (.Attribute o f pos')) pos.line X.env = pure false) : PS X (.Assign [.Attribute o f pos'] value pos) (sFld X.K ta tv f) := by
  intro pins s σ H D I h
  refine plainObj_wpAny_Assign_Attribute (thn (hv pins s σ H _ I h) fun u s1 ⟨y, H1, I1, ry, q⟩ => thn (ha pins s1 σ H1 _ I1 q) fun ov s2 ⟨x, H2, I2, rx, a, C, dx, fs, ex, ea, c, n, l, q2⟩ => ?_) hs
  subst ex
  obtain rfl : ov = Value.ref a := rx
  exact setattr_ok I2 ea c n l ry fun s3 I3 => ⟨σ, _, I3, q2⟩
theorem ps_fldaug {op : Operator} {rd : V → V → Hp → VK → Prop} (ha : PE X o ta) (hv : PE X value tv) (hop : InOp X op rd) : PS X (.AugAssign (.Attribute o f tpos) op value pos) (sFldAug X.K ta tv rd f) := by
  intro pins s σ H D I h
  refine wpAny_AugAssign_AttributeAny (thn (ha pins s σ H _ I h) fun ov s1 ⟨x, H1, I1, rx, a, C, dx, fs, v, ex, ea, c, n, l, q⟩ => ?_)
  subst ex
  obtain rfl : ov = Value.ref a := rx
  refine getattr_ok I1 ea c n l fun u s2 I2 ru => thn (hv pins s2 σ H1 _ I2 q) fun w3 s3 ⟨y, H2, I3, ry, q3⟩ => thn (hop pins s3 σ H2 v y u w3 _ I3 ru ry q3) fun w4 s4 ⟨z, H3, I4, rz, dx', fs', ea', l', q4⟩ => ?_
  exact setattr_ok I4 ea' c n l' rz fun s5 I5 => ⟨σ, _, I5, q4⟩
def rAdd : V → V → Hp → VK → Prop := fun x y H Q => ∃ i j, x = .int i ∧ y = .int j ∧ Q (.int (i + j)) H
def rSub : V → V → Hp → VK → Prop := fun x y H Q => ∃ i j, x = .int i ∧ y = .int j ∧ Q (.int (i - j)) H
theorem in_add : InOp X .Add rAdd := by
  rintro pins s σ H x y u v Q I rx ry ⟨i, j, rfl, rfl, q⟩
  obtain ⟨t, rfl⟩ := (show ∃ t, u = Value.int i t from rx)
  obtain ⟨t', rfl⟩ := (show ∃ t', v = Value.int j t' from ry)
  exact PyProof.Rows.iadd_int ⟨.int (i + j), H, I.tok _, ⟨_, rfl⟩, q⟩
theorem in_sub : InOp X .Sub rSub := by
  rintro pins s σ H x y u v Q I rx ry ⟨i, j, rfl, rfl, q⟩
  obtain ⟨t, rfl⟩ := (show ∃ t, u = Value.int i t from rx)
  obtain ⟨t', rfl⟩ := (show ∃ t', v = Value.int j t' from ry)
  exact PyProof.Rows.isub_int ⟨.int (i - j), H, I.tok _, ⟨_, rfl⟩, q⟩

/-- what is between an instance and its method: the tree of a method call -/
theorem methcall_of {pl : Sem Bool} {m : Str} {apos : Pos} {args : List Expr} {pins : List (Addr × Obj)} {s : Shared} {σ : St} {H : Hp} {Q : Value → Shared → Prop} {te : TE} (he : PE X e te) (I : Inv X pins σ H s)
    (h : te σ H fun x H1 => ∃ a C dx fs g, x = .ref a ∧ H1 a = some (.ins C dx fs) ∧ Cls X.K C ∧ Meth X.K C m g ∧ fs.lookup m = none ∧
      ∀ s1, Inv X pins σ H1 s1 → wpAny (model X.prog X.w) X.A (callWith pos (.ref g) [.ref a] (backTo pos (starEach args X.env)) (backToKw pos (keywordEach [] X.env))) Q X.xe s1)
    (ht : eval (.Call (.Attribute e m apos) args [] pos) X.env = (do
      let ov ← eval e X.env
      standAt apos.atName
      let (f, first) ← holding [ov] (getMethod ov m pl)
      callWith pos f first (backTo pos (starEach args X.env)) (backToKw pos (keywordEach [] X.env)))) :
    wpAny (model X.prog X.w) X.A (eval (.Call (.Attribute e m apos) args [] pos) X.env) Q X.xe s := by
  refine PySem.W.methodCall_KW (pl := pl) (thn (he pins s σ H _ I h) fun u s1 ⟨x, H1, I1, rx, a, C, dx, fs, g, ex, ea, c, k, l, q⟩ => ?_) ht
  subst ex
  obtain rfl : u = Value.ref a := rx
  exact getmeth_ok I1 ea c k l (q s1 I1)
end

/-! ### isinstance -/
section
variable {X : Cx} {pins : List (Addr × Obj)} {σ : St} {H : Hp} {s : Shared} {A : Around} {E : Value → Shared → Prop} {Q : Value → Shared → Prop} {c : Value} {b : Bool}
/-- the type of a value, as the fragment's deciders take it; for an instance its class -/
inductive TyOf (K : PySem.W.Frag) (H : Hp) : V → Value → Prop where
  | non : TyOf K H .non (.type "NoneType")
  | bl (x : Bool) : TyOf K H (.bl x) (.type "bool")
  | int (i : Int) : TyOf K H (.int i) (.type "int")
  | str (x : Str) : TyOf K H (.str x) (.type "str")
  | flt (x : UInt64) : TyOf K H (.flt x) (.type "float")
  | lst {a : Addr} {xs : List V} (e : H a = some (.lst xs)) : TyOf K H (.ref a) (.type "list")
  | frz {a : Addr} {o : Obj} {xs : List V} (e : H a = some (.frz o (.lst xs))) : TyOf K H (.ref a) (.type "list")
  | tup {a : Addr} {xs : List V} (e : H a = some (.tup xs)) : TyOf K H (.ref a) (.type "tuple")
  | dK {a : Addr} {kvs : List (Key × V)} (e : H a = some (.dK kvs)) : TyOf K H (.ref a) (.type "dict")
  | dT {a : Addr} {kvs : List (List Key × V)} (e : H a = some (.dT kvs)) : TyOf K H (.ref a) (.type "dict")
  | ins {a C dx : Addr} {fs : List (Str × V)} (e : H a = some (.ins C dx fs)) (cl : Cls K C) (ha : PySem.W.findIn K (.ref C) "__class__" = some (some (.builtin "object.__class__")))
      (hn : PySem.W.specialIn K (.builtin "object.__class__") "__get__" = some (some (.builtin "getset_descriptor.__get__"))) (htk : PySem.W.takesIn K (.builtin "object.__class__") = some true)
      (hm : PySem.W.mroIn K C (.type "object") = some true) : TyOf K H (.ref a) (.ref C)
/-- isinstance(x, c) for one class c, a built-in or an own one: kitOne's answer -/
theorem isinst_ok {x : V} {u t : Value} (I : Inv X pins σ H s) (rx : RelV x u) (ty : TyOf X.K H x t) (e : PySem.W.kitOne X.K t c = some b) (h : ∀ tk, Q (.bool b) { s with toks := tk }) :
    wpAny (model X.prog X.w) A (call (.builtin "isinstance") [u, c]) Q E s := by
  cases ty with
  | non => cases (show u = Value.none from rx); exact PySem.W.kia_one PySem.W.kitx_none I.kIn True.intro e (fun z => nomatch z) h
  | bl y => cases (show u = Value.bool y from rx); exact PySem.W.kia_one PySem.W.kitx_bool I.kIn True.intro e (fun z => nomatch z) h
  | int i => obtain ⟨t, q⟩ := (show ∃ t, u = Value.int i t from rx); cases q; exact PySem.W.kia_one PySem.W.kitx_int I.kIn True.intro e (fun z => nomatch z) h
  | str y => obtain ⟨t, q⟩ := (show ∃ t, u = Value.str y t from rx); cases q; exact PySem.W.kia_one PySem.W.kitx_str I.kIn True.intro e (fun z => nomatch z) h
  | flt y => obtain ⟨t, q⟩ := (show ∃ t, u = Value.float y t from rx); cases q; exact PySem.W.kia_one PySem.W.kitx_float I.kIn True.intro e (fun z => nomatch z) h
  | @lst a xs ea =>
    cases (show u = Value.ref a from rx)
    obtain ⟨_, _, n, _, h1⟩ := (show ObjOk X.prog X.w H s.heap a (.lst xs) from I.hok a _ ea)
    exact PySem.W.kia_one PySem.W.kitx_list I.kIn ⟨_, h1, rfl⟩ e (fun z => nomatch z) h
  | @frz a ob xs ea =>
    cases (show u = Value.ref a from rx)
    obtain ⟨_, _, _, n, _, h1⟩ := (show ObjOk X.prog X.w H s.heap a (.frz ob (.lst xs)) from I.hok a _ ea)
    exact PySem.W.kia_one PySem.W.kitx_list I.kIn ⟨_, h1, rfl⟩ e (fun z => nomatch z) h
  | @tup a xs ea =>
    cases (show u = Value.ref a from rx)
    obtain ⟨_, _, _, p⟩ := (show ObjOk X.prog X.w H s.heap a (.tup xs) from I.hok a _ ea)
    obtain ⟨o, h1, h2, _⟩ := p
    exact PySem.W.kia_one PySem.W.kitx_tuple I.kIn ⟨o, h1, h2⟩ e (fun z => nomatch z) h
  | @dK a kvs ea =>
    cases (show u = Value.ref a from rx)
    obtain ⟨_, _, vs, _, p⟩ := (show ObjOk X.prog X.w H s.heap a (.dK kvs) from I.hok a _ ea)
    obtain ⟨o, es, ep, h1, h2, _⟩ := p
    exact PySem.W.kia_one PySem.W.kitx_dict I.kIn ⟨o, h1, h2.1⟩ e (fun z => nomatch z) h
  | @dT a kvs ea =>
    cases (show u = Value.ref a from rx)
    obtain ⟨_, _, xs, _, o, es, ep, h1, h2, _⟩ := (show ObjOk X.prog X.w H s.heap a (.dT kvs) from I.hok a _ ea)
    exact PySem.W.kia_one PySem.W.kitx_dict I.kIn ⟨o, h1, h2.1⟩ e (fun z => nomatch z) h
  | @ins a C dx fs ea cl ha hn htk hm =>
    cases (show u = Value.ref a from rx)
    obtain ⟨mA, O, _⟩ := ins_get I.hok ea
    obtain ⟨od, J, _⟩ := O.look
    exact PySem.W.kia_one (PySem.W.kitx_own (cl.get _) cl.hd ha hn htk hm) I.kIn J e (fun z => nomatch z) h
end
end L2

namespace L2
open PySem PySem.Spec PyProof.Rows

/-! ### room -/
structure Room (k : Nat) (A : Around) : Prop where
  hd : A.handled = none
  dp : A.depth + 3 * k + 5 < recursionLimit
  un : A.units + 16 * k + 200 < cLine
theorem Room.mono {j k : Nat} {A : Around} (r : Room k A) (h : j ≤ k) : Room j A := ⟨r.hd, by have := r.dp; omega, by have := r.un; omega⟩
theorem Room.deeper {k : Nat} {A : Around} (r : Room (k + 1) A) (env : Env) : Room k (A.deeper env) :=
  ⟨r.hd, by have := r.dp; show A.depth + 1 + 3 * k + 5 < _; omega, by have := r.un; show A.units + 3 + 16 * k + 200 < _; omega⟩
theorem Room.in1 {k : Nat} {A : Around} (r : Room (k + 1) A) : Room k A.in1 :=
  ⟨r.hd, by have := r.dp; show A.depth + 3 * k + 5 < _; omega, by have := r.un; show A.units + 1 + 16 * k + 200 < _; omega⟩
theorem make_depth {A : Around} {C : Addr} {us : List Value} {kw : List (Str × Value)} : (A.under (.builtin "type.__call__" ⟨.ref C :: us, kw⟩)).depth = A.depth + 1 := by
  first | rfl | simp [Around.under, Code.weight, Code.isCreation, Code.isGuard, Code.isCaller, Code.frames, Code.isFrame, guardIds]
theorem make_units {A : Around} {C : Addr} {us : List Value} {kw : List (Str × Value)} : (A.under (.builtin "type.__call__" ⟨.ref C :: us, kw⟩)).units = A.units + 1 := by
  first | rfl | simp [Around.under, Code.cUnits, Code.frames, Code.isFrame]
theorem Room.make {k : Nat} {A : Around} (r : Room (k + 1) A) (C : Addr) (us : List Value) (kw : List (Str × Value)) : Room k (A.under (.builtin "type.__call__" ⟨.ref C :: us, kw⟩)) :=
  ⟨r.hd, by have := r.dp; rw [make_depth]; omega, by have := r.un; rw [make_units]; omega⟩
theorem Room.depth {k : Nat} {A : Around} (r : Room k A) : A.depth < recursionLimit := by have := r.dp; omega
theorem Room.units {k : Nat} {A : Around} (r : Room k A) : A.units + 64 < cLine := by have := r.un; omega
theorem Room.units0 {k : Nat} {A : Around} (r : Room k A) : A.units < cLine := by have := r.un; omega

/-! ### argument lists and displays -/
def tNil : TA := fun _ H Q => Q [] H
def tCons (ta : TE) (tr : TA) : TA := fun σ H Q => ta σ H fun x H1 => tr σ H1 fun xs H2 => Q (x :: xs) H2
section
variable {X : Cx} {e : Expr} {es : List Expr} {te : TE} {t : TA} {pos : Pos}
theorem pa_nil : PA X [] tNil := fun _ _ _ _ H Q I h => Calls.spliced_nil ⟨[], H, I, .nil, h⟩
theorem pa_cons (ha : PE X e te) (hr : PA X es t) (hs : starEach (e :: es) X.env = (false, eval e X.env) :: starEach es X.env := by rfl) : PA X (e :: es) (tCons te t) := by
  intro pos pins s σ H Q I h
  rw [hs]
  show wpAny _ _ (spliced ((false, eval e X.env) :: backTo pos (starEach es X.env))) _ _ s
  refine Calls.spliced_cons (thn (ha pins s σ H _ I h) fun u s1 ⟨x, H1, I1, r1, q1⟩ => ?_)
  exact thn (hr pos pins s1 σ H1 _ I1 q1) fun us s2 ⟨xs, H2, I2, r2, q2⟩ => ⟨x :: xs, H2, I2, .cons r1 r2, q2⟩

/-- a tuple, a list of written items -/
def tTup (t : TA) : TE := fun σ H Q => t σ H fun xs H1 => xs.length ≤ sizeLine ∧ ∀ p, H1 p = none → Q (.ref p) (upd H1 p (.tup xs))
def tLst (t : TA) : TE := fun σ H Q => t σ H fun xs H1 => xs.length ≤ sizeLine ∧ ∀ p, H1 p = none → Q (.ref p) (upd H1 p (.lst xs))
theorem pe_tup {x1} (h : PA X es t) : PE X (.Tuple es x1 pos) (tTup t) := by
  intro pins s σ H Q I hq
  refine wpAny_Tuple_spliced (thn (h pos pins s σ H _ I hq) fun us s1 ⟨xs, H1, I1, r, z, q⟩ => ⟨by rw [← r.length]; exact z, ?_⟩)
  have hf : H1 s1.heap.objs.size = none := I1.hok.fresh (Nat.le_refl _)
  refine ⟨.ref s1.heap.objs.size, upd H1 s1.heap.objs.size (.tup xs), I1.laid (t' := s1.toks) (fun b u e => Heap.get?_push_of_some _ e) (Nat.le_refl _) ?_, rfl, q _ hf⟩
  exact ⟨z, us, r, ⟨_, Heap.get?_push_size _ rfl, rfl, _, rfl⟩⟩
theorem pe_lst (h : PA X es t) : PE X (.List es pos) (tLst t) := by
  intro pins s σ H Q I hq
  refine wpAny_List_spliced (thn (h pos pins s σ H _ I hq) fun us s1 ⟨xs, H1, I1, r, z, q⟩ => ⟨by rw [← r.length]; exact z, ?_⟩)
  have hf : H1 s1.heap.objs.size = none := I1.hok.fresh (Nat.le_refl _)
  refine ⟨.ref s1.heap.objs.size, upd H1 s1.heap.objs.size (.lst xs), I1.laid (t' := s1.toks) (fun b u e => Heap.get?_push_of_some _ e) (Nat.le_refl _) ?_, rfl, q _ hf⟩
  exact ⟨z, us, 0, r, Heap.get?_push_size _ rfl⟩
end

/-! ### what a def promises -/
/-- a def's promise: the bound arguments in the parameters' order, the heap, the wanted end, the wanted exception -/
abbrev Sp := List V → Hp → VK → XK → Prop
/-- how an exception lies behind a call (file 08 gives it): the callers' frames, abstract heap and state ahead of the call, the wish, the exception, the state -/
abbrev CXT := List Env → Hp → Shared → XK → Value → Shared → Prop

/-- the state at a call -/
structure Env0 (P : Program) (w : World) (K : PySem.W.Frag) (mg : Str → Option Value) (base : Heap) (A : Around) (outer : List Env) (s : Shared) (H : Hp) : Prop where
  frames : A.frames = some outer
  mod : Mod K mg base
  bs : ∀ b o, base.get? b = some o → s.heap.get? b = some o ∧ H b = none
  bsz : base.objs.size ≤ s.heap.objs.size
  funs : s.heap.FunFrames base outer
  frf : ∀ b ∈ frs outer, H b = none
  hok : HOk P w H s.heap
  bare : AllBare s.gens
/-- a call's end -/
def CE (outer : List Env) (P : Program) (w : World) (H : Hp) (s : Shared) (Q : VK) (u : Value) (s' : Shared) : Prop :=
  ∃ v H', s'.os = s.os ∧ AllBare s'.gens ∧ Un (frs outer) [] H H' s.heap s'.heap ∧ HOk P w H' s'.heap ∧ RelV v u ∧ Q v H'
def CR (CX : CXT) (outer : List Env) (P : Program) (w : World) (H : Hp) (s : Shared) (Q : VK) (E : XK) (r : Result) (s' : Shared) : Prop :=
  match r with
  | .ok (.ret u) => CE outer P w H s Q u s'
  | .ok _ => False
  | .error e => CX outer H s E e s'
structure FnOk (P : Program) (w : World) (K : PySem.W.Frag) (mg : Str → Option Value) (base : Heap) (CX : CXT) (k : Nat) (f : Addr) (fd : FuncData) (ps : List Str) (sp : Sp) : Prop where
  len : ∀ vs H Q E, sp vs H Q E → vs.length = ps.length
  run : ∀ (A : Around) (outer : List Env) (s : Shared) (H : Hp) (args : Args) (us : List Value) (vs : List V) (Q : VK) (E : XK), Room k A → Env0 P w K mg base A outer s H → BindsTo s fd args (ps.zip us) → Vals vs us → sp vs H Q E →
    codeAny (model P w) A (.call (.ref f) args) (CR CX outer P w H s Q E) s
theorem FnOk.mono {P : Program} {w : World} {K : PySem.W.Frag} {mg : Str → Option Value} {base : Heap} {CX : CXT} {j k : Nat} {f : Addr} {fd : FuncData} {ps : List Str} {sp : Sp} (F : FnOk P w K mg base CX j f fd ps sp) (h : j ≤ k) :
    FnOk P w K mg base CX k f fd ps sp := ⟨F.len, fun A outer s H args us vs Q E hr => F.run A outer s H args us vs Q E (hr.mono h)⟩
/-- a weaker promise -/
theorem FnOk.imp {P : Program} {w : World} {K : PySem.W.Frag} {mg : Str → Option Value} {base : Heap} {CX : CXT} {k : Nat} {f : Addr} {fd : FuncData} {ps : List Str} {sp sp' : Sp} (F : FnOk P w K mg base CX k f fd ps sp)
    (h : ∀ vs H Q E, sp' vs H Q E → sp vs H Q E) : FnOk P w K mg base CX k f fd ps sp' :=
  ⟨fun vs H Q E q => F.len vs H Q E (h _ _ _ _ q), fun A outer s H args us vs Q E hr he hb hv hs => F.run A outer s H args us vs Q E hr he hb hv (h _ _ _ _ hs)⟩

theorem Env0.make {P : Program} {w : World} {K : PySem.W.Frag} {mg : Str → Option Value} {base : Heap} {A : Around} {outer : List Env} {s : Shared} {H : Hp} (e : Env0 P w K mg base A outer s H) (C : Addr) (us : List Value) (kw : List (Str × Value)) :
    Env0 P w K mg base (A.under (.builtin "type.__call__" ⟨.ref C :: us, kw⟩)) outer s H := ⟨by first | exact e.frames | (simpa [Around.under, Code.envs, Code.isFrame, pushEnvs] using e.frames), e.mod, e.bs, e.bsz, e.funs, e.frf, e.hok, e.bare⟩
theorem Env0.in1 {P : Program} {w : World} {K : PySem.W.Frag} {mg : Str → Option Value} {base : Heap} {A : Around} {outer : List Env} {s : Shared} {H : Hp} (e : Env0 P w K mg base A outer s H) :
    Env0 P w K mg base A.in1 outer s H := ⟨e.frames, e.mod, e.bs, e.bsz, e.funs, e.frf, e.hok, e.bare⟩

section
variable {X : Cx} {pins : List (Addr × Obj)} {σ : St} {H : Hp} {s s' : Shared}
/-- from a body: what a callee wants -/
theorem Inv.env0 (I : Inv X pins σ H s) : Env0 X.prog X.w X.K X.mg X.base X.A X.stack s H :=
  ⟨I.ok.frames, I.ok.mod, I.bs, Nat.le_trans I.ok.bsz I.sz, I.stack, I.stkFree, I.hok, I.bare⟩
/-- behind a call -/
theorem Inv.after {Q : VK} {u : Value} (I : Inv X pins σ H s) (h : CE X.stack X.prog X.w H s Q u s') : EP X pins σ Q u s' := by
  obtain ⟨v, H', os, bare, un, hok, r, q⟩ := h
  obtain ⟨hh, g, d, t, os'⟩ := s'
  obtain rfl : os' = s.os := os
  exact ⟨v, H', I.call (h' := hh) (g' := g) (d' := d) (t' := t) (ch := []) un hok bare (fun b z => absurd z (by simp)), r, q⟩
end

/-! ### calls -/
/-- f(..): the written arguments, then the defaults dvs; E: what is wanted of an exception -/
def tCall (sp : Sp) (dvs : List V) (E : XK) (t : TA) : TE := fun σ H Q => t σ H fun vs H1 => sp (vs ++ dvs) H1 Q E
/-- o.m(..) of an instance of the class at C -/
def tMeth (C : Addr) (m : Str) (sp : Sp) (dvs : List V) (E : XK) (ta : TE) (t : TA) : TE := fun σ H Q => ta σ H fun x H1 => ∃ a dx fs, x = .ref a ∧ H1 a = some (.ins C dx fs) ∧ fs.lookup m = none ∧
  t σ H1 fun vs H2 => sp (x :: (vs ++ dvs)) H2 Q E
/-- C(..): a new instance and its dict, then __init__ -/
def tMake (C : Addr) (sp : Sp) (dvs : List V) (E : XK) (t : TA) : TE := fun σ H Q => t σ H fun vs H1 => ∀ x dx, H1 x = none → H1 dx = none → dx ≠ x →
  sp (.ref x :: (vs ++ dvs)) (upd (upd H1 dx (.own x)) x (.ins C dx [])) (fun v H2 => v = .non ∧ Q (.ref x) H2) E

/-- how the parameters are bound: us the positional arguments, kw the keywords' values by name, ds the defaults that fill up -/
def Binds (K : PySem.W.Frag) (fd : FuncData) (ps : List Str) (ds : List Value) : Prop :=
  ∀ (s : Shared) (us : List Value), K.In s.heap → (us ++ ds).length = ps.length → BindsTo s fd ⟨us, []⟩ (ps.zip (us ++ ds))
/-- every parameter is given -/
theorem Binds.all {K : PySem.W.Frag} {fd : FuncData} {ps : List Str} (h : ∀ us : List Value, us.length = ps.length → bindArgs fd ⟨us, []⟩ = pure (ps.zip us)) : Binds K fd ps [] := fun s us _ hl => by
  rw [List.append_nil] at hl ⊢
  exact .of_eq (h us hl)

/-- an exception of a callee reaches what this body wants of exceptions -/
def Passes (CX : CXT) (X : Cx) (E : XK) : Prop := ∀ (pins : List (Addr × Obj)) (σ : St) (H : Hp) (s : Shared) (e : Value) (s' : Shared), Inv X pins σ H s → CX X.stack H s E e s' → X.xe e s'

section
variable {X : Cx} {CX : CXT} {k : Nat} {f C : Addr} {fd : FuncData} {ps : List Str} {sp : Sp} {dvs : List V} {ds : List Value} {E : XK} {x m : Str} {p pos apos : Pos} {e o : Expr} {es : List Expr} {ta : TE} {t : TA}

/-- the callee runs -/
theorem run_fn {pins : List (Addr × Obj)} {σ : St} {H : Hp} {s : Shared} {Q : VK} {us : List Value} {vs : List V} (F : FnOk X.prog X.w X.K X.mg X.base CX k f fd ps sp) (hr : Room k X.A) (hb : Binds X.K fd ps ds) (hd : Vals dvs ds) (hx : Passes CX X E)
    (I : Inv X pins σ H s) (r : Vals vs us) (h : sp (vs ++ dvs) H Q E) : wpAny (model X.prog X.w) X.A (call (.ref f) us) (EP X pins σ Q) X.xe s := by
  have r2 : Vals (vs ++ dvs) (us ++ ds) := r.append hd
  have hl : (us ++ ds).length = ps.length := by rw [← r2.length]; exact F.len _ _ _ _ h
  refine wpAny_call (codeAny_mono (F.run X.A X.stack s H ⟨us, []⟩ (us ++ ds) (vs ++ dvs) Q E hr I.env0 (hb s us I.kIn hl) r2 h) fun r s' hq => ?_)
  cases r with
  | error e => exact hx pins σ H s e s' I hq
  | ok fl =>
    cases fl with
    | ret u => exact I.after hq
    | next => exact False.elim hq
    | brk => exact False.elim hq
    | cont => exact False.elim hq

theorem pe_call (F : FnOk X.prog X.w X.K X.mg X.base CX k f fd ps sp) (hr : Room k X.A) (hg : Gl X x) (hm : X.mg x = some (.ref f)) (hk : PySem.W.keepIn X.K (.ref f) = true) (hb : Binds X.K fd ps ds) (hd : Vals dvs ds) (hx : Passes CX X E)
    (ha : PA X (e :: es) t) (hdb : (x == ("__debug__" : Str)) = false := by decide) (he : starEach (e :: es) X.env = (false, eval e X.env) :: starEach es X.env := by rfl) (hpl : (backTo pos (starEach es X.env)).any (·.1) = false := by rfl) :
    PE X (.Call (.Name x p) (e :: es) [] pos) (tCall sp dvs E t) := by
  intro pins s σ H Q I h
  refine wpAny_Call_Name_kw (ld_glob I hg hm ?_ hdb)
  refine PySem.W.callWith_K (h₀ := X.base) I.ok.mod.kin hk (thn (ha pos pins s σ H _ I h) fun us s1 ⟨vs, H1, I1, r, q⟩ => ⟨I1.kIn, ?_⟩) he hpl
  exact run_fn F hr hb hd hx I1 r q
theorem pe_call0 (F : FnOk X.prog X.w X.K X.mg X.base CX k f fd ps sp) (hr : Room k X.A) (hg : Gl X x) (hm : X.mg x = some (.ref f)) (hk : PySem.W.keepIn X.K (.ref f) = true) (hb : Binds X.K fd ps ds) (hd : Vals dvs ds) (hx : Passes CX X E)
    (hdb : (x == ("__debug__" : Str)) = false := by decide) : PE X (.Call (.Name x p) [] [] pos) (tCall sp dvs E tNil) := by
  intro pins s σ H Q I h
  refine wpAny_Call_Name_kw (ld_glob I hg hm ?_ hdb)
  exact PySem.W.callWith_K0 I.kIn hk (run_fn (us := []) F hr hb hd hx I .nil h)

/-- o.m(e, ..) -/
theorem pe_meth {pl : Sem Bool} (he : PE X o ta) (c : Cls X.K C) (hm : Meth X.K C m f) (F : FnOk X.prog X.w X.K X.mg X.base CX k f fd ps sp) (hr : Room k X.A) (hb : Binds X.K fd ps ds) (hd : Vals dvs ds) (hx : Passes CX X E) (ha : PA X (e :: es) t)
    (hst : starEach (e :: es) X.env = (false, eval e X.env) :: starEach es X.env := by rfl) (hpl : (backTo pos (starEach es X.env)).any (·.1) = false := by rfl)
    (ht : eval (.Call (.Attribute o m apos) (e :: es) [] pos) X.env = (do
      let ov ← eval o X.env
      standAt apos.atName
      let (f, first) ← holding [ov] (getMethod ov m pl)
      callWith pos f first (backTo pos (starEach (e :: es) X.env)) (backToKw pos (keywordEach [] X.env))) := by rfl) :
    PE X (.Call (.Attribute o m apos) (e :: es) [] pos) (tMeth C m sp dvs E ta t) := by
  intro pins s σ H Q I h
  refine PySem.W.methodCall_KW (pl := pl) (thn (he pins s σ H _ I h) fun u s1 ⟨x, H1, I1, rx, a, dx, fs, ex, ea, l, q⟩ => ?_) ht
  subst ex
  obtain rfl : u = Value.ref a := rx
  refine getmeth_ok I1 ea c hm l ?_
  refine PySem.W.callWith_K (first := [.ref a]) (h₀ := X.base) I.ok.mod.kin hm.kp (thn (ha pos pins s1 σ H1 _ I1 q) fun us s2 ⟨vs, H2, I2, r, q2⟩ => ⟨I2.kIn, ?_⟩) hst hpl
  exact run_fn (us := .ref a :: us) (vs := .ref a :: vs) F hr hb hd hx I2 (.cons rfl r) q2
/-- o.m() -/
theorem pe_meth0 {pl : Sem Bool} (he : PE X o ta) (c : Cls X.K C) (hm : Meth X.K C m f) (F : FnOk X.prog X.w X.K X.mg X.base CX k f fd ps sp) (hr : Room k X.A) (hb : Binds X.K fd ps ds) (hd : Vals dvs ds) (hx : Passes CX X E)
    (ht : eval (.Call (.Attribute o m apos) [] [] pos) X.env = (do
      let ov ← eval o X.env
      standAt apos.atName
      let (f, first) ← holding [ov] (getMethod ov m pl)
      callWith pos f first (backTo pos (starEach [] X.env)) (backToKw pos (keywordEach [] X.env))) := by rfl) :
    PE X (.Call (.Attribute o m apos) [] [] pos) (tMeth C m sp dvs E ta tNil) := by
  intro pins s σ H Q I h
  refine PySem.W.methodCall_KW (pl := pl) (thn (he pins s σ H _ I h) fun u s1 ⟨x, H1, I1, rx, a, dx, fs, ex, ea, l, q⟩ => ?_) ht
  subst ex
  obtain rfl : u = Value.ref a := rx
  refine getmeth_ok I1 ea c hm l ?_
  exact PySem.W.callWith_K0 (first := [.ref a]) I1.kIn hm.kp (run_fn (us := [.ref a]) (vs := [.ref a]) F hr hb hd hx I1 (.cons rfl .nil) q)

/-- what a class must have to be made -/
structure Mk (K : PySem.W.Frag) (C f : Addr) : Prop where
  makes : PySem.W.makesIn K C = true
  init : PySem.W.findIn K (.ref C) "__init__" = some (some (.ref f))
  fn : PySem.W.isFn K (.ref f) = true
  kp : PySem.W.keepIn K (.ref C) = true

theorem run_make {pins : List (Addr × Obj)} {σ : St} {H : Hp} {s : Shared} {Q : VK} {us : List Value} {vs : List V} (M : Mk X.K C f) (F : FnOk X.prog X.w X.K X.mg X.base CX k f fd ps sp) (hr : Room (k + 1) X.A) (hb : Binds X.K fd ps ds) (hd : Vals dvs ds)
    (hx : Passes CX X E) (I : Inv X pins σ H s) (r : Vals vs us)
    (h : ∀ x dx, H x = none → H dx = none → dx ≠ x → sp (.ref x :: (vs ++ dvs)) (upd (upd H dx (.own x)) x (.ins C dx [])) (fun v H2 => v = .non ∧ Q (.ref x) H2) E) :
    wpAny (model X.prog X.w) X.A (call (.ref C) us) (EP X pins σ Q) X.xe s := by
  have hq := h (s.heap.objs.size + 1) s.heap.objs.size (I.hok.fresh (Nat.le_succ _)) (I.hok.fresh (Nat.le_refl _)) (Nat.ne_of_lt (Nat.lt_succ_self _))
  have I2 := Inv.made (C := C) I
  have r2 : Vals (V.ref (s.heap.objs.size + 1) :: (vs ++ dvs)) (Value.ref (s.heap.objs.size + 1) :: (us ++ ds)) := .cons rfl (r.append hd)
  have hl : (Value.ref (s.heap.objs.size + 1) :: us ++ ds).length = ps.length := by
    have e := r2.length
    rw [F.len _ _ _ _ hq] at e
    exact e.symm
  refine wpAny_call (make_map (f := f) I.kIn M.makes M.init (beq_iff_eq.mp M.fn) (codeAny_mono (F.run _ X.stack _ _ ⟨Value.ref (s.heap.objs.size + 1) :: us, []⟩ (Value.ref (s.heap.objs.size + 1) :: (us ++ ds)) _ _ E (hr.make C us [])
    (I2.env0.make C us []) (hb _ (Value.ref (s.heap.objs.size + 1) :: us) I2.kIn hl) r2 hq) fun r s' hq' => ?_))
  cases r with
  | error e => exact hx pins σ _ _ e s' I2 hq'
  | ok fl =>
    cases fl with
    | ret u =>
      obtain ⟨v, H', I3, rv, ev, q3⟩ := I2.after hq'
      subst ev
      exact ⟨rv, ⟨V.ref (s.heap.objs.size + 1), H', I3, rfl, q3⟩⟩
    | next => exact False.elim hq'
    | brk => exact False.elim hq'
    | cont => exact False.elim hq'
theorem pe_make (M : Mk X.K C f) (F : FnOk X.prog X.w X.K X.mg X.base CX k f fd ps sp) (hr : Room (k + 1) X.A) (hg : Gl X x) (hm : X.mg x = some (.ref C)) (hb : Binds X.K fd ps ds) (hd : Vals dvs ds) (hx : Passes CX X E)
    (ha : PA X (e :: es) t) (hdb : (x == ("__debug__" : Str)) = false := by decide) (he : starEach (e :: es) X.env = (false, eval e X.env) :: starEach es X.env := by rfl) (hpl : (backTo pos (starEach es X.env)).any (·.1) = false := by rfl) :
    PE X (.Call (.Name x p) (e :: es) [] pos) (tMake C sp dvs E t) := by
  intro pins s σ H Q I h
  refine wpAny_Call_Name_kw (ld_glob I hg hm ?_ hdb)
  refine PySem.W.callWith_K (h₀ := X.base) I.ok.mod.kin M.kp (thn (ha pos pins s σ H _ I h) fun us s1 ⟨vs, H1, I1, r, q⟩ => ⟨I1.kIn, ?_⟩) he hpl
  exact run_make M F hr hb hd hx I1 r q
theorem pe_make0 (M : Mk X.K C f) (F : FnOk X.prog X.w X.K X.mg X.base CX k f fd ps sp) (hr : Room (k + 1) X.A) (hg : Gl X x) (hm : X.mg x = some (.ref C)) (hb : Binds X.K fd ps ds) (hd : Vals dvs ds) (hx : Passes CX X E)
    (hdb : (x == ("__debug__" : Str)) = false := by decide) : PE X (.Call (.Name x p) [] [] pos) (tMake C sp dvs E tNil) := by
  intro pins s σ H Q I h
  refine wpAny_Call_Name_kw (ld_glob I hg hm ?_ hdb)
  exact PySem.W.callWith_K0 I.kIn M.kp (run_make (us := []) M F hr hb hd hx I .nil h)
end

/-! ### keywords -/
/-- the values of the keywords, from the left -/
def PK (X : Cx) (kws : List Keyword) (t : TA) : Prop :=
  ∀ (pos : Pos) (pins : List (Addr × Obj)) (s : Shared) (σ : St) (H : Hp) (Q : List V → Hp → Prop), Inv X pins σ H s → t σ H Q → wpAny (model X.prog X.w) X.A (evalAll ((backToKw pos (keywordEach kws X.env)).map (·.2))) (AP X pins σ Q) X.xe s
section
variable {X : Cx} {CX : CXT} {k : Nat} {f C : Addr} {fd : FuncData} {ps ks : List Str} {sp : Sp} {E : XK} {x m : Str} {p pos apos kpos : Pos} {e o : Expr} {es : List Expr} {kws : List Keyword} {te ta : TE} {t tk : TA} {nm : Option Str}
theorem pk_nil : PK X [] tNil := fun _ _ _ _ H Q I h => wpAny_evalAll_nil ⟨[], H, I, .nil, h⟩
theorem pk_cons (ha : PE X e te) (hr : PK X kws t) : PK X (⟨nm, e, kpos⟩ :: kws) (tCons te t) := by
  intro pos pins s σ H Q I h
  show wpAny _ _ (evalAll ((do let v ← eval e X.env; standAt pos; pure v) :: (backToKw pos (keywordEach kws X.env)).map (·.2))) _ _ s
  refine wpAny_evalAll_cons (wpAny_bind (thn (ha pins s σ H _ I h) fun u s1 ⟨x, H1, I1, r1, q1⟩ => wpAny_bind (wpAny_standAt (wpAny_pure ?_))))
  exact thn (hr pos pins s1 σ H1 _ I1 q1) fun us s2 ⟨xs, H2, I2, r2, q2⟩ => ⟨x :: xs, H2, I2, .cons r1 r2, q2⟩

/-- how a call with keywords binds: g puts the positional values us and the keywords' values ws (names ks) in the parameters' order, defaults among them -/
structure KBinds (K : PySem.W.Frag) (fd : FuncData) (ps ks : List Str) (g : List Value → List Value → List Value) (gV : List V → List V → List V) : Prop where
  to : ∀ (s : Shared) (us ws : List Value), K.In s.heap → (g us ws).length = ps.length → BindsTo s fd ⟨us, ks.zip ws⟩ (ps.zip (g us ws))
  rel : ∀ {vs : List V} {us : List Value} {zs : List V} {ws : List Value}, Vals vs us → Vals zs ws → Vals (gV vs zs) (g us ws)
def tCallK (sp : Sp) (gV : List V → List V → List V) (E : XK) (t tk : TA) : TE := fun σ H Q => t σ H fun vs H1 => tk σ H1 fun zs H2 => sp (gV vs zs) H2 Q E
variable {g : List Value → List Value → List Value} {gV : List V → List V → List V}
theorem run_fnk {pins : List (Addr × Obj)} {σ : St} {H : Hp} {s : Shared} {Q : VK} {us ws : List Value} {vs zs : List V} (F : FnOk X.prog X.w X.K X.mg X.base CX k f fd ps sp) (hr : Room k X.A) (hb : KBinds X.K fd ps ks g gV) (hx : Passes CX X E)
    (I : Inv X pins σ H s) (r : Vals vs us) (rz : Vals zs ws) (h : sp (gV vs zs) H Q E) : wpAny (model X.prog X.w) X.A (call (.ref f) us (ks.zip ws)) (EP X pins σ Q) X.xe s := by
  have r2 := hb.rel r rz
  have hl : (g us ws).length = ps.length := by rw [← r2.length]; exact F.len _ _ _ _ h
  refine wpAny_call (codeAny_mono (F.run X.A X.stack s H ⟨us, ks.zip ws⟩ (g us ws) (gV vs zs) Q E hr I.env0 (hb.to s us ws I.kIn hl) r2 h) fun r s' hq => ?_)
  cases r with
  | error e => exact hx pins σ H s e s' I hq
  | ok fl =>
    cases fl with
    | ret u => exact I.after hq
    | next => exact False.elim hq
    | brk => exact False.elim hq
    | cont => exact False.elim hq
/-- f(e, .., k = v, ..) -/
theorem pe_callK (F : FnOk X.prog X.w X.K X.mg X.base CX k f fd ps sp) (hr : Room k X.A) (hg : Gl X x) (hm : X.mg x = some (.ref f)) (hk : PySem.W.keepIn X.K (.ref f) = true) (hb : KBinds X.K fd ps ks g gV) (hx : Passes CX X E)
    (ha : PA X (e :: es) t) (hkw : PK X kws tk) (hall : (backToKw pos (keywordEach kws X.env)).all (·.1.isSome) = true := by rfl) (hks : (backToKw pos (keywordEach kws X.env)).filterMap (·.1) = ks := by rfl)
    (hdb : (x == ("__debug__" : Str)) = false := by decide) (he : starEach (e :: es) X.env = (false, eval e X.env) :: starEach es X.env := by rfl)
    (hpl : ((backTo pos (starEach (e :: es) X.env)).any (·.1) || (backToKw pos (keywordEach kws X.env)).any (·.1.isNone)) = false := by rfl) :
    PE X (.Call (.Name x p) (e :: es) kws pos) (tCallK sp gV E t tk) := by
  intro pins s σ H Q I h
  refine wpAny_Call_Name_kw (ld_glob I hg hm ?_ hdb)
  refine PySem.W.callWith_KW (h₀ := X.base) I.ok.mod.kin hk hall (thn (ha pos pins s σ H _ I h) fun us s1 ⟨vs, H1, I1, r, q⟩ => ?_) hpl he
  refine thn (hkw pos pins s1 σ H1 _ I1 q) fun ws s2 ⟨zs, H2, I2, rz, q2⟩ => ⟨I2.kIn, ?_⟩
  rw [hks]
  exact run_fnk F hr hb hx I2 r rz q2
end

/-! ### a def's body keeps its promise -/
/-- names: the parameters first -/
structure FnScope (N P : List Str) (sc : Scope) : Prop where
  kind : sc.kind = .function
  co : sc.isCoroutine = false
  gen : sc.isGenerator = false
  nd : N.Nodup
  pre : N.take P.length = P
  par : ∀ x ∈ P, sc.names.lookup x = some .local ∨ sc.names.lookup x = some .cell
  nofree : ∀ y ∈ sc.names, y.2 ≠ .free

theorem bindL_out {kindOf : Str → Option NameKind} {x : Str} : ∀ {binds : List (Str × Value)} {m : Str → Option Value}, (∀ v, (x, v) ∉ binds) → bindL kindOf binds m x = m x
  | [], _, _ => rfl
  | (n, v) :: r, m, h => by
    unfold bindL
    rw [bindL_out fun w hw => h w (List.mem_cons_of_mem _ hw)]
    split
    · have : x ≠ n := by rintro rfl; exact h v List.mem_cons_self
      simp [this]
    · rfl
theorem bindC_out {kindOf : Str → Option NameKind} {x : Str} : ∀ {binds : List (Str × Value)} {m : Str → Option Value}, (∀ v, (x, v) ∉ binds) → bindC kindOf binds m x = m x
  | [], _, _ => rfl
  | (n, v) :: r, m, h => by
    unfold bindC
    rw [bindC_out fun w hw => h w (List.mem_cons_of_mem _ hw)]
    split
    · rfl
    · have : x ≠ n := by rintro rfl; exact h v List.mem_cons_self
      simp [this]
theorem bindL_get {kindOf : Str → Option NameKind} {x : Str} {v : Value} : ∀ {P : List Str} {vs : List Value} {i : Nat} {m : Str → Option Value}, P.Nodup → P[i]? = some x → vs[i]? = some v → kindOf x = some .local →
    bindL kindOf (P.zip vs) m x = some v
  | [], _, _, _, _, h, _, _ => by simp at h
  | _ :: _, [], _, _, _, _, h, _ => by simp at h
  | p :: P, w :: vs, 0, m, nd, h1, h2, hk => by
    simp at h1 h2; subst h1; subst h2
    show bindL kindOf ((p, w) :: P.zip vs) m p = _
    unfold bindL
    rw [bindL_out fun v hv => (List.nodup_cons.mp nd).1 (List.of_mem_zip hv).1, if_pos hk]
    simp
  | p :: P, w :: vs, i + 1, m, nd, h1, h2, hk => by
    show bindL kindOf ((p, w) :: P.zip vs) m x = _
    unfold bindL
    exact bindL_get (i := i) (List.nodup_cons.mp nd).2 (by simpa using h1) (by simpa using h2) hk
theorem bindC_get {kindOf : Str → Option NameKind} {x : Str} {v : Value} : ∀ {P : List Str} {vs : List Value} {i : Nat} {m : Str → Option Value}, P.Nodup → P[i]? = some x → vs[i]? = some v → kindOf x ≠ some .local →
    bindC kindOf (P.zip vs) m x = some v
  | [], _, _, _, _, h, _, _ => by simp at h
  | _ :: _, [], _, _, _, _, h, _ => by simp at h
  | p :: P, w :: vs, 0, m, nd, h1, h2, hk => by
    simp at h1 h2; subst h1; subst h2
    show bindC kindOf ((p, w) :: P.zip vs) m p = _
    unfold bindC
    rw [bindC_out fun v hv => (List.nodup_cons.mp nd).1 (List.of_mem_zip hv).1, if_neg hk]
    simp
  | p :: P, w :: vs, i + 1, m, nd, h1, h2, hk => by
    show bindC kindOf ((p, w) :: P.zip vs) m x = _
    unfold bindC
    exact bindC_get (i := i) (List.nodup_cons.mp nd).2 (by simpa using h1) (by simpa using h2) hk

/-- the names' values at the entry -/
def start (N : List Str) (vs : List V) : St := vs.map some ++ List.replicate (N.length - vs.length) none

/-- the context of a def's body, at its entry; an exception leaves the frame, then lies as CX says -/
def cxOf (CX : CXT) (P : Program) (w : World) (K : PySem.W.Frag) (mg : Str → Option Value) (base : Heap) (N : List Str) (qual : Str) (scope : Scope) (f : Addr) (cd : Value) (A : Around) (outer : List Env) (s : Shared) (H : Hp) (E : XK) : Cx where
  prog := P
  w := w
  K := K
  mg := mg
  base := base
  A := A.deeper (envOfC qual scope s.heap.objs.size f cd)
  N := N
  s_0 := s
  H_0 := H
  env := envOfC qual scope s.heap.objs.size f cd
  outer := outer
  stack := envOfC qual scope s.heap.objs.size f cd :: outer
  ex := []
  calm := true
  fn := fun _ => true
  pn := []
  xe := fun e s' => wpAny (model P w) (A.deeper (envOfC qual scope s.heap.objs.size f cd)) (leaving (envOfC qual scope s.heap.objs.size f cd) e) (fun _ s'' => CX outer H s E e s'') (fun e' s'' => CX outer H s E e' s'') s'

theorem cell_has {sc : Scope} {n : Nat} {x : Str} (h : sc.names.lookup x = some .cell) : ∃ c, (cellsFrom n sc.names []).lookup x = some c := by
  have q := PySem.W.cellsFrom_some sc.names n [] (.inl h)
  exact Option.isSome_iff_exists.mp q

theorem inv_start {CX : CXT} {P : Program} {w : World} {K : PySem.W.Frag} {mg : Str → Option Value} {base : Heap} {N ps : List Str} {qual : Str} {scope : Scope} {f : Addr} {cd : Value} {A : Around} {outer : List Env} {s s1 : Shared} {H : Hp} {E : XK} {us : List Value} {vs : List V}
    (S : FnScope N ps scope) (hd : A.handled = none) (e0 : Env0 P w K mg base A outer s H) (hl : vs.length = ps.length) (r : Vals vs us)
    (x : InCallC s s.heap.objs.size (bindL (envOfC qual scope s.heap.objs.size f cd).kindOf (ps.zip us) fun _ => none) (cellsFrom (s.heap.objs.size + 1) scope.names []) (bindC (envOfC qual scope s.heap.objs.size f cd).kindOf (ps.zip us) fun _ => none) s1) :
    Inv (cxOf CX P w K mg base N qual scope f cd A outer s H E) [] (start N vs) H s1 := by
  have hpl : ps.length ≤ N.length := by have := congrArg List.length S.pre; rw [List.length_take] at this; omega
  obtain ⟨h1, tk, rfl, hk⟩ := x.done
  have noA : ∀ b : Addr, b ∉ (cxOf CX P w K mg base N qual scope f cd A outer s H E).ex := fun b z => absurd (show b ∈ ([] : List Addr) from z) (by simp)
  refine ⟨⟨e0.mod, S.kind, rfl, rfl, Nat.le_refl _, fun y z c h1 h2 => ?_, fun y hy => ?_, fun y c _ h => ?_, fun _ => hd, Around.frames_deeper e0.frames, .inr ⟨rfl, rfl⟩, fun b z => absurd z (noA b), e0.bs, e0.bsz, fun b _ _ => noA b, fun b z => absurd z (noA b), e0.funs, e0.frf⟩,
    rfl, e0.bare, Un.kept hk, ⟨_, x.toInCall.ns, fun i y v h1 h2 h3 => ?_⟩, fun y c h => ⟨_, x.cell y c h⟩, e0.hok.fresh (Nat.le_refl _), fun y c h => ?_, fun p hp => absurd (show p ∈ ([] : List (Addr × Obj)) from hp) (by simp), e0.hok.kept hk, ?_⟩
  · exact name_of_addr x.apart (PySem.mem_of_lookup h1) (PySem.mem_of_lookup h2)
  · have hy : scope.names.lookup y = some .cell ∨ scope.names.lookup y = some .free := hy
    rcases hy with hy | hy
    · exact cell_has hy
    · exact absurd rfl (S.nofree _ (PySem.mem_of_lookup hy))
  · exact Nat.le_of_lt (x.above y c (PySem.mem_of_lookup h))
  · have hi : i < vs.length := by
      unfold start at h2
      by_cases hi : i < vs.length
      · exact hi
      · rw [List.getElem?_append_right (by simpa using hi)] at h2
        rw [List.getElem?_replicate] at h2
        split at h2 <;> cases h2
    have ha : vs[i]? = some v := by
      unfold start at h2
      rw [List.getElem?_append_left (by simpa using hi), List.getElem?_map] at h2
      cases e : vs[i]? with
      | none => rw [e] at h2; cases h2
      | some a => rw [e] at h2; cases h2; rfl
    obtain ⟨u, hu, rv⟩ := r.get ha
    have hp : ps[i]? = some y := by
      rw [← S.pre, List.getElem?_take_of_lt (by omega)]; exact h1
    have ndP : ps.Nodup := by rw [← S.pre]; exact S.nd.sublist (List.take_sublist _ _)
    refine ⟨u, rv, ?_⟩
    rcases S.par y (List.mem_of_getElem? hp) with k | k
    · exact .inl ⟨k, bindL_get ndP hp hu k⟩
    · obtain ⟨c, e⟩ := cell_has (n := s.heap.objs.size + 1) k
      refine .inr ⟨.inl k, c, e, ?_⟩
      have q := x.cell y c e
      rw [bindC_get ndP hp hu (by show scope.names.lookup y ≠ _; rw [k]; decide)] at q
      exact q
  · exact e0.hok.fresh (Nat.le_of_lt (x.above y c (PySem.mem_of_lookup h)))
  · unfold start
    show _ = N.length
    rw [List.length_append, List.length_map, List.length_replicate]
    omega

/-- THE RULE: a def (or a method) of the text, by its body. The body's reading t is chosen for each entry; it is run at the parameters' values -/
theorem fn_of {CX : CXT} {P : Program} {w : World} {K : PySem.W.Frag} {mg : Str → Option Value} {base : Heap} {k : Nat} {f : Addr} {name qual : Str} {params : Arguments} {body : List Stmt} {scope : Scope} {dV kV doc pm cdv ct oc : Value} {an od : Option Addr}
    {osl : Array (Option Value)} {N ps : List Str} {sp : Sp} (lk : K.lookup f = some ⟨oc, od, .func (PySem.W.fnOf name qual params body scope dV kV doc pm an cdv ct), osl⟩) (hcd : PySem.W.codeIn K cdv qual = true) (S : FnScope N ps scope)
    (len : ∀ vs H Q E, sp vs H Q E → vs.length = ps.length)
    (hbody : ∀ (A : Around) (outer : List Env) (s : Shared) (H : Hp) (vs : List V) (Q : VK) (E : XK), Room k (A.deeper (envOfC qual scope s.heap.objs.size f cdv)) → sp vs H Q E →
      ∃ t, PSs (cxOf CX P w K mg base N qual scope f cdv A outer s H E) body t ∧ t { nx := fun _ H' => Q .non H', rt := Q } (start N vs) H) :
    FnOk P w K mg base CX (k + 1) f (PySem.W.fnOf name qual params body scope dV kV doc pm an cdv ct) ps sp := by
  refine ⟨len, fun A outer s H args us vs Q E hr e0 hb r hsp => ?_⟩
  have hl := len _ _ _ _ hsp
  have KX : K.In s.heap := e0.mod.kin.keeps fun b o e => (e0.bs b o e).1
  have lim : s.heap.NoLimit := e0.mod.nolimit.keeps fun b o e => (e0.bs b o e).1
  have hkind : ∀ y ∈ ps.zip us, scope.names.lookup y.1 = some .local ∨ (scope.names.lookup y.1 = some .cell ∧ ((cellsFrom (s.heap.objs.size + 1) scope.names []).lookup y.1).isSome = true) := fun ⟨n, v⟩ hy => by
    rcases S.par n (List.of_mem_zip hy).1 with q | q
    · exact .inl q
    · exact .inr ⟨q, PySem.W.cellsFrom_some _ _ _ (.inl q)⟩
  refine codeAny_call_function hr.depth (KX _ _ lk) rfl S.co S.gen rfl (PySem.W.codeRec_of KX hcd) (hb _ _ _ _ ?_)
  refine wpAny_newFunctionEnv_cells S.kind hkind fun env he s1 x => ?_
  subst he
  refine ⟨lim.keeps x.toInCall.keep, codeAny_func ?_⟩
  obtain ⟨t, ht, hq⟩ := hbody A outer s H vs Q E (hr.deeper _) hsp
  have I : Inv (cxOf CX P w K mg base N qual scope f cdv A outer s H E) [] (start N vs) H s1 := inv_start S hr.hd e0 hl r x
  refine wpAny_mono (ht [] s1 (start N vs) H _ I hq) (fun fl s' hs => ?_) fun e s' hs => hs
  have fin : ∀ {σ' : St} {H' : Hp} {v : V} {u : Value}, Inv (cxOf CX P w K mg base N qual scope f cdv A outer s H E) [] σ' H' s' → RelV v u → Q v H' → CE outer P w H s Q u s' :=
    fun {σ' H' v u} J rv q => ⟨v, H', J.os, J.bare, J.base, J.hok, rv, q⟩
  cases fl with
  | ret u =>
    obtain ⟨v, σ', H', J, rv, q⟩ := hs
    exact fin J rv q
  | next =>
    obtain ⟨σ', H', J, q⟩ := hs
    exact fin (v := V.non) (u := Value.none) J rfl q
  | brk =>
    obtain ⟨_, _, _, q⟩ := hs
    exact False.elim q
  | cont =>
    obtain ⟨_, _, _, q⟩ := hs
    exact False.elim q
end L2

namespace L2
open PySem PySem.Spec PyProof.Rows
section
variable {X : Cx} {x : Str} {p pos : Pos} {e : Expr} {es : List Expr} {t : TA} {id T : String} {r : List V → Hp → VK → Prop}

def tCB (r : List V → Hp → VK → Prop) (t : TA) : TE := fun σ H Q => t σ H fun vs H1 => r vs H1 Q
/-- f(e, ..), f a built-in function -/
theorem pe_callB (hc : CallR X (.builtin id) r) (hg : Gl X x) (hm : X.mg x = none) (hv : bootBuiltins x = some (.builtin id)) (ha : PA X (e :: es) t) (hn : x ≠ "__name__" := by decide) (hdb : (x == ("__debug__" : Str)) = false := by decide)
    (he : starEach (e :: es) X.env = (false, eval e X.env) :: starEach es X.env := by rfl) (hpl : (backTo pos (starEach es X.env)).any (·.1) = false := by rfl) : PE X (.Call (.Name x p) (e :: es) [] pos) (tCB r t) := by
  intro pins s σ H Q I h
  refine wpAny_Call_Name_kw (ld_blt I hg hm hv ?_ hn hdb)
  exact PyProof.Rows.callWith_builtin1 (thn (ha pos pins s σ H _ I h) fun us s1 ⟨vs, H1, I1, r1, q1⟩ => hc pins s1 σ H1 vs us Q I1 r1 q1) he hpl
/-- T(e, ..), T a built-in type -/
theorem pe_callTy (hc : CallR X (.type T) r) (hg : Gl X x) (hm : X.mg x = none) (hv : bootBuiltins x = some (.type T)) (ha : PA X (e :: es) t) (hn : x ≠ "__name__" := by decide) (hdb : (x == ("__debug__" : Str)) = false := by decide)
    (he : starEach (e :: es) X.env = (false, eval e X.env) :: starEach es X.env := by rfl) (hpl : (backTo pos (starEach es X.env)).any (·.1) = false := by rfl) : PE X (.Call (.Name x p) (e :: es) [] pos) (tCB r t) := by
  intro pins s σ H Q I h
  refine wpAny_Call_Name_kw (ld_blt I hg hm hv ?_ hn hdb)
  exact PyProof.Rows.callWith_type1 (thn (ha pos pins s σ H _ I h) fun us s1 ⟨vs, H1, I1, r1, q1⟩ => hc pins s1 σ H1 vs us Q I1 r1 q1) he hpl
/-- T() -/
theorem pe_callTy0 (hc : CallR X (.type T) r) (hg : Gl X x) (hm : X.mg x = none) (hv : bootBuiltins x = some (.type T)) (hn : x ≠ "__name__" := by decide) (hdb : (x == ("__debug__" : Str)) = false := by decide) :
    PE X (.Call (.Name x p) [] [] pos) (tCB r tNil) := by
  intro pins s σ H Q I h
  refine wpAny_Call_Name_kw (ld_blt I hg hm hv ?_ hn hdb)
  exact PyProof.Rows.callWith_type0 (hc pins s σ H [] [] Q I .nil h)
end
end L2

namespace HT
open PySem PyProof.Rows

/-- t < u of tuples of ints -/
def lexLt : List Int → List Int → Bool
  | [], [] => false
  | [], _ :: _ => true
  | _ :: _, [] => false
  | x :: xs, y :: ys => if x = y then lexLt xs ys else decide (x < y)
theorem lexLt_cons (x y : Int) (xs ys : List Int) : lexLt (x :: xs) (y :: ys) = if x = y then lexLt xs ys else decide (x < y) := rfl
theorem lexLt_nil_nil : lexLt [] [] = false := rfl
theorem lexLt_nil_cons (y : Int) (ys : List Int) : lexLt [] (y :: ys) = true := rfl
theorem lexLt_cons_nil (x : Int) (xs : List Int) : lexLt (x :: xs) [] = false := rfl

theorem eqAt_int (A : Around) (s : Shared) (a : Int) (t : Tok) (c : Int) (u : Tok) : ∃ e, SeqAt.EqAt A s (.int a t) (.int c u) e ∧ (e = true ↔ a = c) :=
  ⟨(a == c), SeqAt.EqAt.int_int a t c u, by simp⟩
theorem rcLt_int (A : Around) (s : Shared) (a : Int) (t : Tok) (c : Int) (u : Tok) (prog : Program) (w : World) (E : Value → Shared → Prop) (Q : Value → Shared → Prop) (h : Q (.bool (decide (a < c))) s) :
    wpAny (model prog w) A (richCompare .Lt (.int a t) (.int c u)) Q E s :=
  (PyProof.Rows.lt_int h : wpAny (model prog w) A (compareOp .Lt (.int a t) (.int c u)) Q E s)

section
open PySem.SeqAt
open PySem.AutoSeq1 (wpAny_loadPart')
open PySem.MeetsSeq PySem.MeetsSeq2 PySem.MeetsSeq3

theorem tuple_lt_ints (l b : Addr) (items items2 : Array Value) (n n2 : Nat) (dd dd2 : Option Addr) (sl sl2 : Array (Option Value)) (ns ms : List Int) (hi : IntsAre items.toList ns) (hj : IntsAre items2.toList ms) :
    Meets (Builtin.«tuple.__lt__» ⟨[.ref l, .ref b], []⟩)
      (fun _ R s => s.heap.get? l = some { cls := .type "tuple", dict := dd, data := .seq items n, slots := sl } ∧ s.heap.get? b = some { cls := .type "tuple", dict := dd2, data := .seq items2 n2, slots := sl2 } ∧
        R (.ok (.ret (.bool (lexLt ns ms)))) s) :=
  .of_wp fun prog w A R s h => by
    obtain ⟨hp, g, d, tk, os⟩ := s; obtain ⟨hl, hb, h⟩ := h
    have f2 := AutoSeq1.sub_tuple_tuple
    have z1 : items.size = ns.length := by rw [← hi.length]; simp
    have z2 : items2.size = ms.length := by rw [← hj.length]; simp
    wp_walk using wpAny_loadPart' hl, wpAny_loadPart' hb, wpAny_forIn_list _ (fun rest b s' => b.1 = none ∧ s' = ⟨hp, g, d, tk, os⟩ ∧ ∃ (vs ws : List Value) (ns' ms' : List Int), rest = vs.zip ws ∧
      IntsAre vs ns' ∧ IntsAre ws ms' ∧ ns'.length + items2.size = ms'.length + items.size ∧ R (.ok (.ret (.bool (lexLt ns' ms')))) ⟨hp, g, d, tk, os⟩) _
    case turn =>
      rintro ⟨y, x⟩ rest b s' ⟨hb', rfl, vs, ws, ns', ms', hz, hvi, hwi, hlen, hR⟩
      cases hvi with
      | nil => rw [List.zip_nil_left] at hz; cases hz
      | cons a t hvi' =>
        cases hwi with
        | nil => rw [List.zip_nil_right] at hz; cases hz
        | cons c u hwi' =>
          rw [List.zip_cons_cons] at hz
          injection hz with hyx hrest
          injection hyx with hy hx
          subst hy hx
          rw [lexLt_cons] at hR
          simp only [List.length_cons] at hlen
          obtain ⟨e, he, hiff⟩ := eqAt_int A.in1 ⟨hp, g, d, tk, os⟩ a t c u
          refine wpAny_bind (he prog w _ _ ?_)
          cases e with
          | true =>
            rw [if_pos (hiff.mp rfl)] at hR
            wp_walk
            exact ⟨rfl, rfl, _, _, _, _, hrest, hvi', hwi', by omega, hR⟩
          | false =>
            rw [if_neg (fun q => absurd (hiff.mpr q) Bool.false_ne_true)] at hR
            have hri := rcLt_int A.in1 ⟨hp, g, d, tk, os⟩ a t c u prog w
            wp_walk using hri
            exact ⟨_, rfl, by simpa using hR⟩
    case fin =>
      rintro ⟨b1, b2⟩ s' ⟨hb', rfl, vs, ws, ns', ms', hz, hvi, hwi, hlen, hR⟩
      simp only at hb'
      subst hb'
      have hv : lexLt ns' ms' = decide (items.size < items2.size) := by
        cases hvi with
        | nil =>
          cases hwi with
          | nil =>
            simp only [List.length_nil] at hlen
            rw [lexLt_nil_nil]
            exact (decide_eq_false (by omega)).symm
          | cons c u hw =>
            simp only [List.length_nil, List.length_cons] at hlen
            rw [lexLt_nil_cons]
            exact (decide_eq_true (by omega)).symm
        | cons a t hv =>
          cases hwi with
          | nil =>
            simp only [List.length_nil, List.length_cons] at hlen
            rw [lexLt_cons_nil]
            exact (decide_eq_false (by omega)).symm
          | cons c u hw =>
            rw [List.zip_cons_cons] at hz
            cases hz
      rw [hv] at hR
      wp_walk
      exact ⟨_, rfl, by simpa [Builtin.Tuple.tupleCompareSizes] using hR⟩
    case h =>
      exact ⟨rfl, rfl, items.toList, items2.toList, ns, ms, rfl, hi, hj, by omega, h⟩
end

section
variable {prog : Program} {w : World} {A : Around} {E : Value → Shared → Prop} {s : Shared}

theorem lt_tupInts {l b : Addr} {items items2 : Array Value} {ns ms : List Int} {Q : Value → Shared → Prop} (hl : IsTup s.heap l items) (hb : IsTup s.heap b items2) (hi : IntsAre items.toList ns) (hj : IntsAre items2.toList ms)
    (hu : A.units < cLine) (h : Q (.bool (lexLt ns ms)) s) : wpAny (model prog w) A (compareOp .Lt (.ref l) (.ref b)) Q E s := by
  obtain ⟨⟨cls, dd, data, sl⟩, ho, hc, n, hd⟩ := id hl
  obtain ⟨⟨cls2, dd2, data2, sl2⟩, ho2, hc2, n2, hd2⟩ := id hb
  simp only at hc hd hc2 hd2
  subst hc hd hc2 hd2
  exact richCompare_meets_room (op := .Lt) ⟨_, ho, rfl⟩ ⟨_, ho2, rfl⟩ PySem.F.slot_tuple_lt PySem.F.entry_tuple_lt (PySem.F.args_tuple_lt_2 _ _) (tuple_lt_ints l b items items2 n n2 dd dd2 sl sl2 ns ms hi hj)
    ⟨ho, ho2, show Value.bool (lexLt ns ms) ≠ Value.notImplemented ∧ Q (.bool (lexLt ns ms)) s from ⟨(fun x => nomatch x), h⟩⟩ hu

/-- t + u, t not empty -/
theorem cat_tup {t b : Addr} {vs ws : List Value} {Q : Value → Shared → Prop} (ht : IsTup s.heap t vs.toArray) (hb : IsTup s.heap b ws.toArray) (hv : vs ≠ [])
    (h1 : ws = [] → Q (.ref t) s) (h2 : ws ≠ [] → Q (.ref s.heap.objs.size) { s with heap := s.heap.push { cls := .type "tuple", data := .seq (vs ++ ws).toArray } })
    (hsz : vs.length + ws.length ≤ sizeLine) : wpAny (model prog w) A (binaryOp .Add (.ref t) (.ref b)) Q E s := by
  obtain ⟨⟨cls, dd, data, sl⟩, ho, hc, n, hd⟩ := id ht
  obtain ⟨⟨cls2, dd2, data2, sl2⟩, ho2, hc2, n2, hd2⟩ := id hb
  simp only at hc hd hc2 hd2
  subst hc hd hc2 hd2
  have e : vs.toArray ++ ws.toArray = (vs ++ ws).toArray := by simp
  by_cases hw : ws = []
  · exact concat_meets ⟨_, ho, rfl⟩ ⟨_, ho2, rfl⟩ noFill_tuple_add seq_tuple_add PySem.F.slot_tuple_add PySem.F.entry_tuple_add (PySem.F.args_tuple_add_2 _ _)
      (tuple_addW1 t b vs.toArray ws.toArray n n2 dd dd2 sl sl2 (by simpa using hv) (by simp [hw])) ⟨ho, ho2, h1 hw⟩
  · refine concat_meets ⟨_, ho, rfl⟩ ⟨_, ho2, rfl⟩ noFill_tuple_add seq_tuple_add PySem.F.slot_tuple_add PySem.F.entry_tuple_add (PySem.F.args_tuple_add_2 _ _)
      (tuple_addW2 t b vs.toArray ws.toArray n n2 dd dd2 sl sl2 (by simpa using hv) (by simpa using hw) (by rw [List.size_toArray, List.size_toArray]; exact hsz)) ⟨ho, ho2, ?_⟩
    rw [e]
    exact h2 hw

/-! ### t[a:b], not the whole -/
/-- a slice's bound as a place among n (d where it is left out) -/
def sIx (n d : Nat) : Option Int → Nat
  | none => d
  | some v => if v < 0 then (v + (n : Int)).toNat else min v.toNat n
theorem sIx_none (n d : Nat) : sIx n d none = d := rfl
theorem sIx_nat (n d k : Nat) : sIx n d (some (k : Int)) = min k n := by
  show (if (k : Int) < 0 then ((k : Int) + (n : Int)).toNat else min (k : Int).toNat n) = min k n
  rw [if_neg (by omega), Int.toNat_natCast]
theorem sIx_le (n d : Nat) (hd : d ≤ n) (o : Option Int) : sIx n d o ≤ n := by
  cases o with
  | none => exact hd
  | some v =>
    show (if v < 0 then (v + (n : Int)).toNat else min v.toNat n) ≤ n
    by_cases hv : v < 0
    · rw [if_pos hv]; omega
    · rw [if_neg hv]; exact Nat.min_le_right _ _
theorem clip_eq (v : Int) (n d : Nat) : (if v < 0 then max (v + (n : Int)) 0 else min v (n : Int)) = ((sIx n d (some v) : Nat) : Int) := by
  show (if v < 0 then max (v + (n : Int)) 0 else min v (n : Int)) = (((if v < 0 then (v + (n : Int)).toNat else min v.toNat n) : Nat) : Int)
  by_cases hv : v < 0
  · simp only [if_pos hv]; omega
  · simp only [if_neg hv]; omega
theorem adjust_gen (lo hi : Option Int) (n : Nat) : Builtin.Slice.sliceAdjust lo hi 1 (n : Int) = (((sIx n 0 lo : Nat) : Int), ((sIx n n hi : Nat) : Int)) := by
  have h1 : ¬ ((1 : Int) < 0) := by omega
  unfold Builtin.Slice.sliceAdjust
  simp only [h1, if_false]
  refine Prod.ext ?_ ?_
  · cases lo with
    | none => rfl
    | some v => exact clip_eq v n 0
  · cases hi with
    | none => rfl
    | some v => exact clip_eq v n n
theorem places_gen (i j : Nat) : Builtin.Slice.slicePlaces (i : Int) (j : Int) 1 = j - i := by
  unfold Builtin.Slice.slicePlaces
  have h1 : (1 : Int) > 0 := by omega
  simp only [h1, if_true, Int.ediv_one]
  split <;> omega
theorem slicePart_ {v : Value} {o : Option Int} {Q : Option Int → Shared → Prop} (p : IsPart v o) (h : Q o s) : wpAny (model prog w) A (Builtin.Slice.slicePartIndex v) Q E s := by
  cases p with
  | none => exact slicePart_none h
  | int i t => exact slicePart_int h
theorem sliceApplied_gen {sl : Addr} {vl vu : Value} {lo hi : Option Int} {n : Nat} {Q : Int × Int × Nat → Shared → Prop} (hs : s.heap.IsSliceOf sl vl vu .none) (pl : IsPart vl lo) (pu : IsPart vu hi)
    (h : Q (((sIx n 0 lo : Nat) : Int), 1, sIx n n hi - sIx n 0 lo) s) : wpAny (model prog w) A (Builtin.Slice.sliceApplied (.ref sl) (pure (n : Int))) Q E s := by
  obtain ⟨os, hos, hcs, hds⟩ := id hs
  unfold Builtin.Slice.sliceApplied Builtin.Slice.sliceFields
  refine wpAny_bind (wpAny_bind (wpAny_field hos hds (x := vl) rfl (wpAny_bind (wpAny_field hos hds (x := vu) rfl (wpAny_bind (wpAny_field hos hds (x := .none) rfl (wpAny_pure ?_)))))))
  refine wpAny_bind (slicePart_none ?_)
  show wpAny _ _ (if ((1 : Int) == 0) = true then _ else _) _ _ s
  rw [if_neg (by decide)]
  refine wpAny_bind (slicePart_ pl (wpAny_bind (slicePart_ pu (wpAny_bind (wpAny_pure ?_)))))
  show wpAny _ _ (match Builtin.Slice.sliceAdjust lo hi 1 (n : Int) with | (lo, hi) => pure (lo, (1 : Int), Builtin.Slice.slicePlaces lo hi 1)) _ _ s
  rw [adjust_gen lo hi n]
  show wpAny _ _ (pure (((sIx n 0 lo : Nat) : Int), (1 : Int), Builtin.Slice.slicePlaces ((sIx n 0 lo : Nat) : Int) ((sIx n n hi : Nat) : Int) 1)) _ _ s
  rw [places_gen]
  exact wpAny_pure h
theorem pick_gen (xs : Array Value) (i k : Nat) : ((List.range k).filterMap fun (m : Nat) => xs[((i : Int) + (m : Int) * 1).toNat]?).toArray = ((xs.toList.drop i).take k).toArray := by
  have e : (fun (m : Nat) => xs[((i : Int) + (m : Int) * 1).toNat]?) = fun m => xs[i + m]? := by
    funext m
    have : ((i : Int) + (m : Int) * 1).toNat = i + m := by omega
    rw [this]
  rw [e]
  have := pick_run xs i k
  rw [List.filterMap_map] at this
  have e2 : ((fun x => xs[x]?) ∘ fun x => i + x) = fun m => xs[i + m]? := rfl
  rw [e2] at this
  rw [this]

theorem getItem_tuple_cut {t sl : Addr} {items : Array Value} {vl vu : Value} {lo hi : Option Int} {Q : Value → Shared → Prop} (ht : IsTup s.heap t items) (hs : s.heap.IsSliceOf sl vl vu .none) (pl : IsPart vl lo) (pu : IsPart vu hi)
    (hw : ¬ (sIx items.size 0 lo = 0 ∧ sIx items.size items.size hi = items.size))
    (h : Q (.ref s.heap.objs.size) { s with heap := s.heap.push { cls := .type "tuple", data := .seq ((items.toList.drop (sIx items.size 0 lo)).take (sIx items.size items.size hi - sIx items.size 0 lo)).toArray } })
    (hsz : items.size ≤ sizeLine) : wpAny (model prog w) A (getItem (.ref t) (.ref sl)) Q E s := by
  have htake : sizeOk (.seq ((items.toList.drop (sIx items.size 0 lo)).take (sIx items.size items.size hi - sIx items.size 0 lo)).toArray) := by
    show ((items.toList.drop (sIx items.size 0 lo)).take (sIx items.size items.size hi - sIx items.size 0 lo)).toArray.size ≤ sizeLine
    rw [List.size_toArray, List.length_take, List.length_drop, Array.length_toList]
    omega
  have hj : sIx items.size items.size hi ≤ items.size := sIx_le _ _ (Nat.le_refl _) hi
  obtain ⟨os, hos, hcs, hds⟩ := id hs
  have hTs : s.TypeIs (.ref sl) "slice" := ⟨os, hos, hcs⟩
  unfold getItem
  try with_reducible refine wpAny_holding ?_
  first | refine wpAny_bind (wpAny_pure ?_) | skip
  refine wpAny_bind (wpAny_sequenceKey ht.typeIs (by decide) ?_)
  refine wpAny_bind (wpAny_callSpecial?_slot (name := Str.ofString "__getitem__") ht.typeIs PyProof.Rows.slot_tuple_getitem
    (wpAny_call_entry PyProof.Rows.slot_tuple_getitem ht.typeIs entry_tuple_getitem ?_ (args_tuple_getitem _ _)))
  show wpAny _ _ (Builtin.Tuple.tupleItemsOf (.ref t) >>= _) _ _ s
  refine wpAny_bind (tupleItemsOf_ ht ?_)
  refine wpAny_bind (wpAny_typeOf hTs ?_)
  rw [if_pos (by decide)]
  refine wpAny_bind (sliceApplied_gen hs pl pu ?_)
  have hno : ¬ ((((sIx items.size 0 lo : Nat) : Int) == 0 && (1 : Int) == 1 && (sIx items.size items.size hi - sIx items.size 0 lo) == items.size) = true) := by
    intro q
    rw [Bool.and_eq_true, Bool.and_eq_true] at q
    have q1 : ((sIx items.size 0 lo : Nat) : Int) = 0 := eq_of_beq q.1.1
    have q2 : sIx items.size items.size hi - sIx items.size 0 lo = items.size := eq_of_beq q.2
    exact hw ⟨by omega, by omega⟩
  show wpAny _ _ (if (((sIx items.size 0 lo : Nat) : Int) == 0 && (1 : Int) == 1 && (sIx items.size items.size hi - sIx items.size 0 lo) == items.size) = true then _ else _) _ _ s
  rw [if_neg hno, pick_gen]
  first
    | exact wpAny_bind (m := Builtin.Tuple.tupleExact _) (wpAny_newObj_type (wpAny_pure ⟨_, rfl, wpAny_pure h⟩) htake)
    | exact wpAny_bind (m := Builtin.Tuple.tupleExact _) (wpAny_newObj_type (wpAny_bind (wpAny_pure (wpAny_pure ⟨_, rfl, wpAny_pure h⟩))) htake)
    | exact wpAny_bind (wpAny_bind (m := Builtin.Tuple.tupleExact _) (wpAny_newObj_type (wpAny_pure (wpAny_pure ⟨_, rfl, wpAny_pure h⟩)) htake))
    | exact wpAny_bind (wpAny_bind (m := Builtin.Tuple.tupleExact _) (wpAny_newObj_type (wpAny_pure ⟨_, rfl, wpAny_pure h⟩) htake))
end
end HT

namespace L2
open PySem PySem.Spec PyProof.Rows

/-! ### the parts of a slice -/
abbrev TO := St → Hp → (Option Int → Hp → Prop) → Prop
/-- a slice's part (left out, or an int) -/
def PO (X : Cx) (e : Option Expr) (t : TO) : Prop :=
  ∀ (pins : List (Addr × Obj)) (s : Shared) (σ : St) (H : Hp) (Q : Option Int → Hp → Prop), Inv X pins σ H s → t σ H Q →
    wpAny (model X.prog X.w) X.A (evalPart e X.env) (fun u s' => ∃ o H', Inv X pins σ H' s' ∧ IsPart u o ∧ Q o H') X.xe s
def tNoPart : TO := fun _ H Q => Q none H
def tPart (t : TE) : TO := fun σ H Q => t σ H fun x H1 => ∃ i, x = .int i ∧ Q (some i) H1

theorem intsAre_of {ns : List Int} : ∀ {us : List Value}, Vals (ns.map V.int) us → IntsAre us ns := by
  induction ns with
  | nil => intro us r; rw [List.map_nil] at r; cases r; exact .nil
  | cons n ns ih =>
    intro us r
    rw [List.map_cons] at r
    cases r with
    | cons r1 r2 =>
      obtain ⟨t, e⟩ := r1
      subst e
      exact .cons n t (ih r2)

section
variable {X : Cx} {e : Expr} {te : TE} {lo hi : Option Expr} {tl th : TO} {pos p2 : Pos}

theorem po_none : PO X none tNoPart := by
  intro pins s σ H Q I h
  rw [evalPart_none]
  exact wpAny_pure ⟨none, H, I, .none, h⟩
theorem po_some (h : PE X e te) : PO X (some e) (tPart te) := by
  intro pins s σ H Q I hw
  rw [evalPart_some]
  refine thn (h pins s σ H _ I hw) fun u s1 ⟨x, H1, I1, r1, q1⟩ => ?_
  obtain ⟨i, rfl, q⟩ := q1
  obtain ⟨t, rfl⟩ := r1
  exact ⟨some i, H1, I1, .int i t, q⟩

/-- what a slice of a value is, by values: the slice object stands at sl -/
def SlR (X : Cx) (r : V → Option Int → Option Int → Hp → VK → Prop) : Prop :=
  ∀ (pins : List (Addr × Obj)) (s : Shared) (σ : St) (H : Hp) (x : V) (v vl vu : Value) (lo hi : Option Int) (sl : Addr) (Q : VK), Inv X pins σ H s → RelV x v → s.heap.IsSliceOf sl vl vu .none → IsPart vl lo → IsPart vu hi → r x lo hi H Q →
    ∃ T id, typeLookup (.type T) "__getitem__" = pure (some (.builtin id)) ∧ s.TypeIs v T ∧ wpAny (model X.prog X.w) X.A (getItem v (.ref sl)) (EP X pins σ Q) X.xe s
theorem SlR.or {r r' : V → Option Int → Option Int → Hp → VK → Prop} (h : SlR X r) (h' : SlR X r') : SlR X (fun x lo hi H Q => r x lo hi H Q ∨ r' x lo hi H Q) := by
  intro pins s σ H x v vl vu lo hi sl Q I rx hs pl pu q
  rcases q with q | q
  · exact h pins s σ H x v vl vu lo hi sl Q I rx hs pl pu q
  · exact h' pins s σ H x v vl vu lo hi sl Q I rx hs pl pu q
def tSl (r : V → Option Int → Option Int → Hp → VK → Prop) (te : TE) (tl th : TO) : TE := fun σ H Q => te σ H fun x H1 => tl σ H1 fun l H2 => th σ H2 fun u H3 => r x l u H3 Q
/-- a[lo:hi], any a -/
theorem pe_slice {r : V → Option Int → Option Int → Hp → VK → Prop} (hr : SlR X r) (he : PE X e te) (hl : PO X lo tl) (hu : PO X hi th) : PE X (.Subscript e (.Slice lo hi none p2) pos) (tSl r te tl th) := by
  intro pins s σ H Q I h
  refine Subscript_ (thn (he pins s σ H _ I h) fun v s1 ⟨x, H1, I1, r1, q1⟩ => ?_)
  refine wpAny_Slice (thn (hl pins s1 σ H1 _ I1 q1) fun vl s2 ⟨l, H2, I2, pl, q2⟩ => thn (hu pins s2 σ H2 _ I2 q2) fun vu s3 ⟨u, H3, I3, pu, q3⟩ => ?_)
  rw [evalPart_none]
  refine wpAny_pure ?_
  have I4 : Inv X pins σ H3 { s3 with heap := s3.heap.push { cls := .type "slice", data := .fields #[vl, vu, .none] } } := I3.kept (t' := s3.toks) fun b ob q => Heap.get?_push_of_some _ q
  obtain ⟨T, id, hT, ht, hg⟩ := hr pins { s3 with heap := s3.heap.push { cls := .type "slice", data := .fields #[vl, vu, .none] } } σ H3 x v vl vu l u s3.heap.objs.size Q I4 r1 (Heap.IsSliceOf.new ..) pl pu q3
  show wpAny (model X.prog X.w) X.A (subscriptTail e (.Slice lo hi none p2) v (.ref s3.heap.objs.size)) (EP X pins σ Q) X.xe { s3 with heap := s3.heap.push { cls := .type "slice", data := .fields #[vl, vu, .none] } }
  exact tail_any (ops := [.ref s3.heap.objs.size, v]) ht hT hg (by with_unfolding_all rfl)

/-- the items of xs[lo:hi] -/
def cutV (xs : List V) (lo hi : Option Int) : List V := (xs.drop (HT.sIx xs.length 0 lo)).take (HT.sIx xs.length xs.length hi - HT.sIx xs.length 0 lo)
theorem cutV_length (xs : List V) (lo hi : Option Int) : (cutV xs lo hi).length ≤ xs.length := by
  unfold cutV
  rw [List.length_take, List.length_drop]
  omega
/-- t[lo:hi], not the whole of it (the whole would be t itself) -/
def rSlT (K : PySem.W.Frag) : V → Option Int → Option Int → Hp → VK → Prop := fun x lo hi H Q => ∃ a xs, x = .ref a ∧ SqT K H a xs ∧
  ¬ (HT.sIx xs.length 0 lo = 0 ∧ HT.sIx xs.length xs.length hi = xs.length) ∧ ∀ p, H p = none → Q (.ref p) (upd H p (.tup (cutV xs lo hi)))
theorem sl_tup : SlR X (rSlT X.K) := by
  intro pins s σ H x v vl vu lo hi sl Q I rx hs pl pu h
  obtain ⟨a, xs, rfl, hx, hw, q⟩ := h
  cases rx
  obtain ⟨its, r, ht, hz⟩ := I.tuple hx
  have hlen : its.toArray.size = xs.length := by rw [List.size_toArray]; exact r.length.symm
  refine ⟨"tuple", _, PyProof.Rows.slot_tuple_getitem.lookup, ht.typeIs, ?_⟩
  refine HT.getItem_tuple_cut ht hs pl pu (by rw [hlen]; exact hw) ?_ (by rw [hlen]; exact hz)
  rw [hlen]
  refine ⟨.ref s.heap.objs.size, _, I.laid (t' := s.toks) (o := .tup (cutV xs lo hi)) (fun b ob q => Heap.get?_push_of_some _ q) (Nat.le_refl _) ?_, rfl, q _ (I.hok.fresh (Nat.le_refl _))⟩
  exact ⟨Nat.le_trans (cutV_length xs lo hi) hz, _, (r.drop (HT.sIx xs.length 0 lo)).take (HT.sIx xs.length xs.length hi - HT.sIx xs.length 0 lo), IsTup.new _ _⟩

/-! ### t < u, t + u -/
def rLtT (K : PySem.W.Frag) : R2 := fun x y H Q => ∃ a b ns ms, x = .ref a ∧ y = .ref b ∧ SqT K H a (ns.map V.int) ∧ SqT K H b (ms.map V.int) ∧ Q (.bl (HT.lexLt ns ms)) H
theorem op_ltT (hu : X.A.units < cLine) : OpR X (compareOp .Lt) (rLtT X.K) := by
  intro pins s σ H x y v u Q I rx ry h
  obtain ⟨a, b, ns, ms, rfl, rfl, ha, hb, q⟩ := h
  cases rx
  cases ry
  obtain ⟨its, r1, p1, _⟩ := I.tuple ha
  obtain ⟨its2, r2, p2, _⟩ := I.tuple hb
  have i1 : IntsAre its.toArray.toList ns := intsAre_of r1
  have i2 : IntsAre its2.toArray.toList ms := intsAre_of r2
  exact HT.lt_tupInts p1 p2 i1 i2 hu ⟨.bl (HT.lexLt ns ms), H, I, rfl, q⟩
/-- t + u, t not empty: u empty gives t itself -/
def rCatT (K : PySem.W.Frag) : R2 := fun x y H Q => ∃ a b xs ys, x = .ref a ∧ y = .ref b ∧ SqT K H a xs ∧ SqT K H b ys ∧ xs ≠ [] ∧ xs.length + ys.length ≤ sizeLine ∧
  (ys = [] → Q (.ref a) H) ∧ (ys ≠ [] → ∀ p, H p = none → Q (.ref p) (upd H p (.tup (xs ++ ys))))
theorem Vals.nil_iff {xs : List V} {us : List Value} (r : Vals xs us) : us = [] ↔ xs = [] := by
  cases r with
  | nil => simp
  | cons _ _ => simp
theorem op_catT : OpR X (binaryOp .Add) (rCatT X.K) := by
  intro pins s σ H x y v u Q I rx ry h
  obtain ⟨a, b, xs, ys, rfl, rfl, ha, hb, hx, hz, q1, q2⟩ := h
  cases rx
  cases ry
  obtain ⟨its, r1, p1, _⟩ := I.tuple ha
  obtain ⟨its2, r2, p2, _⟩ := I.tuple hb
  refine HT.cat_tup p1 p2 (fun z => hx (r1.nil_iff.mp z)) (fun z => ⟨.ref a, H, I, rfl, q1 (r2.nil_iff.mp z)⟩) (fun z => ?_) (by rw [← r1.length, ← r2.length]; exact hz)
  refine ⟨.ref s.heap.objs.size, _, I.laid (t' := s.toks) (o := .tup (xs ++ ys)) (fun b ob q => Heap.get?_push_of_some _ q) (Nat.le_refl _) ?_, rfl, q2 (fun w => z (r2.nil_iff.mpr w)) _ (I.hok.fresh (Nat.le_refl _))⟩
  exact ⟨by rw [List.length_append]; exact hz, _, r1.append r2, IsTup.new _ _⟩
/-- tuple(t) -/
theorem call_tupleT : CallR X (.type "tuple") (fun xs H Q => ∃ a ys, xs = [.ref a] ∧ SqT X.K H a ys ∧ Q (.ref a) H) := by
  intro pins s σ H xs us Q I r h
  obtain ⟨a, ys, rfl, ha, q⟩ := h
  obtain ⟨u, rfl, ru⟩ := vals1 r
  cases ru
  obtain ⟨its, _, p1, _⟩ := I.tuple ha
  exact call_tuple_same (items := its.toArray) p1 ⟨.ref a, H, I, rfl, q⟩
end
end L2

namespace L2
open PySem PySem.Spec PyProof.Rows

/-! ### places -/
/-- the place that an index of any sign means -/
def ixN (n : Nat) (i : Int) : Option Nat := if 0 ≤ i then (if i < n then some i.toNat else none) else if -(n : Int) ≤ i then some (i + n).toNat else none
def atI {α : Type} (xs : List α) (i : Int) : Option α := (ixN xs.length i).bind fun j => xs[j]?
theorem ixN_seq {n : Nat} {i : Int} {j : Nat} (h : ixN n i = some j) : seqIndex? i n = some j ∧ j < n ∧ -(n : Int) ≤ i ∧ i < n := by
  unfold ixN at h
  by_cases h0 : 0 ≤ i
  · rw [if_pos h0] at h
    by_cases h1 : i < n
    · rw [if_pos h1] at h
      have e : i.toNat = j := Option.some.inj h
      exact ⟨by rw [seqIndex_of h0 h1, e], by omega, by omega, h1⟩
    · rw [if_neg h1] at h; cases h
  · rw [if_neg h0] at h
    by_cases h1 : -(n : Int) ≤ i
    · rw [if_pos h1] at h
      have e : (i + n).toNat = j := Option.some.inj h
      exact ⟨by rw [seqIndex_neg (by omega) h1, e], by omega, h1, by omega⟩
    · rw [if_neg h1] at h; cases h
theorem atI_get {α : Type} {xs : List α} {i : Int} {v : α} (h : atI xs i = some v) : ∃ j, seqIndex? i xs.length = some j ∧ xs[j]? = some v ∧ j < xs.length ∧ -(xs.length : Int) ≤ i ∧ i < xs.length := by
  unfold atI at h
  cases e : ixN xs.length i with
  | none => rw [e] at h; cases h
  | some j =>
    rw [e] at h
    obtain ⟨h1, h2, h3, h4⟩ := ixN_seq e
    exact ⟨j, h1, h, h2, h3, h4⟩
theorem atI_nat {α : Type} {xs : List α} {j : Nat} {v : α} (h : xs[j]? = some v) : atI xs (j : Int) = some v := by
  have hj : j < xs.length := (List.getElem?_eq_some_iff.mp h).1
  have e : ixN xs.length (j : Int) = some j := by
    unfold ixN
    rw [if_pos (by omega), if_pos (by omega)]; simp
  unfold atI; rw [e]; exact h
theorem atI_last {α : Type} (xs : List α) (v : α) : atI (xs ++ [v]) (-1) = some v := by
  have hl : (xs ++ [v]).length = xs.length + 1 := by simp
  have e : ixN (xs ++ [v]).length (-1) = some xs.length := by
    unfold ixN
    rw [hl, if_neg (by decide), if_pos (by omega)]
    congr 1
    omega
  unfold atI
  rw [e]
  show (xs ++ [v])[xs.length]? = some v
  simp

/-! ### what may be subscripted -/
/-- what stands as an index of a plain subscript -/
def PlainIx (b : Expr) : Prop := ∀ o i, subscripted b false o i = operate [o, i] (getItem o i)
/-- a subscript by values -/
def IxR (X : Cx) (r : R2) : Prop :=
  ∀ (value slice : Expr) (pins : List (Addr × Obj)) (s : Shared) (σ : St) (H : Hp) (x y : V) (v u : Value) (Q : VK), Inv X pins σ H s → RelV x v → RelV y u → r x y H Q →
    subscripted slice false v u = operate [v, u] (getItem v u) → wpAny (model X.prog X.w) X.A (subscriptTail value slice v u) (EP X pins σ Q) X.xe s
/-- a call of a builtin's method by values: the receiver, the arguments -/
def MtR (X : Cx) (id : String) (r : V → List V → Hp → VK → Prop) : Prop :=
  ∀ (pins : List (Addr × Obj)) (s : Shared) (σ : St) (H : Hp) (x : V) (xs : List V) (v : Value) (us : List Value) (Q : VK), Inv X pins σ H s → RelV x v → Vals xs us → r x xs H Q →
    wpAny (model X.prog X.w) X.A (call (.builtin id) (v :: us)) (EP X pins σ Q) X.xe s
section
variable {X : Cx} {a b : Expr} {ta tb : TE} {pos : Pos}
theorem IxR.or {r r' : R2} (h : IxR X r) (h' : IxR X r') : IxR X (fun x y H Q => r x y H Q ∨ r' x y H Q) := by
  intro value slice pins s σ H x y v u Q I rx ry q hs
  rcases q with q | q
  · exact h value slice pins s σ H x y v u Q I rx ry q hs
  · exact h' value slice pins s σ H x y v u Q I rx ry q hs
theorem MtR.or {id : String} {r r' : V → List V → Hp → VK → Prop} (h : MtR X id r) (h' : MtR X id r') : MtR X id (fun x xs H Q => r x xs H Q ∨ r' x xs H Q) := by
  intro pins s σ H x xs v us Q I rx rs q
  rcases q with q | q
  · exact h pins s σ H x xs v us Q I rx rs q
  · exact h' pins s σ H x xs v us Q I rx rs q
/-- a[b] -/
theorem pe_ix {r : R2} (hr : IxR X r) (ha : PE X a ta) (hb : PE X b tb) (hs : PlainIx b) : PE X (.Subscript a b pos) (tOp r ta tb) := by
  intro pins s σ H Q I h
  exact Subscript_ (binT ha hb I h fun v u s2 x y H2 I2 rx ry q => hr a b pins s2 σ H2 x y v u Q I2 rx ry q (hs _ _))

def rIxL (K : PySem.W.Frag) : R2 := fun x y H Q => ∃ p xs i v, x = .ref p ∧ y = .int i ∧ SqL K H p xs ∧ atI xs i = some v ∧ Q v H
def rIxT (K : PySem.W.Frag) : R2 := fun x y H Q => ∃ p xs i v, x = .ref p ∧ y = .int i ∧ SqT K H p xs ∧ atI xs i = some v ∧ Q v H
def rIxS : R2 := fun x y H Q => ∃ z i c, x = .str z ∧ y = .int i ∧ z.length ≤ sizeLine ∧ atI z.cps.toList i = some c ∧ Q (.str ⟨#[c]⟩) H
theorem ix_list : IxR X (rIxL X.K) := by
  intro value slice pins s σ H x y v u Q I rx ry h hs
  obtain ⟨p, xs, i, z, rfl, rfl, hq, he, q⟩ := h
  cases rx
  obtain ⟨t, rfl⟩ := ry
  obtain ⟨its, r, pl, hz⟩ := I.list hq
  obtain ⟨j, h1, h2, h3, h4, h5⟩ := atI_get he
  obtain ⟨w, ew, rw'⟩ := r.get h2
  have hl := r.length
  have hn := line63
  have fin : EP X pins σ Q w s := ⟨z, H, I, rw', q⟩
  by_cases h0 : 0 ≤ i
  · have hj : i.toNat = j := by
      rw [seqIndex_of h0 h5] at h1
      exact Option.some.inj h1
    exact item_listR pl.isList h0 (by omega) (by rw [hj]; simpa using ew) fin hs
  · have hj : (i + (its.toArray.size : Int)).toNat = j := by
      rw [seqIndex_neg (by omega) h4] at h1
      rw [List.size_toArray, ← hl]
      exact Option.some.inj h1
    exact subscriptTail_builtinR (x := w) pl.isList.typeIs slot_list_getitem.lookup
      (wpAny_getItem_list_neg (Q := fun r s' => r = w ∧ EP X pins σ Q r s') pl.isList (by omega) (by rw [List.size_toArray] <;> omega) (by omega) (by rw [hj]; simpa using ew) ⟨rfl, fin⟩) hs
theorem ix_tup : IxR X (rIxT X.K) := by
  intro value slice pins s σ H x y v u Q I rx ry h hs
  obtain ⟨p, xs, i, z, rfl, rfl, hq, he, q⟩ := h
  cases rx
  obtain ⟨t, rfl⟩ := ry
  obtain ⟨its, r, pl, hz⟩ := I.tuple hq
  obtain ⟨j, h1, h2, h3, h4, h5⟩ := atI_get he
  obtain ⟨w, ew, rw'⟩ := r.get h2
  have hl := r.length
  have hn := line63
  have fin : EP X pins σ Q w s := ⟨z, H, I, rw', q⟩
  exact subscriptTail_builtinR (x := w) pl.typeIs slot_tuple_getitem.lookup
    (getItem_tuple (j := j) (Q := fun r s' => r = w ∧ EP X pins σ Q r s') pl (by omega) (by omega) (by rw [List.size_toArray, ← hl]; exact h1) (by simpa using ew) ⟨rfl, fin⟩) hs
theorem ix_str : IxR X rIxS := by
  intro value slice pins s σ H x y v u Q I rx ry h hs
  obtain ⟨z, i, c, rfl, rfl, hz, he, q⟩ := h
  obtain ⟨t, rfl⟩ := rx
  obtain ⟨t', rfl⟩ := ry
  obtain ⟨j, h1, h2, h3, h4, h5⟩ := atI_get he
  have hl : z.cps.toList.length = z.length := by simp [Str.length]
  rw [hl] at h1 h4 h5
  have hn := line63
  exact tail_any (typeIs_str s z t) slot_str_getitem.lookup (getItem_str (c := c) (by
    have e1 : decide (i < -(2 ^ 63 : Int)) = false := decide_eq_false (by omega)
    have e2 : decide (i ≥ 2 ^ 63) = false := decide_eq_false (by omega)
    rw [e1, e2, Bool.or_false]) (by rw [h1]; simpa using h2) ⟨.str ⟨#[c]⟩, H, I.tok _, ⟨_, rfl⟩, q⟩) hs
/-- list, tuple or str -/
def rIx (K : PySem.W.Frag) : R2 := fun x y H Q => rIxL K x y H Q ∨ rIxT K x y H Q ∨ rIxS x y H Q
theorem ix_seq : IxR X (rIx X.K) := ix_list.or (ix_tup.or ix_str)

/-! ### xs[i] = v, any sign -/
/-- the list's object behind a store -/
theorem mapSeq_set (its : List Value) (n j : Nat) (u : Value) : Obj.mapSeq (·.setIfInBounds j u) { cls := .type "list", data := .seq its.toArray n } = { cls := .type "list", data := .seq (its.set j u).toArray n } := by
  simp [Obj.mapSeq]
theorem Inv.lst {pins : List (Addr × Obj)} {σ : St} {H : Hp} {s : Shared} {p : Addr} {xs : List V} (I : Inv X pins σ H s) (h : H p = some (.lst xs)) :
    ∃ (its : List Value) (n : Nat), Vals xs its ∧ s.heap.get? p = some { cls := .type "list", data := .seq its.toArray n } ∧ xs.length ≤ sizeLine := by
  obtain ⟨z, its, n, r, e⟩ := I.hok p _ h
  exact ⟨its, n, r, e, z⟩
/-- the list at p is written by an update of its object -/
theorem Inv.lstUpd {pins : List (Addr × Obj)} {σ : St} {H : Hp} {s : Shared} {p : Addr} {xs ys : List V} {its its' : List Value} {n n' : Nat} {f : Obj → Obj} (I : Inv X pins σ H s) (h : H p = some (.lst xs))
    (ho : s.heap.get? p = some { cls := .type "list", data := .seq its.toArray n }) (hf : f { cls := .type "list", data := .seq its.toArray n } = { cls := .type "list", data := .seq its'.toArray n' }) (r : Vals ys its') (hz : ys.length ≤ sizeLine) (t : Nat) :
    Inv X pins σ (upd H p (.lst ys)) { s with heap := s.heap.update p f, toks := t } := by
  have e : (s.heap.update p f).get? p = some { cls := .type "list", data := .seq its'.toArray n' } := by
    rw [Heap.get?_update_self f ho (by rw [hf] <;> rfl), hf]
  refine I.write (x := p) (e := p) (by rw [h]; trivial) (.inl rfl) (fun b u hb q => (Heap.get?_update_other _ _ (Ne.symm hb)).trans q) ⟨_, e⟩ ?_
  exact ⟨hz, its', n', r, e⟩
def rSetL : V → V → V → Hp → (Hp → Prop) → Prop := fun o i v H Q => ∃ p xs k j, o = .ref p ∧ i = .int k ∧ H p = some (.lst xs) ∧ ixN xs.length k = some j ∧ Q (upd H p (.lst (xs.set j v)))
theorem set_list : PSet X rSetL := by
  intro pins s σ H o i v ov iv u Q I ro ri rv h
  obtain ⟨p, xs, k, j, rfl, rfl, hp, hj, q⟩ := h
  cases ro
  obtain ⟨t, rfl⟩ := ri
  obtain ⟨its, n, r, ho, hz⟩ := I.lst hp
  obtain ⟨h1, h2, h3, h4⟩ := ixN_seq hj
  have hl := r.length
  have hn := line63
  have I' : Inv X pins σ (upd H p (.lst (xs.set j v))) { s with heap := s.heap.update p (Obj.mapSeq (·.setIfInBounds j u)) } :=
    I.lstUpd hp ho (mapSeq_set its n j u) (r.set rv j) (by rw [List.length_set]; exact hz) s.toks
  by_cases h0 : 0 ≤ k
  · have hk : k.toNat = j := by
      rw [seqIndex_of h0 h4] at h1
      exact Option.some.inj h1
    exact PySem.W.ki_setAt ho h0 (by omega) (by rw [List.size_toArray, ← hl]; exact h4) (by rw [hk]; exact ⟨_, I', q⟩)
  · have hk : (k + (its.toArray.size : Int)).toNat = j := by
      rw [seqIndex_neg (by omega) h3] at h1
      rw [List.size_toArray, ← hl]
      exact Option.some.inj h1
    exact PySem.W.ki_setBack ho (by omega) (by rw [List.size_toArray, ← hl]; exact h3) (by omega) (by rw [hk]; exact ⟨_, I', q⟩)

/-! ### slices -/
theorem slice_bounds (lo hi : Option Int) (n : Nat) : (sliceBounds lo hi none n).1 = ((HT.sIx n 0 lo : Nat) : Int) ∧ (sliceBounds lo hi none n).2.1 = ((HT.sIx n n hi : Nat) : Int) ∧ (sliceBounds lo hi none n).2.2 = 1 := by
  refine ⟨?_, ?_, rfl⟩
  · cases lo with
    | none => simp [sliceBounds, HT.sIx]
    | some i =>
      simp only [sliceBounds, HT.sIx, Option.getD_none, show (1 : Int) > 0 by decide, if_true]
      by_cases h : i < 0
      · simp only [h, if_true] <;> omega
      · simp only [h, if_false] <;> omega
  · cases hi with
    | none => simp [sliceBounds, HT.sIx]
    | some i =>
      simp only [sliceBounds, HT.sIx, Option.getD_none, show (1 : Int) > 0 by decide, if_true]
      by_cases h : i < 0
      · simp only [h, if_true] <;> omega
      · simp only [h, if_false] <;> omega
theorem slicePick_cut (its : List Value) (lo hi : Option Int) : slicePick its.toArray lo hi none = ((its.drop (HT.sIx its.length 0 lo)).take (HT.sIx its.length its.length hi - HT.sIx its.length 0 lo)).toArray := by
  obtain ⟨h1, h2, h3⟩ := slice_bounds lo hi its.toArray.size
  unfold slicePick
  rw [h1, h2, h3]
  simp only [sliceRange_one, pick_run, List.size_toArray] <;> rfl
/-- xs[lo:hi] of a list: a new list -/
def rSlL (K : PySem.W.Frag) : V → Option Int → Option Int → Hp → VK → Prop := fun x lo hi H Q => ∃ a xs, x = .ref a ∧ SqL K H a xs ∧ ∀ p, H p = none → Q (.ref p) (upd H p (.lst (cutV xs lo hi)))
theorem sl_list : SlR X (rSlL X.K) := by
  intro pins s σ H x v vl vu lo hi sl Q I rx hs pl pu h
  obtain ⟨a, xs, rfl, hx, q⟩ := h
  cases rx
  obtain ⟨its, r, ht, hz⟩ := I.list hx
  have hlen := r.length
  refine ⟨"list", _, slot_list_getitem.lookup, ht.isList.typeIs, ?_⟩
  refine wpAny_getItem_list_slice ht.isList hs pl pu .none (by simp) ?_ (by rw [List.size_toArray] <;> omega)
  rw [slicePick_cut, ← hlen]
  refine ⟨.ref s.heap.objs.size, _, I.laid (t' := s.toks) (o := .lst (cutV xs lo hi)) (fun b ob q => Heap.get?_push_of_some _ q) (Nat.le_refl _) ?_, rfl, q _ (I.hok.fresh (Nat.le_refl _))⟩
  exact ⟨Nat.le_trans (cutV_length xs lo hi) hz, _, 0, (r.drop (HT.sIx xs.length 0 lo)).take (HT.sIx xs.length xs.length hi - HT.sIx xs.length 0 lo), Heap.get?_push_size _ rfl⟩

/-! ### in, not in: flat items -/
def flatV : V → Bool
  | .non => true
  | .bl _ => true
  | .int _ => true
  | .str _ => true
  | _ => false
/-- == of flat values -/
def eqV : V → V → Bool
  | .non, .non => true
  | .bl a, .bl b => a == b
  | .bl a, .int b => (if a then 1 else 0) == b
  | .int a, .bl b => a == (if b then 1 else 0)
  | .int a, .int b => a == b
  | .str a, .str b => a == b
  | _, _ => false
theorem eqAt_V {A : Around} {s : Shared} {y x : V} {u v : Value} (ry : RelV y u) (rx : RelV x v) (fy : flatV y = true) (fx : flatV x = true) : SeqAt.EqAt A s u v (eqV y x) := by
  cases y with
  | non =>
    cases ry
    cases x with
    | non => cases rx; exact SeqAt.EqAt.same _
    | bl b => cases rx; exact SeqAt.EqAt.none_bool b
    | int b => obtain ⟨t, rfl⟩ := rx; exact SeqAt.EqAt.none_int b t
    | str b => obtain ⟨t, rfl⟩ := rx; exact SeqAt.EqAt.none_str b t
    | _ => exact absurd (show false = true from fx) Bool.false_ne_true
  | bl a =>
    cases ry
    cases x with
    | non => cases rx; exact SeqAt.EqAt.bool_none a
    | bl b => cases rx; exact SeqAt.EqAt.bool_bool a b
    | int b => obtain ⟨t, rfl⟩ := rx; exact SeqAt.EqAt.bool_int a b t
    | str b => obtain ⟨t, rfl⟩ := rx; exact SeqAt.EqAt.bool_str a b t
    | _ => exact absurd (show false = true from fx) Bool.false_ne_true
  | int a =>
    obtain ⟨t', rfl⟩ := ry
    cases x with
    | non => cases rx; exact SeqAt.EqAt.int_none a t'
    | bl b => cases rx; exact SeqAt.EqAt.int_bool a t' b
    | int b => obtain ⟨t, rfl⟩ := rx; exact SeqAt.EqAt.int_int a t' b t
    | str b => obtain ⟨t, rfl⟩ := rx; exact SeqAt.EqAt.int_str a t' b t
    | _ => exact absurd (show false = true from fx) Bool.false_ne_true
  | str a =>
    obtain ⟨t', rfl⟩ := ry
    cases x with
    | non => cases rx; exact SeqAt.EqAt.str_none a t'
    | bl b => cases rx; exact SeqAt.EqAt.str_bool a t' b
    | int b => obtain ⟨t, rfl⟩ := rx; exact SeqAt.EqAt.str_int a t' b t
    | str b => obtain ⟨t, rfl⟩ := rx; exact SeqAt.EqAt.str_str a t' b t
    | _ => exact absurd (show false = true from fx) Bool.false_ne_true
  | _ => exact absurd (show false = true from fy) Bool.false_ne_true
/-- the items' answers, read off the values (a value's own answer does not lean on its token) -/
def eqU (x : V) (u : Value) : Bool := match u with
  | .none => eqV .non x
  | .bool b => eqV (.bl b) x
  | .int i _ => eqV (.int i) x
  | .str z _ => eqV (.str z) x
  | _ => false
theorem eqU_of {x y : V} {u : Value} (r : RelV y u) (f : flatV y = true) : eqU x u = eqV y x := by
  cases y with
  | non => cases r; rfl
  | bl b => cases r; rfl
  | int i => obtain ⟨t, rfl⟩ := r; rfl
  | str z => obtain ⟨t, rfl⟩ := r; rfl
  | _ => exact absurd (show false = true from f) Bool.false_ne_true
theorem any_eqU {x : V} : ∀ {xs : List V} {us : List Value}, Vals xs us → xs.all flatV = true → us.any (eqU x) = xs.any fun y => eqV y x
  | _, _, .nil, _ => rfl
  | y :: xs, u :: us, .cons r t, f => by
    rw [List.all_cons, Bool.and_eq_true] at f
    rw [List.any_cons, List.any_cons, eqU_of r f.1, any_eqU t f.2]
theorem mem_eqAt {A : Around} {s : Shared} {x : V} {v : Value} (rx : RelV x v) (fx : flatV x = true) : ∀ {xs : List V} {us : List Value}, Vals xs us → xs.all flatV = true → ∀ u ∈ us, SeqAt.EqAt A s u v (eqU x u)
  | _, _, .nil, _ => fun u hu => by cases hu
  | y :: xs, u :: us, .cons r t, f => fun u' hu => by
    rw [List.all_cons, Bool.and_eq_true] at f
    rcases List.mem_cons.mp hu with rfl | hu
    · rw [eqU_of r f.1]; exact eqAt_V r rx f.1 fx
    · exact mem_eqAt rx fx t f.2 u' hu
def inV (x : V) (xs : List V) : Bool := xs.any fun y => eqV y x
/-- x in a list or tuple of flat items -/
def rIn (K : PySem.W.Frag) (neg : Bool) : R2 := fun x y H Q => ∃ p xs, y = .ref p ∧ (SqL K H p xs ∨ SqT K H p xs) ∧ flatV x = true ∧ xs.all flatV = true ∧ Q (.bl (if neg then !inV x xs else inV x xs)) H
theorem op_in_seq : OpR X (compareOp .In) (rIn X.K false) := by
  intro pins s σ H x y v u Q I rx ry h
  obtain ⟨p, xs, rfl, hq, fx, fs, q⟩ := h
  cases ry
  rcases hq with hq | hq
  · obtain ⟨its, r, pl, hz⟩ := I.list hq
    refine SeqAt.in_listAt (eqU x) pl.isList (fun w hw => mem_eqAt rx fx r fs w (by simpa using hw)) ⟨.bl _, H, I, rfl, ?_⟩
    rw [show its.toArray.any (eqU x) = its.any (eqU x) by simp, any_eqU r fs]
    exact q
  · obtain ⟨its, r, pl, hz⟩ := I.tuple hq
    refine SeqAt.in_tupleAt (eqU x) pl (fun w hw => mem_eqAt rx fx r fs w (by simpa using hw)) ⟨.bl _, H, I, rfl, ?_⟩
    rw [show its.toArray.any (eqU x) = its.any (eqU x) by simp, any_eqU r fs]
    exact q
theorem op_notIn_seq : OpR X (compareOp .NotIn) (rIn X.K true) := by
  intro pins s σ H x y v u Q I rx ry h
  obtain ⟨p, xs, rfl, hq, fx, fs, q⟩ := h
  cases ry
  rcases hq with hq | hq
  · obtain ⟨its, r, pl, hz⟩ := I.list hq
    refine SeqAt.notIn_listAt (eqU x) pl.isList (fun w hw => mem_eqAt rx fx r fs w (by simpa using hw)) ⟨.bl _, H, I, rfl, ?_⟩
    rw [show its.toArray.any (eqU x) = its.any (eqU x) by simp, any_eqU r fs]
    exact q
  · obtain ⟨its, r, pl, hz⟩ := I.tuple hq
    refine SeqAt.notIn_tupleAt (eqU x) pl (fun w hw => mem_eqAt rx fx r fs w (by simpa using hw)) ⟨.bl _, H, I, rfl, ?_⟩
    rw [show its.toArray.any (eqU x) = its.any (eqU x) by simp, any_eqU r fs]
    exact q
theorem op_notIn_str : OpR X (compareOp .NotIn) (fun x y H Q => ∃ i j, x = .str i ∧ y = .str j ∧ Q (.bl (!(!(Builtin.Str.occurrences j i 0 j.length 1).isEmpty))) H) := by
  intro pins s σ H x y v u Q I rx ry h
  obtain ⟨i, j, rfl, rfl, q⟩ := h
  obtain ⟨t, rfl⟩ := rx
  obtain ⟨t', rfl⟩ := ry
  exact notIn_str ⟨.bl _, H, I, rfl, q⟩

/-! ### len, list(x), tuple(x) of any list or tuple that is read -/
theorem call_len_seq : CallR X (.builtin "len") (fun xs H Q => ∃ p ys, xs = [.ref p] ∧ (SqL X.K H p ys ∨ SqT X.K H p ys) ∧ Q (.int ys.length) H) := by
  intro pins s σ H xs us Q I r h
  obtain ⟨p, ys, rfl, hq, q⟩ := h
  obtain ⟨u, rfl, rx⟩ := vals1 r
  cases rx
  have hn := line63
  rcases hq with hq | hq
  · obtain ⟨its, r', pl, hz⟩ := I.list hq
    have hlen := r'.length
    exact Calls.call_len_list pl.isList (by simp only [List.size_toArray] <;> omega) ⟨.int ys.length, H, I.tok _, ⟨s.toks + 1, by rw [List.size_toArray, hlen]⟩, q⟩
  · obtain ⟨its, r', pl, hz⟩ := I.tuple hq
    have hlen := r'.length
    exact len_tuple pl (by simp only [List.size_toArray] <;> omega) ⟨.int ys.length, H, I.tok _, ⟨s.toks + 1, by rw [List.size_toArray, hlen]⟩, q⟩
theorem call_len_str : CallR X (.builtin "len") (fun xs H Q => ∃ z, xs = [.str z] ∧ z.length ≤ sizeLine ∧ Q (.int z.length) H) := by
  intro pins s σ H xs us Q I r h
  obtain ⟨z, rfl, hz, q⟩ := h
  obtain ⟨u, rfl, t, rfl⟩ := vals1 r
  have hn := line63
  exact len_str (by omega) ⟨.int z.length, H, I.tok _, ⟨_, rfl⟩, q⟩
theorem CallR.or {f : Value} {r r' : List V → Hp → VK → Prop} (h : CallR X f r) (h' : CallR X f r') : CallR X f (fun xs H Q => r xs H Q ∨ r' xs H Q) := by
  intro pins s σ H xs us Q I rs q
  rcases q with q | q
  · exact h pins s σ H xs us Q I rs q
  · exact h' pins s σ H xs us Q I rs q
theorem call_list_of : CallR X (.type "list") (fun xs H Q => ∃ p ys, xs = [.ref p] ∧ (SqL X.K H p ys ∨ SqT X.K H p ys) ∧ ∀ l, H l = none → Q (.ref l) (upd H l (.lst ys))) := by
  intro pins s σ H xs us Q I r h
  obtain ⟨p, ys, rfl, hq, q⟩ := h
  obtain ⟨u, rfl, rx⟩ := vals1 r
  cases rx
  have fin : ∀ (its : List Value), Vals ys its → ys.length ≤ sizeLine → ∀ (h' : Heap) (c' : Nat), (∀ b o', s.heap.get? b = some o' → h'.get? b = some o') →
      h'.get? s.heap.objs.size = some { cls := .type "list", dict := none, data := .seq its.toArray c', slots := #[] } → EP X pins σ Q (.ref s.heap.objs.size) { s with heap := h' } := fun its r' hz h' c' kp e =>
    ⟨.ref s.heap.objs.size, _, I.laid (t' := s.toks) kp (Nat.le_refl _) (show ObjOk X.prog X.w _ h' _ (.lst ys) from ⟨hz, its, c', r', e⟩), rfl, q _ (I.hok.fresh (Nat.le_refl _))⟩
  rcases hq with hq | hq
  · obtain ⟨its, r', pl, hz⟩ := I.list hq
    have hlen := r'.length
    obtain ⟨o, ho, hc, n, hd⟩ := pl.isList
    exact call_list_seq p (.inl rfl) ho hc hd (fun h' c' kp e => fin its r' hz h' c' kp e) (by simp only [List.size_toArray] <;> omega)
  · obtain ⟨its, r', pl, hz⟩ := I.tuple hq
    have hlen := r'.length
    obtain ⟨o, ho, hc, n, hd⟩ := pl
    exact call_list_seq p (.inr rfl) ho hc hd (fun h' c' kp e => fin its r' hz h' c' kp e) (by simp only [List.size_toArray] <;> omega)
theorem call_tuple_of : CallR X (.type "tuple") (fun xs H Q => ∃ p ys, xs = [.ref p] ∧ ((SqL X.K H p ys ∧ ∀ l, H l = none → Q (.ref l) (upd H l (.tup ys))) ∨ (SqT X.K H p ys ∧ Q (.ref p) H))) := by
  intro pins s σ H xs us Q I r h
  obtain ⟨p, ys, rfl, h⟩ := h
  obtain ⟨u, rfl, rx⟩ := vals1 r
  cases rx
  rcases h with ⟨hq, q⟩ | ⟨hq, q⟩
  · obtain ⟨its, r', pl, hz⟩ := I.list hq
    have hlen := r'.length
    refine call_tuple_list pl.isList (fun h' kp => ?_) (by simp only [List.size_toArray] <;> omega)
    have I1 : Inv X pins σ H { s with heap := h' } := I.kept (t' := s.toks) kp
    have I2 : Inv X pins σ (upd H h'.objs.size (.tup ys)) { s with heap := h'.push { cls := .type "tuple", data := .seq its.toArray } } :=
      I1.laid (t' := s.toks) (fun b o e => Heap.get?_push_of_some _ e) (Nat.le_refl _) (show ObjOk X.prog X.w _ _ _ (.tup ys) from ⟨hz, its, r', IsTup.new _ _⟩)
    exact ⟨.ref h'.objs.size, _, I2, rfl, q _ (I1.hok.fresh (Nat.le_refl _))⟩
  · obtain ⟨its, r', pl, hz⟩ := I.tuple hq
    exact call_tuple_same pl ⟨.ref p, H, I, rfl, q⟩

/-! ### the call of a builtin's method: o.m(..) -/
/-- the value is of that builtin type -/
def tyV (K : PySem.W.Frag) (T : String) (x : V) (H : Hp) : Prop := match x with
  | .str _ => T = "str"
  | .int _ => T = "int"
  | .ref p => (T = "list" ∧ ∃ xs, SqL K H p xs) ∨ (T = "tuple" ∧ ∃ o, K.lookup p = some o ∧ o.cls = .type "tuple" ∧ o.dict = none) ∨
      (T = "dict" ∧ ((∃ kvs, H p = some (.dK kvs)) ∨ ∃ kvs, H p = some (.dT kvs))) ∨ (T = "set" ∧ ∃ S n, H p = some (.set S n))
  | _ => False
theorem tyV_is {pins : List (Addr × Obj)} {σ : St} {H : Hp} {s : Shared} {T : String} {x : V} {v : Value} (I : Inv X pins σ H s) (r : RelV x v) (ty : tyV X.K T x H) :
    s.TypeIs v T ∧ ∀ a, v = .ref a → ∃ ob, s.heap.get? a = some ob ∧ ob.dict = none := by
  cases x with
  | str z =>
    obtain ⟨t, rfl⟩ := r
    cases (show T = "str" from ty)
    exact ⟨typeIs_str s z t, fun _ e => nomatch e⟩
  | int i =>
    obtain ⟨t, rfl⟩ := r
    cases (show T = "int" from ty)
    exact ⟨typeIs_int s i t, fun _ e => nomatch e⟩
  | ref p =>
    cases r
    rcases ty with ⟨rfl, xs, hq⟩ | ⟨rfl, o, hk, hc, hd⟩ | ⟨rfl, hk⟩ | ⟨rfl, S, n, hk⟩
    · obtain ⟨its, _, pl, _⟩ := I.list hq
      refine ⟨pl.isList.typeIs, fun a e => ?_⟩
      cases e
      obtain ⟨o, n, e, c, hd, _⟩ := pl
      exact ⟨o, e, hd⟩
    · refine ⟨⟨o, I.kIn p o hk, hc⟩, fun a e => ?_⟩
      cases e
      exact ⟨o, I.kIn _ o hk, hd⟩
    · have z : ∃ o, s.heap.get? p = some o ∧ o.ExactDict := by
        rcases hk with ⟨kvs, hk⟩ | ⟨kvs, hk⟩
        · obtain ⟨_, _, _, _, o, _, _, e, ex, _⟩ := I.hok p _ hk
          exact ⟨o, e, ex⟩
        · obtain ⟨_, _, _, _, o, _, _, e, ex, _⟩ := I.hok p _ hk
          exact ⟨o, e, ex⟩
      obtain ⟨o, e, ex⟩ := z
      refine ⟨⟨o, e, ex.1⟩, fun a e2 => ?_⟩
      cases e2
      exact ⟨o, e, ex.2.1⟩
    · obtain ⟨o, _, _, _, e, ex, _⟩ := I.hok p _ hk
      refine ⟨⟨o, e, ex.1⟩, fun a e2 => ?_⟩
      cases e2
      exact ⟨o, e, ex.2.1⟩
  | _ => exact False.elim ty
def tBM0 (K : PySem.W.Frag) (T : String) (r : V → List V → Hp → VK → Prop) (to : TE) : TE := fun σ H Q => to σ H fun x H1 => tyV K T x H1 ∧ r x [] H1 Q
def tBM (K : PySem.W.Frag) (T : String) (r : V → List V → Hp → VK → Prop) (to : TE) (t : TA) : TE := fun σ H Q => to σ H fun x H1 => tyV K T x H1 ∧ t σ H1 fun xs H2 => r x xs H2 Q
variable {o e : Expr} {es : List Expr} {to : TE} {t : TA} {name : Str} {apos cpos : Pos} {T id : String} {r : V → List V → Hp → VK → Prop}
theorem pe_bm0 (pa : PlainAttrs T) (slot : Slot T name id) (hty : typeOf (.builtin id) = pure (.type "method_descriptor")) (hm : MtR X id r) (ho : PE X o to)
    (hbase : attributeBase o name X.env (eval o X.env) = eval o X.env := by rfl) (hline : (apos.endLine == cpos.line) = true := by rfl) : PE X (.Call (.Attribute o name apos) [] [] cpos) (tBM0 X.K T r to) := by
  intro pins s σ H Q I h
  refine wpAny_Call_method0_late hbase hline (thn (ho pins s σ H _ I h) fun v s1 ⟨x, H1, I1, r1, ty, q1⟩ => ?_)
  obtain ⟨h1, h2⟩ := tyV_is I1 r1 ty
  exact ⟨T, id, pa, slot, hty, h1, h2, Calls.callWith_builtin rfl (PySem.evalArgs_none (hm pins s1 σ H1 x [] v [] Q I1 r1 .nil q1))⟩
theorem pe_bm (pa : PlainAttrs T) (slot : Slot T name id) (hty : typeOf (.builtin id) = pure (.type "method_descriptor")) (hm : MtR X id r) (ho : PE X o to) (ha : PA X (e :: es) t)
    (hbase : attributeBase o name X.env (eval o X.env) = eval o X.env := by rfl)
    (hfew : ((backTo cpos (starEach (e :: es) X.env)).all (fun x => !x.1) && (backToKw cpos (keywordEach [] X.env)).all (fun x => x.1.isSome)
      && decide ((e :: es).length + ([] : List Keyword).length + (if ([] : List Keyword).isEmpty then 0 else 1) < 30)) = true := by rfl)
    (hline : (apos.endLine == cpos.line) = true := by rfl) (hs : starEach (e :: es) X.env = (false, eval e X.env) :: starEach es X.env := by rfl) (hplain : (backTo cpos (starEach es X.env)).any (·.1) = false := by rfl) :
    PE X (.Call (.Attribute o name apos) (e :: es) [] cpos) (tBM X.K T r to t) := by
  intro pins s σ H Q I h
  refine wpAny_Call_method_late hbase hfew hline rfl (thn (ho pins s σ H _ I h) fun v s1 ⟨x, H1, I1, r1, ty, q1⟩ => ?_)
  obtain ⟨h1, h2⟩ := tyV_is I1 r1 ty
  refine ⟨T, id, pa, slot, hty, h1, h2, ?_⟩
  have hA := ha cpos pins s1 σ H1 _ I1 q1
  rw [hs] at hA ⊢
  refine Calls.callWith_builtin (by show (false || (backTo cpos (starEach es X.env)).any (·.1)) = false; rw [hplain] <;> rfl) (Calls.evalArgs_plain ?_)
  exact thn hA fun us s2 ⟨vs, H2, I2, r2, q2⟩ => hm pins s2 σ H2 x vs v us Q I2 r1 r2 q2
/- xs.append(e), list.index on a module's tuple .. are MtR facts of 06m -/
end
end L2

namespace L2
open PySem PySem.Spec PyProof.Rows

def MtM (X : Cx) (id : String) (r : V → List V → Hp → VK → Prop) : Prop :=
  ∀ (pins : List (Addr × Obj)) (s : Shared) (σ : St) (H : Hp) (x : V) (xs : List V) (v : Value) (us : List Value) (Q : VK), Inv X pins σ H s → RelV x v → Vals xs us → r x xs H Q →
    wpAny (model X.prog X.w) X.A (call (.builtin id) (v :: us)) (EP X pins σ Q) X.xe s

/-! ### lists of values -/
theorem Vals.one : ∀ {x : V} {us : List Value}, Vals [x] us → ∃ u, us = [u] ∧ RelV x u
  | _, _, .cons r .nil => ⟨_, rfl, r⟩
theorem Vals.two : ∀ {x y : V} {us : List Value}, Vals [x, y] us → ∃ u v, us = [u, v] ∧ RelV x u ∧ RelV y v
  | _, _, _, .cons r (.cons q .nil) => ⟨_, _, rfl, r, q⟩
theorem Vals.zero : ∀ {us : List Value}, Vals [] us → us = []
  | _, .nil => rfl
theorem Vals.dropLast {xs : List V} {us : List Value} (h : Vals xs us) : Vals xs.dropLast us.dropLast := by
  induction h with
  | nil => exact .nil
  | cons r t ih =>
    cases t with
    | nil => exact .nil
    | cons q t' => exact .cons r ih
theorem Vals.eraseIdx : ∀ {xs : List V} {us : List Value} (i : Nat), Vals xs us → Vals (xs.eraseIdx i) (us.eraseIdx i)
  | _, _, _, .nil => .nil
  | _, _, 0, .cons _ t => t
  | _, _, i + 1, .cons r t => .cons r (Vals.eraseIdx i t)
theorem Vals.reverse {xs : List V} {us : List Value} (h : Vals xs us) : Vals xs.reverse us.reverse := by
  induction h with
  | nil => exact .nil
  | cons r t ih => rw [List.reverse_cons, List.reverse_cons]; exact Vals.append ih (.cons r .nil)
theorem Vals.rep {xs : List V} {us : List Value} (h : Vals xs us) : ∀ k : Nat, Vals (List.replicate k xs).flatten (List.replicate k us).flatten
  | 0 => .nil
  | k + 1 => by
    rw [List.replicate_succ, List.replicate_succ, List.flatten_cons, List.flatten_cons]
    exact Vals.append h (Vals.rep h k)
theorem erase_last {α : Type} (l : List α) : l.eraseIdx (l.length - 1) = l.dropLast := by
  induction l with
  | nil => rfl
  | cons a r ih =>
    cases r with
    | nil => rfl
    | cons b r =>
      have e : (a :: b :: r).length - 1 = ((b :: r).length - 1) + 1 := by
        have h1 : (a :: b :: r).length = r.length + 2 := rfl
        have h2 : (b :: r).length = r.length + 1 := rfl
        omega
      rw [e, List.eraseIdx_cons_succ, ih]
      all_goals rfl
theorem len_erase {α : Type} : ∀ (l : List α) (i : Nat), (l.eraseIdx i).length ≤ l.length
  | [], _ => Nat.le_refl _
  | _ :: _, 0 => Nat.le_succ _
  | _ :: r, i + 1 => Nat.succ_le_succ (len_erase r i)
theorem foldl_rep (its : List Value) : ∀ (k : Nat) (acc : List Value),
    List.foldl (fun x1 x2 => x1 ++ x2) acc.toArray (List.replicate k its.toArray) = (acc ++ (List.replicate k its).flatten).toArray
  | 0, acc => by simp
  | k + 1, acc => by
    have e : acc.toArray ++ its.toArray = (acc ++ its).toArray := by simp
    have e2 : (acc ++ its) ++ (List.replicate k its).flatten = acc ++ (List.replicate (k + 1) its).flatten := by
      rw [List.replicate_succ, List.flatten_cons, List.append_assoc]
    rw [← e2, ← foldl_rep its k (acc ++ its), ← e, List.replicate_succ, List.foldl_cons]

section
variable {X : Cx} {pins : List (Addr × Obj)} {σ : St} {H : Hp} {s : Shared} {l b : Addr} {xs ys zs : List V}

/-! ### the two steps: a tracked list is rewritten, a new list is laid -/
theorem Inv.lset {its its' : List Value} {n : Nat} {f : Array Value → Array Value} {t' : Nat} (I : Inv X pins σ H s) (hH : H l = some (.lst xs))
    (e : s.heap.get? l = some { cls := .type "list", data := .seq its.toArray n }) (hf : f its.toArray = its'.toArray) (hv : Vals ys its') (hz : ys.length ≤ sizeLine) :
    Inv X pins σ (upd H l (.lst ys)) { s with heap := s.heap.update l (Obj.mapSeq f), toks := t' } := by
  have q := PySem.IsL.update e f
  rw [hf] at q
  refine I.write (x := l) (e := l) (by rw [hH]; exact trivial) (.inl rfl) (fun b' u hb hu => (Heap.get?_update_other s.heap (Obj.mapSeq f) (Ne.symm hb)).trans hu) ⟨_, q⟩ ?_
  exact ⟨hz, its', _, hv, q⟩
theorem Inv.lnew {its : List Value} {t' : Nat} (I : Inv X pins σ H s) (hv : Vals ys its) (hz : ys.length ≤ sizeLine) :
    Inv X pins σ (upd H s.heap.objs.size (.lst ys)) { s with heap := s.heap.push { cls := .type "list", data := .seq its.toArray }, toks := t' } :=
  I.laid (fun _ _ q => Heap.get?_push_of_some _ q) (Nat.le_refl _) ⟨hz, its, 0, hv, Heap.get?_push_size _ rfl⟩
theorem Inv.fresh (I : Inv X pins σ H s) : H s.heap.objs.size = none := I.hok.fresh (Nat.le_refl _)
theorem Inv.lstM (I : Inv X pins σ H s) (hH : H l = some (.lst xs)) : xs.length ≤ sizeLine ∧ ∃ (its : List Value) (n : Nat), Vals xs its ∧ xs.length = its.length ∧ s.heap.get? l = some { cls := .type "list", data := .seq its.toArray n } := by
  obtain ⟨z, its, n, r, e⟩ := I.hok l _ hH
  exact ⟨z, its, n, r, r.length, e⟩

theorem notLongL {n : Nat} (h : n ≤ sizeLine) : Builtin.List.listTooLong n = false := by
  unfold Builtin.List.listTooLong
  exact decide_eq_false (by omega)
end

section
variable {X : Cx}

/-! ### methods -/
def rAppend : V → List V → Hp → VK → Prop := fun x vs H Q => ∃ l xs y, x = .ref l ∧ vs = [y] ∧ H l = some (.lst xs) ∧ xs.length < sizeLine ∧ Q .non (upd H l (.lst (xs ++ [y])))
theorem mt_append : MtM X "list.append" rAppend := by
  intro pins s σ H x vs v us Q I rx rv h
  obtain ⟨l, xs, y, rfl, rfl, hH, hz, q⟩ := h
  cases rx
  obtain ⟨u, rfl, ru⟩ := rv.one
  obtain ⟨z, its, n, r, hl, e⟩ := I.lstM hH
  refine call_meets F.slot_list_append ⟨_, e, rfl⟩ F.entry_list_append (F.args_list_append_2 _ _) (PySem.list_append l its.toArray n u (by rw [List.size_toArray]; omega)) ⟨e, ?_⟩
  refine ⟨.non, _, I.lset (its' := its ++ [u]) hH e (by simp) (r.append (.cons ru .nil)) ?_, rfl, q⟩
  rw [List.length_append, List.length_singleton]
  omega

def rExtend : V → List V → Hp → VK → Prop := fun x vs H Q => ∃ l b xs zs, x = .ref l ∧ vs = [.ref b] ∧ H l = some (.lst xs) ∧ H b = some (.lst zs) ∧ xs.length + zs.length ≤ sizeLine ∧ Q .non (upd H l (.lst (xs ++ zs)))
theorem mt_extend : MtM X "list.extend" rExtend := by
  intro pins s σ H x vs v us Q I rx rv h
  obtain ⟨l, b, xs, zs, rfl, rfl, hH, hB, hz, q⟩ := h
  cases rx
  obtain ⟨u, rfl, ru⟩ := rv.one
  cases ru
  obtain ⟨z, its, n, r, hl, e⟩ := I.lstM hH
  obtain ⟨z2, its2, n2, r2, hl2, e2⟩ := I.lstM hB
  have hsz : its.toArray.size + its2.toArray.size ≤ sizeLine := by rw [List.size_toArray, List.size_toArray]; omega
  have hlong : ¬ (!its.toArray.isEmpty && Builtin.List.listTooLong (its.toArray.size + its2.toArray.size)) = true := by
    rw [notLongL hsz, Bool.and_false]
    exact Bool.false_ne_true
  refine call_meets F.slot_list_extend ⟨_, e, rfl⟩ F.entry_list_extend (F.args_list_extend_2 _ _)
    (AutoSeq1.list_extend_list_list_0 l its.toArray n b its2.toArray n2 hlong (by rw [List.size_toArray]; omega) (by omega)) ⟨e, e2, ?_⟩
  refine ⟨.non, _, I.lset (its' := its ++ its2) hH e (by simp) (r.append r2) ?_, rfl, q⟩
  rw [List.length_append]
  omega

def rPop : V → List V → Hp → VK → Prop := fun x vs H Q => ∃ l xs y, x = .ref l ∧ vs = [] ∧ H l = some (.lst xs) ∧ xs[xs.length - 1]? = some y ∧ Q y (upd H l (.lst xs.dropLast))
theorem mt_pop : MtM X "list.pop" rPop := by
  intro pins s σ H x vs v us Q I rx rv h
  obtain ⟨l, xs, y, rfl, rfl, hH, hy, q⟩ := h
  cases rx
  have hus := rv.zero
  subst hus
  obtain ⟨z, its, n, r, hl, e⟩ := I.lstM hH
  obtain ⟨u, hu, ru⟩ := r.get hy
  have hy' : its.toArray[its.toArray.size - 1]? = some u := by
    show its.toArray[its.length - 1]? = some u
    rw [← Array.getElem?_toList, ← hl]
    exact hu
  refine call_meets F.slot_list_pop ⟨_, e, rfl⟩ F.entry_list_pop (F.args_list_pop_1 _) (MeetsSeq.list_pop_last l its.toArray n u hy' (by rw [List.size_toArray]; omega)) ⟨e, ?_⟩
  refine ⟨y, _, I.lset (its' := its.dropLast) hH e ?_ r.dropLast ?_, ru, q⟩
  · show its.toArray.eraseIdxIfInBounds (its.toArray.size - 1) = its.dropLast.toArray
    rw [List.size_toArray, List.eraseIdxIfInBounds_toArray, erase_last]
  · rw [List.length_dropLast]
    omega

def rPopAt : V → List V → Hp → VK → Prop := fun x vs H Q => ∃ l xs i k y, x = .ref l ∧ vs = [.int i] ∧ H l = some (.lst xs) ∧ -(2 ^ 63) ≤ i ∧ i < 2 ^ 63 ∧ seqIndex? i xs.length = some k ∧ xs[k]? = some y ∧ Q y (upd H l (.lst (xs.eraseIdx k)))
theorem mt_popAt : MtM X "list.pop" rPopAt := by
  intro pins s σ H x vs v us Q I rx rv h
  obtain ⟨l, xs, i, k, y, rfl, rfl, hH, h1, h2, hk, hy, q⟩ := h
  cases rx
  obtain ⟨u, rfl, ru⟩ := rv.one
  obtain ⟨t, rfl⟩ := ru
  obtain ⟨z, its, n, r, hl, e⟩ := I.lstM hH
  obtain ⟨w, hw, rw'⟩ := r.get hy
  refine call_meets F.slot_list_pop ⟨_, e, rfl⟩ F.entry_list_pop (F.args_list_pop_2 _ _)
    (MeetsSeq.list_pop_at l its.toArray n i t k w (fitsIndex_both h1 h2) (by rw [List.size_toArray, ← hl]; exact hk) (by rw [← Array.getElem?_toList]; exact hw) (by rw [List.size_toArray]; omega)) ⟨e, ?_⟩
  refine ⟨y, _, I.lset (its' := its.eraseIdx k) hH e ?_ (r.eraseIdx k) ?_, rw', q⟩
  · show its.toArray.eraseIdxIfInBounds k = (its.eraseIdx k).toArray
    rw [List.eraseIdxIfInBounds_toArray]
  · have := len_erase xs k
    omega

def rReverse : V → List V → Hp → VK → Prop := fun x vs H Q => ∃ l xs, x = .ref l ∧ vs = [] ∧ H l = some (.lst xs) ∧ Q .non (upd H l (.lst xs.reverse))
theorem mt_reverse : MtM X "list.reverse" rReverse := by
  intro pins s σ H x vs v us Q I rx rv h
  obtain ⟨l, xs, rfl, rfl, hH, q⟩ := h
  cases rx
  have hus := rv.zero
  subst hus
  obtain ⟨z, its, n, r, hl, e⟩ := I.lstM hH
  refine call_meets F.slot_list_reverse ⟨_, e, rfl⟩ F.entry_list_reverse (F.args_list_reverse_1 _) (AutoSeq1.list_reverse_list_0 l its.toArray n (by rw [List.size_toArray]; omega)) ⟨e, ?_⟩
  refine ⟨.non, _, I.lset (its' := its.reverse) hH e (by simp) r.reverse ?_, rfl, q⟩
  rw [List.length_reverse]
  omega

def rClear : V → List V → Hp → VK → Prop := fun x vs H Q => ∃ l xs, x = .ref l ∧ vs = [] ∧ H l = some (.lst xs) ∧ Q .non (upd H l (.lst []))
theorem mt_clear : MtM X "list.clear" rClear := by
  intro pins s σ H x vs v us Q I rx rv h
  obtain ⟨l, xs, rfl, rfl, hH, q⟩ := h
  cases rx
  have hus := rv.zero
  subst hus
  obtain ⟨z, its, n, r, hl, e⟩ := I.lstM hH
  refine call_meets F.slot_list_clear ⟨_, e, rfl⟩ F.entry_list_clear (F.args_list_clear_1 _) (AutoSeq1.list_clear_list_0 l its.toArray n (by rw [List.size_toArray]; omega)) ⟨e, ?_⟩
  exact ⟨.non, _, I.lset (its' := []) (ys := []) hH e rfl .nil (Nat.zero_le _), rfl, q⟩

/-! ### list + list, list += list, list * int -/
def rCat : R2 := fun x y H Q => ∃ l b xs zs, x = .ref l ∧ y = .ref b ∧ H l = some (.lst xs) ∧ H b = some (.lst zs) ∧ xs.length + zs.length ≤ sizeLine ∧ ∀ p, H p = none → Q (.ref p) (upd H p (.lst (xs ++ zs)))
theorem op_cat : OpR X (binaryOp .Add) rCat := by
  intro pins s σ H x y v u Q I rx ry h
  obtain ⟨l, b, xs, zs, rfl, rfl, hH, hB, hz, q⟩ := h
  cases rx
  cases ry
  obtain ⟨z, its, n, r, hl, e⟩ := I.lstM hH
  obtain ⟨z2, its2, n2, r2, hl2, e2⟩ := I.lstM hB
  refine PySem.P.add_list e e2 ?_ (by rw [List.size_toArray, List.size_toArray]; omega)
  have ea : its.toArray ++ its2.toArray = (its ++ its2).toArray := by simp
  rw [ea]
  exact ⟨.ref _, _, I.lnew (t' := s.toks) (r.append r2) (by rw [List.length_append]; omega), rfl, q _ I.fresh⟩
/-- a list times an int (a negative one is nothing) -/
def rRep : R2 := fun x y H Q => ∃ l k xs, x = .ref l ∧ y = .int k ∧ H l = some (.lst xs) ∧ -(2 ^ 63) ≤ k ∧ k < 2 ^ 63 ∧ xs.length * k.toNat ≤ sizeLine ∧
  ∀ p, H p = none → Q (.ref p) (upd H p (.lst (List.replicate k.toNat xs).flatten))
theorem len_rep {α : Type} (xs : List α) (k : Nat) : (List.replicate k xs).flatten.length = k * xs.length := by
  induction k with
  | zero => simp
  | succ k ih => rw [List.replicate_succ, List.flatten_cons, List.length_append, ih, Nat.succ_mul, Nat.add_comm]
theorem op_rep : OpR X (binaryOp .Mult) rRep := by
  intro pins s σ H x y v u Q I rx ry h
  obtain ⟨l, k, xs, rfl, rfl, hH, h1, h2, hz, q⟩ := h
  cases rx
  obtain ⟨t, rfl⟩ := ry
  obtain ⟨z, its, n, r, hl, e⟩ := I.lstM hH
  have hlen : its.toArray.size * k.toNat ≤ sizeLine := by rw [List.size_toArray, ← hl]; exact hz
  have hcap : ¬ its.toArray.size * k.toNat > (2 ^ 63 - 1) / 8 := by
    have : (sizeLine : Nat) ≤ (2 ^ 63 - 1) / 8 := by decide
    omega
  have hfit : ¬ (!Builtin.List.listFitsIndex k) = true := by
    rw [fitsIndex_both h1 h2]
    exact Bool.false_ne_true
  have hlong : ¬ Builtin.List.listTooLong (its.toArray.size * k.toNat) = true := by
    rw [notLongL hlen]
    exact Bool.false_ne_true
  have hnew : List.foldl (fun x1 x2 => x1 ++ x2) #[] (List.replicate (if its.toArray.isEmpty = true then 0 else k.toNat) its.toArray) = (List.replicate k.toNat its).flatten.toArray := by
    have f0 : ∀ m : Nat, List.foldl (fun x1 x2 => x1 ++ x2) #[] (List.replicate m its.toArray) = (List.replicate m its).flatten.toArray := fun m => by
      have := foldl_rep its m []
      rw [List.nil_append] at this
      exact this
    rw [f0]
    cases its with
    | nil => simp
    | cons a r' => rw [if_neg (by simp)]
  refine wpAny_binaryOp_repeat_ref (T := "list") (U := "int") (by decide) ⟨_, e, rfl⟩ (fun s' => typeIs_int s' k t) noFill_list_mul F.fills_int_mul F.slot_int_rmul repeat_list F.slot_int_index.lookup
    (call_meets F.slot_int_rmul (typeIs_int s k t) F.entry_int_rmul (F.args_int_rmul_2 _ _) (int___rmul___int_list k t l its.toArray n)
      ⟨e, rfl, ⟨_, e, rfl⟩, call_meets F.slot_list_mul ⟨_, e, rfl⟩ F.entry_list_mul (F.args_list_mul_2 _ _) (AutoListH.list___mul___list_int_3 l its.toArray n k t hfit hcap hlong) ⟨e, ?_⟩⟩)
  rw [hnew]
  exact ⟨.ref _, _, I.lnew (t' := s.toks) (r.rep k.toNat) (by rw [len_rep, Nat.mul_comm]; exact hz), rfl, q _ I.fresh⟩

/-! ### del xs[i] -/
theorem del_list {pins : List (Addr × Obj)} {s : Shared} {σ : St} {H : Hp} {l : Addr} {xs : List V} {i : Int} {t : Tok} {k : Nat} {Q : Unit → Shared → Prop} (I : Inv X pins σ H s) (hH : H l = some (.lst xs))
    (h1 : -(2 ^ 63) ≤ i) (h2 : i < 2 ^ 63) (hk : seqIndex? i xs.length = some k) (h : ∀ s', Inv X pins σ (upd H l (.lst (xs.eraseIdx k))) s' → Q () s') :
    wpAny (model X.prog X.w) X.A (delItem (.ref l) (.int i t)) Q X.xe s := by
  obtain ⟨z, its, n, r, hl, e⟩ := I.lstM hH
  refine PySem.P.delItem_list (k := k) e (fitsIndex_both h1 h2) (by rw [List.size_toArray, ← hl]; exact hk) (h _ ?_) (by rw [List.size_toArray]; omega)
  refine I.lset (its' := its.eraseIdx k) (t' := s.toks) hH e ?_ (r.eraseIdx k) ?_
  · show its.toArray.eraseIdxIfInBounds k = (its.eraseIdx k).toArray
    rw [List.eraseIdxIfInBounds_toArray]
  · have := len_erase xs k
    omega
end

/-! ### xs[a:b] = ys -/
section
variable {prog : Program} {w : World} {A : Around} {E : Value → Shared → Prop} {s : Shared}
theorem splice_eq (its its2 : List Value) (a c : Nat) : its.toArray.extract 0 a ++ its2.toArray ++ its.toArray.extract c its.toArray.size = (its.take a ++ its2 ++ its.drop c).toArray := by
  apply Array.toList_inj.mp
  first
    | (simp
       exact List.take_of_length_le (by simp))
    | simp [List.take_of_length_le]
    | simp
theorem bounds_run {a c n : Nat} (hac : a ≤ c) (hc : c ≤ n) : sliceBounds (some (a : Int)) (some (c : Int)) none n = ((a : Int), (c : Int), 1) := by
  simp only [sliceBounds, Option.getD_none]
  have h1 : ¬ ((a : Int) < 0) := by omega
  have h2 : ¬ ((c : Int) < 0) := by omega
  simp only [h1, h2, if_false, show (1 : Int) > 0 by decide, if_true]
  congr 1
  · omega
  · congr 1; omega
set_option maxRecDepth 100000 in
/-- list.__setitem__ with a slice of step one and another list -/
theorem setItem_slice {l b sl : Addr} {items new : Array Value} {n n2 : Nat} {vl vu : Value} {a c : Nat} {Q : Unit → Shared → Prop}
    (e : s.heap.get? l = some { cls := .type "list", data := .seq items n }) (e2 : s.heap.get? b = some { cls := .type "list", data := .seq new n2 }) (hne : l ≠ b)
    (hs : s.heap.IsSliceOf sl vl vu .none) (pl : IsPart vl (some (a : Int))) (pu : IsPart vu (some (c : Int))) (hac : a ≤ c) (hc : c ≤ items.size)
    (hsz : items.size + new.size ≤ sizeLine) (h : Q () { s with heap := s.heap.update l (Obj.mapSeq fun xs => xs.extract 0 a ++ new ++ xs.extract c xs.size) }) :
    wpAny (model prog w) A (setItem (.ref l) (.ref sl) (.ref b)) Q E s := by
  have hl : s.heap.IsList l items := PySem.IsL.isList e
  have hb : s.heap.IsList b new := PySem.IsL.isList e2
  obtain ⟨os, hos, hcs, hds⟩ := id hs
  have hTs : s.TypeIs (.ref sl) "slice" := ⟨os, hos, hcs⟩
  have hstep : ¬ ((rawPart none == rawInt 0) = true) := Bool.false_ne_true
  have hsame : Builtin.List.listSameRef (.ref l) (.ref b) = false := by
    unfold Builtin.List.listSameRef
    exact beq_eq_false_iff_ne.mpr hne
  have hmax : (max (a : Int) (c : Int)).toNat = c := by omega
  have hz' : ((fun xs : Array Value => xs.extract 0 a ++ new ++ xs.extract c xs.size) items).size ≤ sizeLine + 1 := by
    simp only [Array.size_append, Array.size_extract]
    omega
  unfold setItem
  try with_reducible refine wpAny_holding ?_
  first | refine wpAny_bind (wpAny_pure ?_) | skip
  refine wpAny_bind (wpAny_sequenceKey hl.typeIs (by decide) ?_)
  refine wpAny_bind (wpAny_callSpecial?_slot (name := Str.ofString "__setitem__") hl.typeIs slot_list_setitem
    (wpAny_call_entry slot_list_setitem hl.typeIs entry_list_setitem ?_ (args_list_setitem _ _ _)))
  show wpAny _ _ (Builtin.List.listSubscript? (.ref sl) >>= _) _ _ s
  refine wpAny_bind ?_
  unfold Builtin.List.listSubscript?
  refine wpAny_bind (wpAny_specialOf hTs slice_no_index ?_)
  simp only [Option.isNone_none, if_true]
  refine wpAny_pure ?_
  show wpAny _ _ (typeOf (.ref sl) >>= _) _ _ s
  refine wpAny_bind (wpAny_typeOf hTs ?_)
  first
    | rw [if_neg (by decide)]
    | refine PySem.W.KFB.if_not (by decide) ?_
  rw [listSliceParts_eq]
  refine wpAny_bind (wpAny_bind (wpAny_field hos hds (x := .none) rfl (wpAny_bind (wpAny_listPart .none ?_))))
  rw [if_neg hstep]
  refine wpAny_bind (wpAny_field hos hds (x := vl) rfl (wpAny_bind (wpAny_listPart pl ?_)))
  refine wpAny_bind (wpAny_field hos hds (x := vu) rfl (wpAny_bind (wpAny_listPart pu (wpAny_pure ?_))))
  first
    | simp only [hsame, Bool.false_eq_true, if_false]
    | refine PySem.W.KFB.if_not hsame ?_
    | (dsimp only
       rw [if_neg (by rw [hsame]; exact Bool.false_ne_true)])
  refine wpAny_bind (m := Builtin.List.listAllItems (.ref b) "must assign iterable to extended slice") ?_
  unfold Builtin.List.listAllItems
  refine wpAny_bind (wpAny_typeOf hb.typeIs ?_)
  first
    | refine PySem.W.KFB.if_so (by decide) ?_
    | rw [if_pos (by decide)]
    | simp only [beq_self_eq_true, Bool.true_or, if_true]
  unfold Builtin.List.listItems
  refine wpAny_bind (wpAny_seqItems e2 rfl (wpAny_pure ?_))
  refine wpAny_bind (wpAny_bind (wpAny_seqItems e rfl (wpAny_pure ?_)))
  refine wpAny_bind (wpAny_of_eq ((sliceIndices_raw (some (a : Int)) (some (c : Int)) none items.size (by simp)).trans (congrArg (pure : Int × Int × Int → Sem (Int × Int × Int)) (bounds_run hac hc))) ?_)
  show wpAny _ _ (if ((1 : Int) == 1) = true then _ else _) _ _ s
  rw [if_pos (by decide)]
  refine wpAny_bind (wpAny_rule ?_)
  first
    | simp only [notLongL hsz, Bool.false_eq_true, if_false]
    | refine PySem.W.KFB.if_not (notLongL hsz) ?_
  first | refine wpAny_bind (wpAny_pure ?_) | skip
  show wpAny _ _ (updateSeq l (fun xs => xs.extract 0 ((a : Int)).toNat ++ new ++ xs.extract (max (a : Int) (c : Int)).toNat xs.size) >>= _) _ _ s
  rw [hmax, Int.toNat_natCast]
  refine wpAny_bind (wpAny_updateSeq (hz := Nat.le_trans (Nat.le_add_right _ _) hsz) (_hz' := hz') e rfl ?_)
  refine wpAny_bind (wpAny_letGo ?_)
  first
    | exact wpAny_bind (wpAny_pure (wpAny_pure ⟨.none, rfl, wpAny_pure h⟩))
    | exact wpAny_pure ⟨.none, rfl, wpAny_pure h⟩
end

section
variable {X : Cx}
/-- xs[a:c] = ys of another list, at the value level: sl is the slice object that was just made -/
theorem set_slice {pins : List (Addr × Obj)} {s : Shared} {σ : St} {H : Hp} {l b sl : Addr} {xs ys : List V} {a c : Int} {vl vu : Value} {Q : Unit → Shared → Prop} (I : Inv X pins σ H s)
    (hH : H l = some (.lst xs)) (hB : H b = some (.lst ys)) (hne : l ≠ b) (hs : s.heap.IsSliceOf sl vl vu .none) (ra : RelV (.int a) vl) (rc : RelV (.int c) vu) (h0 : 0 ≤ a) (hac : a ≤ c) (hc : c ≤ xs.length)
    (hz : xs.length + ys.length ≤ sizeLine) (h : ∀ s', Inv X pins σ (upd H l (.lst (xs.take a.toNat ++ ys ++ xs.drop c.toNat))) s' → Q () s') :
    wpAny (model X.prog X.w) X.A (setItem (.ref l) (.ref sl) (.ref b)) Q X.xe s := by
  obtain ⟨ta, rfl⟩ := ra
  obtain ⟨tc, rfl⟩ := rc
  obtain ⟨z, its, n, r, hl, e⟩ := I.lstM hH
  obtain ⟨z2, its2, n2, r2, hl2, e2⟩ := I.lstM hB
  obtain ⟨a', rfl⟩ := Int.eq_ofNat_of_zero_le h0
  obtain ⟨c', rfl⟩ := Int.eq_ofNat_of_zero_le (Int.le_trans h0 hac)
  simp only [Int.toNat_natCast] at h
  refine setItem_slice (a := a') (c := c') e e2 hne hs (.int _ _) (.int _ _) (by omega) (by rw [List.size_toArray]; omega) (by rw [List.size_toArray, List.size_toArray]; omega) (h _ ?_)
  refine I.lset (its' := its.take a' ++ its2 ++ its.drop c') (t' := s.toks) hH e ?_ (Vals.append (Vals.append (r.take _) r2) (r.drop _)) ?_
  · exact splice_eq its its2 a' c'
  · rw [List.length_append, List.length_append, List.length_take, List.length_drop]
    omega
end
end L2

namespace L2
open PySem PySem.Spec PyProof.Rows

theorem Vals.ints : ∀ {ns : List Int} {us : List Value}, Vals (ns.map V.int) us → IntsAre us ns
  | [], us, h => by
    rw [List.map_nil] at h
    cases h
    exact IntsAre.nil
  | n :: ns, us, h => by
    rw [List.map_cons] at h
    cases h with
    | cons r t =>
      obtain ⟨k, rfl⟩ := r
      exact IntsAre.cons n k (Vals.ints t)
theorem vals_of_ints : ∀ {us : List Value} {ns : List Int}, IntsAre us ns → Vals (ns.map V.int) us
  | _, _, .nil => by rw [List.map_nil]; exact Paired.nil
  | _, _, .cons n t h => by rw [List.map_cons]; exact Paired.cons (show RelV (V.int n) (Value.int n t) from ⟨t, rfl⟩) (vals_of_ints h)
theorem Vals.strs : ∀ {xs : List Str} {us : List Value}, Vals (xs.map V.str) us → StrsAre us xs
  | [], us, h => by
    rw [List.map_nil] at h
    cases h
    exact StrsAre.nil
  | x :: xs, us, h => by
    rw [List.map_cons] at h
    cases h with
    | cons r t =>
      obtain ⟨k, rfl⟩ := r
      exact StrsAre.cons x k (Vals.strs t)
theorem vals_of_strs : ∀ {us : List Value} {xs : List Str}, StrsAre us xs → Vals (xs.map V.str) us
  | _, _, .nil => by rw [List.map_nil]; exact Paired.nil
  | _, _, .cons x t h => by rw [List.map_cons]; exact Paired.cons (show RelV (V.str x) (Value.str x t) from ⟨t, rfl⟩) (vals_of_strs h)
theorem Vals.bls : ∀ {bs : List Bool} {us : List Value}, Vals (bs.map V.bl) us → us = bs.map Value.bool
  | [], us, h => by
    rw [List.map_nil] at h
    cases h
    rfl
  | b :: bs, us, h => by
    rw [List.map_cons] at h
    cases h with
    | cons r t =>
      cases r
      rw [Vals.bls t, List.map_cons]
theorem Vals.ref1 {a : Addr} {us : List Value} (r : Vals [V.ref a] us) : us = [Value.ref a] := by
  cases r with
  | cons r t =>
    cases t
    cases r
    rfl
theorem Vals.int2 {i j : Int} {us : List Value} (r : Vals [V.int i, V.int j] us) : ∃ t u, us = [Value.int i t, Value.int j u] := by
  cases r with
  | cons r t =>
    cases t with
    | cons r2 t2 =>
      cases t2
      obtain ⟨t, rfl⟩ := r
      obtain ⟨u, rfl⟩ := r2
      exact ⟨t, u, rfl⟩

/-! ### the library's walks over a list of ints, kept objects alone -/
section
variable {prog : Program} {w : World} {A : Around} {E : Value → Shared → Prop} {s : Shared} {l : Addr} {its : List Value} {ns : List Int} {Q : Value → Shared → Prop}
theorem sum_raw (hh : A.handled = none) (hl : s.heap.IsList l its.toArray) (hi : IntsAre its ns)
    (h : ∀ h' tk t', (∀ b o, s.heap.get? b = some o → h'.get? b = some o) → Q (.int ns.sum t') { s with heap := h', toks := tk }) : wpAny (model prog w) A (call (.builtin "sum") [.ref l]) Q E s := by
  obtain ⟨xs, e⟩ := hi.allInts.items
  have hn : numsOf (intItems xs).toList = ns := by rw [← e]; exact hi.numsOf
  rw [nums_intItems] at hn
  rw [e] at hl
  refine PySem.sum_intListG hh hl fun h' tk t' hk => ?_
  have := h h' tk t' hk
  rw [preSum_eq, List.take_of_length_le (by simp), hn]; exact this
theorem max_raw (hh : A.handled = none) (hl : s.heap.IsList l its.toArray) (hi : IntsAre its ns) (hne : 0 < ns.length)
    (h : ∀ h' tk M t', (∀ b o, s.heap.get? b = some o → h'.get? b = some o) → M ∈ ns → (∀ a, a ∈ ns → a ≤ M) → Q (.int M t') { s with heap := h', toks := tk }) : wpAny (model prog w) A (call (.builtin "max") [.ref l]) Q E s := by
  obtain ⟨xs, e⟩ := hi.allInts.items
  have hn : numsOf (intItems xs).toList = ns := by rw [← e]; exact hi.numsOf
  rw [nums_intItems] at hn
  subst hn
  rw [e] at hl
  have hsz : 0 < xs.size := by simpa using hne
  refine PySem.max_intList hh hl hsz fun v h' tk hv hk => ?_
  obtain ⟨t, rfl⟩ := intItems_at hv
  obtain ⟨h1, h2⟩ := argBest_gt (numAt xs) (xs.size - 1)
  refine h h' tk _ t hk ?_ fun a ha => ?_
  · rw [numAt_eq]; exact PySem.getD_mem (by rw [List.length_map, Array.length_toList]; omega)
  · obtain ⟨j, hj, rfl⟩ := mem_getD ha
    rw [List.length_map, Array.length_toList] at hj
    rw [← numAt_eq]; exact h2 j (by omega)
theorem min_raw (hh : A.handled = none) (hl : s.heap.IsList l its.toArray) (hi : IntsAre its ns) (hne : 0 < ns.length)
    (h : ∀ h' tk M t', (∀ b o, s.heap.get? b = some o → h'.get? b = some o) → M ∈ ns → (∀ a, a ∈ ns → M ≤ a) → Q (.int M t') { s with heap := h', toks := tk }) : wpAny (model prog w) A (call (.builtin "min") [.ref l]) Q E s := by
  obtain ⟨xs, e⟩ := hi.allInts.items
  have hn : numsOf (intItems xs).toList = ns := by rw [← e]; exact hi.numsOf
  rw [nums_intItems] at hn
  subst hn
  rw [e] at hl
  have hsz : 0 < xs.size := by simpa using hne
  refine PySem.min_intList hh hl hsz fun v h' tk hv hk => ?_
  obtain ⟨t, rfl⟩ := intItems_at hv
  obtain ⟨h1, h2⟩ := argBest_lt (numAt xs) (xs.size - 1)
  refine h h' tk _ t hk ?_ fun a ha => ?_
  · rw [numAt_eq]; exact PySem.getD_mem (by rw [List.length_map, Array.length_toList]; omega)
  · obtain ⟨j, hj, rfl⟩ := mem_getD ha
    rw [List.length_map, Array.length_toList] at hj
    rw [← numAt_eq]; exact h2 j (by omega)
end

/-! ### the calls, by values (CallR of 03t; MtR of 06l) -/
section
variable {X : Cx}
/-- sum(xs) of a list of ints -/
def rSum (K : PySem.W.Frag) : List V → Hp → VK → Prop := fun vs H Q => ∃ (a : Addr) (ns : List Int), vs = [V.ref a] ∧ SqL K H a (ns.map V.int) ∧ Q (.int ns.sum) H
/-- max(xs), min(xs) of a list of ints -/
def rMax (K : PySem.W.Frag) : List V → Hp → VK → Prop := fun vs H Q => ∃ (a : Addr) (ns : List Int), vs = [V.ref a] ∧ SqL K H a (ns.map V.int) ∧ 0 < ns.length ∧ ∀ m, m ∈ ns → (∀ y, y ∈ ns → y ≤ m) → Q (.int m) H
def rMin (K : PySem.W.Frag) : List V → Hp → VK → Prop := fun vs H Q => ∃ (a : Addr) (ns : List Int), vs = [V.ref a] ∧ SqL K H a (ns.map V.int) ∧ 0 < ns.length ∧ ∀ m, m ∈ ns → (∀ y, y ∈ ns → m ≤ y) → Q (.int m) H
theorem cr_sum (hc : X.calm = true) : CallR X (.builtin "sum") (rSum X.K) := by
  intro pins s σ H vs us Q I r h
  obtain ⟨a, ns, rfl, hs, q⟩ := h
  obtain ⟨its, rv, hl, _⟩ := I.list hs
  rw [Vals.ref1 r]
  exact sum_raw (I.ok.hd hc) hl.isList rv.ints fun h' tk t' hk => ⟨.int _, H, I.kept hk, ⟨_, rfl⟩, q⟩
theorem cr_max (hc : X.calm = true) : CallR X (.builtin "max") (rMax X.K) := by
  intro pins s σ H vs us Q I r h
  obtain ⟨a, ns, rfl, hs, hne, q⟩ := h
  obtain ⟨its, rv, hl, _⟩ := I.list hs
  rw [Vals.ref1 r]
  exact max_raw (I.ok.hd hc) hl.isList rv.ints hne fun h' tk m t' hk h1 h2 => ⟨.int _, H, I.kept hk, ⟨_, rfl⟩, q m h1 h2⟩
theorem cr_min (hc : X.calm = true) : CallR X (.builtin "min") (rMin X.K) := by
  intro pins s σ H vs us Q I r h
  obtain ⟨a, ns, rfl, hs, hne, q⟩ := h
  obtain ⟨its, rv, hl, _⟩ := I.list hs
  rw [Vals.ref1 r]
  exact min_raw (I.ok.hd hc) hl.isList rv.ints hne fun h' tk m t' hk h1 h2 => ⟨.int _, H, I.kept hk, ⟨_, rfl⟩, q m h1 h2⟩

/-! sorted, sort (fewer than 64 items: the library's own bound) -/
def rSorted (K : PySem.W.Frag) : List V → Hp → VK → Prop := fun vs H Q => ∃ (a : Addr) (ns : List Int), vs = [V.ref a] ∧ SqL K H a (ns.map V.int) ∧ ns.length < 64 ∧
  ∀ (ns' : List Int) (p : Addr), ns'.Perm ns → ns'.Pairwise (· ≤ ·) → H p = none → Q (.ref p) (upd H p (.lst (ns'.map V.int)))
def rSortedS (K : PySem.W.Frag) : List V → Hp → VK → Prop := fun vs H Q => ∃ (a : Addr) (xs : List Str), vs = [V.ref a] ∧ SqL K H a (xs.map V.str) ∧ xs.length < 64 ∧
  ∀ (ys : List Str) (p : Addr), ys.Perm xs → sortedS ys = true → H p = none → Q (.ref p) (upd H p (.lst (ys.map V.str)))
theorem small64 {n : Nat} (h : n < 64) : n ≤ sizeLine := by rw [sizeLine_eq]; omega
theorem cr_sorted : CallR X (.builtin "sorted") (rSorted X.K) := by
  intro pins s σ H vs us Q I r h
  obtain ⟨a, ns, rfl, hs, h64, q⟩ := h
  obtain ⟨its, rv, hl, _⟩ := I.list hs
  rw [Vals.ref1 r]
  have hi := rv.ints
  refine PyProof.Rows.sorted_ints hl.isList hi (by rw [hi.length]; exact h64) fun out ns' h1 h2 h3 => ?_
  obtain ⟨ep, he'⟩ := PyProof.Rows.sortedAll_at s.heap its out
  have hlen : (ns'.map V.int).length ≤ sizeLine := by rw [List.length_map, h2.length_eq]; exact small64 h64
  exact ⟨.ref _, upd H (s.heap.objs.size + 1) (.lst (ns'.map V.int)), I.laid (t' := s.toks) (fun _ _ => PyProof.Rows.sortedAll_old) (Nat.le_succ _) ⟨hlen, out.toList, ep, vals_of_ints h1, he'⟩, rfl, q ns' _ h2 h3 (I.hok.fresh (Nat.le_succ _))⟩
theorem cr_sortedS : CallR X (.builtin "sorted") (rSortedS X.K) := by
  intro pins s σ H vs us Q I r h
  obtain ⟨a, xs, rfl, hs, h64, q⟩ := h
  obtain ⟨its, rv, hl, _⟩ := I.list hs
  rw [Vals.ref1 r]
  have hlen0 := rv.length
  rw [List.length_map] at hlen0
  refine PyProof.Rows.sorted_strs hl.isList rv.strs (by rw [← hlen0]; exact h64) fun out ys h1 h2 h3 => ?_
  obtain ⟨ep, he'⟩ := PyProof.Rows.sortedAll_at s.heap its out
  have hlen : (ys.map V.str).length ≤ sizeLine := by rw [List.length_map, h2.length_eq]; exact small64 h64
  exact ⟨.ref _, upd H (s.heap.objs.size + 1) (.lst (ys.map V.str)), I.laid (t' := s.toks) (fun _ _ => PyProof.Rows.sortedAll_old) (Nat.le_succ _) ⟨hlen, out.toList, ep, vals_of_strs h1, he'⟩, rfl, q ys _ h2 h3 (I.hok.fresh (Nat.le_succ _))⟩
/-- xs.sort(), ints -/
def rSort : V → List V → Hp → VK → Prop := fun x xs H Q => ∃ (a : Addr) (ns : List Int), x = V.ref a ∧ xs = [] ∧ H a = some (.lst (ns.map V.int)) ∧ ns.length < 64 ∧
  ∀ ns' : List Int, ns'.Perm ns → ns'.Pairwise (· ≤ ·) → Q .non (upd H a (.lst (ns'.map V.int)))
theorem mt_sort : MtR X "list.sort" rSort := by
  intro pins s σ H x xs v us Q I rx rxs h
  obtain ⟨a, ns, rfl, rfl, ha, h64, q⟩ := h
  cases rx
  cases rxs
  obtain ⟨hz, its, n, rv, hob⟩ := I.hok a _ ha
  have hi := rv.ints
  refine wpAny_call_entry PyProof.Rows.slot_list_sort ⟨_, hob, rfl⟩ PyProof.Rows.entry_list_sort
    (PyProof.Rows.list_sort_tree hob hi (by rw [hi.length]; exact h64) fun out ns' h1 h2 h3 => ⟨.none, rfl, ?_⟩) (PyProof.Rows.args_list_sort _)
  obtain ⟨ep, he'⟩ := PyProof.Rows.sortedHeap_at (vs := its) (out := out) hob
  have hlen : (ns'.map V.int).length ≤ sizeLine := by rw [List.length_map, h2.length_eq]; exact small64 h64
  refine ⟨.non, upd H a (.lst (ns'.map V.int)), I.write (e := a) (t' := s.toks) (by rw [ha]; trivial) (.inl rfl) (fun b u hb hu => ?_) ⟨_, he'⟩ ⟨hlen, out.toList, ep, vals_of_ints h1, he'⟩, rfl, q ns' h2 h3⟩
  rw [PyProof.Rows.sortedHeap_old hb (Heap.lt_size hu)]; exact hu
end

/-! ### list.index, flat items -/
section
variable {X : Cx}
def rIndex (K : PySem.W.Frag) : V → List V → Hp → VK → Prop := fun x xs H Q => ∃ (a : Addr) (ys : List V) (y : V) (j : Nat) (z : V), x = V.ref a ∧ xs = [y] ∧ SqL K H a ys ∧ flatV y = true ∧ ys.all flatV = true ∧ ys[j]? = some z ∧ eqV z y = true ∧
  (∀ (m : Nat) (z' : V), m < j → ys[m]? = some z' → eqV z' y = false) ∧ Q (.int (j : Nat)) H
theorem flat_at {ys : List V} (f : ys.all flatV = true) {j : Nat} {z : V} (h : ys[j]? = some z) : flatV z = true := List.all_eq_true.mp f z (List.mem_of_getElem? h)
theorem mt_index : MtR X "list.index" (rIndex X.K) := by
  intro pins s σ H x xs v us Q I rx rxs h
  obtain ⟨a, ys, y, j, z, rfl, rfl, hs, fy, fys, hz, hzj, hno, q⟩ := h
  cases rx
  cases rxs with
  | cons ry rt =>
    rename_i uy ut
    cases rt
    obtain ⟨its, rv, ⟨⟨cls, dd, data, sl⟩, n, ho, hc, hdn, hd⟩, hlen⟩ := I.list hs
    simp only at hc hd
    subst hc hd
    obtain ⟨u, hu, ru⟩ := rv.get hz
    obtain ⟨hjl, hje⟩ := List.getElem?_eq_some_iff.mp hu
    have hvl := rv.length
    have hj : j < its.toArray.size := by simpa using hjl
    have hsl := sizeLine_eq
    refine call_meets PySem.F.slot_list_index ⟨_, ho, rfl⟩ PySem.F.entry_list_index (PySem.F.args_list_index_2 _ _)
      (SeqAt.list_indexAt a its.toArray n dd sl uy (eqU y) j hj (by omega) ?_ ?_) ⟨ho, fun u' hu' => mem_eqAt ry fy rv fys u' (by simpa using hu'), ?_⟩
    · have e1 : its.toArray[j] = u := by simpa using hje
      rw [e1, eqU_of ru (flat_at fys hz)]
      exact hzj
    · intro m hm hmj
      have hml : m < its.length := by simpa using hm
      have hmy : m < ys.length := by omega
      have hy' : ys[m]? = some ys[m] := List.getElem?_eq_getElem hmy
      obtain ⟨u2, hu2, ru2⟩ := rv.get hy'
      obtain ⟨_, hme⟩ := List.getElem?_eq_some_iff.mp hu2
      have e1 : its.toArray[m] = u2 := by simpa using hme
      rw [e1, eqU_of ru2 (flat_at fys hy')]
      exact hno m _ hmj hy'
    · exact ⟨.int (j : Nat), H, I.tok _, ⟨_, rfl⟩, q⟩
end

/-! ### type(x) of an own instance; is, is not of a module's class -/
section
variable {X : Cx}
theorem cr_type : CallR X (.type "type") (fun xs H Q => ∃ a C dx fs, xs = [V.ref a] ∧ H a = some (.ins C dx fs) ∧ Q (.ref C) H) := by
  intro pins s σ H xs us Q I r h
  obtain ⟨a, C, dx, fs, rfl, ha, q⟩ := h
  rw [Vals.ref1 r]
  obtain ⟨mA, O, _⟩ := ins_get I.hok ha
  obtain ⟨od, J, _⟩ := O.look
  exact PySem.W.kto_own J ⟨.ref C, H, I, rfl, q⟩
/-- an object of the module whose class is no tuple: a class of the text (makesIn says that its type is a type's heir) -/
theorem cls_there {K : PySem.W.Frag} {C : Addr} (h : PySem.W.makesIn K C = true) : ∃ o, K.lookup C = some o ∧ o.cls ≠ .type "tuple" := by
  unfold PySem.W.makesIn at h
  split at h
  · rename_i oc od cd sl ho
    refine ⟨_, ho, fun e => ?_⟩
    rw [Bool.and_eq_true] at h
    have h2 : PySem.W.instIn K (.ref C) (.type "type") = some true := beq_iff_eq.mp h.2
    have e2 : oc = .type "tuple" := e
    have h3 : PySem.W.instIn K (.ref C) (.type "type") = PySem.W.subIn K oc (.type "type") := by
      show ((K.lookup C).map (fun o => o.cls)).bind (fun t => PySem.W.subIn K t (.type "type")) = _
      rw [ho]
      all_goals rfl
    rw [h3, e2] at h2
    have h4 : PySem.W.subIn K (.type "tuple") (.type "type") = some false := by
      show (fastBuiltinMro "tuple").map (·.contains (.type "type")) = some false
      decide +kernel
    rw [h4] at h2
    cases h2
  · cases h
theorem op_is_cls : OpR X (compareOp .Is) (fun x y H Q => ∃ a b, x = V.ref a ∧ y = V.ref b ∧ (a = b ∨ (PySem.W.makesIn X.K a = true ∧ PySem.W.makesIn X.K b = true)) ∧ Q (.bl (decide (a = b))) H) := by
  intro pins s σ H x y v u Q I rx ry h
  obtain ⟨a, b, rfl, rfl, hab, q⟩ := h
  cases rx
  cases ry
  by_cases z : a = b
  · subst z
    exact wpAny_is_ref_self ⟨.bl _, H, I, by simp [RelV], q⟩
  · rcases hab with e | ⟨h1, h2⟩
    · exact absurd e z
    · obtain ⟨o1, e1, n1⟩ := cls_there h1
      obtain ⟨o2, e2, _⟩ := cls_there h2
      exact wpAny_is_ref_other z (I.kIn _ _ e1) (I.kIn _ _ e2) n1 ⟨.bl _, H, I, by simp [RelV, z], q⟩
theorem op_isnot_cls : OpR X (compareOp .IsNot) (fun x y H Q => ∃ a b, x = V.ref a ∧ y = V.ref b ∧ (a = b ∨ (PySem.W.makesIn X.K a = true ∧ PySem.W.makesIn X.K b = true)) ∧ Q (.bl (!decide (a = b))) H) := by
  intro pins s σ H x y v u Q I rx ry h
  obtain ⟨a, b, rfl, rfl, hab, q⟩ := h
  cases rx
  cases ry
  by_cases z : a = b
  · subst z
    exact wpAny_isNot_ref_self ⟨.bl _, H, I, by simp [RelV], q⟩
  · rcases hab with e | ⟨h1, h2⟩
    · exact absurd e z
    · obtain ⟨o1, e1, n1⟩ := cls_there h1
      obtain ⟨o2, e2, _⟩ := cls_there h2
      exact wpAny_isNot_ref_other z (I.kIn _ _ e1) (I.kIn _ _ e2) n1 ⟨.bl _, H, I, by simp [RelV, z], q⟩
end

/-! ### any(xs), all(xs) of a list of bools -/
theorem iter_any {prog : Program} {w : World} {A : Around} {E : Value → Shared → Prop} {s : Shared} {l : Addr} {items : Array Value} {Q : Value → Shared → Prop} (hl : s.heap.IsList l items)
    (h : ∀ s₂ : Shared, s₂ = { s with heap := s.heap.push { cls := .type "list_iterator", data := .fields #[.ref l, .int 0 0] } } →
      (s₂.heap.IsListIter s.heap.objs.size l 0 ∧ s₂.heap.IsList l items) → l ≠ s.heap.objs.size → Q (.ref s.heap.objs.size) s₂) : wpAny (model prog w) A (pyIter (.ref l)) Q E s := by
  have hlt : l < s.heap.objs.size := by obtain ⟨_, e, _⟩ := hl; exact Heap.lt_size e
  exact wpAny_pyIter_list hl (h _ rfl ⟨⟨_, Heap.get?_push_size _ rfl, rfl, rfl⟩, hl.push _⟩ (Nat.ne_of_lt hlt))
theorem truth_bools {prog : Program} {w : World} {A : Around} {bs : List Bool} {its : List Value} (e : its = bs.map Value.bool) :
    TruthOf prog w A (fun i v => its.toArray[i]? = some v) (fun i => bs.getD i false) := fun i v s Q E hv hq => by
  have hv' : its[i]? = some v := by simpa using hv
  rw [e, List.getElem?_map] at hv'
  obtain ⟨b, hb, rfl⟩ := Option.map_eq_some_iff.mp hv'
  have hg : bs.getD i false = b := by rw [List.getD_eq_getElem?_getD, hb] <;> rfl
  have hq' : Q (bs.getD i false) s := hq
  rw [hg] at hq'
  exact wpAny_truthy_bool hq'
theorem any_range : ∀ bs : List Bool, (List.range bs.length).any (fun i => bs.getD i false) = bs.any id
  | [] => rfl
  | b :: bs => by
    rw [List.length_cons, List.range_succ_eq_map, List.any_cons, List.any_map, List.any_cons, ← any_range bs]
    all_goals rfl
theorem all_range : ∀ bs : List Bool, (List.range bs.length).all (fun i => bs.getD i false) = bs.all id
  | [] => rfl
  | b :: bs => by
    rw [List.length_cons, List.range_succ_eq_map, List.all_cons, List.all_map, List.all_cons, ← all_range bs]
    all_goals rfl
section
variable {X : Cx}
def rAny (K : PySem.W.Frag) : List V → Hp → VK → Prop := fun vs H Q => ∃ (a : Addr) (bs : List Bool), vs = [V.ref a] ∧ SqL K H a (bs.map V.bl) ∧ Q (.bl (bs.any id)) H
def rAll (K : PySem.W.Frag) : List V → Hp → VK → Prop := fun vs H Q => ∃ (a : Addr) (bs : List Bool), vs = [V.ref a] ∧ SqL K H a (bs.map V.bl) ∧ Q (.bl (bs.all id)) H
theorem cr_any (hc : X.calm = true) : CallR X (.builtin "any") (rAny X.K) := by
  intro pins s σ H vs us Q I r h
  obtain ⟨a, bs, rfl, hs, q⟩ := h
  obtain ⟨its, rv, hl, _⟩ := I.list hs
  rw [Vals.ref1 r]
  have hb := rv.bls
  refine call_any_walk (iter_any hl.isList fun s₂ e2 st hne => ?_)
  subst e2
  refine ⟨_, _, _, _, _, _, _, rfl, Walks.list (A := X.A.in1) (I.ok.hd hc) _ a hne its.toArray, st, truth_bools hb, fun h' tk hk => ?_⟩
  refine ⟨.bl _, H, I.kept fun b o eo => hk b o (fun hmem => ?_) (Heap.get?_push_of_some _ eo), ?_, q⟩
  · rcases List.mem_cons.mp hmem with e1 | hmem
    · exact absurd (e1 ▸ Heap.lt_size eo) (Nat.lt_irrefl _)
    · cases hmem
  · show Value.bool _ = Value.bool _
    rw [← any_range, hb, List.size_toArray, List.length_map]
theorem cr_all (hc : X.calm = true) : CallR X (.builtin "all") (rAll X.K) := by
  intro pins s σ H vs us Q I r h
  obtain ⟨a, bs, rfl, hs, q⟩ := h
  obtain ⟨its, rv, hl, _⟩ := I.list hs
  rw [Vals.ref1 r]
  have hb := rv.bls
  refine call_all_walk (iter_any hl.isList fun s₂ e2 st hne => ?_)
  subst e2
  refine ⟨_, _, _, _, _, _, _, rfl, Walks.list (A := X.A.in1) (I.ok.hd hc) _ a hne its.toArray, st, truth_bools hb, fun h' tk hk => ?_⟩
  refine ⟨.bl _, H, I.kept fun b o eo => hk b o (fun hmem => ?_) (Heap.get?_push_of_some _ eo), ?_, q⟩
  · rcases List.mem_cons.mp hmem with e1 | hmem
    · exact absurd (e1 ▸ Heap.lt_size eo) (Nat.lt_irrefl _)
    · cases hmem
  · show Value.bool _ = Value.bool _
    rw [← all_range, hb, List.size_toArray, List.length_map]
end

/-! ### == and != of data at any depth: none, bools, ints, texts, lists, tuples -/
mutual
inductive Dp (K : PySem.W.Frag) (H : Hp) : V → PyData → Prop
  | non : Dp K H .non .none
  | bl (b : Bool) : Dp K H (.bl b) (.bool b)
  | int (i : Int) : Dp K H (.int i) (.int i)
  | str (x : Str) : Dp K H (.str x) (.str x)
  | lst {a : Addr} {xs : List V} {ds : List PyData} : SqL K H a xs → DpAll K H xs ds → Dp K H (.ref a) (.list ds)
  | tup {a : Addr} {xs : List V} {ds : List PyData} : SqT K H a xs → DpAll K H xs ds → Dp K H (.ref a) (.tuple ds)
inductive DpAll (K : PySem.W.Frag) (H : Hp) : List V → List PyData → Prop
  | nil : DpAll K H [] []
  | cons {v : V} {vs : List V} {d : PyData} {ds : List PyData} : Dp K H v d → DpAll K H vs ds → DpAll K H (v :: vs) (d :: ds)
end
section
variable {X : Cx} {pins : List (Addr × Obj)} {σ : St} {H : Hp} {s : Shared}
mutual
theorem Dp.reads (I : Inv X pins σ H s) : ∀ (d : PyData) (v : V) (u : Value), Dp X.K H v d → RelV v u → ∃ as, Reads s.heap u d as
  | .none, _, _, h, r => by
    cases h
    cases r
    exact ⟨_, Reads.none⟩
  | .bool b, _, _, h, r => by
    cases h
    cases r
    exact ⟨_, Reads.bool b⟩
  | .int i, _, _, h, r => by
    cases h
    obtain ⟨t, rfl⟩ := r
    exact ⟨_, Reads.int i t⟩
  | .str x, _, _, h, r => by
    cases h
    obtain ⟨t, rfl⟩ := r
    exact ⟨_, Reads.str x t⟩
  | .list ds, _, _, h, r => by
    cases h with
    | lst hs ha =>
      cases r
      obtain ⟨its, rv, ⟨o, n, ho, hc, _, hd⟩, _⟩ := I.list hs
      obtain ⟨as, hr⟩ := Dp.readsAll I ds _ its ha rv
      exact ⟨_, Reads.list ho hc hd hr⟩
  | .tuple ds, _, _, h, r => by
    cases h with
    | tup hs ha =>
      cases r
      obtain ⟨its, rv, ⟨o, ho, hc, n, hd⟩, _⟩ := I.tuple hs
      obtain ⟨as, hr⟩ := Dp.readsAll I ds _ its ha rv
      exact ⟨_, Reads.tuple ho hc hd hr⟩
  | .dict _, _, _, h, _ => by cases h
theorem Dp.readsAll (I : Inv X pins σ H s) : ∀ (ds : List PyData) (vs : List V) (us : List Value), DpAll X.K H vs ds → Vals vs us → ∃ as, ReadsAll s.heap us ds as
  | [], _, _, h, r => by
    cases h
    cases r
    exact ⟨_, ReadsAll.nil⟩
  | d :: ds, _, _, h, r => by
    cases h with
    | cons h1 h2 =>
      cases r with
      | cons r1 r2 =>
        obtain ⟨as, q1⟩ := Dp.reads I d _ _ h1 r1
        obtain ⟨bs, q2⟩ := Dp.readsAll I ds _ _ h2 r2
        exact ⟨_, ReadsAll.cons q1 q2⟩
end
end
section
variable {X : Cx}
def rEqD (K : PySem.W.Frag) : R2 := fun x y H Q => ∃ d e, Dp K H x d ∧ Dp K H y e ∧ SeqAt.shaped d = true ∧ SeqAt.shaped e = true ∧ Q (.bl (PyData.eqv d e)) H
def rNeD (K : PySem.W.Frag) : R2 := fun x y H Q => ∃ d e, Dp K H x d ∧ Dp K H y e ∧ SeqAt.shaped d = true ∧ SeqAt.shaped e = true ∧ Q (.bl (!PyData.eqv d e)) H
theorem op_eqD (hu : X.A.units + 64 < cLine) : OpR X (compareOp .Eq) (rEqD X.K) := by
  intro pins s σ H x y v u Q I rx ry h
  obtain ⟨d, e, hd, he, sd, se, q⟩ := h
  obtain ⟨as, r1⟩ := Dp.reads I d x v hd rx
  obtain ⟨bs, r2⟩ := Dp.reads I e y u he ry
  exact SeqAt.compareEq_shaped r1 r2 sd se hu ⟨.bl _, H, I, rfl, q⟩
theorem op_neD (hu : X.A.units + 64 < cLine) : OpR X (compareOp .NotEq) (rNeD X.K) := by
  intro pins s σ H x y v u Q I rx ry h
  obtain ⟨d, e, hd, he, sd, se, q⟩ := h
  obtain ⟨as, r1⟩ := Dp.reads I d x v hd rx
  obtain ⟨bs, r2⟩ := Dp.reads I e y u he ry
  exact SeqAt.compareNe_shaped r1 r2 sd se hu ⟨.bl _, H, I, rfl, q⟩
end
end L2

namespace L2
open PySem PySem.Spec PyProof.Rows
abbrev CellAt (h : Heap) (c : Addr) (v : Option Value) : Prop := h.IsCell c v
def relS (scope sc : Scope) : Scope :=
  { scope with names := scope.names.map fun (n, k) => if (k == .free && sc.kind == .function && sc.names.lookup n == some .cell) then (n, .cell) else (n, k) }

def cloFrom (cells : List (Str × Addr)) : List (Str × NameKind) → List (Str × Addr) → List (Str × Addr)
  | [], acc => acc
  | (n, k) :: r, acc => if k == .free then cloFrom cells r ((n, (cells.lookup n).getD 0) :: acc) else cloFrom cells r acc

theorem closure_loop (env : Env) (f : Str × NameKind → List (Str × Addr) → Sem (ForInStep (List (Str × Addr))))
    (hf : ∀ n k c, f (n, k) c = if k == .free then (do let a ← cellOf env n; pure (.yield ((n, a) :: c))) else pure (.yield c)) :
    ∀ (names : List (Str × NameKind)) (acc : List (Str × Addr)), (∀ y ∈ names, y.2 = .free → ∃ c, env.cells.lookup y.1 = some c) → forIn names acc f = pure (cloFrom env.cells names acc)
  | [], acc, _ => by rw [List.forIn_nil]; rfl
  | (n, k) :: r, acc, h => by
    rw [List.forIn_cons, hf]
    have ih := fun acc => closure_loop env f hf r acc fun y hy => h y (List.mem_cons_of_mem _ hy)
    unfold cloFrom
    by_cases hk : (k == NameKind.free) = true
    · rw [if_pos hk, if_pos hk]
      obtain ⟨c, hc⟩ := h (n, k) List.mem_cons_self (by simpa using hk)
      have e : cellOf env n = pure c := by unfold cellOf; rw [hc]
      rw [e]
      have e2 : (env.cells.lookup n).getD 0 = c := by rw [hc]; rfl
      rw [e2]
      exact ih _
    · rw [if_neg hk, if_neg hk]
      exact ih _
theorem closure_ok {scope : Scope} {env : Env} (h : ∀ y ∈ scope.names, y.2 = .free → ∃ c, env.cells.lookup y.1 = some c) : closureFor scope env = pure (cloFrom env.cells scope.names []) := by
  simp only [closureFor]
  rw [closure_loop env _ (fun n k c => rfl) scope.names [] h]
  rfl

theorem mem_lookup {α : Type} : ∀ {l : List (Str × α)} {n : Str} {c : α}, (n, c) ∈ l → ∃ c', l.lookup n = some c'
  | (k, v) :: r, n, c, h => by
    rw [List.lookup_cons]
    cases hb : n == k with
    | true => exact ⟨_, rfl⟩
    | false =>
      rcases List.mem_cons.mp h with e | h
      · cases e; simp at hb
      · exact mem_lookup h

theorem cloFrom_mem {cells : List (Str × Addr)} : ∀ {names : List (Str × NameKind)} {acc : List (Str × Addr)} {n : Str} {c : Addr}, (n, c) ∈ cloFrom cells names acc → (n, c) ∈ acc ∨ ((n, .free) ∈ names ∧ c = (cells.lookup n).getD 0)
  | [], _, _, _, h => .inl h
  | (m, k) :: r, acc, n, c, h => by
    unfold cloFrom at h
    split at h
    · rename_i hk
      have hk : k = .free := by simpa using hk
      rcases cloFrom_mem h with h | ⟨h1, h2⟩
      · rcases List.mem_cons.mp h with e | h
        · cases e; exact .inr ⟨hk ▸ List.mem_cons_self, rfl⟩
        · exact .inl h
      · exact .inr ⟨List.mem_cons_of_mem _ h1, h2⟩
    · rcases cloFrom_mem h with h | ⟨h1, h2⟩
      · exact .inl h
      · exact .inr ⟨List.mem_cons_of_mem _ h1, h2⟩
theorem cloFrom_acc {cells : List (Str × Addr)} : ∀ {names : List (Str × NameKind)} {acc : List (Str × Addr)} {p : Str × Addr}, p ∈ acc → p ∈ cloFrom cells names acc
  | [], _, _, h => h
  | (m, k) :: r, acc, p, h => by
    unfold cloFrom
    split
    · exact cloFrom_acc (List.mem_cons_of_mem _ h)
    · exact cloFrom_acc h
theorem cloFrom_has {cells : List (Str × Addr)} : ∀ {names : List (Str × NameKind)} {acc : List (Str × Addr)} {n : Str}, (n, .free) ∈ names → (n, (cells.lookup n).getD 0) ∈ cloFrom cells names acc
  | (m, k) :: r, acc, n, h => by
    unfold cloFrom
    rcases List.mem_cons.mp h with e | h
    · cases e
      exact cloFrom_acc List.mem_cons_self
    · split
      · exact cloFrom_has h
      · exact cloFrom_has h

theorem cells_mem : ∀ {names : List (Str × NameKind)} {h : Heap} {acc : List (Str × Addr)} {x : Str} {c : Addr}, (x, c) ∈ cellsFrom h.objs.size names acc →
    (x, c) ∈ acc ∨ ((x, .cell) ∈ names ∧ h.objs.size ≤ c ∧ CellAt (pushCells h names) c none)
  | [], _, _, _, _, h => .inl h
  | (n, k) :: r, h, acc, x, c, hm => by
    unfold cellsFrom at hm
    unfold pushCells
    split at hm
    · rename_i hk
      rw [if_pos hk]
      have hk : k = .cell := by simpa using hk
      rw [← Heap.size_push h { cls := .type "cell", data := .cell none }] at hm
      rcases cells_mem hm with hm | ⟨h1, h2, h3⟩
      · rcases List.mem_cons.mp hm with e | hm
        · cases e
          exact .inr ⟨hk ▸ List.mem_cons_self, Nat.le_refl _, _, pushCells_keeps r _ _ _ (Heap.get?_push_size _ rfl), rfl⟩
        · exact .inl hm
      · rw [Heap.size_push] at h2
        exact .inr ⟨List.mem_cons_of_mem _ h1, Nat.le_of_succ_le h2, h3⟩
    · rename_i hk
      rw [if_neg hk]
      rcases cells_mem hm with hm | ⟨h1, h2, h3⟩
      · exact .inl hm
      · exact .inr ⟨List.mem_cons_of_mem _ h1, h2, h3⟩
theorem cells_acc : ∀ {names : List (Str × NameKind)} {n : Nat} {acc : List (Str × Addr)} {p : Str × Addr}, p ∈ acc → p ∈ cellsFrom n names acc
  | [], _, _, _, h => h
  | (m, k) :: r, n, acc, p, h => by
    unfold cellsFrom
    split
    · exact cells_acc (List.mem_cons_of_mem _ h)
    · exact cells_acc h
theorem cells_has : ∀ {names : List (Str × NameKind)} {n : Nat} {acc : List (Str × Addr)} {x : Str}, (x, .cell) ∈ names → ∃ c, (x, c) ∈ cellsFrom n names acc
  | (m, k) :: r, n, acc, x, h => by
    unfold cellsFrom
    rcases List.mem_cons.mp h with e | h
    · cases e
      exact ⟨n, cells_acc List.mem_cons_self⟩
    · split
      · exact cells_has h
      · exact cells_has h
theorem cells_inj : ∀ {names : List (Str × NameKind)} {h : Heap} {acc : List (Str × Addr)} {x y : Str} {c : Addr}, (∀ p ∈ acc, p.2 < h.objs.size) → (∀ x y c, (x, c) ∈ acc → (y, c) ∈ acc → x = y) →
    (x, c) ∈ cellsFrom h.objs.size names acc → (y, c) ∈ cellsFrom h.objs.size names acc → x = y
  | [], _, _, _, _, _, _, hi, h1, h2 => hi _ _ _ h1 h2
  | (n, k) :: r, h, acc, x, y, c, hl, hi, h1, h2 => by
    unfold cellsFrom at h1 h2
    split at h1
    · rename_i hk
      rw [if_pos hk] at h2
      rw [← Heap.size_push h { cls := .type "cell", data := .cell none }] at h1 h2
      refine cells_inj (h := h.push _) (fun p hp => ?_) (fun x y c a b => ?_) h1 h2
      · rw [Heap.size_push]
        rcases List.mem_cons.mp hp with rfl | hp
        · exact Nat.lt_succ_self _
        · exact Nat.lt_succ_of_lt (hl p hp)
      · rcases List.mem_cons.mp a with e | a <;> rcases List.mem_cons.mp b with e' | b
        · cases e; cases e'; rfl
        · cases e; exact absurd (hl _ b) (Nat.lt_irrefl _)
        · cases e'; exact absurd (hl _ a) (Nat.lt_irrefl _)
        · exact hi _ _ _ a b
    · rename_i hk
      rw [if_neg hk] at h2
      exact cells_inj hl hi h1 h2

theorem newEnv_comp {M : Model} {A : Around} {E : Value → Shared → Prop} {s : Shared} {scope : Scope} {globals : Addr} {closure : List (Str × Addr)} {qual : Str} {func : Option Addr} {code : Value} {around : Env} {builtins : Addr} {Q : Env → Shared → Prop}
    (h : Q (newEnv scope s.heap.objs.size globals (cellsFrom (s.heap.objs.size + 1) scope.names closure) qual func code (some around) builtins)
      { s with heap := pushCells (s.heap.push { cls := .type "dict", data := .dict #[] }) scope.names }) :
    wpAny M A (newFunctionEnv scope globals closure [] qual func code (some around) builtins) Q E s := by
  simp only [newFunctionEnv, Option.isSome_some, if_true]
  refine wpAny_bind (wpAny_alloc ?_)
  refine wpAny_bind (wpAny_layCells _ (fun n k c => rfl) scope.names closure _ _ ?_)
  rw [show ({ s with heap := s.heap.push { cls := .type "dict", data := .dict #[] } } : Shared).heap.objs.size = s.heap.objs.size + 1 from Heap.size_push ..]
  rw [List.forIn_nil]
  exact wpAny_bind (wpAny_pure (wpAny_pure h))

/-- every name of the written scope, in the scope that runs -/
theorem lookup_relS {sc : Scope} : ∀ {names : List (Str × NameKind)} {x : Str} {k : NameKind},
    (names.map fun (n, k) => if (k == NameKind.free && sc.kind == .function && sc.names.lookup n == some .cell) then (n, NameKind.cell) else (n, k)).lookup x = some k →
    ∃ k', names.lookup x = some k' ∧ (k = k' ∨ (k' = .free ∧ k = .cell))
  | [], _, _, h => by simp at h
  | (n, k₀) :: r, x, k, h => by
    have ih := @lookup_relS sc r x k
    have h' : List.lookup x ((if (k₀ == NameKind.free && sc.kind == .function && sc.names.lookup n == some .cell) = true then (n, NameKind.cell) else (n, k₀)) :: (r.map _)) = some k := h
    cases hx : x == n with
    | true =>
      simp only [List.lookup_cons, hx]
      by_cases hc : (k₀ == NameKind.free && sc.kind == .function && sc.names.lookup n == some .cell) = true
      · rw [if_pos hc] at h'
        simp only [List.lookup_cons, hx] at h'
        cases h'
        simp only [Bool.and_eq_true, beq_iff_eq] at hc
        exact ⟨k₀, rfl, .inr ⟨hc.1.1, rfl⟩⟩
      · rw [if_neg hc] at h'
        simp only [List.lookup_cons, hx] at h'
        cases h'
        exact ⟨_, rfl, .inl rfl⟩
    | false =>
      simp only [List.lookup_cons, hx]
      by_cases hc : (k₀ == NameKind.free && sc.kind == .function && sc.names.lookup n == some .cell) = true
      · rw [if_pos hc] at h'
        simp only [List.lookup_cons, hx] at h'
        exact ih h'
      · rw [if_neg hc] at h'
        simp only [List.lookup_cons, hx] at h'
        exact ih h'
theorem lookup_relS_keep {sc : Scope} : ∀ {names : List (Str × NameKind)} {x : Str} {k : NameKind}, k ≠ .free → names.lookup x = some k →
    (names.map fun (n, k) => if (k == NameKind.free && sc.kind == .function && sc.names.lookup n == some .cell) then (n, NameKind.cell) else (n, k)).lookup x = some k
  | [], _, _, _, h => by simp at h
  | (n, k₀) :: r, x, k, hk, h => by
    have ih := @lookup_relS_keep sc r x k hk
    show List.lookup x ((if (k₀ == NameKind.free && sc.kind == .function && sc.names.lookup n == some .cell) = true then (n, NameKind.cell) else (n, k₀)) :: (r.map _)) = some k
    cases hx : x == n with
    | true =>
      simp only [List.lookup_cons, hx] at h
      cases h
      have : ¬ (k₀ == NameKind.free && sc.kind == .function && sc.names.lookup n == some .cell) = true := by simp [hk]
      rw [if_neg this]
      simp only [List.lookup_cons, hx]
    | false =>
      simp only [List.lookup_cons, hx] at h
      by_cases hc : (k₀ == NameKind.free && sc.kind == .function && sc.names.lookup n == some .cell) = true
      · rw [if_pos hc]; simp only [List.lookup_cons, hx]; exact ih h
      · rw [if_neg hc]; simp only [List.lookup_cons, hx]; exact ih h

theorem pushCells_size : ∀ (names : List (Str × NameKind)) (h : Heap), h.objs.size ≤ (pushCells h names).objs.size
  | [], _ => Nat.le_refl _
  | (_, k) :: r, h => by
    unfold pushCells
    split
    · refine Nat.le_trans ?_ (pushCells_size r _)
      rw [Heap.size_push]; exact Nat.le_succ _
    · exact pushCells_size r h


/-- the names of a comprehension's block: its own (with their places in N), or captured -/
structure BlkOk (N : List Str) (sc scope : Scope) (own : List (Str × Nat)) : Prop where
  kind : scope.kind = .function
  uniq : ∀ y ∈ scope.names, scope.names.lookup y.1 = some y.2
  ix : ∀ p ∈ own, N[p.2]? = some p.1
  free : ∀ y ∈ scope.names, y.2 = .free → sc.names.lookup y.1 = some .cell ∨ sc.names.lookup y.1 = some .free
  own : ∀ y ∈ scope.names, y.2 = .local ∨ y.2 = .cell → y.1 ∈ own.map (·.1) ∨ y.1 ∉ N
/-- the slots of the block's own names forgotten -/
def wipe (σ : St) : List Nat → St
  | [] => σ
  | v :: vs => (wipe σ vs).set v none
theorem wipe_length (σ : St) : ∀ vs : List Nat, (wipe σ vs).length = σ.length
  | [] => rfl
  | v :: vs => by unfold wipe; rw [List.length_set, wipe_length σ vs]
theorem wipe_some {σ : St} {i : Nat} {x : V} : ∀ {vs : List Nat}, (wipe σ vs)[i]? = some (some x) → σ[i]? = some (some x) ∧ i ∉ vs
  | [], h => ⟨h, by simp⟩
  | v :: vs, h => by
    unfold wipe at h
    by_cases hi : v = i
    · subst hi
      by_cases hv : v < (wipe σ vs).length
      · rw [List.getElem?_set_self hv] at h; cases h
      · rw [List.getElem?_eq_none (by simpa using hv)] at h; cases h
    · rw [List.getElem?_set_ne hi] at h
      obtain ⟨h1, h2⟩ := wipe_some h
      exact ⟨h1, by simp only [List.mem_cons, not_or]; exact ⟨fun e => hi e.symm, h2⟩⟩

/-- the context of a block that starts at s, its iterator's objects at fp -/
abbrev Cx.blk (X : Cx) (s : Shared) (H : Hp) (scope : Scope) (cenv : Env) (fp : List Addr) : Cx := { X with s_0 := s, H_0 := H, env := cenv, outer := X.stack, ex := fp, fn := fun x => scope.names.lookup x == some .cell, pn := [], xe := fun _ _ => False }
section
variable {X : Cx} {pins : List (Addr × Obj)} {σ : St} {H : Hp} {s : Shared}
theorem block_start {scope : Scope} {own : List (Str × Nat)} {fp : List Addr} (I : Inv X pins σ H s) (ok : BlkOk X.N X.env.scope scope own) (hN : X.N.Nodup) (hfp : ∀ b ∈ fp, FpOk X pins H b ∧ b < s.heap.objs.size) :
    Inv (X.blk s H scope (compEnvC scope (cellsFrom (s.heap.objs.size + 1) scope.names (cloFrom X.env.cells scope.names [])) s.heap.objs.size X.env) fp) [] (wipe σ (own.map (·.2))) H { s with heap := pushCells (s.heap.push { cls := .type "dict", data := .dict #[] }) scope.names } := by
  have hfree : ∀ y ∈ scope.names, y.2 = .free → ∃ c, X.env.cells.lookup y.1 = some c := fun y hy e => by
    rcases ok.free y hy e with k | k
    · exact I.ok.has _ (.inl k)
    · exact I.ok.has _ (.inr k)
  generalize hcenv : compEnvC scope (cellsFrom (s.heap.objs.size + 1) scope.names (cloFrom X.env.cells scope.names [])) s.heap.objs.size X.env = cenv
  have kp : ∀ b o, s.heap.get? b = some o → (pushCells (s.heap.push { cls := .type "dict", data := .dict #[] }) scope.names).get? b = some o := fun b o e => pushCells_keeps _ _ _ _ (Heap.get?_push_of_some _ e)
  have hL : cenv.locals = s.heap.objs.size := by rw [← hcenv]; rfl
  have hcl : cenv.cells = cellsFrom (s.heap.objs.size + 1) scope.names (cloFrom X.env.cells scope.names []) := by rw [← hcenv]; rfl
  have hsc : cenv.scope = relS scope X.env.scope := by rw [← hcenv]; rfl
  rw [← Heap.size_push s.heap { cls := .type "dict", data := .dict #[] }] at hcl
  have cm : ∀ {y c}, (y, c) ∈ cloFrom X.env.cells scope.names [] → X.env.cells.lookup y = some c ∧ c < s.heap.objs.size := fun {y c} hm => by
    rcases cloFrom_mem hm with hm | ⟨h1, rfl⟩
    · cases hm
    · obtain ⟨c, hc⟩ := hfree _ h1 rfl
      rw [hc]
      obtain ⟨w, z⟩ := I.cell _ _ hc
      exact ⟨rfl, z.lt⟩
  have mem : ∀ {y c}, cenv.cells.lookup y = some c → (X.env.cells.lookup y = some c ∧ c < s.heap.objs.size) ∨ (s.heap.objs.size + 1 ≤ c ∧ CellAt (pushCells (s.heap.push { cls := .type "dict", data := .dict #[] }) scope.names) c none) := fun {y c} e => by
    rw [hcl] at e
    rcases cells_mem (PySem.mem_of_lookup e) with hm | ⟨_, h2, h3⟩
    · exact .inl (cm hm)
    · rw [Heap.size_push] at h2; exact .inr ⟨h2, h3⟩
  have look : ∀ {y}, scope.names.lookup y = some .free → ∃ c, cenv.cells.lookup y = some c ∧ X.env.cells.lookup y = some c := fun {y} hl => by
    have hy : (y, NameKind.free) ∈ scope.names := PySem.mem_of_lookup hl
    obtain ⟨c', e'⟩ := mem_lookup (cells_acc (names := scope.names) (n := (s.heap.push { cls := .type "dict", data := .dict #[] }).objs.size) (cloFrom_has (cells := X.env.cells) (acc := []) hy))
    rw [← hcl] at e'
    refine ⟨c', e', ?_⟩
    rw [hcl] at e'
    rcases cells_mem (PySem.mem_of_lookup e') with hm | ⟨h1, _, _⟩
    · exact (cm hm).1
    · have := ok.uniq _ h1
      rw [hl] at this; cases this
  have okB : (X.blk s H scope cenv fp).Ok := by
    refine ⟨I.ok.mod, by show cenv.scope.kind = _; rw [hsc]; exact ok.kind, by show cenv.globals = _; rw [← hcenv]; exact I.ok.glob, by show cenv.builtins = _; rw [← hcenv]; exact I.ok.blt, by show s.heap.objs.size ≤ cenv.locals; rw [hL]; exact Nat.le_refl _,
      fun y z c e1 e2 => ?_, fun y hy => ?_, fun y c z e => ?_, I.ok.hd, I.ok.frames, .inl rfl, fun b hb => ⟨?_, fun y c e z => ?_⟩, I.bs, Nat.le_trans I.ok.bsz I.sz, fun b o e hb => ?_, fun b hb z => ?_, I.stack, I.stkFree⟩
    · have e1 : cenv.cells.lookup y = some c := e1
      have e2 : cenv.cells.lookup z = some c := e2
      rw [hcl] at e1 e2
      refine cells_inj (fun p hp => ?_) (fun y z c a b => I.ok.inj y z c (cm a).1 (cm b).1) (PySem.mem_of_lookup e1) (PySem.mem_of_lookup e2)
      rw [Heap.size_push]
      exact Nat.lt_succ_of_lt (cm (y := p.1) (c := p.2) hp).2
    · show ∃ c, cenv.cells.lookup y = some c
      have key : ∀ k, cenv.kindOf y = some k → (k = .cell ∨ k = .free) → ∃ c, cenv.cells.lookup y = some c := fun k hk hk' => by
        unfold Env.kindOf at hk
        rw [hsc] at hk
        obtain ⟨k', e, r⟩ := lookup_relS hk
        have : k' = .cell ∨ k' = .free := by
          rcases r with rfl | ⟨rfl, _⟩
          · exact hk'
          · exact .inr rfl
        rcases this with rfl | rfl
        · obtain ⟨c, hm⟩ := cells_has (n := (s.heap.push { cls := .type "dict", data := .dict #[] }).objs.size) (acc := cloFrom X.env.cells scope.names []) (PySem.mem_of_lookup e)
          obtain ⟨c', e'⟩ := mem_lookup hm
          exact ⟨c', by rw [hcl]; exact e'⟩
        · obtain ⟨c, h1, _⟩ := look e
          exact ⟨c, h1⟩
      rcases hy with hy | hy
      · exact key _ hy (.inl rfl)
      · exact key _ hy (.inr rfl)
    · have z : (scope.names.lookup y == some NameKind.cell) = true := z
      have z : scope.names.lookup y = some .cell := by simpa using z
      have e : cenv.cells.lookup y = some c := e
      rw [hcl] at e
      rcases cells_mem (PySem.mem_of_lookup e) with hm | ⟨_, h2, _⟩
      · rcases cloFrom_mem hm with hm | ⟨h1, _⟩
        · cases hm
        · have q := ok.uniq _ h1
          rw [z] at q; cases q
      · rw [Heap.size_push] at h2
        exact Nat.le_of_succ_le h2
    · show b ≠ cenv.locals
      rw [hL]; exact Nat.ne_of_lt (hfp b hb).2
    · have e : cenv.cells.lookup y = some c := e
      rcases mem e with ⟨h1, _⟩ | ⟨h1, _⟩
      · exact (hfp b hb).1.2.2.2.2.1 y c h1 z
      · have h2 : s.heap.objs.size + 1 ≤ b := by rw [← z]; exact h1
        exact absurd (Nat.lt_of_lt_of_le (hfp b hb).2 (Nat.le_of_succ_le h2)) (Nat.lt_irrefl _)
    · rcases (hfp b hb).1.2.2.2.1 with z | z
      · exact I.ok.noex b o e z
      · exact absurd (Nat.lt_of_lt_of_le (Heap.lt_size e) (Nat.le_trans I.ok.bsz z)) (Nat.lt_irrefl _)
    · rcases List.mem_cons.mp (I.stkSub b z) with z | z
      · exact (hfp b hb).1.2.1 z
      · exact (hfp b hb).1.2.2.1 z
  refine ⟨okB, rfl, I.bare, Un.kept kp, ⟨fun _ => none, ?_, fun i y av e1 e2 e3 => ?_⟩, fun y c e => ?_, ?_, fun y c e => ?_, fun p hp => ?_, I.hok.kept kp, by rw [wipe_length]; exact I.len⟩
  · show Heap.Ns _ cenv.locals _
    rw [hL]
    exact Heap.Ns.keeps (Heap.Ns.new ..) fun b o e => pushCells_keeps _ _ _ _ e
  · obtain ⟨e2, hne⟩ := wipe_some e2
    have hfr : scope.names.lookup y = some .free ∧ (cenv.kindOf y = some .cell ∨ cenv.kindOf y = some .free) := by
      have key : ∀ k, cenv.scope.names.lookup y = some k → k = .local ∨ k = .cell ∨ k = .free → scope.names.lookup y = some .free ∧ (cenv.kindOf y = some .cell ∨ cenv.kindOf y = some .free) := fun k hk hk' => by
        have hk0 := hk
        rw [hsc] at hk
        obtain ⟨k', e, r⟩ := lookup_relS hk
        have no : ¬ (k' = .local ∨ k' = .cell) := fun hh => by
          rcases ok.own _ (PySem.mem_of_lookup e) hh with e' | e'
          · obtain ⟨p, hp, hpy⟩ := List.mem_map.mp e'
            have e3 := ok.ix p hp
            have : p.1 = y := hpy
            rw [this] at e3
            exact hne (List.mem_map.mpr ⟨p, hp, nodup_ix hN e3 e1⟩)
          · exact e' (List.mem_of_getElem? e1)
        rcases r with rfl | ⟨rfl, rfl⟩
        · rcases hk' with rfl | rfl | rfl
          · exact absurd (.inl rfl) no
          · exact absurd (.inr rfl) no
          · exact ⟨e, .inr hk0⟩
        · exact ⟨e, .inl hk0⟩
      have e3 : Vis cenv.scope y := e3
      rcases e3 with e3 | e3 | e3
      · exact key _ e3 (.inl rfl)
      · exact key _ e3 (.inr (.inl rfl))
      · exact key _ e3 (.inr (.inr rfl))
    obtain ⟨m, hn, hl⟩ := I.loc
    have hvis : Vis X.env.scope y := (ok.free _ (PySem.mem_of_lookup hfr.1) rfl).elim (fun k => .inr (.inl k)) (fun k => .inr (.inr k))
    obtain ⟨w, r, q⟩ := hl i y av e1 e2 hvis
    refine ⟨w, r, .inr ⟨hfr.2, ?_⟩⟩
    obtain ⟨c, h1, h2⟩ := look hfr.1
    rcases q with ⟨k, _⟩ | ⟨_, c', e', z⟩
    · have k : X.env.scope.names.lookup y = some .local := k
      rcases ok.free _ (PySem.mem_of_lookup hfr.1) rfl with k' | k' <;> rw [show X.env.scope.names.lookup y = _ from k'] at k <;> cases k
    · rw [h2] at e'; cases e'
      exact ⟨c, h1, z.keeps kp⟩
  · have e : cenv.cells.lookup y = some c := e
    rcases mem e with ⟨h1, _⟩ | ⟨_, z⟩
    · obtain ⟨w, z⟩ := I.cell y c h1
      exact ⟨w, z.keeps kp⟩
    · exact ⟨_, z⟩
  · show H cenv.locals = none
    rw [hL]; exact I.hok.fresh (Nat.le_refl _)
  · have e : cenv.cells.lookup y = some c := e
    rcases mem e with ⟨h1, _⟩ | ⟨h1, _⟩
    · exact I.freeC y c h1
    · exact I.hok.fresh (Nat.le_of_succ_le h1)
  · exact absurd (show p ∈ ([] : List (Addr × Obj)) ++ [] from hp) (by simp)

/-- an item appended to a tracked list -/
theorem app_ok {E : Value → Shared → Prop} {D : Addr} {xs : List V} {y : V} {v : Value} {Q : Value → Shared → Prop} (I : Inv X pins σ H s) (hD : H D = some (.lst xs)) (hz : xs.length < sizeLine) (r : RelV y v)
    (h : ∀ s', Inv X pins σ (upd H D (.lst (xs ++ [y]))) s' → Q .none s') : wpAny (model X.prog X.w) X.A (call (.builtin "list.append") [.ref D, v]) Q E s := by
  obtain ⟨hz', its, n, ri, e⟩ := I.hok D _ hD
  have hl := ri.length
  refine append_at (hsz := by rw [List.size_toArray]; omega) e fun h' sb ho' => ?_
  refine h { s with heap := h' } (I.write (t' := s.toks) (by rw [hD]; trivial) (.inl rfl) (fun b u hb q => (sb.2 b hb).trans q) ⟨_, ho'⟩ ⟨by rw [List.length_append]; exact hz, its ++ [v], n + 1, ri.append (.cons r .nil), ?_⟩)
  rw [ho']
  simp

/-- a clause's tests -/
def PTs (X : Cx) (ifs : List Expr) (t : TT) : Prop :=
  ∀ (pins : List (Addr × Obj)) (s : Shared) (σ : St) (H : Hp) (Q : Bool → Hp → Prop), Inv X pins σ H s → t σ H Q →
    wpAny (model X.prog X.w) X.A (forIn ifs true fun c r => if r = true then do let ok ← isTrue c X.env (eval c X.env); pure (ForInStep.yield ok) else pure (ForInStep.yield r)) (TP X pins σ Q) X.xe s
def tYes : TT := fun _ H Q => Q true H
theorem pts_nil : PTs X [] tYes := fun _ _ _ H _ I h => wpAny_tests_nil ⟨H, I, h⟩
theorem pts_one {c : Expr} {t : TT} (h : PT X c t) : PTs X [c] t := fun pins s σ H Q I hw => wpAny_tests_one (h pins s σ H Q I hw)
end

theorem thnF {α : Type} {t : Sem α} {Q Q' : α → Shared → Prop} {M : Model} {A : Around} {E : Value → Shared → Prop} {s : Shared} (h : wpAny M A t Q (fun _ _ => False) s) (hQ : ∀ a s, Q a s → Q' a s) : wpAny M A t Q' E s := wpAny_mono h hQ fun _ _ z => False.elim z

/-- the loop of a list comprehension's block, the target of any form (codeAny_compLoop_tests asks a target that no tuple goes to; statement and proof follow it, PyProof/CompMap.lean:41-61, with the step letOwnedTupleGo kept) -/
theorem compLoop_any {prog : Program} {w : World} {A : Around} {R : Result → Shared → Prop} {s : Shared} {elt target iter : Expr} {ifs : List Expr} {scope : Scope} {pos : Pos} {it acc : Value} {env : Env} (I : Nat → Shared → Prop)
    (turn : ∀ n s, I n s → wpAny (model prog w) A (pyNext it) (fun r s₁ => match r with
      | none => R (.ok .next) s₁
      | some v => wpAny (model prog w) A (letOwnedTupleGo target it v) (fun _ s₁' => wpAny (model prog w) A (assign target env v) (fun _ s₂ =>
          wpAny (model prog w) A (forIn ifs true fun c r => if r = true then do let ok ← isTrue c env (eval c env); pure (ForInStep.yield ok) else pure (ForInStep.yield r)) (fun ok s₃ =>
            if ok = true then wpAny (model prog w) A (eval elt env) (fun x s₄ =>
              wpAny (model prog w) A (call (.builtin "list.append") [acc, x]) (fun _ s₅ => ∃ m, m < n ∧ I m s₅) (notedBy (model prog w) A env fun e s' => R (.error e) s') s₄) (notedBy (model prog w) A env fun e s' => R (.error e) s') s₃
            else ∃ m, m < n ∧ I m s₃) (notedBy (model prog w) A env fun e s' => R (.error e) s') s₂) (notedBy (model prog w) A env fun e s' => R (.error e) s') s₁') (notedBy (model prog w) A env fun e s' => R (.error e) s') s₁) (notedBy (model prog w) A env fun e s' => R (.error e) s') s)
    (n : Nat) (h : I n s) :
    codeAny (model prog w) A (.compLoop (.ListComp elt [⟨target, iter, ifs, 0⟩] scope pos) 0 it acc env) R s := by
  refine codeAny_loop rfl I (fun n s hI => ?_) n h
  show wpAny _ A ((compTurn (.ListComp elt [⟨target, iter, ifs, 0⟩] scope pos) 0 it acc env).onRaise (fun x => do noteFrame x env; theTreesLotGoes x)) _ _ s
  refine wpAny_noted ?_
  rw [compTurn_list]
  refine wpAny_bind (wpAny_standAt (wpAny_bind (wpAny_mono (turn n s hI) (fun r s₁ h₁ => ?_) fun _ _ h' => h')))
  cases r with
  | none => exact wpAny_pure h₁
  | some v =>
    refine wpAny_bind (wpAny_mono h₁ (fun _ s₁' h₁' => ?_) fun _ _ h' => h')
    refine wpAny_bind (wpAny_mono h₁' (fun _ s₂ h₂ => wpAny_bind (wpAny_mono h₂ (fun ok s₃ h₃ => ?_) fun _ _ h' => h')) fun _ _ h' => h')
    cases ok with
    | false => exact wpAny_pure ⟨rfl, h₃⟩
    | true =>
      exact wpAny_bind (wpAny_bind (wpAny_mono h₃ (fun x s₄ h₄ => wpAny_bind (wpAny_mono h₄ (fun _ s₅ h₅ => wpAny_pure (wpAny_pure ⟨rfl, h₅⟩)) fun _ _ h' => h')) fun _ _ h' => h'))

section
variable {X : Cx}
/-- [elt for target in iter if ..]: D the new list; W by the turn and a measure, Nx what a turn is to reach -/
def tLc (wi : TI) (g : TG) (tt : TT) (te : TE) (vs : List Nat) : TE := fun σ H Q => wi σ H fun J H1 => ∀ D, H1 D = none → ∃ W : Nat → Nat → Hp → Prop, (∃ m, W 0 m (upd H1 D (.lst []))) ∧ ∀ i m H, W i m H →
  (J.stop i H ∧ Q (.ref D) H) ∨ (J.go i H ∧ ∃ Nx : Hp → Prop, (∀ H', Nx H' → ∃ m', m' < m ∧ W (i + 1) m' H') ∧ ∀ x H', J.yld i H x H' → g x (wipe σ vs) H' fun σ2 H2 => wipe σ2 vs = wipe σ vs ∧ tt σ2 H2 fun b H3 =>
    if b = true then te σ2 H3 fun y H4 => ∃ acc, H4 D = some (.lst acc) ∧ acc.length < sizeLine ∧ Nx (upd H4 D (.lst (acc ++ [y]))) else Nx H3)
theorem lc_core {pins : List (Addr × Obj)} {s : Shared} {σ : St} {H : Hp} {Q : VK} {elt tg iter : Expr} {ifs : List Expr} {scope : Scope} {own : List (Str × Nat)} {pos pos' : Pos} {wi : TI} {g : TG} {tt : TT} {te : TE} {use : Option (Value → Sem Unit)} {Qf : Value → Shared → Prop}
    (hc : X.calm = true) (hN : X.N.Nodup) (I : Inv X pins σ H s) (hi : PI X tg iter wi) (ok : BlkOk X.N X.env.scope scope own)
    (hg : ∀ (s : Shared) (H : Hp) (C : Addr) (cl : List (Str × Addr)) (fp : List Addr), PG (X.blk s H scope (compEnvC scope cl C X.env) fp) tg g) (ht : ∀ (s : Shared) (H : Hp) (C : Addr) (cl : List (Str × Addr)) (fp : List Addr), PTs (X.blk s H scope (compEnvC scope cl C X.env) fp) ifs tt)
    (he : ∀ (s : Shared) (H : Hp) (C : Addr) (cl : List (Str × Addr)) (fp : List Addr), PE (X.blk s H scope (compEnvC scope cl C X.env) fp) elt te) (hs : ∀ x, foldedSetIterable iter X.env x = pure x)
    (h : tLc wi g tt te (own.map (·.2)) σ H Q)
    (hRR : ∀ D C s' m H', Inv X pins σ H' s' → Q (.ref D) H' → s'.heap.Ns C m → FpOk X pins H' C → compPost (model X.prog X.w) X.A X.xe use Qf (.ref D) C (.ok .next) s') :
    wpAny (model X.prog X.w) X.A (comprehension (.ListComp elt [⟨tg, iter, ifs, 0⟩] scope pos) scope X.env pos' (newList []) false (eval iter X.env) use) Qf X.xe s := by
  have hfree : ∀ y ∈ scope.names, y.2 = .free → ∃ c, X.env.cells.lookup y.1 = some c := fun y hy e => by
    rcases ok.free y hy e with k | k
    · exact I.ok.has _ (.inl k)
    · exact I.ok.has _ (.inr k)
  refine wpAny_comprehension_free (use := use) rfl hs (closure_ok hfree) ok.kind (fun y hy e => by rw [ok.uniq y hy, e])
    (thn (hi pins s σ H _ I h) fun xv s1 hx => thn hx fun itv s2 h2 => ?_)
  obtain ⟨it, fp, tn, J, H2, e, I2, T, st2, f2, q⟩ := h2
  subst e
  refine wpAny_newObj_type (newEnv_comp ?_) (by show 0 ≤ sizeLine; decide)
  generalize hD : s2.heap.objs.size = D
  have hDn : H2 D = none := I2.hok.fresh (Nat.le_of_eq hD)
  obtain ⟨W, ⟨m0, w0⟩, turn⟩ := q D hDn
  -- the new list
  generalize hs3 : ({ s2 with heap := s2.heap.push { cls := .type "list", data := .seq ([] : List Value).toArray } } : Shared) = s3
  have I3 : Inv X pins σ (upd H2 D (.lst [])) s3 := by
    rw [← hs3]
    refine I2.laid (t' := s2.toks) (fun b o e => Heap.get?_push_of_some _ e) (Nat.le_of_eq hD) ⟨Nat.zero_le _, [], 0, .nil, ?_⟩
    rw [← hD]
    exact Heap.get?_push_size _ rfl
  have h3 : s3.heap = s2.heap.push { cls := .type "list", data := .seq ([] : List Value).toArray } := by rw [← hs3]
  have sz : ∀ b ∈ fp, b < s2.heap.objs.size := fun b hb => by
    obtain ⟨o, e, _⟩ := T.obj _ _ st2 b hb
    exact Heap.lt_size e
  have f3 : ∀ b ∈ fp, FpOk X pins (upd H2 D (.lst [])) b ∧ b < s3.heap.objs.size := fun b hb => by
    have hlt := sz b hb
    refine ⟨⟨?_, (f2 b hb).2⟩, by rw [h3, Heap.size_push]; exact Nat.lt_succ_of_lt hlt⟩
    rw [upd_ne (by rw [← hD]; exact Nat.ne_of_lt hlt)]
    exact (f2 b hb).1
  have st3 : tn 0 s3.heap := T.keep _ _ _ st2 fun b _ o e => by rw [h3]; exact Heap.get?_push_of_some _ e
  have I4 := block_start I3 ok hN f3
  have pg := hg s3 (upd H2 D (.lst [])) s3.heap.objs.size (cellsFrom (s3.heap.objs.size + 1) scope.names (cloFrom X.env.cells scope.names [])) fp
  have pt := ht s3 (upd H2 D (.lst [])) s3.heap.objs.size (cellsFrom (s3.heap.objs.size + 1) scope.names (cloFrom X.env.cells scope.names [])) fp
  have pe := he s3 (upd H2 D (.lst [])) s3.heap.objs.size (cellsFrom (s3.heap.objs.size + 1) scope.names (cloFrom X.env.cells scope.names [])) fp
  show codeAny _ _ (.compStart (.ListComp elt [⟨tg, iter, ifs, 0⟩] scope pos) 0 (.ref it) (.ref D) (compEnvC scope (cellsFrom (s3.heap.objs.size + 1) scope.names (cloFrom X.env.cells scope.names [])) s3.heap.objs.size X.env)) (compPost (model X.prog X.w) X.A X.xe use Qf (.ref D) s3.heap.objs.size) { s3 with heap := pushCells (s3.heap.push { cls := .type "dict", data := .dict #[] }) scope.names }
  have nfp : ∀ b ∈ fp, (upd H2 D (.lst [])) b = none := fun b hb => (f3 b hb).1.1
  generalize hce : compEnvC scope (cellsFrom (s3.heap.objs.size + 1) scope.names (cloFrom X.env.cells scope.names [])) s3.heap.objs.size X.env = ce at I4 pg pt pe ⊢
  have cL : ce.locals = s3.heap.objs.size := by subst hce; rfl
  generalize hH3 : upd H2 D (.lst []) = H3 at I3 I4 pg pt pe w0 nfp f3
  generalize hs4 : ({ s3 with heap := pushCells (s3.heap.push { cls := .type "dict", data := .dict #[] }) scope.names } : Shared) = s4 at I4 ⊢
  have st4 : tn 0 s4.heap := T.keep _ _ _ st3 fun b _ o e => by rw [← hs4]; exact pushCells_keeps _ _ _ _ (Heap.get?_push_of_some _ e)
  have stat : ∀ {σ' : St} {H' : Hp} {s' : Shared}, Inv (X.blk s3 H3 scope ce fp) [] σ' H' s' → (∀ b ∈ fp, H' b = none) → ∀ b ∈ fp, FpOk (X.blk s3 H3 scope ce fp) [] H' b := fun {σ' H' s'} I' hn b hb =>
    ⟨hn b hb, (I'.ok.exf b hb).1, I'.ok.exfs b hb, .inl hb, fun x c e => (I'.ok.exf b hb).2 x c e, fun p hp => absurd (show p ∈ ([] : List (Addr × Obj)) ++ [] from hp) (by simp)⟩
  have loop : codeAny (model X.prog X.w) X.A (.compLoop (.ListComp elt [⟨tg, iter, ifs, 0⟩] scope pos) 0 (.ref it) (.ref D) ce) (compPost (model X.prog X.w) X.A X.xe use Qf (.ref D) s3.heap.objs.size) s4 := by
    refine compLoop_any (fun n s' => ∃ i H', Inv (X.blk s3 H3 scope ce fp) [] (wipe σ (own.map (·.2))) H' s' ∧ tn i s'.heap ∧ (∀ b ∈ fp, H' b = none) ∧ W i n H') ?_ m0 ⟨0, H3, I4, st4, nfp, w0⟩
    rintro n s5 ⟨i, H5, I5, st5, n5, w5⟩
    rcases turn i n H5 w5 with ⟨stop, qq⟩ | ⟨go, Nx, hNx, step⟩
    · have td := T.done (X.blk s3 H3 scope ce fp) rfl rfl rfl hc i [] s5 _ H5 (fun _ _ => False) I5 (stat I5 n5) st5 stop
      refine thnF td fun r s6 ⟨hr, I6⟩ => ?_
      subst hr
      -- back in the def's context
      have I7 : Inv X pins σ H5 s6 := I3.call' (ch := fp) I6.os I6.base I6.hok I6.bare fun b hb => ⟨(f3 b hb).1.2.2.2.1, (f3 b hb).1.2.1, (f3 b hb).1.2.2.2.2.1, (f3 b hb).1.2.2.2.2.2⟩
      have nC : H5 s3.heap.objs.size = none := by
        have z : H5 ce.locals = none := I6.free
        rw [cL] at z
        exact z
      obtain ⟨m, hn, _⟩ := I6.loc
      have hn : s6.heap.Ns ce.locals m := hn
      rw [cL] at hn
      exact hRR D s3.heap.objs.size s6 m H5 I7 qq hn (I3.fpOk (Nat.le_refl _) nC)
    · have ti := T.item (X.blk s3 H3 scope ce fp) rfl rfl rfl hc i [] s5 _ H5 (fun _ _ => False) I5 (stat I5 n5) st5 go
      refine thnF ti fun r s6 ⟨u, hr, h6⟩ => ?_
      subst hr
      refine thnF h6 fun _ s7 ⟨x, H7, I7, r7, y7, st7, n7⟩ => ?_
      have I7' := I7.pinned (stat I7 n7) (T.obj _ _ st7)
      refine thnF (pg _ s7 _ H7 x u _ I7' r7 (step x H7 y7)) fun _ s8 ⟨σ8, H8, I8, hw8, q8⟩ => ?_
      refine thnF (pt _ s8 σ8 H8 _ I8 q8) fun b s9 ⟨H9, I9, q9⟩ => ?_
      -- the turn's end
      have fin : ∀ {s' : Shared} {H' : Hp}, Inv (X.blk s3 H3 scope ce fp) ([] ++ pinsAt fp s7.heap) σ8 H' s' → Nx H' → ∃ m, m < n ∧ ∃ i H', Inv (X.blk s3 H3 scope ce fp) [] (wipe σ (own.map (·.2))) H' s' ∧ tn i s'.heap ∧ (∀ b ∈ fp, H' b = none) ∧ W i m H' := fun {s' H'} I' nx => by
        obtain ⟨m', hm, w'⟩ := hNx H' nx
        have pin' : ∀ b ∈ fp, ∀ o, s7.heap.get? b = some o → s'.heap.get? b = some o ∧ H' b = none := fun b hb o e =>
          let z := I'.pin (b, o) (List.mem_append_right _ (List.mem_append_right _ (mem_pinsAt hb e)))
          ⟨z.1, z.2.1⟩
        have hl : (wipe σ (own.map (·.2))).length = σ8.length := by rw [← hw8, wipe_length]
        refine ⟨m', hm, i + 1, H', (I'.unpinned (pins := [])).weak hl (fun j v e => ?_), T.keep _ _ _ st7 fun b hb o e => (pin' b hb o e).1, fun b hb => ?_, w'⟩
        · rw [← hw8] at e
          exact (wipe_some e).1
        · obtain ⟨o, e, _⟩ := T.obj _ _ st7 b hb
          exact (pin' b hb o e).2
      cases b with
      | false =>
        simp only [Bool.false_eq_true, if_false] at q9 ⊢
        exact fin I9 q9
      | true =>
        simp only [if_true] at q9 ⊢
        refine thnF (pe _ s9 σ8 H9 _ I9 q9) fun z s10 ⟨yv, H10, I10, r10, acc, hD10, hz10, nx⟩ => ?_
        exact app_ok (X := X.blk s3 H3 scope ce fp) I10 hD10 hz10 r10 fun s11 I11 => fin I11 nx
  exact codeAny_compStart_list loop (T.self X.A 0 _ _ _ st4 loop)
/-- as a value -/
theorem pe_lc {elt tg iter : Expr} {ifs : List Expr} {scope : Scope} {own : List (Str × Nat)} {pos : Pos} {wi : TI} {g : TG} {tt : TT} {te : TE} (hc : X.calm = true) (hN : X.N.Nodup) (hi : PI X tg iter wi) (ok : BlkOk X.N X.env.scope scope own)
    (hg : ∀ (s : Shared) (H : Hp) (C : Addr) (cl : List (Str × Addr)) (fp : List Addr), PG (X.blk s H scope (compEnvC scope cl C X.env) fp) tg g) (ht : ∀ (s : Shared) (H : Hp) (C : Addr) (cl : List (Str × Addr)) (fp : List Addr), PTs (X.blk s H scope (compEnvC scope cl C X.env) fp) ifs tt)
    (he : ∀ (s : Shared) (H : Hp) (C : Addr) (cl : List (Str × Addr)) (fp : List Addr), PE (X.blk s H scope (compEnvC scope cl C X.env) fp) elt te) (hs : ∀ x, foldedSetIterable iter X.env x = pure x := by intro _; rfl) :
    PE X (.ListComp elt [⟨tg, iter, ifs, 0⟩] scope pos) (tLc wi g tt te (own.map (·.2))) := by
  intro pins s σ H Q I h
  rw [eval_ListComp]
  refine lc_core hc hN I hi ok hg ht he hs h fun D C s' m H' I' q hn f => ⟨m, hn, fun h'' sb => ?_⟩
  obtain ⟨f0, f1, f2, f3, f4, f5⟩ := f
  exact ⟨.ref D, H', I'.turned (t' := s'.toks) (fun b o hb e => (sb.2 b hb).trans e) f0 f1 f3 f4 f5, rfl, q⟩
/-- name = [..] on one line, the name a local -/
theorem ps_setLc {i : Nat} {y : Str} {py : Pos} {elt tg iter : Expr} {ifs : List Expr} {scope : Scope} {own : List (Str × Nat)} {pos spos : Pos} {wi : TI} {g : TG} {tt : TT} {te : TE} (hc : X.calm = true) (hN : X.N.Nodup) (hy : X.N[i]? = some y) (hyl : X.env.scope.names.lookup y = some .local)
    (hsw : swapsWith (.ListComp elt [⟨tg, iter, ifs, 0⟩] scope pos) (some (.Name y py)) spos.line X.env = pure true) (hi : PI X tg iter wi) (ok : BlkOk X.N X.env.scope scope own)
    (hg : ∀ (s : Shared) (H : Hp) (C : Addr) (cl : List (Str × Addr)) (fp : List Addr), PG (X.blk s H scope (compEnvC scope cl C X.env) fp) tg g) (ht : ∀ (s : Shared) (H : Hp) (C : Addr) (cl : List (Str × Addr)) (fp : List Addr), PTs (X.blk s H scope (compEnvC scope cl C X.env) fp) ifs tt)
    (he : ∀ (s : Shared) (H : Hp) (C : Addr) (cl : List (Str × Addr)) (fp : List Addr), PE (X.blk s H scope (compEnvC scope cl C X.env) fp) elt te) (hs : ∀ x, foldedSetIterable iter X.env x = pure x := by intro _; rfl) :
    PS X (.Assign [.Name y py] (.ListComp elt [⟨tg, iter, ifs, 0⟩] scope pos) spos) (tAsg (tLc wi g tt te (own.map (·.2))) (gName i)) := by
  intro pins s σ H D I h
  rw [exec_Assign_Name_used _ _ _ _ hsw]
  refine wpAny_bind (wpAny_standAt (wpAny_bind ?_))
  show wpAny _ X.A (do let _ ← comprehension (.ListComp elt [⟨tg, iter, ifs, 0⟩] scope pos) scope X.env (firstIterPos [⟨tg, iter, ifs, 0⟩] pos) (newList []) false (eval iter X.env) (some (assign (.Name y py) X.env))) _ _ s
  have h : tLc wi g tt te (own.map (·.2)) σ H (fun x H1 => gName i x σ H1 D.nx) := h
  refine wpAny_bind (thn (lc_core (Qf := fun _ s' => SP X pins D .next s') hc hN I hi ok hg ht he hs h fun L C s' m H' I' q hn f => ?_) fun _ s' hq => wpAny_pure (wpAny_pure hq))
  show wpAny _ _ (assign (.Name y py) X.env (.ref L)) _ _ _
  refine wpAny_assign_Name (store_ok2 (v := V.ref L) I' hN hy (.inl hyl) rfl (fun s2 I2 ⟨a, sb, ha⟩ => ?_) (.inr hyl))
  obtain ⟨f0, f1, f2, f3, f4, f5⟩ := f
  have haC : C ≠ a := by
    rcases ha with z | z
    · rw [z]; exact f1
    · exact fun e => f4 y a z e.symm
  refine ⟨m, hn.sameBut sb haC, fun h3 sb3 => ?_⟩
  exact ⟨_, H', I2.turned (t' := s2.toks) (fun b o hb e => (sb3.2 b hb).trans e) f0 f1 f3 f4 f5, q⟩
theorem sw_true {elt : Expr} {gs : List Comprehension} {scope : Scope} {pos py : Pos} {y : Str} {l : Nat} {env : Env} (hk : env.scope.kind = .function) (hy : env.scope.names.lookup y = some .local) (hl : (py.line == pos.line) = true)
    (ha : (scope.names.any fun (n, k) => n == y && (k == .local || k == .cell)) = false) : swapsWith (.ListComp elt gs scope pos) (some (.Name y py)) l env = pure true := by
  have ky : env.kindOf y = some .local := hy
  have hb : env.blockKind = .function := by unfold Env.blockKind; rw [hk]; rfl
  unfold swapsWith
  simp only [hb, ky, ha, Expr.pos, hl]
  rfl
end

/-! ### the forms one uses -/
/-- over a range: Pv by the turn and the heap (the new list at D within) -/
theorem lc_range {lo : Int} {n : Nat} {g : TG} {tt : TT} {te : TE} {vs : List Nat} {σ : St} {H1 : Hp} {D : Addr} {Qd : Hp → Prop} (Pv : Nat → Hp → Prop) (h0 : Pv 0 (upd H1 D (.lst [])))
    (hs : ∀ i H, i < n → Pv i H → g (.int (lo + i)) (wipe σ vs) H fun σ2 H2 => wipe σ2 vs = wipe σ vs ∧ tt σ2 H2 fun b H3 =>
      if b = true then te σ2 H3 fun y H4 => ∃ acc, H4 D = some (.lst acc) ∧ acc.length < sizeLine ∧ Pv (i + 1) (upd H4 D (.lst (acc ++ [y]))) else Pv (i + 1) H3) (hd : ∀ H, Pv n H → Qd H) :
    ∃ W : Nat → Nat → Hp → Prop, (∃ m, W 0 m (upd H1 D (.lst []))) ∧ ∀ i m H, W i m H →
      ((Itr lo n).stop i H ∧ Qd H) ∨ ((Itr lo n).go i H ∧ ∃ Nx : Hp → Prop, (∀ H', Nx H' → ∃ m', m' < m ∧ W (i + 1) m' H') ∧ ∀ x H', (Itr lo n).yld i H x H' → g x (wipe σ vs) H' fun σ2 H2 => wipe σ2 vs = wipe σ vs ∧ tt σ2 H2 fun b H3 =>
        if b = true then te σ2 H3 fun y H4 => ∃ acc, H4 D = some (.lst acc) ∧ acc.length < sizeLine ∧ Nx (upd H4 D (.lst (acc ++ [y]))) else Nx H3) := by
  refine ⟨fun i m H => m = n - i ∧ i ≤ n ∧ Pv i H, ⟨n, by simp, Nat.zero_le _, h0⟩, ?_⟩
  rintro i m H ⟨rfl, hi, p⟩
  by_cases hlt : i < n
  · refine .inr ⟨hlt, Pv (i + 1), fun H' p' => ⟨n - (i + 1), by omega, rfl, hlt, p'⟩, fun x H' y => ?_⟩
    obtain ⟨e, y⟩ := y
    subst e y
    exact hs i _ hlt p
  · have e : i = n := by omega
    subst e
    exact .inl ⟨Nat.le_refl _, hd H p⟩
/-- over a list that the block leaves as it is -/
theorem lc_list {K : PySem.W.Frag} {a : Addr} {xs : List V} {g : TG} {tt : TT} {te : TE} {vs : List Nat} {σ : St} {H1 : Hp} {D : Addr} {Qd : Hp → Prop} (Pv : Nat → Hp → Prop) (h0 : Pv 0 (upd H1 D (.lst []))) (hl : ∀ i H, i ≤ xs.length → Pv i H → SqL K H a xs)
    (hs : ∀ i x H, xs[i]? = some x → Pv i H → g x (wipe σ vs) H fun σ2 H2 => wipe σ2 vs = wipe σ vs ∧ tt σ2 H2 fun b H3 =>
      if b = true then te σ2 H3 fun y H4 => ∃ acc, H4 D = some (.lst acc) ∧ acc.length < sizeLine ∧ Pv (i + 1) (upd H4 D (.lst (acc ++ [y]))) else Pv (i + 1) H3) (hd : ∀ H, Pv xs.length H → Qd H) :
    ∃ W : Nat → Nat → Hp → Prop, (∃ m, W 0 m (upd H1 D (.lst []))) ∧ ∀ i m H, W i m H →
      ((Itl K a).stop i H ∧ Qd H) ∨ ((Itl K a).go i H ∧ ∃ Nx : Hp → Prop, (∀ H', Nx H' → ∃ m', m' < m ∧ W (i + 1) m' H') ∧ ∀ x H', (Itl K a).yld i H x H' → g x (wipe σ vs) H' fun σ2 H2 => wipe σ2 vs = wipe σ vs ∧ tt σ2 H2 fun b H3 =>
        if b = true then te σ2 H3 fun y H4 => ∃ acc, H4 D = some (.lst acc) ∧ acc.length < sizeLine ∧ Nx (upd H4 D (.lst (acc ++ [y]))) else Nx H3) := by
  refine ⟨fun i m H => m = xs.length - i ∧ i ≤ xs.length ∧ Pv i H, ⟨xs.length, by simp, Nat.zero_le _, h0⟩, ?_⟩
  rintro i m H ⟨rfl, hi, p⟩
  have q := hl i H hi p
  by_cases hlt : i < xs.length
  · refine .inr ⟨⟨xs, xs[i], q, by simp [hlt]⟩, Pv (i + 1), fun H' p' => ⟨xs.length - (i + 1), by omega, rfl, hlt, p'⟩, fun x H' y => ?_⟩
    obtain ⟨e, y⟩ := y
    subst e
    exact hs i x _ (y xs q) p
  · have e : i = xs.length := by omega
    subst e
    exact .inl ⟨⟨xs, q, Nat.le_refl _⟩, hd H p⟩
/-- over a tuple -/
theorem lc_tup {K : PySem.W.Frag} {a : Addr} {xs : List V} {g : TG} {tt : TT} {te : TE} {vs : List Nat} {σ : St} {H1 : Hp} {D : Addr} {Qd : Hp → Prop} (Pv : Nat → Hp → Prop) (h0 : Pv 0 (upd H1 D (.lst []))) (hl : ∀ i H, i ≤ xs.length → Pv i H → SqT K H a xs)
    (hs : ∀ i x H, xs[i]? = some x → Pv i H → g x (wipe σ vs) H fun σ2 H2 => wipe σ2 vs = wipe σ vs ∧ tt σ2 H2 fun b H3 =>
      if b = true then te σ2 H3 fun y H4 => ∃ acc, H4 D = some (.lst acc) ∧ acc.length < sizeLine ∧ Pv (i + 1) (upd H4 D (.lst (acc ++ [y]))) else Pv (i + 1) H3) (hd : ∀ H, Pv xs.length H → Qd H) :
    ∃ W : Nat → Nat → Hp → Prop, (∃ m, W 0 m (upd H1 D (.lst []))) ∧ ∀ i m H, W i m H →
      ((Itt K a).stop i H ∧ Qd H) ∨ ((Itt K a).go i H ∧ ∃ Nx : Hp → Prop, (∀ H', Nx H' → ∃ m', m' < m ∧ W (i + 1) m' H') ∧ ∀ x H', (Itt K a).yld i H x H' → g x (wipe σ vs) H' fun σ2 H2 => wipe σ2 vs = wipe σ vs ∧ tt σ2 H2 fun b H3 =>
        if b = true then te σ2 H3 fun y H4 => ∃ acc, H4 D = some (.lst acc) ∧ acc.length < sizeLine ∧ Nx (upd H4 D (.lst (acc ++ [y]))) else Nx H3) := by
  refine ⟨fun i m H => m = xs.length - i ∧ i ≤ xs.length ∧ Pv i H, ⟨xs.length, by simp, Nat.zero_le _, h0⟩, ?_⟩
  rintro i m H ⟨rfl, hi, p⟩
  have q := hl i H hi p
  by_cases hlt : i < xs.length
  · refine .inr ⟨⟨xs, xs[i], q, by simp [hlt]⟩, Pv (i + 1), fun H' p' => ⟨xs.length - (i + 1), by omega, rfl, hlt, p'⟩, fun x H' y => ?_⟩
    obtain ⟨e, y⟩ := y
    subst e
    exact hs i x _ (y xs q) p
  · have e : i = xs.length := by omega
    subst e
    exact .inl ⟨⟨xs, q, Nat.le_refl _⟩, hd H p⟩
def blkC (N : List Str) (sc scope : Scope) (own : List (Str × Nat)) : Bool :=
  (match scope.kind with | .function => true | _ => false) && (scope.names.all fun y => decide (scope.names.lookup y.1 = some y.2)) && (own.all fun p => decide (N[p.2]? = some p.1)) &&
    (scope.names.all fun y => match y.2 with
      | .free => (match sc.names.lookup y.1 with | some .cell => true | some .free => true | _ => false)
      | .local => decide (y.1 ∈ own.map (·.1)) || decide (y.1 ∉ N)
      | .cell => decide (y.1 ∈ own.map (·.1)) || decide (y.1 ∉ N)
      | _ => true)
theorem blkOk_by {N : List Str} {sc scope : Scope} {own : List (Str × Nat)} (h : blkC N sc scope own = true) : BlkOk N sc scope own := by
  unfold blkC at h
  simp only [Bool.and_eq_true, List.all_eq_true, decide_eq_true_eq] at h
  obtain ⟨⟨⟨h1, h2⟩, h3⟩, h4⟩ := h
  refine ⟨?_, h2, h3, fun y hy e => ?_, fun y hy e => ?_⟩
  · split at h1
    · assumption
    · cases h1
  · have q := h4 y hy
    simp only [e] at q
    split at q <;> first | exact .inl (by assumption) | exact .inr (by assumption) | cases q
  · have q := h4 y hy
    rcases e with e | e <;> (simp only [e, Bool.or_eq_true, decide_eq_true_eq] at q; exact q)
end L2
namespace L2
open PySem PySem.Spec PyProof.Rows

theorem boot_reversed5 : bootBuiltins "reversed" = some (.type "reversed") := by decide +kernel

section
variable {X : Cx} {pins : List (Addr × Obj)} {σ : St} {H : Hp} {s : Shared} {h' : Heap}
/-- several records of ours have turned -/
theorem Inv.turnedL {t' : Nat} {ch : List Addr} (I : Inv X pins σ H s) (k : ∀ b o, b ∉ ch → s.heap.get? b = some o → h'.get? b = some o) (hf : ∀ b ∈ ch, FpOk X pins H b) : Inv X pins σ H { s with heap := h', toks := t' } := by
  have nit : ∀ b u, H b = some u → b ∉ ch := fun b u e z => by
    have q := (hf b z).1
    rw [q] at e; cases e
  refine I.step (g' := s.gens) (d' := s.drawn) (ch := ch) (fun b hb => ⟨(hf b hb).2.2.2.1, (hf b hb).2.1, (hf b hb).2.2.2.2.1, (hf b hb).2.2.2.2.2⟩) (fun b o _ _ hc e _ => k b o hc e) (fun b o _ _ hc e _ => ⟨o.slots, k b o hc e⟩)
    (fun _ _ _ _ n => n) (fun b o hc e => ⟨o, k b o hc e⟩) (fun _ _ e => e) (fun _ _ _ e => e) (fun b ps e => ⟨#[], by rw [e]; simp⟩) (fun m hm => ?_) (fun b u e => ?_) I.bare
  · obtain ⟨o, es, ep, ho, r⟩ := hm
    exact ⟨o, es, ep, k _ o (fun z => (hf _ z).2.1 rfl) ho, r⟩
  · refine (I.hok b u e).stay (fun c v hc q => k c v ?_ q) (fun _ q => q) fun _ _ q => q
    rcases hc with z | z
    · rw [z]; exact nit b u e
    · exact nit c _ z
/-- .. and one new object is laid -/
theorem Inv.turnedNew {t' : Nat} {ch : List Addr} {T : Addr} {ob : HO} (I : Inv X pins σ H s) (k : ∀ b o, b ∉ ch → s.heap.get? b = some o → h'.get? b = some o) (hf : ∀ b ∈ ch, FpOk X pins H b) (hT : s.heap.objs.size ≤ T)
    (new : ObjOk X.prog X.w (upd H T ob) h' T ob) : Inv X pins σ (upd H T ob) { s with heap := h', toks := t' } := by
  have hn : H T = none := I.hok.fresh hT
  have nit : ∀ b u, H b = some u → b ∉ ch := fun b u e z => by
    have q := (hf b z).1
    rw [q] at e; cases e
  refine I.step (g' := s.gens) (d' := s.drawn) (ch := ch) (fun b hb => ⟨(hf b hb).2.2.2.1, (hf b hb).2.1, (hf b hb).2.2.2.2.1, (hf b hb).2.2.2.2.2⟩) (fun b o _ _ hc e _ => k b o hc e) (fun b o _ _ hc e _ => ⟨o.slots, k b o hc e⟩)
    (fun b o _ e n => ?_) (fun b o hc e => ⟨o, k b o hc e⟩) (fun b xs e => ?_) (fun b o u e => ?_) (fun b ps e => ⟨#[], ?_⟩) (fun m hm => ?_) (fun b u e => ?_) I.bare
  · rw [upd_ne (Nat.ne_of_lt (Nat.lt_of_lt_of_le (Heap.lt_size e) hT))]; exact n
  · rw [upd_ne (ne_of_none e hn)]; exact e
  · rw [upd_ne (ne_of_none e hn)]; exact e
  · rw [upd_ne (ne_of_none e hn), e]; simp
  · obtain ⟨o, es, ep, ho, r⟩ := hm
    exact ⟨o, es, ep, k _ o (fun z => (hf _ z).2.1 rfl) ho, r⟩
  · by_cases hb : b = T
    · subst hb
      rw [upd_same] at e
      cases e
      exact new
    · rw [upd_ne hb] at e
      refine (I.hok b u e).stay (fun c v hc q => k c v ?_ q) (fun c q => by rw [upd_ne (ne_of_none q hn)]; exact q) fun c xs q => by rw [upd_ne (ne_of_none q hn)]; exact q
      rcases hc with z | z
      · rw [z]; exact nit b u e
      · exact nit c _ z

/-! ### locking a thing while a statement runs -/
theorem Inv.lock {d : Addr} {u : HO} (I : Inv X pins σ H s) (h : H d = some u) (mu : Mut (some u)) : ∃ od, Inv X pins σ (upd H d (.frz od u)) s := by
  have x := I.hok d u h
  have ex : ∃ od, s.heap.get? d = some od := by
    cases u with
    | lst xs => obtain ⟨_, _, _, _, e⟩ := x; exact ⟨_, e⟩
    | dK kvs => obtain ⟨_, _, _, _, o, _, _, e, _⟩ := x; exact ⟨o, e⟩
    | dT kvs => obtain ⟨_, _, _, _, o, _, _, e, _⟩ := x; exact ⟨o, e⟩
    | set S n => obtain ⟨o, _, _, _, e, _⟩ := x; exact ⟨o, e⟩
    | ins C dx fs => obtain ⟨_, _, _, e, _⟩ := x; exact ⟨_, e⟩
    | ext φ => obtain ⟨_, ⟨_, e⟩, _⟩ := x; exact ⟨_, e⟩
    | _ => exact False.elim mu
  obtain ⟨od, e⟩ := ex
  have new : ObjOk X.prog X.w (upd H d (.frz od u)) s.heap d (.frz od u) := by
    refine ⟨e, x.stay (fun b v _ q => q) (fun b q => ?_) fun b xs q => ?_⟩
    · rw [upd_ne (fun z => by rw [z, h] at q; cases q; exact mu)]; exact q
    · rw [upd_ne (fun z => by rw [z, h] at q; cases q; exact mu)]; exact q
  exact ⟨od, I.write (x := d) (e := d) (t' := s.toks) (h' := s.heap) (by rw [h]; exact mu) (.inl rfl) (fun b v _ q => q) ⟨od, e⟩ new⟩
theorem Inv.nofrz {d : Addr} {u : HO} (I : Inv X pins σ H s) (h : H d = some u) (mu : Mut (some u)) : ∀ o' u', X.H_0 d ≠ some (.frz o' u') := fun o' u' e => by
  have q := I.base.frzs d o' u' e
  rw [h] at q
  cases q
  exact mu
theorem Inv.unlock {d : Addr} {od : Obj} {u : HO} (I : Inv X pins σ H s) (h : H d = some (.frz od u)) (hn : ∀ o' u', X.H_0 d ≠ some (.frz o' u')) : Inv X pins σ (upd H d u) s := by
  have neH : ∀ b o, H b = some o → (∀ o' u', o ≠ .frz o' u') → b ≠ d := fun b o e hne z => by
    rw [z, h] at e
    cases e
    exact hne _ _ rfl
  have neN : ∀ b, H b = none → b ≠ d := fun b e z => by rw [z, h] at e; cases e
  refine ⟨I.ok, I.os, I.bare, ⟨I.base.keep, I.base.slot, fun b o e n hx => ?_, I.base.there, fun b xs e => ?_, fun b o x e => ?_, fun b ps e => ?_⟩, I.loc, I.cell, ?_, fun x c e => ?_, fun p hp => ?_, fun b o e => ?_, I.len⟩
  · rw [upd_ne (neN b (I.base.free b o e n hx))]; exact I.base.free b o e n hx
  · have q := I.base.tups b xs e
    rw [upd_ne (neH b _ q (fun _ _ z => nomatch z))]; exact q
  · have q := I.base.frzs b o x e
    rw [upd_ne (fun z => by rw [z] at e; exact hn _ _ e)]; exact q
  · obtain ⟨m, q⟩ := I.base.tbls b ps e
    exact ⟨m, by rw [upd_ne (neH b _ q (fun _ _ z => nomatch z))]; exact q⟩
  · rw [upd_ne (neN _ I.free)]; exact I.free
  · rw [upd_ne (neN c (I.freeC x c e))]; exact I.freeC x c e
  · obtain ⟨e, n, r⟩ := I.pin p hp
    exact ⟨e, by rw [upd_ne (neN _ n)]; exact n, r⟩
  · by_cases hb : b = d
    · rw [hb, upd_same] at e
      cases e
      rw [hb]
      obtain ⟨_, x⟩ := I.hok d _ h
      exact x.stay (fun c v _ q => q) (fun c q => by rw [upd_ne (neH c _ q (fun _ _ z => nomatch z))]; exact q) fun c xs q => by rw [upd_ne (neH c _ q (fun _ _ z => nomatch z))]; exact q
    · rw [upd_ne hb] at e
      exact (I.hok b o e).stay (fun c v _ q => q) (fun c q => by rw [upd_ne (neH c _ q (fun _ _ z => nomatch z))]; exact q) fun c xs q => by rw [upd_ne (neH c _ q (fun _ _ z => nomatch z))]; exact q
end
/-- the statement runs while the thing at d is locked (read, not written); d and what stands there are the reading's choice -/
def tLock (t : TS) : TS := fun D σ H => ∃ d u, H d = some u ∧ Mut (some u) ∧ ∀ od, t ⟨fun σ' H' => H' d = some (.frz od u) ∧ D.nx σ' (upd H' d u), fun v H' => H' d = some (.frz od u) ∧ D.rt v (upd H' d u), fun σ' H' => H' d = some (.frz od u) ∧ D.bk σ' (upd H' d u), fun σ' H' => H' d = some (.frz od u) ∧ D.ct σ' (upd H' d u)⟩ σ (upd H d (.frz od u))
def tLockE (t : TE) : TE := fun σ H Q => ∃ d u, H d = some u ∧ Mut (some u) ∧ ∀ od, t σ (upd H d (.frz od u)) fun v H' => H' d = some (.frz od u) ∧ Q v (upd H' d u)
section
variable {X : Cx}
theorem ps_lock {st : Stmt} {t : TS} (h : PS X st t) : PS X st (tLock t) := by
  intro pins s σ H D I hw
  obtain ⟨d, u, hd, mu, hw⟩ := hw
  obtain ⟨od, I1⟩ := I.lock hd mu
  refine thn (h pins s σ _ _ I1 (hw od)) fun f s1 q => ?_
  cases f with
  | next => obtain ⟨σ', H', I2, e, q⟩ := q; exact ⟨σ', _, I2.unlock e (I.nofrz hd mu), q⟩
  | brk => obtain ⟨σ', H', I2, e, q⟩ := q; exact ⟨σ', _, I2.unlock e (I.nofrz hd mu), q⟩
  | cont => obtain ⟨σ', H', I2, e, q⟩ := q; exact ⟨σ', _, I2.unlock e (I.nofrz hd mu), q⟩
  | ret v => obtain ⟨x, σ', H', I2, r, e, q⟩ := q; exact ⟨x, σ', _, I2.unlock e (I.nofrz hd mu), r, q⟩
theorem pe_lock {e : Expr} {t : TE} (h : PE X e t) : PE X e (tLockE t) := by
  intro pins s σ H Q I hw
  obtain ⟨d, u, hd, mu, hw⟩ := hw
  obtain ⟨od, I1⟩ := I.lock hd mu
  refine thn (h pins s σ _ _ I1 (hw od)) fun v s1 ⟨x, H1, I2, r, e2, q⟩ => ?_
  exact ⟨x, _, I2.unlock e2 (I.nofrz hd mu), r, q⟩

/-! ### one iterator just laid -/
theorem pi_one {tg : Expr} {pins : List (Addr × Obj)} {σ : St} {H : Hp} {s : Shared} {R : It → Hp → Prop} {J : It} {tn : Nat → Heap → Prop} {tk : Nat} (I : Inv X pins σ H s) (o : Obj)
    (T : Turn X.prog X.w X.K tg J [s.heap.objs.size] s.heap.objs.size tn) (st : tn 0 (s.heap.push o)) (q : R J H) : PIE X pins σ tg R (.ref s.heap.objs.size) { s with heap := s.heap.push o, toks := tk } := by
  refine ⟨s.heap.objs.size, [s.heap.objs.size], tn, J, H, rfl, I.kept fun b ob e => Heap.get?_push_of_some _ e, T, st, fun b hb => ?_, q⟩
  have e : b = s.heap.objs.size := by simpa using hb
  subst e
  exact I.fpOk (Nat.le_refl _) (I.hok.fresh (Nat.le_refl _))
end

/-! ### zip(list, list) -/
theorem boot_zip5 : bootBuiltins "zip" = some (.type "zip") := by decide +kernel
/-- the lists at a and b as they stand at each turn, the items in new pairs -/
def Itz (K : PySem.W.Frag) (a b : Addr) : It :=
  ⟨fun i H => ∃ (xs ys : List V) (x y : V), SqL K H a xs ∧ SqL K H b ys ∧ xs[i]? = some x ∧ ys[i]? = some y,
    fun i H v H' => ∃ T x y, v = .ref T ∧ H T = none ∧ H' = upd H T (.tup [x, y]) ∧ (∀ xs, SqL K H a xs → xs[i]? = some x) ∧ ∀ ys, SqL K H b ys → ys[i]? = some y,
    fun i H => ∃ xs ys : List V, SqL K H a xs ∧ SqL K H b ys ∧ (xs.length ≤ i ∨ ys.length ≤ i)⟩
theorem turn_zip {P : Program} {w : World} {K : PySem.W.Frag} {elts : List Expr} {kk : Nat} {tpos : Pos} {a b z TI TO i1 i2 : Addr} (D : ZipApart z TI TO i1 i2 a b) :
    Turn P w K (.Tuple elts kk tpos) (Itz K a b) [z, TI, TO, i1, i2] z (fun i h => IsZip h z TI TO .none ∧ IsPair h TI (.ref i1) (.ref i2) ∧ (∃ x y, IsPair h TO x y) ∧ h.IsListIter i1 a i ∧ h.IsListIter i2 b i) where
  mem := by simp
  obj := fun i h st c hc => by
    obtain ⟨hz, hTI, ⟨x, y, hTO⟩, ⟨o1, e1, _, d1⟩, ⟨o2, e2, _, d2⟩⟩ := st
    have e' : c = z ∨ c = TI ∨ c = TO ∨ c = i1 ∨ c = i2 := by simpa using hc
    rcases e' with q | q | q | q | q
    · rw [q]; exact ⟨_, hz, fun v q => nomatch q⟩
    · rw [q]; exact ⟨_, hTI, fun v q => nomatch q⟩
    · rw [q]; exact ⟨_, hTO, fun v q => nomatch q⟩
    · rw [q]; exact ⟨o1, e1, fun v q => by rw [d1] at q; cases q⟩
    · rw [q]; exact ⟨o2, e2, fun v q => by rw [d2] at q; cases q⟩
  keep := fun i h h' st k => by
    obtain ⟨hz, hTI, ⟨x, y, hTO⟩, h1, h2⟩ := st
    exact ⟨k z (by simp) _ hz, k TI (by simp) _ hTI, ⟨x, y, k TO (by simp) _ hTO⟩, h1.at fun o q => k i1 (by simp) o q, h2.at fun o q => k i2 (by simp) o q⟩
  item := by
    intro X hP hw hK hc i pins s σ H E I hf st hg
    subst hP hw hK
    obtain ⟨hz, hTI, ⟨x0, y0, hTO⟩, h1, h2⟩ := st
    obtain ⟨xs, ys, x, y, hqx, hqy, hx, hy⟩ := hg
    obtain ⟨its, rv, p, _⟩ := I.list hqx
    obtain ⟨its2, rv2, p2, _⟩ := I.list hqy
    obtain ⟨u, hu, ru⟩ := rv.get hx
    obtain ⟨u2, hu2, ru2⟩ := rv2.get hy
    have hzl : z < s.heap.objs.size := Heap.lt_size hz
    refine wpAny_pyNext_zip_item D hz hTI hTO h1 h2 p.isList p2.isList (x := u) (y := u2) (by simpa using hu) (by simpa using hu2) fun h' z' TO' h1' h2' hT hsz hk => ?_
    refine ⟨_, rfl, wpAny_letOwnedTupleGo_zip (s := { s with heap := h' }) z' fun h'' z'' sb => ?_⟩
    have hT2 : h''.get? s.heap.objs.size = some { cls := .type "tuple", data := .seq #[u, u2] } := (sb.2 _ (Nat.ne_of_gt hzl)).trans hT
    have new : ObjOk X.prog X.w (upd H s.heap.objs.size (.tup [x, y])) h'' s.heap.objs.size (.tup [x, y]) :=
      ⟨by show 2 ≤ sizeLine; decide, [u, u2], .cons ru (.cons ru2 .nil), ⟨_, hT2, rfl, _, rfl⟩⟩
    have I1 : Inv X pins σ (upd H s.heap.objs.size (.tup [x, y])) { s with heap := h'' } :=
      I.turnedNew (t' := s.toks) (ch := [z, TI, TO, i1, i2]) (fun c o hb q => (sb.2 c (fun q' => hb (by simp [q']))).trans (hk c o (fun q' => hb (by simp [q'])) (fun q' => hb (by simp [q'])) (fun q' => hb (by simp [q'])) (fun q' => hb (by simp [q'])) q)) hf (Nat.le_refl _) new
    refine ⟨.ref s.heap.objs.size, _, I1, rfl, ⟨_, x, y, rfl, I.hok.fresh (Nat.le_refl _), rfl, fun l hl => by rw [I.list_inj hl hqx]; exact hx, fun l hl => by rw [I.list_inj hl hqy]; exact hy⟩, ⟨z'', ?_, ⟨u, u2, ?_⟩, ?_, ?_⟩, fun c hcm => ?_⟩
    · exact (sb.2 _ D.TIz).trans (hk _ _ D.TIz D.TITO D.TIi1 D.TIi2 hTI)
    · exact (sb.2 _ D.TOz).trans TO'
    · exact h1'.at fun o q => (sb.2 _ D.i1z).trans q
    · exact h2'.at fun o q => (sb.2 _ D.i2z).trans q
    · have hlt : c < s.heap.objs.size := by
        have e' : c = z ∨ c = TI ∨ c = TO ∨ c = i1 ∨ c = i2 := by simpa using hcm
        rcases e' with q | q | q | q | q
        · rw [q]; exact hzl
        · rw [q]; exact Heap.lt_size hTI
        · rw [q]; exact Heap.lt_size hTO
        · rw [q]; obtain ⟨_, e1, _⟩ := h1; exact Heap.lt_size e1
        · rw [q]; obtain ⟨_, e2, _⟩ := h2; exact Heap.lt_size e2
      rw [upd_ne (Nat.ne_of_lt hlt)]
      exact (hf c hcm).1
  done := by
    intro X hP hw hK hc i pins s σ H E I hf st hg
    subst hP hw hK
    obtain ⟨hz, hTI, ⟨x0, y0, hTO⟩, h1, h2⟩ := st
    obtain ⟨xs, ys, hqx, hqy, hend⟩ := hg
    obtain ⟨its, rv, p, _⟩ := I.list hqx
    obtain ⟨its2, rv2, p2, _⟩ := I.list hqy
    have l1 := rv.length
    have l2 := rv2.length
    have he : its.toArray[i]? = none ∨ its2.toArray[i]? = none := by
      rcases hend with q | q
      · exact .inl (by simp; omega)
      · exact .inr (by simp; omega)
    exact wpAny_pyNext_zip_end (I.ok.hd hc) D hz hTI hTO h1 h2 p.isList p2.isList he fun h' hk => ⟨rfl, I.turnedL (t' := s.toks) (ch := [z, TI, TO, i1, i2]) (fun c o hb q =>
      hk c o (fun q' => hb (by simp [q'])) (fun q' => hb (by simp [q'])) (fun q' => hb (by simp [q'])) (fun q' => hb (by simp [q'])) q) hf⟩
  self := fun A i s Q E st h => wpAny_pyIter_zip st.1 h
def iZip (K : PySem.W.Frag) (ta : TA) : TI := fun σ H R => ta σ H fun vs H1 => ∃ a b xs ys, vs = [.ref a, .ref b] ∧ SqL K H1 a xs ∧ SqL K H1 b ys ∧ R (Itz K a b) H1
theorem pi_zip {X : Cx} {e e2 : Expr} {ta : TA} {p pos tpos : Pos} {elts : List Expr} {kk : Nat} (hg : Gl X "zip") (hm : X.mg "zip" = none) (ha : PA X [e, e2] ta)
    (hs : starEach [e, e2] X.env = (false, eval e X.env) :: starEach [e2] X.env := by rfl) (hpl : (backTo pos (starEach [e2] X.env)).any (·.1) = false := by rfl) :
    PI X (.Tuple elts kk tpos) (.Call (.Name "zip" p) [e, e2] [] pos) (iZip X.K ta) := by
  intro pins s σ H R I h
  refine Call_ (ld_blt I hg hm boot_zip5 (PyProof.Rows.callWith_type1 (thn (ha pos pins s σ H _ I h) fun us s1 ⟨vs, H1, I1, r1, q1⟩ => ?_) hs hpl))
  obtain ⟨a, b, xs, ys, ex, hqx, hqy, q⟩ := q1
  subst ex
  cases r1 with
  | cons r rr =>
    cases rr with
    | cons r' rr =>
      cases rr
      cases r
      cases r'
      obtain ⟨its, rv, p1, _⟩ := I1.list hqx
      obtain ⟨its2, rv2, p2, _⟩ := I1.list hqy
      have la : a < s1.heap.objs.size := p1.lt
      have lb : b < s1.heap.objs.size := p2.lt
      refine call_zip_2 p1.isList p2.isList fun h' hz hTI hTO h1 h2 hsz hk => wpAny_pyIter_zip hz ?_
      have I2 : Inv X pins σ H1 { s1 with heap := h' } := I1.kept (t' := s1.toks) hk
      refine ⟨s1.heap.objs.size + 4, [s1.heap.objs.size + 4, s1.heap.objs.size + 2, s1.heap.objs.size + 3, s1.heap.objs.size, s1.heap.objs.size + 1], _, _, H1, rfl, I2, turn_zip (PySem.W.ktu_apart s1.heap.objs.size a b la lb), ⟨hz, hTI, ⟨_, _, hTO⟩, h1, h2⟩, fun c hcm => ?_, q⟩
      have e' : c = s1.heap.objs.size + 4 ∨ c = s1.heap.objs.size + 2 ∨ c = s1.heap.objs.size + 3 ∨ c = s1.heap.objs.size ∨ c = s1.heap.objs.size + 1 := by simpa using hcm
      have hle : s1.heap.objs.size ≤ c := by
        rcases e' with z | z | z | z | z
        · rw [z]; exact Nat.le_add_right _ _
        · rw [z]; exact Nat.le_add_right _ _
        · rw [z]; exact Nat.le_add_right _ _
        · rw [z]; exact Nat.le_refl _
        · rw [z]; exact Nat.le_add_right _ _
      exact I1.fpOk hle (I1.hok.fresh hle)
end L2
section
set_option Elab.async false
set_option linter.all false
set_option maxRecDepth 100000
set_option maxHeartbeats 2000000
namespace L2
open PySem PySem.Spec PyProof.Rows
open PySem.W (WData Codec OpenSpec Well WellAll ReadsW ReadsAllW)
/-! ### an answer as data -/
mutual
/-- x stands for the datum d, lists and tuples all the way -/
inductive Dw (K : PySem.W.Frag) (H : Hp) : V → WData → Prop
  | non : Dw K H .non .none
  | bl (b : Bool) : Dw K H (.bl b) (.bool b)
  | int (i : Int) : Dw K H (.int i) (.int i)
  | str (x : Str) : Dw K H (.str x) (.str x)
  | byt (b : Array UInt8) : Dw K H (.byt b) (.bytes b.toList)
  | lst {a : Addr} {xs : List V} {ds : List WData} : SqL K H a xs → DwAll K H xs ds → Dw K H (.ref a) (.list ds)
  | tup {a : Addr} {xs : List V} {ds : List WData} : SqT K H a xs → DwAll K H xs ds → Dw K H (.ref a) (.tuple ds)
inductive DwAll (K : PySem.W.Frag) (H : Hp) : List V → List WData → Prop
  | nil : DwAll K H [] []
  | cons {v : V} {vs : List V} {d : WData} {ds : List WData} : Dw K H v d → DwAll K H vs ds → DwAll K H (v :: vs) (d :: ds)
end
theorem dw_ints {K : PySem.W.Frag} {H : Hp} : ∀ ns : List Int, DwAll K H (ns.map V.int) (ns.map WData.int)
  | [] => .nil
  | n :: r => .cons (.int n) (dw_ints r)
theorem ints_dw {K : PySem.W.Frag} {H : Hp} : ∀ (ns : List Int) (xs : List V), DwAll K H xs (ns.map WData.int) → xs = ns.map V.int
  | [], xs, h => by
    cases h
    rfl
  | n :: r, xs, h => by
    cases h with
    | cons h1 h2 =>
      cases h1
      rw [ints_dw r _ h2] <;> rfl
section
variable {P : Program} {w : World} {K : PySem.W.Frag} {H : Hp} {h : Heap} {R : PySem.W.WRecords} {cl : Str → Option Addr}
theorem sqL_at {a : Addr} {xs : List V} (hok : HOk P w H h) (KX : K.In h) (q : SqL K H a xs) : ∃ (its : List Value) (o : Obj) (n : Nat), Vals xs its ∧ h.get? a = some o ∧ o.cls = .type "list" ∧ o.data = .seq its.toArray n := by
  rcases q with q | ⟨o, its, n, e, hc, _, hd, _, hv⟩
  · obtain ⟨_, its, n, hv, e⟩ := (show ObjOk P w H h a (.lst xs) from q.ok hok)
    exact ⟨its, _, n, hv, e, rfl, rfl⟩
  · exact ⟨its.toList, o, n, hv, KX _ _ e, hc, by simp [hd]⟩
theorem sqT_at {a : Addr} {xs : List V} (hok : HOk P w H h) (KX : K.In h) (q : SqT K H a xs) : ∃ (its : List Value) (o : Obj) (n : Nat), Vals xs its ∧ h.get? a = some o ∧ o.cls = .type "tuple" ∧ o.data = .seq its.toArray n := by
  rcases q with q | ⟨o, its, n, e, hc, hd, _, hv⟩
  · obtain ⟨_, its, hv, o, e, hc, n, hd⟩ := (show ObjOk P w H h a (.tup xs) from q.ok hok)
    exact ⟨its, o, n, hv, e, hc, hd⟩
  · exact ⟨its.toList, o, n, hv, KX _ _ e, hc, by simp [hd]⟩
mutual
theorem Dw.reads (hok : HOk P w H h) (KX : K.In h) : ∀ (d : WData) (v : V) (u : Value), Dw K H v d → RelV v u → ∃ as, ReadsW R cl h u d as
  | .none, _, _, x, r => by
    cases x
    cases r
    exact ⟨_, ReadsW.none⟩
  | .bool b, _, _, x, r => by
    cases x
    cases r
    exact ⟨_, ReadsW.bool b⟩
  | .int i, _, _, x, r => by
    cases x
    obtain ⟨t, rfl⟩ := r
    exact ⟨_, ReadsW.int i t⟩
  | .str s, _, _, x, r => by
    cases x
    obtain ⟨t, rfl⟩ := r
    exact ⟨_, ReadsW.str s t⟩
  | .bytes b, _, _, x, r => by
    cases x
    obtain ⟨t, rfl⟩ := r
    exact ⟨_, ReadsW.bytes _ t⟩
  | .list ds, _, _, x, r => by
    cases x with
    | lst hs ha =>
      cases r
      obtain ⟨its, o, n, rv, ho, hc, hd⟩ := sqL_at hok KX hs
      obtain ⟨as, hr⟩ := Dw.readsAll hok KX ds _ its ha rv
      exact ⟨_, ReadsW.list ho hc hd hr⟩
  | .tuple ds, _, _, x, r => by
    cases x with
    | tup hs ha =>
      cases r
      obtain ⟨its, o, n, rv, ho, hc, hd⟩ := sqT_at hok KX hs
      obtain ⟨as, hr⟩ := Dw.readsAll hok KX ds _ its ha rv
      exact ⟨_, ReadsW.tuple ho hc hd hr⟩
  | .float _, _, _, x, _ => by cases x
  | .dict _, _, _, x, _ => by cases x
  | .bytearray _, _, _, x, _ => by cases x
  | .set _, _, _, x, _ => by cases x
  | .frozenset _, _, _, x, _ => by cases x
  | .obj _ _, _, _, x, _ => by cases x
theorem Dw.readsAll (hok : HOk P w H h) (KX : K.In h) : ∀ (ds : List WData) (vs : List V) (us : List Value), DwAll K H vs ds → Vals vs us → ∃ as, ReadsAllW R cl h us ds as
  | [], _, _, x, r => by
    cases x
    cases r
    exact ⟨_, ReadsAllW.nil⟩
  | d :: ds, _, _, x, r => by
    cases x with
    | cons h1 h2 =>
      cases r with
      | cons r1 r2 =>
        obtain ⟨as, q1⟩ := Dw.reads hok KX d _ _ h1 r1
        obtain ⟨bs, q2⟩ := Dw.readsAll hok KX ds _ _ h2 r2
        exact ⟨_, ReadsAllW.cons q1 q2⟩
end
end
/-! ### the arguments -/
mutual
/-- data that a codec tells -/
def plW : WData → Bool
  | .none => true
  | .bool _ => true
  | .int _ => true
  | .str _ => true
  | .bytes _ => true
  | .list xs => plWs xs
  | .tuple xs => plWs xs
  | _ => false
def plWs : List WData → Bool
  | [] => true
  | x :: r => plW x && plWs r
end
theorem plWs_map {α : Type} {f : α → WData} (h : ∀ a, plW (f a) = true) : ∀ l : List α, plWs (l.map f) = true
  | [] => rfl
  | x :: r => by
    show (plW (f x) && plWs (r.map f)) = true
    rw [h x, plWs_map h r] <;> rfl
theorem pl_enc : ∀ (c : Codec) (a : c.denote), plW (c.enc a) = true
  | .unit, _ => rfl
  | .bool, _ => rfl
  | .int _ _, _ => rfl
  | .nat _ _, _ => rfl
  | .u8, _ => rfl
  | .bytes _ _, _ => rfl
  | .text _ _ _ _, _ => rfl
  | .list _ _ c, a => plWs_map (fun x => pl_enc c x) a
  | .pair c d, a => by
    show (plW (c.enc a.1) && (plW (d.enc a.2) && true)) = true
    rw [pl_enc c a.1, pl_enc d a.2] <;> rfl
  | .triple c d e, a => by
    show (plW (c.enc a.1) && (plW (d.enc a.2.1) && (plW (e.enc a.2.2) && true))) = true
    rw [pl_enc c a.1, pl_enc d a.2.1, pl_enc e a.2.2] <;> rfl
  | .option c, none => rfl
  | .option c, some x => pl_enc c x
theorem pl_encAll : ∀ (cs : List Codec) (a : Codec.denoteAll cs), plWs (Codec.encAll cs a) = true
  | [], _ => rfl
  | c :: cs, a => by
    show (plW (c.enc a.1) && plWs (Codec.encAll cs a.2)) = true
    rw [pl_enc c a.1, pl_encAll cs a.2] <;> rfl
theorem weight_mem : ∀ {xs : List WData} {d : WData}, d ∈ xs → d.weight ≤ WData.weightAll xs
  | [], d, h => absurd h (by simp)
  | x :: r, d, h => by
    show d.weight ≤ x.weight + 1 + WData.weightAll r
    rcases List.mem_cons.mp h with e | m
    · rw [e]
      omega
    · have z := weight_mem m
      omega
def toV : Value → V
  | .none => .non
  | .bool b => .bl b
  | .int i _ => .int i
  | .str x _ => .str x
  | .bytes b _ => .byt b
  | .ref a => .ref a
  | _ => .non
/-- a value of the arguments, its objects among A -/
def OkU (A : List Addr) : Value → Prop
  | .none => True
  | .bool _ => True
  | .int _ _ => True
  | .str _ _ => True
  | .bytes _ _ => True
  | .ref a => a ∈ A
  | _ => False
theorem OkU.mono {A B : List Addr} (h : ∀ a ∈ A, a ∈ B) : ∀ {u : Value}, OkU A u → OkU B u := fun {u} x => by
  cases u with
  | ref a => exact h a x
  | none => trivial
  | bool b => trivial
  | int i t => trivial
  | str s t => trivial
  | bytes b t => trivial
  | _ => exact False.elim x
theorem relV_toV {A : List Addr} {u : Value} (x : OkU A u) : RelV (toV u) u := by
  cases u with
  | ref a => rfl
  | none => rfl
  | bool b => rfl
  | int i t => exact ⟨t, rfl⟩
  | str s t => exact ⟨t, rfl⟩
  | bytes b t => exact ⟨t, rfl⟩
  | _ => exact False.elim x
theorem vals_toV {A : List Addr} : ∀ {vs : List Value}, (∀ u ∈ vs, OkU A u) → Vals (vs.map toV) vs
  | [], _ => .nil
  | u :: r, h => .cons (relV_toV (h u (List.mem_cons_self ..))) (vals_toV fun x hx => h x (List.mem_cons_of_mem _ hx))
/-- an object of the arguments -/
def ArgOb (h : Heap) (A : List Addr) (a : Addr) : Prop := ∃ vs : List Value, vs.length ≤ sizeLine ∧ (∀ u ∈ vs, OkU A u) ∧
  (h.get? a = some { cls := .type "list", data := .seq vs.toArray } ∨ h.get? a = some { cls := .type "tuple", data := .seq vs.toArray })
theorem ArgOb.mono {h : Heap} {A B : List Addr} {a : Addr} (k : ∀ a ∈ A, a ∈ B) (x : ArgOb h A a) : ArgOb h B a := by
  obtain ⟨vs, h1, h2, h3⟩ := x
  exact ⟨vs, h1, fun u hu => (h2 u hu).mono k, h3⟩
theorem wellAll_len {P : Params} {h : Heap} : ∀ {vs : List Value} {ds : List WData}, WellAll P h vs ds → vs.length = ds.length
  | _, _, .nil => rfl
  | _, _, .cons _ b => by
    show _ + 1 = _ + 1
    rw [wellAll_len b]
theorem well_list {P : Params} {h : Heap} {v : Value} {ds : List WData} (x : Well P h v (.list ds)) : ∃ (a : Addr) (vs : List Value), v = .ref a ∧ h.get? a = some { cls := .type "list", data := .seq vs.toArray } ∧ WellAll P h vs ds := by
  cases x with
  | list ho hall => exact ⟨_, _, rfl, ho, hall⟩
theorem well_tuple {P : Params} {h : Heap} {v : Value} {ds : List WData} (x : Well P h v (.tuple ds)) : ∃ (a : Addr) (vs : List Value), v = .ref a ∧ h.get? a = some { cls := .type "tuple", data := .seq vs.toArray } ∧ WellAll P h vs ds := by
  cases x with
  | tuple ho hall => exact ⟨_, _, rfl, ho, hall⟩
theorem well_cons {P : Params} {h : Heap} {us : List Value} {d : WData} {ds : List WData} (x : WellAll P h us (d :: ds)) : ∃ (v : Value) (vs : List Value), us = v :: vs ∧ Well P h v d ∧ WellAll P h vs ds := by
  cases x with
  | cons a b => exact ⟨_, _, rfl, a, b⟩
theorem line_of {n : Nat} (h : n ≤ 1048576) : n ≤ sizeLine := Nat.le_trans h (by decide)
section
variable {P : Params} {h : Heap}
mutual
theorem area_one : ∀ (d : WData) (v : Value), Well P h v d → plW d = true → d.weight ≤ 1048576 → ∃ A : List Addr, OkU A v ∧ ∀ a ∈ A, ArgOb h A a
  | .none, _, x, _, _ => by
    cases x
    exact ⟨[], trivial, fun a m => absurd m (by simp)⟩
  | .bool b, _, x, _, _ => by
    cases x
    exact ⟨[], trivial, fun a m => absurd m (by simp)⟩
  | .int i, _, x, _, _ => by
    cases x
    exact ⟨[], trivial, fun a m => absurd m (by simp)⟩
  | .str s, _, x, _, _ => by
    cases x
    exact ⟨[], trivial, fun a m => absurd m (by simp)⟩
  | .bytes b, _, x, _, _ => by
    cases x
    exact ⟨[], trivial, fun a m => absurd m (by simp)⟩
  | .list ds, _, x, p, z => by
    obtain ⟨a, vs, rfl, ho, hall⟩ := well_list x
    have z2 : WData.weightAll ds ≤ 1048576 := z
    obtain ⟨A, h1, h2⟩ := area_all ds _ hall p fun d hd => Nat.le_trans (weight_mem hd) z2
    have k : ∀ b ∈ A, b ∈ a :: A := fun b hb => List.mem_cons_of_mem _ hb
    refine ⟨a :: A, List.mem_cons_self .., fun b hb => ?_⟩
    rcases List.mem_cons.mp hb with e | m
    · rw [e]
      exact ⟨vs, line_of (by rw [wellAll_len hall]; exact Nat.le_trans (PySem.W.length_le_weightAllW ds) z2), fun u hu => (h1 u hu).mono k, .inl ho⟩
    · exact (h2 b m).mono k
  | .tuple ds, _, x, p, z => by
    obtain ⟨a, vs, rfl, ho, hall⟩ := well_tuple x
    have z2 : WData.weightAll ds ≤ 1048576 := z
    obtain ⟨A, h1, h2⟩ := area_all ds _ hall p fun d hd => Nat.le_trans (weight_mem hd) z2
    have k : ∀ b ∈ A, b ∈ a :: A := fun b hb => List.mem_cons_of_mem _ hb
    refine ⟨a :: A, List.mem_cons_self .., fun b hb => ?_⟩
    rcases List.mem_cons.mp hb with e | m
    · rw [e]
      exact ⟨vs, line_of (by rw [wellAll_len hall]; exact Nat.le_trans (PySem.W.length_le_weightAllW ds) z2), fun u hu => (h1 u hu).mono k, .inr ho⟩
    · exact (h2 b m).mono k
  | .float _, _, _, p, _ => Bool.noConfusion (show false = true from p)
  | .dict _, _, _, p, _ => Bool.noConfusion (show false = true from p)
  | .bytearray _, _, _, p, _ => Bool.noConfusion (show false = true from p)
  | .set _, _, _, p, _ => Bool.noConfusion (show false = true from p)
  | .frozenset _, _, _, p, _ => Bool.noConfusion (show false = true from p)
  | .obj _ _, _, _, p, _ => Bool.noConfusion (show false = true from p)
theorem area_all : ∀ (ds : List WData) (vs : List Value), WellAll P h vs ds → plWs ds = true → (∀ d ∈ ds, d.weight ≤ 1048576) → ∃ A : List Addr, (∀ u ∈ vs, OkU A u) ∧ ∀ a ∈ A, ArgOb h A a
  | [], _, x, _, _ => by
    cases x
    exact ⟨[], fun u m => absurd m (by simp), fun a m => absurd m (by simp)⟩
  | d :: ds, _, x, p, z => by
    obtain ⟨v, vs, rfl, x1, x2⟩ := well_cons x
    have q : plW d = true ∧ plWs ds = true := Bool.and_eq_true_iff.mp p
    obtain ⟨A, a1, a2⟩ := area_one d v x1 q.1 (z d (List.mem_cons_self ..))
    obtain ⟨B, b1, b2⟩ := area_all ds vs x2 q.2 fun e he => z e (List.mem_cons_of_mem _ he)
    have kA : ∀ b ∈ A, b ∈ A ++ B := fun b hb => List.mem_append.mpr (.inl hb)
    have kB : ∀ b ∈ B, b ∈ A ++ B := fun b hb => List.mem_append.mpr (.inr hb)
    refine ⟨A ++ B, fun u hu => ?_, fun b hb => ?_⟩
    · rcases List.mem_cons.mp hu with e | m
      · rw [e]
        exact a1.mono kA
      · exact (b1 u m).mono kB
    · rcases List.mem_append.mp hb with m | m
      · exact (a2 b m).mono kA
      · exact (b2 b m).mono kB
end
end
/-- what is tracked of an argument's object -/
def hoOf (o : Obj) : Option HO := match o.data with
  | .seq vs _ => if (o.cls == Value.type "list") = true then some (.frz o (.lst (vs.toList.map toV))) else some (.frz o (.tup (vs.toList.map toV)))
  | _ => none
def argH (K : PySem.W.Frag) (h : Heap) (A : List Addr) : Hp := fun b => if b ∈ A then (if (K.lookup b).isNone = true then (h.get? b).bind hoOf else none) else none
/-- nothing is tracked but what is known to the object -/
def OnlyF (H : Hp) : Prop := ∀ b, H b = none ∨ ∃ o u, H b = some (.frz o u)
theorem hoOf_lst (vs : List Value) : hoOf { cls := .type "list", data := .seq vs.toArray } = some (.frz { cls := .type "list", data := .seq vs.toArray } (.lst (vs.map toV))) := by
  show (if (Value.type "list" == Value.type "list") = true then some (HO.frz { cls := .type "list", data := .seq vs.toArray } (.lst (vs.toArray.toList.map toV))) else some (HO.frz { cls := .type "list", data := .seq vs.toArray } (.tup (vs.toArray.toList.map toV)))) = _
  rw [if_pos (beq_self_eq_true _)]
theorem hoOf_tup (vs : List Value) : hoOf { cls := .type "tuple", data := .seq vs.toArray } = some (.frz { cls := .type "tuple", data := .seq vs.toArray } (.tup (vs.map toV))) := by
  show (if (Value.type "tuple" == Value.type "list") = true then some (HO.frz { cls := .type "tuple", data := .seq vs.toArray } (.lst (vs.toArray.toList.map toV))) else some (HO.frz { cls := .type "tuple", data := .seq vs.toArray } (.tup (vs.toArray.toList.map toV)))) = _
  rw [if_neg (by decide)]
section
variable {P : Program} {w : World} {K : PySem.W.Frag} {h : Heap} {A : List Addr}
theorem argH_at {b : Addr} {o : Obj} (hb : b ∈ A) (hk : K.lookup b = none) (e : h.get? b = some o) : argH K h A b = hoOf o := by
  unfold argH
  rw [if_pos hb, hk, if_pos (show (none : Option Obj).isNone = true from rfl), e] <;> rfl
theorem of_argH {b : Addr} {u : HO} (q : argH K h A b = some u) : b ∈ A ∧ K.lookup b = none := by
  unfold argH at q
  by_cases hb : b ∈ A
  · rw [if_pos hb] at q
    cases hk : K.lookup b with
    | none => exact ⟨hb, rfl⟩
    | some o =>
      rw [hk, if_neg (by simp)] at q
      cases q
  · rw [if_neg hb] at q
    cases q
/-- what stands tracked -/
theorem argH_is (ar : ∀ a ∈ A, ArgOb h A a) {b : Addr} {u : HO} (q : argH K h A b = some u) : K.lookup b = none ∧ ∃ vs : List Value, vs.length ≤ sizeLine ∧ (∀ u ∈ vs, OkU A u) ∧
    ((h.get? b = some { cls := .type "list", data := .seq vs.toArray } ∧ u = .frz { cls := .type "list", data := .seq vs.toArray } (.lst (vs.map toV))) ∨
     (h.get? b = some { cls := .type "tuple", data := .seq vs.toArray } ∧ u = .frz { cls := .type "tuple", data := .seq vs.toArray } (.tup (vs.map toV)))) := by
  obtain ⟨hb, hk⟩ := of_argH q
  obtain ⟨vs, h1, h2, h3⟩ := ar b hb
  refine ⟨hk, vs, h1, h2, ?_⟩
  rcases h3 with e | e
  · rw [argH_at hb hk e, hoOf_lst] at q
    exact .inl ⟨e, (Option.some.inj q).symm⟩
  · rw [argH_at hb hk e, hoOf_tup] at q
    exact .inr ⟨e, (Option.some.inj q).symm⟩
theorem argH_only (ar : ∀ a ∈ A, ArgOb h A a) : OnlyF (argH K h A) := fun b => by
  cases q : argH K h A b with
  | none => exact .inl rfl
  | some u =>
    obtain ⟨_, vs, _, _, ⟨_, e⟩ | ⟨_, e⟩⟩ := argH_is ar q
    · exact .inr ⟨_, _, by rw [e]⟩
    · exact .inr ⟨_, _, by rw [e]⟩
theorem argH_ok (ar : ∀ a ∈ A, ArgOb h A a) : HOk P w (argH K h A) h := fun b u q => by
  obtain ⟨_, vs, h1, h2, ⟨e, rfl⟩ | ⟨e, rfl⟩⟩ := argH_is ar q
  · exact ⟨e, by rw [List.length_map]; exact h1, vs, _, vals_toV h2, e⟩
  · exact ⟨e, by rw [List.length_map]; exact h1, vs, vals_toV h2, _, e, rfl, _, rfl⟩
theorem seq_inj {c c' : Value} {vs us : List Value} (e : (some { cls := c, data := .seq vs.toArray } : Option Obj) = some { cls := c', data := .seq us.toArray }) : c = c' ∧ vs = us := by
  have e1 := Option.some.inj e
  have e2 : c = c' := congrArg Obj.cls e1
  have e3 : Data.seq vs.toArray = Data.seq us.toArray := congrArg Obj.data e1
  injection e3 with e4
  refine ⟨e2, ?_⟩
  have e5 := congrArg Array.toList e4
  simpa using e5
/-- a list argument -/
theorem argL (KX : K.In h) (ar : ∀ a ∈ A, ArgOb h A a) {a : Addr} {vs : List Value} (ha : a ∈ A) (e : h.get? a = some { cls := .type "list", data := .seq vs.toArray }) : (∀ u ∈ vs, OkU A u) ∧ SqL K (argH K h A) a (vs.map toV) := by
  obtain ⟨us, h1, h2, h3⟩ := ar a ha
  have hu : us = vs := by
    rcases h3 with q | q
    · rw [e] at q
      exact (seq_inj q).2.symm
    · rw [e] at q
      exact absurd (Value.type.inj (seq_inj q).1) (by decide)
  subst hu
  refine ⟨h2, ?_⟩
  cases hk : K.lookup a with
  | none => exact .inl (.inr ⟨_, by rw [argH_at ha hk e, hoOf_lst]⟩)
  | some o =>
    have e2 := KX a o hk
    rw [e] at e2
    obtain rfl := Option.some.inj e2
    exact .inr ⟨_, us.toArray, _, hk, rfl, rfl, rfl, by rw [List.size_toArray]; exact h1, by simpa using vals_toV h2⟩
theorem argT (KX : K.In h) (ar : ∀ a ∈ A, ArgOb h A a) {a : Addr} {vs : List Value} (ha : a ∈ A) (e : h.get? a = some { cls := .type "tuple", data := .seq vs.toArray }) : (∀ u ∈ vs, OkU A u) ∧ SqT K (argH K h A) a (vs.map toV) := by
  obtain ⟨us, h1, h2, h3⟩ := ar a ha
  have hu : us = vs := by
    rcases h3 with q | q
    · rw [e] at q
      exact absurd (Value.type.inj (seq_inj q).1) (by decide)
    · rw [e] at q
      exact (seq_inj q).2.symm
  subst hu
  refine ⟨h2, ?_⟩
  cases hk : K.lookup a with
  | none => exact .inl (.inr ⟨_, by rw [argH_at ha hk e, hoOf_tup]⟩)
  | some o =>
    have e2 := KX a o hk
    rw [e] at e2
    obtain rfl := Option.some.inj e2
    exact .inr ⟨_, us.toArray, _, hk, rfl, rfl, by rw [List.size_toArray]; exact h1, by simpa using vals_toV h2⟩
mutual
theorem dw_one {Pm : Params} (KX : K.In h) (ar : ∀ a ∈ A, ArgOb h A a) : ∀ (d : WData) (v : Value), Well Pm h v d → plW d = true → OkU A v → Dw K (argH K h A) (toV v) d
  | .none, _, x, _, _ => by
    cases x
    exact .non
  | .bool b, _, x, _, _ => by
    cases x
    exact .bl b
  | .int i, _, x, _, _ => by
    cases x
    exact .int i
  | .str s, _, x, _, _ => by
    cases x
    exact .str s
  | .bytes b, _, x, _, _ => by
    cases x
    have z := Dw.byt (K := K) (H := argH K h A) b.toArray
    exact z
  | .list ds, _, x, p, hu => by
    obtain ⟨a, vs, rfl, ho, hall⟩ := well_list x
    obtain ⟨h2, hs⟩ := argL KX ar hu ho
    exact .lst hs (dw_all KX ar ds _ hall p h2)
  | .tuple ds, _, x, p, hu => by
    obtain ⟨a, vs, rfl, ho, hall⟩ := well_tuple x
    obtain ⟨h2, hs⟩ := argT KX ar hu ho
    exact .tup hs (dw_all KX ar ds _ hall p h2)
  | .float _, _, _, p, _ => Bool.noConfusion (show false = true from p)
  | .dict _, _, _, p, _ => Bool.noConfusion (show false = true from p)
  | .bytearray _, _, _, p, _ => Bool.noConfusion (show false = true from p)
  | .set _, _, _, p, _ => Bool.noConfusion (show false = true from p)
  | .frozenset _, _, _, p, _ => Bool.noConfusion (show false = true from p)
  | .obj _ _, _, _, p, _ => Bool.noConfusion (show false = true from p)
theorem dw_all {Pm : Params} (KX : K.In h) (ar : ∀ a ∈ A, ArgOb h A a) : ∀ (ds : List WData) (vs : List Value), WellAll Pm h vs ds → plWs ds = true → (∀ u ∈ vs, OkU A u) → DwAll K (argH K h A) (vs.map toV) ds
  | [], _, x, _, _ => by
    cases x
    exact .nil
  | d :: ds, _, x, p, hu => by
    obtain ⟨v, vs, rfl, x1, x2⟩ := well_cons x
    have q : plW d = true ∧ plWs ds = true := Bool.and_eq_true_iff.mp p
    exact .cons (dw_one KX ar d v x1 q.1 (hu _ (List.mem_cons_self ..))) (dw_all KX ar ds vs x2 q.2 fun u m => hu u (List.mem_cons_of_mem _ m))
end
end
/-! ### the call -/
theorem spec_call {P : Program} {w : World} {K : PySem.W.Frag} {mg mb : Str → Option Value} {CX : CXT} {k : Nat} {fa : Addr} {fd : FuncData} {ps : List Str} {sp : Sp} {s₁ : Shared} {vals : List Value} {ds : List WData} {R : PySem.W.WRecords} {cl : Str → Option Addr} {d0 : WData}
    (KX : K.In s₁.heap) (hns : s₁.heap.Ns mainGlobals mg) (hb : s₁.heap.Ns builtinsNs mb) (hbb : ∀ x : Str, x ≠ "__name__" → mb x = bootBuiltins x) (hlim : s₁.heap.NoLimit) (hg : s₁.gens = #[])
    (hwl : WellAll w.params s₁.heap vals ds) (hpl : plWs ds = true) (hwt : ∀ d ∈ ds, d.weight ≤ 1048576) (hr : Room k callerA)
    (F : ∀ base : Heap, K.In base → base.Ns mainGlobals mg → FnOk P w K mg base CX k fa fd ps sp) (hbind : ∀ (s : Shared) (us : List Value), us.length = ps.length → BindsTo s fd ⟨us, []⟩ (ps.zip us)) (hlen : ds.length = ps.length)
    (hsp : ∀ (H : Hp) (xs : List V), OnlyF H → DwAll K H xs ds → sp xs H (fun v H' => Dw K H' v d0) fun _ _ _ => False)
    (hCX : ∀ H e s', CX [] H s₁ (fun _ _ _ => False) e s' → False) :
    codeAny (model P w) callerA (.call (.ref fa) ⟨vals, []⟩) (fun r s' => ∃ u as, r = .ok (.ret u) ∧ ReadsW R cl s'.heap u d0 as ∧ OldK s₁.heap s'.heap ∧ s'.os = s₁.os ∧ AllBare s'.gens) s₁ := by
  obtain ⟨A, ho, ar⟩ := area_all ds vals hwl hpl hwt
  have hO : OnlyF (argH K s₁.heap A) := argH_only ar
  have hok : HOk P w (argH K s₁.heap A) s₁.heap := argH_ok ar
  have hS := dw_all KX ar ds vals hwl hpl ho
  have hV := vals_toV ho
  have hK : ∀ b u, argH K s₁.heap A b = some u → K.lookup b = none := fun b u q => (argH_is ar q).1
  have noA : ∀ {b : Addr} {o : Obj} {es : Array DictEntry} {ep : Nat}, s₁.heap.get? b = some o → o.data = .dict es ep → argH K s₁.heap A b = none := fun {b o es ep} e d => by
    cases q : argH K s₁.heap A b with
    | none => rfl
    | some u =>
      obtain ⟨_, vs, _, _, ⟨e2, _⟩ | ⟨e2, _⟩⟩ := argH_is ar q
      · rw [e2] at e
        cases e
        have d' : Data.seq vs.toArray _ = Data.dict es ep := d
        cases d'
      · rw [e2] at e
        cases e
        have d' : Data.seq vs.toArray _ = Data.dict es ep := d
        cases d'
  generalize argH K s₁.heap A = H at hO hok hS hK noA
  have base_of : ∀ {b : Addr} {o : Obj}, s₁.heap.get? b = some o → H b = none → (hidT s₁.heap H).get? b = some o := fun e n => hidT_get e n
  have nsK : ∀ {b : Addr} {m : Str → Option Value}, s₁.heap.Ns b m → (hidT s₁.heap H).Ns b m := fun {b m} ⟨o, es, ep, e, d, r⟩ => ⟨o, es, ep, base_of e (noA e d), d, r⟩
  have nK : ∀ b o, K.lookup b = some o → H b = none := fun b o e => by
    cases q : H b with
    | none => rfl
    | some u =>
      rw [hK b u q] at e
      cases e
  have hKb : K.In (hidT s₁.heap H) := fun b o e => base_of (KX b o e) (nK b o e)
  have hM : Mod K mg (hidT s₁.heap H) := ⟨hKb, nsK hns, ⟨mb, nsK hb, hbb⟩, let ⟨mc, h1, h2⟩ := hlim; ⟨mc, nsK h1, h2⟩⟩
  have e0 : Env0 P w K mg (hidT s₁.heap H) callerA [] s₁ H := ⟨rfl, hM, fun b o e => of_hidT e, Nat.le_of_eq (hidT_size _ _), trivial, fun b hb => absurd (show b ∈ ([] : List Addr) from hb) (by simp), hok, .of_eq hg⟩
  have hl : vals.length = ps.length := by rw [wellAll_len hwl]; exact hlen
  refine codeAny_mono ((F _ hKb (nsK hns)).run callerA [] s₁ H ⟨vals, []⟩ vals (vals.map toV) _ _ hr e0 (hbind s₁ vals hl) hV (hsp H _ hO hS)) fun r s' x => ?_
  cases r with
  | error e => exact (hCX H e s' x).elim
  | ok fl =>
    cases fl with
    | next => exact False.elim x
    | brk => exact False.elim x
    | cont => exact False.elim x
    | ret u =>
      obtain ⟨v, H', os, bare, un, hok', r', q⟩ := x
      have kept : ∀ b o, s₁.heap.get? b = some o → s'.heap.get? b = some o := fun b o e => by
        cases q2 : H b with
        | none => exact un.keep b o e q2 (by intro z; exact absurd (show b ∈ ([] : List Addr) from z) (by simp)) (by simp)
        | some u2 =>
          rcases hO b with z | ⟨ob, u3, z⟩
          · rw [q2] at z
            cases z
          · have z2 := un.frzs b ob _ z
            obtain ⟨e1, _⟩ := hok b _ z
            obtain ⟨e2, _⟩ := hok' b _ z2
            rw [e] at e1
            cases e1
            exact e2
      have KX' : K.In s'.heap := fun b o e => kept b o (KX b o e)
      obtain ⟨as, hrd⟩ := Dw.reads (R := R) (cl := cl) hok' KX' d0 v u q r'
      exact ⟨u, as, rfl, hrd, OldK.of_keep kept, os, bare⟩
/-! ### the row -/
theorem layable_weight {ds : List WData} (h : WData.layableAll ds = true) : ∀ d ∈ ds, d.weight ≤ 1048576 := fun d hd =>
  (PySem.W.layableW_iff.mp (List.all_eq_true.mp h d hd)).2.2
theorem encAll_len : ∀ (cs : List Codec) (a : Codec.denoteAll cs), (Codec.encAll cs a).length = cs.length
  | [], _ => rfl
  | c :: cs, a => by
    show (Codec.encAll cs a.2).length + 1 = cs.length + 1
    rw [encAll_len cs a.2]
/-- the goal that k_headS leaves (case hc), from the promise of the row's def: whatever the arguments that the codecs let and the row asks for, the def gives what stands for enc (f ..) -/
theorem walk_spec {r : OpenSpec} {k : Nat} {q : Program} {loose : List Str} {XP : (Str → Option Value) → Heap → Prop} {YP : World → Heap → Prop} {d : DefRec} {K : Params → PySem.W.Frag} {CX : World → CXT} {ps : List Str} {sp : World → Sp}
    (hwell : r.wellSaid = true) (hdf : d.params.defaults = []) (hlen : r.args.length = ps.length) (hr : Room k callerA)
    (hY : ∀ (w : World) (h : Heap), YP w h → (K w.params).In h)
    (F : ∀ (w : World) (mg : Str → Option Value) (fa : Addr) (h : Heap), YP w h → (K w.params).In h → h.Ns mainGlobals mg → mg d.name = some (.ref fa) →
      ∃ fd : FuncData, (∀ (s : Shared) (us : List Value), us.length = ps.length → BindsTo s fd ⟨us, []⟩ (ps.zip us)) ∧
        ∀ base : Heap, (K w.params).In base → base.Ns mainGlobals mg → FnOk r.prog w (K w.params) mg base (CX w) k fa fd ps (sp w))
    (hsp : ∀ (w : World) (H : Hp) (xs : List V) (a : Codec.denoteAll r.args), OnlyF H → Codec.withinAll r.args a = true → Codec.app r.args r.asked a = true → DwAll (K w.params) H xs (Codec.encAll r.args a) →
      sp w xs H (fun v H' => Dw (K w.params) H' v (r.ret.enc (Codec.app r.args r.f a))) fun _ _ _ => False)
    (hCX : ∀ (w : World) (H : Hp) (s : Shared) (e : Value) (s' : Shared), CX w [] H s (fun _ _ _ => False) e s' → False) :
    PySem.W.WalkOS q loose XP YP r d [] (fun f vs => PySem.call f vs) := by
  intro w s_0 s₁ mg mb G Y fa o pm cd doc dV kV ho hd hcd hD hmg hg args vals as hpre hlay hrd hwl hlo
  obtain ⟨a, e1, e2⟩ := PySem.W.os_pre_some hpre
  obtain ⟨e3, hwi⟩ := Codec.encAll_of_decAll r.args args a e1
  subst e3
  have KX := hY w _ Y
  obtain ⟨fd, hb, hF⟩ := F w mg fa _ Y KX G.T.g hmg
  refine PySem.W.enter_call (codeAny_mono (spec_call (R := []) (cl := classAt s_0.heap) (d0 := r.ret.enc (Codec.app r.args r.f a)) KX G.T.g G.T.b G.T.builtins G.T.nolimit hg hwl (pl_encAll _ _) (layable_weight hlay) hr hF hb (by rw [encAll_len]; exact hlen)
    (fun H xs hO hS => hsp w H xs a hO hwi e2 hS) fun H e s' => hCX w H s₁ e s') fun r' s' hq => ?_)
  obtain ⟨u, as', rfl, h1, h2, h3, h4⟩ := hq
  exact ⟨.inl ⟨u, _, as', rfl, fun _ => rfl, h1, (OpenSpec.post_iff hwell hwi _ _).mpr rfl, fun z => Bool.noConfusion (show false = true from z)⟩, h2, h3, h4⟩
/-- the same where the promise hangs on the written part alone -/
theorem walk_specK {r : OpenSpec} {k : Nat} {q : Program} {loose : List Str} {XP : (Str → Option Value) → Heap → Prop} {YP : World → Heap → Prop} {d : DefRec} {K : Params → PySem.W.Frag} {CX : CXT} {ps : List Str} {sp : PySem.W.Frag → Sp}
    (hwell : r.wellSaid = true) (hdf : d.params.defaults = []) (hlen : r.args.length = ps.length) (hr : Room k callerA)
    (hY : ∀ (w : World) (h : Heap), YP w h → (K w.params).In h)
    (F : ∀ (w : World) (mg : Str → Option Value) (fa : Addr) (h : Heap), YP w h → (K w.params).In h → h.Ns mainGlobals mg → mg d.name = some (.ref fa) →
      ∃ fd : FuncData, (∀ (s : Shared) (us : List Value), us.length = ps.length → BindsTo s fd ⟨us, []⟩ (ps.zip us)) ∧
        ∀ base : Heap, (K w.params).In base → base.Ns mainGlobals mg → FnOk r.prog w (K w.params) mg base CX k fa fd ps (sp (K w.params)))
    (hsp : ∀ (K : PySem.W.Frag) (H : Hp) (xs : List V) (a : Codec.denoteAll r.args), OnlyF H → Codec.withinAll r.args a = true → Codec.app r.args r.asked a = true → DwAll K H xs (Codec.encAll r.args a) →
      sp K xs H (fun v H' => Dw K H' v (r.ret.enc (Codec.app r.args r.f a))) fun _ _ _ => False)
    (hCX : ∀ (H : Hp) (s : Shared) (e : Value) (s' : Shared), CX [] H s (fun _ _ _ => False) e s' → False) :
    PySem.W.WalkOS q loose XP YP r d [] (fun f vs => PySem.call f vs) :=
  walk_spec (K := K) (CX := fun _ => CX) (sp := fun w => sp (K w.params)) hwell hdf hlen hr hY F (fun w H xs a h1 h2 h3 h4 => hsp (K w.params) H xs a h1 h2 h3 h4) fun _ H s e s' => hCX H s e s'
end L2
end
/-! SHORT WORDS over the layer: a def of the text, its body, what a loop and a test want. -/
namespace L2
open PySem PySem.Spec PyProof.Rows

/-! ### the text by places -/
/-- the j-th statement of a class's body -/
def inClass (s : Stmt) (j : Nat) : Stmt := match s with
  | .ClassDef _ _ _ body _ _ _ _ _ _ _ => body.getD j (.Pass ⟨0, 0, 0, 0⟩)
  | _ => .Pass ⟨0, 0, 0, 0⟩
def defArgs (s : Stmt) : Arguments := match s with
  | .FunctionDef _ a _ _ _ _ _ _ _ _ => a
  | _ => { posonlyargs := [], args := [], vararg := none, kwonlyargs := [], kw_defaults := [], kwarg := none, defaults := [] }
def defBody (s : Stmt) : List Stmt := match s with
  | .FunctionDef _ _ b _ _ _ _ _ _ _ => b
  | _ => []
def defScope (s : Stmt) : Scope := match s with
  | .FunctionDef _ _ _ _ _ _ sc _ _ _ => sc
  | _ => { kind := .function, names := [], isGenerator := false, isCoroutine := false }

/-! ### no exception leaves a def -/
abbrev CX0 : CXT := fun _ _ _ _ _ _ => False
abbrev E0 : XK := fun _ _ _ => False
theorem pass0 {X : Cx} : Passes CX0 X E0 := fun _ _ _ _ _ _ _ h => h.elim

/-! ### a def (or method) of the text as it stands behind the top -/
structure Fun (K : PySem.W.Frag) (x qual : Str) (st : Stmt) (f : Addr) (fd : FuncData) : Prop where
  ex : ∃ (oc : Value) (od : Option Addr) (kV doc pm : Value) (an : Option Addr) (cdv ct : Value) (osl : Array (Option Value)),
    fd = PySem.W.fnOf x qual (defArgs st) (defBody st) (defScope st) .none kV doc pm an cdv ct ∧ K.lookup f = some ⟨oc, od, .func fd, osl⟩ ∧ PySem.W.codeIn K cdv qual = true
  kp : PySem.W.keepIn K (.ref f) = true
section
variable {P : Program} {w : World} {K : PySem.W.Frag} {mg : Str → Option Value} {base : Heap}
/-- THE RULE for a def: its body as a term of rules, and the reading of that term -/
theorem Fun.ok {x qual : Str} {st : Stmt} {f : Addr} {fd : FuncData} {N ps : List Str} {k : Nat} {sp : Sp} (F : Fun K x qual st f fd) (S : FnScope N ps (defScope st)) (len : ∀ vs H Q E, sp vs H Q E → vs.length = ps.length)
    (hbody : ∀ (cdv : Value) (A : Around) (outer : List Env) (s : Shared) (H : Hp) (vs : List V) (Q : VK) (E : XK), Room k (A.deeper (envOfC qual (defScope st) s.heap.objs.size f cdv)) → sp vs H Q E →
      ∃ t, PSs (cxOf CX0 P w K mg base N qual (defScope st) f cdv A outer s H E).nox (defBody st) t ∧ t { nx := fun _ H' => Q .non H', rt := Q } (start N vs) H) : FnOk P w K mg base CX0 (k + 1) f fd ps sp := by
  obtain ⟨oc, od, kV, doc, pm, an, cdv, ct, osl, rfl, lk, hcd⟩ := F.ex
  refine fn_of lk hcd S len fun A outer s H vs Q E hr hsp => ?_
  obtain ⟨t, h, q⟩ := hbody cdv A outer s H vs Q E hr hsp
  exact ⟨t, h.nox, q⟩
/-- how its arguments bind (no defaults): h is «fun _ _ _ _ _ _ us hl => match us, hl with | [_, _], _ => rfl», one _ a parameter -/
theorem Fun.binds {x qual : Str} {st : Stmt} {f : Addr} {fd : FuncData} {ps : List Str} (F : Fun K x qual st f fd)
    (h : ∀ (kV doc pm : Value) (an : Option Addr) (cdv ct : Value) (us : List Value), us.length = ps.length → bindArgs (PySem.W.fnOf x qual (defArgs st) (defBody st) (defScope st) .none kV doc pm an cdv ct) ⟨us, []⟩ = pure (ps.zip us)) : Binds K fd ps [] := by
  obtain ⟨oc, od, kV, doc, pm, an, cdv, ct, osl, rfl, lk, hcd⟩ := F.ex
  exact .all (h kV doc pm an cdv ct)
theorem fun_mk {x qual : Str} {st : Stmt} {f : Addr} {oc : Value} {od an : Option Addr} {osl : Array (Option Value)} {kV doc pm cdv ct : Value} (l : K.lookup f = some ⟨oc, od, .func (PySem.W.fnOf x qual (defArgs st) (defBody st) (defScope st) .none kV doc pm an cdv ct), osl⟩)
    (c : PySem.W.codeIn K cdv qual = true) (k : PySem.W.keepIn K (.ref f) = true) : Fun K x qual st f (PySem.W.fnOf x qual (defArgs st) (defBody st) (defScope st) .none kV doc pm an cdv ct) := ⟨⟨oc, od, kV, doc, pm, an, cdv, ct, osl, rfl, l, c⟩, k⟩
end
theorem hu_of {A : Around} {k : Nat} (hr : Room k A) : A.units + 1 < cLine := Nat.lt_of_le_of_lt (Nat.add_le_add_left (by decide : 1 ≤ 64) _) hr.units
theorem small1000 {n : Nat} (h : n ≤ 1000) : n < sizeLine := Nat.lt_of_le_of_lt h (by decide)

/-! ### expressions in short: the name that stands in the i-th slot -/
section
variable {X : Cx}
theorem pv (i : Nat) {x : Str} {pos : Pos} (hN : X.N[i]? = some x := by rfl) (hv : Vis X.env.scope x := by first | exact Or.inl rfl | exact Or.inr (Or.inl rfl) | exact Or.inr (Or.inr rfl)) (hd : (x == ("__debug__" : Str)) = false := by decide)
    (hcd : (x == ("__classdict__" : Str)) = false := by decide) : PE X (.Name x pos) (tVar i) := pe_var hN hv hd hcd
end

/-! ### tests -/
theorem iteF {A B : Prop} (h : B) : if false = true then A else B := by
  rw [if_neg Bool.false_ne_true]
  exact h
theorem iteT {A B : Prop} (h : A) : if true = true then A else B := by
  rw [if_pos rfl]
  exact h
theorem ite2 {c A B : Prop} [Decidable c] (h1 : c → A) (h2 : ¬ c → B) : if c then A else B := by
  by_cases h : c
  · rw [if_pos h]
    exact h1 h
  · rw [if_neg h]
    exact h2 h
theorem iteNS {c A B : Prop} [Decidable c] (hc : c) (h : B) : if (!decide c) = true then A else B := by
  rw [decide_eq_true hc]
  exact iteF h

/-! ### heaps -/
/-- all that was tracked is as it was -/
def Same (H H' : Hp) : Prop := ∀ b o, H b = some o → H' b = some o
theorem Same.refl (H : Hp) : Same H H := fun _ _ h => h
theorem Same.trans {H H1 H2 : Hp} (a : Same H H1) (b : Same H1 H2) : Same H H2 := fun c o h => b c o (a c o h)
theorem Same.free {H H' : Hp} (e : Same H H') {l : Addr} (h : H' l = Option.none) : H l = Option.none := by
  cases q : H l with
  | none => rfl
  | some o =>
    rw [e l o q] at h
    cases h
theorem Same.seq {K : PySem.W.Frag} {H H' : Hp} {a : Addr} {xs : List V} (e : Same H H') (h : SqL K H a xs) : SqL K H' a xs := by
  rcases h with (h | ⟨o, h⟩) | h
  · exact .inl (.inl (e _ _ h))
  · exact .inl (.inr ⟨o, e _ _ h⟩)
  · exact .inr h

/-! ### lists -/
theorem at_of {xs : List V} {z : Int} {j : Nat} {v : V} (e : z = (j : Int)) (h : xs[j]? = some v) : atI xs z = some v := by
  rw [e]
  exact atI_nat h
theorem nd_ix {α : Type} {l : List α} (hN : l.Nodup) {i j : Nat} {x : α} (a : l[i]? = some x) (b : l[j]? = some x) : i = j := by
  obtain ⟨h1, e1⟩ := List.getElem?_eq_some_iff.mp a
  obtain ⟨h2, e2⟩ := List.getElem?_eq_some_iff.mp b
  exact (List.getElem_inj hN).mp (e1.trans e2.symm)
theorem sum_set : ∀ {l : List Int} {j : Nat} {z y : Int}, l[j]? = some z → (l.set j y).sum = l.sum - z + y
  | [], j, z, y, h => by simp at h
  | a :: r, 0, z, y, h => by
    have e : a = z := Option.some.inj h
    subst e
    show (y :: r).sum = (a :: r).sum - a + y
    rw [List.sum_cons, List.sum_cons]
    omega
  | a :: r, j + 1, z, y, h => by
    have ih := sum_set (l := r) (j := j) (z := z) (y := y) h
    show (a :: r.set j y).sum = (a :: r).sum - z + y
    rw [List.sum_cons, List.sum_cons, ih]
    omega
theorem sum_take : ∀ {l : List Int} {i : Nat} {z : Int}, l[i]? = some z → (l.take (i + 1)).sum = (l.take i).sum + z
  | [], i, z, h => by simp at h
  | a :: r, 0, z, h => by
    have e : a = z := Option.some.inj h
    subst e
    show ([a] : List Int).sum = ([] : List Int).sum + a
    rw [List.sum_cons]
    exact Int.add_comm _ _
  | a :: r, i + 1, z, h => by
    have ih := sum_take (l := r) (i := i) (z := z) h
    show (a :: r.take (i + 1)).sum = (a :: r.take i).sum + z
    rw [List.sum_cons, List.sum_cons, ih]
    omega
/-- a new instance and its __init__ leave all that was tracked as it was -/
theorem Same.made {H H1 : Hp} {x dx C : Addr} (nx : H x = Option.none) (nd : H dx = Option.none) (k : ∀ b o, (upd (upd H dx (.own x)) x (.ins C dx [])) b = some o → b ≠ x → H1 b = some o) : Same H H1 := fun b o e =>
  k b o (by rw [upd_ne (ne_of_none e nx), upd_ne (ne_of_none e nd)]; exact e) (ne_of_none e nx)
end L2


end
section
set_option Elab.async false
set_option linter.all false
set_option maxRecDepth 100000
set_option maxHeartbeats 1000000
/-! rules of my own over the layer -/
namespace L2
open PySem PySem.Spec PyProof.Rows
/-! products and quotients of greater numbers -/
def CMulB (i j : Int) : Prop := i.natAbs.log2 < 9000 ∧ j.natAbs.log2 < 9000
theorem CMulB.ok {i j : Int} (h : CMulB i j) : IntMulOk i j := by
  have b : ∀ x : Int, x.natAbs.log2 < 9000 → Builtin.Int.intBits x ≤ 9000 := fun x hx => by
    unfold Builtin.Int.intBits
    split
    · exact Nat.zero_le _
    · omega
  have h1 := b i h.1
  have h2 := b j h.2
  have hb : bitsLine = 134217728 := by decide
  have ht : Builtin.Int.intTooBig (Builtin.Int.intBits i + Builtin.Int.intBits j) = false := by
    unfold Builtin.Int.intTooBig
    rw [hb]
    exact decide_eq_false (by omega)
  unfold IntMulOk
  rw [ht, Bool.and_false]
  exact Bool.false_ne_true
def CDivB (i j : Int) : Prop := 0 < j ∧ j.natAbs.log2 < 9000
section
variable {X : Cx}
theorem op_mulB : OpR X (binaryOp .Mult) (rI CMulB fun i j => .int (i * j)) := opI fun _ _ _ _ _ _ _ hc q => mul_int q hc.ok
theorem op_fdivB : OpR X (binaryOp .FloorDiv) (rI CDivB fun i j => .int (i / j)) := opI fun i j _ _ _ _ _ hc q => by
  have h1 : (0 : Int) < j := hc.1
  exact floordiv_int (Int.ne_of_gt h1) (by rw [Int.fdiv_eq_ediv_of_nonneg i (Int.le_of_lt h1)]; exact q) (.inl (PyProof.noPylong_of_log2 hc.2))
end
theorem log2_small {n : Nat} (h : n < 2 ^ 250) : ((n : Nat) : Int).natAbs.log2 < 9000 := by
  rw [Int.natAbs_natCast]
  rcases Nat.eq_zero_or_pos n with h0 | hp
  · rw [h0]; decide
  · exact Nat.lt_trans ((Nat.log2_lt (Nat.ne_of_gt hp)).mpr h) (by decide)
/-! a call whose callee is an expression: which def it is shows at its value -/
/-- a def that may be called: some promise of it is kept -/
def Callee (X : Cx) (f : Addr) (sp : Sp) : Prop := ∃ (k : Nat) (fd : FuncData) (ps : List Str), FnOk X.prog X.w X.K X.mg X.base CX0 k f fd ps sp ∧ Room k X.A ∧ PySem.W.keepIn X.K (.ref f) = true ∧ Binds X.K fd ps []
def tCallE (Cl : Addr → Sp → Prop) (tc : TE) (t : TA) : TE := fun σ H Q => tc σ H fun x H1 => ∃ f sp, x = .ref f ∧ Cl f sp ∧ t σ H1 fun vs H2 => sp vs H2 Q E0
theorem pe_callE {X : Cx} {c e : Expr} {es : List Expr} {pos : Pos} {tc : TE} {t : TA} (hc : PE X c tc) (ha : PA X (e :: es) t)
    (ht : eval (.Call c (e :: es) [] pos) X.env = (do callWith pos (← eval c X.env) [] (backTo pos (starEach (e :: es) X.env)) (backToKw pos (keywordEach [] X.env))) := by rfl)
    (he : starEach (e :: es) X.env = (false, eval e X.env) :: starEach es X.env := by rfl) (hpl : (backTo pos (starEach es X.env)).any (·.1) = false := by rfl) :
    PE X (.Call c (e :: es) [] pos) (tCallE (Callee X) tc t) := by
  intro pins s σ H Q I h
  rw [ht]
  refine wpAny_bind (thn (hc pins s σ H _ I h) fun v s0 ⟨x, H0, I0, r0, f, sp, ex, ⟨k, fd, ps, F, hr, hk, hb⟩, q⟩ => ?_)
  subst ex
  obtain rfl : v = Value.ref f := r0
  refine PySem.W.callWith_K (h₀ := X.base) I0.ok.mod.kin hk (thn (ha pos pins s0 σ H0 _ I0 q) fun us s1 ⟨vs, H1, I1, r, q1⟩ => ⟨I1.kIn, ?_⟩) he hpl
  refine run_fn (dvs := []) (ds := []) (E := E0) F hr hb .nil pass0 I1 r ?_
  rw [List.append_nil]
  exact q1
end L2

end
section
set_option Elab.async false
set_option linter.all false
set_option maxRecDepth 100000
set_option maxHeartbeats 1000000
/-! zip over two tuples -/
namespace ZT
open PySem PyProof.Rows
section
variable {prog : Program} {w : World} {A : Around} {E : Value → Shared → Prop} {s : Shared}
theorem nxItem {j p : Addr} {n : Nat} {vals : Array Value} {y : Value} {Q : Value → Shared → Prop} (hj : s.heap.IsTupleIter j p n) (hp : s.heap.IsTuple p vals) (hy : vals[n]? = some y)
    (k : ∀ g, g.IsTupleIter j p (n + 1) → Heap.SameBut j s.heap g → Q y { s with heap := g }) : wpAny (model prog w) A (Builtin.SmallTypes.nextOf (.ref j)) Q E s := by
  obtain ⟨oj, gj, cj, dj⟩ := id hj
  obtain ⟨op, gp, _, np, dp⟩ := hp
  unfold Builtin.SmallTypes.nextOf
  refine wpAny_bind (wpAny_callSpecial?_slot (name := Str.ofString "__next__") hj.typeIs F.slot_tuple_iterator_next (wpAny_call_entry F.slot_tuple_iterator_next hj.typeIs F.entry_tuple_iterator_next ?_ (F.args_tuple_iterator_next_1 _)))
  show wpAny _ _ (field (.ref j) 0 >>= _) _ _ s
  refine wpAny_bind (wpAny_field gj dj (x := .ref p) rfl ?_)
  show wpAny _ _ (if (Value.ref p == Value.none) = true then _ else _) _ _ s
  rw [if_neg (show ¬ ((Value.ref p == Value.none) = true) from Bool.false_ne_true)]
  show wpAny _ _ (field (.ref j) 1 >>= _) _ _ s
  refine wpAny_bind (wpAny_field gj dj (x := .int n 0) rfl ?_)
  show wpAny _ _ (seqItems? (.ref p) >>= _) _ _ s
  refine wpAny_bind (wpAny_seqItems gp dp ?_)
  simp only [Int.toNat_natCast, hy]
  refine wpAny_bind (wpAny_setField gj dj (by simp) (wpAny_pure ⟨y, rfl, wpAny_pure (k _ ?_ (Heap.SameBut.update ..))⟩))
  refine ⟨_, Heap.get?_update_self _ gj (Obj.isFreed_of_fields (Obj.data_mapFields dj _)), (Obj.cls_mapFields ..).trans cj, ?_⟩
  rw [Obj.data_mapFields dj]; simp [rawInt]
theorem nxEnd {j p : Addr} {n : Nat} {vals : Array Value} {Q : Value → Shared → Prop} (hA : A.handled = none) (hj : s.heap.IsTupleIter j p n) (hp : s.heap.IsTuple p vals) (hy : vals[n]? = none)
    (k : ∀ g e, Heap.ExtBut j s.heap g → (∃ o, g.get? e = some o ∧ o.cls = .type "StopIteration") → E (.ref e) { s with heap := g }) : wpAny (model prog w) A (Builtin.SmallTypes.nextOf (.ref j)) Q E s := by
  obtain ⟨oj, gj, cj, dj⟩ := id hj
  obtain ⟨op, gp, _, np, dp⟩ := hp
  unfold Builtin.SmallTypes.nextOf
  refine wpAny_bind (wpAny_callSpecial?_slot (name := Str.ofString "__next__") hj.typeIs F.slot_tuple_iterator_next (wpAny_call_entry F.slot_tuple_iterator_next hj.typeIs F.entry_tuple_iterator_next ?_ (F.args_tuple_iterator_next_1 _)))
  show wpAny _ _ (field (.ref j) 0 >>= _) _ _ s
  refine wpAny_bind (wpAny_field gj dj (x := .ref p) rfl ?_)
  show wpAny _ _ (if (Value.ref p == Value.none) = true then _ else _) _ _ s
  rw [if_neg (show ¬ ((Value.ref p == Value.none) = true) from Bool.false_ne_true)]
  show wpAny _ _ (field (.ref j) 1 >>= _) _ _ s
  refine wpAny_bind (wpAny_field gj dj (x := .int n 0) rfl ?_)
  show wpAny _ _ (seqItems? (.ref p) >>= _) _ _ s
  refine wpAny_bind (wpAny_seqItems gp dp ?_)
  simp only [Int.toNat_natCast, hy]
  refine wpAny_bind (wpAny_rule (wpAny_bind (wpAny_setField gj dj (by simp) ?_)))
  show wpAny _ _ (newExc (.type "StopIteration") [] >>= _) _ _ _
  refine wpAny_bind ?_
  simp only [newExc, newTuple]; refine wpAny_bind (wpAny_newObj_type ?_ (by size_fits))
  refine wpAny_bind (m := firstArgMember _ _) (wpAny_of_eq (a := Value.none) (by first | rfl | (simp only [firstArgMember]; rfl)) ?_)
  refine wpAny_newObj_type ?_ (by size_fits)
  simp only [raiseNew]; refine wpAny_bind (wpAny_handled ?_)
  first | rw [show A.in1.handled = none from hA] | rw [hA]
  refine wpAny_bind (wpAny_pure (wpAny_throw ?_))
  exact k _ _ (((Heap.SameBut.update ..).extBut.push _).push _) ⟨_, Heap.get?_push_size _ rfl, rfl⟩
/-- two tuples' iterators as the zip at z has them at turn n -/
structure At (h : Heap) (z ti tO j1 j2 p1 p2 : Addr) (f0 : Value) (n1 n2 : Nat) (v1 v2 : Array Value) : Prop where
  hz : IsZip h z ti tO f0
  hi : IsPair h ti (.ref j1) (.ref j2)
  ho : ∃ a b, IsPair h tO a b
  h1 : h.IsTupleIter j1 p1 n1
  h2 : h.IsTupleIter j2 p2 n2
  t1 : h.IsTuple p1 v1
  t2 : h.IsTuple p2 v2
theorem At.step {g h : Heap} {z ti tO j1 j2 p1 p2 b : Addr} {f0 : Value} {n1 n2 : Nat} {v1 v2 : Array Value} (x : At h z ti tO j1 j2 p1 p2 f0 n1 n2 v1 v2) (e : Heap.ExtBut b h g)
    (q : b ≠ z ∧ b ≠ ti ∧ b ≠ tO ∧ b ≠ j1 ∧ b ≠ j2 ∧ b ≠ p1 ∧ b ≠ p2) : At g z ti tO j1 j2 p1 p2 f0 n1 n2 v1 v2 := by
  obtain ⟨q1, q2, q3, q4, q5, q6, q7⟩ := q
  obtain ⟨a, c, ho⟩ := x.ho
  exact ⟨e _ _ q1.symm x.hz, e _ _ q2.symm x.hi, ⟨a, c, e _ _ q3.symm ho⟩, x.h1.extBut e q4.symm, x.h2.extBut e q5.symm, x.t1.extBut e q6.symm, x.t2.extBut e q7.symm⟩
/-- the part of zip's turn that draws: behind it both iterators have turned, the pair at tO holds what came -/
theorem draw2 {z ti tO j1 j2 p1 p2 : Addr} {n1 n2 : Nat} {v1 v2 : Array Value} {x y : Value} {Q : Value → Shared → Prop} (D : ZipApart z ti tO j1 j2 p1 p2) (X : At s.heap z ti tO j1 j2 p1 p2 .none n1 n2 v1 v2) (hx : v1[n1]? = some x) (hy : v2[n2]? = some y)
    (k : ∀ g, IsZip g z ti tO (rawInt s.heap.objs.size) → IsPair g tO x y → g.IsTupleIter j1 p1 (n1 + 1) → g.IsTupleIter j2 p2 (n2 + 1) → IsPair g s.heap.objs.size x y → g.objs.size = s.heap.objs.size + 1 →
      (∀ c o, c ≠ z → c ≠ tO → c ≠ j1 → c ≠ j2 → s.heap.get? c = some o → g.get? c = some o) → Q (.ref s.heap.objs.size) { s with heap := g }) :
    wpAny (model prog w) A (Builtin.«zip.__next__» ⟨[.ref z], []⟩) (fun fin s' => ∃ v, fin = .done (.ret v) ∧ Q v s') E s := by
  obtain ⟨hz, hi, ⟨a, b, ho⟩, h1, h2, t1, t2⟩ := X
  show wpAny _ _ (field (.ref z) 2 >>= _) _ _ _
  refine wpAny_bind (wpAny_field hz rfl (x := .bool false) rfl ?_)
  show wpAny _ _ (field (.ref z) 3 >>= _) _ _ _
  refine wpAny_bind (wpAny_field hz rfl (x := .ref ti) rfl (wpAny_bind (wpAny_seqItems hi rfl ?_)))
  show wpAny _ _ (Builtin.SmallTypes.ownedTupleIsFree (.ref z) >>= _) _ _ _
  refine wpAny_bind ?_
  unfold Builtin.SmallTypes.ownedTupleIsFree
  refine wpAny_bind (wpAny_field hz rfl (x := .none) rfl (wpAny_pure ?_))
  simp only [if_true]
  refine wpAny_bind (wpAny_rule (wpAny_bind (wpAny_field hz rfl (x := .ref tO) rfl ?_)))
  refine wpAny_bind (wpAny_setField_rec hz (by simp) fun g1 z1 s1 => ?_)
  replace z1 : IsZip g1 z ti tO .ellipsis := z1
  refine wpAny_bind ?_
  simp only [List.zipIdx_cons, List.zipIdx_nil, List.forIn_cons, List.forIn_nil]
  refine wpAny_bind (wpAny_bind (wpAny_onRaise ?_))
  show wpAny _ _ (Builtin.SmallTypes.nextOf (.ref j1) >>= _) _ _ _
  refine wpAny_bind (nxItem (h1.extBut s1.extBut D.i1z) (t1.extBut s1.extBut D.l1z) hx fun g2 i2 s2 => wpAny_pure ?_)
  have o2 : IsPair g2 tO a b := s2.extBut _ _ D.TOi1 (s1.extBut _ _ D.TOz ho)
  refine wpAny_bind (wpAny_seqItems o2 rfl (wpAny_bind (wpAny_updateSeq_pair o2 fun g3 o3 s3 => ?_)))
  replace o3 : IsPair g3 tO x b := o3
  refine wpAny_bind (wpAny_letGo (wpAny_pure ?_))
  refine wpAny_bind (wpAny_bind (wpAny_onRaise ?_))
  show wpAny _ _ (Builtin.SmallTypes.nextOf (.ref j2) >>= _) _ _ _
  refine wpAny_bind (nxItem (((h2.extBut s1.extBut D.i2z).extBut s2.extBut D.i12.symm).extBut s3.extBut D.TOi2.symm) (((t2.extBut s1.extBut D.l2z).extBut s2.extBut D.l2i1).extBut s3.extBut D.l2TO) hy fun g4 i4 s4 => wpAny_pure ?_)
  have o4 : IsPair g4 tO x b := s4.extBut _ _ D.TOi2 o3
  refine wpAny_bind (wpAny_seqItems o4 rfl (wpAny_bind (wpAny_updateSeq_pair o4 fun g5 o5 s5 => ?_)))
  replace o5 : IsPair g5 tO x y := o5
  refine wpAny_bind (wpAny_letGo (wpAny_pure (wpAny_pure ?_)))
  refine wpAny_bind (wpAny_seqItems o5 rfl (wpAny_bind (wpAny_newTuple ?_)))
  have sz : g5.objs.size = s.heap.objs.size := by rw [s5.1, s4.1, s3.1, s2.1, s1.1]
  have z5 : IsZip g5 z ti tO .ellipsis := s5.extBut _ _ D.TOz.symm (s4.extBut _ _ D.i2z.symm (s3.extBut _ _ D.TOz.symm (s2.extBut _ _ D.i1z.symm z1)))
  have k5 : ∀ c o, c ≠ z → c ≠ tO → c ≠ j1 → c ≠ j2 → s.heap.get? c = some o → g5.get? c = some o := fun c o c1 c2 c3 c4 e =>
    s5.extBut _ _ c2 (s4.extBut _ _ c4 (s3.extBut _ _ c2 (s2.extBut _ _ c3 (s1.extBut _ _ c1 e))))
  have i5 : g5.IsTupleIter j1 p1 (n1 + 1) := ((i2.extBut s3.extBut D.TOi1.symm).extBut s4.extBut D.i12).extBut s5.extBut D.TOi1.symm
  have i6 : g5.IsTupleIter j2 p2 (n2 + 1) := i4.extBut s5.extBut D.TOi2.symm
  have lz : z < g5.objs.size := Heap.lt_size z5
  show wpAny _ _ (Builtin.SmallTypes.ownedTupleHandOut (.ref z) (.ref g5.objs.size) >>= _) _ _ _
  refine wpAny_bind ?_
  unfold Builtin.SmallTypes.ownedTupleHandOut
  have z6 : IsZip (g5.push { cls := .type "tuple", data := .seq #[x, y] }) z ti tO .ellipsis := Heap.get?_push_of_some _ z5
  refine wpAny_bind (wpAny_setField_rec z6 (by simp) fun g7 z7 s7 => ?_)
  replace z7 : IsZip g7 z ti tO (rawInt g5.objs.size) := z7
  refine wpAny_setField_rec z7 (by simp) fun g8 z8 s8 => ?_
  replace z8 : IsZip g8 z ti tO (rawInt g5.objs.size) := z8
  have up : ∀ c o, c ≠ z → g5.get? c = some o → g8.get? c = some o := fun c o c1 e => s8.extBut _ _ c1 (s7.extBut _ _ c1 (Heap.get?_push_of_some _ e))
  have t8 : IsPair g8 g5.objs.size x y := s8.extBut _ _ (Nat.ne_of_gt lz) (s7.extBut _ _ (Nat.ne_of_gt lz) (Heap.get?_push_size _ rfl))
  have sz8 : g8.objs.size = g5.objs.size + 1 := by rw [s8.1, s7.1, Heap.size_push]
  rw [sz] at z8 t8 sz8
  refine wpAny_pure ⟨_, rfl, ?_⟩
  show Q (.ref g5.objs.size) _
  rw [sz]
  exact k g8 z8 (up _ _ D.TOz o5) (i5.at fun o e => up _ o D.i1z e) (i6.at fun o e => up _ o D.i2z e) t8 sz8 fun c o c1 c2 c3 c4 e => up c o c1 (k5 c o c1 c2 c3 c4 e)
/-- zip's turn where one of them has no more -/
theorem none2 {z ti tO j1 j2 p1 p2 : Addr} {n1 n2 : Nat} {v1 v2 : Array Value} {Q : Fin → Shared → Prop} (hA : A.handled = none) (D : ZipApart z ti tO j1 j2 p1 p2) (X : At s.heap z ti tO j1 j2 p1 p2 .none n1 n2 v1 v2) (hend : v1[n1]? = none ∨ v2[n2]? = none)
    (k : ∀ g e, (∀ c o, c ≠ z → c ≠ tO → c ≠ j1 → c ≠ j2 → s.heap.get? c = some o → g.get? c = some o) → (∃ o, g.get? e = some o ∧ o.cls = .type "StopIteration") → E (.ref e) { s with heap := g }) :
    wpAny (model prog w) A (Builtin.«zip.__next__» ⟨[.ref z], []⟩) Q E s := by
  obtain ⟨hz, hi, ⟨a, b, ho⟩, h1, h2, t1, t2⟩ := X
  show wpAny _ _ (field (.ref z) 2 >>= _) _ _ _
  refine wpAny_bind (wpAny_field hz rfl (x := .bool false) rfl ?_)
  show wpAny _ _ (field (.ref z) 3 >>= _) _ _ _
  refine wpAny_bind (wpAny_field hz rfl (x := .ref ti) rfl (wpAny_bind (wpAny_seqItems hi rfl ?_)))
  show wpAny _ _ (Builtin.SmallTypes.ownedTupleIsFree (.ref z) >>= _) _ _ _
  refine wpAny_bind ?_
  unfold Builtin.SmallTypes.ownedTupleIsFree
  refine wpAny_bind (wpAny_field hz rfl (x := .none) rfl (wpAny_pure ?_))
  simp only [if_true]
  refine wpAny_bind (wpAny_rule (wpAny_bind (wpAny_field hz rfl (x := .ref tO) rfl ?_)))
  refine wpAny_bind (wpAny_setField_rec hz (by simp) fun g1 z1 s1 => ?_)
  replace z1 : IsZip g1 z ti tO .ellipsis := z1
  refine wpAny_bind ?_
  simp only [List.zipIdx_cons, List.zipIdx_nil, List.forIn_cons, List.forIn_nil]
  refine wpAny_bind (wpAny_bind (wpAny_onRaise ?_))
  show wpAny _ _ (Builtin.SmallTypes.nextOf (.ref j1) >>= _) _ _ _
  cases hx : v1[n1]? with
  | none =>
    refine wpAny_bind (nxEnd hA (h1.extBut s1.extBut D.i1z) (t1.extBut s1.extBut D.l1z) hx fun g2 e s2 ⟨oe, he, ce⟩ => ?_)
    have z2 : IsZip g2 z ti tO .ellipsis := s2 _ _ D.i1z.symm z1
    have ne : e ≠ z := fun q => by subst q; rw [z2] at he; cases he; simp at ce
    refine wpAny_setField_rec z2 (by simp) fun g3 _ s3 => k g3 e (fun c o c1 _ c3 _ q => s3.extBut _ _ c1 (s2 _ _ c3 (s1.extBut _ _ c1 q))) ⟨oe, s3.extBut _ _ ne he, ce⟩
  | some x =>
    have hy : v2[n2]? = none := by
      rcases hend with q | q
      · rw [hx] at q; cases q
      · exact q
    refine wpAny_bind (nxItem (h1.extBut s1.extBut D.i1z) (t1.extBut s1.extBut D.l1z) hx fun g2 i2 s2 => wpAny_pure ?_)
    have o2 : IsPair g2 tO a b := s2.extBut _ _ D.TOi1 (s1.extBut _ _ D.TOz ho)
    refine wpAny_bind (wpAny_seqItems o2 rfl (wpAny_bind (wpAny_updateSeq_pair o2 fun g3 o3 s3 => ?_)))
    refine wpAny_bind (wpAny_letGo (wpAny_pure (wpAny_bind (wpAny_bind (wpAny_onRaise ?_)))))
    show wpAny _ _ (Builtin.SmallTypes.nextOf (.ref j2) >>= _) _ _ _
    refine wpAny_bind (nxEnd hA (((h2.extBut s1.extBut D.i2z).extBut s2.extBut D.i12.symm).extBut s3.extBut D.TOi2.symm) (((t2.extBut s1.extBut D.l2z).extBut s2.extBut D.l2i1).extBut s3.extBut D.l2TO) hy fun g4 e s4 ⟨oe, he, ce⟩ => ?_)
    have z4 : IsZip g4 z ti tO .ellipsis := s4 _ _ D.i2z.symm (s3.extBut _ _ D.TOz.symm (s2.extBut _ _ D.i1z.symm z1))
    have ne : e ≠ z := fun q => by subst q; rw [z4] at he; cases he; simp at ce
    refine wpAny_setField_rec z4 (by simp) fun g5 _ s5 => k g5 e (fun c o c1 c2 c3 c4 q => s5.extBut _ _ c1 (s4 _ _ c4 (s3.extBut _ _ c2 (s2.extBut _ _ c3 (s1.extBut _ _ c1 q))))) ⟨oe, s5.extBut _ _ ne he, ce⟩
theorem pyItem {z ti tO j1 j2 p1 p2 : Addr} {n1 n2 : Nat} {v1 v2 : Array Value} {x y : Value} {Q : Option Value → Shared → Prop} (D : ZipApart z ti tO j1 j2 p1 p2) (X : At s.heap z ti tO j1 j2 p1 p2 .none n1 n2 v1 v2) (hx : v1[n1]? = some x) (hy : v2[n2]? = some y)
    (k : ∀ g, IsZip g z ti tO (rawInt s.heap.objs.size) → IsPair g tO x y → g.IsTupleIter j1 p1 (n1 + 1) → g.IsTupleIter j2 p2 (n2 + 1) → IsPair g s.heap.objs.size x y → g.objs.size = s.heap.objs.size + 1 →
      (∀ c o, c ≠ z → c ≠ tO → c ≠ j1 → c ≠ j2 → s.heap.get? c = some o → g.get? c = some o) → Q (some (.ref s.heap.objs.size)) { s with heap := g }) : wpAny (model prog w) A (pyNext (.ref z)) Q E s := by
  have ty : s.TypeIs (.ref z) "zip" := ⟨_, X.hz, rfl⟩
  unfold pyNext
  exact wpAny_bind (wpAny_attempt (wpAny_callSpecial?_slot (name := Str.ofString "__next__") ty F.slot_zip_next (wpAny_call_entry F.slot_zip_next ty F.entry_zip_next
    (draw2 D X hx hy fun g a1 a2 a3 a4 a5 a6 a7 => wpAny_pure (k g a1 a2 a3 a4 a5 a6 a7)) (F.args_zip_next_1 _))))
theorem pyEnd {z ti tO j1 j2 p1 p2 : Addr} {n1 n2 : Nat} {v1 v2 : Array Value} {Q : Option Value → Shared → Prop} (hA : A.handled = none) (D : ZipApart z ti tO j1 j2 p1 p2) (X : At s.heap z ti tO j1 j2 p1 p2 .none n1 n2 v1 v2) (hend : v1[n1]? = none ∨ v2[n2]? = none)
    (k : ∀ g, (∀ c o, c ≠ z → c ≠ tO → c ≠ j1 → c ≠ j2 → s.heap.get? c = some o → g.get? c = some o) → Q none { s with heap := g }) : wpAny (model prog w) A (pyNext (.ref z)) Q E s := by
  have ty : s.TypeIs (.ref z) "zip" := ⟨_, X.hz, rfl⟩
  unfold pyNext
  refine wpAny_bind (wpAny_attempt (wpAny_callSpecial?_slot (name := Str.ofString "__next__") ty F.slot_zip_next (wpAny_call_entry F.slot_zip_next ty F.entry_zip_next (none2 hA D X hend fun g e hk he => ?_) (F.args_zip_next_1 _))))
  obtain ⟨o, eo, co⟩ := he
  exact wpAny_bind (wpAny_isInstance (T := "StopIteration") (b := true) ⟨o, eo, co⟩ isSubtype_stop (wpAny_pure (k _ hk)))
/-! the zip that is made -/
abbrev G1 (h : Heap) (p1 : Addr) : Heap := h.push { cls := .type "tuple_iterator", data := .fields #[.ref p1, .int 0 0] }
abbrev G2 (h : Heap) (p1 p2 : Addr) : Heap := (G1 h p1).push { cls := .type "tuple_iterator", data := .fields #[.ref p2, .int 0 0] }
abbrev G3 (h : Heap) (p1 p2 : Addr) : Heap := (G2 h p1 p2).push { cls := .type "tuple", data := .seq #[.ref h.objs.size, .ref (G1 h p1).objs.size] }
abbrev G4 (h : Heap) (p1 p2 : Addr) : Heap := (G3 h p1 p2).push { cls := .type "tuple", data := .seq #[.none, .none] }
abbrev G5 (h : Heap) (p1 p2 : Addr) : Heap := (G4 h p1 p2).push { cls := .type "zip", data := .fields #[.none, .bool false, .bool false, .ref (G2 h p1 p2).objs.size, .ref (G3 h p1 p2).objs.size] }
theorem made (p1 p2 : Addr) (v1 v2 : Array Value) : Meets (Builtin.«zip.__new__» ⟨[.type "zip", .ref p1, .ref p2], []⟩) (fun _ R s => s.heap.IsTuple p1 v1 ∧ s.heap.IsTuple p2 v2 ∧ R (.ok (.ret (.ref (G4 s.heap p1 p2).objs.size))) { s with heap := G5 s.heap p1 p2 }) :=
  .of_wp fun prog w A R s h => by
    obtain ⟨hp, g, d, tk, os⟩ := s; obtain ⟨t1, t2, h⟩ := h
    have hsub := sub_zip
    have L1 : Heap.IsTuple (Shared.heap ⟨hp, g, d, tk, os⟩) p1 v1 := t1
    have L2 : Heap.IsTuple (Shared.heap ⟨hp.push { cls := .type "tuple_iterator", data := .fields #[.ref p1, .int 0 0] }, g, d, tk, os⟩) p2 v2 := Heap.IsTuple.push t2 _
    wp_walk using wpAny_pyIter_tuple L1, wpAny_pyIter_tuple L2
    exact ⟨_, rfl, h⟩
theorem callZip {p1 p2 : Addr} {v1 v2 : Array Value} {Q : Value → Shared → Prop} (t1 : s.heap.IsTuple p1 v1) (t2 : s.heap.IsTuple p2 v2)
    (k : ∀ g, IsZip g (s.heap.objs.size + 4) (s.heap.objs.size + 2) (s.heap.objs.size + 3) .none → IsPair g (s.heap.objs.size + 2) (.ref s.heap.objs.size) (.ref (s.heap.objs.size + 1)) → IsPair g (s.heap.objs.size + 3) .none .none →
      g.IsTupleIter s.heap.objs.size p1 0 → g.IsTupleIter (s.heap.objs.size + 1) p2 0 → g.objs.size = s.heap.objs.size + 5 → (∀ c o, s.heap.get? c = some o → g.get? c = some o) → Q (.ref (s.heap.objs.size + 4)) { s with heap := g }) :
    wpAny (model prog w) A (call (.type "zip") [.ref p1, .ref p2]) Q E s := by
  refine callType_new F.called_zip (by decide) (F.typeCall_zip_2 _ _) (F.newCall_zip_2 _ _) (fun obj => F.args_object_init_3 obj _ _) F.entry_zip_new (made p1 p2 v1 v2) ⟨t1, t2, ?_⟩
  have y1 : (G1 s.heap p1).objs.size = s.heap.objs.size + 1 := Heap.size_push ..
  have y2 : (G2 s.heap p1 p2).objs.size = s.heap.objs.size + 2 := by rw [Heap.size_push, y1]
  have y3 : (G3 s.heap p1 p2).objs.size = s.heap.objs.size + 3 := by rw [Heap.size_push, y2]
  have y4 : (G4 s.heap p1 p2).objs.size = s.heap.objs.size + 4 := by rw [Heap.size_push, y3]
  have y5 : (G5 s.heap p1 p2).objs.size = s.heap.objs.size + 5 := by rw [Heap.size_push, y4]
  have g5 : (G5 s.heap p1 p2).get? (G4 s.heap p1 p2).objs.size = some _ := Heap.get?_push_size _ rfl
  have g4 : (G5 s.heap p1 p2).get? (G3 s.heap p1 p2).objs.size = some _ := Heap.get?_push_of_some _ (Heap.get?_push_size _ rfl)
  have g3 : (G5 s.heap p1 p2).get? (G2 s.heap p1 p2).objs.size = some _ := Heap.get?_push_of_some _ (Heap.get?_push_of_some _ (Heap.get?_push_size _ rfl))
  have g2 : (G5 s.heap p1 p2).get? (G1 s.heap p1).objs.size = some _ := Heap.get?_push_of_some _ (Heap.get?_push_of_some _ (Heap.get?_push_of_some _ (Heap.get?_push_size _ rfl)))
  have g1 : (G5 s.heap p1 p2).get? s.heap.objs.size = some _ := Heap.get?_push_of_some _ (Heap.get?_push_of_some _ (Heap.get?_push_of_some _ (Heap.get?_push_of_some _ (Heap.get?_push_size _ rfl))))
  show _ ∧ _
  rw [y2, y3, y4] at g5; rw [y1, y2] at g3; rw [y3] at g4; rw [y1] at g2; rw [y4]
  exact ⟨⟨_, g5, rfl⟩, k _ g5 g3 g4 ⟨_, g1, rfl, rfl⟩ ⟨_, g2, rfl, rfl⟩ y5 fun c o x => Heap.get?_push_of_some _ (Heap.get?_push_of_some _ (Heap.get?_push_of_some _ (Heap.get?_push_of_some _ (Heap.get?_push_of_some _ x))))⟩
end
end ZT
namespace L2
open PySem PySem.Spec PyProof.Rows
/-- the tuples at a and b, the items in new pairs -/
def ItzT (K : PySem.W.Frag) (a b : Addr) : It :=
  ⟨fun i H => ∃ (xs ys : List V) (x y : V), SqT K H a xs ∧ SqT K H b ys ∧ xs[i]? = some x ∧ ys[i]? = some y,
    fun i H v G => ∃ T x y, v = .ref T ∧ H T = none ∧ G = upd H T (.tup [x, y]) ∧ (∀ xs, SqT K H a xs → xs[i]? = some x) ∧ ∀ ys, SqT K H b ys → ys[i]? = some y,
    fun i H => ∃ xs ys : List V, SqT K H a xs ∧ SqT K H b ys ∧ (xs.length ≤ i ∨ ys.length ≤ i)⟩
theorem turn_zipT {P : Program} {w : World} {K : PySem.W.Frag} {elts : List Expr} {kk : Nat} {tpos : Pos} {a b z ti tO j1 j2 : Addr} (D : ZipApart z ti tO j1 j2 a b) :
    Turn P w K (.Tuple elts kk tpos) (ItzT K a b) [z, ti, tO, j1, j2] z (fun i h => IsZip h z ti tO .none ∧ IsPair h ti (.ref j1) (.ref j2) ∧ (∃ x y, IsPair h tO x y) ∧ h.IsTupleIter j1 a i ∧ h.IsTupleIter j2 b i) where
  mem := by simp
  obj := fun i h ⟨hz, hi, ⟨x, y, ho⟩, ⟨o1, e1, _, d1⟩, ⟨o2, e2, _, d2⟩⟩ c hc => by
    have q : c = z ∨ c = ti ∨ c = tO ∨ c = j1 ∨ c = j2 := by simpa using hc
    rcases q with rfl | rfl | rfl | rfl | rfl
    · exact ⟨_, hz, fun v q => nomatch q⟩
    · exact ⟨_, hi, fun v q => nomatch q⟩
    · exact ⟨_, ho, fun v q => nomatch q⟩
    · exact ⟨o1, e1, fun v q => by rw [d1] at q; cases q⟩
    · exact ⟨o2, e2, fun v q => by rw [d2] at q; cases q⟩
  keep := fun i h g ⟨hz, hi, ⟨x, y, ho⟩, h1, h2⟩ k => ⟨k z (by simp) _ hz, k ti (by simp) _ hi, ⟨x, y, k tO (by simp) _ ho⟩, h1.at fun o q => k j1 (by simp) o q, h2.at fun o q => k j2 (by simp) o q⟩
  item := by
    intro X hP hw hK hc i pins s σ H E I hf st hg
    subst hP hw hK
    obtain ⟨hz, hi, ho, h1, h2⟩ := st
    obtain ⟨xs, ys, x, y, hqx, hqy, hx, hy⟩ := hg
    obtain ⟨its, rv, p, _⟩ := I.tuple hqx
    obtain ⟨jts, rw', q, _⟩ := I.tuple hqy
    obtain ⟨u, hu, ru⟩ := rv.get hx
    obtain ⟨u', hu', ru'⟩ := rw'.get hy
    have lz : z < s.heap.objs.size := Heap.lt_size hz
    refine ZT.pyItem D ⟨hz, hi, ho, h1, h2, p, q⟩ (x := u) (y := u') (by simpa using hu) (by simpa using hu') fun g z' o' h1' h2' hT hsz hk => ?_
    refine ⟨_, rfl, wpAny_letOwnedTupleGo_zip (s := { s with heap := g }) z' fun g' z'' sb => ?_⟩
    have T2 : g'.get? s.heap.objs.size = some { cls := .type "tuple", data := .seq #[u, u'] } := (sb.2 _ (Nat.ne_of_gt lz)).trans hT
    have new : ObjOk X.prog X.w (upd H s.heap.objs.size (.tup [x, y])) g' s.heap.objs.size (.tup [x, y]) := ⟨by show 2 ≤ sizeLine; decide, [u, u'], .cons ru (.cons ru' .nil), ⟨_, T2, rfl, _, rfl⟩⟩
    have kp : ∀ c o, c ∉ [z, ti, tO, j1, j2] → s.heap.get? c = some o → g'.get? c = some o := fun c o hb e => by
      have n : c ≠ z ∧ c ≠ ti ∧ c ≠ tO ∧ c ≠ j1 ∧ c ≠ j2 := by simpa using hb
      exact (sb.2 c n.1).trans (hk c o n.1 n.2.2.1 n.2.2.2.1 n.2.2.2.2 e)
    have I1 : Inv X pins σ (upd H s.heap.objs.size (.tup [x, y])) { s with heap := g' } := I.turnedNew (t' := s.toks) (ch := [z, ti, tO, j1, j2]) kp hf (Nat.le_refl _) new
    refine ⟨.ref s.heap.objs.size, _, I1, rfl, ⟨_, x, y, rfl, I.hok.fresh (Nat.le_refl _), rfl, fun l hl => by rw [I.tuple_inj hl hqx]; exact hx, fun l hl => by rw [I.tuple_inj hl hqy]; exact hy⟩, ⟨z'', ?_, ⟨u, u', ?_⟩, ?_, ?_⟩, fun c hcm => ?_⟩
    · exact (sb.2 _ D.TIz).trans (hk _ _ D.TIz D.TITO D.TIi1 D.TIi2 hi)
    · exact (sb.2 _ D.TOz).trans o'
    · exact h1'.at fun o q => (sb.2 _ D.i1z).trans q
    · exact h2'.at fun o q => (sb.2 _ D.i2z).trans q
    · have lt : c < s.heap.objs.size := by
        obtain ⟨x0, y0, ho⟩ := ho
        have e' : c = z ∨ c = ti ∨ c = tO ∨ c = j1 ∨ c = j2 := by simpa using hcm
        rcases e' with rfl | rfl | rfl | rfl | rfl
        · exact lz
        · exact Heap.lt_size hi
        · exact Heap.lt_size ho
        · obtain ⟨_, e1, _⟩ := h1; exact Heap.lt_size e1
        · obtain ⟨_, e2, _⟩ := h2; exact Heap.lt_size e2
      rw [upd_ne (Nat.ne_of_lt lt)]
      exact (hf c hcm).1
  done := by
    intro X hP hw hK hc i pins s σ H E I hf st hg
    subst hP hw hK
    obtain ⟨hz, hi, ho, h1, h2⟩ := st
    obtain ⟨xs, ys, hqx, hqy, hend⟩ := hg
    obtain ⟨its, rv, p, _⟩ := I.tuple hqx
    obtain ⟨jts, rw', q, _⟩ := I.tuple hqy
    have l1 := rv.length
    have l2 := rw'.length
    have he : its.toArray[i]? = none ∨ jts.toArray[i]? = none := hend.elim (fun q => .inl (by simp; omega)) fun q => .inr (by simp; omega)
    refine ZT.pyEnd (I.ok.hd hc) D ⟨hz, hi, ho, h1, h2, p, q⟩ he fun g hk => ⟨rfl, I.turnedL (t' := s.toks) (ch := [z, ti, tO, j1, j2]) (fun c o hb e => ?_) hf⟩
    have n : c ≠ z ∧ c ≠ ti ∧ c ≠ tO ∧ c ≠ j1 ∧ c ≠ j2 := by simpa using hb
    exact hk c o n.1 n.2.2.1 n.2.2.2.1 n.2.2.2.2 e
  self := fun A i s Q E st h => wpAny_pyIter_zip st.1 h
def iZipT (K : PySem.W.Frag) (ta : TA) : TI := fun σ H R => ta σ H fun vs H1 => ∃ a b xs ys, vs = [.ref a, .ref b] ∧ SqT K H1 a xs ∧ SqT K H1 b ys ∧ R (ItzT K a b) H1
theorem pi_zipT {X : Cx} {e e2 : Expr} {ta : TA} {p pos tpos : Pos} {elts : List Expr} {kk : Nat} (hg : Gl X "zip") (hm : X.mg "zip" = none) (ha : PA X [e, e2] ta)
    (hs : starEach [e, e2] X.env = (false, eval e X.env) :: starEach [e2] X.env := by rfl) (hpl : (backTo pos (starEach [e2] X.env)).any (·.1) = false := by rfl) : PI X (.Tuple elts kk tpos) (.Call (.Name "zip" p) [e, e2] [] pos) (iZipT X.K ta) := by
  intro pins s σ H R I h
  refine Call_ (ld_blt I hg hm boot_zip5 (PyProof.Rows.callWith_type1 (thn (ha pos pins s σ H _ I h) fun us s1 ⟨vs, H1, I1, r1, a, b, xs, ys, ex, hqx, hqy, q⟩ => ?_) hs hpl))
  subst ex
  cases r1 with
  | cons r rr =>
    cases rr with
    | cons r' rr =>
      cases rr
      cases r
      cases r'
      obtain ⟨its, rv, p1, _⟩ := I1.tuple hqx
      obtain ⟨jts, rw', p2, _⟩ := I1.tuple hqy
      have la : a < s1.heap.objs.size := by obtain ⟨_, e, _⟩ := p1; exact Heap.lt_size e
      have lb : b < s1.heap.objs.size := by obtain ⟨_, e, _⟩ := p2; exact Heap.lt_size e
      refine ZT.callZip p1 p2 fun g hz hi ho h1 h2 hsz hk => wpAny_pyIter_zip hz ?_
      refine ⟨s1.heap.objs.size + 4, [s1.heap.objs.size + 4, s1.heap.objs.size + 2, s1.heap.objs.size + 3, s1.heap.objs.size, s1.heap.objs.size + 1], _, _, H1, rfl, I1.kept (t' := s1.toks) hk, turn_zipT (PySem.W.ktu_apart s1.heap.objs.size a b la lb), ⟨hz, hi, ⟨_, _, ho⟩, h1, h2⟩, fun c hcm => ?_, q⟩
      have hle : s1.heap.objs.size ≤ c := by
        have e' : c = s1.heap.objs.size + 4 ∨ c = s1.heap.objs.size + 2 ∨ c = s1.heap.objs.size + 3 ∨ c = s1.heap.objs.size ∨ c = s1.heap.objs.size + 1 := by simpa using hcm
        rcases e' with rfl | rfl | rfl | rfl | rfl
        all_goals first | exact Nat.le_refl _ | exact Nat.le_add_right _ _
      exact I1.fpOk hle (I1.hok.fresh hle)
/-! the forms of a loop over a zip -/
theorem for_zip {K : PySem.W.Frag} {a b : Addr} {xs ys : List V} {g : TG} {tb : TS} {D : Ends} {σ : St} {H : Hp} (hlen : xs.length = ys.length) (Pv : Nat → St → Hp → Prop) (h0 : Pv 0 σ H) (hl : ∀ i σ H, i ≤ xs.length → Pv i σ H → SqL K H a xs ∧ SqL K H b ys)
    (hs : ∀ i x y T σ H, xs[i]? = some x → ys[i]? = some y → H T = none → Pv i σ H → g (.ref T) σ (upd H T (.tup [x, y])) fun σ2 H2 => tb { D with nx := Pv (i + 1), ct := Pv (i + 1), bk := D.nx } σ2 H2) (hd : ∀ σ H, Pv xs.length σ H → D.nx σ H) :
    ∃ W : Nat → Nat → St → Hp → Prop, (∃ m, W 0 m σ H) ∧ ∀ i m σ H, W i m σ H →
      ((Itz K a b).stop i H ∧ D.nx σ H) ∨ ((Itz K a b).go i H ∧ ∃ N : St → Hp → Prop, (∀ τ G, N τ G → ∃ m', m' < m ∧ W (i + 1) m' τ G) ∧ ∀ x G, (Itz K a b).yld i H x G → g x σ G fun σ2 H2 => tb { D with nx := N, ct := N, bk := D.nx } σ2 H2) := by
  refine ⟨fun i m σ H => m = xs.length - i ∧ i ≤ xs.length ∧ Pv i σ H, ⟨xs.length, by simp, Nat.zero_le _, h0⟩, ?_⟩
  rintro i m σ H ⟨rfl, hi, p⟩
  obtain ⟨q1, q2⟩ := hl i σ H hi p
  by_cases hlt : i < xs.length
  · have hlt2 : i < ys.length := by omega
    refine .inr ⟨⟨xs, ys, xs[i], ys[i], q1, q2, by simp [hlt], by simp [hlt2]⟩, Pv (i + 1), fun τ G p' => ⟨xs.length - (i + 1), by omega, rfl, hlt, p'⟩, fun x G y => ?_⟩
    obtain ⟨T, x1, y1, rfl, hT, rfl, e1, e2⟩ := y
    exact hs i x1 y1 T σ H (e1 xs q1) (e2 ys q2) hT p
  · have e : i = xs.length := by omega
    subst e
    exact .inl ⟨⟨xs, ys, q1, q2, .inl (Nat.le_refl _)⟩, hd σ H p⟩
theorem for_zipT {K : PySem.W.Frag} {a b : Addr} {xs ys : List V} {g : TG} {tb : TS} {D : Ends} {σ : St} {H : Hp} (hlen : xs.length = ys.length) (Pv : Nat → St → Hp → Prop) (h0 : Pv 0 σ H) (hl : ∀ i σ H, i ≤ xs.length → Pv i σ H → SqT K H a xs ∧ SqT K H b ys)
    (hs : ∀ i x y T σ H, xs[i]? = some x → ys[i]? = some y → H T = none → Pv i σ H → g (.ref T) σ (upd H T (.tup [x, y])) fun σ2 H2 => tb { D with nx := Pv (i + 1), ct := Pv (i + 1), bk := D.nx } σ2 H2) (hd : ∀ σ H, Pv xs.length σ H → D.nx σ H) :
    ∃ W : Nat → Nat → St → Hp → Prop, (∃ m, W 0 m σ H) ∧ ∀ i m σ H, W i m σ H →
      ((ItzT K a b).stop i H ∧ D.nx σ H) ∨ ((ItzT K a b).go i H ∧ ∃ N : St → Hp → Prop, (∀ τ G, N τ G → ∃ m', m' < m ∧ W (i + 1) m' τ G) ∧ ∀ x G, (ItzT K a b).yld i H x G → g x σ G fun σ2 H2 => tb { D with nx := N, ct := N, bk := D.nx } σ2 H2) := by
  refine ⟨fun i m σ H => m = xs.length - i ∧ i ≤ xs.length ∧ Pv i σ H, ⟨xs.length, by simp, Nat.zero_le _, h0⟩, ?_⟩
  rintro i m σ H ⟨rfl, hi, p⟩
  obtain ⟨q1, q2⟩ := hl i σ H hi p
  by_cases hlt : i < xs.length
  · have hlt2 : i < ys.length := by omega
    refine .inr ⟨⟨xs, ys, xs[i], ys[i], q1, q2, by simp [hlt], by simp [hlt2]⟩, Pv (i + 1), fun τ G p' => ⟨xs.length - (i + 1), by omega, rfl, hlt, p'⟩, fun x G y => ?_⟩
    obtain ⟨T, x1, y1, rfl, hT, rfl, e1, e2⟩ := y
    exact hs i x1 y1 T σ H (e1 xs q1) (e2 ys q2) hT p
  · have e : i = xs.length := by omega
    subst e
    exact .inl ⟨⟨xs, ys, q1, q2, .inl (Nat.le_refl _)⟩, hd σ H p⟩
end L2

end
section
set_option linter.all false
namespace Mth
open Kp291 Kp294
/-! binomials -/
def bin : Nat → Nat → Nat
  | _, 0 => 1
  | 0, _ + 1 => 0
  | n + 1, k + 1 => bin n k + bin n (k + 1)
theorem bin_zero (n : Nat) : bin n 0 = 1 := by cases n <;> rfl
theorem bin_over : ∀ (n k : Nat), n < k → bin n k = 0
  | _, 0, h => absurd h (Nat.not_lt_zero _)
  | 0, _ + 1, _ => rfl
  | n + 1, k + 1, h => by
    show bin n k + bin n (k + 1) = 0
    rw [bin_over n k (by omega), bin_over n (k + 1) (by omega)]
theorem bin_self : ∀ n : Nat, bin n n = 1
  | 0 => rfl
  | n + 1 => by
    show bin n n + bin n (n + 1) = 1
    rw [bin_self n, bin_over n (n + 1) (by omega)]
/-- (k + 1) C(n + 1, k + 1) = (n + 1) C(n, k) -/
theorem bin_up : ∀ (n k : Nat), bin (n + 1) (k + 1) * (k + 1) = (n + 1) * bin n k
  | 0, 0 => rfl
  | 0, k + 1 => by
    rw [bin_over 1 (k + 2) (by omega), bin_over 0 (k + 1) (by omega)]; simp
  | n + 1, 0 => by
    have h := bin_up n 0
    show (bin (n + 1) 0 + bin (n + 1) 1) * 1 = (n + 1 + 1) * bin (n + 1) 0
    rw [bin_zero] at *
    rw [Nat.zero_add, Nat.mul_one, Nat.mul_one] at h
    omega
  | n + 1, k + 1 => by
    have h1 := bin_up n k
    have h2 := bin_up n (k + 1)
    have e1 : bin (n + 2) (k + 2) = bin (n + 1) (k + 1) + bin (n + 1) (k + 2) := rfl
    have e2 : bin (n + 1) (k + 1) = bin n k + bin n (k + 1) := rfl
    show bin (n + 2) (k + 2) * (k + 2) = (n + 2) * bin (n + 1) (k + 1)
    have h3 : bin (n + 1) (k + 1) * (k + 2) = (n + 1) * bin n k + bin (n + 1) (k + 1) := by
      rw [Nat.mul_succ, h1]
    rw [e1, Nat.add_mul, h3, h2, Nat.add_mul (n + 1) 1]
    rw [show (n + 1) * bin (n + 1) (k + 1) = (n + 1) * bin n k + (n + 1) * bin n (k + 1) by rw [e2, Nat.mul_add]]
    omega
/-- C(n, k) (n - k) = C(n, k + 1) (k + 1) -/
theorem bin_next : ∀ (n k : Nat), bin n k * (n - k) = bin n (k + 1) * (k + 1)
  | 0, k => by rw [bin_over 0 (k + 1) (by omega)]; simp
  | n + 1, k => by
    have h1 := bin_up n k
    have e1 : bin (n + 1) (k + 1) = bin n k + bin n (k + 1) := rfl
    rw [h1]
    rcases Nat.lt_or_ge n k with h | h
    · rw [bin_over n k h]
      rcases Nat.lt_or_ge (n + 1) k with h' | h'
      · rw [bin_over (n + 1) k h']; simp
      · rw [show n + 1 - k = 0 by omega]; simp
    · cases k with
      | zero => rw [bin_zero, bin_zero]; omega
      | succ k =>
        have h2 := bin_next n k
        have e2 : bin (n + 1) (k + 1) = bin n k + bin n (k + 1) := rfl
        rw [e2, Nat.add_mul]
        rw [show n + 1 - (k + 1) = n - k by omega, h2]
        rw [← Nat.mul_add, Nat.mul_comm]
        congr 1
        omega
theorem choose_bin (n : Nat) : ∀ k : Nat, choose n k = bin n k
  | 0 => by rw [bin_zero]; rfl
  | k + 1 => by
    have ih := choose_bin n k
    unfold choose at ih ⊢
    rw [List.range_succ, List.foldl_append, ih]
    show bin n k * (n - k) / (k + 1) = bin n (k + 1)
    rw [bin_next]
    exact Nat.mul_div_cancel _ (by omega)
theorem fact_pos : ∀ n : Nat, 0 < fact n
  | 0 => by decide
  | n + 1 => Nat.mul_pos (by omega) (fact_pos n)
/-- C(a + k, k) a! k! = (a + k)! -/
theorem bin_fact (a : Nat) : ∀ k : Nat, bin (a + k) k * (fact a * fact k) = fact (a + k)
  | 0 => by rw [bin_zero]; simp [fact]
  | k + 1 => by
    have ih := bin_fact a k
    have h := bin_up (a + k) k
    show bin (a + k + 1) (k + 1) * (fact a * ((k + 1) * fact k)) = (a + k + 1) * fact (a + k)
    rw [← ih, ← Nat.mul_assoc (a + k + 1), ← h]
    simp only [Nat.mul_assoc, Nat.mul_left_comm, Nat.mul_comm]
/-! sums -/
theorem sum_foldl : ∀ (l : List Nat) (a : Nat), l.foldl (fun (a b : Nat) => a + b) a = a + l.foldl (fun (a b : Nat) => a + b) 0
  | [], a => rfl
  | x :: l, a => by
    rw [List.foldl_cons, List.foldl_cons, sum_foldl l (a + x), sum_foldl l (0 + x)]; omega
theorem sum_nil : Kp291.sum [] = 0 := rfl
theorem sum_cons (x : Nat) (l : List Nat) : Kp291.sum (x :: l) = x + Kp291.sum l := by
  show (x :: l).foldl _ 0 = _
  rw [List.foldl_cons, sum_foldl, Nat.zero_add]; rfl
theorem sum_append : ∀ (l m : List Nat), Kp291.sum (l ++ m) = Kp291.sum l + Kp291.sum m
  | [], m => by rw [sum_nil, Nat.zero_add]; rfl
  | x :: l, m => by rw [List.cons_append, sum_cons, sum_cons, sum_append l m, Nat.add_assoc]
def facts : List Nat → Nat
  | [] => 1
  | k :: l => fact k * facts l
theorem facts_pos : ∀ l : List Nat, 0 < facts l
  | [] => by decide
  | k :: l => Nat.mul_pos (fact_pos k) (facts_pos l)
theorem facts_append : ∀ (l m : List Nat), facts (l ++ m) = facts l * facts m
  | [], m => by show facts m = 1 * facts m; rw [Nat.one_mul]
  | x :: l, m => by
    show fact x * facts (l ++ m) = fact x * facts l * facts m
    rw [facts_append l m, Nat.mul_assoc]
theorem orders_facts : ∀ l : List Nat, orders l * facts l = fact (Kp291.sum l)
  | [] => rfl
  | k :: l => by
    have ih := orders_facts l
    show choose (k + Kp291.sum l) k * orders l * (fact k * facts l) = fact (Kp291.sum (k :: l))
    rw [choose_bin, sum_cons, Nat.add_comm k, ← bin_fact (Kp291.sum l) k, ← ih]
    simp only [Nat.mul_assoc, Nat.mul_left_comm, Nat.mul_comm]
/-- what the program has behind so many of the list -/
theorem orders_snoc (l : List Nat) (k : Nat) : orders (l ++ [k]) = orders l * bin (Kp291.sum l + k) k := by
  have h1 := orders_facts (l ++ [k])
  have h2 := orders_facts l
  have h3 := bin_fact (Kp291.sum l) k
  have p : 0 < facts (l ++ [k]) := facts_pos _
  refine Nat.eq_of_mul_eq_mul_right p ?_
  rw [h1, sum_append, sum_cons, sum_nil, Nat.add_zero, ← h3, ← h2, facts_append]
  show _ = _ * (facts l * (fact k * 1))
  simp only [Nat.mul_one, Nat.mul_assoc, Nat.mul_left_comm, Nat.mul_comm]
/-- one turn of the inner loop -/
theorem orders_turn (w p k : Nat) : w * bin (p + k) k * (p + k + 1) / (k + 1) = w * bin (p + (k + 1)) (k + 1) := by
  have h := bin_up (p + k) k
  rw [Nat.mul_assoc, Nat.mul_comm (bin (p + k) k), ← h, ← Nat.mul_assoc]
  exact Nat.mul_div_cancel _ (by omega)
theorem orders_two (n k : Nat) (h : k ≤ n) : orders [k, n - k] = choose n k := by
  show choose (k + Kp291.sum [n - k]) k * (choose (n - k + Kp291.sum []) (n - k) * 1) = _
  rw [sum_cons, sum_nil, Nat.add_zero, choose_bin (n - k), bin_self]
  rw [show k + (n - k) = n by omega]; simp
end Mth

end
section
set_option linter.all false
namespace Mth
open Kp291 Kp294
/-! the urn's bounds -/
structure Ok (u : Urn) : Prop where
  len : u.balls.length ≤ 4
  more : u.more ≤ 5
  dl : u.drawn.length ≤ 60
  dr : ∀ i ∈ u.drawn, i < u.balls.length
  bal : ∀ i, i < u.balls.length → ∃ b0, b0 ≤ 10 ∧ (i ∈ u.drawn → 0 < b0) ∧ u.balls.getD i 0 = b0 + u.more * u.drawn.count i
theorem Ok.ball {u : Urn} (k : Ok u) (i : Nat) : u.balls.getD i 0 ≤ 310 := by
  rcases Nat.lt_or_ge i u.balls.length with h | h
  · obtain ⟨b0, h0, _, e⟩ := k.bal i h
    rw [e]
    have h1 : u.drawn.count i ≤ u.drawn.length := List.count_le_length
    have h2 : u.more * u.drawn.count i ≤ 5 * 60 := Nat.mul_le_mul k.more (Nat.le_trans h1 k.dl)
    omega
  · rw [List.getD_eq_getElem?_getD, List.getElem?_eq_none h]
    exact Nat.zero_le _
theorem Ok.ball_mem {u : Urn} (k : Ok u) {x : Nat} (h : x ∈ u.balls) : x ≤ 310 := by
  obtain ⟨i, hi, e⟩ := List.getElem_of_mem h
  have q := k.ball i
  rw [List.getD_eq_getElem?_getD, List.getElem?_eq_getElem hi] at q
  rw [← e]
  exact q
theorem sum_bound {b : Nat} : ∀ l : List Nat, (∀ x ∈ l, x ≤ b) → Kp291.sum l ≤ l.length * b
  | [], _ => by rw [sum_nil]; exact Nat.zero_le _
  | x :: l, h => by
    have h1 := sum_bound l fun y hy => h y (List.mem_cons_of_mem _ hy)
    have h2 := h x List.mem_cons_self
    rw [sum_cons, List.length_cons, Nat.succ_mul]
    omega
theorem Ok.all {u : Urn} (k : Ok u) : Kp294.all u ≤ 1240 := by
  have h := sum_bound u.balls fun x hx => k.ball_mem hx
  have h2 : u.balls.length * 310 ≤ 4 * 310 := Nat.mul_le_mul_right _ k.len
  show Kp291.sum u.balls ≤ 1240
  omega
theorem mem_sum {x : Nat} : ∀ {l : List Nat}, x ∈ l → x ≤ Kp291.sum l
  | y :: l, h => by
    rw [sum_cons]
    rcases List.mem_cons.mp h with e | h
    · omega
    · have := mem_sum h; omega
theorem getD_sum (l : List Nat) (i : Nat) : l.getD i 0 ≤ Kp291.sum l := by
  rcases Nat.lt_or_ge i l.length with h | h
  · rw [List.getD_eq_getElem?_getD, List.getElem?_eq_getElem h]
    exact mem_sum (List.getElem_mem h)
  · rw [List.getD_eq_getElem?_getD, List.getElem?_eq_none h]
    exact Nat.zero_le _
theorem Ok.new {d : Nat} (h : d ≤ 5) : Ok ⟨[], d, []⟩ := ⟨by show 0 ≤ 4; omega, h, by show 0 ≤ 60; omega, fun i hi => absurd hi (by simp), fun i hi => absurd hi (Nat.not_lt_zero _)⟩
theorem getD_append_left {l : List Nat} {n i : Nat} (h : i < l.length) : (l ++ [n]).getD i 0 = l.getD i 0 := by
  rw [List.getD_eq_getElem?_getD, List.getD_eq_getElem?_getD, List.getElem?_append_left h]
theorem getD_append_end {l : List Nat} {n : Nat} : (l ++ [n]).getD l.length 0 = n := by
  rw [List.getD_eq_getElem?_getD, List.getElem?_append_right (Nat.le_refl _), Nat.sub_self]; rfl
theorem Ok.colour {u : Urn} (k : Ok u) {n : Nat} (hd : u.drawn = []) (hn : n ≤ 10) (hl : u.balls.length < 4) : Ok { u with balls := u.balls ++ [n] } := by
  refine ⟨by show (u.balls ++ [n]).length ≤ 4; rw [List.length_append]; simp; omega, k.more, k.dl, fun i hi => ?_, fun i hi => ?_⟩
  · have := k.dr i hi
    show i < (u.balls ++ [n]).length
    rw [List.length_append]; omega
  · show ∃ b0, b0 ≤ 10 ∧ (i ∈ u.drawn → 0 < b0) ∧ (u.balls ++ [n]).getD i 0 = b0 + u.more * u.drawn.count i
    have hi' : i < u.balls.length + 1 := by have h : i < (u.balls ++ [n]).length := hi; rw [List.length_append] at h; exact h
    rcases Nat.lt_or_ge i u.balls.length with h | h
    · obtain ⟨b0, h0, hp, e⟩ := k.bal i h
      exact ⟨b0, h0, hp, by rw [getD_append_left h, e]⟩
    · have e : i = u.balls.length := by omega
      subst e
      exact ⟨n, hn, fun q => absurd (k.dr _ q) (Nat.lt_irrefl _), by rw [getD_append_end, hd]; simp⟩
theorem Ok.moreSet {u : Urn} (k : Ok u) {d : Nat} (hd : u.drawn = []) (h : d ≤ 5) : Ok { u with more := d } := by
  refine ⟨k.len, h, k.dl, k.dr, fun i hi => ?_⟩
  obtain ⟨b0, h0, hp, e⟩ := k.bal i hi
  refine ⟨b0, h0, hp, ?_⟩
  show u.balls.getD i 0 = b0 + d * u.drawn.count i
  rw [e, hd]; simp
theorem getD_set_same {l : List Nat} {i x : Nat} (h : i < l.length) : (l.set i x).getD i 0 = x := by
  rw [List.getD_eq_getElem?_getD, List.getElem?_set_self h]; rfl
theorem getD_set_ne {l : List Nat} {i j x : Nat} (h : i ≠ j) : (l.set i x).getD j 0 = l.getD j 0 := by
  rw [List.getD_eq_getElem?_getD, List.getD_eq_getElem?_getD, List.getElem?_set_ne h]
theorem Ok.put {u : Urn} (k : Ok u) {i : Nat} (hi : i < u.balls.length) (h0 : ¬ u.balls.getD i 0 = 0) (hl : u.drawn.length < 60) : Ok (Kp294.put u i) := by
  refine ⟨by show (u.balls.set i _).length ≤ 4; rw [List.length_set]; exact k.len, k.more, by show (u.drawn ++ [i]).length ≤ 60; rw [List.length_append]; exact hl, fun j hj => ?_, fun j hj => ?_⟩
  · have hj' : j ∈ u.drawn ++ [i] := hj
    show j < (u.balls.set i _).length
    rw [List.length_set]
    rcases List.mem_append.mp hj' with h | h
    · exact k.dr j h
    · have e : j = i := by simpa using h
      rw [e]; exact hi
  · have hj' : j < u.balls.length := by have h : j < (u.balls.set i _).length := hj; rw [List.length_set] at h; exact h
    obtain ⟨b0, hb, hp, e⟩ := k.bal j hj'
    refine ⟨b0, hb, fun q => ?_, ?_⟩
    · have q' : j ∈ u.drawn ++ [i] := q
      rcases List.mem_append.mp q' with q | q
      · exact hp q
      · have e1 : j = i := by simpa using q
        subst e1
        by_cases z : j ∈ u.drawn
        · exact hp z
        · rw [List.count_eq_zero_of_not_mem z] at e
          omega
    show (u.balls.set i (u.balls.getD i 0 + u.more)).getD j 0 = b0 + u.more * (u.drawn ++ [i]).count j
    rw [List.count_append]
    by_cases h : i = j
    · subst h
      rw [getD_set_same hi, e, show List.count i [i] = 1 by simp, Nat.mul_add, Nat.mul_one, Nat.add_assoc]
    · rw [getD_set_ne h, e, show List.count j [i] = 0 by simp [h], Nat.add_zero]
theorem last_split {l : List Nat} {i : Nat} (h : l.getLast? = some i) : l = l.dropLast ++ [i] := by
  cases l with
  | nil => cases h
  | cons a r =>
    rw [List.getLast?_eq_some_getLast (by simp : a :: r ≠ [])] at h
    have e := List.dropLast_concat_getLast (by simp : a :: r ≠ [])
    rw [Option.some.inj h] at e
    exact e.symm
theorem Ok.back_le {u : Urn} (k : Ok u) {i : Nat} (h : u.drawn.getLast? = some i) : i < u.balls.length ∧ u.more ≤ u.balls.getD i 0 := by
  have e := last_split h
  have hm : i ∈ u.drawn := by rw [e]; simp
  have hi := k.dr i hm
  obtain ⟨b0, h0, _, e2⟩ := k.bal i hi
  refine ⟨hi, ?_⟩
  have hc : 1 ≤ u.drawn.count i := List.count_pos_iff.mpr hm
  have h3 : u.more * 1 ≤ u.more * u.drawn.count i := Nat.mul_le_mul_left _ hc
  omega
theorem undo_eq {u : Urn} {i : Nat} (h : u.drawn.getLast? = some i) : Kp294.undo u = { u with balls := u.balls.set i (u.balls.getD i 0 - u.more), drawn := u.drawn.dropLast } := by
  unfold Kp294.undo
  rw [h]
theorem Ok.undo {u : Urn} (k : Ok u) {i : Nat} (h : u.drawn.getLast? = some i) : Ok (Kp294.undo u) := by
  have e := last_split h
  obtain ⟨hi, hle⟩ := k.back_le h
  rw [undo_eq h]
  refine ⟨by show (u.balls.set i _).length ≤ 4; rw [List.length_set]; exact k.len, k.more, ?_, fun j hj => ?_, fun j hj => ?_⟩
  · show u.drawn.dropLast.length ≤ 60
    have := k.dl
    rw [List.length_dropLast]; omega
  · show j < (u.balls.set i _).length
    rw [List.length_set]
    exact k.dr j (List.dropLast_subset _ hj)
  · have hj' : j < u.balls.length := by have h : j < (u.balls.set i _).length := hj; rw [List.length_set] at h; exact h
    obtain ⟨b0, h0, hp, e2⟩ := k.bal j hj'
    refine ⟨b0, h0, fun q => hp (List.dropLast_subset _ q), ?_⟩
    show (u.balls.set i (u.balls.getD i 0 - u.more)).getD j 0 = b0 + u.more * u.drawn.dropLast.count j
    have ec : u.drawn.count j = u.drawn.dropLast.count j + [i].count j := by
      have := congrArg (List.count j) e
      rw [List.count_append] at this
      exact this
    by_cases q : i = j
    · subst q
      rw [getD_set_same hi, e2, ec, show List.count i [i] = 1 by simp, Nat.mul_add, Nat.mul_one]
      omega
    · rw [getD_set_ne q, e2, ec, show List.count j [i] = 0 by simp [q], Nat.add_zero]
/-! rising products -/
theorem rising_bound {a d : Nat} (ha : a + 20 * d ≤ 4096) : ∀ n, n ≤ 20 → rising a d n ≤ 4096 ^ n
  | 0, _ => by show 1 ≤ _; simp
  | n + 1, h => by
    have ih := rising_bound ha n (by omega)
    show rising a d n * (a + n * d) ≤ 4096 ^ (n + 1)
    rw [Nat.pow_succ]
    refine Nat.mul_le_mul ih ?_
    have : n * d ≤ 20 * d := Nat.mul_le_mul_right _ (by omega)
    omega
theorem rising_lt {a d n : Nat} (ha : a + 20 * d ≤ 4096) (hn : n ≤ 20) : rising a d n < 2 ^ 250 := by
  refine Nat.lt_of_le_of_lt (rising_bound ha n hn) ?_
  refine Nat.lt_of_le_of_lt (Nat.pow_le_pow_right (by decide) hn) (by decide)
theorem rising_pos {a d : Nat} (h : 0 < a) : ∀ n, 0 < rising a d n
  | 0 => by show 0 < 1; decide
  | n + 1 => Nat.mul_pos (rising_pos h n) (by omega)
/-! rows -/
theorem rowUp_cons (u : Urn) (i : Nat) (r : List Nat) : rowUp u (i :: r) = u.balls.getD i 0 * rowUp (put u i) r := rfl
/-- the balls behind a row, as the program has them -/
def behind (more : Nat) : List Nat → List Nat → List Nat
  | b, [] => b
  | b, i :: r => behind more (b.set i (b.getD i 0 + more)) r
theorem rowUp_drawn : ∀ (r : List Nat) (b : List Nat) (m : Nat) (d d' : List Nat), rowUp ⟨b, m, d⟩ r = rowUp ⟨b, m, d'⟩ r
  | [], _, _, _, _ => rfl
  | i :: r, b, m, d, d' => by
    show b.getD i 0 * rowUp ⟨b.set i (b.getD i 0 + m), m, d ++ [i]⟩ r = b.getD i 0 * rowUp ⟨b.set i (b.getD i 0 + m), m, d' ++ [i]⟩ r
    rw [rowUp_drawn r _ m (d ++ [i]) (d' ++ [i])]
/-- what the program multiplies: balls and the weight so far -/
def rowW (more : Nat) : List Nat → List Nat → Nat
  | _, [] => 1
  | b, i :: r => b.getD i 0 * rowW more (b.set i (b.getD i 0 + more)) r
theorem rowUp_W : ∀ (r : List Nat) (b : List Nat) (m : Nat) (d : List Nat), rowUp ⟨b, m, d⟩ r = rowW m b r
  | [], _, _, _ => rfl
  | i :: r, b, m, d => by
    show b.getD i 0 * rowUp ⟨b.set i (b.getD i 0 + m), m, d ++ [i]⟩ r = b.getD i 0 * rowW m (b.set i (b.getD i 0 + m)) r
    rw [rowUp_W r]
theorem rowUp_u (u : Urn) (r : List Nat) : rowUp u r = rowW u.more u.balls r := rowUp_W r u.balls u.more u.drawn
theorem rowW_snoc (m : Nat) : ∀ (r : List Nat) (b : List Nat) (i : Nat), rowW m b (r ++ [i]) = rowW m b r * (behind m b r).getD i 0
  | [], b, i => by show b.getD i 0 * 1 = 1 * b.getD i 0; omega
  | j :: r, b, i => by
    show b.getD j 0 * rowW m _ (r ++ [i]) = b.getD j 0 * rowW m _ r * (behind m _ r).getD i 0
    rw [rowW_snoc m r, Nat.mul_assoc]
theorem behind_snoc (m : Nat) : ∀ (r : List Nat) (b : List Nat) (i : Nat), behind m b (r ++ [i]) = (behind m b r).set i ((behind m b r).getD i 0 + m)
  | [], b, i => rfl
  | j :: r, b, i => behind_snoc m r (b.set j (b.getD j 0 + m)) i
theorem behind_length (m : Nat) : ∀ (r : List Nat) (b : List Nat), (behind m b r).length = b.length
  | [], b => rfl
  | j :: r, b => by
    show (behind m (b.set j (b.getD j 0 + m)) r).length = _
    rw [behind_length m r, List.length_set]
/-- all of it, in bounds -/
theorem behind_le (m : Nat) : ∀ (r : List Nat) (b : List Nat) (B : Nat), (∀ i, b.getD i 0 ≤ B) → ∀ i, (behind m b r).getD i 0 ≤ B + m * r.length
  | [], b, B, h, i => by have := h i; show b.getD i 0 ≤ B + m * 0; omega
  | j :: r, b, B, h, i => by
    have ih := behind_le m r (b.set j (b.getD j 0 + m)) (B + m) (fun k => by
      rcases Nat.lt_or_ge k b.length with hk | hk
      · by_cases e : j = k
        · subst e; rw [getD_set_same hk]; have := h j; omega
        · rw [getD_set_ne e]; have := h k; omega
      · rw [List.getD_eq_getElem?_getD, List.getElem?_eq_none (by rw [List.length_set]; exact hk)]; exact Nat.zero_le _) i
    show (behind m (b.set j (b.getD j 0 + m)) r).getD i 0 ≤ B + m * (r.length + 1)
    rw [Nat.mul_succ]
    omega
theorem rowW_bound (m B : Nat) (r0 : Nat) (hB : B + m * r0 ≤ 4096) : ∀ (r : List Nat) (b : List Nat) (B' : Nat), (∀ i, b.getD i 0 ≤ B') → B' + m * r.length ≤ 4096 → rowW m b r ≤ 4096 ^ r.length
  | [], _, _, _, _ => by show 1 ≤ _; simp
  | j :: r, b, B', h, hb => by
    have hb' : B' + m * (r.length + 1) ≤ 4096 := hb
    rw [Nat.mul_succ] at hb'
    have ih := rowW_bound m B r0 hB r (b.set j (b.getD j 0 + m)) (B' + m) (fun k => by
      rcases Nat.lt_or_ge k b.length with hk | hk
      · by_cases e : j = k
        · subst e; rw [getD_set_same hk]; have := h j; omega
        · rw [getD_set_ne e]; have := h k; omega
      · rw [List.getD_eq_getElem?_getD, List.getElem?_eq_none (by rw [List.length_set]; exact hk)]; exact Nat.zero_le _) (by omega)
    show b.getD j 0 * rowW m _ r ≤ 4096 ^ (r.length + 1)
    rw [Nat.pow_succ, Nat.mul_comm]
    refine Nat.mul_le_mul ih ?_
    have := h j
    omega
/-! counts -/
def prods (m : Nat) : List Nat → List Nat → Nat
  | b :: bs, c :: cs => rising b m c * prods m bs cs
  | _, _ => 1
theorem foldl_mul : ∀ (l : List Nat) (a : Nat), l.foldl (fun (a b : Nat) => a * b) a = a * l.foldl (fun (a b : Nat) => a * b) 1
  | [], a => by show a = a * 1; omega
  | x :: l, a => by rw [List.foldl_cons, List.foldl_cons, foldl_mul l (a * x), foldl_mul l (1 * x), Nat.one_mul, Nat.mul_assoc]
theorem prods_eq (m : Nat) : ∀ (b c : List Nat), b.length = c.length → ((List.range b.length).map fun i => rising (b.getD i 0) m (c.getD i 0)).foldl (fun (a b : Nat) => a * b) 1 = prods m b c
  | [], [], _ => rfl
  | x :: b, y :: c, h => by
    have ih := prods_eq m b c (by simpa using h)
    rw [List.length_cons, List.range_succ_eq_map, List.map_cons, List.foldl_cons, foldl_mul, List.map_map]
    show 1 * rising x m y * _ = rising x m y * prods m b c
    rw [Nat.one_mul, ← ih]
    rfl
theorem countsUp_eq (u : Urn) (c : List Nat) (h : u.balls.length = c.length) : countsUp u c = orders c * prods u.more u.balls c := by
  unfold countsUp nums
  rw [prods_eq u.more u.balls c h]
theorem prods_snoc (m : Nat) : ∀ (b c : List Nat) (i x y : Nat), b[i]? = some x → c[i]? = some y → prods m (b.take (i + 1)) (c.take (i + 1)) = prods m (b.take i) (c.take i) * rising x m y
  | [], _, i, x, y, h, _ => by simp at h
  | _ :: _, [], i, x, y, _, h => by simp at h
  | a :: b, d :: c, 0, x, y, h1, h2 => by
    have e1 : a = x := by simpa using h1
    have e2 : d = y := by simpa using h2
    subst e1 e2
    show rising a m d * prods m (b.take 0) (c.take 0) = 1 * rising a m d
    show rising a m d * 1 = 1 * rising a m d
    omega
  | a :: b, d :: c, i + 1, x, y, h1, h2 => by
    have ih := prods_snoc m b c i x y (by simpa using h1) (by simpa using h2)
    show rising a m d * prods m (b.take (i + 1)) (c.take (i + 1)) = rising a m d * prods m (b.take i) (c.take i) * rising x m y
    rw [ih, Nat.mul_assoc]
theorem prods_bound (m : Nat) : ∀ (b c : List Nat), (∀ x ∈ b, x + 20 * m ≤ 4096) → Kp291.sum c ≤ 20 → prods m b c ≤ 4096 ^ Kp291.sum c
  | [], [], _, _ => by show 1 ≤ _; exact Nat.one_le_pow _ _ (by decide)
  | [], _ :: _, _, _ => by show 1 ≤ _; exact Nat.one_le_pow _ _ (by decide)
  | _ :: _, [], _, _ => by show 1 ≤ _; exact Nat.one_le_pow _ _ (by decide)
  | x :: b, y :: c, h, hc => by
    rw [sum_cons] at hc ⊢
    have ih := prods_bound m b c (fun z hz => h z (List.mem_cons_of_mem _ hz)) (by omega)
    show rising x m y * prods m b c ≤ 4096 ^ (y + Kp291.sum c)
    rw [Nat.pow_add]
    exact Nat.mul_le_mul (rising_bound (h x List.mem_cons_self) y (by omega)) ih
theorem fact_mono : ∀ (k n : Nat), k ≤ n → fact k ≤ fact n
  | k, 0, h => by have e : k = 0 := by omega
                  subst e; exact Nat.le_refl _
  | k, n + 1, h => by
    rcases Nat.eq_or_lt_of_le h with e | h
    · subst e; exact Nat.le_refl _
    · have ih := fact_mono k n (by omega)
      show fact k ≤ (n + 1) * fact n
      exact Nat.le_trans ih (Nat.le_mul_of_pos_left _ (by omega))
theorem orders_le (l : List Nat) : orders l ≤ fact (Kp291.sum l) := by
  rw [← orders_facts l]
  exact Nat.le_mul_of_pos_right _ (facts_pos l)
theorem orders_le8 {l : List Nat} (h : Kp291.sum l ≤ 8) : orders l ≤ 40320 := Nat.le_trans (orders_le l) (fact_mono _ 8 h)
theorem justUp_two (u : Urn) (i n k : Nat) (h : k ≤ n) : justUp u i n k = orders [k, n - k] * prods u.more [u.balls.getD i 0, all u - u.balls.getD i 0] [k, n - k] := by
  unfold justUp
  rw [if_neg (by omega), orders_two n k h]
  show _ = choose n k * (rising _ _ k * (rising _ _ (n - k) * 1))
  rw [Nat.mul_one]
end Mth

end
section
set_option linter.all false
namespace Mth
open Kp291 Kp294
/-! the calls, one behind another -/
def narg : List Nat := [1, 1, 1, 0, 1, 2, 7, 4, 3, 2, 2, 2, 2, 2, 1, 1, 0, 0, 0]
def callN (k : Nat) (as : List Nat) : Kp294.Call := match k, as with
  | 0, [a] => .begin_ a
  | 1, [a] => .colour a
  | 2, [a] => .draw a
  | 3, _ => .back
  | 4, [a] => .chance a
  | 5, [a, b] => .nth a b
  | 6, [a, b, c, d, e, f, g] => .row a b c d e f g
  | 7, [a, b, c, d] => .counts a b c d
  | 8, [a, b, c] => .just a b c
  | 9, [a, b] => .all a b
  | 10, [a, b] => .two a b
  | 11, [a, b] => .mean a b
  | 12, [a, b] => .then_ a b
  | 13, [a, b] => .likeliest a b
  | 14, [a] => .one a
  | 15, [a] => .more a
  | 16, _ => .was
  | 17, _ => .ago
  | _, _ => .told
def ansOf (a : Kp294.Ans) : List Int := a.num :: a.nums
theorem shape_some {x : Int} {n k : Nat} (h : PyKp294.shape x = some (n, k)) : k = 0 ∧ ∃ j : Nat, x = (j : Int) ∧ narg[j]? = some n := by
  unfold PyKp294.shape at h
  by_cases e0 : x = 0
  · rw [if_pos e0] at h
    cases h
    exact ⟨rfl, 0, e0, rfl⟩
  rw [if_neg e0] at h
  by_cases e1 : x = 1
  · rw [if_pos e1] at h
    cases h
    exact ⟨rfl, 1, e1, rfl⟩
  rw [if_neg e1] at h
  by_cases e2 : x = 2
  · rw [if_pos e2] at h
    cases h
    exact ⟨rfl, 2, e2, rfl⟩
  rw [if_neg e2] at h
  by_cases e3 : x = 3
  · rw [if_pos e3] at h
    cases h
    exact ⟨rfl, 3, e3, rfl⟩
  rw [if_neg e3] at h
  by_cases e4 : x = 4
  · rw [if_pos e4] at h
    cases h
    exact ⟨rfl, 4, e4, rfl⟩
  rw [if_neg e4] at h
  by_cases e5 : x = 5
  · rw [if_pos e5] at h
    cases h
    exact ⟨rfl, 5, e5, rfl⟩
  rw [if_neg e5] at h
  by_cases e6 : x = 6
  · rw [if_pos e6] at h
    cases h
    exact ⟨rfl, 6, e6, rfl⟩
  rw [if_neg e6] at h
  by_cases e7 : x = 7
  · rw [if_pos e7] at h
    cases h
    exact ⟨rfl, 7, e7, rfl⟩
  rw [if_neg e7] at h
  by_cases e8 : x = 8
  · rw [if_pos e8] at h
    cases h
    exact ⟨rfl, 8, e8, rfl⟩
  rw [if_neg e8] at h
  by_cases e9 : x = 9
  · rw [if_pos e9] at h
    cases h
    exact ⟨rfl, 9, e9, rfl⟩
  rw [if_neg e9] at h
  by_cases e10 : x = 10
  · rw [if_pos e10] at h
    cases h
    exact ⟨rfl, 10, e10, rfl⟩
  rw [if_neg e10] at h
  by_cases e11 : x = 11
  · rw [if_pos e11] at h
    cases h
    exact ⟨rfl, 11, e11, rfl⟩
  rw [if_neg e11] at h
  by_cases e12 : x = 12
  · rw [if_pos e12] at h
    cases h
    exact ⟨rfl, 12, e12, rfl⟩
  rw [if_neg e12] at h
  by_cases e13 : x = 13
  · rw [if_pos e13] at h
    cases h
    exact ⟨rfl, 13, e13, rfl⟩
  rw [if_neg e13] at h
  by_cases e14 : x = 14
  · rw [if_pos e14] at h
    cases h
    exact ⟨rfl, 14, e14, rfl⟩
  rw [if_neg e14] at h
  by_cases e15 : x = 15
  · rw [if_pos e15] at h
    cases h
    exact ⟨rfl, 15, e15, rfl⟩
  rw [if_neg e15] at h
  by_cases e16 : x = 16
  · rw [if_pos e16] at h
    cases h
    exact ⟨rfl, 16, e16, rfl⟩
  rw [if_neg e16] at h
  by_cases e17 : x = 17
  · rw [if_pos e17] at h
    cases h
    exact ⟨rfl, 17, e17, rfl⟩
  rw [if_neg e17] at h
  by_cases e18 : x = 18
  · rw [if_pos e18] at h
    cases h
    exact ⟨rfl, 18, e18, rfl⟩
  rw [if_neg e18] at h
  cases h
theorem whole_id (c : List (List Int)) : PyKp294.whole c = c := by
  unfold PyKp294.whole
  split <;> rfl
theorem whole_map : ∀ cs : List (List (List Int)), cs.map PyKp294.whole = cs
  | [] => rfl
  | c :: cs => by rw [List.map_cons, whole_id, whole_map cs]
/-- one call taken off -/
theorem calls_turn {f : Nat} {x : Int} {r : List Int} {cs : List (List (List Int))} (h : PyFlat.calls PyKp294.shape f (x :: r) = some cs) :
    ∃ (j n : Nat) (g : Nat) (cs' : List (List (List Int))), x = (j : Int) ∧ narg[j]? = some n ∧ n ≤ r.length ∧ cs = [x :: r.take n] :: cs' ∧ PyFlat.calls PyKp294.shape g (r.drop n) = some cs' := by
  cases f with
  | zero => cases h
  | succ f =>
    unfold PyFlat.calls PyFlat.call at h
    cases hs : PyKp294.shape x with
    | none => simp only [hs] at h; cases h
    | some nk =>
      obtain ⟨n, k⟩ := nk
      obtain ⟨hk, j, hx, hn⟩ := shape_some hs
      subst hk
      simp only [hs] at h
      by_cases hl : r.length < n
      · simp only [if_pos hl] at h; cases h
      · simp only [if_neg hl, PyFlat.rows] at h
        cases hc : PyFlat.calls PyKp294.shape f (r.drop n) with
        | none => simp only [hc] at h; cases h
        | some cs' =>
          simp only [hc] at h
          exact ⟨j, n, f, cs', hx, hn, by omega, (Option.some.inj h).symm, hc⟩
theorem calls_nil {f : Nat} {cs : List (List (List Int))} (h : PyFlat.calls PyKp294.shape f [] = some cs) : cs = [] := by
  cases f <;> exact (Option.some.inj h).symm
theorem list_of_len {α : Type} {l : List α} : (l.length = 0 → l = []) ∧ (l.length = 1 → ∃ a, l = [a]) ∧ (l.length = 2 → ∃ a b, l = [a, b]) ∧ (l.length = 3 → ∃ a b c, l = [a, b, c]) ∧ (l.length = 4 → ∃ a b c d, l = [a, b, c, d]) ∧ (l.length = 7 → ∃ a b c d e f g, l = [a, b, c, d, e, f, g]) := by
  refine ⟨fun h => ?_, fun h => ?_, fun h => ?_, fun h => ?_, fun h => ?_, fun h => ?_⟩
  · match l, h with | [], _ => rfl
  · match l, h with | [a], _ => exact ⟨a, rfl⟩
  · match l, h with | [a, b], _ => exact ⟨a, b, rfl⟩
  · match l, h with | [a, b, c], _ => exact ⟨a, b, c, rfl⟩
  · match l, h with | [a, b, c, d], _ => exact ⟨a, b, c, d, rfl⟩
  · match l, h with | [a, b, c, d, e, f, g], _ => exact ⟨a, b, c, d, e, f, g, rfl⟩
theorem callOf_N {j n : Nat} (h : narg[j]? = some n) {as : List Int} (hl : as.length = n) : Kp294Neutral.callOf [(j : Int) :: as] = some (callN j (as.map Int.toNat)) := by
  obtain ⟨l0, l1, l2, l3, l4, l7⟩ := @list_of_len Int as
  match j, h with
  | 0, h => cases h; obtain ⟨a, rfl⟩ := l1 hl; rfl
  | 1, h => cases h; obtain ⟨a, rfl⟩ := l1 hl; rfl
  | 2, h => cases h; obtain ⟨a, rfl⟩ := l1 hl; rfl
  | 3, h => cases h; obtain rfl := l0 hl; rfl
  | 4, h => cases h; obtain ⟨a, rfl⟩ := l1 hl; rfl
  | 5, h => cases h; obtain ⟨a, b, rfl⟩ := l2 hl; rfl
  | 6, h => cases h; obtain ⟨a, b, c, d, e, f, g, rfl⟩ := l7 hl; rfl
  | 7, h => cases h; obtain ⟨a, b, c, d, rfl⟩ := l4 hl; rfl
  | 8, h => cases h; obtain ⟨a, b, c, rfl⟩ := l3 hl; rfl
  | 9, h => cases h; obtain ⟨a, b, rfl⟩ := l2 hl; rfl
  | 10, h => cases h; obtain ⟨a, b, rfl⟩ := l2 hl; rfl
  | 11, h => cases h; obtain ⟨a, b, rfl⟩ := l2 hl; rfl
  | 12, h => cases h; obtain ⟨a, b, rfl⟩ := l2 hl; rfl
  | 13, h => cases h; obtain ⟨a, b, rfl⟩ := l2 hl; rfl
  | 14, h => cases h; obtain ⟨a, rfl⟩ := l1 hl; rfl
  | 15, h => cases h; obtain ⟨a, rfl⟩ := l1 hl; rfl
  | 16, h => cases h; obtain rfl := l0 hl; rfl
  | 17, h => cases h; obtain rfl := l0 hl; rfl
  | 18, h => cases h; obtain rfl := l0 hl; rfl
  | j + 19, h => simp [narg] at h
/-- what is told of calls, from a state on -/
def tell (s : Kp294.State) (cs : List (List (List Int))) : List Int := PyFlat.told (PyFlat.played Kp294Neutral.step s cs)
theorem tell_nil (s : Kp294.State) : tell s [] = [] := rfl
theorem told_cons (a : List Int) (l : List (List Int)) : PyFlat.told (a :: l) = ((a.length : Int) :: a) ++ PyFlat.told l := by
  unfold PyFlat.told
  rw [List.flatMap_cons]
theorem tell_cons (s : Kp294.State) {j n : Nat} (h : narg[j]? = some n) {as : List Int} (hl : as.length = n) (cs : List (List (List Int))) :
    tell s ([(j : Int) :: as] :: cs) = (((ansOf (Kp294.step s (callN j (as.map Int.toNat))).2).length : Int) :: ansOf (Kp294.step s (callN j (as.map Int.toNat))).2) ++ tell (Kp294.step s (callN j (as.map Int.toNat))).1 cs := by
  unfold tell
  rw [show PyFlat.played Kp294Neutral.step s ([(j : Int) :: as] :: cs) = (Kp294Neutral.step s [(j : Int) :: as]).2 :: PyFlat.played Kp294Neutral.step (Kp294Neutral.step s [(j : Int) :: as]).1 cs from rfl, told_cons]
  unfold Kp294Neutral.step
  rw [callOf_N h hl]
  rfl
theorem answers_tell {l : List Int} {cs : List (List (List Int))} (h : PyFlat.calls PyKp294.shape l.length l = some cs) : PyKp294.answers l = tell none cs := by
  unfold PyKp294.answers PyKp294.calls
  rw [h]
  show PyFlat.told (PyFlat.played Kp294Neutral.step Kp294Neutral.start (cs.map PyKp294.whole)) = _
  rw [whole_map]
  rfl
theorem asked_calls {l : List Int} (h : PyKp294.answers_asked l = true) : ∃ cs, PyFlat.calls PyKp294.shape l.length l = some cs := by
  unfold PyKp294.answers_asked at h
  cases hc : PyFlat.calls PyKp294.shape l.length l with
  | none => simp only [hc] at h; cases h
  | some cs => exact ⟨cs, rfl⟩
/-! states -/
def StOk : Kp294.State → Prop
  | none => True
  | some u => Ok u
/-- how long an answer is -/
theorem ans_len {s : Kp294.State} (k : StOk s) {c : Kp294.Call} : (ansOf (Kp294.step s c).2).length ≤ 100 := by
  have h100 : ∀ v : Int, (ansOf (Kp294.say v)).length ≤ 100 := fun v => by show 1 ≤ 100; decide
  have hfr : ∀ z : Nat × Nat, (ansOf (Kp294.tellFrac z)).length ≤ 100 := fun z => by show 3 ≤ 100; decide
  cases s with
  | none => cases c <;> (unfold Kp294.step; simp only []) <;> (first | exact h100 _ | (split <;> exact h100 _))
  | some u =>
    have k' : Ok u := k
    have k1 := k'.len
    have k2 := k'.dl
    cases c with
    | told =>
      show ((u.balls.length : Int) :: Kp294.ints (u.balls ++ [u.more, u.drawn.length])).length ≤ 100
      simp [Kp294.ints]; omega
    | was =>
      show ((u.drawn.length : Int) :: Kp294.ints u.drawn).length ≤ 100
      simp [Kp294.ints]; omega
    | all i n =>
      unfold Kp294.step
      simp only []
      split
      · exact h100 _
      · show (ansOf (if Kp294.is u i = false then Kp294.say (-2) else if Kp294.DRAWS < n then Kp294.say (-22) else ⟨(n + 1 : Nat), Kp294.ints ((List.range (n + 1)).map (justUp u i n))⟩)).length ≤ 100
        split
        · exact h100 _
        · split
          · exact h100 _
          · rename_i h
            show (((n + 1 : Nat) : Int) :: Kp294.ints ((List.range (n + 1)).map (justUp u i n))).length ≤ 100
            have h' : n ≤ 8 := by have : ¬ 8 < n := h; omega
            simp [Kp294.ints]; omega
    | back =>
      unfold Kp294.step
      simp only []
      split <;> exact h100 _
    | counts a b c d =>
      unfold Kp294.step
      simp only []
      repeat' split
      all_goals first | exact h100 _ | exact hfr _
    | _ =>
      unfold Kp294.step
      simp only []
      repeat' split
      all_goals first | exact h100 _ | exact hfr _
/-- the bounds stay -/
theorem step_ok {s : Kp294.State} (k : StOk s) (c : Kp294.Call) : StOk (Kp294.step s c).1 := by
  cases s with
  | none =>
    cases c with
    | begin_ d =>
      unfold Kp294.step
      simp only []
      split
      · exact trivial
      · exact Ok.new (by omega)
    | _ => exact trivial
  | some u =>
    have k' : Ok u := k
    cases c with
    | begin_ d =>
      unfold Kp294.step
      simp only []
      split
      · exact k
      · exact Ok.new (by omega)
    | colour n =>
      unfold Kp294.step
      simp only []
      split
      · exact k
      · split
        · exact k
        · split
          · exact k
          · rename_i h1 h2 h3
            exact k'.colour (Decidable.not_not.mp h1) (by omega) (by have : ¬ 4 ≤ u.balls.length := h3; omega)
    | more d =>
      unfold Kp294.step
      simp only []
      split
      · exact k
      · split
        · exact k
        · rename_i h1 h2
          exact k'.moreSet (Decidable.not_not.mp h1) (by omega)
    | draw i =>
      unfold Kp294.step
      simp only []
      split
      · exact k
      · split
        · exact k
        · split
          · exact k
          · rename_i h1 h2 h3
            refine k'.put ?_ h2 (by omega)
            have h : Kp294.is u i = true := by simpa using h1
            exact of_decide_eq_true h
    | back =>
      unfold Kp294.step
      simp only []
      split
      · rename_i i h
        exact k'.undo h
      · exact k
    | _ =>
      unfold Kp294.step
      simp only []
      repeat' split
      all_goals exact k
end Mth

end
section
set_option linter.all false
namespace Mth
/-! each call's ways -/
abbrev St0 := Kp294.State
section
variable {u : Kp294.Urn} {i j n k d : Nat}
theorem is_f (h : u.balls.length ≤ i) : Kp294.is u i = false := decide_eq_false (by omega)
theorem is_t (h : i < u.balls.length) : ¬ Kp294.is u i = false := by
  unfold Kp294.is
  rw [decide_eq_true h]
  exact Bool.noConfusion
theorem st_begin_22 {s : St0} (h : 5 < d) : Kp294.step s (callN 0 [d]) = (s, Kp294.say (-22)) := by
  show Kp294.step s (.begin_ d) = _
  unfold Kp294.step
  simp only []
  rw [if_pos h]
theorem st_begin {s : St0} (h : d ≤ 5) : Kp294.step s (callN 0 [d]) = (some ⟨[], d, []⟩, Kp294.say 0) := by
  show Kp294.step s (.begin_ d) = _
  unfold Kp294.step
  simp only []
  rw [if_neg (by omega)]
theorem st_none {k : Nat} {as : List Nat} {n : Nat} (hk : narg[k]? = some n) (hl : as.length = n) (h : k ≠ 0) : Kp294.step none (callN k as) = (none, Kp294.say (-11)) := by
  obtain ⟨l0, l1, l2, l3, l4, l7⟩ := @list_of_len Nat as
  match k, hk, h with
  | 1, hk, _ => cases hk; obtain ⟨a, rfl⟩ := l1 hl; rfl
  | 2, hk, _ => cases hk; obtain ⟨a, rfl⟩ := l1 hl; rfl
  | 3, hk, _ => cases hk; obtain rfl := l0 hl; rfl
  | 4, hk, _ => cases hk; obtain ⟨a, rfl⟩ := l1 hl; rfl
  | 5, hk, _ => cases hk; obtain ⟨a, b, rfl⟩ := l2 hl; rfl
  | 6, hk, _ => cases hk; obtain ⟨a, b, c, d, e, f, g, rfl⟩ := l7 hl; rfl
  | 7, hk, _ => cases hk; obtain ⟨a, b, c, d, rfl⟩ := l4 hl; rfl
  | 8, hk, _ => cases hk; obtain ⟨a, b, c, rfl⟩ := l3 hl; rfl
  | 9, hk, _ => cases hk; obtain ⟨a, b, rfl⟩ := l2 hl; rfl
  | 10, hk, _ => cases hk; obtain ⟨a, b, rfl⟩ := l2 hl; rfl
  | 11, hk, _ => cases hk; obtain ⟨a, b, rfl⟩ := l2 hl; rfl
  | 12, hk, _ => cases hk; obtain ⟨a, b, rfl⟩ := l2 hl; rfl
  | 13, hk, _ => cases hk; obtain ⟨a, b, rfl⟩ := l2 hl; rfl
  | 14, hk, _ => cases hk; obtain ⟨a, rfl⟩ := l1 hl; rfl
  | 15, hk, _ => cases hk; obtain ⟨a, rfl⟩ := l1 hl; rfl
  | 16, hk, _ => cases hk; obtain rfl := l0 hl; rfl
  | 17, hk, _ => cases hk; obtain rfl := l0 hl; rfl
  | 18, hk, _ => cases hk; obtain rfl := l0 hl; rfl
  | j + 19, hk, _ => simp [narg] at hk
theorem st_colour_16 (h : u.drawn ≠ []) : Kp294.step (some u) (callN 1 [n]) = (some u, Kp294.say (-16)) := by
  show Kp294.step (some u) (.colour n) = _
  unfold Kp294.step
  simp only []
  rw [if_pos h]
theorem st_colour_22 (h : u.drawn = []) (h1 : 10 < n) : Kp294.step (some u) (callN 1 [n]) = (some u, Kp294.say (-22)) := by
  show Kp294.step (some u) (.colour n) = _
  unfold Kp294.step
  simp only []
  rw [if_neg (fun q => q h), if_pos h1]
theorem st_colour_28 (h : u.drawn = []) (h1 : ¬ 10 < n) (h2 : 4 ≤ u.balls.length) : Kp294.step (some u) (callN 1 [n]) = (some u, Kp294.say (-28)) := by
  show Kp294.step (some u) (.colour n) = _
  unfold Kp294.step
  simp only []
  rw [if_neg (fun q => q h), if_neg h1, if_pos (show Kp294.COLOURS ≤ _ from h2)]
theorem st_colour (h : u.drawn = []) (h1 : ¬ 10 < n) (h2 : ¬ 4 ≤ u.balls.length) : Kp294.step (some u) (callN 1 [n]) = (some { u with balls := u.balls ++ [n] }, Kp294.say (u.balls.length : Int)) := by
  show Kp294.step (some u) (.colour n) = _
  unfold Kp294.step
  simp only []
  rw [if_neg (fun q => q h), if_neg h1, if_neg (show ¬ Kp294.COLOURS ≤ _ from h2)]
theorem st_draw_2 (h : u.balls.length ≤ i) : Kp294.step (some u) (callN 2 [i]) = (some u, Kp294.say (-2)) := by
  show Kp294.step (some u) (.draw i) = _
  unfold Kp294.step
  simp only []
  rw [if_pos (is_f h)]
theorem st_draw_33 (h : i < u.balls.length) (h1 : u.balls.getD i 0 = 0) : Kp294.step (some u) (callN 2 [i]) = (some u, Kp294.say (-33)) := by
  show Kp294.step (some u) (.draw i) = _
  unfold Kp294.step
  simp only []
  rw [if_neg (is_t h), if_pos h1]
theorem st_draw_28 (h : i < u.balls.length) (h1 : ¬ u.balls.getD i 0 = 0) (h2 : 60 ≤ u.drawn.length) : Kp294.step (some u) (callN 2 [i]) = (some u, Kp294.say (-28)) := by
  show Kp294.step (some u) (.draw i) = _
  unfold Kp294.step
  simp only []
  rw [if_neg (is_t h), if_neg h1, if_pos h2]
theorem st_draw (h : i < u.balls.length) (h1 : ¬ u.balls.getD i 0 = 0) (h2 : ¬ 60 ≤ u.drawn.length) : Kp294.step (some u) (callN 2 [i]) = (some (Kp294.put u i), Kp294.say ((u.balls.getD i 0 + u.more : Nat) : Int)) := by
  show Kp294.step (some u) (.draw i) = _
  unfold Kp294.step
  simp only []
  rw [if_neg (is_t h), if_neg h1, if_neg h2, show (Kp294.put u i).balls.getD i 0 = u.balls.getD i 0 + u.more from getD_set_same h]
theorem st_back_12 (h : u.drawn = []) : Kp294.step (some u) (callN 3 []) = (some u, Kp294.say (-12)) := by
  show Kp294.step (some u) .back = _
  unfold Kp294.step
  simp only [h]
  rfl
theorem st_back (h : u.drawn.getLast? = some i) : Kp294.step (some u) (callN 3 []) = (some (Kp294.undo u), Kp294.say (i : Int)) := by
  show Kp294.step (some u) .back = _
  unfold Kp294.step
  simp only [h]
/-! those that only tell -/
theorem st_chance_6 (h : Kp294.all u = 0) : Kp294.step (some u) (callN 4 [i]) = (some u, Kp294.say (-6)) := by
  show Kp294.step (some u) (.chance i) = _
  unfold Kp294.step
  simp only []
  rw [if_pos h]
theorem st_chance_2 (h : ¬ Kp294.all u = 0) (h1 : u.balls.length ≤ i) : Kp294.step (some u) (callN 4 [i]) = (some u, Kp294.say (-2)) := by
  show Kp294.step (some u) (.chance i) = _
  unfold Kp294.step
  simp only []
  rw [if_neg h, if_pos (is_f h1)]
theorem st_chance (h : ¬ Kp294.all u = 0) (h1 : i < u.balls.length) : Kp294.step (some u) (callN 4 [i]) = (some u, Kp294.tellFrac (Kp294.nth u i)) := by
  show Kp294.step (some u) (.chance i) = _
  unfold Kp294.step
  simp only []
  rw [if_neg h, if_neg (is_t h1)]
theorem st_nth_6 (h : Kp294.all u = 0) : Kp294.step (some u) (callN 5 [i, n]) = (some u, Kp294.say (-6)) := by
  show Kp294.step (some u) (.nth i n) = _
  unfold Kp294.step
  simp only []
  rw [if_pos h]
theorem st_nth_2 (h : ¬ Kp294.all u = 0) (h1 : u.balls.length ≤ i) : Kp294.step (some u) (callN 5 [i, n]) = (some u, Kp294.say (-2)) := by
  show Kp294.step (some u) (.nth i n) = _
  unfold Kp294.step
  simp only []
  rw [if_neg h, if_pos (is_f h1)]
theorem st_nth_22 (h : ¬ Kp294.all u = 0) (h1 : i < u.balls.length) (h2 : n = 0 ∨ 1000 < n) : Kp294.step (some u) (callN 5 [i, n]) = (some u, Kp294.say (-22)) := by
  show Kp294.step (some u) (.nth i n) = _
  unfold Kp294.step
  simp only []
  rw [if_neg h, if_neg (is_t h1), if_pos h2]
theorem st_nth (h : ¬ Kp294.all u = 0) (h1 : i < u.balls.length) (h2 : ¬ (n = 0 ∨ 1000 < n)) : Kp294.step (some u) (callN 5 [i, n]) = (some u, Kp294.tellFrac (Kp294.nth u i)) := by
  show Kp294.step (some u) (.nth i n) = _
  unfold Kp294.step
  simp only []
  rw [if_neg h, if_neg (is_t h1), if_neg h2]
theorem st_row_6 {a b c d e f : Nat} (h : Kp294.all u = 0) : Kp294.step (some u) (callN 6 [n, a, b, c, d, e, f]) = (some u, Kp294.say (-6)) := by
  show Kp294.step (some u) (.row n a b c d e f) = _
  unfold Kp294.step
  simp only []
  rw [if_pos h]
theorem st_row_22 {a b c d e f : Nat} (h : ¬ Kp294.all u = 0) (h1 : 6 < n ∨ ∃ i ∈ [a, b, c, d, e, f].take n, u.balls.length ≤ i) : Kp294.step (some u) (callN 6 [n, a, b, c, d, e, f]) = (some u, Kp294.say (-22)) := by
  show Kp294.step (some u) (.row n a b c d e f) = _
  unfold Kp294.step
  simp only []
  rw [if_neg h, if_pos (h1.imp id fun ⟨i, hi, hl⟩ => List.any_eq_true.mpr ⟨i, hi, by rw [is_f hl]; rfl⟩)]
theorem st_row {a b c d e f : Nat} (h : ¬ Kp294.all u = 0) (h1 : ¬ 6 < n) (h2 : ∀ i ∈ [a, b, c, d, e, f].take n, i < u.balls.length) :
    Kp294.step (some u) (callN 6 [n, a, b, c, d, e, f]) = (some u, Kp294.tellFrac (Kp294.row u ([a, b, c, d, e, f].take n))) := by
  show Kp294.step (some u) (.row n a b c d e f) = _
  unfold Kp294.step
  simp only []
  have hn : ¬ ((([a, b, c, d, e, f].take n).any fun i => !Kp294.is u i) = true) := fun q => by
    obtain ⟨i, hi, hl⟩ := List.any_eq_true.mp q
    have := is_t (h2 i hi)
    simp at hl
    exact this hl
  rw [if_neg h, if_neg (fun q => q.elim h1 hn)]
theorem st_counts_6 {a b c d : Nat} (h : Kp294.all u = 0) : Kp294.step (some u) (callN 7 [a, b, c, d]) = (some u, Kp294.say (-6)) := by
  show Kp294.step (some u) (.counts a b c d) = _
  unfold Kp294.step
  simp only []
  rw [if_pos h]
theorem st_counts_22 {a b c d : Nat} (h : ¬ Kp294.all u = 0) (h1 : 8 < Kp291.sum ([a, b, c, d].take u.balls.length)) : Kp294.step (some u) (callN 7 [a, b, c, d]) = (some u, Kp294.say (-22)) := by
  show Kp294.step (some u) (.counts a b c d) = _
  unfold Kp294.step
  simp only []
  rw [if_neg h, if_pos (show Kp294.DRAWS < _ from h1)]
theorem st_counts {a b c d : Nat} (h : ¬ Kp294.all u = 0) (h1 : ¬ 8 < Kp291.sum ([a, b, c, d].take u.balls.length)) :
    Kp294.step (some u) (callN 7 [a, b, c, d]) = (some u, Kp294.tellFrac (Kp294.counts u ([a, b, c, d].take u.balls.length))) := by
  show Kp294.step (some u) (.counts a b c d) = _
  unfold Kp294.step
  simp only []
  rw [if_neg h, if_neg (show ¬ Kp294.DRAWS < _ from h1)]
theorem st_just_6 (h : Kp294.all u = 0) : Kp294.step (some u) (callN 8 [i, n, k]) = (some u, Kp294.say (-6)) := by
  show Kp294.step (some u) (.just i n k) = _
  unfold Kp294.step
  simp only []
  rw [if_pos h]
theorem st_just_2 (h : ¬ Kp294.all u = 0) (h1 : u.balls.length ≤ i) : Kp294.step (some u) (callN 8 [i, n, k]) = (some u, Kp294.say (-2)) := by
  show Kp294.step (some u) (.just i n k) = _
  unfold Kp294.step
  simp only []
  rw [if_neg h, if_pos (is_f h1)]
theorem st_just_22 (h : ¬ Kp294.all u = 0) (h1 : i < u.balls.length) (h2 : 8 < n) : Kp294.step (some u) (callN 8 [i, n, k]) = (some u, Kp294.say (-22)) := by
  show Kp294.step (some u) (.just i n k) = _
  unfold Kp294.step
  simp only []
  rw [if_neg h, if_neg (is_t h1), if_pos (show Kp294.DRAWS < _ from h2)]
theorem st_just (h : ¬ Kp294.all u = 0) (h1 : i < u.balls.length) (h2 : ¬ 8 < n) : Kp294.step (some u) (callN 8 [i, n, k]) = (some u, Kp294.tellFrac (Kp294.just u i n k)) := by
  show Kp294.step (some u) (.just i n k) = _
  unfold Kp294.step
  simp only []
  rw [if_neg h, if_neg (is_t h1), if_neg (show ¬ Kp294.DRAWS < _ from h2)]
theorem st_all_6 (h : Kp294.all u = 0) : Kp294.step (some u) (callN 9 [i, n]) = (some u, Kp294.say (-6)) := by
  show Kp294.step (some u) (.all i n) = _
  unfold Kp294.step
  simp only []
  rw [if_pos h]
theorem st_all_2 (h : ¬ Kp294.all u = 0) (h1 : u.balls.length ≤ i) : Kp294.step (some u) (callN 9 [i, n]) = (some u, Kp294.say (-2)) := by
  show Kp294.step (some u) (.all i n) = _
  unfold Kp294.step
  simp only []
  rw [if_neg h, if_pos (is_f h1)]
theorem st_all_22 (h : ¬ Kp294.all u = 0) (h1 : i < u.balls.length) (h2 : 8 < n) : Kp294.step (some u) (callN 9 [i, n]) = (some u, Kp294.say (-22)) := by
  show Kp294.step (some u) (.all i n) = _
  unfold Kp294.step
  simp only []
  rw [if_neg h, if_neg (is_t h1), if_pos (show Kp294.DRAWS < _ from h2)]
theorem st_all (h : ¬ Kp294.all u = 0) (h1 : i < u.balls.length) (h2 : ¬ 8 < n) : Kp294.step (some u) (callN 9 [i, n]) = (some u, ⟨(n + 1 : Nat), Kp294.ints ((List.range (n + 1)).map (Kp294.justUp u i n))⟩) := by
  show Kp294.step (some u) (.all i n) = _
  unfold Kp294.step
  simp only []
  rw [if_neg h, if_neg (is_t h1), if_neg (show ¬ Kp294.DRAWS < _ from h2)]
end
end Mth

end
section
set_option linter.all false
namespace Mth
/-! the ways of the calls 10 to 18 -/
section
variable {u : Kp294.Urn} {i j n k d : Nat}
theorem st_two_6 (h : Kp294.all u = 0) : Kp294.step (some u) (callN 10 [i, j]) = (some u, Kp294.say (-6)) := by
  show Kp294.step (some u) (.two i j) = _
  unfold Kp294.step
  simp only []
  rw [if_pos h]
theorem st_two_2 (h : ¬ Kp294.all u = 0) (h1 : u.balls.length ≤ i ∨ u.balls.length ≤ j) : Kp294.step (some u) (callN 10 [i, j]) = (some u, Kp294.say (-2)) := by
  show Kp294.step (some u) (.two i j) = _
  unfold Kp294.step
  simp only []
  rw [if_neg h, if_pos (h1.imp is_f is_f)]
theorem st_two (h : ¬ Kp294.all u = 0) (h1 : i < u.balls.length) (h2 : j < u.balls.length) : Kp294.step (some u) (callN 10 [i, j]) = (some u, Kp294.tellFrac (Kp294.two u i j)) := by
  show Kp294.step (some u) (.two i j) = _
  unfold Kp294.step
  simp only []
  rw [if_neg h, if_neg (fun q => q.elim (is_t h1) (is_t h2))]
theorem st_mean_6 (h : Kp294.all u = 0) : Kp294.step (some u) (callN 11 [i, n]) = (some u, Kp294.say (-6)) := by
  show Kp294.step (some u) (.mean i n) = _
  unfold Kp294.step
  simp only []
  rw [if_pos h]
theorem st_mean_2 (h : ¬ Kp294.all u = 0) (h1 : u.balls.length ≤ i) : Kp294.step (some u) (callN 11 [i, n]) = (some u, Kp294.say (-2)) := by
  show Kp294.step (some u) (.mean i n) = _
  unfold Kp294.step
  simp only []
  rw [if_neg h, if_pos (is_f h1)]
theorem st_mean_22 (h : ¬ Kp294.all u = 0) (h1 : i < u.balls.length) (h2 : 1000 < n) : Kp294.step (some u) (callN 11 [i, n]) = (some u, Kp294.say (-22)) := by
  show Kp294.step (some u) (.mean i n) = _
  unfold Kp294.step
  simp only []
  rw [if_neg h, if_neg (is_t h1), if_pos h2]
theorem st_mean (h : ¬ Kp294.all u = 0) (h1 : i < u.balls.length) (h2 : ¬ 1000 < n) : Kp294.step (some u) (callN 11 [i, n]) = (some u, Kp294.tellFrac (Kp294.mean u i n)) := by
  show Kp294.step (some u) (.mean i n) = _
  unfold Kp294.step
  simp only []
  rw [if_neg h, if_neg (is_t h1), if_neg h2]
theorem st_then_6 (h : Kp294.all u = 0) : Kp294.step (some u) (callN 12 [i, n]) = (some u, Kp294.say (-6)) := by
  show Kp294.step (some u) (.then_ i n) = _
  unfold Kp294.step
  simp only []
  rw [if_pos h]
theorem st_then_2 (h : ¬ Kp294.all u = 0) (h1 : u.balls.length ≤ i) : Kp294.step (some u) (callN 12 [i, n]) = (some u, Kp294.say (-2)) := by
  show Kp294.step (some u) (.then_ i n) = _
  unfold Kp294.step
  simp only []
  rw [if_neg h, if_pos (is_f h1)]
theorem st_then_22 (h : ¬ Kp294.all u = 0) (h1 : i < u.balls.length) (h2 : 1000 < n) : Kp294.step (some u) (callN 12 [i, n]) = (some u, Kp294.say (-22)) := by
  show Kp294.step (some u) (.then_ i n) = _
  unfold Kp294.step
  simp only []
  rw [if_neg h, if_neg (is_t h1), if_pos h2]
theorem st_then (h : ¬ Kp294.all u = 0) (h1 : i < u.balls.length) (h2 : ¬ 1000 < n) : Kp294.step (some u) (callN 12 [i, n]) = (some u, Kp294.tellFrac (Kp294.then_ u i n)) := by
  show Kp294.step (some u) (.then_ i n) = _
  unfold Kp294.step
  simp only []
  rw [if_neg h, if_neg (is_t h1), if_neg h2]
theorem st_likeliest_6 (h : Kp294.all u = 0) : Kp294.step (some u) (callN 13 [i, n]) = (some u, Kp294.say (-6)) := by
  show Kp294.step (some u) (.likeliest i n) = _
  unfold Kp294.step
  simp only []
  rw [if_pos h]
theorem st_likeliest_2 (h : ¬ Kp294.all u = 0) (h1 : u.balls.length ≤ i) : Kp294.step (some u) (callN 13 [i, n]) = (some u, Kp294.say (-2)) := by
  show Kp294.step (some u) (.likeliest i n) = _
  unfold Kp294.step
  simp only []
  rw [if_neg h, if_pos (is_f h1)]
theorem st_likeliest_22 (h : ¬ Kp294.all u = 0) (h1 : i < u.balls.length) (h2 : 8 < n) : Kp294.step (some u) (callN 13 [i, n]) = (some u, Kp294.say (-22)) := by
  show Kp294.step (some u) (.likeliest i n) = _
  unfold Kp294.step
  simp only []
  rw [if_neg h, if_neg (is_t h1), if_pos (show Kp294.DRAWS < _ from h2)]
theorem st_likeliest (h : ¬ Kp294.all u = 0) (h1 : i < u.balls.length) (h2 : ¬ 8 < n) : Kp294.step (some u) (callN 13 [i, n]) = (some u, Kp294.say (Kp294.likeliest u i n : Int)) := by
  show Kp294.step (some u) (.likeliest i n) = _
  unfold Kp294.step
  simp only []
  rw [if_neg h, if_neg (is_t h1), if_neg (show ¬ Kp294.DRAWS < _ from h2)]
theorem st_one_6 (h : Kp294.all u = 0) : Kp294.step (some u) (callN 14 [n]) = (some u, Kp294.say (-6)) := by
  show Kp294.step (some u) (.one n) = _
  unfold Kp294.step
  simp only []
  rw [if_pos h]
theorem st_one_22 (h : ¬ Kp294.all u = 0) (h2 : 8 < n) : Kp294.step (some u) (callN 14 [n]) = (some u, Kp294.say (-22)) := by
  show Kp294.step (some u) (.one n) = _
  unfold Kp294.step
  simp only []
  rw [if_neg h, if_pos (show Kp294.DRAWS < _ from h2)]
theorem st_one (h : ¬ Kp294.all u = 0) (h2 : ¬ 8 < n) : Kp294.step (some u) (callN 14 [n]) = (some u, Kp294.tellFrac (Kp294.oneColour u n)) := by
  show Kp294.step (some u) (.one n) = _
  unfold Kp294.step
  simp only []
  rw [if_neg h, if_neg (show ¬ Kp294.DRAWS < _ from h2)]
theorem st_more_16 (h : u.drawn ≠ []) : Kp294.step (some u) (callN 15 [d]) = (some u, Kp294.say (-16)) := by
  show Kp294.step (some u) (.more d) = _
  unfold Kp294.step
  simp only []
  rw [if_pos h]
theorem st_more_22 (h : u.drawn = []) (h1 : 5 < d) : Kp294.step (some u) (callN 15 [d]) = (some u, Kp294.say (-22)) := by
  show Kp294.step (some u) (.more d) = _
  unfold Kp294.step
  simp only []
  rw [if_neg (fun q => q h), if_pos h1]
theorem st_more (h : u.drawn = []) (h1 : ¬ 5 < d) : Kp294.step (some u) (callN 15 [d]) = (some { u with more := d }, Kp294.say (u.more : Int)) := by
  show Kp294.step (some u) (.more d) = _
  unfold Kp294.step
  simp only []
  rw [if_neg (fun q => q h), if_neg h1]
theorem st_was : Kp294.step (some u) (callN 16 []) = (some u, Kp294.tellAll u.drawn) := rfl
theorem st_told : Kp294.step (some u) (callN 18 []) = (some u, ⟨(u.balls.length : Int), Kp294.ints (u.balls ++ [u.more, u.drawn.length])⟩) := rfl
theorem st_ago_6 (h : Kp294.all u = 0) : Kp294.step (some u) (callN 17 []) = (some u, Kp294.say (-6)) := by
  show Kp294.step (some u) .ago = _
  unfold Kp294.step
  simp only []
  rw [if_pos h]
theorem st_ago_28 (h : ¬ Kp294.all u = 0) (h2 : 20 < u.drawn.length) : Kp294.step (some u) (callN 17 []) = (some u, Kp294.say (-28)) := by
  show Kp294.step (some u) .ago = _
  unfold Kp294.step
  simp only []
  rw [if_neg h, if_pos h2]
theorem st_ago (h : ¬ Kp294.all u = 0) (h2 : ¬ 20 < u.drawn.length) : Kp294.step (some u) (callN 17 []) = (some u, Kp294.tellFrac (Kp294.row (Kp294.first u) u.drawn)) := by
  show Kp294.step (some u) .ago = _
  unfold Kp294.step
  simp only []
  rw [if_neg h, if_neg h2]
end
/-! the urn as it was at the beginning -/
/-- what each colour had at first -/
def firstBalls (u : Kp294.Urn) : List Nat := (List.range u.balls.length).map fun i => u.balls.getD i 0 - u.more * u.drawn.count i
theorem unput_eq : ∀ (n : Nat) (u : Kp294.Urn), Ok u → u.drawn.length = n → Kp294.unput n u = ⟨firstBalls u, u.more, []⟩
  | 0, u, k, h => by
    have hd : u.drawn = [] := List.length_eq_zero_iff.mp h
    show u = _
    obtain ⟨b, m, d⟩ := u
    have hd' : d = [] := hd
    subst hd'
    refine congrArg (fun z => Kp294.Urn.mk z m []) ?_
    show b = (List.range b.length).map fun i => b.getD i 0 - m * List.count i []
    refine List.ext_getElem (by simp) fun i h1 h2 => ?_
    rw [List.getElem_map, List.getElem_range, List.count_nil, Nat.mul_zero, Nat.sub_zero, List.getD_eq_getElem?_getD, List.getElem?_eq_getElem h1]
    rfl
  | n + 1, u, k, h => by
    obtain ⟨i, hi⟩ : ∃ i, u.drawn.getLast? = some i := by
      cases e : u.drawn.getLast? with
      | none =>
        rw [List.getLast?_eq_none_iff] at e
        rw [e] at h
        cases h
      | some i => exact ⟨i, rfl⟩
    have k2 := k.undo hi
    have es := last_split hi
    obtain ⟨hlt, hle⟩ := k.back_le hi
    show Kp294.unput n (Kp294.undo u) = _
    have hl2 : (Kp294.undo u).drawn.length = n := by
      rw [undo_eq hi]
      show u.drawn.dropLast.length = n
      rw [List.length_dropLast]
      omega
    rw [unput_eq n _ k2 hl2]
    have e2 : firstBalls (Kp294.undo u) = firstBalls u := by
      rw [undo_eq hi]
      unfold firstBalls
      show (List.range (u.balls.set i (u.balls.getD i 0 - u.more)).length).map (fun j => (u.balls.set i (u.balls.getD i 0 - u.more)).getD j 0 - u.more * u.drawn.dropLast.count j) = _
      rw [List.length_set]
      refine List.map_congr_left fun j hj => ?_
      have ec : u.drawn.count j = u.drawn.dropLast.count j + [i].count j := by
        have := congrArg (List.count j) es
        rw [List.count_append] at this
        exact this
      by_cases q : i = j
      · subst q
        rw [getD_set_same hlt, ec, show List.count i [i] = 1 by simp, Nat.mul_add, Nat.mul_one]
        omega
      · rw [getD_set_ne q, ec, show List.count j [i] = 0 by simp [q], Nat.add_zero]
    rw [e2, undo_eq hi]
theorem first_eq {u : Kp294.Urn} (k : Ok u) : Kp294.first u = ⟨firstBalls u, u.more, []⟩ := unput_eq _ u k rfl
theorem firstBalls_length (u : Kp294.Urn) : (firstBalls u).length = u.balls.length := by unfold firstBalls; simp
theorem firstBalls_getD {u : Kp294.Urn} {i : Nat} (h : i < u.balls.length) : (firstBalls u).getD i 0 = u.balls.getD i 0 - u.more * u.drawn.count i := by
  unfold firstBalls
  rw [List.getD_eq_getElem?_getD, List.getElem?_map, List.getElem?_range h]
  rfl
/-- the urn's bounds hold of the beginning too -/
theorem first_ok {u : Kp294.Urn} (k : Ok u) : Ok ⟨firstBalls u, u.more, []⟩ := by
  refine ⟨by show (firstBalls u).length ≤ 4; rw [firstBalls_length]; exact k.len, k.more, by show 0 ≤ 60; omega, fun i hi => absurd hi (by simp), fun i hi => ?_⟩
  have hi' : i < u.balls.length := by have h : i < (firstBalls u).length := hi; rw [firstBalls_length] at h; exact h
  obtain ⟨b0, h0, _, e⟩ := k.bal i hi'
  refine ⟨b0, h0, fun q => absurd q (by simp), ?_⟩
  show (firstBalls u).getD i 0 = b0 + u.more * List.count i []
  rw [firstBalls_getD hi', e, List.count_nil]
  omega
/-- behind what was drawn the balls are as they are now -/
theorem behind_count (m : Nat) : ∀ (r b : List Nat) (i : Nat), i < b.length → (behind m b r).getD i 0 = b.getD i 0 + m * r.count i
  | [], b, i, h => by show b.getD i 0 = _; rw [List.count_nil]; omega
  | j :: r, b, i, h => by
    show (behind m (b.set j (b.getD j 0 + m)) r).getD i 0 = _
    rw [behind_count m r _ i (by rw [List.length_set]; exact h)]
    by_cases q : j = i
    · subst q
      rw [getD_set_same h, List.count_cons_self, Nat.mul_add, Nat.mul_one]
      omega
    · rw [getD_set_ne q, List.count_cons_of_ne q]
theorem behind_first {u : Kp294.Urn} (k : Ok u) : behind u.more (firstBalls u) u.drawn = u.balls := by
  have hl : (behind u.more (firstBalls u) u.drawn).length = u.balls.length := by rw [behind_length, firstBalls_length]
  refine List.ext_getElem hl fun i h1 h2 => ?_
  have e := behind_count u.more u.drawn (firstBalls u) i (by rw [firstBalls_length]; exact h2)
  obtain ⟨b0, h0, _, eb⟩ := k.bal i h2
  rw [firstBalls_getD h2, eb] at e
  rw [List.getD_eq_getElem?_getD, List.getElem?_eq_getElem h1] at e
  rw [List.getD_eq_getElem?_getD, List.getElem?_eq_getElem h2] at eb
  have e' : (behind u.more (firstBalls u) u.drawn)[i] = b0 + u.more * u.drawn.count i - u.more * u.drawn.count i + u.more * u.drawn.count i := e
  have eb' : u.balls[i] = b0 + u.more * u.drawn.count i := eb
  rw [e', eb']
  omega
/-- a sum where one is made greater -/
theorem sum_set : ∀ (l : List Nat) (i x : Nat), i < l.length → Kp291.sum (l.set i (l.getD i 0 + x)) = Kp291.sum l + x
  | [], _, _, h => absurd h (Nat.not_lt_zero _)
  | a :: l, 0, x, _ => by
    show Kp291.sum ((a + x) :: l) = _
    rw [sum_cons, sum_cons]
    omega
  | a :: l, i + 1, x, h => by
    show Kp291.sum (a :: l.set i (l.getD i 0 + x)) = _
    rw [sum_cons, sum_cons, sum_set l i x (by simpa using h)]
    omega
theorem behind_sum (m : Nat) : ∀ (r b : List Nat), (∀ i ∈ r, i < b.length) → Kp291.sum (behind m b r) = Kp291.sum b + m * r.length
  | [], b, _ => by show Kp291.sum b = Kp291.sum b + m * 0; omega
  | j :: r, b, h => by
    show Kp291.sum (behind m (b.set j (b.getD j 0 + m)) r) = Kp291.sum b + m * (r.length + 1)
    rw [behind_sum m r _ (fun i hi => by rw [List.length_set]; exact h i (List.mem_cons_of_mem _ hi)), sum_set b j m (h j List.mem_cons_self), Nat.mul_succ]
    omega
theorem first_sum {u : Kp294.Urn} (k : Ok u) : Kp294.all u = Kp291.sum (firstBalls u) + u.more * u.drawn.length := by
  have h := behind_sum u.more u.drawn (firstBalls u) (fun i hi => by rw [firstBalls_length]; exact k.dr i hi)
  rw [behind_first k] at h
  exact h
/-- where there are balls now, there were at the beginning -/
theorem first_pos {u : Kp294.Urn} (k : Ok u) (h : ¬ Kp294.all u = 0) : 0 < Kp291.sum (firstBalls u) := by
  cases hd : u.drawn with
  | nil =>
    have e := first_sum k
    rw [hd, List.length_nil, Nat.mul_zero] at e
    omega
  | cons i r =>
    have hm : i ∈ u.drawn := by rw [hd]; exact List.mem_cons_self
    have hi := k.dr i hm
    obtain ⟨b0, _, hp, e⟩ := k.bal i hi
    have h1 := firstBalls_getD hi
    have h2 := getD_sum (firstBalls u) i
    have := hp hm
    omega
end Mth

end
section
set_option linter.all false
namespace Mth
/-! two draws as a row -/
theorem two_row {u : Kp294.Urn} {i j : Nat} (hi : i < u.balls.length) : Kp294.twoUp u i j = Kp294.rowUp u [i, j] := by
  rw [rowUp_u]
  show Kp294.twoUp u i j = u.balls.getD i 0 * ((u.balls.set i (u.balls.getD i 0 + u.more)).getD j 0 * 1)
  unfold Kp294.twoUp
  rw [Nat.mul_one]
  by_cases h : i = j
  · subst h
    rw [if_pos rfl, getD_set_same hi]
  · rw [if_neg h, getD_set_ne h]
/-! the first of the greatest -/
structure FirstBest (f : Nat → Nat) (n b : Nat) : Prop where
  le : b ≤ n
  top : ∀ k, k ≤ n → f k ≤ f b
  first : ∀ k, k < b → f k < f b
theorem FirstBest.eq {f : Nat → Nat} {n b c : Nat} (x : FirstBest f n b) (y : FirstBest f n c) : b = c := by
  rcases Nat.lt_trichotomy b c with h | h | h
  · have h1 := y.first b h
    have h2 := x.top c y.le
    omega
  · exact h
  · have h1 := x.first c h
    have h2 := y.top b x.le
    omega
theorem fold_best (f : Nat → Nat) : ∀ n : Nat, FirstBest f n ((List.range (n + 1)).foldl (fun (b k : Nat) => if f b < f k then k else b) 0)
  | 0 => by
    have e : ((List.range (0 + 1)).foldl (fun (b k : Nat) => if f b < f k then k else b) 0) = 0 := by
      show (if f 0 < f 0 then 0 else 0) = 0
      rw [if_neg (Nat.lt_irrefl _)]
    rw [e]
    exact ⟨Nat.le_refl _, fun k hk => by have : k = 0 := by omega
                                         rw [this]; exact Nat.le_refl _, fun k hk => absurd hk (Nat.not_lt_zero _)⟩
  | n + 1 => by
    have ih := fold_best f n
    rw [List.range_succ, List.foldl_append]
    generalize (List.range (n + 1)).foldl (fun (b k : Nat) => if f b < f k then k else b) 0 = b at ih
    show FirstBest f (n + 1) (if f b < f (n + 1) then n + 1 else b)
    by_cases h : f b < f (n + 1)
    · rw [if_pos h]
      refine ⟨Nat.le_refl _, fun k hk => ?_, fun k hk => ?_⟩
      · rcases Nat.eq_or_lt_of_le hk with e | e
        · rw [e]; exact Nat.le_refl _
        · exact Nat.le_trans (ih.top k (by omega)) (Nat.le_of_lt h)
      · exact Nat.lt_of_le_of_lt (ih.top k (by omega)) h
    · rw [if_neg h]
      refine ⟨Nat.le_trans ih.le (Nat.le_succ _), fun k hk => ?_, ih.first⟩
      rcases Nat.eq_or_lt_of_le hk with e | e
      · rw [e]; omega
      · exact ih.top k (by omega)
theorem likeliest_best (u : Kp294.Urn) (i n : Nat) : FirstBest (Kp294.justUp u i n) n (Kp294.likeliest u i n) := fold_best _ n
/-! one colour -/
theorem map_getD (f : Nat → Nat) : ∀ l : List Nat, (List.range l.length).map (fun i => f (l.getD i 0)) = l.map f := fun l => by
  refine List.ext_getElem (by simp) fun i h1 h2 => ?_
  have hi : i < l.length := by simpa using h1
  rw [List.getElem_map, List.getElem_map, List.getElem_range, List.getD_eq_getElem?_getD, List.getElem?_eq_getElem hi]
  rfl
theorem one_sum (u : Kp294.Urn) (n : Nat) : Kp291.sum ((Kp294.nums u).map fun i => Kp294.rising (u.balls.getD i 0) u.more n) = Kp291.sum (u.balls.map fun b => Kp294.rising b u.more n) := by
  unfold Kp294.nums
  rw [map_getD (fun b => Kp294.rising b u.more n)]
theorem one_bound {u : Kp294.Urn} (k : Ok u) {n : Nat} (hn : n ≤ 8) : Kp291.sum (u.balls.map fun b => Kp294.rising b u.more n) ≤ 4 * 4096 ^ 8 := by
  have h := sum_bound (b := 4096 ^ 8) (u.balls.map fun b => Kp294.rising b u.more n) (fun x hx => by
    obtain ⟨b, hb, rfl⟩ := List.mem_map.mp hx
    have h1 := k.ball_mem hb
    have h2 := k.more
    exact Nat.le_trans (rising_bound (by omega) n (by omega)) (Nat.pow_le_pow_right (by decide) hn))
  rw [List.length_map] at h
  exact Nat.le_trans h (Nat.mul_le_mul_right _ k.len)
end Mth

end
section
set_option linter.all false
namespace Mth
/-! the balls at first, draw by draw taken off -/
def firstAt (u : Kp294.Urn) (j : Nat) : List Nat := (List.range u.balls.length).map fun i => u.balls.getD i 0 - u.more * (u.drawn.take j).count i
theorem firstAt_length (u : Kp294.Urn) (j : Nat) : (firstAt u j).length = u.balls.length := by unfold firstAt; simp
theorem firstAt_getD {u : Kp294.Urn} {j i : Nat} (h : i < u.balls.length) : (firstAt u j).getD i 0 = u.balls.getD i 0 - u.more * (u.drawn.take j).count i := by
  unfold firstAt
  rw [List.getD_eq_getElem?_getD, List.getElem?_map, List.getElem?_range h]
  rfl
theorem ext_getD {l m : List Nat} (hl : l.length = m.length) (h : ∀ i, i < l.length → l.getD i 0 = m.getD i 0) : l = m := by
  refine List.ext_getElem hl fun i h1 h2 => ?_
  have e := h i h1
  rw [List.getD_eq_getElem?_getD, List.getElem?_eq_getElem h1, List.getD_eq_getElem?_getD, List.getElem?_eq_getElem h2] at e
  exact e
theorem firstAt_zero (u : Kp294.Urn) : firstAt u 0 = u.balls := by
  refine ext_getD (firstAt_length u 0) fun i hi => ?_
  rw [firstAt_length] at hi
  rw [firstAt_getD hi, List.take_zero, List.count_nil, Nat.mul_zero, Nat.sub_zero]
theorem firstAt_end (u : Kp294.Urn) : firstAt u u.drawn.length = firstBalls u := by
  unfold firstAt firstBalls
  rw [List.take_length]
theorem take_snoc' {l : List Nat} {j i : Nat} (h : l[j]? = some i) : l.take (j + 1) = l.take j ++ [i] := by
  rw [List.take_succ, h]
  rfl
theorem firstAt_turn {u : Kp294.Urn} (k : Ok u) {j i : Nat} (h : u.drawn[j]? = some i) : i < u.balls.length ∧ u.more ≤ (firstAt u j).getD i 0 ∧ firstAt u (j + 1) = (firstAt u j).set i ((firstAt u j).getD i 0 - u.more) := by
  have hi : i < u.balls.length := k.dr i (List.mem_of_getElem? h)
  have e0 := take_snoc' h
  refine ⟨hi, ?_, ?_⟩
  · obtain ⟨b0, _, _, e⟩ := k.bal i hi
    rw [firstAt_getD hi, e]
    have hc : (u.drawn.take (j + 1)).count i ≤ u.drawn.count i := (List.take_sublist _ _).count_le i
    rw [e0, List.count_append, show List.count i [i] = 1 by simp] at hc
    have h1 : u.more * ((u.drawn.take j).count i + 1) ≤ u.more * u.drawn.count i := Nat.mul_le_mul_left _ hc
    rw [Nat.mul_add, Nat.mul_one] at h1
    omega
  · refine ext_getD (by rw [List.length_set, firstAt_length, firstAt_length]) fun c hc => ?_
    rw [firstAt_length] at hc
    rw [firstAt_getD hc, e0, List.count_append]
    by_cases q : i = c
    · subst q
      rw [getD_set_same (by rw [firstAt_length]; exact hc), firstAt_getD hc, show List.count i [i] = 1 by simp, Nat.mul_add, Nat.mul_one, Nat.sub_add_eq]
    · rw [getD_set_ne q, firstAt_getD hc, show List.count c [i] = 0 by simp [q], Nat.add_zero]
/-- the row of what was drawn, from the beginning on -/
theorem ago_row {u : Kp294.Urn} (k : Ok u) : Kp294.row (Kp294.first u) u.drawn = Kp291.frac (rowW u.more (firstBalls u) u.drawn) (Kp294.rising (Kp291.sum (firstBalls u)) u.more u.drawn.length) := by
  rw [first_eq k]
  unfold Kp294.row
  rw [rowUp_u]
  rfl
theorem row_W (u : Kp294.Urn) (r : List Nat) : Kp294.row u r = Kp291.frac (rowW u.more u.balls r) (Kp294.rising (Kp291.sum u.balls) u.more r.length) := by
  unfold Kp294.row
  rw [rowUp_u]
  rfl
theorem two_W {u : Kp294.Urn} {i j : Nat} (hi : i < u.balls.length) : Kp294.two u i j = Kp291.frac (rowW u.more u.balls [i, j]) (Kp294.rising (Kp291.sum u.balls) u.more 2) := by
  unfold Kp294.two
  rw [two_row hi, rowUp_u]
  rfl
theorem frac_self {b : Nat} (h : 0 < b) : Kp291.frac b b = (1, 1) := by
  unfold Kp291.frac
  rw [if_neg (by omega), Nat.gcd_self, Nat.div_self h]
theorem one_zero {u : Kp294.Urn} (h : 0 < Kp294.all u) : Kp294.oneColour u 0 = Kp291.frac 1 1 := by
  unfold Kp294.oneColour
  rw [if_pos rfl, frac_self (rising_pos h 0)]
  rfl
theorem one_pos {u : Kp294.Urn} {n : Nat} (h : n ≠ 0) : Kp294.oneColour u n = Kp291.frac (Kp291.sum (u.balls.map fun b => Kp294.rising b u.more n)) (Kp294.rising (Kp294.all u) u.more n) := by
  unfold Kp294.oneColour
  rw [if_neg h, one_sum]
end Mth

end
section
set_option Elab.async false
set_option linter.all false
set_option maxRecDepth 100000
set_option maxHeartbeats 2000000
namespace Gb
open PySem PySem.Spec PyProof.Rows L2
open PySem.W (Codec)
open Mth
/-! the text by places -/
def top (i : Nat) : Stmt := PySem.Challenge.pw_givenback_s01_answers.main.body.getD i (.Pass ⟨0, 0, 0, 0⟩)
abbrev sInit : Stmt := inClass (top 17) 0
abbrev sGcd : Stmt := top 18
abbrev sFrac : Stmt := top 19
abbrev sRise : Stmt := top 20
abbrev sOrd : Stmt := top 21
abbrev sWRow : Stmt := top 22
abbrev sLRow : Stmt := top 23
abbrev sWCnt : Stmt := top 24
abbrev sWJust : Stmt := top 25
abbrev sWBy : Stmt := top 26
abbrev sWAll : Stmt := top 27
abbrev sFirst : Stmt := top 28
abbrev sRefC : Stmt := top 29
abbrev sRefN : Stmt := top 30
abbrev sBegin : Stmt := top 31
abbrev sColour : Stmt := top 32
abbrev sDraw : Stmt := top 33
abbrev sBack : Stmt := top 34
abbrev sChance : Stmt := top 35
abbrev sNth : Stmt := top 36
abbrev sRow : Stmt := top 37
abbrev sCounts : Stmt := top 38
abbrev sJust : Stmt := top 39
abbrev sAllR : Stmt := top 40
abbrev sTwo : Stmt := top 41
abbrev sMean : Stmt := top 42
abbrev sThen : Stmt := top 43
abbrev sLike : Stmt := top 44
abbrev sOneC : Stmt := top 45
abbrev sMore : Stmt := top 46
abbrev sWas : Stmt := top 47
abbrev sAgo : Stmt := top 48
abbrev sTold : Stmt := top 49
abbrev sOne : Stmt := top 52
abbrev sAns : Stmt := top 53
/-! values -/
def zs (l : List Nat) : List Int := l.map fun (n : Nat) => (n : Int)
abbrev vI (n : Nat) : V := .int (n : Int)
abbrev vn (l : List Nat) : List V := (zs l).map V.int
theorem zs_length (l : List Nat) : (zs l).length = l.length := by unfold zs; rw [List.length_map]
theorem vn_length (l : List Nat) : (vn l).length = l.length := by rw [List.length_map, zs_length]
theorem vn_get {l : List Nat} {i x : Nat} (h : l[i]? = some x) : (vn l)[i]? = some (vI x) := by
  show ((l.map fun (n : Nat) => (n : Int)).map V.int)[i]? = _
  rw [List.getElem?_map, List.getElem?_map, h]; rfl
theorem vn_get_inv {l : List Nat} {i : Nat} {y : V} (h : (vn l)[i]? = some y) : ∃ x, l[i]? = some x ∧ y = vI x := by
  have h' : ((l.map fun (n : Nat) => (n : Int)).map V.int)[i]? = some y := h
  rw [List.getElem?_map, List.getElem?_map] at h'
  cases e : l[i]? with
  | none => rw [e] at h'; cases h'
  | some x => rw [e] at h'; exact ⟨x, rfl, (Option.some.inj h').symm⟩
theorem vn_getD {l : List Nat} {i : Nat} (h : i < l.length) : (vn l)[i]? = some (vI (l.getD i 0)) :=
  vn_get (by rw [List.getD_eq_getElem?_getD, List.getElem?_eq_getElem h]; rfl)
theorem vn_set (l : List Nat) (i x : Nat) : (vn l).set i (vI x) = vn (l.set i x) := by
  show ((l.map fun (n : Nat) => (n : Int)).map V.int).set i _ = ((l.set i x).map fun (n : Nat) => (n : Int)).map V.int
  rw [List.map_set, List.map_set]
theorem vn_append (l m : List Nat) : vn (l ++ m) = vn l ++ vn m := by
  show ((l ++ m).map fun (n : Nat) => (n : Int)).map V.int = _
  rw [List.map_append, List.map_append]; rfl
theorem zs_sum : ∀ l : List Nat, (zs l).sum = ((Kp291.sum l : Nat) : Int)
  | [] => rfl
  | x :: l => by
    show ((x : Int) :: zs l).sum = _
    rw [List.sum_cons, zs_sum l, sum_cons]; omega
theorem vn_take (l : List Nat) (i : Nat) : (vn l).take i = vn (l.take i) := by
  show ((l.map fun (n : Nat) => (n : Int)).map V.int).take i = ((l.take i).map fun (n : Nat) => (n : Int)).map V.int
  rw [List.map_take, List.map_take]
theorem vn_drop (l : List Nat) (i : Nat) : (vn l).drop i = vn (l.drop i) := by
  show ((l.map fun (n : Nat) => (n : Int)).map V.int).drop i = ((l.drop i).map fun (n : Nat) => (n : Int)).map V.int
  rw [List.map_drop, List.map_drop]
theorem take_snoc {α : Type} : ∀ {l : List α} {i : Nat} {x : α}, l[i]? = some x → l.take (i + 1) = l.take i ++ [x]
  | [], i, x, h => by simp at h
  | a :: l, 0, x, h => by
    have e : a = x := Option.some.inj h
    subst e
    rfl
  | a :: l, i + 1, x, h => by
    have ih := take_snoc (l := l) (i := i) (x := x) (by simpa using h)
    show a :: l.take (i + 1) = a :: l.take i ++ [x]
    rw [ih]
    rfl
/-! a def of the text, as it is called by its name -/
structure Def (K : PySem.W.Frag) (mg : Str → Option Value) (x : Str) (st : Stmt) (ps : List Str) (f : Addr) (fd : FuncData) : Prop where
  fn : Fun K x x st f fd
  at_ : mg x = some (.ref f)
  bd : Binds K fd ps []
section
variable {P : Program} {w : World} {K : PySem.W.Frag} {mg : Str → Option Value} {base : Heap}
/-! ### greatest_common -/
def spGcd : Sp := fun vs H Q _ => ∃ a b : Nat, vs = [vI a, vI b] ∧ Q (vI (Nat.gcd a b)) H
theorem scGcd : FnScope ["a", "b", "rest"] ["a", "b"] (defScope sGcd) := ⟨rfl, rfl, rfl, by decide +kernel, rfl, by decide +kernel, by decide +kernel⟩
theorem ok_gcd {f : Addr} {fd : FuncData} (F : Fun K "greatest_common" "greatest_common" sGcd f fd) : FnOk P w K mg base CX0 1 f fd ["a", "b"] spGcd := by
  refine F.ok scGcd (fun vs H Q E h => ?_) (fun cdv A outer s H vs Q E hr h => ?_)
  · obtain ⟨a, b, rfl, _⟩ := h
    rfl
  · obtain ⟨a, b, rfl, k⟩ := h
    have nd := scGcd.nd
    refine ⟨_, pss_cons (ps_while PassesOwn.never (pt_cmpR op_gt (pv 1) pe_int (nomark _)) (pss_cons (ps_set (i := 2) nd rfl (Or.inl rfl) (pe_op op_mod (pv 0) (pv 1)))
      (pss_cons (ps_set (i := 0) nd rfl (Or.inl rfl) (pv 1)) (pss_one (ps_set (i := 1) nd rfl (Or.inl rfl) (pv 2)))))) (pss_one (ps_ret (pv 0))), ?_⟩
    refine while_by (fun σ H' => H' = H ∧ ∃ (x y : Nat) (r : Option V), σ = [some (vI x), some (vI y), r] ∧ Nat.gcd x y = Nat.gcd a b) (fun σ _ => match σ with | [_, some (.int y), _] => y.toNat | _ => 0) ⟨rfl, a, b, none, rfl, rfl⟩ ?_ ?_
    · rintro σ H' ⟨rfl, x, y, r, rfl, e⟩
      refine ⟨_, rfl, _, _, rfl, rfl, _, rfl, ite2 (fun h => ?_) (fun h => ?_)⟩
      · have hy : 0 < y := by have := of_decide_eq_true h; omega
        refine ⟨_, rfl, _, rfl, _, _, rfl, rfl, (by show (0 : Int) < (y : Int); omega), _, rfl, _, rfl, ⟨rfl, y, x % y, _, rfl, ?_⟩, ?_⟩
        · rw [← e, Nat.gcd_comm x y, Nat.gcd_rec y x, Nat.gcd_comm]
        · show ((x : Int) % (y : Int)).toNat < (y : Int).toNat
          have := Nat.mod_lt x hy
          have e2 : (x : Int) % (y : Int) = ((x % y : Nat) : Int) := rfl
          rw [e2, Int.toNat_natCast, Int.toNat_natCast]
          exact this
      · have hy : y = 0 := by
          have h' : ¬ decide ((0 : Int) < (y : Int)) = true := h
          have := of_decide_eq_false (Bool.eq_false_iff.mpr h')
          omega
        subst hy
        refine ⟨_, rfl, ?_⟩
        rw [Nat.gcd_zero_right] at e
        rw [e]
        exact k
    · rintro σ H1 R R' hm ⟨v, e, i, j, h1, h2, c, h3, q⟩
      exact ⟨v, e, i, j, h1, h2, c, h3, hm _ _ q⟩
end
end Gb

end
section
set_option Elab.async false
set_option linter.all false
set_option maxRecDepth 100000
set_option maxHeartbeats 2000000
namespace Gb
open PySem PySem.Spec PyProof.Rows L2
open Mth
section
variable {P : Program} {w : World} {K : PySem.W.Frag} {mg : Str → Option Value} {base : Heap}
/-! ### fraction -/
def frV (z : Nat × Nat) : List V := [vI 0, vI z.1, vI z.2]
theorem frac_of (a b : Nat) (h : 0 < b) : Kp291.frac a b = (a / Nat.gcd a b, b / Nat.gcd a b) := by
  unfold Kp291.frac
  rw [if_neg (by omega)]
def spFrac : Sp := fun vs H Q _ => ∃ a b : Nat, vs = [vI a, vI b] ∧ 0 < b ∧ b < 2 ^ 250 ∧ ∀ p, H p = none → Q (.ref p) (upd H p (.lst (frV (Kp291.frac a b))))
theorem scFrac : FnScope ["above", "below", "common"] ["above", "below"] (defScope sFrac) := ⟨rfl, rfl, rfl, by decide +kernel, rfl, by decide +kernel, by decide +kernel⟩
theorem ok_frac {f g : Addr} {fd gd : FuncData} (F : Fun K "fraction" "fraction" sFrac f fd) (D : Def K mg "greatest_common" sGcd ["a", "b"] g gd) : FnOk P w K mg base CX0 2 f fd ["above", "below"] spFrac := by
  refine F.ok scFrac (fun vs H Q E h => ?_) (fun cdv A outer s H vs Q E hr h => ?_)
  · obtain ⟨a, b, rfl, _⟩ := h
    rfl
  · obtain ⟨a, b, rfl, hb, hb2, k⟩ := h
    have nd := scFrac.nd
    refine ⟨_, pss_cons (ps_set (i := 2) nd rfl (Or.inl rfl) (pe_call (ok_gcd D.fn) hr rfl D.at_ D.fn.kp D.bd .nil pass0 (pa_cons (pv 0) (pa_cons (pv 1) pa_nil))))
      (pss_one (ps_ret (pe_lst (pa_cons pe_int (pa_cons (pe_op op_fdivB (pv 0) (pv 2)) (pa_cons (pe_op op_fdivB (pv 1) (pv 2)) pa_nil)))))), ?_⟩
    have hg : 0 < Nat.gcd a b := Nat.gcd_pos_of_pos_right a hb
    have hgb : Nat.gcd a b < 2 ^ 250 := Nat.lt_of_le_of_lt (Nat.gcd_le_right a hb) hb2
    have hc : ∀ x : Int, CDivB x ((Nat.gcd a b : Nat) : Int) := fun x => ⟨by omega, log2_small hgb⟩
    refine ⟨_, rfl, _, rfl, a, b, rfl, _, rfl, _, rfl, _, _, rfl, rfl, hc _, _, rfl, _, rfl, _, _, rfl, rfl, hc _, (by show 3 ≤ sizeLine; decide), fun p hp => ?_⟩
    have e := k p hp
    rw [frac_of a b hb] at e
    exact e
/-! ### rising -/
def spRise : Sp := fun vs H Q _ => ∃ a d n : Nat, vs = [vI a, vI d, vI n] ∧ a + 20 * d ≤ 4096 ∧ n ≤ 20 ∧ Q (vI (Kp294.rising a d n)) H
theorem scRise : FnScope ["start", "step", "n", "product", "k"] ["start", "step", "n"] (defScope sRise) := ⟨rfl, rfl, rfl, by decide +kernel, rfl, by decide +kernel, by decide +kernel⟩
theorem ok_rise {f : Addr} {fd : FuncData} (F : Fun K "rising" "rising" sRise f fd) (hrg : mg "range" = none) : FnOk P w K mg base CX0 1 f fd ["start", "step", "n"] spRise := by
  refine F.ok scRise (fun vs H Q E h => ?_) (fun cdv A outer s H vs Q E hr h => ?_)
  · obtain ⟨a, d, n, rfl, _⟩ := h
    rfl
  · obtain ⟨a, d, n, rfl, ha, hn, k⟩ := h
    have nd := scRise.nd
    refine ⟨_, pss_cons (ps_set (i := 3) nd rfl (Or.inl rfl) pe_int) (pss_cons (ps_for PassesOwn.never rfl (pi_range1 rfl hrg (pa_cons (pv 2) pa_nil)) (pg_name (i := 4) nd rfl (Or.inl rfl))
      (pss_one (ps_set (i := 3) nd rfl (Or.inl rfl) (pe_op op_mulB (pv 3) (pe_op op_add (pv 0) (pe_op op_mulB (pv 1) (pv 4))))))) (pss_one (ps_ret (pv 3)))), ?_⟩
    refine ⟨_, rfl, _, rfl, (by show -(2 ^ 62) ≤ (n : Int); omega), (by show (n : Int) < 2 ^ 62; omega), for_range (n := n) (fun i σ H' => H' = H ∧ ∃ r : Option V, σ = [some (vI a), some (vI d), some (vI n), some (vI (Kp294.rising a d i)), r]) ⟨rfl, none, rfl⟩ ?_ ?_⟩
    · rintro i σ H' hi ⟨rfl, r, rfl⟩
      have hd : d ≤ 4096 := by omega
      have h1 : CMulB (d : Int) ((0 : Int) + (i : Nat)) := ⟨log2_small (Nat.lt_of_le_of_lt hd (by decide)), by rw [Int.zero_add]; exact log2_small (Nat.lt_of_le_of_lt (by omega : i ≤ 20) (by decide))⟩
      have e1 : ((a : Int) + (d : Int) * ((0 : Int) + (i : Nat))) = ((a + i * d : Nat) : Int) := by
        rw [Int.zero_add, Int.natCast_add, Int.natCast_mul, Int.mul_comm]
      have hid : i * d ≤ 20 * d := Nat.mul_le_mul_right _ (by omega)
      have h2 : CMulB ((Kp294.rising a d i : Nat) : Int) ((a : Int) + (d : Int) * ((0 : Int) + (i : Nat))) := by
        rw [e1]
        exact ⟨log2_small (rising_lt ha (by omega)), log2_small (Nat.lt_of_le_of_lt (by omega : a + i * d ≤ 4096) (by decide))⟩
      refine ⟨_, rfl, _, rfl, _, rfl, _, rfl, _, _, rfl, rfl, h1, _, _, rfl, rfl, _, _, rfl, rfl, h2, rfl, some (.int ((0 : Int) + (i : Nat))), ?_⟩
      rw [e1]
      rfl
    · rintro σ H' ⟨rfl, r, rfl⟩
      exact ⟨_, rfl, k⟩
/-! ### orders -/
def spOrd (K : PySem.W.Frag) : Sp := fun vs H Q _ => ∃ (p : Addr) (c : List Nat), vs = [.ref p] ∧ (SqL K H p (vn c) ∨ SqT K H p (vn c)) ∧ Kp291.sum c ≤ 8 ∧ Q (vI (Kp294.orders c)) H
theorem scOrd : FnScope ["wanted", "ways", "placed", "how_many", "k"] ["wanted"] (defScope sOrd) := ⟨rfl, rfl, rfl, by decide +kernel, rfl, by decide +kernel, by decide +kernel⟩
theorem ok_ord {f : Addr} {fd : FuncData} (F : Fun K "orders" "orders" sOrd f fd) (hrg : mg "range" = none) : FnOk P w K mg base CX0 1 f fd ["wanted"] (spOrd K) := by
  refine F.ok scOrd (fun vs H Q E h => ?_) (fun cdv A outer s H vs Q E hr h => ?_)
  · obtain ⟨p, c, rfl, _⟩ := h
    rfl
  · obtain ⟨p, c, rfl, hs, h8, k⟩ := h
    have nd := scOrd.nd
    let J : Nat → L2.St → Hp → Prop := fun i σ H' => H' = H ∧ ∃ r q : Option V, σ = [some (.ref p), some (vI (Kp294.orders (c.take i))), some (vI (Kp291.sum (c.take i))), r, q]
    have hend : ∀ (D : Ends), D.rt = Q → ∀ σ H', J (vn c).length σ H' → tRet (tVar 1) D σ H' := by
      rintro D rfl σ H' ⟨rfl, r, q, rfl⟩
      refine ⟨_, rfl, ?_⟩
      rw [vn_length, List.take_length]
      exact k
    have turn : ∀ (D : Ends) (i : Nat) (x : V) (σ : L2.St) (H' : Hp), D.nx = J (i + 1) → (vn c)[i]? = some x → J i σ H' → tFor (iRng1 (tCons (tVar 3) tNil)) (gName 4)
        (tSeq (tAsg (tOp (rI0 fun i j => .int (i + j)) (tVar 2) (tC (.int 1))) (gName 2)) (tAsg (tOp (rI CDivB fun i j => .int (i / j)) (tOp (rI CMulB fun i j => .int (i * j)) (tVar 1) (tVar 2)) (tOp (rI0 fun i j => .int (i + j)) (tVar 4) (tC (.int 1)))) (gName 1))) D (σ.set 3 (some x)) H' := by
      rintro D i x σ H' hD hx ⟨rfl, r, q, rfl⟩
      obtain ⟨m, hm, rfl⟩ := vn_get_inv hx
      have e0 := take_snoc hm
      have hle : Kp291.sum (c.take i) + m ≤ 8 := by
        have h1 : Kp291.sum (c.take (i + 1)) + Kp291.sum (c.drop (i + 1)) = Kp291.sum c := by rw [← sum_append, List.take_append_drop]
        rw [e0, sum_append, sum_cons, sum_nil] at h1
        omega
      refine ⟨_, rfl, _, rfl, (by show -(2 ^ 62) ≤ (m : Int); omega), (by show (m : Int) < 2 ^ 62; omega), for_range (n := m) (fun j σ H2 => H2 = H' ∧ ∃ q : Option V, σ = [some (.ref p), some (vI (Kp294.orders (c.take i) * bin (Kp291.sum (c.take i) + j) j)), some (vI (Kp291.sum (c.take i) + j)), some (vI m), q]) ⟨rfl, q, ?_⟩ ?_ ?_⟩
      · rw [bin_zero, Nat.mul_one]
        rfl
      · rintro j σ H2 hj ⟨rfl, q, rfl⟩
        have ew : Kp294.orders (c.take i) * bin (Kp291.sum (c.take i) + j) j = Kp294.orders (c.take i ++ [j]) := (orders_snoc _ _).symm
        have hw : Kp294.orders (c.take i) * bin (Kp291.sum (c.take i) + j) j ≤ 40320 := by
          rw [ew]
          refine orders_le8 ?_
          rw [sum_append, sum_cons, sum_nil]
          omega
        have e1 : ((Kp291.sum (c.take i) + j : Nat) : Int) + 1 = ((Kp291.sum (c.take i) + j + 1 : Nat) : Int) := rfl
        have e2 : (0 : Int) + ((j : Nat) : Int) + 1 = ((j + 1 : Nat) : Int) := by omega
        have hM : CMulB ((Kp294.orders (c.take i) * bin (Kp291.sum (c.take i) + j) j : Nat) : Int) (((Kp291.sum (c.take i) + j : Nat) : Int) + 1) :=
          ⟨log2_small (Nat.lt_of_le_of_lt hw (by decide)), by rw [e1]; exact log2_small (Nat.lt_of_le_of_lt (by omega : Kp291.sum (c.take i) + j + 1 ≤ 9) (by decide))⟩
        have hV : CDivB (((Kp294.orders (c.take i) * bin (Kp291.sum (c.take i) + j) j : Nat) : Int) * (((Kp291.sum (c.take i) + j : Nat) : Int) + 1)) ((0 : Int) + ((j : Nat) : Int) + 1) :=
          ⟨by omega, by rw [e2]; exact log2_small (Nat.lt_of_le_of_lt (by omega : j + 1 ≤ 9) (by decide))⟩
        refine ⟨_, rfl, _, _, rfl, rfl, _, rfl, _, rfl, _, _, rfl, rfl, hM, _, rfl, _, _, rfl, rfl, _, _, rfl, rfl, hV, rfl, some (.int ((0 : Int) + ((j : Nat) : Int))), ?_⟩
        have e3 : ((Kp294.orders (c.take i) * bin (Kp291.sum (c.take i) + j) j : Nat) : Int) * (((Kp291.sum (c.take i) + j : Nat) : Int) + 1) / ((0 : Int) + ((j : Nat) : Int) + 1) = ((Kp294.orders (c.take i) * bin (Kp291.sum (c.take i) + (j + 1)) (j + 1) : Nat) : Int) := by
          rw [e1, e2, ← orders_turn, Int.natCast_ediv, Int.natCast_mul (Kp294.orders (c.take i) * bin (Kp291.sum (c.take i) + j) j)]
        exact congrArg (fun z : Int => [some (V.ref p), some (V.int z), some (vI (Kp291.sum (c.take i) + (j + 1))), some (vI m), some (V.int ((0 : Int) + ((j : Nat) : Int)))]) e3
      · rintro σ H2 ⟨rfl, q, rfl⟩
        rw [hD]
        refine ⟨rfl, some (vI m), q, ?_⟩
        rw [e0, orders_snoc, sum_append, sum_cons, sum_nil, Nat.add_zero]
    have st0 : ∀ r q : Option V, J 0 [some (.ref p), some (vI 1), some (vI 0), r, q] H := fun r q => ⟨rfl, r, q, rfl⟩
    rcases hs with hs | hs
    · refine ⟨_, pss_cons (ps_set (i := 1) nd rfl (Or.inl rfl) pe_int) (pss_cons (ps_set (i := 2) nd rfl (Or.inl rfl) pe_int) (pss_cons (ps_for PassesOwn.never rfl (pi_list (pv 0)) (pg_name (i := 3) nd rfl (Or.inl rfl))
        (pss_one (ps_for PassesOwn.never rfl (pi_range1 rfl hrg (pa_cons (pv 3) pa_nil)) (pg_name (i := 4) nd rfl (Or.inl rfl)) (pss_cons (ps_set (i := 2) nd rfl (Or.inl rfl) (pe_op op_add (pv 2) pe_int))
          (pss_one (ps_set (i := 1) nd rfl (Or.inl rfl) (pe_op op_fdivB (pe_op op_mulB (pv 1) (pv 2)) (pe_op op_add (pv 4) pe_int)))))))) (pss_one (ps_ret (pv 1))))), ?_⟩
      refine ⟨_, rfl, p, rfl, ⟨_, hs⟩, for_list (K := K) (a := p) (xs := vn c) J (st0 none none) (fun i σ H' _ ⟨e, _⟩ => by rw [e]; exact hs) (fun i x σ H' hx hJ => turn _ i x σ H' rfl hx hJ) (fun σ H2 hJ => hend _ rfl σ H2 hJ)⟩
    · refine ⟨_, pss_cons (ps_set (i := 1) nd rfl (Or.inl rfl) pe_int) (pss_cons (ps_set (i := 2) nd rfl (Or.inl rfl) pe_int) (pss_cons (ps_for PassesOwn.never rfl (pi_tup (pv 0)) (pg_name (i := 3) nd rfl (Or.inl rfl))
        (pss_one (ps_for PassesOwn.never rfl (pi_range1 rfl hrg (pa_cons (pv 3) pa_nil)) (pg_name (i := 4) nd rfl (Or.inl rfl)) (pss_cons (ps_set (i := 2) nd rfl (Or.inl rfl) (pe_op op_add (pv 2) pe_int))
          (pss_one (ps_set (i := 1) nd rfl (Or.inl rfl) (pe_op op_fdivB (pe_op op_mulB (pv 1) (pv 2)) (pe_op op_add (pv 4) pe_int)))))))) (pss_one (ps_ret (pv 1))))), ?_⟩
      refine ⟨_, rfl, p, rfl, ⟨_, hs⟩, for_tup (K := K) (a := p) (xs := vn c) J (st0 none none) (fun i σ H' _ ⟨e, _⟩ => by rw [e]; exact hs) (fun i x σ H' hx hJ => turn _ i x σ H' rfl hx hJ) (fun σ H2 hJ => hend _ rfl σ H2 hJ)⟩
end
end Gb

end
section
set_option Elab.async false
set_option linter.all false
set_option maxRecDepth 100000
set_option maxHeartbeats 2000000
namespace Gb
open PySem PySem.Spec PyProof.Rows L2
open Mth
/-! the urn as an object -/
def uf (b : Bool) (m : Nat) (lb ld : Addr) : List (Str × V) := [("begun", .bl b), ("more", vI m), ("balls", .ref lb), ("drawn", .ref ld)]
theorem uf_begun (b : Bool) (m : Nat) (lb ld : Addr) : (uf b m lb ld).lookup ("begun" : Str) = some (.bl b) := rfl
theorem uf_more (b : Bool) (m : Nat) (lb ld : Addr) : (uf b m lb ld).lookup ("more" : Str) = some (vI m) := rfl
theorem uf_balls (b : Bool) (m : Nat) (lb ld : Addr) : (uf b m lb ld).lookup ("balls" : Str) = some (.ref lb) := rfl
theorem uf_drawn (b : Bool) (m : Nat) (lb ld : Addr) : (uf b m lb ld).lookup ("drawn" : Str) = some (.ref ld) := rfl
theorem uf_set_begun (b c : Bool) (m : Nat) (lb ld : Addr) : putF "begun" (.bl c) (uf b m lb ld) = uf c m lb ld := rfl
theorem uf_set_more (b : Bool) (m n : Nat) (lb ld : Addr) : putF "more" (vI n) (uf b m lb ld) = uf b n lb ld := rfl
theorem uf_set_balls (b : Bool) (m : Nat) (lb ld lc : Addr) : putF "balls" (.ref lc) (uf b m lb ld) = uf b m lc ld := rfl
theorem uf_set_drawn (b : Bool) (m : Nat) (lb ld lc : Addr) : putF "drawn" (.ref lc) (uf b m lb ld) = uf b m lb lc := rfl
theorem uf_init (lb ld : Addr) : putF "drawn" (.ref ld) (putF "balls" (.ref lb) (putF "more" (vI 0) (putF "begun" (.bl false) []))) = uf false 0 lb ld := rfl
structure UAt (C : Addr) (H : Hp) (p dx lb ld : Addr) (b : Bool) (u : Kp294.Urn) : Prop where
  ob : H p = some (.ins C dx (uf b u.more lb ld))
  ba : H lb = some (.lst (vn u.balls))
  dr : H ld = some (.lst (vn u.drawn))
  ne : lb ≠ ld
theorem UAt.same {C : Addr} {H H' : Hp} {p dx lb ld : Addr} {b : Bool} {u : Kp294.Urn} (U : UAt C H p dx lb ld b u) (s : Same H H') : UAt C H' p dx lb ld b u := ⟨s _ _ U.ob, s _ _ U.ba, s _ _ U.dr, U.ne⟩
theorem Same.upd {H : Hp} {p : Addr} {o : HO} (h : H p = none) : Same H (upd H p o) := fun b q e => by rw [upd_ne (ne_of_none e h)]; exact e
theorem Same.rfl' (H : Hp) : Same H H := fun _ _ h => h
theorem Same.tup {K : PySem.W.Frag} {H H' : Hp} {a : Addr} {xs : List V} (e : Same H H') (h : SqT K H a xs) : SqT K H' a xs := by
  rcases h with (h | ⟨o, h⟩) | h
  · exact .inl (.inl (e _ _ h))
  · exact .inl (.inr ⟨o, e _ _ h⟩)
  · exact .inr h
/-- what the module has, as the defs read it -/
structure Txt (K : PySem.W.Frag) (mg : Str → Option Value) (C : Addr) : Prop where
  cl : Cls K C
  nB : NoAttr K C "begun"
  nM : NoAttr K C "more"
  nL : NoAttr K C "balls"
  nD : NoAttr K C "drawn"
  mgC : mg "Urn" = some (.ref C)
  len : mg "len" = none
  sum : mg "sum" = none
  range : mg "range" = none
  list : mg "list" = none
  zip : mg "zip" = none
  any : mg "any" = none
  max : mg "max" = none
  c2 : ∃ t, mg "NO_SUCH_COLOUR" = some (.int (-2) t)
  c6 : ∃ t, mg "NO_BALLS" = some (.int (-6) t)
  c11 : ∃ t, mg "NOT_BEGUN" = some (.int (-11) t)
  c12 : ∃ t, mg "NOTHING_DRAWN" = some (.int (-12) t)
  c16 : ∃ t, mg "ALREADY_DRAWN" = some (.int (-16) t)
  c22 : ∃ t, mg "OUT_OF_RANGE" = some (.int (-22) t)
  c28 : ∃ t, mg "FULL" = some (.int (-28) t)
  c33 : ∃ t, mg "NONE_OF_IT" = some (.int (-33) t)
  mMore : ∃ t, mg "MOST_MORE" = some (.int 5 t)
  mBalls : ∃ t, mg "MOST_BALLS" = some (.int 10 t)
  mCol : ∃ t, mg "MOST_COLOURS" = some (.int 4 t)
  mDrawn : ∃ t, mg "MOST_DRAWN" = some (.int 60 t)
  mAhead : ∃ t, mg "MOST_AHEAD" = some (.int 1000 t)
  mRow : ∃ t, mg "LONGEST_ROW" = some (.int 6 t)
  mCount : ∃ t, mg "MOST_COUNTED" = some (.int 8 t)
  mLook : ∃ t, mg "MOST_LOOKED_BACK" = some (.int 20 t)
  cBegin : ∃ t, mg "BEGIN" = some (.int 0 t)
/-- a constant of the module -/
theorem pe_k {X : Cx} {x : Str} {i : Int} {pos : Pos} (h : ∃ t, X.mg x = some (.int i t)) (hg : Gl X x := by rfl) (hd : (x == ("__debug__" : Str)) = false := by decide) : PE X (.Name x pos) (tC (.int i)) :=
  let ⟨t, e⟩ := h
  pe_glob hg e ⟨t, rfl⟩ hd
section
variable {P : Program} {w : World} {K : PySem.W.Frag} {mg : Str → Option Value} {base : Heap}
/-! ### weight_of_row -/
def spWRow (K : PySem.W.Frag) : Sp := fun vs H Q _ => ∃ (a g : Addr) (m : Nat) (b r : List Nat), vs = [.ref a, vI m, .ref g] ∧ SqL K H a (vn b) ∧ SqL K H g (vn r) ∧ (∀ i, b.getD i 0 ≤ 310) ∧ m ≤ 5 ∧ (∀ i ∈ r, i < b.length) ∧ r.length ≤ 20 ∧
  ∀ H', Same H H' → Q (vI (rowW m b r)) H'
theorem scWRow : FnScope ["balls", "more", "colours", "there", "weight", "i"] ["balls", "more", "colours"] (defScope sWRow) := ⟨rfl, rfl, rfl, by decide +kernel, rfl, by decide +kernel, by decide +kernel⟩
theorem ok_wrow {f C : Addr} {fd : FuncData} (F : Fun K "weight_of_row" "weight_of_row" sWRow f fd) (T : Txt K mg C) : FnOk P w K mg base CX0 1 f fd ["balls", "more", "colours"] (spWRow K) := by
  refine F.ok scWRow (fun vs H Q E h => ?_) (fun cdv A outer s H vs Q E hr h => ?_)
  · obtain ⟨a, g, m, b, r, rfl, _⟩ := h
    rfl
  · obtain ⟨a, g, m, b, r, rfl, ha, hs, hB, hm, hi, hl, k⟩ := h
    have nd := scWRow.nd
    refine ⟨_, pss_cons (ps_set (i := 3) nd rfl (Or.inl rfl) (pe_callTy call_list_of (by rfl) T.list (by decide +kernel) (pa_cons (pv 0) pa_nil))) (pss_cons (ps_set (i := 4) nd rfl (Or.inl rfl) pe_int)
      (pss_cons (ps_for PassesOwn.never rfl (pi_list (pv 2)) (pg_name (i := 5) nd rfl (Or.inl rfl)) (pss_cons (ps_set (i := 4) nd rfl (Or.inl rfl) (pe_op op_mulB (pv 4) (pe_ix ix_list (pv 3) (pv 5) (fun _ _ => rfl))))
        (pss_one (ps_asg (pe_op op_add (pe_ix ix_list (pv 3) (pv 5) (fun _ _ => rfl)) (pv 1)) (pg_sub (pv 3) (pv 5) set_list))))) (pss_one (ps_ret (pv 4))))), ?_⟩
    refine ⟨_, rfl, a, _, rfl, .inl ha, fun l hl0 => ?_⟩
    have hS : Same H (upd H l (.lst (vn b))) := Same.upd hl0
    refine ⟨_, rfl, g, rfl, ⟨_, hS.seq hs⟩, for_list (K := K) (a := g) (xs := vn r) (fun j σ H' => H' = upd H l (.lst (vn (behind m b (r.take j)))) ∧ ∃ x : Option V, σ = [some (.ref a), some (vI m), some (.ref g), some (.ref l), some (vI (rowW m b (r.take j))), x])
      ⟨rfl, none, rfl⟩ (fun j σ H' _ ⟨e, _⟩ => by rw [e]; exact (Same.upd hl0).seq hs) ?_ ?_⟩
    · rintro j y σ H' hy ⟨rfl, x, rfl⟩
      obtain ⟨i, hri, rfl⟩ := vn_get_inv hy
      have hil : i < (behind m b (r.take j)).length := by rw [behind_length]; exact hi i (List.mem_of_getElem? hri)
      have hjl : j < r.length := (List.getElem?_eq_some_iff.mp hri).1
      have htl : (r.take j).length ≤ 20 := by rw [List.length_take]; omega
      have hb1 : (behind m b (r.take j)).getD i 0 ≤ 410 := by
        have h1 := behind_le m (r.take j) b 310 hB i
        have h2 : m * (r.take j).length ≤ 5 * 20 := Nat.mul_le_mul hm htl
        omega
      have hw1 : rowW m b (r.take j) < 2 ^ 250 := by
        have h2 : m * (r.take j).length ≤ 5 * 20 := Nat.mul_le_mul hm htl
        have h1 := rowW_bound m 0 0 (by omega) (r.take j) b 310 hB (by omega)
        exact Nat.lt_of_le_of_lt (Nat.le_trans h1 (Nat.pow_le_pow_right (by decide) htl)) (by decide)
      have hM : CMulB ((rowW m b (r.take j) : Nat) : Int) (((behind m b (r.take j)).getD i 0 : Nat) : Int) := ⟨log2_small hw1, log2_small (Nat.lt_of_le_of_lt hb1 (by decide))⟩
      have hat : atI (vn (behind m b (r.take j))) ((i : Nat) : Int) = some (vI ((behind m b (r.take j)).getD i 0)) := atI_nat (vn_getD hil)
      have hix : ixN (vn (behind m b (r.take j))).length ((i : Nat) : Int) = some i := by
        unfold ixN
        rw [vn_length, if_pos (Int.natCast_nonneg _), if_pos (by omega), Int.toNat_natCast]
      refine ⟨_, rfl, _, rfl, _, rfl, l, _, _, _, rfl, rfl, SqL.of upd_same, hat, _, _, rfl, rfl, hM, _, rfl, _, rfl, l, _, _, _, rfl, rfl, SqL.of upd_same, hat, _, rfl, _, _, rfl, rfl, _, rfl, _, rfl, l, _, _, i, rfl, rfl, upd_same, hix, ?_, some (vI i), ?_⟩
      · rw [upd_upd, take_snoc hri, behind_snoc, ← vn_set]
        rfl
      · rw [take_snoc hri, rowW_snoc]
        rfl
    · rintro σ H' ⟨rfl, x, rfl⟩
      refine ⟨_, rfl, ?_⟩
      rw [vn_length, List.take_length]
      exact k _ (Same.upd hl0)
/-! ### likely_row -/
def spLRow (K : PySem.W.Frag) : Sp := fun vs H Q _ => ∃ (a g : Addr) (m : Nat) (b r : List Nat), vs = [.ref a, vI m, .ref g] ∧ SqL K H a (vn b) ∧ SqL K H g (vn r) ∧ (∀ i, b.getD i 0 ≤ 310) ∧ m ≤ 5 ∧ (∀ i ∈ r, i < b.length) ∧ r.length ≤ 20 ∧ 0 < Kp291.sum b ∧ Kp291.sum b ≤ 1240 ∧
  ∀ H' q, Same H H' → H' q = none → Q (.ref q) (upd H' q (.lst (frV (Kp291.frac (rowW m b r) (Kp294.rising (Kp291.sum b) m r.length)))))
theorem scLRow : FnScope ["balls", "more", "colours"] ["balls", "more", "colours"] (defScope sLRow) := ⟨rfl, rfl, rfl, by decide +kernel, rfl, by decide +kernel, by decide +kernel⟩
theorem ok_lrow {f w0 r0 f0 g0 C : Addr} {fd wd rd f1 gd : FuncData} (F : Fun K "likely_row" "likely_row" sLRow f fd) (Dw : Def K mg "weight_of_row" sWRow ["balls", "more", "colours"] w0 wd) (Dr : Def K mg "rising" sRise ["start", "step", "n"] r0 rd)
    (Df : Def K mg "fraction" sFrac ["above", "below"] f0 f1) (Dg : Def K mg "greatest_common" sGcd ["a", "b"] g0 gd) (T : Txt K mg C) : FnOk P w K mg base CX0 3 f fd ["balls", "more", "colours"] (spLRow K) := by
  refine F.ok scLRow (fun vs H Q E h => ?_) (fun cdv A outer s H vs Q E hr h => ?_)
  · obtain ⟨a, g, m, b, r, rfl, _⟩ := h
    rfl
  · obtain ⟨a, g, m, b, r, rfl, ha, hs, hB, hm, hi, hl, hp, hq, k⟩ := h
    have nd := scLRow.nd
    refine ⟨_, pss_one (ps_ret (pe_call (ok_frac Df.fn Dg) hr rfl Df.at_ Df.fn.kp Df.bd .nil pass0 (pa_cons (pe_call (ok_wrow Dw.fn T) (hr.mono (by omega)) rfl Dw.at_ Dw.fn.kp Dw.bd .nil pass0 (pa_cons (pv 0) (pa_cons (pv 1) (pa_cons (pv 2) pa_nil))))
      (pa_cons (pe_call (ok_rise Dr.fn T.range) (hr.mono (by omega)) rfl Dr.at_ Dr.fn.kp Dr.bd .nil pass0 (pa_cons (pe_callB (cr_sum rfl) (by rfl) T.sum (by decide +kernel) (pa_cons (pv 0) pa_nil)) (pa_cons (pv 1) (pa_cons (pe_callB call_len_seq (by rfl) T.len PySem.boot_len (pa_cons (pv 2) pa_nil)) pa_nil)))) pa_nil)))), ?_⟩
    refine ⟨_, rfl, _, rfl, _, rfl, a, g, m, b, r, rfl, ha, hs, hB, hm, hi, hl, fun H1 S1 => ?_⟩
    refine ⟨_, rfl, a, zs b, rfl, S1.seq ha, _, rfl, _, rfl, g, _, rfl, .inl (S1.seq hs), Kp291.sum b, m, r.length, ?_, by omega, hl, _, _, rfl, rising_pos hp _, rising_lt (by omega) hl, fun q hq => k H1 q S1 hq⟩
    rw [zs_sum, vn_length]
    rfl
end
end Gb

end
section
set_option Elab.async false
set_option linter.all false
set_option maxRecDepth 100000
set_option maxHeartbeats 2000000
namespace Gb
open PySem PySem.Spec PyProof.Rows L2
open Mth
section
variable {P : Program} {w : World} {K : PySem.W.Frag} {mg : Str → Option Value} {base : Heap}
/-! ### weight_of_counts -/
def spWCnt (K : PySem.W.Frag) : Sp := fun vs H Q _ => ∃ (a g : Addr) (m : Nat) (b c : List Nat), vs = [.ref a, vI m, .ref g] ∧ ((SqL K H a (vn b) ∧ SqL K H g (vn c)) ∨ (SqT K H a (vn b) ∧ SqT K H g (vn c))) ∧ b.length = c.length ∧ (∀ x ∈ b, x ≤ 2000) ∧ m ≤ 5 ∧ Kp291.sum c ≤ 8 ∧
  ∀ H', Same H H' → Q (vI (Kp294.orders c * prods m b c)) H'
theorem scWCnt : FnScope ["balls", "more", "wanted", "weight", "start", "how_many"] ["balls", "more", "wanted"] (defScope sWCnt) := ⟨rfl, rfl, rfl, by decide +kernel, rfl, by decide +kernel, by decide +kernel⟩
theorem ok_wcnt {f o r C : Addr} {fd od rd : FuncData} (F : Fun K "weight_of_counts" "weight_of_counts" sWCnt f fd) (Do : Def K mg "orders" sOrd ["wanted"] o od) (Dr : Def K mg "rising" sRise ["start", "step", "n"] r rd) (T : Txt K mg C) :
    FnOk P w K mg base CX0 2 f fd ["balls", "more", "wanted"] (spWCnt K) := by
  refine F.ok scWCnt (fun vs H Q E h => ?_) (fun cdv A outer s H vs Q E hr h => ?_)
  · obtain ⟨a, g, m, b, c, rfl, _⟩ := h
    rfl
  · obtain ⟨a, g, m, b, c, rfl, hs, hl, hb, hm, h8, k⟩ := h
    have nd := scWCnt.nd
    let J : Nat → L2.St → Hp → Prop := fun i σ H' => Same H H' ∧ ∃ q r : Option V, σ = [some (.ref a), some (vI m), some (.ref g), some (vI (Kp294.orders c * prods m (b.take i) (c.take i))), q, r]
    have hend : ∀ (D : Ends), D.rt = Q → ∀ σ H', J (vn b).length σ H' → tRet (tVar 3) D σ H' := by
      rintro D rfl σ H' ⟨hS, q, r, rfl⟩
      refine ⟨_, rfl, ?_⟩
      have e := k H' hS
      rw [vn_length, List.take_length, hl, List.take_length]
      exact e
    have turn : ∀ (D : Ends) (i : Nat) (x y : V) (t : Addr) (σ : L2.St) (H' : Hp), D.nx = J (i + 1) → (vn b)[i]? = some x → (vn c)[i]? = some y → H' t = none → J i σ H' →
        gTup K 2 (gCons (gName 4) (gCons (gName 5) gNil)) (.ref t) σ (upd H' t (.tup [x, y])) fun σ2 H2 => tAsg (tOp (rI CMulB fun i j => .int (i * j)) (tVar 3) (tCall spRise [] E0 (tCons (tVar 4) (tCons (tVar 1) (tCons (tVar 5) tNil))))) (gName 3) D σ2 H2 := by
      rintro D i x y t σ H' hD hx hy ht ⟨hS, q, r, rfl⟩
      obtain ⟨bx, hbx, rfl⟩ := vn_get_inv hx
      obtain ⟨cy, hcy, rfl⟩ := vn_get_inv hy
      have hbl : bx ≤ 2000 := hb bx (List.mem_of_getElem? hbx)
      have hcl : cy ≤ 8 := Nat.le_trans (mem_sum (List.mem_of_getElem? hcy)) h8
      have hsum : Kp291.sum (c.take i) ≤ 8 := by
        have h1 : Kp291.sum (c.take i) + Kp291.sum (c.drop i) = Kp291.sum c := by rw [← sum_append, List.take_append_drop]
        omega
      have hp : prods m (b.take i) (c.take i) ≤ 4096 ^ 8 := by
        refine Nat.le_trans (prods_bound m (b.take i) (c.take i) (fun z hz => ?_) (by omega)) (Nat.pow_le_pow_right (by decide) hsum)
        have := hb z (List.mem_of_mem_take hz)
        omega
      have hw : Kp294.orders c * prods m (b.take i) (c.take i) < 2 ^ 250 := Nat.lt_of_le_of_lt (Nat.mul_le_mul (orders_le8 h8) hp) (by decide)
      have hM : CMulB ((Kp294.orders c * prods m (b.take i) (c.take i) : Nat) : Int) ((Kp294.rising bx m cy : Nat) : Int) := ⟨log2_small hw, log2_small (rising_lt (by omega) (by omega))⟩
      refine ⟨t, _, rfl, SqT.of upd_same, rfl, _, _, rfl, _, _, rfl, rfl, _, rfl, _, rfl, _, rfl, _, rfl, bx, m, cy, rfl, by omega, by omega, _, _, rfl, rfl, hM, ?_⟩
      rw [hD]
      refine ⟨hS.trans (Same.upd ht), some (vI bx), some (vI cy), ?_⟩
      rw [prods_snoc m b c i bx cy hbx hcy, ← Nat.mul_assoc]
      rfl
    rcases hs with ⟨h1, h2⟩ | ⟨h1, h2⟩
    · refine ⟨_, pss_cons (ps_set (i := 3) nd rfl (Or.inl rfl) (pe_call (ok_ord Do.fn T.range) hr rfl Do.at_ Do.fn.kp Do.bd .nil pass0 (pa_cons (pv 2) pa_nil))) (pss_cons (ps_for PassesOwn.never rfl (pi_zip rfl T.zip (pa_cons (pv 0) (pa_cons (pv 2) pa_nil)))
        (pg_tup rfl (pgs_cons (pg_name (i := 4) nd rfl (Or.inl rfl)) (pgs_cons (pg_name (i := 5) nd rfl (Or.inl rfl)) pgs_nil)))
        (pss_one (ps_set (i := 3) nd rfl (Or.inl rfl) (pe_op op_mulB (pv 3) (pe_call (ok_rise Dr.fn T.range) hr rfl Dr.at_ Dr.fn.kp Dr.bd .nil pass0 (pa_cons (pv 4) (pa_cons (pv 1) (pa_cons (pv 5) pa_nil)))))))) (pss_one (ps_ret (pv 3)))), ?_⟩
      refine ⟨_, rfl, g, c, rfl, .inl h2, h8, _, rfl, _, rfl, a, g, _, _, rfl, h1, h2, for_zip (K := K) (xs := vn b) (ys := vn c) (by rw [vn_length, vn_length]; exact hl) J ⟨Same.rfl' H, none, none, ?_⟩ (fun i σ H' _ ⟨e, _⟩ => ⟨e.seq h1, e.seq h2⟩)
        (fun i x y t σ H' hx hy ht hJ => turn _ i x y t σ H' rfl hx hy ht hJ) (fun σ H2 hJ => hend _ rfl σ H2 hJ)⟩
      rw [List.take_zero, List.take_zero, show prods m [] [] = 1 from rfl, Nat.mul_one]
      rfl
    · refine ⟨_, pss_cons (ps_set (i := 3) nd rfl (Or.inl rfl) (pe_call (ok_ord Do.fn T.range) hr rfl Do.at_ Do.fn.kp Do.bd .nil pass0 (pa_cons (pv 2) pa_nil))) (pss_cons (ps_for PassesOwn.never rfl (pi_zipT rfl T.zip (pa_cons (pv 0) (pa_cons (pv 2) pa_nil)))
        (pg_tup rfl (pgs_cons (pg_name (i := 4) nd rfl (Or.inl rfl)) (pgs_cons (pg_name (i := 5) nd rfl (Or.inl rfl)) pgs_nil)))
        (pss_one (ps_set (i := 3) nd rfl (Or.inl rfl) (pe_op op_mulB (pv 3) (pe_call (ok_rise Dr.fn T.range) hr rfl Dr.at_ Dr.fn.kp Dr.bd .nil pass0 (pa_cons (pv 4) (pa_cons (pv 1) (pa_cons (pv 5) pa_nil)))))))) (pss_one (ps_ret (pv 3)))), ?_⟩
      refine ⟨_, rfl, g, c, rfl, .inr h2, h8, _, rfl, _, rfl, a, g, _, _, rfl, h1, h2, for_zipT (K := K) (xs := vn b) (ys := vn c) (by rw [vn_length, vn_length]; exact hl) J ⟨Same.rfl' H, none, none, ?_⟩ (fun i σ H' _ ⟨e, _⟩ => ⟨Same.tup e h1, Same.tup e h2⟩)
        (fun i x y t σ H' hx hy ht hJ => turn _ i x y t σ H' rfl hx hy ht hJ) (fun σ H2 hJ => hend _ rfl σ H2 hJ)⟩
      rw [List.take_zero, List.take_zero, show prods m [] [] = 1 from rfl, Nat.mul_one]
      rfl
/-! ### weight_of_just -/
def spWJust (C : Addr) : Sp := fun vs H Q _ => ∃ (p dx lb ld : Addr) (b : Bool) (u : Kp294.Urn) (i n k : Nat), vs = [.ref p, vI i, vI n, vI k] ∧ UAt C H p dx lb ld b u ∧ Ok u ∧ i < u.balls.length ∧ n ≤ 8 ∧ k ≤ n ∧
  ∀ H', Same H H' → Q (vI (Kp294.justUp u i n k)) H'
theorem scWJust : FnScope ["urn", "i", "n", "k", "others"] ["urn", "i", "n", "k"] (defScope sWJust) := ⟨rfl, rfl, rfl, by decide +kernel, rfl, by decide +kernel, by decide +kernel⟩
theorem ok_wjust {f o r c C : Addr} {fd od rd cd : FuncData} (F : Fun K "weight_of_just" "weight_of_just" sWJust f fd) (Dc : Def K mg "weight_of_counts" sWCnt ["balls", "more", "wanted"] c cd) (Do : Def K mg "orders" sOrd ["wanted"] o od) (Dr : Def K mg "rising" sRise ["start", "step", "n"] r rd) (T : Txt K mg C) :
    FnOk P w K mg base CX0 3 f fd ["urn", "i", "n", "k"] (spWJust C) := by
  refine F.ok scWJust (fun vs H Q E h => ?_) (fun cdv A outer s H vs Q E hr h => ?_)
  · obtain ⟨p, dx, lb, ld, b, u, i, n, k, rfl, _⟩ := h
    rfl
  · obtain ⟨p, dx, lb, ld, b, u, i, n, j, rfl, U, ku, hi, hn, hj, k⟩ := h
    have nd := scWJust.nd
    have hat : atI (vn u.balls) ((i : Nat) : Int) = some (vI (u.balls.getD i 0)) := atI_nat (vn_getD hi)
    have hle : u.balls.getD i 0 ≤ Kp291.sum u.balls := getD_sum _ _
    have e1 : (zs u.balls).sum - ((u.balls.getD i 0 : Nat) : Int) = ((Kp294.all u - u.balls.getD i 0 : Nat) : Int) := by
      rw [zs_sum]
      show _ = ((Kp291.sum u.balls - u.balls.getD i 0 : Nat) : Int)
      omega
    have e2 : ((n : Nat) : Int) - ((j : Nat) : Int) = ((n - j : Nat) : Int) := by omega
    refine ⟨_, pss_cons (ps_set (i := 4) nd rfl (Or.inl rfl) (pe_op op_sub (pe_callB (cr_sum rfl) (by rfl) T.sum (by decide +kernel) (pa_cons (pe_fld (pv 0) rfl) pa_nil)) (pe_ix ix_list (pe_fld (pv 0) rfl) (pv 1) (fun _ _ => rfl))))
      (pss_one (ps_ret (pe_call (ok_wcnt Dc.fn Do Dr T) hr rfl Dc.at_ Dc.fn.kp Dc.bd .nil pass0 (pa_cons (pe_tup (pa_cons (pe_ix ix_list (pe_fld (pv 0) rfl) (pv 1) (fun _ _ => rfl)) (pa_cons (pv 4) pa_nil))) (pa_cons (pe_fld (pv 0) rfl) (pa_cons (pe_tup (pa_cons (pv 3) (pa_cons (pe_op op_sub (pv 2) (pv 3)) pa_nil))) pa_nil)))))), ?_⟩
    refine ⟨_, rfl, p, C, dx, _, _, rfl, U.ob, T.cl, T.nL, uf_balls .., lb, zs u.balls, rfl, SqL.of U.ba, _, rfl, p, C, dx, _, _, rfl, U.ob, T.cl, T.nL, uf_balls .., _, rfl, lb, _, _, _, rfl, rfl, SqL.of U.ba, hat, _, _, rfl, rfl,
      _, rfl, p, C, dx, _, _, rfl, U.ob, T.cl, T.nL, uf_balls .., _, rfl, lb, _, _, _, rfl, rfl, SqL.of U.ba, hat, _, rfl, (by show 2 ≤ sizeLine; decide), fun t1 ht1 => ?_⟩
    have U1 := U.same (Same.upd (o := .tup [vI (u.balls.getD i 0), V.int ((zs u.balls).sum - ((u.balls.getD i 0 : Nat) : Int))]) ht1)
    refine ⟨_, rfl, p, C, dx, _, _, rfl, U1.ob, T.cl, T.nM, uf_more .., _, rfl, _, rfl, _, rfl, _, _, rfl, rfl, (by show 2 ≤ sizeLine; decide), fun t2 ht2 => ?_⟩
    have hne : t1 ≠ t2 := ne_of_none upd_same ht2
    refine ⟨t1, t2, u.more, [u.balls.getD i 0, Kp294.all u - u.balls.getD i 0], [j, n - j], rfl, .inr ⟨?_, ?_⟩, rfl, ?_, ku.more, ?_, fun H' hS => ?_⟩
    · refine SqT.of ?_
      rw [upd_ne hne, upd_same]
      exact congrArg (fun z : Int => some (HO.tup [vI (u.balls.getD i 0), V.int z])) e1
    · refine SqT.of ?_
      rw [upd_same]
      exact congrArg (fun z : Int => some (HO.tup [vI j, V.int z])) e2
    · intro x hx
      have h1 := ku.ball i
      have h2 := ku.all
      have hx' : x = u.balls.getD i 0 ∨ x = Kp294.all u - u.balls.getD i 0 := by simpa using hx
      omega
    · rw [sum_cons, sum_cons, sum_nil]
      omega
    · rw [← justUp_two u i n j hj]
      exact k H' (((Same.upd ht1).trans (Same.upd ht2)).trans hS)
/-! ### weight_of_all -/
def spWAll (C : Addr) : Sp := fun vs H Q _ => ∃ (p dx lb ld : Addr) (b : Bool) (u : Kp294.Urn) (n : Nat), vs = [.ref p, vI n] ∧ UAt C H p dx lb ld b u ∧ Ok u ∧ n ≤ 20 ∧ Q (vI (Kp294.rising (Kp294.all u) u.more n)) H
theorem scWAll : FnScope ["urn", "n"] ["urn", "n"] (defScope sWAll) := ⟨rfl, rfl, rfl, by decide +kernel, rfl, by decide +kernel, by decide +kernel⟩
theorem ok_wall {f r C : Addr} {fd rd : FuncData} (F : Fun K "weight_of_all" "weight_of_all" sWAll f fd) (Dr : Def K mg "rising" sRise ["start", "step", "n"] r rd) (T : Txt K mg C) : FnOk P w K mg base CX0 2 f fd ["urn", "n"] (spWAll C) := by
  refine F.ok scWAll (fun vs H Q E h => ?_) (fun cdv A outer s H vs Q E hr h => ?_)
  · obtain ⟨p, dx, lb, ld, b, u, n, rfl, _⟩ := h
    rfl
  · obtain ⟨p, dx, lb, ld, b, u, n, rfl, U, ku, hn, k⟩ := h
    have nd := scWAll.nd
    have h1 := ku.all
    have h2 := ku.more
    refine ⟨_, pss_one (ps_ret (pe_call (ok_rise Dr.fn T.range) hr rfl Dr.at_ Dr.fn.kp Dr.bd .nil pass0 (pa_cons (pe_callB (cr_sum rfl) (by rfl) T.sum (by decide +kernel) (pa_cons (pe_fld (pv 0) rfl) pa_nil)) (pa_cons (pe_fld (pv 0) rfl) (pa_cons (pv 1) pa_nil))))), ?_⟩
    refine ⟨_, rfl, p, C, dx, _, _, rfl, U.ob, T.cl, T.nL, uf_balls .., lb, zs u.balls, rfl, SqL.of U.ba, _, rfl, p, C, dx, _, _, rfl, U.ob, T.cl, T.nM, uf_more .., _, rfl, Kp294.all u, u.more, n, ?_, by omega, hn, k⟩
    rw [zs_sum]
    rfl
/-! ### refusal_of_colour -/
def refC (u : Kp294.Urn) (i : Nat) : Int := if Kp294.all u = 0 then -6 else if u.balls.length ≤ i then -2 else 0
def spRefC (C : Addr) : Sp := fun vs H Q _ => ∃ (p dx lb ld : Addr) (b : Bool) (u : Kp294.Urn) (i : Nat), vs = [.ref p, vI i] ∧ UAt C H p dx lb ld b u ∧ Q (.int (refC u i)) H
theorem scRefC : FnScope ["urn", "i"] ["urn", "i"] (defScope sRefC) := ⟨rfl, rfl, rfl, by decide +kernel, rfl, by decide +kernel, by decide +kernel⟩
theorem ok_refc {f C : Addr} {fd : FuncData} (F : Fun K "refusal_of_colour" "refusal_of_colour" sRefC f fd) (T : Txt K mg C) : FnOk P w K mg base CX0 1 f fd ["urn", "i"] (spRefC C) := by
  refine F.ok scRefC (fun vs H Q E h => ?_) (fun cdv A outer s H vs Q E hr h => ?_)
  · obtain ⟨p, dx, lb, ld, b, u, i, rfl, _⟩ := h
    rfl
  · obtain ⟨p, dx, lb, ld, b, u, i, rfl, U, k⟩ := h
    have nd := scRefC.nd
    refine ⟨_, pss_cons (ps_if (pt_cmpR op_eq (pe_callB (cr_sum rfl) (by rfl) T.sum (by decide +kernel) (pa_cons (pe_fld (pv 0) rfl) pa_nil)) pe_int (nomark _)) (pss_one (ps_ret (pe_k T.c6))) pss_nil)
      (pss_cons (ps_if (pt_cmpR op_ge (pv 1) (pe_callB call_len_seq (by rfl) T.len PySem.boot_len (pa_cons (pe_fld (pv 0) rfl) pa_nil)) (nomark _)) (pss_one (ps_ret (pe_k T.c2))) pss_nil) (pss_one (ps_ret pe_int))), ?_⟩
    refine ⟨_, rfl, p, C, dx, _, _, rfl, U.ob, T.cl, T.nL, uf_balls .., lb, zs u.balls, rfl, SqL.of U.ba, rfl, _, rfl, ite2 (fun h => ?_) (fun h => ?_)⟩
    · have h0 : Kp294.all u = 0 := by
        have h' := of_decide_eq_true h
        rw [zs_sum] at h'
        injection h' with h'
        show Kp291.sum u.balls = 0
        omega
      unfold refC at k
      rw [if_pos h0] at k
      exact k
    · have h0 : ¬ Kp294.all u = 0 := fun q => h (decide_eq_true (by rw [zs_sum, show Kp291.sum u.balls = 0 from q]; rfl))
      unfold refC at k
      rw [if_neg h0] at k
      refine ⟨_, rfl, _, rfl, p, C, dx, _, _, rfl, U.ob, T.cl, T.nL, uf_balls .., lb, _, rfl, .inl (SqL.of U.ba), _, _, rfl, rfl, _, rfl, ite2 (fun h => ?_) (fun h => ?_)⟩
      · have h1 : u.balls.length ≤ i := by
          have h' := of_decide_eq_true h
          rw [vn_length] at h'
          omega
        rw [if_pos h1] at k
        exact k
      · have h1 : ¬ u.balls.length ≤ i := fun q => h (decide_eq_true (by rw [vn_length]; omega))
        rw [if_neg h1] at k
        exact k
/-! ### refusal_of_draws -/
def refN (u : Kp294.Urn) (i n m : Nat) : Int := if refC u i = 0 ∧ m < n then -22 else refC u i
def spRefN (C : Addr) : Sp := fun vs H Q _ => ∃ (p dx lb ld : Addr) (b : Bool) (u : Kp294.Urn) (i n m : Nat), vs = [.ref p, vI i, vI n, vI m] ∧ UAt C H p dx lb ld b u ∧ Q (.int (refN u i n m)) H
theorem scRefN : FnScope ["urn", "i", "n", "most", "refusal"] ["urn", "i", "n", "most"] (defScope sRefN) := ⟨rfl, rfl, rfl, by decide +kernel, rfl, by decide +kernel, by decide +kernel⟩
theorem ok_refn {f c C : Addr} {fd cd : FuncData} (F : Fun K "refusal_of_draws" "refusal_of_draws" sRefN f fd) (Dc : Def K mg "refusal_of_colour" sRefC ["urn", "i"] c cd) (T : Txt K mg C) : FnOk P w K mg base CX0 2 f fd ["urn", "i", "n", "most"] (spRefN C) := by
  refine F.ok scRefN (fun vs H Q E h => ?_) (fun cdv A outer s H vs Q E hr h => ?_)
  · obtain ⟨p, dx, lb, ld, b, u, i, n, m, rfl, _⟩ := h
    rfl
  · obtain ⟨p, dx, lb, ld, b, u, i, n, m, rfl, U, k⟩ := h
    have nd := scRefN.nd
    refine ⟨_, pss_cons (ps_set (i := 4) nd rfl (Or.inl rfl) (pe_call (ok_refc Dc.fn T) hr rfl Dc.at_ Dc.fn.kp Dc.bd .nil pass0 (pa_cons (pv 0) (pa_cons (pv 1) pa_nil))))
      (pss_cons (ps_if (PW.pt (pw_and (pt_cmpR op_eq (pv 4) pe_int (nomark _)) (pw_and1 (pt_cmpR op_gt (pv 2) (pv 3) (nomark _))))) (pss_one (ps_ret (pe_k T.c22))) pss_nil) (pss_one (ps_ret (pv 4)))), ?_⟩
    refine ⟨_, rfl, _, rfl, p, dx, lb, ld, b, u, i, rfl, U, _, rfl, rfl, _, rfl, ite2 (fun h => ?_) (fun h => ?_)⟩
    · have h0 : refC u i = 0 := by
        have h' := of_decide_eq_true h
        injection h' with h'
      refine ⟨_, rfl, _, rfl, _, _, rfl, rfl, _, rfl, ite2 (fun h => ?_) (fun h => ?_)⟩
      · have h1 : m < n := by have h' := of_decide_eq_true h; omega
        unfold refN at k
        rw [if_pos ⟨h0, h1⟩] at k
        exact k
      · have h1 : ¬ m < n := fun q => h (decide_eq_true (by omega))
        unfold refN at k
        rw [if_neg (fun q => h1 q.2)] at k
        exact ⟨_, rfl, k⟩
    · have h0 : ¬ refC u i = 0 := fun q => h (decide_eq_true (by rw [q]))
      unfold refN at k
      rw [if_neg (fun q => h0 q.1)] at k
      refine iteF ?_
      exact ⟨_, rfl, k⟩
end
end Gb

end
section
set_option Elab.async false
set_option linter.all false
set_option maxRecDepth 100000
set_option maxHeartbeats 2000000
namespace Gb
open PySem PySem.Spec PyProof.Rows L2
open Mth
/-! what a call leaves -/
def Keeps (H H' : Hp) (p lb ld : Addr) : Prop := ∀ b o, H b = some o → b ≠ p → b ≠ lb → b ≠ ld → H' b = some o
def SAt (C : Addr) (H : Hp) (p dx lb ld : Addr) : Kp294.State → Prop
  | none => ∃ u, UAt C H p dx lb ld false u
  | some u => UAt C H p dx lb ld true u ∧ Ok u
structure Fin (C : Addr) (H H' : Hp) (p lb ld : Addr) (st : Kp294.State) (ans : List Int) (q : Addr) : Prop where
  at_ : ∃ dx lb' ld', SAt C H' p dx lb' ld' st ∧ (lb' = lb ∨ H lb' = none) ∧ (ld' = ld ∨ H ld' = none)
  out : H' q = some (.lst (ans.map V.int))
  new : H q = none
  kp : Keeps H H' p lb ld
theorem Same.none {H H' : Hp} (s : Same H H') {q : Addr} (h : H' q = none) : H q = none := s.free h
/-- nothing of the urn changed -/
theorem Fin.read {C : Addr} {H H1 : Hp} {p dx lb ld : Addr} {st : Kp294.State} {q : Addr} {ans : List Int} (S : Same H H1) (U : SAt C H p dx lb ld st) (hq : H1 q = none) : Fin C H (upd H1 q (.lst (ans.map V.int))) p lb ld st ans q := by
  have S2 : Same H (upd H1 q (.lst (ans.map V.int))) := S.trans (Same.upd hq)
  refine ⟨⟨dx, lb, ld, ?_, .inl rfl, .inl rfl⟩, upd_same, S.free hq, fun b o e _ _ _ => S2 b o e⟩
  cases st with
  | none => obtain ⟨u, U⟩ := U; exact ⟨u, U.same S2⟩
  | some u => exact ⟨U.1.same S2, U.2⟩
theorem Fin.say {C : Addr} {H : Hp} {p dx lb ld : Addr} {st : Kp294.State} {q : Addr} {c : Int} (U : SAt C H p dx lb ld st) (hq : H q = none) : Fin C H (upd H q (.lst [V.int c])) p lb ld st [c] q := Fin.read (ans := [c]) (Same.rfl' H) U hq
theorem Fin.frac {C : Addr} {H H1 : Hp} {p dx lb ld : Addr} {st : Kp294.State} {q : Addr} {z : Nat × Nat} (S : Same H H1) (U : SAt C H p dx lb ld st) (hq : H1 q = none) : Fin C H (upd H1 q (.lst (frV z))) p lb ld st (ansOf (Kp294.tellFrac z)) q := Fin.read (ans := ansOf (Kp294.tellFrac z)) S U hq
/-- the promise of a call: the urn stands, the given numbers stand; behind it the step's state and the step's answer -/
def spC (K : PySem.W.Frag) (C : Addr) (c n : Nat) : Sp := fun vs H Q _ => ∃ (p g dx lb ld : Addr) (u : Kp294.Urn) (as : List Nat), vs = [.ref p, .ref g] ∧ UAt C H p dx lb ld true u ∧ Ok u ∧ SqL K H g (vn as) ∧ as.length = n ∧ (∀ x ∈ as, x < 4294967296) ∧
  ∀ H' q, Fin C H H' p lb ld (Kp294.step (some u) (callN c as)).1 (ansOf (Kp294.step (some u) (callN c as)).2) q → Q (.ref q) H'
def spBegin (K : PySem.W.Frag) (C : Addr) : Sp := fun vs H Q _ => ∃ (p g dx lb ld : Addr) (st : Kp294.State) (d : Nat), vs = [.ref p, .ref g] ∧ SAt C H p dx lb ld st ∧ SqL K H g (vn [d]) ∧
  ∀ H' q, Fin C H H' p lb ld (Kp294.step st (callN 0 [d])).1 (ansOf (Kp294.step st (callN 0 [d])).2) q → Q (.ref q) H'
theorem at0 {a : Nat} {r : List Nat} : atI (vn (a :: r)) (0 : Int) = some (vI a) := atI_nat (j := 0) rfl
theorem at1 {a b : Nat} {r : List Nat} : atI (vn (a :: b :: r)) (1 : Int) = some (vI b) := atI_nat (j := 1) rfl
theorem at2 {a b c : Nat} {r : List Nat} : atI (vn (a :: b :: c :: r)) (2 : Int) = some (vI c) := atI_nat (j := 2) rfl
theorem natAt {l : List Nat} {i : Nat} (h : i < l.length) : atI (vn l) ((i : Nat) : Int) = some (vI (l.getD i 0)) := atI_nat (vn_getD h)
theorem ixNat {l : List Nat} {i : Nat} (h : i < l.length) : ixN (vn l).length ((i : Nat) : Int) = some i := by
  unfold ixN
  rw [vn_length, if_pos (Int.natCast_nonneg _), if_pos (by omega), Int.toNat_natCast]
theorem one_le : ([V.int 0] : List V).length ≤ sizeLine := by show 1 ≤ sizeLine; decide
theorem sq_ins {K : PySem.W.Frag} {H : Hp} {g p C dx : Addr} {fs : List (Str × V)} {xs : List V} {o : HO} (h : SqL K H g xs) (hp : H p = some (.ins C dx fs)) : SqL K (upd H p o) g xs := by
  rcases h with (h | ⟨q, h⟩) | h
  · exact .inl (.inl (by rw [upd_ne (ne_of h hp (by intro z; cases z))]; exact h))
  · exact .inl (.inr ⟨q, by rw [upd_ne (ne_of h hp (by intro z; cases z))]; exact h⟩)
  · exact .inr h
theorem nd2 {a b : Str} (h : a ≠ b) : ([a, b] : List Str).Nodup := by simp [h]
section
variable {P : Program} {w : World} {K : PySem.W.Frag} {mg : Str → Option Value} {base : Heap}
/-! ### __init__ -/
def spInit (C : Addr) : Sp := fun vs H Q _ => ∃ (p dx : Addr), vs = [.ref p] ∧ H p = some (.ins C dx []) ∧ ∀ (H' : Hp) (lb ld : Addr), UAt C H' p dx lb ld false ⟨[], 0, []⟩ → H lb = none → H ld = none → (∀ b o, H b = some o → b ≠ p → H' b = some o) → Q .non H'
theorem scInit : FnScope ["self"] ["self"] (defScope sInit) := ⟨rfl, rfl, rfl, by decide +kernel, rfl, by decide +kernel, by decide +kernel⟩
theorem ok_init {f C : Addr} {fd : FuncData} (F : Fun K "__init__" "Urn.__init__" sInit f fd) (T : Txt K mg C) : FnOk P w K mg base CX0 1 f fd ["self"] (spInit C) := by
  refine F.ok scInit (fun vs H Q E h => ?_) (fun cdv A outer s H vs Q E hr h => ?_)
  · obtain ⟨p, dx, rfl, _⟩ := h
    rfl
  · obtain ⟨p, dx, rfl, hp, k⟩ := h
    refine ⟨_, pss_cons (ps_fld (pv 0) pe_bl rfl) (pss_cons (ps_fld (pv 0) pe_int rfl) (pss_cons (ps_fld (pv 0) (pe_lst pa_nil) rfl) (pss_one (ps_fld (pv 0) (pe_lst pa_nil) rfl)))), ?_⟩
    refine ⟨_, rfl, p, C, dx, _, rfl, hp, T.cl, T.nB, (by show 0 < 1000; decide), _, rfl, p, C, dx, _, rfl, upd_same, T.cl, T.nM, (by show 1 < 1000; decide), Nat.zero_le _, fun lb hlb => ?_⟩
    have n1 : p ≠ lb := ne_of_none (H := upd (upd H p _) p _) upd_same hlb
    refine ⟨_, rfl, p, C, dx, _, rfl, (by rw [upd_ne n1]; exact upd_same), T.cl, T.nL, (by show 2 < 1000; decide), Nat.zero_le _, fun ld hld => ?_⟩
    · have n2 : p ≠ ld := ne_of_none upd_same hld
      refine ⟨_, rfl, p, C, dx, _, rfl, (by rw [upd_ne n2]; exact upd_same), T.cl, T.nD, (by show 3 < 1000; decide), ?_⟩
      · have n3 : lb ≠ ld := ne_of_none (by rw [upd_ne n1.symm]; exact upd_same) hld
        refine k _ lb ld ⟨?_, ?_, ?_, n3⟩ ?_ ?_ ?_
        · rw [upd_same]
          rfl
        · rw [upd_ne n1.symm, upd_ne n3, upd_ne n1.symm, upd_same]
          rfl
        · rw [upd_ne n2.symm, upd_same]
          rfl
        · rw [upd_ne n1.symm, upd_ne n1.symm] at hlb
          exact hlb
        · rw [upd_ne n2.symm, upd_ne n3.symm, upd_ne n2.symm, upd_ne n2.symm] at hld
          exact hld
        · intro b o e hb
          rw [upd_ne n1.symm, upd_ne n1.symm] at hlb
          have hld' := hld
          rw [upd_ne n2.symm, upd_ne n3.symm, upd_ne n2.symm, upd_ne n2.symm] at hld'
          rw [upd_ne hb, upd_ne (ne_of_none e hld'), upd_ne hb, upd_ne (ne_of_none e hlb), upd_ne hb, upd_ne hb]
          exact e
/-! ### begin -/
theorem scBegin : FnScope ["urn", "given"] ["urn", "given"] (defScope sBegin) := ⟨rfl, rfl, rfl, by decide +kernel, rfl, by decide +kernel, by decide +kernel⟩
theorem SAt.ob {C : Addr} {H : Hp} {p dx lb ld : Addr} {st : Kp294.State} (h : SAt C H p dx lb ld st) : ∃ b u, UAt C H p dx lb ld b u := by
  cases st with
  | none => obtain ⟨u, h⟩ := h; exact ⟨_, u, h⟩
  | some u => exact ⟨_, u, h.1⟩
theorem ok_begin {f C : Addr} {fd : FuncData} (F : Fun K "begin" "begin" sBegin f fd) (T : Txt K mg C) : FnOk P w K mg base CX0 1 f fd ["urn", "given"] (spBegin K C) := by
  refine F.ok scBegin (fun vs H Q E h => ?_) (fun cdv A outer s H vs Q E hr h => ?_)
  · obtain ⟨p, g, dx, lb, ld, st, d, rfl, _⟩ := h
    rfl
  · obtain ⟨p, g, dx, lb, ld, st, d, rfl, S, hg, k⟩ := h
    obtain ⟨b, u, U⟩ := S.ob
    refine ⟨_, pss_cons (ps_if (pt_cmpR op_gt (pe_ix ix_list (pv 1) pe_int (fun _ _ => rfl)) (pe_k T.mMore) (nomark _)) (pss_one (ps_ret (pe_lst (pa_cons (pe_k T.c22) pa_nil)))) pss_nil)
      (pss_cons (ps_fld (pv 0) pe_bl rfl) (pss_cons (ps_fld (pv 0) (pe_ix ix_list (pv 1) pe_int (fun _ _ => rfl)) rfl) (pss_cons (ps_fld (pv 0) (pe_lst pa_nil) rfl) (pss_cons (ps_fld (pv 0) (pe_lst pa_nil) rfl) (pss_one (ps_ret (pe_lst (pa_cons pe_int pa_nil)))))))), ?_⟩
    refine ⟨_, rfl, g, _, _, _, rfl, rfl, hg, at0, _, _, rfl, rfl, _, rfl, ite2 (fun h => ?_) (fun h => ?_)⟩
    · have h5 : 5 < d := by have h' := of_decide_eq_true h; omega
      refine ⟨one_le, fun q hq => k _ q ?_⟩
      rw [st_begin_22 h5]
      exact Fin.say S hq
    · have h5 : d ≤ 5 := by
        have h' : ¬ (5 : Int) < ((d : Nat) : Int) := fun z => h (decide_eq_true z)
        omega
      let H1 : Hp := upd H p (.ins C dx (uf true u.more lb ld))
      let H2 : Hp := upd H1 p (.ins C dx (uf true d lb ld))
      have hg1 : SqL K H1 g (vn [d]) := sq_ins hg U.ob
      refine ⟨_, rfl, p, C, dx, _, rfl, U.ob, T.cl, T.nB, (by show 4 < 1000; decide), _, rfl, g, _, _, _, rfl, rfl, hg1, at0, _, rfl, p, C, dx, _, rfl, upd_same, T.cl, T.nM, (by show 4 < 1000; decide), Nat.zero_le _, fun l1 hl1 => ?_⟩
      have n1 : p ≠ l1 := ne_of_none upd_same hl1
      refine ⟨_, rfl, p, C, dx, _, rfl, (by rw [upd_ne n1]; exact upd_same), T.cl, T.nL, (by show 4 < 1000; decide), Nat.zero_le _, fun l2 hl2 => ?_⟩
      have n2 : p ≠ l2 := ne_of_none upd_same hl2
      have n3 : l1 ≠ l2 := ne_of_none (by rw [upd_ne n1.symm]; exact upd_same) hl2
      refine ⟨_, rfl, p, C, dx, _, rfl, (by rw [upd_ne n2]; exact upd_same), T.cl, T.nD, (by show 4 < 1000; decide), one_le, fun q hq => k _ q ?_⟩
      rw [st_begin h5]
      have n4 : p ≠ q := ne_of_none upd_same hq
      have n5 : l2 ≠ q := ne_of_none (by rw [upd_ne n2.symm]; exact upd_same) hq
      have n6 : l1 ≠ q := ne_of_none (by rw [upd_ne n1.symm, upd_ne n3, upd_ne n1.symm]; exact upd_same) hq
      have f1 : H l1 = none := by
        rw [upd_ne n1.symm, upd_ne n1.symm] at hl1
        exact hl1
      have f2 : H l2 = none := by
        rw [upd_ne n2.symm, upd_ne n3.symm, upd_ne n2.symm, upd_ne n2.symm] at hl2
        exact hl2
      have f3 : H q = none := by
        rw [upd_ne n4.symm, upd_ne n5.symm, upd_ne n4.symm, upd_ne n6.symm, upd_ne n4.symm, upd_ne n4.symm] at hq
        exact hq
      refine ⟨⟨dx, l1, l2, ⟨⟨?_, ?_, ?_, n3⟩, Ok.new h5⟩, .inr f1, .inr f2⟩, upd_same, f3, fun b o e hb _ _ => ?_⟩
      · rw [upd_ne n4, upd_same]
        rfl
      · rw [upd_ne n6, upd_ne n1.symm, upd_ne n3, upd_ne n1.symm, upd_same]
        rfl
      · rw [upd_ne n5, upd_ne n2.symm, upd_same]
        rfl
      · rw [upd_ne (ne_of_none e f3), upd_ne hb, upd_ne (ne_of_none e f2), upd_ne hb, upd_ne (ne_of_none e f1), upd_ne hb, upd_ne hb]
        exact e
/-! ### colour -/
theorem two_ne : (["urn", "given"] : List Str).Nodup := by decide +kernel
theorem scColour : FnScope ["urn", "given"] ["urn", "given"] (defScope sColour) := ⟨rfl, rfl, rfl, by decide +kernel, rfl, by decide +kernel, by decide +kernel⟩
theorem spC_len {C : Addr} {c n : Nat} : ∀ vs H Q E, spC K C c n vs H Q E → vs.length = (["urn", "given"] : List Str).length := by
  rintro vs H Q E ⟨p, g, dx, lb, ld, u, as, rfl, _⟩
  rfl
theorem vn_nil_iff {l : List Nat} : l ≠ [] ↔ 0 < l.length := ⟨fun h => List.length_pos_iff.mpr h, fun h => List.length_pos_iff.mp h⟩
theorem ok_colour {f C : Addr} {fd : FuncData} (F : Fun K "colour" "colour" sColour f fd) (T : Txt K mg C) : FnOk P w K mg base CX0 1 f fd ["urn", "given"] (spC K C 1 1) := by
  refine F.ok scColour spC_len (fun cdv A outer s H vs Q E hr h => ?_)
  obtain ⟨p, g, dx, lb, ld, u, as, rfl, U, ku, hg, hl, hb, k⟩ := h
  obtain ⟨n, rfl⟩ := list_of_len.2.1 hl
  have S : SAt C H p dx lb ld (some u) := ⟨U, ku⟩
  refine ⟨_, pss_cons (ps_if (pt_cmpR op_gt (pe_callB call_len_seq (by rfl) T.len PySem.boot_len (pa_cons (pe_fld (pv 0) rfl) pa_nil)) pe_int (nomark _)) (pss_one (ps_ret (pe_lst (pa_cons (pe_k T.c16) pa_nil)))) pss_nil)
    (pss_cons (ps_if (pt_cmpR op_gt (pe_ix ix_list (pv 1) pe_int (fun _ _ => rfl)) (pe_k T.mBalls) (nomark _)) (pss_one (ps_ret (pe_lst (pa_cons (pe_k T.c22) pa_nil)))) pss_nil)
      (pss_cons (ps_if (pt_cmpR op_eq (pe_callB call_len_seq (by rfl) T.len PySem.boot_len (pa_cons (pe_fld (pv 0) rfl) pa_nil)) (pe_k T.mCol) (nomark _)) (pss_one (ps_ret (pe_lst (pa_cons (pe_k T.c28) pa_nil)))) pss_nil)
        (pss_cons (ps_expr (pe_bm PySem.F.plainAttrs_list PySem.F.slot_list_append PySem.F.type_list_append mt_append (pe_fld (pv 0) rfl) (pa_cons (pe_ix ix_list (pv 1) pe_int (fun _ _ => rfl)) pa_nil)))
          (pss_one (ps_ret (pe_lst (pa_cons (pe_op op_sub (pe_callB call_len_seq (by rfl) T.len PySem.boot_len (pa_cons (pe_fld (pv 0) rfl) pa_nil)) pe_int) pa_nil))))))), ?_⟩
  refine ⟨_, rfl, p, C, dx, _, _, rfl, U.ob, T.cl, T.nD, uf_drawn .., ld, _, rfl, .inl (SqL.of U.dr), _, _, rfl, rfl, _, rfl, ite2 (fun h => ?_) (fun h => ?_)⟩
  · have h1 : u.drawn ≠ [] := vn_nil_iff.mpr (by have h' := of_decide_eq_true h; rw [vn_length] at h'; omega)
    refine ⟨one_le, fun q hq => k _ q ?_⟩
    rw [st_colour_16 h1]
    exact Fin.say S hq
  · have h1 : u.drawn = [] := Classical.byContradiction fun z => h (decide_eq_true (by rw [vn_length]; have := vn_nil_iff.mp z; omega))
    refine ⟨_, rfl, g, _, _, _, rfl, rfl, hg, at0, _, _, rfl, rfl, _, rfl, ite2 (fun h => ?_) (fun h => ?_)⟩
    · have h2 : 10 < n := by have h' := of_decide_eq_true h; omega
      refine ⟨one_le, fun q hq => k _ q ?_⟩
      rw [st_colour_22 h1 h2]
      exact Fin.say S hq
    · have h2 : ¬ 10 < n := fun z => h (decide_eq_true (by omega))
      refine ⟨_, rfl, p, C, dx, _, _, rfl, U.ob, T.cl, T.nL, uf_balls .., lb, _, rfl, .inl (SqL.of U.ba), rfl, _, rfl, ite2 (fun h => ?_) (fun h => ?_)⟩
      · have h3 : 4 ≤ u.balls.length := by
          have h' := of_decide_eq_true h
          rw [vn_length] at h'
          injection h' with h'
          omega
        refine ⟨one_le, fun q hq => k _ q ?_⟩
        rw [st_colour_28 h1 h2 h3]
        exact Fin.say S hq
      · have h3 : ¬ 4 ≤ u.balls.length := fun z => h (decide_eq_true (by have := ku.len; rw [vn_length, show u.balls.length = 4 by omega]; rfl))
        have hlen : (vn u.balls).length < sizeLine := by rw [vn_length]; exact Nat.lt_of_le_of_lt ku.len (by decide)
        have npb : p ≠ lb := ne_of U.ob U.ba (by intro z; cases z)
        have e1 : vn u.balls ++ [vI n] = vn (u.balls ++ [n]) := (vn_append u.balls [n]).symm
        refine ⟨_, rfl, p, C, dx, _, _, rfl, U.ob, T.cl, T.nL, uf_balls .., .inl ⟨rfl, _, SqL.of U.ba⟩, _, rfl, g, _, _, _, rfl, rfl, hg, at0, lb, _, _, rfl, rfl, U.ba, hlen, ?_⟩
        have ob1 : upd H lb (.lst (vn u.balls ++ [vI n])) p = some (.ins C dx (uf true u.more lb ld)) := by rw [upd_ne npb]; exact U.ob
        refine ⟨_, rfl, p, C, dx, _, _, rfl, ob1, T.cl, T.nL, uf_balls .., lb, _, rfl, .inl (SqL.of upd_same), _, _, rfl, rfl, one_le, fun q hq => k _ q ?_⟩
        have n1 : lb ≠ q := ne_of_none upd_same hq
        have f1 : H q = none := by rw [upd_ne n1.symm] at hq; exact hq
        rw [st_colour h1 h2 h3]
        refine ⟨⟨dx, lb, ld, ⟨⟨?_, ?_, ?_, U.ne⟩, ku.colour h1 (by omega) (by omega)⟩, .inl rfl, .inl rfl⟩, ?_, f1, fun b o e hb hb2 _ => ?_⟩
        · rw [upd_ne (ne_of_none U.ob f1)]
          exact ob1
        · rw [upd_ne n1, upd_same, e1]
        · rw [upd_ne (ne_of_none U.dr f1), upd_ne U.ne.symm]
          exact U.dr
        · rw [upd_same]
          refine congrArg (fun z : Int => some (HO.lst [V.int z])) ?_
          rw [List.length_append, vn_length]
          show ((u.balls.length + 1 : Nat) : Int) - 1 = (u.balls.length : Int)
          omega
        · rw [upd_ne (ne_of_none e f1), upd_ne hb2]
          exact e
/-! ### draw -/
theorem scDraw : FnScope ["urn", "given", "i"] ["urn", "given"] (defScope sDraw) := ⟨rfl, rfl, rfl, by decide +kernel, rfl, by decide +kernel, by decide +kernel⟩
theorem ok_draw {f C : Addr} {fd : FuncData} (F : Fun K "draw" "draw" sDraw f fd) (T : Txt K mg C) : FnOk P w K mg base CX0 1 f fd ["urn", "given"] (spC K C 2 1) := by
  refine F.ok scDraw spC_len (fun cdv A outer s H vs Q E hr h => ?_)
  obtain ⟨p, g, dx, lb, ld, u, as, rfl, U, ku, hg, hl, hb, k⟩ := h
  obtain ⟨i, rfl⟩ := list_of_len.2.1 hl
  have S : SAt C H p dx lb ld (some u) := ⟨U, ku⟩
  have nd := scDraw.nd
  refine ⟨_, pss_cons (ps_set (i := 2) nd rfl (Or.inl rfl) (pe_ix ix_list (pv 1) pe_int (fun _ _ => rfl)))
    (pss_cons (ps_if (pt_cmpR op_ge (pv 2) (pe_callB call_len_seq (by rfl) T.len PySem.boot_len (pa_cons (pe_fld (pv 0) rfl) pa_nil)) (nomark _)) (pss_one (ps_ret (pe_lst (pa_cons (pe_k T.c2) pa_nil)))) pss_nil)
    (pss_cons (ps_if (pt_cmpR op_eq (pe_ix ix_list (pe_fld (pv 0) rfl) (pv 2) (fun _ _ => rfl)) pe_int (nomark _)) (pss_one (ps_ret (pe_lst (pa_cons (pe_k T.c33) pa_nil)))) pss_nil)
    (pss_cons (ps_if (pt_cmpR op_eq (pe_callB call_len_seq (by rfl) T.len PySem.boot_len (pa_cons (pe_fld (pv 0) rfl) pa_nil)) (pe_k T.mDrawn) (nomark _)) (pss_one (ps_ret (pe_lst (pa_cons (pe_k T.c28) pa_nil)))) pss_nil)
    (pss_cons (ps_expr (pe_bm PySem.F.plainAttrs_list PySem.F.slot_list_append PySem.F.type_list_append mt_append (pe_fld (pv 0) rfl) (pa_cons (pv 2) pa_nil)))
    (pss_cons (ps_asg (pe_op op_add (pe_ix ix_list (pe_fld (pv 0) rfl) (pv 2) (fun _ _ => rfl)) (pe_fld (pv 0) rfl)) (pg_sub (pe_fld (pv 0) rfl) (pv 2) set_list))
    (pss_one (ps_ret (pe_lst (pa_cons (pe_ix ix_list (pe_fld (pv 0) rfl) (pv 2) (fun _ _ => rfl)) pa_nil))))))))), ?_⟩
  refine ⟨_, rfl, g, _, _, _, rfl, rfl, hg, at0, _, rfl, _, rfl, p, C, dx, _, _, rfl, U.ob, T.cl, T.nL, uf_balls .., lb, _, rfl, .inl (SqL.of U.ba), _, _, rfl, rfl, _, rfl, ite2 (fun h => ?_) (fun h => ?_)⟩
  · have h1 : u.balls.length ≤ i := by have h' := of_decide_eq_true h; rw [vn_length] at h'; omega
    refine ⟨one_le, fun q hq => k _ q ?_⟩
    rw [st_draw_2 h1]
    exact Fin.say S hq
  · have h1 : i < u.balls.length := Nat.lt_of_not_le fun z => h (decide_eq_true (by rw [vn_length]; omega))
    refine ⟨_, rfl, p, C, dx, _, _, rfl, U.ob, T.cl, T.nL, uf_balls .., _, rfl, lb, _, _, _, rfl, rfl, SqL.of U.ba, natAt h1, rfl, _, rfl, ite2 (fun h => ?_) (fun h => ?_)⟩
    · have h2 : u.balls.getD i 0 = 0 := by
        have h' := of_decide_eq_true h
        injection h' with h'
        omega
      refine ⟨one_le, fun q hq => k _ q ?_⟩
      rw [st_draw_33 h1 h2]
      exact Fin.say S hq
    · have h2 : ¬ u.balls.getD i 0 = 0 := fun z => h (decide_eq_true (by rw [z]; rfl))
      refine ⟨_, rfl, p, C, dx, _, _, rfl, U.ob, T.cl, T.nD, uf_drawn .., ld, _, rfl, .inl (SqL.of U.dr), rfl, _, rfl, ite2 (fun h => ?_) (fun h => ?_)⟩
      · have h3 : 60 ≤ u.drawn.length := by
          have h' := of_decide_eq_true h
          rw [vn_length] at h'
          injection h' with h'
          omega
        refine ⟨one_le, fun q hq => k _ q ?_⟩
        rw [st_draw_28 h1 h2 h3]
        exact Fin.say S hq
      · have h3 : ¬ 60 ≤ u.drawn.length := fun z => h (decide_eq_true (by have := ku.dl; rw [vn_length, show u.drawn.length = 60 by omega]; rfl))
        have hlen : (vn u.drawn).length < sizeLine := by rw [vn_length]; exact Nat.lt_of_le_of_lt ku.dl (by decide)
        have npb : p ≠ lb := ne_of U.ob U.ba (by intro z; cases z)
        have npd : p ≠ ld := ne_of U.ob U.dr (by intro z; cases z)
        have e1 : vn u.drawn ++ [vI i] = vn (u.drawn ++ [i]) := (vn_append u.drawn [i]).symm
        refine ⟨_, rfl, p, C, dx, _, _, rfl, U.ob, T.cl, T.nD, uf_drawn .., .inl ⟨rfl, _, SqL.of U.dr⟩, _, rfl, ld, _, _, rfl, rfl, U.dr, hlen, ?_⟩
        have ob1 : upd H ld (.lst (vn u.drawn ++ [vI i])) p = some (.ins C dx (uf true u.more lb ld)) := by rw [upd_ne npd]; exact U.ob
        have ba1 : upd H ld (.lst (vn u.drawn ++ [vI i])) lb = some (.lst (vn u.balls)) := by rw [upd_ne U.ne]; exact U.ba
        refine ⟨_, rfl, p, C, dx, _, _, rfl, ob1, T.cl, T.nL, uf_balls .., _, rfl, lb, _, _, _, rfl, rfl, SqL.of ba1, natAt h1, _, rfl, p, C, dx, _, _, rfl, ob1, T.cl, T.nM, uf_more .., _, _, rfl, rfl,
          _, rfl, p, C, dx, _, _, rfl, ob1, T.cl, T.nL, uf_balls .., _, rfl, lb, _, _, i, rfl, rfl, ba1, ixNat h1, ?_⟩
        have e2 : (vn u.balls).set i (V.int (((u.balls.getD i 0 : Nat) : Int) + ((u.more : Nat) : Int))) = vn (u.balls.set i (u.balls.getD i 0 + u.more)) := vn_set u.balls i (u.balls.getD i 0 + u.more)
        have ob2 : upd (upd H ld (.lst (vn u.drawn ++ [vI i]))) lb (.lst ((vn u.balls).set i (V.int (((u.balls.getD i 0 : Nat) : Int) + ((u.more : Nat) : Int))))) p = some (.ins C dx (uf true u.more lb ld)) := by rw [upd_ne npb]; exact ob1
        have hi2 : i < (u.balls.set i (u.balls.getD i 0 + u.more)).length := by rw [List.length_set]; exact h1
        have hat : atI ((vn u.balls).set i (V.int (((u.balls.getD i 0 : Nat) : Int) + ((u.more : Nat) : Int)))) ((i : Nat) : Int) = some (vI (u.balls.getD i 0 + u.more)) := by
          rw [e2]
          have := natAt hi2
          rw [getD_set_same h1] at this
          exact this
        refine ⟨_, rfl, p, C, dx, _, _, rfl, ob2, T.cl, T.nL, uf_balls .., _, rfl, lb, _, _, _, rfl, rfl, SqL.of upd_same, hat, one_le, fun q hq => k _ q ?_⟩
        have n1 : lb ≠ q := ne_of_none upd_same hq
        have n2 : ld ≠ q := ne_of_none (by rw [upd_ne U.ne.symm]; exact upd_same) hq
        have f1 : H q = none := by rw [upd_ne n1.symm, upd_ne n2.symm] at hq; exact hq
        rw [st_draw h1 h2 h3]
        refine ⟨⟨dx, lb, ld, ⟨⟨?_, ?_, ?_, U.ne⟩, ku.put h1 h2 (by omega)⟩, .inl rfl, .inl rfl⟩, upd_same, f1, fun b o e hb hb2 hb3 => ?_⟩
        · rw [upd_ne (ne_of_none U.ob f1)]
          exact ob2
        · rw [upd_ne n1, upd_same]
          exact congrArg (fun z => some (HO.lst z)) e2
        · rw [upd_ne n2, upd_ne U.ne.symm, upd_same, e1]
          rfl
        · rw [upd_ne (ne_of_none e f1), upd_ne hb2, upd_ne hb3]
          exact e
/-! ### back -/
theorem scBack : FnScope ["urn", "given", "i"] ["urn", "given"] (defScope sBack) := ⟨rfl, rfl, rfl, by decide +kernel, rfl, by decide +kernel, by decide +kernel⟩
theorem vn_dropLast (l : List Nat) : (vn l).dropLast = vn l.dropLast := by
  show ((l.map fun (n : Nat) => (n : Int)).map V.int).dropLast = ((l.dropLast).map fun (n : Nat) => (n : Int)).map V.int
  rw [← List.map_dropLast, ← List.map_dropLast]
theorem ok_back {f C : Addr} {fd : FuncData} (F : Fun K "back" "back" sBack f fd) (T : Txt K mg C) : FnOk P w K mg base CX0 1 f fd ["urn", "given"] (spC K C 3 0) := by
  refine F.ok scBack spC_len (fun cdv A outer s H vs Q E hr h => ?_)
  obtain ⟨p, g, dx, lb, ld, u, as, rfl, U, ku, hg, hl, hb, k⟩ := h
  obtain rfl := list_of_len.1 hl
  have S : SAt C H p dx lb ld (some u) := ⟨U, ku⟩
  have nd := scBack.nd
  refine ⟨_, pss_cons (ps_if (pt_cmpR op_eq (pe_callB call_len_seq (by rfl) T.len PySem.boot_len (pa_cons (pe_fld (pv 0) rfl) pa_nil)) pe_int (nomark _)) (pss_one (ps_ret (pe_lst (pa_cons (pe_k T.c12) pa_nil)))) pss_nil)
    (pss_cons (ps_set (i := 2) nd rfl (Or.inl rfl) (pe_bm0 PySem.F.plainAttrs_list PySem.F.slot_list_pop PySem.F.type_list_pop mt_pop (pe_fld (pv 0) rfl)))
    (pss_cons (ps_asg (pe_op op_sub (pe_ix ix_list (pe_fld (pv 0) rfl) (pv 2) (fun _ _ => rfl)) (pe_fld (pv 0) rfl)) (pg_sub (pe_fld (pv 0) rfl) (pv 2) set_list))
    (pss_one (ps_ret (pe_lst (pa_cons (pv 2) pa_nil)))))), ?_⟩
  refine ⟨_, rfl, p, C, dx, _, _, rfl, U.ob, T.cl, T.nD, uf_drawn .., ld, _, rfl, .inl (SqL.of U.dr), rfl, _, rfl, ite2 (fun h => ?_) (fun h => ?_)⟩
  · have h1 : u.drawn = [] := by
      have h' := of_decide_eq_true h
      rw [vn_length] at h'
      injection h' with h'
      exact List.length_eq_zero_iff.mp (by omega)
    refine ⟨one_le, fun q hq => k _ q ?_⟩
    rw [st_back_12 h1]
    exact Fin.say S hq
  · have h1 : 0 < u.drawn.length := Nat.pos_of_ne_zero fun z => h (decide_eq_true (by rw [vn_length, z]; rfl))
    obtain ⟨i, hi⟩ : ∃ i, u.drawn[u.drawn.length - 1]? = some i := ⟨_, List.getElem?_eq_getElem (by omega)⟩
    have hla : u.drawn.getLast? = some i := by rw [List.getLast?_eq_getElem?]; exact hi
    obtain ⟨hb1, hb2⟩ := ku.back_le hla
    have hy : (vn u.drawn)[(vn u.drawn).length - 1]? = some (vI i) := by rw [vn_length]; exact vn_get hi
    have npb : p ≠ lb := ne_of U.ob U.ba (by intro z; cases z)
    have npd : p ≠ ld := ne_of U.ob U.dr (by intro z; cases z)
    refine ⟨_, rfl, p, C, dx, _, _, rfl, U.ob, T.cl, T.nD, uf_drawn .., .inl ⟨rfl, _, SqL.of U.dr⟩, ld, _, _, rfl, rfl, U.dr, hy, ?_⟩
    have ob1 : upd H ld (.lst (vn u.drawn).dropLast) p = some (.ins C dx (uf true u.more lb ld)) := by rw [upd_ne npd]; exact U.ob
    have ba1 : upd H ld (.lst (vn u.drawn).dropLast) lb = some (.lst (vn u.balls)) := by rw [upd_ne U.ne]; exact U.ba
    refine ⟨_, rfl, p, C, dx, _, _, rfl, ob1, T.cl, T.nL, uf_balls .., _, rfl, lb, _, _, _, rfl, rfl, SqL.of ba1, natAt hb1, _, rfl, p, C, dx, _, _, rfl, ob1, T.cl, T.nM, uf_more .., _, _, rfl, rfl,
      _, rfl, p, C, dx, _, _, rfl, ob1, T.cl, T.nL, uf_balls .., _, rfl, lb, _, _, i, rfl, rfl, ba1, ixNat hb1, _, rfl, one_le, fun q hq => k _ q ?_⟩
    have e2 : (vn u.balls).set i (V.int (((u.balls.getD i 0 : Nat) : Int) - ((u.more : Nat) : Int))) = vn (u.balls.set i (u.balls.getD i 0 - u.more)) := by
      rw [← vn_set]
      refine congrArg (fun z : Int => (vn u.balls).set i (V.int z)) ?_
      omega
    have n1 : lb ≠ q := ne_of_none upd_same hq
    have n2 : ld ≠ q := ne_of_none (by rw [upd_ne U.ne.symm]; exact upd_same) hq
    have f1 : H q = none := by rw [upd_ne n1.symm, upd_ne n2.symm] at hq; exact hq
    have ok2 := ku.undo hla
    rw [st_back hla]
    rw [undo_eq hla] at ok2
    show Fin _ _ _ _ _ _ (some (Kp294.undo u)) _ _
    rw [undo_eq hla]
    refine ⟨⟨dx, lb, ld, ⟨⟨?_, ?_, ?_, U.ne⟩, ok2⟩, .inl rfl, .inl rfl⟩, upd_same, f1, fun b o e hb hb2 hb3 => ?_⟩
    · rw [upd_ne (ne_of_none U.ob f1), upd_ne npb]
      exact ob1
    · rw [upd_ne n1, upd_same]
      exact congrArg (fun z => some (HO.lst z)) e2
    · rw [upd_ne n2, upd_ne U.ne.symm, upd_same, vn_dropLast]
    · rw [upd_ne (ne_of_none e f1), upd_ne hb2, upd_ne hb3]
      exact e
end
end Gb

end
section
set_option Elab.async false
set_option linter.all false
set_option maxRecDepth 100000
set_option maxHeartbeats 2000000
namespace Gb
open PySem PySem.Spec PyProof.Rows L2
open Mth
section
variable {P : Program} {w : World} {K : PySem.W.Frag} {mg : Str → Option Value} {base : Heap}
/-! ### chance -/
def chAns (u : Kp294.Urn) (i : Nat) : List Int := if Kp294.all u = 0 then [-6] else if u.balls.length ≤ i then [-2] else ansOf (Kp294.tellFrac (Kp294.nth u i))
def spChance (K : PySem.W.Frag) (C : Addr) : Sp := fun vs H Q _ => ∃ (p g dx lb ld : Addr) (u : Kp294.Urn) (i : Nat) (r : List Nat), vs = [.ref p, .ref g] ∧ UAt C H p dx lb ld true u ∧ Ok u ∧ SqL K H g (vn (i :: r)) ∧
  ∀ H' q, Fin C H H' p lb ld (some u) (chAns u i) q → Q (.ref q) H'
theorem scChance : FnScope ["urn", "given", "i", "refusal"] ["urn", "given"] (defScope sChance) := ⟨rfl, rfl, rfl, by decide +kernel, rfl, by decide +kernel, by decide +kernel⟩
theorem refC_neg {u : Kp294.Urn} {i : Nat} (h : refC u i < 0) : (Kp294.all u = 0 ∧ refC u i = -6) ∨ (¬ Kp294.all u = 0 ∧ u.balls.length ≤ i ∧ refC u i = -2) := by
  unfold refC at h ⊢
  by_cases h1 : Kp294.all u = 0
  · exact .inl ⟨h1, if_pos h1⟩
  · rw [if_neg h1] at h ⊢
    by_cases h2 : u.balls.length ≤ i
    · exact .inr ⟨h1, h2, if_pos h2⟩
    · rw [if_neg h2] at h
      exact absurd h (by decide)
theorem refC_zero {u : Kp294.Urn} {i : Nat} (h : ¬ refC u i < 0) : ¬ Kp294.all u = 0 ∧ i < u.balls.length := by
  unfold refC at h
  by_cases h1 : Kp294.all u = 0
  · rw [if_pos h1] at h
    exact absurd (by decide) h
  · rw [if_neg h1] at h
    by_cases h2 : u.balls.length ≤ i
    · rw [if_pos h2] at h
      exact absurd (by decide) h
    · exact ⟨h1, by omega⟩
theorem ok_chance {f c r g0 C : Addr} {fd cd rd gd : FuncData} (F : Fun K "chance" "chance" sChance f fd) (Dc : Def K mg "refusal_of_colour" sRefC ["urn", "i"] c cd) (Df : Def K mg "fraction" sFrac ["above", "below"] r rd) (Dg : Def K mg "greatest_common" sGcd ["a", "b"] g0 gd) (T : Txt K mg C) :
    FnOk P w K mg base CX0 3 f fd ["urn", "given"] (spChance K C) := by
  refine F.ok scChance (fun vs H Q E h => ?_) (fun cdv A outer s H vs Q E hr h => ?_)
  · obtain ⟨p, g, dx, lb, ld, u, i, r, rfl, _⟩ := h
    rfl
  obtain ⟨p, g, dx, lb, ld, u, i, r, rfl, U, ku, hg, k⟩ := h
  have S : SAt C H p dx lb ld (some u) := ⟨U, ku⟩
  have nd := scChance.nd
  refine ⟨_, pss_cons (ps_set (i := 2) nd rfl (Or.inl rfl) (pe_ix ix_list (pv 1) pe_int (fun _ _ => rfl)))
    (pss_cons (ps_set (i := 3) nd rfl (Or.inl rfl) (pe_call (ok_refc Dc.fn T) (hr.mono (by omega)) rfl Dc.at_ Dc.fn.kp Dc.bd .nil pass0 (pa_cons (pv 0) (pa_cons (pv 2) pa_nil))))
    (pss_cons (ps_if (pt_cmpR op_lt (pv 3) pe_int (nomark _)) (pss_one (ps_ret (pe_lst (pa_cons (pv 3) pa_nil)))) pss_nil)
    (pss_one (ps_ret (pe_call (ok_frac Df.fn Dg) hr rfl Df.at_ Df.fn.kp Df.bd .nil pass0 (pa_cons (pe_ix ix_list (pe_fld (pv 0) rfl) (pv 2) (fun _ _ => rfl)) (pa_cons (pe_callB (cr_sum rfl) (by rfl) T.sum (by decide +kernel) (pa_cons (pe_fld (pv 0) rfl) pa_nil)) pa_nil))))))), ?_⟩
  refine ⟨_, rfl, g, _, _, _, rfl, rfl, hg, at0, _, rfl, _, rfl, p, dx, lb, ld, true, u, i, rfl, U, _, rfl, _, _, rfl, rfl, _, rfl, ite2 (fun h => ?_) (fun h => ?_)⟩
  · have h1 := refC_neg (of_decide_eq_true h)
    refine ⟨_, rfl, one_le, fun q hq => k _ q ?_⟩
    rcases h1 with ⟨h1, e⟩ | ⟨h1, h2, e⟩
    · rw [show chAns u i = [-6] from if_pos h1, e]
      exact Fin.say S hq
    · rw [show chAns u i = [-2] by unfold chAns; rw [if_neg h1, if_pos h2], e]
      exact Fin.say S hq
  · obtain ⟨h1, h2⟩ := refC_zero (fun z => h (decide_eq_true z))
    have ha := ku.all
    refine ⟨_, rfl, p, C, dx, _, _, rfl, U.ob, T.cl, T.nL, uf_balls .., _, rfl, lb, _, _, _, rfl, rfl, SqL.of U.ba, natAt h2, _, rfl, p, C, dx, _, _, rfl, U.ob, T.cl, T.nL, uf_balls .., lb, zs u.balls, rfl, SqL.of U.ba,
      u.balls.getD i 0, Kp294.all u, ?_, by omega, Nat.lt_of_le_of_lt ha (by decide), fun q hq => k _ q ?_⟩
    · rw [zs_sum]
      rfl
    · rw [show chAns u i = ansOf (Kp294.tellFrac (Kp294.nth u i)) by unfold chAns; rw [if_neg h1, if_neg (by omega)]]
      exact Fin.frac (Same.rfl' H) S hq
theorem chance_C {C : Addr} : ∀ vs H Q E, spC K C 4 1 vs H Q E → spChance K C vs H Q E := by
  rintro vs H Q E ⟨p, g, dx, lb, ld, u, as, rfl, U, ku, hg, hl, hb, k⟩
  obtain ⟨i, rfl⟩ := list_of_len.2.1 hl
  refine ⟨p, g, dx, lb, ld, u, i, [], rfl, U, ku, hg, fun H' q hf => k H' q ?_⟩
  unfold chAns at hf
  by_cases h1 : Kp294.all u = 0
  · rw [if_pos h1] at hf
    rw [st_chance_6 h1]
    exact hf
  · rw [if_neg h1] at hf
    by_cases h2 : u.balls.length ≤ i
    · rw [if_pos h2] at hf
      rw [st_chance_2 h1 h2]
      exact hf
    · rw [if_neg h2] at hf
      rw [st_chance h1 (by omega)]
      exact hf
/-! ### nth -/
theorem refN_neg {u : Kp294.Urn} {i n m : Nat} (h : refN u i n m < 0) : (Kp294.all u = 0 ∧ refN u i n m = -6) ∨ (¬ Kp294.all u = 0 ∧ u.balls.length ≤ i ∧ refN u i n m = -2) ∨ (¬ Kp294.all u = 0 ∧ i < u.balls.length ∧ m < n ∧ refN u i n m = -22) := by
  by_cases h1 : refC u i = 0 ∧ m < n
  · obtain ⟨q1, q2⟩ := refC_zero (u := u) (i := i) (by rw [h1.1]; decide)
    exact .inr (.inr ⟨q1, q2, h1.2, if_pos h1⟩)
  · have e : refN u i n m = refC u i := if_neg h1
    rw [e] at h ⊢
    rcases refC_neg h with q | ⟨q1, q2, q3⟩
    · exact .inl q
    · exact .inr (.inl ⟨q1, q2, q3⟩)
theorem refN_zero {u : Kp294.Urn} {i n m : Nat} (h : ¬ refN u i n m < 0) : ¬ Kp294.all u = 0 ∧ i < u.balls.length ∧ ¬ m < n := by
  by_cases h1 : refC u i = 0 ∧ m < n
  · rw [show refN u i n m = -22 from if_pos h1] at h
    exact absurd (by decide) h
  · have e : refN u i n m = refC u i := if_neg h1
    rw [e] at h
    obtain ⟨q1, q2⟩ := refC_zero h
    refine ⟨q1, q2, fun z => h1 ⟨?_, z⟩⟩
    unfold refC
    rw [if_neg q1, if_neg (by omega)]
theorem scNth : FnScope ["urn", "given", "refusal"] ["urn", "given"] (defScope sNth) := ⟨rfl, rfl, rfl, by decide +kernel, rfl, by decide +kernel, by decide +kernel⟩
theorem ok_nth {f c r g0 h0 n0 C : Addr} {fd cd rd gd hd nd0 : FuncData} (F : Fun K "nth" "nth" sNth f fd) (Dh : Def K mg "chance" sChance ["urn", "given"] h0 hd) (Dn : Def K mg "refusal_of_draws" sRefN ["urn", "i", "n", "most"] n0 nd0) (Dc : Def K mg "refusal_of_colour" sRefC ["urn", "i"] c cd) (Df : Def K mg "fraction" sFrac ["above", "below"] r rd) (Dg : Def K mg "greatest_common" sGcd ["a", "b"] g0 gd) (T : Txt K mg C) :
    FnOk P w K mg base CX0 4 f fd ["urn", "given"] (spC K C 5 2) := by
  refine F.ok scNth spC_len (fun cdv A outer s H vs Q E hr h => ?_)
  obtain ⟨p, g, dx, lb, ld, u, as, rfl, U, ku, hg, hl, hb, k⟩ := h
  obtain ⟨i, n, rfl⟩ := list_of_len.2.2.1 hl
  have S : SAt C H p dx lb ld (some u) := ⟨U, ku⟩
  have nd := scNth.nd
  refine ⟨_, pss_cons (ps_set (i := 2) nd rfl (Or.inl rfl) (pe_call (ok_refn Dn.fn Dc T) (hr.mono (by omega)) rfl Dn.at_ Dn.fn.kp Dn.bd .nil pass0 (pa_cons (pv 0) (pa_cons (pe_ix ix_list (pv 1) pe_int (fun _ _ => rfl)) (pa_cons (pe_ix ix_list (pv 1) pe_int (fun _ _ => rfl)) (pa_cons (pe_k T.mAhead) pa_nil))))))
    (pss_cons (ps_if (pt_cmpR op_lt (pv 2) pe_int (nomark _)) (pss_one (ps_ret (pe_lst (pa_cons (pv 2) pa_nil)))) pss_nil)
    (pss_cons (ps_if (pt_cmpR op_eq (pe_ix ix_list (pv 1) pe_int (fun _ _ => rfl)) pe_int (nomark _)) (pss_one (ps_ret (pe_lst (pa_cons (pe_k T.c22) pa_nil)))) pss_nil)
    (pss_one (ps_ret (pe_call (ok_chance Dh.fn Dc Df Dg T) hr rfl Dh.at_ Dh.fn.kp Dh.bd .nil pass0 (pa_cons (pv 0) (pa_cons (pv 1) pa_nil))))))), ?_⟩
  refine ⟨_, rfl, _, rfl, g, _, _, _, rfl, rfl, hg, at0, _, rfl, g, _, _, _, rfl, rfl, hg, at1, p, dx, lb, ld, true, u, i, n, 1000, rfl, U, _, rfl, _, _, rfl, rfl, _, rfl, ite2 (fun h => ?_) (fun h => ?_)⟩
  · have h1 := refN_neg (of_decide_eq_true h)
    refine ⟨_, rfl, one_le, fun q hq => k _ q ?_⟩
    rcases h1 with ⟨h1, e⟩ | ⟨h1, h2, e⟩ | ⟨h1, h2, h3, e⟩
    · rw [st_nth_6 h1, e]
      exact Fin.say S hq
    · rw [st_nth_2 h1 h2, e]
      exact Fin.say S hq
    · rw [st_nth_22 h1 h2 (.inr h3), e]
      exact Fin.say S hq
  · obtain ⟨h1, h2, h3⟩ := refN_zero (fun z => h (decide_eq_true z))
    refine ⟨_, rfl, g, _, _, _, rfl, rfl, hg, at1, rfl, _, rfl, ite2 (fun h => ?_) (fun h => ?_)⟩
    · have h4 : n = 0 := by
        have h' := of_decide_eq_true h
        injection h' with h'
        omega
      refine ⟨one_le, fun q hq => k _ q ?_⟩
      rw [st_nth_22 h1 h2 (.inl h4)]
      exact Fin.say S hq
    · have h4 : ¬ n = 0 := fun z => h (decide_eq_true (by rw [z]; rfl))
      refine ⟨_, rfl, _, rfl, p, g, dx, lb, ld, u, i, [n], rfl, U, ku, hg, fun H' q hf => k H' q ?_⟩
      rw [st_nth h1 h2 (by omega)]
      rw [show chAns u i = ansOf (Kp294.tellFrac (Kp294.nth u i)) by unfold chAns; rw [if_neg h1, if_neg (by omega)]] at hf
      exact hf
/-! ### row -/
theorem scRow : FnScope ["urn", "given", "n", "colours", "i"] ["urn", "given"] (defScope sRow) := ⟨rfl, rfl, rfl, by decide +kernel, rfl, by decide +kernel, by decide +kernel⟩
def scopeRowI : Scope := { kind := .function, names := [(".0", .local), ("i", .local), ("len", .globalImplicit), ("urn", .free)], isGenerator := false, isCoroutine := false }
theorem blkRow : BlkOk ["urn", "given", "n", "colours", "i"] (defScope sRow) scopeRowI [("i", 4)] := blkOk_by (by decide +kernel)
/-- what len reads, the module's part written out -/
def rLen (K : PySem.W.Frag) : List V → Hp → VK → Prop := fun xs H Q => ∃ p ys, xs = [V.ref p] ∧ (SqL K H p ys ∨ SqT K H p ys) ∧ Q (.int ys.length) H
theorem cut_row (n : Nat) (x : Nat) (l : List Nat) (hn : n ≤ l.length) : cutV (vn (x :: l)) (some 1) (some (((n : Nat) : Int) + 1)) = vn (l.take n) := by
  unfold cutV
  rw [show (some (((n : Nat) : Int) + 1) : Option Int) = some ((n + 1 : Nat) : Int) from rfl, show (some (1 : Int)) = some ((1 : Nat) : Int) from rfl, HT.sIx_nat, HT.sIx_nat, vn_length, vn_drop, vn_take]
  have e1 : min 1 (x :: l).length = 1 := by rw [List.length_cons]; omega
  have e2 : min (n + 1) (x :: l).length = n + 1 := by rw [List.length_cons]; omega
  rw [e1, e2]
  rfl
theorem all_pos {u : Kp294.Urn} (h : ¬ Kp294.all u = 0) : 0 < Kp294.all u := by omega
theorem ok_row {f r g0 h0 i0 j0 C : Addr} {fd rd gd hd id0 jd : FuncData} (F : Fun K "row" "row" sRow f fd) (Dl : Def K mg "likely_row" sLRow ["balls", "more", "colours"] i0 id0) (Dw0 : Def K mg "weight_of_row" sWRow ["balls", "more", "colours"] h0 hd) (Dr : Def K mg "rising" sRise ["start", "step", "n"] j0 jd)
    (Df : Def K mg "fraction" sFrac ["above", "below"] r rd) (Dg : Def K mg "greatest_common" sGcd ["a", "b"] g0 gd) (T : Txt K mg C) : FnOk P w K mg base CX0 4 f fd ["urn", "given"] (spC K C 6 7) := by
  refine F.ok scRow spC_len (fun cdv A outer s H vs Q E hr h => ?_)
  obtain ⟨p, g, dx, lb, ld, u, as, rfl, U, ku, hg, hl, hb, k⟩ := h
  obtain ⟨n, a, b, c, d, e, f', rfl⟩ := list_of_len.2.2.2.2.2 hl
  have S : SAt C H p dx lb ld (some u) := ⟨U, ku⟩
  have nd := scRow.nd
  refine ⟨_, pss_cons (ps_set (i := 2) nd rfl (Or.inl rfl) (pe_ix ix_list (pv 1) pe_int (fun _ _ => rfl)))
    (pss_cons (ps_if (pt_cmpR op_eq (pe_callB (cr_sum rfl) (by rfl) T.sum (by decide +kernel) (pa_cons (pe_fld (pv 0) rfl) pa_nil)) pe_int (nomark _)) (pss_one (ps_ret (pe_lst (pa_cons (pe_k T.c6) pa_nil)))) pss_nil)
    (pss_cons (ps_if (pt_cmpR op_gt (pv 2) (pe_k T.mRow) (nomark _)) (pss_one (ps_ret (pe_lst (pa_cons (pe_k T.c22) pa_nil)))) pss_nil)
    (pss_cons (ps_set (i := 3) nd rfl (Or.inl rfl) (pe_slice sl_list (pv 1) (po_some pe_int) (po_some (pe_op op_add (pv 2) pe_int))))
    (pss_cons (ps_if (pt_val (pe_callB (cr_any rfl) (by rfl) T.any (by decide +kernel) (pa_cons (pe_lc (own := [("i", 4)]) (te := tOp (rI0 fun i j => .bl (decide (j ≤ i))) (tVar 4) (tCB (rLen K) (tCons (tFld K (tVar 0) "balls") tNil))) rfl nd (pi_list (pv 3)) blkRow (fun _ _ _ _ _ => pg_name (i := 4) nd rfl (Or.inl rfl)) (fun _ _ _ _ _ => pts_nil)
        (fun _ _ _ _ _ => pe_cmpR op_ge (pv 4) (pe_callB call_len_seq (by rfl) T.len PySem.boot_len (pa_cons (pe_fld (pv 0) rfl) pa_nil)) (nomark _))) pa_nil))) (pss_one (ps_ret (pe_lst (pa_cons (pe_k T.c22) pa_nil)))) pss_nil)
    (pss_one (ps_ret (pe_call (ok_lrow Dl.fn Dw0 Dr Df Dg T) hr rfl Dl.at_ Dl.fn.kp Dl.bd .nil pass0 (pa_cons (pe_fld (pv 0) rfl) (pa_cons (pe_fld (pv 0) rfl) (pa_cons (pv 3) pa_nil)))))))))), ?_⟩
  refine ⟨_, rfl, g, _, _, _, rfl, rfl, hg, at0, _, rfl, p, C, dx, _, _, rfl, U.ob, T.cl, T.nL, uf_balls .., lb, zs u.balls, rfl, SqL.of U.ba, rfl, _, rfl, ite2 (fun h => ?_) (fun h => ?_)⟩
  · have h0 : Kp294.all u = 0 := by
      have h' := of_decide_eq_true h
      rw [zs_sum] at h'
      injection h' with h'
      show Kp291.sum u.balls = 0
      omega
    refine ⟨one_le, fun q hq => k _ q ?_⟩
    rw [st_row_6 h0]
    exact Fin.say S hq
  · have h0 : ¬ Kp294.all u = 0 := fun q => h (decide_eq_true (by rw [zs_sum, show Kp291.sum u.balls = 0 from q]; rfl))
    refine ⟨_, rfl, _, _, rfl, rfl, _, rfl, ite2 (fun h => ?_) (fun h => ?_)⟩
    · have h1 : 6 < n := by have h' := of_decide_eq_true h; omega
      refine ⟨one_le, fun q hq => k _ q ?_⟩
      rw [st_row_22 h0 (.inl h1)]
      exact Fin.say S hq
    · have h1 : ¬ 6 < n := fun z => h (decide_eq_true (by omega))
      refine ⟨_, rfl, _, rfl, _, rfl, _, _, rfl, rfl, _, rfl, g, _, rfl, hg, fun lc hlc => ?_⟩
      have ecut := cut_row n n [a, b, c, d, e, f'] (by show n ≤ 6; omega)
      let R : List Nat := [a, b, c, d, e, f'].take n
      have hRl : R.length ≤ 6 := by show ([a, b, c, d, e, f'].take n).length ≤ 6; rw [List.length_take]; omega
      have hlcS : SqL K (upd H lc (.lst (cutV (vn (n :: [a, b, c, d, e, f'])) (some 1) (some (((n : Nat) : Int) + 1))))) lc (vn R) := SqL.of (by rw [upd_same, ecut])
      have U1 := U.same (Same.upd (o := .lst (cutV (vn (n :: [a, b, c, d, e, f'])) (some 1) (some (((n : Nat) : Int) + 1)))) hlc)
      refine ⟨_, rfl, lc, rfl, ⟨_, hlcS⟩, fun D hD => lc_list (K := K) (a := lc) (xs := vn R) (fun j G => G = upd (upd H lc (.lst (cutV (vn (n :: [a, b, c, d, e, f'])) (some 1) (some (((n : Nat) : Int) + 1))))) D (.lst (((R.take j).map fun x => decide (u.balls.length ≤ x)).map V.bl))) rfl
        (fun j G _ e => by rw [e]; exact (Same.upd hD).seq hlcS) ?_ ?_⟩
      · rintro j y G hy rfl
        obtain ⟨x, hx, rfl⟩ := vn_get_inv hy
        have U2 := U1.same (Same.upd (o := .lst (((R.take j).map fun x => decide (u.balls.length ≤ x)).map V.bl)) hD)
        refine ⟨rfl, _, rfl, _, rfl, p, C, dx, _, _, rfl, U2.ob, T.cl, T.nL, uf_balls .., lb, _, rfl, .inl (SqL.of U2.ba), _, _, rfl, rfl, _, upd_same, ?_, ?_⟩
        · rw [List.length_map, List.length_map, List.length_take]
          exact Nat.lt_of_le_of_lt (Nat.min_le_right _ _) (Nat.lt_of_le_of_lt hRl (by decide))
        · rw [upd_upd, take_snoc hx, List.map_append, List.map_append, vn_length]
          have e9 : decide (((u.balls.length : Nat) : Int) ≤ ((x : Nat) : Int)) = decide (u.balls.length ≤ x) := by
            by_cases z : u.balls.length ≤ x
            · rw [decide_eq_true z, decide_eq_true (by omega)]
            · rw [decide_eq_false z, decide_eq_false (by omega)]
          show upd _ D (HO.lst (_ ++ [V.bl (decide (((u.balls.length : Nat) : Int) ≤ ((x : Nat) : Int)))])) = _
          rw [e9]
          rfl
      · rintro G rfl
        rw [vn_length, List.take_length]
        have S2 : Same H (upd (upd H lc (.lst (cutV (vn (n :: [a, b, c, d, e, f'])) (some 1) (some (((n : Nat) : Int) + 1))))) D (.lst ((R.map fun x => decide (u.balls.length ≤ x)).map V.bl))) := (Same.upd hlc).trans (Same.upd hD)
        have U2 := U.same S2
        have hlc2 := (Same.upd (o := .lst ((R.map fun x => decide (u.balls.length ≤ x)).map V.bl)) hD).seq hlcS
        refine ⟨D, _, rfl, SqL.of upd_same, _, rfl, ite2 (fun h => ?_) (fun h => ?_)⟩
        · obtain ⟨bb, hbb, ht⟩ := List.any_eq_true.mp h
          obtain ⟨x, hx, rfl⟩ := List.mem_map.mp hbb
          refine ⟨one_le, fun q hq => k _ q ?_⟩
          rw [st_row_22 h0 (.inr ⟨x, hx, of_decide_eq_true ht⟩)]
          exact Fin.read (ans := [-22]) S2 S hq
        · have h2 : ∀ x ∈ R, x < u.balls.length := fun x hx => Nat.lt_of_not_le fun z => h (List.any_eq_true.mpr ⟨true, List.mem_map.mpr ⟨x, hx, decide_eq_true z⟩, rfl⟩)
          refine ⟨_, rfl, p, C, dx, _, _, rfl, U2.ob, T.cl, T.nL, uf_balls .., _, rfl, p, C, dx, _, _, rfl, U2.ob, T.cl, T.nM, uf_more .., _, rfl, lb, lc, u.more, u.balls, R, rfl, SqL.of U2.ba, hlc2, ku.ball, ku.more, h2, by omega, all_pos h0, ku.all, fun H3 q S3 hq => k _ q ?_⟩
          rw [st_row h0 h1 h2]
          show Fin C H _ p lb ld (some u) (ansOf (Kp294.tellFrac (Kp294.row u R))) q
          rw [row_W]
          exact Fin.frac (S2.trans S3) S hq
end
end Gb

end
section
set_option Elab.async false
set_option linter.all false
set_option maxRecDepth 100000
set_option maxHeartbeats 2000000
namespace Gb
open PySem PySem.Spec PyProof.Rows L2
open Mth
theorem frac_zero (b : Nat) (h : 0 < b) : Kp291.frac 0 b = Kp291.frac 0 1 := by
  rw [frac_of 0 b h, frac_of 0 1 (by decide), Nat.gcd_zero_left, Nat.gcd_zero_left, Nat.zero_div, Nat.zero_div, Nat.div_self h]
theorem cut_take (l : List Nat) (m : Nat) : cutV (vn l) none (some ((m : Nat) : Int)) = vn (l.take m) := by
  unfold cutV
  rw [HT.sIx_nat, HT.sIx_none, vn_length, List.drop_zero, Nat.sub_zero, vn_take]
  refine congrArg vn ?_
  rw [List.take_eq_take_iff]
  omega
section
variable {P : Program} {w : World} {K : PySem.W.Frag} {mg : Str → Option Value} {base : Heap}
/-! ### counts -/
theorem scCounts : FnScope ["urn", "given", "wanted", "n"] ["urn", "given"] (defScope sCounts) := ⟨rfl, rfl, rfl, by decide +kernel, rfl, by decide +kernel, by decide +kernel⟩
theorem ok_counts {f r g0 h0 i0 j0 o0 C : Addr} {fd rd gd hd id0 jd od : FuncData} (F : Fun K "counts" "counts" sCounts f fd) (Dc : Def K mg "weight_of_counts" sWCnt ["balls", "more", "wanted"] h0 hd) (Do : Def K mg "orders" sOrd ["wanted"] o0 od)
    (Da : Def K mg "weight_of_all" sWAll ["urn", "n"] i0 id0) (Dr : Def K mg "rising" sRise ["start", "step", "n"] j0 jd) (Df : Def K mg "fraction" sFrac ["above", "below"] r rd) (Dg : Def K mg "greatest_common" sGcd ["a", "b"] g0 gd) (T : Txt K mg C) :
    FnOk P w K mg base CX0 3 f fd ["urn", "given"] (spC K C 7 4) := by
  refine F.ok scCounts spC_len (fun cdv A outer s H vs Q E hr h => ?_)
  obtain ⟨p, g, dx, lb, ld, u, as, rfl, U, ku, hg, hl, hb, k⟩ := h
  obtain ⟨a, b, c, d, rfl⟩ := list_of_len.2.2.2.2.1 hl
  have S : SAt C H p dx lb ld (some u) := ⟨U, ku⟩
  have nd := scCounts.nd
  refine ⟨_, pss_cons (ps_if (pt_cmpR op_eq (pe_callB (cr_sum rfl) (by rfl) T.sum (by decide +kernel) (pa_cons (pe_fld (pv 0) rfl) pa_nil)) pe_int (nomark _)) (pss_one (ps_ret (pe_lst (pa_cons (pe_k T.c6) pa_nil)))) pss_nil)
    (pss_cons (ps_set (i := 2) nd rfl (Or.inl rfl) (pe_slice sl_list (pv 1) po_none (po_some (pe_callB call_len_seq (by rfl) T.len PySem.boot_len (pa_cons (pe_fld (pv 0) rfl) pa_nil)))))
    (pss_cons (ps_set (i := 3) nd rfl (Or.inl rfl) (pe_callB (cr_sum rfl) (by rfl) T.sum (by decide +kernel) (pa_cons (pv 2) pa_nil)))
    (pss_cons (ps_if (pt_cmpR op_gt (pv 3) (pe_k T.mCount) (nomark _)) (pss_one (ps_ret (pe_lst (pa_cons (pe_k T.c22) pa_nil)))) pss_nil)
    (pss_one (ps_ret (pe_call (ok_frac Df.fn Dg) hr rfl Df.at_ Df.fn.kp Df.bd .nil pass0 (pa_cons (pe_call (ok_wcnt Dc.fn Do Dr T) hr rfl Dc.at_ Dc.fn.kp Dc.bd .nil pass0 (pa_cons (pe_fld (pv 0) rfl) (pa_cons (pe_fld (pv 0) rfl) (pa_cons (pv 2) pa_nil))))
      (pa_cons (pe_call (ok_wall Da.fn Dr T) hr rfl Da.at_ Da.fn.kp Da.bd .nil pass0 (pa_cons (pv 0) (pa_cons (pv 3) pa_nil))) pa_nil)))))))), ?_⟩
  refine ⟨_, rfl, p, C, dx, _, _, rfl, U.ob, T.cl, T.nL, uf_balls .., lb, zs u.balls, rfl, SqL.of U.ba, rfl, _, rfl, ite2 (fun h => ?_) (fun h => ?_)⟩
  · have h0 : Kp294.all u = 0 := by
      have h' := of_decide_eq_true h
      rw [zs_sum] at h'
      injection h' with h'
      show Kp291.sum u.balls = 0
      omega
    refine ⟨one_le, fun q hq => k _ q ?_⟩
    rw [st_counts_6 h0]
    exact Fin.say S hq
  · have h0 : ¬ Kp294.all u = 0 := fun q => h (decide_eq_true (by rw [zs_sum, show Kp291.sum u.balls = 0 from q]; rfl))
    refine ⟨_, rfl, _, rfl, p, C, dx, _, _, rfl, U.ob, T.cl, T.nL, uf_balls .., lb, _, rfl, .inl (SqL.of U.ba), _, rfl, g, _, rfl, hg, fun lw hlw => ?_⟩
    let W : List Nat := [a, b, c, d].take u.balls.length
    have ecut : cutV (vn [a, b, c, d]) none (some (((vn u.balls).length : Nat) : Int)) = vn W := by rw [cut_take, vn_length]
    have hW : SqL K (upd H lw (.lst (cutV (vn [a, b, c, d]) none (some (((vn u.balls).length : Nat) : Int))))) lw (vn W) := SqL.of (by rw [upd_same, ecut])
    have S1 : Same H (upd H lw (.lst (cutV (vn [a, b, c, d]) none (some (((vn u.balls).length : Nat) : Int))))) := Same.upd hlw
    have U1 := U.same S1
    have hWl : u.balls.length = W.length := by
      show _ = ([a, b, c, d].take u.balls.length).length
      rw [List.length_take]
      exact (Nat.min_eq_left ku.len).symm
    refine ⟨_, rfl, lw, zs W, rfl, hW, _, rfl, _, _, rfl, rfl, _, rfl, ite2 (fun h => ?_) (fun h => ?_)⟩
    · have h1 : 8 < Kp291.sum W := by
        have h' := of_decide_eq_true h
        rw [zs_sum] at h'
        omega
      refine ⟨one_le, fun q hq => k _ q ?_⟩
      rw [st_counts_22 h0 h1]
      exact Fin.read (ans := [-22]) S1 S hq
    · have h1 : ¬ 8 < Kp291.sum W := fun z => h (decide_eq_true (by rw [zs_sum]; omega))
      have ha := ku.all
      have hm := ku.more
      refine ⟨_, rfl, p, C, dx, _, _, rfl, U1.ob, T.cl, T.nL, uf_balls .., _, rfl, p, C, dx, _, _, rfl, U1.ob, T.cl, T.nM, uf_more .., _, rfl, lb, lw, u.more, u.balls, W, rfl, .inl ⟨SqL.of U1.ba, hW⟩, hWl, fun x hx => ?_, ku.more, by omega, fun H3 S3 => ?_⟩
      · have := ku.ball_mem hx
        omega
      · refine ⟨_, rfl, _, rfl, p, dx, lb, ld, true, u, Kp291.sum W, ?_, U1.same S3, ku, by omega, _, _, rfl, rising_pos (all_pos h0) _, rising_lt (by omega) (by omega), fun q hq => k _ q ?_⟩
        · rw [zs_sum]
          rfl
        · rw [st_counts h0 h1]
          have eR : Kp294.counts u W = Kp291.frac (Kp294.orders W * prods u.more u.balls W) (Kp294.rising (Kp294.all u) u.more (Kp291.sum W)) := by
            unfold Kp294.counts
            rw [countsUp_eq u W hWl]
          show Fin C H _ p lb ld (some u) (ansOf (Kp294.tellFrac (Kp294.counts u W))) q
          rw [eR]
          exact Fin.frac (S1.trans S3) S hq
/-! ### just -/
theorem scJust : FnScope ["urn", "given", "i", "n", "k", "refusal"] ["urn", "given"] (defScope sJust) := ⟨rfl, rfl, rfl, by decide +kernel, rfl, by decide +kernel, by decide +kernel⟩
theorem ok_just {f r g0 h0 i0 j0 o0 c0 n0 k0 C : Addr} {fd rd gd hd id0 jd od cd nd0 kd : FuncData} (F : Fun K "just" "just" sJust f fd) (Dn : Def K mg "refusal_of_draws" sRefN ["urn", "i", "n", "most"] n0 nd0) (Dk : Def K mg "refusal_of_colour" sRefC ["urn", "i"] k0 kd)
    (Dj : Def K mg "weight_of_just" sWJust ["urn", "i", "n", "k"] c0 cd) (Dc : Def K mg "weight_of_counts" sWCnt ["balls", "more", "wanted"] h0 hd) (Do : Def K mg "orders" sOrd ["wanted"] o0 od)
    (Da : Def K mg "weight_of_all" sWAll ["urn", "n"] i0 id0) (Dr : Def K mg "rising" sRise ["start", "step", "n"] j0 jd) (Df : Def K mg "fraction" sFrac ["above", "below"] r rd) (Dg : Def K mg "greatest_common" sGcd ["a", "b"] g0 gd) (T : Txt K mg C) :
    FnOk P w K mg base CX0 4 f fd ["urn", "given"] (spC K C 8 3) := by
  refine F.ok scJust spC_len (fun cdv A outer s H vs Q E hr h => ?_)
  obtain ⟨p, g, dx, lb, ld, u, as, rfl, U, ku, hg, hl, hb, k⟩ := h
  obtain ⟨i, n, m, rfl⟩ := list_of_len.2.2.2.1 hl
  have S : SAt C H p dx lb ld (some u) := ⟨U, ku⟩
  have nd := scJust.nd
  refine ⟨_, pss_cons (ps_set (i := 2) nd rfl (Or.inl rfl) (pe_ix ix_list (pv 1) pe_int (fun _ _ => rfl))) (pss_cons (ps_set (i := 3) nd rfl (Or.inl rfl) (pe_ix ix_list (pv 1) pe_int (fun _ _ => rfl))) (pss_cons (ps_set (i := 4) nd rfl (Or.inl rfl) (pe_ix ix_list (pv 1) pe_int (fun _ _ => rfl)))
    (pss_cons (ps_set (i := 5) nd rfl (Or.inl rfl) (pe_call (ok_refn Dn.fn Dk T) (hr.mono (by omega)) rfl Dn.at_ Dn.fn.kp Dn.bd .nil pass0 (pa_cons (pv 0) (pa_cons (pv 2) (pa_cons (pv 3) (pa_cons (pe_k T.mCount) pa_nil))))))
    (pss_cons (ps_if (pt_cmpR op_lt (pv 5) pe_int (nomark _)) (pss_one (ps_ret (pe_lst (pa_cons (pv 5) pa_nil)))) pss_nil)
    (pss_cons (ps_if (pt_cmpR op_gt (pv 4) (pv 3) (nomark _)) (pss_one (ps_ret (pe_call (ok_frac Df.fn Dg) (hr.mono (by omega)) rfl Df.at_ Df.fn.kp Df.bd .nil pass0 (pa_cons pe_int (pa_cons pe_int pa_nil))))) pss_nil)
    (pss_one (ps_ret (pe_call (ok_frac Df.fn Dg) (hr.mono (by omega)) rfl Df.at_ Df.fn.kp Df.bd .nil pass0 (pa_cons (pe_call (ok_wjust Dj.fn Dc Do Dr T) hr rfl Dj.at_ Dj.fn.kp Dj.bd .nil pass0 (pa_cons (pv 0) (pa_cons (pv 2) (pa_cons (pv 3) (pa_cons (pv 4) pa_nil)))))
      (pa_cons (pe_call (ok_wall Da.fn Dr T) (hr.mono (by omega)) rfl Da.at_ Da.fn.kp Da.bd .nil pass0 (pa_cons (pv 0) (pa_cons (pv 3) pa_nil))) pa_nil)))))))))), ?_⟩
  refine ⟨_, rfl, g, _, _, _, rfl, rfl, hg, at0, _, rfl, g, _, _, _, rfl, rfl, hg, at1, _, rfl, g, _, _, _, rfl, rfl, hg, at2, _, rfl, _, rfl, _, rfl, p, dx, lb, ld, true, u, i, n, 8, rfl, U, _, rfl, _, _, rfl, rfl, _, rfl, ite2 (fun h => ?_) (fun h => ?_)⟩
  · have h1 := refN_neg (of_decide_eq_true h)
    refine ⟨_, rfl, one_le, fun q hq => k _ q ?_⟩
    rcases h1 with ⟨h1, e⟩ | ⟨h1, h2, e⟩ | ⟨h1, h2, h3, e⟩
    · rw [st_just_6 h1, e]
      exact Fin.say S hq
    · rw [st_just_2 h1 h2, e]
      exact Fin.say S hq
    · rw [st_just_22 h1 h2 h3, e]
      exact Fin.say S hq
  · obtain ⟨h1, h2, h3⟩ := refN_zero (fun z => h (decide_eq_true z))
    have ha := ku.all
    have hm := ku.more
    have hp := rising_pos (d := u.more) (all_pos h1) n
    refine ⟨_, rfl, _, rfl, _, _, rfl, rfl, _, rfl, ite2 (fun h => ?_) (fun h => ?_)⟩
    · have h4 : n < m := by have h' := of_decide_eq_true h; omega
      refine ⟨0, 1, rfl, by decide, by decide, fun q hq => k _ q ?_⟩
      rw [st_just h1 h2 h3]
      have eR : Kp294.just u i n m = Kp291.frac 0 1 := by
        unfold Kp294.just Kp294.justUp
        rw [if_pos h4]
        exact frac_zero _ hp
      show Fin C H _ p lb ld (some u) (ansOf (Kp294.tellFrac (Kp294.just u i n m))) q
      rw [eR]
      exact Fin.frac (Same.rfl' H) S hq
    · have h4 : m ≤ n := Nat.le_of_not_lt fun z => h (decide_eq_true (by omega))
      refine ⟨_, rfl, _, rfl, _, rfl, _, rfl, p, dx, lb, ld, true, u, i, n, m, rfl, U, ku, h2, by omega, h4, fun H3 S3 => ?_⟩
      refine ⟨_, rfl, _, rfl, p, dx, lb, ld, true, u, n, rfl, U.same S3, ku, by omega, _, _, rfl, hp, rising_lt (by omega) (by omega), fun q hq => k _ q ?_⟩
      rw [st_just h1 h2 h3]
      exact Fin.frac S3 S hq
/-! ### weights_by_number -/
def wBy (u : Kp294.Urn) (i n : Nat) : List Nat := (List.range (n + 1)).map (Kp294.justUp u i n)
theorem wBy_length (u : Kp294.Urn) (i n : Nat) : (wBy u i n).length = n + 1 := by unfold wBy; rw [List.length_map, List.length_range]
def spWBy (C : Addr) : Sp := fun vs H Q _ => ∃ (p dx lb ld : Addr) (b : Bool) (u : Kp294.Urn) (i n : Nat), vs = [.ref p, vI i, vI n] ∧ UAt C H p dx lb ld b u ∧ Ok u ∧ i < u.balls.length ∧ n ≤ 8 ∧
  ∀ H' q, Same H H' → H q = none → H' q = some (.lst (vn (wBy u i n))) → Q (.ref q) H'
theorem scWBy : FnScope ["urn", "i", "n", "k"] ["urn", "i", "n"] (defScope sWBy) := ⟨rfl, rfl, rfl, by decide +kernel, rfl, by decide +kernel, by decide +kernel⟩
def scopeAllK : Scope := { kind := .function, names := [(".0", .local), ("k", .local), ("weight_of_just", .globalImplicit), ("i", .free), ("n", .free), ("urn", .free)], isGenerator := false, isCoroutine := false }
theorem blkAll : BlkOk ["urn", "i", "n", "k"] (defScope sWBy) scopeAllK [("k", 3)] := blkOk_by (by decide +kernel)
theorem ok_wby {f h0 j0 o0 c0 C : Addr} {fd hd jd od cd : FuncData} (F : Fun K "weights_by_number" "weights_by_number" sWBy f fd)
    (Dj : Def K mg "weight_of_just" sWJust ["urn", "i", "n", "k"] c0 cd) (Dc : Def K mg "weight_of_counts" sWCnt ["balls", "more", "wanted"] h0 hd) (Do : Def K mg "orders" sOrd ["wanted"] o0 od) (Dr : Def K mg "rising" sRise ["start", "step", "n"] j0 jd) (T : Txt K mg C) :
    FnOk P w K mg base CX0 4 f fd ["urn", "i", "n"] (spWBy C) := by
  refine F.ok scWBy (fun vs H Q E h => ?_) (fun cdv A outer s H vs Q E hr h => ?_)
  · obtain ⟨p, dx, lb, ld, b, u, i, n, rfl, _⟩ := h
    rfl
  obtain ⟨p, dx, lb, ld, b, u, i, n, rfl, U, ku, h2, h3, k⟩ := h
  have nd := scWBy.nd
  refine ⟨_, pss_one (ps_ret (pe_lc (own := [("k", 3)]) rfl nd (pi_range1 rfl T.range (pa_cons (pe_op op_add (pv 2) pe_int) pa_nil)) blkAll (fun _ _ _ _ _ => pg_name (i := 3) nd rfl (Or.inl rfl)) (fun _ _ _ _ _ => pts_nil)
      (fun _ _ _ _ _ => pe_call (ok_wjust Dj.fn Dc Do Dr T) hr rfl Dj.at_ Dj.fn.kp Dj.bd .nil pass0 (pa_cons (pv 0) (pa_cons (pv 1) (pa_cons (pv 2) (pa_cons (pv 3) pa_nil))))))), ?_⟩
  refine ⟨_, rfl, _, _, rfl, rfl, _, rfl, (by show -(2 ^ 62) ≤ (n : Int) + 1; omega), (by show (n : Int) + 1 < 2 ^ 62; omega), fun D hD => lc_range (n := n + 1) (fun j G => Same H G ∧ G D = some (.lst (vn ((List.range j).map (Kp294.justUp u i n))))) ⟨Same.upd hD, upd_same⟩ ?_ ?_⟩
  · rintro j G hj ⟨SG, hG⟩
    refine ⟨rfl, _, rfl, _, rfl, _, rfl, _, rfl, p, dx, lb, ld, b, u, i, n, j, ?_, U.same SG, ku, h2, by omega, by omega, fun G2 S2 => ⟨_, S2 _ _ hG, ?_, ?_, ?_⟩⟩
    · exact congrArg (fun z : Int => [V.ref p, vI i, vI n, V.int z]) (Int.zero_add _)
    · rw [vn_length, List.length_map, List.length_range]
      exact Nat.lt_of_le_of_lt (by omega : j ≤ 9) (by decide)
    · intro b o e
      have hb : b ≠ D := ne_of_none e hD
      rw [upd_ne hb]
      exact S2 _ _ (SG _ _ e)
    · rw [upd_same, List.range_succ, List.map_append, vn_append]
      rfl
  · rintro G ⟨SG, hG⟩
    exact k G D SG hD hG
/-! ### all -/
theorem scAllR : FnScope ["urn", "given", "i", "n", "refusal"] ["urn", "given"] (defScope sAllR) := ⟨rfl, rfl, rfl, by decide +kernel, rfl, by decide +kernel, by decide +kernel⟩
theorem vn_ints (l : List Nat) : (Kp294.ints l).map V.int = vn l := rfl
theorem ok_allr {f b0 h0 j0 o0 c0 n0 k0 C : Addr} {fd bd hd jd od cd nd0 kd : FuncData} (F : Fun K "all_rows" "all_rows" sAllR f fd) (Dn : Def K mg "refusal_of_draws" sRefN ["urn", "i", "n", "most"] n0 nd0) (Dk : Def K mg "refusal_of_colour" sRefC ["urn", "i"] k0 kd)
    (Db : Def K mg "weights_by_number" sWBy ["urn", "i", "n"] b0 bd) (Dj : Def K mg "weight_of_just" sWJust ["urn", "i", "n", "k"] c0 cd) (Dc : Def K mg "weight_of_counts" sWCnt ["balls", "more", "wanted"] h0 hd) (Do : Def K mg "orders" sOrd ["wanted"] o0 od) (Dr : Def K mg "rising" sRise ["start", "step", "n"] j0 jd) (T : Txt K mg C) :
    FnOk P w K mg base CX0 5 f fd ["urn", "given"] (spC K C 9 2) := by
  refine F.ok scAllR spC_len (fun cdv A outer s H vs Q E hr h => ?_)
  obtain ⟨p, g, dx, lb, ld, u, as, rfl, U, ku, hg, hl, hb, k⟩ := h
  obtain ⟨i, n, rfl⟩ := list_of_len.2.2.1 hl
  have S : SAt C H p dx lb ld (some u) := ⟨U, ku⟩
  have nd := scAllR.nd
  refine ⟨_, pss_cons (ps_set (i := 2) nd rfl (Or.inl rfl) (pe_ix ix_list (pv 1) pe_int (fun _ _ => rfl))) (pss_cons (ps_set (i := 3) nd rfl (Or.inl rfl) (pe_ix ix_list (pv 1) pe_int (fun _ _ => rfl)))
    (pss_cons (ps_set (i := 4) nd rfl (Or.inl rfl) (pe_call (ok_refn Dn.fn Dk T) (hr.mono (by omega)) rfl Dn.at_ Dn.fn.kp Dn.bd .nil pass0 (pa_cons (pv 0) (pa_cons (pv 2) (pa_cons (pv 3) (pa_cons (pe_k T.mCount) pa_nil))))))
    (pss_cons (ps_if (pt_cmpR op_lt (pv 4) pe_int (nomark _)) (pss_one (ps_ret (pe_lst (pa_cons (pv 4) pa_nil)))) pss_nil)
    (pss_one (ps_ret (pe_op op_cat (pe_lst (pa_cons (pe_op op_add (pv 3) pe_int) pa_nil)) (pe_call (ok_wby Db.fn Dj Dc Do Dr T) hr rfl Db.at_ Db.fn.kp Db.bd .nil pass0 (pa_cons (pv 0) (pa_cons (pv 2) (pa_cons (pv 3) pa_nil)))))))))), ?_⟩
  refine ⟨_, rfl, g, _, _, _, rfl, rfl, hg, at0, _, rfl, g, _, _, _, rfl, rfl, hg, at1, _, rfl, _, rfl, _, rfl, p, dx, lb, ld, true, u, i, n, 8, rfl, U, _, rfl, _, _, rfl, rfl, _, rfl, ite2 (fun h => ?_) (fun h => ?_)⟩
  · have h1 := refN_neg (of_decide_eq_true h)
    refine ⟨_, rfl, one_le, fun q hq => k _ q ?_⟩
    rcases h1 with ⟨h1, e⟩ | ⟨h1, h2, e⟩ | ⟨h1, h2, h3, e⟩
    · rw [st_all_6 h1, e]
      exact Fin.say S hq
    · rw [st_all_2 h1 h2, e]
      exact Fin.say S hq
    · rw [st_all_22 h1 h2 h3, e]
      exact Fin.say S hq
  · obtain ⟨h1, h2, h3⟩ := refN_zero (fun z => h (decide_eq_true z))
    refine ⟨_, rfl, _, _, rfl, rfl, one_le, fun l1 hl1 => ?_⟩
    let H1 : Hp := upd H l1 (.lst [V.int ((n : Int) + 1)])
    have S1 : Same H H1 := Same.upd hl1
    refine ⟨_, rfl, _, rfl, _, rfl, p, dx, lb, ld, true, u, i, n, rfl, U.same S1, ku, h2, by omega, fun G D SG hD hG => ?_⟩
    have e1 : G l1 = some (.lst [V.int ((n : Int) + 1)]) := SG _ _ upd_same
    refine ⟨l1, D, _, _, rfl, rfl, e1, hG, ?_, fun q hq => k _ q ?_⟩
    · rw [vn_length, wBy_length]
      show 1 + (n + 1) ≤ sizeLine
      exact Nat.le_trans (by omega : 1 + (n + 1) ≤ 10) (by decide)
    · rw [st_all h1 h2 h3]
      exact Fin.read (ans := ansOf ⟨(n + 1 : Nat), Kp294.ints ((List.range (n + 1)).map (Kp294.justUp u i n))⟩) (S1.trans SG) S hq
end
end Gb

end
section
set_option Elab.async false
set_option linter.all false
set_option maxRecDepth 100000
set_option maxHeartbeats 2000000
namespace Gb
open PySem PySem.Spec PyProof.Rows L2
open Mth
section
variable {P : Program} {w : World} {K : PySem.W.Frag} {mg : Str → Option Value} {base : Heap}
/-! ### two -/
theorem scTwo : FnScope ["urn", "given", "i", "refusal"] ["urn", "given"] (defScope sTwo) := ⟨rfl, rfl, rfl, by decide +kernel, rfl, by decide +kernel, by decide +kernel⟩
theorem ok_two {f c r g0 h0 i0 j0 C : Addr} {fd cd rd gd hd id0 jd : FuncData} (F : Fun K "two" "two" sTwo f fd) (Dc : Def K mg "refusal_of_colour" sRefC ["urn", "i"] c cd) (Dl : Def K mg "likely_row" sLRow ["balls", "more", "colours"] i0 id0) (Dw0 : Def K mg "weight_of_row" sWRow ["balls", "more", "colours"] h0 hd)
    (Dr : Def K mg "rising" sRise ["start", "step", "n"] j0 jd) (Df : Def K mg "fraction" sFrac ["above", "below"] r rd) (Dg : Def K mg "greatest_common" sGcd ["a", "b"] g0 gd) (T : Txt K mg C) : FnOk P w K mg base CX0 4 f fd ["urn", "given"] (spC K C 10 2) := by
  refine F.ok scTwo spC_len (fun cdv A outer s H vs Q E hr h => ?_)
  obtain ⟨p, g, dx, lb, ld, u, as, rfl, U, ku, hg, hl, hb, k⟩ := h
  obtain ⟨i, j, rfl⟩ := list_of_len.2.2.1 hl
  have S : SAt C H p dx lb ld (some u) := ⟨U, ku⟩
  have nd := scTwo.nd
  refine ⟨_, pss_cons (ps_for PassesOwn.never rfl (pi_list (pv 1)) (pg_name (i := 2) nd rfl (Or.inl rfl))
      (pss_cons (ps_set (i := 3) nd rfl (Or.inl rfl) (pe_call (ok_refc Dc.fn T) (hr.mono (by omega)) rfl Dc.at_ Dc.fn.kp Dc.bd .nil pass0 (pa_cons (pv 0) (pa_cons (pv 2) pa_nil))))
      (pss_one (ps_if (pt_cmpR op_lt (pv 3) pe_int (nomark _)) (pss_one (ps_ret (pe_lst (pa_cons (pv 3) pa_nil)))) pss_nil))))
    (pss_one (ps_ret (pe_call (ok_lrow Dl.fn Dw0 Dr Df Dg T) hr rfl Dl.at_ Dl.fn.kp Dl.bd .nil pass0 (pa_cons (pe_fld (pv 0) rfl) (pa_cons (pe_fld (pv 0) rfl) (pa_cons (pv 1) pa_nil)))))), ?_⟩
  refine ⟨_, rfl, g, rfl, ⟨_, hg⟩, for_list (K := K) (a := g) (xs := vn [i, j]) (fun m σ H' => H' = H ∧ (∀ x ∈ [i, j].take m, ¬ refC u x < 0) ∧ ∃ x y : Option V, σ = [some (.ref p), some (.ref g), x, y])
      ⟨rfl, fun x hx => absurd hx (by simp), none, none, rfl⟩ (fun m σ H' _ ⟨e, _⟩ => by rw [e]; exact hg) ?_ ?_⟩
  · rintro m y σ H' hy ⟨rfl, hall, x, z, rfl⟩
    obtain ⟨c, hc, rfl⟩ := vn_get_inv hy
    have hmem : c = i ∨ c = j := by simpa using List.mem_of_getElem? hc
    refine ⟨_, rfl, _, rfl, p, dx, lb, ld, true, u, c, rfl, U, _, rfl, _, _, rfl, rfl, _, rfl, ite2 (fun h => ?_) (fun h => ?_)⟩
    · have h1 := refC_neg (of_decide_eq_true h)
      refine ⟨_, rfl, one_le, fun q hq => k _ q ?_⟩
      rcases h1 with ⟨h1, e⟩ | ⟨h1, h2, e⟩
      · rw [st_two_6 h1, e]
        exact Fin.say S hq
      · rw [st_two_2 h1 (hmem.imp (fun z => by rw [← z]; exact h2) (fun z => by rw [← z]; exact h2)), e]
        exact Fin.say S hq
    · have h1 : ¬ refC u c < 0 := fun z => h (decide_eq_true z)
      refine ⟨rfl, fun x hx => ?_, some (vI c), some (.int (refC u c)), rfl⟩
      rw [take_snoc hc] at hx
      rcases List.mem_append.mp hx with hx | hx
      · exact hall x hx
      · have e : x = c := by simpa using hx
        rw [e]
        exact h1
  · rintro σ H' ⟨rfl, hall, x, z, rfl⟩
    have hi := refC_zero (hall i (by simp [zs]))
    have hj := refC_zero (hall j (by simp [zs]))
    have hin : ∀ x ∈ [i, j], x < u.balls.length := fun x hx => by
      have hx' : x = i ∨ x = j := by simpa using hx
      rcases hx' with e | e
      · rw [e]; exact hi.2
      · rw [e]; exact hj.2
    refine ⟨_, rfl, p, C, dx, _, _, rfl, U.ob, T.cl, T.nL, uf_balls .., _, rfl, p, C, dx, _, _, rfl, U.ob, T.cl, T.nM, uf_more .., _, rfl, lb, g, u.more, u.balls, [i, j], rfl, SqL.of U.ba, hg, ku.ball, ku.more, hin, by show 2 ≤ 20; omega, all_pos hi.1, ku.all, fun H3 q S3 hq => k _ q ?_⟩
    rw [st_two hi.1 hi.2 hj.2]
    show Fin C H' _ p lb ld (some u) (ansOf (Kp294.tellFrac (Kp294.two u i j))) q
    rw [two_W hi.2]
    exact Fin.frac S3 S hq
/-! ### mean -/
theorem scMean : FnScope ["urn", "given", "i", "n", "refusal"] ["urn", "given"] (defScope sMean) := ⟨rfl, rfl, rfl, by decide +kernel, rfl, by decide +kernel, by decide +kernel⟩
theorem ok_mean {f c r g0 n0 C : Addr} {fd cd rd gd nd0 : FuncData} (F : Fun K "mean" "mean" sMean f fd) (Dn : Def K mg "refusal_of_draws" sRefN ["urn", "i", "n", "most"] n0 nd0) (Dc : Def K mg "refusal_of_colour" sRefC ["urn", "i"] c cd) (Df : Def K mg "fraction" sFrac ["above", "below"] r rd) (Dg : Def K mg "greatest_common" sGcd ["a", "b"] g0 gd) (T : Txt K mg C) :
    FnOk P w K mg base CX0 3 f fd ["urn", "given"] (spC K C 11 2) := by
  refine F.ok scMean spC_len (fun cdv A outer s H vs Q E hr h => ?_)
  obtain ⟨p, g, dx, lb, ld, u, as, rfl, U, ku, hg, hl, hb, k⟩ := h
  obtain ⟨i, n, rfl⟩ := list_of_len.2.2.1 hl
  have S : SAt C H p dx lb ld (some u) := ⟨U, ku⟩
  have nd := scMean.nd
  refine ⟨_, pss_cons (ps_set (i := 2) nd rfl (Or.inl rfl) (pe_ix ix_list (pv 1) pe_int (fun _ _ => rfl))) (pss_cons (ps_set (i := 3) nd rfl (Or.inl rfl) (pe_ix ix_list (pv 1) pe_int (fun _ _ => rfl)))
    (pss_cons (ps_set (i := 4) nd rfl (Or.inl rfl) (pe_call (ok_refn Dn.fn Dc T) hr rfl Dn.at_ Dn.fn.kp Dn.bd .nil pass0 (pa_cons (pv 0) (pa_cons (pv 2) (pa_cons (pv 3) (pa_cons (pe_k T.mAhead) pa_nil))))))
    (pss_cons (ps_if (pt_cmpR op_lt (pv 4) pe_int (nomark _)) (pss_one (ps_ret (pe_lst (pa_cons (pv 4) pa_nil)))) pss_nil)
    (pss_one (ps_ret (pe_call (ok_frac Df.fn Dg) hr rfl Df.at_ Df.fn.kp Df.bd .nil pass0 (pa_cons (pe_op op_mulB (pv 3) (pe_ix ix_list (pe_fld (pv 0) rfl) (pv 2) (fun _ _ => rfl))) (pa_cons (pe_callB (cr_sum rfl) (by rfl) T.sum (by decide +kernel) (pa_cons (pe_fld (pv 0) rfl) pa_nil)) pa_nil)))))))), ?_⟩
  refine ⟨_, rfl, g, _, _, _, rfl, rfl, hg, at0, _, rfl, g, _, _, _, rfl, rfl, hg, at1, _, rfl, _, rfl, _, rfl, p, dx, lb, ld, true, u, i, n, 1000, rfl, U, _, rfl, _, _, rfl, rfl, _, rfl, ite2 (fun h => ?_) (fun h => ?_)⟩
  · have h1 := refN_neg (of_decide_eq_true h)
    refine ⟨_, rfl, one_le, fun q hq => k _ q ?_⟩
    rcases h1 with ⟨h1, e⟩ | ⟨h1, h2, e⟩ | ⟨h1, h2, h3, e⟩
    · rw [st_mean_6 h1, e]
      exact Fin.say S hq
    · rw [st_mean_2 h1 h2, e]
      exact Fin.say S hq
    · rw [st_mean_22 h1 h2 h3, e]
      exact Fin.say S hq
  · obtain ⟨h1, h2, h3⟩ := refN_zero (fun z => h (decide_eq_true z))
    have ha := ku.all
    have hM : CMulB ((n : Nat) : Int) ((u.balls.getD i 0 : Nat) : Int) := ⟨log2_small (Nat.lt_of_le_of_lt (by omega : n ≤ 1000) (by decide)), log2_small (Nat.lt_of_le_of_lt (ku.ball i) (by decide))⟩
    refine ⟨_, rfl, _, rfl, p, C, dx, _, _, rfl, U.ob, T.cl, T.nL, uf_balls .., _, rfl, lb, _, _, _, rfl, rfl, SqL.of U.ba, natAt h2, _, _, rfl, rfl, hM, _, rfl, p, C, dx, _, _, rfl, U.ob, T.cl, T.nL, uf_balls .., lb, zs u.balls, rfl, SqL.of U.ba,
      n * u.balls.getD i 0, Kp294.all u, ?_, by omega, Nat.lt_of_le_of_lt ha (by decide), fun q hq => k _ q ?_⟩
    · show [V.int (((n : Nat) : Int) * ((u.balls.getD i 0 : Nat) : Int)), V.int (zs u.balls).sum] = [vI (n * u.balls.getD i 0), vI (Kp294.all u)]
      rw [zs_sum, ← Int.natCast_mul]
      rfl
    · rw [st_mean h1 h2 h3]
      exact Fin.frac (Same.rfl' H) S hq
/-! ### then -/
theorem scThen : FnScope ["urn", "given", "i", "n", "refusal", "total"] ["urn", "given"] (defScope sThen) := ⟨rfl, rfl, rfl, by decide +kernel, rfl, by decide +kernel, by decide +kernel⟩
theorem ok_then {f c r g0 n0 C : Addr} {fd cd rd gd nd0 : FuncData} (F : Fun K "then" "then" sThen f fd) (Dn : Def K mg "refusal_of_draws" sRefN ["urn", "i", "n", "most"] n0 nd0) (Dc : Def K mg "refusal_of_colour" sRefC ["urn", "i"] c cd) (Df : Def K mg "fraction" sFrac ["above", "below"] r rd) (Dg : Def K mg "greatest_common" sGcd ["a", "b"] g0 gd) (T : Txt K mg C) :
    FnOk P w K mg base CX0 3 f fd ["urn", "given"] (spC K C 12 2) := by
  refine F.ok scThen spC_len (fun cdv A outer s H vs Q E hr h => ?_)
  obtain ⟨p, g, dx, lb, ld, u, as, rfl, U, ku, hg, hl, hb, k⟩ := h
  obtain ⟨i, n, rfl⟩ := list_of_len.2.2.1 hl
  have S : SAt C H p dx lb ld (some u) := ⟨U, ku⟩
  have nd := scThen.nd
  refine ⟨_, pss_cons (ps_set (i := 2) nd rfl (Or.inl rfl) (pe_ix ix_list (pv 1) pe_int (fun _ _ => rfl))) (pss_cons (ps_set (i := 3) nd rfl (Or.inl rfl) (pe_ix ix_list (pv 1) pe_int (fun _ _ => rfl)))
    (pss_cons (ps_set (i := 4) nd rfl (Or.inl rfl) (pe_call (ok_refn Dn.fn Dc T) hr rfl Dn.at_ Dn.fn.kp Dn.bd .nil pass0 (pa_cons (pv 0) (pa_cons (pv 2) (pa_cons (pv 3) (pa_cons (pe_k T.mAhead) pa_nil))))))
    (pss_cons (ps_if (pt_cmpR op_lt (pv 4) pe_int (nomark _)) (pss_one (ps_ret (pe_lst (pa_cons (pv 4) pa_nil)))) pss_nil)
    (pss_cons (ps_set (i := 5) nd rfl (Or.inl rfl) (pe_callB (cr_sum rfl) (by rfl) T.sum (by decide +kernel) (pa_cons (pe_fld (pv 0) rfl) pa_nil)))
    (pss_one (ps_ret (pe_call (ok_frac Df.fn Dg) hr rfl Df.at_ Df.fn.kp Df.bd .nil pass0 (pa_cons (pe_op op_mulB (pe_ix ix_list (pe_fld (pv 0) rfl) (pv 2) (fun _ _ => rfl)) (pe_op op_add (pv 5) (pe_op op_mulB (pe_fld (pv 0) rfl) (pv 3)))) (pa_cons (pv 5) pa_nil))))))))), ?_⟩
  refine ⟨_, rfl, g, _, _, _, rfl, rfl, hg, at0, _, rfl, g, _, _, _, rfl, rfl, hg, at1, _, rfl, _, rfl, _, rfl, p, dx, lb, ld, true, u, i, n, 1000, rfl, U, _, rfl, _, _, rfl, rfl, _, rfl, ite2 (fun h => ?_) (fun h => ?_)⟩
  · have h1 := refN_neg (of_decide_eq_true h)
    refine ⟨_, rfl, one_le, fun q hq => k _ q ?_⟩
    rcases h1 with ⟨h1, e⟩ | ⟨h1, h2, e⟩ | ⟨h1, h2, h3, e⟩
    · rw [st_then_6 h1, e]
      exact Fin.say S hq
    · rw [st_then_2 h1 h2, e]
      exact Fin.say S hq
    · rw [st_then_22 h1 h2 h3, e]
      exact Fin.say S hq
  · obtain ⟨h1, h2, h3⟩ := refN_zero (fun z => h (decide_eq_true z))
    have ha := ku.all
    have hm := ku.more
    have hM1 : CMulB ((u.more : Nat) : Int) ((n : Nat) : Int) := ⟨log2_small (Nat.lt_of_le_of_lt hm (by decide)), log2_small (Nat.lt_of_le_of_lt (by omega : n ≤ 1000) (by decide))⟩
    have eS : (zs u.balls).sum + ((u.more : Nat) : Int) * ((n : Nat) : Int) = ((Kp294.all u + n * u.more : Nat) : Int) := by
      rw [zs_sum, Int.natCast_add, Int.natCast_mul, Int.mul_comm ((u.more : Nat) : Int)]
      rfl
    have hmn : n * u.more ≤ 1000 * 5 := Nat.mul_le_mul (by omega) hm
    have hM2 : CMulB ((u.balls.getD i 0 : Nat) : Int) ((zs u.balls).sum + ((u.more : Nat) : Int) * ((n : Nat) : Int)) := by
      rw [eS]
      exact ⟨log2_small (Nat.lt_of_le_of_lt (ku.ball i) (by decide)), log2_small (Nat.lt_of_le_of_lt (by omega : Kp294.all u + n * u.more ≤ 6240) (by decide))⟩
    refine ⟨_, rfl, p, C, dx, _, _, rfl, U.ob, T.cl, T.nL, uf_balls .., lb, zs u.balls, rfl, SqL.of U.ba, _, rfl, p, C, dx, _, _, rfl, U.ob, T.cl, T.nL, uf_balls .., _, rfl, lb, _, _, _, rfl, rfl, SqL.of U.ba, natAt h2,
      _, rfl, _, rfl, p, C, dx, _, _, rfl, U.ob, T.cl, T.nM, uf_more .., _, rfl, _, _, rfl, rfl, hM1, _, _, rfl, rfl, _, _, rfl, rfl, hM2, _, rfl,
      u.balls.getD i 0 * (Kp294.all u + n * u.more), Kp294.all u, ?_, by omega, Nat.lt_of_le_of_lt ha (by decide), fun q hq => k _ q ?_⟩
    · show [V.int (((u.balls.getD i 0 : Nat) : Int) * ((zs u.balls).sum + ((u.more : Nat) : Int) * ((n : Nat) : Int))), V.int (zs u.balls).sum] = [vI (u.balls.getD i 0 * (Kp294.all u + n * u.more)), vI (Kp294.all u)]
      rw [eS, zs_sum, ← Int.natCast_mul]
      rfl
    · rw [st_then h1 h2 h3]
      exact Fin.frac (Same.rfl' H) S hq
end
end Gb

end
section
set_option Elab.async false
set_option linter.all false
set_option maxRecDepth 100000
set_option maxHeartbeats 2000000
namespace Gb
open PySem PySem.Spec PyProof.Rows L2
open Mth
theorem wBy_get {u : Kp294.Urn} {i n k : Nat} (h : k ≤ n) : (wBy u i n)[k]? = some (Kp294.justUp u i n k) := by
  unfold wBy
  rw [List.getElem?_map, List.getElem?_range (by omega)]
  rfl
theorem wBy_mem {u : Kp294.Urn} {i n : Nat} {m : Int} (h : m ∈ zs (wBy u i n)) : ∃ k, k ≤ n ∧ m = ((Kp294.justUp u i n k : Nat) : Int) := by
  obtain ⟨x, hx, rfl⟩ := List.mem_map.mp h
  obtain ⟨k, hk, rfl⟩ := List.mem_map.mp hx
  exact ⟨k, by have := List.mem_range.mp hk; omega, rfl⟩
/-- the greatest is what the likeliest has -/
theorem like_max {u : Kp294.Urn} {i n : Nat} {m : Int} (hm : m ∈ zs (wBy u i n)) (hx : ∀ y, y ∈ zs (wBy u i n) → y ≤ m) : m = ((Kp294.justUp u i n (Kp294.likeliest u i n) : Nat) : Int) := by
  have B := likeliest_best u i n
  obtain ⟨k, hk, rfl⟩ := wBy_mem hm
  have h1 := B.top k hk
  have h2 := hx ((Kp294.justUp u i n (Kp294.likeliest u i n) : Nat) : Int) (List.mem_map.mpr ⟨_, List.mem_of_getElem? (wBy_get B.le), rfl⟩)
  omega
theorem flat_vn (l : List Nat) : (vn l).all flatV = true := by
  refine List.all_eq_true.mpr fun x hx => ?_
  obtain ⟨z, _, rfl⟩ := List.mem_map.mp hx
  rfl
section
variable {P : Program} {w : World} {K : PySem.W.Frag} {mg : Str → Option Value} {base : Heap}
/-! ### likeliest -/
theorem scLike : FnScope ["urn", "given", "i", "n", "refusal", "weights"] ["urn", "given"] (defScope sLike) := ⟨rfl, rfl, rfl, by decide +kernel, rfl, by decide +kernel, by decide +kernel⟩
theorem ok_like {f b0 h0 j0 o0 c0 n0 k0 C : Addr} {fd bd hd jd od cd nd0 kd : FuncData} (F : Fun K "likeliest" "likeliest" sLike f fd) (Dn : Def K mg "refusal_of_draws" sRefN ["urn", "i", "n", "most"] n0 nd0) (Dk : Def K mg "refusal_of_colour" sRefC ["urn", "i"] k0 kd)
    (Db : Def K mg "weights_by_number" sWBy ["urn", "i", "n"] b0 bd) (Dj : Def K mg "weight_of_just" sWJust ["urn", "i", "n", "k"] c0 cd) (Dc : Def K mg "weight_of_counts" sWCnt ["balls", "more", "wanted"] h0 hd) (Do : Def K mg "orders" sOrd ["wanted"] o0 od) (Dr : Def K mg "rising" sRise ["start", "step", "n"] j0 jd) (T : Txt K mg C) :
    FnOk P w K mg base CX0 5 f fd ["urn", "given"] (spC K C 13 2) := by
  refine F.ok scLike spC_len (fun cdv A outer s H vs Q E hr h => ?_)
  obtain ⟨p, g, dx, lb, ld, u, as, rfl, U, ku, hg, hl, hb, k⟩ := h
  obtain ⟨i, n, rfl⟩ := list_of_len.2.2.1 hl
  have S : SAt C H p dx lb ld (some u) := ⟨U, ku⟩
  have nd := scLike.nd
  refine ⟨_, pss_cons (ps_set (i := 2) nd rfl (Or.inl rfl) (pe_ix ix_list (pv 1) pe_int (fun _ _ => rfl))) (pss_cons (ps_set (i := 3) nd rfl (Or.inl rfl) (pe_ix ix_list (pv 1) pe_int (fun _ _ => rfl)))
    (pss_cons (ps_set (i := 4) nd rfl (Or.inl rfl) (pe_call (ok_refn Dn.fn Dk T) (hr.mono (by omega)) rfl Dn.at_ Dn.fn.kp Dn.bd .nil pass0 (pa_cons (pv 0) (pa_cons (pv 2) (pa_cons (pv 3) (pa_cons (pe_k T.mCount) pa_nil))))))
    (pss_cons (ps_if (pt_cmpR op_lt (pv 4) pe_int (nomark _)) (pss_one (ps_ret (pe_lst (pa_cons (pv 4) pa_nil)))) pss_nil)
    (pss_cons (ps_set (i := 5) nd rfl (Or.inl rfl) (pe_call (ok_wby Db.fn Dj Dc Do Dr T) hr rfl Db.at_ Db.fn.kp Db.bd .nil pass0 (pa_cons (pv 0) (pa_cons (pv 2) (pa_cons (pv 3) pa_nil)))))
    (pss_one (ps_ret (pe_lst (pa_cons (pe_bm PySem.F.plainAttrs_list PySem.F.slot_list_index PySem.F.type_list_index mt_index (pv 5) (pa_cons (pe_callB (cr_max rfl) (by rfl) T.max (by decide +kernel) (pa_cons (pv 5) pa_nil)) pa_nil)) pa_nil)))))))), ?_⟩
  refine ⟨_, rfl, g, _, _, _, rfl, rfl, hg, at0, _, rfl, g, _, _, _, rfl, rfl, hg, at1, _, rfl, _, rfl, _, rfl, p, dx, lb, ld, true, u, i, n, 8, rfl, U, _, rfl, _, _, rfl, rfl, _, rfl, ite2 (fun h => ?_) (fun h => ?_)⟩
  · have h1 := refN_neg (of_decide_eq_true h)
    refine ⟨_, rfl, one_le, fun q hq => k _ q ?_⟩
    rcases h1 with ⟨h1, e⟩ | ⟨h1, h2, e⟩ | ⟨h1, h2, h3, e⟩
    · rw [st_likeliest_6 h1, e]
      exact Fin.say S hq
    · rw [st_likeliest_2 h1 h2, e]
      exact Fin.say S hq
    · rw [st_likeliest_22 h1 h2 h3, e]
      exact Fin.say S hq
  · obtain ⟨h1, h2, h3⟩ := refN_zero (fun z => h (decide_eq_true z))
    refine ⟨_, rfl, _, rfl, _, rfl, p, dx, lb, ld, true, u, i, n, rfl, U, ku, h2, by omega, fun G D SG hD hG => ?_⟩
    have hB := likeliest_best u i n
    have hz : 0 < (zs (wBy u i n)).length := by rw [zs_length, wBy_length]; omega
    refine ⟨_, rfl, .inl ⟨rfl, _, SqL.of hG⟩, _, rfl, D, zs (wBy u i n), rfl, SqL.of hG, hz, fun m hm hx => ?_⟩
    have em := like_max hm hx
    subst em
    refine ⟨D, vn (wBy u i n), _, Kp294.likeliest u i n, vI (Kp294.justUp u i n (Kp294.likeliest u i n)), rfl, rfl, SqL.of hG, rfl, flat_vn _, vn_get (wBy_get hB.le), ?_, fun m z' hm hz' => ?_, one_le, fun q hq => k _ q ?_⟩
    · show (((Kp294.justUp u i n (Kp294.likeliest u i n) : Nat) : Int) == ((Kp294.justUp u i n (Kp294.likeliest u i n) : Nat) : Int)) = true
      exact beq_self_eq_true _
    · have hle : m ≤ n := Nat.le_trans (Nat.le_of_lt hm) hB.le
      rw [vn_get (wBy_get hle)] at hz'
      cases hz'
      have h4 := hB.first m hm
      show (((Kp294.justUp u i n m : Nat) : Int) == ((Kp294.justUp u i n (Kp294.likeliest u i n) : Nat) : Int)) = false
      exact beq_eq_false_iff_ne.mpr (by omega)
    · rw [st_likeliest h1 h2 h3]
      exact Fin.read (ans := [((Kp294.likeliest u i n : Nat) : Int)]) SG S hq
/-! ### one -/
theorem scOneC : FnScope ["urn", "given", "n", "start"] ["urn", "given"] (defScope sOneC) := ⟨rfl, rfl, rfl, by decide +kernel, rfl, by decide +kernel, by decide +kernel⟩
def scopeOneS : Scope := { kind := .function, names := [(".0", .local), ("start", .local), ("rising", .globalImplicit), ("n", .free), ("urn", .free)], isGenerator := false, isCoroutine := false }
theorem blkOne : BlkOk ["urn", "given", "n", "start"] (defScope sOneC) scopeOneS [("start", 3)] := blkOk_by (by decide +kernel)
theorem ok_oneC {f r g0 i0 j0 C : Addr} {fd rd gd id0 jd : FuncData} (F : Fun K "one" "one" sOneC f fd) (Da : Def K mg "weight_of_all" sWAll ["urn", "n"] i0 id0) (Dr : Def K mg "rising" sRise ["start", "step", "n"] j0 jd)
    (Df : Def K mg "fraction" sFrac ["above", "below"] r rd) (Dg : Def K mg "greatest_common" sGcd ["a", "b"] g0 gd) (T : Txt K mg C) : FnOk P w K mg base CX0 3 f fd ["urn", "given"] (spC K C 14 1) := by
  refine F.ok scOneC spC_len (fun cdv A outer s H vs Q E hr h => ?_)
  obtain ⟨p, g, dx, lb, ld, u, as, rfl, U, ku, hg, hl, hb, k⟩ := h
  obtain ⟨n, rfl⟩ := list_of_len.2.1 hl
  have S : SAt C H p dx lb ld (some u) := ⟨U, ku⟩
  have nd := scOneC.nd
  refine ⟨_, pss_cons (ps_set (i := 2) nd rfl (Or.inr rfl) (pe_ix ix_list (pv 1) pe_int (fun _ _ => rfl)))
    (pss_cons (ps_if (pt_cmpR op_eq (pe_callB (cr_sum rfl) (by rfl) T.sum (by decide +kernel) (pa_cons (pe_fld (pv 0) rfl) pa_nil)) pe_int (nomark _)) (pss_one (ps_ret (pe_lst (pa_cons (pe_k T.c6) pa_nil)))) pss_nil)
    (pss_cons (ps_if (pt_cmpR op_gt (pv 2) (pe_k T.mCount) (nomark _)) (pss_one (ps_ret (pe_lst (pa_cons (pe_k T.c22) pa_nil)))) pss_nil)
    (pss_cons (ps_if (pt_cmpR op_eq (pv 2) pe_int (nomark _)) (pss_one (ps_ret (pe_call (ok_frac Df.fn Dg) hr rfl Df.at_ Df.fn.kp Df.bd .nil pass0 (pa_cons pe_int (pa_cons pe_int pa_nil))))) pss_nil)
    (pss_one (ps_ret (pe_call (ok_frac Df.fn Dg) hr rfl Df.at_ Df.fn.kp Df.bd .nil pass0 (pa_cons
      (pe_callB (cr_sum rfl) (by rfl) T.sum (by decide +kernel) (pa_cons (pe_lc (own := [("start", 3)]) (te := tCall spRise [] E0 (tCons (tVar 3) (tCons (tFld K (tVar 0) "more") (tCons (tVar 2) tNil)))) rfl nd (pi_list (pe_fld (pv 0) rfl)) blkOne (fun _ _ _ _ _ => pg_name (i := 3) nd rfl (Or.inl rfl)) (fun _ _ _ _ _ => pts_nil)
        (fun _ _ _ _ _ => pe_call (ok_rise Dr.fn T.range) (hr.mono (by omega)) rfl Dr.at_ Dr.fn.kp Dr.bd .nil pass0 (pa_cons (pv 3) (pa_cons (pe_fld (pv 0) rfl) (pa_cons (pv 2) pa_nil))))) pa_nil))
      (pa_cons (pe_call (ok_wall Da.fn Dr T) hr rfl Da.at_ Da.fn.kp Da.bd .nil pass0 (pa_cons (pv 0) (pa_cons (pv 2) pa_nil))) pa_nil)))))))), ?_⟩
  refine ⟨_, rfl, g, _, _, _, rfl, rfl, hg, at0, _, rfl, p, C, dx, _, _, rfl, U.ob, T.cl, T.nL, uf_balls .., lb, zs u.balls, rfl, SqL.of U.ba, rfl, _, rfl, ite2 (fun h => ?_) (fun h => ?_)⟩
  · have h0 : Kp294.all u = 0 := by
      have h' := of_decide_eq_true h
      rw [zs_sum] at h'
      injection h' with h'
      show Kp291.sum u.balls = 0
      omega
    refine ⟨one_le, fun q hq => k _ q ?_⟩
    rw [st_one_6 h0]
    exact Fin.say S hq
  · have h0 : ¬ Kp294.all u = 0 := fun q => h (decide_eq_true (by rw [zs_sum, show Kp291.sum u.balls = 0 from q]; rfl))
    refine ⟨_, rfl, _, _, rfl, rfl, _, rfl, ite2 (fun h => ?_) (fun h => ?_)⟩
    · have h1 : 8 < n := by have h' := of_decide_eq_true h; omega
      refine ⟨one_le, fun q hq => k _ q ?_⟩
      rw [st_one_22 h0 h1]
      exact Fin.say S hq
    · have h1 : ¬ 8 < n := fun z => h (decide_eq_true (by omega))
      refine ⟨_, rfl, rfl, _, rfl, ite2 (fun h => ?_) (fun h => ?_)⟩
      · have h2 : n = 0 := by
          have h' := of_decide_eq_true h
          injection h' with h'
          omega
        refine ⟨1, 1, rfl, by decide, by decide, fun q hq => k _ q ?_⟩
        rw [st_one h0 h1]
        show Fin C H _ p lb ld (some u) (ansOf (Kp294.tellFrac (Kp294.oneColour u n))) q
        rw [h2, one_zero (all_pos h0)]
        exact Fin.frac (Same.rfl' H) S hq
      · have h2 : n ≠ 0 := fun z => h (decide_eq_true (by rw [z]; rfl))
        have ha := ku.all
        have hm := ku.more
        refine ⟨_, rfl, p, C, dx, _, _, rfl, U.ob, T.cl, T.nL, uf_balls .., lb, rfl, ⟨_, SqL.of U.ba⟩, fun D hD => lc_list (K := K) (a := lb) (xs := vn u.balls) (fun j G => G = upd H D (.lst (vn ((u.balls.take j).map fun b => Kp294.rising b u.more n)))) rfl
          (fun j G _ e => by rw [e]; exact (Same.upd hD).seq (SqL.of U.ba)) ?_ ?_⟩
        · rintro j y G hy rfl
          obtain ⟨x, hx, rfl⟩ := vn_get_inv hy
          have U2 := U.same (Same.upd (o := .lst (vn ((u.balls.take j).map fun b => Kp294.rising b u.more n))) hD)
          have hxb := ku.ball_mem (List.mem_of_getElem? hx)
          refine ⟨rfl, _, rfl, _, rfl, p, C, dx, _, _, rfl, U2.ob, T.cl, T.nM, uf_more .., _, rfl, x, u.more, n, rfl, by omega, by omega, _, upd_same, ?_, ?_⟩
          · rw [vn_length, List.length_map, List.length_take]
            exact Nat.lt_of_le_of_lt (Nat.le_trans (Nat.min_le_right _ _) ku.len) (by decide)
          · rw [upd_upd, take_snoc hx, List.map_append, vn_append]
            rfl
        · rintro G rfl
          rw [vn_length, List.take_length]
          have S2 : Same H (upd H D (.lst (vn (u.balls.map fun b => Kp294.rising b u.more n)))) := Same.upd hD
          have U2 := U.same S2
          refine ⟨D, zs (u.balls.map fun b => Kp294.rising b u.more n), rfl, SqL.of upd_same, _, rfl, _, rfl, p, dx, lb, ld, true, u, n, rfl, U2, ku, by omega, Kp291.sum (u.balls.map fun b => Kp294.rising b u.more n), Kp294.rising (Kp294.all u) u.more n, ?_, rising_pos (all_pos h0) n, rising_lt (by omega) (by omega), fun q hq => k _ q ?_⟩
          · rw [zs_sum]
            rfl
          · rw [st_one h0 h1]
            show Fin C H _ p lb ld (some u) (ansOf (Kp294.tellFrac (Kp294.oneColour u n))) q
            rw [one_pos h2]
            exact Fin.frac S2 S hq
end
end Gb

end
section
set_option Elab.async false
set_option linter.all false
set_option maxRecDepth 100000
set_option maxHeartbeats 2000000
namespace Gb
open PySem PySem.Spec PyProof.Rows L2
open Mth
section
variable {P : Program} {w : World} {K : PySem.W.Frag} {mg : Str → Option Value} {base : Heap}
/-! ### more -/
theorem scMore : FnScope ["urn", "given", "before"] ["urn", "given"] (defScope sMore) := ⟨rfl, rfl, rfl, by decide +kernel, rfl, by decide +kernel, by decide +kernel⟩
theorem ok_more {f C : Addr} {fd : FuncData} (F : Fun K "set_more" "set_more" sMore f fd) (T : Txt K mg C) : FnOk P w K mg base CX0 1 f fd ["urn", "given"] (spC K C 15 1) := by
  refine F.ok scMore spC_len (fun cdv A outer s H vs Q E hr h => ?_)
  obtain ⟨p, g, dx, lb, ld, u, as, rfl, U, ku, hg, hl, hb, k⟩ := h
  obtain ⟨d, rfl⟩ := list_of_len.2.1 hl
  have S : SAt C H p dx lb ld (some u) := ⟨U, ku⟩
  have nd := scMore.nd
  refine ⟨_, pss_cons (ps_if (pt_cmpR op_gt (pe_callB call_len_seq (by rfl) T.len PySem.boot_len (pa_cons (pe_fld (pv 0) rfl) pa_nil)) pe_int (nomark _)) (pss_one (ps_ret (pe_lst (pa_cons (pe_k T.c16) pa_nil)))) pss_nil)
    (pss_cons (ps_if (pt_cmpR op_gt (pe_ix ix_list (pv 1) pe_int (fun _ _ => rfl)) (pe_k T.mMore) (nomark _)) (pss_one (ps_ret (pe_lst (pa_cons (pe_k T.c22) pa_nil)))) pss_nil)
    (pss_cons (ps_set (i := 2) nd rfl (Or.inl rfl) (pe_fld (pv 0) rfl))
    (pss_cons (ps_fld (pv 0) (pe_ix ix_list (pv 1) pe_int (fun _ _ => rfl)) rfl)
    (pss_one (ps_ret (pe_lst (pa_cons (pv 2) pa_nil))))))), ?_⟩
  refine ⟨_, rfl, p, C, dx, _, _, rfl, U.ob, T.cl, T.nD, uf_drawn .., ld, _, rfl, .inl (SqL.of U.dr), _, _, rfl, rfl, _, rfl, ite2 (fun h => ?_) (fun h => ?_)⟩
  · have h1 : u.drawn ≠ [] := vn_nil_iff.mpr (by have h' := of_decide_eq_true h; rw [vn_length] at h'; omega)
    refine ⟨one_le, fun q hq => k _ q ?_⟩
    rw [st_more_16 h1]
    exact Fin.say S hq
  · have h1 : u.drawn = [] := Classical.byContradiction fun z => h (decide_eq_true (by rw [vn_length]; have := vn_nil_iff.mp z; omega))
    refine ⟨_, rfl, g, _, _, _, rfl, rfl, hg, at0, _, _, rfl, rfl, _, rfl, ite2 (fun h => ?_) (fun h => ?_)⟩
    · have h2 : 5 < d := by have h' := of_decide_eq_true h; omega
      refine ⟨one_le, fun q hq => k _ q ?_⟩
      rw [st_more_22 h1 h2]
      exact Fin.say S hq
    · have h2 : ¬ 5 < d := fun z => h (decide_eq_true (by omega))
      refine ⟨_, rfl, p, C, dx, _, _, rfl, U.ob, T.cl, T.nM, uf_more .., _, rfl, g, _, _, _, rfl, rfl, hg, at0, _, rfl, p, C, dx, _, rfl, U.ob, T.cl, T.nM, (by show 4 < 1000; decide), _, rfl, one_le, fun q hq => k _ q ?_⟩
      have npb : p ≠ lb := ne_of U.ob U.ba (by intro z; cases z)
      have npd : p ≠ ld := ne_of U.ob U.dr (by intro z; cases z)
      have n1 : p ≠ q := ne_of_none upd_same hq
      have f1 : H q = none := by rw [upd_ne n1.symm] at hq; exact hq
      rw [st_more h1 h2]
      refine ⟨⟨dx, lb, ld, ⟨⟨?_, ?_, ?_, U.ne⟩, ku.moreSet h1 (by omega)⟩, .inl rfl, .inl rfl⟩, upd_same, f1, fun b o e hb _ _ => ?_⟩
      · rw [upd_ne n1, upd_same]
        rfl
      · rw [upd_ne (ne_of_none U.ba f1), upd_ne npb.symm]
        exact U.ba
      · rw [upd_ne (ne_of_none U.dr f1), upd_ne npd.symm]
        exact U.dr
      · rw [upd_ne (ne_of_none e f1), upd_ne hb]
        exact e
/-! ### was -/
theorem scWas : FnScope ["urn", "given"] ["urn", "given"] (defScope sWas) := ⟨rfl, rfl, rfl, by decide +kernel, rfl, by decide +kernel, by decide +kernel⟩
theorem ok_was {f C : Addr} {fd : FuncData} (F : Fun K "was" "was" sWas f fd) (T : Txt K mg C) : FnOk P w K mg base CX0 1 f fd ["urn", "given"] (spC K C 16 0) := by
  refine F.ok scWas spC_len (fun cdv A outer s H vs Q E hr h => ?_)
  obtain ⟨p, g, dx, lb, ld, u, as, rfl, U, ku, hg, hl, hb, k⟩ := h
  obtain rfl := list_of_len.1 hl
  have S : SAt C H p dx lb ld (some u) := ⟨U, ku⟩
  have nd := scWas.nd
  refine ⟨_, pss_one (ps_ret (pe_op op_cat (pe_lst (pa_cons (pe_callB call_len_seq (by rfl) T.len PySem.boot_len (pa_cons (pe_fld (pv 0) rfl) pa_nil)) pa_nil)) (pe_fld (pv 0) rfl))), ?_⟩
  refine ⟨_, rfl, p, C, dx, _, _, rfl, U.ob, T.cl, T.nD, uf_drawn .., ld, _, rfl, .inl (SqL.of U.dr), one_le, fun l1 hl1 => ?_⟩
  have S1 : Same H (upd H l1 (.lst [V.int (((vn u.drawn).length : Nat) : Int)])) := Same.upd hl1
  have U1 := U.same S1
  have hlen : ([V.int (((vn u.drawn).length : Nat) : Int)] : List V).length + (vn u.drawn).length ≤ sizeLine := by
    rw [vn_length u.drawn]
    have := ku.dl
    exact Nat.le_trans (show 1 + u.drawn.length ≤ 61 by omega) (by decide)
  refine ⟨_, rfl, p, C, dx, _, _, rfl, U1.ob, T.cl, T.nD, uf_drawn .., l1, ld, _, _, rfl, rfl, upd_same, U1.dr, hlen, fun q hq => k _ q ?_⟩
  have e1 : [V.int (((vn u.drawn).length : Nat) : Int)] ++ vn u.drawn = (ansOf (Kp294.tellAll u.drawn)).map V.int := by
    rw [vn_length]
    rfl
  rw [st_was, e1]
  exact Fin.read S1 S hq
/-! ### told -/
theorem scTold : FnScope ["urn", "given"] ["urn", "given"] (defScope sTold) := ⟨rfl, rfl, rfl, by decide +kernel, rfl, by decide +kernel, by decide +kernel⟩
theorem ok_told {f C : Addr} {fd : FuncData} (F : Fun K "told" "told" sTold f fd) (T : Txt K mg C) : FnOk P w K mg base CX0 1 f fd ["urn", "given"] (spC K C 18 0) := by
  refine F.ok scTold spC_len (fun cdv A outer s H vs Q E hr h => ?_)
  obtain ⟨p, g, dx, lb, ld, u, as, rfl, U, ku, hg, hl, hb, k⟩ := h
  obtain rfl := list_of_len.1 hl
  have S : SAt C H p dx lb ld (some u) := ⟨U, ku⟩
  have nd := scTold.nd
  refine ⟨_, pss_one (ps_ret (pe_op op_cat (pe_op op_cat (pe_lst (pa_cons (pe_callB call_len_seq (by rfl) T.len PySem.boot_len (pa_cons (pe_fld (pv 0) rfl) pa_nil)) pa_nil)) (pe_fld (pv 0) rfl))
    (pe_lst (pa_cons (pe_fld (pv 0) rfl) (pa_cons (pe_callB call_len_seq (by rfl) T.len PySem.boot_len (pa_cons (pe_fld (pv 0) rfl) pa_nil)) pa_nil))))), ?_⟩
  refine ⟨_, rfl, p, C, dx, _, _, rfl, U.ob, T.cl, T.nL, uf_balls .., lb, _, rfl, .inl (SqL.of U.ba), one_le, fun l1 hl1 => ?_⟩
  have S1 : Same H (upd H l1 (.lst [V.int (((vn u.balls).length : Nat) : Int)])) := Same.upd hl1
  have U1 := U.same S1
  have hbl := ku.len
  have hlen : ([V.int (((vn u.balls).length : Nat) : Int)] : List V).length + (vn u.balls).length ≤ sizeLine := by
    rw [vn_length u.balls]
    exact Nat.le_trans (show 1 + u.balls.length ≤ 5 by omega) (by decide)
  refine ⟨_, rfl, p, C, dx, _, _, rfl, U1.ob, T.cl, T.nL, uf_balls .., l1, lb, _, _, rfl, rfl, upd_same, U1.ba, hlen, fun l2 hl2 => ?_⟩
  have S2 : Same H (upd (upd H l1 (.lst [V.int (((vn u.balls).length : Nat) : Int)])) l2 (.lst ([V.int (((vn u.balls).length : Nat) : Int)] ++ vn u.balls))) := S1.trans (Same.upd hl2)
  have U2 := U.same S2
  refine ⟨_, rfl, p, C, dx, _, _, rfl, U2.ob, T.cl, T.nM, uf_more .., _, rfl, p, C, dx, _, _, rfl, U2.ob, T.cl, T.nD, uf_drawn .., ld, _, rfl, .inl (SqL.of U2.dr), (by show 2 ≤ sizeLine; decide), fun l3 hl3 => ?_⟩
  have n23 : l2 ≠ l3 := ne_of_none upd_same hl3
  have hlen2 : ([V.int (((vn u.balls).length : Nat) : Int)] ++ vn u.balls).length + ([vI u.more, V.int (((vn u.drawn).length : Nat) : Int)] : List V).length ≤ sizeLine := by
    rw [List.length_append, vn_length u.balls]
    exact Nat.le_trans (show (1 + u.balls.length) + 2 ≤ 7 by omega) (by decide)
  refine ⟨l2, l3, _, _, rfl, rfl, (by rw [upd_ne n23]; exact upd_same), upd_same, hlen2, fun q hq => k _ q ?_⟩
  have e1 : [V.int (((vn u.balls).length : Nat) : Int)] ++ vn u.balls ++ [vI u.more, V.int (((vn u.drawn).length : Nat) : Int)] = (ansOf ⟨(u.balls.length : Int), Kp294.ints (u.balls ++ [u.more, u.drawn.length])⟩).map V.int := by
    rw [vn_length, vn_length]
    show V.int _ :: (vn u.balls ++ vn [u.more, u.drawn.length]) = V.int _ :: vn (u.balls ++ [u.more, u.drawn.length])
    rw [vn_append]
  rw [st_told, e1]
  exact Fin.read (S2.trans (Same.upd hl3)) S hq
/-! ### balls_at_first -/
def spFirst (C : Addr) : Sp := fun vs H Q _ => ∃ (p dx lb ld : Addr) (b : Bool) (u : Kp294.Urn), vs = [.ref p] ∧ UAt C H p dx lb ld b u ∧ Ok u ∧
  ∀ H' q, Same H H' → H q = none → H' q = some (.lst (vn (firstBalls u))) → Q (.ref q) H'
theorem scFirst : FnScope ["urn", "balls", "i"] ["urn"] (defScope sFirst) := ⟨rfl, rfl, rfl, by decide +kernel, rfl, by decide +kernel, by decide +kernel⟩
theorem ok_first {f C : Addr} {fd : FuncData} (F : Fun K "balls_at_first" "balls_at_first" sFirst f fd) (T : Txt K mg C) : FnOk P w K mg base CX0 1 f fd ["urn"] (spFirst C) := by
  refine F.ok scFirst (fun vs H Q E h => ?_) (fun cdv A outer s H vs Q E hr h => ?_)
  · obtain ⟨p, dx, lb, ld, b, u, rfl, _⟩ := h
    rfl
  obtain ⟨p, dx, lb, ld, b, u, rfl, U, ku, k⟩ := h
  have nd := scFirst.nd
  refine ⟨_, pss_cons (ps_set (i := 1) nd rfl (Or.inl rfl) (pe_callTy call_list_of (by rfl) T.list (by decide +kernel) (pa_cons (pe_fld (pv 0) rfl) pa_nil)))
    (pss_cons (ps_for PassesOwn.never rfl (pi_list (pe_fld (pv 0) rfl)) (pg_name (i := 2) nd rfl (Or.inl rfl)) (pss_one (ps_asg (pe_op op_sub (pe_ix ix_list (pv 1) (pv 2) (fun _ _ => rfl)) (pe_fld (pv 0) rfl)) (pg_sub (pv 1) (pv 2) set_list))))
    (pss_one (ps_ret (pv 1)))), ?_⟩
  refine ⟨_, rfl, p, C, dx, _, _, rfl, U.ob, T.cl, T.nL, uf_balls .., lb, _, rfl, .inl (SqL.of U.ba), fun l hl0 => ?_⟩
  have U1 := U.same (Same.upd (o := .lst (vn u.balls)) hl0)
  refine ⟨_, rfl, p, C, dx, _, _, rfl, U1.ob, T.cl, T.nD, uf_drawn .., ld, rfl, ⟨_, SqL.of U1.dr⟩, for_list (K := K) (a := ld) (xs := vn u.drawn) (fun j σ H' => H' = upd H l (.lst (vn (firstAt u j))) ∧ ∃ x : Option V, σ = [some (.ref p), some (.ref l), x])
      ⟨by rw [firstAt_zero], none, rfl⟩ (fun j σ H' _ ⟨e, _⟩ => by rw [e]; exact SqL.of (U.same (Same.upd hl0)).dr) ?_ ?_⟩
  · rintro j y σ H' hy ⟨rfl, x, rfl⟩
    obtain ⟨i, hdi, rfl⟩ := vn_get_inv hy
    obtain ⟨hi, hle, et⟩ := firstAt_turn ku hdi
    have hil : i < (firstAt u j).length := by rw [firstAt_length]; exact hi
    have hat : atI (vn (firstAt u j)) ((i : Nat) : Int) = some (vI ((firstAt u j).getD i 0)) := atI_nat (vn_getD hil)
    have U2 := U.same (Same.upd (o := .lst (vn (firstAt u j))) hl0)
    have hix : ixN (vn (firstAt u j)).length ((i : Nat) : Int) = some i := by
      unfold ixN
      rw [vn_length, if_pos (Int.natCast_nonneg _), if_pos (by omega), Int.toNat_natCast]
    refine ⟨_, rfl, _, rfl, l, _, _, _, rfl, rfl, SqL.of upd_same, hat, _, rfl, p, C, dx, _, _, rfl, U2.ob, T.cl, T.nM, uf_more .., _, _, rfl, rfl, _, rfl, _, rfl, l, _, _, i, rfl, rfl, upd_same, hix, ?_, some (vI i), rfl⟩
    rw [upd_upd, et, ← vn_set]
    refine congrArg (fun z : Int => upd H l (.lst ((vn (firstAt u j)).set i (V.int z)))) ?_
    omega
  · rintro σ H' ⟨rfl, x, rfl⟩
    refine ⟨_, rfl, k _ l (Same.upd hl0) hl0 ?_⟩
    rw [upd_same, vn_length, firstAt_end]
/-! ### ago -/
theorem scAgo : FnScope ["urn", "given"] ["urn", "given"] (defScope sAgo) := ⟨rfl, rfl, rfl, by decide +kernel, rfl, by decide +kernel, by decide +kernel⟩
theorem ok_ago {f c r g0 h0 i0 j0 C : Addr} {fd cd rd gd hd id0 jd : FuncData} (F : Fun K "ago" "ago" sAgo f fd) (Db : Def K mg "balls_at_first" sFirst ["urn"] c cd) (Dl : Def K mg "likely_row" sLRow ["balls", "more", "colours"] i0 id0) (Dw0 : Def K mg "weight_of_row" sWRow ["balls", "more", "colours"] h0 hd)
    (Dr : Def K mg "rising" sRise ["start", "step", "n"] j0 jd) (Df : Def K mg "fraction" sFrac ["above", "below"] r rd) (Dg : Def K mg "greatest_common" sGcd ["a", "b"] g0 gd) (T : Txt K mg C) : FnOk P w K mg base CX0 4 f fd ["urn", "given"] (spC K C 17 0) := by
  refine F.ok scAgo spC_len (fun cdv A outer s H vs Q E hr h => ?_)
  obtain ⟨p, g, dx, lb, ld, u, as, rfl, U, ku, hg, hl, hb, k⟩ := h
  obtain rfl := list_of_len.1 hl
  have S : SAt C H p dx lb ld (some u) := ⟨U, ku⟩
  have nd := scAgo.nd
  refine ⟨_, pss_cons (ps_if (pt_cmpR op_eq (pe_callB (cr_sum rfl) (by rfl) T.sum (by decide +kernel) (pa_cons (pe_fld (pv 0) rfl) pa_nil)) pe_int (nomark _)) (pss_one (ps_ret (pe_lst (pa_cons (pe_k T.c6) pa_nil)))) pss_nil)
    (pss_cons (ps_if (pt_cmpR op_gt (pe_callB call_len_seq (by rfl) T.len PySem.boot_len (pa_cons (pe_fld (pv 0) rfl) pa_nil)) (pe_k T.mLook) (nomark _)) (pss_one (ps_ret (pe_lst (pa_cons (pe_k T.c28) pa_nil)))) pss_nil)
    (pss_one (ps_ret (pe_call (ok_lrow Dl.fn Dw0 Dr Df Dg T) hr rfl Dl.at_ Dl.fn.kp Dl.bd .nil pass0 (pa_cons (pe_call (ok_first Db.fn T) (hr.mono (by omega)) rfl Db.at_ Db.fn.kp Db.bd .nil pass0 (pa_cons (pv 0) pa_nil)) (pa_cons (pe_fld (pv 0) rfl) (pa_cons (pe_fld (pv 0) rfl) pa_nil))))))), ?_⟩
  refine ⟨_, rfl, p, C, dx, _, _, rfl, U.ob, T.cl, T.nL, uf_balls .., lb, zs u.balls, rfl, SqL.of U.ba, rfl, _, rfl, ite2 (fun h => ?_) (fun h => ?_)⟩
  · have h0 : Kp294.all u = 0 := by
      have h' := of_decide_eq_true h
      rw [zs_sum] at h'
      injection h' with h'
      show Kp291.sum u.balls = 0
      omega
    refine ⟨one_le, fun q hq => k _ q ?_⟩
    rw [st_ago_6 h0]
    exact Fin.say S hq
  · have h0 : ¬ Kp294.all u = 0 := fun q => h (decide_eq_true (by rw [zs_sum, show Kp291.sum u.balls = 0 from q]; rfl))
    refine ⟨_, rfl, p, C, dx, _, _, rfl, U.ob, T.cl, T.nD, uf_drawn .., ld, _, rfl, .inl (SqL.of U.dr), _, _, rfl, rfl, _, rfl, ite2 (fun h => ?_) (fun h => ?_)⟩
    · have h1 : 20 < u.drawn.length := by have h' := of_decide_eq_true h; rw [vn_length] at h'; omega
      refine ⟨one_le, fun q hq => k _ q ?_⟩
      rw [st_ago_28 h0 h1]
      exact Fin.say S hq
    · have h1 : ¬ 20 < u.drawn.length := fun z => h (decide_eq_true (by rw [vn_length]; omega))
      refine ⟨_, rfl, p, dx, lb, ld, true, u, rfl, U, ku, fun H1 l S1 hl1 hl2 => ?_⟩
      have U1 := U.same S1
      have kf := first_ok ku
      refine ⟨_, rfl, p, C, dx, _, _, rfl, U1.ob, T.cl, T.nM, uf_more .., _, rfl, p, C, dx, _, _, rfl, U1.ob, T.cl, T.nD, uf_drawn .., l, ld, u.more, firstBalls u, u.drawn, rfl, SqL.of hl2, SqL.of U1.dr, kf.ball, ku.more, (fun i hi => by rw [firstBalls_length]; exact ku.dr i hi), by omega, first_pos ku h0, kf.all, fun H3 q S3 hq => k _ q ?_⟩
      rw [st_ago h0 h1]
      show Fin C H _ p lb ld (some u) (ansOf (Kp294.tellFrac (Kp294.row (Kp294.first u) u.drawn))) q
      rw [ago_row ku]
      exact Fin.frac (S1.trans S3) S hq
end
end Gb

end
section
set_option Elab.async false
set_option linter.all false
set_option maxRecDepth 100000
set_option maxHeartbeats 2000000
namespace Gb
open PySem PySem.Spec PyProof.Rows L2
open Mth
/-! the table of the calls -/
def spNum (K : PySem.W.Frag) (C : Addr) (j n : Nat) : Sp := match j with
  | 0 => spBegin K C
  | j + 1 => spC K C (j + 1) n
structure Tab (P : Program) (w : World) (K : PySem.W.Frag) (mg : Str → Option Value) (base : Heap) (C ct : Addr) (ts : List Addr) : Prop where
  at_ : mg "CALLS" = some (.ref ct)
  top : ∀ H : Hp, SqT K H ct (ts.map V.ref)
  row : ∀ j n : Nat, narg[j]? = some n → ∃ (t fj : Addr) (fd : FuncData), ts[j]? = some t ∧ (∀ H : Hp, SqT K H t [vI n, .ref fj]) ∧ FnOk P w K mg base CX0 8 fj fd ["urn", "given"] (spNum K C j n) ∧ PySem.W.keepIn K (.ref fj) = true ∧ Binds K fd ["urn", "given"] []
section
variable {P : Program} {w : World} {K : PySem.W.Frag} {mg : Str → Option Value} {base : Heap}
theorem Tab.at {C ct : Addr} {ts : List Addr} (B : Tab P w K mg base C ct ts) {j : Nat} {t : Addr} (h : ts[j]? = some t) : atI (ts.map V.ref) ((j : Nat) : Int) = some (V.ref t) := atI_nat (by rw [List.getElem?_map, h]; rfl)
/-! ### answer_one -/
def spOne (K : PySem.W.Frag) (C : Addr) : Sp := fun vs H Q _ => ∃ (p g dx lb ld : Addr) (st : Kp294.State) (j n : Nat) (as : List Nat), vs = [.ref p, vI j, .ref g] ∧ SAt C H p dx lb ld st ∧ SqL K H g (vn as) ∧ narg[j]? = some n ∧ as.length = n ∧ (∀ x ∈ as, x < 4294967296) ∧
  ∀ H' q, Fin C H H' p lb ld (Kp294.step st (callN j as)).1 (ansOf (Kp294.step st (callN j as)).2) q → Q (.ref q) H'
theorem scOne : FnScope ["urn", "number", "given"] ["urn", "number", "given"] (defScope sOne) := ⟨rfl, rfl, rfl, by decide +kernel, rfl, by decide +kernel, by decide +kernel⟩
theorem ok_one {f C ct : Addr} {ts : List Addr} {fd : FuncData} (F : Fun K "answer_one" "answer_one" sOne f fd) (B : Tab P w K mg base C ct ts) (T : Txt K mg C) : FnOk P w K mg base CX0 9 f fd ["urn", "number", "given"] (spOne K C) := by
  refine F.ok scOne (fun vs H Q E h => ?_) (fun cdv A outer s H vs Q E hr h => ?_)
  · obtain ⟨p, g, dx, lb, ld, st, j, n, as, rfl, _⟩ := h
    rfl
  obtain ⟨p, g, dx, lb, ld, st, j, n, as, rfl, S, hg, hj, hl, hb, k⟩ := h
  have nd := scOne.nd
  obtain ⟨t, fj, fd2, ht, hT, hF, hkp, hbd⟩ := B.row j n hj
  obtain ⟨b0, u0, U0⟩ := S.ob
  refine ⟨_, pss_cons (ps_if (PW.pt (pw_and (pt_cmpR op_ne (pv 1) (pe_k T.cBegin) (nomark _)) (pw_and1 (pt_not (pt_val (pe_fld (pv 0) rfl)))))) (pss_one (ps_ret (pe_lst (pa_cons (pe_k T.c11) pa_nil)))) pss_nil)
    (pss_one (ps_ret (pe_callE (pe_ix ix_tup (pe_ix ix_tup (pe_glob (v := .ref ct) rfl B.at_ rfl) (pv 1) (fun _ _ => rfl)) pe_int (fun _ _ => rfl)) (pa_cons (pv 0) (pa_cons (pv 2) pa_nil))))), ?_⟩
  have go : spNum K C j n [.ref p, .ref g] H Q E0 → tRet (tCallE (Callee (cxOf CX0 P w K mg base ["urn", "number", "given"] "answer_one" (defScope sOne) f cdv A outer s H E).nox) (tOp (rIxT K) (tOp (rIxT K) (tC (.ref ct)) (tVar 1)) (tC (.int 1))) (tCons (tVar 0) (tCons (tVar 2) tNil)))
      { nx := fun _ H' => Q .non H', rt := Q } [some (.ref p), some (vI j), some (.ref g)] H := fun q =>
    ⟨_, rfl, ct, _, _, _, rfl, rfl, B.top H, B.at ht, t, _, _, _, rfl, rfl, hT H, atI_nat (j := 1) rfl, fj, spNum K C j n, rfl, ⟨8, fd2, ["urn", "given"], hF, hr, hkp, hbd⟩, _, rfl, _, rfl, q⟩
  refine ⟨_, rfl, rfl, _, rfl, ite2 (fun h => ?_) (fun h => ?_)⟩
  · have h0 : j ≠ 0 := fun z => by
      subst z
      exact absurd h (by decide)
    refine ⟨_, rfl, p, C, dx, _, _, rfl, U0.ob, T.cl, T.nB, uf_begun .., b0, rfl, ?_⟩
    cases st with
    | none =>
      obtain ⟨u, U⟩ := S
      have e : b0 = false := by
        have := U0.ob.symm.trans U.ob
        injection this with this
        injection this with _ _ this
        injection this with this
        injection this with _ this
        injection this
      subst e
      refine iteT ⟨one_le, fun q hq => k _ q ?_⟩
      rw [st_none hj hl h0]
      exact Fin.say ⟨u, U⟩ hq
    | some u =>
      obtain ⟨U, ku⟩ := S
      have e : b0 = true := by
        have := U0.ob.symm.trans U.ob
        injection this with this
        injection this with _ _ this
        injection this with this
        injection this with _ this
        injection this
      subst e
      refine iteF (go ?_)
      cases j with
      | zero => exact absurd rfl h0
      | succ j => exact ⟨p, g, dx, lb, ld, u, as, rfl, U, ku, hg, hl, hb, k⟩
  · have h0 : j = 0 := Classical.byContradiction fun z => h (by
      have : decide (vI j = V.int 0) = false := decide_eq_false (fun q => by injection q with q; omega)
      show (!decide (vI j = V.int 0)) = true
      rw [this]; rfl)
    refine iteF (go ?_)
    subst h0
    cases hj
    obtain ⟨d, rfl⟩ := list_of_len.2.1 hl
    exact ⟨p, g, dx, lb, ld, st, d, rfl, S, hg, k⟩
end
end Gb

end
section
set_option Elab.async false
set_option linter.all false
set_option maxRecDepth 100000
set_option maxHeartbeats 2000000
namespace Gb
open PySem PySem.Spec PyProof.Rows L2
open Mth
theorem zs_toNat : ∀ l : List Nat, (zs l).map Int.toNat = l
  | [] => rfl
  | x :: l => by
    show Int.toNat (x : Int) :: (zs l).map Int.toNat = x :: l
    rw [zs_toNat l, Int.toNat_natCast]
theorem zs_drop (l : List Nat) (i : Nat) : (zs l).drop i = zs (l.drop i) := by
  unfold zs
  rw [List.map_drop]
theorem zs_take (l : List Nat) (i : Nat) : (zs l).take i = zs (l.take i) := by
  unfold zs
  rw [List.map_take]
theorem cut_mid (l : List Nat) (a n : Nat) (h : a + n ≤ l.length) : cutV (vn l) (some ((a : Nat) : Int)) (some ((a + n : Nat) : Int)) = vn ((l.drop a).take n) := by
  unfold cutV
  rw [HT.sIx_nat, HT.sIx_nat, vn_length, vn_drop, vn_take, Nat.min_eq_left (by omega : a ≤ l.length), Nat.min_eq_left h, Nat.add_sub_cancel_left]
theorem nat_of : ∀ ns : List Int, (∀ x ∈ ns, 0 ≤ x) → ∃ ms : List Nat, ns = zs ms
  | [], _ => ⟨[], rfl⟩
  | x :: r, h => by
    obtain ⟨ms, e⟩ := nat_of r fun y hy => h y (List.mem_cons_of_mem _ hy)
    refine ⟨x.toNat :: ms, ?_⟩
    show x :: r = ((x.toNat : Nat) : Int) :: zs ms
    rw [← e, Int.toNat_of_nonneg (h x List.mem_cons_self)]
/-- the loop's word: what was told so far, what is still to tell -/
structure Walk (K : PySem.W.Frag) (C : Addr) (H H' : Hp) (a p r : Addr) (ms : List Nat) (place : Nat) : Prop where
  same : Same H H'
  fp : H p = none
  fr : H r = none
  le : place ≤ ms.length
  it : ∃ (dx lb ld : Addr) (st : Kp294.State) (f : Nat) (cs : List (List (List Int))) (R : List Int), SAt C H' p dx lb ld st ∧ H lb = none ∧ H ld = none ∧ r ≠ p ∧ r ≠ lb ∧ r ≠ ld ∧ H' r = some (.lst (R.map V.int)) ∧
    PyFlat.calls PyKp294.shape f (zs (ms.drop place)) = some cs ∧ PyKp294.answers (zs ms) = R ++ tell st cs ∧ R.length ≤ 101 * place
theorem SAt.stok {C : Addr} {H : Hp} {p dx lb ld : Addr} {st : Kp294.State} (h : SAt C H p dx lb ld st) : StOk st := by
  cases st with
  | none => exact trivial
  | some u => exact h.2
theorem SAt.other {C : Addr} {H : Hp} {p dx lb ld r : Addr} {o : HO} {st : Kp294.State} (h : SAt C H p dx lb ld st) (h1 : r ≠ p) (h2 : r ≠ lb) (h3 : r ≠ ld) : SAt C (upd H r o) p dx lb ld st := by
  have g : ∀ b u, UAt C H p dx lb ld b u → UAt C (upd H r o) p dx lb ld b u := fun b u U => ⟨by rw [upd_ne h1.symm]; exact U.ob, by rw [upd_ne h2.symm]; exact U.ba, by rw [upd_ne h3.symm]; exact U.dr, U.ne⟩
  cases st with
  | none => obtain ⟨u, U⟩ := h; exact ⟨u, g _ _ U⟩
  | some u => exact ⟨g _ _ h.1, h.2⟩
section
variable {P : Program} {w : World} {K : PySem.W.Frag} {mg : Str → Option Value} {base : Heap}
/-! ### answers -/
def spAns (K : PySem.W.Frag) : Sp := fun vs H Q _ => ∃ (a : Addr) (ns : List Int), vs = [.ref a] ∧ SqL K H a (ns.map V.int) ∧ ns.length ≤ 700 ∧ (∀ x ∈ ns, 0 ≤ x ∧ x ≤ 4294967295) ∧ PyKp294.answers_asked ns = true ∧
  ∀ (H' : Hp) (p : Addr), H' p = some (.lst ((PyKp294.answers ns).map V.int)) → Q (.ref p) H'
theorem scAns : FnScope ["calls", "urn", "result", "place", "number", "behind", "answer"] ["calls"] (defScope sAns) := ⟨rfl, rfl, rfl, by decide +kernel, rfl, by decide +kernel, by decide +kernel⟩
theorem ok_ans {f o0 i0 C ct : Addr} {ts : List Addr} {fd od id0 : FuncData} (F : Fun K "answers" "answers" sAns f fd) (Do : Def K mg "answer_one" sOne ["urn", "number", "given"] o0 od) (Fi : Fun K "__init__" "Urn.__init__" sInit i0 id0) (bi : Binds K id0 ["self"] []) (M : Mk K C i0)
    (B : Tab P w K mg base C ct ts) (T : Txt K mg C) : FnOk P w K mg base CX0 10 f fd ["calls"] (spAns K) := by
  refine F.ok scAns (fun vs H Q E h => ?_) (fun cdv A outer s H vs Q E hr h => ?_)
  · obtain ⟨a, ns, rfl, _⟩ := h
    rfl
  obtain ⟨a, ns, rfl, hs, hlen, hitems, hask, k⟩ := h
  obtain ⟨ms, rfl⟩ := nat_of ns fun x hx => (hitems x hx).1
  have hlen' : ms.length ≤ 700 := by rw [zs_length] at hlen; exact hlen
  have hit : ∀ x ∈ ms, x < 4294967296 := fun x hx => by
    have := (hitems (x : Int) (List.mem_map.mpr ⟨x, hx, rfl⟩)).2
    omega
  obtain ⟨cs0, hcs0⟩ := asked_calls hask
  have nd := scAns.nd
  refine ⟨_, pss_cons (ps_set (i := 1) nd rfl (Or.inl rfl) (pe_make0 M (ok_init Fi T) (hr.mono (by omega)) rfl T.mgC bi .nil pass0)) (pss_cons (ps_set (i := 2) nd rfl (Or.inl rfl) (pe_lst pa_nil)) (pss_cons (ps_set (i := 3) nd rfl (Or.inl rfl) pe_int)
    (pss_cons (ps_while PassesOwn.never (pt_cmpR op_lt (pv 3) (pe_callB call_len_seq (by rfl) T.len PySem.boot_len (pa_cons (pv 0) pa_nil)) (nomark _))
      (pss_cons (ps_set (i := 4) nd rfl (Or.inl rfl) (pe_ix ix_list (pv 0) (pv 3) (fun _ _ => rfl)))
      (pss_cons (ps_set (i := 5) nd rfl (Or.inl rfl) (pe_op op_add (pe_op op_add (pv 3) pe_int) (pe_ix ix_tup (pe_ix ix_tup (pe_glob (v := .ref ct) rfl B.at_ rfl) (pv 4) (fun _ _ => rfl)) pe_int (fun _ _ => rfl))))
      (pss_cons (ps_set (i := 6) nd rfl (Or.inl rfl) (pe_call (ok_one Do.fn B T) hr rfl Do.at_ Do.fn.kp Do.bd .nil pass0 (pa_cons (pv 1) (pa_cons (pv 4) (pa_cons (pe_slice sl_list (pv 0) (po_some (pe_op op_add (pv 3) pe_int)) (po_some (pv 5))) pa_nil)))))
      (pss_cons (ps_expr (pe_bm PySem.F.plainAttrs_list PySem.F.slot_list_append PySem.F.type_list_append mt_append (pv 2) (pa_cons (pe_callB call_len_seq (by rfl) T.len PySem.boot_len (pa_cons (pv 6) pa_nil)) pa_nil)))
      (pss_cons (ps_expr (pe_bm PySem.F.plainAttrs_list PySem.F.slot_list_extend PySem.F.type_list_extend mt_extend (pv 2) (pa_cons (pv 6) pa_nil)))
      (pss_one (ps_set (i := 3) nd rfl (Or.inl rfl) (pv 5)))))))))
    (pss_one (ps_ret (pv 2)))))), ?_⟩
  intro p dx0 np ndx hne
  refine ⟨p, dx0, rfl, upd_same, fun H1 lb ld U1 flb fld kp1 => ⟨rfl, ?_⟩⟩
  have flb' : H lb = none ∧ lb ≠ p ∧ lb ≠ dx0 := by
    have n1 : p ≠ lb := ne_of_none upd_same flb
    have n2 : dx0 ≠ lb := ne_of_none (by rw [upd_ne hne]; exact upd_same) flb
    rw [upd_ne n1.symm, upd_ne n2.symm] at flb
    exact ⟨flb, n1.symm, n2.symm⟩
  have fld' : H ld = none ∧ ld ≠ p ∧ ld ≠ dx0 := by
    have n1 : p ≠ ld := ne_of_none upd_same fld
    have n2 : dx0 ≠ ld := ne_of_none (by rw [upd_ne hne]; exact upd_same) fld
    rw [upd_ne n1.symm, upd_ne n2.symm] at fld
    exact ⟨fld, n1.symm, n2.symm⟩
  have S1 : Same H H1 := Same.made np ndx kp1
  refine ⟨Nat.zero_le _, fun r hr0 => ?_⟩
  have S2 : Same H (upd H1 r (.lst [])) := S1.trans (Same.upd hr0)
  have W0 : Walk K C H (upd H1 r (.lst [])) a p r ms 0 := by
    refine ⟨S2, np, S1.free hr0, Nat.zero_le _, dx0, lb, ld, none, (zs ms).length, cs0, [], ⟨_, U1.same (Same.upd hr0)⟩, flb'.1, fld'.1, ?_, ?_, ?_, upd_same, ?_, ?_, Nat.le_refl _⟩
    · exact (ne_of_none U1.ob hr0).symm
    · exact (ne_of_none U1.ba hr0).symm
    · exact (ne_of_none U1.dr hr0).symm
    · rw [List.drop_zero]
      exact hcs0
    · rw [List.nil_append]
      exact answers_tell hcs0
  refine while_by (fun σ H' => ∃ (place : Nat) (x y z : Option V), σ = [some (.ref a), some (.ref p), some (.ref r), some (vI place), x, y, z] ∧ Walk K C H H' a p r ms place)
    (fun σ _ => match σ with | [_, _, _, some (.int pl), _, _, _] => ms.length - pl.toNat | _ => 0) ⟨0, none, none, none, rfl, W0⟩ ?_ ?_
  · rintro σ H' ⟨place, x, y, z, rfl, W⟩
    obtain ⟨hS, hp, hrn, hle, dx, lb, ld, st, f0, cs, R, hst, hlb, hld, n1, n2, n3, hR, hcs, htell, hRl⟩ := W
    have hsq : SqL K H' a (vn ms) := hS.seq hs
    refine ⟨_, rfl, _, rfl, a, _, rfl, .inl hsq, _, _, rfl, rfl, _, rfl, ite2 (fun h => ?_) (fun h => ?_)⟩
    · have hlt : place < ms.length := by have h' := of_decide_eq_true h; rw [vn_length] at h'; omega
      have ed : ms.drop place = ms.getD place 0 :: ms.drop (place + 1) := by
        rw [List.drop_eq_getElem_cons hlt, List.getD_eq_getElem?_getD, List.getElem?_eq_getElem hlt]
        rfl
      have hcs' := hcs
      rw [ed] at hcs'
      obtain ⟨j, n, g0, cs', ej, hj, hn, ecs, hcs2⟩ := calls_turn (x := ((ms.getD place 0 : Nat) : Int)) (r := zs (ms.drop (place + 1))) hcs'
      have ej' : ms.getD place 0 = j := by omega
      rw [zs_length, List.length_drop] at hn
      rw [zs_drop, List.drop_drop] at hcs2
      rw [zs_take] at ecs
      let as : List Nat := (ms.drop (place + 1)).take n
      have hasl : as.length = n := by
        show ((ms.drop (place + 1)).take n).length = n
        rw [List.length_take, List.length_drop]
        omega
      have hasb : ∀ x ∈ as, x < 4294967296 := fun x hx => hit x (List.mem_of_mem_drop (List.mem_of_mem_take hx))
      obtain ⟨t, fj, fd2, ht, hT, _, _, _⟩ := B.row j n hj
      have hat : atI (vn ms) ((place : Nat) : Int) = some (vI j) := by
        have := natAt hlt
        rw [ej'] at this
        exact this
      have hb1 : ((place : Nat) : Int) + 1 + ((n : Nat) : Int) = ((place + 1 + n : Nat) : Int) := by omega
      have ecut : cutV (vn ms) (some (((place : Nat) : Int) + 1)) (some (((place : Nat) : Int) + 1 + ((n : Nat) : Int))) = vn as := by
        rw [hb1]
        exact cut_mid ms (place + 1) n (by omega)
      refine ⟨_, rfl, _, rfl, a, _, _, _, rfl, rfl, hsq, hat, _, rfl, _, _, rfl, rfl, _, rfl, ct, _, _, _, rfl, rfl, B.top _, B.at ht, t, _, _, _, rfl, rfl, hT _, atI_nat (j := 0) rfl, _, _, rfl, rfl,
        _, rfl, _, rfl, _, rfl, _, rfl, _, _, rfl, rfl, _, rfl, _, rfl, _, rfl, a, _, rfl, hsq, fun g hg => ?_⟩
      have hstk := hst.stok
      have hSg : SAt C (upd H' g (.lst (cutV (vn ms) (some (((place : Nat) : Int) + 1)) (some (((place : Nat) : Int) + 1 + ((n : Nat) : Int)))))) p dx lb ld st := by
        obtain ⟨b0, u0, U0⟩ := hst.ob
        exact hst.other (ne_of_none U0.ob hg).symm (ne_of_none U0.ba hg).symm (ne_of_none U0.dr hg).symm
      have hgS : SqL K (upd H' g (.lst (cutV (vn ms) (some (((place : Nat) : Int) + 1)) (some (((place : Nat) : Int) + 1 + ((n : Nat) : Int)))))) g (vn as) := SqL.of (by rw [upd_same, ecut])
      refine ⟨p, g, dx, lb, ld, st, j, n, as, rfl, hSg, hgS, hj, hasl, hasb, fun G q hF => ?_⟩
      obtain ⟨⟨dx', lb', ld', hst', elb, eld⟩, hout, hq, hkp⟩ := hF
      have Sg : Same H' (upd H' g (.lst (cutV (vn ms) (some (((place : Nat) : Int) + 1)) (some (((place : Nat) : Int) + 1 + ((n : Nat) : Int)))))) := Same.upd hg
      have hGr : G r = some (.lst (R.map V.int)) := hkp r _ (Sg _ _ hR) n1 n2 n3
      have hqr : q ≠ r := (ne_of_none (Sg _ _ hR) hq).symm
      have hal : (ansOf (Kp294.step st (callN j as)).2).length ≤ 100 := ans_len hstk
      have hR7 : R.length ≤ 70700 := by
        have : 101 * place ≤ 101 * 700 := Nat.mul_le_mul_left _ (by omega)
        omega
      have hz1 : (R.map V.int).length < sizeLine := by rw [List.length_map]; exact Nat.lt_of_le_of_lt hR7 (by decide)
      refine ⟨_, rfl, .inl ⟨rfl, _, SqL.of hGr⟩, _, rfl, q, _, rfl, .inl (SqL.of hout), r, _, _, rfl, rfl, hGr, hz1, ?_⟩
      have hz2 : (R.map V.int ++ [V.int (((ansOf (Kp294.step st (callN j as)).2).map V.int).length : Nat)]).length + ((ansOf (Kp294.step st (callN j as)).2).map V.int).length ≤ sizeLine := by
        rw [List.length_append, List.length_map, List.length_map]
        show R.length + 1 + _ ≤ _
        exact Nat.le_trans (by omega : _ ≤ 70801) (by decide)
      refine ⟨_, rfl, .inl ⟨rfl, _, SqL.of upd_same⟩, _, rfl, r, q, _, _, rfl, rfl, upd_same, (by rw [upd_ne hqr]; exact hout), hz2, _, rfl, ⟨place + 1 + n, some (vI j), some (.int (((place : Nat) : Int) + 1 + ((n : Nat) : Int))), some (.ref q), ?_, ?_⟩, ?_⟩
      · exact congrArg (fun z : Int => [some (V.ref a), some (V.ref p), some (V.ref r), some (V.int z), some (vI j), some (V.int (((place : Nat) : Int) + 1 + ((n : Nat) : Int))), some (V.ref q)]) hb1
      · have hlb' : H lb' = none := elb.elim (fun e => by rw [e]; exact hlb) fun e => (hS.trans Sg).free e
        have hld' : H ld' = none := eld.elim (fun e => by rw [e]; exact hld) fun e => (hS.trans Sg).free e
        have m2 : r ≠ lb' := elb.elim (fun e => by rw [e]; exact n2) fun e => ne_of_none (Sg _ _ hR) e
        have m3 : r ≠ ld' := eld.elim (fun e => by rw [e]; exact n3) fun e => ne_of_none (Sg _ _ hR) e
        refine ⟨fun b o e => ?_, hp, hrn, by omega, dx', lb', ld', (Kp294.step st (callN j as)).1, g0, cs', R ++ (((ansOf (Kp294.step st (callN j as)).2).length : Int) :: ansOf (Kp294.step st (callN j as)).2), ?_, hlb', hld', n1, m2, m3, ?_, ?_, ?_, ?_⟩
        · have b1 : b ≠ r := ne_of_none e hrn
          rw [upd_upd, upd_ne b1]
          exact hkp b o ((hS.trans Sg) b o e) (ne_of_none e hp) (ne_of_none e hlb) (ne_of_none e hld)
        · rw [upd_upd]
          exact hst'.other n1 m2 m3
        · rw [upd_same]
          refine congrArg (fun l => some (HO.lst l)) ?_
          rw [List.map_append, List.map_cons, List.append_assoc, List.length_map]
          rfl
        · exact hcs2
        · rw [htell, ecs, ej', tell_cons st hj (by rw [zs_length]; exact hasl), zs_toNat, List.append_assoc]
        · rw [List.length_append, List.length_cons]
          omega
      · show ms.length - (((place : Nat) : Int) + 1 + ((n : Nat) : Int)).toNat < ms.length - ((place : Nat) : Int).toNat
        rw [hb1, Int.toNat_natCast, Int.toNat_natCast]
        omega
    · have hge : place = ms.length := by
        have h' : ¬ ((place : Nat) : Int) < (((vn ms).length : Nat) : Int) := fun z => h (decide_eq_true z)
        rw [vn_length] at h'
        omega
      refine ⟨_, rfl, k _ r ?_⟩
      rw [hge, List.drop_length] at hcs
      rw [calls_nil hcs, tell_nil, List.append_nil] at htell
      rw [htell]
      exact hR
  · rintro σ H1 Q1 Q2 hm ⟨v, e, v2, e2, p2, ys, h1, h2, i, j, h3, h4, c, h5, q⟩
    exact ⟨v, e, v2, e2, p2, ys, h1, h2, i, j, h3, h4, c, h5, hm _ _ q⟩
end
end Gb

end
section
set_option Elab.async false
set_option linter.all false
set_option maxRecDepth 100000
set_option maxHeartbeats 2000000
namespace Gb
open PySem PySem.Spec PyProof.Rows L2
open Mth
theorem def_mk {K : PySem.W.Frag} {h : Heap} {mg : Str → Option Value} {x : Str} {st : Stmt} {ps : List Str} {f : Addr} {oc : Value} {od an : Option Addr} {osl : Array (Option Value)} {kV doc pm cdv ct : Value} (X : K.In h) (G : h.Ns mainGlobals mg)
    (a : PySem.W.nsIn K mainGlobals x = some (some (.ref f))) (l : K.lookup f = some ⟨oc, od, .func (PySem.W.fnOf x x (defArgs st) (defBody st) (defScope st) .none kV doc pm an cdv ct), osl⟩) (c : PySem.W.codeIn K cdv x = true) (k : PySem.W.keepIn K (.ref f) = true)
    (hb : ∀ (kV doc pm : Value) (an : Option Addr) (cdv ct : Value) (us : List Value), us.length = ps.length → bindArgs (PySem.W.fnOf x x (defArgs st) (defBody st) (defScope st) .none kV doc pm an cdv ct) ⟨us, []⟩ = pure (ps.zip us)) :
    Def K mg x st ps f (PySem.W.fnOf x x (defArgs st) (defBody st) (defScope st) .none kV doc pm an cdv ct) := by
  have F := fun_mk (st := st) l c k
  exact ⟨F, PySem.W.mg_of X G a, F.binds hb⟩
theorem int_mk {K : PySem.W.Frag} {h : Heap} {mg : Str → Option Value} {x : Str} {i : Int} {t : Tok} (X : K.In h) (G : h.Ns mainGlobals mg) (a : PySem.W.nsIn K mainGlobals x = some (some (.int i t))) : ∃ t, mg x = some (.int i t) := ⟨t, PySem.W.mg_of X G a⟩
theorem tup_mk {K : PySem.W.Frag} {a : Addr} {od : Option Addr} {its : Array Value} {n : Nat} {sl : Array (Option Value)} {xs : List V} (l : K.lookup a = some ⟨.type "tuple", od, .seq its n, sl⟩) (hz : its.size ≤ 100) (v : Vals xs its.toList) : ∀ H : Hp, SqT K H a xs :=
  fun H => .inr ⟨_, its, n, l, rfl, rfl, Nat.le_trans hz (by decide), v⟩
/-- one row of the table -/
theorem row_mk {P : Program} {w : World} {K : PySem.W.Frag} {mg : Str → Option Value} {base : Heap} {C t f : Addr} {fd : FuncData} {x : Str} {st : Stmt} {j n : Nat} {od : Option Addr} {tk : Tok} {m k : Nat} {sl : Array (Option Value)} (D : Def K mg x st ["urn", "given"] f fd)
    (l : K.lookup t = some ⟨.type "tuple", od, .seq #[.int (n : Nat) tk, .ref f] m, sl⟩) (F : FnOk P w K mg base CX0 k f fd ["urn", "given"] (spNum K C j n)) (hk : k ≤ 8) :
    (∀ H : Hp, SqT K H t [vI n, .ref f]) ∧ FnOk P w K mg base CX0 8 f fd ["urn", "given"] (spNum K C j n) ∧ PySem.W.keepIn K (.ref f) = true ∧ Binds K fd ["urn", "given"] [] :=
  ⟨tup_mk l (by show 2 ≤ 100; decide) (.cons ⟨_, rfl⟩ (.cons rfl .nil)), F.mono hk, D.fn.kp, D.bd⟩
end Gb

end
section
set_option Elab.async false
set_option linter.all false
set_option maxRecDepth 100000
set_option maxHeartbeats 4000000
namespace Gb
open PySem PySem.Spec PyProof.Rows L2
open Mth
theorem all_mk {P : Program} {w : World} {K : PySem.W.Frag} {h : Heap} {mg : Str → Option Value} {fa C fI ct : Addr} {f_greatest_common f_fraction f_rising f_orders f_weight_of_row f_likely_row f_weight_of_counts f_weight_of_just f_weights_by_number f_weight_of_all f_balls_at_first f_refusal_of_colour f_refusal_of_draws f_begin f_colour f_draw f_back f_chance f_nth f_row f_counts f_just f_all_rows f_two f_mean f_then f_likeliest f_one f_set_more f_was f_ago f_told f_answer_one f_answers t0 t1 t2 t3 t4 t5 t6 t7 t8 t9 t10 t11 t12 t13 t14 t15 t16 t17 t18 : Addr}
    {kVI dcI pmI cdI ctI ocI oc_greatest_common kV_greatest_common dc_greatest_common pm_greatest_common cd_greatest_common ct_greatest_common oc_fraction kV_fraction dc_fraction pm_fraction cd_fraction ct_fraction oc_rising kV_rising dc_rising pm_rising cd_rising ct_rising oc_orders kV_orders dc_orders pm_orders cd_orders ct_orders oc_weight_of_row kV_weight_of_row dc_weight_of_row pm_weight_of_row cd_weight_of_row ct_weight_of_row oc_likely_row kV_likely_row dc_likely_row pm_likely_row cd_likely_row ct_likely_row oc_weight_of_counts kV_weight_of_counts dc_weight_of_counts pm_weight_of_counts cd_weight_of_counts ct_weight_of_counts oc_weight_of_just kV_weight_of_just dc_weight_of_just pm_weight_of_just cd_weight_of_just ct_weight_of_just oc_weights_by_number kV_weights_by_number dc_weights_by_number pm_weights_by_number cd_weights_by_number ct_weights_by_number oc_weight_of_all kV_weight_of_all dc_weight_of_all pm_weight_of_all cd_weight_of_all ct_weight_of_all oc_balls_at_first kV_balls_at_first dc_balls_at_first pm_balls_at_first cd_balls_at_first ct_balls_at_first oc_refusal_of_colour kV_refusal_of_colour dc_refusal_of_colour pm_refusal_of_colour cd_refusal_of_colour ct_refusal_of_colour oc_refusal_of_draws kV_refusal_of_draws dc_refusal_of_draws pm_refusal_of_draws cd_refusal_of_draws ct_refusal_of_draws oc_begin kV_begin dc_begin pm_begin cd_begin ct_begin oc_colour kV_colour dc_colour pm_colour cd_colour ct_colour oc_draw kV_draw dc_draw pm_draw cd_draw ct_draw oc_back kV_back dc_back pm_back cd_back ct_back oc_chance kV_chance dc_chance pm_chance cd_chance ct_chance oc_nth kV_nth dc_nth pm_nth cd_nth ct_nth oc_row kV_row dc_row pm_row cd_row ct_row oc_counts kV_counts dc_counts pm_counts cd_counts ct_counts oc_just kV_just dc_just pm_just cd_just ct_just oc_all_rows kV_all_rows dc_all_rows pm_all_rows cd_all_rows ct_all_rows oc_two kV_two dc_two pm_two cd_two ct_two oc_mean kV_mean dc_mean pm_mean cd_mean ct_mean oc_then kV_then dc_then pm_then cd_then ct_then oc_likeliest kV_likeliest dc_likeliest pm_likeliest cd_likeliest ct_likeliest oc_one kV_one dc_one pm_one cd_one ct_one oc_set_more kV_set_more dc_set_more pm_set_more cd_set_more ct_set_more oc_was kV_was dc_was pm_was cd_was ct_was oc_ago kV_ago dc_ago pm_ago cd_ago ct_ago oc_told kV_told dc_told pm_told cd_told ct_told oc_answer_one kV_answer_one dc_answer_one pm_answer_one cd_answer_one ct_answer_one oc_answers kV_answers dc_answers pm_answers cd_answers ct_answers : Value} {odI anI od_greatest_common an_greatest_common od_fraction an_fraction od_rising an_rising od_orders an_orders od_weight_of_row an_weight_of_row od_likely_row an_likely_row od_weight_of_counts an_weight_of_counts od_weight_of_just an_weight_of_just od_weights_by_number an_weights_by_number od_weight_of_all an_weight_of_all od_balls_at_first an_balls_at_first od_refusal_of_colour an_refusal_of_colour od_refusal_of_draws an_refusal_of_draws od_begin an_begin od_colour an_colour od_draw an_draw od_back an_back od_chance an_chance od_nth an_nth od_row an_row od_counts an_counts od_just an_just od_all_rows an_all_rows od_two an_two od_mean an_mean od_then an_then od_likeliest an_likeliest od_one an_one od_set_more an_set_more od_was an_was od_ago an_ago od_told an_told od_answer_one an_answer_one od_answers an_answers odT odt0 odt1 odt2 odt3 odt4 odt5 odt6 odt7 odt8 odt9 odt10 odt11 odt12 odt13 odt14 odt15 odt16 odt17 odt18 : Option Addr} {slI sl_greatest_common sl_fraction sl_rising sl_orders sl_weight_of_row sl_likely_row sl_weight_of_counts sl_weight_of_just sl_weights_by_number sl_weight_of_all sl_balls_at_first sl_refusal_of_colour sl_refusal_of_draws sl_begin sl_colour sl_draw sl_back sl_chance sl_nth sl_row sl_counts sl_just sl_all_rows sl_two sl_mean sl_then sl_likeliest sl_one sl_set_more sl_was sl_ago sl_told sl_answer_one sl_answers slT slt0 slt1 slt2 slt3 slt4 slt5 slt6 slt7 slt8 slt9 slt10 slt11 slt12 slt13 slt14 slt15 slt16 slt17 slt18 : Array (Option Value)} {nT m0 m1 m2 m3 m4 m5 m6 m7 m8 m9 m10 m11 m12 m13 m14 m15 m16 m17 m18 : Nat} {t_NO_SUCH_COLOUR t_NO_BALLS t_NOT_BEGUN t_NOTHING_DRAWN t_ALREADY_DRAWN t_OUT_OF_RANGE t_FULL t_NONE_OF_IT t_MOST_MORE t_MOST_BALLS t_MOST_COLOURS t_MOST_DRAWN t_MOST_AHEAD t_LONGEST_ROW t_MOST_COUNTED t_MOST_LOOKED_BACK t_BEGIN tk0 tk1 tk2 tk3 tk4 tk5 tk6 tk7 tk8 tk9 tk10 tk11 tk12 tk13 tk14 tk15 tk16 tk17 tk18 : Tok}
    (X : K.In h) (G : h.Ns mainGlobals mg) (hfa : mg "answers" = some (.ref fa))
    (a_NO_SUCH_COLOUR : PySem.W.nsIn K mainGlobals "NO_SUCH_COLOUR" = some (some (.int (-2) t_NO_SUCH_COLOUR)))
    (a_NO_BALLS : PySem.W.nsIn K mainGlobals "NO_BALLS" = some (some (.int (-6) t_NO_BALLS)))
    (a_NOT_BEGUN : PySem.W.nsIn K mainGlobals "NOT_BEGUN" = some (some (.int (-11) t_NOT_BEGUN)))
    (a_NOTHING_DRAWN : PySem.W.nsIn K mainGlobals "NOTHING_DRAWN" = some (some (.int (-12) t_NOTHING_DRAWN)))
    (a_ALREADY_DRAWN : PySem.W.nsIn K mainGlobals "ALREADY_DRAWN" = some (some (.int (-16) t_ALREADY_DRAWN)))
    (a_OUT_OF_RANGE : PySem.W.nsIn K mainGlobals "OUT_OF_RANGE" = some (some (.int (-22) t_OUT_OF_RANGE)))
    (a_FULL : PySem.W.nsIn K mainGlobals "FULL" = some (some (.int (-28) t_FULL)))
    (a_NONE_OF_IT : PySem.W.nsIn K mainGlobals "NONE_OF_IT" = some (some (.int (-33) t_NONE_OF_IT)))
    (a_MOST_MORE : PySem.W.nsIn K mainGlobals "MOST_MORE" = some (some (.int 5 t_MOST_MORE)))
    (a_MOST_BALLS : PySem.W.nsIn K mainGlobals "MOST_BALLS" = some (some (.int 10 t_MOST_BALLS)))
    (a_MOST_COLOURS : PySem.W.nsIn K mainGlobals "MOST_COLOURS" = some (some (.int 4 t_MOST_COLOURS)))
    (a_MOST_DRAWN : PySem.W.nsIn K mainGlobals "MOST_DRAWN" = some (some (.int 60 t_MOST_DRAWN)))
    (a_MOST_AHEAD : PySem.W.nsIn K mainGlobals "MOST_AHEAD" = some (some (.int 1000 t_MOST_AHEAD)))
    (a_LONGEST_ROW : PySem.W.nsIn K mainGlobals "LONGEST_ROW" = some (some (.int 6 t_LONGEST_ROW)))
    (a_MOST_COUNTED : PySem.W.nsIn K mainGlobals "MOST_COUNTED" = some (some (.int 8 t_MOST_COUNTED)))
    (a_MOST_LOOKED_BACK : PySem.W.nsIn K mainGlobals "MOST_LOOKED_BACK" = some (some (.int 20 t_MOST_LOOKED_BACK)))
    (a_BEGIN : PySem.W.nsIn K mainGlobals "BEGIN" = some (some (.int 0 t_BEGIN)))
    (n_len : PySem.W.nsIn K mainGlobals "len" = some none)
    (n_sum : PySem.W.nsIn K mainGlobals "sum" = some none)
    (n_range : PySem.W.nsIn K mainGlobals "range" = some none)
    (n_list : PySem.W.nsIn K mainGlobals "list" = some none)
    (n_zip : PySem.W.nsIn K mainGlobals "zip" = some none)
    (n_any : PySem.W.nsIn K mainGlobals "any" = some none)
    (n_max : PySem.W.nsIn K mainGlobals "max" = some none)
    (aC : PySem.W.nsIn K mainGlobals "Urn" = some (some (.ref C)))
    (aI : PySem.W.findIn K (.ref C) "__init__" = some (some (.ref fI)))
    (iI : PySem.W.isFn K (.ref fI) = true)
    (lI : K.lookup fI = some ⟨ocI, odI, .func (PySem.W.fnOf "__init__" "Urn.__init__" (defArgs sInit) (defBody sInit) (defScope sInit) .none kVI dcI pmI anI cdI ctI), slI⟩)
    (cI : PySem.W.codeIn K cdI "Urn.__init__" = true)
    (kI : PySem.W.keepIn K (.ref fI) = true)
    (pg : PySem.W.plainGet K C Str.empty = true)
    (hd : PySem.W.hasDictIn K C = true)
    (po : PySem.W.plainOver K C = true)
    (sa : PySem.W.findIn K (.ref C) "__setattr__" = some (some (.builtin "object.__setattr__")))
    (mk : PySem.W.makesIn K C = true)
    (kc : PySem.W.keepIn K (.ref C) = true)
    (nB : PySem.W.findIn K (.ref C) "begun" = some none)
    (nM : PySem.W.findIn K (.ref C) "more" = some none)
    (nL : PySem.W.findIn K (.ref C) "balls" = some none)
    (nD : PySem.W.findIn K (.ref C) "drawn" = some none)
    (a_greatest_common : PySem.W.nsIn K mainGlobals "greatest_common" = some (some (.ref f_greatest_common)))
    (l_greatest_common : K.lookup f_greatest_common = some ⟨oc_greatest_common, od_greatest_common, .func (PySem.W.fnOf "greatest_common" "greatest_common" (defArgs sGcd) (defBody sGcd) (defScope sGcd) .none kV_greatest_common dc_greatest_common pm_greatest_common an_greatest_common cd_greatest_common ct_greatest_common), sl_greatest_common⟩)
    (c_greatest_common : PySem.W.codeIn K cd_greatest_common "greatest_common" = true)
    (k_greatest_common : PySem.W.keepIn K (.ref f_greatest_common) = true)
    (a_fraction : PySem.W.nsIn K mainGlobals "fraction" = some (some (.ref f_fraction)))
    (l_fraction : K.lookup f_fraction = some ⟨oc_fraction, od_fraction, .func (PySem.W.fnOf "fraction" "fraction" (defArgs sFrac) (defBody sFrac) (defScope sFrac) .none kV_fraction dc_fraction pm_fraction an_fraction cd_fraction ct_fraction), sl_fraction⟩)
    (c_fraction : PySem.W.codeIn K cd_fraction "fraction" = true)
    (k_fraction : PySem.W.keepIn K (.ref f_fraction) = true)
    (a_rising : PySem.W.nsIn K mainGlobals "rising" = some (some (.ref f_rising)))
    (l_rising : K.lookup f_rising = some ⟨oc_rising, od_rising, .func (PySem.W.fnOf "rising" "rising" (defArgs sRise) (defBody sRise) (defScope sRise) .none kV_rising dc_rising pm_rising an_rising cd_rising ct_rising), sl_rising⟩)
    (c_rising : PySem.W.codeIn K cd_rising "rising" = true)
    (k_rising : PySem.W.keepIn K (.ref f_rising) = true)
    (a_orders : PySem.W.nsIn K mainGlobals "orders" = some (some (.ref f_orders)))
    (l_orders : K.lookup f_orders = some ⟨oc_orders, od_orders, .func (PySem.W.fnOf "orders" "orders" (defArgs sOrd) (defBody sOrd) (defScope sOrd) .none kV_orders dc_orders pm_orders an_orders cd_orders ct_orders), sl_orders⟩)
    (c_orders : PySem.W.codeIn K cd_orders "orders" = true)
    (k_orders : PySem.W.keepIn K (.ref f_orders) = true)
    (a_weight_of_row : PySem.W.nsIn K mainGlobals "weight_of_row" = some (some (.ref f_weight_of_row)))
    (l_weight_of_row : K.lookup f_weight_of_row = some ⟨oc_weight_of_row, od_weight_of_row, .func (PySem.W.fnOf "weight_of_row" "weight_of_row" (defArgs sWRow) (defBody sWRow) (defScope sWRow) .none kV_weight_of_row dc_weight_of_row pm_weight_of_row an_weight_of_row cd_weight_of_row ct_weight_of_row), sl_weight_of_row⟩)
    (c_weight_of_row : PySem.W.codeIn K cd_weight_of_row "weight_of_row" = true)
    (k_weight_of_row : PySem.W.keepIn K (.ref f_weight_of_row) = true)
    (a_likely_row : PySem.W.nsIn K mainGlobals "likely_row" = some (some (.ref f_likely_row)))
    (l_likely_row : K.lookup f_likely_row = some ⟨oc_likely_row, od_likely_row, .func (PySem.W.fnOf "likely_row" "likely_row" (defArgs sLRow) (defBody sLRow) (defScope sLRow) .none kV_likely_row dc_likely_row pm_likely_row an_likely_row cd_likely_row ct_likely_row), sl_likely_row⟩)
    (c_likely_row : PySem.W.codeIn K cd_likely_row "likely_row" = true)
    (k_likely_row : PySem.W.keepIn K (.ref f_likely_row) = true)
    (a_weight_of_counts : PySem.W.nsIn K mainGlobals "weight_of_counts" = some (some (.ref f_weight_of_counts)))
    (l_weight_of_counts : K.lookup f_weight_of_counts = some ⟨oc_weight_of_counts, od_weight_of_counts, .func (PySem.W.fnOf "weight_of_counts" "weight_of_counts" (defArgs sWCnt) (defBody sWCnt) (defScope sWCnt) .none kV_weight_of_counts dc_weight_of_counts pm_weight_of_counts an_weight_of_counts cd_weight_of_counts ct_weight_of_counts), sl_weight_of_counts⟩)
    (c_weight_of_counts : PySem.W.codeIn K cd_weight_of_counts "weight_of_counts" = true)
    (k_weight_of_counts : PySem.W.keepIn K (.ref f_weight_of_counts) = true)
    (a_weight_of_just : PySem.W.nsIn K mainGlobals "weight_of_just" = some (some (.ref f_weight_of_just)))
    (l_weight_of_just : K.lookup f_weight_of_just = some ⟨oc_weight_of_just, od_weight_of_just, .func (PySem.W.fnOf "weight_of_just" "weight_of_just" (defArgs sWJust) (defBody sWJust) (defScope sWJust) .none kV_weight_of_just dc_weight_of_just pm_weight_of_just an_weight_of_just cd_weight_of_just ct_weight_of_just), sl_weight_of_just⟩)
    (c_weight_of_just : PySem.W.codeIn K cd_weight_of_just "weight_of_just" = true)
    (k_weight_of_just : PySem.W.keepIn K (.ref f_weight_of_just) = true)
    (a_weights_by_number : PySem.W.nsIn K mainGlobals "weights_by_number" = some (some (.ref f_weights_by_number)))
    (l_weights_by_number : K.lookup f_weights_by_number = some ⟨oc_weights_by_number, od_weights_by_number, .func (PySem.W.fnOf "weights_by_number" "weights_by_number" (defArgs sWBy) (defBody sWBy) (defScope sWBy) .none kV_weights_by_number dc_weights_by_number pm_weights_by_number an_weights_by_number cd_weights_by_number ct_weights_by_number), sl_weights_by_number⟩)
    (c_weights_by_number : PySem.W.codeIn K cd_weights_by_number "weights_by_number" = true)
    (k_weights_by_number : PySem.W.keepIn K (.ref f_weights_by_number) = true)
    (a_weight_of_all : PySem.W.nsIn K mainGlobals "weight_of_all" = some (some (.ref f_weight_of_all)))
    (l_weight_of_all : K.lookup f_weight_of_all = some ⟨oc_weight_of_all, od_weight_of_all, .func (PySem.W.fnOf "weight_of_all" "weight_of_all" (defArgs sWAll) (defBody sWAll) (defScope sWAll) .none kV_weight_of_all dc_weight_of_all pm_weight_of_all an_weight_of_all cd_weight_of_all ct_weight_of_all), sl_weight_of_all⟩)
    (c_weight_of_all : PySem.W.codeIn K cd_weight_of_all "weight_of_all" = true)
    (k_weight_of_all : PySem.W.keepIn K (.ref f_weight_of_all) = true)
    (a_balls_at_first : PySem.W.nsIn K mainGlobals "balls_at_first" = some (some (.ref f_balls_at_first)))
    (l_balls_at_first : K.lookup f_balls_at_first = some ⟨oc_balls_at_first, od_balls_at_first, .func (PySem.W.fnOf "balls_at_first" "balls_at_first" (defArgs sFirst) (defBody sFirst) (defScope sFirst) .none kV_balls_at_first dc_balls_at_first pm_balls_at_first an_balls_at_first cd_balls_at_first ct_balls_at_first), sl_balls_at_first⟩)
    (c_balls_at_first : PySem.W.codeIn K cd_balls_at_first "balls_at_first" = true)
    (k_balls_at_first : PySem.W.keepIn K (.ref f_balls_at_first) = true)
    (a_refusal_of_colour : PySem.W.nsIn K mainGlobals "refusal_of_colour" = some (some (.ref f_refusal_of_colour)))
    (l_refusal_of_colour : K.lookup f_refusal_of_colour = some ⟨oc_refusal_of_colour, od_refusal_of_colour, .func (PySem.W.fnOf "refusal_of_colour" "refusal_of_colour" (defArgs sRefC) (defBody sRefC) (defScope sRefC) .none kV_refusal_of_colour dc_refusal_of_colour pm_refusal_of_colour an_refusal_of_colour cd_refusal_of_colour ct_refusal_of_colour), sl_refusal_of_colour⟩)
    (c_refusal_of_colour : PySem.W.codeIn K cd_refusal_of_colour "refusal_of_colour" = true)
    (k_refusal_of_colour : PySem.W.keepIn K (.ref f_refusal_of_colour) = true)
    (a_refusal_of_draws : PySem.W.nsIn K mainGlobals "refusal_of_draws" = some (some (.ref f_refusal_of_draws)))
    (l_refusal_of_draws : K.lookup f_refusal_of_draws = some ⟨oc_refusal_of_draws, od_refusal_of_draws, .func (PySem.W.fnOf "refusal_of_draws" "refusal_of_draws" (defArgs sRefN) (defBody sRefN) (defScope sRefN) .none kV_refusal_of_draws dc_refusal_of_draws pm_refusal_of_draws an_refusal_of_draws cd_refusal_of_draws ct_refusal_of_draws), sl_refusal_of_draws⟩)
    (c_refusal_of_draws : PySem.W.codeIn K cd_refusal_of_draws "refusal_of_draws" = true)
    (k_refusal_of_draws : PySem.W.keepIn K (.ref f_refusal_of_draws) = true)
    (a_begin : PySem.W.nsIn K mainGlobals "begin" = some (some (.ref f_begin)))
    (l_begin : K.lookup f_begin = some ⟨oc_begin, od_begin, .func (PySem.W.fnOf "begin" "begin" (defArgs sBegin) (defBody sBegin) (defScope sBegin) .none kV_begin dc_begin pm_begin an_begin cd_begin ct_begin), sl_begin⟩)
    (c_begin : PySem.W.codeIn K cd_begin "begin" = true)
    (k_begin : PySem.W.keepIn K (.ref f_begin) = true)
    (a_colour : PySem.W.nsIn K mainGlobals "colour" = some (some (.ref f_colour)))
    (l_colour : K.lookup f_colour = some ⟨oc_colour, od_colour, .func (PySem.W.fnOf "colour" "colour" (defArgs sColour) (defBody sColour) (defScope sColour) .none kV_colour dc_colour pm_colour an_colour cd_colour ct_colour), sl_colour⟩)
    (c_colour : PySem.W.codeIn K cd_colour "colour" = true)
    (k_colour : PySem.W.keepIn K (.ref f_colour) = true)
    (a_draw : PySem.W.nsIn K mainGlobals "draw" = some (some (.ref f_draw)))
    (l_draw : K.lookup f_draw = some ⟨oc_draw, od_draw, .func (PySem.W.fnOf "draw" "draw" (defArgs sDraw) (defBody sDraw) (defScope sDraw) .none kV_draw dc_draw pm_draw an_draw cd_draw ct_draw), sl_draw⟩)
    (c_draw : PySem.W.codeIn K cd_draw "draw" = true)
    (k_draw : PySem.W.keepIn K (.ref f_draw) = true)
    (a_back : PySem.W.nsIn K mainGlobals "back" = some (some (.ref f_back)))
    (l_back : K.lookup f_back = some ⟨oc_back, od_back, .func (PySem.W.fnOf "back" "back" (defArgs sBack) (defBody sBack) (defScope sBack) .none kV_back dc_back pm_back an_back cd_back ct_back), sl_back⟩)
    (c_back : PySem.W.codeIn K cd_back "back" = true)
    (k_back : PySem.W.keepIn K (.ref f_back) = true)
    (a_chance : PySem.W.nsIn K mainGlobals "chance" = some (some (.ref f_chance)))
    (l_chance : K.lookup f_chance = some ⟨oc_chance, od_chance, .func (PySem.W.fnOf "chance" "chance" (defArgs sChance) (defBody sChance) (defScope sChance) .none kV_chance dc_chance pm_chance an_chance cd_chance ct_chance), sl_chance⟩)
    (c_chance : PySem.W.codeIn K cd_chance "chance" = true)
    (k_chance : PySem.W.keepIn K (.ref f_chance) = true)
    (a_nth : PySem.W.nsIn K mainGlobals "nth" = some (some (.ref f_nth)))
    (l_nth : K.lookup f_nth = some ⟨oc_nth, od_nth, .func (PySem.W.fnOf "nth" "nth" (defArgs sNth) (defBody sNth) (defScope sNth) .none kV_nth dc_nth pm_nth an_nth cd_nth ct_nth), sl_nth⟩)
    (c_nth : PySem.W.codeIn K cd_nth "nth" = true)
    (k_nth : PySem.W.keepIn K (.ref f_nth) = true)
    (a_row : PySem.W.nsIn K mainGlobals "row" = some (some (.ref f_row)))
    (l_row : K.lookup f_row = some ⟨oc_row, od_row, .func (PySem.W.fnOf "row" "row" (defArgs sRow) (defBody sRow) (defScope sRow) .none kV_row dc_row pm_row an_row cd_row ct_row), sl_row⟩)
    (c_row : PySem.W.codeIn K cd_row "row" = true)
    (k_row : PySem.W.keepIn K (.ref f_row) = true)
    (a_counts : PySem.W.nsIn K mainGlobals "counts" = some (some (.ref f_counts)))
    (l_counts : K.lookup f_counts = some ⟨oc_counts, od_counts, .func (PySem.W.fnOf "counts" "counts" (defArgs sCounts) (defBody sCounts) (defScope sCounts) .none kV_counts dc_counts pm_counts an_counts cd_counts ct_counts), sl_counts⟩)
    (c_counts : PySem.W.codeIn K cd_counts "counts" = true)
    (k_counts : PySem.W.keepIn K (.ref f_counts) = true)
    (a_just : PySem.W.nsIn K mainGlobals "just" = some (some (.ref f_just)))
    (l_just : K.lookup f_just = some ⟨oc_just, od_just, .func (PySem.W.fnOf "just" "just" (defArgs sJust) (defBody sJust) (defScope sJust) .none kV_just dc_just pm_just an_just cd_just ct_just), sl_just⟩)
    (c_just : PySem.W.codeIn K cd_just "just" = true)
    (k_just : PySem.W.keepIn K (.ref f_just) = true)
    (a_all_rows : PySem.W.nsIn K mainGlobals "all_rows" = some (some (.ref f_all_rows)))
    (l_all_rows : K.lookup f_all_rows = some ⟨oc_all_rows, od_all_rows, .func (PySem.W.fnOf "all_rows" "all_rows" (defArgs sAllR) (defBody sAllR) (defScope sAllR) .none kV_all_rows dc_all_rows pm_all_rows an_all_rows cd_all_rows ct_all_rows), sl_all_rows⟩)
    (c_all_rows : PySem.W.codeIn K cd_all_rows "all_rows" = true)
    (k_all_rows : PySem.W.keepIn K (.ref f_all_rows) = true)
    (a_two : PySem.W.nsIn K mainGlobals "two" = some (some (.ref f_two)))
    (l_two : K.lookup f_two = some ⟨oc_two, od_two, .func (PySem.W.fnOf "two" "two" (defArgs sTwo) (defBody sTwo) (defScope sTwo) .none kV_two dc_two pm_two an_two cd_two ct_two), sl_two⟩)
    (c_two : PySem.W.codeIn K cd_two "two" = true)
    (k_two : PySem.W.keepIn K (.ref f_two) = true)
    (a_mean : PySem.W.nsIn K mainGlobals "mean" = some (some (.ref f_mean)))
    (l_mean : K.lookup f_mean = some ⟨oc_mean, od_mean, .func (PySem.W.fnOf "mean" "mean" (defArgs sMean) (defBody sMean) (defScope sMean) .none kV_mean dc_mean pm_mean an_mean cd_mean ct_mean), sl_mean⟩)
    (c_mean : PySem.W.codeIn K cd_mean "mean" = true)
    (k_mean : PySem.W.keepIn K (.ref f_mean) = true)
    (a_then : PySem.W.nsIn K mainGlobals "then" = some (some (.ref f_then)))
    (l_then : K.lookup f_then = some ⟨oc_then, od_then, .func (PySem.W.fnOf "then" "then" (defArgs sThen) (defBody sThen) (defScope sThen) .none kV_then dc_then pm_then an_then cd_then ct_then), sl_then⟩)
    (c_then : PySem.W.codeIn K cd_then "then" = true)
    (k_then : PySem.W.keepIn K (.ref f_then) = true)
    (a_likeliest : PySem.W.nsIn K mainGlobals "likeliest" = some (some (.ref f_likeliest)))
    (l_likeliest : K.lookup f_likeliest = some ⟨oc_likeliest, od_likeliest, .func (PySem.W.fnOf "likeliest" "likeliest" (defArgs sLike) (defBody sLike) (defScope sLike) .none kV_likeliest dc_likeliest pm_likeliest an_likeliest cd_likeliest ct_likeliest), sl_likeliest⟩)
    (c_likeliest : PySem.W.codeIn K cd_likeliest "likeliest" = true)
    (k_likeliest : PySem.W.keepIn K (.ref f_likeliest) = true)
    (a_one : PySem.W.nsIn K mainGlobals "one" = some (some (.ref f_one)))
    (l_one : K.lookup f_one = some ⟨oc_one, od_one, .func (PySem.W.fnOf "one" "one" (defArgs sOneC) (defBody sOneC) (defScope sOneC) .none kV_one dc_one pm_one an_one cd_one ct_one), sl_one⟩)
    (c_one : PySem.W.codeIn K cd_one "one" = true)
    (k_one : PySem.W.keepIn K (.ref f_one) = true)
    (a_set_more : PySem.W.nsIn K mainGlobals "set_more" = some (some (.ref f_set_more)))
    (l_set_more : K.lookup f_set_more = some ⟨oc_set_more, od_set_more, .func (PySem.W.fnOf "set_more" "set_more" (defArgs sMore) (defBody sMore) (defScope sMore) .none kV_set_more dc_set_more pm_set_more an_set_more cd_set_more ct_set_more), sl_set_more⟩)
    (c_set_more : PySem.W.codeIn K cd_set_more "set_more" = true)
    (k_set_more : PySem.W.keepIn K (.ref f_set_more) = true)
    (a_was : PySem.W.nsIn K mainGlobals "was" = some (some (.ref f_was)))
    (l_was : K.lookup f_was = some ⟨oc_was, od_was, .func (PySem.W.fnOf "was" "was" (defArgs sWas) (defBody sWas) (defScope sWas) .none kV_was dc_was pm_was an_was cd_was ct_was), sl_was⟩)
    (c_was : PySem.W.codeIn K cd_was "was" = true)
    (k_was : PySem.W.keepIn K (.ref f_was) = true)
    (a_ago : PySem.W.nsIn K mainGlobals "ago" = some (some (.ref f_ago)))
    (l_ago : K.lookup f_ago = some ⟨oc_ago, od_ago, .func (PySem.W.fnOf "ago" "ago" (defArgs sAgo) (defBody sAgo) (defScope sAgo) .none kV_ago dc_ago pm_ago an_ago cd_ago ct_ago), sl_ago⟩)
    (c_ago : PySem.W.codeIn K cd_ago "ago" = true)
    (k_ago : PySem.W.keepIn K (.ref f_ago) = true)
    (a_told : PySem.W.nsIn K mainGlobals "told" = some (some (.ref f_told)))
    (l_told : K.lookup f_told = some ⟨oc_told, od_told, .func (PySem.W.fnOf "told" "told" (defArgs sTold) (defBody sTold) (defScope sTold) .none kV_told dc_told pm_told an_told cd_told ct_told), sl_told⟩)
    (c_told : PySem.W.codeIn K cd_told "told" = true)
    (k_told : PySem.W.keepIn K (.ref f_told) = true)
    (a_answer_one : PySem.W.nsIn K mainGlobals "answer_one" = some (some (.ref f_answer_one)))
    (l_answer_one : K.lookup f_answer_one = some ⟨oc_answer_one, od_answer_one, .func (PySem.W.fnOf "answer_one" "answer_one" (defArgs sOne) (defBody sOne) (defScope sOne) .none kV_answer_one dc_answer_one pm_answer_one an_answer_one cd_answer_one ct_answer_one), sl_answer_one⟩)
    (c_answer_one : PySem.W.codeIn K cd_answer_one "answer_one" = true)
    (k_answer_one : PySem.W.keepIn K (.ref f_answer_one) = true)
    (a_answers : PySem.W.nsIn K mainGlobals "answers" = some (some (.ref f_answers)))
    (l_answers : K.lookup f_answers = some ⟨oc_answers, od_answers, .func (PySem.W.fnOf "answers" "answers" (defArgs sAns) (defBody sAns) (defScope sAns) .none kV_answers dc_answers pm_answers an_answers cd_answers ct_answers), sl_answers⟩)
    (c_answers : PySem.W.codeIn K cd_answers "answers" = true)
    (k_answers : PySem.W.keepIn K (.ref f_answers) = true)
    (aT : PySem.W.nsIn K mainGlobals "CALLS" = some (some (.ref ct)))
    (lT : K.lookup ct = some ⟨.type "tuple", odT, .seq #[.ref t0, .ref t1, .ref t2, .ref t3, .ref t4, .ref t5, .ref t6, .ref t7, .ref t8, .ref t9, .ref t10, .ref t11, .ref t12, .ref t13, .ref t14, .ref t15, .ref t16, .ref t17, .ref t18] nT, slT⟩)
    (lt0 : K.lookup t0 = some ⟨.type "tuple", odt0, .seq #[.int 1 tk0, .ref f_begin] m0, slt0⟩)
    (lt1 : K.lookup t1 = some ⟨.type "tuple", odt1, .seq #[.int 1 tk1, .ref f_colour] m1, slt1⟩)
    (lt2 : K.lookup t2 = some ⟨.type "tuple", odt2, .seq #[.int 1 tk2, .ref f_draw] m2, slt2⟩)
    (lt3 : K.lookup t3 = some ⟨.type "tuple", odt3, .seq #[.int 0 tk3, .ref f_back] m3, slt3⟩)
    (lt4 : K.lookup t4 = some ⟨.type "tuple", odt4, .seq #[.int 1 tk4, .ref f_chance] m4, slt4⟩)
    (lt5 : K.lookup t5 = some ⟨.type "tuple", odt5, .seq #[.int 2 tk5, .ref f_nth] m5, slt5⟩)
    (lt6 : K.lookup t6 = some ⟨.type "tuple", odt6, .seq #[.int 7 tk6, .ref f_row] m6, slt6⟩)
    (lt7 : K.lookup t7 = some ⟨.type "tuple", odt7, .seq #[.int 4 tk7, .ref f_counts] m7, slt7⟩)
    (lt8 : K.lookup t8 = some ⟨.type "tuple", odt8, .seq #[.int 3 tk8, .ref f_just] m8, slt8⟩)
    (lt9 : K.lookup t9 = some ⟨.type "tuple", odt9, .seq #[.int 2 tk9, .ref f_all_rows] m9, slt9⟩)
    (lt10 : K.lookup t10 = some ⟨.type "tuple", odt10, .seq #[.int 2 tk10, .ref f_two] m10, slt10⟩)
    (lt11 : K.lookup t11 = some ⟨.type "tuple", odt11, .seq #[.int 2 tk11, .ref f_mean] m11, slt11⟩)
    (lt12 : K.lookup t12 = some ⟨.type "tuple", odt12, .seq #[.int 2 tk12, .ref f_then] m12, slt12⟩)
    (lt13 : K.lookup t13 = some ⟨.type "tuple", odt13, .seq #[.int 2 tk13, .ref f_likeliest] m13, slt13⟩)
    (lt14 : K.lookup t14 = some ⟨.type "tuple", odt14, .seq #[.int 1 tk14, .ref f_one] m14, slt14⟩)
    (lt15 : K.lookup t15 = some ⟨.type "tuple", odt15, .seq #[.int 1 tk15, .ref f_set_more] m15, slt15⟩)
    (lt16 : K.lookup t16 = some ⟨.type "tuple", odt16, .seq #[.int 0 tk16, .ref f_was] m16, slt16⟩)
    (lt17 : K.lookup t17 = some ⟨.type "tuple", odt17, .seq #[.int 0 tk17, .ref f_ago] m17, slt17⟩)
    (lt18 : K.lookup t18 = some ⟨.type "tuple", odt18, .seq #[.int 0 tk18, .ref f_told] m18, slt18⟩)
    : ∃ fd : FuncData, (∀ (s : Shared) (us : List Value), us.length = (["calls"] : List Str).length → BindsTo s fd ⟨us, []⟩ ((["calls"] : List Str).zip us)) ∧ ∀ base : Heap, K.In base → base.Ns mainGlobals mg → FnOk P w K mg base CX0 10 fa fd ["calls"] (spAns K) := by
  have e := hfa.symm.trans (PySem.W.mg_of X G a_answers)
  cases e
  have T : Txt K mg C := {
    cl := ⟨pg, hd, po, sa⟩
    nB := nB
    nM := nM
    nL := nL
    nD := nD
    mgC := PySem.W.mg_of X G aC
    len := PySem.W.mg_none_of X G n_len
    sum := PySem.W.mg_none_of X G n_sum
    range := PySem.W.mg_none_of X G n_range
    list := PySem.W.mg_none_of X G n_list
    zip := PySem.W.mg_none_of X G n_zip
    any := PySem.W.mg_none_of X G n_any
    max := PySem.W.mg_none_of X G n_max
    c2 := int_mk X G a_NO_SUCH_COLOUR
    c6 := int_mk X G a_NO_BALLS
    c11 := int_mk X G a_NOT_BEGUN
    c12 := int_mk X G a_NOTHING_DRAWN
    c16 := int_mk X G a_ALREADY_DRAWN
    c22 := int_mk X G a_OUT_OF_RANGE
    c28 := int_mk X G a_FULL
    c33 := int_mk X G a_NONE_OF_IT
    mMore := int_mk X G a_MOST_MORE
    mBalls := int_mk X G a_MOST_BALLS
    mCol := int_mk X G a_MOST_COLOURS
    mDrawn := int_mk X G a_MOST_DRAWN
    mAhead := int_mk X G a_MOST_AHEAD
    mRow := int_mk X G a_LONGEST_ROW
    mCount := int_mk X G a_MOST_COUNTED
    mLook := int_mk X G a_MOST_LOOKED_BACK
    cBegin := int_mk X G a_BEGIN }
  have FI := fun_mk (st := sInit) lI cI kI
  have bI := FI.binds (ps := ["self"]) fun _ _ _ _ _ _ us hl => match us, hl with | [_], _ => rfl
  have D_greatest_common := def_mk (ps := ["a", "b"]) X G a_greatest_common l_greatest_common c_greatest_common k_greatest_common (fun _ _ _ _ _ _ us hl => match us, hl with | [_, _], _ => rfl)
  have D_fraction := def_mk (ps := ["above", "below"]) X G a_fraction l_fraction c_fraction k_fraction (fun _ _ _ _ _ _ us hl => match us, hl with | [_, _], _ => rfl)
  have D_rising := def_mk (ps := ["start", "step", "n"]) X G a_rising l_rising c_rising k_rising (fun _ _ _ _ _ _ us hl => match us, hl with | [_, _, _], _ => rfl)
  have D_orders := def_mk (ps := ["wanted"]) X G a_orders l_orders c_orders k_orders (fun _ _ _ _ _ _ us hl => match us, hl with | [_], _ => rfl)
  have D_weight_of_row := def_mk (ps := ["balls", "more", "colours"]) X G a_weight_of_row l_weight_of_row c_weight_of_row k_weight_of_row (fun _ _ _ _ _ _ us hl => match us, hl with | [_, _, _], _ => rfl)
  have D_likely_row := def_mk (ps := ["balls", "more", "colours"]) X G a_likely_row l_likely_row c_likely_row k_likely_row (fun _ _ _ _ _ _ us hl => match us, hl with | [_, _, _], _ => rfl)
  have D_weight_of_counts := def_mk (ps := ["balls", "more", "wanted"]) X G a_weight_of_counts l_weight_of_counts c_weight_of_counts k_weight_of_counts (fun _ _ _ _ _ _ us hl => match us, hl with | [_, _, _], _ => rfl)
  have D_weight_of_just := def_mk (ps := ["urn", "i", "n", "k"]) X G a_weight_of_just l_weight_of_just c_weight_of_just k_weight_of_just (fun _ _ _ _ _ _ us hl => match us, hl with | [_, _, _, _], _ => rfl)
  have D_weights_by_number := def_mk (ps := ["urn", "i", "n"]) X G a_weights_by_number l_weights_by_number c_weights_by_number k_weights_by_number (fun _ _ _ _ _ _ us hl => match us, hl with | [_, _, _], _ => rfl)
  have D_weight_of_all := def_mk (ps := ["urn", "n"]) X G a_weight_of_all l_weight_of_all c_weight_of_all k_weight_of_all (fun _ _ _ _ _ _ us hl => match us, hl with | [_, _], _ => rfl)
  have D_balls_at_first := def_mk (ps := ["urn"]) X G a_balls_at_first l_balls_at_first c_balls_at_first k_balls_at_first (fun _ _ _ _ _ _ us hl => match us, hl with | [_], _ => rfl)
  have D_refusal_of_colour := def_mk (ps := ["urn", "i"]) X G a_refusal_of_colour l_refusal_of_colour c_refusal_of_colour k_refusal_of_colour (fun _ _ _ _ _ _ us hl => match us, hl with | [_, _], _ => rfl)
  have D_refusal_of_draws := def_mk (ps := ["urn", "i", "n", "most"]) X G a_refusal_of_draws l_refusal_of_draws c_refusal_of_draws k_refusal_of_draws (fun _ _ _ _ _ _ us hl => match us, hl with | [_, _, _, _], _ => rfl)
  have D_begin := def_mk (ps := ["urn", "given"]) X G a_begin l_begin c_begin k_begin (fun _ _ _ _ _ _ us hl => match us, hl with | [_, _], _ => rfl)
  have D_colour := def_mk (ps := ["urn", "given"]) X G a_colour l_colour c_colour k_colour (fun _ _ _ _ _ _ us hl => match us, hl with | [_, _], _ => rfl)
  have D_draw := def_mk (ps := ["urn", "given"]) X G a_draw l_draw c_draw k_draw (fun _ _ _ _ _ _ us hl => match us, hl with | [_, _], _ => rfl)
  have D_back := def_mk (ps := ["urn", "given"]) X G a_back l_back c_back k_back (fun _ _ _ _ _ _ us hl => match us, hl with | [_, _], _ => rfl)
  have D_chance := def_mk (ps := ["urn", "given"]) X G a_chance l_chance c_chance k_chance (fun _ _ _ _ _ _ us hl => match us, hl with | [_, _], _ => rfl)
  have D_nth := def_mk (ps := ["urn", "given"]) X G a_nth l_nth c_nth k_nth (fun _ _ _ _ _ _ us hl => match us, hl with | [_, _], _ => rfl)
  have D_row := def_mk (ps := ["urn", "given"]) X G a_row l_row c_row k_row (fun _ _ _ _ _ _ us hl => match us, hl with | [_, _], _ => rfl)
  have D_counts := def_mk (ps := ["urn", "given"]) X G a_counts l_counts c_counts k_counts (fun _ _ _ _ _ _ us hl => match us, hl with | [_, _], _ => rfl)
  have D_just := def_mk (ps := ["urn", "given"]) X G a_just l_just c_just k_just (fun _ _ _ _ _ _ us hl => match us, hl with | [_, _], _ => rfl)
  have D_all_rows := def_mk (ps := ["urn", "given"]) X G a_all_rows l_all_rows c_all_rows k_all_rows (fun _ _ _ _ _ _ us hl => match us, hl with | [_, _], _ => rfl)
  have D_two := def_mk (ps := ["urn", "given"]) X G a_two l_two c_two k_two (fun _ _ _ _ _ _ us hl => match us, hl with | [_, _], _ => rfl)
  have D_mean := def_mk (ps := ["urn", "given"]) X G a_mean l_mean c_mean k_mean (fun _ _ _ _ _ _ us hl => match us, hl with | [_, _], _ => rfl)
  have D_then := def_mk (ps := ["urn", "given"]) X G a_then l_then c_then k_then (fun _ _ _ _ _ _ us hl => match us, hl with | [_, _], _ => rfl)
  have D_likeliest := def_mk (ps := ["urn", "given"]) X G a_likeliest l_likeliest c_likeliest k_likeliest (fun _ _ _ _ _ _ us hl => match us, hl with | [_, _], _ => rfl)
  have D_one := def_mk (ps := ["urn", "given"]) X G a_one l_one c_one k_one (fun _ _ _ _ _ _ us hl => match us, hl with | [_, _], _ => rfl)
  have D_set_more := def_mk (ps := ["urn", "given"]) X G a_set_more l_set_more c_set_more k_set_more (fun _ _ _ _ _ _ us hl => match us, hl with | [_, _], _ => rfl)
  have D_was := def_mk (ps := ["urn", "given"]) X G a_was l_was c_was k_was (fun _ _ _ _ _ _ us hl => match us, hl with | [_, _], _ => rfl)
  have D_ago := def_mk (ps := ["urn", "given"]) X G a_ago l_ago c_ago k_ago (fun _ _ _ _ _ _ us hl => match us, hl with | [_, _], _ => rfl)
  have D_told := def_mk (ps := ["urn", "given"]) X G a_told l_told c_told k_told (fun _ _ _ _ _ _ us hl => match us, hl with | [_, _], _ => rfl)
  have D_answer_one := def_mk (ps := ["urn", "number", "given"]) X G a_answer_one l_answer_one c_answer_one k_answer_one (fun _ _ _ _ _ _ us hl => match us, hl with | [_, _, _], _ => rfl)
  have D_answers := def_mk (ps := ["calls"]) X G a_answers l_answers c_answers k_answers (fun _ _ _ _ _ _ us hl => match us, hl with | [_], _ => rfl)
  refine ⟨PySem.W.fnOf "answers" "answers" (defArgs sAns) (defBody sAns) (defScope sAns) .none kV_answers dc_answers pm_answers an_answers cd_answers ct_answers, fun s us hu => match us, hu with | [_], _ => .of_eq rfl, fun base _ _ => ?_⟩
  have B : Tab P w K mg base C ct [t0, t1, t2, t3, t4, t5, t6, t7, t8, t9, t10, t11, t12, t13, t14, t15, t16, t17, t18] := by
    refine ⟨PySem.W.mg_of X G aT, tup_mk lT (by show 19 ≤ 100; decide) ((.cons rfl (.cons rfl (.cons rfl (.cons rfl (.cons rfl (.cons rfl (.cons rfl (.cons rfl (.cons rfl (.cons rfl (.cons rfl (.cons rfl (.cons rfl (.cons rfl (.cons rfl (.cons rfl (.cons rfl (.cons rfl (.cons rfl .nil)))))))))))))))))))), fun j n hj => ?_⟩
    match j, hj with
    | 0, hj => cases hj; exact ⟨t0, f_begin, _, rfl, row_mk D_begin lt0 (ok_begin D_begin.fn T) (by decide)⟩
    | 1, hj => cases hj; exact ⟨t1, f_colour, _, rfl, row_mk D_colour lt1 (ok_colour D_colour.fn T) (by decide)⟩
    | 2, hj => cases hj; exact ⟨t2, f_draw, _, rfl, row_mk D_draw lt2 (ok_draw D_draw.fn T) (by decide)⟩
    | 3, hj => cases hj; exact ⟨t3, f_back, _, rfl, row_mk D_back lt3 (ok_back D_back.fn T) (by decide)⟩
    | 4, hj => cases hj; exact ⟨t4, f_chance, _, rfl, row_mk D_chance lt4 ((ok_chance D_chance.fn D_refusal_of_colour D_fraction D_greatest_common T).imp chance_C) (by decide)⟩
    | 5, hj => cases hj; exact ⟨t5, f_nth, _, rfl, row_mk D_nth lt5 (ok_nth D_nth.fn D_chance D_refusal_of_draws D_refusal_of_colour D_fraction D_greatest_common T) (by decide)⟩
    | 6, hj => cases hj; exact ⟨t6, f_row, _, rfl, row_mk D_row lt6 (ok_row D_row.fn D_likely_row D_weight_of_row D_rising D_fraction D_greatest_common T) (by decide)⟩
    | 7, hj => cases hj; exact ⟨t7, f_counts, _, rfl, row_mk D_counts lt7 (ok_counts D_counts.fn D_weight_of_counts D_orders D_weight_of_all D_rising D_fraction D_greatest_common T) (by decide)⟩
    | 8, hj => cases hj; exact ⟨t8, f_just, _, rfl, row_mk D_just lt8 (ok_just D_just.fn D_refusal_of_draws D_refusal_of_colour D_weight_of_just D_weight_of_counts D_orders D_weight_of_all D_rising D_fraction D_greatest_common T) (by decide)⟩
    | 9, hj => cases hj; exact ⟨t9, f_all_rows, _, rfl, row_mk D_all_rows lt9 (ok_allr D_all_rows.fn D_refusal_of_draws D_refusal_of_colour D_weights_by_number D_weight_of_just D_weight_of_counts D_orders D_rising T) (by decide)⟩
    | 10, hj => cases hj; exact ⟨t10, f_two, _, rfl, row_mk D_two lt10 (ok_two D_two.fn D_refusal_of_colour D_likely_row D_weight_of_row D_rising D_fraction D_greatest_common T) (by decide)⟩
    | 11, hj => cases hj; exact ⟨t11, f_mean, _, rfl, row_mk D_mean lt11 (ok_mean D_mean.fn D_refusal_of_draws D_refusal_of_colour D_fraction D_greatest_common T) (by decide)⟩
    | 12, hj => cases hj; exact ⟨t12, f_then, _, rfl, row_mk D_then lt12 (ok_then D_then.fn D_refusal_of_draws D_refusal_of_colour D_fraction D_greatest_common T) (by decide)⟩
    | 13, hj => cases hj; exact ⟨t13, f_likeliest, _, rfl, row_mk D_likeliest lt13 (ok_like D_likeliest.fn D_refusal_of_draws D_refusal_of_colour D_weights_by_number D_weight_of_just D_weight_of_counts D_orders D_rising T) (by decide)⟩
    | 14, hj => cases hj; exact ⟨t14, f_one, _, rfl, row_mk D_one lt14 (ok_oneC D_one.fn D_weight_of_all D_rising D_fraction D_greatest_common T) (by decide)⟩
    | 15, hj => cases hj; exact ⟨t15, f_set_more, _, rfl, row_mk D_set_more lt15 (ok_more D_set_more.fn T) (by decide)⟩
    | 16, hj => cases hj; exact ⟨t16, f_was, _, rfl, row_mk D_was lt16 (ok_was D_was.fn T) (by decide)⟩
    | 17, hj => cases hj; exact ⟨t17, f_ago, _, rfl, row_mk D_ago lt17 (ok_ago D_ago.fn D_balls_at_first D_likely_row D_weight_of_row D_rising D_fraction D_greatest_common T) (by decide)⟩
    | 18, hj => cases hj; exact ⟨t18, f_told, _, rfl, row_mk D_told lt18 (ok_told D_told.fn T) (by decide)⟩
    | j + 19, hj => simp [narg] at hj
  exact ok_ans D_answers.fn D_answer_one FI bI ⟨mk, aI, iI, kc⟩ B T
end Gb

end
section
set_option Elab.async false
set_option linter.all false
set_option maxRecDepth 100000
open PySem PySem.W PyProof.Rows
set_option maxRecDepth 100000 in
set_option maxHeartbeats 0 in
theorem PySem.Challenge.cw_givenback_s01_answers_holds : PySem.Challenge.rw_givenback_s01_answers.Holds := by
  w_on; k_headS; (case hw => exact ⟨[.list [.int 3]], by decide +kernel, by decide +kernel⟩)
  k_fillS
  refine L2.walk_specK (r := PySem.Challenge.rw_givenback_s01_answers) (k := 10) (CX := L2.CX0) (ps := ["calls"]) (sp := Gb.spAns) (by decide +kernel) rfl rfl ⟨rfl, by decide, by decide⟩ (fun w h Y => PySem.W.kIn_of Y) ?F ?S (fun _ _ _ _ z => z)
  case F =>
    intro w mg fa h Y KX G hmg
    refine' Gb.all_mk KX G hmg ?a_NO_SUCH_COLOUR ?a_NO_BALLS ?a_NOT_BEGUN ?a_NOTHING_DRAWN ?a_ALREADY_DRAWN ?a_OUT_OF_RANGE ?a_FULL ?a_NONE_OF_IT ?a_MOST_MORE ?a_MOST_BALLS ?a_MOST_COLOURS ?a_MOST_DRAWN ?a_MOST_AHEAD ?a_LONGEST_ROW ?a_MOST_COUNTED ?a_MOST_LOOKED_BACK ?a_BEGIN ?n_len ?n_sum ?n_range ?n_list ?n_zip ?n_any ?n_max ?aC ?aI ?iI ?lI ?cI ?kI ?pg ?hd ?po ?sa ?mk ?kc ?nB ?nM ?nL ?nD ?a_greatest_common ?l_greatest_common ?c_greatest_common ?k_greatest_common ?a_fraction ?l_fraction ?c_fraction ?k_fraction ?a_rising ?l_rising ?c_rising ?k_rising ?a_orders ?l_orders ?c_orders ?k_orders ?a_weight_of_row ?l_weight_of_row ?c_weight_of_row ?k_weight_of_row ?a_likely_row ?l_likely_row ?c_likely_row ?k_likely_row ?a_weight_of_counts ?l_weight_of_counts ?c_weight_of_counts ?k_weight_of_counts ?a_weight_of_just ?l_weight_of_just ?c_weight_of_just ?k_weight_of_just ?a_weights_by_number ?l_weights_by_number ?c_weights_by_number ?k_weights_by_number ?a_weight_of_all ?l_weight_of_all ?c_weight_of_all ?k_weight_of_all ?a_balls_at_first ?l_balls_at_first ?c_balls_at_first ?k_balls_at_first ?a_refusal_of_colour ?l_refusal_of_colour ?c_refusal_of_colour ?k_refusal_of_colour ?a_refusal_of_draws ?l_refusal_of_draws ?c_refusal_of_draws ?k_refusal_of_draws ?a_begin ?l_begin ?c_begin ?k_begin ?a_colour ?l_colour ?c_colour ?k_colour ?a_draw ?l_draw ?c_draw ?k_draw ?a_back ?l_back ?c_back ?k_back ?a_chance ?l_chance ?c_chance ?k_chance ?a_nth ?l_nth ?c_nth ?k_nth ?a_row ?l_row ?c_row ?k_row ?a_counts ?l_counts ?c_counts ?k_counts ?a_just ?l_just ?c_just ?k_just ?a_all_rows ?l_all_rows ?c_all_rows ?k_all_rows ?a_two ?l_two ?c_two ?k_two ?a_mean ?l_mean ?c_mean ?k_mean ?a_then ?l_then ?c_then ?k_then ?a_likeliest ?l_likeliest ?c_likeliest ?k_likeliest ?a_one ?l_one ?c_one ?k_one ?a_set_more ?l_set_more ?c_set_more ?k_set_more ?a_was ?l_was ?c_was ?k_was ?a_ago ?l_ago ?c_ago ?k_ago ?a_told ?l_told ?c_told ?k_told ?a_answer_one ?l_answer_one ?c_answer_one ?k_answer_one ?a_answers ?l_answers ?c_answers ?k_answers ?aT ?lT ?lt0 ?lt1 ?lt2 ?lt3 ?lt4 ?lt5 ?lt6 ?lt7 ?lt8 ?lt9 ?lt10 ?lt11 ?lt12 ?lt13 ?lt14 ?lt15 ?lt16 ?lt17 ?lt18
    (case a_NO_SUCH_COLOUR => k_is); (case a_NO_BALLS => k_is); (case a_NOT_BEGUN => k_is); (case a_NOTHING_DRAWN => k_is); (case a_ALREADY_DRAWN => k_is); (case a_OUT_OF_RANGE => k_is)
    (case a_FULL => k_is); (case a_NONE_OF_IT => k_is); (case a_MOST_MORE => k_is); (case a_MOST_BALLS => k_is); (case a_MOST_COLOURS => k_is); (case a_MOST_DRAWN => k_is)
    (case a_MOST_AHEAD => k_is); (case a_LONGEST_ROW => k_is); (case a_MOST_COUNTED => k_is); (case a_MOST_LOOKED_BACK => k_is); (case a_BEGIN => k_is); (case n_len => k_is)
    (case n_sum => k_is); (case n_range => k_is); (case n_list => k_is); (case n_zip => k_is); (case n_any => k_is); (case n_max => k_is)
    (case aC => k_is); (case aI => k_is); (case iI => k_is); (case lI => k_is); (case cI => k_is); (case kI => k_is)
    (case pg => k_is); (case hd => k_is); (case po => k_is); (case sa => k_is); (case mk => k_is); (case kc => k_is)
    (case nB => k_is); (case nM => k_is); (case nL => k_is); (case nD => k_is); (case a_greatest_common => k_is); (case l_greatest_common => k_is)
    (case c_greatest_common => k_is); (case k_greatest_common => k_is); (case a_fraction => k_is); (case l_fraction => k_is); (case c_fraction => k_is); (case k_fraction => k_is)
    (case a_rising => k_is); (case l_rising => k_is); (case c_rising => k_is); (case k_rising => k_is); (case a_orders => k_is); (case l_orders => k_is)
    (case c_orders => k_is); (case k_orders => k_is); (case a_weight_of_row => k_is); (case l_weight_of_row => k_is); (case c_weight_of_row => k_is); (case k_weight_of_row => k_is)
    (case a_likely_row => k_is); (case l_likely_row => k_is); (case c_likely_row => k_is); (case k_likely_row => k_is); (case a_weight_of_counts => k_is); (case l_weight_of_counts => k_is)
    (case c_weight_of_counts => k_is); (case k_weight_of_counts => k_is); (case a_weight_of_just => k_is); (case l_weight_of_just => k_is); (case c_weight_of_just => k_is); (case k_weight_of_just => k_is)
    (case a_weights_by_number => k_is); (case l_weights_by_number => k_is); (case c_weights_by_number => k_is); (case k_weights_by_number => k_is); (case a_weight_of_all => k_is); (case l_weight_of_all => k_is)
    (case c_weight_of_all => k_is); (case k_weight_of_all => k_is); (case a_balls_at_first => k_is); (case l_balls_at_first => k_is); (case c_balls_at_first => k_is); (case k_balls_at_first => k_is)
    (case a_refusal_of_colour => k_is); (case l_refusal_of_colour => k_is); (case c_refusal_of_colour => k_is); (case k_refusal_of_colour => k_is); (case a_refusal_of_draws => k_is); (case l_refusal_of_draws => k_is)
    (case c_refusal_of_draws => k_is); (case k_refusal_of_draws => k_is); (case a_begin => k_is); (case l_begin => k_is); (case c_begin => k_is); (case k_begin => k_is)
    (case a_colour => k_is); (case l_colour => k_is); (case c_colour => k_is); (case k_colour => k_is); (case a_draw => k_is); (case l_draw => k_is)
    (case c_draw => k_is); (case k_draw => k_is); (case a_back => k_is); (case l_back => k_is); (case c_back => k_is); (case k_back => k_is)
    (case a_chance => k_is); (case l_chance => k_is); (case c_chance => k_is); (case k_chance => k_is); (case a_nth => k_is); (case l_nth => k_is)
    (case c_nth => k_is); (case k_nth => k_is); (case a_row => k_is); (case l_row => k_is); (case c_row => k_is); (case k_row => k_is)
    (case a_counts => k_is); (case l_counts => k_is); (case c_counts => k_is); (case k_counts => k_is); (case a_just => k_is); (case l_just => k_is)
    (case c_just => k_is); (case k_just => k_is); (case a_all_rows => k_is); (case l_all_rows => k_is); (case c_all_rows => k_is); (case k_all_rows => k_is)
    (case a_two => k_is); (case l_two => k_is); (case c_two => k_is); (case k_two => k_is); (case a_mean => k_is); (case l_mean => k_is)
    (case c_mean => k_is); (case k_mean => k_is); (case a_then => k_is); (case l_then => k_is); (case c_then => k_is); (case k_then => k_is)
    (case a_likeliest => k_is); (case l_likeliest => k_is); (case c_likeliest => k_is); (case k_likeliest => k_is); (case a_one => k_is); (case l_one => k_is)
    (case c_one => k_is); (case k_one => k_is); (case a_set_more => k_is); (case l_set_more => k_is); (case c_set_more => k_is); (case k_set_more => k_is)
    (case a_was => k_is); (case l_was => k_is); (case c_was => k_is); (case k_was => k_is); (case a_ago => k_is); (case l_ago => k_is)
    (case c_ago => k_is); (case k_ago => k_is); (case a_told => k_is); (case l_told => k_is); (case c_told => k_is); (case k_told => k_is)
    (case a_answer_one => k_is); (case l_answer_one => k_is); (case c_answer_one => k_is); (case k_answer_one => k_is); (case a_answers => k_is); (case l_answers => k_is)
    (case c_answers => k_is); (case k_answers => k_is); (case aT => k_is); (case lT => k_is); (case lt0 => k_is); (case lt1 => k_is)
    (case lt2 => k_is); (case lt3 => k_is); (case lt4 => k_is); (case lt5 => k_is); (case lt6 => k_is); (case lt7 => k_is)
    (case lt8 => k_is); (case lt9 => k_is); (case lt10 => k_is); (case lt11 => k_is); (case lt12 => k_is); (case lt13 => k_is)
    (case lt14 => k_is); (case lt15 => k_is); (case lt16 => k_is); (case lt17 => k_is); (case lt18 => k_is)
  case S =>
    intro K H xs a hO hwi hask hx
    cases hx with
    | cons h1 h2 =>
      cases h2
      cases h1 with
      | lst hs ha =>
        have e := L2.ints_dw a.1 _ ha
        subst e
        have q : ((Codec.inLen 0 700 a.1 && a.1.all (Codec.inInt 0 4294967295)) && true) = true := hwi
        rw [Bool.and_eq_true, Bool.and_eq_true] at q
        exact ⟨_, a.1, rfl, hs, (Codec.inNat_iff.mp q.1.1).2, fun x hx => Codec.inInt_iff.mp (List.all_eq_true.mp q.1.2 x hx), hask, fun H' p hp => .lst (L2.SqL.of hp) (L2.dw_ints _)⟩
#print axioms PySem.Challenge.cw_givenback_s01_answers_holds

end
