import PyProof.Rows.All
import Wide.All
import OpenK.AllK
import Wide.FinOn
import Lean
import PyProof.EqAt
import PyProof.EqKinds
import PyProof.TupleCall
import PySem.Challenge.RW_plainpath_k11_judged
-- CHANGE: your row's module here, as the last of these rows
set_option Elab.async false
set_option linter.all false
set_option maxRecDepth 100000
/-! THE HAND LAYER, for ints, bools, texts, own classes, LISTS and tuples (index, slices, in, append, pop ..), calls, loops. Paste it whole ahead of your own text; what your proof does not reach may be deleted. -/
namespace L2
open PySem PySem.Spec PyProof.Rows

/-- a key: an int or a str -/
abbrev Key := Sum Int Str
def keyIs : Key → Value → Bool
  | .inl k, v => Value.isInt k v
  | .inr x, v => Value.isStrOf x v
def keyH (w : World) : Key → Int
  | .inl k => hashInt k
  | .inr x => hashStr w x
theorem keyIs_shape : ∀ {k : Key} {v : Value}, keyIs k v = true → (∃ i t, k = Sum.inl i ∧ v = Value.int i t) ∨ (∃ x t, k = Sum.inr x ∧ v = Value.str x t)
  | .inl i, v, h => by
    obtain ⟨t, e⟩ := Value.isInt_shape (k := i) (v := v) h
    exact .inl ⟨i, t, rfl, e⟩
  | .inr x, v, h => by
    obtain ⟨t, e⟩ := Value.isStrOf_shape (x := x) (v := v) h
    exact .inr ⟨x, t, rfl, e⟩
theorem keyIs_int (i : Int) (t : Tok) : keyIs (.inl i) (.int i t) = true := by simp [keyIs, Value.isInt]
theorem keyIs_str (x : Str) (t : Tok) : keyIs (.inr x) (.str x t) = true := by simp [keyIs, Value.isStrOf]
theorem key_ll (a b : Int) : decide ((Sum.inl a : Key) = Sum.inl b) = (a == b) := by
  by_cases e : a = b
  · subst e; simp
  · have h : ¬ (Sum.inl a : Key) = Sum.inl b := fun q => e (Sum.inl.inj q)
    rw [decide_eq_false h]
    exact (beq_eq_false_iff_ne.mpr e).symm
theorem key_rr (a b : Str) : decide ((Sum.inr a : Key) = Sum.inr b) = decide (a = b) := by
  by_cases e : a = b
  · subst e; simp
  · have h : ¬ (Sum.inr a : Key) = Sum.inr b := fun q => e (Sum.inr.inj q)
    rw [decide_eq_false h, decide_eq_false e]
theorem key_lr (a : Int) (b : Str) : decide ((Sum.inl a : Key) = Sum.inr b) = false := decide_eq_false (fun q => nomatch q)
theorem key_rl (a : Str) (b : Int) : decide ((Sum.inr a : Key) = Sum.inl b) = false := decide_eq_false (fun q => nomatch q)

def mixKind (prog : Program) (w : World) : PySem.KeyKind prog w Key where
  is := keyIs
  hash := keyH w
  inj := fun v a b ha hb => by
    rcases keyIs_shape ha with ⟨i, t, rfl, rfl⟩ | ⟨x, t, rfl, rfl⟩
    · rcases keyIs_shape hb with ⟨j, u, rfl, e⟩ | ⟨y, u, rfl, e⟩
      · injection e with e1 _; rw [e1]
      · exact nomatch e
    · rcases keyIs_shape hb with ⟨j, u, rfl, e⟩ | ⟨y, u, rfl, e⟩
      · exact nomatch e
      · injection e with e1 _; rw [e1]
  byValue := fun k v h => by
    rcases keyIs_shape h with ⟨i, t, rfl, rfl⟩ | ⟨x, t, rfl, rfl⟩ <;> rfl
  pyHash := fun hv h => by
    rcases keyIs_shape hv with ⟨i, t, rfl, rfl⟩ | ⟨x, t, rfl, rfl⟩
    · exact wpAny_pyHash_int h
    · exact wpAny_pyHash_str h
  eqBool := fun hu hv h => by
    rcases keyIs_shape hu with ⟨i, t, rfl, rfl⟩ | ⟨x, t, rfl, rfl⟩
    · rcases keyIs_shape hv with ⟨j, u, rfl, rfl⟩ | ⟨y, u, rfl, rfl⟩
      · rw [key_ll] at h; exact wpAny_eqBool_int h
      · rw [key_lr] at h; exact SeqAt.EqAt.int_str i t y u _ _ _ _ h
    · rcases keyIs_shape hv with ⟨j, u, rfl, rfl⟩ | ⟨y, u, rfl, rfl⟩
      · rw [key_rl] at h; exact SeqAt.EqAt.str_int x t j u _ _ _ _ h
      · rw [key_rr] at h; exact wpAny_eqBool_str h
  «strs» := fun k x t v h => by
    rcases keyIs_shape h with ⟨i, u, rfl, e⟩ | ⟨y, u, rfl, e⟩
    · exact nomatch e
    · injection e with e1 _
      subst e1
      cases v <;> rfl

theorem mixKind_is (prog : Program) (w : World) (k : Key) (v : Value) : (mixKind prog w).is k v = keyIs k v := rfl
theorem mixKind_int (prog : Program) (w : World) (i : Int) (t : Tok) : (mixKind prog w).is (.inl i) (.int i t) = true := keyIs_int i t
theorem mixKind_str (prog : Program) (w : World) (x : Str) (t : Tok) : (mixKind prog w).is (.inr x) (.str x t) = true := keyIs_str x t
end L2

namespace L2
open PySem PySem.Spec PyProof.Rows

/-- a value, without the heap -/
inductive V where
  | non | bl (b : Bool) | int (i : Int) | str (x : Str) | byt (b : Array UInt8) | flt (b : UInt64) | ref (a : Addr) | ty (n : String)
  deriving DecidableEq

def RelV : V → Value → Prop
  | .non, u => u = Value.none
  | .bl b, u => u = Value.bool b
  | .int i, u => ∃ t, u = Value.int i t
  | .str x, u => ∃ t, u = Value.str x t
  | .byt b, u => ∃ t, u = Value.bytes b t
  | .flt b, u => ∃ t, u = Value.float b t
  | .ref a, u => u = Value.ref a
  | .ty n, u => u = Value.type n

abbrev Vals : List V → List Value → Prop := Paired RelV
theorem Vals.length {xs : List V} {us : List Value} (r : Vals xs us) : xs.length = us.length := Paired.length r
theorem Vals.get : ∀ {xs : List V} {us : List Value} {i : Nat} {x : V}, Vals xs us → xs[i]? = some x → ∃ u, us[i]? = some u ∧ RelV x u
  | _, _, _, _, .nil, e => by simp at e
  | _, _, 0, _, .cons r _, e => by simp at e; subst e; exact ⟨_, rfl, r⟩
  | _, _, i + 1, x, .cons _ t, e => by
    obtain ⟨u, h1, h2⟩ := Vals.get (i := i) (x := x) t (by simpa using e)
    exact ⟨u, by simpa using h1, h2⟩
theorem Vals.set {x : V} {u : Value} (r : RelV x u) : ∀ {xs : List V} {us : List Value} (i : Nat), Vals xs us → Vals (xs.set i x) (us.set i u)
  | _, _, _, .nil => .nil
  | _, _, 0, .cons _ t => .cons r t
  | _, _, i + 1, .cons q t => .cons q (Vals.set r i t)
theorem Vals.append : ∀ {xs ys : List V} {us ws : List Value}, Vals xs us → Vals ys ws → Vals (xs ++ ys) (us ++ ws)
  | _, _, _, _, .nil, s => s
  | _, _, _, _, .cons r t, s => .cons r (Vals.append t s)
theorem Vals.take : ∀ {xs : List V} {us : List Value} (n : Nat), Vals xs us → Vals (xs.take n) (us.take n)
  | _, _, 0, _ => .nil
  | _, _, _ + 1, .nil => .nil
  | _, _, n + 1, .cons r t => .cons r (Vals.take n t)
theorem Vals.drop : ∀ {xs : List V} {us : List Value} (n : Nat), Vals xs us → Vals (xs.drop n) (us.drop n)
  | _, _, 0, r => r
  | _, _, _ + 1, .nil => .nil
  | _, _, n + 1, .cons _ t => Vals.drop n t
theorem Vals.none_of : ∀ {xs : List V} {us : List Value} {i : Nat}, Vals xs us → xs[i]? = none → us[i]? = none := fun {xs us i} r e => by
  have h1 := r.length
  have h2 : xs.length ≤ i := List.getElem?_eq_none_iff.mp e
  exact List.getElem?_eq_none_iff.mpr (by omega)

def RelO : Option V → Option Value → Prop
  | some v, some u => RelV v u
  | none, none => True
  | _, _ => False
def KV {κ : Type} : List (κ × V) → List (κ × Value) → Prop := Paired fun (p : κ × V) (q : κ × Value) => p.1 = q.1 ∧ RelV p.2 q.2

/-- a key of a dict (00_mix): an int or a text -/
def kV : Key → V
  | .inl i => .int i
  | .inr x => .str x

/-- what stands at a tracked address -/
inductive HO where
  /-- a list -/
  | lst (xs : List V)
  /-- a tuple (never changes) -/
  | tup (xs : List V)
  /-- a dict whose keys are ints and texts; one whose keys are tuples of ints and texts (the empty one is both) -/
  | dK (kvs : List (Key × V)) | dT (kvs : List (List Key × V))
  /-- a set of ints: its members, its size -/
  | set (S : Int → Bool) (n : Nat)
  /-- an instance of the class at C, its dict at dx, its attributes -/
  | ins (C dx : Addr) (fs : List (Str × V))
  /-- the dict of the instance at x -/
  | own (x : Addr)
  /-- the dict of an exception -/
  | xd (fs : List (Str × V))
  /-- a bound method, f of x -/
  | met (f x : Addr)
  /-- a range object lo, lo + 1, .. below hi -/
  | rng (lo hi : Int)
  /-- a thing that is known to the object (the script; a dict while a loop walks it): read, never written while it is so -/
  | frz (o : Obj) (u : HO)
  /-- a code object's table -/
  | tbl (ps : Array Value)
  /-- any other thing, by what is true of its one object (a def of one's own: SetO a S n := HO.ext fun h => ..) -/
  | ext (φ : Heap → Prop)

abbrev Hp := Addr → Option HO
def upd (H : Hp) (a : Addr) (o : HO) : Hp := fun b => if b = a then some o else H b
theorem upd_same {H : Hp} {a : Addr} {o : HO} : upd H a o a = some o := by unfold upd; rw [if_pos rfl]
theorem upd_ne {H : Hp} {a b : Addr} {o : HO} (h : b ≠ a) : upd H a o b = H b := by unfold upd; rw [if_neg h]
theorem upd_upd {H : Hp} {a : Addr} {o u : HO} : upd (upd H a o) a u = upd H a u := by
  funext b; unfold upd; split <;> rfl
/-- two objects of different content stand apart -/
theorem ne_of {H : Hp} {a b : Addr} {o u : HO} (h : H a = some o) (h' : H b = some u) (d : o ≠ u) : a ≠ b := by
  intro e; subst e; rw [h] at h'; exact d (Option.some.inj h')
theorem ne_of_none {H : Hp} {a b : Addr} {o : HO} (h : H a = some o) (h' : H b = none) : a ≠ b := by
  intro e; subst e; rw [h] at h'; cases h'

section
variable (P : Program) (w : World)
def ObjOk (H : Hp) (h : Heap) (a : Addr) : HO → Prop
  | .lst xs => xs.length ≤ sizeLine ∧ ∃ (its : List Value) (n : Nat), Vals xs its ∧ h.get? a = some { cls := .type "list", data := .seq its.toArray n }
  | .tup xs => xs.length ≤ sizeLine ∧ ∃ its : List Value, Vals xs its ∧ IsTup h a its.toArray
  | .dK kvs => kvs.length ≤ sizeLine ∧ (a == sysModules) = false ∧ ∃ vs, KV kvs vs ∧ h.DictOf (mixKind P w) a vs
  | .dT kvs => kvs.length ≤ sizeLine ∧ (a == sysModules) = false ∧ ∃ xs : List (List Key × Addr × Value),
      Paired (fun (p : List Key × V) (q : List Key × Addr × Value) => p.1 = q.1 ∧ H q.2.1 = some (.tup (p.1.map kV)) ∧ RelV p.2 q.2.2) kvs xs ∧
      ∃ o es ep, h.get? a = some o ∧ o.ExactDict ∧ o.data = .dict es ep ∧ es.toList = xs.map (entryOfKey (tupleKind (mixKind P w))) ∧ (xs.map (·.1)).Nodup
  | .set S n => h.SetOf (intKind P w) a S n
  | .ins C dx fs => H dx = some (.own a) ∧ fs.length ≤ 1000 ∧ dx ≠ a ∧ h.get? a = some (PySem.W.instObj C dx) ∧
      ∃ mA, h.Ns1 dx mA ∧ (∀ f, RelO (fs.lookup f) (mA f)) ∧ PySem.Within mA (fs.map (·.1))
  | .own _ => ∃ o, h.get? a = some o
  | .xd fs => ∃ mA, h.Ns1 a mA ∧ ∀ f, RelO (fs.lookup f) (mA f)
  | .rng lo hi => ∃ t u v, h.get? a = some { cls := .type "range", data := .fields #[.int lo t, .int hi u, .int 1 v] }
  | .frz o u => h.get? a = some o ∧ ObjOk H h a u
  | .tbl ps => h.get? a = some { cls := .none, data := .fields ps }
  | .met f x => h.get? a = some (PySem.W.methodObj (.ref f) (.ref x))
  | .ext φ => φ h ∧ (∃ o, h.get? a = some o) ∧ ∀ h1 h2 : Heap, φ h1 → (∀ o, h1.get? a = some o → h2.get? a = some o) → φ h2
/-- the abstract heap is held -/
def HOk (H : Hp) (h : Heap) : Prop := ∀ a o, H a = some o → ObjOk P w H h a o
end

section
variable {P : Program} {w : World} {H H' : Hp} {h h' : Heap} {a : Addr} {o : HO}
theorem ObjOk.lt (x : ObjOk P w H h a o) : a < h.objs.size := by
  cases o with
  | lst xs => obtain ⟨_, _, _, _, e⟩ := x; exact Heap.lt_size e
  | tup xs => obtain ⟨_, _, _, p⟩ := x; exact p.lt
  | dK kvs => obtain ⟨_, _, _, _, o, _, _, e, _⟩ := x; exact Heap.lt_size e
  | dT kvs => obtain ⟨_, _, _, _, o, _, _, e, _⟩ := x; exact Heap.lt_size e
  | set S n => obtain ⟨o, _, _, _, e, _⟩ := x; exact Heap.lt_size e
  | ins C dx fs => obtain ⟨_, _, _, e, _⟩ := x; exact Heap.lt_size e
  | own y => obtain ⟨_, e⟩ := x; exact Heap.lt_size e
  | xd fs => obtain ⟨_, ⟨_, _, _, e, _⟩, _⟩ := x; exact Heap.lt_size e
  | rng lo hi => obtain ⟨_, _, _, e⟩ := x; exact Heap.lt_size e
  | frz ob u => obtain ⟨e, _⟩ := x; exact Heap.lt_size e
  | tbl ps => exact Heap.lt_size (show h.get? a = some _ from x)
  | met f y => exact Heap.lt_size (show h.get? a = some _ from x)
  | ext φ => obtain ⟨_, ⟨_, e⟩, _⟩ := x; exact Heap.lt_size e
theorem Paired.mapP {α β : Type} {F G : α → β → Prop} : ∀ {l₁ : List α} {l₂ : List β}, Paired F l₁ l₂ → (∀ a b, F a b → G a b) → Paired G l₁ l₂
  | _, _, .nil, _ => .nil
  | _, _, .cons r t, f => .cons (f _ _ r) (Paired.mapP t f)
theorem Paired.imp' {α β : Type} {F G : α → β → Prop} (f : ∀ a b, F a b → G a b) {l₁ : List α} {l₂ : List β} (r : Paired F l₁ l₂) : Paired G l₁ l₂ := Paired.mapP r f
/-- what an object's description leans on: its own object, its own dict, the tuples -/
theorem ObjOk.stay (x : ObjOk P w H h a o) (k : ∀ b u, (b = a ∨ H b = some (.own a)) → h.get? b = some u → h'.get? b = some u)
    (ho : ∀ b, H b = some (.own a) → H' b = some (.own a)) (ht : ∀ b xs, H b = some (.tup xs) → H' b = some (.tup xs)) : ObjOk P w H' h' a o := by
  induction o with
  | lst xs => obtain ⟨z, its, n, r, e⟩ := x; exact ⟨z, its, n, r, k _ _ (.inl rfl) e⟩
  | tup xs => obtain ⟨z, its, r, ob, e, c⟩ := x; exact ⟨z, its, r, ob, k _ _ (.inl rfl) e, c⟩
  | dK kvs => obtain ⟨z, y, vs, r, ob, es, ep, e, c⟩ := x; exact ⟨z, y, vs, r, ob, es, ep, k _ _ (.inl rfl) e, c⟩
  | dT kvs =>
    obtain ⟨z, y, xs, r, ob, es, ep, e, c⟩ := x
    exact ⟨z, y, xs, Paired.mapP r fun p q z => ⟨z.1, ht _ _ z.2.1, z.2.2⟩, ob, es, ep, k _ _ (.inl rfl) e, c⟩
  | set S n => obtain ⟨ob, es, ep, t, e, c⟩ := x; exact ⟨ob, es, ep, t, k _ _ (.inl rfl) e, c⟩
  | ins C dx fs =>
    obtain ⟨d, z, ne, e, mA, ⟨od, es, ep, e2, c⟩, r⟩ := x
    exact ⟨ho _ d, z, ne, k _ _ (.inl rfl) e, mA, ⟨od, es, ep, k _ _ (.inr d) e2, c⟩, r⟩
  | own y => obtain ⟨ob, e⟩ := x; exact ⟨ob, k _ _ (.inl rfl) e⟩
  | xd fs => obtain ⟨mA, ⟨od, es, ep, e, c⟩, r⟩ := x; exact ⟨mA, ⟨od, es, ep, k _ _ (.inl rfl) e, c⟩, r⟩
  | rng lo hi => obtain ⟨t, u, v, e⟩ := x; exact ⟨t, u, v, k _ _ (.inl rfl) e⟩
  | frz ob u ih => obtain ⟨e, q⟩ := x; exact ⟨k _ _ (.inl rfl) e, ih q⟩
  | tbl ps =>
    have e : h.get? a = some { cls := .none, data := .fields ps } := x
    show h'.get? a = some { cls := .none, data := .fields ps }
    exact k a _ (.inl rfl) e
  | met f y =>
    have e : h.get? a = some (PySem.W.methodObj (.ref f) (.ref y)) := x
    show h'.get? a = some (PySem.W.methodObj (.ref f) (.ref y))
    exact k a _ (.inl rfl) e
  | ext φ => obtain ⟨p, ⟨o, e⟩, st⟩ := x; exact ⟨st _ _ p fun o q => k _ _ (.inl rfl) q, ⟨o, k _ _ (.inl rfl) e⟩, st⟩
theorem HOk.lt (x : HOk P w H h) (e : H a = some o) : a < h.objs.size := (x a o e).lt
theorem HOk.fresh (x : HOk P w H h) (e : h.objs.size ≤ a) : H a = none := by
  cases q : H a with
  | none => rfl
  | some u => exact absurd (Nat.lt_of_lt_of_le (x.lt q) e) (Nat.lt_irrefl _)
/-- every object of the heap is kept -/
theorem HOk.kept (x : HOk P w H h) (k : ∀ b u, h.get? b = some u → h'.get? b = some u) : HOk P w H h' := fun a o e =>
  (x a o e).stay (fun b u _ q => k b u q) (fun _ q => q) fun _ _ q => q
/-- a new object is laid and tracked -/
theorem HOk.laid (x : HOk P w H h) (k : ∀ b u, h.get? b = some u → h'.get? b = some u) (hp : h.objs.size ≤ a) (new : ObjOk P w (upd H a o) h' a o) : HOk P w (upd H a o) h' := fun b u e => by
  have hn := x.fresh hp
  by_cases hb : b = a
  · subst hb; rw [upd_same] at e; cases e; exact new
  · rw [upd_ne hb] at e
    exact (x b u e).stay (fun c v _ q => k c v q) (fun c q => by rw [upd_ne (ne_of_none q hn)]; exact q) fun c xs q => by rw [upd_ne (ne_of_none q hn)]; exact q
end

/-- what may be read as u: it is u, or a known u -/
def Rd (H : Hp) (a : Addr) (u : HO) : Prop := H a = some u ∨ ∃ o, H a = some (.frz o u)
theorem Rd.of {H : Hp} {a : Addr} {u : HO} (h : H a = some u) : Rd H a u := .inl h
theorem Rd.ok {P : Program} {w : World} {H : Hp} {h : Heap} {a : Addr} {u : HO} (r : Rd H a u) (x : HOk P w H h) : ObjOk P w H h a u := by
  rcases r with r | ⟨o, r⟩
  · exact x a u r
  · obtain ⟨_, q⟩ := x a _ r
    exact q
/-- what may be written -/
def Mut : Option HO → Prop
  | some (.lst _) => True
  | some (.dK _) => True
  | some (.dT _) => True
  | some (.set _ _) => True
  | some (.ins _ _ _) => True
  | some (.ext _) => True
  | _ => False
section
variable {P : Program} {w : World} {H : Hp} {h h' : Heap} {x e : Addr} {o' : HO}
/-- the object at e is changed: x itself, or the dict of the instance x -/
theorem HOk.write (ok : HOk P w H h) (mu : Mut (H x)) (he : e = x ∨ H e = some (.own x)) (k : ∀ b u, b ≠ e → h.get? b = some u → h'.get? b = some u) (heo : ∃ u, h'.get? e = some u)
    (new : ObjOk P w (upd H x o') h' x o') : HOk P w (upd H x o') h' := fun b u q => by
  have nown : ∀ c y, H c = some (.own y) → c ≠ x := fun c y r z => by subst z; rw [r] at mu; exact mu
  have ntup : ∀ c xs, H c = some (.tup xs) → c ≠ x := fun c xs r z => by subst z; rw [r] at mu; exact mu
  by_cases hb : b = x
  · subst hb; rw [upd_same] at q; cases q; exact new
  · rw [upd_ne hb] at q
    by_cases hbe : b = e
    · have q' : H b = some (.own x) := by
        rcases he with z | z
        · exact absurd (hbe.trans z) hb
        · rw [hbe]; exact z
      rw [q] at q'; cases q'
      obtain ⟨v, hv⟩ := heo
      exact ⟨v, by rw [hbe]; exact hv⟩
    · refine (ok b u q).stay (fun c v hc r => k c v ?_ r) (fun c r => by rw [upd_ne (nown c b r)]; exact r) fun c xs r => by rw [upd_ne (ntup c xs r)]; exact r
      rcases hc with rfl | hc
      · exact hbe
      · rintro rfl
        rcases he with z | z
        · exact nown c b hc z
        · rw [hc] at z; cases z; exact hb rfl
end

/-! ### kept unless tracked; of the frames at fs (the callers') the slots may change (an exception that passes writes there); of the records at ex (iterators) nothing is said -/
structure Un (fs ex : List Addr) (H H' : Hp) (h h' : Heap) : Prop where
  keep : ∀ b o, h.get? b = some o → H b = none → b ∉ fs → b ∉ ex → h'.get? b = some o
  slot : ∀ b o, h.get? b = some o → H b = none → b ∈ fs → b ∉ ex → ∃ sl, h'.get? b = some { o with slots := sl }
  free : ∀ b o, h.get? b = some o → H b = none → b ∉ ex → H' b = none
  there : ∀ b o, h.get? b = some o → b ∉ ex → ∃ o', h'.get? b = some o'
  tups : ∀ b xs, H b = some (.tup xs) → H' b = some (.tup xs)
  frzs : ∀ b o u, H b = some (.frz o u) → H' b = some (.frz o u)
  tbls : ∀ b ps, H b = some (.tbl ps) → ∃ more, H' b = some (.tbl (ps ++ more))
section
variable {fs fs' ex ex' : List Addr} {H H1 H2 : Hp} {h h1 h2 h' : Heap} {a x e : Addr} {o : HO}
theorem Un.any (u : Un fs ex H H1 h h1) {b : Addr} {ob : Obj} (q : h.get? b = some ob) (n : H b = none) (hx : b ∉ ex) : ∃ sl, h1.get? b = some { ob with slots := sl } := by
  by_cases hb : b ∈ fs
  · exact u.slot b ob q n hb hx
  · exact ⟨ob.slots, u.keep b ob q n hb hx⟩
theorem Un.trans (a : Un fs ex H H1 h h1) (b : Un fs ex H1 H2 h1 h2) : Un fs ex H H2 h h2 where
  keep := fun c ob q n hc hx => b.keep c ob (a.keep c ob q n hc hx) (a.free c ob q n hx) hc hx
  slot := fun c ob q n hc hx => by
    obtain ⟨sl, e1⟩ := a.slot c ob q n hc hx
    obtain ⟨sl', e2⟩ := b.slot c _ e1 (a.free c ob q n hx) hc hx
    exact ⟨sl', e2⟩
  free := fun c ob q n hx => by
    obtain ⟨o', e1⟩ := a.there c ob q hx
    exact b.free c o' e1 (a.free c ob q n hx) hx
  there := fun c ob q hx => by
    obtain ⟨o', e1⟩ := a.there c ob q hx
    exact b.there c o' e1 hx
  tups := fun c xs q => b.tups c xs (a.tups c xs q)
  frzs := fun c ob xs q => b.frzs c ob xs (a.frzs c ob xs q)
  tbls := fun c ps q => by
    obtain ⟨m1, e1⟩ := a.tbls c ps q
    obtain ⟨m2, e2⟩ := b.tbls c _ e1
    exact ⟨m1 ++ m2, by rw [e2, Array.append_assoc]⟩
theorem Un.kept (k : ∀ b u, h.get? b = some u → h'.get? b = some u) : Un fs ex H H h h' :=
  ⟨fun b ob q _ _ _ => k b ob q, fun b ob q _ _ _ => ⟨ob.slots, k b ob q⟩, fun _ _ _ n _ => n, fun b ob q _ => ⟨ob, k b ob q⟩, fun _ _ q => q, fun _ _ _ q => q, fun _ ps q => ⟨#[], by rw [q]; simp⟩⟩
theorem Un.refl : Un fs ex H H h h := Un.kept fun _ _ q => q
theorem Un.laid (k : ∀ b u, h.get? b = some u → h'.get? b = some u) (hp : h.objs.size ≤ a) (hn : H a = none) : Un fs ex H (upd H a o) h h' where
  keep := fun b u q _ _ _ => k b u q
  slot := fun b u q _ _ _ => ⟨u.slots, k b u q⟩
  free := fun b u q n _ => by rw [upd_ne (Nat.ne_of_lt (Nat.lt_of_lt_of_le (Heap.lt_size q) hp))]; exact n
  there := fun b u q _ => ⟨u, k b u q⟩
  tups := fun b xs q => by rw [upd_ne (ne_of_none q hn)]; exact q
  frzs := fun b u xs q => by rw [upd_ne (ne_of_none q hn)]; exact q
  tbls := fun b ps q => ⟨#[], by rw [upd_ne (ne_of_none q hn), q]; simp⟩
theorem Un.write (mu : Mut (H x)) (he : e = x ∨ H e = some (.own x)) (k : ∀ b u, b ≠ e → h.get? b = some u → h'.get? b = some u) (heo : ∃ u, h'.get? e = some u) : Un fs ex H (upd H x o) h h' := by
  have hx : ∀ b, H b = none → b ≠ x := fun b n z => by subst z; rw [n] at mu; exact mu
  have hb : ∀ b, H b = none → b ≠ e := fun b n z => by
    subst z
    rcases he with r | r
    · exact hx b n r
    · rw [n] at r; cases r
  have hm : ∀ b u, H b = some u → ¬ Mut (some u) → b ≠ x := fun b u q nm z => by subst z; rw [q] at mu; exact nm mu
  refine ⟨fun b u q n _ _ => k b u (hb b n) q, fun b u q n _ _ => ⟨u.slots, k b u (hb b n) q⟩, fun b u q n _ => by rw [upd_ne (hx b n)]; exact n, fun b u q _ => ?_,
    fun b xs q => by rw [upd_ne (hm b _ q fun z => z)]; exact q, fun b u xs q => by rw [upd_ne (hm b _ q fun z => z)]; exact q, fun b ps q => ⟨#[], by rw [upd_ne (hm b _ q fun z => z), q]; simp⟩⟩
  by_cases hbe : b = e
  · subst hbe; exact heo
  · exact ⟨u, k b u hbe q⟩
theorem Un.mono (u : Un fs ex H H1 h h1) (hs : ∀ b ∈ fs, b ∈ fs') (hx : ∀ b ∈ ex, b ∈ ex') : Un fs' ex' H H1 h h1 :=
  ⟨fun b ob q n hb he => u.keep b ob q n (fun z => hb (hs b z)) fun z => he (hx b z), fun _ _ q n _ he => u.any q n fun z => he (hx _ z), fun b ob q n he => u.free b ob q n fun z => he (hx b z), fun b ob q he => u.there b ob q fun z => he (hx b z), u.tups, u.frzs, u.tbls⟩
end

/-! ### the heap without what is tracked -/
def trk (h : Heap) (H : Hp) : List Addr := (List.range h.objs.size).filter fun a => (H a).isSome
def hidT (h : Heap) (H : Hp) : Heap := PySem.W.hideAll h (trk h H)
theorem hidT_size (h : Heap) (H : Hp) : (hidT h H).objs.size = h.objs.size := PySem.W.hideAll_size _ _
theorem hidT_get {h : Heap} {H : Hp} {b : Addr} {o : Obj} (e : h.get? b = some o) (n : H b = none) : (hidT h H).get? b = some o :=
  PySem.W.hideAll_get _ e fun hm => by
    have q : (H b).isSome = true := (List.mem_filter.mp hm).2
    rw [n] at q; simp at q
theorem of_hidT {h : Heap} {H : Hp} {b : Addr} {o : Obj} (e : (hidT h H).get? b = some o) : h.get? b = some o ∧ H b = none := by
  have e' : h.get? b = some o := PySem.W.of_hideAll (trk h H) e
  refine ⟨e', ?_⟩
  cases q : H b with
  | none => rfl
  | some x =>
    have hm : b ∈ trk h H := List.mem_filter.mpr ⟨List.mem_range.mpr (Heap.lt_size e'), by simp [q]⟩
    have z : (hidT h H).get? b = none := PySem.W.hideAll_none (trk h H) hm
    rw [z] at e; cases e

/-! ### OpenK's ledger, filled with every new object but one -/
def allNews (g h : Heap) (L : Addr) : List (Addr × Obj) := (List.range h.objs.size).filterMap fun a => if a = L ∨ (g.get? a).isSome = true then none else (h.get? a).map fun o => (a, o)
theorem mem_allNews {g h : Heap} {L a : Addr} {o : Obj} (h1 : a ≠ L) (h2 : g.get? a = none) (h3 : h.get? a = some o) : (a, o) ∈ allNews g h L :=
  List.mem_filterMap.mpr ⟨a, List.mem_range.mpr (Heap.lt_size h3), by simp [h1, h2, h3]⟩
theorem of_mem_allNews {g h : Heap} {L : Addr} {p : Addr × Obj} (hp : p ∈ allNews g h L) : p.1 ≠ L ∧ g.get? p.1 = none ∧ h.get? p.1 = some p.2 := by
  obtain ⟨b, _, e⟩ := List.mem_filterMap.mp hp
  split at e
  · cases e
  · rename_i hn
    cases q : h.get? b with
    | none => rw [q] at e; simp at e
    | some u =>
      rw [q] at e
      simp only [Option.map_some, Option.some.injEq] at e
      subst e
      refine ⟨fun z => hn (.inl z), ?_, q⟩
      show g.get? b = none
      cases r : g.get? b with
      | none => rfl
      | some v => exact (hn (.inr (by simp [r]))).elim
def rest (g h : Heap) (L d : Addr) : List (Addr × Obj) := (allNews g h L).filter fun p => decide (p.1 ≠ d)
theorem rest_ne {g h : Heap} {L d : Addr} : ∀ p ∈ rest g h L d, p.1 ≠ d := fun p hp => of_decide_eq_true (List.mem_filter.mp hp).2
theorem mem_rest {g h : Heap} {L d a : Addr} {o : Obj} (h1 : a ≠ L) (h2 : g.get? a = none) (h3 : h.get? a = some o) (h4 : a ≠ d) : (a, o) ∈ rest g h L d :=
  List.mem_filter.mpr ⟨mem_allNews h1 h2 h3, decide_eq_true h4⟩
theorem news_all {g h : Heap} {L : Addr} : News g L h (allNews g h L) := fun p hp => let ⟨a, b, c⟩ := of_mem_allNews hp; ⟨c, a, b⟩
theorem news_at {g h : Heap} {L d : Addr} {o : Obj} (h1 : d ≠ L) (h2 : g.get? d = none) (h3 : h.get? d = some o) : News g L h ((d, o) :: rest g h L d) := fun p hp => by
  rcases List.mem_cons.mp hp with rfl | hp
  · exact ⟨h3, h1, h2⟩
  · exact news_all p (List.mem_filter.mp hp).1
/-- behind a rule that changed d alone: all else but the frame is kept -/
theorem kept_of_news {g h h' : Heap} {L d : Addr} {m : Str → Option Value} (k : ∀ b o, g.get? b = some o → h.get? b = some o) (F : Fr g L h' m) (N : News g L h' (rest g h L d)) :
    ∀ b o, b ≠ L → b ≠ d → h.get? b = some o → h'.get? b = some o := fun b o h1 h2 e => by
  cases q : g.get? b with
  | some u =>
    have := k b u q
    rw [e] at this; cases this
    exact F.keep b _ q
  | none => exact (N (b, o) (mem_rest h1 q e h2)).1
end L2

namespace L2
open PySem PySem.Spec PyProof.Rows

/-- the module's facts, over the base: the heap at the law's entry without what is tracked there -/
structure Mod (K : PySem.W.Frag) (mg : Str → Option Value) (base : Heap) : Prop where
  kin : K.In base
  glob : base.Ns mainGlobals mg
  blt : ∃ mb, base.Ns builtinsNs mb ∧ ∀ x : Str, x ≠ "__name__" → mb x = bootBuiltins x
  nolimit : base.NoLimit

/-- the context: a def's body (or a comprehension's block) running. base: fixed through the whole law; s₀, H₀: the entry; outer: the frames whose slots others may change (a def's callers); stack: all frames that run;
   ex: iterators that were made ahead of the entry and are walked here (a comprehension's); fn: the names whose cells were made at the entry (a def: all; a comprehension's block: its own); calm: not within an except suite; pn: pins that every state bears; xe: what is wanted of an exception that leaves the code -/
structure Cx where
  prog : Program
  w : World
  K : PySem.W.Frag
  mg : Str → Option Value
  base : Heap
  A : Around
  N : List Str
  s₀ : Shared
  H₀ : Hp
  env : Env
  outer : List Env
  stack : List Env
  ex : List Addr
  fn : Str → Bool
  calm : Bool
  pn : List (Addr × Obj)
  xe : Value → Shared → Prop
/-- the callers' frames -/
def frs (l : List Env) : List Addr := l.filterMap (·.frame)
abbrev Cx.fs (X : Cx) : List Addr := frs X.outer

def Vis (sc : Scope) (x : Str) : Prop := sc.names.lookup x = some .local ∨ sc.names.lookup x = some .cell ∨ sc.names.lookup x = some .free
def Loc (sc : Scope) (x : Str) : Prop := sc.names.lookup x = some .local ∨ sc.names.lookup x = some .cell
def Look (env : Env) (h : Heap) (m : Str → Option Value) (x : Str) (u : Value) : Prop :=
  (env.kindOf x = some .local ∧ m x = some u) ∨ ((env.kindOf x = some .cell ∨ env.kindOf x = some .free) ∧ ∃ c, env.cells.lookup x = some c ∧ h.IsCell c (some u))

structure Cx.Ok (X : Cx) : Prop where
  mod : Mod X.K X.mg X.base
  kind : X.env.scope.kind = .function
  glob : X.env.globals = mainGlobals
  blt : X.env.builtins = builtinsNs
  above : X.s₀.heap.objs.size ≤ X.env.locals
  inj : ∀ x y c, X.env.cells.lookup x = some c → X.env.cells.lookup y = some c → x = y
  has : ∀ x, (X.env.kindOf x = some .cell ∨ X.env.kindOf x = some .free) → ∃ c, X.env.cells.lookup x = some c
  cab : ∀ x c, X.fn x = true → X.env.cells.lookup x = some c → X.s₀.heap.objs.size ≤ c
  hd : X.calm = true → X.A.handled = none
  frames : X.A.frames = some X.stack
  stk : X.stack = X.outer ∨ (X.stack = X.env :: X.outer ∧ X.env.frame = some X.env.locals)
  exf : ∀ b ∈ X.ex, b ≠ X.env.locals ∧ ∀ x c, X.env.cells.lookup x = some c → c ≠ b
  bs : ∀ b o, X.base.get? b = some o → X.s₀.heap.get? b = some o ∧ X.H₀ b = none
  bsz : X.base.objs.size ≤ X.s₀.heap.objs.size
  noex : ∀ b o, X.base.get? b = some o → b ∉ X.ex
  exfs : ∀ b ∈ X.ex, b ∉ X.fs
  funs : X.s₀.heap.FunFrames X.base X.outer
  frf : ∀ b ∈ X.fs, X.H₀ b = none

structure Inv (X : Cx) (pins : List (Addr × Obj)) (σ : List (Option V)) (H : Hp) (s : Shared) : Prop where
  ok : X.Ok
  os : s.os = X.s₀.os
  bare : AllBare s.gens
  base : Un X.fs X.ex X.H₀ H X.s₀.heap s.heap
  loc : ∃ m, s.heap.Ns X.env.locals m ∧ ∀ (i : Nat) (x : Str) (v : V), X.N[i]? = some x → σ[i]? = some (some v) → Vis X.env.scope x → ∃ u, RelV v u ∧ Look X.env s.heap m x u
  cell : ∀ x c, X.env.cells.lookup x = some c → ∃ v, s.heap.IsCell c v
  free : H X.env.locals = none
  freeC : ∀ x c, X.env.cells.lookup x = some c → H c = none
  pin : ∀ p ∈ X.pn ++ pins, s.heap.get? p.1 = some p.2 ∧ H p.1 = none ∧ p.1 ≠ X.env.locals ∧ p.1 ∉ X.fs ∧ ∀ v, p.2.data ≠ .cell v
  hok : HOk X.prog X.w H s.heap
  len : σ.length = X.N.length

section
variable {X : Cx} {pins : List (Addr × Obj)} {σ : List (Option V)} {H H' : Hp} {s : Shared} {h' : Heap}

theorem Cx.Ok.nofr (ok : X.Ok) {b : Addr} {o : Obj} (e : X.base.get? b = some o) : b ∉ X.fs := fun hb => by
  have := (ok.funs.mem hb).1
  rw [e] at this; cases this
theorem Inv.bs (I : Inv X pins σ H s) : ∀ b o, X.base.get? b = some o → s.heap.get? b = some o ∧ H b = none := fun b o e =>
  ⟨I.base.keep b o (I.ok.bs b o e).1 (I.ok.bs b o e).2 (I.ok.nofr e) (I.ok.noex b o e), I.base.free b o (I.ok.bs b o e).1 (I.ok.bs b o e).2 (I.ok.noex b o e)⟩
theorem Inv.bk (I : Inv X pins σ H s) : ∀ b o, X.base.get? b = some o → s.heap.get? b = some o := fun b o e => (I.bs b o e).1
theorem Inv.mod (I : Inv X pins σ H s) : Mod X.K X.mg X.base := I.ok.mod
theorem Inv.kIn (I : Inv X pins σ H s) : X.K.In s.heap := I.ok.mod.kin.keeps I.bk
theorem Inv.nolimit (I : Inv X pins σ H s) : s.heap.NoLimit := I.ok.mod.nolimit.keeps I.bk
/-- the frame over the base: for OpenK's rules (K.In X.base is I.mod.kin) -/
theorem Inv.fr (I : Inv X pins σ H s) : ∃ m, Fr X.base X.env.locals s.heap m :=
  let ⟨m, hn, _⟩ := I.loc
  ⟨m, hn, I.bk, Nat.le_trans I.ok.bsz I.ok.above⟩
theorem Inv.lt (I : Inv X pins σ H s) : X.env.locals < s.heap.objs.size := let ⟨_, hn, _⟩ := I.loc; hn.lt
theorem Inv.sz (I : Inv X pins σ H s) : X.s₀.heap.objs.size ≤ s.heap.objs.size := Nat.le_trans I.ok.above (Nat.le_of_lt I.lt)
theorem Inv.nofs (I : Inv X pins σ H s) {a : Addr} (h : s.heap.objs.size ≤ a) : a ∉ X.fs := fun hb => by
  obtain ⟨_, o, ho, _⟩ := I.ok.funs.mem hb
  exact absurd (Nat.lt_of_lt_of_le (Heap.lt_size ho) (Nat.le_trans I.sz h)) (Nat.lt_irrefl _)
theorem Inv.cne (I : Inv X pins σ H s) : ∀ x c, X.env.cells.lookup x = some c → c ≠ X.env.locals := fun x c e z => by
  obtain ⟨v, o, ho, hd⟩ := I.cell x c e
  obtain ⟨m, ⟨o', es, ep, ho', hd', _⟩, _⟩ := I.loc
  rw [z, ho'] at ho; cases ho; rw [hd'] at hd; cases hd
theorem Inv.funs (I : Inv X pins σ H s) : s.heap.FunFrames X.base X.outer := by
  have all : ∀ (l : List Env), (∀ b ∈ frs l, b ∈ X.fs) → X.s₀.heap.FunFrames X.base l → s.heap.FunFrames X.base l := by
    intro l
    induction l with
    | nil => intro _ _; trivial
    | cons env r ih =>
      intro hs hl
      obtain ⟨hk, ⟨L, o, hf, hn, ho, hd⟩, hr⟩ := hl
      have hL : L ∈ X.fs := hs L (by unfold frs; rw [List.filterMap_cons, hf]; exact List.mem_cons_self)
      obtain ⟨sl, e⟩ := I.base.slot L o ho (I.ok.frf L hL) hL fun z => I.ok.exfs L z hL
      exact ⟨hk, ⟨L, _, hf, hn, e, hd⟩, ih (fun b hb => hs b (by unfold frs; rw [List.filterMap_cons, hf]; exact List.mem_cons_of_mem _ hb)) hr⟩
  exact all X.outer (fun _ hb => hb) I.ok.funs

/-- the frames that run, for a call -/
theorem Inv.stack (I : Inv X pins σ H s) : s.heap.FunFrames X.base X.stack := by
  rcases I.ok.stk with e | ⟨e, hf⟩
  · rw [e]; exact I.funs
  · rw [e]
    obtain ⟨m, hn, _⟩ := I.loc
    refine .cons (by rw [I.ok.kind]; decide) hf hn ?_ I.funs
    exact Heap.get?_none_of_le (Nat.le_trans I.ok.bsz I.ok.above)
theorem Inv.stkSub (I : Inv X pins σ H s) : ∀ b ∈ frs X.stack, b ∈ X.env.locals :: X.fs := fun b hb => by
  rcases I.ok.stk with e | ⟨e, hf⟩
  · rw [e] at hb; exact List.mem_cons_of_mem _ hb
  · rw [e] at hb
    unfold frs at hb
    rw [List.filterMap_cons, hf] at hb
    exact hb
theorem Inv.stkFree (I : Inv X pins σ H s) : ∀ b ∈ frs X.stack, H b = none := fun b hb => by
  rcases List.mem_cons.mp (I.stkSub b hb) with e | hb
  · rw [e]; exact I.free
  · obtain ⟨_, o, ho, _⟩ := I.ok.funs.mem hb
    exact I.base.free b o ho (I.ok.frf b hb) fun z => I.ok.exfs b z hb

/-- THE STEP: the untracked objects but the frame and the records at ch are kept (the callers' frames up to slots), the frame's map is kept, the new abstract heap is held -/
theorem Inv.step {g' : Array GenState} {t' : Nat} {d' : Drawn} {ch : List Addr} (I : Inv X pins σ H s)
    (hch : ∀ b ∈ ch, (b ∈ X.ex ∨ X.s₀.heap.objs.size ≤ b) ∧ b ≠ X.env.locals ∧ (∀ x c, X.env.cells.lookup x = some c → c ≠ b) ∧ ∀ p ∈ X.pn ++ pins, p.1 ≠ b)
    (keep : ∀ b o, b ≠ X.env.locals → b ∉ X.fs → b ∉ ch → s.heap.get? b = some o → H b = none → h'.get? b = some o)
    (slot : ∀ b o, b ≠ X.env.locals → b ∈ X.fs → b ∉ ch → s.heap.get? b = some o → H b = none → ∃ sl, h'.get? b = some { o with slots := sl }) (free : ∀ b o, b ∉ ch → s.heap.get? b = some o → H b = none → H' b = none)
    (there : ∀ b o, b ∉ ch → s.heap.get? b = some o → ∃ o', h'.get? b = some o')
    (tups : ∀ b xs, H b = some (.tup xs) → H' b = some (.tup xs)) (frzs : ∀ b o u, H b = some (.frz o u) → H' b = some (.frz o u)) (tbls : ∀ b ps, H b = some (.tbl ps) → ∃ more, H' b = some (.tbl (ps ++ more)))
    (ns : ∀ m, s.heap.Ns X.env.locals m → h'.Ns X.env.locals m) (hok : HOk X.prog X.w H' h') (hg : AllBare g') :
    Inv X pins σ H' { s with heap := h', gens := g', drawn := d', toks := t' } := by
  have neL : ∀ b o, X.s₀.heap.get? b = some o → b ≠ X.env.locals := fun b o e => Nat.ne_of_lt (Nat.lt_of_lt_of_le (Heap.lt_size e) I.ok.above)
  have neC : ∀ b o, X.s₀.heap.get? b = some o → b ∉ X.ex → b ∉ ch := fun b o e hx hb => by
    rcases (hch b hb).1 with z | z
    · exact hx z
    · exact absurd (Nat.lt_of_lt_of_le (Heap.lt_size e) z) (Nat.lt_irrefl _)
  have cellK : ∀ x c, X.env.cells.lookup x = some c → ∀ v, s.heap.IsCell c v → h'.IsCell c v := fun x c e v ⟨o, ho, hd⟩ => by
    have nch : c ∉ ch := fun z => (hch c z).2.2.1 x c e rfl
    by_cases hc : c ∈ X.fs
    · obtain ⟨sl, q⟩ := slot c o (I.cne x c e) hc nch ho (I.freeC x c e)
      exact ⟨_, q, hd⟩
    · exact ⟨o, keep c o (I.cne x c e) hc nch ho (I.freeC x c e), hd⟩
  refine ⟨I.ok, I.os, hg, ⟨fun b o e n hb hx => ?_, fun b o e n hb hx => ?_, fun b o e n hx => ?_, fun b o e hx => ?_, fun b xs e => tups b xs (I.base.tups b xs e), fun b o xs e => frzs b o xs (I.base.frzs b o xs e), fun b ps e => ?_⟩, ?_, fun x c e => ?_, ?_, fun x c e => ?_, fun p hp => ?_, hok, I.len⟩
  · exact keep b o (neL b o e) hb (neC b o e hx) (I.base.keep b o e n hb hx) (I.base.free b o e n hx)
  · obtain ⟨sl, e1⟩ := I.base.slot b o e n hb hx
    obtain ⟨sl', e2⟩ := slot b _ (neL b o e) hb (neC b o e hx) e1 (I.base.free b o e n hx)
    exact ⟨sl', e2⟩
  · obtain ⟨o', e1⟩ := I.base.there b o e hx
    exact free b o' (neC b o e hx) e1 (I.base.free b o e n hx)
  · obtain ⟨o', e1⟩ := I.base.there b o e hx
    exact there b o' (neC b o e hx) e1
  · obtain ⟨m1, e1⟩ := I.base.tbls b ps e
    obtain ⟨m2, e2⟩ := tbls b _ e1
    exact ⟨m1 ++ m2, by rw [e2, Array.append_assoc]⟩
  · obtain ⟨m, hn, hl⟩ := I.loc
    refine ⟨m, ns m hn, fun i x v e1 e2 e3 => ?_⟩
    obtain ⟨u, r, l⟩ := hl i x v e1 e2 e3
    refine ⟨u, r, ?_⟩
    rcases l with l | ⟨k, c, e, z⟩
    · exact .inl l
    · exact .inr ⟨k, c, e, cellK x c e _ z⟩
  · obtain ⟨v, z⟩ := I.cell x c e
    exact ⟨v, cellK x c e v z⟩
  · obtain ⟨m, ⟨o, _, _, ho, _⟩, _⟩ := I.loc
    exact free _ o (fun z => (hch _ z).2.1 rfl) ho I.free
  · obtain ⟨v, o, ho, hd⟩ := I.cell x c e
    exact free c o (fun z => (hch c z).2.2.1 x c e rfl) ho (I.freeC x c e)
  · obtain ⟨e, n, ne, nf, d⟩ := I.pin p hp
    have nch : p.1 ∉ ch := fun z => (hch p.1 z).2.2.2 p hp rfl
    exact ⟨keep p.1 p.2 ne nf nch e n, free p.1 p.2 nch e n, ne, nf, d⟩
/-- .. where the frame's own object is kept too -/
theorem Inv.un {t' : Nat} (I : Inv X pins σ H s) (u : Un X.fs [] H H' s.heap h') (hok : HOk X.prog X.w H' h') : Inv X pins σ H' { s with heap := h', toks := t' } := by
  obtain ⟨m, ⟨o, es, ep, ho, r⟩, _⟩ := id I.loc
  obtain ⟨sl, hL⟩ := u.any ho I.free (by simp)
  exact I.step (g' := s.gens) (d' := s.drawn) (ch := []) (fun _ z => nomatch z) (fun b o _ hb _ e n => u.keep b o e n hb (by simp)) (fun b o _ hb _ e n => u.slot b o e n hb (by simp)) (fun b o _ e n => u.free b o e n (by simp)) (fun b o _ e => u.there b o e (by simp)) u.tups u.frzs u.tbls (fun m' hm => by
    obtain ⟨o', es', ep', ho', r'⟩ := hm
    rw [ho] at ho'; cases ho'
    exact ⟨_, es', ep', hL, r'⟩) hok I.bare
/-- behind a call (or a comprehension's block): the slots of this frame may have changed too, the records at ch may have turned -/
theorem Inv.call {g' : Array GenState} {t' : Nat} {d' : Drawn} {ch : List Addr} (I : Inv X pins σ H s) (u : Un (frs X.stack) ch H H' s.heap h') (hok : HOk X.prog X.w H' h') (hg : AllBare g')
    (hch : ∀ b ∈ ch, (b ∈ X.ex ∨ X.s₀.heap.objs.size ≤ b) ∧ b ≠ X.env.locals ∧ (∀ x c, X.env.cells.lookup x = some c → c ≠ b) ∧ ∀ p ∈ X.pn ++ pins, p.1 ≠ b) :
    Inv X pins σ H' { s with heap := h', gens := g', drawn := d', toks := t' } := by
  obtain ⟨m, ⟨o, es, ep, ho, r⟩, _⟩ := id I.loc
  obtain ⟨sl, hL⟩ := u.any ho I.free fun z => (hch _ z).2.1 rfl
  exact I.step (ch := ch) hch (fun b o hL hb hc e n => u.keep b o e n (fun z => (List.mem_cons.mp (I.stkSub b z)).elim hL hb) hc) (fun b o _ _ hc e n => u.any e n hc) (fun b o hc e n => u.free b o e n hc) (fun b o hc e => u.there b o e hc) u.tups u.frzs u.tbls (fun m' hm => by
    obtain ⟨o', es', ep', ho', r'⟩ := hm
    rw [ho] at ho'; cases ho'
    exact ⟨_, es', ep', hL, r'⟩) hok hg
/-- an untracked record of ours (an iterator) has turned -/
theorem Inv.turned {t' : Nat} {it : Addr} (I : Inv X pins σ H s) (k : ∀ b o, b ≠ it → s.heap.get? b = some o → h'.get? b = some o) (hn : H it = none) (hL : it ≠ X.env.locals)
    (h1 : it ∈ X.ex ∨ X.s₀.heap.objs.size ≤ it) (h2 : ∀ x c, X.env.cells.lookup x = some c → c ≠ it) (h3 : ∀ p ∈ X.pn ++ pins, p.1 ≠ it) : Inv X pins σ H { s with heap := h', toks := t' } := by
  have nit : ∀ b u, H b = some u → b ≠ it := fun b u e z => by rw [z, hn] at e; cases e
  refine I.step (g' := s.gens) (d' := s.drawn) (ch := [it]) (fun b hb => ?_) (fun b o _ _ hc e _ => k b o (fun z => hc (by simp [z])) e) (fun b o _ _ hc e _ => ⟨o.slots, k b o (fun z => hc (by simp [z])) e⟩) (fun _ _ _ _ n => n)
    (fun b o hc e => ⟨o, k b o (fun z => hc (by simp [z])) e⟩) (fun _ _ e => e) (fun _ _ _ e => e) (fun b ps e => ⟨#[], by rw [e]; simp⟩) (fun m hm => ?_) (fun b u e => ?_) I.bare
  · have e : b = it := by simpa using hb
    subst e
    exact ⟨h1, hL, h2, h3⟩
  · obtain ⟨o, es, ep, ho, r⟩ := hm
    exact ⟨o, es, ep, k _ o (Ne.symm hL) ho, r⟩
  · refine (I.hok b u e).stay (fun c v hc q => k c v ?_ q) (fun _ q => q) fun _ _ q => q
    rcases hc with z | z
    · rw [z]; exact nit b u e
    · exact nit c _ z
theorem Inv.tok (I : Inv X pins σ H s) (t : Nat) : Inv X pins σ H { s with toks := t } := I.un (h' := s.heap) (t' := t) Un.refl I.hok
/-- all objects kept -/
theorem Inv.kept {t' : Nat} (I : Inv X pins σ H s) (k : ∀ b u, s.heap.get? b = some u → h'.get? b = some u) : Inv X pins σ H { s with heap := h', toks := t' } := I.un (Un.kept k) (I.hok.kept k)
/-- a new object laid and tracked -/
theorem Inv.laid {a : Addr} {o : HO} {t' : Nat} (I : Inv X pins σ H s) (k : ∀ b u, s.heap.get? b = some u → h'.get? b = some u) (hp : s.heap.objs.size ≤ a) (new : ObjOk X.prog X.w (upd H a o) h' a o) :
    Inv X pins σ (upd H a o) { s with heap := h', toks := t' } := I.un (Un.laid k hp (I.hok.fresh hp)) (I.hok.laid k hp new)
/-- an object written -/
theorem Inv.write {x e : Addr} {o : HO} {t' : Nat} (I : Inv X pins σ H s) (mu : Mut (H x)) (he : e = x ∨ H e = some (.own x)) (k : ∀ b u, b ≠ e → s.heap.get? b = some u → h'.get? b = some u) (heo : ∃ u, h'.get? e = some u)
    (new : ObjOk X.prog X.w (upd H x o) h' x o) : Inv X pins σ (upd H x o) { s with heap := h', toks := t' } := I.un (Un.write mu he k heo) (I.hok.write mu he k heo new)
/-- forgetting slots, pins -/
theorem Inv.weak {σ' : List (Option V)} (I : Inv X pins σ H s) (hl : σ'.length = σ.length) (w : ∀ (i : Nat) v, σ'[i]? = some (some v) → σ[i]? = some (some v)) : Inv X pins σ' H s :=
  ⟨I.ok, I.os, I.bare, I.base, let ⟨m, hn, hl'⟩ := I.loc; ⟨m, hn, fun i x v e1 e2 e3 => hl' i x v e1 (w i v e2) e3⟩, I.cell, I.free, I.freeC, I.pin, I.hok, hl.trans I.len⟩
theorem Inv.pins_of {pins' : List (Addr × Obj)} (I : Inv X pins σ H s) (h : ∀ p ∈ pins', s.heap.get? p.1 = some p.2 ∧ H p.1 = none ∧ p.1 ≠ X.env.locals ∧ p.1 ∉ X.fs ∧ ∀ v, p.2.data ≠ .cell v) : Inv X pins' σ H s :=
  ⟨I.ok, I.os, I.bare, I.base, I.loc, I.cell, I.free, I.freeC, fun p hp => (List.mem_append.mp hp).elim (fun z => I.pin p (List.mem_append_left _ z)) (h p), I.hok, I.len⟩

theorem nodup_ix {N : List Str} (hN : N.Nodup) {i j : Nat} {x : Str} (a : N[i]? = some x) (b : N[j]? = some x) : i = j := by
  obtain ⟨h1, e1⟩ := List.getElem?_eq_some_iff.mp a
  obtain ⟨h2, e2⟩ := List.getElem?_eq_some_iff.mp b
  exact (List.getElem_inj hN).mp (e1.trans e2.symm)

/-- a name is stored; what changed -/
theorem store_ok2 {M : Model} {A : Around} {E : Value → Shared → Prop} {i : Nat} {x : Str} {v : V} {u : Value} {Q : Unit → Shared → Prop} (I : Inv X pins σ H s) (hN : X.N.Nodup) (hi : X.N[i]? = some x) (hx : Loc X.env.scope x) (r : RelV v u)
    (h : ∀ s', Inv X pins (σ.set i (some v)) H s' → (∃ a, Heap.SameBut a s.heap s'.heap ∧ (a = X.env.locals ∨ X.env.cells.lookup x = some a)) → Q () s') (hf : X.fn x = true ∨ X.env.scope.names.lookup x = some .local := by first | exact .inl rfl | exact .inr rfl | assumption) : wpAny M A (storeName X.env x u) Q E s := by
  obtain ⟨m, hn, hl⟩ := id I.loc
  have hcls : (X.env.scope.kind == .class || (X.env.scope.kind == .module && X.env.locals != X.env.globals)) = false := by rw [I.ok.kind]; rfl
  have hiσ : i < σ.length := by rw [I.len]; exact (List.getElem?_eq_some_iff.mp hi).1
  have cne := I.cne
  have tracked : ∀ {a : Addr} {h' : Heap}, (∃ o, s.heap.get? a = some o ∧ H a = none) → Heap.SameBut a s.heap h' → HOk X.prog X.w H h' := fun {a h'} ha hs b ob e => by
    obtain ⟨_, _, hfree⟩ := ha
    refine (I.hok b ob e).stay (fun c w' hc q => (hs.2 c ?_).trans q) (fun _ q => q) fun _ _ q => q
    rintro rfl
    rcases hc with rfl | hc
    · rw [hfree] at e; cases e
    · rw [hfree] at hc; cases hc
  rcases hx with hk | hk
  · refine wpAny_storeName_local hk hn (fun h' hn' hs => ?_) hcls
    obtain ⟨oL, _, _, hoL, _⟩ := id hn
    refine h _ ⟨I.ok, I.os, I.bare, ⟨fun b o e n hb hx => ?_, fun b o e n hb hx => ?_, I.base.free, fun b o e hx => ?_, I.base.tups, I.base.frzs, I.base.tbls⟩, ⟨_, hn', fun j y v' e1 e2 e3 => ?_⟩, fun y c e => ?_, I.free, I.freeC, fun p hp => ?_, tracked ⟨oL, hoL, I.free⟩ hs, by simpa using I.len⟩ ⟨_, hs, .inl rfl⟩
    · exact (hs.2 b (Nat.ne_of_lt (Nat.lt_of_lt_of_le (Heap.lt_size e) I.ok.above))).trans (I.base.keep b o e n hb hx)
    · obtain ⟨sl, e1⟩ := I.base.slot b o e n hb hx
      exact ⟨sl, (hs.2 b (Nat.ne_of_lt (Nat.lt_of_lt_of_le (Heap.lt_size e) I.ok.above))).trans e1⟩
    · obtain ⟨o', e1⟩ := I.base.there b o e hx
      exact ⟨o', (hs.2 b (Nat.ne_of_lt (Nat.lt_of_lt_of_le (Heap.lt_size e) I.ok.above))).trans e1⟩
    · by_cases hj : j = i
      · subst hj
        rw [hi] at e1; cases e1
        rw [List.getElem?_set_self hiσ] at e2
        cases e2
        exact ⟨u, r, .inl ⟨hk, by simp⟩⟩
      · rw [List.getElem?_set_ne (Ne.symm hj)] at e2
        obtain ⟨u', r', q⟩ := hl j y v' e1 e2 e3
        refine ⟨u', r', ?_⟩
        rcases q with ⟨k, e⟩ | ⟨k, c, e, z⟩
        · refine .inl ⟨k, ?_⟩
          have : y ≠ x := fun e => hj (nodup_ix hN e1 (e ▸ hi))
          simp [this, e]
        · exact .inr ⟨k, c, e, z.sameBut hs (cne y c e)⟩
    · obtain ⟨w', z⟩ := I.cell y c e
      exact ⟨w', z.sameBut hs (cne y c e)⟩
    · obtain ⟨e, n, ne, nf, d⟩ := I.pin p hp
      exact ⟨(hs.2 p.1 ne).trans e, n, ne, nf, d⟩
  · have hfn : X.fn x = true := by
      rcases hf with z | z
      · exact z
      · rw [z] at hk; cases hk
    obtain ⟨c, hc⟩ := I.ok.has x (.inl hk)
    obtain ⟨w', z⟩ := I.cell x c hc
    refine wpAny_storeName_cell I.ok.kind hk hc z (fun h' hc' hs => ?_)
    obtain ⟨oc, hoc, hocd⟩ := id z
    refine h { s with heap := h' } ⟨I.ok, I.os, I.bare, ⟨fun b o e n hb hx => ?_, fun b o e n hb hx => ?_, I.base.free, fun b o e hx => ?_, I.base.tups, I.base.frzs, I.base.tbls⟩, ⟨m, hn.sameBut hs (Ne.symm (cne x c hc)), fun j y v' e1 e2 e3 => ?_⟩, fun y c' e => ?_, I.free, I.freeC, fun p hp => ?_, tracked ⟨oc, hoc, I.freeC x c hc⟩ hs, by simpa using I.len⟩ ⟨c, hs, .inr hc⟩
    · exact (hs.2 b (Nat.ne_of_lt (Nat.lt_of_lt_of_le (Heap.lt_size e) (I.ok.cab x c hfn hc)))).trans (I.base.keep b o e n hb hx)
    · obtain ⟨sl, e1⟩ := I.base.slot b o e n hb hx
      exact ⟨sl, (hs.2 b (Nat.ne_of_lt (Nat.lt_of_lt_of_le (Heap.lt_size e) (I.ok.cab x c hfn hc)))).trans e1⟩
    · obtain ⟨o', e1⟩ := I.base.there b o e hx
      exact ⟨o', (hs.2 b (Nat.ne_of_lt (Nat.lt_of_lt_of_le (Heap.lt_size e) (I.ok.cab x c hfn hc)))).trans e1⟩
    · by_cases hj : j = i
      · subst hj
        rw [hi] at e1; cases e1
        rw [List.getElem?_set_self hiσ] at e2
        cases e2
        exact ⟨u, r, .inr ⟨.inl hk, c, hc, hc'⟩⟩
      · rw [List.getElem?_set_ne (Ne.symm hj)] at e2
        obtain ⟨u', r', q⟩ := hl j y v' e1 e2 e3
        refine ⟨u', r', ?_⟩
        rcases q with q | ⟨k, c', e, z'⟩
        · exact .inl q
        · refine .inr ⟨k, c', e, z'.sameBut hs ?_⟩
          rintro rfl
          exact hj (nodup_ix hN e1 (I.ok.inj _ _ _ e hc ▸ hi))
    · by_cases hcc : c' = c
      · subst hcc; exact ⟨_, hc'⟩
      · obtain ⟨w2, z2⟩ := I.cell y c' e
        exact ⟨w2, z2.sameBut hs hcc⟩
    · obtain ⟨e, n, ne, nf, d⟩ := I.pin p hp
      refine ⟨(hs.2 p.1 ?_).trans e, n, ne, nf, d⟩
      intro q
      rw [q, hoc] at e
      have q' : oc = p.2 := Option.some.inj e
      exact d w' (by rw [← q']; exact hocd)
theorem store_ok {M : Model} {A : Around} {E : Value → Shared → Prop} {i : Nat} {x : Str} {v : V} {u : Value} {Q : Unit → Shared → Prop} (I : Inv X pins σ H s) (hN : X.N.Nodup) (hi : X.N[i]? = some x) (hx : Loc X.env.scope x) (r : RelV v u)
    (h : ∀ s', Inv X pins (σ.set i (some v)) H s' → Q () s') (hf : X.fn x = true ∨ X.env.scope.names.lookup x = some .local := by first | exact .inl rfl | exact .inr rfl | assumption) : wpAny M A (storeName X.env x u) Q E s :=
  store_ok2 I hN hi hx r (fun s' I' _ => h s' I') hf
/-- behind a call or a block, the state as it is -/
theorem Inv.call' {s' : Shared} {ch : List Addr} (I : Inv X pins σ H s) (ho : s'.os = s.os) (u : Un (frs X.stack) ch H H' s.heap s'.heap) (hok : HOk X.prog X.w H' s'.heap) (hg : AllBare s'.gens)
    (hch : ∀ b ∈ ch, (b ∈ X.ex ∨ X.s₀.heap.objs.size ≤ b) ∧ b ≠ X.env.locals ∧ (∀ x c, X.env.cells.lookup x = some c → c ≠ b) ∧ ∀ p ∈ X.pn ++ pins, p.1 ≠ b) : Inv X pins σ H' s' := by
  obtain ⟨h', g', d', t', o'⟩ := s'
  have e : o' = s.os := ho
  subst e
  exact I.call (g' := g') (t' := t') (d' := d') u hok hg hch
end

/-! ### the judgements -/
/-- an exception: its class, its own dict's address (where it has one), the abstract heap behind it -/
abbrev XK := Value → Option Addr → Hp → Prop
abbrev St := List (Option V)
abbrev VK := V → Hp → Prop
/-- an expression's reading; a test's; an argument list's -/
abbrev TE := St → Hp → VK → Prop
abbrev TT := St → Hp → (Bool → Hp → Prop) → Prop
abbrev TA := St → Hp → (List V → Hp → Prop) → Prop
/-- what is wanted behind a statement -/
structure Ends where
  nx : St → Hp → Prop
  rt : VK
  bk : St → Hp → Prop := fun _ _ => False
  ct : St → Hp → Prop := fun _ _ => False
abbrev TS := Ends → St → Hp → Prop

def EP (X : Cx) (pins : List (Addr × Obj)) (σ : St) (Q : VK) (u : Value) (s' : Shared) : Prop := ∃ v H', Inv X pins σ H' s' ∧ RelV v u ∧ Q v H'
def TP (X : Cx) (pins : List (Addr × Obj)) (σ : St) (Q : Bool → Hp → Prop) (b : Bool) (s' : Shared) : Prop := ∃ H', Inv X pins σ H' s' ∧ Q b H'
def AP (X : Cx) (pins : List (Addr × Obj)) (σ : St) (Q : List V → Hp → Prop) (us : List Value) (s' : Shared) : Prop := ∃ vs H', Inv X pins σ H' s' ∧ Vals vs us ∧ Q vs H'
def SP (X : Cx) (pins : List (Addr × Obj)) (D : Ends) (f : Flow) (s' : Shared) : Prop :=
  match f with
  | .next => ∃ σ' H', Inv X pins σ' H' s' ∧ D.nx σ' H'
  | .brk => ∃ σ' H', Inv X pins σ' H' s' ∧ D.bk σ' H'
  | .cont => ∃ σ' H', Inv X pins σ' H' s' ∧ D.ct σ' H'
  | .ret u => ∃ v σ' H', Inv X pins σ' H' s' ∧ RelV v u ∧ D.rt v H'

def PE (X : Cx) (e : Expr) (t : TE) : Prop :=
  ∀ (pins : List (Addr × Obj)) (s : Shared) (σ : St) (H : Hp) (Q : VK), Inv X pins σ H s → t σ H Q → wpAny (model X.prog X.w) X.A (eval e X.env) (EP X pins σ Q) X.xe s
def PT (X : Cx) (e : Expr) (t : TT) : Prop :=
  ∀ (pins : List (Addr × Obj)) (s : Shared) (σ : St) (H : Hp) (Q : Bool → Hp → Prop), Inv X pins σ H s → t σ H Q → wpAny (model X.prog X.w) X.A (isTrue e X.env (eval e X.env)) (TP X pins σ Q) X.xe s
/-- a test whatever its 'whole' is (and, or) -/
def PW (X : Cx) (e : Expr) (t : TT) : Prop :=
  ∀ (whole : Sem Value) (pins : List (Addr × Obj)) (s : Shared) (σ : St) (H : Hp) (Q : Bool → Hp → Prop), Inv X pins σ H s → t σ H Q → wpAny (model X.prog X.w) X.A (isTrue e X.env whole) (TP X pins σ Q) X.xe s
theorem PW.pt {X : Cx} {e : Expr} {t : TT} (h : PW X e t) : PT X e t := h _
/-- an argument list (no star), from the left -/
def PA (X : Cx) (es : List Expr) (t : TA) : Prop :=
  ∀ (pos : Pos) (pins : List (Addr × Obj)) (s : Shared) (σ : St) (H : Hp) (Q : List V → Hp → Prop), Inv X pins σ H s → t σ H Q → wpAny (model X.prog X.w) X.A (spliced (backTo pos (starEach es X.env))) (AP X pins σ Q) X.xe s
def PS (X : Cx) (st : Stmt) (t : TS) : Prop :=
  ∀ (pins : List (Addr × Obj)) (s : Shared) (σ : St) (H : Hp) (D : Ends), Inv X pins σ H s → t D σ H → wpAny (model X.prog X.w) X.A (exec st X.env) (SP X pins D) X.xe s
def PSs (X : Cx) (st : List Stmt) (t : TS) : Prop :=
  ∀ (pins : List (Addr × Obj)) (s : Shared) (σ : St) (H : Hp) (D : Ends), Inv X pins σ H s → t D σ H → wpAny (model X.prog X.w) X.A (execs st X.env) (SP X pins D) X.xe s
/-- weaken the end -/
theorem thn {α : Type} {t : Sem α} {Q Q' : α → Shared → Prop} {M : Model} {A : Around} {E : Value → Shared → Prop} {s : Shared} (h : wpAny M A t Q E s) (hQ : ∀ a s, Q a s → Q' a s) : wpAny M A t Q' E s := wpAny_mono h hQ fun _ _ x => x
end L2

namespace L2
open PySem PySem.Spec PyProof.Rows
section
variable {X : Cx}

/-- two expressions in a row -/
theorem bin {a b : Expr} {ta tb : TE} (ha : PE X a ta) (hb : PE X b tb) {pins : List (Addr × Obj)} {s : Shared} {σ : St} {H : Hp} {R : V → V → Hp → Prop} (I : Inv X pins σ H s) (h : ta σ H fun x H1 => tb σ H1 fun y H2 => R x y H2)
    {α : Type} {Q : α → Shared → Prop} {f : Value → Value → Sem α}
    (hf : ∀ v u s2 x y H2, Inv X pins σ H2 s2 → RelV x v → RelV y u → R x y H2 → wpAny (model X.prog X.w) X.A (f v u) Q X.xe s2) :
    wpAny (model X.prog X.w) X.A (eval a X.env) (fun v s₁ => wpAny (model X.prog X.w) X.A (eval b X.env) (fun u s₂ => wpAny (model X.prog X.w) X.A (f v u) Q X.xe s₂) X.xe s₁) X.xe s := by
  refine thn (ha pins s σ H _ I h) fun v s1 ⟨x, H1, I1, r1, q1⟩ => ?_
  refine thn (hb pins s1 σ H1 _ I1 q1) fun u s2 ⟨y, H2, I2, r2, q2⟩ => ?_
  exact hf v u s2 x y H2 I2 r1 r2 q2

/-! ### names and constants -/
def tVar (i : Nat) : TE := fun σ H Q => ∃ v, σ[i]? = some (some v) ∧ Q v H
def tC (v : V) : TE := fun _ H Q => Q v H
theorem pe_var {i : Nat} {x : Str} {pos : Pos} (hN : X.N[i]? = some x) (hv : Vis X.env.scope x) (hd : (x == ("__debug__" : Str)) = false := by decide) (hcd : (x == ("__classdict__" : Str)) = false := by decide) : PE X (.Name x pos) (tVar i) := by
  intro pins s σ H Q I h
  obtain ⟨v, e, h⟩ := h
  obtain ⟨m, hn, hl⟩ := I.loc
  obtain ⟨u, r, l⟩ := hl i x v hN e hv
  have fin : EP X pins σ Q u s := ⟨v, H, I, r, h⟩
  rcases l with ⟨hk, hm⟩ | ⟨hk, c, hc, hcell⟩
  · exact wpAny_Name (wpAny_loadName_local I.ok.kind hk hn hm fin) hd
  · rcases hk with hk | hk
    · exact wpAny_Name (wpAny_loadName_cell I.ok.kind hk hc hcell fin) hd
    · exact wpAny_Name (wpAny_loadName_free I.ok.kind hk hc hcell fin hcd) hd
theorem pe_int {i j pos} : PE X (.Constant (.int i) j pos) (tC (.int i)) := fun _ _ _ H _ I h => wpAny_Constant_int ⟨.int i, H, I.tok _, ⟨_, rfl⟩, h⟩
theorem pe_bl {b j pos} : PE X (.Constant (.bool b) j pos) (tC (.bl b)) := fun _ _ _ H _ I h => Constant_bool ⟨.bl b, H, I, rfl, h⟩
theorem pe_non {j pos} : PE X (.Constant .none j pos) (tC .non) := fun _ _ _ H _ I h => Constant_none ⟨.non, H, I, rfl, h⟩
theorem pe_str {x j pos} : PE X (.Constant (.str x) j pos) (tC (.str x)) := fun _ _ _ H _ I h => Calls.Constant_str ⟨.str x, H, I.tok _, ⟨_, rfl⟩, h⟩

/-- a global name of the def -/
def Gl (X : Cx) (x : Str) : Prop := X.env.kindOf x = some .globalImplicit
theorem ld_glob {E : Value → Shared → Prop} {pins : List (Addr × Obj)} {s : Shared} {σ : St} {H : Hp} {x : Str} {u : Value} {pos : Pos} {Q : Value → Shared → Prop} (I : Inv X pins σ H s) (hg : Gl X x) (hm : X.mg x = some u) (h : Q u s)
    (hd : (x == ("__debug__" : Str)) = false := by decide) : wpAny (model X.prog X.w) X.A (eval (.Name x pos) X.env) Q E s :=
  Calls.Name_function_global I.ok.kind hg (Calls.loadGlobal_global (by rw [I.ok.glob]; exact I.mod.glob.keeps I.bk) hm h) hd
theorem ld_blt {E : Value → Shared → Prop} {pins : List (Addr × Obj)} {s : Shared} {σ : St} {H : Hp} {x : Str} {u : Value} {pos : Pos} {Q : Value → Shared → Prop} (I : Inv X pins σ H s) (hg : Gl X x) (hm : X.mg x = none) (hv : bootBuiltins x = some u) (h : Q u s)
    (hn : x ≠ "__name__" := by decide) (hd : (x == ("__debug__" : Str)) = false := by decide) : wpAny (model X.prog X.w) X.A (eval (.Name x pos) X.env) Q E s := by
  obtain ⟨mb, h1, h2⟩ := I.mod.blt
  exact Calls.Name_function_global I.ok.kind hg (Calls.loadGlobal_builtin (by rw [I.ok.glob]; exact I.mod.glob.keeps I.bk) hm (by rw [I.ok.blt]; exact h1.keeps I.bk) ((h2 x hn).trans hv) h) hd
/-- a module's constant, a class, a function, as a value -/
theorem pe_glob {x : Str} {v : V} {u : Value} {pos : Pos} (hg : Gl X x) (hm : X.mg x = some u) (r : RelV v u) (hd : (x == ("__debug__" : Str)) = false := by decide) : PE X (.Name x pos) (tC v) :=
  fun _ _ _ H _ I h => ld_glob I hg hm ⟨v, H, I, r, h⟩ hd
theorem pe_bltn {x : Str} {v : V} {u : Value} {pos : Pos} (hg : Gl X x) (hm : X.mg x = none) (hv : bootBuiltins x = some u) (r : RelV v u) (hn : x ≠ "__name__" := by decide) (hd : (x == ("__debug__" : Str)) = false := by decide) : PE X (.Name x pos) (tC v) :=
  fun _ _ _ H _ I h => ld_blt I hg hm hv ⟨v, H, I, r, h⟩ hn hd

/-! ### arithmetic -/
/-- two ints -/
def t2I (ta tb : TE) (k : Int → Int → Hp → Prop) : St → Hp → Prop := fun σ H => ta σ H fun x H1 => tb σ H1 fun y H2 => ∃ i j, x = .int i ∧ y = .int j ∧ k i j H2
def tAdd (ta tb : TE) : TE := fun σ H Q => t2I ta tb (fun i j H2 => Q (.int (i + j)) H2) σ H
def tSub (ta tb : TE) : TE := fun σ H Q => t2I ta tb (fun i j H2 => Q (.int (i - j)) H2) σ H
/-- the left factor below 2^64 -/
def tMul (ta tb : TE) : TE := fun σ H Q => t2I ta tb (fun i j H2 => (-(2 ^ 64) < i ∧ i < 2 ^ 64) ∧ Q (.int (i * j)) H2) σ H
variable {a b : Expr} {ta tb : TE} {pos : Pos}
theorem pe_add (ha : PE X a ta) (hb : PE X b tb) : PE X (.BinOp a .Add b pos) (tAdd ta tb) := by
  intro pins s σ H Q I h
  refine wpAny_BinOp (bin ha hb I h fun v u s2 x y H2 I2 rx ry q => ?_)
  obtain ⟨i, j, rfl, rfl, q⟩ := q
  obtain ⟨t, rfl⟩ := rx
  obtain ⟨t', rfl⟩ := ry
  exact add_int ⟨.int _, H2, I2.tok _, ⟨_, rfl⟩, q⟩
theorem pe_sub (ha : PE X a ta) (hb : PE X b tb) : PE X (.BinOp a .Sub b pos) (tSub ta tb) := by
  intro pins s σ H Q I h
  refine wpAny_BinOp (bin ha hb I h fun v u s2 x y H2 I2 rx ry q => ?_)
  obtain ⟨i, j, rfl, rfl, q⟩ := q
  obtain ⟨t, rfl⟩ := rx
  obtain ⟨t', rfl⟩ := ry
  exact sub_int ⟨.int _, H2, I2.tok _, ⟨_, rfl⟩, q⟩
theorem pe_mul (ha : PE X a ta) (hb : PE X b tb) : PE X (.BinOp a .Mult b pos) (tMul ta tb) := by
  intro pins s σ H Q I h
  refine wpAny_BinOp (bin ha hb I h fun v u s2 x y H2 I2 rx ry q => ?_)
  obtain ⟨i, j, rfl, rfl, ⟨q1, q2⟩, q⟩ := q
  obtain ⟨t, rfl⟩ := rx
  obtain ⟨t', rfl⟩ := ry
  exact mul_int ⟨.int _, H2, I2.tok _, ⟨_, rfl⟩, q⟩ (.of_left (intBits_le_64 q1 q2))

/-! ### comparisons -/
def PC (X : Cx) (op : CmpOp) (a b : Expr) (t : TE) : Prop :=
  ∀ (pins : List (Addr × Obj)) (s : Shared) (σ : St) (H : Hp) (Q : VK), Inv X pins σ H s → t σ H Q →
    wpAny (model X.prog X.w) X.A (eval a X.env) (fun v s₁ => wpAny (model X.prog X.w) X.A (eval b X.env) (fun u s₂ => wpAny (model X.prog X.w) X.A (compareOp op v u) (EP X pins σ Q) X.xe s₂) X.xe s₁) X.xe s
theorem nobehind (b : Expr) {op : CmpOp} (h : op ≠ .In) (h2 : op ≠ .NotIn) : behindInMarks op b = false := by
  have e1 : (op == CmpOp.In) = false := by cases op <;> first | rfl | exact absurd rfl h
  have e2 : (op == CmpOp.NotIn) = false := by cases op <;> first | rfl | exact absurd rfl h2
  cases b <;> simp [behindInMarks, e1, e2]
def tCmp (p : Int → Int → Bool) (ta tb : TE) : TE := fun σ H Q => t2I ta tb (fun i j H2 => Q (.bl (p i j)) H2) σ H
abbrev tLt : TE → TE → TE := tCmp fun i j => decide (i < j)
abbrev tLe : TE → TE → TE := tCmp fun i j => decide (i ≤ j)
abbrev tGt : TE → TE → TE := tCmp fun i j => decide (j < i)
abbrev tGe : TE → TE → TE := tCmp fun i j => decide (j ≤ i)
abbrev tEqI : TE → TE → TE := tCmp fun i j => decide (i = j)
abbrev tNeI : TE → TE → TE := tCmp fun i j => !decide (i = j)
/-- a comparison of two ints, by its rule -/
theorem pc_int {op : CmpOp} {p : Int → Int → Bool} (ha : PE X a ta) (hb : PE X b tb)
    (rule : ∀ (i j : Int) (t u : Tok) (Q : Value → Shared → Prop) (s : Shared), Q (.bool (p i j)) s → wpAny (model X.prog X.w) X.A (compareOp op (.int i t) (.int j u)) Q X.xe s) : PC X op a b (tCmp p ta tb) := by
  intro pins s σ H Q I h
  refine bin ha hb I h fun v u s2 x y H2 I2 rx ry q => ?_
  obtain ⟨i, j, rfl, rfl, q⟩ := q
  obtain ⟨t, rfl⟩ := rx
  obtain ⟨t', rfl⟩ := ry
  exact rule i j t t' _ s2 ⟨.bl _, H2, I2, rfl, q⟩
theorem pc_lt (ha : PE X a ta) (hb : PE X b tb) : PC X .Lt a b (tLt ta tb) := pc_int ha hb fun _ _ _ _ _ _ h => lt_int h
theorem pc_le (ha : PE X a ta) (hb : PE X b tb) : PC X .LtE a b (tLe ta tb) := pc_int ha hb fun _ _ _ _ _ _ h => le_int h
theorem pc_gt (ha : PE X a ta) (hb : PE X b tb) : PC X .Gt a b (tGt ta tb) := pc_int ha hb fun _ _ _ _ _ _ h => gt_int h
theorem pc_ge (ha : PE X a ta) (hb : PE X b tb) : PC X .GtE a b (tGe ta tb) := pc_int ha hb fun _ _ _ _ _ _ h => ge_int h
theorem pc_eqI (ha : PE X a ta) (hb : PE X b tb) : PC X .Eq a b (tEqI ta tb) := pc_int ha hb fun _ _ _ _ _ _ h => eq_int (by rw [Bool.beq_eq_decide_eq]; exact h)
theorem pc_neI (ha : PE X a ta) (hb : PE X b tb) : PC X .NotEq a b (tNeI ta tb) := pc_int ha hb fun _ _ _ _ _ _ h => ne_int (by rw [bne, Bool.beq_eq_decide_eq]; exact h)
/-- is None -/
def tIsN (ta : TE) : TE := fun σ H Q => ta σ H fun x H1 => Q (.bl (decide (x = .non))) H1
def tNotN (ta : TE) : TE := fun σ H Q => ta σ H fun x H1 => Q (.bl (!decide (x = .non))) H1
theorem RelV.none_iff {x : V} {v : Value} (r : RelV x v) : (v == Value.none) = decide (x = .non) := by
  cases x with
  | non => cases r; rfl
  | bl _ => cases r; rfl
  | int _ => obtain ⟨t, rfl⟩ := r; rfl
  | str _ => obtain ⟨t, rfl⟩ := r; rfl
  | byt _ => obtain ⟨t, rfl⟩ := r; rfl
  | flt _ => obtain ⟨t, rfl⟩ := r; rfl
  | ref _ => cases r; rfl
  | ty _ => cases r; rfl
theorem pc_isN {j pos'} (ha : PE X a ta) : PC X .Is a (.Constant .none j pos') (tIsN ta) := by
  intro pins s σ H Q I h
  refine thn (ha pins s σ H _ I h) fun v s1 ⟨x, H1, I1, r1, q1⟩ => ?_
  exact Constant_none (is_none_gen ⟨.bl _, H1, I1, by rw [r1.none_iff]; rfl, q1⟩)
theorem pc_notN {j pos'} (ha : PE X a ta) : PC X .IsNot a (.Constant .none j pos') (tNotN ta) := by
  intro pins s σ H Q I h
  refine thn (ha pins s σ H _ I h) fun v s1 ⟨x, H1, I1, r1, q1⟩ => ?_
  exact Constant_none (isnot_none_gen ⟨.bl _, H1, I1, by rw [r1.none_iff]; rfl, q1⟩)
/-- a comparison as a value, as a test -/
def tB (t : TE) : TT := fun σ H Q => t σ H fun x H1 => ∃ c, x = .bl c ∧ Q c H1
theorem pe_cmp {op : CmpOp} {t : TE} (h : PC X op a b t) (h1 : behindInMarks op b = false := by first | exact nobehind _ (by decide) (by decide) | rfl) : PE X (.Compare a [op] [b] pos) t := fun pins s σ H Q I hw => wpAny_Compare1 (h pins s σ H Q I hw) h1
theorem pt_cmp {op : CmpOp} {t : TE} (h : PC X op a b t) (h1 : behindInMarks op b = false := by first | exact nobehind _ (by decide) (by decide) | rfl) : PT X (.Compare a [op] [b] pos) (tB t) := by
  intro pins s σ H Q I hw
  refine wpAny_isTrue_Compare1 (thn (h pins s σ H _ I hw) fun v s1 h1 => thn h1 fun u s2 h2 => thn h2 fun c s3 ⟨x, H1, I1, r1, q1⟩ => ?_) h1
  obtain ⟨d, rfl, q⟩ := q1
  cases r1
  exact wpAny_truthy_bool ⟨H1, I1, q⟩
/-- an expression whose value is a bool, as a test -/
theorem pt_val {e : Expr} {t : TE} (h : PE X e t) (he : ∀ whole, isTrue e X.env whole = (do let v ← whole; standAt e.pos; holding [v] (truthy v)) := by intro _; rfl) : PT X e (tB t) := by
  intro pins s σ H Q I hw
  refine isTrue_plain (thn (h pins s σ H _ I hw) fun v s1 ⟨x, H1, I1, r1, q1⟩ => ?_) (he _)
  obtain ⟨d, rfl, q⟩ := q1
  cases r1
  exact wpAny_truthy_bool ⟨H1, I1, q⟩

/-! ### and, or, not -/
variable {tA tB' : TT} {rest : List Expr}
def tAnd (t u : TT) : TT := fun σ H Q => t σ H fun c H1 => if c = true then u σ H1 Q else Q false H1
def tOr (t u : TT) : TT := fun σ H Q => t σ H fun c H1 => if c = true then Q true H1 else u σ H1 Q
def tNot (t : TT) : TT := fun σ H Q => t σ H fun c H1 => Q (!c) H1
theorem pw_and1 (ha : PT X a tA) : PW X (.BoolOp .And [a] pos) tA := by
  intro wh pins s σ H Q I h
  refine isTrue_and (thn (ha pins s σ H Q I h) fun c s1 e => ?_)
  cases c with
  | true => exact isTrue_and_nil e
  | false => exact e
theorem pw_or1 (ha : PT X a tA) : PW X (.BoolOp .Or [a] pos) tA := by
  intro wh pins s σ H Q I h
  refine isTrue_or (thn (ha pins s σ H Q I h) fun c s1 e => ?_)
  cases c with
  | false => exact isTrue_or_nil e
  | true => exact e
theorem pw_and (ha : PT X a tA) (hb : PW X (.BoolOp .And (b :: rest) pos) tB') : PW X (.BoolOp .And (a :: b :: rest) pos) (tAnd tA tB') := by
  intro wh pins s σ H Q I h
  refine isTrue_and (thn (ha pins s σ H _ I h) fun c s1 ⟨H1, I1, q1⟩ => ?_)
  cases c with
  | true => exact hb wh pins s1 σ H1 Q I1 q1
  | false => exact ⟨H1, I1, q1⟩
theorem pw_or (ha : PT X a tA) (hb : PW X (.BoolOp .Or (b :: rest) pos) tB') : PW X (.BoolOp .Or (a :: b :: rest) pos) (tOr tA tB') := by
  intro wh pins s σ H Q I h
  refine isTrue_or (thn (ha pins s σ H _ I h) fun c s1 ⟨H1, I1, q1⟩ => ?_)
  cases c with
  | true => exact ⟨H1, I1, q1⟩
  | false => exact hb wh pins s1 σ H1 Q I1 q1
theorem pt_not (ha : PT X a tA) : PT X (.UnaryOp .Not a pos) (tNot tA) := by
  intro pins s σ H Q I h
  exact isTrue_not (ha pins s σ H (fun c H1 => Q (!c) H1) I h)
/-- .. as values (bools) -/
def tAndV (ta tb : TE) : TE := fun σ H Q => ta σ H fun x H1 => ∃ c, x = .bl c ∧ if c = true then tb σ H1 Q else Q (.bl false) H1
def tOrV (ta tb : TE) : TE := fun σ H Q => ta σ H fun x H1 => ∃ c, x = .bl c ∧ if c = true then Q (.bl true) H1 else tb σ H1 Q
def tNotV (ta : TE) : TE := fun σ H Q => ta σ H fun x H1 => ∃ c, x = .bl c ∧ Q (.bl (!c)) H1
theorem pe_one {op} {t : TE} (h : PE X a t) : PE X (.BoolOp op [a] pos) t := fun pins s σ H Q I hw => BoolOp_one (h pins s σ H Q I hw)
theorem pe_and (ha : PE X a ta) (hb : PE X (.BoolOp .And (b :: rest) pos) tb) : PE X (.BoolOp .And (a :: b :: rest) pos) (tAndV ta tb) := by
  intro pins s σ H Q I h
  refine BoolOp_and (thn (ha pins s σ H _ I h) fun v s1 ⟨x, H1, I1, r1, q1⟩ => ?_)
  obtain ⟨c, rfl, q1⟩ := q1
  cases r1
  refine wpAny_truthy_bool ?_
  cases c with
  | true => exact hb pins s1 σ H1 Q I1 q1
  | false => exact ⟨.bl false, H1, I1, rfl, q1⟩
theorem pe_or (ha : PE X a ta) (hb : PE X (.BoolOp .Or (b :: rest) pos) tb) : PE X (.BoolOp .Or (a :: b :: rest) pos) (tOrV ta tb) := by
  intro pins s σ H Q I h
  refine BoolOp_or (thn (ha pins s σ H _ I h) fun v s1 ⟨x, H1, I1, r1, q1⟩ => ?_)
  obtain ⟨c, rfl, q1⟩ := q1
  cases r1
  refine wpAny_truthy_bool ?_
  cases c with
  | false => exact hb pins s1 σ H1 Q I1 q1
  | true => exact ⟨.bl true, H1, I1, rfl, q1⟩
theorem pe_not (ha : PE X a ta) : PE X (.UnaryOp .Not a pos) (tNotV ta) := by
  intro pins s σ H Q I h
  refine UnaryOp_ (thn (ha pins s σ H _ I h) fun v s1 ⟨x, H1, I1, r1, q1⟩ => ?_)
  obtain ⟨c, rfl, q1⟩ := q1
  cases r1
  exact not_of (wpAny_truthy_bool ⟨.bl (!c), H1, I1, rfl, q1⟩)
/-- a if t else b -/
def tIf (t : TT) (ta tb : TE) : TE := fun σ H Q => t σ H fun c H1 => if c = true then ta σ H1 Q else tb σ H1 Q
theorem pe_ifExp {c : Expr} (hc : PT X c tA) (ha : PE X a ta) (hb : PE X b tb) : PE X (.IfExp c a b pos) (tIf tA ta tb) := by
  intro pins s σ H Q I h
  refine wpAny_IfExp (thn (hc pins s σ H _ I h) fun d s1 ⟨H1, I1, q1⟩ => ?_)
  cases d with
  | true => exact ha pins s1 σ H1 Q I1 q1
  | false => exact hb pins s1 σ H1 Q I1 q1
end
end L2

namespace L2
open PySem PySem.Spec PyProof.Rows

/-! ### a list, a tuple that is read: tracked, frozen, or an object of the module -/
def SqL (K : PySem.W.Frag) (H : Hp) (a : Addr) (xs : List V) : Prop :=
  Rd H a (.lst xs) ∨
    ∃ (o : Obj) (its : Array Value) (n : Nat), K.lookup a = some o ∧ o.cls = .type "list" ∧ o.dict = none ∧ o.data = .seq its n ∧ its.size ≤ sizeLine ∧ Vals xs its.toList
def SqT (K : PySem.W.Frag) (H : Hp) (a : Addr) (xs : List V) : Prop :=
  Rd H a (.tup xs) ∨
    ∃ (o : Obj) (its : Array Value) (n : Nat), K.lookup a = some o ∧ o.cls = .type "tuple" ∧ o.data = .seq its n ∧ its.size ≤ sizeLine ∧ Vals xs its.toList
def absV : Value → Option V
  | .none => some .non
  | .bool b => some (.bl b)
  | .int i _ => some (.int i)
  | .str x _ => some (.str x)
  | .bytes b _ => some (.byt b)
  | .float b _ => some (.flt b)
  | .ref a => some (.ref a)
  | .type n => some (.ty n)
  | _ => none
theorem RelV.abs {x : V} {u : Value} (r : RelV x u) : absV u = some x := by
  cases x with
  | non => cases r; rfl
  | bl _ => cases r; rfl
  | int _ => obtain ⟨t, rfl⟩ := r; rfl
  | str _ => obtain ⟨t, rfl⟩ := r; rfl
  | byt _ => obtain ⟨t, rfl⟩ := r; rfl
  | flt _ => obtain ⟨t, rfl⟩ := r; rfl
  | ref _ => cases r; rfl
  | ty _ => cases r; rfl
theorem RelV.inj {x y : V} {u : Value} (r : RelV x u) (q : RelV y u) : x = y := Option.some.inj (r.abs.symm.trans q.abs)
theorem Vals.inj : ∀ {xs ys : List V} {us : List Value}, Vals xs us → Vals ys us → xs = ys
  | _, _, _, .nil, .nil => rfl
  | _, _, _, .cons r t, .cons r' t' => by rw [r.inj r', Vals.inj t t']
section
variable {X : Cx} {pins : List (Addr × Obj)} {σ : St} {H : Hp} {s : Shared} {a : Addr} {xs ys : List V}
theorem SqL.of {K : PySem.W.Frag} (h : H a = some (.lst xs)) : SqL K H a xs := .inl (.inl h)
theorem SqT.of {K : PySem.W.Frag} (h : H a = some (.tup xs)) : SqT K H a xs := .inl (.inl h)
theorem Inv.list (I : Inv X pins σ H s) (h : SqL X.K H a xs) : ∃ its : List Value, Vals xs its ∧ PlainL s.heap a its.toArray ∧ xs.length ≤ sizeLine := by
  rcases h with h | ⟨o, its, n, hk, hc, hd, hs, hz, r⟩
  · obtain ⟨z, its, n, r, e⟩ := h.ok I.hok
    exact ⟨its, r, ⟨_, n, e, rfl, rfl, rfl⟩, z⟩
  · refine ⟨its.toList, r, ⟨o, n, I.kIn a o hk, hc, hd, by simpa using hs⟩, ?_⟩
    have e := r.length
    simp only [Array.length_toList] at e
    omega
theorem Inv.tuple (I : Inv X pins σ H s) (h : SqT X.K H a xs) : ∃ its : List Value, Vals xs its ∧ IsTup s.heap a its.toArray ∧ xs.length ≤ sizeLine := by
  rcases h with h | ⟨o, its, n, hk, hc, hs, hz, r⟩
  · obtain ⟨z, its, r, p⟩ := h.ok I.hok
    exact ⟨its, r, p, z⟩
  · refine ⟨its.toList, r, ⟨o, I.kIn a o hk, hc, n, by simpa using hs⟩, ?_⟩
    have e := r.length
    simp only [Array.length_toList] at e
    omega
theorem Inv.list_inj (I : Inv X pins σ H s) (h : SqL X.K H a xs) (h' : SqL X.K H a ys) : xs = ys := by
  obtain ⟨its, r, ⟨o, n, e, _, _, d⟩, _⟩ := I.list h
  obtain ⟨its', r', ⟨o', n', e', _, _, d'⟩, _⟩ := I.list h'
  rw [e] at e'; cases e'
  rw [d] at d'
  injection d' with d1 _
  have : its = its' := by simpa using congrArg Array.toList d1
  subst this
  exact r.inj r'
theorem Inv.tuple_inj (I : Inv X pins σ H s) (h : SqT X.K H a xs) (h' : SqT X.K H a ys) : xs = ys := by
  obtain ⟨its, r, ⟨o, e, _, n, d⟩, _⟩ := I.tuple h
  obtain ⟨its', r', ⟨o', e', _, n', d'⟩, _⟩ := I.tuple h'
  rw [e] at e'; cases e'
  rw [d] at d'
  injection d' with d1 _
  have : its = its' := by simpa using congrArg Array.toList d1
  subst this
  exact r.inj r'
end

/-! ### another wish about exceptions -/
abbrev Cx.wish (X : Cx) (E : Value → Shared → Prop) : Cx := { X with xe := E }
/-- no exception leaves -/
abbrev Cx.nox (X : Cx) : Cx := X.wish fun _ _ => False
theorem Cx.Ok.wish {X : Cx} (ok : X.Ok) (E : Value → Shared → Prop) : (X.wish E).Ok :=
  ⟨ok.mod, ok.kind, ok.glob, ok.blt, ok.above, ok.inj, ok.has, ok.cab, ok.hd, ok.frames, ok.stk, ok.exf, ok.bs, ok.bsz, ok.noex, ok.exfs, ok.funs, ok.frf⟩
theorem Cx.Ok.unwish {X : Cx} {E : Value → Shared → Prop} (ok : (X.wish E).Ok) : X.Ok :=
  ⟨ok.mod, ok.kind, ok.glob, ok.blt, ok.above, ok.inj, ok.has, ok.cab, ok.hd, ok.frames, ok.stk, ok.exf, ok.bs, ok.bsz, ok.noex, ok.exfs, ok.funs, ok.frf⟩
section
variable {X : Cx} {pins : List (Addr × Obj)} {σ : St} {H : Hp} {s : Shared} {E : Value → Shared → Prop}
theorem Inv.wish (I : Inv X pins σ H s) (E : Value → Shared → Prop) : Inv (X.wish E) pins σ H s := ⟨I.ok.wish E, I.os, I.bare, I.base, I.loc, I.cell, I.free, I.freeC, I.pin, I.hok, I.len⟩
theorem Inv.unwish (I : Inv (X.wish E) pins σ H s) : Inv X pins σ H s := ⟨I.ok.unwish, I.os, I.bare, I.base, I.loc, I.cell, I.free, I.freeC, I.pin, I.hok, I.len⟩
theorem SP.unwish {D : Ends} {f : Flow} {s' : Shared} (h : SP (X.wish E) pins D f s') : SP X pins D f s' := by
  cases f with
  | next => obtain ⟨σ', H', I, q⟩ := h; exact ⟨σ', H', I.unwish, q⟩
  | brk => obtain ⟨σ', H', I, q⟩ := h; exact ⟨σ', H', I.unwish, q⟩
  | cont => obtain ⟨σ', H', I, q⟩ := h; exact ⟨σ', H', I.unwish, q⟩
  | ret u => obtain ⟨v, σ', H', I, r, q⟩ := h; exact ⟨v, σ', H', I.unwish, r, q⟩
theorem PE.nox {e : Expr} {t : TE} (h : PE X.nox e t) : PE X e t := fun pins s σ H Q I hw =>
  wpAny_mono (h pins s σ H Q (I.wish _) hw) (fun _ _ ⟨v, H', I', r, q⟩ => ⟨v, H', I'.unwish, r, q⟩) fun _ _ z => False.elim z
theorem PT.nox {e : Expr} {t : TT} (h : PT X.nox e t) : PT X e t := fun pins s σ H Q I hw =>
  wpAny_mono (h pins s σ H Q (I.wish _) hw) (fun _ _ ⟨H', I', q⟩ => ⟨H', I'.unwish, q⟩) fun _ _ z => False.elim z
theorem PSs.nox {st : List Stmt} {t : TS} (h : PSs X.nox st t) : PSs X st t := fun pins s σ H D I hw =>
  wpAny_mono (h pins s σ H D (I.wish _) hw) (fun _ _ q => q.unwish) fun _ _ z => False.elim z
end

/-! ### blocks and small statements -/
section
variable {X : Cx} {st : Stmt} {rest : List Stmt} {t u : TS} {e : Expr} {te : TE} {pos : Pos}
def tNext : TS := fun D σ H => D.nx σ H
def tSeq (t u : TS) : TS := fun D σ H => t { D with nx := u D } σ H
theorem pss_nil : PSs X [] tNext := fun _ _ σ H _ I h => wpAny_execs_nil ⟨σ, H, I, h⟩
theorem pss_cons (h1 : PS X st t) (h2 : PSs X rest u) : PSs X (st :: rest) (tSeq t u) := by
  intro pins s σ H D I h
  refine wpAny_execs_cons (thn (h1 pins s σ H { D with nx := u D } I h) fun f s1 q => ?_)
  cases f with
  | next =>
    obtain ⟨σ', H', I', q⟩ := q
    exact h2 pins s1 σ' H' D I' q
  | ret v => exact q
  | brk => exact q
  | cont => exact q
theorem pss_one (h1 : PS X st t) : PSs X [st] t := by
  intro pins s σ H D I h
  refine wpAny_execs_cons (thn (h1 pins s σ H D I h) fun f s1 q => ?_)
  cases f with
  | next => exact wpAny_execs_nil q
  | ret v => exact q
  | brk => exact q
  | cont => exact q
def tBreak : TS := fun D σ H => D.bk σ H
def tCont : TS := fun D σ H => D.ct σ H
theorem ps_pass : PS X (.Pass pos) tNext := fun _ _ σ H _ I h => wpAny_Pass ⟨σ, H, I, h⟩
theorem ps_break : PS X (.Break pos) tBreak := fun _ _ σ H _ I h => wpAny_Break ⟨σ, H, I, h⟩
theorem ps_continue : PS X (.Continue pos) tCont := fun _ _ σ H _ I h => wpAny_Continue ⟨σ, H, I, h⟩
/-- in a def's body nothing is shown -/
theorem Inv.quiet {pins : List (Addr × Obj)} {σ : St} {H : Hp} {s : Shared} (I : Inv X pins σ H s) : interactive X.env = false := by simp [interactive, I.ok.kind]
/-- a docstring -/
theorem ps_doc {x j pos pos'} : PS X (.Expr (.Constant (.str x) j pos) pos') tNext := fun _ s σ H _ I h => wpAny_Expr (Calls.Constant_str (show SP X _ _ .next { s with toks := s.toks + 1 } from ⟨σ, H, I.tok _, h⟩)) I.quiet
/-- an expression whose value is dropped -/
def tDrop (te : TE) : TS := fun D σ H => te σ H fun _ H1 => D.nx σ H1
theorem ps_expr (he : PE X e te) (hs : swapsWith e none pos.line X.env = pure false := by rfl) : PS X (.Expr e pos) (tDrop te) := by
  intro pins s σ H D I h
  exact wpAny_Expr_any (thn (he pins s σ H _ I h) fun v s1 ⟨x, H1, I1, r1, q1⟩ => ⟨σ, H1, I1, q1⟩) I.quiet hs
def tRet (te : TE) : TS := fun D σ H => te σ H D.rt
theorem ps_ret (he : PE X e te) : PS X (.Return (some e) pos) (tRet te) := by
  intro pins s σ H D I h
  exact wpAny_Return_some (thn (he pins s σ H _ I h) fun v s1 ⟨x, H1, I1, r1, q1⟩ => ⟨x, σ, H1, I1, r1, q1⟩)
def tRetN : TS := fun D _ H => D.rt .non H
theorem ps_retN : PS X (.Return none pos) tRetN := fun _ _ σ H _ I h => wpAny_Return_none ⟨.non, σ, H, I, rfl, h⟩
def tIfS (c : TT) (t u : TS) : TS := fun D σ H => c σ H fun b H1 => if b = true then t D σ H1 else u D σ H1
theorem ps_if {c : Expr} {a b : List Stmt} {tc : TT} (hc : PT X c tc) (ha : PSs X a t) (hb : PSs X b u) : PS X (.If c a b pos) (tIfS tc t u) := by
  intro pins s σ H D I h
  refine wpAny_If (thn (hc pins s σ H _ I h) fun d s1 ⟨H1, I1, q1⟩ => ?_)
  cases d with
  | true => exact ha pins s1 σ H1 D I1 q1
  | false => exact hb pins s1 σ H1 D I1 q1
/-- code that the proof never comes to -/
def tNever : TS := fun _ _ _ => False
theorem ps_never : PS X st tNever := fun _ _ _ _ _ _ h => h.elim
theorem pss_never {sts : List Stmt} : PSs X sts tNever := fun _ _ _ _ _ _ h => h.elim
end

/-! ### targets -/
abbrev TG := V → St → Hp → (St → Hp → Prop) → Prop
abbrev TGs := List V → St → Hp → (St → Hp → Prop) → Prop
def PG (X : Cx) (target : Expr) (t : TG) : Prop :=
  ∀ (pins : List (Addr × Obj)) (s : Shared) (σ : St) (H : Hp) (v : V) (u : Value) (Q : St → Hp → Prop), Inv X pins σ H s → RelV v u → t v σ H Q →
    wpAny (model X.prog X.w) X.A (assign target X.env u) (fun _ s' => ∃ σ' H', Inv X pins σ' H' s' ∧ Q σ' H') X.xe s
/-- several targets, one after another -/
def PGs (X : Cx) (ts : List Expr) (t : TGs) : Prop :=
  ∀ (pins : List (Addr × Obj)) (s : Shared) (σ : St) (H : Hp) (vs : List V) (us : List Value) (Q : St → Hp → Prop), Inv X pins σ H s → Vals vs us → t vs σ H Q →
    wpAny (model X.prog X.w) X.A (assignInOrder ((assignEach ts X.env).map (·.2)) us) (fun _ s' => ∃ σ' H', Inv X pins σ' H' s' ∧ Q σ' H') X.xe s
/-- o[i] = v, by values -/
abbrev TSet := V → V → V → Hp → (Hp → Prop) → Prop
def PSet (X : Cx) (t : TSet) : Prop :=
  ∀ (pins : List (Addr × Obj)) (s : Shared) (σ : St) (H : Hp) (o i v : V) (ov iv u : Value) (Q : Hp → Prop), Inv X pins σ H s → RelV o ov → RelV i iv → RelV v u → t o i v H Q →
    wpAny (model X.prog X.w) X.A (setItem ov iv u) (fun _ s' => ∃ H', Inv X pins σ H' s' ∧ Q H') X.xe s
/-- a op= b, by values -/
abbrev TIp := V → V → Hp → VK → Prop
def PIp (X : Cx) (op : Operator) (t : TIp) : Prop :=
  ∀ (pins : List (Addr × Obj)) (s : Shared) (σ : St) (H : Hp) (x y : V) (v u : Value) (Q : VK), Inv X pins σ H s → RelV x v → RelV y u → t x y H Q →
    wpAny (model X.prog X.w) X.A (inplaceOp op v u) (EP X pins σ Q) X.xe s
section
variable {X : Cx} {pos : Pos}
def gName (i : Nat) : TG := fun v σ H Q => Q (σ.set i (some v)) H
theorem pg_name {i : Nat} {x : Str} (hN : X.N.Nodup) (hi : X.N[i]? = some x) (hx : Loc X.env.scope x) (hf : X.fn x = true ∨ X.env.scope.names.lookup x = some .local := by first | exact .inl rfl | exact .inr rfl | assumption) : PG X (.Name x pos) (gName i) := by
  intro pins s σ H v u Q I r h
  exact wpAny_assign_Name (store_ok I hN hi hx r (fun s' I' => ⟨_, H, I', h⟩) hf)
def gNil : TGs := fun vs σ H Q => vs = [] ∧ Q σ H
def gCons (t : TG) (u : TGs) : TGs := fun vs σ H Q => ∃ v r, vs = v :: r ∧ t v σ H fun σ' H' => u r σ' H' Q
theorem pgs_nil : PGs X [] gNil := by
  intro pins s σ H vs us Q I r h
  obtain ⟨e, h⟩ := h
  subst e
  cases r
  exact assignInOrder_nil ⟨σ, H, I, h⟩
theorem pgs_cons {e : Expr} {es : List Expr} {t : TG} {u : TGs} (h1 : PG X e t) (h2 : PGs X es u)
    (hs : (assignEach (e :: es) X.env).map (·.2) = assign e X.env :: (assignEach es X.env).map (·.2) := by rfl) : PGs X (e :: es) (gCons t u) := by
  intro pins s σ H vs us Q I r h
  obtain ⟨v, vr, e1, h⟩ := h
  subst e1
  cases r with
  | cons r rr =>
    rw [hs]
    refine assignInOrder_cons (thn (h1 pins s σ H _ _ _ I r h) fun _ s1 ⟨σ1, H1, I1, q1⟩ => ?_)
    exact h2 pins s1 σ1 H1 _ _ Q I1 rr q1
/-- (a, b, ..) = a tuple of that length -/
def gTup (K : PySem.W.Frag) (n : Nat) (t : TGs) : TG := fun v σ H Q => ∃ a xs, v = .ref a ∧ SqT K H a xs ∧ xs.length = n ∧ t xs σ H Q
theorem pg_tup {es : List Expr} {k : Nat} {t : TGs} {n : Nat} (hc : X.calm = true) (h : PGs X es t)
    (hn : (assignEach es X.env).length = n := by rfl) (hst : (assignEach es X.env).findIdx? (·.1) = none := by rfl) : PG X (.Tuple es k pos) (gTup X.K n t) := by
  intro pins s σ H v u Q I r hw
  obtain ⟨a, xs, e1, hq, hl, hw⟩ := hw
  subst e1
  cases r
  obtain ⟨its, rv, ht, hz⟩ := I.tuple hq
  refine assign_Tuple_tuple (I.ok.hd hc) ht (by simp [hn, ← hl, rv.length]) hst fun h' hx => ?_
  have I1 : Inv X pins σ H { s with heap := h' } := I.kept (t' := s.toks) fun b o e => hx b o (Nat.ne_of_lt (Heap.lt_size e)) e
  exact h pins _ σ H xs _ Q I1 (by simpa using rv) hw
/-- o[i] = .. -/
def gSub (to ti : TE) (t : TSet) : TG := fun v σ H Q => to σ H fun o H1 => ti σ H1 fun i H2 => t o i v H2 fun H3 => Q σ H3
theorem pg_sub {o i : Expr} {to ti : TE} {t : TSet} (ho : PE X o to) (hi : PE X i ti) (hs : PSet X t)
    (ha : ∀ v, assign (.Subscript o i pos) X.env v = (do
      let ov ← holding [v] (eval o X.env)
      let iv ← holding [v, ov] (eval i X.env)
      standAt pos
      holding [v, ov, iv] (setItem ov iv v)
      release [v, ov, iv] []) := by intro _; rfl) : PG X (.Subscript o i pos) (gSub to ti t) := by
  intro pins s σ H v u Q I r h
  rw [ha]
  refine wpAny_bind (wpAny_holding (thn (ho pins s σ H _ I h) fun ov s1 ⟨x, H1, I1, r1, q1⟩ => ?_))
  refine wpAny_bind (wpAny_holding (thn (hi pins s1 σ H1 _ I1 q1) fun iv s2 ⟨y, H2, I2, r2, q2⟩ => ?_))
  refine wpAny_bind (wpAny_standAt (wpAny_bind (wpAny_holding (thn (hs pins s2 σ H2 x y v ov iv u _ I2 r1 r2 r q2) fun _ s3 ⟨H3, I3, q3⟩ => ?_))))
  exact wpAny_release ⟨σ, H3, I3, q3⟩
/-- target = value -/
def tAsg (te : TE) (g : TG) : TS := fun D σ H => te σ H fun x H1 => g x σ H1 D.nx
theorem ps_asg {tg e : Expr} {te : TE} {g : TG} (he : PE X e te) (hg : PG X tg g) (hs : swapsWithSole [tg] e pos.line X.env = pure false := by rfl) (hw : swappedStores [tg] e X.env = pure none := by rfl)
    (h1 : (assignEach [tg] X.env).map (·.2) = [assign tg X.env] := by rfl) : PS X (.Assign [tg] e pos) (tAsg te g) := by
  intro pins s σ H D I h
  refine wpAny_Assign_stores (thn (he pins s σ H _ I h) fun v s1 ⟨x, H1, I1, r1, q1⟩ => ?_) hs hw
  rw [h1]
  exact thn (hg pins s1 σ H1 x v _ I1 r1 q1) fun _ s2 q => q
/-- name = value -/
theorem ps_set {i : Nat} {x : Str} {e : Expr} {te : TE} {pos' : Pos} (hN : X.N.Nodup) (hi : X.N[i]? = some x) (hx : Loc X.env.scope x) (he : PE X e te) (hs : swapsWith e (some (.Name x pos')) pos.line X.env = pure false := by rfl) (hf : X.fn x = true ∨ X.env.scope.names.lookup x = some .local := by first | exact .inl rfl | exact .inr rfl | assumption) :
    PS X (.Assign [.Name x pos'] e pos) (tAsg te (gName i)) := by
  intro pins s σ H D I h
  refine wpAny_Assign_Name (thn (he pins s σ H _ I h) fun v s1 ⟨y, H1, I1, r1, q1⟩ => ?_) hs
  exact store_ok I1 hN hi hx r1 (fun s2 I2 => ⟨_, H1, I2, q1⟩) hf
/-- a, b = x, y with plain local names: stored from the right; the pair itself is not tracked (the opening rows as in PyProof/Rows/TupAssign.lean:23) -/
def tPar (i j : Nat) (ta : TA) : TS := fun D σ H => ta σ H fun vs H1 => ∃ v w, vs = [v, w] ∧ D.nx ((σ.set i (some v)).set j (some w)) H1
theorem ps_par {i j : Nat} {x y : Str} {a b : Expr} {ta : TA} {px py pt : Pos} {kt k2 pt2} (hc : X.calm = true) (hN : X.N.Nodup) (hi : X.N[i]? = some x) (hj : X.N[j]? = some y) (hij : i ≠ j)
    (hx : X.env.scope.names.lookup x = some .local) (hy : X.env.scope.names.lookup y = some .local) (ha : PA X [a, b] ta)
    (hw : swappedStores [.Tuple [.Name x px, .Name y py] kt pt] (.Tuple [a, b] k2 pt2) X.env = pure (some [x, y]))
    (hs : swapsWithSole [.Tuple [.Name x px, .Name y py] kt pt] (.Tuple [a, b] k2 pt2) pos.line X.env = pure false := by rfl) :
    PS X (.Assign [.Tuple [.Name x px, .Name y py] kt pt] (.Tuple [a, b] k2 pt2) pos) (tPar i j ta) := by
  intro pins s σ H D I h
  rw [exec_Assign_arm]
  refine wpAny_bind (wpAny_standAt ?_)
  rw [hs]
  refine wpAny_bind (wpAny_pure ?_)
  rw [if_neg (by decide)]
  refine wpAny_bind (Tuple_ (thn (ha _ pins s σ H _ I h) fun us s1 ⟨vs, H1, I1, r1, q1⟩ => ?_))
  obtain ⟨v, w, e1, q1⟩ := q1
  subst e1
  obtain ⟨u1, u2, rfl, rv, rw'⟩ : ∃ u1 u2, us = [u1, u2] ∧ RelV v u1 ∧ RelV w u2 := by
    cases r1 with
    | cons p q =>
      cases q with
      | cons p' q' =>
        cases q'
        exact ⟨_, _, rfl, p, p'⟩
  refine wpAny_newObj_type ?_ (by show 2 ≤ sizeLine; decide)
  have I2 : Inv X pins σ H1 { s1 with heap := s1.heap.push { cls := .type "tuple", data := .seq [u1, u2].toArray } } := I1.kept (t' := s1.toks) fun b o e => Heap.get?_push_of_some _ e
  rw [hw]
  refine wpAny_bind (wpAny_pure ?_)
  show wpAny (model X.prog X.w) X.A (do rule "assign.swapped-stores"; let items ← unpackItems (.ref s1.heap.objs.size) 2 none; assignInOrder [fun v => bindName X.env y v, fun v => bindName X.env x v] items.reverse; pure Flow.next) _ _ _
  refine wpAny_bind (wpAny_rule (wpAny_bind (unpackItems_tuple (items := #[u1, u2]) (I.ok.hd hc) (IsTup.new s1.heap _) fun h' hx' => ?_)))
  have I3 := I2.kept (h' := h') (t' := s1.toks) fun b o e => hx' b o (Nat.ne_of_lt (Heap.lt_size e)) e
  show wpAny _ _ (assignInOrder [fun v => bindName X.env y v, fun v => bindName X.env x v] [u2, u1] >>= fun _ => pure Flow.next) _ _ _
  refine wpAny_bind (assignInOrder_cons (wpAny_bindName (store_ok I3 hN hj (.inl hy) rw' (fun s2 I4 => ?_) (.inr hy))))
  refine assignInOrder_cons (wpAny_bindName (store_ok I4 hN hi (.inl hx) rv (fun s3 I5 => assignInOrder_nil (wpAny_pure ?_)) (.inr hx)))
  rw [List.set_comm _ _ (Ne.symm hij)] at I5
  exact ⟨_, H1, I5, q1⟩
/-- name op= e -/
def tAug (i : Nat) (te : TE) (ti : TIp) : TS := fun D σ H => ∃ x, σ[i]? = some (some x) ∧ te σ H fun y H1 => ti x y H1 fun z H2 => D.nx (σ.set i (some z)) H2
theorem ps_aug {i : Nat} {x : Str} {e : Expr} {te : TE} {op : Operator} {ti : TIp} {pos' : Pos} (hN : X.N.Nodup) (hi : X.N[i]? = some x) (hx : Loc X.env.scope x) (he : PE X e te) (ho : PIp X op ti) (hf : X.fn x = true ∨ X.env.scope.names.lookup x = some .local := by first | exact .inl rfl | exact .inr rfl | assumption) :
    PS X (.AugAssign (.Name x pos') op e pos) (tAug i te ti) := by
  intro pins s σ H D I h
  obtain ⟨v, e1, h⟩ := h
  obtain ⟨m, hn, hl⟩ := I.loc
  have vis : Vis X.env.scope x := by rcases hx with k | k; exact .inl k; exact .inr (.inl k)
  obtain ⟨u, r, l⟩ := hl i x v hi e1 vis
  refine wpAny_AugAssign_Name ?_
  have go : wpAny (model X.prog X.w) X.A (eval e X.env) (fun w s₂ => wpAny (model X.prog X.w) X.A (inplaceOp op u w) (fun r s₃ => wpAny (model X.prog X.w) X.A (storeName X.env x r) (fun _ => SP X pins D .next) X.xe s₃) X.xe s₂) X.xe s := by
    refine thn (he pins s σ H _ I h) fun w s1 ⟨y, H1, I1, r1, q1⟩ => ?_
    refine thn (ho pins s1 σ H1 v y u w _ I1 r r1 q1) fun z s2 ⟨zv, H2, I2, r2, q2⟩ => ?_
    exact store_ok I2 hN hi hx r2 (fun s3 I3 => ⟨_, H2, I3, q2⟩) hf
  rcases l with ⟨hk, hm⟩ | ⟨hk, c, hc, hcell⟩
  · exact wpAny_loadName_local I.ok.kind hk hn hm go
  · rcases hk with hk | hk
    · exact wpAny_loadName_cell I.ok.kind hk hc hcell go
    · rcases hx with k | k
      · have : X.env.scope.names.lookup x = some .free := hk
        rw [k] at this; cases this
      · have : X.env.scope.names.lookup x = some .free := hk
        rw [k] at this; cases this
/-- o[i] op= e -/
def tAugS (to ti te : TE) (tget : V → V → Hp → VK → Prop) (tip : TIp) (tset : TSet) : TS := fun D σ H => to σ H fun o H1 => ti σ H1 fun i H2 => tget o i H2 fun x H3 => te σ H3 fun y H4 => tip x y H4 fun z H5 => tset o i z H5 fun H6 => D.nx σ H6
/-- o[i], by values -/
def PGet (X : Cx) (t : V → V → Hp → VK → Prop) : Prop :=
  ∀ (pins : List (Addr × Obj)) (s : Shared) (σ : St) (H : Hp) (o i : V) (ov iv : Value) (Q : VK), Inv X pins σ H s → RelV o ov → RelV i iv → t o i H Q →
    wpAny (model X.prog X.w) X.A (getItem ov iv) (EP X pins σ Q) X.xe s
theorem ps_augS {o i e : Expr} {to ti te : TE} {tget : V → V → Hp → VK → Prop} {tip : TIp} {tset : TSet} {op : Operator} {tpos : Pos} (ho : PE X o to) (hi : PE X i ti) (hg : PGet X tget) (he : PE X e te) (hp : PIp X op tip) (hs : PSet X tset)
    (ha : ∀ ov iv new, augStore i ov iv new = (do holding [new, ov, iv] (setItem ov iv new); release [new, ov, iv] []; pure .next) := by intros; rfl) : PS X (.AugAssign (.Subscript o i tpos) op e pos) (tAugS to ti te tget tip tset) := by
  intro pins s σ H D I h
  refine wpAny_AugAssign_SubscriptAny (thn (ho pins s σ H _ I h) fun ov s1 ⟨x1, H1, I1, r1, q1⟩ => ?_) ha
  refine thn (hi pins s1 σ H1 _ I1 q1) fun iv s2 ⟨x2, H2, I2, r2, q2⟩ => ?_
  refine thn (hg pins s2 σ H2 x1 x2 ov iv _ I2 r1 r2 q2) fun old s3 ⟨x3, H3, I3, r3, q3⟩ => ?_
  refine thn (he pins s3 σ H3 _ I3 q3) fun v s4 ⟨x4, H4, I4, r4, q4⟩ => ?_
  refine thn (hp pins s4 σ H4 x3 x4 old v _ I4 r3 r4 q4) fun new s5 ⟨x5, H5, I5, r5, q5⟩ => ?_
  exact thn (hs pins s5 σ H5 x1 x2 x5 ov iv new _ I5 r1 r2 r5 q5) fun _ s6 ⟨H6, I6, q6⟩ => ⟨σ, H6, I6, q6⟩
/-- ints -/
def ipI (f : Int → Int → Int) : TIp := fun x y H Q => ∃ i j, x = .int i ∧ y = .int j ∧ Q (.int (f i j)) H
theorem ip_add : PIp X .Add (ipI fun i j => i + j) := by
  intro pins s σ H x y v u Q I r1 r2 h
  obtain ⟨i, j, e1, e2, q⟩ := h
  subst e1; subst e2
  obtain ⟨t, rfl⟩ := r1
  obtain ⟨t', rfl⟩ := r2
  exact iadd_int ⟨.int _, H, I.tok _, ⟨_, rfl⟩, q⟩
theorem ip_sub : PIp X .Sub (ipI fun i j => i - j) := by
  intro pins s σ H x y v u Q I r1 r2 h
  obtain ⟨i, j, e1, e2, q⟩ := h
  subst e1; subst e2
  obtain ⟨t, rfl⟩ := r1
  obtain ⟨t', rfl⟩ := r2
  exact isub_int ⟨.int _, H, I.tok _, ⟨_, rfl⟩, q⟩
end

/-! ### while -/
section
variable {X : Cx} {pos : Pos}
/-- the invariant W with its measure -/
def tWhile (c : TT) (tb : TS) : TS := fun D σ H => ∃ W : Nat → St → Hp → Prop, (∃ m, W m σ H) ∧ ∀ m σ H, W m σ H →
  c σ H fun b H1 => if b = true then ∃ N : St → Hp → Prop, (∀ σ' H', N σ' H' → ∃ m', m' < m ∧ W m' σ' H') ∧ tb { D with nx := N, ct := N, bk := D.nx } σ H1 else D.nx σ H1
theorem ps_while {c : Expr} {body : List Stmt} {tc : TT} {tb : TS} (hp : PassesOwn (model X.prog X.w) X.A X.env X.xe) (hc : PT X c tc) (hb : PSs X body tb) : PS X (.While c body [] pos) (tWhile tc tb) := by
  intro pins s σ H D I h
  obtain ⟨W, ⟨m0, w0⟩, turn⟩ := h
  refine wpAny_While (codeAny_whileLoop (fun n s' => ∃ σ' H', Inv X pins σ' H' s' ∧ W n σ' H') ?_ m0 ⟨σ, H, I, w0⟩)
  rintro n s1 ⟨σ1, H1, I1, w1⟩
  refine wpAny_passesOwn hp (thn (hc pins s1 σ1 H1 _ I1 (turn n σ1 H1 w1)) fun b s2 ⟨H2, I2, q2⟩ => ?_)
  cases b with
  | true =>
    obtain ⟨N, hN, q2⟩ := q2
    rw [if_pos rfl]
    refine wpAny_passesOwn hp (thn (hb pins s2 σ1 H2 _ I2 q2) fun f s3 q3 => ?_)
    cases f with
    | next =>
      obtain ⟨σ3, H3, I3, n3⟩ := q3
      obtain ⟨m', hm, w3⟩ := hN σ3 H3 n3
      exact ⟨m', hm, σ3, H3, I3, w3⟩
    | cont =>
      obtain ⟨σ3, H3, I3, n3⟩ := q3
      obtain ⟨m', hm, w3⟩ := hN σ3 H3 n3
      exact ⟨m', hm, σ3, H3, I3, w3⟩
    | brk => exact q3
    | ret v => exact q3
  | false =>
    rw [if_neg Bool.false_ne_true]
    exact wpAny_execs_nil ⟨σ1, H2, I2, q2⟩
end

/-! ### what a loop or a comprehension walks -/
/-- at turn i: it yields x (the heap may grow), or it stops -/
structure It where
  go : Nat → Hp → Prop
  yld : Nat → Hp → V → Hp → Prop
  stop : Nat → Hp → Prop
/-- the iterator's own objects may turn: they are not the frame's, not pinned, younger than the entry (or a comprehension's own) -/
def FpOk (X : Cx) (pins : List (Addr × Obj)) (H : Hp) (b : Addr) : Prop :=
  H b = none ∧ b ≠ X.env.locals ∧ b ∉ X.fs ∧ (b ∈ X.ex ∨ X.s₀.heap.objs.size ≤ b) ∧ (∀ x c, X.env.cells.lookup x = some c → c ≠ b) ∧ ∀ p ∈ X.pn ++ pins, p.1 ≠ b
theorem Inv.fpOk {X : Cx} {pins : List (Addr × Obj)} {σ : St} {H H' : Hp} {s : Shared} {b : Addr} (I : Inv X pins σ H s) (hb : s.heap.objs.size ≤ b) (hn : H' b = none) : FpOk X pins H' b := by
  refine ⟨hn, Nat.ne_of_gt (Nat.lt_of_lt_of_le I.lt hb), I.nofs hb, .inr (Nat.le_trans I.sz hb), fun x c e z => ?_, fun p hp z => ?_⟩
  · obtain ⟨v, q⟩ := I.cell x c e
    exact absurd (Nat.lt_of_lt_of_le q.lt (by rw [z]; exact hb)) (Nat.lt_irrefl _)
  · exact absurd (Nat.lt_of_lt_of_le (Heap.lt_size (I.pin p hp).1) (by rw [z]; exact hb)) (Nat.lt_irrefl _)
structure Turn (P : Program) (w : World) (K : PySem.W.Frag) (tg : Expr) (J : It) (fp : List Addr) (it : Addr) (tn : Nat → Heap → Prop) : Prop where
  mem : it ∈ fp
  obj : ∀ i h, tn i h → ∀ b ∈ fp, ∃ o, h.get? b = some o ∧ ∀ v, o.data ≠ .cell v
  keep : ∀ i h h', tn i h → (∀ b ∈ fp, ∀ o, h.get? b = some o → h'.get? b = some o) → tn i h'
  item : ∀ (X : Cx), X.prog = P → X.w = w → X.K = K → X.calm = true → ∀ (i : Nat) (pins : List (Addr × Obj)) (s : Shared) (σ : St) (H : Hp) (E : Value → Shared → Prop), Inv X pins σ H s → (∀ b ∈ fp, FpOk X pins H b) → tn i s.heap → J.go i H →
    wpAny (model P w) X.A (pyNext (.ref it)) (fun r s1 => ∃ u, r = some u ∧
      wpAny (model P w) X.A (letOwnedTupleGo tg (.ref it) u) (fun _ s2 => ∃ x H', Inv X pins σ H' s2 ∧ RelV x u ∧ J.yld i H x H' ∧ tn (i + 1) s2.heap ∧ ∀ b ∈ fp, H' b = none) E s1) E s
  done : ∀ (X : Cx), X.prog = P → X.w = w → X.K = K → X.calm = true → ∀ (i : Nat) (pins : List (Addr × Obj)) (s : Shared) (σ : St) (H : Hp) (E : Value → Shared → Prop), Inv X pins σ H s → (∀ b ∈ fp, FpOk X pins H b) → tn i s.heap → J.stop i H →
    wpAny (model P w) X.A (pyNext (.ref it)) (fun r s1 => r = none ∧ Inv X pins σ H s1) E s
  self : ∀ (A : Around) (i : Nat) (s : Shared) (Q : Value → Shared → Prop) (E : Value → Shared → Prop), tn i s.heap → Q (.ref it) s → wpAny (model P w) A (pyIter (.ref it)) Q E s
abbrev TI := St → Hp → (It → Hp → Prop) → Prop
/-- an iterator has come -/
def PIE (X : Cx) (pins : List (Addr × Obj)) (σ : St) (tg : Expr) (R : It → Hp → Prop) (itv : Value) (s2 : Shared) : Prop :=
  ∃ (it : Addr) (fp : List Addr) (tn : Nat → Heap → Prop) (J : It) (H' : Hp), itv = .ref it ∧ Inv X pins σ H' s2 ∧ Turn X.prog X.w X.K tg J fp it tn ∧ tn 0 s2.heap ∧ (∀ b ∈ fp, FpOk X pins H' b) ∧ R J H'
def PI (X : Cx) (tg iter : Expr) (wi : TI) : Prop :=
  ∀ (pins : List (Addr × Obj)) (s : Shared) (σ : St) (H : Hp) (R : It → Hp → Prop), Inv X pins σ H s → wi σ H R →
    wpAny (model X.prog X.w) X.A (eval iter X.env) (fun v s1 => wpAny (model X.prog X.w) X.A (pyIter v) (PIE X pins σ tg R) X.xe s1) X.xe s

/-- the step ahead of the store is nothing for an iterator that keeps no tuple -/
theorem go_of {M : Model} {A : Around} {E : Value → Shared → Prop} {s : Shared} {tg : Expr} {it : Addr} {u : Value} {o : Obj} {n : String} {vs : Array Value} {Q : Unit → Shared → Prop} (ho : s.heap.get? it = some o) (hc : o.cls = .type n) (hd : o.data = .fields vs)
    (hn : ["enumerate", "zip", "dict_itemiterator", "dict_reverseitemiterator", "odict_iterator", "itertools.zip_longest", "itertools.pairwise"].contains n = false) (hQ : Q () s) : wpAny M A (letOwnedTupleGo tg (.ref it) u) Q E s := by
  unfold letOwnedTupleGo
  cases tg <;> first
    | exact wpAny_pure hQ
    | (cases u <;> first
        | exact wpAny_pure hQ
        | (refine wpAny_bind (wpAny_load ho ?_)
           rw [hc, hd]
           show wpAny M A (if (["enumerate", "zip", "dict_itemiterator", "dict_reverseitemiterator", "odict_iterator", "itertools.zip_longest", "itertools.pairwise"].contains n && vs[0]? == some (rawInt _)) = true then _ else _) Q E s
           rw [if_neg (by intro h; rw [hn, Bool.false_and] at h; cases h)]
           exact wpAny_pure hQ))

/-- the list at a, as it stands at each turn (a loop may append to it) -/
def Itl (K : PySem.W.Frag) (a : Addr) : It :=
  ⟨fun i H => ∃ xs x, SqL K H a xs ∧ xs[i]? = some x, fun i H x H' => H' = H ∧ ∀ xs, SqL K H a xs → xs[i]? = some x, fun i H => ∃ xs, SqL K H a xs ∧ xs.length ≤ i⟩
def Itt (K : PySem.W.Frag) (a : Addr) : It :=
  ⟨fun i H => ∃ xs x, SqT K H a xs ∧ xs[i]? = some x, fun i H x H' => H' = H ∧ ∀ xs, SqT K H a xs → xs[i]? = some x, fun i H => ∃ xs, SqT K H a xs ∧ xs.length ≤ i⟩
/-- lo, lo + 1, .. (n of them) -/
def Itr (lo : Int) (n : Nat) : It := ⟨fun i _ => i < n, fun i H x H' => H' = H ∧ x = .int (lo + i), fun i _ => n ≤ i⟩
theorem turn_list {P : Program} {w : World} {K : PySem.W.Frag} {tg : Expr} (a it : Addr) : Turn P w K tg (Itl K a) [it] it (fun i h => h.IsListIter it a i) where
  mem := by simp
  obj := fun i h st b hb => by
    have e : b = it := by simpa using hb
    subst e
    obtain ⟨o, e, c, d⟩ := st
    exact ⟨o, e, fun v z => by rw [d] at z; cases z⟩
  keep := fun i h h' st k => st.at fun o e => k it (by simp) o e
  item := by
    intro X hP hw hK hc i pins s σ H E I hf st hg
    subst hP hw hK
    obtain ⟨xs, x, hq, hx⟩ := hg
    obtain ⟨its, rv, p, hz⟩ := I.list hq
    obtain ⟨u, hu, ru⟩ := rv.get hx
    obtain ⟨f0, f1, f2, f3, f4, f5⟩ := hf it (by simp)
    refine wpAny_pyNext_list_item st p.isList (x := u) (by simpa using hu) fun h' st' sb => ?_
    have I1 : Inv X pins σ H { s with heap := h' } := I.turned (t' := s.toks) (fun b o hb e => (sb.2 b hb).trans e) f0 f1 f3 f4 f5
    obtain ⟨o, e, c, d⟩ := id st'
    exact ⟨u, rfl, go_of (s := { s with heap := h' }) e c d (by decide) ⟨x, H, I1, ru, ⟨rfl, fun ys hy => by rw [I.list_inj hy hq]; exact hx⟩, st', fun b hb => (hf b hb).1⟩⟩
  done := by
    intro X hP hw hK hc i pins s σ H E I hf st hg
    subst hP hw hK
    obtain ⟨xs, hq, hx⟩ := hg
    obtain ⟨its, rv, p, hz⟩ := I.list hq
    obtain ⟨f0, f1, f2, f3, f4, f5⟩ := hf it (by simp)
    have hl := rv.length
    exact wpAny_pyNext_list_end (I.ok.hd hc) st p.isList (by simp; omega) fun h' eb => ⟨rfl, I.turned (t' := s.toks) (fun b o hb e => eb b o hb e) f0 f1 f3 f4 f5⟩
  self := fun _ _ _ _ _ st h => wpAny_pyIter_listiter st h
theorem turn_tuple {P : Program} {w : World} {K : PySem.W.Frag} {tg : Expr} (a it : Addr) : Turn P w K tg (Itt K a) [it] it (fun i h => h.IsTupleIter it a i) where
  mem := by simp
  obj := fun i h st b hb => by
    have e : b = it := by simpa using hb
    subst e
    obtain ⟨o, e, c, d⟩ := st
    exact ⟨o, e, fun v z => by rw [d] at z; cases z⟩
  keep := fun i h h' st k => st.at fun o e => k it (by simp) o e
  item := by
    intro X hP hw hK hc i pins s σ H E I hf st hg
    subst hP hw hK
    obtain ⟨xs, x, hq, hx⟩ := hg
    obtain ⟨its, rv, p, hz⟩ := I.tuple hq
    obtain ⟨u, hu, ru⟩ := rv.get hx
    obtain ⟨f0, f1, f2, f3, f4, f5⟩ := hf it (by simp)
    refine wpAny_pyNext_tuple_item st (show s.heap.IsTuple a its.toArray from p) (x := u) (by simpa using hu) fun h' st' sb => ?_
    have I1 : Inv X pins σ H { s with heap := h' } := I.turned (t' := s.toks) (fun b o hb e => (sb.2 b hb).trans e) f0 f1 f3 f4 f5
    obtain ⟨o, e, c, d⟩ := id st'
    exact ⟨u, rfl, go_of (s := { s with heap := h' }) e c d (by decide) ⟨x, H, I1, ru, ⟨rfl, fun ys hy => by rw [I.tuple_inj hy hq]; exact hx⟩, st', fun b hb => (hf b hb).1⟩⟩
  done := by
    intro X hP hw hK hc i pins s σ H E I hf st hg
    subst hP hw hK
    obtain ⟨xs, hq, hx⟩ := hg
    obtain ⟨its, rv, p, hz⟩ := I.tuple hq
    obtain ⟨f0, f1, f2, f3, f4, f5⟩ := hf it (by simp)
    have hl := rv.length
    exact wpAny_pyNext_tuple_end (I.ok.hd hc) st (show s.heap.IsTuple a its.toArray from p) (by simp; omega) fun h' eb => ⟨rfl, I.turned (t' := s.toks) (fun b o hb e => eb b o hb e) f0 f1 f3 f4 f5⟩
  self := fun _ _ _ _ _ st h => wpAny_pyIter_tupleiter st h
theorem turn_range {P : Program} {w : World} {K : PySem.W.Frag} {tg : Expr} (it : Addr) (lo : Int) (n : Nat) : Turn P w K tg (Itr lo n) [it] it (fun i h => IsRangeIter h it (lo + (i : Nat) * 1) ((n : Int) - (i : Nat)) 1) where
  mem := by simp
  obj := fun i h st b hb => by
    have e : b = it := by simpa using hb
    subst e
    exact ⟨_, st, fun v z => by
      have z' : Data.fields _ = Data.cell v := z
      cases z'⟩
  keep := fun i h h' st k => k it (by simp) _ st
  item := by
    intro X hP hw hK hc i pins s σ H E I hf st hg
    subst hP hw hK
    obtain ⟨f0, f1, f2, f3, f4, f5⟩ := hf it (by simp)
    have W := Walks.range (prog := X.prog) (w := X.w) (I.ok.hd hc) it lo 1 n
    refine W.item i s _ _ hg st fun v h' tk hv st' kk => ?_
    obtain ⟨t, rfl⟩ := hv
    have I1 : Inv X pins σ H { s with heap := h', toks := tk } := I.turned (fun b o hb e => kk b o (by simpa using hb) e) f0 f1 f3 f4 f5
    refine ⟨_, rfl, go_of (s := { s with heap := h', toks := tk }) (n := "range_iterator") st' rfl rfl (by decide) ⟨.int (lo + i), H, I1, ⟨t, ?_⟩, ⟨rfl, rfl⟩, st', fun b hb => (hf b hb).1⟩⟩
    rw [Int.mul_one]
  done := by
    intro X hP hw hK hc i pins s σ H E I hf st hg
    subst hP hw hK
    obtain ⟨f0, f1, f2, f3, f4, f5⟩ := hf it (by simp)
    exact wpAny_pyNext_range_end (I.ok.hd hc) st (by have : n ≤ i := hg; omega) fun h' eb => ⟨rfl, I.turned (t' := s.toks) (fun b o hb e => eb b o hb e) f0 f1 f3 f4 f5⟩
  self := fun _ _ _ _ _ st h => wpAny_pyIter_rangeiter st h
end L2

namespace L2
open PySem PySem.Spec PyProof.Rows
section
variable {X : Cx} {tg : Expr}
def iList (K : PySem.W.Frag) (tl : TE) : TI := fun σ H R => tl σ H fun x H1 => ∃ a, x = .ref a ∧ (∃ xs, SqL K H1 a xs) ∧ R (Itl K a) H1
def iTup (K : PySem.W.Frag) (tl : TE) : TI := fun σ H R => tl σ H fun x H1 => ∃ a, x = .ref a ∧ (∃ xs, SqT K H1 a xs) ∧ R (Itt K a) H1
theorem pi_list {l : Expr} {tl : TE} (hl : PE X l tl) : PI X tg l (iList X.K tl) := by
  intro pins s σ H R I h
  refine thn (hl pins s σ H _ I h) fun v s1 ⟨x, H1, I1, r1, q1⟩ => ?_
  obtain ⟨a, e, ⟨xs, hq⟩, q⟩ := q1
  subst e
  cases r1
  obtain ⟨its, rv, p, hz⟩ := I1.list hq
  refine wpAny_pyIter_list p.isList ?_
  refine ⟨s1.heap.objs.size, [s1.heap.objs.size], _, _, H1, rfl, I1.kept (t' := s1.toks) fun b o e => Heap.get?_push_of_some _ e, turn_list a _, ⟨_, Heap.get?_push_size _ rfl, rfl, rfl⟩, fun b hb => ?_, q⟩
  have e : b = s1.heap.objs.size := by simpa using hb
  subst e
  exact I1.fpOk (Nat.le_refl _) (I1.hok.fresh (Nat.le_refl _))
theorem pi_tup {l : Expr} {tl : TE} (hl : PE X l tl) : PI X tg l (iTup X.K tl) := by
  intro pins s σ H R I h
  refine thn (hl pins s σ H _ I h) fun v s1 ⟨x, H1, I1, r1, q1⟩ => ?_
  obtain ⟨a, e, ⟨xs, hq⟩, q⟩ := q1
  subst e
  cases r1
  obtain ⟨its, rv, p, hz⟩ := I1.tuple hq
  refine wpAny_pyIter_tuple (show s1.heap.IsTuple a its.toArray from p) ?_
  refine ⟨s1.heap.objs.size, [s1.heap.objs.size], _, _, H1, rfl, I1.kept (t' := s1.toks) fun b o e => Heap.get?_push_of_some _ e, turn_tuple a _, ⟨_, Heap.get?_push_size _ rfl, rfl, rfl⟩, fun b hb => ?_, q⟩
  have e : b = s1.heap.objs.size := by simpa using hb
  subst e
  exact I1.fpOk (Nat.le_refl _) (I1.hok.fresh (Nat.le_refl _))
/-- a range object just made, walked -/
theorem range_it {pins : List (Addr × Obj)} {σ : St} {H : Hp} {s : Shared} {R : It → Hp → Prop} {E : Value → Shared → Prop} {lo hi : Int} {t u v : Tok} {tk : Nat} (I : Inv X pins σ H s) (h1 : -(2 ^ 62) ≤ lo) (h2 : lo < 2 ^ 62) (h3 : -(2 ^ 62) ≤ hi) (h4 : hi < 2 ^ 62)
    (q : R (Itr lo (hi - lo).toNat) H) : wpAny (model X.prog X.w) X.A (pyIter (.ref s.heap.objs.size)) (PIE X pins σ tg R) E { s with heap := s.heap.push { cls := .type "range", data := .fields #[.int lo t, .int hi u, .int 1 v] }, toks := tk } := by
  refine wpAny_pyIter_range (IsRange.new ..) (small_one h1 h2 h3 h4) ?_
  have I1 : Inv X pins σ H { s with heap := s.heap.push { cls := .type "range", data := .fields #[.int lo t, .int hi u, .int 1 v] }, toks := tk } := I.kept fun b o e => Heap.get?_push_of_some _ e
  refine ⟨(s.heap.push { cls := .type "range", data := .fields #[.int lo t, .int hi u, .int 1 v] }).objs.size, [(s.heap.push { cls := .type "range", data := .fields #[.int lo t, .int hi u, .int 1 v] }).objs.size], _, _, H, rfl,
    I1.kept (t' := tk) fun b o e => Heap.get?_push_of_some _ e, turn_range _ lo (hi - lo).toNat, ?_, fun b hb => ?_, q⟩
  · have e1 : lo + ((0 : Nat) : Int) * 1 = lo := by simp
    have e2 : (((hi - lo).toNat : Nat) : Int) - ((0 : Nat) : Int) = Builtin.Range.rangeSize lo hi 1 := by rw [rangeSize_one]; split <;> omega
    show IsRangeIter _ _ (lo + ((0 : Nat) : Int) * 1) ((((hi - lo).toNat : Nat) : Int) - ((0 : Nat) : Int)) 1
    rw [e1, e2]
    exact Heap.get?_push_size _ rfl
  · have e : b = (s.heap.push { cls := .type "range", data := .fields #[.int lo t, .int hi u, .int 1 v] }).objs.size := by simpa using hb
    subst e
    exact I1.fpOk (Nat.le_refl _) (I1.hok.fresh (Nat.le_refl _))
def iRng1 (ta : TA) : TI := fun σ H R => ta σ H fun vs H1 => ∃ j : Int, vs = [.int j] ∧ -(2 ^ 62) ≤ j ∧ j < 2 ^ 62 ∧ R (Itr 0 j.toNat) H1
def iRng2 (ta : TA) : TI := fun σ H R => ta σ H fun vs H1 => ∃ i j : Int, vs = [.int i, .int j] ∧ (-(2 ^ 62) ≤ i ∧ i < 2 ^ 62 ∧ -(2 ^ 62) ≤ j ∧ j < 2 ^ 62) ∧ R (Itr i (j - i).toNat) H1
theorem pi_range1 {a : Expr} {ta : TA} {p pos : Pos} (hg : Gl X "range") (hm : X.mg "range" = none) (ha : PA X [a] ta) (hs : starEach [a] X.env = [(false, eval a X.env)] := by rfl) : PI X tg (.Call (.Name "range" p) [a] [] pos) (iRng1 ta) := by
  intro pins s σ H R I h
  refine Call_ (ld_blt I hg hm boot_range (PyProof.Rows.callWith_type1 (thn (ha pos pins s σ H _ I h) fun us s1 ⟨vs, H1, I1, r1, q1⟩ => ?_) hs rfl))
  obtain ⟨j, e, q1, q2, q⟩ := q1
  subst e
  cases r1 with
  | cons r rr =>
    cases rr
    obtain ⟨t, rfl⟩ := r
    exact call_range_1 (range_it I1 (by omega) (by omega) q1 q2 (by simpa using q))
theorem pi_range2 {a b : Expr} {ta : TA} {p pos : Pos} (hg : Gl X "range") (hm : X.mg "range" = none) (ha : PA X [a, b] ta) (hs : starEach [a, b] X.env = [(false, eval a X.env), (false, eval b X.env)] := by rfl) (hs2 : starEach [b] X.env = [(false, eval b X.env)] := by rfl) :
    PI X tg (.Call (.Name "range" p) [a, b] [] pos) (iRng2 ta) := by
  intro pins s σ H R I h
  refine Call_ (ld_blt I hg hm boot_range (PyProof.Rows.callWith_type1 (thn (ha pos pins s σ H _ I h) fun us s1 ⟨vs, H1, I1, r1, q1⟩ => ?_) (by rw [hs, hs2]) (by rw [hs2]; rfl)))
  obtain ⟨i, j, e, ⟨q1, q2, q3, q4⟩, q⟩ := q1
  subst e
  cases r1 with
  | cons r rr =>
    cases rr with
    | cons r' rr =>
      cases rr
      obtain ⟨t, rfl⟩ := r
      obtain ⟨t', rfl⟩ := r'
      exact call_range_2 (range_it I1 q1 q2 q3 q4 q)

/-! ### for -/
/-- W: the invariant by the turn and a measure; N: what the body is to reach -/
def tFor (wi : TI) (g : TG) (tb : TS) : TS := fun D σ H => wi σ H fun J H1 => ∃ W : Nat → Nat → St → Hp → Prop, (∃ m, W 0 m σ H1) ∧ ∀ i m σ H, W i m σ H →
  (J.stop i H ∧ D.nx σ H) ∨ (J.go i H ∧ ∃ N : St → Hp → Prop, (∀ σ' H', N σ' H' → ∃ m', m' < m ∧ W (i + 1) m' σ' H') ∧ ∀ x H', J.yld i H x H' → g x σ H' fun σ2 H2 => tb { D with nx := N, ct := N, bk := D.nx } σ2 H2)
/-- the records at fp as they stand -/
def pinsAt (fp : List Addr) (h : Heap) : List (Addr × Obj) := fp.filterMap fun b => (h.get? b).map fun o => (b, o)
theorem mem_pinsAt {fp : List Addr} {h : Heap} {b : Addr} {o : Obj} (hb : b ∈ fp) (e : h.get? b = some o) : (b, o) ∈ pinsAt fp h := List.mem_filterMap.mpr ⟨b, hb, by rw [e]; rfl⟩
theorem of_pinsAt {fp : List Addr} {h : Heap} {p : Addr × Obj} (hp : p ∈ pinsAt fp h) : p.1 ∈ fp ∧ h.get? p.1 = some p.2 := by
  obtain ⟨b, hb, e⟩ := List.mem_filterMap.mp hp
  cases q : h.get? b with
  | none => rw [q] at e; cases e
  | some o =>
    rw [q] at e
    have e' : (b, o) = p := Option.some.inj e
    subst e'
    exact ⟨hb, q⟩
theorem Inv.pinned {pins : List (Addr × Obj)} {σ : St} {H : Hp} {s : Shared} {fp : List Addr} (I : Inv X pins σ H s) (hf : ∀ b ∈ fp, FpOk X pins H b) (ho : ∀ b ∈ fp, ∃ o, s.heap.get? b = some o ∧ ∀ v, o.data ≠ .cell v) : Inv X (pins ++ pinsAt fp s.heap) σ H s :=
  I.pins_of fun p hp => (List.mem_append.mp hp).elim (fun z => I.pin p (List.mem_append_right _ z)) fun z => by
    obtain ⟨hb, e⟩ := of_pinsAt z
    obtain ⟨f0, f1, f2, _⟩ := hf p.1 hb
    obtain ⟨o, e', d⟩ := ho p.1 hb
    rw [e] at e'; cases e'
    exact ⟨e, f0, f1, f2, d⟩
theorem Inv.unpinned {pins pl : List (Addr × Obj)} {σ : St} {H : Hp} {s : Shared} (I : Inv X (pins ++ pl) σ H s) : Inv X pins σ H s := I.pins_of fun p hp => I.pin p (List.mem_append_right _ (List.mem_append_left _ hp))
theorem ps_for {iter : Expr} {body : List Stmt} {wi : TI} {g : TG} {tb : TS} {pos : Pos} (hp : PassesOwn (model X.prog X.w) X.A X.env X.xe) (hc : X.calm = true) (hi : PI X tg iter wi) (hg : PG X tg g) (hb : PSs X body tb)
    (hs : ∀ x, foldedSetIterable iter X.env x = pure x := by intro _; rfl) : PS X (.For tg iter body [] pos) (tFor wi g tb) := by
  intro pins s σ H D I h
  refine wpAny_For (thn (hi pins s σ H _ I h) fun v s1 h1 => thn h1 fun itv s2 h2 => ?_) hs
  obtain ⟨it, fp, tn, J, H2, e, I2, T, st2, f2, W, ⟨m0, w0⟩, turn⟩ := h2
  subst e
  -- what stays true of the iterator's objects through the loop
  have stat : ∀ {H' : Hp}, (∀ b ∈ fp, H' b = none) → ∀ b ∈ fp, FpOk X pins H' b := fun hn b hb => ⟨hn b hb, (f2 b hb).2⟩
  refine codeAny_forLoop_any (fun n s' => ∃ i σ' H', Inv X pins σ' H' s' ∧ tn i s'.heap ∧ (∀ b ∈ fp, H' b = none) ∧ W i n σ' H') ?_ m0 ⟨0, σ, H2, I2, st2, fun b hb => (f2 b hb).1, w0⟩
  rintro n s3 ⟨i, σ3, H3, I3, st3, fr3, w3⟩
  rcases turn i n σ3 H3 w3 with ⟨stop, qn⟩ | ⟨go, N, hN, step⟩
  · refine wpAny_passesOwn hp (thn (T.done X rfl rfl rfl hc i pins s3 σ3 H3 X.xe I3 (stat fr3) st3 stop) fun r s4 ⟨hr, I4⟩ => ?_)
    subst hr
    exact wpAny_execs_nil ⟨σ3, H3, I4, qn⟩
  · refine wpAny_passesOwn hp (thn (T.item X rfl rfl rfl hc i pins s3 σ3 H3 X.xe I3 (stat fr3) st3 go) fun r s4 ⟨u, hr, h4⟩ => ?_)
    subst hr
    refine wpAny_passesOwn hp (thn h4 fun _ s5 ⟨x, H5, I5, r5, y5, st5, fr5⟩ => ?_)
    have I5' := I5.pinned (stat fr5) (T.obj _ _ st5)
    refine wpAny_passesOwn hp (thn (hg _ s5 σ3 H5 x u _ I5' r5 (step x H5 y5)) fun _ s6 ⟨σ6, H6, I6, q6⟩ => ?_)
    refine wpAny_passesOwn hp (thn (hb _ s6 σ6 H6 _ I6 q6) fun f s7 q7 => ?_)
    have again : ∀ {σ7 : St} {H7 : Hp}, Inv X (pins ++ pinsAt fp s5.heap) σ7 H7 s7 → N σ7 H7 → ∃ m, m < n ∧ ∃ i σ' H', Inv X pins σ' H' s7 ∧ tn i s7.heap ∧ (∀ b ∈ fp, H' b = none) ∧ W i m σ' H' := fun {σ7 H7} I7 n7 => by
      obtain ⟨m', hm, w7⟩ := hN σ7 H7 n7
      refine ⟨m', hm, i + 1, σ7, H7, I7.unpinned, T.keep _ _ _ st5 fun b hb o e => (I7.pin (b, o) (List.mem_append_right _ (List.mem_append_right _ (mem_pinsAt hb e)))).1, fun b hb => ?_, w7⟩
      obtain ⟨o, e, d⟩ := T.obj _ _ st5 b hb
      exact (I7.pin (b, o) (List.mem_append_right _ (List.mem_append_right _ (mem_pinsAt hb e)))).2.1
    cases f with
    | next => obtain ⟨σ7, H7, I7, n7⟩ := q7; exact again I7 n7
    | cont => obtain ⟨σ7, H7, I7, n7⟩ := q7; exact again I7 n7
    | brk => obtain ⟨σ7, H7, I7, q7⟩ := q7; exact ⟨σ7, H7, I7.unpinned, q7⟩
    | ret v => obtain ⟨x7, σ7, H7, I7, r7, q7⟩ := q7; exact ⟨x7, σ7, H7, I7.unpinned, r7, q7⟩
end

/-! ### the forms one uses -/
/-- over a list that the body leaves as it is -/
theorem for_list {K : PySem.W.Frag} {a : Addr} {xs : List V} {g : TG} {tb : TS} {D : Ends} {σ : St} {H : Hp} (Pv : Nat → St → Hp → Prop) (h0 : Pv 0 σ H) (hl : ∀ i σ H, i ≤ xs.length → Pv i σ H → SqL K H a xs)
    (hs : ∀ i x σ H, xs[i]? = some x → Pv i σ H → g x σ H fun σ2 H2 => tb { D with nx := Pv (i + 1), ct := Pv (i + 1), bk := D.nx } σ2 H2) (hd : ∀ σ H, Pv xs.length σ H → D.nx σ H) :
    ∃ W : Nat → Nat → St → Hp → Prop, (∃ m, W 0 m σ H) ∧ ∀ i m σ H, W i m σ H →
      ((Itl K a).stop i H ∧ D.nx σ H) ∨ ((Itl K a).go i H ∧ ∃ N : St → Hp → Prop, (∀ σ' H', N σ' H' → ∃ m', m' < m ∧ W (i + 1) m' σ' H') ∧ ∀ x H', (Itl K a).yld i H x H' → g x σ H' fun σ2 H2 => tb { D with nx := N, ct := N, bk := D.nx } σ2 H2) := by
  refine ⟨fun i m σ H => m = xs.length - i ∧ i ≤ xs.length ∧ Pv i σ H, ⟨xs.length, by simp, Nat.zero_le _, h0⟩, ?_⟩
  rintro i m σ H ⟨rfl, hi, p⟩
  have q := hl i σ H hi p
  by_cases hlt : i < xs.length
  · refine .inr ⟨⟨xs, xs[i], q, by simp [hlt]⟩, Pv (i + 1), fun σ' H' p' => ⟨xs.length - (i + 1), by omega, rfl, hlt, p'⟩, fun x H' y => ?_⟩
    obtain ⟨e, y⟩ := y
    subst e
    exact hs i x σ _ (y xs q) p
  · have e : i = xs.length := by omega
    subst e
    exact .inl ⟨⟨xs, q, Nat.le_refl _⟩, hd σ H p⟩
theorem for_tup {K : PySem.W.Frag} {a : Addr} {xs : List V} {g : TG} {tb : TS} {D : Ends} {σ : St} {H : Hp} (Pv : Nat → St → Hp → Prop) (h0 : Pv 0 σ H) (hl : ∀ i σ H, i ≤ xs.length → Pv i σ H → SqT K H a xs)
    (hs : ∀ i x σ H, xs[i]? = some x → Pv i σ H → g x σ H fun σ2 H2 => tb { D with nx := Pv (i + 1), ct := Pv (i + 1), bk := D.nx } σ2 H2) (hd : ∀ σ H, Pv xs.length σ H → D.nx σ H) :
    ∃ W : Nat → Nat → St → Hp → Prop, (∃ m, W 0 m σ H) ∧ ∀ i m σ H, W i m σ H →
      ((Itt K a).stop i H ∧ D.nx σ H) ∨ ((Itt K a).go i H ∧ ∃ N : St → Hp → Prop, (∀ σ' H', N σ' H' → ∃ m', m' < m ∧ W (i + 1) m' σ' H') ∧ ∀ x H', (Itt K a).yld i H x H' → g x σ H' fun σ2 H2 => tb { D with nx := N, ct := N, bk := D.nx } σ2 H2) := by
  refine ⟨fun i m σ H => m = xs.length - i ∧ i ≤ xs.length ∧ Pv i σ H, ⟨xs.length, by simp, Nat.zero_le _, h0⟩, ?_⟩
  rintro i m σ H ⟨rfl, hi, p⟩
  have q := hl i σ H hi p
  by_cases hlt : i < xs.length
  · refine .inr ⟨⟨xs, xs[i], q, by simp [hlt]⟩, Pv (i + 1), fun σ' H' p' => ⟨xs.length - (i + 1), by omega, rfl, hlt, p'⟩, fun x H' y => ?_⟩
    obtain ⟨e, y⟩ := y
    subst e
    exact hs i x σ _ (y xs q) p
  · have e : i = xs.length := by omega
    subst e
    exact .inl ⟨⟨xs, q, Nat.le_refl _⟩, hd σ H p⟩
theorem for_range {lo : Int} {n : Nat} {g : TG} {tb : TS} {D : Ends} {σ : St} {H : Hp} (Pv : Nat → St → Hp → Prop) (h0 : Pv 0 σ H)
    (hs : ∀ i σ H, i < n → Pv i σ H → g (.int (lo + i)) σ H fun σ2 H2 => tb { D with nx := Pv (i + 1), ct := Pv (i + 1), bk := D.nx } σ2 H2) (hd : ∀ σ H, Pv n σ H → D.nx σ H) :
    ∃ W : Nat → Nat → St → Hp → Prop, (∃ m, W 0 m σ H) ∧ ∀ i m σ H, W i m σ H →
      ((Itr lo n).stop i H ∧ D.nx σ H) ∨ ((Itr lo n).go i H ∧ ∃ N : St → Hp → Prop, (∀ σ' H', N σ' H' → ∃ m', m' < m ∧ W (i + 1) m' σ' H') ∧ ∀ x H', (Itr lo n).yld i H x H' → g x σ H' fun σ2 H2 => tb { D with nx := N, ct := N, bk := D.nx } σ2 H2) := by
  refine ⟨fun i m σ H => m = n - i ∧ i ≤ n ∧ Pv i σ H, ⟨n, by simp, Nat.zero_le _, h0⟩, ?_⟩
  rintro i m σ H ⟨rfl, hi, p⟩
  by_cases hlt : i < n
  · refine .inr ⟨hlt, Pv (i + 1), fun σ' H' p' => ⟨n - (i + 1), by omega, rfl, hlt, p'⟩, fun x H' y => ?_⟩
    obtain ⟨e, y⟩ := y
    subst e y
    exact hs i σ _ hlt p
  · have e : i = n := by omega
    subst e
    exact .inl ⟨Nat.le_refl _, hd σ H p⟩
/-- while, by a word and a measure of the state -/
theorem while_by {c : TT} {tb : TS} {D : Ends} {σ : St} {H : Hp} (Pv : St → Hp → Prop) (μ : St → Hp → Nat) (h0 : Pv σ H)
    (hs : ∀ σ H, Pv σ H → c σ H fun b H1 => if b = true then tb { D with nx := fun σ' H' => Pv σ' H' ∧ μ σ' H' < μ σ H, ct := fun σ' H' => Pv σ' H' ∧ μ σ' H' < μ σ H, bk := D.nx } σ H1 else D.nx σ H1)
    (mono : ∀ σ H Q Q', (∀ b H1, Q b H1 → Q' b H1) → c σ H Q → c σ H Q') : tWhile c tb D σ H := by
  refine ⟨fun m σ H => m = μ σ H ∧ Pv σ H, ⟨_, rfl, h0⟩, ?_⟩
  rintro m σ H ⟨rfl, p⟩
  refine mono σ H _ _ (fun b H1 q => ?_) (hs σ H p)
  cases b with
  | true => exact ⟨_, fun σ' H' ⟨p', l⟩ => ⟨_, l, rfl, p'⟩, q⟩
  | false => exact q
end L2

namespace L2
open PySem PySem.Spec PyProof.Rows

abbrev R2 := V → V → Hp → VK → Prop
/-- a two-place operation on values: f is binaryOp op, inplaceOp op or compareOp op -/
def OpR (X : Cx) (f : Value → Value → Sem Value) (r : R2) : Prop :=
  ∀ (pins : List (Addr × Obj)) (s : Shared) (σ : St) (H : Hp) (x y : V) (v u : Value) (Q : VK), Inv X pins σ H s → RelV x v → RelV y u → r x y H Q →
    wpAny (model X.prog X.w) X.A (f v u) (EP X pins σ Q) X.xe s
/-- a one-place operation -/
def UnR (X : Cx) (f : Value → Sem Value) (r : V → Hp → VK → Prop) : Prop :=
  ∀ (pins : List (Addr × Obj)) (s : Shared) (σ : St) (H : Hp) (x : V) (v : Value) (Q : VK), Inv X pins σ H s → RelV x v → r x H Q →
    wpAny (model X.prog X.w) X.A (f v) (EP X pins σ Q) X.xe s
/-- a call of a value that is known (a builtin, a type) with values -/
def CallR (X : Cx) (f : Value) (r : List V → Hp → VK → Prop) : Prop :=
  ∀ (pins : List (Addr × Obj)) (s : Shared) (σ : St) (H : Hp) (xs : List V) (us : List Value) (Q : VK), Inv X pins σ H s → Vals xs us → r xs H Q →
    wpAny (model X.prog X.w) X.A (call f us) (EP X pins σ Q) X.xe s
/-- a value's truth -/
def TruR (X : Cx) (r : V → Hp → (Bool → Hp → Prop) → Prop) : Prop :=
  ∀ (pins : List (Addr × Obj)) (s : Shared) (σ : St) (H : Hp) (x : V) (v : Value) (Q : Bool → Hp → Prop), Inv X pins σ H s → RelV x v → r x H Q →
    wpAny (model X.prog X.w) X.A (truthy v) (TP X pins σ Q) X.xe s

def tOp (r : R2) (ta tb : TE) : TE := fun σ H Q => ta σ H fun x H1 => tb σ H1 fun y H2 => r x y H2 Q
def tUn (r : V → Hp → VK → Prop) (ta : TE) : TE := fun σ H Q => ta σ H fun x H1 => r x H1 Q
/-- ints in, under C, and a value out -/
def rI (C : Int → Int → Prop) (g : Int → Int → V) : R2 := fun x y H Q => ∃ i j, x = .int i ∧ y = .int j ∧ C i j ∧ Q (g i j) H
def rI0 (g : Int → Int → V) : R2 := fun x y H Q => ∃ i j, x = .int i ∧ y = .int j ∧ Q (g i j) H
def rU (g : Int → V) : V → Hp → VK → Prop := fun x H Q => ∃ i, x = .int i ∧ Q (g i) H

section
variable {X : Cx} {a b c : Expr} {ta tb tc : TE} {pos : Pos}

theorem binT (ha : PE X a ta) (hb : PE X b tb) {pins : List (Addr × Obj)} {s : Shared} {σ : St} {H : Hp} {R : V → V → Hp → Prop} (I : Inv X pins σ H s)
    (h : ta σ H fun x H1 => tb σ H1 fun y H2 => R x y H2) {Q : Value → Shared → Prop} {f : Value → Value → Sem Value}
    (hf : ∀ v u s2 x y H2, Inv X pins σ H2 s2 → RelV x v → RelV y u → R x y H2 → wpAny (model X.prog X.w) X.A (f v u) Q X.xe s2) :
    wpAny (model X.prog X.w) X.A (eval a X.env) (fun v s₁ => wpAny (model X.prog X.w) X.A (eval b X.env) (fun u s₂ => wpAny (model X.prog X.w) X.A (f v u) Q X.xe s₂) X.xe s₁) X.xe s := by
  refine thn (ha pins s σ H _ I h) fun v s1 ⟨x, H1, I1, r1, q1⟩ => ?_
  refine thn (hb pins s1 σ H1 _ I1 q1) fun u s2 ⟨y, H2, I2, r2, q2⟩ => ?_
  exact hf v u s2 x y H2 I2 r1 r2 q2

theorem pe_op {op : Operator} {r : R2} (ho : OpR X (binaryOp op) r) (ha : PE X a ta) (hb : PE X b tb) : PE X (.BinOp a op b pos) (tOp r ta tb) := by
  intro pins s σ H Q I h
  exact wpAny_BinOp (binT ha hb I h fun v u s2 x y H2 I2 rx ry q => ho pins s2 σ H2 x y v u Q I2 rx ry q)
theorem pe_un {op : UnaryOp} {r : V → Hp → VK → Prop} (ho : UnR X (unaryOp op) r) (ha : PE X a ta) : PE X (.UnaryOp op a pos) (tUn r ta) := by
  intro pins s σ H Q I h
  exact UnaryOp_ (thn (ha pins s σ H _ I h) fun v s1 ⟨x, H1, I1, r1, q1⟩ => ho pins s1 σ H1 x v Q I1 r1 q1)
/-- a op= e at a name: the name's slot i -/
theorem augR {op : Operator} {r : R2} (ho : OpR X (inplaceOp op) r) {pins : List (Addr × Obj)} {s : Shared} {σ : St} {H : Hp} {x y : V} {v u : Value} {Q : VK} (I : Inv X pins σ H s)
    (rx : RelV x v) (ry : RelV y u) (q : r x y H Q) : wpAny (model X.prog X.w) X.A (inplaceOp op v u) (EP X pins σ Q) X.xe s := ho pins s σ H x y v u Q I rx ry q

/-! ### ints -/
theorem opI {f : Value → Value → Sem Value} {C : Int → Int → Prop} {g : Int → Int → Int}
    (rule : ∀ (i j : Int) (t u : Tok) (s : Shared) (Q : Value → Shared → Prop) (E : Value → Shared → Prop), C i j → Q (.int (g i j) s.toks) { s with toks := s.toks + 1 } → wpAny (model X.prog X.w) X.A (f (.int i t) (.int j u)) Q E s) :
    OpR X f (rI C fun i j => .int (g i j)) := by
  intro pins s σ H x y v u Q I rx ry h
  obtain ⟨i, j, rfl, rfl, hc, q⟩ := h
  obtain ⟨t, rfl⟩ := rx
  obtain ⟨t', rfl⟩ := ry
  exact rule i j t t' s _ _ hc ⟨.int (g i j), H, I.tok _, ⟨_, rfl⟩, q⟩
theorem opI0 {f : Value → Value → Sem Value} {g : Int → Int → Int}
    (rule : ∀ (i j : Int) (t u : Tok) (s : Shared) (Q : Value → Shared → Prop) (E : Value → Shared → Prop), Q (.int (g i j) s.toks) { s with toks := s.toks + 1 } → wpAny (model X.prog X.w) X.A (f (.int i t) (.int j u)) Q E s) :
    OpR X f (rI0 fun i j => .int (g i j)) := by
  intro pins s σ H x y v u Q I rx ry h
  obtain ⟨i, j, rfl, rfl, q⟩ := h
  obtain ⟨t, rfl⟩ := rx
  obtain ⟨t', rfl⟩ := ry
  exact rule i j t t' s _ _ ⟨.int (g i j), H, I.tok _, ⟨_, rfl⟩, q⟩
theorem opB0 {f : Value → Value → Sem Value} {g : Int → Int → Bool}
    (rule : ∀ (i j : Int) (t u : Tok) (s : Shared) (Q : Value → Shared → Prop) (E : Value → Shared → Prop), Q (.bool (g i j)) s → wpAny (model X.prog X.w) X.A (f (.int i t) (.int j u)) Q E s) :
    OpR X f (rI0 fun i j => .bl (g i j)) := by
  intro pins s σ H x y v u Q I rx ry h
  obtain ⟨i, j, rfl, rfl, q⟩ := h
  obtain ⟨t, rfl⟩ := rx
  obtain ⟨t', rfl⟩ := ry
  exact rule i j t t' s _ _ ⟨.bl (g i j), H, I, rfl, q⟩

def CDiv (i j : Int) : Prop := 0 < j ∧ j < 1073741824
def CDivN (i j : Int) : Prop := j ≠ 0 ∧ j.natAbs < 1073741824
def CPow (i j : Int) : Prop := 0 ≤ j ∧ j ≤ 1000000 ∧ i.natAbs < 2 ^ 64
def CMul (i j : Int) : Prop := (-(2 ^ 64) < i ∧ i < 2 ^ 64) ∨ (-(2 ^ 64) < j ∧ j < 2 ^ 64)
theorem CMul.ok {i j : Int} (h : CMul i j) : IntMulOk i j := by
  rcases h with ⟨h1, h2⟩ | ⟨h1, h2⟩
  · exact .of_left (intBits_le_64 h1 h2)
  · exact .of_right (intBits_le_64 h1 h2)
theorem two_pow_nn (k : Nat) : (0 : Int) ≤ 2 ^ k := by
  rw [two_pow_cast]
  exact Int.natCast_nonneg _

theorem op_add : OpR X (binaryOp .Add) (rI0 fun i j => .int (i + j)) := opI0 fun _ _ _ _ _ _ _ q => add_int q
theorem op_sub : OpR X (binaryOp .Sub) (rI0 fun i j => .int (i - j)) := opI0 fun _ _ _ _ _ _ _ q => sub_int q
theorem op_mul : OpR X (binaryOp .Mult) (rI CMul fun i j => .int (i * j)) := opI fun _ _ _ _ _ _ _ hc q => mul_int q hc.ok
/-- // by a positive divisor -/
theorem op_fdiv : OpR X (binaryOp .FloorDiv) (rI CDiv fun i j => .int (i / j)) := opI fun i j _ _ _ _ _ hc q => by
  have h1 : (0 : Int) < j := hc.1
  have h2 : j < 1073741824 := hc.2
  exact floordiv_int (by omega) (by rw [Int.fdiv_eq_ediv_of_nonneg i (by omega)]; exact q) (.inl (PyProof.noPylong_small (by omega)))
theorem op_fdivN : OpR X (binaryOp .FloorDiv) (rI CDivN fun i j => .int (i.fdiv j)) := opI fun _ _ _ _ _ _ _ hc q => floordiv_int hc.1 q (.inl (PyProof.noPylong_small hc.2))
/-- % by a positive divisor of any size -/
theorem op_mod : OpR X (binaryOp .Mod) (rI (fun _ j => 0 < j) fun i j => .int (i % j)) := opI fun i j _ _ _ _ _ hc q => by
  have h1 : (0 : Int) < j := hc
  exact mod_int' (by omega) (by rw [Int.fmod_eq_emod_of_nonneg i (by omega)]; exact q)
theorem op_modN : OpR X (binaryOp .Mod) (rI (fun _ j => j ≠ 0) fun i j => .int (i.fmod j)) := opI fun _ _ _ _ _ _ _ hc q => mod_int' hc q
theorem op_pow : OpR X (binaryOp .Pow) (rI CPow fun i j => .int (i ^ j.toNat)) := opI fun _ _ _ _ _ _ _ hc q => pow_int_small hc.1 hc.2.1 hc.2.2 q
theorem op_shl : OpR X (binaryOp .LShift) (rI CPow fun i j => .int (i * 2 ^ j.toNat)) := opI fun _ _ _ _ _ _ _ hc q => lshift_int_small hc.1 hc.2.1 hc.2.2 q
theorem op_shr : OpR X (binaryOp .RShift) (rI (fun _ j => 0 ≤ j) fun i j => .int (i / 2 ^ j.toNat)) := opI fun i j _ _ _ _ _ hc q =>
  rshift_int hc (by rw [Int.fdiv_eq_ediv_of_nonneg i (two_pow_nn _)]; exact q)
theorem op_and : OpR X (binaryOp .BitAnd) (rI0 fun i j => .int (Builtin.bitAnd i j)) := opI0 fun _ _ _ _ _ _ _ q => and_int q
theorem op_or : OpR X (binaryOp .BitOr) (rI0 fun i j => .int (Builtin.bitOr i j)) := opI0 fun _ _ _ _ _ _ _ q => or_int q
theorem op_xor : OpR X (binaryOp .BitXor) (rI0 fun i j => .int (Builtin.bitXor i j)) := opI0 fun _ _ _ _ _ _ _ q => xor_int q

theorem iop_add : OpR X (inplaceOp .Add) (rI0 fun i j => .int (i + j)) := opI0 fun _ _ _ _ _ _ _ q => iadd_int q
theorem iop_sub : OpR X (inplaceOp .Sub) (rI0 fun i j => .int (i - j)) := opI0 fun _ _ _ _ _ _ _ q => isub_int q
theorem iop_mul : OpR X (inplaceOp .Mult) (rI CMul fun i j => .int (i * j)) := opI fun _ _ _ _ _ _ _ hc q => imul_int q hc.ok
theorem iop_fdiv : OpR X (inplaceOp .FloorDiv) (rI CDiv fun i j => .int (i / j)) := opI fun i j _ _ _ _ _ hc q => by
  have h1 : (0 : Int) < j := hc.1
  have h2 : j < 1073741824 := hc.2
  exact ifloordiv_int (by omega) (by rw [Int.fdiv_eq_ediv_of_nonneg i (by omega)]; exact q) (.inl (PyProof.noPylong_small (by omega)))
theorem iop_mod : OpR X (inplaceOp .Mod) (rI (fun _ j => 0 < j) fun i j => .int (i % j)) := opI fun i j _ _ _ _ _ hc q => by
  have h1 : (0 : Int) < j := hc
  exact imod_int (by omega) (by rw [Int.fmod_eq_emod_of_nonneg i (by omega)]; exact q)
theorem iop_shl : OpR X (inplaceOp .LShift) (rI CPow fun i j => .int (i * 2 ^ j.toNat)) := opI fun _ _ _ _ _ _ _ hc q => ilshift_int_small hc.1 hc.2.1 hc.2.2 q
theorem iop_shr : OpR X (inplaceOp .RShift) (rI (fun _ j => 0 ≤ j) fun i j => .int (i / 2 ^ j.toNat)) := opI fun i j _ _ _ _ _ hc q =>
  irshift_int hc (by rw [Int.fdiv_eq_ediv_of_nonneg i (two_pow_nn _)]; exact q)
theorem iop_and : OpR X (inplaceOp .BitAnd) (rI0 fun i j => .int (Builtin.bitAnd i j)) := opI0 fun _ _ _ _ _ _ _ q => iand_int q
theorem iop_or : OpR X (inplaceOp .BitOr) (rI0 fun i j => .int (Builtin.bitOr i j)) := opI0 fun _ _ _ _ _ _ _ q => ior_int q
theorem iop_xor : OpR X (inplaceOp .BitXor) (rI0 fun i j => .int (Builtin.bitXor i j)) := opI0 fun _ _ _ _ _ _ _ q => ixor_int q

theorem unI {f : Value → Sem Value} {g : Int → Int}
    (rule : ∀ (i : Int) (t : Tok) (s : Shared) (Q : Value → Shared → Prop) (E : Value → Shared → Prop), Q (.int (g i) s.toks) { s with toks := s.toks + 1 } → wpAny (model X.prog X.w) X.A (f (.int i t)) Q E s) :
    UnR X f (rU fun i => .int (g i)) := by
  intro pins s σ H x v Q I rx h
  obtain ⟨i, rfl, q⟩ := h
  obtain ⟨t, rfl⟩ := rx
  exact rule i t s _ _ ⟨.int (g i), H, I.tok _, ⟨_, rfl⟩, q⟩
theorem un_neg : UnR X (unaryOp .USub) (rU fun i => .int (-i)) := unI fun _ _ _ _ _ q => neg_int q
theorem un_inv : UnR X (unaryOp .Invert) (rU fun i => .int (Builtin.bitNot i)) := unI fun _ _ _ _ _ q => invert_int q

/-! ### bools among ints: n += (a < b) -/
theorem op_add_ib : OpR X (binaryOp .Add) (fun x y H Q => ∃ i k, x = .int i ∧ y = .bl k ∧ Q (.int (i + b2i k)) H) := by
  intro pins s σ H x y v u Q I rx ry h
  obtain ⟨i, k, rfl, rfl, q⟩ := h
  obtain ⟨t, rfl⟩ := rx
  cases ry
  exact add_int_bool ⟨.int (i + b2i k), H, I.tok _, ⟨_, rfl⟩, q⟩
end

/-! ### comparisons -/
/-- the scalars that == tells apart as data does -/
def scal : V → V → Bool
  | .non, .non => true | .non, .int _ => true | .int _, .non => true | .non, .bl _ => true | .bl _, .non => true | .non, .str _ => true | .str _, .non => true
  | .int _, .int _ => true | .bl _, .bl _ => true | .str _, .str _ => true | .byt _, .byt _ => true
  | .int _, .str _ => true | .str _, .int _ => true | .bl _, .str _ => true | .str _, .bl _ => true
  | _, _ => false
def rEq : R2 := fun x y H Q => scal x y = true ∧ Q (.bl (decide (x = y))) H
def rNe : R2 := fun x y H Q => scal x y = true ∧ Q (.bl (!decide (x = y))) H

theorem dec_int {i j : Int} : decide (V.int i = V.int j) = (i == j) := by
  rw [Bool.eq_iff_iff]
  simp
theorem dec_bl {i j : Bool} : decide (V.bl i = V.bl j) = (i == j) := by
  rw [Bool.eq_iff_iff]
  simp
theorem dec_str {i j : Str} : decide (V.str i = V.str j) = (i == j) := by
  rw [Bool.eq_iff_iff]
  simp
theorem dec_byt {i j : Array UInt8} : decide (V.byt i = V.byt j) = (i.toList == j.toList) := by
  rw [Bool.eq_iff_iff]
  cases i
  cases j
  simp

section
variable {X : Cx} {a b c : Expr} {ta tb tc : TE} {pos : Pos}
theorem fin_bl {pins : List (Addr × Obj)} {σ : St} {H : Hp} {s : Shared} {Q : VK} {k k' : Bool} (I : Inv X pins σ H s) (q : Q (.bl k) H) (e : k = k') : EP X pins σ Q (.bool k') s := by
  subst e
  exact ⟨.bl k, H, I, rfl, q⟩
theorem op_eq : OpR X (compareOp .Eq) rEq := by
  intro pins s σ H x y v u Q I rx ry h
  obtain ⟨hs, q⟩ := h
  cases x with
  | non =>
    cases rx
    cases y with
    | non => cases ry; exact PySem.EqNone.eq_none_none (fin_bl I q (by simp))
    | bl j => cases ry; exact PySem.EqNone.eq_none_bool (fin_bl I q (by simp))
    | int j => obtain ⟨t', rfl⟩ := ry; exact PySem.EqNone.eq_none_int (fin_bl I q (by simp))
    | str j => obtain ⟨t', rfl⟩ := ry; exact PySem.EqNone.eq_none_str (fin_bl I q (by simp))
    | _ => exact absurd (show false = true from hs) Bool.false_ne_true
  | bl i =>
    cases rx
    cases y with
    | non => cases ry; exact PySem.EqNone.eq_bool_none (fin_bl I q (by simp))
    | bl j => cases ry; exact eq_bool (fin_bl I q dec_bl)
    | str j => obtain ⟨t', rfl⟩ := ry; exact PySem.EqMixed.eq_bool_str (fin_bl I q (by simp))
    | _ => exact absurd (show false = true from hs) Bool.false_ne_true
  | int i =>
    obtain ⟨t, rfl⟩ := rx
    cases y with
    | non => cases ry; exact PySem.EqNone.eq_int_none (fin_bl I q (by simp))
    | int j => obtain ⟨t', rfl⟩ := ry; exact eq_int (fin_bl I q dec_int)
    | str j => obtain ⟨t', rfl⟩ := ry; exact PySem.EqMixed.eq_int_str (fin_bl I q (by simp))
    | _ => exact absurd (show false = true from hs) Bool.false_ne_true
  | str i =>
    obtain ⟨t, rfl⟩ := rx
    cases y with
    | non => cases ry; exact PySem.EqNone.eq_str_none (fin_bl I q (by simp))
    | bl j => cases ry; exact PySem.EqMixed.eq_str_bool (fin_bl I q (by simp))
    | int j => obtain ⟨t', rfl⟩ := ry; exact PySem.EqMixed.eq_str_int (fin_bl I q (by simp))
    | str j => obtain ⟨t', rfl⟩ := ry; exact eq_str (fin_bl I q dec_str)
    | _ => exact absurd (show false = true from hs) Bool.false_ne_true
  | byt i =>
    obtain ⟨t, rfl⟩ := rx
    cases y with
    | byt j => obtain ⟨t', rfl⟩ := ry; exact PySem.W.eq_bytes (fin_bl I q dec_byt)
    | _ => exact absurd (show false = true from hs) Bool.false_ne_true
  | _ => cases y <;> exact absurd (show false = true from hs) Bool.false_ne_true
theorem op_ne : OpR X (compareOp .NotEq) rNe := by
  intro pins s σ H x y v u Q I rx ry h
  obtain ⟨hs, q⟩ := h
  cases x with
  | non =>
    cases rx
    cases y with
    | non => cases ry; exact PySem.EqNone.ne_none_none (fin_bl I q (by simp))
    | bl j => cases ry; exact PySem.EqNone.ne_none_bool (fin_bl I q (by simp))
    | int j => obtain ⟨t', rfl⟩ := ry; exact PySem.EqNone.ne_none_int (fin_bl I q (by simp))
    | str j => obtain ⟨t', rfl⟩ := ry; exact PySem.EqNone.ne_none_str (fin_bl I q (by simp))
    | _ => exact absurd (show false = true from hs) Bool.false_ne_true
  | bl i =>
    cases rx
    cases y with
    | non => cases ry; exact PySem.EqNone.ne_bool_none (fin_bl I q (by simp))
    | bl j => cases ry; exact ne_bool (fin_bl I q (congrArg not dec_bl))
    | str j => obtain ⟨t', rfl⟩ := ry; exact PySem.EqMixed.ne_bool_str (fin_bl I q (by simp))
    | _ => exact absurd (show false = true from hs) Bool.false_ne_true
  | int i =>
    obtain ⟨t, rfl⟩ := rx
    cases y with
    | non => cases ry; exact PySem.EqNone.ne_int_none (fin_bl I q (by simp))
    | int j => obtain ⟨t', rfl⟩ := ry; exact ne_int (fin_bl I q (congrArg not dec_int))
    | str j => obtain ⟨t', rfl⟩ := ry; exact PySem.EqMixed.ne_int_str (fin_bl I q (by simp))
    | _ => exact absurd (show false = true from hs) Bool.false_ne_true
  | str i =>
    obtain ⟨t, rfl⟩ := rx
    cases y with
    | non => cases ry; exact PySem.EqNone.ne_str_none (fin_bl I q (by simp))
    | bl j => cases ry; exact PySem.EqMixed.ne_str_bool (fin_bl I q (by simp))
    | int j => obtain ⟨t', rfl⟩ := ry; exact PySem.EqMixed.ne_str_int (fin_bl I q (by simp))
    | str j => obtain ⟨t', rfl⟩ := ry; exact ne_str (fin_bl I q (congrArg not dec_str))
    | _ => exact absurd (show false = true from hs) Bool.false_ne_true
  | byt i =>
    obtain ⟨t, rfl⟩ := rx
    cases y with
    | byt j => obtain ⟨t', rfl⟩ := ry; exact PySem.W.ne_bytes (fin_bl I q (congrArg not dec_byt))
    | _ => exact absurd (show false = true from hs) Bool.false_ne_true
  | _ => cases y <;> exact absurd (show false = true from hs) Bool.false_ne_true

theorem op_lt : OpR X (compareOp .Lt) (rI0 fun i j => .bl (decide (i < j))) := opB0 fun _ _ _ _ _ _ _ q => lt_int q
theorem op_le : OpR X (compareOp .LtE) (rI0 fun i j => .bl (decide (i ≤ j))) := opB0 fun _ _ _ _ _ _ _ q => le_int q
theorem op_gt : OpR X (compareOp .Gt) (rI0 fun i j => .bl (decide (j < i))) := opB0 fun _ _ _ _ _ _ _ q => gt_int q
theorem op_ge : OpR X (compareOp .GtE) (rI0 fun i j => .bl (decide (j ≤ i))) := opB0 fun _ _ _ _ _ _ _ q => ge_int q
theorem op_lt_str : OpR X (compareOp .Lt) (fun x y H Q => ∃ i j, x = .str i ∧ y = .str j ∧ Q (.bl (decide (i.cps.toList < j.cps.toList))) H) := by
  intro pins s σ H x y v u Q I rx ry h
  obtain ⟨i, j, rfl, rfl, q⟩ := h
  obtain ⟨t, rfl⟩ := rx
  obtain ⟨t', rfl⟩ := ry
  exact lt_str (fin_bl I q rfl)
/-- the one string within the other -/
theorem op_in_str : OpR X (compareOp .In) (fun x y H Q => ∃ i j, x = .str i ∧ y = .str j ∧ Q (.bl (!(Builtin.Str.occurrences j i 0 j.length 1).isEmpty)) H) := by
  intro pins s σ H x y v u Q I rx ry h
  obtain ⟨i, j, rfl, rfl, q⟩ := h
  obtain ⟨t, rfl⟩ := rx
  obtain ⟨t', rfl⟩ := ry
  exact in_str (fin_bl I q rfl)

/-- is None, is not None: the right side a value none -/
theorem op_isN : OpR X (compareOp .Is) (fun x y H Q => y = .non ∧ Q (.bl (decide (x = .non))) H) := by
  intro pins s σ H x y v u Q I rx ry h
  obtain ⟨rfl, q⟩ := h
  cases ry
  refine is_none_gen (fin_bl I q ?_)
  cases x <;> first
    | (cases rx; rfl)
    | (obtain ⟨t, rfl⟩ := rx; rfl)
theorem op_notN : OpR X (compareOp .IsNot) (fun x y H Q => y = .non ∧ Q (.bl (!decide (x = .non))) H) := by
  intro pins s σ H x y v u Q I rx ry h
  obtain ⟨rfl, q⟩ := h
  cases ry
  refine isnot_none_gen (fin_bl I q ?_)
  cases x <;> first
    | (cases rx; rfl)
    | (obtain ⟨t, rfl⟩ := rx; rfl)

theorem op_notin_str : OpR X (compareOp .NotIn) (fun x y H Q => ∃ i j, x = .str i ∧ y = .str j ∧ Q (.bl (!(!(Builtin.Str.occurrences j i 0 j.length 1).isEmpty))) H) := by
  intro pins s σ H x y v u Q I rx ry h
  obtain ⟨i, j, rfl, rfl, q⟩ := h
  obtain ⟨t, rfl⟩ := rx
  obtain ⟨t', rfl⟩ := ry
  exact notIn_str (fin_bl I q rfl)
/-- is, is not of two objects that are tracked lists or instances -/
def isObj : HO → Bool
  | .lst _ => true
  | .ins _ _ _ => true
  | _ => false
theorem obj_there {pins : List (Addr × Obj)} {s : Shared} {σ : St} {H : Hp} {a : Addr} {o : HO} (I : Inv X pins σ H s) (h : H a = some o) (p : isObj o = true) : ∃ ob, s.heap.get? a = some ob ∧ ob.cls ≠ .type "tuple" := by
  cases o with
  | lst xs =>
    obtain ⟨_, its, n, _, e⟩ : xs.length ≤ sizeLine ∧ ∃ (its : List Value) (n : Nat), Vals xs its ∧ s.heap.get? a = some { cls := .type "list", data := .seq its.toArray n } := I.hok a _ h
    exact ⟨_, e, (by show Value.type "list" ≠ .type "tuple"; decide +kernel)⟩
  | ins C dx fs =>
    have x := I.hok a _ h
    obtain ⟨_, _, _, e, _⟩ := x
    exact ⟨_, e, (by show Value.ref C ≠ .type "tuple"; exact fun z => by cases z)⟩
  | _ => exact absurd (show false = true from p) Bool.false_ne_true
theorem op_is_ref : OpR X (compareOp .Is) (fun x y H Q => ∃ a b oa ob, x = .ref a ∧ y = .ref b ∧ H a = some oa ∧ isObj oa = true ∧ H b = some ob ∧ isObj ob = true ∧ Q (.bl (decide (a = b))) H) := by
  intro pins s σ H x y v u Q I rx ry h
  obtain ⟨a, b, oa, ob, rfl, rfl, ha, pa, hb, pb, q⟩ := h
  cases rx
  cases ry
  obtain ⟨o1, e1, n1⟩ := obj_there I ha pa
  obtain ⟨o2, e2, _⟩ := obj_there I hb pb
  by_cases z : a = b
  · subst z
    exact wpAny_is_ref_self (fin_bl I q (by simp))
  · exact wpAny_is_ref_other z e1 e2 n1 (fin_bl I q (by simp [z]))
theorem op_isnot_ref : OpR X (compareOp .IsNot) (fun x y H Q => ∃ a b oa ob, x = .ref a ∧ y = .ref b ∧ H a = some oa ∧ isObj oa = true ∧ H b = some ob ∧ isObj ob = true ∧ Q (.bl (!decide (a = b))) H) := by
  intro pins s σ H x y v u Q I rx ry h
  obtain ⟨a, b, oa, ob, rfl, rfl, ha, pa, hb, pb, q⟩ := h
  cases rx
  cases ry
  obtain ⟨o1, e1, n1⟩ := obj_there I ha pa
  obtain ⟨o2, e2, _⟩ := obj_there I hb pb
  by_cases z : a = b
  · subst z
    exact wpAny_isNot_ref_self (fin_bl I q (by simp))
  · exact wpAny_isNot_ref_other z e1 e2 n1 (fin_bl I q (by simp [z]))

/-- two rules for one operation: by cases -/
theorem OpR.or {f : Value → Value → Sem Value} {r r' : R2} (h : OpR X f r) (h' : OpR X f r') : OpR X f (fun x y H Q => r x y H Q ∨ r' x y H Q) := by
  intro pins s σ H x y v u Q I rx ry q
  rcases q with q | q
  · exact h pins s σ H x y v u Q I rx ry q
  · exact h' pins s σ H x y v u Q I rx ry q

theorem nomark (b : Expr) {op : CmpOp} (h : op ≠ .In := by decide) (h2 : op ≠ .NotIn := by decide) : behindInMarks op b = false := by
  have e1 : (op == CmpOp.In) = false := by cases op <;> first | rfl | exact absurd rfl h
  have e2 : (op == CmpOp.NotIn) = false := by cases op <;> first | rfl | exact absurd rfl h2
  cases b <;> simp [behindInMarks, e1, e2]
/-- a comparison as a value; hm: nomark b, or (for in, not in) by with_unfolding_all rfl -/
theorem pe_cmpR {op : CmpOp} {r : R2} (ho : OpR X (compareOp op) r) (ha : PE X a ta) (hb : PE X b tb) (hm : behindInMarks op b = false) : PE X (.Compare a [op] [b] pos) (tOp r ta tb) := by
  intro pins s σ H Q I h
  exact wpAny_Compare1 (binT ha hb I h fun v u s2 x y H2 I2 rx ry q => ho pins s2 σ H2 x y v u Q I2 rx ry q) hm
/-- a reading of a value as a test -/
def tTest (t : TE) : TT := fun σ H Q => t σ H fun x H' => ∃ k, x = .bl k ∧ Q k H'
theorem pt_cmpR {op : CmpOp} {r : R2} (ho : OpR X (compareOp op) r) (ha : PE X a ta) (hb : PE X b tb) (hm : behindInMarks op b = false) : PT X (.Compare a [op] [b] pos) (tTest (tOp r ta tb)) := by
  intro pins s σ H Q I h
  refine wpAny_isTrue_Compare1 (thn (ha pins s σ H _ I h) fun v s1 ⟨x, H1, I1, r1, q1⟩ => thn (hb pins s1 σ H1 _ I1 q1) fun u s2 ⟨y, H2, I2, r2, q2⟩ =>
    thn (ho pins s2 σ H2 x y v u _ I2 r1 r2 q2) fun c s3 ⟨z, H3, I3, r3, k, e, q3⟩ => ?_) hm
  subst e
  cases r3
  exact wpAny_truthy_bool ⟨H3, I3, q3⟩
/-- a op1 b op2 c -/
def tChain (r r' : R2) (ta tb tc : TE) : TE := fun σ H Q => ta σ H fun x H1 => tb σ H1 fun y H2 => r x y H2 fun z H3 => ∃ k, z = .bl k ∧
  (if k = true then tc σ H3 fun w' H4 => r' y w' H4 Q else Q (.bl false) H3)
theorem pe_chain {op op' : CmpOp} {r r' : R2} (ho : OpR X (compareOp op) r) (ho' : OpR X (compareOp op') r') (ha : PE X a ta) (hb : PE X b tb) (hc : PE X c tc)
    (hm : lastMarks [op, op'] [b, c] = false := by with_unfolding_all rfl) : PE X (.Compare a [op, op'] [b, c] pos) (tChain r r' ta tb tc) := by
  intro pins s σ H Q I h
  refine Compare_chain (thn (ha pins s σ H _ I h) fun v s1 ⟨x, H1, I1, r1, q1⟩ => chain_link (thn (hb pins s1 σ H1 _ I1 q1) fun u s2 ⟨y, H2, I2, r2, q2⟩ =>
    thn (ho pins s2 σ H2 x y v u _ I2 r1 r2 q2) fun d s3 ⟨z, H3, I3, r3, k, e, q3⟩ => ?_)) hm
  subst e
  cases r3
  refine wpAny_truthy_bool ?_
  cases k with
  | false => exact ite_ff ⟨.bl false, H3, I3, rfl, q3⟩
  | true => exact ite_tt (chain_last (thn (hc pins s3 σ H3 _ I3 q3) fun w' s4 ⟨z', H4, I4, r4, q4⟩ => ho' pins s4 σ H4 y z' u w' Q I4 r2 r4 q4))
theorem pt_chain {op op' : CmpOp} {r r' : R2} (ho : OpR X (compareOp op) r) (ho' : OpR X (compareOp op') r') (ha : PE X a ta) (hb : PE X b tb) (hc : PE X c tc)
    (hm : lastMarks [op, op'] [b, c] = false := by with_unfolding_all rfl) : PT X (.Compare a [op, op'] [b, c] pos) (tTest (tChain r r' ta tb tc)) := by
  intro pins s σ H Q I h
  refine isTrue_chain (thn (ha pins s σ H _ I h) fun v s1 ⟨x, H1, I1, r1, q1⟩ => test_link (thn (hb pins s1 σ H1 _ I1 q1) fun u s2 ⟨y, H2, I2, r2, q2⟩ =>
    thn (ho pins s2 σ H2 x y v u _ I2 r1 r2 q2) fun d s3 ⟨z, H3, I3, r3, k, e, q3⟩ => ?_)) hm
  subst e
  cases r3
  refine wpAny_truthy_bool ?_
  cases k with
  | false =>
    obtain ⟨k', e', q'⟩ := q3
    cases e'
    exact ite_ff ⟨H3, I3, q'⟩
  | true =>
    refine ite_tt (test_last (thn (hc pins s3 σ H3 _ I3 q3) fun w' s4 ⟨z', H4, I4, r4, q4⟩ => thn (ho' pins s4 σ H4 y z' u w' _ I4 r2 r4 q4) fun d' s5 ⟨z2, H5, I5, r5, k2, e2, q5⟩ => ?_))
    subst e2
    cases r5
    exact wpAny_truthy_bool ⟨H5, I5, q5⟩

/-! ### truth -/
/-- a value's truth by the abstract heap -/
def TruV (K : PySem.W.Frag) (x : V) (H : Hp) (k : Bool) : Prop :=
  match x with
  | .non => k = false
  | .bl b => k = b
  | .int i => k = (i != 0)
  | .str y => y.length ≤ sizeLine ∧ k = ((y.length : Int) != 0)
  | .byt y => y.size ≤ sizeLine ∧ k = ((y.size : Int) != 0)
  | .ref p => (∃ xs, SqL K H p xs ∧ k = !xs.isEmpty) ∨ (∃ xs, SqT K H p xs ∧ k = !xs.isEmpty) ∨ ∃ kvs, H p = some (.dK kvs) ∧ k = !kvs.isEmpty
  | _ => False
theorem isEmpty_kv {κ : Type} {kvs : List (κ × V)} {vs : List (κ × Value)} (r : KV kvs vs) : (!vs.isEmpty) = !kvs.isEmpty := by
  cases r <;> rfl
theorem isEmpty_of {xs : List V} {its : List Value} (r : Vals xs its) : (!its.toArray.isEmpty) = !xs.isEmpty := by
  cases r <;> simp
theorem line63 : (sizeLine : Nat) < 2 ^ 63 := by rw [sizeLine_eq]; decide
theorem tru_ok : TruR X (fun x H Q => ∃ k, TruV X.K x H k ∧ Q k H) := by
  intro pins s σ H x v Q I rx h
  obtain ⟨k, e, q⟩ := h
  have hl := line63
  have hs : sizeLine = 16777216 := sizeLine_eq
  cases x with
  | non =>
    cases rx
    have e' : k = false := e
    subst e'
    exact truthy_none ⟨H, I, q⟩
  | bl b =>
    cases rx
    have e' : k = b := e
    subst e'
    exact wpAny_truthy_bool ⟨H, I, q⟩
  | int i =>
    obtain ⟨t, rfl⟩ := rx
    have e' : k = (i != 0) := e
    subst e'
    exact PySem.P.truthy_int ⟨H, I, q⟩
  | str y =>
    obtain ⟨t, rfl⟩ := rx
    obtain ⟨hy, e'⟩ : y.length ≤ sizeLine ∧ k = ((y.length : Int) != 0) := e
    subst e'
    exact PySem.P.truthy_str (by omega) ⟨H, I.tok _, q⟩
  | byt y =>
    obtain ⟨t, rfl⟩ := rx
    obtain ⟨hy, e'⟩ : y.size ≤ sizeLine ∧ k = ((y.size : Int) != 0) := e
    subst e'
    exact PySem.W.truthy_bytes (by omega) ⟨H, I.tok _, q⟩
  | ref p =>
    cases rx
    have e' : (∃ xs, SqL X.K H p xs ∧ k = !xs.isEmpty) ∨ (∃ xs, SqT X.K H p xs ∧ k = !xs.isEmpty) ∨ ∃ kvs, H p = some (.dK kvs) ∧ k = !kvs.isEmpty := e
    rcases e' with ⟨xs, hx, e'⟩ | ⟨xs, hx, e'⟩ | ⟨kvs, hx, e'⟩
    · subst e'
      obtain ⟨its, r, pl, hz⟩ := I.list hx
      have hlen := r.length
      exact wpAny_truthy_list pl.isList (by simp only [List.size_toArray]; omega) ⟨H, I.tok _, by rw [isEmpty_of r]; exact q⟩
    · subst e'
      obtain ⟨its, r, pl, hz⟩ := I.tuple hx
      have hlen := r.length
      exact truthy_tuple pl (by simp only [List.size_toArray]; omega) ⟨H, I.tok _, by rw [isEmpty_of r]; exact q⟩
    · subst e'
      obtain ⟨hz, hS, vs, r, m⟩ : kvs.length ≤ sizeLine ∧ (p == sysModules) = false ∧ ∃ vs, KV kvs vs ∧ s.heap.DictOf (mixKind X.prog X.w) p vs := I.hok p _ hx
      have hlen : kvs.length = vs.length := Paired.length r
      exact wpAny_truthy_dict hS m (by omega) ⟨H, I.tok _, by rw [isEmpty_kv r]; exact q⟩
  | _ => exact (show False from e).elim
/-- any expression whose test is its value's truth (a name, a call, a subscript, a field ..: he by fun _ => rfl) -/
theorem pt_truth (ha : PE X a ta) (he : ∀ whole, isTrue a X.env whole = (do let v ← whole; standAt a.pos; holding [v] (truthy v))) :
    PT X a (fun σ H Q => ta σ H fun x H' => ∃ k, TruV X.K x H' k ∧ Q k H') := by
  intro pins s σ H Q I h
  exact isTrue_plain (thn (ha pins s σ H _ I h) fun v s1 ⟨x, H1, I1, r1, q1⟩ => tru_ok pins s1 σ H1 x v Q I1 r1 q1) (he _)

/-! ### strs and bytes -/
theorem pe_byt {x : List UInt8} {k : Nat} : PE X (.Constant (.bytes x) k pos) (fun _ H Q => Q (.byt x.toArray) H) := fun _ _ _ H _ I h => PySem.W.Constant_bytes ⟨.byt x.toArray, H, I.tok _, ⟨_, rfl⟩, h⟩
theorem op_add_str : OpR X (binaryOp .Add) (fun x y H Q => ∃ i j, x = .str i ∧ y = .str j ∧ i.length + j.length ≤ sizeLine ∧ Q (.str (i ++ j)) H) := by
  intro pins s σ H x y v u Q I rx ry h
  obtain ⟨i, j, rfl, rfl, hz, q⟩ := h
  obtain ⟨t, rfl⟩ := rx
  obtain ⟨t', rfl⟩ := ry
  exact add_str (fun t' tk => ⟨.str (i ++ j), H, I.tok _, ⟨_, rfl⟩, q⟩) hz
theorem iop_add_str : OpR X (inplaceOp .Add) (fun x y H Q => ∃ i j, x = .str i ∧ y = .str j ∧ i.length + j.length ≤ sizeLine ∧ Q (.str (i ++ j)) H) := by
  intro pins s σ H x y v u Q I rx ry h
  obtain ⟨i, j, rfl, rfl, hz, q⟩ := h
  obtain ⟨t, rfl⟩ := rx
  obtain ⟨t', rfl⟩ := ry
  exact iadd_str (fun t' tk => ⟨.str (i ++ j), H, I.tok _, ⟨_, rfl⟩, q⟩) hz
theorem op_add_byt : OpR X (binaryOp .Add) (fun x y H Q => ∃ i j, x = .byt i ∧ y = .byt j ∧ i.size + j.size ≤ 16777216 ∧ Q (.byt (i ++ j)) H) := by
  intro pins s σ H x y v u Q I rx ry h
  obtain ⟨i, j, rfl, rfl, hz, q⟩ := h
  obtain ⟨t, rfl⟩ := rx
  obtain ⟨t', rfl⟩ := ry
  exact PySem.W.KBy.add_bytes hz (fun t' tk => ⟨.byt (i ++ j), H, I.tok _, ⟨_, rfl⟩, q⟩)

def PlainIxT (b : Expr) : Prop := ∀ o i, subscripted b false o i = operate [o, i] (getItem o i)
/-- s[i], 0 ≤ i < len -/
theorem pe_item_str (ha : PE X a ta) (hb : PE X b tb) (hs : PlainIxT b) :
    PE X (.Subscript a b pos) (tOp (fun x y H Q => ∃ z i c, x = .str z ∧ y = .int i ∧ 0 ≤ i ∧ i < 2 ^ 63 ∧ i < z.length ∧ z.cps[i.toNat]? = some c ∧ Q (.str ⟨#[c]⟩) H) ta tb) := by
  intro pins s σ H Q I h
  refine Subscript_ (binT ha hb I h fun v u s2 x y H2 I2 rx ry q => ?_)
  obtain ⟨z, i, c, rfl, rfl, h0, h63, h1, hc, q⟩ := q
  obtain ⟨t, rfl⟩ := rx
  obtain ⟨t', rfl⟩ := ry
  have e : seqIndex? i z.length = some i.toNat := PySem.StrLaws.seqIndex_nonneg h0 h1
  exact tail_any (typeIs_str s2 z t) slot_str_getitem.lookup (getItem_str (c := c) (by
    have e1 : decide (i < -(2 ^ 63 : Int)) = false := decide_eq_false (by omega)
    have e2 : decide (i ≥ 2 ^ 63) = false := decide_eq_false (by omega)
    rw [e1, e2] <;> rfl) (by rw [e]; exact hc) ⟨.str ⟨#[c]⟩, H2, I2.tok _, ⟨_, rfl⟩, q⟩) (hs _ _)
/-- b[i], 0 ≤ i < len -/
theorem pe_item_byt (ha : PE X a ta) (hb : PE X b tb) (hs : PlainIxT b) :
    PE X (.Subscript a b pos) (tOp (fun x y H Q => ∃ (z : List UInt8) (i : Int), x = .byt z.toArray ∧ y = .int i ∧ z.length ≤ sizeLine ∧ 0 ≤ i ∧ i < z.length ∧ Q (.int ((z.getD i.toNat 0).toNat : Nat)) H) ta tb) := by
  intro pins s σ H Q I h
  refine Subscript_ (binT ha hb I h fun v u s2 x y H2 I2 rx ry q => ?_)
  obtain ⟨z, i, rfl, rfl, hz, h0, h1, q⟩ := q
  obtain ⟨t, rfl⟩ := rx
  obtain ⟨t', rfl⟩ := ry
  have hl : sizeLine = 16777216 := sizeLine_eq
  exact tail_any (PySem.W.typeIs_bytes s2 z.toArray t) PySem.W.FB.slot_bytes_getitem.lookup (PySem.W.getItem_bytes (by omega) h0 h1 ⟨.int ((z.getD i.toNat 0).toNat : Nat), H2, I2.tok _, ⟨_, rfl⟩, q⟩) (hs _ _)

/-! ### scalar builtins, by CallR -/
theorem vals1 {x : V} {us : List Value} (r : Vals [x] us) : ∃ u, us = [u] ∧ RelV x u := by
  cases r with
  | cons r1 r2 => cases r2; exact ⟨_, rfl, r1⟩
theorem vals2 {x y : V} {us : List Value} (r : Vals [x, y] us) : ∃ u w', us = [u, w'] ∧ RelV x u ∧ RelV y w' := by
  cases r with
  | cons r1 r2 =>
    cases r2 with
    | cons r3 r4 => cases r4; exact ⟨_, _, rfl, r1, r3⟩
theorem call_abs : CallR X (.builtin "abs") (fun xs H Q => ∃ i, xs = [.int i] ∧ Q (.int (if i < 0 then -i else i)) H) := by
  intro pins s σ H xs us Q I r h
  obtain ⟨i, rfl, q⟩ := h
  obtain ⟨u, rfl, t, rfl⟩ := vals1 r
  exact call_abs_int fun u tk => ⟨.int (if i < 0 then -i else i), H, I.tok _, ⟨_, rfl⟩, q⟩
theorem call_max2 (hc : X.calm = true) : CallR X (.builtin "max") (fun xs H Q => ∃ i j, xs = [.int i, .int j] ∧ Q (.int (if j > i then j else i)) H) := by
  intro pins s σ H xs us Q I r h
  obtain ⟨i, j, rfl, q⟩ := h
  obtain ⟨u, w', rfl, ⟨t, rfl⟩, ⟨t', rfl⟩⟩ := vals2 r
  refine max_two_ints (I.ok.hd hc) fun h' tk k => ⟨_, H, I.kept k, ?_, q⟩
  by_cases hj : j > i
  · rw [if_pos hj, if_pos hj]; exact ⟨_, rfl⟩
  · rw [if_neg hj, if_neg hj]; exact ⟨_, rfl⟩
theorem call_min2 (hc : X.calm = true) : CallR X (.builtin "min") (fun xs H Q => ∃ i j, xs = [.int i, .int j] ∧ Q (.int (if j < i then j else i)) H) := by
  intro pins s σ H xs us Q I r h
  obtain ⟨i, j, rfl, q⟩ := h
  obtain ⟨u, w', rfl, ⟨t, rfl⟩, ⟨t', rfl⟩⟩ := vals2 r
  refine min_two_ints (I.ok.hd hc) fun h' tk k => ⟨_, H, I.kept k, ?_, q⟩
  by_cases hj : j < i
  · rw [if_pos hj, if_pos hj]; exact ⟨_, rfl⟩
  · rw [if_neg hj, if_neg hj]; exact ⟨_, rfl⟩
theorem call_int1 : CallR X (.type "int") (fun xs H Q => (∃ i, xs = [.int i] ∧ Q (.int i) H) ∨ ∃ k, xs = [.bl k] ∧ Q (.int (if k then 1 else 0)) H) := by
  intro pins s σ H xs us Q I r h
  rcases h with ⟨i, rfl, q⟩ | ⟨k, rfl, q⟩
  · obtain ⟨u, rfl, t, rfl⟩ := vals1 r
    exact call_int_int ⟨.int i, H, I, ⟨_, rfl⟩, q⟩
  · obtain ⟨u, rfl, r1⟩ := vals1 r
    cases r1
    exact call_int_bool ⟨.int (if k then 1 else 0), H, I.tok _, ⟨_, rfl⟩, q⟩
theorem call_bool1 : CallR X (.type "bool") (fun xs H Q => (∃ i, xs = [.int i] ∧ Q (.bl (i != 0)) H) ∨ ∃ k, xs = [.bl k] ∧ Q (.bl k) H) := by
  intro pins s σ H xs us Q I r h
  rcases h with ⟨i, rfl, q⟩ | ⟨k, rfl, q⟩
  · obtain ⟨u, rfl, t, rfl⟩ := vals1 r
    exact call_bool_int ⟨.bl (i != 0), H, I, rfl, q⟩
  · obtain ⟨u, rfl, r1⟩ := vals1 r
    cases r1
    exact call_bool_bool ⟨.bl k, H, I, rfl, q⟩
theorem call_str_int : CallR X (.type "str") (fun xs H Q => ∃ i, xs = [.int i] ∧ i.natAbs.log2 < 1920 ∧ Q (.str (toString i)) H) := by
  intro pins s σ H xs us Q I r h
  obtain ⟨i, rfl, hz, q⟩ := h
  obtain ⟨u, rfl, t, rfl⟩ := vals1 r
  exact PySem.P.str_of_int hz ⟨.str _, H, I.tok _, ⟨_, rfl⟩, q⟩
theorem call_ord : CallR X (.builtin "ord") (fun xs H Q => ∃ x, xs = [.str x] ∧ x.length = 1 ∧ Q (.int (x.cps.getD 0 0 : Nat)) H) := by
  intro pins s σ H xs us Q I r h
  obtain ⟨x, rfl, hz, q⟩ := h
  obtain ⟨u, rfl, t, rfl⟩ := vals1 r
  exact ord_of_one hz ⟨.int _, H, I.tok _, ⟨_, rfl⟩, q⟩
theorem call_chr : CallR X (.builtin "chr") (fun xs H Q => ∃ i, xs = [.int i] ∧ 0 ≤ i ∧ i ≤ 1114111 ∧ Q (.str ⟨#[i.toNat]⟩) H) := by
  intro pins s σ H xs us Q I r h
  obtain ⟨i, rfl, h0, h1, q⟩ := h
  obtain ⟨u, rfl, t, rfl⟩ := vals1 r
  exact chr_of_range h0 h1 ⟨.str _, H, I.tok _, ⟨_, rfl⟩, q⟩
/-- len of a str, a bytes, a list, a tuple -/
def LenV (K : PySem.W.Frag) (x : V) (H : Hp) (n : Nat) : Prop :=
  match x with
  | .str y => y.length ≤ sizeLine ∧ n = y.length
  | .byt y => y.size ≤ sizeLine ∧ n = y.size
  | .ref p => (∃ xs, SqL K H p xs ∧ n = xs.length) ∨ ∃ xs, SqT K H p xs ∧ n = xs.length
  | _ => False
theorem call_len : CallR X (.builtin "len") (fun xs H Q => ∃ x n, xs = [x] ∧ LenV X.K x H n ∧ Q (.int n) H) := by
  intro pins s σ H xs us Q I r h
  obtain ⟨x, n, rfl, e, q⟩ := h
  obtain ⟨u, rfl, rx⟩ := vals1 r
  have hl := line63
  have hs : sizeLine = 16777216 := sizeLine_eq
  cases x with
  | str y =>
    obtain ⟨t, rfl⟩ := rx
    obtain ⟨hy, e'⟩ : y.length ≤ sizeLine ∧ n = y.length := e
    subst e'
    exact len_str (by omega) ⟨.int _, H, I.tok _, ⟨_, rfl⟩, q⟩
  | byt y =>
    obtain ⟨t, rfl⟩ := rx
    obtain ⟨hy, e'⟩ : y.size ≤ sizeLine ∧ n = y.size := e
    subst e'
    exact PySem.W.len_bytes (by omega) ⟨.int _, H, I.tok _, ⟨_, rfl⟩, q⟩
  | ref p =>
    cases rx
    have e' : (∃ xs, SqL X.K H p xs ∧ n = xs.length) ∨ ∃ xs, SqT X.K H p xs ∧ n = xs.length := e
    rcases e' with ⟨xs, hx, e'⟩ | ⟨xs, hx, e'⟩
    · subst e'
      obtain ⟨its, r', pl, hz⟩ := I.list hx
      have hlen := r'.length
      exact Calls.call_len_list pl.isList (by simp only [List.size_toArray]; omega) ⟨.int xs.length, H, I.tok _, ⟨_, by simp only [List.size_toArray]; rw [hlen]⟩, q⟩
    · subst e'
      obtain ⟨its, r', pl, hz⟩ := I.tuple hx
      have hlen := r'.length
      exact len_tuple pl (by simp only [List.size_toArray]; omega) ⟨.int xs.length, H, I.tok _, ⟨_, by simp only [List.size_toArray]; rw [hlen]⟩, q⟩
  | _ => exact (show False from e).elim
/-- divmod: a new tuple -/
theorem call_divmod : CallR X (.builtin "divmod") (fun xs H Q => ∃ i j, xs = [.int i, .int j] ∧ CDiv i j ∧ ∀ p, H p = none → Q (.ref p) (upd H p (.tup [.int (i / j), .int (i % j)]))) := by
  intro pins s σ H xs us Q I r h
  obtain ⟨i, j, rfl, ⟨h1, h2⟩, q⟩ := h
  obtain ⟨u, w', rfl, ⟨t, rfl⟩, ⟨t', rfl⟩⟩ := vals2 r
  refine divmod_int (by omega) ?_ (.inl (PyProof.noPylong_small (by omega)))
  rw [Int.fdiv_eq_ediv_of_nonneg i (by omega), Int.fmod_eq_emod_of_nonneg i (by omega)]
  have hn : H s.heap.objs.size = none := I.hok.fresh (Nat.le_refl _)
  refine ⟨.ref s.heap.objs.size, _, ?_, rfl, q _ hn⟩
  refine I.laid (fun b o e => Heap.get?_push_of_some _ e) (Nat.le_refl _) ⟨by simp only [List.length_cons, List.length_nil]; rw [sizeLine_eq]; decide, [.int (i / j) s.toks, .int (i % j) (s.toks + 1)], .cons ⟨_, rfl⟩ (.cons ⟨_, rfl⟩ .nil), ?_⟩
  exact ⟨_, Heap.get?_push_size s.heap rfl, rfl, 0, rfl⟩
end
end L2

namespace L2
open PySem PySem.Spec PyProof.Rows

/-! ### an instance, its attributes a map -/
structure ObjM (h : Heap) (x dx C : Addr) (mA : Str → Option Value) : Prop where
  obj : h.get? x = some (PySem.W.instObj C dx)
  ns : h.Ns1 dx mA
  ne : dx ≠ x

theorem lookIn_ns {h : Heap} {dx : Addr} {mA : Str → Option Value} (n : h.Ns1 dx mA) : ∃ od, h.get? dx = some od ∧ ∀ name, PySem.W.lookIn name od = some (mA name) := by
  obtain ⟨o, es, ep, ho, hd, hk, _, hm⟩ := n
  refine ⟨o, ho, fun name => ?_⟩
  have e := hm name
  unfold nsFind findBy at e
  rw [← Array.find?_toList] at e
  unfold PySem.W.lookIn
  rw [hd]
  dsimp only
  split
  · rename_i y q
    rw [q] at e
    exact congrArg some e
  · rename_i q
    rw [q] at e
    have a : es.toList.any (·.refKey) = false := by
      rw [List.any_eq_false]
      intro y hy
      obtain ⟨z, t, hkey⟩ := hk y (Array.mem_toList_iff.mp hy)
      simp [DictEntry.refKey, hkey]
    have a' : ¬ es.toList.any (·.refKey) = true := by rw [a]; exact Bool.false_ne_true
    rw [if_neg a']
    exact congrArg some e

theorem ObjM.look {h : Heap} {x dx C : Addr} {mA : Str → Option Value} (I : ObjM h x dx C mA) : ∃ od, PySem.W.InstAt h x (PySem.W.instObj C dx) C (some od) ∧ ∀ name, PySem.W.lookIn name od = some (mA name) :=
  let ⟨od, ho, hl⟩ := lookIn_ns I.ns
  ⟨od, ⟨I.obj, rfl, rfl, ho⟩, hl⟩

section
variable {prog : Program} {w : World} {A : Around} {E : Value → Shared → Prop} {s : Shared} {K : PySem.W.Frag} {x dx C f : Addr} {mA : Str → Option Value} {name : Str} {v : Value}

theorem get_map {expr : Bool} {Q : Value → Shared → Prop} (X : K.In s.heap) (I : ObjM s.heap x dx C mA) (hg : PySem.W.plainGet K C name = true) (hh : PySem.W.hasDictIn K C = true)
    (ha : PySem.W.findIn K (.ref C) name = some none) (hv : mA name = some v) (hv' : PySem.W.handedIn v = true) (h : Q v { s with toks := s.toks + 1 }) :
    wpAny (model prog w) A (getAttr (.ref x) name expr) Q E s := by
  obtain ⟨od, J, hl⟩ := I.look
  exact PySem.W.get_value X J (PySem.W.plainGet_of hg).1 (PySem.W.findObj_own hh ha rfl (by rw [hl, hv])) hv' h

theorem get_const {expr : Bool} {a : Value} {Q : Value → Shared → Prop} (X : K.In s.heap) (I : ObjM s.heap x dx C mA) (hg : PySem.W.plainGet K C name = true) (hh : PySem.W.hasDictIn K C = true)
    (ha : PySem.W.findIn K (.ref C) name = some (some a)) (hn : PySem.W.specialIn K a "__get__" = some none) (hc : PySem.W.copiedNames.contains name = false) (hv : mA name = none) (hv' : PySem.W.handedIn a = true)
    (h : Q a { s with toks := s.toks + 1 }) : wpAny (model prog w) A (getAttr (.ref x) name expr) Q E s := by
  obtain ⟨od, J, hl⟩ := I.look
  exact PySem.W.get_value X J (PySem.W.plainGet_of hg).1 (PySem.W.findObj_cls hh ha hn hv' hc (by rw [hl, hv])) hv' h

theorem get_meth {pl : Sem Bool} {Q : Value × List Value → Shared → Prop} (X : K.In s.heap) (I : ObjM s.heap x dx C mA) (hg : PySem.W.plainGet K C name = true)
    (hf : PySem.W.findIn K (.ref C) name = some (some (.ref f))) (ht : PySem.W.isFn K (.ref f) = true) (hv : mA name = none) (h : Q (.ref f, [.ref x]) s) :
    wpAny (model prog w) A (getMethod (.ref x) name pl) Q E s := by
  obtain ⟨od, J, hl⟩ := I.look
  exact PySem.W.method_fn X J (PySem.W.plainGet_of hg).1 (PySem.W.plainGet_of hg).2 hf (beq_iff_eq.mp ht) (by show (PySem.W.lookIn name od).map (·.isSome) = some false; rw [hl, hv]; rfl) h

theorem set_map {ns : List Str} {Q : Unit → Shared → Prop} (X : K.In s.heap) (I : ObjM s.heap x dx C mA)
    (hs : PySem.W.findIn K (.ref C) "__setattr__" = some (some (.builtin "object.__setattr__"))) (hp : PySem.W.plainOver K C = true) (ht : PySem.W.takerIn K C name = some none) (hh : PySem.W.hasDictIn K C = true)
    (hw : PySem.Within mA ns) (hsz : ns.length ≤ sizeLine)
    (h : ∀ h', ObjM h' x dx C (fun y => if y = name then some v else mA y) → Heap.SameBut dx s.heap h' → Q () { s with heap := h', toks := s.toks + 2 }) :
    wpAny (model prog w) A (setAttr (.ref x) name v) Q E s := by
  obtain ⟨od, J, hl⟩ := I.look
  refine PySem.W.set_plain X J hs (PySem.W.osa_open (s := { s with toks := s.toks + 1 }) (r := none) X J hp ht fun b => ?_)
  obtain ⟨cd, hc, hd'⟩ := PySem.W.any_some hh
  have hx : s.heap.get? x = some ⟨.ref C, some dx, .plain, #[]⟩ := I.obj
  refine wpAny_bind (wpAny_pure (wpAny_bind (wpAny_bind (wpAny_loadPart hx (wpAny_bind (PySem.W.Looks.here (s := { s with toks := s.toks + 1 }) (PySem.W.looks_clsIn X hc) ?_))))))
  rw [hd']
  refine wpAny_pure (a := some dx) (wpAny_bind (wpAny_pure (wpAny_bind ?_)))
  refine wpAny_nsSet1 (s := { s with toks := s.toks + 1 }) I.ns fun h' hn2 hs2 => ?_
  obtain ⟨oD, esD, epD, hoD, hdD, hcD⟩ := hn2.count (PySem.Within.cons name v hw)
  refine wpAny_bind (wpAny_lookBehind hoD (by rw [hdD]; exact pastItsLine_dict (Nat.le_trans hcD (by rw [List.length_cons]; omega))) ?_)
  exact wpAny_pure (h _ ⟨(hs2.2 _ (Ne.symm I.ne)).trans I.obj, hn2, I.ne⟩ hs2)

/-- C(..): the dict at the heap's end, the instance behind it; then its __init__ -/
theorem make_map {R : Result → Shared → Prop} {vs : List Value} {kw : List (Str × Value)} (X : K.In s.heap) (hm : PySem.W.makesIn K C = true)
    (hi : PySem.W.findIn K (.ref C) "__init__" = some (some (.ref f))) (hf : PySem.W.typeIn K (.ref f) = some (.type "function"))
    (h : codeAny (model prog w) (A.under (.builtin "type.__call__" ⟨.ref C :: vs, kw⟩)) (.call (.ref f) ⟨.ref (s.heap.objs.size + 1) :: vs, kw⟩) (PySem.W.InitBack (s.heap.objs.size + 1) R)
      { s with heap := (s.heap.push PySem.W.emptyDict).push (PySem.W.instObj C s.heap.objs.size) }) :
    codeAny (model prog w) A (.call (.ref C) ⟨vs, kw⟩) R s := by
  obtain ⟨hh, g, d, t, os⟩ := s
  exact PySem.W.make_core (PySem.W.makes_of X hm) (PySem.W.looks_findIn X hi) (fun self => PySem.W.bind_fn X self hf) (.inl rfl) h
/-- C() where there is no __init__ but object's -/
theorem make_map0 {R : Result → Shared → Prop} (X : K.In s.heap) (hm : PySem.W.makesIn K C = true)
    (hi : PySem.W.findIn K (.ref C) "__init__" = some (some (.builtin "object.__init__")))
    (hb : ∀ self, PySem.W.Looks (model prog w) s.heap (bindSpecial (.builtin "object.__init__") self) (.builtin "object.__init__", [self]))
    (h : codeAny (model prog w) (A.under (.builtin "type.__call__" ⟨[.ref C], []⟩)) (.call (.builtin "object.__init__") ⟨[.ref (s.heap.objs.size + 1)], []⟩) (PySem.W.InitBack (s.heap.objs.size + 1) R)
      { s with heap := (s.heap.push PySem.W.emptyDict).push (PySem.W.instObj C s.heap.objs.size) }) :
    codeAny (model prog w) A (.call (.ref C) ⟨[], []⟩) R s := by
  obtain ⟨hh, g, d, t, os⟩ := s
  exact PySem.W.make_core (PySem.W.makes_of X hm) (PySem.W.looks_findIn X hi) hb (.inr ⟨rfl, rfl⟩) h
end

/-! ### the attributes as a list of pairs -/
def putF (f : Str) (v : V) : List (Str × V) → List (Str × V)
  | [] => [(f, v)]
  | (g, x) :: r => if g = f then (g, v) :: r else (g, x) :: putF f v r
theorem lookup_putF (f g : Str) (v : V) : ∀ fs : List (Str × V), (putF f v fs).lookup g = if g = f then some v else fs.lookup g
  | [] => by
    show List.lookup g [(f, v)] = _
    by_cases h : g = f
    · have hb : (g == f) = true := beq_iff_eq.mpr h
      simp only [List.lookup, hb, if_pos h]
    · have hb : (g == f) = false := beq_eq_false_iff_ne.mpr h
      simp only [List.lookup, hb, if_neg h]
  | (k, x) :: r => by
    have ih := lookup_putF f g v r
    rw [show putF f v ((k, x) :: r) = (if k = f then (k, v) :: r else (k, x) :: putF f v r) from rfl]
    by_cases hk : k = f
    · rw [if_pos hk]
      by_cases h : g = k
      · have hb : (g == k) = true := beq_iff_eq.mpr h
        simp only [List.lookup, hb, if_pos (h.trans hk)]
      · have hb : (g == k) = false := beq_eq_false_iff_ne.mpr h
        simp only [List.lookup, hb, if_neg (fun e : g = f => h (e.trans hk.symm))]
    · rw [if_neg hk]
      by_cases h : g = k
      · have hb : (g == k) = true := beq_iff_eq.mpr h
        simp only [List.lookup, hb, if_neg (fun e : g = f => hk (h.symm.trans e))]
      · have hb : (g == k) = false := beq_eq_false_iff_ne.mpr h
        simp only [List.lookup, hb]
        exact ih
theorem keys_putF (f : Str) (v : V) : ∀ fs : List (Str × V), f ∈ (putF f v fs).map (·.1) ∧ ∀ g, g ∈ fs.map (·.1) → g ∈ (putF f v fs).map (·.1)
  | [] => ⟨by simp [putF], fun g h => by simp at h⟩
  | (k, x) :: r => by
    obtain ⟨i1, i2⟩ := keys_putF f v r
    rw [show putF f v ((k, x) :: r) = (if k = f then (k, v) :: r else (k, x) :: putF f v r) from rfl]
    by_cases hk : k = f
    · rw [if_pos hk]
      subst hk
      exact ⟨by simp, fun g h => by simpa using h⟩
    · rw [if_neg hk]
      refine ⟨?_, fun g h => ?_⟩
      · rw [List.map_cons]
        exact List.mem_cons_of_mem _ i1
      · rw [List.map_cons] at h ⊢
        rcases List.mem_cons.mp h with e | e
        · exact List.mem_cons.mpr (.inl e)
        · exact List.mem_cons_of_mem _ (i2 g e)
theorem length_putF (f : Str) (v : V) : ∀ fs : List (Str × V), (putF f v fs).length ≤ fs.length + 1
  | [] => by simp [putF]
  | (k, x) :: r => by
    have ih := length_putF f v r
    rw [show putF f v ((k, x) :: r) = (if k = f then (k, v) :: r else (k, x) :: putF f v r) from rfl]
    by_cases hk : k = f
    · rw [if_pos hk, List.length_cons, List.length_cons]; omega
    · rw [if_neg hk, List.length_cons, List.length_cons]; omega

theorem RelO.some_of {v : V} {o : Option Value} (r : RelO (some v) o) : ∃ u, o = some u ∧ RelV v u := by
  cases o with
  | none => exact (show False from r).elim
  | some u => exact ⟨u, rfl, r⟩
theorem RelO.none_of {o : Option Value} (r : RelO none o) : o = none := by
  cases o with
  | none => rfl
  | some u => exact (show False from r).elim
theorem handed_of {v : V} {u : Value} (r : RelV v u) : PySem.W.handedIn u = true := by
  cases v with
  | non => cases (show u = Value.none from r); rfl
  | bl b => cases (show u = Value.bool b from r); rfl
  | int i => obtain ⟨t, e⟩ := (show ∃ t, u = Value.int i t from r); cases e; rfl
  | str x => obtain ⟨t, e⟩ := (show ∃ t, u = Value.str x t from r); cases e; rfl
  | byt b => obtain ⟨t, e⟩ := (show ∃ t, u = Value.bytes b t from r); cases e; rfl
  | flt b => obtain ⟨t, e⟩ := (show ∃ t, u = Value.float b t from r); cases e; rfl
  | ref a => cases (show u = Value.ref a from r); rfl
  | ty n => cases (show u = Value.type n from r); rfl

section
variable {P : Program} {w : World} {H H' : Hp} {h h' : Heap} {a C dx : Addr} {fs fs' : List (Str × V)}
theorem ins_get (hok : HOk P w H h) (e : H a = some (.ins C dx fs)) : ∃ mA, ObjM h a dx C mA ∧ (∀ f, RelO (fs.lookup f) (mA f)) ∧ PySem.Within mA (fs.map (·.1)) ∧ fs.length ≤ 1000 ∧ H dx = some (.own a) := by
  obtain ⟨d, z, ne, ob, mA, n, r, q⟩ := (show ObjOk P w H h a (.ins C dx fs) from hok a _ e)
  exact ⟨mA, ⟨ob, n, ne⟩, r, q, z, d⟩
end

/-! ### what of the text a class must have -/
structure Cls (K : PySem.W.Frag) (C : Addr) : Prop where
  pg : PySem.W.plainGet K C Str.empty = true
  hd : PySem.W.hasDictIn K C = true
  po : PySem.W.plainOver K C = true
  sa : PySem.W.findIn K (.ref C) "__setattr__" = some (some (.builtin "object.__setattr__"))
theorem Cls.get {K : PySem.W.Frag} {C : Addr} (c : Cls K C) (f : Str) : PySem.W.plainGet K C f = true := c.pg
/-- no class of it has the name -/
def NoAttr (K : PySem.W.Frag) (C : Addr) (f : Str) : Prop := PySem.W.findIn K (.ref C) f = some none
theorem NoAttr.taker {K : PySem.W.Frag} {C : Addr} {f : Str} (n : NoAttr K C f) : PySem.W.takerIn K C f = some none := by
  unfold PySem.W.takerIn
  rw [show PySem.W.findIn K (.ref C) f = some none from n]
  rfl
/-- a constant of the class -/
structure Con (K : PySem.W.Frag) (C : Addr) (f : Str) (v : V) (u : Value) : Prop where
  at_ : PySem.W.findIn K (.ref C) f = some (some u)
  rel : RelV v u
  get : PySem.W.specialIn K u "__get__" = some none
  cp : PySem.W.copiedNames.contains f = false
/-- a method: a plain def of the class or of one above it -/
structure Meth (K : PySem.W.Frag) (C : Addr) (m : Str) (f : Addr) : Prop where
  at_ : PySem.W.findIn K (.ref C) m = some (some (.ref f))
  fn : PySem.W.isFn K (.ref f) = true
  kp : PySem.W.keepIn K (.ref f) = true

section
variable {X : Cx} {pins : List (Addr × Obj)} {σ : St} {H : Hp} {s : Shared} {a C dx : Addr} {fs : List (Str × V)} {f : Str} {v : V} {A : Around} {E : Value → Shared → Prop}

theorem getattr_ok {b : Bool} {Q : Value → Shared → Prop} (I : Inv X pins σ H s) (e : H a = some (.ins C dx fs)) (c : Cls X.K C) (n : NoAttr X.K C f) (l : fs.lookup f = some v)
    (h : ∀ u s', Inv X pins σ H s' → RelV v u → Q u s') : wpAny (model X.prog X.w) A (getAttr (.ref a) f b) Q E s := by
  obtain ⟨mA, O, r, _, _, _⟩ := ins_get I.hok e
  obtain ⟨u, hu, ru⟩ := RelO.some_of (v := v) (o := mA f) (by rw [← l]; exact r f)
  exact get_map I.kIn O (c.get f) c.hd n hu (handed_of ru) (h u _ (I.tok _) ru)

theorem getcon_ok {b : Bool} {u : Value} {Q : Value → Shared → Prop} (I : Inv X pins σ H s) (e : H a = some (.ins C dx fs)) (c : Cls X.K C) (k : Con X.K C f v u) (l : fs.lookup f = none)
    (h : ∀ s', Inv X pins σ H s' → Q u s') : wpAny (model X.prog X.w) A (getAttr (.ref a) f b) Q E s := by
  obtain ⟨mA, O, r, _, _, _⟩ := ins_get I.hok e
  have hn : mA f = none := RelO.none_of (by rw [← l]; exact r f)
  exact get_const I.kIn O (c.get f) c.hd k.at_ k.get k.cp hn (handed_of k.rel) (h _ (I.tok _))

theorem getmeth_ok {m : Str} {g : Addr} {pl : Sem Bool} {Q : Value × List Value → Shared → Prop} (I : Inv X pins σ H s) (e : H a = some (.ins C dx fs)) (c : Cls X.K C) (k : Meth X.K C m g) (l : fs.lookup m = none)
    (h : Q (.ref g, [.ref a]) s) : wpAny (model X.prog X.w) A (getMethod (.ref a) m pl) Q E s := by
  obtain ⟨mA, O, r, _, _, _⟩ := ins_get I.hok e
  have hn : mA m = none := RelO.none_of (by rw [← l]; exact r m)
  exact get_meth I.kIn O (c.get m) k.at_ k.fn hn h

theorem setattr_ok {y : V} {u : Value} {Q : Unit → Shared → Prop} (I : Inv X pins σ H s) (e : H a = some (.ins C dx fs)) (c : Cls X.K C) (n : NoAttr X.K C f) (hl : fs.length < 1000) (ry : RelV y u)
    (h : ∀ s', Inv X pins σ (upd H a (.ins C dx (putF f y fs))) s' → Q () s') : wpAny (model X.prog X.w) A (setAttr (.ref a) f u) Q E s := by
  obtain ⟨mA, O, r, wi, _, ho⟩ := ins_get I.hok e
  have hz : (fs.map (·.1)).length ≤ sizeLine := by rw [List.length_map, sizeLine_eq]; omega
  refine set_map I.kIn O c.sa c.po n.taker c.hd wi hz fun h' O' sb => h _ ?_
  have hd : ∃ o, h'.get? dx = some o := let ⟨o, _, _, e', _⟩ := O'.ns; ⟨o, e'⟩
  refine I.write (x := a) (e := dx) (by rw [e]; exact True.intro) (.inr ho) (fun b q hb z => (sb.2 b hb).trans z) hd ?_
  refine ⟨by rw [upd_ne O.ne]; exact ho, ?_, O.ne, O'.obj, _, O'.ns, fun g => ?_, fun g hg => ?_⟩
  · have := length_putF f y fs; omega
  · show RelO ((putF f y fs).lookup g) (if g = f then some u else mA g)
    rw [lookup_putF]
    by_cases q : g = f
    · rw [if_pos q, if_pos q]; exact ry
    · rw [if_neg q, if_neg q]; exact r g
  · by_cases q : g = f
    · rw [q]; exact (keys_putF f y fs).1
    · refine (keys_putF f y fs).2 g (wi g fun z => hg ?_)
      show (if g = f then some u else mA g) = none
      rw [if_neg q]; exact z

/-- a new instance, tracked, without attributes -/
theorem Inv.made (I : Inv X pins σ H s) : Inv X pins σ (upd (upd H s.heap.objs.size (.own (s.heap.objs.size + 1))) (s.heap.objs.size + 1) (.ins C s.heap.objs.size []))
    { s with heap := (s.heap.push PySem.W.emptyDict).push (PySem.W.instObj C s.heap.objs.size) } := by
  have e1 : (s.heap.push PySem.W.emptyDict).get? s.heap.objs.size = some PySem.W.emptyDict := Heap.get?_push_size s.heap rfl
  have e2 : ((s.heap.push PySem.W.emptyDict).push (PySem.W.instObj C s.heap.objs.size)).get? (s.heap.objs.size + 1) = some (PySem.W.instObj C s.heap.objs.size) := by
    have := Heap.get?_push_size (s.heap.push PySem.W.emptyDict) (o := PySem.W.instObj C s.heap.objs.size) rfl
    rwa [Heap.size_push] at this
  have e3 : (s.heap.push PySem.W.emptyDict).Ns s.heap.objs.size (fun _ => none) := ⟨PySem.W.emptyDict, #[], _, e1, rfl, (fun e he => absurd he (by simp)), fun _ => rfl⟩
  have I1 := I.laid (a := s.heap.objs.size) (o := .own (s.heap.objs.size + 1)) (h' := s.heap.push PySem.W.emptyDict) (t' := s.toks) (fun b u q => Heap.get?_push_of_some _ q) (Nat.le_refl _) ⟨_, e1⟩
  refine I1.laid (a := s.heap.objs.size + 1) (o := .ins C s.heap.objs.size []) (t' := s.toks) (fun b u q => Heap.get?_push_of_some _ q) (Nat.le_of_eq (Heap.size_push _ _)) ?_
  have ne : s.heap.objs.size ≠ s.heap.objs.size + 1 := Nat.ne_of_lt (Nat.lt_succ_self _)
  refine ⟨by rw [upd_ne ne, upd_same], Nat.zero_le _, ne, e2, fun _ => none, (Heap.Ns1.of_empty e3).at fun o q => Heap.get?_push_of_some _ q, fun _ => True.intro, fun y hy => absurd rfl hy⟩

/-- e.f where nothing but the object is asked: through attributeBase (super) and the last hold -/
theorem attr_of {prog : Program} {w : World} {env : Env} {e : Expr} {f : Str} {pos : Pos} {s : Shared} {Q : Value → Shared → Prop} (hb : attributeBase e f env (eval e env) = eval e env)
    (h : wpAny (model prog w) A (eval e env) (fun o s₁ => wpAny (model prog w) A (getAttr o f true) Q E s₁) E s) : wpAny (model prog w) A (eval (.Attribute e f pos) env) Q E s :=
  Attribute_any_ h (by rw [arm_eval_Attribute, hb])
end

/-! ### readings and rules -/
/-- e.f, an attribute of the instance -/
def tFld (K : PySem.W.Frag) (ta : TE) (f : Str) : TE := fun σ H Q => ta σ H fun x H1 => ∃ a C dx fs v, x = .ref a ∧ H1 a = some (.ins C dx fs) ∧ Cls K C ∧ NoAttr K C f ∧ fs.lookup f = some v ∧ Q v H1
/-- e.f, a constant of the class -/
def tCon (K : PySem.W.Frag) (ta : TE) (f : Str) : TE := fun σ H Q => ta σ H fun x H1 => ∃ a C dx fs v u, x = .ref a ∧ H1 a = some (.ins C dx fs) ∧ Cls K C ∧ Con K C f v u ∧ fs.lookup f = none ∧ Q v H1
/-- e.f = value -/
def sFld (K : PySem.W.Frag) (ta tv : TE) (f : Str) : TS := fun D σ H => tv σ H fun y H1 => ta σ H1 fun x H2 => ∃ a C dx fs, x = .ref a ∧ H2 a = some (.ins C dx fs) ∧ Cls K C ∧ NoAttr K C f ∧ fs.length < 1000 ∧
  D.nx σ (upd H2 a (.ins C dx (putF f y fs)))
/-- an augmented operator on two values -/
def InOp (X : Cx) (op : Operator) (rd : V → V → Hp → VK → Prop) : Prop :=
  ∀ (pins : List (Addr × Obj)) (s : Shared) (σ : St) (H : Hp) (x y : V) (u v : Value) (Q : VK), Inv X pins σ H s → RelV x u → RelV y v → rd x y H Q → wpAny (model X.prog X.w) X.A (inplaceOp op u v) (EP X pins σ Q) X.xe s
/-- e.f op= value -/
def sFldAug (K : PySem.W.Frag) (ta tv : TE) (rd : V → V → Hp → VK → Prop) (f : Str) : TS := fun D σ H => ta σ H fun x H1 => ∃ a C dx fs v, x = .ref a ∧ H1 a = some (.ins C dx fs) ∧ Cls K C ∧ NoAttr K C f ∧ fs.lookup f = some v ∧
  tv σ H1 fun y H2 => rd v y H2 fun z H3 => ∃ dx' fs', H3 a = some (.ins C dx' fs') ∧ fs'.length < 1000 ∧ D.nx σ (upd H3 a (.ins C dx' (putF f z fs')))

section
variable {X : Cx} {o e value : Expr} {f : Str} {pos pos' tpos : Pos} {ta tv : TE}
theorem pe_fld (he : PE X e ta) (hb : attributeBase e f X.env (eval e X.env) = eval e X.env) : PE X (.Attribute e f pos) (tFld X.K ta f) := by
  intro pins s σ H Q I h
  refine attr_of hb (thn (he pins s σ H _ I h) fun u s1 ⟨x, H1, I1, rx, a, C, dx, fs, v, ex, ea, c, n, l, q⟩ => ?_)
  subst ex
  obtain rfl : u = Value.ref a := rx
  exact getattr_ok I1 ea c n l fun u' s2 I2 ru => ⟨v, H1, I2, ru, q⟩
theorem pe_con (he : PE X e ta) (hb : attributeBase e f X.env (eval e X.env) = eval e X.env) : PE X (.Attribute e f pos) (tCon X.K ta f) := by
  intro pins s σ H Q I h
  refine attr_of hb (thn (he pins s σ H _ I h) fun u s1 ⟨x, H1, I1, rx, a, C, dx, fs, v, u0, ex, ea, c, k, l, q⟩ => ?_)
  subst ex
  obtain rfl : u = Value.ref a := rx
  exact getcon_ok I1 ea c k l fun s2 I2 => ⟨v, H1, I2, k.rel, q⟩
theorem ps_fld (ha : PE X o ta) (hv : PE X value tv) (hs : swapsWith value (some (.Attribute o f pos')) pos.line X.env = pure false) : PS X (.Assign [.Attribute o f pos'] value pos) (sFld X.K ta tv f) := by
  intro pins s σ H D I h
  refine plainObj_wpAny_Assign_Attribute (thn (hv pins s σ H _ I h) fun u s1 ⟨y, H1, I1, ry, q⟩ => thn (ha pins s1 σ H1 _ I1 q) fun ov s2 ⟨x, H2, I2, rx, a, C, dx, fs, ex, ea, c, n, l, q2⟩ => ?_) hs
  subst ex
  obtain rfl : ov = Value.ref a := rx
  exact setattr_ok I2 ea c n l ry fun s3 I3 => ⟨σ, _, I3, q2⟩
theorem ps_fldaug {op : Operator} {rd : V → V → Hp → VK → Prop} (ha : PE X o ta) (hv : PE X value tv) (hop : InOp X op rd) : PS X (.AugAssign (.Attribute o f tpos) op value pos) (sFldAug X.K ta tv rd f) := by
  intro pins s σ H D I h
  refine wpAny_AugAssign_AttributeAny (thn (ha pins s σ H _ I h) fun ov s1 ⟨x, H1, I1, rx, a, C, dx, fs, v, ex, ea, c, n, l, q⟩ => ?_)
  subst ex
  obtain rfl : ov = Value.ref a := rx
  refine getattr_ok I1 ea c n l fun u s2 I2 ru => thn (hv pins s2 σ H1 _ I2 q) fun w3 s3 ⟨y, H2, I3, ry, q3⟩ => thn (hop pins s3 σ H2 v y u w3 _ I3 ru ry q3) fun w4 s4 ⟨z, H3, I4, rz, dx', fs', ea', l', q4⟩ => ?_
  exact setattr_ok I4 ea' c n l' rz fun s5 I5 => ⟨σ, _, I5, q4⟩
def rAdd : V → V → Hp → VK → Prop := fun x y H Q => ∃ i j, x = .int i ∧ y = .int j ∧ Q (.int (i + j)) H
def rSub : V → V → Hp → VK → Prop := fun x y H Q => ∃ i j, x = .int i ∧ y = .int j ∧ Q (.int (i - j)) H
theorem in_add : InOp X .Add rAdd := by
  rintro pins s σ H x y u v Q I rx ry ⟨i, j, rfl, rfl, q⟩
  obtain ⟨t, rfl⟩ := (show ∃ t, u = Value.int i t from rx)
  obtain ⟨t', rfl⟩ := (show ∃ t', v = Value.int j t' from ry)
  exact PyProof.Rows.iadd_int ⟨.int (i + j), H, I.tok _, ⟨_, rfl⟩, q⟩
theorem in_sub : InOp X .Sub rSub := by
  rintro pins s σ H x y u v Q I rx ry ⟨i, j, rfl, rfl, q⟩
  obtain ⟨t, rfl⟩ := (show ∃ t, u = Value.int i t from rx)
  obtain ⟨t', rfl⟩ := (show ∃ t', v = Value.int j t' from ry)
  exact PyProof.Rows.isub_int ⟨.int (i - j), H, I.tok _, ⟨_, rfl⟩, q⟩

/-- what is between an instance and its method: the tree of a method call -/
theorem methcall_of {pl : Sem Bool} {m : Str} {apos : Pos} {args : List Expr} {pins : List (Addr × Obj)} {s : Shared} {σ : St} {H : Hp} {Q : Value → Shared → Prop} {te : TE} (he : PE X e te) (I : Inv X pins σ H s)
    (h : te σ H fun x H1 => ∃ a C dx fs g, x = .ref a ∧ H1 a = some (.ins C dx fs) ∧ Cls X.K C ∧ Meth X.K C m g ∧ fs.lookup m = none ∧
      ∀ s1, Inv X pins σ H1 s1 → wpAny (model X.prog X.w) X.A (callWith pos (.ref g) [.ref a] (backTo pos (starEach args X.env)) (backToKw pos (keywordEach [] X.env))) Q X.xe s1)
    (ht : eval (.Call (.Attribute e m apos) args [] pos) X.env = (do
      let ov ← eval e X.env
      standAt apos.atName
      let (f, first) ← holding [ov] (getMethod ov m pl)
      callWith pos f first (backTo pos (starEach args X.env)) (backToKw pos (keywordEach [] X.env)))) :
    wpAny (model X.prog X.w) X.A (eval (.Call (.Attribute e m apos) args [] pos) X.env) Q X.xe s := by
  refine PySem.W.methodCall_KW (pl := pl) (thn (he pins s σ H _ I h) fun u s1 ⟨x, H1, I1, rx, a, C, dx, fs, g, ex, ea, c, k, l, q⟩ => ?_) ht
  subst ex
  obtain rfl : u = Value.ref a := rx
  exact getmeth_ok I1 ea c k l (q s1 I1)
end

/-! ### isinstance -/
section
variable {X : Cx} {pins : List (Addr × Obj)} {σ : St} {H : Hp} {s : Shared} {A : Around} {E : Value → Shared → Prop} {Q : Value → Shared → Prop} {c : Value} {b : Bool}
/-- the type of a value, as the fragment's deciders take it; for an instance its class -/
inductive TyOf (K : PySem.W.Frag) (H : Hp) : V → Value → Prop where
  | non : TyOf K H .non (.type "NoneType")
  | bl (x : Bool) : TyOf K H (.bl x) (.type "bool")
  | int (i : Int) : TyOf K H (.int i) (.type "int")
  | str (x : Str) : TyOf K H (.str x) (.type "str")
  | flt (x : UInt64) : TyOf K H (.flt x) (.type "float")
  | lst {a : Addr} {xs : List V} (e : H a = some (.lst xs)) : TyOf K H (.ref a) (.type "list")
  | frz {a : Addr} {o : Obj} {xs : List V} (e : H a = some (.frz o (.lst xs))) : TyOf K H (.ref a) (.type "list")
  | tup {a : Addr} {xs : List V} (e : H a = some (.tup xs)) : TyOf K H (.ref a) (.type "tuple")
  | dK {a : Addr} {kvs : List (Key × V)} (e : H a = some (.dK kvs)) : TyOf K H (.ref a) (.type "dict")
  | dT {a : Addr} {kvs : List (List Key × V)} (e : H a = some (.dT kvs)) : TyOf K H (.ref a) (.type "dict")
  | ins {a C dx : Addr} {fs : List (Str × V)} (e : H a = some (.ins C dx fs)) (cl : Cls K C) (ha : PySem.W.findIn K (.ref C) "__class__" = some (some (.builtin "object.__class__")))
      (hn : PySem.W.specialIn K (.builtin "object.__class__") "__get__" = some (some (.builtin "getset_descriptor.__get__"))) (htk : PySem.W.takesIn K (.builtin "object.__class__") = some true)
      (hm : PySem.W.mroIn K C (.type "object") = some true) : TyOf K H (.ref a) (.ref C)
/-- isinstance(x, c) for one class c, a built-in or an own one: kitOne's answer -/
theorem isinst_ok {x : V} {u t : Value} (I : Inv X pins σ H s) (rx : RelV x u) (ty : TyOf X.K H x t) (e : PySem.W.kitOne X.K t c = some b) (h : ∀ tk, Q (.bool b) { s with toks := tk }) :
    wpAny (model X.prog X.w) A (call (.builtin "isinstance") [u, c]) Q E s := by
  cases ty with
  | non => cases (show u = Value.none from rx); exact PySem.W.kia_one PySem.W.kitx_none I.kIn True.intro e (fun z => nomatch z) h
  | bl y => cases (show u = Value.bool y from rx); exact PySem.W.kia_one PySem.W.kitx_bool I.kIn True.intro e (fun z => nomatch z) h
  | int i => obtain ⟨t, q⟩ := (show ∃ t, u = Value.int i t from rx); cases q; exact PySem.W.kia_one PySem.W.kitx_int I.kIn True.intro e (fun z => nomatch z) h
  | str y => obtain ⟨t, q⟩ := (show ∃ t, u = Value.str y t from rx); cases q; exact PySem.W.kia_one PySem.W.kitx_str I.kIn True.intro e (fun z => nomatch z) h
  | flt y => obtain ⟨t, q⟩ := (show ∃ t, u = Value.float y t from rx); cases q; exact PySem.W.kia_one PySem.W.kitx_float I.kIn True.intro e (fun z => nomatch z) h
  | @lst a xs ea =>
    cases (show u = Value.ref a from rx)
    obtain ⟨_, _, n, _, h1⟩ := (show ObjOk X.prog X.w H s.heap a (.lst xs) from I.hok a _ ea)
    exact PySem.W.kia_one PySem.W.kitx_list I.kIn ⟨_, h1, rfl⟩ e (fun z => nomatch z) h
  | @frz a ob xs ea =>
    cases (show u = Value.ref a from rx)
    obtain ⟨_, _, _, n, _, h1⟩ := (show ObjOk X.prog X.w H s.heap a (.frz ob (.lst xs)) from I.hok a _ ea)
    exact PySem.W.kia_one PySem.W.kitx_list I.kIn ⟨_, h1, rfl⟩ e (fun z => nomatch z) h
  | @tup a xs ea =>
    cases (show u = Value.ref a from rx)
    obtain ⟨_, _, _, p⟩ := (show ObjOk X.prog X.w H s.heap a (.tup xs) from I.hok a _ ea)
    obtain ⟨o, h1, h2, _⟩ := p
    exact PySem.W.kia_one PySem.W.kitx_tuple I.kIn ⟨o, h1, h2⟩ e (fun z => nomatch z) h
  | @dK a kvs ea =>
    cases (show u = Value.ref a from rx)
    obtain ⟨_, _, vs, _, p⟩ := (show ObjOk X.prog X.w H s.heap a (.dK kvs) from I.hok a _ ea)
    obtain ⟨o, es, ep, h1, h2, _⟩ := p
    exact PySem.W.kia_one PySem.W.kitx_dict I.kIn ⟨o, h1, h2.1⟩ e (fun z => nomatch z) h
  | @dT a kvs ea =>
    cases (show u = Value.ref a from rx)
    obtain ⟨_, _, xs, _, o, es, ep, h1, h2, _⟩ := (show ObjOk X.prog X.w H s.heap a (.dT kvs) from I.hok a _ ea)
    exact PySem.W.kia_one PySem.W.kitx_dict I.kIn ⟨o, h1, h2.1⟩ e (fun z => nomatch z) h
  | @ins a C dx fs ea cl ha hn htk hm =>
    cases (show u = Value.ref a from rx)
    obtain ⟨mA, O, _⟩ := ins_get I.hok ea
    obtain ⟨od, J, _⟩ := O.look
    exact PySem.W.kia_one (PySem.W.kitx_own (cl.get _) cl.hd ha hn htk hm) I.kIn J e (fun z => nomatch z) h
end
end L2

namespace L2
open PySem PySem.Spec PyProof.Rows

/-! ### room -/
structure Room (k : Nat) (A : Around) : Prop where
  hd : A.handled = none
  dp : A.depth + 3 * k + 5 < recursionLimit
  un : A.units + 16 * k + 200 < cLine
theorem Room.mono {j k : Nat} {A : Around} (r : Room k A) (h : j ≤ k) : Room j A := ⟨r.hd, by have := r.dp; omega, by have := r.un; omega⟩
theorem Room.deeper {k : Nat} {A : Around} (r : Room (k + 1) A) (env : Env) : Room k (A.deeper env) :=
  ⟨r.hd, by have := r.dp; show A.depth + 1 + 3 * k + 5 < _; omega, by have := r.un; show A.units + 3 + 16 * k + 200 < _; omega⟩
theorem Room.in1 {k : Nat} {A : Around} (r : Room (k + 1) A) : Room k A.in1 :=
  ⟨r.hd, by have := r.dp; show A.depth + 3 * k + 5 < _; omega, by have := r.un; show A.units + 1 + 16 * k + 200 < _; omega⟩
theorem make_depth {A : Around} {C : Addr} {us : List Value} {kw : List (Str × Value)} : (A.under (.builtin "type.__call__" ⟨.ref C :: us, kw⟩)).depth = A.depth + 1 := by
  first | rfl | simp [Around.under, Code.weight, Code.isCreation, Code.isGuard, Code.isCaller, Code.frames, Code.isFrame, guardIds]
theorem make_units {A : Around} {C : Addr} {us : List Value} {kw : List (Str × Value)} : (A.under (.builtin "type.__call__" ⟨.ref C :: us, kw⟩)).units = A.units + 1 := by
  first | rfl | simp [Around.under, Code.cUnits, Code.frames, Code.isFrame]
theorem Room.make {k : Nat} {A : Around} (r : Room (k + 1) A) (C : Addr) (us : List Value) (kw : List (Str × Value)) : Room k (A.under (.builtin "type.__call__" ⟨.ref C :: us, kw⟩)) :=
  ⟨r.hd, by have := r.dp; rw [make_depth]; omega, by have := r.un; rw [make_units]; omega⟩
theorem Room.depth {k : Nat} {A : Around} (r : Room k A) : A.depth < recursionLimit := by have := r.dp; omega
theorem Room.units {k : Nat} {A : Around} (r : Room k A) : A.units + 64 < cLine := by have := r.un; omega
theorem Room.units0 {k : Nat} {A : Around} (r : Room k A) : A.units < cLine := by have := r.un; omega

/-! ### argument lists and displays -/
def tNil : TA := fun _ H Q => Q [] H
def tCons (ta : TE) (tr : TA) : TA := fun σ H Q => ta σ H fun x H1 => tr σ H1 fun xs H2 => Q (x :: xs) H2
section
variable {X : Cx} {e : Expr} {es : List Expr} {te : TE} {t : TA} {pos : Pos}
theorem pa_nil : PA X [] tNil := fun _ _ _ _ H Q I h => Calls.spliced_nil ⟨[], H, I, .nil, h⟩
theorem pa_cons (ha : PE X e te) (hr : PA X es t) (hs : starEach (e :: es) X.env = (false, eval e X.env) :: starEach es X.env := by rfl) : PA X (e :: es) (tCons te t) := by
  intro pos pins s σ H Q I h
  rw [hs]
  show wpAny _ _ (spliced ((false, eval e X.env) :: backTo pos (starEach es X.env))) _ _ s
  refine Calls.spliced_cons (thn (ha pins s σ H _ I h) fun u s1 ⟨x, H1, I1, r1, q1⟩ => ?_)
  exact thn (hr pos pins s1 σ H1 _ I1 q1) fun us s2 ⟨xs, H2, I2, r2, q2⟩ => ⟨x :: xs, H2, I2, .cons r1 r2, q2⟩

/-- a tuple, a list of written items -/
def tTup (t : TA) : TE := fun σ H Q => t σ H fun xs H1 => xs.length ≤ sizeLine ∧ ∀ p, H1 p = none → Q (.ref p) (upd H1 p (.tup xs))
def tLst (t : TA) : TE := fun σ H Q => t σ H fun xs H1 => xs.length ≤ sizeLine ∧ ∀ p, H1 p = none → Q (.ref p) (upd H1 p (.lst xs))
theorem pe_tup {x1} (h : PA X es t) : PE X (.Tuple es x1 pos) (tTup t) := by
  intro pins s σ H Q I hq
  refine wpAny_Tuple_spliced (thn (h pos pins s σ H _ I hq) fun us s1 ⟨xs, H1, I1, r, z, q⟩ => ⟨by rw [← r.length]; exact z, ?_⟩)
  have hf : H1 s1.heap.objs.size = none := I1.hok.fresh (Nat.le_refl _)
  refine ⟨.ref s1.heap.objs.size, upd H1 s1.heap.objs.size (.tup xs), I1.laid (t' := s1.toks) (fun b u e => Heap.get?_push_of_some _ e) (Nat.le_refl _) ?_, rfl, q _ hf⟩
  exact ⟨z, us, r, ⟨_, Heap.get?_push_size _ rfl, rfl, _, rfl⟩⟩
theorem pe_lst (h : PA X es t) : PE X (.List es pos) (tLst t) := by
  intro pins s σ H Q I hq
  refine wpAny_List_spliced (thn (h pos pins s σ H _ I hq) fun us s1 ⟨xs, H1, I1, r, z, q⟩ => ⟨by rw [← r.length]; exact z, ?_⟩)
  have hf : H1 s1.heap.objs.size = none := I1.hok.fresh (Nat.le_refl _)
  refine ⟨.ref s1.heap.objs.size, upd H1 s1.heap.objs.size (.lst xs), I1.laid (t' := s1.toks) (fun b u e => Heap.get?_push_of_some _ e) (Nat.le_refl _) ?_, rfl, q _ hf⟩
  exact ⟨z, us, 0, r, Heap.get?_push_size _ rfl⟩
end

/-! ### what a def promises -/
/-- a def's promise: the bound arguments in the parameters' order, the heap, the wanted end, the wanted exception -/
abbrev Sp := List V → Hp → VK → XK → Prop
/-- how an exception lies behind a call (file 08 gives it): the callers' frames, abstract heap and state ahead of the call, the wish, the exception, the state -/
abbrev CXT := List Env → Hp → Shared → XK → Value → Shared → Prop

/-- the state at a call -/
structure Env0 (P : Program) (w : World) (K : PySem.W.Frag) (mg : Str → Option Value) (base : Heap) (A : Around) (outer : List Env) (s : Shared) (H : Hp) : Prop where
  frames : A.frames = some outer
  mod : Mod K mg base
  bs : ∀ b o, base.get? b = some o → s.heap.get? b = some o ∧ H b = none
  bsz : base.objs.size ≤ s.heap.objs.size
  funs : s.heap.FunFrames base outer
  frf : ∀ b ∈ frs outer, H b = none
  hok : HOk P w H s.heap
  bare : AllBare s.gens
/-- a call's end -/
def CE (outer : List Env) (P : Program) (w : World) (H : Hp) (s : Shared) (Q : VK) (u : Value) (s' : Shared) : Prop :=
  ∃ v H', s'.os = s.os ∧ AllBare s'.gens ∧ Un (frs outer) [] H H' s.heap s'.heap ∧ HOk P w H' s'.heap ∧ RelV v u ∧ Q v H'
def CR (CX : CXT) (outer : List Env) (P : Program) (w : World) (H : Hp) (s : Shared) (Q : VK) (E : XK) (r : Result) (s' : Shared) : Prop :=
  match r with
  | .ok (.ret u) => CE outer P w H s Q u s'
  | .ok _ => False
  | .error e => CX outer H s E e s'
structure FnOk (P : Program) (w : World) (K : PySem.W.Frag) (mg : Str → Option Value) (base : Heap) (CX : CXT) (k : Nat) (f : Addr) (fd : FuncData) (ps : List Str) (sp : Sp) : Prop where
  len : ∀ vs H Q E, sp vs H Q E → vs.length = ps.length
  run : ∀ (A : Around) (outer : List Env) (s : Shared) (H : Hp) (args : Args) (us : List Value) (vs : List V) (Q : VK) (E : XK), Room k A → Env0 P w K mg base A outer s H → BindsTo s fd args (ps.zip us) → Vals vs us → sp vs H Q E →
    codeAny (model P w) A (.call (.ref f) args) (CR CX outer P w H s Q E) s
theorem FnOk.mono {P : Program} {w : World} {K : PySem.W.Frag} {mg : Str → Option Value} {base : Heap} {CX : CXT} {j k : Nat} {f : Addr} {fd : FuncData} {ps : List Str} {sp : Sp} (F : FnOk P w K mg base CX j f fd ps sp) (h : j ≤ k) :
    FnOk P w K mg base CX k f fd ps sp := ⟨F.len, fun A outer s H args us vs Q E hr => F.run A outer s H args us vs Q E (hr.mono h)⟩
/-- a weaker promise -/
theorem FnOk.imp {P : Program} {w : World} {K : PySem.W.Frag} {mg : Str → Option Value} {base : Heap} {CX : CXT} {k : Nat} {f : Addr} {fd : FuncData} {ps : List Str} {sp sp' : Sp} (F : FnOk P w K mg base CX k f fd ps sp)
    (h : ∀ vs H Q E, sp' vs H Q E → sp vs H Q E) : FnOk P w K mg base CX k f fd ps sp' :=
  ⟨fun vs H Q E q => F.len vs H Q E (h _ _ _ _ q), fun A outer s H args us vs Q E hr he hb hv hs => F.run A outer s H args us vs Q E hr he hb hv (h _ _ _ _ hs)⟩

theorem Env0.make {P : Program} {w : World} {K : PySem.W.Frag} {mg : Str → Option Value} {base : Heap} {A : Around} {outer : List Env} {s : Shared} {H : Hp} (e : Env0 P w K mg base A outer s H) (C : Addr) (us : List Value) (kw : List (Str × Value)) :
    Env0 P w K mg base (A.under (.builtin "type.__call__" ⟨.ref C :: us, kw⟩)) outer s H := ⟨by first | exact e.frames | (simpa [Around.under, Code.envs, Code.isFrame, pushEnvs] using e.frames), e.mod, e.bs, e.bsz, e.funs, e.frf, e.hok, e.bare⟩
theorem Env0.in1 {P : Program} {w : World} {K : PySem.W.Frag} {mg : Str → Option Value} {base : Heap} {A : Around} {outer : List Env} {s : Shared} {H : Hp} (e : Env0 P w K mg base A outer s H) :
    Env0 P w K mg base A.in1 outer s H := ⟨e.frames, e.mod, e.bs, e.bsz, e.funs, e.frf, e.hok, e.bare⟩

section
variable {X : Cx} {pins : List (Addr × Obj)} {σ : St} {H : Hp} {s s' : Shared}
/-- from a body: what a callee wants -/
theorem Inv.env0 (I : Inv X pins σ H s) : Env0 X.prog X.w X.K X.mg X.base X.A X.stack s H :=
  ⟨I.ok.frames, I.ok.mod, I.bs, Nat.le_trans I.ok.bsz I.sz, I.stack, I.stkFree, I.hok, I.bare⟩
/-- behind a call -/
theorem Inv.after {Q : VK} {u : Value} (I : Inv X pins σ H s) (h : CE X.stack X.prog X.w H s Q u s') : EP X pins σ Q u s' := by
  obtain ⟨v, H', os, bare, un, hok, r, q⟩ := h
  obtain ⟨hh, g, d, t, os'⟩ := s'
  obtain rfl : os' = s.os := os
  exact ⟨v, H', I.call (h' := hh) (g' := g) (d' := d) (t' := t) (ch := []) un hok bare (fun b z => absurd z (by simp)), r, q⟩
end

/-! ### calls -/
/-- f(..): the written arguments, then the defaults dvs; E: what is wanted of an exception -/
def tCall (sp : Sp) (dvs : List V) (E : XK) (t : TA) : TE := fun σ H Q => t σ H fun vs H1 => sp (vs ++ dvs) H1 Q E
/-- o.m(..) of an instance of the class at C -/
def tMeth (C : Addr) (m : Str) (sp : Sp) (dvs : List V) (E : XK) (ta : TE) (t : TA) : TE := fun σ H Q => ta σ H fun x H1 => ∃ a dx fs, x = .ref a ∧ H1 a = some (.ins C dx fs) ∧ fs.lookup m = none ∧
  t σ H1 fun vs H2 => sp (x :: (vs ++ dvs)) H2 Q E
/-- C(..): a new instance and its dict, then __init__ -/
def tMake (C : Addr) (sp : Sp) (dvs : List V) (E : XK) (t : TA) : TE := fun σ H Q => t σ H fun vs H1 => ∀ x dx, H1 x = none → H1 dx = none → dx ≠ x →
  sp (.ref x :: (vs ++ dvs)) (upd (upd H1 dx (.own x)) x (.ins C dx [])) (fun v H2 => v = .non ∧ Q (.ref x) H2) E

/-- how the parameters are bound: us the positional arguments, kw the keywords' values by name, ds the defaults that fill up -/
def Binds (K : PySem.W.Frag) (fd : FuncData) (ps : List Str) (ds : List Value) : Prop :=
  ∀ (s : Shared) (us : List Value), K.In s.heap → (us ++ ds).length = ps.length → BindsTo s fd ⟨us, []⟩ (ps.zip (us ++ ds))
/-- every parameter is given -/
theorem Binds.all {K : PySem.W.Frag} {fd : FuncData} {ps : List Str} (h : ∀ us : List Value, us.length = ps.length → bindArgs fd ⟨us, []⟩ = pure (ps.zip us)) : Binds K fd ps [] := fun s us _ hl => by
  rw [List.append_nil] at hl ⊢
  exact .of_eq (h us hl)

/-- an exception of a callee reaches what this body wants of exceptions -/
def Passes (CX : CXT) (X : Cx) (E : XK) : Prop := ∀ (pins : List (Addr × Obj)) (σ : St) (H : Hp) (s : Shared) (e : Value) (s' : Shared), Inv X pins σ H s → CX X.stack H s E e s' → X.xe e s'

section
variable {X : Cx} {CX : CXT} {k : Nat} {f C : Addr} {fd : FuncData} {ps : List Str} {sp : Sp} {dvs : List V} {ds : List Value} {E : XK} {x m : Str} {p pos apos : Pos} {e o : Expr} {es : List Expr} {ta : TE} {t : TA}

/-- the callee runs -/
theorem run_fn {pins : List (Addr × Obj)} {σ : St} {H : Hp} {s : Shared} {Q : VK} {us : List Value} {vs : List V} (F : FnOk X.prog X.w X.K X.mg X.base CX k f fd ps sp) (hr : Room k X.A) (hb : Binds X.K fd ps ds) (hd : Vals dvs ds) (hx : Passes CX X E)
    (I : Inv X pins σ H s) (r : Vals vs us) (h : sp (vs ++ dvs) H Q E) : wpAny (model X.prog X.w) X.A (call (.ref f) us) (EP X pins σ Q) X.xe s := by
  have r2 : Vals (vs ++ dvs) (us ++ ds) := r.append hd
  have hl : (us ++ ds).length = ps.length := by rw [← r2.length]; exact F.len _ _ _ _ h
  refine wpAny_call (codeAny_mono (F.run X.A X.stack s H ⟨us, []⟩ (us ++ ds) (vs ++ dvs) Q E hr I.env0 (hb s us I.kIn hl) r2 h) fun r s' hq => ?_)
  cases r with
  | error e => exact hx pins σ H s e s' I hq
  | ok fl =>
    cases fl with
    | ret u => exact I.after hq
    | next => exact False.elim hq
    | brk => exact False.elim hq
    | cont => exact False.elim hq

theorem pe_call (F : FnOk X.prog X.w X.K X.mg X.base CX k f fd ps sp) (hr : Room k X.A) (hg : Gl X x) (hm : X.mg x = some (.ref f)) (hk : PySem.W.keepIn X.K (.ref f) = true) (hb : Binds X.K fd ps ds) (hd : Vals dvs ds) (hx : Passes CX X E)
    (ha : PA X (e :: es) t) (hdb : (x == ("__debug__" : Str)) = false := by decide) (he : starEach (e :: es) X.env = (false, eval e X.env) :: starEach es X.env := by rfl) (hpl : (backTo pos (starEach es X.env)).any (·.1) = false := by rfl) :
    PE X (.Call (.Name x p) (e :: es) [] pos) (tCall sp dvs E t) := by
  intro pins s σ H Q I h
  refine wpAny_Call_Name_kw (ld_glob I hg hm ?_ hdb)
  refine PySem.W.callWith_K (h₀ := X.base) I.ok.mod.kin hk (thn (ha pos pins s σ H _ I h) fun us s1 ⟨vs, H1, I1, r, q⟩ => ⟨I1.kIn, ?_⟩) he hpl
  exact run_fn F hr hb hd hx I1 r q
theorem pe_call0 (F : FnOk X.prog X.w X.K X.mg X.base CX k f fd ps sp) (hr : Room k X.A) (hg : Gl X x) (hm : X.mg x = some (.ref f)) (hk : PySem.W.keepIn X.K (.ref f) = true) (hb : Binds X.K fd ps ds) (hd : Vals dvs ds) (hx : Passes CX X E)
    (hdb : (x == ("__debug__" : Str)) = false := by decide) : PE X (.Call (.Name x p) [] [] pos) (tCall sp dvs E tNil) := by
  intro pins s σ H Q I h
  refine wpAny_Call_Name_kw (ld_glob I hg hm ?_ hdb)
  exact PySem.W.callWith_K0 I.kIn hk (run_fn (us := []) F hr hb hd hx I .nil h)

/-- o.m(e, ..) -/
theorem pe_meth {pl : Sem Bool} (he : PE X o ta) (c : Cls X.K C) (hm : Meth X.K C m f) (F : FnOk X.prog X.w X.K X.mg X.base CX k f fd ps sp) (hr : Room k X.A) (hb : Binds X.K fd ps ds) (hd : Vals dvs ds) (hx : Passes CX X E) (ha : PA X (e :: es) t)
    (hst : starEach (e :: es) X.env = (false, eval e X.env) :: starEach es X.env := by rfl) (hpl : (backTo pos (starEach es X.env)).any (·.1) = false := by rfl)
    (ht : eval (.Call (.Attribute o m apos) (e :: es) [] pos) X.env = (do
      let ov ← eval o X.env
      standAt apos.atName
      let (f, first) ← holding [ov] (getMethod ov m pl)
      callWith pos f first (backTo pos (starEach (e :: es) X.env)) (backToKw pos (keywordEach [] X.env))) := by rfl) :
    PE X (.Call (.Attribute o m apos) (e :: es) [] pos) (tMeth C m sp dvs E ta t) := by
  intro pins s σ H Q I h
  refine PySem.W.methodCall_KW (pl := pl) (thn (he pins s σ H _ I h) fun u s1 ⟨x, H1, I1, rx, a, dx, fs, ex, ea, l, q⟩ => ?_) ht
  subst ex
  obtain rfl : u = Value.ref a := rx
  refine getmeth_ok I1 ea c hm l ?_
  refine PySem.W.callWith_K (first := [.ref a]) (h₀ := X.base) I.ok.mod.kin hm.kp (thn (ha pos pins s1 σ H1 _ I1 q) fun us s2 ⟨vs, H2, I2, r, q2⟩ => ⟨I2.kIn, ?_⟩) hst hpl
  exact run_fn (us := .ref a :: us) (vs := .ref a :: vs) F hr hb hd hx I2 (.cons rfl r) q2
/-- o.m() -/
theorem pe_meth0 {pl : Sem Bool} (he : PE X o ta) (c : Cls X.K C) (hm : Meth X.K C m f) (F : FnOk X.prog X.w X.K X.mg X.base CX k f fd ps sp) (hr : Room k X.A) (hb : Binds X.K fd ps ds) (hd : Vals dvs ds) (hx : Passes CX X E)
    (ht : eval (.Call (.Attribute o m apos) [] [] pos) X.env = (do
      let ov ← eval o X.env
      standAt apos.atName
      let (f, first) ← holding [ov] (getMethod ov m pl)
      callWith pos f first (backTo pos (starEach [] X.env)) (backToKw pos (keywordEach [] X.env))) := by rfl) :
    PE X (.Call (.Attribute o m apos) [] [] pos) (tMeth C m sp dvs E ta tNil) := by
  intro pins s σ H Q I h
  refine PySem.W.methodCall_KW (pl := pl) (thn (he pins s σ H _ I h) fun u s1 ⟨x, H1, I1, rx, a, dx, fs, ex, ea, l, q⟩ => ?_) ht
  subst ex
  obtain rfl : u = Value.ref a := rx
  refine getmeth_ok I1 ea c hm l ?_
  exact PySem.W.callWith_K0 (first := [.ref a]) I1.kIn hm.kp (run_fn (us := [.ref a]) (vs := [.ref a]) F hr hb hd hx I1 (.cons rfl .nil) q)

/-- what a class must have to be made -/
structure Mk (K : PySem.W.Frag) (C f : Addr) : Prop where
  makes : PySem.W.makesIn K C = true
  init : PySem.W.findIn K (.ref C) "__init__" = some (some (.ref f))
  fn : PySem.W.isFn K (.ref f) = true
  kp : PySem.W.keepIn K (.ref C) = true

theorem run_make {pins : List (Addr × Obj)} {σ : St} {H : Hp} {s : Shared} {Q : VK} {us : List Value} {vs : List V} (M : Mk X.K C f) (F : FnOk X.prog X.w X.K X.mg X.base CX k f fd ps sp) (hr : Room (k + 1) X.A) (hb : Binds X.K fd ps ds) (hd : Vals dvs ds)
    (hx : Passes CX X E) (I : Inv X pins σ H s) (r : Vals vs us)
    (h : ∀ x dx, H x = none → H dx = none → dx ≠ x → sp (.ref x :: (vs ++ dvs)) (upd (upd H dx (.own x)) x (.ins C dx [])) (fun v H2 => v = .non ∧ Q (.ref x) H2) E) :
    wpAny (model X.prog X.w) X.A (call (.ref C) us) (EP X pins σ Q) X.xe s := by
  have hq := h (s.heap.objs.size + 1) s.heap.objs.size (I.hok.fresh (Nat.le_succ _)) (I.hok.fresh (Nat.le_refl _)) (Nat.ne_of_lt (Nat.lt_succ_self _))
  have I2 := Inv.made (C := C) I
  have r2 : Vals (V.ref (s.heap.objs.size + 1) :: (vs ++ dvs)) (Value.ref (s.heap.objs.size + 1) :: (us ++ ds)) := .cons rfl (r.append hd)
  have hl : (Value.ref (s.heap.objs.size + 1) :: us ++ ds).length = ps.length := by
    have e := r2.length
    rw [F.len _ _ _ _ hq] at e
    exact e.symm
  refine wpAny_call (make_map (f := f) I.kIn M.makes M.init (beq_iff_eq.mp M.fn) (codeAny_mono (F.run _ X.stack _ _ ⟨Value.ref (s.heap.objs.size + 1) :: us, []⟩ (Value.ref (s.heap.objs.size + 1) :: (us ++ ds)) _ _ E (hr.make C us [])
    (I2.env0.make C us []) (hb _ (Value.ref (s.heap.objs.size + 1) :: us) I2.kIn hl) r2 hq) fun r s' hq' => ?_))
  cases r with
  | error e => exact hx pins σ _ _ e s' I2 hq'
  | ok fl =>
    cases fl with
    | ret u =>
      obtain ⟨v, H', I3, rv, ev, q3⟩ := I2.after hq'
      subst ev
      exact ⟨rv, ⟨V.ref (s.heap.objs.size + 1), H', I3, rfl, q3⟩⟩
    | next => exact False.elim hq'
    | brk => exact False.elim hq'
    | cont => exact False.elim hq'
theorem pe_make (M : Mk X.K C f) (F : FnOk X.prog X.w X.K X.mg X.base CX k f fd ps sp) (hr : Room (k + 1) X.A) (hg : Gl X x) (hm : X.mg x = some (.ref C)) (hb : Binds X.K fd ps ds) (hd : Vals dvs ds) (hx : Passes CX X E)
    (ha : PA X (e :: es) t) (hdb : (x == ("__debug__" : Str)) = false := by decide) (he : starEach (e :: es) X.env = (false, eval e X.env) :: starEach es X.env := by rfl) (hpl : (backTo pos (starEach es X.env)).any (·.1) = false := by rfl) :
    PE X (.Call (.Name x p) (e :: es) [] pos) (tMake C sp dvs E t) := by
  intro pins s σ H Q I h
  refine wpAny_Call_Name_kw (ld_glob I hg hm ?_ hdb)
  refine PySem.W.callWith_K (h₀ := X.base) I.ok.mod.kin M.kp (thn (ha pos pins s σ H _ I h) fun us s1 ⟨vs, H1, I1, r, q⟩ => ⟨I1.kIn, ?_⟩) he hpl
  exact run_make M F hr hb hd hx I1 r q
theorem pe_make0 (M : Mk X.K C f) (F : FnOk X.prog X.w X.K X.mg X.base CX k f fd ps sp) (hr : Room (k + 1) X.A) (hg : Gl X x) (hm : X.mg x = some (.ref C)) (hb : Binds X.K fd ps ds) (hd : Vals dvs ds) (hx : Passes CX X E)
    (hdb : (x == ("__debug__" : Str)) = false := by decide) : PE X (.Call (.Name x p) [] [] pos) (tMake C sp dvs E tNil) := by
  intro pins s σ H Q I h
  refine wpAny_Call_Name_kw (ld_glob I hg hm ?_ hdb)
  exact PySem.W.callWith_K0 I.kIn M.kp (run_make (us := []) M F hr hb hd hx I .nil h)
end

/-! ### keywords -/
/-- the values of the keywords, from the left -/
def PK (X : Cx) (kws : List Keyword) (t : TA) : Prop :=
  ∀ (pos : Pos) (pins : List (Addr × Obj)) (s : Shared) (σ : St) (H : Hp) (Q : List V → Hp → Prop), Inv X pins σ H s → t σ H Q → wpAny (model X.prog X.w) X.A (evalAll ((backToKw pos (keywordEach kws X.env)).map (·.2))) (AP X pins σ Q) X.xe s
section
variable {X : Cx} {CX : CXT} {k : Nat} {f C : Addr} {fd : FuncData} {ps ks : List Str} {sp : Sp} {E : XK} {x m : Str} {p pos apos kpos : Pos} {e o : Expr} {es : List Expr} {kws : List Keyword} {te ta : TE} {t tk : TA} {nm : Option Str}
theorem pk_nil : PK X [] tNil := fun _ _ _ _ H Q I h => wpAny_evalAll_nil ⟨[], H, I, .nil, h⟩
theorem pk_cons (ha : PE X e te) (hr : PK X kws t) : PK X (⟨nm, e, kpos⟩ :: kws) (tCons te t) := by
  intro pos pins s σ H Q I h
  show wpAny _ _ (evalAll ((do let v ← eval e X.env; standAt pos; pure v) :: (backToKw pos (keywordEach kws X.env)).map (·.2))) _ _ s
  refine wpAny_evalAll_cons (wpAny_bind (thn (ha pins s σ H _ I h) fun u s1 ⟨x, H1, I1, r1, q1⟩ => wpAny_bind (wpAny_standAt (wpAny_pure ?_))))
  exact thn (hr pos pins s1 σ H1 _ I1 q1) fun us s2 ⟨xs, H2, I2, r2, q2⟩ => ⟨x :: xs, H2, I2, .cons r1 r2, q2⟩

/-- how a call with keywords binds: g puts the positional values us and the keywords' values ws (names ks) in the parameters' order, defaults among them -/
structure KBinds (K : PySem.W.Frag) (fd : FuncData) (ps ks : List Str) (g : List Value → List Value → List Value) (gV : List V → List V → List V) : Prop where
  to : ∀ (s : Shared) (us ws : List Value), K.In s.heap → (g us ws).length = ps.length → BindsTo s fd ⟨us, ks.zip ws⟩ (ps.zip (g us ws))
  rel : ∀ {vs : List V} {us : List Value} {zs : List V} {ws : List Value}, Vals vs us → Vals zs ws → Vals (gV vs zs) (g us ws)
def tCallK (sp : Sp) (gV : List V → List V → List V) (E : XK) (t tk : TA) : TE := fun σ H Q => t σ H fun vs H1 => tk σ H1 fun zs H2 => sp (gV vs zs) H2 Q E
variable {g : List Value → List Value → List Value} {gV : List V → List V → List V}
theorem run_fnk {pins : List (Addr × Obj)} {σ : St} {H : Hp} {s : Shared} {Q : VK} {us ws : List Value} {vs zs : List V} (F : FnOk X.prog X.w X.K X.mg X.base CX k f fd ps sp) (hr : Room k X.A) (hb : KBinds X.K fd ps ks g gV) (hx : Passes CX X E)
    (I : Inv X pins σ H s) (r : Vals vs us) (rz : Vals zs ws) (h : sp (gV vs zs) H Q E) : wpAny (model X.prog X.w) X.A (call (.ref f) us (ks.zip ws)) (EP X pins σ Q) X.xe s := by
  have r2 := hb.rel r rz
  have hl : (g us ws).length = ps.length := by rw [← r2.length]; exact F.len _ _ _ _ h
  refine wpAny_call (codeAny_mono (F.run X.A X.stack s H ⟨us, ks.zip ws⟩ (g us ws) (gV vs zs) Q E hr I.env0 (hb.to s us ws I.kIn hl) r2 h) fun r s' hq => ?_)
  cases r with
  | error e => exact hx pins σ H s e s' I hq
  | ok fl =>
    cases fl with
    | ret u => exact I.after hq
    | next => exact False.elim hq
    | brk => exact False.elim hq
    | cont => exact False.elim hq
/-- f(e, .., k = v, ..) -/
theorem pe_callK (F : FnOk X.prog X.w X.K X.mg X.base CX k f fd ps sp) (hr : Room k X.A) (hg : Gl X x) (hm : X.mg x = some (.ref f)) (hk : PySem.W.keepIn X.K (.ref f) = true) (hb : KBinds X.K fd ps ks g gV) (hx : Passes CX X E)
    (ha : PA X (e :: es) t) (hkw : PK X kws tk) (hall : (backToKw pos (keywordEach kws X.env)).all (·.1.isSome) = true := by rfl) (hks : (backToKw pos (keywordEach kws X.env)).filterMap (·.1) = ks := by rfl)
    (hdb : (x == ("__debug__" : Str)) = false := by decide) (he : starEach (e :: es) X.env = (false, eval e X.env) :: starEach es X.env := by rfl)
    (hpl : ((backTo pos (starEach (e :: es) X.env)).any (·.1) || (backToKw pos (keywordEach kws X.env)).any (·.1.isNone)) = false := by rfl) :
    PE X (.Call (.Name x p) (e :: es) kws pos) (tCallK sp gV E t tk) := by
  intro pins s σ H Q I h
  refine wpAny_Call_Name_kw (ld_glob I hg hm ?_ hdb)
  refine PySem.W.callWith_KW (h₀ := X.base) I.ok.mod.kin hk hall (thn (ha pos pins s σ H _ I h) fun us s1 ⟨vs, H1, I1, r, q⟩ => ?_) hpl he
  refine thn (hkw pos pins s1 σ H1 _ I1 q) fun ws s2 ⟨zs, H2, I2, rz, q2⟩ => ⟨I2.kIn, ?_⟩
  rw [hks]
  exact run_fnk F hr hb hx I2 r rz q2
end

/-! ### a def's body keeps its promise -/
/-- names: the parameters first -/
structure FnScope (N P : List Str) (sc : Scope) : Prop where
  kind : sc.kind = .function
  co : sc.isCoroutine = false
  gen : sc.isGenerator = false
  nd : N.Nodup
  pre : N.take P.length = P
  par : ∀ x ∈ P, sc.names.lookup x = some .local ∨ sc.names.lookup x = some .cell
  nofree : ∀ y ∈ sc.names, y.2 ≠ .free

theorem bindL_out {kindOf : Str → Option NameKind} {x : Str} : ∀ {binds : List (Str × Value)} {m : Str → Option Value}, (∀ v, (x, v) ∉ binds) → bindL kindOf binds m x = m x
  | [], _, _ => rfl
  | (n, v) :: r, m, h => by
    unfold bindL
    rw [bindL_out fun w hw => h w (List.mem_cons_of_mem _ hw)]
    split
    · have : x ≠ n := by rintro rfl; exact h v List.mem_cons_self
      simp [this]
    · rfl
theorem bindC_out {kindOf : Str → Option NameKind} {x : Str} : ∀ {binds : List (Str × Value)} {m : Str → Option Value}, (∀ v, (x, v) ∉ binds) → bindC kindOf binds m x = m x
  | [], _, _ => rfl
  | (n, v) :: r, m, h => by
    unfold bindC
    rw [bindC_out fun w hw => h w (List.mem_cons_of_mem _ hw)]
    split
    · rfl
    · have : x ≠ n := by rintro rfl; exact h v List.mem_cons_self
      simp [this]
theorem bindL_get {kindOf : Str → Option NameKind} {x : Str} {v : Value} : ∀ {P : List Str} {vs : List Value} {i : Nat} {m : Str → Option Value}, P.Nodup → P[i]? = some x → vs[i]? = some v → kindOf x = some .local →
    bindL kindOf (P.zip vs) m x = some v
  | [], _, _, _, _, h, _, _ => by simp at h
  | _ :: _, [], _, _, _, _, h, _ => by simp at h
  | p :: P, w :: vs, 0, m, nd, h1, h2, hk => by
    simp at h1 h2; subst h1; subst h2
    show bindL kindOf ((p, w) :: P.zip vs) m p = _
    unfold bindL
    rw [bindL_out fun v hv => (List.nodup_cons.mp nd).1 (List.of_mem_zip hv).1, if_pos hk]
    simp
  | p :: P, w :: vs, i + 1, m, nd, h1, h2, hk => by
    show bindL kindOf ((p, w) :: P.zip vs) m x = _
    unfold bindL
    exact bindL_get (i := i) (List.nodup_cons.mp nd).2 (by simpa using h1) (by simpa using h2) hk
theorem bindC_get {kindOf : Str → Option NameKind} {x : Str} {v : Value} : ∀ {P : List Str} {vs : List Value} {i : Nat} {m : Str → Option Value}, P.Nodup → P[i]? = some x → vs[i]? = some v → kindOf x ≠ some .local →
    bindC kindOf (P.zip vs) m x = some v
  | [], _, _, _, _, h, _, _ => by simp at h
  | _ :: _, [], _, _, _, _, h, _ => by simp at h
  | p :: P, w :: vs, 0, m, nd, h1, h2, hk => by
    simp at h1 h2; subst h1; subst h2
    show bindC kindOf ((p, w) :: P.zip vs) m p = _
    unfold bindC
    rw [bindC_out fun v hv => (List.nodup_cons.mp nd).1 (List.of_mem_zip hv).1, if_neg hk]
    simp
  | p :: P, w :: vs, i + 1, m, nd, h1, h2, hk => by
    show bindC kindOf ((p, w) :: P.zip vs) m x = _
    unfold bindC
    exact bindC_get (i := i) (List.nodup_cons.mp nd).2 (by simpa using h1) (by simpa using h2) hk

/-- the names' values at the entry -/
def start (N : List Str) (vs : List V) : St := vs.map some ++ List.replicate (N.length - vs.length) none

/-- the context of a def's body, at its entry; an exception leaves the frame, then lies as CX says -/
def cxOf (CX : CXT) (P : Program) (w : World) (K : PySem.W.Frag) (mg : Str → Option Value) (base : Heap) (N : List Str) (qual : Str) (scope : Scope) (f : Addr) (cd : Value) (A : Around) (outer : List Env) (s : Shared) (H : Hp) (E : XK) : Cx where
  prog := P
  w := w
  K := K
  mg := mg
  base := base
  A := A.deeper (envOfC qual scope s.heap.objs.size f cd)
  N := N
  s₀ := s
  H₀ := H
  env := envOfC qual scope s.heap.objs.size f cd
  outer := outer
  stack := envOfC qual scope s.heap.objs.size f cd :: outer
  ex := []
  calm := true
  fn := fun _ => true
  pn := []
  xe := fun e s' => wpAny (model P w) (A.deeper (envOfC qual scope s.heap.objs.size f cd)) (leaving (envOfC qual scope s.heap.objs.size f cd) e) (fun _ s'' => CX outer H s E e s'') (fun e' s'' => CX outer H s E e' s'') s'

theorem cell_has {sc : Scope} {n : Nat} {x : Str} (h : sc.names.lookup x = some .cell) : ∃ c, (cellsFrom n sc.names []).lookup x = some c := by
  have q := PySem.W.cellsFrom_some sc.names n [] (.inl h)
  exact Option.isSome_iff_exists.mp q

theorem inv_start {CX : CXT} {P : Program} {w : World} {K : PySem.W.Frag} {mg : Str → Option Value} {base : Heap} {N ps : List Str} {qual : Str} {scope : Scope} {f : Addr} {cd : Value} {A : Around} {outer : List Env} {s s1 : Shared} {H : Hp} {E : XK} {us : List Value} {vs : List V}
    (S : FnScope N ps scope) (hd : A.handled = none) (e0 : Env0 P w K mg base A outer s H) (hl : vs.length = ps.length) (r : Vals vs us)
    (x : InCallC s s.heap.objs.size (bindL (envOfC qual scope s.heap.objs.size f cd).kindOf (ps.zip us) fun _ => none) (cellsFrom (s.heap.objs.size + 1) scope.names []) (bindC (envOfC qual scope s.heap.objs.size f cd).kindOf (ps.zip us) fun _ => none) s1) :
    Inv (cxOf CX P w K mg base N qual scope f cd A outer s H E) [] (start N vs) H s1 := by
  have hpl : ps.length ≤ N.length := by have := congrArg List.length S.pre; rw [List.length_take] at this; omega
  obtain ⟨h1, tk, rfl, hk⟩ := x.done
  have noA : ∀ b : Addr, b ∉ (cxOf CX P w K mg base N qual scope f cd A outer s H E).ex := fun b z => absurd (show b ∈ ([] : List Addr) from z) (by simp)
  refine ⟨⟨e0.mod, S.kind, rfl, rfl, Nat.le_refl _, fun y z c h1 h2 => ?_, fun y hy => ?_, fun y c _ h => ?_, fun _ => hd, Around.frames_deeper e0.frames, .inr ⟨rfl, rfl⟩, fun b z => absurd z (noA b), e0.bs, e0.bsz, fun b _ _ => noA b, fun b z => absurd z (noA b), e0.funs, e0.frf⟩,
    rfl, e0.bare, Un.kept hk, ⟨_, x.toInCall.ns, fun i y v h1 h2 h3 => ?_⟩, fun y c h => ⟨_, x.cell y c h⟩, e0.hok.fresh (Nat.le_refl _), fun y c h => ?_, fun p hp => absurd (show p ∈ ([] : List (Addr × Obj)) from hp) (by simp), e0.hok.kept hk, ?_⟩
  · exact name_of_addr x.apart (PySem.mem_of_lookup h1) (PySem.mem_of_lookup h2)
  · have hy : scope.names.lookup y = some .cell ∨ scope.names.lookup y = some .free := hy
    rcases hy with hy | hy
    · exact cell_has hy
    · exact absurd rfl (S.nofree _ (PySem.mem_of_lookup hy))
  · exact Nat.le_of_lt (x.above y c (PySem.mem_of_lookup h))
  · have hi : i < vs.length := by
      unfold start at h2
      by_cases hi : i < vs.length
      · exact hi
      · rw [List.getElem?_append_right (by simpa using hi)] at h2
        rw [List.getElem?_replicate] at h2
        split at h2 <;> cases h2
    have ha : vs[i]? = some v := by
      unfold start at h2
      rw [List.getElem?_append_left (by simpa using hi), List.getElem?_map] at h2
      cases e : vs[i]? with
      | none => rw [e] at h2; cases h2
      | some a => rw [e] at h2; cases h2; rfl
    obtain ⟨u, hu, rv⟩ := r.get ha
    have hp : ps[i]? = some y := by
      rw [← S.pre, List.getElem?_take_of_lt (by omega)]; exact h1
    have ndP : ps.Nodup := by rw [← S.pre]; exact S.nd.sublist (List.take_sublist _ _)
    refine ⟨u, rv, ?_⟩
    rcases S.par y (List.mem_of_getElem? hp) with k | k
    · exact .inl ⟨k, bindL_get ndP hp hu k⟩
    · obtain ⟨c, e⟩ := cell_has (n := s.heap.objs.size + 1) k
      refine .inr ⟨.inl k, c, e, ?_⟩
      have q := x.cell y c e
      rw [bindC_get ndP hp hu (by show scope.names.lookup y ≠ _; rw [k]; decide)] at q
      exact q
  · exact e0.hok.fresh (Nat.le_of_lt (x.above y c (PySem.mem_of_lookup h)))
  · unfold start
    show _ = N.length
    rw [List.length_append, List.length_map, List.length_replicate]
    omega

/-- THE RULE: a def (or a method) of the text, by its body. The body's reading t is chosen for each entry; it is run at the parameters' values -/
theorem fn_of {CX : CXT} {P : Program} {w : World} {K : PySem.W.Frag} {mg : Str → Option Value} {base : Heap} {k : Nat} {f : Addr} {name qual : Str} {params : Arguments} {body : List Stmt} {scope : Scope} {dV kV doc pm cdv ct oc : Value} {an od : Option Addr}
    {osl : Array (Option Value)} {N ps : List Str} {sp : Sp} (lk : K.lookup f = some ⟨oc, od, .func (PySem.W.fnOf name qual params body scope dV kV doc pm an cdv ct), osl⟩) (hcd : PySem.W.codeIn K cdv qual = true) (S : FnScope N ps scope)
    (len : ∀ vs H Q E, sp vs H Q E → vs.length = ps.length)
    (hbody : ∀ (A : Around) (outer : List Env) (s : Shared) (H : Hp) (vs : List V) (Q : VK) (E : XK), Room k (A.deeper (envOfC qual scope s.heap.objs.size f cdv)) → sp vs H Q E →
      ∃ t, PSs (cxOf CX P w K mg base N qual scope f cdv A outer s H E) body t ∧ t { nx := fun _ H' => Q .non H', rt := Q } (start N vs) H) :
    FnOk P w K mg base CX (k + 1) f (PySem.W.fnOf name qual params body scope dV kV doc pm an cdv ct) ps sp := by
  refine ⟨len, fun A outer s H args us vs Q E hr e0 hb r hsp => ?_⟩
  have hl := len _ _ _ _ hsp
  have KX : K.In s.heap := e0.mod.kin.keeps fun b o e => (e0.bs b o e).1
  have lim : s.heap.NoLimit := e0.mod.nolimit.keeps fun b o e => (e0.bs b o e).1
  have hkind : ∀ y ∈ ps.zip us, scope.names.lookup y.1 = some .local ∨ (scope.names.lookup y.1 = some .cell ∧ ((cellsFrom (s.heap.objs.size + 1) scope.names []).lookup y.1).isSome = true) := fun ⟨n, v⟩ hy => by
    rcases S.par n (List.of_mem_zip hy).1 with q | q
    · exact .inl q
    · exact .inr ⟨q, PySem.W.cellsFrom_some _ _ _ (.inl q)⟩
  refine codeAny_call_function hr.depth (KX _ _ lk) rfl S.co S.gen rfl (PySem.W.codeRec_of KX hcd) (hb _ _ _ _ ?_)
  refine wpAny_newFunctionEnv_cells S.kind hkind fun env he s1 x => ?_
  subst he
  refine ⟨lim.keeps x.toInCall.keep, codeAny_func ?_⟩
  obtain ⟨t, ht, hq⟩ := hbody A outer s H vs Q E (hr.deeper _) hsp
  have I : Inv (cxOf CX P w K mg base N qual scope f cdv A outer s H E) [] (start N vs) H s1 := inv_start S hr.hd e0 hl r x
  refine wpAny_mono (ht [] s1 (start N vs) H _ I hq) (fun fl s' hs => ?_) fun e s' hs => hs
  have fin : ∀ {σ' : St} {H' : Hp} {v : V} {u : Value}, Inv (cxOf CX P w K mg base N qual scope f cdv A outer s H E) [] σ' H' s' → RelV v u → Q v H' → CE outer P w H s Q u s' :=
    fun {σ' H' v u} J rv q => ⟨v, H', J.os, J.bare, J.base, J.hok, rv, q⟩
  cases fl with
  | ret u =>
    obtain ⟨v, σ', H', J, rv, q⟩ := hs
    exact fin J rv q
  | next =>
    obtain ⟨σ', H', J, q⟩ := hs
    exact fin (v := V.non) (u := Value.none) J rfl q
  | brk =>
    obtain ⟨_, _, _, q⟩ := hs
    exact False.elim q
  | cont =>
    obtain ⟨_, _, _, q⟩ := hs
    exact False.elim q
end L2

namespace L2
open PySem PySem.Spec PyProof.Rows
section
variable {X : Cx} {x : Str} {p pos : Pos} {e : Expr} {es : List Expr} {t : TA} {id T : String} {r : List V → Hp → VK → Prop}

def tCB (r : List V → Hp → VK → Prop) (t : TA) : TE := fun σ H Q => t σ H fun vs H1 => r vs H1 Q
/-- f(e, ..), f a built-in function -/
theorem pe_callB (hc : CallR X (.builtin id) r) (hg : Gl X x) (hm : X.mg x = none) (hv : bootBuiltins x = some (.builtin id)) (ha : PA X (e :: es) t) (hn : x ≠ "__name__" := by decide) (hdb : (x == ("__debug__" : Str)) = false := by decide)
    (he : starEach (e :: es) X.env = (false, eval e X.env) :: starEach es X.env := by rfl) (hpl : (backTo pos (starEach es X.env)).any (·.1) = false := by rfl) : PE X (.Call (.Name x p) (e :: es) [] pos) (tCB r t) := by
  intro pins s σ H Q I h
  refine wpAny_Call_Name_kw (ld_blt I hg hm hv ?_ hn hdb)
  exact PyProof.Rows.callWith_builtin1 (thn (ha pos pins s σ H _ I h) fun us s1 ⟨vs, H1, I1, r1, q1⟩ => hc pins s1 σ H1 vs us Q I1 r1 q1) he hpl
/-- T(e, ..), T a built-in type -/
theorem pe_callTy (hc : CallR X (.type T) r) (hg : Gl X x) (hm : X.mg x = none) (hv : bootBuiltins x = some (.type T)) (ha : PA X (e :: es) t) (hn : x ≠ "__name__" := by decide) (hdb : (x == ("__debug__" : Str)) = false := by decide)
    (he : starEach (e :: es) X.env = (false, eval e X.env) :: starEach es X.env := by rfl) (hpl : (backTo pos (starEach es X.env)).any (·.1) = false := by rfl) : PE X (.Call (.Name x p) (e :: es) [] pos) (tCB r t) := by
  intro pins s σ H Q I h
  refine wpAny_Call_Name_kw (ld_blt I hg hm hv ?_ hn hdb)
  exact PyProof.Rows.callWith_type1 (thn (ha pos pins s σ H _ I h) fun us s1 ⟨vs, H1, I1, r1, q1⟩ => hc pins s1 σ H1 vs us Q I1 r1 q1) he hpl
/-- T() -/
theorem pe_callTy0 (hc : CallR X (.type T) r) (hg : Gl X x) (hm : X.mg x = none) (hv : bootBuiltins x = some (.type T)) (hn : x ≠ "__name__" := by decide) (hdb : (x == ("__debug__" : Str)) = false := by decide) :
    PE X (.Call (.Name x p) [] [] pos) (tCB r tNil) := by
  intro pins s σ H Q I h
  refine wpAny_Call_Name_kw (ld_blt I hg hm hv ?_ hn hdb)
  exact PyProof.Rows.callWith_type0 (hc pins s σ H [] [] Q I .nil h)
end
end L2

namespace HT
open PySem PyProof.Rows

/-- t < u of tuples of ints -/
def lexLt : List Int → List Int → Bool
  | [], [] => false
  | [], _ :: _ => true
  | _ :: _, [] => false
  | x :: xs, y :: ys => if x = y then lexLt xs ys else decide (x < y)
theorem lexLt_cons (x y : Int) (xs ys : List Int) : lexLt (x :: xs) (y :: ys) = if x = y then lexLt xs ys else decide (x < y) := rfl
theorem lexLt_nil_nil : lexLt [] [] = false := rfl
theorem lexLt_nil_cons (y : Int) (ys : List Int) : lexLt [] (y :: ys) = true := rfl
theorem lexLt_cons_nil (x : Int) (xs : List Int) : lexLt (x :: xs) [] = false := rfl

theorem eqAt_int (A : Around) (s : Shared) (a : Int) (t : Tok) (c : Int) (u : Tok) : ∃ e, SeqAt.EqAt A s (.int a t) (.int c u) e ∧ (e = true ↔ a = c) :=
  ⟨(a == c), SeqAt.EqAt.int_int a t c u, by simp⟩
theorem rcLt_int (A : Around) (s : Shared) (a : Int) (t : Tok) (c : Int) (u : Tok) (prog : Program) (w : World) (E : Value → Shared → Prop) (Q : Value → Shared → Prop) (h : Q (.bool (decide (a < c))) s) :
    wpAny (model prog w) A (richCompare .Lt (.int a t) (.int c u)) Q E s :=
  (PyProof.Rows.lt_int h : wpAny (model prog w) A (compareOp .Lt (.int a t) (.int c u)) Q E s)

section
open PySem.SeqAt
open PySem.AutoSeq1 (wpAny_loadPart')
open PySem.MeetsSeq PySem.MeetsSeq2 PySem.MeetsSeq3

theorem tuple_lt_ints (l b : Addr) (items items2 : Array Value) (n n2 : Nat) (dd dd2 : Option Addr) (sl sl2 : Array (Option Value)) (ns ms : List Int) (hi : IntsAre items.toList ns) (hj : IntsAre items2.toList ms) :
    Meets (Builtin.«tuple.__lt__» ⟨[.ref l, .ref b], []⟩)
      (fun _ R s => s.heap.get? l = some { cls := .type "tuple", dict := dd, data := .seq items n, slots := sl } ∧ s.heap.get? b = some { cls := .type "tuple", dict := dd2, data := .seq items2 n2, slots := sl2 } ∧
        R (.ok (.ret (.bool (lexLt ns ms)))) s) :=
  .of_wp fun prog w A R s h => by
    obtain ⟨hp, g, d, tk, os⟩ := s; obtain ⟨hl, hb, h⟩ := h
    have f2 := AutoSeq1.sub_tuple_tuple
    have z1 : items.size = ns.length := by rw [← hi.length]; simp
    have z2 : items2.size = ms.length := by rw [← hj.length]; simp
    wp_walk using wpAny_loadPart' hl, wpAny_loadPart' hb, wpAny_forIn_list _ (fun rest b s' => b.1 = none ∧ s' = ⟨hp, g, d, tk, os⟩ ∧ ∃ (vs ws : List Value) (ns' ms' : List Int), rest = vs.zip ws ∧
      IntsAre vs ns' ∧ IntsAre ws ms' ∧ ns'.length + items2.size = ms'.length + items.size ∧ R (.ok (.ret (.bool (lexLt ns' ms')))) ⟨hp, g, d, tk, os⟩) _
    case turn =>
      rintro ⟨y, x⟩ rest b s' ⟨hb', rfl, vs, ws, ns', ms', hz, hvi, hwi, hlen, hR⟩
      cases hvi with
      | nil => rw [List.zip_nil_left] at hz; cases hz
      | cons a t hvi' =>
        cases hwi with
        | nil => rw [List.zip_nil_right] at hz; cases hz
        | cons c u hwi' =>
          rw [List.zip_cons_cons] at hz
          injection hz with hyx hrest
          injection hyx with hy hx
          subst hy hx
          rw [lexLt_cons] at hR
          simp only [List.length_cons] at hlen
          obtain ⟨e, he, hiff⟩ := eqAt_int A.in1 ⟨hp, g, d, tk, os⟩ a t c u
          refine wpAny_bind (he prog w _ _ ?_)
          cases e with
          | true =>
            rw [if_pos (hiff.mp rfl)] at hR
            wp_walk
            exact ⟨rfl, rfl, _, _, _, _, hrest, hvi', hwi', by omega, hR⟩
          | false =>
            rw [if_neg (fun q => absurd (hiff.mpr q) Bool.false_ne_true)] at hR
            have hri := rcLt_int A.in1 ⟨hp, g, d, tk, os⟩ a t c u prog w
            wp_walk using hri
            exact ⟨_, rfl, by simpa using hR⟩
    case fin =>
      rintro ⟨b1, b2⟩ s' ⟨hb', rfl, vs, ws, ns', ms', hz, hvi, hwi, hlen, hR⟩
      simp only at hb'
      subst hb'
      have hv : lexLt ns' ms' = decide (items.size < items2.size) := by
        cases hvi with
        | nil =>
          cases hwi with
          | nil =>
            simp only [List.length_nil] at hlen
            rw [lexLt_nil_nil]
            exact (decide_eq_false (by omega)).symm
          | cons c u hw =>
            simp only [List.length_nil, List.length_cons] at hlen
            rw [lexLt_nil_cons]
            exact (decide_eq_true (by omega)).symm
        | cons a t hv =>
          cases hwi with
          | nil =>
            simp only [List.length_nil, List.length_cons] at hlen
            rw [lexLt_cons_nil]
            exact (decide_eq_false (by omega)).symm
          | cons c u hw =>
            rw [List.zip_cons_cons] at hz
            cases hz
      rw [hv] at hR
      wp_walk
      exact ⟨_, rfl, by simpa [Builtin.Tuple.tupleCompareSizes] using hR⟩
    case h =>
      exact ⟨rfl, rfl, items.toList, items2.toList, ns, ms, rfl, hi, hj, by omega, h⟩
end

section
variable {prog : Program} {w : World} {A : Around} {E : Value → Shared → Prop} {s : Shared}

theorem lt_tupInts {l b : Addr} {items items2 : Array Value} {ns ms : List Int} {Q : Value → Shared → Prop} (hl : IsTup s.heap l items) (hb : IsTup s.heap b items2) (hi : IntsAre items.toList ns) (hj : IntsAre items2.toList ms)
    (hu : A.units < cLine) (h : Q (.bool (lexLt ns ms)) s) : wpAny (model prog w) A (compareOp .Lt (.ref l) (.ref b)) Q E s := by
  obtain ⟨⟨cls, dd, data, sl⟩, ho, hc, n, hd⟩ := id hl
  obtain ⟨⟨cls2, dd2, data2, sl2⟩, ho2, hc2, n2, hd2⟩ := id hb
  simp only at hc hd hc2 hd2
  subst hc hd hc2 hd2
  exact richCompare_meets_room (op := .Lt) ⟨_, ho, rfl⟩ ⟨_, ho2, rfl⟩ PySem.F.slot_tuple_lt PySem.F.entry_tuple_lt (PySem.F.args_tuple_lt_2 _ _) (tuple_lt_ints l b items items2 n n2 dd dd2 sl sl2 ns ms hi hj)
    ⟨ho, ho2, show Value.bool (lexLt ns ms) ≠ Value.notImplemented ∧ Q (.bool (lexLt ns ms)) s from ⟨(fun x => nomatch x), h⟩⟩ hu

/-- t + u, t not empty -/
theorem cat_tup {t b : Addr} {vs ws : List Value} {Q : Value → Shared → Prop} (ht : IsTup s.heap t vs.toArray) (hb : IsTup s.heap b ws.toArray) (hv : vs ≠ [])
    (h1 : ws = [] → Q (.ref t) s) (h2 : ws ≠ [] → Q (.ref s.heap.objs.size) { s with heap := s.heap.push { cls := .type "tuple", data := .seq (vs ++ ws).toArray } })
    (hsz : vs.length + ws.length ≤ sizeLine) : wpAny (model prog w) A (binaryOp .Add (.ref t) (.ref b)) Q E s := by
  obtain ⟨⟨cls, dd, data, sl⟩, ho, hc, n, hd⟩ := id ht
  obtain ⟨⟨cls2, dd2, data2, sl2⟩, ho2, hc2, n2, hd2⟩ := id hb
  simp only at hc hd hc2 hd2
  subst hc hd hc2 hd2
  have e : vs.toArray ++ ws.toArray = (vs ++ ws).toArray := by simp
  by_cases hw : ws = []
  · exact concat_meets ⟨_, ho, rfl⟩ ⟨_, ho2, rfl⟩ noFill_tuple_add seq_tuple_add PySem.F.slot_tuple_add PySem.F.entry_tuple_add (PySem.F.args_tuple_add_2 _ _)
      (tuple_addW1 t b vs.toArray ws.toArray n n2 dd dd2 sl sl2 (by simpa using hv) (by simp [hw])) ⟨ho, ho2, h1 hw⟩
  · refine concat_meets ⟨_, ho, rfl⟩ ⟨_, ho2, rfl⟩ noFill_tuple_add seq_tuple_add PySem.F.slot_tuple_add PySem.F.entry_tuple_add (PySem.F.args_tuple_add_2 _ _)
      (tuple_addW2 t b vs.toArray ws.toArray n n2 dd dd2 sl sl2 (by simpa using hv) (by simpa using hw) (by rw [List.size_toArray, List.size_toArray]; exact hsz)) ⟨ho, ho2, ?_⟩
    rw [e]
    exact h2 hw

/-! ### t[a:b], not the whole -/
/-- a slice's bound as a place among n (d where it is left out) -/
def sIx (n d : Nat) : Option Int → Nat
  | none => d
  | some v => if v < 0 then (v + (n : Int)).toNat else min v.toNat n
theorem sIx_none (n d : Nat) : sIx n d none = d := rfl
theorem sIx_nat (n d k : Nat) : sIx n d (some (k : Int)) = min k n := by
  show (if (k : Int) < 0 then ((k : Int) + (n : Int)).toNat else min (k : Int).toNat n) = min k n
  rw [if_neg (by omega), Int.toNat_natCast]
theorem sIx_le (n d : Nat) (hd : d ≤ n) (o : Option Int) : sIx n d o ≤ n := by
  cases o with
  | none => exact hd
  | some v =>
    show (if v < 0 then (v + (n : Int)).toNat else min v.toNat n) ≤ n
    by_cases hv : v < 0
    · rw [if_pos hv]; omega
    · rw [if_neg hv]; exact Nat.min_le_right _ _
theorem clip_eq (v : Int) (n d : Nat) : (if v < 0 then max (v + (n : Int)) 0 else min v (n : Int)) = ((sIx n d (some v) : Nat) : Int) := by
  show (if v < 0 then max (v + (n : Int)) 0 else min v (n : Int)) = (((if v < 0 then (v + (n : Int)).toNat else min v.toNat n) : Nat) : Int)
  by_cases hv : v < 0
  · simp only [if_pos hv]; omega
  · simp only [if_neg hv]; omega
theorem adjust_gen (lo hi : Option Int) (n : Nat) : Builtin.Slice.sliceAdjust lo hi 1 (n : Int) = (((sIx n 0 lo : Nat) : Int), ((sIx n n hi : Nat) : Int)) := by
  have h1 : ¬ ((1 : Int) < 0) := by omega
  unfold Builtin.Slice.sliceAdjust
  simp only [h1, if_false]
  refine Prod.ext ?_ ?_
  · cases lo with
    | none => rfl
    | some v => exact clip_eq v n 0
  · cases hi with
    | none => rfl
    | some v => exact clip_eq v n n
theorem places_gen (i j : Nat) : Builtin.Slice.slicePlaces (i : Int) (j : Int) 1 = j - i := by
  unfold Builtin.Slice.slicePlaces
  have h1 : (1 : Int) > 0 := by omega
  simp only [h1, if_true, Int.ediv_one]
  split <;> omega
theorem slicePart_ {v : Value} {o : Option Int} {Q : Option Int → Shared → Prop} (p : IsPart v o) (h : Q o s) : wpAny (model prog w) A (Builtin.Slice.slicePartIndex v) Q E s := by
  cases p with
  | none => exact slicePart_none h
  | int i t => exact slicePart_int h
theorem sliceApplied_gen {sl : Addr} {vl vu : Value} {lo hi : Option Int} {n : Nat} {Q : Int × Int × Nat → Shared → Prop} (hs : s.heap.IsSliceOf sl vl vu .none) (pl : IsPart vl lo) (pu : IsPart vu hi)
    (h : Q (((sIx n 0 lo : Nat) : Int), 1, sIx n n hi - sIx n 0 lo) s) : wpAny (model prog w) A (Builtin.Slice.sliceApplied (.ref sl) (pure (n : Int))) Q E s := by
  obtain ⟨os, hos, hcs, hds⟩ := id hs
  unfold Builtin.Slice.sliceApplied Builtin.Slice.sliceFields
  refine wpAny_bind (wpAny_bind (wpAny_field hos hds (x := vl) rfl (wpAny_bind (wpAny_field hos hds (x := vu) rfl (wpAny_bind (wpAny_field hos hds (x := .none) rfl (wpAny_pure ?_)))))))
  refine wpAny_bind (slicePart_none ?_)
  show wpAny _ _ (if ((1 : Int) == 0) = true then _ else _) _ _ s
  rw [if_neg (by decide)]
  refine wpAny_bind (slicePart_ pl (wpAny_bind (slicePart_ pu (wpAny_bind (wpAny_pure ?_)))))
  show wpAny _ _ (match Builtin.Slice.sliceAdjust lo hi 1 (n : Int) with | (lo, hi) => pure (lo, (1 : Int), Builtin.Slice.slicePlaces lo hi 1)) _ _ s
  rw [adjust_gen lo hi n]
  show wpAny _ _ (pure (((sIx n 0 lo : Nat) : Int), (1 : Int), Builtin.Slice.slicePlaces ((sIx n 0 lo : Nat) : Int) ((sIx n n hi : Nat) : Int) 1)) _ _ s
  rw [places_gen]
  exact wpAny_pure h
theorem pick_gen (xs : Array Value) (i k : Nat) : ((List.range k).filterMap fun (m : Nat) => xs[((i : Int) + (m : Int) * 1).toNat]?).toArray = ((xs.toList.drop i).take k).toArray := by
  have e : (fun (m : Nat) => xs[((i : Int) + (m : Int) * 1).toNat]?) = fun m => xs[i + m]? := by
    funext m
    have : ((i : Int) + (m : Int) * 1).toNat = i + m := by omega
    rw [this]
  rw [e]
  have := pick_run xs i k
  rw [List.filterMap_map] at this
  have e2 : ((fun x => xs[x]?) ∘ fun x => i + x) = fun m => xs[i + m]? := rfl
  rw [e2] at this
  rw [this]

theorem getItem_tuple_cut {t sl : Addr} {items : Array Value} {vl vu : Value} {lo hi : Option Int} {Q : Value → Shared → Prop} (ht : IsTup s.heap t items) (hs : s.heap.IsSliceOf sl vl vu .none) (pl : IsPart vl lo) (pu : IsPart vu hi)
    (hw : ¬ (sIx items.size 0 lo = 0 ∧ sIx items.size items.size hi = items.size))
    (h : Q (.ref s.heap.objs.size) { s with heap := s.heap.push { cls := .type "tuple", data := .seq ((items.toList.drop (sIx items.size 0 lo)).take (sIx items.size items.size hi - sIx items.size 0 lo)).toArray } })
    (hsz : items.size ≤ sizeLine) : wpAny (model prog w) A (getItem (.ref t) (.ref sl)) Q E s := by
  have htake : sizeOk (.seq ((items.toList.drop (sIx items.size 0 lo)).take (sIx items.size items.size hi - sIx items.size 0 lo)).toArray) := by
    show ((items.toList.drop (sIx items.size 0 lo)).take (sIx items.size items.size hi - sIx items.size 0 lo)).toArray.size ≤ sizeLine
    rw [List.size_toArray, List.length_take, List.length_drop, Array.length_toList]
    omega
  have hj : sIx items.size items.size hi ≤ items.size := sIx_le _ _ (Nat.le_refl _) hi
  obtain ⟨os, hos, hcs, hds⟩ := id hs
  have hTs : s.TypeIs (.ref sl) "slice" := ⟨os, hos, hcs⟩
  unfold getItem
  try with_reducible refine wpAny_holding ?_
  first | refine wpAny_bind (wpAny_pure ?_) | skip
  refine wpAny_bind (wpAny_sequenceKey ht.typeIs (by decide) ?_)
  refine wpAny_bind (wpAny_callSpecial?_slot (name := Str.ofString "__getitem__") ht.typeIs PyProof.Rows.slot_tuple_getitem
    (wpAny_call_entry PyProof.Rows.slot_tuple_getitem ht.typeIs entry_tuple_getitem ?_ (args_tuple_getitem _ _)))
  show wpAny _ _ (Builtin.Tuple.tupleItemsOf (.ref t) >>= _) _ _ s
  refine wpAny_bind (tupleItemsOf_ ht ?_)
  refine wpAny_bind (wpAny_typeOf hTs ?_)
  rw [if_pos (by decide)]
  refine wpAny_bind (sliceApplied_gen hs pl pu ?_)
  have hno : ¬ ((((sIx items.size 0 lo : Nat) : Int) == 0 && (1 : Int) == 1 && (sIx items.size items.size hi - sIx items.size 0 lo) == items.size) = true) := by
    intro q
    rw [Bool.and_eq_true, Bool.and_eq_true] at q
    have q1 : ((sIx items.size 0 lo : Nat) : Int) = 0 := eq_of_beq q.1.1
    have q2 : sIx items.size items.size hi - sIx items.size 0 lo = items.size := eq_of_beq q.2
    exact hw ⟨by omega, by omega⟩
  show wpAny _ _ (if (((sIx items.size 0 lo : Nat) : Int) == 0 && (1 : Int) == 1 && (sIx items.size items.size hi - sIx items.size 0 lo) == items.size) = true then _ else _) _ _ s
  rw [if_neg hno, pick_gen]
  first
    | exact wpAny_bind (m := Builtin.Tuple.tupleExact _) (wpAny_newObj_type (wpAny_pure ⟨_, rfl, wpAny_pure h⟩) htake)
    | exact wpAny_bind (m := Builtin.Tuple.tupleExact _) (wpAny_newObj_type (wpAny_bind (wpAny_pure (wpAny_pure ⟨_, rfl, wpAny_pure h⟩))) htake)
    | exact wpAny_bind (wpAny_bind (m := Builtin.Tuple.tupleExact _) (wpAny_newObj_type (wpAny_pure (wpAny_pure ⟨_, rfl, wpAny_pure h⟩)) htake))
    | exact wpAny_bind (wpAny_bind (m := Builtin.Tuple.tupleExact _) (wpAny_newObj_type (wpAny_pure ⟨_, rfl, wpAny_pure h⟩) htake))
end
end HT

namespace L2
open PySem PySem.Spec PyProof.Rows

/-! ### the parts of a slice -/
abbrev TO := St → Hp → (Option Int → Hp → Prop) → Prop
/-- a slice's part (left out, or an int) -/
def PO (X : Cx) (e : Option Expr) (t : TO) : Prop :=
  ∀ (pins : List (Addr × Obj)) (s : Shared) (σ : St) (H : Hp) (Q : Option Int → Hp → Prop), Inv X pins σ H s → t σ H Q →
    wpAny (model X.prog X.w) X.A (evalPart e X.env) (fun u s' => ∃ o H', Inv X pins σ H' s' ∧ IsPart u o ∧ Q o H') X.xe s
def tNoPart : TO := fun _ H Q => Q none H
def tPart (t : TE) : TO := fun σ H Q => t σ H fun x H1 => ∃ i, x = .int i ∧ Q (some i) H1

theorem intsAre_of {ns : List Int} : ∀ {us : List Value}, Vals (ns.map V.int) us → IntsAre us ns := by
  induction ns with
  | nil => intro us r; rw [List.map_nil] at r; cases r; exact .nil
  | cons n ns ih =>
    intro us r
    rw [List.map_cons] at r
    cases r with
    | cons r1 r2 =>
      obtain ⟨t, e⟩ := r1
      subst e
      exact .cons n t (ih r2)

section
variable {X : Cx} {e : Expr} {te : TE} {lo hi : Option Expr} {tl th : TO} {pos p2 : Pos}

theorem po_none : PO X none tNoPart := by
  intro pins s σ H Q I h
  rw [evalPart_none]
  exact wpAny_pure ⟨none, H, I, .none, h⟩
theorem po_some (h : PE X e te) : PO X (some e) (tPart te) := by
  intro pins s σ H Q I hw
  rw [evalPart_some]
  refine thn (h pins s σ H _ I hw) fun u s1 ⟨x, H1, I1, r1, q1⟩ => ?_
  obtain ⟨i, rfl, q⟩ := q1
  obtain ⟨t, rfl⟩ := r1
  exact ⟨some i, H1, I1, .int i t, q⟩

/-- what a slice of a value is, by values: the slice object stands at sl -/
def SlR (X : Cx) (r : V → Option Int → Option Int → Hp → VK → Prop) : Prop :=
  ∀ (pins : List (Addr × Obj)) (s : Shared) (σ : St) (H : Hp) (x : V) (v vl vu : Value) (lo hi : Option Int) (sl : Addr) (Q : VK), Inv X pins σ H s → RelV x v → s.heap.IsSliceOf sl vl vu .none → IsPart vl lo → IsPart vu hi → r x lo hi H Q →
    ∃ T id, typeLookup (.type T) "__getitem__" = pure (some (.builtin id)) ∧ s.TypeIs v T ∧ wpAny (model X.prog X.w) X.A (getItem v (.ref sl)) (EP X pins σ Q) X.xe s
theorem SlR.or {r r' : V → Option Int → Option Int → Hp → VK → Prop} (h : SlR X r) (h' : SlR X r') : SlR X (fun x lo hi H Q => r x lo hi H Q ∨ r' x lo hi H Q) := by
  intro pins s σ H x v vl vu lo hi sl Q I rx hs pl pu q
  rcases q with q | q
  · exact h pins s σ H x v vl vu lo hi sl Q I rx hs pl pu q
  · exact h' pins s σ H x v vl vu lo hi sl Q I rx hs pl pu q
def tSl (r : V → Option Int → Option Int → Hp → VK → Prop) (te : TE) (tl th : TO) : TE := fun σ H Q => te σ H fun x H1 => tl σ H1 fun l H2 => th σ H2 fun u H3 => r x l u H3 Q
/-- a[lo:hi], any a -/
theorem pe_slice {r : V → Option Int → Option Int → Hp → VK → Prop} (hr : SlR X r) (he : PE X e te) (hl : PO X lo tl) (hu : PO X hi th) : PE X (.Subscript e (.Slice lo hi none p2) pos) (tSl r te tl th) := by
  intro pins s σ H Q I h
  refine Subscript_ (thn (he pins s σ H _ I h) fun v s1 ⟨x, H1, I1, r1, q1⟩ => ?_)
  refine wpAny_Slice (thn (hl pins s1 σ H1 _ I1 q1) fun vl s2 ⟨l, H2, I2, pl, q2⟩ => thn (hu pins s2 σ H2 _ I2 q2) fun vu s3 ⟨u, H3, I3, pu, q3⟩ => ?_)
  rw [evalPart_none]
  refine wpAny_pure ?_
  have I4 : Inv X pins σ H3 { s3 with heap := s3.heap.push { cls := .type "slice", data := .fields #[vl, vu, .none] } } := I3.kept (t' := s3.toks) fun b ob q => Heap.get?_push_of_some _ q
  obtain ⟨T, id, hT, ht, hg⟩ := hr pins { s3 with heap := s3.heap.push { cls := .type "slice", data := .fields #[vl, vu, .none] } } σ H3 x v vl vu l u s3.heap.objs.size Q I4 r1 (Heap.IsSliceOf.new ..) pl pu q3
  show wpAny (model X.prog X.w) X.A (subscriptTail e (.Slice lo hi none p2) v (.ref s3.heap.objs.size)) (EP X pins σ Q) X.xe { s3 with heap := s3.heap.push { cls := .type "slice", data := .fields #[vl, vu, .none] } }
  exact tail_any (ops := [.ref s3.heap.objs.size, v]) ht hT hg (by with_unfolding_all rfl)

/-- the items of xs[lo:hi] -/
def cutV (xs : List V) (lo hi : Option Int) : List V := (xs.drop (HT.sIx xs.length 0 lo)).take (HT.sIx xs.length xs.length hi - HT.sIx xs.length 0 lo)
theorem cutV_length (xs : List V) (lo hi : Option Int) : (cutV xs lo hi).length ≤ xs.length := by
  unfold cutV
  rw [List.length_take, List.length_drop]
  omega
/-- t[lo:hi], not the whole of it (the whole would be t itself) -/
def rSlT (K : PySem.W.Frag) : V → Option Int → Option Int → Hp → VK → Prop := fun x lo hi H Q => ∃ a xs, x = .ref a ∧ SqT K H a xs ∧
  ¬ (HT.sIx xs.length 0 lo = 0 ∧ HT.sIx xs.length xs.length hi = xs.length) ∧ ∀ p, H p = none → Q (.ref p) (upd H p (.tup (cutV xs lo hi)))
theorem sl_tup : SlR X (rSlT X.K) := by
  intro pins s σ H x v vl vu lo hi sl Q I rx hs pl pu h
  obtain ⟨a, xs, rfl, hx, hw, q⟩ := h
  cases rx
  obtain ⟨its, r, ht, hz⟩ := I.tuple hx
  have hlen : its.toArray.size = xs.length := by rw [List.size_toArray]; exact r.length.symm
  refine ⟨"tuple", _, PyProof.Rows.slot_tuple_getitem.lookup, ht.typeIs, ?_⟩
  refine HT.getItem_tuple_cut ht hs pl pu (by rw [hlen]; exact hw) ?_ (by rw [hlen]; exact hz)
  rw [hlen]
  refine ⟨.ref s.heap.objs.size, _, I.laid (t' := s.toks) (o := .tup (cutV xs lo hi)) (fun b ob q => Heap.get?_push_of_some _ q) (Nat.le_refl _) ?_, rfl, q _ (I.hok.fresh (Nat.le_refl _))⟩
  exact ⟨Nat.le_trans (cutV_length xs lo hi) hz, _, (r.drop (HT.sIx xs.length 0 lo)).take (HT.sIx xs.length xs.length hi - HT.sIx xs.length 0 lo), IsTup.new _ _⟩

/-! ### t < u, t + u -/
def rLtT (K : PySem.W.Frag) : R2 := fun x y H Q => ∃ a b ns ms, x = .ref a ∧ y = .ref b ∧ SqT K H a (ns.map V.int) ∧ SqT K H b (ms.map V.int) ∧ Q (.bl (HT.lexLt ns ms)) H
theorem op_ltT (hu : X.A.units < cLine) : OpR X (compareOp .Lt) (rLtT X.K) := by
  intro pins s σ H x y v u Q I rx ry h
  obtain ⟨a, b, ns, ms, rfl, rfl, ha, hb, q⟩ := h
  cases rx
  cases ry
  obtain ⟨its, r1, p1, _⟩ := I.tuple ha
  obtain ⟨its2, r2, p2, _⟩ := I.tuple hb
  have i1 : IntsAre its.toArray.toList ns := intsAre_of r1
  have i2 : IntsAre its2.toArray.toList ms := intsAre_of r2
  exact HT.lt_tupInts p1 p2 i1 i2 hu ⟨.bl (HT.lexLt ns ms), H, I, rfl, q⟩
/-- t + u, t not empty: u empty gives t itself -/
def rCatT (K : PySem.W.Frag) : R2 := fun x y H Q => ∃ a b xs ys, x = .ref a ∧ y = .ref b ∧ SqT K H a xs ∧ SqT K H b ys ∧ xs ≠ [] ∧ xs.length + ys.length ≤ sizeLine ∧
  (ys = [] → Q (.ref a) H) ∧ (ys ≠ [] → ∀ p, H p = none → Q (.ref p) (upd H p (.tup (xs ++ ys))))
theorem Vals.nil_iff {xs : List V} {us : List Value} (r : Vals xs us) : us = [] ↔ xs = [] := by
  cases r with
  | nil => simp
  | cons _ _ => simp
theorem op_catT : OpR X (binaryOp .Add) (rCatT X.K) := by
  intro pins s σ H x y v u Q I rx ry h
  obtain ⟨a, b, xs, ys, rfl, rfl, ha, hb, hx, hz, q1, q2⟩ := h
  cases rx
  cases ry
  obtain ⟨its, r1, p1, _⟩ := I.tuple ha
  obtain ⟨its2, r2, p2, _⟩ := I.tuple hb
  refine HT.cat_tup p1 p2 (fun z => hx (r1.nil_iff.mp z)) (fun z => ⟨.ref a, H, I, rfl, q1 (r2.nil_iff.mp z)⟩) (fun z => ?_) (by rw [← r1.length, ← r2.length]; exact hz)
  refine ⟨.ref s.heap.objs.size, _, I.laid (t' := s.toks) (o := .tup (xs ++ ys)) (fun b ob q => Heap.get?_push_of_some _ q) (Nat.le_refl _) ?_, rfl, q2 (fun w => z (r2.nil_iff.mpr w)) _ (I.hok.fresh (Nat.le_refl _))⟩
  exact ⟨by rw [List.length_append]; exact hz, _, r1.append r2, IsTup.new _ _⟩
/-- tuple(t) -/
theorem call_tupleT : CallR X (.type "tuple") (fun xs H Q => ∃ a ys, xs = [.ref a] ∧ SqT X.K H a ys ∧ Q (.ref a) H) := by
  intro pins s σ H xs us Q I r h
  obtain ⟨a, ys, rfl, ha, q⟩ := h
  obtain ⟨u, rfl, ru⟩ := vals1 r
  cases ru
  obtain ⟨its, _, p1, _⟩ := I.tuple ha
  exact call_tuple_same (items := its.toArray) p1 ⟨.ref a, H, I, rfl, q⟩
end
end L2

namespace L2
open PySem PySem.Spec PyProof.Rows

/-! ### places -/
/-- the place that an index of any sign means -/
def ixN (n : Nat) (i : Int) : Option Nat := if 0 ≤ i then (if i < n then some i.toNat else none) else if -(n : Int) ≤ i then some (i + n).toNat else none
def atI {α : Type} (xs : List α) (i : Int) : Option α := (ixN xs.length i).bind fun j => xs[j]?
theorem ixN_seq {n : Nat} {i : Int} {j : Nat} (h : ixN n i = some j) : seqIndex? i n = some j ∧ j < n ∧ -(n : Int) ≤ i ∧ i < n := by
  unfold ixN at h
  by_cases h0 : 0 ≤ i
  · rw [if_pos h0] at h
    by_cases h1 : i < n
    · rw [if_pos h1] at h
      have e : i.toNat = j := Option.some.inj h
      exact ⟨by rw [seqIndex_of h0 h1, e], by omega, by omega, h1⟩
    · rw [if_neg h1] at h; cases h
  · rw [if_neg h0] at h
    by_cases h1 : -(n : Int) ≤ i
    · rw [if_pos h1] at h
      have e : (i + n).toNat = j := Option.some.inj h
      exact ⟨by rw [seqIndex_neg (by omega) h1, e], by omega, h1, by omega⟩
    · rw [if_neg h1] at h; cases h
theorem atI_get {α : Type} {xs : List α} {i : Int} {v : α} (h : atI xs i = some v) : ∃ j, seqIndex? i xs.length = some j ∧ xs[j]? = some v ∧ j < xs.length ∧ -(xs.length : Int) ≤ i ∧ i < xs.length := by
  unfold atI at h
  cases e : ixN xs.length i with
  | none => rw [e] at h; cases h
  | some j =>
    rw [e] at h
    obtain ⟨h1, h2, h3, h4⟩ := ixN_seq e
    exact ⟨j, h1, h, h2, h3, h4⟩
theorem atI_nat {α : Type} {xs : List α} {j : Nat} {v : α} (h : xs[j]? = some v) : atI xs (j : Int) = some v := by
  have hj : j < xs.length := (List.getElem?_eq_some_iff.mp h).1
  have e : ixN xs.length (j : Int) = some j := by
    unfold ixN
    rw [if_pos (by omega), if_pos (by omega)]; simp
  unfold atI; rw [e]; exact h
theorem atI_last {α : Type} (xs : List α) (v : α) : atI (xs ++ [v]) (-1) = some v := by
  have hl : (xs ++ [v]).length = xs.length + 1 := by simp
  have e : ixN (xs ++ [v]).length (-1) = some xs.length := by
    unfold ixN
    rw [hl, if_neg (by decide), if_pos (by omega)]
    congr 1
    omega
  unfold atI
  rw [e]
  show (xs ++ [v])[xs.length]? = some v
  simp

/-! ### what may be subscripted -/
/-- what stands as an index of a plain subscript -/
def PlainIx (b : Expr) : Prop := ∀ o i, subscripted b false o i = operate [o, i] (getItem o i)
/-- a subscript by values -/
def IxR (X : Cx) (r : R2) : Prop :=
  ∀ (value slice : Expr) (pins : List (Addr × Obj)) (s : Shared) (σ : St) (H : Hp) (x y : V) (v u : Value) (Q : VK), Inv X pins σ H s → RelV x v → RelV y u → r x y H Q →
    subscripted slice false v u = operate [v, u] (getItem v u) → wpAny (model X.prog X.w) X.A (subscriptTail value slice v u) (EP X pins σ Q) X.xe s
/-- a call of a builtin's method by values: the receiver, the arguments -/
def MtR (X : Cx) (id : String) (r : V → List V → Hp → VK → Prop) : Prop :=
  ∀ (pins : List (Addr × Obj)) (s : Shared) (σ : St) (H : Hp) (x : V) (xs : List V) (v : Value) (us : List Value) (Q : VK), Inv X pins σ H s → RelV x v → Vals xs us → r x xs H Q →
    wpAny (model X.prog X.w) X.A (call (.builtin id) (v :: us)) (EP X pins σ Q) X.xe s
section
variable {X : Cx} {a b : Expr} {ta tb : TE} {pos : Pos}
theorem IxR.or {r r' : R2} (h : IxR X r) (h' : IxR X r') : IxR X (fun x y H Q => r x y H Q ∨ r' x y H Q) := by
  intro value slice pins s σ H x y v u Q I rx ry q hs
  rcases q with q | q
  · exact h value slice pins s σ H x y v u Q I rx ry q hs
  · exact h' value slice pins s σ H x y v u Q I rx ry q hs
theorem MtR.or {id : String} {r r' : V → List V → Hp → VK → Prop} (h : MtR X id r) (h' : MtR X id r') : MtR X id (fun x xs H Q => r x xs H Q ∨ r' x xs H Q) := by
  intro pins s σ H x xs v us Q I rx rs q
  rcases q with q | q
  · exact h pins s σ H x xs v us Q I rx rs q
  · exact h' pins s σ H x xs v us Q I rx rs q
/-- a[b] -/
theorem pe_ix {r : R2} (hr : IxR X r) (ha : PE X a ta) (hb : PE X b tb) (hs : PlainIx b) : PE X (.Subscript a b pos) (tOp r ta tb) := by
  intro pins s σ H Q I h
  exact Subscript_ (binT ha hb I h fun v u s2 x y H2 I2 rx ry q => hr a b pins s2 σ H2 x y v u Q I2 rx ry q (hs _ _))

def rIxL (K : PySem.W.Frag) : R2 := fun x y H Q => ∃ p xs i v, x = .ref p ∧ y = .int i ∧ SqL K H p xs ∧ atI xs i = some v ∧ Q v H
def rIxT (K : PySem.W.Frag) : R2 := fun x y H Q => ∃ p xs i v, x = .ref p ∧ y = .int i ∧ SqT K H p xs ∧ atI xs i = some v ∧ Q v H
def rIxS : R2 := fun x y H Q => ∃ z i c, x = .str z ∧ y = .int i ∧ z.length ≤ sizeLine ∧ atI z.cps.toList i = some c ∧ Q (.str ⟨#[c]⟩) H
theorem ix_list : IxR X (rIxL X.K) := by
  intro value slice pins s σ H x y v u Q I rx ry h hs
  obtain ⟨p, xs, i, z, rfl, rfl, hq, he, q⟩ := h
  cases rx
  obtain ⟨t, rfl⟩ := ry
  obtain ⟨its, r, pl, hz⟩ := I.list hq
  obtain ⟨j, h1, h2, h3, h4, h5⟩ := atI_get he
  obtain ⟨w, ew, rw'⟩ := r.get h2
  have hl := r.length
  have hn := line63
  have fin : EP X pins σ Q w s := ⟨z, H, I, rw', q⟩
  by_cases h0 : 0 ≤ i
  · have hj : i.toNat = j := by
      rw [seqIndex_of h0 h5] at h1
      exact Option.some.inj h1
    exact item_listR pl.isList h0 (by omega) (by rw [hj]; simpa using ew) fin hs
  · have hj : (i + (its.toArray.size : Int)).toNat = j := by
      rw [seqIndex_neg (by omega) h4] at h1
      rw [List.size_toArray, ← hl]
      exact Option.some.inj h1
    exact subscriptTail_builtinR (x := w) pl.isList.typeIs slot_list_getitem.lookup
      (wpAny_getItem_list_neg (Q := fun r s' => r = w ∧ EP X pins σ Q r s') pl.isList (by omega) (by rw [List.size_toArray] <;> omega) (by omega) (by rw [hj]; simpa using ew) ⟨rfl, fin⟩) hs
theorem ix_tup : IxR X (rIxT X.K) := by
  intro value slice pins s σ H x y v u Q I rx ry h hs
  obtain ⟨p, xs, i, z, rfl, rfl, hq, he, q⟩ := h
  cases rx
  obtain ⟨t, rfl⟩ := ry
  obtain ⟨its, r, pl, hz⟩ := I.tuple hq
  obtain ⟨j, h1, h2, h3, h4, h5⟩ := atI_get he
  obtain ⟨w, ew, rw'⟩ := r.get h2
  have hl := r.length
  have hn := line63
  have fin : EP X pins σ Q w s := ⟨z, H, I, rw', q⟩
  exact subscriptTail_builtinR (x := w) pl.typeIs slot_tuple_getitem.lookup
    (getItem_tuple (j := j) (Q := fun r s' => r = w ∧ EP X pins σ Q r s') pl (by omega) (by omega) (by rw [List.size_toArray, ← hl]; exact h1) (by simpa using ew) ⟨rfl, fin⟩) hs
theorem ix_str : IxR X rIxS := by
  intro value slice pins s σ H x y v u Q I rx ry h hs
  obtain ⟨z, i, c, rfl, rfl, hz, he, q⟩ := h
  obtain ⟨t, rfl⟩ := rx
  obtain ⟨t', rfl⟩ := ry
  obtain ⟨j, h1, h2, h3, h4, h5⟩ := atI_get he
  have hl : z.cps.toList.length = z.length := by simp [Str.length]
  rw [hl] at h1 h4 h5
  have hn := line63
  exact tail_any (typeIs_str s z t) slot_str_getitem.lookup (getItem_str (c := c) (by
    have e1 : decide (i < -(2 ^ 63 : Int)) = false := decide_eq_false (by omega)
    have e2 : decide (i ≥ 2 ^ 63) = false := decide_eq_false (by omega)
    rw [e1, e2, Bool.or_false]) (by rw [h1]; simpa using h2) ⟨.str ⟨#[c]⟩, H, I.tok _, ⟨_, rfl⟩, q⟩) hs
/-- list, tuple or str -/
def rIx (K : PySem.W.Frag) : R2 := fun x y H Q => rIxL K x y H Q ∨ rIxT K x y H Q ∨ rIxS x y H Q
theorem ix_seq : IxR X (rIx X.K) := ix_list.or (ix_tup.or ix_str)

/-! ### xs[i] = v, any sign -/
/-- the list's object behind a store -/
theorem mapSeq_set (its : List Value) (n j : Nat) (u : Value) : Obj.mapSeq (·.setIfInBounds j u) { cls := .type "list", data := .seq its.toArray n } = { cls := .type "list", data := .seq (its.set j u).toArray n } := by
  simp [Obj.mapSeq]
theorem Inv.lst {pins : List (Addr × Obj)} {σ : St} {H : Hp} {s : Shared} {p : Addr} {xs : List V} (I : Inv X pins σ H s) (h : H p = some (.lst xs)) :
    ∃ (its : List Value) (n : Nat), Vals xs its ∧ s.heap.get? p = some { cls := .type "list", data := .seq its.toArray n } ∧ xs.length ≤ sizeLine := by
  obtain ⟨z, its, n, r, e⟩ := I.hok p _ h
  exact ⟨its, n, r, e, z⟩
/-- the list at p is written by an update of its object -/
theorem Inv.lstUpd {pins : List (Addr × Obj)} {σ : St} {H : Hp} {s : Shared} {p : Addr} {xs ys : List V} {its its' : List Value} {n n' : Nat} {f : Obj → Obj} (I : Inv X pins σ H s) (h : H p = some (.lst xs))
    (ho : s.heap.get? p = some { cls := .type "list", data := .seq its.toArray n }) (hf : f { cls := .type "list", data := .seq its.toArray n } = { cls := .type "list", data := .seq its'.toArray n' }) (r : Vals ys its') (hz : ys.length ≤ sizeLine) (t : Nat) :
    Inv X pins σ (upd H p (.lst ys)) { s with heap := s.heap.update p f, toks := t } := by
  have e : (s.heap.update p f).get? p = some { cls := .type "list", data := .seq its'.toArray n' } := by
    rw [Heap.get?_update_self f ho (by rw [hf] <;> rfl), hf]
  refine I.write (x := p) (e := p) (by rw [h]; trivial) (.inl rfl) (fun b u hb q => (Heap.get?_update_other _ _ (Ne.symm hb)).trans q) ⟨_, e⟩ ?_
  exact ⟨hz, its', n', r, e⟩
def rSetL : V → V → V → Hp → (Hp → Prop) → Prop := fun o i v H Q => ∃ p xs k j, o = .ref p ∧ i = .int k ∧ H p = some (.lst xs) ∧ ixN xs.length k = some j ∧ Q (upd H p (.lst (xs.set j v)))
theorem set_list : PSet X rSetL := by
  intro pins s σ H o i v ov iv u Q I ro ri rv h
  obtain ⟨p, xs, k, j, rfl, rfl, hp, hj, q⟩ := h
  cases ro
  obtain ⟨t, rfl⟩ := ri
  obtain ⟨its, n, r, ho, hz⟩ := I.lst hp
  obtain ⟨h1, h2, h3, h4⟩ := ixN_seq hj
  have hl := r.length
  have hn := line63
  have I' : Inv X pins σ (upd H p (.lst (xs.set j v))) { s with heap := s.heap.update p (Obj.mapSeq (·.setIfInBounds j u)) } :=
    I.lstUpd hp ho (mapSeq_set its n j u) (r.set rv j) (by rw [List.length_set]; exact hz) s.toks
  by_cases h0 : 0 ≤ k
  · have hk : k.toNat = j := by
      rw [seqIndex_of h0 h4] at h1
      exact Option.some.inj h1
    exact PySem.W.ki_setAt ho h0 (by omega) (by rw [List.size_toArray, ← hl]; exact h4) (by rw [hk]; exact ⟨_, I', q⟩)
  · have hk : (k + (its.toArray.size : Int)).toNat = j := by
      rw [seqIndex_neg (by omega) h3] at h1
      rw [List.size_toArray, ← hl]
      exact Option.some.inj h1
    exact PySem.W.ki_setBack ho (by omega) (by rw [List.size_toArray, ← hl]; exact h3) (by omega) (by rw [hk]; exact ⟨_, I', q⟩)

/-! ### slices -/
theorem slice_bounds (lo hi : Option Int) (n : Nat) : (sliceBounds lo hi none n).1 = ((HT.sIx n 0 lo : Nat) : Int) ∧ (sliceBounds lo hi none n).2.1 = ((HT.sIx n n hi : Nat) : Int) ∧ (sliceBounds lo hi none n).2.2 = 1 := by
  refine ⟨?_, ?_, rfl⟩
  · cases lo with
    | none => simp [sliceBounds, HT.sIx]
    | some i =>
      simp only [sliceBounds, HT.sIx, Option.getD_none, show (1 : Int) > 0 by decide, if_true]
      by_cases h : i < 0
      · simp only [h, if_true] <;> omega
      · simp only [h, if_false] <;> omega
  · cases hi with
    | none => simp [sliceBounds, HT.sIx]
    | some i =>
      simp only [sliceBounds, HT.sIx, Option.getD_none, show (1 : Int) > 0 by decide, if_true]
      by_cases h : i < 0
      · simp only [h, if_true] <;> omega
      · simp only [h, if_false] <;> omega
theorem slicePick_cut (its : List Value) (lo hi : Option Int) : slicePick its.toArray lo hi none = ((its.drop (HT.sIx its.length 0 lo)).take (HT.sIx its.length its.length hi - HT.sIx its.length 0 lo)).toArray := by
  obtain ⟨h1, h2, h3⟩ := slice_bounds lo hi its.toArray.size
  unfold slicePick
  rw [h1, h2, h3]
  simp only [sliceRange_one, pick_run, List.size_toArray] <;> rfl
/-- xs[lo:hi] of a list: a new list -/
def rSlL (K : PySem.W.Frag) : V → Option Int → Option Int → Hp → VK → Prop := fun x lo hi H Q => ∃ a xs, x = .ref a ∧ SqL K H a xs ∧ ∀ p, H p = none → Q (.ref p) (upd H p (.lst (cutV xs lo hi)))
theorem sl_list : SlR X (rSlL X.K) := by
  intro pins s σ H x v vl vu lo hi sl Q I rx hs pl pu h
  obtain ⟨a, xs, rfl, hx, q⟩ := h
  cases rx
  obtain ⟨its, r, ht, hz⟩ := I.list hx
  have hlen := r.length
  refine ⟨"list", _, slot_list_getitem.lookup, ht.isList.typeIs, ?_⟩
  refine wpAny_getItem_list_slice ht.isList hs pl pu .none (by simp) ?_ (by rw [List.size_toArray] <;> omega)
  rw [slicePick_cut, ← hlen]
  refine ⟨.ref s.heap.objs.size, _, I.laid (t' := s.toks) (o := .lst (cutV xs lo hi)) (fun b ob q => Heap.get?_push_of_some _ q) (Nat.le_refl _) ?_, rfl, q _ (I.hok.fresh (Nat.le_refl _))⟩
  exact ⟨Nat.le_trans (cutV_length xs lo hi) hz, _, 0, (r.drop (HT.sIx xs.length 0 lo)).take (HT.sIx xs.length xs.length hi - HT.sIx xs.length 0 lo), Heap.get?_push_size _ rfl⟩

/-! ### in, not in: flat items -/
def flatV : V → Bool
  | .non => true
  | .bl _ => true
  | .int _ => true
  | .str _ => true
  | _ => false
/-- == of flat values -/
def eqV : V → V → Bool
  | .non, .non => true
  | .bl a, .bl b => a == b
  | .bl a, .int b => (if a then 1 else 0) == b
  | .int a, .bl b => a == (if b then 1 else 0)
  | .int a, .int b => a == b
  | .str a, .str b => a == b
  | _, _ => false
theorem eqAt_V {A : Around} {s : Shared} {y x : V} {u v : Value} (ry : RelV y u) (rx : RelV x v) (fy : flatV y = true) (fx : flatV x = true) : SeqAt.EqAt A s u v (eqV y x) := by
  cases y with
  | non =>
    cases ry
    cases x with
    | non => cases rx; exact SeqAt.EqAt.same _
    | bl b => cases rx; exact SeqAt.EqAt.none_bool b
    | int b => obtain ⟨t, rfl⟩ := rx; exact SeqAt.EqAt.none_int b t
    | str b => obtain ⟨t, rfl⟩ := rx; exact SeqAt.EqAt.none_str b t
    | _ => exact absurd (show false = true from fx) Bool.false_ne_true
  | bl a =>
    cases ry
    cases x with
    | non => cases rx; exact SeqAt.EqAt.bool_none a
    | bl b => cases rx; exact SeqAt.EqAt.bool_bool a b
    | int b => obtain ⟨t, rfl⟩ := rx; exact SeqAt.EqAt.bool_int a b t
    | str b => obtain ⟨t, rfl⟩ := rx; exact SeqAt.EqAt.bool_str a b t
    | _ => exact absurd (show false = true from fx) Bool.false_ne_true
  | int a =>
    obtain ⟨t', rfl⟩ := ry
    cases x with
    | non => cases rx; exact SeqAt.EqAt.int_none a t'
    | bl b => cases rx; exact SeqAt.EqAt.int_bool a t' b
    | int b => obtain ⟨t, rfl⟩ := rx; exact SeqAt.EqAt.int_int a t' b t
    | str b => obtain ⟨t, rfl⟩ := rx; exact SeqAt.EqAt.int_str a t' b t
    | _ => exact absurd (show false = true from fx) Bool.false_ne_true
  | str a =>
    obtain ⟨t', rfl⟩ := ry
    cases x with
    | non => cases rx; exact SeqAt.EqAt.str_none a t'
    | bl b => cases rx; exact SeqAt.EqAt.str_bool a t' b
    | int b => obtain ⟨t, rfl⟩ := rx; exact SeqAt.EqAt.str_int a t' b t
    | str b => obtain ⟨t, rfl⟩ := rx; exact SeqAt.EqAt.str_str a t' b t
    | _ => exact absurd (show false = true from fx) Bool.false_ne_true
  | _ => exact absurd (show false = true from fy) Bool.false_ne_true
/-- the items' answers, read off the values (a value's own answer does not lean on its token) -/
def eqU (x : V) (u : Value) : Bool := match u with
  | .none => eqV .non x
  | .bool b => eqV (.bl b) x
  | .int i _ => eqV (.int i) x
  | .str z _ => eqV (.str z) x
  | _ => false
theorem eqU_of {x y : V} {u : Value} (r : RelV y u) (f : flatV y = true) : eqU x u = eqV y x := by
  cases y with
  | non => cases r; rfl
  | bl b => cases r; rfl
  | int i => obtain ⟨t, rfl⟩ := r; rfl
  | str z => obtain ⟨t, rfl⟩ := r; rfl
  | _ => exact absurd (show false = true from f) Bool.false_ne_true
theorem any_eqU {x : V} : ∀ {xs : List V} {us : List Value}, Vals xs us → xs.all flatV = true → us.any (eqU x) = xs.any fun y => eqV y x
  | _, _, .nil, _ => rfl
  | y :: xs, u :: us, .cons r t, f => by
    rw [List.all_cons, Bool.and_eq_true] at f
    rw [List.any_cons, List.any_cons, eqU_of r f.1, any_eqU t f.2]
theorem mem_eqAt {A : Around} {s : Shared} {x : V} {v : Value} (rx : RelV x v) (fx : flatV x = true) : ∀ {xs : List V} {us : List Value}, Vals xs us → xs.all flatV = true → ∀ u ∈ us, SeqAt.EqAt A s u v (eqU x u)
  | _, _, .nil, _ => fun u hu => by cases hu
  | y :: xs, u :: us, .cons r t, f => fun u' hu => by
    rw [List.all_cons, Bool.and_eq_true] at f
    rcases List.mem_cons.mp hu with rfl | hu
    · rw [eqU_of r f.1]; exact eqAt_V r rx f.1 fx
    · exact mem_eqAt rx fx t f.2 u' hu
def inV (x : V) (xs : List V) : Bool := xs.any fun y => eqV y x
/-- x in a list or tuple of flat items -/
def rIn (K : PySem.W.Frag) (neg : Bool) : R2 := fun x y H Q => ∃ p xs, y = .ref p ∧ (SqL K H p xs ∨ SqT K H p xs) ∧ flatV x = true ∧ xs.all flatV = true ∧ Q (.bl (if neg then !inV x xs else inV x xs)) H
theorem op_in_seq : OpR X (compareOp .In) (rIn X.K false) := by
  intro pins s σ H x y v u Q I rx ry h
  obtain ⟨p, xs, rfl, hq, fx, fs, q⟩ := h
  cases ry
  rcases hq with hq | hq
  · obtain ⟨its, r, pl, hz⟩ := I.list hq
    refine SeqAt.in_listAt (eqU x) pl.isList (fun w hw => mem_eqAt rx fx r fs w (by simpa using hw)) ⟨.bl _, H, I, rfl, ?_⟩
    rw [show its.toArray.any (eqU x) = its.any (eqU x) by simp, any_eqU r fs]
    exact q
  · obtain ⟨its, r, pl, hz⟩ := I.tuple hq
    refine SeqAt.in_tupleAt (eqU x) pl (fun w hw => mem_eqAt rx fx r fs w (by simpa using hw)) ⟨.bl _, H, I, rfl, ?_⟩
    rw [show its.toArray.any (eqU x) = its.any (eqU x) by simp, any_eqU r fs]
    exact q
theorem op_notIn_seq : OpR X (compareOp .NotIn) (rIn X.K true) := by
  intro pins s σ H x y v u Q I rx ry h
  obtain ⟨p, xs, rfl, hq, fx, fs, q⟩ := h
  cases ry
  rcases hq with hq | hq
  · obtain ⟨its, r, pl, hz⟩ := I.list hq
    refine SeqAt.notIn_listAt (eqU x) pl.isList (fun w hw => mem_eqAt rx fx r fs w (by simpa using hw)) ⟨.bl _, H, I, rfl, ?_⟩
    rw [show its.toArray.any (eqU x) = its.any (eqU x) by simp, any_eqU r fs]
    exact q
  · obtain ⟨its, r, pl, hz⟩ := I.tuple hq
    refine SeqAt.notIn_tupleAt (eqU x) pl (fun w hw => mem_eqAt rx fx r fs w (by simpa using hw)) ⟨.bl _, H, I, rfl, ?_⟩
    rw [show its.toArray.any (eqU x) = its.any (eqU x) by simp, any_eqU r fs]
    exact q
theorem op_notIn_str : OpR X (compareOp .NotIn) (fun x y H Q => ∃ i j, x = .str i ∧ y = .str j ∧ Q (.bl (!(!(Builtin.Str.occurrences j i 0 j.length 1).isEmpty))) H) := by
  intro pins s σ H x y v u Q I rx ry h
  obtain ⟨i, j, rfl, rfl, q⟩ := h
  obtain ⟨t, rfl⟩ := rx
  obtain ⟨t', rfl⟩ := ry
  exact notIn_str ⟨.bl _, H, I, rfl, q⟩

/-! ### len, list(x), tuple(x) of any list or tuple that is read -/
theorem call_len_seq : CallR X (.builtin "len") (fun xs H Q => ∃ p ys, xs = [.ref p] ∧ (SqL X.K H p ys ∨ SqT X.K H p ys) ∧ Q (.int ys.length) H) := by
  intro pins s σ H xs us Q I r h
  obtain ⟨p, ys, rfl, hq, q⟩ := h
  obtain ⟨u, rfl, rx⟩ := vals1 r
  cases rx
  have hn := line63
  rcases hq with hq | hq
  · obtain ⟨its, r', pl, hz⟩ := I.list hq
    have hlen := r'.length
    exact Calls.call_len_list pl.isList (by simp only [List.size_toArray] <;> omega) ⟨.int ys.length, H, I.tok _, ⟨s.toks + 1, by rw [List.size_toArray, hlen]⟩, q⟩
  · obtain ⟨its, r', pl, hz⟩ := I.tuple hq
    have hlen := r'.length
    exact len_tuple pl (by simp only [List.size_toArray] <;> omega) ⟨.int ys.length, H, I.tok _, ⟨s.toks + 1, by rw [List.size_toArray, hlen]⟩, q⟩
theorem call_len_str : CallR X (.builtin "len") (fun xs H Q => ∃ z, xs = [.str z] ∧ z.length ≤ sizeLine ∧ Q (.int z.length) H) := by
  intro pins s σ H xs us Q I r h
  obtain ⟨z, rfl, hz, q⟩ := h
  obtain ⟨u, rfl, t, rfl⟩ := vals1 r
  have hn := line63
  exact len_str (by omega) ⟨.int z.length, H, I.tok _, ⟨_, rfl⟩, q⟩
theorem CallR.or {f : Value} {r r' : List V → Hp → VK → Prop} (h : CallR X f r) (h' : CallR X f r') : CallR X f (fun xs H Q => r xs H Q ∨ r' xs H Q) := by
  intro pins s σ H xs us Q I rs q
  rcases q with q | q
  · exact h pins s σ H xs us Q I rs q
  · exact h' pins s σ H xs us Q I rs q
theorem call_list_of : CallR X (.type "list") (fun xs H Q => ∃ p ys, xs = [.ref p] ∧ (SqL X.K H p ys ∨ SqT X.K H p ys) ∧ ∀ l, H l = none → Q (.ref l) (upd H l (.lst ys))) := by
  intro pins s σ H xs us Q I r h
  obtain ⟨p, ys, rfl, hq, q⟩ := h
  obtain ⟨u, rfl, rx⟩ := vals1 r
  cases rx
  have fin : ∀ (its : List Value), Vals ys its → ys.length ≤ sizeLine → ∀ (h' : Heap) (c' : Nat), (∀ b o', s.heap.get? b = some o' → h'.get? b = some o') →
      h'.get? s.heap.objs.size = some { cls := .type "list", dict := none, data := .seq its.toArray c', slots := #[] } → EP X pins σ Q (.ref s.heap.objs.size) { s with heap := h' } := fun its r' hz h' c' kp e =>
    ⟨.ref s.heap.objs.size, _, I.laid (t' := s.toks) kp (Nat.le_refl _) (show ObjOk X.prog X.w _ h' _ (.lst ys) from ⟨hz, its, c', r', e⟩), rfl, q _ (I.hok.fresh (Nat.le_refl _))⟩
  rcases hq with hq | hq
  · obtain ⟨its, r', pl, hz⟩ := I.list hq
    have hlen := r'.length
    obtain ⟨o, ho, hc, n, hd⟩ := pl.isList
    exact call_list_seq p (.inl rfl) ho hc hd (fun h' c' kp e => fin its r' hz h' c' kp e) (by simp only [List.size_toArray] <;> omega)
  · obtain ⟨its, r', pl, hz⟩ := I.tuple hq
    have hlen := r'.length
    obtain ⟨o, ho, hc, n, hd⟩ := pl
    exact call_list_seq p (.inr rfl) ho hc hd (fun h' c' kp e => fin its r' hz h' c' kp e) (by simp only [List.size_toArray] <;> omega)
theorem call_tuple_of : CallR X (.type "tuple") (fun xs H Q => ∃ p ys, xs = [.ref p] ∧ ((SqL X.K H p ys ∧ ∀ l, H l = none → Q (.ref l) (upd H l (.tup ys))) ∨ (SqT X.K H p ys ∧ Q (.ref p) H))) := by
  intro pins s σ H xs us Q I r h
  obtain ⟨p, ys, rfl, h⟩ := h
  obtain ⟨u, rfl, rx⟩ := vals1 r
  cases rx
  rcases h with ⟨hq, q⟩ | ⟨hq, q⟩
  · obtain ⟨its, r', pl, hz⟩ := I.list hq
    have hlen := r'.length
    refine call_tuple_list pl.isList (fun h' kp => ?_) (by simp only [List.size_toArray] <;> omega)
    have I1 : Inv X pins σ H { s with heap := h' } := I.kept (t' := s.toks) kp
    have I2 : Inv X pins σ (upd H h'.objs.size (.tup ys)) { s with heap := h'.push { cls := .type "tuple", data := .seq its.toArray } } :=
      I1.laid (t' := s.toks) (fun b o e => Heap.get?_push_of_some _ e) (Nat.le_refl _) (show ObjOk X.prog X.w _ _ _ (.tup ys) from ⟨hz, its, r', IsTup.new _ _⟩)
    exact ⟨.ref h'.objs.size, _, I2, rfl, q _ (I1.hok.fresh (Nat.le_refl _))⟩
  · obtain ⟨its, r', pl, hz⟩ := I.tuple hq
    exact call_tuple_same pl ⟨.ref p, H, I, rfl, q⟩

/-! ### the call of a builtin's method: o.m(..) -/
/-- the value is of that builtin type -/
def tyV (K : PySem.W.Frag) (T : String) (x : V) (H : Hp) : Prop := match x with
  | .str _ => T = "str"
  | .int _ => T = "int"
  | .ref p => (T = "list" ∧ ∃ xs, SqL K H p xs) ∨ (T = "tuple" ∧ ∃ o, K.lookup p = some o ∧ o.cls = .type "tuple" ∧ o.dict = none) ∨
      (T = "dict" ∧ ((∃ kvs, H p = some (.dK kvs)) ∨ ∃ kvs, H p = some (.dT kvs))) ∨ (T = "set" ∧ ∃ S n, H p = some (.set S n))
  | _ => False
theorem tyV_is {pins : List (Addr × Obj)} {σ : St} {H : Hp} {s : Shared} {T : String} {x : V} {v : Value} (I : Inv X pins σ H s) (r : RelV x v) (ty : tyV X.K T x H) :
    s.TypeIs v T ∧ ∀ a, v = .ref a → ∃ ob, s.heap.get? a = some ob ∧ ob.dict = none := by
  cases x with
  | str z =>
    obtain ⟨t, rfl⟩ := r
    cases (show T = "str" from ty)
    exact ⟨typeIs_str s z t, fun _ e => nomatch e⟩
  | int i =>
    obtain ⟨t, rfl⟩ := r
    cases (show T = "int" from ty)
    exact ⟨typeIs_int s i t, fun _ e => nomatch e⟩
  | ref p =>
    cases r
    rcases ty with ⟨rfl, xs, hq⟩ | ⟨rfl, o, hk, hc, hd⟩ | ⟨rfl, hk⟩ | ⟨rfl, S, n, hk⟩
    · obtain ⟨its, _, pl, _⟩ := I.list hq
      refine ⟨pl.isList.typeIs, fun a e => ?_⟩
      cases e
      obtain ⟨o, n, e, c, hd, _⟩ := pl
      exact ⟨o, e, hd⟩
    · refine ⟨⟨o, I.kIn p o hk, hc⟩, fun a e => ?_⟩
      cases e
      exact ⟨o, I.kIn _ o hk, hd⟩
    · have z : ∃ o, s.heap.get? p = some o ∧ o.ExactDict := by
        rcases hk with ⟨kvs, hk⟩ | ⟨kvs, hk⟩
        · obtain ⟨_, _, _, _, o, _, _, e, ex, _⟩ := I.hok p _ hk
          exact ⟨o, e, ex⟩
        · obtain ⟨_, _, _, _, o, _, _, e, ex, _⟩ := I.hok p _ hk
          exact ⟨o, e, ex⟩
      obtain ⟨o, e, ex⟩ := z
      refine ⟨⟨o, e, ex.1⟩, fun a e2 => ?_⟩
      cases e2
      exact ⟨o, e, ex.2.1⟩
    · obtain ⟨o, _, _, _, e, ex, _⟩ := I.hok p _ hk
      refine ⟨⟨o, e, ex.1⟩, fun a e2 => ?_⟩
      cases e2
      exact ⟨o, e, ex.2.1⟩
  | _ => exact False.elim ty
def tBM0 (K : PySem.W.Frag) (T : String) (r : V → List V → Hp → VK → Prop) (to : TE) : TE := fun σ H Q => to σ H fun x H1 => tyV K T x H1 ∧ r x [] H1 Q
def tBM (K : PySem.W.Frag) (T : String) (r : V → List V → Hp → VK → Prop) (to : TE) (t : TA) : TE := fun σ H Q => to σ H fun x H1 => tyV K T x H1 ∧ t σ H1 fun xs H2 => r x xs H2 Q
variable {o e : Expr} {es : List Expr} {to : TE} {t : TA} {name : Str} {apos cpos : Pos} {T id : String} {r : V → List V → Hp → VK → Prop}
theorem pe_bm0 (pa : PlainAttrs T) (slot : Slot T name id) (hty : typeOf (.builtin id) = pure (.type "method_descriptor")) (hm : MtR X id r) (ho : PE X o to)
    (hbase : attributeBase o name X.env (eval o X.env) = eval o X.env := by rfl) (hline : (apos.endLine == cpos.line) = true := by rfl) : PE X (.Call (.Attribute o name apos) [] [] cpos) (tBM0 X.K T r to) := by
  intro pins s σ H Q I h
  refine wpAny_Call_method0_late hbase hline (thn (ho pins s σ H _ I h) fun v s1 ⟨x, H1, I1, r1, ty, q1⟩ => ?_)
  obtain ⟨h1, h2⟩ := tyV_is I1 r1 ty
  exact ⟨T, id, pa, slot, hty, h1, h2, Calls.callWith_builtin rfl (PySem.evalArgs_none (hm pins s1 σ H1 x [] v [] Q I1 r1 .nil q1))⟩
theorem pe_bm (pa : PlainAttrs T) (slot : Slot T name id) (hty : typeOf (.builtin id) = pure (.type "method_descriptor")) (hm : MtR X id r) (ho : PE X o to) (ha : PA X (e :: es) t)
    (hbase : attributeBase o name X.env (eval o X.env) = eval o X.env := by rfl)
    (hfew : ((backTo cpos (starEach (e :: es) X.env)).all (fun x => !x.1) && (backToKw cpos (keywordEach [] X.env)).all (fun x => x.1.isSome)
      && decide ((e :: es).length + ([] : List Keyword).length + (if ([] : List Keyword).isEmpty then 0 else 1) < 30)) = true := by rfl)
    (hline : (apos.endLine == cpos.line) = true := by rfl) (hs : starEach (e :: es) X.env = (false, eval e X.env) :: starEach es X.env := by rfl) (hplain : (backTo cpos (starEach es X.env)).any (·.1) = false := by rfl) :
    PE X (.Call (.Attribute o name apos) (e :: es) [] cpos) (tBM X.K T r to t) := by
  intro pins s σ H Q I h
  refine wpAny_Call_method_late hbase hfew hline rfl (thn (ho pins s σ H _ I h) fun v s1 ⟨x, H1, I1, r1, ty, q1⟩ => ?_)
  obtain ⟨h1, h2⟩ := tyV_is I1 r1 ty
  refine ⟨T, id, pa, slot, hty, h1, h2, ?_⟩
  have hA := ha cpos pins s1 σ H1 _ I1 q1
  rw [hs] at hA ⊢
  refine Calls.callWith_builtin (by show (false || (backTo cpos (starEach es X.env)).any (·.1)) = false; rw [hplain] <;> rfl) (Calls.evalArgs_plain ?_)
  exact thn hA fun us s2 ⟨vs, H2, I2, r2, q2⟩ => hm pins s2 σ H2 x vs v us Q I2 r1 r2 q2
/- xs.append(e), list.index on a module's tuple .. are MtR facts of 06m -/
end
end L2

namespace L2
open PySem PySem.Spec PyProof.Rows

def MtM (X : Cx) (id : String) (r : V → List V → Hp → VK → Prop) : Prop :=
  ∀ (pins : List (Addr × Obj)) (s : Shared) (σ : St) (H : Hp) (x : V) (xs : List V) (v : Value) (us : List Value) (Q : VK), Inv X pins σ H s → RelV x v → Vals xs us → r x xs H Q →
    wpAny (model X.prog X.w) X.A (call (.builtin id) (v :: us)) (EP X pins σ Q) X.xe s

/-! ### lists of values -/
theorem Vals.one : ∀ {x : V} {us : List Value}, Vals [x] us → ∃ u, us = [u] ∧ RelV x u
  | _, _, .cons r .nil => ⟨_, rfl, r⟩
theorem Vals.two : ∀ {x y : V} {us : List Value}, Vals [x, y] us → ∃ u v, us = [u, v] ∧ RelV x u ∧ RelV y v
  | _, _, _, .cons r (.cons q .nil) => ⟨_, _, rfl, r, q⟩
theorem Vals.zero : ∀ {us : List Value}, Vals [] us → us = []
  | _, .nil => rfl
theorem Vals.dropLast {xs : List V} {us : List Value} (h : Vals xs us) : Vals xs.dropLast us.dropLast := by
  induction h with
  | nil => exact .nil
  | cons r t ih =>
    cases t with
    | nil => exact .nil
    | cons q t' => exact .cons r ih
theorem Vals.eraseIdx : ∀ {xs : List V} {us : List Value} (i : Nat), Vals xs us → Vals (xs.eraseIdx i) (us.eraseIdx i)
  | _, _, _, .nil => .nil
  | _, _, 0, .cons _ t => t
  | _, _, i + 1, .cons r t => .cons r (Vals.eraseIdx i t)
theorem Vals.reverse {xs : List V} {us : List Value} (h : Vals xs us) : Vals xs.reverse us.reverse := by
  induction h with
  | nil => exact .nil
  | cons r t ih => rw [List.reverse_cons, List.reverse_cons]; exact Vals.append ih (.cons r .nil)
theorem Vals.rep {xs : List V} {us : List Value} (h : Vals xs us) : ∀ k : Nat, Vals (List.replicate k xs).flatten (List.replicate k us).flatten
  | 0 => .nil
  | k + 1 => by
    rw [List.replicate_succ, List.replicate_succ, List.flatten_cons, List.flatten_cons]
    exact Vals.append h (Vals.rep h k)
theorem erase_last {α : Type} (l : List α) : l.eraseIdx (l.length - 1) = l.dropLast := by
  induction l with
  | nil => rfl
  | cons a r ih =>
    cases r with
    | nil => rfl
    | cons b r =>
      have e : (a :: b :: r).length - 1 = ((b :: r).length - 1) + 1 := by
        have h1 : (a :: b :: r).length = r.length + 2 := rfl
        have h2 : (b :: r).length = r.length + 1 := rfl
        omega
      rw [e, List.eraseIdx_cons_succ, ih]
      all_goals rfl
theorem len_erase {α : Type} : ∀ (l : List α) (i : Nat), (l.eraseIdx i).length ≤ l.length
  | [], _ => Nat.le_refl _
  | _ :: _, 0 => Nat.le_succ _
  | _ :: r, i + 1 => Nat.succ_le_succ (len_erase r i)
theorem foldl_rep (its : List Value) : ∀ (k : Nat) (acc : List Value),
    List.foldl (fun x1 x2 => x1 ++ x2) acc.toArray (List.replicate k its.toArray) = (acc ++ (List.replicate k its).flatten).toArray
  | 0, acc => by simp
  | k + 1, acc => by
    have e : acc.toArray ++ its.toArray = (acc ++ its).toArray := by simp
    have e2 : (acc ++ its) ++ (List.replicate k its).flatten = acc ++ (List.replicate (k + 1) its).flatten := by
      rw [List.replicate_succ, List.flatten_cons, List.append_assoc]
    rw [← e2, ← foldl_rep its k (acc ++ its), ← e, List.replicate_succ, List.foldl_cons]

section
variable {X : Cx} {pins : List (Addr × Obj)} {σ : St} {H : Hp} {s : Shared} {l b : Addr} {xs ys zs : List V}

/-! ### the two steps: a tracked list is rewritten, a new list is laid -/
theorem Inv.lset {its its' : List Value} {n : Nat} {f : Array Value → Array Value} {t' : Nat} (I : Inv X pins σ H s) (hH : H l = some (.lst xs))
    (e : s.heap.get? l = some { cls := .type "list", data := .seq its.toArray n }) (hf : f its.toArray = its'.toArray) (hv : Vals ys its') (hz : ys.length ≤ sizeLine) :
    Inv X pins σ (upd H l (.lst ys)) { s with heap := s.heap.update l (Obj.mapSeq f), toks := t' } := by
  have q := PySem.IsL.update e f
  rw [hf] at q
  refine I.write (x := l) (e := l) (by rw [hH]; exact trivial) (.inl rfl) (fun b' u hb hu => (Heap.get?_update_other s.heap (Obj.mapSeq f) (Ne.symm hb)).trans hu) ⟨_, q⟩ ?_
  exact ⟨hz, its', _, hv, q⟩
theorem Inv.lnew {its : List Value} {t' : Nat} (I : Inv X pins σ H s) (hv : Vals ys its) (hz : ys.length ≤ sizeLine) :
    Inv X pins σ (upd H s.heap.objs.size (.lst ys)) { s with heap := s.heap.push { cls := .type "list", data := .seq its.toArray }, toks := t' } :=
  I.laid (fun _ _ q => Heap.get?_push_of_some _ q) (Nat.le_refl _) ⟨hz, its, 0, hv, Heap.get?_push_size _ rfl⟩
theorem Inv.fresh (I : Inv X pins σ H s) : H s.heap.objs.size = none := I.hok.fresh (Nat.le_refl _)
theorem Inv.lstM (I : Inv X pins σ H s) (hH : H l = some (.lst xs)) : xs.length ≤ sizeLine ∧ ∃ (its : List Value) (n : Nat), Vals xs its ∧ xs.length = its.length ∧ s.heap.get? l = some { cls := .type "list", data := .seq its.toArray n } := by
  obtain ⟨z, its, n, r, e⟩ := I.hok l _ hH
  exact ⟨z, its, n, r, r.length, e⟩

theorem notLongL {n : Nat} (h : n ≤ sizeLine) : Builtin.List.listTooLong n = false := by
  unfold Builtin.List.listTooLong
  exact decide_eq_false (by omega)
end

section
variable {X : Cx}

/-! ### methods -/
def rAppend : V → List V → Hp → VK → Prop := fun x vs H Q => ∃ l xs y, x = .ref l ∧ vs = [y] ∧ H l = some (.lst xs) ∧ xs.length < sizeLine ∧ Q .non (upd H l (.lst (xs ++ [y])))
theorem mt_append : MtM X "list.append" rAppend := by
  intro pins s σ H x vs v us Q I rx rv h
  obtain ⟨l, xs, y, rfl, rfl, hH, hz, q⟩ := h
  cases rx
  obtain ⟨u, rfl, ru⟩ := rv.one
  obtain ⟨z, its, n, r, hl, e⟩ := I.lstM hH
  refine call_meets F.slot_list_append ⟨_, e, rfl⟩ F.entry_list_append (F.args_list_append_2 _ _) (PySem.list_append l its.toArray n u (by rw [List.size_toArray]; omega)) ⟨e, ?_⟩
  refine ⟨.non, _, I.lset (its' := its ++ [u]) hH e (by simp) (r.append (.cons ru .nil)) ?_, rfl, q⟩
  rw [List.length_append, List.length_singleton]
  omega

def rExtend : V → List V → Hp → VK → Prop := fun x vs H Q => ∃ l b xs zs, x = .ref l ∧ vs = [.ref b] ∧ H l = some (.lst xs) ∧ H b = some (.lst zs) ∧ xs.length + zs.length ≤ sizeLine ∧ Q .non (upd H l (.lst (xs ++ zs)))
theorem mt_extend : MtM X "list.extend" rExtend := by
  intro pins s σ H x vs v us Q I rx rv h
  obtain ⟨l, b, xs, zs, rfl, rfl, hH, hB, hz, q⟩ := h
  cases rx
  obtain ⟨u, rfl, ru⟩ := rv.one
  cases ru
  obtain ⟨z, its, n, r, hl, e⟩ := I.lstM hH
  obtain ⟨z2, its2, n2, r2, hl2, e2⟩ := I.lstM hB
  have hsz : its.toArray.size + its2.toArray.size ≤ sizeLine := by rw [List.size_toArray, List.size_toArray]; omega
  have hlong : ¬ (!its.toArray.isEmpty && Builtin.List.listTooLong (its.toArray.size + its2.toArray.size)) = true := by
    rw [notLongL hsz, Bool.and_false]
    exact Bool.false_ne_true
  refine call_meets F.slot_list_extend ⟨_, e, rfl⟩ F.entry_list_extend (F.args_list_extend_2 _ _)
    (AutoSeq1.list_extend_list_list_0 l its.toArray n b its2.toArray n2 hlong (by rw [List.size_toArray]; omega) (by omega)) ⟨e, e2, ?_⟩
  refine ⟨.non, _, I.lset (its' := its ++ its2) hH e (by simp) (r.append r2) ?_, rfl, q⟩
  rw [List.length_append]
  omega

def rPop : V → List V → Hp → VK → Prop := fun x vs H Q => ∃ l xs y, x = .ref l ∧ vs = [] ∧ H l = some (.lst xs) ∧ xs[xs.length - 1]? = some y ∧ Q y (upd H l (.lst xs.dropLast))
theorem mt_pop : MtM X "list.pop" rPop := by
  intro pins s σ H x vs v us Q I rx rv h
  obtain ⟨l, xs, y, rfl, rfl, hH, hy, q⟩ := h
  cases rx
  have hus := rv.zero
  subst hus
  obtain ⟨z, its, n, r, hl, e⟩ := I.lstM hH
  obtain ⟨u, hu, ru⟩ := r.get hy
  have hy' : its.toArray[its.toArray.size - 1]? = some u := by
    show its.toArray[its.length - 1]? = some u
    rw [← Array.getElem?_toList, ← hl]
    exact hu
  refine call_meets F.slot_list_pop ⟨_, e, rfl⟩ F.entry_list_pop (F.args_list_pop_1 _) (MeetsSeq.list_pop_last l its.toArray n u hy' (by rw [List.size_toArray]; omega)) ⟨e, ?_⟩
  refine ⟨y, _, I.lset (its' := its.dropLast) hH e ?_ r.dropLast ?_, ru, q⟩
  · show its.toArray.eraseIdxIfInBounds (its.toArray.size - 1) = its.dropLast.toArray
    rw [List.size_toArray, List.eraseIdxIfInBounds_toArray, erase_last]
  · rw [List.length_dropLast]
    omega

def rPopAt : V → List V → Hp → VK → Prop := fun x vs H Q => ∃ l xs i k y, x = .ref l ∧ vs = [.int i] ∧ H l = some (.lst xs) ∧ -(2 ^ 63) ≤ i ∧ i < 2 ^ 63 ∧ seqIndex? i xs.length = some k ∧ xs[k]? = some y ∧ Q y (upd H l (.lst (xs.eraseIdx k)))
theorem mt_popAt : MtM X "list.pop" rPopAt := by
  intro pins s σ H x vs v us Q I rx rv h
  obtain ⟨l, xs, i, k, y, rfl, rfl, hH, h1, h2, hk, hy, q⟩ := h
  cases rx
  obtain ⟨u, rfl, ru⟩ := rv.one
  obtain ⟨t, rfl⟩ := ru
  obtain ⟨z, its, n, r, hl, e⟩ := I.lstM hH
  obtain ⟨w, hw, rw'⟩ := r.get hy
  refine call_meets F.slot_list_pop ⟨_, e, rfl⟩ F.entry_list_pop (F.args_list_pop_2 _ _)
    (MeetsSeq.list_pop_at l its.toArray n i t k w (fitsIndex_both h1 h2) (by rw [List.size_toArray, ← hl]; exact hk) (by rw [← Array.getElem?_toList]; exact hw) (by rw [List.size_toArray]; omega)) ⟨e, ?_⟩
  refine ⟨y, _, I.lset (its' := its.eraseIdx k) hH e ?_ (r.eraseIdx k) ?_, rw', q⟩
  · show its.toArray.eraseIdxIfInBounds k = (its.eraseIdx k).toArray
    rw [List.eraseIdxIfInBounds_toArray]
  · have := len_erase xs k
    omega

def rReverse : V → List V → Hp → VK → Prop := fun x vs H Q => ∃ l xs, x = .ref l ∧ vs = [] ∧ H l = some (.lst xs) ∧ Q .non (upd H l (.lst xs.reverse))
theorem mt_reverse : MtM X "list.reverse" rReverse := by
  intro pins s σ H x vs v us Q I rx rv h
  obtain ⟨l, xs, rfl, rfl, hH, q⟩ := h
  cases rx
  have hus := rv.zero
  subst hus
  obtain ⟨z, its, n, r, hl, e⟩ := I.lstM hH
  refine call_meets F.slot_list_reverse ⟨_, e, rfl⟩ F.entry_list_reverse (F.args_list_reverse_1 _) (AutoSeq1.list_reverse_list_0 l its.toArray n (by rw [List.size_toArray]; omega)) ⟨e, ?_⟩
  refine ⟨.non, _, I.lset (its' := its.reverse) hH e (by simp) r.reverse ?_, rfl, q⟩
  rw [List.length_reverse]
  omega

def rClear : V → List V → Hp → VK → Prop := fun x vs H Q => ∃ l xs, x = .ref l ∧ vs = [] ∧ H l = some (.lst xs) ∧ Q .non (upd H l (.lst []))
theorem mt_clear : MtM X "list.clear" rClear := by
  intro pins s σ H x vs v us Q I rx rv h
  obtain ⟨l, xs, rfl, rfl, hH, q⟩ := h
  cases rx
  have hus := rv.zero
  subst hus
  obtain ⟨z, its, n, r, hl, e⟩ := I.lstM hH
  refine call_meets F.slot_list_clear ⟨_, e, rfl⟩ F.entry_list_clear (F.args_list_clear_1 _) (AutoSeq1.list_clear_list_0 l its.toArray n (by rw [List.size_toArray]; omega)) ⟨e, ?_⟩
  exact ⟨.non, _, I.lset (its' := []) (ys := []) hH e rfl .nil (Nat.zero_le _), rfl, q⟩

/-! ### list + list, list += list, list * int -/
def rCat : R2 := fun x y H Q => ∃ l b xs zs, x = .ref l ∧ y = .ref b ∧ H l = some (.lst xs) ∧ H b = some (.lst zs) ∧ xs.length + zs.length ≤ sizeLine ∧ ∀ p, H p = none → Q (.ref p) (upd H p (.lst (xs ++ zs)))
theorem op_cat : OpR X (binaryOp .Add) rCat := by
  intro pins s σ H x y v u Q I rx ry h
  obtain ⟨l, b, xs, zs, rfl, rfl, hH, hB, hz, q⟩ := h
  cases rx
  cases ry
  obtain ⟨z, its, n, r, hl, e⟩ := I.lstM hH
  obtain ⟨z2, its2, n2, r2, hl2, e2⟩ := I.lstM hB
  refine PySem.P.add_list e e2 ?_ (by rw [List.size_toArray, List.size_toArray]; omega)
  have ea : its.toArray ++ its2.toArray = (its ++ its2).toArray := by simp
  rw [ea]
  exact ⟨.ref _, _, I.lnew (t' := s.toks) (r.append r2) (by rw [List.length_append]; omega), rfl, q _ I.fresh⟩
/-- a list times an int (a negative one is nothing) -/
def rRep : R2 := fun x y H Q => ∃ l k xs, x = .ref l ∧ y = .int k ∧ H l = some (.lst xs) ∧ -(2 ^ 63) ≤ k ∧ k < 2 ^ 63 ∧ xs.length * k.toNat ≤ sizeLine ∧
  ∀ p, H p = none → Q (.ref p) (upd H p (.lst (List.replicate k.toNat xs).flatten))
theorem len_rep {α : Type} (xs : List α) (k : Nat) : (List.replicate k xs).flatten.length = k * xs.length := by
  induction k with
  | zero => simp
  | succ k ih => rw [List.replicate_succ, List.flatten_cons, List.length_append, ih, Nat.succ_mul, Nat.add_comm]
theorem op_rep : OpR X (binaryOp .Mult) rRep := by
  intro pins s σ H x y v u Q I rx ry h
  obtain ⟨l, k, xs, rfl, rfl, hH, h1, h2, hz, q⟩ := h
  cases rx
  obtain ⟨t, rfl⟩ := ry
  obtain ⟨z, its, n, r, hl, e⟩ := I.lstM hH
  have hlen : its.toArray.size * k.toNat ≤ sizeLine := by rw [List.size_toArray, ← hl]; exact hz
  have hcap : ¬ its.toArray.size * k.toNat > (2 ^ 63 - 1) / 8 := by
    have : (sizeLine : Nat) ≤ (2 ^ 63 - 1) / 8 := by decide
    omega
  have hfit : ¬ (!Builtin.List.listFitsIndex k) = true := by
    rw [fitsIndex_both h1 h2]
    exact Bool.false_ne_true
  have hlong : ¬ Builtin.List.listTooLong (its.toArray.size * k.toNat) = true := by
    rw [notLongL hlen]
    exact Bool.false_ne_true
  have hnew : List.foldl (fun x1 x2 => x1 ++ x2) #[] (List.replicate (if its.toArray.isEmpty = true then 0 else k.toNat) its.toArray) = (List.replicate k.toNat its).flatten.toArray := by
    have f0 : ∀ m : Nat, List.foldl (fun x1 x2 => x1 ++ x2) #[] (List.replicate m its.toArray) = (List.replicate m its).flatten.toArray := fun m => by
      have := foldl_rep its m []
      rw [List.nil_append] at this
      exact this
    rw [f0]
    cases its with
    | nil => simp
    | cons a r' => rw [if_neg (by simp)]
  refine wpAny_binaryOp_repeat_ref (T := "list") (U := "int") (by decide) ⟨_, e, rfl⟩ (fun s' => typeIs_int s' k t) noFill_list_mul F.fills_int_mul F.slot_int_rmul repeat_list F.slot_int_index.lookup
    (call_meets F.slot_int_rmul (typeIs_int s k t) F.entry_int_rmul (F.args_int_rmul_2 _ _) (int___rmul___int_list k t l its.toArray n)
      ⟨e, rfl, ⟨_, e, rfl⟩, call_meets F.slot_list_mul ⟨_, e, rfl⟩ F.entry_list_mul (F.args_list_mul_2 _ _) (AutoListH.list___mul___list_int_3 l its.toArray n k t hfit hcap hlong) ⟨e, ?_⟩⟩)
  rw [hnew]
  exact ⟨.ref _, _, I.lnew (t' := s.toks) (r.rep k.toNat) (by rw [len_rep, Nat.mul_comm]; exact hz), rfl, q _ I.fresh⟩

/-! ### del xs[i] -/
theorem del_list {pins : List (Addr × Obj)} {s : Shared} {σ : St} {H : Hp} {l : Addr} {xs : List V} {i : Int} {t : Tok} {k : Nat} {Q : Unit → Shared → Prop} (I : Inv X pins σ H s) (hH : H l = some (.lst xs))
    (h1 : -(2 ^ 63) ≤ i) (h2 : i < 2 ^ 63) (hk : seqIndex? i xs.length = some k) (h : ∀ s', Inv X pins σ (upd H l (.lst (xs.eraseIdx k))) s' → Q () s') :
    wpAny (model X.prog X.w) X.A (delItem (.ref l) (.int i t)) Q X.xe s := by
  obtain ⟨z, its, n, r, hl, e⟩ := I.lstM hH
  refine PySem.P.delItem_list (k := k) e (fitsIndex_both h1 h2) (by rw [List.size_toArray, ← hl]; exact hk) (h _ ?_) (by rw [List.size_toArray]; omega)
  refine I.lset (its' := its.eraseIdx k) (t' := s.toks) hH e ?_ (r.eraseIdx k) ?_
  · show its.toArray.eraseIdxIfInBounds k = (its.eraseIdx k).toArray
    rw [List.eraseIdxIfInBounds_toArray]
  · have := len_erase xs k
    omega
end

/-! ### xs[a:b] = ys -/
section
variable {prog : Program} {w : World} {A : Around} {E : Value → Shared → Prop} {s : Shared}
theorem splice_eq (its its2 : List Value) (a c : Nat) : its.toArray.extract 0 a ++ its2.toArray ++ its.toArray.extract c its.toArray.size = (its.take a ++ its2 ++ its.drop c).toArray := by
  apply Array.toList_inj.mp
  first
    | (simp
       exact List.take_of_length_le (by simp))
    | simp [List.take_of_length_le]
    | simp
theorem bounds_run {a c n : Nat} (hac : a ≤ c) (hc : c ≤ n) : sliceBounds (some (a : Int)) (some (c : Int)) none n = ((a : Int), (c : Int), 1) := by
  simp only [sliceBounds, Option.getD_none]
  have h1 : ¬ ((a : Int) < 0) := by omega
  have h2 : ¬ ((c : Int) < 0) := by omega
  simp only [h1, h2, if_false, show (1 : Int) > 0 by decide, if_true]
  congr 1
  · omega
  · congr 1; omega
set_option maxRecDepth 100000 in
/-- list.__setitem__ with a slice of step one and another list -/
theorem setItem_slice {l b sl : Addr} {items new : Array Value} {n n2 : Nat} {vl vu : Value} {a c : Nat} {Q : Unit → Shared → Prop}
    (e : s.heap.get? l = some { cls := .type "list", data := .seq items n }) (e2 : s.heap.get? b = some { cls := .type "list", data := .seq new n2 }) (hne : l ≠ b)
    (hs : s.heap.IsSliceOf sl vl vu .none) (pl : IsPart vl (some (a : Int))) (pu : IsPart vu (some (c : Int))) (hac : a ≤ c) (hc : c ≤ items.size)
    (hsz : items.size + new.size ≤ sizeLine) (h : Q () { s with heap := s.heap.update l (Obj.mapSeq fun xs => xs.extract 0 a ++ new ++ xs.extract c xs.size) }) :
    wpAny (model prog w) A (setItem (.ref l) (.ref sl) (.ref b)) Q E s := by
  have hl : s.heap.IsList l items := PySem.IsL.isList e
  have hb : s.heap.IsList b new := PySem.IsL.isList e2
  obtain ⟨os, hos, hcs, hds⟩ := id hs
  have hTs : s.TypeIs (.ref sl) "slice" := ⟨os, hos, hcs⟩
  have hstep : ¬ ((rawPart none == rawInt 0) = true) := Bool.false_ne_true
  have hsame : Builtin.List.listSameRef (.ref l) (.ref b) = false := by
    unfold Builtin.List.listSameRef
    exact beq_eq_false_iff_ne.mpr hne
  have hmax : (max (a : Int) (c : Int)).toNat = c := by omega
  have hz' : ((fun xs : Array Value => xs.extract 0 a ++ new ++ xs.extract c xs.size) items).size ≤ sizeLine + 1 := by
    simp only [Array.size_append, Array.size_extract]
    omega
  unfold setItem
  try with_reducible refine wpAny_holding ?_
  first | refine wpAny_bind (wpAny_pure ?_) | skip
  refine wpAny_bind (wpAny_sequenceKey hl.typeIs (by decide) ?_)
  refine wpAny_bind (wpAny_callSpecial?_slot (name := Str.ofString "__setitem__") hl.typeIs slot_list_setitem
    (wpAny_call_entry slot_list_setitem hl.typeIs entry_list_setitem ?_ (args_list_setitem _ _ _)))
  show wpAny _ _ (Builtin.List.listSubscript? (.ref sl) >>= _) _ _ s
  refine wpAny_bind ?_
  unfold Builtin.List.listSubscript?
  refine wpAny_bind (wpAny_specialOf hTs slice_no_index ?_)
  simp only [Option.isNone_none, if_true]
  refine wpAny_pure ?_
  show wpAny _ _ (typeOf (.ref sl) >>= _) _ _ s
  refine wpAny_bind (wpAny_typeOf hTs ?_)
  first
    | rw [if_neg (by decide)]
    | refine PySem.W.KFB.if_not (by decide) ?_
  rw [listSliceParts_eq]
  refine wpAny_bind (wpAny_bind (wpAny_field hos hds (x := .none) rfl (wpAny_bind (wpAny_listPart .none ?_))))
  rw [if_neg hstep]
  refine wpAny_bind (wpAny_field hos hds (x := vl) rfl (wpAny_bind (wpAny_listPart pl ?_)))
  refine wpAny_bind (wpAny_field hos hds (x := vu) rfl (wpAny_bind (wpAny_listPart pu (wpAny_pure ?_))))
  first
    | simp only [hsame, Bool.false_eq_true, if_false]
    | refine PySem.W.KFB.if_not hsame ?_
    | (dsimp only
       rw [if_neg (by rw [hsame]; exact Bool.false_ne_true)])
  refine wpAny_bind (m := Builtin.List.listAllItems (.ref b) "must assign iterable to extended slice") ?_
  unfold Builtin.List.listAllItems
  refine wpAny_bind (wpAny_typeOf hb.typeIs ?_)
  first
    | refine PySem.W.KFB.if_so (by decide) ?_
    | rw [if_pos (by decide)]
    | simp only [beq_self_eq_true, Bool.true_or, if_true]
  unfold Builtin.List.listItems
  refine wpAny_bind (wpAny_seqItems e2 rfl (wpAny_pure ?_))
  refine wpAny_bind (wpAny_bind (wpAny_seqItems e rfl (wpAny_pure ?_)))
  refine wpAny_bind (wpAny_of_eq ((sliceIndices_raw (some (a : Int)) (some (c : Int)) none items.size (by simp)).trans (congrArg (pure : Int × Int × Int → Sem (Int × Int × Int)) (bounds_run hac hc))) ?_)
  show wpAny _ _ (if ((1 : Int) == 1) = true then _ else _) _ _ s
  rw [if_pos (by decide)]
  refine wpAny_bind (wpAny_rule ?_)
  first
    | simp only [notLongL hsz, Bool.false_eq_true, if_false]
    | refine PySem.W.KFB.if_not (notLongL hsz) ?_
  first | refine wpAny_bind (wpAny_pure ?_) | skip
  show wpAny _ _ (updateSeq l (fun xs => xs.extract 0 ((a : Int)).toNat ++ new ++ xs.extract (max (a : Int) (c : Int)).toNat xs.size) >>= _) _ _ s
  rw [hmax, Int.toNat_natCast]
  refine wpAny_bind (wpAny_updateSeq (hz := Nat.le_trans (Nat.le_add_right _ _) hsz) (_hz' := hz') e rfl ?_)
  refine wpAny_bind (wpAny_letGo ?_)
  first
    | exact wpAny_bind (wpAny_pure (wpAny_pure ⟨.none, rfl, wpAny_pure h⟩))
    | exact wpAny_pure ⟨.none, rfl, wpAny_pure h⟩
end

section
variable {X : Cx}
/-- xs[a:c] = ys of another list, at the value level: sl is the slice object that was just made -/
theorem set_slice {pins : List (Addr × Obj)} {s : Shared} {σ : St} {H : Hp} {l b sl : Addr} {xs ys : List V} {a c : Int} {vl vu : Value} {Q : Unit → Shared → Prop} (I : Inv X pins σ H s)
    (hH : H l = some (.lst xs)) (hB : H b = some (.lst ys)) (hne : l ≠ b) (hs : s.heap.IsSliceOf sl vl vu .none) (ra : RelV (.int a) vl) (rc : RelV (.int c) vu) (h0 : 0 ≤ a) (hac : a ≤ c) (hc : c ≤ xs.length)
    (hz : xs.length + ys.length ≤ sizeLine) (h : ∀ s', Inv X pins σ (upd H l (.lst (xs.take a.toNat ++ ys ++ xs.drop c.toNat))) s' → Q () s') :
    wpAny (model X.prog X.w) X.A (setItem (.ref l) (.ref sl) (.ref b)) Q X.xe s := by
  obtain ⟨ta, rfl⟩ := ra
  obtain ⟨tc, rfl⟩ := rc
  obtain ⟨z, its, n, r, hl, e⟩ := I.lstM hH
  obtain ⟨z2, its2, n2, r2, hl2, e2⟩ := I.lstM hB
  obtain ⟨a', rfl⟩ := Int.eq_ofNat_of_zero_le h0
  obtain ⟨c', rfl⟩ := Int.eq_ofNat_of_zero_le (Int.le_trans h0 hac)
  simp only [Int.toNat_natCast] at h
  refine setItem_slice (a := a') (c := c') e e2 hne hs (.int _ _) (.int _ _) (by omega) (by rw [List.size_toArray]; omega) (by rw [List.size_toArray, List.size_toArray]; omega) (h _ ?_)
  refine I.lset (its' := its.take a' ++ its2 ++ its.drop c') (t' := s.toks) hH e ?_ (Vals.append (Vals.append (r.take _) r2) (r.drop _)) ?_
  · exact splice_eq its its2 a' c'
  · rw [List.length_append, List.length_append, List.length_take, List.length_drop]
    omega
end
end L2

namespace Att
open PySem PySem.W PySem.Calls PyProof.Rows

/-! ### the script -/
theorem ints_of_wellAll {P : Params} {h : Heap} : ∀ (ns : List Int) (vs : List Value), WellAll P h vs (ns.map WData.int) → IntsAre vs ns := by
  intro ns
  induction ns with
  | nil =>
    intro vs w
    rw [List.map_nil] at w
    cases w
    exact .nil
  | cons n ns ih =>
    intro vs w
    rw [List.map_cons] at w
    cases w with
    | cons a b =>
      cases a
      exact .cons _ _ (ih _ b)

theorem script_of {l : OpenLaw} {n : Nat} (hn : l.most = some n) {P : Params} {h : Heap} {args : List WData} {vals : List Value}
    (hpre : l.row.toRowW.claim.pre args = true) (hwl : WellAll P h vals args) :
    ∃ a vs ns, vals = [Value.ref a] ∧ args = [WData.list (ns.map WData.int)] ∧ h.get? a = some { cls := .type "list", data := .seq vs.toArray } ∧ IntsAre vs ns ∧ ns.length ≤ n := by
  have hsh : WShape.hasAll [] args [.list .int] = true := (pre_splitW hpre).1
  have hc : l.pre.holds [] { args := args } = true := (pre_splitW hpre).2
  obtain ⟨d, r, rfl, h1, h2⟩ := hasAllW_cons hsh
  obtain rfl := hasAllW_nil h2
  obtain ⟨xs, rfl, h3⟩ := hasW_list h1
  obtain ⟨ns, rfl⟩ := items_int h3
  have hlen : ns.length ≤ n := by
    unfold OpenLaw.pre at hc
    have h4 : (WTm.not (.lt (.lit (.int (n : Int))) (.len (.arg 0)))).holds [] { args := [.list (ns.map .int)] } = true := by
      have h4 := (holds_andW hc).1
      rw [hn] at h4
      exact h4
    have h5 := condW_of h4 (w_not (w_lt w_lit (w_len_list (w_arg rfl))))
    rw [List.length_map] at h5
    refine Nat.le_of_not_lt fun q => ?_
    have q' : (n : Int) < ((ns.length : Nat) : Int) := by omega
    first
      | (rw [decide_eq_true q'] at h5; exact absurd h5 (by decide))
      | (simp at h5; omega)
  cases hwl with
  | cons w1 w2 =>
    cases w2
    cases w1 with
    | list ho hall => exact ⟨_, _, ns, rfl, rfl, ho, ints_of_wellAll ns _ hall, hlen⟩

theorem post_true (l : OpenLaw) (args : List WData) : l.row.toRowW.claim.post args (.bool true) args = true :=
  postW_of (r := l.row.toRowW) (X := (true == true))
    (show WShape.has [] (.bool true) .bool = true by first | rfl | decide | simp [WShape.has, WShape.arms, WShape.armsAll])
    (show (WTm.eq .res (.lit (.bool true))).value [] { args := args, res := some (.bool true), after := args } = some (.bool (true == true)) from w_eq_bool (w_res rfl) w_lit) rfl

/-! ### the attachment: holds_open's last premise (the goal 'hc' behind k_head) from a wpAny of the law's body -/
theorem attach {l : OpenLaw} {n : Nat} {q : Program} {loose : List Str} {XP : (Str → Option Value) → Heap → Prop} {YP : World → Heap → Prop} {d : DefRec} {x : Str}
    (hn : l.most = some n) (hdf : d.params.defaults = [])
    (hbind : ∀ pm cd doc v : Value, bindArgs (docDef d.name d.params d.body d.scope pm cd doc) ⟨[v], []⟩ = pure [(x, v)])
    (hx : d.scope.names.lookup x = some .local ∨ d.scope.names.lookup x = some .cell)
    (hk : d.scope.kind = .function) (hco : d.scope.isCoroutine = false) (hgen : d.scope.isGenerator = false)
    (body : ∀ (w : World) (s₀ s₁ s : Shared) (mg mb : Str → Option Value) (fa : Addr) (o : Obj) (pm cd doc : Value) (a : Addr) (vs : List Value) (ns : List Int),
      Ground q loose [] XP w s₀ mg mb s₁.heap → YP w s₁.heap →
      s₁.heap.get? fa = some o → o.data = .func (docDef d.name d.params d.body d.scope pm cd doc) → s₁.heap.CodeRec cd d.name → mg d.name = some (.ref fa) →
      s₁.heap.get? a = some { cls := .type "list", data := .seq vs.toArray } → IntsAre vs ns → ns.length ≤ n →
      s.gens = #[] → s.os = s₁.os →
      Fr s₁.heap s₁.heap.objs.size s.heap (bindL (envOfC d.name d.scope s₁.heap.objs.size fa cd).kindOf [(x, .ref a)] fun _ => none) →
      Cl s₁.heap.objs.size (cellsFrom (s₁.heap.objs.size + 1) d.scope.names []) s.heap (bindC (envOfC d.name d.scope s₁.heap.objs.size fa cd).kindOf [(x, .ref a)] fun _ => none) →
      wpAny (model l.prog w) (callerA.deeper (envOfC d.name d.scope s₁.heap.objs.size fa cd)) (execs d.body (envOfC d.name d.scope s₁.heap.objs.size fa cd))
        (fun f s' => f = .ret (.bool true) ∧ OldK s₁.heap s'.heap ∧ s'.os = s₁.os ∧ AllBare s'.gens) (fun _ _ => False) s) :
    WalkO q loose XP YP l.row.toRowW d [] (fun f vs => PySem.call f vs) := by
  intro w s₀ s₁ mg mb G Y fa o pm cd doc dV kV ho hd hcd hD hmg hg args vals as hpre hlay hrd hwl hlo
  obtain rfl : dV = .none := Dflts.none hD hdf
  obtain rfl : kV = .none := Dflts.noKw hD
  obtain ⟨a, vs, ns, rfl, rfl, hobj, hints, hlen⟩ := script_of hn hpre hwl
  refine enter_call ?_
  refine call_cells_ret (o := o) (by rw [depth_caller]; decide) ho (fd_plain hd) G.T.nolimit hcd (hbind pm cd doc (.ref a)) (fun y hy => ?_) (fun h₁ tk F X => ?_) hco hgen hk
  · obtain rfl : y = (x, Value.ref a) := List.mem_singleton.mp hy
    rcases hx with e | e
    · exact .inl e
    · exact .inr ⟨e, cellsFrom_some _ _ _ (.inl e)⟩
  · refine wpAny_mono (body w s₀ s₁ { s₁ with heap := h₁, toks := tk } mg mb fa o pm cd doc a vs ns G Y ho (fd_plain hd) hcd hmg hobj hints hlen hg rfl F X) (fun f s' hq => ?_) (fun _ _ hq => hq)
    obtain ⟨rfl, h2, h3, h4⟩ := hq
    exact ⟨.inl ⟨.bool true, .bool true, [], rfl, fun _ => rfl, .bool true, post_true l _, fun _ => ⟨List.Pairwise.nil, fun _ hm => (nomatch hm)⟩⟩, h2, h3, h4⟩

/-- the same from a codeAny of the CALL (for a layer whose function contracts speak of calls) -/
theorem attach_call {l : OpenLaw} {n : Nat} {q : Program} {loose : List Str} {XP : (Str → Option Value) → Heap → Prop} {YP : World → Heap → Prop} {d : DefRec}
    (hn : l.most = some n) (hdf : d.params.defaults = [])
    (call : ∀ (w : World) (s₀ s₁ : Shared) (mg mb : Str → Option Value) (fa : Addr) (o : Obj) (pm cd doc : Value) (a : Addr) (vs : List Value) (ns : List Int),
      Ground q loose [] XP w s₀ mg mb s₁.heap → YP w s₁.heap →
      s₁.heap.get? fa = some o → o.data = .func (docDef d.name d.params d.body d.scope pm cd doc) → s₁.heap.CodeRec cd d.name → mg d.name = some (.ref fa) →
      s₁.heap.get? a = some { cls := .type "list", data := .seq vs.toArray } → IntsAre vs ns → ns.length ≤ n → s₁.gens = #[] →
      codeAny (model l.prog w) callerA (.call (.ref fa) ⟨[.ref a], []⟩) (fun r s' => r = .ok (.ret (.bool true)) ∧ OldK s₁.heap s'.heap ∧ s'.os = s₁.os ∧ AllBare s'.gens) s₁) :
    WalkO q loose XP YP l.row.toRowW d [] (fun f vs => PySem.call f vs) := by
  intro w s₀ s₁ mg mb G Y fa o pm cd doc dV kV ho hd hcd hD hmg hg args vals as hpre hlay hrd hwl hlo
  obtain rfl : dV = .none := Dflts.none hD hdf
  obtain rfl : kV = .none := Dflts.noKw hD
  obtain ⟨a, vs, ns, rfl, rfl, hobj, hints, hlen⟩ := script_of hn hpre hwl
  refine enter_call (codeAny_mono (call w s₀ s₁ mg mb fa o pm cd doc a vs ns G Y ho (fd_plain hd) hcd hmg hobj hints hlen hg) fun r s' hq => ?_)
  obtain ⟨rfl, h2, h3, h4⟩ := hq
  exact ⟨.inl ⟨.bool true, .bool true, [], rfl, fun _ => rfl, .bool true, post_true l _, fun _ => ⟨List.Pairwise.nil, fun _ hm => (nomatch hm)⟩⟩, h2, h3, h4⟩

/-- the same where the top left finished generators (o_head chose holds_openN): nothing may have changed at all and no generator may be left -/
theorem attachN {l : OpenLaw} {n : Nat} {q : Program} {loose : List Str} {XP : (Str → Option Value) → Heap → Prop} {YP : World → Heap → Prop} {d : DefRec} {x : Str}
    (hn : l.most = some n) (hdf : d.params.defaults = [])
    (hbind : ∀ pm cd doc v : Value, bindArgs (docDef d.name d.params d.body d.scope pm cd doc) ⟨[v], []⟩ = pure [(x, v)])
    (hx : d.scope.names.lookup x = some .local ∨ d.scope.names.lookup x = some .cell)
    (hk : d.scope.kind = .function) (hco : d.scope.isCoroutine = false) (hgen : d.scope.isGenerator = false)
    (body : ∀ (w : World) (s₀ s₁ s : Shared) (mg mb : Str → Option Value) (fa : Addr) (o : Obj) (pm cd doc : Value) (a : Addr) (vs : List Value) (ns : List Int),
      Ground q loose [] XP w s₀ mg mb s₁.heap → YP w s₁.heap →
      s₁.heap.get? fa = some o → o.data = .func (docDef d.name d.params d.body d.scope pm cd doc) → s₁.heap.CodeRec cd d.name → mg d.name = some (.ref fa) →
      s₁.heap.get? a = some { cls := .type "list", data := .seq vs.toArray } → IntsAre vs ns → ns.length ≤ n →
      s.gens = #[] → s.os = s₁.os →
      Fr s₁.heap s₁.heap.objs.size s.heap (bindL (envOfC d.name d.scope s₁.heap.objs.size fa cd).kindOf [(x, .ref a)] fun _ => none) →
      Cl s₁.heap.objs.size (cellsFrom (s₁.heap.objs.size + 1) d.scope.names []) s.heap (bindC (envOfC d.name d.scope s₁.heap.objs.size fa cd).kindOf [(x, .ref a)] fun _ => none) →
      wpAny (model l.prog w) (callerA.deeper (envOfC d.name d.scope s₁.heap.objs.size fa cd)) (execs d.body (envOfC d.name d.scope s₁.heap.objs.size fa cd))
        (fun f s' => f = .ret (.bool true) ∧ (∀ b o, s₁.heap.get? b = some o → s'.heap.get? b = some o) ∧ s'.os = s₁.os ∧ s'.gens = #[]) (fun _ _ => False) s) :
    WalkN q loose XP YP l.row.toRowW d [] (fun f vs => PySem.call f vs) := by
  intro w s₀ s₁ mg mb G Y fa o pm cd doc dV kV ho hd hcd hD hmg hg args vals as hpre hlay hrd hwl hlo
  obtain rfl : dV = .none := Dflts.none hD hdf
  obtain rfl : kV = .none := Dflts.noKw hD
  obtain ⟨a, vs, ns, rfl, rfl, hobj, hints, hlen⟩ := script_of hn hpre hwl
  refine enter_callW ?_
  refine call_cells_ret (o := o) (by rw [depth_caller]; decide) ho (fd_plain hd) G.T.nolimit hcd (hbind pm cd doc (.ref a)) (fun y hy => ?_) (fun h₁ tk F X => ?_) hco hgen hk
  · obtain rfl : y = (x, Value.ref a) := List.mem_singleton.mp hy
    rcases hx with e | e
    · exact .inl e
    · exact .inr ⟨e, cellsFrom_some _ _ _ (.inl e)⟩
  · refine wpAny_mono (body w s₀ s₁ { s₁ with heap := h₁, toks := tk } mg mb fa o pm cd doc a vs ns G Y ho (fd_plain hd) hcd hmg hobj hints hlen hg rfl F X) (fun f s' hq => ?_) (fun _ _ hq => hq)
    obtain ⟨rfl, h2, h3, h4⟩ := hq
    exact ⟨.inl ⟨.bool true, .bool true, [], rfl, fun _ => rfl, .bool true, post_true l _, fun _ => ⟨List.Pairwise.nil, fun _ hm => (nomatch hm)⟩⟩, h2, h3, h4⟩

/-! ### rules over ANY heap (no ledger) from facts about the written part K: the library's own take a ledger (News) for what they write -/
section
variable {prog : Program} {w : World} {A : Around} {E : Value → Shared → Prop} {s : Shared} {K : Frag}

/-- a def of the module, or a method (qual 'C.m'), entered: the frame is the next address; cells behind it -/
theorem call_fn {R : Result → Shared → Prop} {name qual : Str} {params : Arguments} {body : List Stmt} {scope : Scope} {dV kV doc pm cdv ct oc : Value} {an od : Option Addr} {osl : Array (Option Value)} {f : Addr} {args : Args} {binds : List (Str × Value)}
    (X : K.In s.heap) (hlim : s.heap.NoLimit) (ho : K.lookup f = some ⟨oc, od, .func (fnOf name qual params body scope dV kV doc pm an cdv ct), osl⟩) (hcd : codeIn K cdv qual = true) (hroom : A.depth < recursionLimit)
    (hbind : BindsTo s (fnOf name qual params body scope dV kV doc pm an cdv ct) args binds)
    (hkind : (binds.all fun y => scope.names.lookup y.1 == some .local || scope.names.lookup y.1 == some .cell) = true)
    (h : ∀ s₁, InCallC s s.heap.objs.size (bindL (envOfC qual scope s.heap.objs.size f cdv).kindOf binds fun _ => none) (cellsFrom (s.heap.objs.size + 1) scope.names [])
        (bindC (envOfC qual scope s.heap.objs.size f cdv).kindOf binds fun _ => none) s₁ →
      wpAny (model prog w) (A.deeper (envOfC qual scope s.heap.objs.size f cdv)) (execs body (envOfC qual scope s.heap.objs.size f cdv))
        (fun fl s' => R (.ok (.ret (match fl with | .ret v => v | _ => .none))) s')
        (fun e s' => wpAny (model prog w) (A.deeper (envOfC qual scope s.heap.objs.size f cdv)) (leaving (envOfC qual scope s.heap.objs.size f cdv) e) (fun _ s'' => R (.error e) s'') (fun e' s'' => R (.error e') s'') s') s₁)
    (hco : scope.isCoroutine = false) (hgen : scope.isGenerator = false) (hk : scope.kind = .function) : codeAny (model prog w) A (.call (.ref f) args) R s := by
  refine codeAny_call_function hroom (X _ _ ho) rfl hco hgen rfl (codeRec_of X hcd) (hbind _ _ _ _ ?_)
  refine wpAny_newFunctionEnv_cells hk (kindsX hkind _) fun env he s₁ x => ?_
  subst he
  exact ⟨hlim.keeps x.toInCall.keep, codeAny_func (h s₁ x)⟩

/-- C(..): dict at size, instance at size + 1, then __init__ -/
theorem make_obj {R : Result → Shared → Prop} {C fI : Addr} {rest : List Value} {kw : List (Str × Value)}
    (X : K.In s.heap) (hm : makesIn K C = true) (hi : findIn K (.ref C) "__init__" = some (some (.ref fI))) (hf : isFn K (.ref fI) = true)
    (h : codeAny (model prog w) (A.under (.builtin "type.__call__" ⟨.ref C :: rest, kw⟩)) (.call (.ref fI) ⟨.ref (s.heap.objs.size + 1) :: rest, kw⟩) (InitBack (s.heap.objs.size + 1) R)
      { s with heap := (s.heap.push emptyDict).push (instObj C s.heap.objs.size) }) : codeAny (model prog w) A (.call (.ref C) ⟨rest, kw⟩) R s := by
  obtain ⟨hh, g, d, t, os⟩ := s
  exact make_core (makes_of X hm) (looks_findIn X hi) (fun self => bind_fn X self (beq_iff_eq.mp hf)) (.inl rfl) h

/-- x.name where the instance's dict holds the name and the class does not -/
theorem get_field {x C : Addr} {ox : Obj} {es : List DictEntry} {n : Nat} {name : Str} {expr : Bool} {v : Value} {Q : Value → Shared → Prop}
    (X : K.In s.heap) (I : PySem.W.InstAt s.heap x ox C (some (dictOf es n))) (hg : plainGet K C name = true) (hh : hasDictIn K C = true) (ha : findIn K (.ref C) name = some none)
    (hl : getL name es = some (some v)) (hv : handedIn v = true) (h : Q v { s with toks := s.toks + 1 }) : wpAny (model prog w) A (getAttr (.ref x) name expr) Q E s :=
  get_value X I (plainGet_of hg).1 (findObj_own hh ha rfl hl) hv h

/-- x.m(..): the method found in the class -/
theorem get_method {x C f : Addr} {ox : Obj} {es : List DictEntry} {n : Nat} {name : Str} {pl : Sem Bool} {Q : Value × List Value → Shared → Prop}
    (X : K.In s.heap) (I : PySem.W.InstAt s.heap x ox C (some (dictOf es n))) (hg : plainGet K C name = true) (hf : findIn K (.ref C) name = some (some (.ref f))) (ht : isFn K (.ref f) = true)
    (hl : getL name es = some none) (h : Q (.ref f, [.ref x]) s) : wpAny (model prog w) A (getMethod (.ref x) name pl) Q E s :=
  method_fn X I (plainGet_of hg).1 (plainGet_of hg).2 hf (beq_iff_eq.mp ht) (by show (lookIn name (dictOf es n)).map _ = _; rw [lookIn_dict, hl]; rfl) h

/-! the whole heap as the ledger: makes every rule that writes through a ledger a rule over any heap -/
def noObjs (h : Heap) : Heap := { h with objs := #[] }
theorem noObjs_get (h : Heap) (b : Addr) : (noObjs h).get? b = none := by
  cases e : (noObjs h).get? b with
  | none => rfl
  | some o => exact absurd (Heap.lt_size e) (Nat.not_lt_zero _)
def ledger (h : Heap) (L d : Addr) : List (Addr × Obj) := (List.range h.objs.size).filterMap fun a => if a = L ∨ a = d then none else (h.get? a).map fun o => (a, o)
theorem mem_ledger {h : Heap} {L d a : Addr} {o : Obj} : (a, o) ∈ ledger h L d ↔ a ≠ L ∧ a ≠ d ∧ h.get? a = some o := by
  unfold ledger
  rw [List.mem_filterMap]
  constructor
  · rintro ⟨b, _, e⟩
    split at e
    · cases e
    · rename_i hb
      obtain ⟨o', ho, e'⟩ := Option.map_eq_some_iff.mp e
      cases e'
      exact ⟨fun q => hb (.inl q), fun q => hb (.inr q), ho⟩
  · rintro ⟨n1, n2, ho⟩
    refine ⟨a, List.mem_range.mpr (Heap.lt_size ho), ?_⟩
    rw [if_neg (show ¬ (a = L ∨ a = d) from fun q => q.elim n1 n2), ho] <;> rfl
theorem news_ledger {h : Heap} {L d : Addr} {od : Obj} (hne : d ≠ L) (ho : h.get? d = some od) : News (noObjs h) L h ([] ++ (d, od) :: ledger h L d) := by
  rintro ⟨a, o⟩ hp
  rcases List.mem_cons.mp hp with e | hp
  · cases e
    exact ⟨ho, hne, noObjs_get _ _⟩
  · obtain ⟨n1, n2, e⟩ := mem_ledger.mp hp
    exact ⟨e, n1, noObjs_get _ _⟩
theorem fr_all {h : Heap} {L : Addr} {m : Str → Option Value} (n : h.Ns L m) : Fr (noObjs h) L h m :=
  ⟨n, fun b o e => (by rw [noObjs_get] at e; cases e), Nat.zero_le _⟩
/-- Upd of the head entry (for append_K, setItem_K ..) -/
theorem upd_ledger {h : Heap} {L d : Addr} {o o' : Obj} : Upd d o o' ((d, o) :: ledger h L d) ((d, o') :: ledger h L d) :=
  .head fun ⟨_, _⟩ hp => (mem_ledger.mp hp).2.1

/-- x.name = v over any heap: L is any namespace of the heap (the frame's, say): its map stays, its object is not told; all else but the dict stays -/
theorem set_field {x C dx L : Addr} {ox : Obj} {m : Str → Option Value} {es es' : List DictEntry} {n n' : Nat} {name : Str} {v : Value} {Q : Unit → Shared → Prop}
    (X : K.In s.heap) (I : PySem.W.InstAt s.heap x ox C (some (dictOf es n))) (hd : ox.dict = some dx) (hL : s.heap.Ns L m) (hne : dx ≠ L)
    (hs : findIn K (.ref C) "__setattr__" = some (some (.builtin "object.__setattr__"))) (hp : plainOver K C = true) (ht : takerIn K C name = some none) (hh : hasDictIn K C = true) (hl : (getL name es).isSome = true)
    (e : (putL name (PyData.keyHash w.params name) (.str name (s.toks + 1)) v es, putN name es n) = (es', n')) (hz : es'.length ≤ 1000)
    (h : ∀ h' : Heap, h'.Ns L m → h'.get? dx = some (dictOf es' n') → (∀ b o, b ≠ dx → b ≠ L → s.heap.get? b = some o → h'.get? b = some o) → Q () { s with heap := h', toks := s.toks + 2 }) :
    wpAny (model prog w) A (setAttr (.ref x) name v) Q E s := by
  obtain ⟨e1, e2⟩ := Prod.mk.inj e
  have hdx : s.heap.get? dx = some (dictOf es n) := by
    have := I.dict
    rw [hd] at this
    exact this
  refine set_plain X I hs (osa_dict (s := { s with toks := s.toks + 1 }) (h₀ := noObjs s.heap) (L := L) (m := m) (od := dictOf es n) (od' := dictOf es' n') (es := es') (n := n') (pre := []) (post := ledger s.heap L dx)
    (fr_all hL) (news_ledger hne hdx) X I hd hp ht hh hl (fun _ q => nomatch q) (fun ⟨_, _⟩ q => (mem_ledger.mp q).2.1) (by rw [putName_dict, e1, e2]) rfl hz fun h' F' N' => ?_)
  exact h h' F'.ns (N'.get (List.Mem.head _)) fun b o n1 n2 ho => N'.get (List.Mem.tail _ (mem_ledger.mpr ⟨n2, n1, ho⟩))
end
end Att

namespace L2
open PySem PySem.Spec PyProof.Rows

theorem vals_ints : ∀ {vs : List Value} {ns : List Int}, IntsAre vs ns → Vals (ns.map V.int) vs
  | _, _, .nil => .nil
  | _, _, .cons n t h => .cons ⟨t, rfl⟩ (vals_ints h)

/-- nothing is tracked but the script, known to the object (or it is an object of the module) -/
def Only (H : Hp) : Prop := ∀ b, H b = none ∨ ∃ o xs, H b = some (.frz o (.lst xs))

/-- THE HEAD: the law's promise, at the heap behind the top. F, the promise of the law's def, may use that base is part of the heap (so K.In base, base.Ns mainGlobals mg stand in Mod) -/
theorem law_call {P : Program} {w : World} {K : PySem.W.Frag} {mg mb : Str → Option Value} {CX : CXT} {k : Nat} {fa a : Addr} {fd : FuncData} {x : Str} {sp : Sp} {s₁ : Shared} {vs : List Value} {ns : List Int}
    (KX : K.In s₁.heap) (hns : s₁.heap.Ns mainGlobals mg) (hb : s₁.heap.Ns builtinsNs mb) (hbb : ∀ x : Str, x ≠ "__name__" → mb x = bootBuiltins x) (hlim : s₁.heap.NoLimit) (hg : s₁.gens = #[])
    (ha : s₁.heap.get? a = some { cls := .type "list", data := .seq vs.toArray }) (hi : IntsAre vs ns) (hl : ns.length ≤ sizeLine) (hr : Room k callerA)
    (F : ∀ base : Heap, K.In base → base.Ns mainGlobals mg → FnOk P w K mg base CX k fa fd [x] sp) (hbind : ∀ (s : Shared) (u : Value), BindsTo s fd ⟨[u], []⟩ [(x, u)])
    (hsp : ∀ H : Hp, Only H → SqL K H a (ns.map V.int) → sp [.ref a] H (fun v _ => v = .bl true) fun _ _ _ => False)
    (hCX : ∀ H e s', CX [] H s₁ (fun _ _ _ => False) e s' → False) :
    codeAny (model P w) callerA (.call (.ref fa) ⟨[.ref a], []⟩) (fun r s' => r = .ok (.ret (.bool true)) ∧ OldK s₁.heap s'.heap ∧ s'.os = s₁.os ∧ AllBare s'.gens) s₁ := by
  have rv := vals_ints hi
  have lenV := hi.length
  -- from an abstract heap in which nothing but the script may be tracked
  have core : ∀ H : Hp, Only H → SqL K H a (ns.map V.int) → HOk P w H s₁.heap → (∀ b, H b ≠ none → b = a) → (H a ≠ none → K.lookup a = none) →
      codeAny (model P w) callerA (.call (.ref fa) ⟨[.ref a], []⟩) (fun r s' => r = .ok (.ret (.bool true)) ∧ OldK s₁.heap s'.heap ∧ s'.os = s₁.os ∧ AllBare s'.gens) s₁ := by
    intro H hO hS hok hA hK
    have base_of : ∀ {b : Addr} {o : Obj}, s₁.heap.get? b = some o → H b = none → (hidT s₁.heap H).get? b = some o := fun e n => hidT_get e n
    have noA : ∀ {b : Addr} {o : Obj} {es : Array DictEntry} {ep : Nat}, s₁.heap.get? b = some o → o.data = .dict es ep → H b = none := fun {b o es ep} e d => by
      cases q : H b with
      | none => rfl
      | some u =>
        have e' : b = a := hA b (by rw [q]; simp)
        subst e'
        rw [ha] at e; cases e
        have d' : Data.seq vs.toArray _ = Data.dict es ep := d
        cases d'
    have nsK : ∀ {b : Addr} {m : Str → Option Value}, s₁.heap.Ns b m → (hidT s₁.heap H).Ns b m := fun {b m} ⟨o, es, ep, e, d, r⟩ => ⟨o, es, ep, base_of e (noA e d), d, r⟩
    have hKb : K.In (hidT s₁.heap H) := fun b o e => base_of (KX b o e) (by
      cases q : H b with
      | none => rfl
      | some u =>
        have e' : b = a := hA b (by rw [q]; simp)
        subst e'
        rw [hK (by rw [q]; simp)] at e; cases e)
    have hM : Mod K mg (hidT s₁.heap H) := ⟨hKb, nsK hns, ⟨mb, nsK hb, hbb⟩, let ⟨mc, h1, h2⟩ := hlim; ⟨mc, nsK h1, h2⟩⟩
    have e0 : Env0 P w K mg (hidT s₁.heap H) callerA [] s₁ H := ⟨rfl, hM, fun b o e => of_hidT e, Nat.le_of_eq (hidT_size _ _), trivial, fun b hb => absurd (show b ∈ ([] : List Addr) from hb) (by simp), hok, .of_eq hg⟩
    refine codeAny_mono ((F _ hKb (nsK hns)).run callerA [] s₁ H ⟨[.ref a], []⟩ [.ref a] [.ref a] _ _ hr e0 (hbind s₁ (.ref a)) (.cons rfl .nil) (hsp H hO hS)) fun r s' h => ?_
    cases r with
    | error e => exact (hCX H e s' h).elim
    | ok fl =>
      cases fl with
      | next => exact False.elim h
      | brk => exact False.elim h
      | cont => exact False.elim h
      | ret u =>
        obtain ⟨v, H', os, bare, un, hok', r', q⟩ := h
        have q' : v = .bl true := q
        subst q'
        obtain rfl : u = Value.bool true := r'
        refine ⟨rfl, OldK.of_keep fun b o e => ?_, os, bare⟩
        cases q : H b with
        | none => exact un.keep b o e q (by intro z; exact absurd (show b ∈ ([] : List Addr) from z) (by simp)) (by simp)
        | some u =>
          rcases hO b with z | ⟨ob, xs, z⟩
          · rw [q] at z; cases z
          · have z2 := un.frzs b ob _ z
            obtain ⟨e1, _⟩ := hok b _ z
            obtain ⟨e2, _⟩ := hok' b _ z2
            rw [e] at e1; cases e1
            exact e2
  cases hk : K.lookup a with
  | some o =>
    -- the script is one of the module's own objects
    have e := KX a o hk
    rw [ha] at e
    cases e
    refine core (fun _ => none) (fun _ => .inl rfl) (.inr ⟨_, vs.toArray, _, hk, rfl, rfl, rfl, by rw [List.size_toArray, lenV]; exact hl, by simpa using rv⟩) (fun b u z => by have z' : (none : Option HO) = some u := z; cases z') (fun b z => absurd rfl z) fun z => absurd rfl z
  | none =>
    refine core (fun b => if b = a then some (.frz { cls := .type "list", data := .seq vs.toArray } (.lst (ns.map V.int))) else none) (fun b => ?_) (.inl (.inr ⟨{ cls := .type "list", data := .seq vs.toArray }, if_pos rfl⟩)) (fun b u z => ?_) (fun b z => ?_) fun _ => hk
    · by_cases hb : b = a
      · exact .inr ⟨_, _, if_pos hb⟩
      · exact .inl (if_neg hb)
    · by_cases hb : b = a
      · have z' := (if_pos hb).symm.trans z
        cases z'
        subst hb
        exact ⟨ha, by rw [List.length_map]; exact hl, vs, _, rv, ha⟩
      · have z' := (if_neg hb).symm.trans z
        cases z'
    · by_cases hb : b = a
      · exact hb
      · exact absurd (if_neg hb) z
end L2

namespace L2
open PySem PySem.Spec PyProof.Rows

abbrev KOf {K : PySem.W.Frag} {h : Heap} (_ : K.In h) : PySem.W.Frag := K

/-- the goal that k_head leaves (case hc), from the law's promise. F gives the function object fd (K's own) once, then the promise over every base -/
theorem walk_of {l : PySem.W.OpenLaw} {n k : Nat} {q : Program} {loose : List Str} {XP : (Str → Option Value) → Heap → Prop} {YP : World → Heap → Prop} {d : DefRec} {K : Params → PySem.W.Frag} {CX : World → CXT} {sp : World → Sp} {x : Str}
    (hn : l.most = some n) (hn2 : n ≤ sizeLine) (hdf : d.params.defaults = []) (hr : Room k callerA)
    (hY : ∀ (w : World) (h : Heap), YP w h → (K w.params).In h)
    (F : ∀ (w : World) (mg : Str → Option Value) (fa : Addr) (h : Heap), (K w.params).In h → h.Ns mainGlobals mg → mg d.name = some (.ref fa) →
      ∃ fd : FuncData, (∀ (s : Shared) (u : Value), BindsTo s fd ⟨[u], []⟩ [(x, u)]) ∧
        ∀ base : Heap, (K w.params).In base → base.Ns mainGlobals mg → FnOk l.prog w (K w.params) mg base (CX w) k fa fd [x] (sp w))
    (hsp : ∀ (w : World) (H : Hp) (a : Addr) (ns : List Int), ns.length ≤ n → Only H → SqL (K w.params) H a (ns.map V.int) → sp w [.ref a] H (fun v _ => v = .bl true) fun _ _ _ => False)
    (hCX : ∀ (w : World) (H : Hp) (s : Shared) (e : Value) (s' : Shared), CX w [] H s (fun _ _ _ => False) e s' → False) :
    PySem.W.WalkO q loose XP YP l.row.toRowW d [] (fun f vs => PySem.call f vs) := by
  refine Att.attach_call hn hdf fun w s₀ s₁ mg mb fa o pm cd doc a vs ns G Y ho hd hcd hmg hobj hints hlen hg => ?_
  have KX := hY w _ Y
  obtain ⟨fd, hb, hF⟩ := F w mg fa _ KX G.T.g hmg
  exact law_call KX G.T.g G.T.b G.T.builtins G.T.nolimit hg hobj hints (Nat.le_trans hlen hn2) hr hF hb (fun H hO hS => hsp w H a ns hlen hO hS) fun H e s' => hCX w H s₁ e s'
/-- the same where the promise hangs on the written part alone: (sp := My.sp_law), no hole under a binder -/
theorem walk_ofK {l : PySem.W.OpenLaw} {n k : Nat} {q : Program} {loose : List Str} {XP : (Str → Option Value) → Heap → Prop} {YP : World → Heap → Prop} {d : DefRec} {K : Params → PySem.W.Frag} {CX : CXT} {sp : PySem.W.Frag → Sp} {x : Str}
    (hn : l.most = some n) (hn2 : n ≤ sizeLine) (hdf : d.params.defaults = []) (hr : Room k callerA)
    (hY : ∀ (w : World) (h : Heap), YP w h → (K w.params).In h)
    (F : ∀ (w : World) (mg : Str → Option Value) (fa : Addr) (h : Heap), (K w.params).In h → h.Ns mainGlobals mg → mg d.name = some (.ref fa) →
      ∃ fd : FuncData, (∀ (s : Shared) (u : Value), BindsTo s fd ⟨[u], []⟩ [(x, u)]) ∧
        ∀ base : Heap, (K w.params).In base → base.Ns mainGlobals mg → FnOk l.prog w (K w.params) mg base CX k fa fd [x] (sp (K w.params)))
    (hsp : ∀ (K : PySem.W.Frag) (H : Hp) (a : Addr) (ns : List Int), ns.length ≤ n → Only H → SqL K H a (ns.map V.int) → sp K [.ref a] H (fun v _ => v = .bl true) fun _ _ _ => False)
    (hCX : ∀ (H : Hp) (s : Shared) (e : Value) (s' : Shared), CX [] H s (fun _ _ _ => False) e s' → False) :
    PySem.W.WalkO q loose XP YP l.row.toRowW d [] (fun f vs => PySem.call f vs) :=
  walk_of (K := K) (CX := fun _ => CX) (sp := fun w => sp (K w.params)) hn hn2 hdf hr hY F (fun w H a ns h1 h2 h3 => hsp (K w.params) H a ns h1 h2 h3) fun _ H s e s' => hCX H s e s'
end L2

/- THE LAST THEOREM (shape; LID, My.* are yours):
   My.Adr: a structure of the addresses that your layer names (classes, functions); My.Txt K t: a structure (Prop) of the equations over K;
   My.txt_mk : {K} {implicit addresses ..} (e1 : nsIn K mainGlobals "law" = some (some (.ref f))) (e2 : K.lookup f = some ⟨oc, od, .func (fnOf "law" "law" params body scope dV kV doc pm an cdv ct), sl⟩) (e3 : codeIn K cdv "law" = true) .. : ∃ t, My.Txt K t

set_option maxRecDepth 100000 in
set_option maxHeartbeats 0 in
theorem PySem.Challenge.cw_LID_holds : PySem.Challenge.rw_LID.Holds := by
  w_on; o_law; k_head; (case hw => w_witness2)
  k_fill
  refine L2.walk_of (l := PySem.Challenge.rw_LID) (n := 63) (k := 40) (x := "script") (CX := fun w => ..) (sp := fun _ => My.sp_law) rfl (by decide) rfl ⟨rfl, by decide, by decide⟩ (fun w h Y => PySem.W.kIn_of Y) ?F ?S ?C
  case F =>
    intro w mg fa h KX G hmg
    have T : ∃ t, My.Txt (L2.KOf KX) t := by
      dsimp only [L2.KOf]                          -- K must stand as «<heap const> w.params» for k_is
      refine' My.txt_mk ?e1 ?e2 ?e3 ..
      (case e1 => PySem.W.k_is)                    -- in the order: a name -> its address -> its object -> its parts
      (case e2 => PySem.W.k_is)
      ..
    obtain ⟨t, T⟩ := T
    have e0 := hmg.symm.trans (PySem.W.mg_of KX G T.law)
    cases e0                                       -- fa is the law's own address
    exact ⟨_, fun s u => .of_eq rfl, fun base kb nb => My.law_fn T kb nb⟩     -- if «.of_eq rfl» comes too early: refine' ⟨_, ?b, fun base kb nb => My.law_fn T kb nb⟩; exact fun s u => .of_eq rfl
  case S => exact fun w H a ns hl hO hS => ..
  case C => exact ..
(the tactic k_is has no namespace: write k_is) -/

/-! SHORT WORDS over the layer: a def of the text, its body, what a loop and a test want. -/
namespace L2
open PySem PySem.Spec PyProof.Rows

/-! ### the text by places -/
/-- the j-th statement of a class's body -/
def inClass (s : Stmt) (j : Nat) : Stmt := match s with
  | .ClassDef _ _ _ body _ _ _ _ _ _ _ => body.getD j (.Pass ⟨0, 0, 0, 0⟩)
  | _ => .Pass ⟨0, 0, 0, 0⟩
def defArgs (s : Stmt) : Arguments := match s with
  | .FunctionDef _ a _ _ _ _ _ _ _ _ => a
  | _ => { posonlyargs := [], args := [], vararg := none, kwonlyargs := [], kw_defaults := [], kwarg := none, defaults := [] }
def defBody (s : Stmt) : List Stmt := match s with
  | .FunctionDef _ _ b _ _ _ _ _ _ _ => b
  | _ => []
def defScope (s : Stmt) : Scope := match s with
  | .FunctionDef _ _ _ _ _ _ sc _ _ _ => sc
  | _ => { kind := .function, names := [], isGenerator := false, isCoroutine := false }

/-! ### no exception leaves a def -/
abbrev CX0 : CXT := fun _ _ _ _ _ _ => False
abbrev E0 : XK := fun _ _ _ => False
theorem pass0 {X : Cx} : Passes CX0 X E0 := fun _ _ _ _ _ _ _ h => h.elim

/-! ### a def (or method) of the text as it stands behind the top -/
structure Fun (K : PySem.W.Frag) (x qual : Str) (st : Stmt) (f : Addr) (fd : FuncData) : Prop where
  ex : ∃ (oc : Value) (od : Option Addr) (kV doc pm : Value) (an : Option Addr) (cdv ct : Value) (osl : Array (Option Value)),
    fd = PySem.W.fnOf x qual (defArgs st) (defBody st) (defScope st) .none kV doc pm an cdv ct ∧ K.lookup f = some ⟨oc, od, .func fd, osl⟩ ∧ PySem.W.codeIn K cdv qual = true
  kp : PySem.W.keepIn K (.ref f) = true
section
variable {P : Program} {w : World} {K : PySem.W.Frag} {mg : Str → Option Value} {base : Heap}
/-- THE RULE for a def: its body as a term of rules, and the reading of that term -/
theorem Fun.ok {x qual : Str} {st : Stmt} {f : Addr} {fd : FuncData} {N ps : List Str} {k : Nat} {sp : Sp} (F : Fun K x qual st f fd) (S : FnScope N ps (defScope st)) (len : ∀ vs H Q E, sp vs H Q E → vs.length = ps.length)
    (hbody : ∀ (cdv : Value) (A : Around) (outer : List Env) (s : Shared) (H : Hp) (vs : List V) (Q : VK) (E : XK), Room k (A.deeper (envOfC qual (defScope st) s.heap.objs.size f cdv)) → sp vs H Q E →
      ∃ t, PSs (cxOf CX0 P w K mg base N qual (defScope st) f cdv A outer s H E).nox (defBody st) t ∧ t { nx := fun _ H' => Q .non H', rt := Q } (start N vs) H) : FnOk P w K mg base CX0 (k + 1) f fd ps sp := by
  obtain ⟨oc, od, kV, doc, pm, an, cdv, ct, osl, rfl, lk, hcd⟩ := F.ex
  refine fn_of lk hcd S len fun A outer s H vs Q E hr hsp => ?_
  obtain ⟨t, h, q⟩ := hbody cdv A outer s H vs Q E hr hsp
  exact ⟨t, h.nox, q⟩
/-- how its arguments bind (no defaults): h is «fun _ _ _ _ _ _ us hl => match us, hl with | [_, _], _ => rfl», one _ a parameter -/
theorem Fun.binds {x qual : Str} {st : Stmt} {f : Addr} {fd : FuncData} {ps : List Str} (F : Fun K x qual st f fd)
    (h : ∀ (kV doc pm : Value) (an : Option Addr) (cdv ct : Value) (us : List Value), us.length = ps.length → bindArgs (PySem.W.fnOf x qual (defArgs st) (defBody st) (defScope st) .none kV doc pm an cdv ct) ⟨us, []⟩ = pure (ps.zip us)) : Binds K fd ps [] := by
  obtain ⟨oc, od, kV, doc, pm, an, cdv, ct, osl, rfl, lk, hcd⟩ := F.ex
  exact .all (h kV doc pm an cdv ct)
theorem fun_mk {x qual : Str} {st : Stmt} {f : Addr} {oc : Value} {od an : Option Addr} {osl : Array (Option Value)} {kV doc pm cdv ct : Value} (l : K.lookup f = some ⟨oc, od, .func (PySem.W.fnOf x qual (defArgs st) (defBody st) (defScope st) .none kV doc pm an cdv ct), osl⟩)
    (c : PySem.W.codeIn K cdv qual = true) (k : PySem.W.keepIn K (.ref f) = true) : Fun K x qual st f (PySem.W.fnOf x qual (defArgs st) (defBody st) (defScope st) .none kV doc pm an cdv ct) := ⟨⟨oc, od, kV, doc, pm, an, cdv, ct, osl, rfl, l, c⟩, k⟩
end
theorem hu_of {A : Around} {k : Nat} (hr : Room k A) : A.units + 1 < cLine := Nat.lt_of_le_of_lt (Nat.add_le_add_left (by decide : 1 ≤ 64) _) hr.units
theorem small1000 {n : Nat} (h : n ≤ 1000) : n < sizeLine := Nat.lt_of_le_of_lt h (by decide)

/-! ### expressions in short: the name that stands in the i-th slot -/
section
variable {X : Cx}
theorem pv (i : Nat) {x : Str} {pos : Pos} (hN : X.N[i]? = some x := by rfl) (hv : Vis X.env.scope x := by first | exact Or.inl rfl | exact Or.inr (Or.inl rfl) | exact Or.inr (Or.inr rfl)) (hd : (x == ("__debug__" : Str)) = false := by decide)
    (hcd : (x == ("__classdict__" : Str)) = false := by decide) : PE X (.Name x pos) (tVar i) := pe_var hN hv hd hcd
end

/-! ### tests -/
theorem iteF {A B : Prop} (h : B) : if false = true then A else B := by
  rw [if_neg Bool.false_ne_true]
  exact h
theorem iteT {A B : Prop} (h : A) : if true = true then A else B := by
  rw [if_pos rfl]
  exact h
theorem ite2 {c A B : Prop} [Decidable c] (h1 : c → A) (h2 : ¬ c → B) : if c then A else B := by
  by_cases h : c
  · rw [if_pos h]
    exact h1 h
  · rw [if_neg h]
    exact h2 h
theorem iteNS {c A B : Prop} [Decidable c] (hc : c) (h : B) : if (!decide c) = true then A else B := by
  rw [decide_eq_true hc]
  exact iteF h

/-! ### heaps -/
/-- all that was tracked is as it was -/
def Same (H H' : Hp) : Prop := ∀ b o, H b = some o → H' b = some o
theorem Same.refl (H : Hp) : Same H H := fun _ _ h => h
theorem Same.trans {H H1 H2 : Hp} (a : Same H H1) (b : Same H1 H2) : Same H H2 := fun c o h => b c o (a c o h)
theorem Same.free {H H' : Hp} (e : Same H H') {l : Addr} (h : H' l = Option.none) : H l = Option.none := by
  cases q : H l with
  | none => rfl
  | some o =>
    rw [e l o q] at h
    cases h
theorem Same.seq {K : PySem.W.Frag} {H H' : Hp} {a : Addr} {xs : List V} (e : Same H H') (h : SqL K H a xs) : SqL K H' a xs := by
  rcases h with (h | ⟨o, h⟩) | h
  · exact .inl (.inl (e _ _ h))
  · exact .inl (.inr ⟨o, e _ _ h⟩)
  · exact .inr h

end L2
set_option Elab.async false
set_option linter.all false
set_option maxRecDepth 100000
namespace MP
open PySem

/-! ### plain data, objects that change, outcomes -/
inductive D where
  | non | bl (b : Bool) | int (i : Int) | str (s : List Nat)
  | tup (xs : List D) | lst (xs : List D) | ref (n : Nat) | fn (f : Nat) | exn (c : Nat)
  deriving Inhabited

inductive O where
  | lst (xs : List D)
  | dct (kvs : List (D × D))
  | ins (c : Nat) (fs : List (Nat × D))

abbrev AH := List O
abbrev Ev := List (Option D)

inductive Out where
  | ok (d : D) (h : AH)
  | exc (c : Nat) (h : AH)
  | bad
abbrev Den := List D → AH → Out

/-- the most that a list, a tuple, a text may have -/
abbrev SZ : Nat := 16777216

/-- a list that changes, read -/
def vw (h : AH) : D → D
  | .ref n => match h[n]? with
    | some (.lst xs) => .lst xs
    | _ => .ref n
  | d => d

/-- plain through and through, of few storeys -/
def pureN : Nat → D → Bool
  | _, .non => true
  | _, .bl _ => true
  | _, .int _ => true
  | _, .str s => s.all fun c => decide (c < 1114112)
  | n + 1, .tup xs => xs.all (pureN n)
  | n + 1, .lst xs => xs.all (pureN n)
  | _, _ => false
abbrev pureD (d : D) : Bool := pureN 16 d
abbrev pureDs (ds : List D) : Bool := ds.all (pureN 16)

def b2z (b : Bool) : Int := if b then 1 else 0

mutual
/-- == of plain data -/
def eqD : D → D → Bool
  | .non, .non => true
  | .bl a, .bl b => a == b
  | .bl a, .int b => b2z a == b
  | .int a, .bl b => a == b2z b
  | .int a, .int b => a == b
  | .str a, .str b => a == b
  | .tup a, .tup b => eqDs a b
  | .lst a, .lst b => eqDs a b
  | _, _ => false
def eqDs : List D → List D → Bool
  | [], [] => true
  | a :: as, b :: bs => eqD a b && eqDs as bs
  | _, _ => false
end

def inD (x : D) (ys : List D) : Bool := ys.any fun y => eqD y x

def flatD : D → Bool
  | .non => true | .bl _ => true | .int _ => true | .str _ => true
  | _ => false

/-- truth -/
def tru (h : AH) (d : D) : Option Bool :=
  match vw h d with
  | .non => some false
  | .bl b => some b
  | .int i => some (i != 0)
  | .str s => if s.length ≤ SZ then some (!s.isEmpty) else none
  | .tup xs => some (!xs.isEmpty)
  | .lst xs => some (!xs.isEmpty)
  | _ => none

def mulOk (a b : Int) : Bool := decide (a.natAbs < 2 ^ 64) || decide (b.natAbs < 2 ^ 64) || (decide (a.natAbs < 2 ^ 4096) && decide (b.natAbs < 2 ^ 4096))

def rep {α : Type} (k : Nat) (xs : List α) : List α := (List.replicate k xs).flatten

def binD : Operator → D → D → Option D
  | .Add, .int a, .int b => some (.int (a + b))
  | .Sub, .int a, .int b => some (.int (a - b))
  | .Mult, .int a, .int b => if mulOk a b then some (.int (a * b)) else none
  | .FloorDiv, .int a, .int b => if 0 < b ∧ b < 2 ^ 100 then some (.int (a / b)) else none
  | .Mod, .int a, .int b => if 0 < b then some (.int (a % b)) else none
  | .Pow, .int a, .int b => if 0 ≤ b ∧ b ≤ 1000000 ∧ a.natAbs < 2 ^ 64 then some (.int (a ^ b.toNat)) else none
  | .LShift, .int a, .int b => if 0 ≤ b ∧ b ≤ 1000000 ∧ a.natAbs < 2 ^ 64 then some (.int (a * 2 ^ b.toNat)) else none
  | .Add, .str a, .str b => if a.length + b.length ≤ SZ then some (.str (a ++ b)) else none
  | .Add, .tup a, .tup b => if a.length + b.length ≤ SZ then some (.tup (a ++ b)) else none
  | .Add, .lst a, .lst b => if a.length + b.length ≤ SZ then some (.lst (a ++ b)) else none
  | _, _, _ => none

def isNon : D → Bool
  | .non => true
  | _ => false
def cmpD : CmpOp → D → D → Option Bool
  | .Eq, a, b => if pureD a && pureD b then some (eqD a b) else none
  | .NotEq, a, b => if pureD a && pureD b then some (!eqD a b) else none
  | .Lt, .int a, .int b => some (decide (a < b))
  | .LtE, .int a, .int b => some (decide (a ≤ b))
  | .Gt, .int a, .int b => some (decide (b < a))
  | .GtE, .int a, .int b => some (decide (b ≤ a))
  | .Is, a, .non => some (isNon a)
  | .IsNot, a, .non => some (!isNon a)
  | .In, x, .lst ys => if pureD x && pureDs ys then some (inD x ys) else none
  | .In, x, .tup ys => if pureD x && pureDs ys then some (inD x ys) else none
  | .NotIn, x, .lst ys => if pureD x && pureDs ys then some (!inD x ys) else none
  | .NotIn, x, .tup ys => if pureD x && pureDs ys then some (!inD x ys) else none
  | _, _, _ => none

/-- the place that an index of any sign means -/
def ixN (n : Nat) (i : Int) : Option Nat := if 0 ≤ i then (if i < n then some i.toNat else none) else if -(n : Int) ≤ i then some (i + n).toNat else none
def atI {α : Type} (xs : List α) (i : Int) : Option α := (ixN xs.length i).bind fun j => xs[j]?

def idxD : D → D → Option D
  | .lst xs, .int i => atI xs i
  | .tup xs, .int i => atI xs i
  | .str s, .int i => if s.length ≤ SZ then (atI s i).map fun c => .str [c] else none
  | _, _ => none

def sIx (n d : Nat) : Option Int → Nat
  | none => d
  | some v => if v < 0 then (v + (n : Int)).toNat else min v.toNat n
def cut {α : Type} (xs : List α) (lo hi : Option Int) : List α := (xs.drop (sIx xs.length 0 lo)).take (sIx xs.length xs.length hi - sIx xs.length 0 lo)

def slD : D → Option Int → Option Int → Option D
  | .lst xs, lo, hi => some (.lst (cut xs lo hi))
  | .tup xs, lo, hi => some (.tup (cut xs lo hi))
  | .str s, lo, hi => if s.length ≤ SZ then some (.str (cut s lo hi)) else none
  | _, _, _ => none

/-! ### the short text -/
/-- built-in functions -/
inductive Bl where
  | len | min2 | max2 | minS | maxS | sum | sorted | list | tuple | int | all | sortedSet | range
  deriving DecidableEq
/-- methods of built-in values that change nothing -/
inductive Mt where
  | join | startswith | index
  deriving DecidableEq
/-- what isinstance is asked of -/
inductive Ty where
  | bool | tuple | list | int | str | valueError | own (c : Nat)
  deriving DecidableEq

mutual
inductive PX where
  | var (i : Nat)
  | con (d : D)
  | bin (op : Operator) (a b : PX)
  | neg (a : PX)
  | cmp (op : CmpOp) (a b : PX)
  | cmp2 (op op' : CmpOp) (a b c : PX)
  | and (a b : PX) | or (a b : PX) | not (a : PX)
  | ite (c : PB) (a b : PX)
  | tup (xs : List PX) | lst (xs : List PX) | new (xs : List PX)
  | idx (a b : PX)
  | sl (a : PX) (lo hi : Option PX)
  | call (f : Nat) (xs : List PX)
  | callV (a : Nat) (xs : List PX)
  | blt (b : Bl) (xs : List PX)
  | mt (m : Mt) (o : PX) (xs : List PX)
  | app (o : PX) (a : PX)
  | isi (a : PX) (t : Ty)
  | comp (elt : PX) (cond : Option PB) (src : PI) (keep : List Nat)
/-- a test -/
inductive PB where
  | val (p : PX) | not (b : PB) | and (a b : PB) | or (a b : PB)
inductive PI where
  | seq (e : PX)
  | rng (e : PX)
end

inductive PTg where
  | nm (i : Nat) | tp (is : List Nat)

inductive PSt where
  | ret (e : PX) | retN
  | asg (t : PTg) (e : PX)
  | aug (i : Nat) (op : Operator) (e : PX)
  | ex (e : PX)
  | ifs (c : PB) (a b : List PSt)
  | forS (t : PTg) (it : PI) (b : List PSt)
  | brk | cnt | pas

/-! ### what it means -/
def ltInt : D → Option Int
  | .int i => some i
  | _ => none
def ints? : List D → Option (List Int)
  | [] => some []
  | .int i :: r => (ints? r).map (i :: ·)
  | _ => none
def strs? : List D → Option (List (List Nat))
  | [] => some []
  | .str i :: r => (strs? r).map (i :: ·)
  | _ => none
def bools? : List D → Option (List Bool)
  | [] => some []
  | .bl i :: r => (bools? r).map (i :: ·)
  | _ => none
def seq? : D → Option (List D)
  | .lst xs => some xs
  | .tup xs => some xs
  | _ => none

def bltD : Bl → List D → Option D
  | .len, [.str s] => if s.length ≤ SZ then some (.int s.length) else none
  | .len, [.lst s] => some (.int s.length)
  | .len, [.tup s] => some (.int s.length)
  | .min2, [.int a, .int b] => some (.int (if b < a then b else a))
  | .max2, [.int a, .int b] => some (.int (if b > a then b else a))
  | .list, [.lst s] => some (.lst s)
  | .list, [.tup s] => some (.lst s)
  | .tuple, [.lst s] => some (.tup s)
  | .tuple, [.tup s] => some (.tup s)
  | .int, [.int i] => some (.int i)
  | .int, [.bl i] => some (.int (b2z i))
  | .sorted, [.lst xs] => (ints? xs).bind fun l => if l.length < 64 then some (.lst ((l.mergeSort fun a b => decide (a ≤ b)).map .int)) else none
  | _, _ => none

def joinD (sep : List Nat) : List (List Nat) → List Nat
  | [] => []
  | [x] => x
  | x :: y :: r => x ++ sep ++ joinD sep (y :: r)

def mtD : Mt → D → List D → Option D
  | .join, .str s, [.lst xs] => (strs? xs).bind fun l => if (l.map List.length).sum + l.length * s.length ≤ SZ then some (.str (joinD s l)) else none
  | .startswith, .str s, [.str p] => some (.bl (p.isPrefixOf s))
  | _, _, _ => none

def isiD : D → Ty → Option Bool
  | .bl _, .bool => some true
  | .int _, .bool => some false | .str _, .bool => some false | .non, .bool => some false | .tup _, .bool => some false | .lst _, .bool => some false
  | .tup _, .tuple => some true
  | .int _, .tuple => some false | .str _, .tuple => some false | .non, .tuple => some false | .bl _, .tuple => some false | .lst _, .tuple => some false
  | .lst _, .list => some true
  | .int _, .list => some false | .str _, .list => some false | .non, .list => some false | .bl _, .list => some false | .tup _, .list => some false
  | _, _ => none

abbrev Res := Option (D × AH)
abbrev Bnd {α β : Type} (x : Option (α × AH)) (f : α → AH → Option (β × AH)) : Option (β × AH) := x.bind fun p => f p.1 p.2

def putO (o : Option D) (r : List D) : List D := match o with
  | some x => x :: r
  | none => r
/-- a comprehension's turns -/
def compL (f : D → AH → Option (Option D × AH)) : List D → AH → Option (List D × AH)
  | [], h => some ([], h)
  | d :: ds, h => (f d h).bind fun p => (compL f ds p.2).bind fun q => some (putO p.1 q.1, q.2)

def itD (h : AH) (d : D) : Option (List D) := match d with
  | .lst xs => some xs
  | .tup xs => some xs
  | _ => none
def rngD : D → Option (List D)
  | .int n => if -(2 ^ 62) ≤ n ∧ n < 2 ^ 62 then some ((List.range n.toNat).map fun i => .int (i : Nat)) else none
  | _ => none

def getV (ρ : Ev) (i : Nat) : Option D := (ρ[i]?).bind id

mutual
def ev (G : List Den) : PX → Ev → AH → Option (D × AH)
  | .var i, ρ, h => (getV ρ i).bind fun d => some (d, h)
  | .con d, _, h => some (d, h)
  | .bin op a b, ρ, h => (ev G a ρ h).bind fun p => (ev G b ρ p.2).bind fun q => (binD op (vw q.2 p.1) (vw q.2 q.1)).bind fun d => some (d, q.2)
  | .neg a, ρ, h => (ev G a ρ h).bind fun p => match p.1 with | .int i => some (.int (-i), p.2) | _ => none
  | .cmp op a b, ρ, h => (ev G a ρ h).bind fun p => (ev G b ρ p.2).bind fun q => (cmpD op (vw q.2 p.1) (vw q.2 q.1)).bind fun d => some (.bl d, q.2)
  | .cmp2 op op' a b c, ρ, h => (ev G a ρ h).bind fun p => (ev G b ρ p.2).bind fun q => (cmpD op (vw q.2 p.1) (vw q.2 q.1)).bind fun k =>
      if k = true then (ev G c ρ q.2).bind fun r => (cmpD op' (vw r.2 q.1) (vw r.2 r.1)).bind fun d => some (.bl d, r.2) else some (.bl false, q.2)
  | .and a b, ρ, h => (ev G a ρ h).bind fun p => match p.1 with
    | .bl k => if k = true then ev G b ρ p.2 else some (.bl false, p.2)
    | _ => none
  | .or a b, ρ, h => (ev G a ρ h).bind fun p => match p.1 with
    | .bl k => if k = true then some (.bl true, p.2) else ev G b ρ p.2
    | _ => none
  | .not a, ρ, h => (ev G a ρ h).bind fun p => match p.1 with
    | .bl k => some (.bl (!k), p.2)
    | _ => none
  | .ite c a b, ρ, h => (evB G c ρ h).bind fun p => if p.1 = true then ev G a ρ p.2 else ev G b ρ p.2
  | .tup xs, ρ, h => (evs G xs ρ h).bind fun p => if p.1.length ≤ SZ then some (.tup p.1, p.2) else none
  | .lst xs, ρ, h => (evs G xs ρ h).bind fun p => if p.1.length ≤ SZ then some (.lst p.1, p.2) else none
  | .new xs, ρ, h => (evs G xs ρ h).bind fun p => if p.1.length ≤ SZ then some (.ref p.2.length, p.2 ++ [.lst p.1]) else none
  | .idx a b, ρ, h => (ev G a ρ h).bind fun p => (ev G b ρ p.2).bind fun q => (idxD (vw q.2 p.1) q.1).bind fun d => some (d, q.2)
  | .sl a lo hi, ρ, h => (ev G a ρ h).bind fun p => (evo G lo ρ p.2).bind fun q => (evo G hi ρ q.2).bind fun r => (slD (vw r.2 p.1) q.1 r.1).bind fun d => some (d, r.2)
  | .call f xs, ρ, h => (evs G xs ρ h).bind fun p => (G[f]?).bind fun φ => match φ p.1 p.2 with | .ok d h' => some (d, h') | _ => none
  | .callV i xs, ρ, h => none
  | .blt b xs, ρ, h => (evs G xs ρ h).bind fun p => (bltD b (p.1.map (vw p.2))).bind fun d => some (d, p.2)
  | .mt m o xs, ρ, h => (ev G o ρ h).bind fun p => (evs G xs ρ p.2).bind fun q => (mtD m p.1 (q.1.map (vw q.2))).bind fun d => some (d, q.2)
  | .app o a, ρ, h => (ev G o ρ h).bind fun p => match p.1 with
    | .ref n => (match p.2[n]? with
      | some (.lst _) => (ev G a ρ p.2).bind fun q => (match q.2[n]? with
        | some (.lst xs) => if xs.length < SZ then some (.non, q.2.set n (.lst (xs ++ [q.1]))) else none
        | _ => none)
      | _ => none)
    | _ => none
  | .isi a t, ρ, h => (ev G a ρ h).bind fun p => (isiD (vw p.2 p.1) t).bind fun k => some (.bl k, p.2)
  | .comp elt cond src keep, ρ, h => (evI G src ρ h).bind fun p =>
      (compL (fun d h => match cond with
        | none => (ev G elt (some d :: keep.map (getV ρ)) h).bind fun q => some (some q.1, q.2)
        | some c => (evB G c (some d :: keep.map (getV ρ)) h).bind fun q =>
            if q.1 = true then (ev G elt (some d :: keep.map (getV ρ)) q.2).bind fun r => some (some r.1, r.2) else some (none, q.2)) p.1 p.2).bind fun q =>
        if q.1.length ≤ SZ then some (.lst q.1, q.2) else none
def evB (G : List Den) : PB → Ev → AH → Option (Bool × AH)
  | .val p, ρ, h => (ev G p ρ h).bind fun p => (tru p.2 p.1).bind fun k => some (k, p.2)
  | .not b, ρ, h => (evB G b ρ h).bind fun p => some (!p.1, p.2)
  | .and a b, ρ, h => (evB G a ρ h).bind fun p => if p.1 = true then evB G b ρ p.2 else some (false, p.2)
  | .or a b, ρ, h => (evB G a ρ h).bind fun p => if p.1 = true then some (true, p.2) else evB G b ρ p.2
def evs (G : List Den) : List PX → Ev → AH → Option (List D × AH)
  | [], _, h => some ([], h)
  | x :: xs, ρ, h => (ev G x ρ h).bind fun p => (evs G xs ρ p.2).bind fun q => some (p.1 :: q.1, q.2)
def evo (G : List Den) : Option PX → Ev → AH → Option (Option Int × AH)
  | none, _, h => some (none, h)
  | some x, ρ, h => (ev G x ρ h).bind fun p => match p.1 with | .int i => some (some i, p.2) | _ => none
def evI (G : List Den) : PI → Ev → AH → Option (List D × AH)
  | .seq e, ρ, h => (ev G e ρ h).bind fun p => (itD p.2 p.1).bind fun l => some (l, p.2)
  | .rng e, ρ, h => (ev G e ρ h).bind fun p => (rngD p.1).bind fun l => some (l, p.2)
end

inductive R where
  | nx (ρ : Ev) (h : AH) | rt (d : D) (h : AH) | bk (ρ : Ev) (h : AH) | ct (ρ : Ev) (h : AH) | exc (c : Nat) (ρ : Ev) (h : AH) | bad

def augD : Operator → D → D → Option D
  | .Add, .int a, .int b => some (.int (a + b))
  | .Sub, .int a, .int b => some (.int (a - b))
  | _, _, _ => none

def setT : PTg → D → Ev → Option Ev
  | .nm i, d, ρ => some (ρ.set i (some d))
  | .tp is, .tup xs, ρ => if is.length = xs.length then some ((is.zip xs).foldl (fun r p => r.set p.1 (some p.2)) ρ) else none
  | _, _, _ => none

def forL (f : D → Ev → AH → R) : List D → Ev → AH → R
  | [], ρ, h => .nx ρ h
  | d :: ds, ρ, h => match f d ρ h with
    | .nx ρ' h' => forL f ds ρ' h'
    | .ct ρ' h' => forL f ds ρ' h'
    | .bk ρ' h' => .nx ρ' h'
    | .rt d h' => .rt d h'
    | .exc c ρ' h' => .exc c ρ' h'
    | .bad => .bad

mutual
def exS (G : List Den) : PSt → Ev → AH → R
  | .ret e, ρ, h => match ev G e ρ h with | some p => .rt p.1 p.2 | none => .bad
  | .retN, ρ, h => .rt .non h
  | .asg t e, ρ, h => match ev G e ρ h with
    | some p => (match setT t p.1 ρ with | some ρ' => .nx ρ' p.2 | none => .bad)
    | none => .bad
  | .aug i op e, ρ, h => match getV ρ i, ev G e ρ h with
    | some x, some p => (match augD op x p.1 with
      | some z => .nx (ρ.set i (some z)) p.2
      | none => .bad)
    | _, _ => .bad
  | .ex e, ρ, h => match ev G e ρ h with | some p => .nx ρ p.2 | none => .bad
  | .ifs c a b, ρ, h => match evB G c ρ h with
    | some p => if p.1 = true then exSs G a ρ p.2 else exSs G b ρ p.2
    | none => .bad
  | .forS t it b, ρ, h => match evI G it ρ h with
    | some p => forL (fun d ρ h => match setT t d ρ with | some ρ' => exSs G b ρ' h | none => .bad) p.1 ρ p.2
    | none => .bad
  | .brk, ρ, h => .bk ρ h
  | .cnt, ρ, h => .ct ρ h
  | .pas, ρ, h => .nx ρ h
def exSs (G : List Den) : List PSt → Ev → AH → R
  | [], ρ, h => .nx ρ h
  | s :: r, ρ, h => match exS G s ρ h with
    | .nx ρ' h' => exSs G r ρ' h'
    | .rt d h' => .rt d h'
    | .bk ρ' h' => .bk ρ' h'
    | .ct ρ' h' => .ct ρ' h'
    | .exc c ρ' h' => .exc c ρ' h'
    | .bad => .bad
end

/-! ### a def's meaning -/
mutual
def nrf : D → Bool
  | .ref _ => false
  | .tup xs => nrfs xs
  | .lst xs => nrfs xs
  | _ => true
def nrfs : List D → Bool
  | [] => true
  | x :: xs => nrf x && nrfs xs
end
def startE (n : Nat) (args : List D) : Ev := args.map some ++ List.replicate (n - args.length) none
def runF (G : List Den) (np n : Nat) (b : List PSt) : Den := fun args h => if args.length = np then (match exSs G b (startE n args) h with
  | .rt d h' => .ok d h'
  | .nx _ h' => .ok .non h'
  | .exc c _ h' => .exc c h'
  | _ => .bad) else .bad
/-- what was made within and is not handed on is forgotten -/
noncomputable def cutDen (f : Den) : Den := fun ds h => match f ds h with
  | .ok d h' => @ite _ (nrf d = true ∧ h'.take h.length = h) (Classical.propDecidable _) (.ok d h) (.ok d h')
  | r => r
theorem cutDen_ok {f : Den} {ds : List D} {h h' : AH} {d : D} (e : f ds h = .ok d h') (n : nrf d = true) (t : h'.take h.length = h) : cutDen f ds h = .ok d h := by
  unfold cutDen
  rw [e]
  simp [n, t]
theorem cutDen_same {f : Den} {ds : List D} {h : AH} {d : D} (e : f ds h = .ok d h) : cutDen f ds h = .ok d h := by
  unfold cutDen
  rw [e]
  simp
end MP
set_option Elab.async false
set_option linter.all false
set_option maxRecDepth 100000
namespace MP
open PySem

/-! ### from the text to the short text -/
structure CC where
  N : List Str
  nm : List (Str × NameKind)
  ct : List (Str × D)
  fs : List Str
  bl : List Str
  mu : List Nat

def lk (nm : List (Str × NameKind)) (x : Str) : Option NameKind := nm.lookup x
def plainName (x : Str) : Bool := !(x == ("__debug__" : Str)) && !(x == ("__classdict__" : Str)) && !(x == ("__name__" : Str))
def isVis : Option NameKind → Bool
  | some .local => true | some .cell => true | some .free => true | _ => false
def isLoc : Option NameKind → Bool
  | some .local => true | some .cell => true | _ => false
def CC.var (C : CC) (x : Str) : Option Nat := if isVis (lk C.nm x) && plainName x then C.N.findIdx? (· == x) else none
def CC.isGl (C : CC) (x : Str) : Bool := (lk C.nm x == some .globalImplicit) && plainName x
def CC.isBl (C : CC) (x : Str) : Bool := C.isGl x && C.bl.contains x

def reNames (C : CC) (names : List (Str × NameKind)) : List (Str × NameKind) :=
  names.map fun (n, k) => if (k == .free && lk C.nm n == some .cell) then (n, .cell) else (n, k)
def freeNames (names : List (Str × NameKind)) : List Str := names.filterMap fun (n, k) => if k == .free then some n else none

def varsOf (C : CC) : List Str → Option (List Nat)
  | [] => some []
  | x :: r => match C.var x, varsOf C r with
    | some i, some l => some (i :: l)
    | _, _ => none

/-- may this be a comprehension's block, x its own name -/
def compOk (C : CC) (x : Str) (sc : Scope) : Bool :=
  (sc.kind == .function) && (sc.names.lookup x == some .local) && plainName x && sc.names.all (fun y => !(y.2 == .cell)) &&
  sc.names.all (fun y => !(y.2 == .local) || (sc.names.lookup y.1 == some .local)) && (sc.names.map (·.1)).Nodup &&
  sc.names.all (fun y => !(y.2 == .free) || (lk C.nm y.1 == some .cell || lk C.nm y.1 == some .free))

def bltOf (x : Str) (as : List PX) : Option PX :=
  if x == "len" then some (.blt .len as)
  else if x == "min" && as.length == 2 then some (.blt .min2 as)
  else if x == "max" && as.length == 2 then some (.blt .max2 as)
  else if x == "sorted" then some (.blt .sorted as)
  else if x == "sum" then some (.blt .sum as)
  else if x == "all" then some (.blt .all as)
  else if x == "list" then some (.blt .list as)
  else if x == "tuple" then some (.blt .tuple as)
  else if x == "int" then some (.blt .int as)
  else if x == "range" && as.length == 1 then some (.blt .range as)
  else none

def tyOf (C : CC) (t : Str) : Option Ty :=
  if C.isBl t then
    (if t == "bool" then some .bool else if t == "tuple" then some .tuple else if t == "list" then some .list else none)
  else none

def callOf (C : CC) (x : Str) (as : List PX) : Option PX :=
  if as.isEmpty then none else
  if C.isGl x then
    (match C.fs.findIdx? (· == x) with
    | some i => some (.call i as)
    | none => if C.bl.contains x then bltOf x as else none)
  else none

def mthOf (m : Str) (o : PX) (as : List PX) : Option PX :=
  if m == "append" then (match as with | [a] => some (.app o a) | _ => none)
  else if m == "join" then (match as with | [a] => some (.mt .join o [a]) | _ => none)
  else if m == "startswith" then (match as with | [a] => some (.mt .startswith o [a]) | _ => none)
  else if m == "index" then (match as with | [a] => some (.mt .index o [a]) | _ => none)
  else none

def noSuper : Expr → Bool
  | .Call _ [] [] _ => false
  | _ => true
def isSlice : Expr → Bool
  | .Slice .. => true
  | _ => false
def isSt : Expr → Bool
  | .Starred .. => true
  | _ => false

def cAnd (p : PX) : List PX → PX
  | [] => p
  | q :: r => .and p (cAnd q r)
def cOr (p : PX) : List PX → PX
  | [] => p
  | q :: r => .or p (cOr q r)
def bAnd (p : PB) : List PB → PB
  | [] => p
  | q :: r => .and p (bAnd q r)
def bOr (p : PB) : List PB → PB
  | [] => p
  | q :: r => .or p (bOr q r)
abbrev CR := Option PX × Option PB
def vb (o : Option PX) : CR := (o, o.map .val)
/-- what a loop walks -/
def toPI : PX → PI
  | .blt .range [p] => .rng p
  | p => .seq p

def kCon : Const → Option PX
  | .none => some (.con .non)
  | .bool b => some (.con (.bl b))
  | .int i => some (.con (.int i))
  | .str s => some (.con (.str s.cps.toList))
  | _ => none
def kName (C : CC) (x : Str) : Option PX := match C.var x with
  | some i => some (.var i)
  | none => if C.isGl x then (C.ct.lookup x).map .con else none
def kBin (op : Operator) : Option PX → Option PX → Option PX
  | some p, some q => some (.bin op p q)
  | _, _ => none
def kUn : UnaryOp → CR → CR
  | .USub, r => vb (r.1.map .neg)
  | .Not, r => (r.1.map .not, r.2.map .not)
  | _, _ => (none, none)
def kCmp (ops : List CmpOp) (bs : List Expr) : Option PX → Option (List PX) → Option PX
  | some p, some qs => if lastMarks ops bs then none else (match ops, qs with
    | [op], [q] => some (.cmp op p q)
    | [op, op'], [q, r] => some (.cmp2 op op' p q r)
    | _, _ => none)
  | _, _ => none
def kAnd : Option (List PX) → Option PX
  | some (p :: q :: ps) => some (cAnd p (q :: ps))
  | _ => none
def kOr : Option (List PX) → Option PX
  | some (p :: q :: ps) => some (cOr p (q :: ps))
  | _ => none
def kbAnd : Option (List PB) → Option PB
  | some (p :: q :: ps) => some (bAnd p (q :: ps))
  | _ => none
def kbOr : Option (List PB) → Option PB
  | some (p :: q :: ps) => some (bOr p (q :: ps))
  | _ => none
def kBool : BoolOp → Option (List PX) × Option (List PB) → CR
  | .And, r => (kAnd r.1, kbAnd r.2)
  | .Or, r => (kOr r.1, kbOr r.2)
def kIte : Option PB → Option PX → Option PX → Option PX
  | some r, some p, some q => some (.ite r p q)
  | _, _, _ => none
def kLst (C : CC) (pos : Pos) : Option (List PX) → Option PX
  | some ps => if C.mu.contains pos.line then some (.new ps) else some (.lst ps)
  | none => none
def kSub (sl : Bool) : Option PX → Option (Option PX × Option PX) → Option PX → Option PX
  | some p, some (l, u), _ => if sl then some (.sl p l u) else none
  | some p, none, some q => if sl then none else some (.idx p q)
  | _, _, _ => none
/-- a call by a name -/
def kNm (C : CC) (x : Str) (args : List Expr) (hd : Option PX) (as : Option (List PX)) : Option PX :=
  if x == "isinstance" && C.isBl x then
    (match args with
    | [_, .Name t _] => (match hd, tyOf C t with
      | some p, some ty => some (.isi p ty)
      | _, _ => none)
    | _ => none)
  else (match as with
    | some as => callOf C x as
    | none => none)
/-- a call of a method -/
def kMt (C : CC) (o : Expr) (m : Str) (args : List Expr) (apos pos : Pos) : Option PX → Option (List PX) → Option PX
  | some p, some as => if noSuper o && (apos.endLine == pos.line) && decide (args.length < 20) then mthOf m p as else none
  | _, _ => none
def kCall (C : CC) (f : Expr) (args : List Expr) (kws : List Keyword) (pos : Pos) (o hd : Option PX) (as : Option (List PX)) : Option PX :=
  match kws with
  | [] => (match f with
    | .Name x _ => kNm C x args hd as
    | .Attribute e m apos => kMt C e m args apos pos o as
    | _ => none)
  | _ => none
def gName : List Comprehension → Option (Str × Pos)
  | [⟨.Name x px, _, _, asy⟩] => if asy == 0 then some (x, px) else none
  | _ => none
def subC (C : CC) (gens : List Comprehension) (sc : Scope) : CC := match gName gens with
  | some (x, _) => { C with N := x :: freeNames sc.names, nm := reNames C sc.names }
  | none => C
def kComp (C : CC) (gens : List Comprehension) (sc : Scope) (it : Option PX) (ifs : Option (List PB)) (elt : Option PX) : Option PX :=
  match gName gens, it, ifs, elt with
  | some (x, _), some it, some fs, some e => if compOk C x sc then
      (match varsOf C (freeNames sc.names), fs with
      | some keep, [] => some (.comp e none (toPI it) keep)
      | some keep, [c] => some (.comp e (some c) (toPI it) keep)
      | _, _ => none)
    else none
  | _, _, _, _ => none

mutual
def cX : Expr → CC → CR
  | .Constant c _ _, _ => vb (kCon c)
  | .Name x _, C => vb (kName C x)
  | .BinOp a op b _, C => vb (kBin op (cX a C).1 (cX b C).1)
  | .UnaryOp op a _, C => kUn op (cX a C)
  | .Compare a ops bs _, C => vb (kCmp ops bs (cX a C).1 (cXs bs C).1)
  | .BoolOp op vs _, C => kBool op (cXs vs C)
  | .IfExp c a b _, C => (kIte (cX c C).2 (cX a C).1 (cX b C).1, none)
  | .Tuple es _ _, C => vb ((cXs es C).1.map .tup)
  | .List es pos, C => vb (kLst C pos (cXs es C).1)
  | .Subscript a i _, C => vb (kSub (isSlice i) (cX a C).1 (cSl i C) (cX i C).1)
  | .Call f args kws pos, C => vb (kCall C f args kws pos (cFn f C) (cHd args C) (cXs args C).1)
  | .ListComp elt gens sc _, C => vb (kComp C gens sc (cG gens C).1 (cG gens (subC C gens sc)).2 (cX elt (subC C gens sc)).1)
  | _, _ => (none, none)
def cXs : List Expr → CC → Option (List PX) × Option (List PB)
  | [], _ => (some [], some [])
  | e :: es, C => ((match (cX e C).1, (cXs es C).1 with
    | some p, some ps => some (p :: ps)
    | _, _ => none), (match (cX e C).2, (cXs es C).2 with
    | some p, some ps => some (p :: ps)
    | _, _ => none))
def cXo : Option Expr → CC → Option (Option PX)
  | none, _ => some none
  | some e, C => (cX e C).1.map some
def cSl : Expr → CC → Option (Option PX × Option PX)
  | .Slice lo hi none _, C => (match cXo lo C, cXo hi C with
      | some l, some u => some (l, u)
      | _, _ => none)
  | _, _ => none
def cFn : Expr → CC → Option PX
  | .Attribute o _ _, C => (cX o C).1
  | _, _ => none
def cHd : List Expr → CC → Option PX
  | a :: _, C => (cX a C).1
  | [], _ => none
def cG : List Comprehension → CC → Option PX × Option (List PB)
  | [⟨_, iter, ifs, _⟩], C => ((cX iter C).1, (cXs ifs C).2)
  | _, _ => (none, none)
end
end MP

namespace MP
open PySem
abbrev cE (e : Expr) (C : CC) : Option PX := (cX e C).1
abbrev cB (e : Expr) (C : CC) : Option PB := (cX e C).2
def cI (e : Expr) (C : CC) : Option PI := (cE e C).map toPI

def idxs (C : CC) : List Expr → Option (List Nat)
  | [] => some []
  | .Name x _ :: r => (match (if isLoc (lk C.nm x) then C.var x else none), idxs C r with
    | some i, some l => some (i :: l)
    | _, _ => none)
  | _ => none
def cT (e : Expr) (C : CC) : Option PTg := match e with
  | .Name x _ => if isLoc (lk C.nm x) then (C.var x).map .nm else none
  | .Tuple es _ _ => (idxs C es).map .tp
  | _ => none
def isTupE : Expr → Bool
  | .Tuple .. => true
  | _ => false
def isCompE : Expr → Bool
  | .ListComp .. => true
  | _ => false
def isDoc : Expr → Bool
  | .Constant (.str _) _ _ => true
  | _ => false
def kRet : Option (Option PX) → Option PSt
  | some none => some .retN
  | some (some p) => some (.ret p)
  | none => none
def kAsg (C : CC) (ts : List Expr) (e : Expr) : Option PSt := match ts with
  | [t] => if isTupE t && isTupE e then none else
    (match cT t C, cE e C with
    | some g, some p => some (.asg g p)
    | _, _ => none)
  | _ => none
def kAug (C : CC) (t : Expr) (op : Operator) (e : Expr) : Option PSt := match t with
  | .Name x _ => (match (if isLoc (lk C.nm x) then C.var x else none), cE e C with
    | some i, some p => some (.aug i op p)
    | _, _ => none)
  | _ => none
def kEx (C : CC) (e : Expr) : Option PSt := if isDoc e then some .pas else if isCompE e then none else (cE e C).map .ex
def kIf : Option PB → Option (List PSt) → Option (List PSt) → Option PSt
  | some r, some p, some q => some (.ifs r p q)
  | _, _, _ => none
def kFor (orelse : List Stmt) : Option PTg → Option PI → Option (List PSt) → Option PSt
  | some g, some i, some p => if orelse.isEmpty then some (.forS g i p) else none
  | _, _, _ => none

mutual
def cS : Stmt → CC → Option PSt
  | .Return v _, C => kRet (cXo v C)
  | .Assign ts e _, C => kAsg C ts e
  | .AugAssign t op e _, C => kAug C t op e
  | .Expr e _, C => kEx C e
  | .If c a b _, C => kIf (cB c C) (cSs a C) (cSs b C)
  | .For t it b orelse _, C => kFor orelse (cT t C) (cI it C) (cSs b C)
  | .Break _, _ => some .brk
  | .Continue _, _ => some .cnt
  | .Pass _, _ => some .pas
  | _, _ => none
def cSs : List Stmt → CC → Option (List PSt)
  | [], _ => some []
  | s :: r, C => match cS s C, cSs r C with
    | some p, some q => some (p :: q)
    | _, _ => none
end
end MP
set_option Elab.async false
set_option linter.all false
set_option maxRecDepth 100000
set_option maxHeartbeats 4000000
namespace MP
open PySem PySem.Spec PyProof.Rows L2

abbrev Th := List Addr
abbrev St := L2.St
abbrev SS (s : List Nat) : Str := ⟨s.toArray⟩

/-! ### how plain data stands in the heap -/
mutual
inductive RepV (K : PySem.W.Frag) (H : Hp) (th : Th) : D → V → Prop
  | non : RepV K H th .non .non
  | bl (b : Bool) : RepV K H th (.bl b) (.bl b)
  | int (i : Int) : RepV K H th (.int i) (.int i)
  | str (s : List Nat) : RepV K H th (.str s) (.str (SS s))
  | tup {ds : List D} {vs : List V} {a : Addr} : SqT K H a vs → RepVs K H th ds vs → RepV K H th (.tup ds) (.ref a)
  | lst {ds : List D} {vs : List V} {a : Addr} : SqL K H a vs → a ∉ th → RepVs K H th ds vs → RepV K H th (.lst ds) (.ref a)
  | ref {n : Nat} {a : Addr} : th[n]? = some a → RepV K H th (.ref n) (.ref a)
inductive RepVs (K : PySem.W.Frag) (H : Hp) (th : Th) : List D → List V → Prop
  | nil : RepVs K H th [] []
  | cons {d : D} {v : V} {ds : List D} {vs : List V} : RepV K H th d v → RepVs K H th ds vs → RepVs K H th (d :: ds) (v :: vs)
end

/-- what stands at the address of an object that changes -/
def RepO (K : PySem.W.Frag) (H : Hp) (th : Th) (a : Addr) : O → Prop
  | .lst ds => ∃ vs, H a = some (.lst vs) ∧ RepVs K H th ds vs
  | .dct _ => False
  | .ins _ _ => False

structure Wd (K : PySem.W.Frag) (th : Th) (h : AH) (H : Hp) : Prop where
  nd : th.Nodup
  len : th.length = h.length
  kd : ∀ a ∈ th, K.lookup a = none
  obj : ∀ (n : Nat) (a : Addr) (o : O), th[n]? = some a → h[n]? = some o → RepO K H th a o

/-- from one heap to a later one -/
structure Gr (th th' : Th) (H H' : Hp) : Prop where
  pre : ∃ t, th' = th ++ t
  keep : ∀ a o, H a = some o → a ∉ th → H' a = some o
  tups : ∀ a xs, Rd H a (.tup xs) → Rd H' a (.tup xs)
  new : ∀ a, a ∈ th' → a ∉ th → H a = none

theorem Gr.refl (th : Th) (H : Hp) : Gr th th H H := ⟨⟨[], by simp⟩, fun _ _ h _ => h, fun _ _ h => h, fun a h1 h2 => absurd h1 h2⟩
theorem Gr.sub {th th' : Th} {H H' : Hp} (g : Gr th th' H H') {a : Addr} (h : a ∈ th) : a ∈ th' := by
  obtain ⟨t, rfl⟩ := g.pre
  exact List.mem_append_left _ h
theorem Gr.trans {th th1 th2 : Th} {H H1 H2 : Hp} (a : Gr th th1 H H1) (b : Gr th1 th2 H1 H2) : Gr th th2 H H2 where
  pre := by
    obtain ⟨t, rfl⟩ := a.pre
    obtain ⟨u, rfl⟩ := b.pre
    exact ⟨t ++ u, by simp⟩
  keep := fun c o h n => b.keep c o (a.keep c o h n) fun z => by
    have := a.new c z n
    rw [h] at this
    cases this
  tups := fun c xs h => b.tups c xs (a.tups c xs h)
  new := fun c z n => by
    by_cases z1 : c ∈ th1
    · exact a.new c z1 n
    · have e := b.new c z z1
      cases q : H c with
      | none => rfl
      | some o =>
        rw [a.keep c o q n] at e
        cases e

theorem nodup_ixA {N : List Addr} (hN : N.Nodup) {i j : Nat} {x : Addr} (a : N[i]? = some x) (b : N[j]? = some x) : i = j := by
  obtain ⟨hi, ha⟩ := List.getElem?_eq_some_iff.mp a
  obtain ⟨hj, hb⟩ := List.getElem?_eq_some_iff.mp b
  rcases Nat.lt_trichotomy i j with h | h | h
  · exact absurd (ha.trans hb.symm) ((List.pairwise_iff_getElem.mp hN) i j hi hj h)
  · exact h
  · exact absurd (hb.trans ha.symm) ((List.pairwise_iff_getElem.mp hN) j i hj hi h)
theorem RepVs.length {K : PySem.W.Frag} {H : Hp} {th : Th} : ∀ {ds : List D} {vs : List V}, RepVs K H th ds vs → ds.length = vs.length
  | _, _, .nil => rfl
  | _, _, .cons _ t => by simp [RepVs.length t]

section
variable {K : PySem.W.Frag} {th th' : Th} {h : AH} {H H' : Hp}
theorem RepO.some {a : Addr} {o : O} (r : RepO K H th a o) : H a ≠ none := by
  cases o with
  | lst ds => obtain ⟨vs, e, _⟩ := r; rw [e]; simp
  | dct _ => exact r.elim
  | ins _ _ => exact r.elim
theorem Wd.there (w : Wd K th h H) {a : Addr} (m : a ∈ th) : H a ≠ none := by
  obtain ⟨n, hn, e⟩ := List.mem_iff_getElem.mp m
  have hh : n < h.length := by rw [← w.len]; exact hn
  exact (w.obj n a h[n] (by rw [List.getElem?_eq_getElem hn, e]) (List.getElem?_eq_getElem hh)).some
theorem Wd.notin (w : Wd K th h H) {a : Addr} (e : H a = none) : a ∉ th := fun m => w.there m e

theorem SqT.mono {a : Addr} {xs : List V} (g : Gr th th' H H') (q : SqT K H a xs) : SqT K H' a xs := by
  rcases q with q | q
  · exact .inl (g.tups a xs q)
  · exact .inr q
theorem SqL.mono {a : Addr} {xs : List V} (g : Gr th th' H H') (n : a ∉ th) (q : SqL K H a xs) : SqL K H' a xs := by
  rcases q with (q | ⟨o, q⟩) | q
  · exact .inl (.inl (g.keep a _ q n))
  · exact .inl (.inr ⟨o, g.keep a _ q n⟩)
  · exact .inr q
theorem notin_mono {a : Addr} {xs : List V} (g : Gr th th' H H') (kd : ∀ a ∈ th', K.lookup a = none) (n : a ∉ th) (q : SqL K H a xs) : a ∉ th' := fun m => by
  have e := g.new a m n
  rcases q with (q | ⟨o, q⟩) | ⟨o, its, k, q, _⟩
  · rw [q] at e; cases e
  · rw [q] at e; cases e
  · rw [kd a m] at q; cases q
mutual
theorem RepV.mono (g : Gr th th' H H') (kd : ∀ a ∈ th', K.lookup a = none) : ∀ {d : D} {v : V}, RepV K H th d v → RepV K H' th' d v
  | _, _, .non => .non
  | _, _, .bl b => .bl b
  | _, _, .int i => .int i
  | _, _, .str s => .str s
  | _, _, .tup q r => .tup (SqT.mono g q) (RepVs.mono g kd r)
  | _, _, .lst q n r => .lst (SqL.mono g n q) (notin_mono g kd n q) (RepVs.mono g kd r)
  | _, _, .ref (n := n) e => .ref (by
      obtain ⟨t, rfl⟩ := g.pre
      have hn : n < th.length := (List.getElem?_eq_some_iff.mp e).1
      rw [List.getElem?_append_left hn]
      exact e)
theorem RepVs.mono (g : Gr th th' H H') (kd : ∀ a ∈ th', K.lookup a = none) : ∀ {ds : List D} {vs : List V}, RepVs K H th ds vs → RepVs K H' th' ds vs
  | _, _, .nil => .nil
  | _, _, .cons a b => .cons (RepV.mono g kd a) (RepVs.mono g kd b)
end
theorem RepVs.get : ∀ {ds : List D} {vs : List V} {i : Nat} {d : D}, RepVs K H th ds vs → ds[i]? = some d → ∃ v, vs[i]? = some v ∧ RepV K H th d v
  | _, _, _, _, .nil, e => by simp at e
  | _, _, 0, _, .cons r _, e => by simp at e; subst e; exact ⟨_, rfl, r⟩
  | _, _, i + 1, d, .cons _ t, e => by
    obtain ⟨v, h1, h2⟩ := RepVs.get (i := i) (d := d) t (by simpa using e)
    exact ⟨v, by simpa using h1, h2⟩
theorem RepVs.append : ∀ {xs ys : List D} {us ws : List V}, RepVs K H th xs us → RepVs K H th ys ws → RepVs K H th (xs ++ ys) (us ++ ws)
  | _, _, _, _, .nil, s => s
  | _, _, _, _, .cons r t, s => .cons r (RepVs.append t s)
theorem RepVs.take : ∀ {xs : List D} {us : List V} (n : Nat), RepVs K H th xs us → RepVs K H th (xs.take n) (us.take n)
  | _, _, 0, _ => by simp; exact .nil
  | _, _, _ + 1, .nil => .nil
  | _, _, n + 1, .cons r t => .cons r (RepVs.take n t)
theorem RepVs.drop : ∀ {xs : List D} {us : List V} (n : Nat), RepVs K H th xs us → RepVs K H th (xs.drop n) (us.drop n)
  | _, _, 0, r => r
  | _, _, _ + 1, .nil => .nil
  | _, _, n + 1, .cons _ t => RepVs.drop n t
theorem RepVs.set {d : D} {v : V} (r : RepV K H th d v) : ∀ {xs : List D} {us : List V} (n : Nat), RepVs K H th xs us → RepVs K H th (xs.set n d) (us.set n v)
  | _, _, _, .nil => .nil
  | _, _, 0, .cons _ t => .cons r t
  | _, _, n + 1, .cons q t => .cons q (RepVs.set r n t)

theorem RepO.mono {a : Addr} {o : O} (g : Gr th th' H H') (kd : ∀ a ∈ th', K.lookup a = none) (e : H' a = H a) (r : RepO K H th a o) : RepO K H' th' a o := by
  cases o with
  | lst ds => obtain ⟨vs, q, r⟩ := r; exact ⟨vs, by rw [e]; exact q, r.mono g kd⟩
  | dct _ => exact r.elim
  | ins _ _ => exact r.elim

/-- a new thing is laid that is not of those that change -/
theorem Gr.laid {p : Addr} {o : HO} (th : Th) (hp : H p = none) : Gr th th H (upd H p o) where
  pre := ⟨[], by simp⟩
  keep := fun a u e _ => by rw [upd_ne (ne_of_none e hp)]; exact e
  tups := fun a xs r => by
    rcases r with r | ⟨u, r⟩
    · exact .inl (by rw [upd_ne (ne_of_none r hp)]; exact r)
    · exact .inr ⟨u, by rw [upd_ne (ne_of_none r hp)]; exact r⟩
  new := fun a h1 h2 => absurd h1 h2
theorem Wd.mono0 {H' : Hp} (w : Wd K th h H) (g : Gr th th H H') (s : ∀ a ∈ th, H' a = H a) : Wd K th h H' :=
  ⟨w.nd, w.len, w.kd, fun n a o e1 e2 => (w.obj n a o e1 e2).mono g w.kd (s a (List.mem_of_getElem? e1))⟩
theorem Wd.laid {p : Addr} {o : HO} (w : Wd K th h H) (hp : H p = none) : Wd K th h (upd H p o) :=
  w.mono0 (Gr.laid th hp) fun a m => upd_ne fun e => w.there m (e ▸ hp)
/-- a new object that changes -/
theorem Gr.added {p : Addr} {o : HO} (th : Th) (hp : H p = none) : Gr th (th ++ [p]) H (upd H p o) where
  pre := ⟨[p], rfl⟩
  keep := (Gr.laid th hp).keep
  tups := (Gr.laid th hp).tups
  new := fun a h1 h2 => by
    rcases List.mem_append.mp h1 with z | z
    · exact absurd z h2
    · have : a = p := by simpa using z
      rw [this]; exact hp
theorem Wd.added {p : Addr} {o : HO} {u : O} (w : Wd K th h H) (hp : H p = none) (hk : K.lookup p = none) (r : RepO K (upd H p o) (th ++ [p]) p u) : Wd K (th ++ [p]) (h ++ [u]) (upd H p o) := by
  have hn : p ∉ th := w.notin hp
  have kd : ∀ a ∈ th ++ [p], K.lookup a = none := fun a m => by
    rcases List.mem_append.mp m with z | z
    · exact w.kd a z
    · have : a = p := by simpa using z
      rw [this]; exact hk
  refine ⟨?_, by simp [w.len], kd, fun n a x e1 e2 => ?_⟩
  · rw [List.nodup_append]
    refine ⟨w.nd, by simp, ?_⟩
    intro a ha b hb
    have : b = p := by simpa using hb
    rw [this]
    exact fun e => hn (e ▸ ha)
  · by_cases hlt : n < th.length
    · rw [List.getElem?_append_left hlt] at e1
      rw [List.getElem?_append_left (by rw [← w.len]; exact hlt)] at e2
      have m : a ∈ th := List.mem_of_getElem? e1
      exact (w.obj n a x e1 e2).mono (Gr.added th hp) kd (upd_ne fun e => hn (e ▸ m))
    · have h1 : th.length ≤ n := Nat.le_of_not_lt hlt
      have hn' : n < (th ++ [p]).length := (List.getElem?_eq_some_iff.mp e1).1
      have : n = th.length := by simp at hn'; omega
      subst this
      rw [List.getElem?_append_right (Nat.le_refl _)] at e1
      rw [w.len, List.getElem?_append_right (Nat.le_refl _)] at e2
      simp at e1 e2
      subst e1 e2
      exact r
/-- an object that changes is written -/
theorem Gr.wrote {a : Addr} {o : HO} {xs : List V} (hm : a ∈ th) (e : H a = some (.lst xs)) : Gr th th H (upd H a o) where
  pre := ⟨[], by simp⟩
  keep := fun c u q n => by
    have : c ≠ a := fun z => n (z ▸ hm)
    rw [upd_ne this]; exact q
  tups := fun c ys r => by
    rcases r with r | ⟨u, r⟩
    · exact .inl (by rw [upd_ne (ne_of r e (by intro z; cases z))]; exact r)
    · exact .inr ⟨u, by rw [upd_ne (ne_of r e (by intro z; cases z))]; exact r⟩
  new := fun c h1 h2 => absurd h1 h2
theorem Wd.wrote {a : Addr} {n : Nat} {o : HO} {u : O} {xs : List V} (w : Wd K th h H) (hn : th[n]? = some a) (e : H a = some (.lst xs)) (r : RepO K (upd H a o) th a u) : Wd K th (h.set n u) (upd H a o) := by
  have hm := List.mem_of_getElem? hn
  refine ⟨w.nd, by simp [w.len], w.kd, fun m b x e1 e2 => ?_⟩
  by_cases hmn : m = n
  · subst hmn
    rw [hn] at e1
    cases e1
    have hlt : m < h.length := by rw [← w.len]; exact (List.getElem?_eq_some_iff.mp hn).1
    rw [List.getElem?_set_self hlt] at e2
    cases e2
    exact r
  · rw [List.getElem?_set_ne (Ne.symm hmn)] at e2
    have hba : b ≠ a := fun z => by
      subst z
      exact hmn (nodup_ixA w.nd e1 hn)
    exact (w.obj m b x e1 e2).mono (Gr.wrote hm e) w.kd (upd_ne hba)

/-! ### read -/
/-- plain data as it is read (a list that changes is a list) -/
def RepW (K : PySem.W.Frag) (H : Hp) (th : Th) (d : D) (v : V) : Prop := match d with
  | .lst ds => ∃ a vs, v = .ref a ∧ SqL K H a vs ∧ RepVs K H th ds vs
  | d => RepV K H th d v
theorem RepV.view {d : D} {v : V} (w : Wd K th h H) (r : RepV K H th d v) : RepW K H th (vw h d) v := by
  cases r with
  | non => exact .non
  | bl b => exact .bl b
  | int i => exact .int i
  | str s => exact .str s
  | tup q r => exact .tup q r
  | lst q n r => exact ⟨_, _, rfl, q, r⟩
  | @ref n a e =>
    have hn : n < h.length := by rw [← w.len]; exact (List.getElem?_eq_some_iff.mp e).1
    have ro := w.obj n a h[n] e (List.getElem?_eq_getElem hn)
    have ev : vw h (.ref n) = (match h[n]? with | some (.lst xs) => .lst xs | _ => .ref n) := rfl
    rw [ev, List.getElem?_eq_getElem hn]
    cases q : h[n] with
    | lst xs =>
      rw [q] at ro
      obtain ⟨vs, e2, r2⟩ := ro
      exact ⟨a, vs, rfl, SqL.of e2, r2⟩
    | dct _ => exact RepV.ref e
    | ins _ _ => exact RepV.ref e
end

/-! ### the frame -/
structure EnvR (K : PySem.W.Frag) (H : Hp) (th : Th) (ρ : Ev) (σ : St) : Prop where
  len : ρ.length = σ.length
  val : ∀ i d, getV ρ i = some d → ∃ v, σ[i]? = some (some v) ∧ RepV K H th d v
theorem EnvR.mono {K : PySem.W.Frag} {th th' : Th} {H H' : Hp} {ρ : Ev} {σ : St} (g : Gr th th' H H') (kd : ∀ a ∈ th', K.lookup a = none) (r : EnvR K H th ρ σ) : EnvR K H' th' ρ σ :=
  ⟨r.len, fun i d e => let ⟨v, e1, r1⟩ := r.val i d e; ⟨v, e1, r1.mono g kd⟩⟩
theorem getV_set_self {ρ : Ev} {i : Nat} {d : D} {x : Option D} (h : getV (ρ.set i x) i = some d) : x = some d := by
  unfold getV at h
  by_cases hi : i < ρ.length
  · rw [List.getElem?_set_self hi] at h; simpa using h
  · rw [List.getElem?_eq_none (by simp; omega)] at h; simp at h
theorem getV_set_ne {ρ : Ev} {i j : Nat} {x : Option D} (h : i ≠ j) : getV (ρ.set i x) j = getV ρ j := by
  unfold getV
  rw [List.getElem?_set_ne h]
theorem EnvR.set {K : PySem.W.Frag} {th : Th} {H : Hp} {ρ : Ev} {σ : St} {d : D} {v : V} (r : EnvR K H th ρ σ) (i : Nat) (q : RepV K H th d v) : EnvR K H th (ρ.set i (some d)) (σ.set i (some v)) := by
  refine ⟨by simp [r.len], fun j e hj => ?_⟩
  by_cases hij : i = j
  · subst hij
    have := getV_set_self hj
    cases this
    have hi : i < σ.length := by
      rw [← r.len]
      unfold getV at hj
      by_cases hi : i < ρ.length
      · exact hi
      · rw [List.getElem?_eq_none (by simp; omega)] at hj; simp at hj
    exact ⟨v, List.getElem?_set_self hi, q⟩
  · rw [getV_set_ne hij] at hj
    obtain ⟨u, e1, r1⟩ := r.val j e hj
    exact ⟨u, by rw [List.getElem?_set_ne hij]; exact e1, r1⟩

/-! ### readings -/
def rdE (K : PySem.W.Frag) (G : List Den) (p : PX) : TE := fun σ H Q => ∃ th ρ h d h', Wd K th h H ∧ EnvR K H th ρ σ ∧ ev G p ρ h = some (d, h') ∧
  ∀ v H' th', RepV K H' th' d v → Wd K th' h' H' → Gr th th' H H' → Q v H'
def rdA (K : PySem.W.Frag) (G : List Den) (ps : List PX) : TA := fun σ H Q => ∃ th ρ h ds h', Wd K th h H ∧ EnvR K H th ρ σ ∧ evs G ps ρ h = some (ds, h') ∧
  ∀ vs H' th', RepVs K H' th' ds vs → Wd K th' h' H' → Gr th th' H H' → Q vs H'
theorem _root_.L2.PE.imp {X : Cx} {e : Expr} {t t' : TE} (p : PE X e t) (h : ∀ σ H Q, t' σ H Q → t σ H Q) : PE X e t' := fun pins s σ H Q I q => p pins s σ H Q I (h σ H Q q)
theorem _root_.L2.PA.imp {X : Cx} {e : List Expr} {t t' : TA} (p : PA X e t) (h : ∀ σ H Q, t' σ H Q → t σ H Q) : PA X e t' := fun pos pins s σ H Q I q => p pos pins s σ H Q I (h σ H Q q)
theorem _root_.L2.PT.imp {X : Cx} {e : Expr} {t t' : TT} (p : PT X e t) (h : ∀ σ H Q, t' σ H Q → t σ H Q) : PT X e t' := fun pins s σ H Q I q => p pins s σ H Q I (h σ H Q q)
theorem _root_.L2.PW.imp {X : Cx} {e : Expr} {t t' : TT} (p : PW X e t) (h : ∀ σ H Q, t' σ H Q → t σ H Q) : PW X e t' := fun wh pins s σ H Q I q => p wh pins s σ H Q I (h σ H Q q)
theorem _root_.L2.PS.imp {X : Cx} {e : Stmt} {t t' : TS} (p : PS X e t) (h : ∀ D σ H, t' D σ H → t D σ H) : PS X e t' := fun pins s σ H D I q => p pins s σ H D I (h D σ H q)
theorem _root_.L2.PSs.imp {X : Cx} {e : List Stmt} {t t' : TS} (p : PSs X e t) (h : ∀ D σ H, t' D σ H → t D σ H) : PSs X e t' := fun pins s σ H D I q => p pins s σ H D I (h D σ H q)

/-- a two-place operation on data -/
def rdOp (K : PySem.W.Frag) (f : D → D → Option D) : R2 := fun x y H Q => ∃ th h dx dy d, Wd K th h H ∧ RepW K H th dx x ∧ RepW K H th dy y ∧ f dx dy = some d ∧
  ∀ v H', RepV K H' th d v → Wd K th h H' → Gr th th H H' → Q v H'
theorem rd2 {K : PySem.W.Frag} {G : List Den} {p q : PX} {σ : St} {H : Hp} {Q : V → V → Hp → Prop} {th : Th} {ρ : Ev} {h h1 h2 : AH} {d1 d2 : D}
    (w : Wd K th h H) (e : EnvR K H th ρ σ) (e1 : ev G p ρ h = some (d1, h1)) (e2 : ev G q ρ h1 = some (d2, h2))
    (k : ∀ x y H' th', RepV K H' th' d1 x → RepV K H' th' d2 y → Wd K th' h2 H' → Gr th th' H H' → Q x y H') :
    rdE K G p σ H fun x H1 => rdE K G q σ H1 fun y H2 => Q x y H2 :=
  ⟨th, ρ, h, d1, h1, w, e, e1, fun x H1 th1 r1 w1 g1 => ⟨th1, ρ, h1, d2, h2, w1, e.mono g1 w1.kd, e2, fun y H2 th2 r2 w2 g2 => k x y H2 th2 (r1.mono g2 w2.kd) r2 w2 (g1.trans g2)⟩⟩
end MP
set_option Elab.async false
set_option linter.all false
set_option maxRecDepth 100000
set_option maxHeartbeats 4000000
namespace MP
open PySem PySem.Spec PyProof.Rows L2

section
variable {K : PySem.W.Frag} {H : Hp} {th : Th} {v : V}
theorem RepW.inon (r : RepW K H th .non v) : v = .non := by cases (show RepV K H th .non v from r); rfl
theorem RepW.ibl {b : Bool} (r : RepW K H th (.bl b) v) : v = .bl b := by cases (show RepV K H th (.bl b) v from r); rfl
theorem RepW.iint {i : Int} (r : RepW K H th (.int i) v) : v = .int i := by cases (show RepV K H th (.int i) v from r); rfl
theorem RepW.istr {s : List Nat} (r : RepW K H th (.str s) v) : v = .str (SS s) := by cases (show RepV K H th (.str s) v from r); rfl
theorem RepW.itup {ds : List D} (r : RepW K H th (.tup ds) v) : ∃ a vs, v = .ref a ∧ SqT K H a vs ∧ RepVs K H th ds vs := by
  cases (show RepV K H th (.tup ds) v from r) with
  | tup q r' => exact ⟨_, _, rfl, q, r'⟩
theorem RepW.ilst {ds : List D} (r : RepW K H th (.lst ds) v) : ∃ a vs, v = .ref a ∧ SqL K H a vs ∧ RepVs K H th ds vs := r
end

theorem SS_append (a b : List Nat) : (SS a ++ SS b : Str) = SS (a ++ b) := by
  show (⟨a.toArray ++ b.toArray⟩ : Str) = ⟨(a ++ b).toArray⟩
  simp
theorem SS_length (a : List Nat) : (SS a).length = a.length := by
  show a.toArray.size = a.length
  simp
theorem SZ_eq : sizeLine = SZ := by decide
theorem log2_lt_of {n k : Nat} (hk : 0 < k) (h : n < 2 ^ k) : n.log2 < k := by
  by_cases h0 : n = 0
  · subst h0
    have : Nat.log2 0 = 0 := by decide
    omega
  · exact (Nat.log2_lt h0).mpr h
theorem mulOk_ok {a b : Int} (h : mulOk a b = true) : IntMulOk a b := by
  unfold mulOk at h
  rw [Bool.or_eq_true, Bool.or_eq_true, Bool.and_eq_true] at h
  rcases h with (h | h) | ⟨h1, h2⟩
  · have h := of_decide_eq_true h
    exact .of_left (intBits_le_64 (by omega) (by omega))
  · have h := of_decide_eq_true h
    exact .of_right (intBits_le_64 (by omega) (by omega))
  · have h1 := of_decide_eq_true h1
    have h2 := of_decide_eq_true h2
    have b1 : Builtin.Int.intBits a ≤ 4096 := by
      unfold Builtin.Int.intBits
      split
      · omega
      · have := log2_lt_of (by decide) h1
        omega
    have b2 : Builtin.Int.intBits b ≤ 4096 := by
      unfold Builtin.Int.intBits
      split
      · omega
      · have := log2_lt_of (by decide) h2
        omega
    unfold IntMulOk
    have hb : Builtin.Int.intTooBig ((Builtin.Int.intBits a : Int) + (Builtin.Int.intBits b : Int)) = false := by
      unfold Builtin.Int.intTooBig
      have : ¬ (((Builtin.Int.intBits a : Int) + (Builtin.Int.intBits b : Int)) > (bitsLine : Int)) := by
        have : (bitsLine : Int) = 134217728 := by decide
        omega
      simpa using this
    simp [hb]

section
variable {X : Cx}
theorem op_mulM : OpR X (binaryOp .Mult) (rI (fun a b => mulOk a b = true) fun i j => .int (i * j)) := opI fun _ _ _ _ _ _ _ hc q => mul_int q (mulOk_ok hc)
theorem op_fdivM : OpR X (binaryOp .FloorDiv) (rI (fun _ b => 0 < b ∧ b < 2 ^ 100) fun i j => .int (i / j)) := opI fun i j _ _ _ _ _ hc q => by
  have h1 : (0 : Int) < j := hc.1
  have h2 : j < 2 ^ 100 := hc.2
  have h3 : j.natAbs < 2 ^ 100 := by omega
  have h4 := log2_lt_of (by decide) h3
  exact floordiv_int (by omega) (by rw [Int.fdiv_eq_ediv_of_nonneg i (by omega)]; exact q) (.inl (PyProof.noPylong_of_log2 (by omega)))

/-- list + list, any lists that are read -/
theorem op_catS : OpR X (binaryOp .Add) (fun x y H Q => ∃ l b xs zs, x = .ref l ∧ y = .ref b ∧ SqL X.K H l xs ∧ SqL X.K H b zs ∧ xs.length + zs.length ≤ sizeLine ∧ ∀ p, H p = none → Q (.ref p) (upd H p (.lst (xs ++ zs)))) := by
  intro pins s σ H x y v u Q I rx ry h
  obtain ⟨l, b, xs, zs, rfl, rfl, hH, hB, hz, q⟩ := h
  cases rx
  cases ry
  obtain ⟨its, r, pl, hz1⟩ := I.list hH
  obtain ⟨its2, r2, pl2, hz2⟩ := I.list hB
  have e1 := r.length
  have e2 := r2.length
  obtain ⟨⟨cls, dd, data, sl⟩, ho, hc, n, hd⟩ := pl.isList
  obtain ⟨⟨cls2, dd2, data2, sl2⟩, ho2, hc2, n2, hd2⟩ := pl2.isList
  simp only at hc hd hc2 hd2
  subst hc hd hc2 hd2
  have e : its.toArray ++ its2.toArray = (its ++ its2).toArray := by simp
  refine concat_meets ⟨_, ho, rfl⟩ ⟨_, ho2, rfl⟩ noFill_list_add seq_list_add PySem.F.slot_list_add PySem.F.entry_list_add (PySem.F.args_list_add_2 _ _) (list_addW l b its.toArray its2.toArray n n2 dd dd2 sl sl2 (by rw [List.size_toArray, List.size_toArray]; omega)) ⟨ho, ho2, ?_⟩
  rw [e]
  exact ⟨.ref _, _, I.lnew (t' := s.toks) (r.append r2) (by rw [List.length_append]; omega), rfl, q _ I.fresh⟩

/-- t + u of any tuples -/
theorem op_catTS : OpR X (binaryOp .Add) (fun x y H Q => ∃ l b xs zs, x = .ref l ∧ y = .ref b ∧ SqT X.K H l xs ∧ SqT X.K H b zs ∧ xs.length + zs.length ≤ sizeLine ∧
    (xs = [] → Q (.ref b) H) ∧ (zs = [] → Q (.ref l) H) ∧ ∀ p, H p = none → Q (.ref p) (upd H p (.tup (xs ++ zs)))) := by
  intro pins s σ H x y v u Q I rx ry h
  obtain ⟨l, b, xs, zs, rfl, rfl, hH, hB, hz, q1, q2, q3⟩ := h
  cases rx
  cases ry
  obtain ⟨its, r, pl, hz1⟩ := I.tuple hH
  obtain ⟨its2, r2, pl2, hz2⟩ := I.tuple hB
  have e1 := r.length
  have e2 := r2.length
  by_cases hv : its = []
  · obtain ⟨⟨cls, dd, data, sl⟩, ho, hc, n, hd⟩ := id pl
    obtain ⟨⟨cls2, dd2, data2, sl2⟩, ho2, hc2, n2, hd2⟩ := id pl2
    simp only at hc hd hc2 hd2
    subst hc hd hc2 hd2
    exact concat_meets ⟨_, ho, rfl⟩ ⟨_, ho2, rfl⟩ noFill_tuple_add seq_tuple_add PySem.F.slot_tuple_add PySem.F.entry_tuple_add (PySem.F.args_tuple_add_2 _ _)
      (tuple_addW0 l b its.toArray its2.toArray n n2 dd dd2 sl sl2 (by simp [hv])) ⟨ho, ho2, ⟨.ref b, H, I, rfl, q1 (r.nil_iff.mp hv)⟩⟩
  · refine HT.cat_tup pl pl2 hv (fun e => ?_) (fun _ => ?_) (by omega)
    · exact ⟨.ref l, H, I, rfl, q2 (r2.nil_iff.mp e)⟩
    · refine ⟨.ref s.heap.objs.size, _, I.laid (t' := s.toks) (o := .tup (xs ++ zs)) (fun b ob q => Heap.get?_push_of_some _ q) (Nat.le_refl _) ?_, rfl, q3 _ (I.hok.fresh (Nat.le_refl _))⟩
      exact ⟨by rw [List.length_append]; exact hz, _, r.append r2, IsTup.new _ _⟩

theorem op_binD (op : Operator) : OpR X (binaryOp op) (rdOp X.K (binD op)) := by
  intro pins s σ H x y v u Q I rx ry h
  obtain ⟨th, ah, dx, dy, d, w, wx, wy, e, k⟩ := h
  have kk : ∀ v, RepV X.K H th d v → Q v H := fun v r => k v H r w (Gr.refl _ _)
  unfold binD at e
  split at e
  · cases e; cases wx.iint; cases wy.iint
    exact op_add pins s σ H _ _ v u Q I rx ry ⟨_, _, rfl, rfl, kk _ (.int _)⟩
  · cases e; cases wx.iint; cases wy.iint
    exact op_sub pins s σ H _ _ v u Q I rx ry ⟨_, _, rfl, rfl, kk _ (.int _)⟩
  · split at e
    · rename_i hc
      cases e; cases wx.iint; cases wy.iint
      exact op_mulM pins s σ H _ _ v u Q I rx ry ⟨_, _, rfl, rfl, hc, kk _ (.int _)⟩
    · cases e
  · split at e
    · rename_i hc
      cases e; cases wx.iint; cases wy.iint
      exact op_fdivM pins s σ H _ _ v u Q I rx ry ⟨_, _, rfl, rfl, hc, kk _ (.int _)⟩
    · cases e
  · split at e
    · rename_i hc
      cases e; cases wx.iint; cases wy.iint
      exact op_mod pins s σ H _ _ v u Q I rx ry ⟨_, _, rfl, rfl, hc, kk _ (.int _)⟩
    · cases e
  · split at e
    · rename_i hc
      cases e; cases wx.iint; cases wy.iint
      exact op_pow pins s σ H _ _ v u Q I rx ry ⟨_, _, rfl, rfl, hc, kk _ (.int _)⟩
    · cases e
  · split at e
    · rename_i hc
      cases e; cases wx.iint; cases wy.iint
      exact op_shl pins s σ H _ _ v u Q I rx ry ⟨_, _, rfl, rfl, hc, kk _ (.int _)⟩
    · cases e
  · split at e
    · rename_i hc
      cases e; cases wx.istr; cases wy.istr
      exact op_add_str pins s σ H _ _ v u Q I rx ry ⟨_, _, rfl, rfl, by rw [SS_length, SS_length, SZ_eq]; exact hc, by rw [SS_append]; exact kk _ (.str _)⟩
    · cases e
  · split at e
    · rename_i a b hc
      cases e
      obtain ⟨l, xs, rfl, qx, r1⟩ := wx.itup
      obtain ⟨m, ys, rfl, qy, r2⟩ := wy.itup
      have l1 := r1.length
      have l2 := r2.length
      refine op_catTS pins s σ H _ _ v u Q I rx ry ⟨l, m, xs, ys, rfl, rfl, qx, qy, by rw [SZ_eq]; omega, fun z => ?_, fun z => ?_, fun p hp => ?_⟩
      · subst z
        cases r1
        exact kk _ (.tup qy (by simpa using r2))
      · subst z
        cases r2
        exact kk _ (.tup qx (by simpa using r1))
      · have g := Gr.laid (H := H) (o := .tup (xs ++ ys)) th hp
        exact k _ _ (.tup (SqT.of upd_same) ((r1.append r2).mono g w.kd)) (w.laid hp) g
    · cases e
  · split at e
    · rename_i a b hc
      cases e
      obtain ⟨l, xs, rfl, qx, r1⟩ := wx.ilst
      obtain ⟨m, ys, rfl, qy, r2⟩ := wy.ilst
      have l1 := r1.length
      have l2 := r2.length
      refine op_catS pins s σ H _ _ v u Q I rx ry ⟨l, m, xs, ys, rfl, rfl, qx, qy, by rw [SZ_eq]; omega, fun p hp => ?_⟩
      have g := Gr.laid (H := H) (o := .lst (xs ++ ys)) th hp
      exact k _ _ (.lst (SqL.of upd_same) (w.notin hp) ((r1.append r2).mono g w.kd)) (w.laid hp) g
    · cases e
  · cases e
end
end MP
set_option Elab.async false
set_option linter.all false
set_option maxRecDepth 100000
set_option maxHeartbeats 4000000
namespace MP
open PySem PySem.Spec PyProof.Rows L2

mutual
def toPy : D → PyData
  | .non => .none
  | .bl b => .bool b
  | .int i => .int i
  | .str s => .str (SS s)
  | .tup xs => .tuple (toPys xs)
  | .lst xs => .list (toPys xs)
  | _ => .none
def toPys : List D → List PyData
  | [] => []
  | x :: xs => toPy x :: toPys xs
end
theorem strOk_SS {s : List Nat} (h : (s.all fun c => decide (c < 1114112)) = true) : PyData.strOk (SS s) = true := by
  unfold PyData.strOk
  show s.toArray.all _ = true
  rw [List.all_toArray]
  simpa using h
theorem canLay_py : ∀ (n : Nat) (d : D), pureN n d = true → (toPy d).canLay0 = true ∧ (toPy d).depth ≤ n := by
  have lists : ∀ n : Nat, (∀ d, pureN n d = true → (toPy d).canLay0 = true ∧ (toPy d).depth ≤ n) → ∀ ds : List D, ds.all (pureN n) = true → PyData.canLayAll0 (toPys ds) = true ∧ PyData.depthAll (toPys ds) ≤ n := by
    intro n ih ds
    induction ds with
    | nil => intro _; exact ⟨rfl, Nat.zero_le _⟩
    | cons d ds ih2 =>
      intro h
      rw [List.all_cons, Bool.and_eq_true] at h
      obtain ⟨h1, h2⟩ := h
      obtain ⟨a1, a2⟩ := ih d h1
      obtain ⟨b1, b2⟩ := ih2 h2
      exact ⟨by show (PyData.canLay0 (toPy d) && PyData.canLayAll0 (toPys ds)) = true; rw [a1, b1]; rfl, by show max (PyData.depth (toPy d)) (PyData.depthAll (toPys ds)) ≤ n; omega⟩
  intro n
  induction n with
  | zero =>
    intro d h
    cases d with
    | str s => exact ⟨strOk_SS h, Nat.zero_le _⟩
    | non => exact ⟨rfl, Nat.zero_le _⟩
    | bl b => exact ⟨rfl, Nat.zero_le _⟩
    | int i => exact ⟨rfl, Nat.zero_le _⟩
    | _ => cases h
  | succ n ih =>
    intro d h
    cases d with
    | str s => exact ⟨strOk_SS h, Nat.zero_le _⟩
    | non => exact ⟨rfl, Nat.zero_le _⟩
    | bl b => exact ⟨rfl, Nat.zero_le _⟩
    | int i => exact ⟨rfl, Nat.zero_le _⟩
    | tup xs => obtain ⟨a, b⟩ := lists n ih xs h; exact ⟨a, Nat.succ_le_succ b⟩
    | lst xs => obtain ⟨a, b⟩ := lists n ih xs h; exact ⟨a, Nat.succ_le_succ b⟩
    | _ => cases h
theorem canLayAll_py {n : Nat} : ∀ (ds : List D), ds.all (pureN n) = true → PyData.canLayAll0 (toPys ds) = true ∧ PyData.depthAll (toPys ds) ≤ n
  | [], _ => ⟨rfl, Nat.zero_le _⟩
  | d :: ds, h => by
    rw [List.all_cons, Bool.and_eq_true] at h
    obtain ⟨a1, a2⟩ := canLay_py n d h.1
    obtain ⟨b1, b2⟩ := canLayAll_py ds h.2
    exact ⟨by show (PyData.canLay0 (toPy d) && PyData.canLayAll0 (toPys ds)) = true; rw [a1, b1]; rfl, by show max (PyData.depth (toPy d)) (PyData.depthAll (toPys ds)) ≤ n; omega⟩

theorem SS_beq (a b : List Nat) : (SS a == SS b) = (a == b) := by
  by_cases h : a = b
  · subst h; simp
  · have h' : ¬ SS a = SS b := fun e => h (by
      have := congrArg (fun z : Str => z.cps.toList) e
      simpa using this)
    rw [beq_eq_false_iff_ne.mpr h, beq_eq_false_iff_ne.mpr h']
theorem b2z_if (a : Bool) : (if a = true then (1 : Int) else 0) = b2z a := rfl
mutual
theorem eqv_py : ∀ (n : Nat) (a b : D), pureN n a = true → pureN n b = true → PyData.eqv (toPy a) (toPy b) = eqD a b
  | n, .non, b, _, hb => by cases b <;> first | rfl | (cases n <;> cases hb)
  | n, .bl x, b, _, hb => by cases b <;> first | rfl | (cases n <;> cases hb)
  | n, .int x, b, _, hb => by cases b <;> first | rfl | (cases n <;> cases hb)
  | n, .str x, b, _, hb => by
    cases b with
    | str y => exact SS_beq x y
    | _ => first | rfl | (cases n <;> cases hb)
  | 0, .tup x, b, ha, hb => by cases ha
  | 0, .lst x, b, ha, hb => by cases ha
  | n + 1, .tup x, b, ha, hb => by
    cases b with
    | tup y => exact eqvs_py n x y ha hb
    | _ => first | rfl | cases hb
  | n + 1, .lst x, b, ha, hb => by
    cases b with
    | lst y => exact eqvs_py n x y ha hb
    | _ => first | rfl | cases hb
  | n, .ref x, b, ha, hb => by cases n <;> cases ha
  | n, .fn x, b, ha, hb => by cases n <;> cases ha
  | n, .exn x, b, ha, hb => by cases n <;> cases ha
theorem eqvs_py : ∀ (n : Nat) (a b : List D), a.all (pureN n) = true → b.all (pureN n) = true → PyData.eqvAll (toPys a) (toPys b) = eqDs a b
  | _, [], [], _, _ => rfl
  | _, [], _ :: _, _, _ => rfl
  | _, _ :: _, [], _, _ => rfl
  | n, a :: as, b :: bs, ha, hb => by
    rw [List.all_cons, Bool.and_eq_true] at ha hb
    show (PyData.eqv (toPy a) (toPy b) && PyData.eqvAll (toPys as) (toPys bs)) = (eqD a b && eqDs as bs)
    rw [eqv_py n a b ha.1 hb.1, eqvs_py n as bs ha.2 hb.2]
end

section
variable {X : Cx} {pins : List (Addr × Obj)} {σ : St} {H : Hp} {s : Shared} {th : Th}
theorem reads_go (I : Inv X pins σ H s) (n : Nat) (ih : ∀ (d : D) (x : V) (v : Value), RepV X.K H th d x → pureN n d = true → RelV x v → ∃ as, Reads s.heap v (toPy d) as) :
    ∀ (ds : List D) (xs : List V) (vs : List Value), RepVs X.K H th ds xs → ds.all (pureN n) = true → Vals xs vs → ∃ as, ReadsAll s.heap vs (toPys ds) as
  | _, _, _, .nil, _, .nil => ⟨_, .nil⟩
  | _, _, _, .cons r rs, h, .cons v vs => by
    rw [List.all_cons, Bool.and_eq_true] at h
    obtain ⟨a, ra⟩ := ih _ _ _ r h.1 v
    obtain ⟨b, rb⟩ := reads_go I n ih _ _ _ rs h.2 vs
    exact ⟨_, .cons ra rb⟩
theorem RepV.reads (I : Inv X pins σ H s) : ∀ (n : Nat) (d : D) (x : V) (v : Value), RepV X.K H th d x → pureN n d = true → RelV x v → ∃ as, Reads s.heap v (toPy d) as := by
  intro n
  induction n with
  | zero =>
    intro d x v r h rv
    cases r with
    | non => cases rv; exact ⟨_, .none⟩
    | bl b => cases rv; exact ⟨_, .bool b⟩
    | int i => obtain ⟨t, rfl⟩ := rv; exact ⟨_, .int i t⟩
    | str z => obtain ⟨t, rfl⟩ := rv; exact ⟨_, .str _ t⟩
    | tup _ _ => cases h
    | lst _ _ _ => cases h
    | ref _ => cases h
  | succ n ih =>
    intro d x v r h rv
    cases r with
    | non => cases rv; exact ⟨_, .none⟩
    | bl b => cases rv; exact ⟨_, .bool b⟩
    | int i => obtain ⟨t, rfl⟩ := rv; exact ⟨_, .int i t⟩
    | str z => obtain ⟨t, rfl⟩ := rv; exact ⟨_, .str _ t⟩
    | tup q rs =>
      cases rv
      obtain ⟨its, vv, ⟨o, ho, hc, k, hd⟩, hz⟩ := I.tuple q
      obtain ⟨as, ra⟩ := reads_go I n ih _ _ its rs h vv
      exact ⟨_, .tuple ho hc hd (by simpa using ra)⟩
    | lst q _ rs =>
      cases rv
      obtain ⟨its, vv, pl, hz⟩ := I.list q
      obtain ⟨o, ho, hc, k, hd⟩ := pl.isList
      obtain ⟨as, ra⟩ := reads_go I n ih _ _ its rs h vv
      exact ⟨_, .list ho hc hd (by simpa using ra)⟩
    | ref _ => cases h
theorem RepW.reads (I : Inv X pins σ H s) (d : D) (x : V) (v : Value) (r : RepW X.K H th d x) (h : pureD d = true) (rv : RelV x v) : ∃ as, Reads s.heap v (toPy d) as := by
  cases d with
  | lst ds =>
    obtain ⟨a, vs, rfl, q, rs⟩ := r
    cases rv
    obtain ⟨its, vv, pl, hz⟩ := I.list q
    obtain ⟨o, ho, hc, k, hd⟩ := pl.isList
    obtain ⟨as, ra⟩ := reads_go I 15 (RepV.reads I 15) _ _ its rs h vv
    exact ⟨_, .list ho hc hd (by simpa using ra)⟩
  | _ => exact RepV.reads I 16 _ x v r h rv
theorem RepVs.reads (I : Inv X pins σ H s) (ds : List D) (xs : List V) (vs : List Value) (r : RepVs X.K H th ds xs) (h : pureDs ds = true) (rv : Vals xs vs) : ∃ as, ReadsAll s.heap vs (toPys ds) as :=
  reads_go I 16 (RepV.reads I 16) ds xs vs r h rv
theorem any_py (x : D) (hx : pureD x = true) : ∀ ys : List D, pureDs ys = true → ((toPys ys).any fun y => PyData.eqv y (toPy x)) = inD x ys
  | [], _ => rfl
  | y :: ys, h => by
    have h : (pureN 16 y && ys.all (pureN 16)) = true := h
    rw [Bool.and_eq_true] at h
    show (PyData.eqv (toPy y) (toPy x) || (toPys ys).any fun y => PyData.eqv y (toPy x)) = (eqD y x || inD x ys)
    rw [eqv_py 16 y x h.1 hx, any_py x hx ys h.2]

def cmpV (op : CmpOp) (a b : D) : Option D := (cmpD op a b).map .bl
theorem op_cmpD (hu : X.A.units + 65 < cLine) (op : CmpOp) : OpR X (compareOp op) (rdOp X.K (cmpV op)) := by
  intro pins s σ H x y v u Q I rx ry h
  obtain ⟨th, ah, dx, dy, d, w, wx, wy, e, k⟩ := h
  unfold cmpV at e
  cases e1 : cmpD op dx dy with
  | none => rw [e1] at e; cases e
  | some b =>
    rw [e1] at e
    cases e
    have kk : Q (.bl b) H := k _ H (.bl b) w (Gr.refl _ _)
    unfold cmpD at e1
    split at e1
    · split at e1
      · rename_i hp
        rw [Bool.and_eq_true] at hp
        cases e1
        obtain ⟨as, ra⟩ := wx.reads I _ _ _ hp.1 rx
        obtain ⟨bs, rb⟩ := wy.reads I _ _ _ hp.2 ry
        obtain ⟨c1, d1⟩ := canLay_py 16 _ hp.1
        obtain ⟨c2, d2⟩ := canLay_py 16 _ hp.2
        refine SeqAt.compareEq_reads ra rb c1 c2 (by omega) ?_
        rw [eqv_py 16 _ _ hp.1 hp.2]
        exact ⟨.bl _, H, I, rfl, kk⟩
      · cases e1
    · split at e1
      · rename_i hp
        rw [Bool.and_eq_true] at hp
        cases e1
        obtain ⟨as, ra⟩ := wx.reads I _ _ _ hp.1 rx
        obtain ⟨bs, rb⟩ := wy.reads I _ _ _ hp.2 ry
        obtain ⟨c1, d1⟩ := canLay_py 16 _ hp.1
        obtain ⟨c2, d2⟩ := canLay_py 16 _ hp.2
        refine SeqAt.compareNe_reads ra rb c1 c2 (by omega) ?_
        rw [eqv_py 16 _ _ hp.1 hp.2]
        exact ⟨.bl _, H, I, rfl, kk⟩
      · cases e1
    · cases e1; cases wx.iint; cases wy.iint
      exact op_lt pins s σ H _ _ v u Q I rx ry ⟨_, _, rfl, rfl, kk⟩
    · cases e1; cases wx.iint; cases wy.iint
      exact op_le pins s σ H _ _ v u Q I rx ry ⟨_, _, rfl, rfl, kk⟩
    · cases e1; cases wx.iint; cases wy.iint
      exact op_gt pins s σ H _ _ v u Q I rx ry ⟨_, _, rfl, rfl, kk⟩
    · cases e1; cases wx.iint; cases wy.iint
      exact op_ge pins s σ H _ _ v u Q I rx ry ⟨_, _, rfl, rfl, kk⟩
    · cases e1; cases wy.inon
      refine op_isN pins s σ H _ _ v u Q I rx ry ⟨rfl, ?_⟩
      have e : decide (x = V.non) = isNon dx := by
        cases dx with
        | non => cases wx.inon; simp [isNon]
        | lst ds => obtain ⟨a, vs, rfl, _⟩ := wx; simp [isNon]
        | _ => cases (show RepV X.K H th _ x from wx) <;> simp [isNon]
      rw [e]; exact kk
    · cases e1; cases wy.inon
      refine op_notN pins s σ H _ _ v u Q I rx ry ⟨rfl, ?_⟩
      have e : (!decide (x = V.non)) = !isNon dx := by
        cases dx with
        | non => cases wx.inon; simp [isNon]
        | lst ds => obtain ⟨a, vs, rfl, _⟩ := wx; simp [isNon]
        | _ => cases (show RepV X.K H th _ x from wx) <;> simp [isNon]
      rw [e]; exact kk
    · split at e1
      · rename_i hp
        rw [Bool.and_eq_true] at hp
        cases e1
        obtain ⟨as, ra⟩ := wx.reads I _ _ _ hp.1 rx
        obtain ⟨a, vs, rfl, q, rs⟩ := wy.ilst
        cases ry
        obtain ⟨its, vv, pl, hz⟩ := I.list q
        obtain ⟨o, ho, hc, n, hd⟩ := pl.isList
        obtain ⟨bs, rb⟩ := rs.reads I _ _ its hp.2 vv
        obtain ⟨c1, d1⟩ := canLay_py 16 _ hp.1
        obtain ⟨c2, d2⟩ := canLayAll_py _ hp.2
        refine SeqAt.in_list_reads (.list ho hc hd (by simpa using rb)) ra c2 c1 (by omega) ?_
        rw [any_py _ hp.1 _ hp.2]
        exact ⟨.bl _, H, I, rfl, kk⟩
      · cases e1
    · split at e1
      · rename_i hp
        rw [Bool.and_eq_true] at hp
        cases e1
        obtain ⟨as, ra⟩ := wx.reads I _ _ _ hp.1 rx
        obtain ⟨a, vs, rfl, q, rs⟩ := wy.itup
        cases ry
        obtain ⟨its, vv, ⟨o, ho, hc, n, hd⟩, hz⟩ := I.tuple q
        obtain ⟨bs, rb⟩ := rs.reads I _ _ its hp.2 vv
        obtain ⟨c1, d1⟩ := canLay_py 16 _ hp.1
        obtain ⟨c2, d2⟩ := canLayAll_py _ hp.2
        refine SeqAt.in_tuple_reads (.tuple ho hc hd (by simpa using rb)) ra c2 c1 (by omega) ?_
        rw [any_py _ hp.1 _ hp.2]
        exact ⟨.bl _, H, I, rfl, kk⟩
      · cases e1
    · split at e1
      · rename_i hp
        rw [Bool.and_eq_true] at hp
        cases e1
        obtain ⟨as, ra⟩ := wx.reads I _ _ _ hp.1 rx
        obtain ⟨a, vs, rfl, q, rs⟩ := wy.ilst
        cases ry
        obtain ⟨its, vv, pl, hz⟩ := I.list q
        obtain ⟨o, ho, hc, n, hd⟩ := pl.isList
        obtain ⟨bs, rb⟩ := rs.reads I _ _ its hp.2 vv
        obtain ⟨c1, d1⟩ := canLay_py 16 _ hp.1
        obtain ⟨c2, d2⟩ := canLayAll_py _ hp.2
        refine SeqAt.notIn_list_reads (.list ho hc hd (by simpa using rb)) ra c2 c1 (by omega) ?_
        rw [any_py _ hp.1 _ hp.2]
        exact ⟨.bl _, H, I, rfl, kk⟩
      · cases e1
    · split at e1
      · rename_i hp
        rw [Bool.and_eq_true] at hp
        cases e1
        obtain ⟨as, ra⟩ := wx.reads I _ _ _ hp.1 rx
        obtain ⟨a, vs, rfl, q, rs⟩ := wy.itup
        cases ry
        obtain ⟨its, vv, ⟨o, ho, hc, n, hd⟩, hz⟩ := I.tuple q
        obtain ⟨bs, rb⟩ := rs.reads I _ _ its hp.2 vv
        obtain ⟨c1, d1⟩ := canLay_py 16 _ hp.1
        obtain ⟨c2, d2⟩ := canLayAll_py _ hp.2
        refine SeqAt.notIn_tuple_reads (.tuple ho hc hd (by simpa using rb)) ra c2 c1 (by omega) ?_
        rw [any_py _ hp.1 _ hp.2]
        exact ⟨.bl _, H, I, rfl, kk⟩
      · cases e1
    · cases e1
end
end MP
set_option Elab.async false
set_option linter.all false
set_option maxRecDepth 100000
set_option maxHeartbeats 4000000
namespace MP
open PySem PySem.Spec PyProof.Rows L2

/-! ### what a def promises -/
/-- the promise by a meaning -/
def spOf (K : PySem.W.Frag) (n : Nat) (f : Den) : Sp := fun vs H Q E => vs.length = n ∧ ∃ th h ds, Wd K th h H ∧ RepVs K H th ds vs ∧
  match f ds h with
  | .ok d h' => ∀ v H' th', RepV K H' th' d v → Wd K th' h' H' → Gr th th' H H' → Q v H'
  | .exc c h' => False
  | .bad => False

structure FnM (X : Cx) (k : Nat) (x : Str) (f : Den) : Prop where
  ex : ∃ (fa : Addr) (fd : FuncData) (ps : List Str), X.mg x = some (.ref fa) ∧ PySem.W.keepIn X.K (.ref fa) = true ∧
    FnOk X.prog X.w X.K X.mg X.base CX0 k fa fd ps (spOf X.K ps.length f) ∧ Binds X.K fd ps [] ∧ ∀ ds h d h', f ds h = .ok d h' → ds.length = ps.length

structure CtxOk (X : Cx) (C : CC) (G : List Den) (k : Nat) : Prop where
  N : X.N = C.N
  nm : X.env.scope.names = C.nm
  nd : C.N.Nodup
  calm : X.calm = true
  room : Room k X.A
  ct : ∀ x d, C.ct.lookup x = some d → ∃ u v, X.mg x = some u ∧ RelV v u ∧ ∀ H th, RepV X.K H th d v
  fs : ∀ (i : Nat) x f, C.fs[i]? = some x → G[i]? = some f → FnM X k x f
  bl : ∀ x, C.bl.contains x = true → X.mg x = none

/-- where names are stored -/
structure CtxS (X : Cx) (C : CC) (G : List Den) (k : Nat) : Prop where
  ok : CtxOk X C G k
  fn : ∀ x, isLoc (lk C.nm x) = true → X.fn x = true ∨ X.env.scope.names.lookup x = some .local
  own : PassesOwn (model X.prog X.w) X.A X.env X.xe

section
variable {X : Cx} {C : CC} {G : List Den} {k : Nat}
theorem CtxOk.units (O : CtxOk X C G k) : X.A.units + 65 < cLine := by have := O.room.un; omega

theorem lookupEq {x : Str} (O : CtxOk X C G k) : X.env.scope.names.lookup x = lk C.nm x := by rw [O.nm]; rfl
theorem isVis_vis {x : Str} (O : CtxOk X C G k) (h : isVis (lk C.nm x) = true) : Vis X.env.scope x := by
  unfold Vis
  rw [lookupEq O]
  cases e : lk C.nm x with
  | none => rw [e] at h; cases h
  | some q =>
    rw [e] at h
    cases q with
    | «local» => exact .inl rfl
    | cell => exact .inr (.inl rfl)
    | free => exact .inr (.inr rfl)
    | globalExplicit => cases h
    | globalImplicit => cases h
theorem isLoc_loc {x : Str} (O : CtxOk X C G k) (h : isLoc (lk C.nm x) = true) : L2.Loc X.env.scope x := by
  unfold L2.Loc
  rw [lookupEq O]
  cases e : lk C.nm x with
  | none => rw [e] at h; cases h
  | some q =>
    rw [e] at h
    cases q with
    | «local» => exact .inl rfl
    | cell => exact .inr rfl
    | free => cases h
    | globalExplicit => cases h
    | globalImplicit => cases h
theorem plain_debug {x : Str} (h : plainName x = true) : (x == ("__debug__" : Str)) = false ∧ (x == ("__classdict__" : Str)) = false ∧ x ≠ "__name__" := by
  unfold plainName at h
  rw [Bool.and_eq_true, Bool.and_eq_true] at h
  obtain ⟨⟨h1, h2⟩, h3⟩ := h
  refine ⟨by simpa using h1, by simpa using h2, ?_⟩
  intro e
  rw [e] at h3
  simp at h3
theorem findIdx_get {x : Str} {i : Nat} : ∀ {l : List Str}, l.findIdx? (· == x) = some i → l[i]? = some x := by
  intro l h
  obtain ⟨h1, h2, _⟩ := List.findIdx?_eq_some_iff_getElem.mp h
  rw [List.getElem?_eq_getElem h1]
  simpa using h2
theorem var_ok {x : Str} {i : Nat} (O : CtxOk X C G k) (h : C.var x = some i) : X.N[i]? = some x ∧ Vis X.env.scope x ∧ plainName x = true := by
  unfold CC.var at h
  split at h
  · rename_i hc
    rw [Bool.and_eq_true] at hc
    rw [O.N]
    exact ⟨findIdx_get h, isVis_vis O hc.1, hc.2⟩
  · cases h
theorem isGl_ok {x : Str} (O : CtxOk X C G k) (h : C.isGl x = true) : Gl X x ∧ plainName x = true := by
  unfold CC.isGl at h
  rw [Bool.and_eq_true] at h
  refine ⟨?_, h.2⟩
  show X.env.scope.names.lookup x = some .globalImplicit
  rw [lookupEq O]
  simpa using h.1

/-! ### names and constants -/
theorem e_con {c : Const} {j : Nat} {pos : Pos} {d : D} {v : V} (hp : PE X (.Constant c j pos) (tC v)) (r : ∀ H th, RepV X.K H th d v) : PE X (.Constant c j pos) (rdE X.K G (.con d)) := by
  refine hp.imp fun σ H Q ⟨th, ρ, h, d', h', w, e, q, kk⟩ => ?_
  cases q
  exact kk v H th (r H th) w (Gr.refl _ _)
theorem e_var {x : Str} {i : Nat} {pos : Pos} (O : CtxOk X C G k) (h : C.var x = some i) : PE X (.Name x pos) (rdE X.K G (.var i)) := by
  obtain ⟨h1, h2, h3⟩ := var_ok O h
  obtain ⟨h4, h5, _⟩ := plain_debug h3
  refine (pe_var h1 h2 h4 h5).imp fun σ H Q ⟨th, ρ, ah, d', h', w, e, q, kk⟩ => ?_
  unfold ev at q
  cases g : getV ρ i with
  | none => rw [g] at q; cases q
  | some d =>
    rw [g] at q
    cases q
    obtain ⟨v, e1, r1⟩ := e.val i _ g
    exact ⟨v, e1, kk v H th r1 w (Gr.refl _ _)⟩
theorem e_glob {x : Str} {d : D} {pos : Pos} (O : CtxOk X C G k) (hg : C.isGl x = true) (h : C.ct.lookup x = some d) : PE X (.Name x pos) (rdE X.K G (.con d)) := by
  obtain ⟨g, pl⟩ := isGl_ok O hg
  obtain ⟨h4, h5, _⟩ := plain_debug pl
  obtain ⟨u, v, hm, r, rr⟩ := O.ct x d h
  refine (pe_glob g hm r h4).imp fun σ H Q ⟨th, ρ, ah, d', h', w, e, q, kk⟩ => ?_
  cases q
  exact kk v H th (rr H th) w (Gr.refl _ _)

/-! ### operators -/
theorem e_bin {a b : Expr} {p q : PX} {op : Operator} {pos : Pos} (ha : PE X a (rdE X.K G p)) (hb : PE X b (rdE X.K G q)) : PE X (.BinOp a op b pos) (rdE X.K G (.bin op p q)) := by
  refine (pe_op (op_binD op) ha hb).imp fun σ H Q ⟨th, ρ, h, d, h', w, e, e1, kk⟩ => ?_
  unfold ev at e1
  obtain ⟨⟨d1, h1⟩, q1, e1⟩ := Option.bind_eq_some_iff.mp e1
  obtain ⟨⟨d2, h2⟩, q2, e1⟩ := Option.bind_eq_some_iff.mp e1
  obtain ⟨d3, q3, e1⟩ := Option.bind_eq_some_iff.mp e1
  cases e1
  exact rd2 w e q1 q2 fun x y H' th' r1 r2 w' g => ⟨th', _, _, _, _, w', r1.view w', r2.view w', q3, fun v H2 r w2 g2 => kk v H2 th' r w2 (g.trans g2)⟩
theorem e_cmp {a b : Expr} {p q : PX} {op : CmpOp} {pos : Pos} (O : CtxOk X C G k) (ha : PE X a (rdE X.K G p)) (hb : PE X b (rdE X.K G q)) (hm : behindInMarks op b = false) : PE X (.Compare a [op] [b] pos) (rdE X.K G (.cmp op p q)) := by
  refine (pe_cmpR (op_cmpD O.units op) ha hb hm).imp fun σ H Q ⟨th, ρ, h, d, h', w, e, e1, kk⟩ => ?_
  unfold ev at e1
  obtain ⟨⟨d1, h1⟩, q1, e1⟩ := Option.bind_eq_some_iff.mp e1
  obtain ⟨⟨d2, h2⟩, q2, e1⟩ := Option.bind_eq_some_iff.mp e1
  obtain ⟨d3, q3, e1⟩ := Option.bind_eq_some_iff.mp e1
  cases e1
  exact rd2 w e q1 q2 fun x y H' th' r1 r2 w' g => ⟨th', _, _, _, _, w', r1.view w', r2.view w', by unfold cmpV; rw [q3]; rfl, fun v H2 r w2 g2 => kk v H2 th' r w2 (g.trans g2)⟩
def rdB (K : PySem.W.Frag) (G : List Den) (b : PB) : TT := fun σ H Q => ∃ th ρ h c h', Wd K th h H ∧ EnvR K H th ρ σ ∧ evB G b ρ h = some (c, h') ∧ ∀ H' th', Wd K th' h' H' → Gr th th' H H' → Q c H'
theorem t_cmp {a b : Expr} {p q : PX} {op : CmpOp} {pos : Pos} (O : CtxOk X C G k) (ha : PE X a (rdE X.K G p)) (hb : PE X b (rdE X.K G q)) (hm : behindInMarks op b = false) : PT X (.Compare a [op] [b] pos) (rdB X.K G (.val (.cmp op p q))) := by
  refine (pt_cmpR (op_cmpD O.units op) ha hb hm).imp fun σ H Q ⟨th, ρ, h, c, h', w, e, e1, kk⟩ => ?_
  unfold evB at e1
  obtain ⟨⟨d0, h0⟩, e0, e1⟩ := Option.bind_eq_some_iff.mp e1
  obtain ⟨c0, e2, e1⟩ := Option.bind_eq_some_iff.mp e1
  cases e1
  unfold ev at e0
  obtain ⟨⟨d1, h1⟩, q1, e0⟩ := Option.bind_eq_some_iff.mp e0
  obtain ⟨⟨d2, h2⟩, q2, e0⟩ := Option.bind_eq_some_iff.mp e0
  obtain ⟨d3, q3, e0⟩ := Option.bind_eq_some_iff.mp e0
  cases e0
  have : c = d3 := by simpa [tru, vw] using e2.symm
  subst this
  refine rd2 w e q1 q2 fun x y H' th' r1 r2 w' g => ⟨th', _, _, _, _, w', r1.view w', r2.view w', by unfold cmpV; rw [q3]; rfl, fun v H2 r w2 g2 => ?_⟩
  cases r
  exact ⟨_, rfl, kk H2 th' w2 (g.trans g2)⟩
/-- a chain of two -/
theorem rd_chain {p q r : PX} {op op' : CmpOp} {σ : St} {H : Hp} {Q : VK} {th : Th} {ρ : Ev} {h h' : AH} {d : D} (w : Wd X.K th h H) (e : EnvR X.K H th ρ σ) (e1 : ev G (.cmp2 op op' p q r) ρ h = some (d, h'))
    (kk : ∀ v H' th', RepV X.K H' th' d v → Wd X.K th' h' H' → Gr th th' H H' → Q v H') :
    tChain (rdOp X.K (cmpV op)) (rdOp X.K (cmpV op')) (rdE X.K G p) (rdE X.K G q) (rdE X.K G r) σ H Q := by
  unfold ev at e1
  obtain ⟨⟨d1, h1⟩, q1, e1⟩ := Option.bind_eq_some_iff.mp e1
  obtain ⟨⟨d2, h2⟩, q2, e1⟩ := Option.bind_eq_some_iff.mp e1
  obtain ⟨b, q3, e1⟩ := Option.bind_eq_some_iff.mp e1
  refine rd2 w e q1 q2 fun x y H' th' r1 r2 w' g => ⟨th', _, _, _, _, w', r1.view w', r2.view w', by unfold cmpV; rw [q3]; rfl, fun v H2 rv w2 g2 => ?_⟩
  cases rv
  refine ⟨b, rfl, ?_⟩
  cases b with
  | false =>
    rw [if_neg Bool.false_ne_true] at e1 ⊢
    cases e1
    exact kk _ H2 th' (.bl _) w2 (g.trans g2)
  | true =>
    rw [if_pos rfl] at e1 ⊢
    obtain ⟨⟨d4, h4⟩, q4, e1⟩ := Option.bind_eq_some_iff.mp e1
    obtain ⟨b5, q5, e1⟩ := Option.bind_eq_some_iff.mp e1
    cases e1
    refine ⟨th', ρ, h2, d4, h4, w2, e.mono (g.trans g2) w2.kd, q4, fun z H4 th4 r4 w4 g4 => ?_⟩
    exact ⟨th4, _, _, _, _, w4, ((r2.mono g2 w2.kd).mono g4 w4.kd).view w4, r4.view w4, by unfold cmpV; rw [q5]; rfl, fun v H5 r5 w5 g5 => kk v H5 th4 r5 w5 (((g.trans g2).trans g4).trans g5)⟩
theorem e_cmp2 {a b c : Expr} {p q r : PX} {op op' : CmpOp} {pos : Pos} (O : CtxOk X C G k) (ha : PE X a (rdE X.K G p)) (hb : PE X b (rdE X.K G q)) (hc : PE X c (rdE X.K G r)) (hm : lastMarks [op, op'] [b, c] = false) :
    PE X (.Compare a [op, op'] [b, c] pos) (rdE X.K G (.cmp2 op op' p q r)) :=
  (pe_chain (op_cmpD O.units op) (op_cmpD O.units op') ha hb hc hm).imp fun σ H Q ⟨th, ρ, h, d, h', w, e, e1, kk⟩ => rd_chain w e e1 kk
theorem t_cmp2 {a b c : Expr} {p q r : PX} {op op' : CmpOp} {pos : Pos} (O : CtxOk X C G k) (ha : PE X a (rdE X.K G p)) (hb : PE X b (rdE X.K G q)) (hc : PE X c (rdE X.K G r)) (hm : lastMarks [op, op'] [b, c] = false) :
    PT X (.Compare a [op, op'] [b, c] pos) (rdB X.K G (.val (.cmp2 op op' p q r))) := by
  refine (pt_chain (op_cmpD O.units op) (op_cmpD O.units op') ha hb hc hm).imp fun σ H Q ⟨th, ρ, h, b, h', w, e, e1, kk⟩ => ?_
  unfold evB at e1
  obtain ⟨⟨d0, h0⟩, e0, e1⟩ := Option.bind_eq_some_iff.mp e1
  obtain ⟨c0, e2, e1⟩ := Option.bind_eq_some_iff.mp e1
  cases e1
  have hb : ∃ z, d0 = .bl z := by
    unfold ev at e0
    obtain ⟨⟨d1, h1⟩, q1, e0⟩ := Option.bind_eq_some_iff.mp e0
    obtain ⟨⟨d2, h2⟩, q2, e0⟩ := Option.bind_eq_some_iff.mp e0
    obtain ⟨z, q3, e0⟩ := Option.bind_eq_some_iff.mp e0
    split at e0
    · obtain ⟨⟨d4, h4⟩, q4, e0⟩ := Option.bind_eq_some_iff.mp e0
      obtain ⟨b5, q5, e0⟩ := Option.bind_eq_some_iff.mp e0
      cases e0
      exact ⟨_, rfl⟩
    · cases e0
      exact ⟨_, rfl⟩
  obtain ⟨z, rfl⟩ := hb
  have : b = z := by simpa [tru, vw] using e2.symm
  subst this
  exact rd_chain w e e0 fun v H' th' rv w' g => by cases rv; exact ⟨_, rfl, kk H' th' w' g⟩
theorem e_neg {a : Expr} {p : PX} {pos : Pos} (ha : PE X a (rdE X.K G p)) : PE X (.UnaryOp .USub a pos) (rdE X.K G (.neg p)) := by
  refine (pe_un un_neg ha).imp fun σ H Q ⟨th, ρ, h, d, h', w, e, e1, kk⟩ => ?_
  unfold ev at e1
  obtain ⟨⟨d1, h1⟩, q1, e1⟩ := Option.bind_eq_some_iff.mp e1
  refine ⟨th, ρ, h, d1, h1, w, e, q1, fun v H' th' r w' g => ?_⟩
  cases d1 with
  | int i => cases e1; cases r; exact ⟨_, rfl, kk _ H' th' (.int _) w' g⟩
  | _ => cases e1
theorem e_not {a : Expr} {p : PX} {pos : Pos} (ha : PE X a (rdE X.K G p)) : PE X (.UnaryOp .Not a pos) (rdE X.K G (.not p)) := by
  refine (pe_not ha).imp fun σ H Q ⟨th, ρ, h, d, h', w, e, e1, kk⟩ => ?_
  unfold ev at e1
  obtain ⟨⟨d1, h1⟩, q1, e1⟩ := Option.bind_eq_some_iff.mp e1
  refine ⟨th, ρ, h, d1, h1, w, e, q1, fun v H' th' r w' g => ?_⟩
  cases d1 with
  | bl i => cases e1; cases r; exact ⟨_, rfl, kk _ H' th' (.bl _) w' g⟩
  | _ => cases e1
theorem e_and {a b : Expr} {rest : List Expr} {p q : PX} {pos : Pos} (ha : PE X a (rdE X.K G p)) (hb : PE X (.BoolOp .And (b :: rest) pos) (rdE X.K G q)) : PE X (.BoolOp .And (a :: b :: rest) pos) (rdE X.K G (.and p q)) := by
  refine (pe_and ha hb).imp fun σ H Q ⟨th, ρ, h, d, h', w, e, e1, kk⟩ => ?_
  unfold ev at e1
  obtain ⟨⟨d1, h1⟩, q1, e1⟩ := Option.bind_eq_some_iff.mp e1
  refine ⟨th, ρ, h, d1, h1, w, e, q1, fun v H' th' r w' g => ?_⟩
  cases d1 with
  | bl i =>
    cases r
    refine ⟨i, rfl, ?_⟩
    cases i with
    | true => exact ⟨th', ρ, h1, d, h', w', e.mono g w'.kd, e1, fun v H2 th2 r2 w2 g2 => kk v H2 th2 r2 w2 (g.trans g2)⟩
    | false =>
      have e1 : some (D.bl false, h1) = some (d, h') := e1
      cases e1
      exact kk _ H' th' (.bl _) w' g
  | _ => cases e1
theorem e_or {a b : Expr} {rest : List Expr} {p q : PX} {pos : Pos} (ha : PE X a (rdE X.K G p)) (hb : PE X (.BoolOp .Or (b :: rest) pos) (rdE X.K G q)) : PE X (.BoolOp .Or (a :: b :: rest) pos) (rdE X.K G (.or p q)) := by
  refine (pe_or ha hb).imp fun σ H Q ⟨th, ρ, h, d, h', w, e, e1, kk⟩ => ?_
  unfold ev at e1
  obtain ⟨⟨d1, h1⟩, q1, e1⟩ := Option.bind_eq_some_iff.mp e1
  refine ⟨th, ρ, h, d1, h1, w, e, q1, fun v H' th' r w' g => ?_⟩
  cases d1 with
  | bl i =>
    cases r
    refine ⟨i, rfl, ?_⟩
    cases i with
    | false => exact ⟨th', ρ, h1, d, h', w', e.mono g w'.kd, e1, fun v H2 th2 r2 w2 g2 => kk v H2 th2 r2 w2 (g.trans g2)⟩
    | true =>
      have e1 : some (D.bl true, h1) = some (d, h') := e1
      cases e1
      exact kk _ H' th' (.bl _) w' g
  | _ => cases e1
theorem e_ite {c a b : Expr} {r : PB} {p q : PX} {pos : Pos} (hc : PT X c (rdB X.K G r)) (ha : PE X a (rdE X.K G p)) (hb : PE X b (rdE X.K G q)) : PE X (.IfExp c a b pos) (rdE X.K G (.ite r p q)) := by
  refine (pe_ifExp hc ha hb).imp fun σ H Q ⟨th, ρ, h, d, h', w, e, e1, kk⟩ => ?_
  unfold ev at e1
  obtain ⟨⟨d1, h1⟩, q1, e1⟩ := Option.bind_eq_some_iff.mp e1
  refine ⟨th, ρ, h, d1, h1, w, e, q1, fun H' th' w' g => ?_⟩
  cases d1 with
  | true => exact ⟨th', ρ, h1, d, h', w', e.mono g w'.kd, e1, fun v H2 th2 r2 w2 g2 => kk v H2 th2 r2 w2 (g.trans g2)⟩
  | false => exact ⟨th', ρ, h1, d, h', w', e.mono g w'.kd, e1, fun v H2 th2 r2 w2 g2 => kk v H2 th2 r2 w2 (g.trans g2)⟩

/-! ### tests -/
theorem t_not {a : Expr} {b : PB} {pos : Pos} (ha : PT X a (rdB X.K G b)) : PT X (.UnaryOp .Not a pos) (rdB X.K G (.not b)) := by
  refine (pt_not ha).imp fun σ H Q ⟨th, ρ, h, c, h', w, e, e1, kk⟩ => ?_
  unfold evB at e1
  obtain ⟨⟨d1, h1⟩, q1, e1⟩ := Option.bind_eq_some_iff.mp e1
  cases e1
  exact ⟨th, ρ, h, d1, _, w, e, q1, fun H' th' w' g => kk H' th' w' g⟩
theorem w_and {a b : Expr} {rest : List Expr} {p q : PB} {pos : Pos} (ha : PT X a (rdB X.K G p)) (hb : PW X (.BoolOp .And (b :: rest) pos) (rdB X.K G q)) : PW X (.BoolOp .And (a :: b :: rest) pos) (rdB X.K G (.and p q)) := by
  refine (pw_and ha hb).imp fun σ H Q ⟨th, ρ, h, c, h', w, e, e1, kk⟩ => ?_
  unfold evB at e1
  obtain ⟨⟨d1, h1⟩, q1, e1⟩ := Option.bind_eq_some_iff.mp e1
  refine ⟨th, ρ, h, d1, h1, w, e, q1, fun H' th' w' g => ?_⟩
  cases d1 with
  | true => exact ⟨th', ρ, h1, c, h', w', e.mono g w'.kd, e1, fun H2 th2 w2 g2 => kk H2 th2 w2 (g.trans g2)⟩
  | false =>
    have e1 : some (false, h1) = some (c, h') := e1
    cases e1
    exact kk H' th' w' g
theorem w_or {a b : Expr} {rest : List Expr} {p q : PB} {pos : Pos} (ha : PT X a (rdB X.K G p)) (hb : PW X (.BoolOp .Or (b :: rest) pos) (rdB X.K G q)) : PW X (.BoolOp .Or (a :: b :: rest) pos) (rdB X.K G (.or p q)) := by
  refine (pw_or ha hb).imp fun σ H Q ⟨th, ρ, h, c, h', w, e, e1, kk⟩ => ?_
  unfold evB at e1
  obtain ⟨⟨d1, h1⟩, q1, e1⟩ := Option.bind_eq_some_iff.mp e1
  refine ⟨th, ρ, h, d1, h1, w, e, q1, fun H' th' w' g => ?_⟩
  cases d1 with
  | false => exact ⟨th', ρ, h1, c, h', w', e.mono g w'.kd, e1, fun H2 th2 w2 g2 => kk H2 th2 w2 (g.trans g2)⟩
  | true =>
    have e1 : some (true, h1) = some (c, h') := e1
    cases e1
    exact kk H' th' w' g
/-- truth of a value that is read -/
theorem tru_V {H : Hp} {th : Th} {h : AH} {d : D} {v : V} {c : Bool} (w : Wd X.K th h H) (r : RepV X.K H th d v) (e : tru h d = some c) : TruV X.K v H c := by
  have rw' := r.view w
  unfold tru at e
  split at e
  · rename_i hv; rw [hv] at rw'; cases rw'.inon; cases e; rfl
  · rename_i hv; rw [hv] at rw'; cases rw'.ibl; cases e; rfl
  · rename_i hv; rw [hv] at rw'; cases rw'.iint; cases e; rfl
  · rename_i s hv
    rw [hv] at rw'; cases rw'.istr
    split at e
    · rename_i hl
      cases e
      refine ⟨by rw [SS_length, SZ_eq]; exact hl, ?_⟩
      rw [SS_length]
      cases s <;> simp
      omega
    · cases e
  · rename_i xs hv
    rw [hv] at rw'
    cases e
    obtain ⟨a, vs, rfl, q, rs⟩ := rw'.itup
    refine .inr (.inl ⟨vs, q, ?_⟩)
    cases rs <;> rfl
  · rename_i xs hv
    rw [hv] at rw'
    cases e
    obtain ⟨a, vs, rfl, q, rs⟩ := rw'.ilst
    refine .inl ⟨vs, q, ?_⟩
    cases rs <;> rfl
  · cases e
theorem t_val {a : Expr} {p : PX} (ha : PE X a (rdE X.K G p)) (he : ∀ whole, isTrue a X.env whole = (do let v ← whole; standAt a.pos; holding [v] (truthy v))) : PT X a (rdB X.K G (.val p)) := by
  refine (pt_truth ha he).imp fun σ H Q ⟨th, ρ, h, c, h', w, e, e1, kk⟩ => ?_
  unfold evB at e1
  obtain ⟨⟨d1, h1⟩, q1, e1⟩ := Option.bind_eq_some_iff.mp e1
  obtain ⟨c1, q2, e1⟩ := Option.bind_eq_some_iff.mp e1
  cases e1
  exact ⟨th, ρ, h, d1, _, w, e, q1, fun v H' th' r w' g => ⟨_, tru_V w' r q2, kk H' th' w' g⟩⟩

/-! ### argument lists, displays -/
theorem a_nil : PA X [] (rdA X.K G []) := by
  refine pa_nil.imp fun σ H Q ⟨th, ρ, h, ds, h', w, e, e1, kk⟩ => ?_
  cases e1
  exact kk [] H th .nil w (Gr.refl _ _)
theorem a_cons {e : Expr} {es : List Expr} {p : PX} {ps : List PX} (ha : PE X e (rdE X.K G p)) (hr : PA X es (rdA X.K G ps)) (hs : starEach (e :: es) X.env = (false, eval e X.env) :: starEach es X.env) : PA X (e :: es) (rdA X.K G (p :: ps)) := by
  refine (pa_cons ha hr hs).imp fun σ H Q ⟨th, ρ, h, ds, h', w, e, e1, kk⟩ => ?_
  unfold evs at e1
  obtain ⟨⟨d1, h1⟩, q1, e1⟩ := Option.bind_eq_some_iff.mp e1
  obtain ⟨⟨d2, h2⟩, q2, e1⟩ := Option.bind_eq_some_iff.mp e1
  cases e1
  exact ⟨th, ρ, h, d1, h1, w, e, q1, fun v H1 th1 r1 w1 g1 => ⟨th1, ρ, h1, d2, _, w1, e.mono g1 w1.kd, q2, fun vs H2 th2 r2 w2 g2 => kk _ H2 th2 (.cons (r1.mono g2 w2.kd) r2) w2 (g1.trans g2)⟩⟩
theorem e_tup {es : List Expr} {ps : List PX} {j : Nat} {pos : Pos} (ha : PA X es (rdA X.K G ps)) : PE X (.Tuple es j pos) (rdE X.K G (.tup ps)) := by
  refine (pe_tup ha).imp fun σ H Q ⟨th, ρ, h, d, h', w, e, e1, kk⟩ => ?_
  unfold ev at e1
  obtain ⟨⟨ds, h1⟩, q1, e1⟩ := Option.bind_eq_some_iff.mp e1
  refine ⟨th, ρ, h, ds, h1, w, e, q1, fun vs H' th' r w' g => ?_⟩
  have hl := r.length
  split at e1
  · rename_i hz
    cases e1
    refine ⟨by rw [← hl, SZ_eq]; exact hz, fun p hp => ?_⟩
    have g2 := Gr.laid (H := H') (o := .tup vs) th' hp
    exact kk _ _ th' (.tup (SqT.of upd_same) (r.mono g2 w'.kd)) (w'.laid hp) (g.trans g2)
  · cases e1
theorem e_lst {es : List Expr} {ps : List PX} {pos : Pos} (ha : PA X es (rdA X.K G ps)) : PE X (.List es pos) (rdE X.K G (.lst ps)) := by
  refine (pe_lst ha).imp fun σ H Q ⟨th, ρ, h, d, h', w, e, e1, kk⟩ => ?_
  unfold ev at e1
  obtain ⟨⟨ds, h1⟩, q1, e1⟩ := Option.bind_eq_some_iff.mp e1
  refine ⟨th, ρ, h, ds, h1, w, e, q1, fun vs H' th' r w' g => ?_⟩
  have hl := r.length
  split at e1
  · rename_i hz
    cases e1
    refine ⟨by rw [← hl, SZ_eq]; exact hz, fun p hp => ?_⟩
    have g2 := Gr.laid (H := H') (o := .lst vs) th' hp
    exact kk _ _ th' (.lst (SqL.of upd_same) (w'.notin hp) (r.mono g2 w'.kd)) (w'.laid hp) (g.trans g2)
  · cases e1
/-- a list that may change: its address is none of the text's own -/
theorem pe_lstN {es : List Expr} {t : TA} {pos : Pos} (h : PA X es t) : PE X (.List es pos) (fun σ H Q => t σ H fun xs H1 => xs.length ≤ sizeLine ∧ ∀ p, H1 p = none → X.K.lookup p = none → Q (.ref p) (upd H1 p (.lst xs))) := by
  intro pins s σ H Q I hq
  refine wpAny_List_spliced (thn (h pos pins s σ H _ I hq) fun us s1 ⟨xs, H1, I1, r, z, q⟩ => ⟨by rw [← r.length]; exact z, ?_⟩)
  have hf : H1 s1.heap.objs.size = none := I1.hok.fresh (Nat.le_refl _)
  have hk : X.K.lookup s1.heap.objs.size = none := by
    cases e : X.K.lookup s1.heap.objs.size with
    | none => rfl
    | some o => exact absurd (Heap.lt_size (I1.kIn _ _ e)) (Nat.lt_irrefl _)
  refine ⟨.ref s1.heap.objs.size, upd H1 s1.heap.objs.size (.lst xs), I1.laid (t' := s1.toks) (fun b u e => Heap.get?_push_of_some _ e) (Nat.le_refl _) ?_, rfl, q _ hf hk⟩
  exact ⟨z, us, 0, r, Heap.get?_push_size _ rfl⟩
theorem e_new {es : List Expr} {ps : List PX} {pos : Pos} (ha : PA X es (rdA X.K G ps)) : PE X (.List es pos) (rdE X.K G (.new ps)) := by
  refine (pe_lstN ha).imp fun σ H Q ⟨th, ρ, h, d, h', w, e, e1, kk⟩ => ?_
  unfold ev at e1
  obtain ⟨⟨ds, h1⟩, q1, e1⟩ := Option.bind_eq_some_iff.mp e1
  refine ⟨th, ρ, h, ds, h1, w, e, q1, fun vs H' th' r w' g => ?_⟩
  have hl := r.length
  split at e1
  · rename_i hz
    cases e1
    refine ⟨by rw [← hl, SZ_eq]; exact hz, fun p hp hk => ?_⟩
    have g2 := Gr.added (H := H') (o := .lst vs) th' hp
    have kd2 : ∀ a ∈ th' ++ [p], X.K.lookup a = none := fun a m => by
      rcases List.mem_append.mp m with z | z
      · exact w'.kd a z
      · have : a = p := by simpa using z
        rw [this]; exact hk
    refine kk _ _ (th' ++ [p]) (.ref ?_) (w'.added hp hk ⟨vs, upd_same, r.mono g2 kd2⟩) (g.trans g2)
    show (th' ++ [p])[h1.length]? = some p
    rw [← w'.len]
    simp
  · cases e1
end
end MP
set_option Elab.async false
set_option linter.all false
set_option maxRecDepth 100000
set_option maxHeartbeats 4000000
namespace MP
open PySem PySem.Spec PyProof.Rows L2

section
variable {X : Cx} {G : List Den}
/-! ### an item -/
theorem atI_rep {K : PySem.W.Frag} {H : Hp} {th : Th} {ds : List D} {vs : List V} {i : Int} {d : D} (r : RepVs K H th ds vs) (e : atI ds i = some d) : ∃ v, L2.atI vs i = some v ∧ RepV K H th d v := by
  unfold atI at e
  obtain ⟨j, e1, e2⟩ := Option.bind_eq_some_iff.mp e
  obtain ⟨v, e3, r3⟩ := r.get e2
  refine ⟨v, ?_, r3⟩
  show (L2.ixN vs.length i).bind _ = _
  rw [← r.length]
  have e1' : L2.ixN ds.length i = some j := e1
  rw [e1']
  exact e3
theorem ix_D : IxR X (rdOp X.K idxD) := by
  intro value slice pins s σ H x y v u Q I rx ry h hs
  obtain ⟨th, ah, dx, dy, d, w, wx, wy, e, k⟩ := h
  have kk : ∀ v, RepV X.K H th d v → Q v H := fun v r => k v H r w (Gr.refl _ _)
  unfold idxD at e
  split at e
  · obtain ⟨a, vs, rfl, q, rs⟩ := wx.ilst
    cases wy.iint
    obtain ⟨z, e1, r1⟩ := atI_rep rs e
    exact ix_list value slice pins s σ H _ _ v u Q I rx ry ⟨a, vs, _, z, rfl, rfl, q, e1, kk z r1⟩ hs
  · obtain ⟨a, vs, rfl, q, rs⟩ := wx.itup
    cases wy.iint
    obtain ⟨z, e1, r1⟩ := atI_rep rs e
    exact ix_tup value slice pins s σ H _ _ v u Q I rx ry ⟨a, vs, _, z, rfl, rfl, q, e1, kk z r1⟩ hs
  · split at e
    · rename_i z i hz
      cases wx.istr
      cases wy.iint
      cases e1 : atI z i with
      | none => rw [e1] at e; cases e
      | some c =>
        rw [e1] at e
        cases e
        refine ix_str value slice pins s σ H _ _ v u Q I rx ry ⟨SS z, i, c, rfl, rfl, by rw [SS_length, SZ_eq]; exact hz, ?_, kk _ (.str [c])⟩ hs
        show L2.atI (z.toArray).toList i = some c
        rw [List.toList_toArray]
        exact e1
    · cases e
  · cases e
theorem e_idx {a b : Expr} {p q : PX} {pos : Pos} (ha : PE X a (rdE X.K G p)) (hb : PE X b (rdE X.K G q)) (hs : PlainIx b) : PE X (.Subscript a b pos) (rdE X.K G (.idx p q)) := by
  refine (pe_ix ix_D ha hb hs).imp fun σ H Q ⟨th, ρ, h, d, h', w, e, e1, kk⟩ => ?_
  unfold ev at e1
  obtain ⟨⟨d1, h1⟩, q1, e1⟩ := Option.bind_eq_some_iff.mp e1
  obtain ⟨⟨d2, h2⟩, q2, e1⟩ := Option.bind_eq_some_iff.mp e1
  obtain ⟨d3, q3, e1⟩ := Option.bind_eq_some_iff.mp e1
  cases e1
  refine rd2 w e q1 q2 fun x y H' th' r1 r2 w' g => ⟨th', h2, vw h2 d1, d2, _, w', r1.view w', ?_, q3, fun v H2 r w2 g2 => kk v H2 th' r w2 (g.trans g2)⟩
  cases d2 with
  | lst ds => cases r2 with | lst q n r => exact ⟨_, _, rfl, q, r⟩
  | _ => exact r2

/-! ### slices -/
theorem sIx_eq (n d : Nat) (o : Option Int) : sIx n d o = HT.sIx n d o := by cases o <;> rfl
theorem cut_rep {K : PySem.W.Frag} {H : Hp} {th : Th} {ds : List D} {vs : List V} (lo hi : Option Int) (r : RepVs K H th ds vs) : RepVs K H th (cut ds lo hi) (cutV vs lo hi) := by
  unfold cut cutV
  rw [sIx_eq, sIx_eq, r.length]
  exact (r.drop _).take _
/-- the whole of a tuple: itself -/
theorem getItem_tuple_all {prog : Program} {w : World} {A : Around} {E : Value → Shared → Prop} {s : Shared} {t sl : Addr} {items : Array Value} {vl vu : Value} {lo hi : Option Int} {Q : Value → Shared → Prop} (ht : IsTup s.heap t items) (hs : s.heap.IsSliceOf sl vl vu .none) (pl : IsPart vl lo) (pu : IsPart vu hi)
    (hw : HT.sIx items.size 0 lo = 0 ∧ HT.sIx items.size items.size hi = items.size) (h : Q (.ref t) s) : wpAny (model prog w) A (getItem (.ref t) (.ref sl)) Q E s := by
  obtain ⟨os, hos, hcs, hds⟩ := id hs
  have hTs : s.TypeIs (.ref sl) "slice" := ⟨os, hos, hcs⟩
  unfold getItem
  try with_reducible refine wpAny_holding ?_
  first | refine wpAny_bind (wpAny_pure ?_) | skip
  refine wpAny_bind (wpAny_sequenceKey ht.typeIs (by decide) ?_)
  refine wpAny_bind (wpAny_callSpecial?_slot (name := Str.ofString "__getitem__") ht.typeIs PyProof.Rows.slot_tuple_getitem
    (wpAny_call_entry PyProof.Rows.slot_tuple_getitem ht.typeIs entry_tuple_getitem ?_ (args_tuple_getitem _ _)))
  show wpAny _ _ (Builtin.Tuple.tupleItemsOf (.ref t) >>= _) _ _ s
  refine wpAny_bind (tupleItemsOf_ ht ?_)
  refine wpAny_bind (wpAny_typeOf hTs ?_)
  rw [if_pos (by decide)]
  refine wpAny_bind (HT.sliceApplied_gen hs pl pu ?_)
  have hyes : (((HT.sIx items.size 0 lo : Nat) : Int) == 0 && (1 : Int) == 1 && (HT.sIx items.size items.size hi - HT.sIx items.size 0 lo) == items.size) = true := by
    rw [hw.1, hw.2]
    simp
  show wpAny _ _ (if (((HT.sIx items.size 0 lo : Nat) : Int) == 0 && (1 : Int) == 1 && (HT.sIx items.size items.size hi - HT.sIx items.size 0 lo) == items.size) = true then _ else _) _ _ s
  rw [if_pos hyes]
  unfold Builtin.Tuple.tupleIsExact
  refine wpAny_bind (wpAny_bind (wpAny_typeOf ht.typeIs (wpAny_pure ?_)))
  rw [if_pos (by decide)]
  exact wpAny_bind (wpAny_rule (wpAny_pure ⟨_, rfl, wpAny_pure h⟩))
theorem pick_list {α : Type} (s : List α) (a : Nat) : ∀ k : Nat, (List.range k).filterMap (fun m => s[a + m]?) = (s.drop a).take k
  | 0 => by simp
  | k + 1 => by
    rw [List.range_succ, List.filterMap_append, pick_list s a k, List.take_add_one]
    congr 1
    rw [List.getElem?_drop]
    cases e : s[a + k]? <;> simp [e]
theorem clip_ix (n : Nat) (d : Nat) (hd : d ≤ n) (o : Option Int) :
    (match o with | none => (d : Int) | some i => if (1 : Int) > 0 then max 0 (min (if i < 0 then i + (n : Int) else i) (n : Int)) else max (-1) (min (if i < 0 then i + (n : Int) else i) ((n : Int) - 1))) = ((sIx n d o : Nat) : Int) := by
  cases o with
  | none => rfl
  | some i =>
    show (if (1 : Int) > 0 then max 0 (min (if i < 0 then i + (n : Int) else i) (n : Int)) else max (-1) (min (if i < 0 then i + (n : Int) else i) ((n : Int) - 1))) = _
    rw [if_pos (show (1 : Int) > 0 by decide)]
    show _ = (((if i < 0 then (i + (n : Int)).toNat else min i.toNat n) : Nat) : Int)
    split <;> omega
theorem sIx_le' (n d : Nat) (hd : d ≤ n) (o : Option Int) : sIx n d o ≤ n := by
  cases o with
  | none => exact hd
  | some i =>
    show (if i < 0 then (i + (n : Int)).toNat else min i.toNat n) ≤ n
    split <;> omega
theorem strIdx_eq (n : Nat) (lo hi : Option Int) : Builtin.Str.strSliceIndices lo hi 1 n = (List.range (sIx n n hi - sIx n 0 lo)).map fun k => sIx n 0 lo + k := by
  have e1 := clip_ix n 0 (Nat.zero_le _) lo
  have e2 := clip_ix n n (Nat.le_refl _) hi
  have e : Builtin.Str.strSliceIndices lo hi 1 n = sliceRange ((sIx n 0 lo : Nat) : Int) ((sIx n n hi : Nat) : Int) 1 := by
    rw [← e1, ← e2]
    rfl
  rw [e]
  unfold sliceRange
  rw [if_pos (show (1 : Int) > 0 by decide)]
  have c : (if ((sIx n 0 lo : Nat) : Int) < ((sIx n n hi : Nat) : Int) then (((sIx n n hi : Nat) : Int) - ((sIx n 0 lo : Nat) : Int) + 1 - 1) / 1 else 0).toNat = sIx n n hi - sIx n 0 lo := by
    rw [Int.ediv_one]
    split <;> omega
  show (List.range (if ((sIx n 0 lo : Nat) : Int) < ((sIx n n hi : Nat) : Int) then (((sIx n n hi : Nat) : Int) - ((sIx n 0 lo : Nat) : Int) + 1 - 1) / 1 else 0).toNat).map _ = _
  rw [c]
  refine List.map_congr_left fun k _ => ?_
  show (((sIx n 0 lo : Nat) : Int) + 1 * (k : Int)).toNat = _
  omega
theorem strSlice_eq (s : List Nat) (lo hi : Option Int) : Txt.slice (SS s) lo hi = SS (cut s lo hi) := by
  unfold Txt.slice
  rw [SS_length, strIdx_eq]
  have pk : (List.filterMap (fun x => (SS s).cps[x]?) ((List.range (sIx s.length s.length hi - sIx s.length 0 lo)).map fun k => sIx s.length 0 lo + k)) = cut s lo hi := by
    rw [List.filterMap_map]
    have : ((fun x => (SS s).cps[x]?) ∘ fun k => sIx s.length 0 lo + k) = fun m => s[sIx s.length 0 lo + m]? := by
      funext k
      show s.toArray[_]? = _
      simp
    rw [this, pick_list]
    rfl
  rw [pk]
  split
  · rename_i hc
    have hl : sIx s.length s.length hi - sIx s.length 0 lo = s.length := by
      have := (Bool.and_eq_true_iff.mp hc).2
      simpa using this
    have h2 := sIx_le' s.length s.length (Nat.le_refl _) hi
    have h3 := sIx_le' s.length 0 (Nat.zero_le _) lo
    have h0 : sIx s.length 0 lo = 0 := by omega
    have h1 : sIx s.length s.length hi = s.length := by omega
    unfold cut
    rw [h0, h1]
    simp
  · rfl
def rdSl (K : PySem.W.Frag) : V → Option Int → Option Int → Hp → VK → Prop := fun x lo hi H Q => ∃ th h dx d, Wd K th h H ∧ RepW K H th dx x ∧ slD dx lo hi = some d ∧
  ∀ v H', RepV K H' th d v → Wd K th h H' → Gr th th H H' → Q v H'
theorem isPart_str {v : Value} {o : Option Int} (p : IsPart v o) : ∃ z : Option (Int × Tok), v = partValue z ∧ z.map (·.1) = o := by
  cases p with
  | none => exact ⟨none, rfl, rfl⟩
  | int i t => exact ⟨some (i, t), rfl, rfl⟩
theorem sl_D : SlR X (rdSl X.K) := by
  intro pins s σ H x v vl vu lo hi sl Q I rx hs pl pu h
  obtain ⟨th, ah, dx, d, w, wx, e, k⟩ := h
  have kk : ∀ v, RepV X.K H th d v → Q v H := fun v r => k v H r w (Gr.refl _ _)
  unfold slD at e
  split at e
  · cases e
    obtain ⟨a, vs, rfl, q, rs⟩ := wx.ilst
    refine sl_list pins s σ H _ v vl vu lo hi sl Q I rx hs pl pu ⟨a, vs, rfl, q, fun p hp => ?_⟩
    have g := Gr.laid (H := H) (o := .lst (cutV vs lo hi)) th hp
    exact k _ _ (.lst (SqL.of upd_same) (w.notin hp) ((cut_rep lo hi rs).mono g w.kd)) (w.laid hp) g
  · cases e
    rename_i xs
    obtain ⟨a, vs, rfl, q, rs⟩ := wx.itup
    by_cases hw : HT.sIx vs.length 0 lo = 0 ∧ HT.sIx vs.length vs.length hi = vs.length
    · cases rx
      obtain ⟨its, r, ht, hz⟩ := I.tuple q
      have hlen : its.toArray.size = vs.length := by rw [List.size_toArray]; exact r.length.symm
      refine ⟨"tuple", _, PyProof.Rows.slot_tuple_getitem.lookup, ht.typeIs, getItem_tuple_all ht hs pl pu (by rw [hlen]; exact hw) ⟨.ref a, H, I, rfl, kk _ ?_⟩⟩
      have : cut xs lo hi = xs := by
        unfold cut
        rw [sIx_eq, sIx_eq, rs.length, hw.1, hw.2]
        have := rs.length
        simp [List.take_of_length_le, this]
      rw [this]
      exact .tup q rs
    · refine sl_tup pins s σ H _ v vl vu lo hi sl Q I rx hs pl pu ⟨a, vs, rfl, q, hw, fun p hp => ?_⟩
      have g := Gr.laid (H := H) (o := .tup (cutV vs lo hi)) th hp
      exact k _ _ (.tup (SqT.of upd_same) ((cut_rep lo hi rs).mono g w.kd)) (w.laid hp) g
  · split at e
    · rename_i z hz
      cases e
      cases wx.istr
      obtain ⟨t, rfl⟩ := rx
      obtain ⟨zl, rfl, el⟩ := isPart_str pl
      obtain ⟨zu, rfl, eu⟩ := isPart_str pu
      refine ⟨"str", _, F.slot_str_getitem.lookup, typeIs_str _ _ _, wpAny_getItem_str_slice (l := zl) (u := zu) (st := none) hs rfl ?_⟩
      have hsz : (SS z).length ≤ sizeLine := by rw [SS_length, SZ_eq]; exact hz
      subst el eu
      have e1 : sliceMade (SS z) t zl zu none = (if ((1 : Int) == 1 && (Builtin.Str.strSliceIndices (zl.map (·.1)) (zu.map (·.1)) 1 (SS z).length).length == (SS z).length) = true then Made.val (.str (SS z) t)
        else Made.str ⟨((Builtin.Str.strSliceIndices (zl.map (·.1)) (zu.map (·.1)) 1 (SS z).length).filterMap ((SS z).cps[·]?)).toArray⟩) := rfl
      have e2 : Txt.slice (SS z) (zl.map (·.1)) (zu.map (·.1)) = (if ((1 : Int) == 1 && (Builtin.Str.strSliceIndices (zl.map (·.1)) (zu.map (·.1)) 1 (SS z).length).length == (SS z).length) = true then SS z
        else ⟨((Builtin.Str.strSliceIndices (zl.map (·.1)) (zu.map (·.1)) 1 (SS z).length).filterMap ((SS z).cps[·]?)).toArray⟩) := rfl
      rw [e1]
      refine post_val_or_str ?_
      rw [← e2]
      refine ⟨Nat.le_trans (Txt.slice_le (SS z) (zl.map (·.1)) (zu.map (·.1))) hsz, fun t' k' => ?_⟩
      rw [strSlice_eq]
      exact ⟨.str (SS (cut z (zl.map (·.1)) (zu.map (·.1)))), H, I.tok _, ⟨t', rfl⟩, kk _ (.str _)⟩
    · cases e
  · cases e
def rdO (K : PySem.W.Frag) (G : List Den) (p : Option PX) : TO := fun σ H Q => ∃ th ρ h o h', Wd K th h H ∧ EnvR K H th ρ σ ∧ evo G p ρ h = some (o, h') ∧ ∀ H' th', Wd K th' h' H' → Gr th th' H H' → Q o H'
theorem _root_.L2.PO.imp {e : Option Expr} {t t' : TO} (p : PO X e t) (h : ∀ σ H Q, t' σ H Q → t σ H Q) : PO X e t' := fun pins s σ H Q I q => p pins s σ H Q I (h σ H Q q)
theorem o_none : PO X none (rdO X.K G none) := by
  refine po_none.imp fun σ H Q ⟨th, ρ, h, o, h', w, e, e1, kk⟩ => ?_
  cases e1
  exact kk H th w (Gr.refl _ _)
theorem o_some {e : Expr} {p : PX} (h : PE X e (rdE X.K G p)) : PO X (some e) (rdO X.K G (some p)) := by
  refine (po_some h).imp fun σ H Q ⟨th, ρ, h, o, h', w, e, e1, kk⟩ => ?_
  unfold evo at e1
  obtain ⟨⟨d1, h1⟩, q1, e1⟩ := Option.bind_eq_some_iff.mp e1
  refine ⟨th, ρ, h, d1, h1, w, e, q1, fun v H' th' r w' g => ?_⟩
  cases d1 with
  | int i => cases e1; cases r; exact ⟨_, rfl, kk H' th' w' g⟩
  | _ => cases e1
theorem e_sl {a : Expr} {lo hi : Option Expr} {p : PX} {l u : Option PX} {p2 pos : Pos} (ha : PE X a (rdE X.K G p)) (hl : PO X lo (rdO X.K G l)) (hu : PO X hi (rdO X.K G u)) : PE X (.Subscript a (.Slice lo hi none p2) pos) (rdE X.K G (.sl p l u)) := by
  refine (pe_slice sl_D ha hl hu).imp fun σ H Q ⟨th, ρ, h, d, h', w, e, e1, kk⟩ => ?_
  unfold ev at e1
  obtain ⟨⟨d1, h1⟩, q1, e1⟩ := Option.bind_eq_some_iff.mp e1
  obtain ⟨⟨d2, h2⟩, q2, e1⟩ := Option.bind_eq_some_iff.mp e1
  obtain ⟨⟨d3, h3⟩, q3, e1⟩ := Option.bind_eq_some_iff.mp e1
  obtain ⟨d4, q4, e1⟩ := Option.bind_eq_some_iff.mp e1
  cases e1
  exact ⟨th, ρ, h, d1, h1, w, e, q1, fun x H1 th1 r1 w1 g1 => ⟨th1, ρ, h1, d2, h2, w1, e.mono g1 w1.kd, q2, fun H2 th2 w2 g2 => ⟨th2, ρ, h2, d3, _, w2, e.mono (g1.trans g2) w2.kd, q3, fun H3 th3 w3 g3 =>
    ⟨th3, _, _, _, w3, ((r1.mono g2 w2.kd).mono g3 w3.kd).view w3, q4, fun v H4 r4 w4 g4 => kk v H4 th3 r4 w4 (((g1.trans g2).trans g3).trans g4)⟩⟩⟩⟩

/-! ### built-in functions -/
inductive RepWs (K : PySem.W.Frag) (H : Hp) (th : Th) : List D → List V → Prop
  | nil : RepWs K H th [] []
  | cons {d : D} {v : V} {ds : List D} {vs : List V} : RepW K H th d v → RepWs K H th ds vs → RepWs K H th (d :: ds) (v :: vs)
theorem RepVs.views {K : PySem.W.Frag} {H : Hp} {th : Th} {h : AH} (w : Wd K th h H) : ∀ {ds : List D} {vs : List V}, RepVs K H th ds vs → RepWs K H th (ds.map (vw h)) vs
  | _, _, .nil => .nil
  | _, _, .cons a b => .cons (a.view w) (RepVs.views w b)
def rdC (K : PySem.W.Frag) (f : List D → Option D) : List V → Hp → VK → Prop := fun xs H Q => ∃ th h ds d, Wd K th h H ∧ RepWs K H th ds xs ∧ f ds = some d ∧
  ∀ v H', RepV K H' th d v → Wd K th h H' → Gr th th H H' → Q v H'
theorem ints_rep {K : PySem.W.Frag} {H : Hp} {th : Th} : ∀ {ds : List D} {vs : List V} {l : List Int}, RepVs K H th ds vs → ints? ds = some l → vs = l.map V.int ∧ ds = l.map D.int
  | _, _, _, .nil, e => by cases e; exact ⟨rfl, rfl⟩
  | d :: ds, _, l, .cons r rs, e => by
    cases d with
    | int i =>
      have e : (ints? ds).map (i :: ·) = some l := e
      cases e1 : ints? ds with
      | none => rw [e1] at e; cases e
      | some l' =>
        rw [e1] at e
        cases e
        obtain ⟨a, b⟩ := ints_rep rs e1
        cases r
        exact ⟨by rw [a]; rfl, by rw [b]; rfl⟩
    | _ => cases e
theorem strs_rep {K : PySem.W.Frag} {H : Hp} {th : Th} : ∀ {ds : List D} {vs : List V} {l : List (List Nat)}, RepVs K H th ds vs → strs? ds = some l → vs = l.map fun s => V.str (SS s)
  | _, _, _, .nil, e => by cases e; rfl
  | d :: ds, _, l, .cons r rs, e => by
    cases d with
    | str i =>
      have e : (strs? ds).map (i :: ·) = some l := e
      cases e1 : strs? ds with
      | none => rw [e1] at e; cases e
      | some l' =>
        rw [e1] at e
        cases e
        have a := strs_rep rs e1
        cases r
        rw [a]; rfl
    | _ => cases e
theorem RepVs.ints {K : PySem.W.Frag} {H : Hp} {th : Th} : ∀ l : List Int, RepVs K H th (l.map D.int) (l.map V.int)
  | [] => .nil
  | i :: l => .cons (.int i) (RepVs.ints l)
theorem pairwise_sorted_unique : ∀ {a b : List Int}, a.Perm b → a.Pairwise (· ≤ ·) → b.Pairwise (· ≤ ·) → a = b := PySem.W.lks_uniq
theorem mergeSort_is {a l : List Int} (p : a.Perm l) (o : a.Pairwise (· ≤ ·)) : a = l.mergeSort fun x y => decide (x ≤ y) := by
  refine pairwise_sorted_unique (p.trans (List.mergeSort_perm _ _).symm) o ?_
  have := List.pairwise_mergeSort (le := fun (x y : Int) => decide (x ≤ y)) (by intro a b c; simp; omega) (by intro a b; simp; omega) l
  exact this.imp (by intro a b h; simpa using h)
theorem call_sortedM : CallR X (.builtin "sorted") (fun xs H Q => ∃ (p : Addr) (l : List Int), xs = [.ref p] ∧ SqL X.K H p (l.map V.int) ∧ l.length < 64 ∧
    ∀ a, H a = none → Q (.ref a) (upd H a (.lst ((l.mergeSort fun x y => decide (x ≤ y)).map V.int)))) := by
  intro pins s σ H xs us Q I r h
  obtain ⟨p, l, rfl, hq, hl, q⟩ := h
  obtain ⟨u, rfl, rx⟩ := vals1 r
  cases rx
  obtain ⟨its, rv, pl, hz⟩ := I.list hq
  have ii := intsAre_of rv
  have lenV := rv.length
  rw [List.length_map] at lenV
  refine sorted_ints pl.isList ii (by omega) fun out ns' a1 a2 a3 => ?_
  obtain ⟨e, he⟩ := sortedAll_at s.heap its out
  have es := mergeSort_is a2 a3
  have I1 : Inv X pins σ (upd H (s.heap.objs.size + 1) (.lst (ns'.map V.int))) { s with heap := sortedAll s.heap its out } := by
    refine I.laid (t' := s.toks) (fun b o q => sortedAll_old q) (Nat.le_succ _) ?_
    refine ⟨?_, out.toList, e, vals_ints a1, ?_⟩
    · rw [List.length_map, a2.length_eq]
      have : l.length ≤ sizeLine := by rw [SZ_eq]; show l.length ≤ 16777216; omega
      exact this
    · rw [he]
  refine ⟨.ref (s.heap.objs.size + 1), _, I1, rfl, ?_⟩
  rw [es]
  exact q _ (I.hok.fresh (Nat.le_succ _))
end
end MP
set_option Elab.async false
set_option linter.all false
set_option maxRecDepth 100000
set_option maxHeartbeats 4000000
namespace MP
open PySem PySem.Spec PyProof.Rows L2

/-! ### what is walked -/
inductive IterOf (K : PySem.W.Frag) (H : Hp) (th : Th) : It → List D → Prop
  | lst {a : Addr} {vs : List V} {ds : List D} : SqL K H a vs → a ∉ th → RepVs K H th ds vs → IterOf K H th (Itl K a) ds
  | tup {a : Addr} {vs : List V} {ds : List D} : SqT K H a vs → RepVs K H th ds vs → IterOf K H th (Itt K a) ds
  | rng (n : Nat) : IterOf K H th (Itr 0 n) ((List.range n).map fun (i : Nat) => D.int (i : Int))

section
variable {X : Cx} {C : CC} {G : List Den} {k : Nat} {tg : Expr}
def rdI (K : PySem.W.Frag) (G : List Den) (it : PI) : TI := fun σ H R => ∃ th ρ h ds h', Wd K th h H ∧ EnvR K H th ρ σ ∧ evI G it ρ h = some (ds, h') ∧
  ∀ J H' th', IterOf K H' th' J ds → Wd K th' h' H' → Gr th th' H H' → R J H'
theorem _root_.L2.PI.imp {e : Expr} {t t' : TI} (p : L2.PI X tg e t) (h : ∀ σ H Q, t' σ H Q → t σ H Q) : L2.PI X tg e t' := fun pins s σ H Q I q => p pins s σ H Q I (h σ H Q q)
theorem pi_seq {l : Expr} {tl : TE} (hl : PE X l tl) : L2.PI X tg l (fun σ H R => tl σ H fun x H1 => ∃ a, x = .ref a ∧ (((∃ xs, SqL X.K H1 a xs) ∧ R (Itl X.K a) H1) ∨ ((∃ xs, SqT X.K H1 a xs) ∧ R (Itt X.K a) H1))) := by
  intro pins s σ H R I h
  refine thn (hl pins s σ H _ I h) fun v s1 ⟨x, H1, I1, r1, q1⟩ => ?_
  obtain ⟨a, e, q1⟩ := q1
  subst e
  cases r1
  rcases q1 with ⟨⟨xs, hq⟩, q⟩ | ⟨⟨xs, hq⟩, q⟩
  · obtain ⟨its, rv, p, hz⟩ := I1.list hq
    refine wpAny_pyIter_list p.isList ?_
    refine ⟨s1.heap.objs.size, [s1.heap.objs.size], _, _, H1, rfl, I1.kept (t' := s1.toks) fun b o e => Heap.get?_push_of_some _ e, turn_list a _, ⟨_, Heap.get?_push_size _ rfl, rfl, rfl⟩, fun b hb => ?_, q⟩
    have e : b = s1.heap.objs.size := by simpa using hb
    subst e
    exact I1.fpOk (Nat.le_refl _) (I1.hok.fresh (Nat.le_refl _))
  · obtain ⟨its, rv, p, hz⟩ := I1.tuple hq
    refine wpAny_pyIter_tuple (show s1.heap.IsTuple a its.toArray from p) ?_
    refine ⟨s1.heap.objs.size, [s1.heap.objs.size], _, _, H1, rfl, I1.kept (t' := s1.toks) fun b o e => Heap.get?_push_of_some _ e, turn_tuple a _, ⟨_, Heap.get?_push_size _ rfl, rfl, rfl⟩, fun b hb => ?_, q⟩
    have e : b = s1.heap.objs.size := by simpa using hb
    subst e
    exact I1.fpOk (Nat.le_refl _) (I1.hok.fresh (Nat.le_refl _))
theorem i_seq {e : Expr} {p : PX} (hl : PE X e (rdE X.K G p)) : L2.PI X tg e (rdI X.K G (.seq p)) := by
  refine (pi_seq hl).imp fun σ H R ⟨th, ρ, h, ds, h', w, en, e1, kk⟩ => ?_
  unfold evI at e1
  obtain ⟨⟨d1, h1⟩, q1, e1⟩ := Option.bind_eq_some_iff.mp e1
  obtain ⟨l, q2, e1⟩ := Option.bind_eq_some_iff.mp e1
  cases e1
  refine ⟨th, ρ, h, d1, _, w, en, q1, fun v H' th' r w' g => ?_⟩
  cases r with
  | lst q n r =>
    cases q2
    exact ⟨_, rfl, .inl ⟨⟨_, q⟩, kk _ H' th' (.lst q n r) w' g⟩⟩
  | tup q r =>
    cases q2
    exact ⟨_, rfl, .inr ⟨⟨_, q⟩, kk _ H' th' (.tup q r) w' g⟩⟩
  | _ => cases q2
theorem i_rng {a : Expr} {p : PX} {ps pos : Pos} (hg : Gl X "range") (hm : X.mg "range" = none) (ha : PE X a (rdE X.K G p)) (hs : starEach [a] X.env = [(false, eval a X.env)]) :
    L2.PI X tg (.Call (.Name "range" ps) [a] [] pos) (rdI X.K G (.rng p)) := by
  refine (pi_range1 hg hm (a_cons ha a_nil hs) hs).imp fun σ H R ⟨th, ρ, h, ds, h', w, en, e1, kk⟩ => ?_
  unfold evI at e1
  obtain ⟨⟨d1, h1⟩, q1, e1⟩ := Option.bind_eq_some_iff.mp e1
  obtain ⟨l, q2, e1⟩ := Option.bind_eq_some_iff.mp e1
  cases e1
  refine ⟨th, ρ, h, [d1], _, w, en, by unfold evs; rw [q1]; rfl, fun vs H' th' r w' g => ?_⟩
  cases r with
  | cons r rs =>
    cases rs
    cases d1 with
    | int n =>
      have q2 : (if -(2 ^ 62) ≤ n ∧ n < 2 ^ 62 then some ((List.range n.toNat).map fun i => D.int (i : Nat)) else none) = some ds := q2
      split at q2
      · rename_i hb
        cases q2
        cases r
        exact ⟨_, rfl, hb.1, hb.2, kk _ H' th' (.rng _) w' g⟩
      · cases q2
    | _ => cases q2

/-- a loop over what is walked -/
theorem for_it {K : PySem.W.Frag} {J : It} {ds : List D} {th1 : Th} {H1 : Hp} {g : TG} {tb : TS} {D0 : Ends} {σ0 : St} (it : IterOf K H1 th1 J ds) (Pv : Nat → St → Hp → Prop) (h0 : Pv 0 σ0 H1)
    (hl : ∀ i σ H, Pv i σ H → ∃ th, Gr th1 th H1 H)
    (hs : ∀ i d x σ H, ds[i]? = some d → Pv i σ H → (∀ th, Gr th1 th H1 H → (∀ a ∈ th, K.lookup a = none) → RepV K H th d x) → g x σ H fun σ2 H2 => tb { D0 with nx := Pv (i + 1), ct := Pv (i + 1), bk := D0.nx } σ2 H2)
    (hd : ∀ σ H, Pv ds.length σ H → D0.nx σ H) :
    ∃ W : Nat → Nat → St → Hp → Prop, (∃ m, W 0 m σ0 H1) ∧ ∀ i m σ H, W i m σ H →
      (J.stop i H ∧ D0.nx σ H) ∨ (J.go i H ∧ ∃ N : St → Hp → Prop, (∀ σ' H', N σ' H' → ∃ m', m' < m ∧ W (i + 1) m' σ' H') ∧ ∀ x H', J.yld i H x H' → g x σ H' fun σ2 H2 => tb { D0 with nx := N, ct := N, bk := D0.nx } σ2 H2) := by
  cases it with
  | @lst a vs ds q n r =>
    have len := r.length
    refine for_list (K := K) (a := a) (xs := vs) Pv h0 (fun i σ H _ p => ?_) (fun i x σ H e p => ?_) (fun σ H p => hd σ H (by rw [len]; exact p))
    · obtain ⟨th, gr⟩ := hl i σ H p
      exact SqL.mono gr n q
    · have hi : i < ds.length := by rw [len]; exact (List.getElem?_eq_some_iff.mp e).1
      obtain ⟨v, e2, r2⟩ := r.get (List.getElem?_eq_getElem hi)
      rw [e] at e2
      cases e2
      exact hs i _ x σ H (List.getElem?_eq_getElem hi) p fun th gr kd => r2.mono gr kd
  | @tup a vs ds q r =>
    have len := r.length
    refine for_tup (K := K) (a := a) (xs := vs) Pv h0 (fun i σ H _ p => ?_) (fun i x σ H e p => ?_) (fun σ H p => hd σ H (by rw [len]; exact p))
    · obtain ⟨th, gr⟩ := hl i σ H p
      exact SqT.mono gr q
    · have hi : i < ds.length := by rw [len]; exact (List.getElem?_eq_some_iff.mp e).1
      obtain ⟨v, e2, r2⟩ := r.get (List.getElem?_eq_getElem hi)
      rw [e] at e2
      cases e2
      exact hs i _ x σ H (List.getElem?_eq_getElem hi) p fun th gr kd => r2.mono gr kd
  | rng n =>
    refine for_range (lo := 0) (n := n) Pv h0 (fun i σ H hi p => ?_) (fun σ H p => hd σ H (by simpa using p))
    have e : ((List.range n).map fun (i : Nat) => D.int (i : Int))[i]? = some (.int (i : Int)) := by simp [hi]
    have z : (0 : Int) + (i : Int) = (i : Int) := by omega
    rw [z]
    exact hs i _ _ σ H e p fun th gr kd => .int _

/-! ### targets -/
def rdG (K : PySem.W.Frag) (t : PTg) : TG := fun v σ H Q => ∃ th ρ h d ρ', Wd K th h H ∧ EnvR K H th ρ σ ∧ RepV K H th d v ∧ setT t d ρ = some ρ' ∧ ∀ σ', EnvR K H th ρ' σ' → Q σ' H
theorem _root_.L2.PG.imp {e : Expr} {t t' : TG} (p : PG X e t) (h : ∀ v σ H Q, t' v σ H Q → t v σ H Q) : PG X e t' := fun pins s σ H v u Q I r q => p pins s σ H v u Q I r (h v σ H Q q)
theorem g_name {x : Str} {i : Nat} {pos : Pos} (S : CtxS X C G k) (hl : isLoc (lk C.nm x) = true) (h : C.var x = some i) : PG X (.Name x pos) (rdG X.K (.nm i)) := by
  have O := S.ok
  obtain ⟨h1, h2, h3⟩ := var_ok O h
  refine (pg_name (by rw [O.N]; exact O.nd) h1 (isLoc_loc O hl) (S.fn x hl)).imp fun v σ H Q ⟨th, ρ, ah, d, ρ', w, e, r, e1, kk⟩ => ?_
  cases e1
  exact kk _ (e.set i r)
/-- several names -/
theorem gs_names (S : CtxS X C G k) : ∀ (es : List Expr) (is : List Nat), idxs C es = some is →
    PGs X es (fun vs σ H Q => vs.length = is.length ∧ Q ((is.zip vs).foldl (fun r p => r.set p.1 (some p.2)) σ) H) ∧ es.length = is.length ∧ (assignEach es X.env).length = es.length ∧ (assignEach es X.env).findIdx? (·.1) = none := by
  have O := S.ok
  intro es
  induction es with
  | nil =>
    intro is h
    cases h
    refine ⟨fun pins s σ H vs us Q I r q => ?_, rfl, rfl, rfl⟩
    obtain ⟨e, q⟩ := q
    have : vs = [] := List.eq_nil_of_length_eq_zero e
    subst this
    exact pgs_nil pins s σ H [] us Q I r ⟨rfl, q⟩
  | cons t r ih =>
    intro is h
    cases t with
    | Name x p =>
      unfold idxs at h
      split at h
      · rename_i i l e1 e2
        cases h
        split at e1
        · rename_i hl
          obtain ⟨a, b, c, d⟩ := ih l e2
          obtain ⟨h1, h2, h3⟩ := var_ok O e1
          refine ⟨fun pins s σ H vs us Q I rv q => ?_, by simp [b], by show (assignEach r X.env).length + 1 = _; rw [c]; rfl, ?_⟩
          · obtain ⟨e, q⟩ := q
            cases vs with
            | nil => cases e
            | cons v vs =>
              refine pgs_cons (pg_name (i := i) (by rw [O.N]; exact O.nd) h1 (isLoc_loc O hl) (S.fn x hl)) a rfl pins s σ H (v :: vs) us Q I rv ⟨v, vs, rfl, ?_⟩
              exact ⟨by simpa using e, q⟩
          · show List.findIdx? _ ((false, _) :: assignEach r X.env) = none
            rw [List.findIdx?_cons]
            simp [d]
        · cases e1
      · cases h
    | _ => cases h
theorem foldl_env {K : PySem.W.Frag} {H : Hp} {th : Th} : ∀ (is : List Nat) (ds : List D) (vs : List V) (ρ : Ev) (σ : St), EnvR K H th ρ σ → RepVs K H th ds vs →
    EnvR K H th ((is.zip ds).foldl (fun r p => r.set p.1 (some p.2)) ρ) ((is.zip vs).foldl (fun r p => r.set p.1 (some p.2)) σ)
  | [], _, _, _, _, e, _ => by simpa using e
  | i :: is, _, _, _, _, e, .nil => by simpa using e
  | i :: is, _, _, _, _, e, .cons r rs => foldl_env is _ _ _ _ (e.set i r) rs
theorem g_tup {es : List Expr} {is : List Nat} {j : Nat} {pos : Pos} (S : CtxS X C G k) (h : idxs C es = some is) : PG X (.Tuple es j pos) (rdG X.K (.tp is)) := by
  obtain ⟨a, b, c, d⟩ := gs_names S es is h
  refine (pg_tup (n := es.length) S.ok.calm a c d).imp fun v σ H Q ⟨th, ρ, ah, dd, ρ', w, e, r, e1, kk⟩ => ?_
  cases dd with
  | tup xs =>
    have e1 : (if is.length = xs.length then some ((is.zip xs).foldl (fun r p => r.set p.1 (some p.2)) ρ) else none) = some ρ' := e1
    split at e1
    · rename_i hl
      cases e1
      cases r with
      | tup q rs =>
        have len := rs.length
        exact ⟨_, _, rfl, q, by omega, by omega, kk _ (foldl_env is _ _ ρ σ e rs)⟩
    · cases e1
  | _ => cases e1
theorem g_all {e : Expr} {t : PTg} (S : CtxS X C G k) (h : cT e C = some t) : PG X e (rdG X.K t) := by
  unfold cT at h
  split at h
  · rename_i x p
    split at h
    · rename_i hl
      cases e1 : C.var x with
      | none => rw [e1] at h; cases h
      | some i => rw [e1] at h; cases h; exact g_name S hl e1
    · cases h
  · rename_i es j p
    cases e1 : idxs C es with
    | none => rw [e1] at h; cases h
    | some is => rw [e1] at h; cases h; exact g_tup S e1
  · cases h
end
end MP
set_option Elab.async false
set_option linter.all false
set_option maxRecDepth 100000
set_option maxHeartbeats 4000000
namespace MP
open PySem PySem.Spec PyProof.Rows L2

/-- what is wanted behind a statement, by its outcome -/
def RK (K : PySem.W.Frag) (D0 : Ends) (th : Th) (H : Hp) : R → Prop
  | .nx ρ' h' => ∀ σ' H' th', EnvR K H' th' ρ' σ' → Wd K th' h' H' → Gr th th' H H' → D0.nx σ' H'
  | .rt d h' => ∀ v H' th', RepV K H' th' d v → Wd K th' h' H' → Gr th th' H H' → D0.rt v H'
  | .bk ρ' h' => ∀ σ' H' th', EnvR K H' th' ρ' σ' → Wd K th' h' H' → Gr th th' H H' → D0.bk σ' H'
  | .ct ρ' h' => ∀ σ' H' th', EnvR K H' th' ρ' σ' → Wd K th' h' H' → Gr th th' H H' → D0.ct σ' H'
  | .exc _ _ _ => False
  | .bad => False
theorem RK.mono {K : PySem.W.Frag} {D0 : Ends} {th th1 : Th} {H H1 : Hp} (g : Gr th th1 H H1) : ∀ {r : R}, RK K D0 th H r → RK K D0 th1 H1 r
  | .nx _ _, q => fun σ' H' th' e w g' => q σ' H' th' e w (g.trans g')
  | .rt _ _, q => fun σ' H' th' e w g' => q σ' H' th' e w (g.trans g')
  | .bk _ _, q => fun σ' H' th' e w g' => q σ' H' th' e w (g.trans g')
  | .ct _ _, q => fun σ' H' th' e w g' => q σ' H' th' e w (g.trans g')
  | .exc _ _ _, q => q
  | .bad, q => q
def rdS (K : PySem.W.Frag) (G : List Den) (p : PSt) : TS := fun D0 σ H => ∃ th ρ h, Wd K th h H ∧ EnvR K H th ρ σ ∧ RK K D0 th H (exS G p ρ h)
def rdSs (K : PySem.W.Frag) (G : List Den) (p : List PSt) : TS := fun D0 σ H => ∃ th ρ h, Wd K th h H ∧ EnvR K H th ρ σ ∧ RK K D0 th H (exSs G p ρ h)

section
variable {X : Cx} {C : CC} {G : List Den} {k : Nat}
theorem ss_nil : PSs X [] (rdSs X.K G []) := by
  refine pss_nil.imp fun D0 σ H ⟨th, ρ, h, w, e, q⟩ => ?_
  unfold exSs at q
  exact q σ H th e w (Gr.refl _ _)
theorem ss_cons {s : Stmt} {r : List Stmt} {p : PSt} {q : List PSt} (h1 : PS X s (rdS X.K G p)) (h2 : PSs X r (rdSs X.K G q)) : PSs X (s :: r) (rdSs X.K G (p :: q)) := by
  refine (pss_cons h1 h2).imp fun D0 σ H ⟨th, ρ, h, w, e, qq⟩ => ⟨th, ρ, h, w, e, ?_⟩
  unfold exSs at qq
  cases e1 : exS G p ρ h with
  | nx ρ' h' =>
    rw [e1] at qq
    intro σ' H' th' e' w' g'
    exact ⟨th', ρ', h', w', e', RK.mono g' qq⟩
  | rt d h' => rw [e1] at qq; exact qq
  | bk ρ' h' => rw [e1] at qq; exact qq
  | ct ρ' h' => rw [e1] at qq; exact qq
  | exc _ _ _ => rw [e1] at qq; exact qq
  | bad => rw [e1] at qq; exact qq
theorem s_ret {e : Expr} {p : PX} {pos : Pos} (h : PE X e (rdE X.K G p)) : PS X (.Return (some e) pos) (rdS X.K G (.ret p)) := by
  refine (ps_ret h).imp fun D0 σ H ⟨th, ρ, h, w, e, qq⟩ => ?_
  unfold exS at qq
  cases e1 : ev G p ρ h with
  | none => rw [e1] at qq; exact qq.elim
  | some d => rw [e1] at qq; exact ⟨th, ρ, h, d.1, d.2, w, e, e1, qq⟩
theorem s_retN {pos : Pos} : PS X (.Return none pos) (rdS X.K G .retN) := by
  refine ps_retN.imp fun D0 σ H ⟨th, ρ, h, w, e, qq⟩ => ?_
  unfold exS at qq
  exact qq .non H th .non w (Gr.refl _ _)
theorem s_brk {pos : Pos} : PS X (.Break pos) (rdS X.K G .brk) := by
  refine ps_break.imp fun D0 σ H ⟨th, ρ, h, w, e, qq⟩ => ?_
  unfold exS at qq
  exact qq σ H th e w (Gr.refl _ _)
theorem s_cnt {pos : Pos} : PS X (.Continue pos) (rdS X.K G .cnt) := by
  refine ps_continue.imp fun D0 σ H ⟨th, ρ, h, w, e, qq⟩ => ?_
  unfold exS at qq
  exact qq σ H th e w (Gr.refl _ _)
theorem s_pas {pos : Pos} : PS X (.Pass pos) (rdS X.K G .pas) := by
  refine ps_pass.imp fun D0 σ H ⟨th, ρ, h, w, e, qq⟩ => ?_
  unfold exS at qq
  exact qq σ H th e w (Gr.refl _ _)
theorem s_doc {x : Str} {j : Nat} {pos pos' : Pos} : PS X (.Expr (.Constant (.str x) j pos) pos') (rdS X.K G .pas) := by
  refine ps_doc.imp fun D0 σ H ⟨th, ρ, h, w, e, qq⟩ => ?_
  unfold exS at qq
  exact qq σ H th e w (Gr.refl _ _)
theorem s_ex {e : Expr} {p : PX} {pos : Pos} (h : PE X e (rdE X.K G p)) (hs : swapsWith e none pos.line X.env = pure false) : PS X (.Expr e pos) (rdS X.K G (.ex p)) := by
  refine (ps_expr h hs).imp fun D0 σ H ⟨th, ρ, h, w, e, qq⟩ => ?_
  unfold exS at qq
  cases e1 : ev G p ρ h with
  | none => rw [e1] at qq; exact qq.elim
  | some d =>
    rw [e1] at qq
    exact ⟨th, ρ, h, d.1, d.2, w, e, e1, fun v H' th' r w' g => qq σ H' th' (e.mono g w'.kd) w' g⟩
theorem s_if {c : Expr} {a b : List Stmt} {r : PB} {p q : List PSt} {pos : Pos} (hc : PT X c (rdB X.K G r)) (ha : PSs X a (rdSs X.K G p)) (hb : PSs X b (rdSs X.K G q)) : PS X (.If c a b pos) (rdS X.K G (.ifs r p q)) := by
  refine (ps_if hc ha hb).imp fun D0 σ H ⟨th, ρ, h, w, e, qq⟩ => ?_
  unfold exS at qq
  cases e1 : evB G r ρ h with
  | none => rw [e1] at qq; exact qq.elim
  | some d =>
    rw [e1] at qq
    obtain ⟨t, h1⟩ := d
    refine ⟨th, ρ, h, t, h1, w, e, e1, fun H' th' w' g => ?_⟩
    cases t with
    | true => exact ⟨th', ρ, h1, w', e.mono g w'.kd, RK.mono g qq⟩
    | false => exact ⟨th', ρ, h1, w', e.mono g w'.kd, RK.mono g qq⟩
theorem s_asg {tg e : Expr} {t : PTg} {p : PX} {pos : Pos} (he : PE X e (rdE X.K G p)) (hg : PG X tg (rdG X.K t)) (hs : swapsWithSole [tg] e pos.line X.env = pure false) (hw : swappedStores [tg] e X.env = pure none)
    (h1 : (assignEach [tg] X.env).map (·.2) = [assign tg X.env]) : PS X (.Assign [tg] e pos) (rdS X.K G (.asg t p)) := by
  refine (ps_asg he hg hs hw h1).imp fun D0 σ H ⟨th, ρ, h, w, e, qq⟩ => ?_
  unfold exS at qq
  cases e1 : ev G p ρ h with
  | none => rw [e1] at qq; exact qq.elim
  | some d =>
    rw [e1] at qq
    obtain ⟨d, h1⟩ := d
    dsimp only at qq
    cases e2 : setT t d ρ with
    | none => rw [e2] at qq; exact qq.elim
    | some ρ' =>
      rw [e2] at qq
      exact ⟨th, ρ, h, d, h1, w, e, e1, fun v H' th' r w' g => ⟨th', ρ, h1, d, ρ', w', e.mono g w'.kd, r, e2, fun σ' e' => qq σ' H' th' e' w' g⟩⟩
theorem ip_D (op : Operator) : PIp X op (fun x y H Q => ∃ a b z, x = .int a ∧ y = .int b ∧ augD op (.int a) (.int b) = some (.int z) ∧ Q (.int z) H) := by
  intro pins s σ H x y v u Q I rx ry h
  obtain ⟨a, b, z, rfl, rfl, e, q⟩ := h
  cases op with
  | Add => cases e; exact ip_add pins s σ H _ _ v u Q I rx ry ⟨a, b, rfl, rfl, q⟩
  | Sub => cases e; exact ip_sub pins s σ H _ _ v u Q I rx ry ⟨a, b, rfl, rfl, q⟩
  | _ => cases e
theorem augD_ints {op : Operator} {x y z : D} (e : augD op x y = some z) : ∃ a b c, x = .int a ∧ y = .int b ∧ z = .int c := by
  unfold augD at e
  split at e
  · cases e; exact ⟨_, _, _, rfl, rfl, rfl⟩
  · cases e; exact ⟨_, _, _, rfl, rfl, rfl⟩
  · cases e
theorem s_aug {x : Str} {i : Nat} {op : Operator} {e : Expr} {p : PX} {pos pos' : Pos} (S : CtxS X C G k) (hl : isLoc (lk C.nm x) = true) (hx : C.var x = some i) (he : PE X e (rdE X.K G p)) :
    PS X (.AugAssign (.Name x pos') op e pos) (rdS X.K G (.aug i op p)) := by
  have O := S.ok
  obtain ⟨h1, h2, h3⟩ := var_ok O hx
  have hN : X.N.Nodup := by rw [O.N]; exact O.nd
  refine (ps_aug hN h1 (isLoc_loc O hl) he (ip_D op) (S.fn x hl)).imp fun D0 σ H ⟨th, ρ, h, w, e, qq⟩ => ?_
  unfold exS at qq
  cases g1 : getV ρ i with
  | none => rw [g1] at qq; exact qq.elim
  | some dx =>
    cases e1 : ev G p ρ h with
    | none => rw [g1, e1] at qq; exact qq.elim
    | some dd =>
      rw [g1, e1] at qq
      obtain ⟨dy, h4⟩ := dd
      dsimp only at qq
      cases e2 : augD op dx dy with
      | none => rw [e2] at qq; exact qq.elim
      | some z =>
        rw [e2] at qq
        obtain ⟨a, b, c, rfl, rfl, rfl⟩ := augD_ints e2
        obtain ⟨v, ev1, rv⟩ := e.val i _ g1
        cases rv
        exact ⟨_, ev1, th, ρ, h, _, _, w, e, e1, fun y H' th' r w' g => by
          cases r
          exact ⟨a, b, c, rfl, rfl, e2, qq _ H' th' ((e.mono g w'.kd).set i (.int _)) w' g⟩⟩
/-- for -/
theorem s_for {tg iter : Expr} {body : List Stmt} {t : PTg} {it : PI} {b : List PSt} {pos : Pos} (hp : PassesOwn (model X.prog X.w) X.A X.env X.xe) (hc : X.calm = true) (hi : L2.PI X tg iter (rdI X.K G it)) (hg : PG X tg (rdG X.K t))
    (hb : PSs X body (rdSs X.K G b)) (hs : ∀ x, foldedSetIterable iter X.env x = pure x) : PS X (.For tg iter body [] pos) (rdS X.K G (.forS t it b)) := by
  refine (ps_for hp hc hi hg hb hs).imp fun D0 σ H ⟨th, ρ, h, w, e, qq⟩ => ?_
  unfold exS at qq
  cases e1 : evI G it ρ h with
  | none => rw [e1] at qq; exact qq.elim
  | some dd =>
    obtain ⟨ds, h1⟩ := dd
    rw [e1] at qq
    have qq : RK X.K D0 th H (forL (fun d ρ h => match setT t d ρ with | some ρ' => exSs G b ρ' h | none => .bad) ds ρ h1) := qq
    refine ⟨th, ρ, h, ds, h1, w, e, e1, fun J H1 th1 itr w1 g1 => ?_⟩
    refine for_it itr (fun i σ2 H2 => ∃ th2 ρ2 h2, Wd X.K th2 h2 H2 ∧ EnvR X.K H2 th2 ρ2 σ2 ∧ Gr th1 th2 H1 H2 ∧
        RK X.K D0 th2 H2 (forL (fun d ρ h => match setT t d ρ with | some ρ' => exSs G b ρ' h | none => .bad) (ds.drop i) ρ2 h2))
      ⟨th1, ρ, h1, w1, e.mono g1 w1.kd, Gr.refl _ _, by rw [List.drop_zero]; exact RK.mono g1 qq⟩ ?_ ?_ ?_
    · rintro i σ2 H2 ⟨th2, ρ2, h2, w2, e2, g2, q2⟩
      exact ⟨th2, g2⟩
    · rintro i d x σ2 H2 hd ⟨th2, ρ2, h2, w2, e2, g2, q2⟩ rx
      have hlt : i < ds.length := (List.getElem?_eq_some_iff.mp hd).1
      have hdr : ds.drop i = d :: ds.drop (i + 1) := by
        rw [List.drop_eq_getElem_cons hlt]
        congr 1
        have := (List.getElem?_eq_some_iff.mp hd).2
        exact this
      rw [hdr] at q2
      unfold forL at q2
      cases es : setT t d ρ2 with
      | none => rw [es] at q2; exact q2.elim
      | some ρ3 =>
        rw [es] at q2
        refine ⟨th2, ρ2, h2, d, ρ3, w2, e2, rx th2 g2 w2.kd, es, fun σ3 e3 => ⟨th2, ρ3, h2, w2, e3, ?_⟩⟩
        dsimp only at q2
        cases er : exSs G b ρ3 h2 with
        | nx ρ4 h4 =>
          rw [er] at q2
          intro σ5 H5 th5 e5 w5 g5
          exact ⟨th5, ρ4, h4, w5, e5, g2.trans g5, RK.mono g5 q2⟩
        | ct ρ4 h4 =>
          rw [er] at q2
          intro σ5 H5 th5 e5 w5 g5
          exact ⟨th5, ρ4, h4, w5, e5, g2.trans g5, RK.mono g5 q2⟩
        | bk ρ4 h4 =>
          rw [er] at q2
          intro σ5 H5 th5 e5 w5 g5
          exact q2 σ5 H5 th5 e5 w5 g5
        | rt d4 h4 => rw [er] at q2; exact q2
        | exc _ _ _ => rw [er] at q2; exact q2.elim
        | bad => rw [er] at q2; exact q2.elim
    · rintro σ2 H2 ⟨th2, ρ2, h2, w2, e2, g2, q2⟩
      rw [List.drop_length] at q2
      exact q2 σ2 H2 th2 e2 w2 (Gr.refl _ _)
end
end MP
set_option Elab.async false
set_option linter.all false
set_option maxRecDepth 100000
set_option maxHeartbeats 4000000
namespace MP
open PySem PySem.Spec PyProof.Rows L2

section
variable {X : Cx} {C : CC} {G : List Den} {k : Nat}
theorem pe_false {e : Expr} {t : TE} (h : ∀ σ H Q, ¬ t σ H Q) : PE X e t := fun pins s σ H Q I q => absurd q (h σ H Q)
/-- what is not starred -/
theorem star1 {e : Expr} {p : PX} (h : (cX e C).1 = some p) (es : List Expr) (env : Env) : starEach (e :: es) env = (false, eval e env) :: starEach es env := by
  cases e <;> first | rfl | (unfold cX at h; cases h)
theorem stars : ∀ (es : List Expr) (ps : List PX), (cXs es C).1 = some ps → ∀ (env : Env) (pos : Pos), (backTo pos (starEach es env)).any (·.1) = false ∧ ((backTo pos (starEach es env)).all fun x => !x.1) = true ∧ es.length = ps.length
  | [], ps, h, env, pos => by unfold cXs at h; cases h; exact ⟨rfl, rfl, rfl⟩
  | e :: es, ps, h, env, pos => by
    unfold cXs at h
    cases h1 : (cX e C).1 with
    | none => rw [h1] at h; cases h
    | some p =>
      cases h2 : (cXs es C).1 with
      | none => rw [h1, h2] at h; cases h
      | some qs =>
        rw [h1, h2] at h
        cases h
        obtain ⟨a, b, c⟩ := stars es qs h2 env pos
        rw [star1 h1 es env]
        refine ⟨?_, ?_, by simp [c]⟩
        · show (false || (backTo pos (starEach es env)).any (·.1)) = false
          rw [a]; rfl
        · show (true && (backTo pos (starEach es env)).all fun x => !x.1) = true
          rw [b]; rfl

/-! ### calls of the text's defs -/
theorem e_call {x : Str} {i : Nat} {e : Expr} {es : List Expr} {ps : List PX} {p pos : Pos} (O : CtxOk X C G k) (hg : C.isGl x = true) (hi : C.fs.findIdx? (· == x) = some i) (ha : PA X (e :: es) (rdA X.K G ps))
    (he : starEach (e :: es) X.env = (false, eval e X.env) :: starEach es X.env) (hpl : (backTo pos (starEach es X.env)).any (·.1) = false) :
    PE X (.Call (.Name x p) (e :: es) [] pos) (rdE X.K G (.call i ps)) := by
  obtain ⟨g, pl⟩ := isGl_ok O hg
  obtain ⟨h4, h5, _⟩ := plain_debug pl
  cases hG : G[i]? with
  | none =>
    refine pe_false fun σ H Q ⟨th, ρ, h, d, h', w, en, e1, kk⟩ => ?_
    unfold ev at e1
    obtain ⟨⟨ds, h1⟩, q1, e1⟩ := Option.bind_eq_some_iff.mp e1
    rw [hG] at e1
    cases e1
  | some f =>
    obtain ⟨fa, fd, pn, hm, hk, F, hb, ar⟩ := (O.fs i x f (findIdx_get hi) hG).ex
    refine (pe_call (E := E0) F O.room g hm hk hb .nil pass0 ha h4 he hpl).imp fun σ H Q ⟨th, ρ, h, d, h', w, en, e1, kk⟩ => ?_
    unfold ev at e1
    obtain ⟨⟨ds, h1⟩, q1, e1⟩ := Option.bind_eq_some_iff.mp e1
    rw [hG] at e1
    have e1 : (match f ds h1 with | .ok d h' => some (d, h') | _ => none) = some (d, h') := e1
    refine ⟨th, ρ, h, ds, h1, w, en, q1, fun vs H1 th1 r1 w1 g1 => ?_⟩
    cases ef : f ds h1 with
    | ok d2 h2 =>
      rw [ef] at e1
      cases e1
      rw [List.append_nil]
      refine ⟨by rw [← r1.length]; exact ar _ _ _ _ ef, th1, h1, ds, w1, r1, ?_⟩
      rw [ef]
      exact fun v H' th' r w' g' => kk v H' th' r w' (g1.trans g')
    | exc c h2 => rw [ef] at e1; cases e1
    | bad => rw [ef] at e1; cases e1

/-! ### built-in functions -/
theorem rd_blt {b : Bl} {ps : List PX} {σ : St} {H : Hp} {Q : VK} (h : rdE X.K G (.blt b ps) σ H Q) : tCB (rdC X.K (bltD b)) (rdA X.K G ps) σ H Q := by
  obtain ⟨th, ρ, h, d, h', w, en, e1, kk⟩ := h
  unfold ev at e1
  obtain ⟨⟨ds, h1⟩, q1, e1⟩ := Option.bind_eq_some_iff.mp e1
  obtain ⟨d2, q2, e1⟩ := Option.bind_eq_some_iff.mp e1
  cases e1
  exact ⟨th, ρ, h, ds, _, w, en, q1, fun vs H1 th1 r1 w1 g1 => ⟨th1, _, _, _, w1, r1.views w1, q2, fun v H' r w' g' => kk v H' th1 r w' (g1.trans g')⟩⟩
theorem c_len : CallR X (.builtin "len") (rdC X.K (bltD .len)) := by
  intro pins s σ H xs us Q I r h
  obtain ⟨th, ah, ds, d, w, ws, e, k⟩ := h
  have kk : ∀ v, RepV X.K H th d v → Q v H := fun v r => k v H r w (Gr.refl _ _)
  cases ws with
  | nil => cases e
  | cons r1 rs =>
    cases rs with
    | cons _ _ => rename_i d0 _ _ _ _ _ _ _; cases d0 <;> cases e
    | nil =>
      rename_i d0 v0
      cases d0 with
      | str z =>
        cases r1.istr
        have e : (if z.length ≤ SZ then some (D.int z.length) else none) = some d := e
        split at e
        · rename_i hz
          cases e
          exact call_len_str pins s σ H _ us Q I r ⟨SS z, rfl, by rw [SS_length, SZ_eq]; exact hz, by rw [SS_length]; exact kk _ (.int _)⟩
        · cases e
      | lst z =>
        cases e
        obtain ⟨a, vs, rfl, q, rr⟩ := r1.ilst
        exact call_len_seq pins s σ H _ us Q I r ⟨a, vs, rfl, .inl q, by rw [← rr.length]; exact kk _ (.int _)⟩
      | tup z =>
        cases e
        obtain ⟨a, vs, rfl, q, rr⟩ := r1.itup
        exact call_len_seq pins s σ H _ us Q I r ⟨a, vs, rfl, .inr q, by rw [← rr.length]; exact kk _ (.int _)⟩
      | _ => cases e
theorem two_ints {b : Bl} {K : PySem.W.Frag} {H : Hp} {th : Th} {ds : List D} {vs : List V} {d : D} (hb : b = .min2 ∨ b = .max2) (ws : RepWs K H th ds vs) (e : bltD b ds = some d) : ∃ i j, ds = [.int i, .int j] ∧ vs = [.int i, .int j] := by
  cases ws with
  | nil => rcases hb with rfl | rfl <;> cases e
  | cons r1 rs =>
    cases rs with
    | nil => rename_i d0 v0; rcases hb with rfl | rfl <;> cases d0 <;> cases e
    | cons r2 rs =>
      cases rs with
      | nil =>
        rename_i d0 v0 d1 v1
        rcases hb with rfl | rfl
        · cases d0 with
          | int i =>
            cases d1 with
            | int j => cases r1.iint; cases r2.iint; exact ⟨i, j, rfl, rfl⟩
            | _ => cases e
          | _ => cases e
        · cases d0 with
          | int i =>
            cases d1 with
            | int j => cases r1.iint; cases r2.iint; exact ⟨i, j, rfl, rfl⟩
            | _ => cases e
          | _ => cases e
      | cons _ _ =>
        rename_i d0 v0 d1 v1 _ _ _ _ _ _
        rcases hb with rfl | rfl <;> cases d0 <;> first | cases e | (cases d1 <;> cases e)
theorem c_min2 (hc : X.calm = true) : CallR X (.builtin "min") (rdC X.K (bltD .min2)) := by
  intro pins s σ H xs us Q I r h
  obtain ⟨th, ah, ds, d, w, ws, e, k⟩ := h
  obtain ⟨i, j, rfl, rfl⟩ := two_ints (.inl rfl) ws e
  cases e
  exact call_min2 hc pins s σ H _ us Q I r ⟨i, j, rfl, k _ H (.int _) w (Gr.refl _ _)⟩
theorem c_max2 (hc : X.calm = true) : CallR X (.builtin "max") (rdC X.K (bltD .max2)) := by
  intro pins s σ H xs us Q I r h
  obtain ⟨th, ah, ds, d, w, ws, e, k⟩ := h
  obtain ⟨i, j, rfl, rfl⟩ := two_ints (.inr rfl) ws e
  cases e
  exact call_max2 hc pins s σ H _ us Q I r ⟨i, j, rfl, k _ H (.int _) w (Gr.refl _ _)⟩
theorem c_sorted : CallR X (.builtin "sorted") (rdC X.K (bltD .sorted)) := by
  intro pins s σ H xs us Q I r h
  obtain ⟨th, ah, ds, d, w, ws, e, k⟩ := h
  cases ws with
  | nil => cases e
  | cons r1 rs =>
    cases rs with
    | cons _ _ => rename_i d0 _ _ _ _ _ _ _; cases d0 <;> cases e
    | nil =>
      rename_i d0 v0
      cases d0 with
      | lst z =>
        have e : ((ints? z).bind fun l => if l.length < 64 then some (D.lst ((l.mergeSort fun a b => decide (a ≤ b)).map .int)) else none) = some d := e
        obtain ⟨l, e1, e2⟩ := Option.bind_eq_some_iff.mp e
        split at e2
        · rename_i hl
          cases e2
          obtain ⟨a, vs, rfl, q, rr⟩ := r1.ilst
          obtain ⟨ev, ed⟩ := ints_rep rr e1
          subst ev
          refine call_sortedM pins s σ H _ us Q I r ⟨a, l, rfl, q, hl, fun p hp => ?_⟩
          have g := Gr.laid (H := H) (o := .lst ((l.mergeSort fun a b => decide (a ≤ b)).map V.int)) th hp
          exact k _ _ (.lst (SqL.of upd_same) (w.notin hp) (RepVs.ints _)) (w.laid hp) g
        · cases e2
      | _ => cases e
theorem one_arg {f : List D → Option D} {K : PySem.W.Frag} {H : Hp} {th : Th} {ds : List D} {vs : List V} {d : D} (h0 : f [] = none) (h2 : ∀ a b c, f (a :: b :: c) = none) (ws : RepWs K H th ds vs) (e : f ds = some d) : ∃ d0 v0, ds = [d0] ∧ vs = [v0] ∧ RepW K H th d0 v0 := by
  cases ws with
  | nil => rw [h0] at e; cases e
  | cons r1 rs =>
    cases rs with
    | nil => exact ⟨_, _, rfl, rfl, r1⟩
    | cons r2 rs => rw [h2] at e; cases e
theorem c_list : CallR X (.type "list") (rdC X.K (bltD .list)) := by
  intro pins s σ H xs us Q I r h
  obtain ⟨th, ah, ds, d, w, ws, e, k⟩ := h
  obtain ⟨d0, v0, rfl, rfl, r1⟩ := one_arg (f := bltD .list) rfl (by intro a b c; cases a <;> rfl) ws e
  cases d0 with
  | lst z =>
    cases e
    obtain ⟨a, vs, rfl, q, rr⟩ := r1.ilst
    refine call_list_of pins s σ H _ us Q I r ⟨a, vs, rfl, .inl q, fun p hp => ?_⟩
    have g := Gr.laid (H := H) (o := .lst vs) th hp
    exact k _ _ (.lst (SqL.of upd_same) (w.notin hp) (rr.mono g w.kd)) (w.laid hp) g
  | tup z =>
    cases e
    obtain ⟨a, vs, rfl, q, rr⟩ := r1.itup
    refine call_list_of pins s σ H _ us Q I r ⟨a, vs, rfl, .inr q, fun p hp => ?_⟩
    have g := Gr.laid (H := H) (o := .lst vs) th hp
    exact k _ _ (.lst (SqL.of upd_same) (w.notin hp) (rr.mono g w.kd)) (w.laid hp) g
  | _ => cases e
theorem c_tuple : CallR X (.type "tuple") (rdC X.K (bltD .tuple)) := by
  intro pins s σ H xs us Q I r h
  obtain ⟨th, ah, ds, d, w, ws, e, k⟩ := h
  obtain ⟨d0, v0, rfl, rfl, r1⟩ := one_arg (f := bltD .tuple) rfl (by intro a b c; cases a <;> rfl) ws e
  cases d0 with
  | lst z =>
    cases e
    obtain ⟨a, vs, rfl, q, rr⟩ := r1.ilst
    refine call_tuple_of pins s σ H _ us Q I r ⟨a, vs, rfl, .inl ⟨q, fun p hp => ?_⟩⟩
    have g := Gr.laid (H := H) (o := .tup vs) th hp
    exact k _ _ (.tup (SqT.of upd_same) (rr.mono g w.kd)) (w.laid hp) g
  | tup z =>
    cases e
    obtain ⟨a, vs, rfl, q, rr⟩ := r1.itup
    exact call_tuple_of pins s σ H _ us Q I r ⟨a, vs, rfl, .inr ⟨q, k _ H (.tup q rr) w (Gr.refl _ _)⟩⟩
  | _ => cases e
theorem c_int : CallR X (.type "int") (rdC X.K (bltD .int)) := by
  intro pins s σ H xs us Q I r h
  obtain ⟨th, ah, ds, d, w, ws, e, k⟩ := h
  obtain ⟨d0, v0, rfl, rfl, r1⟩ := one_arg (f := bltD .int) rfl (by intro a b c; cases a <;> rfl) ws e
  cases d0 with
  | int z => cases e; cases r1.iint; exact call_int1 pins s σ H _ us Q I r (.inl ⟨z, rfl, k _ H (.int _) w (Gr.refl _ _)⟩)
  | bl z => cases e; cases r1.ibl; exact call_int1 pins s σ H _ us Q I r (.inr ⟨z, rfl, k _ H (.int _) w (Gr.refl _ _)⟩)
  | _ => cases e

theorem e_bltB {x : Str} {id : String} {b : Bl} {e : Expr} {es : List Expr} {ps : List PX} {p pos : Pos} (O : CtxOk X C G k) (hx : C.isGl x = true) (hl : C.bl.contains x = true) (hc : CallR X (.builtin id) (rdC X.K (bltD b)))
    (hv : bootBuiltins x = some (.builtin id)) (ha : PA X (e :: es) (rdA X.K G ps)) (he : starEach (e :: es) X.env = (false, eval e X.env) :: starEach es X.env) (hpl : (backTo pos (starEach es X.env)).any (·.1) = false) :
    PE X (.Call (.Name x p) (e :: es) [] pos) (rdE X.K G (.blt b ps)) := by
  obtain ⟨g, pl⟩ := isGl_ok O hx
  obtain ⟨h4, h5, h6⟩ := plain_debug pl
  exact (pe_callB hc g (O.bl x hl) hv ha h6 h4 he hpl).imp fun σ H Q h => rd_blt h
theorem e_bltT {x : Str} {id : String} {b : Bl} {e : Expr} {es : List Expr} {ps : List PX} {p pos : Pos} (O : CtxOk X C G k) (hx : C.isGl x = true) (hl : C.bl.contains x = true) (hc : CallR X (.type id) (rdC X.K (bltD b)))
    (hv : bootBuiltins x = some (.type id)) (ha : PA X (e :: es) (rdA X.K G ps)) (he : starEach (e :: es) X.env = (false, eval e X.env) :: starEach es X.env) (hpl : (backTo pos (starEach es X.env)).any (·.1) = false) :
    PE X (.Call (.Name x p) (e :: es) [] pos) (rdE X.K G (.blt b ps)) := by
  obtain ⟨g, pl⟩ := isGl_ok O hx
  obtain ⟨h4, h5, h6⟩ := plain_debug pl
  exact (pe_callTy hc g (O.bl x hl) hv ha h6 h4 he hpl).imp fun σ H Q h => rd_blt h
theorem rd_bad {b : Bl} {ps : List PX} {e : Expr} (h : ∀ ds, bltD b ds = none) : PE X e (rdE X.K G (.blt b ps)) := pe_false fun σ H Q ⟨th, ρ, ah, d, h', w, en, e1, kk⟩ => by
  unfold ev at e1
  obtain ⟨⟨ds, h1⟩, q1, e1⟩ := Option.bind_eq_some_iff.mp e1
  obtain ⟨d2, q2, e1⟩ := Option.bind_eq_some_iff.mp e1
  rw [h] at q2
  cases q2
theorem e_blt {x : Str} {q : PX} {e : Expr} {es : List Expr} {ps : List PX} {p pos : Pos} (O : CtxOk X C G k) (hx : C.isGl x = true) (hl : C.bl.contains x = true) (h : bltOf x ps = some q)
    (ha : PA X (e :: es) (rdA X.K G ps)) (he : starEach (e :: es) X.env = (false, eval e X.env) :: starEach es X.env) (hpl : (backTo pos (starEach es X.env)).any (·.1) = false) :
    PE X (.Call (.Name x p) (e :: es) [] pos) (rdE X.K G q) := by
  unfold bltOf at h
  split at h
  · rename_i c; cases h; cases eq_of_beq c; exact e_bltB O hx hl c_len boot_len ha he hpl
  split at h
  · rename_i c; cases h; cases eq_of_beq (Bool.and_eq_true_iff.mp c).1; exact e_bltB O hx hl (c_min2 O.calm) boot_min ha he hpl
  split at h
  · rename_i c; cases h; cases eq_of_beq (Bool.and_eq_true_iff.mp c).1; exact e_bltB O hx hl (c_max2 O.calm) boot_max ha he hpl
  split at h
  · rename_i c; cases h; cases eq_of_beq c; exact e_bltB O hx hl c_sorted boot_sorted ha he hpl
  split at h
  · cases h; exact rd_bad fun ds => by cases ds <;> rfl
  split at h
  · cases h; exact rd_bad fun ds => by cases ds <;> rfl
  split at h
  · rename_i c; cases h; cases eq_of_beq c; exact e_bltT O hx hl c_list boot_list ha he hpl
  split at h
  · rename_i c; cases h; cases eq_of_beq c; exact e_bltT O hx hl c_tuple boot_tuple ha he hpl
  split at h
  · rename_i c; cases h; cases eq_of_beq c; exact e_bltT O hx hl c_int boot_int ha he hpl
  split at h
  · cases h; exact rd_bad fun ds => by cases ds <;> rfl
  · cases h
end
end MP
set_option Elab.async false
set_option linter.all false
set_option maxRecDepth 100000
set_option maxHeartbeats 4000000
namespace MP
open PySem PySem.Spec PyProof.Rows L2

section
variable {X : Cx} {C : CC} {G : List Den} {k : Nat}
theorem base_ok {o : Expr} (h : noSuper o = true) (m : Str) (env : Env) : attributeBase o m env (eval o env) = eval o env := by
  cases o with
  | Call f as ks p =>
    cases as with
    | nil =>
      cases ks with
      | nil => cases h
      | cons _ _ => cases f <;> rfl
    | cons _ _ => cases f <;> cases ks <;> rfl
  | _ => rfl
theorem few1 {a : Expr} {env : Env} {cpos : Pos} (hs : starEach [a] env = [(false, eval a env)]) : ((backTo cpos (starEach [a] env)).all (fun x => !x.1) && (backToKw cpos (keywordEach [] env)).all (fun x => x.1.isSome)
      && decide ([a].length + ([] : List Keyword).length + (if ([] : List Keyword).isEmpty then 0 else 1) < 30)) = true := by
  rw [hs]; rfl
/-- the reading of a method's call -/
theorem rd_mt {m : Mt} {T : String} {o : PX} {ps : List PX} {r : V → List V → Hp → VK → Prop} (hT : ∀ d v H th ds, mtD m d ds ≠ none → RepV X.K H th d v → tyV X.K T v H)
    (hr : ∀ (x : V) (xs : List V) (H : Hp) (Q : VK) (th : Th) (h : AH) (d0 d : D) (ds : List D), Wd X.K th h H → RepV X.K H th d0 x → RepWs X.K H th ds xs → mtD m d0 ds = some d → (∀ v H', RepV X.K H' th d v → Wd X.K th h H' → Gr th th H H' → Q v H') → r x xs H Q)
    {σ : St} {H : Hp} {Q : VK} (h : rdE X.K G (.mt m o ps) σ H Q) : tBM X.K T r (rdE X.K G o) (rdA X.K G ps) σ H Q := by
  obtain ⟨th, ρ, h, d, h', w, en, e1, kk⟩ := h
  unfold ev at e1
  obtain ⟨⟨d1, h1⟩, q1, e1⟩ := Option.bind_eq_some_iff.mp e1
  obtain ⟨⟨ds, h2⟩, q2, e1⟩ := Option.bind_eq_some_iff.mp e1
  obtain ⟨d3, q3, e1⟩ := Option.bind_eq_some_iff.mp e1
  cases e1
  refine ⟨th, ρ, h, d1, h1, w, en, q1, fun x H1 th1 r1 w1 g1 => ⟨?_, th1, ρ, h1, ds, _, w1, en.mono g1 w1.kd, q2, fun xs H2 th2 r2 w2 g2 => ?_⟩⟩
  · exact hT d1 x H1 th1 _ (by rw [q3]; simp) r1
  · exact hr x xs H2 Q th2 _ _ _ _ w2 (r1.mono g2 w2.kd) (r2.views w2) q3 fun v H' r w' g' => kk v H' th2 r w' ((g1.trans g2).trans g')
theorem join_eq (sep : List Nat) : ∀ l : List (List Nat), Txt.join (SS sep) (l.map SS) = SS (joinD sep l) := by
  intro l
  show Builtin.Str.glued (SS sep) (l.map SS) = _
  rw [StrLaws.glued_eq_join]
  induction l with
  | nil => rfl
  | cons x l ih =>
    cases l with
    | nil => rfl
    | cons y r =>
      show SS x ++ SS sep ++ Str.join (SS sep) ((y :: r).map SS) = _
      rw [ih, SS_append, SS_append]
      rfl
theorem strsAre_of {l : List (List Nat)} : ∀ {us : List Value}, Vals (l.map fun s => V.str (SS s)) us → StrsAre us (l.map SS) := by
  induction l with
  | nil => intro us h; cases h; exact .nil
  | cons s l ih =>
    intro us h
    cases h with
    | cons r rs =>
      obtain ⟨t, rfl⟩ := r
      exact .cons _ _ (ih rs)
theorem m_join {o a : Expr} {po pa : PX} {apos cpos : Pos} (hb : noSuper o = true) (hl : (apos.endLine == cpos.line) = true) (ho : PE X o (rdE X.K G po)) (ha : PE X a (rdE X.K G pa)) (hs : starEach [a] X.env = [(false, eval a X.env)]) :
    PE X (.Call (.Attribute o "join" apos) [a] [] cpos) (rdE X.K G (.mt .join po [pa])) := by
  refine (pe_bm (r := fun x xs H Q => ∃ (z : List Nat) (p : Addr) (l : List (List Nat)), x = .str (SS z) ∧ xs = [.ref p] ∧ SqL X.K H p (l.map fun s => V.str (SS s)) ∧ (l.map List.length).sum + l.length * z.length ≤ SZ ∧ Q (.str (SS (joinD z l))) H)
    PySem.F.plainAttrs_str PySem.F.slot_str_join PySem.F.type_str_join ?_ ho (a_cons ha a_nil hs) (base_ok hb _ _) (few1 hs) hl hs rfl).imp fun σ H Q h => rd_mt ?_ ?_ h
  · intro pins s σ H x xs v us Q I rx rs h
    obtain ⟨z, p, l, rfl, rfl, q, hz, qq⟩ := h
    obtain ⟨t, rfl⟩ := rx
    obtain ⟨u, rfl, ru⟩ := vals1 rs
    cases ru
    obtain ⟨its, rv, pl, _⟩ := I.list q
    refine join_list (ys := l.map SS) pl.isList (by simpa using strsAre_of rv) ?_ fun t' k' => ?_
    · rw [List.map_map]
      have e : (l.map ((fun x : Str => x.length) ∘ SS)) = l.map List.length := List.map_congr_left fun s _ => SS_length s
      rw [e, List.length_map, SS_length]
      exact hz
    · rw [join_eq]
      exact ⟨.str _, H, I.tok _, ⟨t', rfl⟩, qq⟩
  · intro d v H th ds hn r
    cases d with
    | str z => cases r; exact rfl
    | _ => exact absurd rfl hn
  · intro x xs H Q th h d0 d ds w r0 rs e kk
    cases d0 with
    | str z =>
      cases rs with
      | nil => cases e
      | cons r1 rs =>
        cases rs with
        | cons _ _ => rename_i d1 _ _ _ _ _ _ _; cases d1 <;> cases e
        | nil =>
          rename_i d1 v1
          cases d1 with
          | lst y =>
            have e : ((strs? y).bind fun l => if (l.map List.length).sum + l.length * z.length ≤ SZ then some (D.str (joinD z l)) else none) = some d := e
            obtain ⟨l, e1, e2⟩ := Option.bind_eq_some_iff.mp e
            split at e2
            · rename_i hz
              cases e2
              cases r0
              obtain ⟨a, vs, rfl, q, rr⟩ := r1.ilst
              have ev := strs_rep rr e1
              subst ev
              exact ⟨z, a, l, rfl, rfl, q, hz, kk _ H (.str _) w (Gr.refl _ _)⟩
            · cases e2
          | _ => cases e
    | _ => cases e
theorem starts_eq (s p : List Nat) : Txt.startswith (SS s) (SS p) = p.isPrefixOf s := by
  unfold Txt.startswith
  rw [SS_length, SS_length]
  unfold Builtin.Str.subAt
  rw [SS_length]
  show (decide (0 + p.length ≤ s.length) && (s.toArray.extract 0 (0 + p.length) == p.toArray)) = _
  have e1 : s.toArray.extract 0 (0 + p.length) = (s.take p.length).toArray := by simp
  rw [e1]
  have e2 : ((s.take p.length).toArray == p.toArray) = (s.take p.length == p) := by
    by_cases h : s.take p.length = p
    · rw [h]; simp
    · rw [beq_eq_false_iff_ne.mpr h, beq_eq_false_iff_ne.mpr (fun q => h (by simpa using congrArg Array.toList q))]
  rw [e2, Bool.eq_iff_iff]
  simp only [Bool.and_eq_true, decide_eq_true_eq, beq_iff_eq, List.isPrefixOf_iff_prefix]
  constructor
  · rintro ⟨_, h⟩
    rw [← h]
    exact List.take_prefix _ _
  · rintro ⟨t, rfl⟩
    exact ⟨by simp, by simp⟩
theorem m_starts {o a : Expr} {po pa : PX} {apos cpos : Pos} (hb : noSuper o = true) (hl : (apos.endLine == cpos.line) = true) (ho : PE X o (rdE X.K G po)) (ha : PE X a (rdE X.K G pa)) (hs : starEach [a] X.env = [(false, eval a X.env)]) :
    PE X (.Call (.Attribute o "startswith" apos) [a] [] cpos) (rdE X.K G (.mt .startswith po [pa])) := by
  refine (pe_bm (r := fun x xs H Q => ∃ (z p : List Nat), x = .str (SS z) ∧ xs = [.str (SS p)] ∧ Q (.bl (p.isPrefixOf z)) H)
    PySem.F.plainAttrs_str PySem.F.slot_str_startswith PySem.F.type_str_startswith ?_ ho (a_cons ha a_nil hs) (base_ok hb _ _) (few1 hs) hl hs rfl).imp fun σ H Q h => rd_mt ?_ ?_ h
  · intro pins s σ H x xs v us Q I rx rs h
    obtain ⟨z, p, rfl, rfl, qq⟩ := h
    obtain ⟨t, rfl⟩ := rx
    obtain ⟨u, rfl, ru⟩ := vals1 rs
    obtain ⟨t', rfl⟩ := ru
    refine SC.startswith ?_
    rw [starts_eq]
    exact ⟨.bl _, H, I, rfl, qq⟩
  · intro d v H th ds hn r
    cases d with
    | str z => cases r; exact rfl
    | _ => exact absurd rfl hn
  · intro x xs H Q th h d0 d ds w r0 rs e kk
    cases d0 with
    | str z =>
      cases rs with
      | nil => cases e
      | cons r1 rs =>
        cases rs with
        | cons _ _ => rename_i d1 _ _ _ _ _ _ _; cases d1 <;> cases e
        | nil =>
          rename_i d1 v1
          cases d1 with
          | str y => cases e; cases r0; cases r1.istr; exact ⟨z, y, rfl, rfl, kk _ H (.bl _) w (Gr.refl _ _)⟩
          | _ => cases e
    | _ => cases e
/-- xs.append(e) -/
theorem m_append {o a : Expr} {po pa : PX} {apos cpos : Pos} (hb : noSuper o = true) (hl : (apos.endLine == cpos.line) = true) (ho : PE X o (rdE X.K G po)) (ha : PE X a (rdE X.K G pa)) (hs : starEach [a] X.env = [(false, eval a X.env)]) :
    PE X (.Call (.Attribute o "append" apos) [a] [] cpos) (rdE X.K G (.app po pa)) := by
  refine (pe_bm PySem.F.plainAttrs_list PySem.F.slot_list_append PySem.F.type_list_append mt_append ho (a_cons ha a_nil hs) (base_ok hb _ _) (few1 hs) hl hs rfl).imp fun σ H Q h => ?_
  obtain ⟨th, ρ, h, d, h', w, en, e1, kk⟩ := h
  unfold ev at e1
  obtain ⟨⟨d1, h1⟩, q1, e1⟩ := Option.bind_eq_some_iff.mp e1
  dsimp only at e1
  cases d1 with
  | ref n =>
    dsimp only at e1
    cases g1 : h1[n]? with
    | none => rw [g1] at e1; cases e1
    | some o1 =>
      rw [g1] at e1
      cases o1 with
      | lst xs1 =>
        dsimp only at e1
        obtain ⟨⟨d2, h2⟩, q2, e1⟩ := Option.bind_eq_some_iff.mp e1
        dsimp only at e1
        cases g2 : h2[n]? with
        | none => rw [g2] at e1; cases e1
        | some o2 =>
          rw [g2] at e1
          cases o2 with
          | lst xs =>
            dsimp only at e1
            split at e1
            · rename_i hz
              cases e1
              refine ⟨th, ρ, h, _, h1, w, en, q1, fun x H1 th1 r1 w1 gr1 => ?_⟩
              cases r1 with
              | ref ea =>
                rename_i aa
                obtain ⟨vs1, ev1, rv1⟩ := w1.obj n aa _ ea g1
                refine ⟨.inl ⟨rfl, vs1, SqL.of ev1⟩, th1, ρ, h1, [d2], h2, w1, en.mono gr1 w1.kd, by unfold evs; rw [q2]; rfl, fun vs H2 th2 r2 w2 gr2 => ?_⟩
                cases r2 with
                | cons ra rs =>
                  cases rs
                  rename_i va
                  have ea2 : th2[n]? = some aa := by
                    obtain ⟨t, rfl⟩ := gr2.pre
                    rw [List.getElem?_append_left (List.getElem?_eq_some_iff.mp ea).1]
                    exact ea
                  obtain ⟨vs2, ev2, rv2⟩ := w2.obj n aa _ ea2 g2
                  have hm := List.mem_of_getElem? ea2
                  have gw := Gr.wrote (H := H2) (o := .lst (vs2 ++ [va])) hm ev2
                  refine ⟨aa, vs2, _, rfl, rfl, ev2, by rw [← rv2.length, SZ_eq]; exact hz, kk .non _ th2 .non (w2.wrote ea2 ev2 ⟨_, upd_same, ?_⟩) ((gr1.trans gr2).trans gw)⟩
                  exact (rv2.append (.cons ra .nil)).mono gw w2.kd
            · cases e1
          | _ => cases e1
      | _ => cases e1
  | _ => cases e1
theorem rd_badM {m : Mt} {o : PX} {ps : List PX} {e : Expr} (h : ∀ d ds, mtD m d ds = none) : PE X e (rdE X.K G (.mt m o ps)) := pe_false fun σ H Q ⟨th, ρ, ah, d, h', w, en, e1, kk⟩ => by
  unfold ev at e1
  obtain ⟨⟨d1, h1⟩, q1, e1⟩ := Option.bind_eq_some_iff.mp e1
  obtain ⟨⟨ds, h2⟩, q2, e1⟩ := Option.bind_eq_some_iff.mp e1
  obtain ⟨d3, q3, e1⟩ := Option.bind_eq_some_iff.mp e1
  rw [h] at q3
  cases q3
theorem e_mth {m : Str} {o a : Expr} {po pa q : PX} {apos cpos : Pos} (h : mthOf m po [pa] = some q) (hb : noSuper o = true) (hl : (apos.endLine == cpos.line) = true) (ho : PE X o (rdE X.K G po)) (ha : PE X a (rdE X.K G pa)) (hs : starEach [a] X.env = [(false, eval a X.env)]) :
    PE X (.Call (.Attribute o m apos) [a] [] cpos) (rdE X.K G q) := by
  unfold mthOf at h
  split at h
  · rename_i c; cases h; cases eq_of_beq c; exact m_append hb hl ho ha hs
  split at h
  · rename_i c; cases h; cases eq_of_beq c; exact m_join hb hl ho ha hs
  split at h
  · rename_i c; cases h; cases eq_of_beq c; exact m_starts hb hl ho ha hs
  split at h
  · cases h; exact rd_badM fun d ds => by cases d <;> rfl
  · cases h

/-! ### isinstance -/
def tyName : Ty → Option String
  | .bool => some "bool" | .tuple => some "tuple" | .list => some "list"
  | _ => none
theorem isi_ok {T : String} {ty : Ty} (hT : tyName ty = some T) : CallR X (.builtin "isinstance") (fun xs H Q => ∃ x th h d b, xs = [x, .ty T] ∧ Wd X.K th h H ∧ RepW X.K H th d x ∧ isiD d ty = some b ∧ Q (.bl b) H) := by
  intro pins s σ H xs us Q I r h
  obtain ⟨x, th, ah, d, b, rfl, w, rx, e, q⟩ := h
  obtain ⟨u, c, rfl, ru, rc⟩ := vals2 r
  cases rc
  have fin : ∀ tk, EP X pins σ Q (.bool b) { s with toks := tk } := fun tk => ⟨.bl b, H, I.tok _, rfl, q⟩
  have key : ∀ (t : String), (∀ bb, isiD d ty = some bb → PySem.W.kitOne X.K (.type t) (.type T) = some bb) → ∀ {HH}, PySem.W.KitX X.K u (.type t) HH → HH s.heap → (u ≠ .builtin "__main__.__loader__#opaque") →
      wpAny (model X.prog X.w) X.A (call (.builtin "isinstance") [u, .type T]) (EP X pins σ Q) X.xe s := fun t ht HH Z hp hx => PySem.W.kia_one Z I.kIn hp (ht b e) hx fin
  cases d with
  | non =>
    cases rx.inon; cases ru
    refine key "NoneType" ?_ PySem.W.kitx_none True.intro (fun z => nomatch z)
    intro bb e'; cases ty <;> cases hT <;> cases e' <;> rfl
  | bl y =>
    cases rx.ibl; cases ru
    refine key "bool" ?_ PySem.W.kitx_bool True.intro (fun z => nomatch z)
    intro bb e'; cases ty <;> cases hT <;> cases e' <;> rfl
  | int y =>
    cases rx.iint; obtain ⟨t, rfl⟩ := ru
    refine key "int" ?_ PySem.W.kitx_int True.intro (fun z => nomatch z)
    intro bb e'; cases ty <;> cases hT <;> cases e' <;> rfl
  | str y =>
    cases rx.istr; obtain ⟨t, rfl⟩ := ru
    refine key "str" ?_ PySem.W.kitx_str True.intro (fun z => nomatch z)
    intro bb e'; cases ty <;> cases hT <;> cases e' <;> rfl
  | tup y =>
    obtain ⟨a, vs, rfl, qq, rr⟩ := rx.itup
    cases ru
    obtain ⟨its, vv, ⟨o, ho, hc, _⟩, hz⟩ := I.tuple qq
    refine key "tuple" ?_ PySem.W.kitx_tuple ⟨o, ho, hc⟩ (fun z => nomatch z)
    intro bb e'; cases ty <;> cases hT <;> cases e' <;> rfl
  | lst y =>
    obtain ⟨a, vs, rfl, qq, rr⟩ := rx.ilst
    cases ru
    obtain ⟨its, vv, pl, hz⟩ := I.list qq
    obtain ⟨o, ho, hc, _⟩ := pl.isList
    refine key "list" ?_ PySem.W.kitx_list ⟨o, ho, hc⟩ (fun z => nomatch z)
    intro bb e'; cases ty <;> cases hT <;> cases e' <;> rfl
  | _ => cases ty <;> cases e
theorem e_isi {a : Expr} {p : PX} {t x : Str} {ty : Ty} {np tp pos : Pos} (O : CtxOk X C G k) (hx : x = "isinstance") (hb : C.isBl x = true) (ha : PE X a (rdE X.K G p)) (ht : tyOf C t = some ty) (hs : starEach [a, .Name t tp] X.env = (false, eval a X.env) :: starEach [.Name t tp] X.env) :
    PE X (.Call (.Name x np) [a, .Name t tp] [] pos) (rdE X.K G (.isi p ty)) := by
  subst hx
  unfold CC.isBl at hb
  rw [Bool.and_eq_true] at hb
  obtain ⟨g, pl⟩ := isGl_ok O hb.1
  obtain ⟨h4, h5, h6⟩ := plain_debug pl
  unfold tyOf at ht
  split at ht
  · rename_i hbl
    unfold CC.isBl at hbl
    rw [Bool.and_eq_true] at hbl
    obtain ⟨g2, pl2⟩ := isGl_ok O hbl.1
    obtain ⟨i4, i5, i6⟩ := plain_debug pl2
    have go : ∀ (T : String), tyName ty = some T → bootBuiltins t = some (.type T) → PE X (.Call (.Name "isinstance" np) [a, .Name t tp] [] pos) (rdE X.K G (.isi p ty)) := by
      intro T hT hv
      have hn : PE X (.Name t tp) (tC (.ty T)) := pe_bltn g2 (O.bl t hbl.2) hv rfl i6 i4
      refine (pe_callB (isi_ok hT) g (O.bl _ hb.2) boot_isinstance (pa_cons ha (pa_cons hn pa_nil rfl) hs) h6 h4 hs rfl).imp fun σ H Q h => ?_
      obtain ⟨th, ρ, h, d, h', w, en, e1, kk⟩ := h
      unfold ev at e1
      obtain ⟨⟨d1, h1⟩, q1, e1⟩ := Option.bind_eq_some_iff.mp e1
      obtain ⟨b, q2, e1⟩ := Option.bind_eq_some_iff.mp e1
      cases e1
      exact ⟨th, ρ, h, d1, _, w, en, q1, fun v H1 th1 r1 w1 g1 => ⟨v, th1, _, _, b, rfl, w1, r1.view w1, q2, kk _ H1 th1 (.bl _) w1 g1⟩⟩
    split at ht
    · rename_i c; cases ht; cases eq_of_beq c; exact go "bool" rfl (by decide +kernel)
    split at ht
    · rename_i c; cases ht; cases eq_of_beq c; exact go "tuple" rfl (by decide +kernel)
    split at ht
    · rename_i c; cases ht; cases eq_of_beq c; exact go "list" rfl (by decide +kernel)
    · cases ht
  · cases ht
end
end MP
set_option Elab.async false
set_option linter.all false
set_option maxRecDepth 100000
set_option maxHeartbeats 4000000
namespace MP
open PySem PySem.Spec PyProof.Rows L2

/-! ### a comprehension's block -/
theorem codeAny_compLoop_go {prog : Program} {w : World} {A : Around} {R : Result → Shared → Prop} {s : Shared} {elt target iter : Expr} {ifs : List Expr} {scope : Scope} {pos : Pos} {it acc : Value} {env : Env} (I : Nat → Shared → Prop)
    (turn : ∀ n s, I n s → wpAny (model prog w) A (pyNext it) (fun r s₁ => match r with
      | none => R (.ok .next) s₁
      | some v => wpAny (model prog w) A (letOwnedTupleGo target it v) (fun _ s₁ => wpAny (model prog w) A (assign target env v) (fun _ s₂ =>
          wpAny (model prog w) A (forIn ifs true fun c r => if r = true then do let ok ← isTrue c env (eval c env); pure (ForInStep.yield ok) else pure (ForInStep.yield r)) (fun ok s₃ =>
            if ok = true then wpAny (model prog w) A (eval elt env) (fun x s₄ =>
              wpAny (model prog w) A (call (.builtin "list.append") [acc, x]) (fun _ s₅ => ∃ m, m < n ∧ I m s₅) (notedBy (model prog w) A env fun e s' => R (.error e) s') s₄) (notedBy (model prog w) A env fun e s' => R (.error e) s') s₃
            else ∃ m, m < n ∧ I m s₃) (notedBy (model prog w) A env fun e s' => R (.error e) s') s₂) (notedBy (model prog w) A env fun e s' => R (.error e) s') s₁) (notedBy (model prog w) A env fun e s' => R (.error e) s') s₁) (notedBy (model prog w) A env fun e s' => R (.error e) s') s)
    (n : Nat) (h : I n s) :
    codeAny (model prog w) A (.compLoop (.ListComp elt [⟨target, iter, ifs, 0⟩] scope pos) 0 it acc env) R s := by
  refine codeAny_loop rfl I (fun n s hI => ?_) n h
  show wpAny _ A ((compTurn (.ListComp elt [⟨target, iter, ifs, 0⟩] scope pos) 0 it acc env).onRaise (fun x => do noteFrame x env; theTreesLotGoes x)) _ _ s
  refine wpAny_noted ?_
  rw [compTurn_list]
  refine wpAny_bind (wpAny_standAt (wpAny_bind (wpAny_mono (turn n s hI) (fun r s₁ h₁ => ?_) fun _ _ h' => h')))
  cases r with
  | none => exact wpAny_pure h₁
  | some v =>
    refine wpAny_bind (wpAny_mono h₁ (fun _ s₁ h₁ => ?_) fun _ _ h' => h')
    refine wpAny_bind (wpAny_mono h₁ (fun _ s₂ h₂ => wpAny_bind (wpAny_mono h₂ (fun ok s₃ h₃ => ?_) fun _ _ h' => h')) fun _ _ h' => h')
    cases ok with
    | true =>
      rw [if_pos rfl] at h₃
      rw [if_pos rfl]
      exact wpAny_bind (wpAny_bind (wpAny_mono h₃ (fun x s₄ h₄ => wpAny_bind (wpAny_mono h₄ (fun _ s₅ h₅ => wpAny_pure (wpAny_pure ⟨rfl, h₅⟩)) fun _ _ h' => h')) fun _ _ h' => h'))
    | false =>
      rw [if_neg Bool.false_ne_true] at h₃
      rw [if_neg Bool.false_ne_true]
      exact wpAny_pure ⟨rfl, h₃⟩

def cloFold (cells : List (Str × Addr)) : List (Str × NameKind) → List (Str × Addr) → List (Str × Addr)
  | [], acc => acc
  | (n, q) :: r, acc => if q == .free then cloFold cells r ((n, (cells.lookup n).getD 0) :: acc) else cloFold cells r acc
theorem closureFor_eq {scope : Scope} {env : Env} (h : ∀ y ∈ scope.names, y.2 = .free → ∃ c, env.cells.lookup y.1 = some c) : closureFor scope env = pure (cloFold env.cells scope.names []) := by
  unfold closureFor
  have go : ∀ (names : List (Str × NameKind)) (acc : List (Str × Addr)), (∀ y ∈ names, y.2 = .free → ∃ c, env.cells.lookup y.1 = some c) →
      (forIn names acc fun (x : Str × NameKind) (r : List (Str × Addr)) => if (x.2 == NameKind.free) = true then do let __do_lift ← cellOf env x.1; pure (ForInStep.yield ((x.1, __do_lift) :: r)) else pure (ForInStep.yield r) : Sem (List (Str × Addr))) = pure (cloFold env.cells names acc) := by
    intro names
    induction names with
    | nil => intro acc _; rfl
    | cons y r ih =>
      intro acc hy
      obtain ⟨n, q⟩ := y
      rw [List.forIn_cons]
      by_cases hq : q = .free
      · subst hq
        obtain ⟨c, hc⟩ := hy (n, .free) List.mem_cons_self rfl
        have e : cellOf env n = pure c := by unfold cellOf; rw [hc]
        have e2 : cloFold env.cells ((n, NameKind.free) :: r) acc = cloFold env.cells r ((n, c) :: acc) := by
          have hc' : env.cells.lookup n = some c := hc
          simp [cloFold, hc']
        rw [e2]
        simp only [beq_self_eq_true, if_true, e]
        exact ih ((n, c) :: acc) fun y h1 h2 => hy y (List.mem_cons_of_mem _ h1) h2
      · have hf : (q == NameKind.free) = false := by simpa using hq
        have e2 : cloFold env.cells ((n, q) :: r) acc = cloFold env.cells r acc := by simp [cloFold, hf]
        rw [e2]
        simp only [hf, Bool.false_eq_true, if_false]
        exact ih acc fun y h1 h2 => hy y (List.mem_cons_of_mem _ h1) h2
  show (forIn scope.names [] _ >>= fun r => pure r) = _
  rw [go scope.names [] h]
  rfl
theorem cloFold_lookup (cells : List (Str × Addr)) (x : Str) : ∀ (names : List (Str × NameKind)) (acc : List (Str × Addr)), (names.map (·.1)).Nodup →
    (cloFold cells names acc).lookup x = if (x, NameKind.free) ∈ names then some ((cells.lookup x).getD 0) else acc.lookup x := by
  intro names
  induction names with
  | nil => intro acc _; simp [cloFold]
  | cons y r ih =>
    intro acc nd
    obtain ⟨n, q⟩ := y
    rw [List.map_cons, List.nodup_cons] at nd
    by_cases hq : q = .free
    · subst hq
      have e0 : cloFold cells ((n, NameKind.free) :: r) acc = cloFold cells r ((n, (cells.lookup n).getD 0) :: acc) := by simp [cloFold]
      rw [e0, ih _ nd.2]
      by_cases hx : x = n
      · subst hx
        have : ¬ ((x, NameKind.free) ∈ r) := fun h => nd.1 (List.mem_map.mpr ⟨_, h, rfl⟩)
        rw [if_neg this, if_pos List.mem_cons_self]
        simp [List.lookup_cons]
      · have e : ((x, NameKind.free) ∈ (n, NameKind.free) :: r) ↔ (x, NameKind.free) ∈ r := by
          rw [List.mem_cons]
          constructor
          · rintro (h | h)
            · exact absurd (congrArg Prod.fst h) hx
            · exact h
          · exact .inr
        simp only [e]
        split
        · rfl
        · rw [List.lookup_cons]
          rw [show (x == n) = false by simpa using hx]
    · have hf : (q == NameKind.free) = false := by simpa using hq
      have e0 : cloFold cells ((n, q) :: r) acc = cloFold cells r acc := by simp [cloFold, hf]
      rw [e0, ih _ nd.2]
      have e : ((x, NameKind.free) ∈ (n, q) :: r) ↔ (x, NameKind.free) ∈ r := by
        rw [List.mem_cons]
        constructor
        · rintro (h | h)
          · exact absurd (congrArg Prod.snd h).symm hq
          · exact h
        · exact .inr
      simp only [e]

/-- what is walked, a turn -/
theorem iter_step {K : PySem.W.Frag} {H1 H : Hp} {th1 th : Th} {J : It} {ds : List D} (it : IterOf K H1 th1 J ds) (g : Gr th1 th H1 H) (kd : ∀ a ∈ th, K.lookup a = none) (i : Nat) :
    (∀ d, ds[i]? = some d → J.go i H ∧ ∀ x H', J.yld i H x H' → H' = H ∧ RepV K H th d x) ∧ (ds.length ≤ i → J.stop i H) := by
  cases it with
  | @lst a vs ds q n r =>
    have q2 := SqL.mono g n q
    refine ⟨fun d hd => ?_, fun hl => ⟨vs, q2, by rw [← r.length]; exact hl⟩⟩
    obtain ⟨v, e1, r1⟩ := r.get hd
    refine ⟨⟨vs, v, q2, e1⟩, fun x H' y => ⟨y.1, ?_⟩⟩
    have := y.2 vs q2
    rw [e1] at this
    cases this
    exact r1.mono g kd
  | @tup a vs ds q r =>
    have q2 := SqT.mono g q
    refine ⟨fun d hd => ?_, fun hl => ⟨vs, q2, by rw [← r.length]; exact hl⟩⟩
    obtain ⟨v, e1, r1⟩ := r.get hd
    refine ⟨⟨vs, v, q2, e1⟩, fun x H' y => ⟨y.1, ?_⟩⟩
    have := y.2 vs q2
    rw [e1] at this
    cases this
    exact r1.mono g kd
  | rng n =>
    refine ⟨fun d hd => ?_, fun hl => (by have h : n ≤ i := by simpa using hl
                                          exact h)⟩
    have hi : i < n := by
      have := (List.getElem?_eq_some_iff.mp hd).1
      simpa using this
    have ed : d = .int (i : Int) := by
      rw [List.getElem?_map, List.getElem?_range hi] at hd
      exact (Option.some.inj hd).symm
    refine ⟨hi, fun x H' y => ⟨y.1, ?_⟩⟩
    have := y.2
    rw [this, ed]
    have z : (0 : Int) + (i : Int) = (i : Int) := by omega
    rw [z]
    exact .int _

theorem hok_laid0 {P : Program} {w : World} {H : Hp} {h : Heap} {a : Addr} {o : HO} (x : HOk P w H h) (hn : H a = none) (new : ObjOk P w (upd H a o) h a o) : HOk P w (upd H a o) h := fun b u e => by
  by_cases hb : b = a
  · subst hb; rw [upd_same] at e; cases e; exact new
  · rw [upd_ne hb] at e
    exact (x b u e).stay (fun c v _ q => q) (fun c q => by rw [upd_ne (ne_of_none q hn)]; exact q) (fun c xs q => by rw [upd_ne (ne_of_none q hn)]; exact q)
/-- an object of ours that is not tracked is tracked -/
theorem _root_.L2.Inv.track {X : Cx} {pins : List (Addr × Obj)} {σ : L2.St} {H : Hp} {s : Shared} {a : Addr} {vs : List V} {its : List Value} {n : Nat} (I : Inv X pins σ H s) (hn : H a = none) (hL : a ≠ X.env.locals) (h1 : a ∈ X.ex ∨ X.s₀.heap.objs.size ≤ a)
    (h2 : ∀ x c, X.env.cells.lookup x = some c → c ≠ a) (h3 : ∀ p ∈ X.pn ++ pins, p.1 ≠ a) (e : s.heap.get? a = some { cls := .type "list", data := .seq its.toArray n }) (r : Vals vs its) (hz : vs.length ≤ sizeLine) :
    Inv X pins σ (upd H a (.lst vs)) s := by
  have st := Inv.step (g' := s.gens) (t' := s.toks) (d' := s.drawn) (ch := [a]) (h' := s.heap) (H' := upd H a (.lst vs)) I
    (fun b hb => by have e : b = a := by simpa using hb
                    subst e; exact ⟨h1, hL, h2, h3⟩)
    (fun b o _ _ _ q _ => q) (fun b o _ _ _ q _ => ⟨o.slots, q⟩)
    (fun b o hb q qn => by rw [upd_ne (by simpa using hb)]; exact qn) (fun b o _ q => ⟨o, q⟩)
    (fun b xs q => by rw [upd_ne (ne_of_none q hn)]; exact q) (fun b o u q => by rw [upd_ne (ne_of_none q hn)]; exact q)
    (fun b ps q => ⟨#[], by rw [upd_ne (ne_of_none q hn)]; simpa using q⟩) (fun m q => q)
    (hok_laid0 I.hok hn ⟨hz, its, n, r, e⟩) I.bare
  exact st

def kvs (σ : St) (is : List Nat) : St := is.map fun i => (σ[i]?).bind id
/-- the block's context -/
def compCx (X : Cx) (x : Str) (fvs : List Str) (sc : Scope) (cl : List (Str × Addr)) (Cc : Addr) (s2 : Shared) (H2 : Hp) (fp : List Addr) (xe : Value → Shared → Prop) : Cx :=
  { X with N := x :: fvs, s₀ := s2, H₀ := H2, env := compEnvC sc cl Cc X.env, outer := X.stack, ex := fp, fn := fun _ => false, pn := [], xe := xe }

structure CompOk (C : CC) (x : Str) (sc : Scope) : Prop where
  kind : sc.kind = .function
  loc : sc.names.lookup x = some .local
  pl : plainName x = true
  nocell : ∀ y ∈ sc.names, y.2 ≠ .cell
  locs : ∀ y ∈ sc.names, y.2 = .local → sc.names.lookup y.1 = some .local
  nd : (sc.names.map (·.1)).Nodup
  fr : ∀ y ∈ sc.names, y.2 = .free → lk C.nm y.1 = some .cell ∨ lk C.nm y.1 = some .free
theorem compOk_of {C : CC} {x : Str} {sc : Scope} (h : compOk C x sc = true) : CompOk C x sc := by
  unfold compOk at h
  simp only [Bool.and_eq_true] at h
  obtain ⟨⟨⟨⟨⟨⟨h1, h2⟩, h3⟩, h4⟩, h5⟩, h6⟩, h7⟩ := h
  refine ⟨by simpa using h1, by simpa using h2, h3, fun y hy e => ?_, fun y hy e => ?_, by simpa using h6, fun y hy e => ?_⟩
  · have := List.all_eq_true.mp h4 y hy
    rw [e] at this
    cases this
  · have := List.all_eq_true.mp h5 y hy
    rw [e] at this
    simpa using this
  · have := List.all_eq_true.mp h7 y hy
    rw [e] at this
    simpa using this

theorem free_mem {names : List (Str × NameKind)} {y : Str} (h : y ∈ freeNames names) : (y, NameKind.free) ∈ names := by
  unfold freeNames at h
  obtain ⟨⟨n, q⟩, hm, e⟩ := List.mem_filterMap.mp h
  dsimp only at e
  split at e
  · rename_i hq
    cases e
    have : q = .free := by simpa using hq
    subst this
    exact hm
  · cases e
theorem nodup_free {names : List (Str × NameKind)} (nd : (names.map (·.1)).Nodup) : (freeNames names).Nodup := by
  unfold freeNames
  induction names with
  | nil => exact List.nodup_nil
  | cons y r ih =>
    obtain ⟨n, q⟩ := y
    rw [List.map_cons, List.nodup_cons] at nd
    rw [List.filterMap_cons]
    by_cases hq : q = .free
    · subst hq
      have : (if (NameKind.free == NameKind.free) = true then some n else none) = some n := by simp
      simp only [this]
      rw [List.nodup_cons]
      exact ⟨fun h => nd.1 (List.mem_map.mpr ⟨_, free_mem h, rfl⟩), ih nd.2⟩
    · have hf : (q == NameKind.free) = false := by simpa using hq
      simp only [hf, Bool.false_eq_true, if_false]
      exact ih nd.2
theorem lookup_mem {names : List (Str × NameKind)} (nd : (names.map (·.1)).Nodup) {y : Str} {q : NameKind} (h : (y, q) ∈ names) : names.lookup y = some q := by
  induction names with
  | nil => cases h
  | cons z r ih =>
    obtain ⟨n, q'⟩ := z
    rw [List.map_cons, List.nodup_cons] at nd
    rw [List.lookup_cons]
    rcases List.mem_cons.mp h with e | e
    · cases e; simp
    · have : y ≠ n := fun z => nd.1 (List.mem_map.mpr ⟨_, e, z⟩)
      rw [show (y == n) = false by simpa using this]
      exact ih nd.2 e
theorem varsOf_get {C : CC} : ∀ (l : List Str) (is : List Nat), varsOf C l = some is → l.length = is.length ∧ ∀ (j : Nat) (i : Nat), is[j]? = some i → ∃ y, l[j]? = some y ∧ C.var y = some i
  | [], is, h => by cases h; exact ⟨rfl, fun j i e => by simp at e⟩
  | y :: r, is, h => by
    unfold varsOf at h
    split at h
    · rename_i i l e1 e2
      cases h
      obtain ⟨a, b⟩ := varsOf_get r l e2
      refine ⟨by simp [a], fun j i' e => ?_⟩
      cases j with
      | zero => simp at e; subst e; exact ⟨y, rfl, e1⟩
      | succ j => exact b j i' (by simpa using e)
    · cases h
theorem reNames_eq {X : Cx} {C : CC} {G : List Den} {k : Nat} (O : CtxOk X C G k) (hk : X.env.scope.kind = .function) (sc : Scope) : (relabel sc X.env).names = reNames C sc.names := by
  unfold relabel reNames
  dsimp only
  refine List.map_congr_left fun y _ => ?_
  obtain ⟨n, q⟩ := y
  have e : X.env.kindOf n = lk C.nm n := lookupEq O
  simp only [hk, e, beq_self_eq_true, Bool.and_true]
end MP
set_option Elab.async false
set_option linter.all false
set_option maxRecDepth 100000
set_option maxHeartbeats 4000000
namespace MP
open PySem PySem.Spec PyProof.Rows L2

section
variable {X : Cx} {C : CC} {G : List Den} {k : Nat} {pins : List (Addr × Obj)} {σ : St} {H2 : Hp} {s2 : Shared} {x : Str} {sc : Scope} {keep : List Nat} {fp : List Addr} {xe : Value → Shared → Prop}
abbrev clo (X : Cx) (sc : Scope) : List (Str × Addr) := cloFold X.env.cells sc.names []
abbrev cX' (X : Cx) (x : Str) (sc : Scope) (Cc : Addr) (s2 : Shared) (H2 : Hp) (fp : List Addr) (xe : Value → Shared → Prop) : Cx := compCx X x (freeNames sc.names) sc (clo X sc) Cc s2 H2 fp xe
theorem cells_free (I : Inv X pins σ H2 s2) (O : CtxOk X C G k) (Q : CompOk C x sc) : ∀ y ∈ sc.names, y.2 = .free → ∃ c, X.env.cells.lookup y.1 = some c := fun y hy e =>
  I.ok.has y.1 (by rcases Q.fr y hy e with h | h
                   · exact .inl ((lookupEq O).trans h)
                   · exact .inr ((lookupEq O).trans h))
theorem clo_some (I : Inv X pins σ H2 s2) (O : CtxOk X C G k) (Q : CompOk C x sc) {y : Str} {c : Addr} (h : (clo X sc).lookup y = some c) : (y, NameKind.free) ∈ sc.names ∧ X.env.cells.lookup y = some c := by
  rw [cloFold_lookup _ _ _ _ Q.nd] at h
  split at h
  · rename_i hm
    obtain ⟨c', hc⟩ := cells_free I O Q _ hm rfl
    have hc : X.env.cells.lookup y = some c' := hc
    rw [hc] at h
    cases h
    exact ⟨hm, hc⟩
  · cases h
theorem clo_of (I : Inv X pins σ H2 s2) (O : CtxOk X C G k) (Q : CompOk C x sc) {y : Str} (hm : (y, NameKind.free) ∈ sc.names) : ∃ c, X.env.cells.lookup y = some c ∧ (clo X sc).lookup y = some c := by
  obtain ⟨c, hc⟩ := cells_free I O Q _ hm rfl
  have hc : X.env.cells.lookup y = some c := hc
  refine ⟨c, hc, ?_⟩
  rw [cloFold_lookup _ _ _ _ Q.nd, if_pos hm, hc]
  rfl
/-- a name of the block -/
theorem re_lookup (O : CtxOk X C G k) (hk : X.env.scope.kind = .function) (Q : CompOk C x sc) {y : Str} {q : NameKind} (hm : (y, q) ∈ sc.names) :
    (relabel sc X.env).names.lookup y = some (if (q == .free && X.env.kindOf y == some .cell) = true then .cell else q) := by
  have nd : ((relabel sc X.env).names.map (·.1)).Nodup := by
    have e : (relabel sc X.env).names.map (·.1) = sc.names.map (·.1) := by
      unfold relabel
      dsimp only
      rw [List.map_map]
      refine List.map_congr_left fun z _ => ?_
      show (if _ then _ else _ : Str × NameKind).1 = z.1
      split <;> rfl
    rw [e]
    exact Q.nd
  refine lookup_mem nd ?_
  unfold relabel
  dsimp only
  refine List.mem_map.mpr ⟨(y, q), hm, ?_⟩
  simp only [hk, beq_self_eq_true, Bool.and_true]
  split <;> rfl
theorem free_kind (O : CtxOk X C G k) (hk : X.env.scope.kind = .function) (Q : CompOk C x sc) {y : Str} (hm : (y, NameKind.free) ∈ sc.names) : (relabel sc X.env).names.lookup y = some .cell ∨ (relabel sc X.env).names.lookup y = some .free := by
  rw [re_lookup O hk Q hm]
  split
  · exact .inl rfl
  · exact .inr rfl
theorem mem_of_lookup {names : List (Str × NameKind)} {y : Str} {q : NameKind} (h : names.lookup y = some q) : (y, q) ∈ names := by
  induction names with
  | nil => cases h
  | cons z r ih =>
    obtain ⟨n, q'⟩ := z
    rw [List.lookup_cons] at h
    split at h
    · rename_i e
      cases h
      have : y = n := by simpa using e
      rw [this]
      exact List.mem_cons_self
    · exact List.mem_cons_of_mem _ (ih h)
theorem kind_free (O : CtxOk X C G k) (hk : X.env.scope.kind = .function) (Q : CompOk C x sc) {y : Str} (h : (relabel sc X.env).names.lookup y = some .cell ∨ (relabel sc X.env).names.lookup y = some .free) : (y, NameKind.free) ∈ sc.names := by
  have : ∃ q, (y, q) ∈ (relabel sc X.env).names ∧ (q = .cell ∨ q = .free) := by
    rcases h with h | h
    · exact ⟨_, mem_of_lookup h, .inl rfl⟩
    · exact ⟨_, mem_of_lookup h, .inr rfl⟩
  obtain ⟨q, hm, hq⟩ := this
  unfold relabel at hm
  dsimp only at hm
  obtain ⟨⟨n, q'⟩, hm', e⟩ := List.mem_map.mp hm
  by_cases hf : q' = .free
  · subst hf
    simp only at e
    split at e
    · cases e; exact hm'
    · cases e; exact hm'
  · have hff : (q' == NameKind.free) = false := by simpa using hf
    simp only [hff, Bool.false_and, Bool.false_eq_true, if_false] at e
    cases e
    rcases hq with rfl | rfl
    · exact absurd rfl (Q.nocell _ hm')
    · exact hm'

theorem inv_comp {h4 : Heap} {tk : Nat} {m : Str → Option Value} {ob : Obj} (I : Inv X pins σ H2 s2) (O : CtxOk X C G k) (Q : CompOk C x sc) (hv : varsOf C (freeNames sc.names) = some keep)
    (hf : ∀ b ∈ fp, FpOk X pins H2 b) (hfo : ∀ b ∈ fp, ∃ o, s2.heap.get? b = some o)
    (k4 : ∀ b o, s2.heap.get? b = some o → h4.get? b = some o) (hacc : h4.get? s2.heap.objs.size = some ob) (hob : ∀ v, ob.data ≠ .cell v) (ns : h4.Ns (s2.heap.objs.size + 1) m) :
    Inv (cX' X x sc (s2.heap.objs.size + 1) s2 H2 fp xe) [(s2.heap.objs.size, ob)] (none :: kvs σ keep) H2 { s2 with heap := h4, toks := tk } := by
  have hk := I.ok.kind
  have stk : ∀ b ∈ frs X.stack, b < s2.heap.objs.size := fun b hb => by
    rcases List.mem_cons.mp (I.stkSub b hb) with e | e
    · rw [e]; exact I.lt
    · exact Nat.lt_of_not_le fun h => I.nofs h e
  have cl_lt : ∀ y c, (clo X sc).lookup y = some c → c < s2.heap.objs.size := fun y c e => by
    obtain ⟨_, h2⟩ := clo_some I O Q e
    obtain ⟨v, hv⟩ := I.cell y c h2
    exact hv.lt
  have fp_lt : ∀ b ∈ fp, b < s2.heap.objs.size := fun b hb => let ⟨o, e⟩ := hfo b hb; Heap.lt_size e
  have okX : (cX' X x sc (s2.heap.objs.size + 1) s2 H2 fp xe).Ok := {
    mod := I.ok.mod
    kind := Q.kind
    glob := I.ok.glob
    blt := I.ok.blt
    above := Nat.le_succ _
    inj := fun y z c e1 e2 => I.ok.inj y z c (clo_some I O Q e1).2 (clo_some I O Q e2).2
    has := fun y h => by
      obtain ⟨c, _, e⟩ := clo_of I O Q (kind_free O hk Q h)
      exact ⟨c, e⟩
    cab := fun y c e => by cases e
    hd := I.ok.hd
    frames := I.ok.frames
    stk := .inl rfl
    exf := fun b hb => ⟨Nat.ne_of_lt (Nat.lt_succ_of_lt (fp_lt b hb)), fun y c e => (hf b hb).2.2.2.2.1 y c (clo_some I O Q e).2⟩
    bs := fun b o e => I.bs b o e
    bsz := Nat.le_trans I.ok.bsz I.sz
    noex := fun b o e hb => by
      obtain ⟨h0, _, _, h3, _⟩ := hf b hb
      obtain ⟨e1, e2⟩ := I.ok.bs b o e
      rcases h3 with h3 | h3
      · exact I.ok.noex b o e h3
      · exact absurd (Heap.lt_size e1) (Nat.not_lt.mpr h3)
    exfs := fun b hb hs => by
      obtain ⟨_, h1, h2, _⟩ := hf b hb
      rcases List.mem_cons.mp (I.stkSub b hs) with e | e
      · exact h1 e
      · exact h2 e
    funs := I.stack
    frf := fun b hb => I.stkFree b hb }
  obtain ⟨vlen, vget⟩ := varsOf_get _ _ hv
  refine {
    ok := okX
    os := rfl
    bare := I.bare
    base := Un.kept k4
    loc := ⟨m, ns, fun i y v e1 e2 hV => ?_⟩
    cell := fun y c e => ?_
    free := I.hok.fresh (Nat.le_succ _)
    freeC := fun y c e => I.freeC y c (clo_some I O Q e).2
    pin := fun p hp => ?_
    hok := I.hok.kept k4
    len := ?_ }
  · cases i with
    | zero => simp at e2
    | succ j =>
      have e2 : (kvs σ keep)[j]? = some (some v) := by simpa using e2
      have e1 : (x :: freeNames sc.names)[j + 1]? = some y := e1
      have e1 : (freeNames sc.names)[j]? = some y := by simpa using e1
      unfold kvs at e2
      rw [List.getElem?_map] at e2
      cases ek : keep[j]? with
      | none => rw [ek] at e2; cases e2
      | some i =>
        rw [ek] at e2
        have e2 : (σ[i]?).bind id = some v := by simpa using e2
        have e3 : σ[i]? = some (some v) := by
          cases q : σ[i]? with
          | none => rw [q] at e2; cases e2
          | some z => rw [q] at e2; simpa using e2
        obtain ⟨y', ey, hy⟩ := vget j i ek
        rw [e1] at ey
        cases ey
        obtain ⟨n1, n2, _⟩ := var_ok O hy
        obtain ⟨m0, hm0, look⟩ := I.loc
        obtain ⟨u, ru, lu⟩ := look i y v n1 e3 n2
        have hm := free_mem (List.mem_of_getElem? e1)
        refine ⟨u, ru, .inr ⟨free_kind O hk Q hm, ?_⟩⟩
        obtain ⟨c, c1, c2⟩ := clo_of I O Q hm
        refine ⟨c, c2, ?_⟩
        rcases lu with ⟨kl, _⟩ | ⟨_, c', c3, c4⟩
        · have kl : X.env.scope.names.lookup y = some .local := kl
          rw [lookupEq O] at kl
          rcases Q.fr _ hm rfl with h | h
          · rw [kl] at h; cases h
          · rw [kl] at h; cases h
        · rw [c1] at c3
          cases c3
          exact c4.keeps k4
  · obtain ⟨v, hv⟩ := I.cell y c (clo_some I O Q e).2
    exact ⟨v, hv.keeps k4⟩
  · have hp : p = (s2.heap.objs.size, ob) := by simpa [compCx] using hp
    subst hp
    refine ⟨hacc, I.hok.fresh (Nat.le_refl _), Nat.ne_of_lt (Nat.lt_succ_self _), fun hb => Nat.lt_irrefl _ (stk _ hb), hob⟩
  · show (none :: kvs σ keep).length = (x :: freeNames sc.names).length
    simp [kvs, vlen]
theorem ctx_comp (I : Inv X pins σ H2 s2) (O : CtxOk X C G k) (Q : CompOk C x sc) (Cc : Addr) : CtxOk (cX' X x sc Cc s2 H2 fp xe) { C with N := x :: freeNames sc.names, nm := reNames C sc.names } G k where
  N := rfl
  nm := reNames_eq O I.ok.kind sc
  nd := by
    show (x :: freeNames sc.names).Nodup
    rw [List.nodup_cons]
    refine ⟨fun h => ?_, nodup_free Q.nd⟩
    have := lookup_mem Q.nd (free_mem h)
    rw [Q.loc] at this
    cases this
  calm := O.calm
  room := O.room
  ct := O.ct
  fs := fun i y f h1 h2 => ⟨(O.fs i y f h1 h2).ex⟩
  bl := O.bl
end
end MP
set_option Elab.async false
set_option linter.all false
set_option maxRecDepth 100000
set_option maxHeartbeats 4000000
namespace MP
open PySem PySem.Spec PyProof.Rows L2

abbrev lobj (its : List Value) (n : Nat) : Obj := { cls := .type "list", data := .seq its.toArray n }
/-- one turn of a comprehension -/
def turnF (G : List Den) (pe : PX) (cond : Option PB) (keep : List Nat) (ρ : Ev) (d : D) (h : AH) : Option (Option D × AH) := match cond with
  | none => (ev G pe (some d :: keep.map (getV ρ)) h).bind fun q => some (some q.1, q.2)
  | some c => (evB G c (some d :: keep.map (getV ρ)) h).bind fun q => if q.1 = true then (ev G pe (some d :: keep.map (getV ρ)) q.2).bind fun r => some (some r.1, r.2) else some (none, q.2)

section
variable {X : Cx} {C : CC} {G : List Den} {k : Nat} {pins : List (Addr × Obj)} {σ : St} {H2 : Hp} {s2 : Shared} {x : Str} {sc : Scope} {keep : List Nat} {fp : List Addr}
abbrev C' (C : CC) (x : Str) (sc : Scope) : CC := { C with N := x :: freeNames sc.names, nm := reNames C sc.names }

theorem kvs_env {K : PySem.W.Frag} {H : Hp} {th : Th} {ρ : Ev} (en : EnvR K H th ρ σ) (z : Option D) (y : Option V) (hz : ∀ d, z = some d → ∃ v, y = some v ∧ RepV K H th d v) : EnvR K H th (z :: keep.map (getV ρ)) (y :: kvs σ keep) := by
  refine ⟨by simp [kvs], fun i d e => ?_⟩
  cases i with
  | zero =>
    have e : z = some d := by simpa [getV] using e
    obtain ⟨v, e1, r⟩ := hz d e
    exact ⟨v, by simp [e1], r⟩
  | succ j =>
    unfold getV at e
    rw [List.getElem?_cons_succ, List.getElem?_map] at e
    cases ek : keep[j]? with
    | none => rw [ek] at e; cases e
    | some i =>
      rw [ek] at e
      have e : getV ρ i = some d := by simpa [getV] using e
      obtain ⟨v, e1, r⟩ := en.val i d e
      refine ⟨v, ?_, r⟩
      rw [List.getElem?_cons_succ]
      unfold kvs
      rw [List.getElem?_map, ek]
      simp [e1]

theorem comp_loop {elt iter : Expr} {ifs : List Expr} {px pos : Pos} {J : It} {it : Addr} {tn : Nat → Heap → Prop} {ds out : List D} {th2 : Th} {h2 h5 : AH} {ρ : Ev} {pe : PX} {cond : Option PB} {s4 : Shared} {R : Result → Shared → Prop} {Cc acc : Addr}
    (O : CtxOk X C G k) (Q : CompOk C x sc) (hCx : CtxOk (cX' X x sc Cc s2 H2 fp (notedBy (model X.prog X.w) X.A (compEnvC sc (clo X sc) Cc X.env) fun e s' => R (.error e) s')) (C' C x sc) G k)
    (T : Turn X.prog X.w X.K (.Name x px) J fp it tn) (itr : IterOf X.K H2 th2 J ds)
    (hE : ∀ X', CtxOk X' (C' C x sc) G k → PE X' elt (rdE X'.K G pe))
    (hI : (ifs = [] ∧ cond = none) ∨ ∃ c b, ifs = [c] ∧ cond = some b ∧ ∀ X', CtxOk X' (C' C x sc) G k → PT X' c (rdB X'.K G b))
    (en : EnvR X.K H2 th2 ρ σ) (w2 : Wd X.K th2 h2 H2)
    (hrun : compL (turnF G pe cond keep ρ) ds h2 = some (out, h5)) (hz : out.length ≤ SZ) (hCc : Cc ≠ acc) (hfa : acc ∉ fp)
    (I4 : Inv (cX' X x sc Cc s2 H2 fp (notedBy (model X.prog X.w) X.A (compEnvC sc (clo X sc) Cc X.env) fun e s' => R (.error e) s')) [(acc, lobj [] 0)] (none :: kvs σ keep) H2 s4)
    (t0 : tn 0 s4.heap) (hfr : ∀ b ∈ fp, H2 b = none) (ha2 : s2.heap.objs.size ≤ acc) (hac : ∀ y c, (clo X sc).lookup y = some c → c ≠ acc)
    (fin : ∀ s' H' th' its n vs xv, Inv (cX' X x sc Cc s2 H2 fp (notedBy (model X.prog X.w) X.A (compEnvC sc (clo X sc) Cc X.env) fun e s' => R (.error e) s')) [(acc, lobj its n)] (xv :: kvs σ keep) H' s' →
      Vals vs its → RepVs X.K H' th' out vs → Wd X.K th' h5 H' → Gr th2 th' H2 H' → R (.ok .next) s') :
    codeAny (model X.prog X.w) X.A (.compLoop (.ListComp elt [⟨.Name x px, iter, ifs, 0⟩] sc pos) 0 (.ref it) (.ref acc) (compEnvC sc (clo X sc) Cc X.env)) R s4 := by
  generalize hxe : (notedBy (model X.prog X.w) X.A (compEnvC sc (clo X sc) Cc X.env) fun e s' => R (.error e) s') = xe at hCx I4 fin
  generalize hX' : cX' X x sc Cc s2 H2 fp xe = X' at hCx I4 fin
  have p1 : X'.prog = X.prog := by rw [← hX']; rfl
  have p2 : X'.w = X.w := by rw [← hX']; rfl
  have p3 : X'.K = X.K := by rw [← hX']; rfl
  have p4 : X'.A = X.A := by rw [← hX']; rfl
  have p5 : X'.env = compEnvC sc (clo X sc) Cc X.env := by rw [← hX']; rfl
  have p6 : X'.xe = xe := by rw [← hX']; rfl
  have p7 : X'.ex = fp := by rw [← hX']; rfl
  have p8 : X'.pn = [] := by rw [← hX']; rfl
  have p9 : X'.s₀ = s2 := by rw [← hX']; rfl
  have nd' : X'.N.Nodup := by rw [hCx.N]; exact hCx.nd
  have n0 : X'.N[0]? = some x := by rw [hCx.N]; rfl
  have okX := I4.ok
  have fpok : ∀ {H : Hp} {ps : List (Addr × Obj)}, (∀ b ∈ fp, H b = none) → (∀ p ∈ ps, p.1 ∉ fp) → ∀ b ∈ fp, FpOk X' ps H b := fun hn hp b hb => by
    have hb' : b ∈ X'.ex := by rw [p7]; exact hb
    obtain ⟨e1, e2⟩ := okX.exf b hb'
    refine ⟨hn b hb, e1, okX.exfs b hb', .inl hb', e2, fun p h e => ?_⟩
    rw [p8] at h
    exact hp p (by simpa using h) (e ▸ hb)
  refine codeAny_compLoop_go (fun n s => ∃ i H th h its ep vs acc0 xv rest, n = ds.length - i ∧ i ≤ ds.length ∧ Inv X' [(acc, lobj its ep)] (xv :: kvs σ keep) H s ∧ tn i s.heap ∧ (∀ b ∈ fp, H b = none) ∧
    Wd X.K th h H ∧ Gr th2 th H2 H ∧ Vals vs its ∧ RepVs X.K H th acc0 vs ∧ compL (turnF G pe cond keep ρ) (ds.drop i) h = some (rest, h5) ∧ out = acc0 ++ rest) ?_ ds.length
    ⟨0, H2, th2, h2, [], 0, [], [], none, out, rfl, Nat.zero_le _, I4, t0, hfr, w2, Gr.refl _ _, .nil, .nil, by rw [List.drop_zero]; exact hrun, rfl⟩
  rintro n s ⟨i, H, th, h, its, ep, vs, acc0, xv, rest, rfl, hi, I, st, fr, w, g, rv, ra, hrest, hout⟩
  obtain ⟨stepA, stepB⟩ := iter_step itr g w.kd i
  have pn1 : ∀ p ∈ [(acc, lobj its ep)], p.1 ∉ fp := fun p hp => by have e : p = (acc, lobj its ep) := by simpa using hp
                                                                    rw [e]; exact hfa
  rw [hxe]
  by_cases hlt : i < ds.length
  · -- a turn
    have hd : ds[i]? = some ds[i] := List.getElem?_eq_getElem hlt
    have hdr : ds.drop i = ds[i] :: ds.drop (i + 1) := List.drop_eq_getElem_cons hlt
    generalize ds[i] = d at hd hdr
    rw [hdr] at hrest
    unfold compL at hrest
    obtain ⟨⟨od, h7⟩, f1, hrest⟩ := Option.bind_eq_some_iff.mp hrest
    obtain ⟨⟨rest', h8⟩, f2, hrest⟩ := Option.bind_eq_some_iff.mp hrest
    have er : rest = putO od rest' := by cases hrest; rfl
    have e8 : h5 = h8 := by cases hrest; rfl
    subst er e8
    obtain ⟨go, yl⟩ := stepA d hd
    have item := T.item X' p1 p2 p3 hCx.calm i _ s _ H xe I (fpok fr pn1) st go
    rw [p4] at item
    refine thn item fun r s1 ⟨u, hr, h1⟩ => ?_
    subst hr
    refine thn h1 fun _ s5 ⟨xval, H5, I5, r5, y5, st5, fr5⟩ => ?_
    obtain ⟨rfl, rx⟩ := yl xval H5 y5
    have I5' := I5.pinned (fpok fr5 pn1) (T.obj _ _ st5)
    have asg := pg_name (X := X') (pos := px) nd' n0 (.inl (by rw [p5]; exact lookup_relabel_local Q.loc)) (.inr (by rw [p5]; exact lookup_relabel_local Q.loc)) _ s5 _ H5 xval u
      (fun σ' H' => σ' = (some xval :: kvs σ keep) ∧ H' = H5) I5' r5 ⟨rfl, rfl⟩
    rw [p1, p2, p4, p5, p6] at asg
    refine thn asg fun _ s6 ⟨σ6, H6, I6, e6, e6'⟩ => ?_
    subst e6 e6'
    have en6 : EnvR X.K H6 th (some d :: keep.map (getV ρ)) (some xval :: kvs σ keep) := kvs_env (en.mono g w.kd) (some d) (some xval) fun d' e => by cases e; exact ⟨xval, rfl, rx⟩
    -- what is done behind the tests
    have keepTn : ∀ {s9 : Shared} {σ9 : St} {H9 : Hp}, Inv X' ([(acc, lobj its ep)] ++ pinsAt fp s5.heap) σ9 H9 s9 → tn (i + 1) s9.heap ∧ (∀ b ∈ fp, H9 b = none) ∧ s9.heap.get? acc = some (lobj its ep) ∧ H9 acc = none := fun I9 => by
      refine ⟨T.keep _ _ _ st5 fun b hb o e => (I9.pin (b, o) (List.mem_append_right _ (List.mem_append_right _ (mem_pinsAt hb e)))).1, fun b hb => ?_, ?_, ?_⟩
      · obtain ⟨o, e, _⟩ := T.obj _ _ st5 b hb
        exact (I9.pin (b, o) (List.mem_append_right _ (List.mem_append_right _ (mem_pinsAt hb e)))).2.1
      · exact (I9.pin (acc, lobj its ep) (List.mem_append_right _ (List.mem_append_left _ List.mem_cons_self))).1
      · exact (I9.pin (acc, lobj its ep) (List.mem_append_right _ (List.mem_append_left _ List.mem_cons_self))).2.1
    have lenV := ra.length
    have lenI := rv.length
    -- the element is put in
    have emit : ∀ (h6 : AH) (s7 : Shared) (H7 : Hp) (th7 : Th) (de : D), Inv X' ([(acc, lobj its ep)] ++ pinsAt fp s5.heap) (some xval :: kvs σ keep) H7 s7 → Wd X.K th7 h6 H7 → Gr th th7 H6 H7 → ev G pe (some d :: keep.map (getV ρ)) h6 = some (de, h7) → od = some de →
        wpAny (model X.prog X.w) X.A (eval elt (compEnvC sc (clo X sc) Cc X.env)) (fun y s₄ => wpAny (model X.prog X.w) X.A (call (.builtin "list.append") [.ref acc, y]) (fun _ s₅ => ∃ m, m < ds.length - i ∧
          ∃ i H th h its ep vs acc0 xv rest, m = ds.length - i ∧ i ≤ ds.length ∧ Inv X' [(acc, lobj its ep)] (xv :: kvs σ keep) H s₅ ∧ tn i s₅.heap ∧ (∀ b ∈ fp, H b = none) ∧
            Wd X.K th h H ∧ Gr th2 th H2 H ∧ Vals vs its ∧ RepVs X.K H th acc0 vs ∧ compL (turnF G pe cond keep ρ) (ds.drop i) h = some (rest, h5) ∧ out = acc0 ++ rest) xe s₄) xe s7 := by
      intro h6 s7 H7 th7 de I7 w7 g7 e7 eo
      have run := hE X' hCx _ s7 _ H7 (fun v H' => ∃ th', RepV X.K H' th' de v ∧ Wd X.K th' h7 H' ∧ Gr th7 th' H7 H') I7
        ⟨th7, _, h6, de, h7, by rw [p3]; exact w7, by rw [p3]; exact en6.mono g7 w7.kd, e7, fun v H' th' r w' g' => ⟨th', by rw [p3] at r; exact r, by rw [p3] at w'; exact w', g'⟩⟩
      rw [p1, p2, p4, p5, p6] at run
      refine thn run fun y s8 ⟨v, H8, I8, rv8, th8, r8, w8, g8⟩ => ?_
      obtain ⟨tn8, fr8, e8, n8⟩ := keepTn I8
      have hsz : its.toArray.size < sizeLine := by
        rw [List.size_toArray, SZ_eq, ← lenI, ← lenV]
        have : out.length = acc0.length + (rest'.length + 1) := by rw [hout, eo]; simp [putO]
        show acc0.length < 16777216
        have : out.length ≤ 16777216 := hz
        omega
      refine call_meets F.slot_list_append ⟨_, e8, rfl⟩ F.entry_list_append (F.args_list_append_2 _ _) (PySem.list_append acc its.toArray ep y (by omega)) ⟨e8, ?_⟩
      have q := PySem.IsL.update e8 (fun a => a.push y)
      have ea : its.toArray.push y = (its ++ [y]).toArray := by simp
      rw [ea] at q
      obtain ⟨ep', q⟩ : ∃ n', (s8.heap.update acc (Obj.mapSeq fun a => a.push y)).get? acc = some (lobj (its ++ [y]) n') := ⟨_, q⟩
      have I8b : Inv X' (pinsAt fp s5.heap) (some xval :: kvs σ keep) H8 s8 := I8.pins_of fun p hp => I8.pin p (List.mem_append_right _ (List.mem_append_right _ hp))
      have I9 : Inv X' (pinsAt fp s5.heap) (some xval :: kvs σ keep) H8 { s8 with heap := s8.heap.update acc (Obj.mapSeq fun a => a.push y) } := by
        refine I8b.turned (t' := s8.toks) (it := acc) (fun b o hb e => (Heap.get?_update_other s8.heap _ (Ne.symm hb)).trans e) n8 (by rw [p5]; exact Ne.symm hCc) (.inr (by rw [p9]; exact ha2)) (by rw [p5]; exact hac) fun p hp e => ?_
        rw [p8] at hp
        exact hfa (e ▸ (of_pinsAt (by simpa using hp)).1)
      have accP := I8.pin (acc, lobj its ep) (List.mem_append_right _ (List.mem_append_left _ List.mem_cons_self))
      have I10 : Inv X' [(acc, lobj (its ++ [y]) ep')] (some xval :: kvs σ keep) H8 { s8 with heap := s8.heap.update acc (Obj.mapSeq fun a => a.push y) } := I9.pins_of fun p hp => by
        have e : p = (acc, lobj (its ++ [y]) ep') := by simpa using hp
        subst e
        exact ⟨q, n8, accP.2.2.1, accP.2.2.2.1, fun v z => nomatch z⟩
      refine ⟨ds.length - (i + 1), by omega, i + 1, H8, th8, h7, its ++ [y], _, vs ++ [v], acc0 ++ [de], some xval, rest', rfl, hlt, I10, ?_, fr8, w8, (g.trans g7).trans g8, rv.append (.cons rv8 .nil), ?_, f2, by rw [hout, eo]; simp [putO]⟩
      · exact T.keep _ _ _ tn8 fun b hb o e => (Heap.get?_update_other s8.heap _ (show acc ≠ b from fun z => hfa (by rw [z]; exact hb))).trans e
      · exact ((ra.mono g7 w7.kd).mono g8 w8.kd).append (.cons r8 .nil)
    -- the tests
    rcases hI with ⟨rfl, rfl⟩ | ⟨c, b, rfl, rfl, hT⟩
    · refine wpAny_tests_nil ?_
      rw [if_pos rfl]
      unfold turnF at f1
      obtain ⟨⟨de, h7'⟩, f3, f4⟩ := Option.bind_eq_some_iff.mp f1
      cases f4
      exact emit h s6 H6 th de I6 w (Gr.refl _ _) f3 rfl
    · unfold turnF at f1
      obtain ⟨⟨t, h6⟩, f3, f4⟩ := Option.bind_eq_some_iff.mp f1
      have run := hT X' hCx _ s6 _ H6 (fun b H' => b = t ∧ ∃ th', Wd X.K th' h6 H' ∧ Gr th th' H6 H') I6
        ⟨th, _, h, t, h6, by rw [p3]; exact w, by rw [p3]; exact en6, f3, fun H' th' w' g' => ⟨rfl, th', by rw [p3] at w'; exact w', g'⟩⟩
      rw [p1, p2, p4, p5, p6] at run
      refine wpAny_tests_one (thn run fun ok s7 ⟨H7, I7, e7, th7, w7, g7⟩ => ?_)
      subst e7
      cases ok with
      | true =>
        rw [if_pos rfl]
        have f4 : ((ev G pe (some d :: keep.map (getV ρ)) h6).bind fun r => some (some r.1, r.2)) = some (od, h7) := f4
        obtain ⟨⟨de, h7'⟩, f5, f6⟩ := Option.bind_eq_some_iff.mp f4
        cases f6
        exact emit h6 s7 H7 th7 de I7 w7 g7 f5 rfl
      | false =>
        rw [if_neg Bool.false_ne_true]
        have f4 : some (none, h6) = some (od, h7) := f4
        cases f4
        obtain ⟨tn7, fr7, e7, n7⟩ := keepTn I7
        refine ⟨ds.length - (i + 1), by omega, i + 1, H7, th7, _, its, ep, vs, acc0, some xval, rest', rfl, hlt, I7.pins_of fun p hp => I7.pin p (List.mem_append_right _ (List.mem_append_left _ hp)), tn7, fr7, w7, g.trans g7, rv, ra.mono g7 w7.kd, f2, hout⟩
  · have hle : ds.length ≤ i := Nat.le_of_not_lt hlt
    have done := T.done X' p1 p2 p3 hCx.calm i _ s _ H xe I (fpok fr pn1) st (stepB hle)
    rw [p4] at done
    refine thn done fun r s1 ⟨hr, I1⟩ => ?_
    subst hr
    have hdr : ds.drop i = [] := List.drop_eq_nil_of_le hle
    rw [hdr] at hrest
    cases hrest
    rw [List.append_nil] at hout
    subst hout
    exact fin s1 H th its ep vs xv I1 rv ra w g
end
end MP
set_option Elab.async false
set_option linter.all false
set_option maxRecDepth 100000
set_option maxHeartbeats 4000000
namespace MP
open PySem PySem.Spec PyProof.Rows L2

section
variable {X : Cx} {C : CC} {G : List Den} {k : Nat} {x : Str} {sc : Scope} {keep : List Nat}
theorem folded_plain {e : Expr} {p : PX} (h : (cX e C).1 = some p) (env : Env) : ∀ v, foldedSetIterable e env v = pure v := by
  intro v
  cases e <;> first | rfl | (unfold cX at h; cases h)

theorem comp_ev {pe : PX} {cond : Option PB} {src : PI} {ρ : Ev} {h h' : AH} {d : D} (e1 : ev G (.comp pe cond src keep) ρ h = some (d, h')) :
    ∃ ds h2 out, evI G src ρ h = some (ds, h2) ∧ compL (turnF G pe cond keep ρ) ds h2 = some (out, h') ∧ out.length ≤ SZ ∧ d = .lst out := by
  unfold ev at e1
  obtain ⟨⟨ds, h2⟩, q1, e1⟩ := Option.bind_eq_some_iff.mp e1
  obtain ⟨⟨out, h5⟩, q2, e1⟩ := Option.bind_eq_some_iff.mp e1
  split at e1
  · rename_i hz
    cases e1
    refine ⟨ds, h2, out, q1, ?_, hz, rfl⟩
    rw [← q2]
    rfl
  · cases e1

/-- what stands behind the block -/
structure CompEnd (X : Cx) (pins : List (Addr × Obj)) (σ : St) (th2 : Th) (H2 : Hp) (s2 : Shared) (out : List D) (h5 : AH) (s' : Shared) : Prop where
  ex : ∃ (H' : Hp) (th' : Th) (vs : List V) (oC : Obj) (m : Str → Option Value), s'.heap.get? (s2.heap.objs.size + 1) = some oC ∧ (∀ v, oC.data ≠ .cell v) ∧ s'.heap.Ns (s2.heap.objs.size + 1) m ∧
    Inv X (pins ++ [(s2.heap.objs.size + 1, oC)]) σ (upd H' s2.heap.objs.size (.lst vs)) s' ∧ RepV X.K (upd H' s2.heap.objs.size (.lst vs)) th' (.lst out) (.ref s2.heap.objs.size) ∧ Wd X.K th' h5 (upd H' s2.heap.objs.size (.lst vs)) ∧ Gr th2 th' H2 (upd H' s2.heap.objs.size (.lst vs))

theorem comp_block {pins : List (Addr × Obj)} {σ : St} {H2 : Hp} {s2 : Shared} {elt iter : Expr} {ifs : List Expr} {px pos : Pos} {J : It} {it : Addr} {fp : List Addr} {tn : Nat → Heap → Prop} {ds out : List D} {th2 : Th} {h2 h5 : AH} {ρ : Ev} {pe : PX} {cond : Option PB} {RR : Value → Addr → Result → Shared → Prop} {E : Value → Shared → Prop}
    (I : Inv X pins σ H2 s2) (O : CtxOk X C G k) (Q : CompOk C x sc) (hv : varsOf C (freeNames sc.names) = some keep)
    (T : Turn X.prog X.w X.K (.Name x px) J fp it tn) (t0 : tn 0 s2.heap) (hf : ∀ b ∈ fp, FpOk X pins H2 b) (itr : IterOf X.K H2 th2 J ds)
    (hE : ∀ X', CtxOk X' (C' C x sc) G k → PE X' elt (rdE X'.K G pe))
    (hI : (ifs = [] ∧ cond = none) ∨ ∃ c b, ifs = [c] ∧ cond = some b ∧ ∀ X', CtxOk X' (C' C x sc) G k → PT X' c (rdB X'.K G b))
    (en : EnvR X.K H2 th2 ρ σ) (w2 : Wd X.K th2 h2 H2) (hrun : compL (turnF G pe cond keep ρ) ds h2 = some (out, h5)) (hz : out.length ≤ SZ)
    (hRR : ∀ s', CompEnd X pins σ th2 H2 s2 out h5 s' → RR (.ref s2.heap.objs.size) (s2.heap.objs.size + 1) (.ok .next) s') :
    wpAny (model X.prog X.w) X.A (newList []) (fun acc s₃ => wpAny (model X.prog X.w) X.A (newFunctionEnv sc X.env.globals (clo X sc) [] X.env.qual none .none (some X.env)) (fun cenv s₄ =>
      codeAny (model X.prog X.w) X.A (.compStart (.ListComp elt [⟨.Name x px, iter, ifs, 0⟩] sc pos) 0 (.ref it) acc { cenv with scope := relabel sc X.env }) (RR acc cenv.locals) s₄) E s₃) E s2 := by
  have hfo : ∀ b ∈ fp, ∃ o, s2.heap.get? b = some o := fun b hb => let ⟨o, e, _⟩ := T.obj _ _ t0 b hb; ⟨o, e⟩
  have fp_lt : ∀ b ∈ fp, b < s2.heap.objs.size := fun b hb => let ⟨o, e⟩ := hfo b hb; Heap.lt_size e
  refine wpAny_newObj_type (wpAny_newFunctionEnv Q.nocell (by intro y hy; simp at hy) (fun h₁ hns₁ hsb₁ => ?_) Q.kind)
  dsimp only at hns₁ hsb₁ ⊢
  have hC : (s2.heap.push { cls := .type "list", dict := none, data := .seq ([] : List Value).toArray }).objs.size = s2.heap.objs.size + 1 := by rw [Heap.size_push]
  rw [hC] at hns₁ hsb₁
  have k4 : ∀ b o, s2.heap.get? b = some o → h₁.get? b = some o := fun b o e => hsb₁.extBut b o (Nat.ne_of_lt (Nat.lt_succ_of_lt (Heap.lt_size e))) (Heap.get?_push_of_some _ (Heap.get?_push_of_some _ e))
  have hacc : h₁.get? s2.heap.objs.size = some (lobj [] 0) := hsb₁.extBut _ _ (Nat.ne_of_lt (Nat.lt_succ_self _)) (Heap.get?_push_of_some _ (Heap.get?_push_size _ rfl))
  have I4 := inv_comp (xe := notedBy (model X.prog X.w) X.A (compEnvC sc (clo X sc) (s2.heap.objs.size + 1) X.env) fun e s' => RR (.ref s2.heap.objs.size) (s2.heap.objs.size + 1) (.error e) s') (tk := s2.toks + ([] : List (Str × Value)).length) I O Q hv hf hfo k4 hacc (fun v z => nomatch z) hns₁
  have cl_lt : ∀ y c, X.env.cells.lookup y = some c → c < s2.heap.objs.size := fun y c e => let ⟨v, hv⟩ := I.cell y c e; hv.lt
  have loop := comp_loop (s4 := { s2 with heap := h₁, toks := s2.toks + ([] : List (Str × Value)).length }) (iter := iter) (pos := pos) (ifs := ifs) (px := px) (R := RR (.ref s2.heap.objs.size) (s2.heap.objs.size + 1)) (Cc := s2.heap.objs.size + 1) (acc := s2.heap.objs.size) O Q (ctx_comp I O Q _) T itr hE hI en w2 hrun hz (Nat.succ_ne_self _) (fun h => Nat.lt_irrefl _ (fp_lt _ h)) I4
    (T.keep _ _ _ t0 fun b hb o e => k4 b o e) (fun b hb => (hf b hb).1) (Nat.le_refl _) (fun y c e => Nat.ne_of_lt (cl_lt y c (clo_some I O Q e).2)) (fun s' H' th' its n vs xv I' rv ra w' g' => hRR s' ⟨?_⟩)
  · rw [hC]
    exact codeAny_compStart_list loop (T.self _ 0 _ _ _ (T.keep _ _ _ t0 fun b hb o e => k4 b o e) loop)
  · have J1 : Inv X pins σ H' s' := I.call' I'.os I'.base I'.hok I'.bare fun b hb => ⟨(hf b hb).2.2.2.1, (hf b hb).2.1, (hf b hb).2.2.2.2.1, (hf b hb).2.2.2.2.2⟩
    obtain ⟨m, hn, _⟩ := I'.loc
    obtain ⟨oC, es, epo, hoC, hdC, _⟩ := id hn
    have hpa := I'.pin (s2.heap.objs.size, lobj its n) (List.mem_append_right _ List.mem_cons_self)
    have hCn : H' (s2.heap.objs.size + 1) = none := I'.free
    have pin_lt : ∀ p ∈ X.pn ++ pins, p.1 < s2.heap.objs.size := fun p hp => Heap.lt_size (I.pin p hp).1
    have lsz : vs.length ≤ sizeLine := by rw [← ra.length, SZ_eq]; exact hz
    have J2 : Inv X pins σ (upd H' s2.heap.objs.size (.lst vs)) s' := J1.track hpa.2.1 (Ne.symm (Nat.ne_of_lt I.lt)) (.inr I.sz) (fun y c e => Nat.ne_of_lt (cl_lt y c e)) (fun p hp => Nat.ne_of_lt (pin_lt p hp)) hpa.1 rv lsz
    have hoC' : s'.heap.get? (s2.heap.objs.size + 1) = some oC := hoC
    have nocell : ∀ v, oC.data ≠ .cell v := fun v z => by rw [hdC] at z; cases z
    have J3 : Inv X (pins ++ [(s2.heap.objs.size + 1, oC)]) σ (upd H' s2.heap.objs.size (.lst vs)) s' := J2.pins_of fun p hp => by
      rcases List.mem_append.mp hp with z | z
      · exact J2.pin p (List.mem_append_right _ z)
      · have e : p = (s2.heap.objs.size + 1, oC) := by simpa using z
        subst e
        refine ⟨hoC', by rw [upd_ne (Nat.succ_ne_self _)]; exact hCn, Ne.symm (Nat.ne_of_lt (Nat.lt_succ_of_lt I.lt)), fun hb => ?_, nocell⟩
        exact I.nofs (Nat.le_succ _) hb
    have gl := Gr.laid (H := H') (o := .lst vs) th' hpa.2.1
    exact ⟨H', th', vs, oC, m, hoC', nocell, hn, J3, .lst (SqL.of upd_same) (w'.notin hpa.2.1) (ra.mono gl w'.kd), w'.laid hpa.2.1, g'.trans gl⟩

theorem e_comp {elt iter : Expr} {ifs : List Expr} {px pos : Pos} {pe : PX} {cond : Option PB} {src : PI} (O : CtxOk X C G k) (Q : CompOk C x sc) (hv : varsOf C (freeNames sc.names) = some keep)
    (hi : L2.PI X (.Name x px) iter (rdI X.K G src)) (hE : ∀ X', CtxOk X' (C' C x sc) G k → PE X' elt (rdE X'.K G pe))
    (hI : (ifs = [] ∧ cond = none) ∨ ∃ c b, ifs = [c] ∧ cond = some b ∧ ∀ X', CtxOk X' (C' C x sc) G k → PT X' c (rdB X'.K G b)) (hs : ∀ v, foldedSetIterable iter X.env v = pure v) :
    PE X (.ListComp elt [⟨.Name x px, iter, ifs, 0⟩] sc pos) (rdE X.K G (.comp pe cond src keep)) := by
  intro pins s σ H Qv I hq
  obtain ⟨th, ρ, h, d, h', w, en, e1, kk⟩ := hq
  obtain ⟨ds, h2, out, q1, q2, hz, rfl⟩ := comp_ev e1
  rw [eval_ListComp]
  refine wpAny_comprehension_free (use := none) rfl hs (closureFor_eq (cells_free I O Q)) Q.kind Q.locs ?_
  refine thn (hi pins s σ H (fun J H' => ∃ th2, IterOf X.K H' th2 J ds ∧ Wd X.K th2 h2 H' ∧ Gr th th2 H H') I ⟨th, ρ, h, ds, h2, w, en, q1, fun J H' th' i w' g => ⟨th', i, w', g⟩⟩) fun v s1 h1 => ?_
  refine thn h1 fun itv s2 ⟨it, fp, tn, J, H2, e, I2, T, t0, hf, th2, itr, w2, g2⟩ => ?_
  subst e
  refine comp_block (RR := fun acc Cc => compPost (model X.prog X.w) X.A X.xe none (EP X pins σ Qv) acc Cc) I2 O Q hv T t0 hf itr hE hI (en.mono g2 w2.kd) w2 q2 hz fun s' ⟨H', th', vs, oC, m, hoC, nc, hn, J3, r, w', g'⟩ => ?_
  refine ⟨m, hn, fun h'' hs'' => ?_⟩
  have J4 : Inv X pins σ (upd H' s2.heap.objs.size (.lst vs)) { s' with heap := h'' } := by
    have pc := J3.pin (s2.heap.objs.size + 1, oC) (List.mem_append_right _ (List.mem_append_right _ (by simp)))
    refine (J3.unpinned).turned (t' := s'.toks) (it := s2.heap.objs.size + 1) (fun b o hb e => hs''.extBut b o hb e) pc.2.1 pc.2.2.1 (.inr (Nat.le_trans I2.sz (Nat.le_succ _))) (fun y c e => ?_) fun p hp => ?_
    · obtain ⟨v, hv⟩ := I2.cell y c e
      exact Nat.ne_of_lt (Nat.lt_succ_of_lt hv.lt)
    · exact Nat.ne_of_lt (Nat.lt_succ_of_lt (Heap.lt_size (I2.pin p hp).1))
  exact ⟨.ref s2.heap.objs.size, _, J4, rfl, kk _ _ th' r w' (g2.trans g')⟩
end
end MP
set_option Elab.async false
set_option linter.all false
set_option maxRecDepth 100000
set_option maxHeartbeats 4000000
namespace MP
open PySem PySem.Spec PyProof.Rows L2

section
variable {X : Cx} {C : CC} {G : List Den} {k : Nat} {x : Str} {sc : Scope} {keep : List Nat}
theorem s_comp {elt iter : Expr} {ifs : List Expr} {px pos py spos : Pos} {pe : PX} {cond : Option PB} {src : PI} {y : Str} {i : Nat} (S : CtxS X C G k) (Q : CompOk C x sc) (hv : varsOf C (freeNames sc.names) = some keep)
    (hl : isLoc (lk C.nm y) = true) (hy : C.var y = some i)
    (hsw : swapsWith (.ListComp elt [⟨.Name x px, iter, ifs, 0⟩] sc pos) (some (.Name y py)) spos.line X.env = pure true)
    (hi : L2.PI X (.Name x px) iter (rdI X.K G src)) (hE : ∀ X', CtxOk X' (C' C x sc) G k → PE X' elt (rdE X'.K G pe))
    (hI : (ifs = [] ∧ cond = none) ∨ ∃ c b, ifs = [c] ∧ cond = some b ∧ ∀ X', CtxOk X' (C' C x sc) G k → PT X' c (rdB X'.K G b)) (hs : ∀ v, foldedSetIterable iter X.env v = pure v) :
    PS X (.Assign [.Name y py] (.ListComp elt [⟨.Name x px, iter, ifs, 0⟩] sc pos) spos) (rdS X.K G (.asg (.nm i) (.comp pe cond src keep))) := by
  have O := S.ok
  intro pins s σ H D0 I hq
  obtain ⟨th, ρ, h, w, en, qq⟩ := hq
  unfold exS at qq
  cases e1 : ev G (.comp pe cond src keep) ρ h with
  | none => rw [e1] at qq; exact qq.elim
  | some dd =>
    obtain ⟨d, h'⟩ := dd
    rw [e1] at qq
    obtain ⟨ds, h2, out, q1, q2, hz, rfl⟩ := comp_ev e1
    have qq : RK X.K D0 th H (.nx (ρ.set i (some (.lst out))) h') := qq
    rw [exec_Assign_Name_used _ _ _ _ hsw]
    refine wpAny_bind (wpAny_standAt (wpAny_bind ?_))
    show wpAny _ X.A (do let _ ← comprehension (.ListComp elt [⟨.Name x px, iter, ifs, 0⟩] sc pos) sc X.env _ (newList []) false (eval iter X.env) (some (assign (.Name y py) X.env))) _ _ s
    refine wpAny_bind (wpAny_mono (wpAny_comprehension_free (use := some (assign (.Name y py) X.env)) (Q := fun _ s' => SP X pins D0 .next s') rfl hs (closureFor_eq (cells_free I O Q)) Q.kind Q.locs ?_) (fun _ s' hq => wpAny_pure (wpAny_pure hq)) fun _ _ e => e)
    refine thn (hi pins s σ H (fun J H' => ∃ th2, IterOf X.K H' th2 J ds ∧ Wd X.K th2 h2 H' ∧ Gr th th2 H H') I ⟨th, ρ, h, ds, h2, w, en, q1, fun J H' th' i w' g => ⟨th', i, w', g⟩⟩) fun v s1 h1 => ?_
    refine thn h1 fun itv s2 ⟨it, fp, tn, J, H2, e, I2, T, t0, hf, th2, itr, w2, g2⟩ => ?_
    subst e
    refine comp_block (RR := fun acc Cc => compPost (model X.prog X.w) X.A X.xe (some (assign (.Name y py) X.env)) (fun _ s' => SP X pins D0 .next s') acc Cc) I2 O Q hv T t0 hf itr hE hI (en.mono g2 w2.kd) w2 q2 hz fun s' ⟨H', th', vs, oC, m, hoC, nc, hn, J3, r, w', g'⟩ => ?_
    have hg := g_name (pos := py) S hl hy (pins ++ [(s2.heap.objs.size + 1, oC)]) s' σ (upd H' s2.heap.objs.size (.lst vs)) (.ref s2.heap.objs.size) (.ref s2.heap.objs.size) (fun σ' H'' => H'' = upd H' s2.heap.objs.size (.lst vs) ∧ EnvR X.K H'' th' (ρ.set i (some (.lst out))) σ') J3 rfl
      ⟨th', ρ, h', .lst out, _, w', (en.mono g2 w2.kd).mono g' w'.kd, r, rfl, fun σ' e => ⟨rfl, e⟩⟩
    show wpAny _ X.A (assign (.Name y py) X.env (.ref s2.heap.objs.size)) _ _ _
    refine thn hg fun _ s'' ⟨σ', H'', J4, e4, en4⟩ => ?_
    subst e4
    have pc := J4.pin (s2.heap.objs.size + 1, oC) (List.mem_append_right _ (List.mem_append_right _ (by simp)))
    refine ⟨m, hn.at fun o e => by rw [hoC] at e; cases e; exact pc.1, fun h'' hs'' => ?_⟩
    have J5 : Inv X pins σ' (upd H' s2.heap.objs.size (.lst vs)) { s'' with heap := h'' } := by
      refine (J4.unpinned).turned (t' := s''.toks) (it := s2.heap.objs.size + 1) (fun b o hb e => hs''.extBut b o hb e) pc.2.1 pc.2.2.1 (.inr (Nat.le_trans I2.sz (Nat.le_succ _))) (fun y c e => ?_) fun p hp => ?_
      · obtain ⟨v, hv⟩ := I2.cell y c e
        exact Nat.ne_of_lt (Nat.lt_succ_of_lt hv.lt)
      · exact Nat.ne_of_lt (Nat.lt_succ_of_lt (Heap.lt_size (I2.pin p hp).1))
    exact ⟨σ', _, J5, qq σ' _ th' en4 w' (g2.trans g')⟩
end
end MP
set_option Elab.async false
set_option linter.all false
set_option maxRecDepth 100000
set_option maxHeartbeats 4000000
namespace MP
open PySem PySem.Spec PyProof.Rows L2

inductive F2 {α β : Type} (R : α → β → Prop) : List α → List β → Prop
  | nil : F2 R [] []
  | cons {a : α} {b : β} {as : List α} {bs : List β} : R a b → F2 R as bs → F2 R (a :: as) (b :: bs)

def SX (e : Expr) : Prop := ∀ (X : Cx) (C : CC) (G : List Den) (k : Nat), CtxOk X C G k → (∀ p, (cX e C).1 = some p → PE X e (rdE X.K G p)) ∧ ∀ b, (cX e C).2 = some b → PT X e (rdB X.K G b)
def SXs (es : List Expr) : Prop := ∀ (X : Cx) (C : CC) (G : List Den) (k : Nat), CtxOk X C G k → (∀ ps, (cXs es C).1 = some ps → F2 (fun e p => PE X e (rdE X.K G p)) es ps) ∧ ∀ bs, (cXs es C).2 = some bs → F2 (fun e b => PT X e (rdB X.K G b)) es bs
def SXo (e : Option Expr) : Prop := ∀ (X : Cx) (C : CC) (G : List Den) (k : Nat), CtxOk X C G k → ∀ o, cXo e C = some o → PO X e (rdO X.K G o)

section
variable {X : Cx} {C : CC} {G : List Den} {k : Nat}
theorem vb_ok {e : Expr} {o : Option PX} (h : ∀ p, o = some p → PE X e (rdE X.K G p)) (he : ∀ whole, isTrue e X.env whole = (do let v ← whole; standAt e.pos; holding [v] (truthy v))) :
    (∀ p, (vb o).1 = some p → PE X e (rdE X.K G p)) ∧ ∀ b, (vb o).2 = some b → PT X e (rdB X.K G b) := by
  refine ⟨h, fun b hb => ?_⟩
  cases o with
  | none => cases hb
  | some p => cases hb; exact t_val (h p rfl) he
theorem vb_okT {e : Expr} {o : Option PX} (h : ∀ p, o = some p → PE X e (rdE X.K G p)) (ht : ∀ p, o = some p → PT X e (rdB X.K G (.val p))) :
    (∀ p, (vb o).1 = some p → PE X e (rdE X.K G p)) ∧ ∀ b, (vb o).2 = some b → PT X e (rdB X.K G b) := by
  refine ⟨h, fun b hb => ?_⟩
  cases o with
  | none => cases hb
  | some p => cases hb; exact ht p rfl
theorem nn_ok {e : Expr} : (∀ p, ((none, none) : CR).1 = some p → PE X e (rdE X.K G p)) ∧ ∀ b, ((none, none) : CR).2 = some b → PT X e (rdB X.K G b) :=
  ⟨fun p h => (by cases h), fun b h => (by cases h)⟩
/-- an argument list -/
theorem pa_of : ∀ {es : List Expr} {ps : List PX}, F2 (fun e p => PE X e (rdE X.K G p)) es ps → (cXs es C).1 = some ps → PA X es (rdA X.K G ps)
  | _, _, .nil, _ => a_nil
  | e :: es, p :: ps, .cons h r, hc => by
    unfold cXs at hc
    cases h1 : (cX e C).1 with
    | none => rw [h1] at hc; cases hc
    | some p' =>
      cases h2 : (cXs es C).1 with
      | none => rw [h1, h2] at hc; cases hc
      | some ps' =>
        rw [h1, h2] at hc
        cases hc
        exact a_cons h (pa_of r h2) (star1 h1 es _)
theorem and_of {pos : Pos} : ∀ {es : List Expr} {e : Expr} {p : PX} {ps : List PX}, PE X e (rdE X.K G p) → F2 (fun e p => PE X e (rdE X.K G p)) es ps → PE X (.BoolOp .And (e :: es) pos) (rdE X.K G (cAnd p ps))
  | _, _, _, _, h, .nil => pe_one h
  | _, _, _, _, h, .cons h2 r => e_and h (and_of h2 r)
theorem or_of {pos : Pos} : ∀ {es : List Expr} {e : Expr} {p : PX} {ps : List PX}, PE X e (rdE X.K G p) → F2 (fun e p => PE X e (rdE X.K G p)) es ps → PE X (.BoolOp .Or (e :: es) pos) (rdE X.K G (cOr p ps))
  | _, _, _, _, h, .nil => pe_one h
  | _, _, _, _, h, .cons h2 r => e_or h (or_of h2 r)
theorem band_of {pos : Pos} : ∀ {es : List Expr} {e : Expr} {p : PB} {ps : List PB}, PT X e (rdB X.K G p) → F2 (fun e p => PT X e (rdB X.K G p)) es ps → PW X (.BoolOp .And (e :: es) pos) (rdB X.K G (bAnd p ps))
  | _, _, _, _, h, .nil => pw_and1 h
  | _, _, _, _, h, .cons h2 r => w_and h (band_of h2 r)
theorem bor_of {pos : Pos} : ∀ {es : List Expr} {e : Expr} {p : PB} {ps : List PB}, PT X e (rdB X.K G p) → F2 (fun e p => PT X e (rdB X.K G p)) es ps → PW X (.BoolOp .Or (e :: es) pos) (rdB X.K G (bOr p ps))
  | _, _, _, _, h, .nil => pw_or1 h
  | _, _, _, _, h, .cons h2 r => w_or h (bor_of h2 r)
theorem plainIx {j : Expr} {q : PX} (h : (cX j C).1 = some q) : PlainIx j := by
  cases j <;> first | exact fun _ _ => rfl | (unfold cX at h; cases h)
end
theorem vb_fst {o : Option PX} : (vb o).1 = o := rfl
/-- what comes out as range: range itself -/
theorem bltOf_range {x : Str} {as : List PX} {q : PX} (h : bltOf x as = some (.blt .range [q])) : x = "range" ∧ as = [q] := by
  unfold bltOf at h
  repeat' (split at h)
  all_goals first | (rename_i c; cases h; exact ⟨eq_of_beq (Bool.and_eq_true_iff.mp c).1, rfl⟩) | cases h
theorem range_is {C : CC} {it : Expr} {q : PX} (h : (cX it C).1 = some (.blt .range [q])) : (∃ np pos a, it = .Call (.Name "range" np) [a] [] pos ∧ C.isGl "range" = true ∧ C.bl.contains "range" = true ∧ (cX a C).1 = some q) := by
  cases it with
  | Call f args kws pos =>
    rw [cX, vb_fst] at h
    unfold kCall at h
    cases kws with
    | cons _ _ => cases h
    | nil =>
      cases f with
      | Name x np =>
        have h : kNm C x args (cHd args C) (cXs args C).1 = some (.blt .range [q]) := h
        unfold kNm at h
        split at h
        · split at h
          · split at h
            · cases h
            · cases h
          · cases h
        · cases ha : (cXs args C).1 with
          | none => rw [ha] at h; cases h
          | some as =>
            rw [ha] at h
            have h : callOf C x as = some (.blt .range [q]) := h
            unfold callOf at h
            split at h
            · cases h
            · split at h
              · rename_i hgl
                cases hf : C.fs.findIdx? (· == x) with
                | some i => rw [hf] at h; cases h
                | none =>
                  rw [hf] at h
                  dsimp only at h
                  split at h
                  · rename_i hbl
                    obtain ⟨rfl, rfl⟩ := bltOf_range h
                    cases args with
                    | nil => unfold cXs at ha; cases ha
                    | cons a r =>
                      unfold cXs at ha
                      cases h1 : (cX a C).1 with
                      | none => rw [h1] at ha; cases ha
                      | some p1 =>
                        cases h2 : (cXs r C).1 with
                        | none => rw [h1, h2] at ha; cases ha
                        | some ps =>
                          rw [h1, h2] at ha
                          cases ha
                          cases r with
                          | nil => exact ⟨np, pos, a, rfl, hgl, hbl, h1⟩
                          | cons b r =>
                            unfold cXs at h2
                            cases h3 : (cX b C).1 with
                            | none => rw [h3] at h2; cases h2
                            | some p2 =>
                              cases h4 : (cXs r C).1 with
                              | none => rw [h3, h4] at h2; cases h2
                              | some _ => rw [h3, h4] at h2; cases h2
                  · cases h
              · cases h
      | Attribute o m ap =>
        have h : kMt C o m args ap pos (cFn (.Attribute o m ap) C) (cXs args C).1 = some (.blt .range [q]) := h
        unfold kMt at h
        split at h
        · split at h
          · unfold mthOf at h
            repeat' (split at h)
            all_goals cases h
          · cases h
        · cases h
      | _ => cases h
  | ListComp elt gens sc pos =>
    rw [cX, vb_fst] at h
    unfold kComp at h
    repeat' (split at h)
    all_goals cases h
  | Constant c _ _ => rw [cX, vb_fst] at h; cases c <;> cases h
  | Name x _ =>
    rw [cX, vb_fst] at h
    unfold kName at h
    split at h
    · cases h
    · split at h
      · cases e : List.lookup x C.ct with
        | none => rw [e] at h; cases h
        | some d => rw [e] at h; cases h
      · cases h
  | BinOp a op b _ =>
    rw [cX, vb_fst] at h
    unfold kBin at h
    split at h <;> cases h
  | UnaryOp op a _ =>
    rw [cX] at h
    cases op with
    | USub => rw [kUn, vb_fst] at h; cases e : (cX a C).1 with
      | none => rw [e] at h; cases h
      | some d => rw [e] at h; cases h
    | Not => rw [kUn] at h; dsimp only at h; cases e : (cX a C).1 with
      | none => rw [e] at h; cases h
      | some d => rw [e] at h; cases h
    | _ => cases h
  | Compare a ops bs _ =>
    rw [cX, vb_fst] at h
    unfold kCmp at h
    repeat' (split at h)
    all_goals cases h
  | BoolOp op vs _ =>
    rw [cX] at h
    cases op with
    | And =>
      have h : kAnd (cXs vs C).1 = some (.blt .range [q]) := h
      unfold kAnd at h
      split at h <;> cases h
    | Or =>
      have h : kOr (cXs vs C).1 = some (.blt .range [q]) := h
      unfold kOr at h
      split at h <;> cases h
  | IfExp c a b _ =>
    rw [cX] at h
    have h : kIte (cX c C).2 (cX a C).1 (cX b C).1 = some (.blt .range [q]) := h
    unfold kIte at h
    split at h <;> cases h
  | Tuple es _ _ =>
    rw [cX, vb_fst] at h
    cases e : (cXs es C).1 with
    | none => rw [e] at h; cases h
    | some d => rw [e] at h; cases h
  | List es _ =>
    rw [cX, vb_fst] at h
    unfold kLst at h
    repeat' (split at h)
    all_goals cases h
  | Subscript a i _ =>
    rw [cX, vb_fst] at h
    unfold kSub at h
    repeat' (split at h)
    all_goals cases h
  | _ => unfold cX at h; cases h
theorem i_of {X : Cx} {C : CC} {G : List Den} {k : Nat} {tg it : Expr} {p : PX} (O : CtxOk X C G k) (h : (cX it C).1 = some p) (he : PE X it (rdE X.K G p)) (harg : ∀ f a pos, it = .Call f [a] [] pos → ∀ q, (cX a C).1 = some q → PE X a (rdE X.K G q)) : L2.PI X tg it (rdI X.K G (toPI p)) := by
  by_cases hr : ∃ q, p = .blt .range [q]
  · obtain ⟨q, rfl⟩ := hr
    obtain ⟨np, pos, a, rfl, hgl, hbl, h1⟩ := range_is h
    obtain ⟨g, pl⟩ := isGl_ok O hgl
    exact i_rng g (O.bl _ hbl) (harg _ a pos rfl _ h1) (star1 h1 [] _)
  · have e : toPI p = .seq p := by
      unfold toPI
      split
      · rename_i q; exact absurd ⟨q, rfl⟩ hr
      · rfl
    rw [e]
    exact i_seq he
theorem xs_cons {C : CC} {e : Expr} {es : List Expr} {ps : List PX} (h : (cXs (e :: es) C).1 = some ps) : ∃ p r, (cX e C).1 = some p ∧ (cXs es C).1 = some r ∧ ps = p :: r := by
  unfold cXs at h
  cases h1 : (cX e C).1 with
  | none => rw [h1] at h; cases h
  | some p =>
    cases h2 : (cXs es C).1 with
    | none => rw [h1, h2] at h; cases h
    | some r => rw [h1, h2] at h; cases h; exact ⟨p, r, rfl, rfl, rfl⟩
theorem bs_cons {C : CC} {e : Expr} {es : List Expr} {ps : List PB} (h : (cXs (e :: es) C).2 = some ps) : ∃ p r, (cX e C).2 = some p ∧ (cXs es C).2 = some r ∧ ps = p :: r := by
  unfold cXs at h
  cases h1 : (cX e C).2 with
  | none => rw [h1] at h; cases h
  | some p =>
    cases h2 : (cXs es C).2 with
    | none => rw [h1, h2] at h; cases h
    | some r => rw [h1, h2] at h; cases h; exact ⟨p, r, rfl, rfl, rfl⟩
end MP
set_option Elab.async false
set_option linter.all false
set_option maxRecDepth 100000
set_option maxHeartbeats 4000000
namespace MP
open PySem PySem.Spec PyProof.Rows L2

section
variable {X : Cx} {C : CC} {G : List Den} {k : Nat}
theorem x_con {c : Const} {j : Nat} {pos : Pos} {p : PX} (h : kCon c = some p) : PE X (.Constant c j pos) (rdE X.K G p) := by
  cases c with
  | none => cases h; exact e_con pe_non fun H th => .non
  | bool b => cases h; exact e_con pe_bl fun H th => .bl b
  | int i => cases h; exact e_con pe_int fun H th => .int i
  | str s =>
    cases h
    refine e_con pe_str fun H th => ?_
    have : s = SS s.cps.toList := by cases s; simp [SS]
    rw [this]
    exact .str _
  | _ => cases h
theorem x_name {x : Str} {pos : Pos} {p : PX} (O : CtxOk X C G k) (h : kName C x = some p) : PE X (.Name x pos) (rdE X.K G p) := by
  unfold kName at h
  split at h
  · rename_i i hv; cases h; exact e_var O hv
  · split at h
    · rename_i hg
      cases e : List.lookup x C.ct with
      | none => rw [e] at h; cases h
      | some d => rw [e] at h; cases h; exact e_glob O hg e
    · cases h
theorem x_un {op : UnaryOp} {a : Expr} {pos : Pos} {r : CR} (h1 : ∀ p, r.1 = some p → PE X a (rdE X.K G p)) (h2 : ∀ b, r.2 = some b → PT X a (rdB X.K G b)) :
    (∀ p, (kUn op r).1 = some p → PE X (.UnaryOp op a pos) (rdE X.K G p)) ∧ ∀ b, (kUn op r).2 = some b → PT X (.UnaryOp op a pos) (rdB X.K G b) := by
  obtain ⟨o, b⟩ := r
  cases op with
  | USub =>
    refine vb_ok (fun p hp => ?_) fun _ => rfl
    cases o with
    | none => cases hp
    | some q => cases hp; exact e_neg (h1 q rfl)
  | Not =>
    refine ⟨fun p hp => ?_, fun c hc => ?_⟩
    · cases o with
      | none => cases hp
      | some q => cases hp; exact e_not (h1 q rfl)
    · cases b with
      | none => cases hc
      | some q => cases hc; exact t_not (h2 q rfl)
  | _ => exact nn_ok
theorem marks1 {op : CmpOp} {b : Expr} (h : lastMarks [op] [b] = false) : behindInMarks op b = false := h
theorem kCmp_some {ops : List CmpOp} {bs : List Expr} {o : Option PX} {os : Option (List PX)} {r : PX} (h : kCmp ops bs o os = some r) :
    ∃ p qs, o = some p ∧ os = some qs ∧ lastMarks ops bs = false ∧ ((∃ op q, ops = [op] ∧ qs = [q] ∧ r = .cmp op p q) ∨ ∃ op op' q q', ops = [op, op'] ∧ qs = [q, q'] ∧ r = .cmp2 op op' p q q') := by
  cases o with
  | none => cases h
  | some p =>
    cases os with
    | none => cases h
    | some qs =>
      refine ⟨p, qs, rfl, rfl, ?_⟩
      unfold kCmp at h
      dsimp only at h
      cases hm : lastMarks ops bs with
      | true => rw [hm, if_pos rfl] at h; cases h
      | false =>
        rw [hm, if_neg Bool.false_ne_true] at h
        refine ⟨rfl, ?_⟩
        split at h
        · cases h; exact .inl ⟨_, _, rfl, rfl, rfl⟩
        · cases h; exact .inr ⟨_, _, _, _, rfl, rfl, rfl⟩
        · cases h
theorem x_cmp {ops : List CmpOp} {a : Expr} {bs : List Expr} {pos : Pos} {o : Option PX} {os : Option (List PX)} (O : CtxOk X C G k) (h1 : ∀ p, o = some p → PE X a (rdE X.K G p)) (h2 : ∀ ps, os = some ps → F2 (fun e p => PE X e (rdE X.K G p)) bs ps) :
    (∀ p, (vb (kCmp ops bs o os)).1 = some p → PE X (.Compare a ops bs pos) (rdE X.K G p)) ∧ ∀ b, (vb (kCmp ops bs o os)).2 = some b → PT X (.Compare a ops bs pos) (rdB X.K G b) := by
  refine vb_okT (fun r h => ?_) fun r h => ?_
  · obtain ⟨p, qs, rfl, rfl, hm, h⟩ := kCmp_some h
    have f := h2 qs rfl
    rcases h with ⟨op, q, rfl, rfl, rfl⟩ | ⟨op, op', q, q', rfl, rfl, rfl⟩
    · cases f with
      | cons fa fr => cases fr; exact e_cmp O (h1 p rfl) fa (marks1 hm)
    · cases f with
      | cons fa fr => cases fr with
        | cons fb fr => cases fr; exact e_cmp2 O (h1 p rfl) fa fb hm
  · obtain ⟨p, qs, rfl, rfl, hm, h⟩ := kCmp_some h
    have f := h2 qs rfl
    rcases h with ⟨op, q, rfl, rfl, rfl⟩ | ⟨op, op', q, q', rfl, rfl, rfl⟩
    · cases f with
      | cons fa fr => cases fr; exact t_cmp O (h1 p rfl) fa (marks1 hm)
    · cases f with
      | cons fa fr => cases fr with
        | cons fb fr => cases fr; exact t_cmp2 O (h1 p rfl) fa fb hm
theorem x_bool {op : BoolOp} {vs : List Expr} {pos : Pos} {r : Option (List PX) × Option (List PB)} (h1 : ∀ ps, r.1 = some ps → F2 (fun e p => PE X e (rdE X.K G p)) vs ps) (h2 : ∀ bs, r.2 = some bs → F2 (fun e b => PT X e (rdB X.K G b)) vs bs) :
    (∀ p, (kBool op r).1 = some p → PE X (.BoolOp op vs pos) (rdE X.K G p)) ∧ ∀ b, (kBool op r).2 = some b → PT X (.BoolOp op vs pos) (rdB X.K G b) := by
  obtain ⟨o, b⟩ := r
  cases op with
  | And =>
    refine ⟨fun p hp => ?_, fun c hc => ?_⟩
    · have hp : kAnd o = some p := hp
      unfold kAnd at hp
      split at hp
      · cases hp
        cases h1 _ rfl with
        | cons fa fr => exact and_of fa fr
      · cases hp
    · have hc : kbAnd b = some c := hc
      unfold kbAnd at hc
      split at hc
      · cases hc
        cases h2 _ rfl with
        | cons fa fr => exact (band_of fa fr).pt
      · cases hc
  | Or =>
    refine ⟨fun p hp => ?_, fun c hc => ?_⟩
    · have hp : kOr o = some p := hp
      unfold kOr at hp
      split at hp
      · cases hp
        cases h1 _ rfl with
        | cons fa fr => exact or_of fa fr
      · cases hp
    · have hc : kbOr b = some c := hc
      unfold kbOr at hc
      split at hc
      · cases hc
        cases h2 _ rfl with
        | cons fa fr => exact (bor_of fa fr).pt
      · cases hc
theorem x_lst {es : List Expr} {pos : Pos} {o : Option (List PX)} {p : PX} (h1 : ∀ ps, o = some ps → PA X es (rdA X.K G ps)) (h : kLst C pos o = some p) : PE X (.List es pos) (rdE X.K G p) := by
  unfold kLst at h
  split at h
  · split at h
    · cases h; exact e_new (h1 _ rfl)
    · cases h; exact e_lst (h1 _ rfl)
  · cases h
theorem x_call {f : Expr} {args : List Expr} {pos : Pos} {p : PX} (O : CtxOk X C G k) (hA : F2 (fun e p => PE X e (rdE X.K G p)) args ((cXs args C).1.getD []) ∨ (cXs args C).1 = none)
    (hH : ∀ a r, args = a :: r → ∀ q, (cX a C).1 = some q → PE X a (rdE X.K G q)) (hF : ∀ e m ap, f = .Attribute e m ap → ∀ q, (cX e C).1 = some q → PE X e (rdE X.K G q))
    (h : kCall C f args [] pos (cFn f C) (cHd args C) (cXs args C).1 = some p) : PE X (.Call f args [] pos) (rdE X.K G p) := by
  have hPA : ∀ as, (cXs args C).1 = some as → PA X args (rdA X.K G as) := fun as e => by
    rcases hA with q | q
    · rw [e] at q; exact pa_of (C := C) q e
    · rw [q] at e; cases e
  unfold kCall at h
  cases f with
  | Name x np =>
    replace h : kNm C x args (cHd args C) (cXs args C).1 = some p := h
    unfold kNm at h
    split at h
    · rename_i hc
      rw [Bool.and_eq_true] at hc
      obtain ⟨a, t, tp, pa, ty, rfl, e1, e2, rfl⟩ : ∃ a t tp pa ty, args = [a, .Name t tp] ∧ cHd args C = some pa ∧ tyOf C t = some ty ∧ p = .isi pa ty := by
        split at h
        · split at h
          · cases h; exact ⟨_, _, _, _, _, rfl, ‹_›, ‹_›, rfl⟩
          · cases h
        · cases h
      rw [cHd] at e1
      exact e_isi O (eq_of_beq hc.1) hc.2 (hH a _ rfl _ e1) e2 (star1 e1 _ _)
    · cases ha : (cXs args C).1 with
      | none => rw [ha] at h; cases h
      | some as =>
        rw [ha] at h
        replace h : callOf C x as = some p := h
        unfold callOf at h
        split at h
        · cases h
        · rename_i hne
          split at h
          · rename_i hgl
            cases args with
            | nil => unfold cXs at ha; cases ha; exact absurd rfl hne
            | cons a r =>
              obtain ⟨pa, ra, e1, e2, rfl⟩ := xs_cons ha
              have hst := star1 e1 r X.env
              have hpl := (stars r _ e2 X.env pos).1
              cases hf : C.fs.findIdx? (· == x) with
              | some i =>
                rw [hf] at h
                cases h
                exact e_call O hgl hf (hPA _ ha) hst hpl
              | none =>
                rw [hf] at h
                dsimp only at h
                split at h
                · rename_i hbl
                  exact e_blt O hgl hbl h (hPA _ ha) hst hpl
                · cases h
          · cases h
  | Attribute o m ap =>
    replace h : kMt C o m args ap pos (cFn (.Attribute o m ap) C) (cXs args C).1 = some p := h
    cases ho : cFn (.Attribute o m ap) C with
    | none => rw [ho] at h; cases h
    | some po =>
      cases ha : (cXs args C).1 with
      | none => rw [ho, ha] at h; cases h
      | some as =>
        rw [ho, ha] at h
        unfold kMt at h
        dsimp only at h
        split at h
        · rename_i hc
          rw [Bool.and_eq_true, Bool.and_eq_true] at hc
          have ho' : (cX o C).1 = some po := by rw [cFn] at ho; exact ho
          have one : ∃ pa, as = [pa] := by
            unfold mthOf at h
            repeat' (split at h)
            all_goals first | exact ⟨_, rfl⟩ | cases h
          obtain ⟨pa, rfl⟩ := one
          cases args with
          | nil => unfold cXs at ha; cases ha
          | cons a r =>
            obtain ⟨pa', ra, e1, e2, e3⟩ := xs_cons ha
            cases e3
            have hl := (stars r _ e2 X.env pos).2.2
            have : r = [] := List.eq_nil_of_length_eq_zero hl
            subst this
            exact e_mth h hc.1.1 hc.1.2 (hF o m ap rfl _ ho') (hH a _ rfl _ e1) (star1 e1 [] _)
        · cases h
  | _ => cases h
end

mutual
theorem sX : ∀ e : Expr, SX e
  | .Constant c j pos => fun X C G k O => by
    rw [cX]
    exact vb_ok (fun p h => x_con h) fun _ => rfl
  | .Name x pos => fun X C G k O => by
    rw [cX]
    exact vb_ok (fun p h => x_name O h) fun _ => rfl
  | .BinOp a op b pos => fun X C G k O => by
    have ia := sX a X C G k O
    have ib := sX b X C G k O
    rw [cX]
    refine vb_ok (fun p h => ?_) fun _ => rfl
    unfold kBin at h
    split at h
    · rename_i p1 q1 h1 h2; cases h; exact e_bin (ia.1 _ h1) (ib.1 _ h2)
    · cases h
  | .UnaryOp op a pos => fun X C G k O => by
    have ia := sX a X C G k O
    rw [cX]
    exact x_un ia.1 ia.2
  | .Compare a ops bs pos => fun X C G k O => by
    have ia := sX a X C G k O
    have ib := sXs bs X C G k O
    rw [cX]
    exact x_cmp O ia.1 ib.1
  | .BoolOp op vs pos => fun X C G k O => by
    have ib := sXs vs X C G k O
    rw [cX]
    exact x_bool ib.1 ib.2
  | .IfExp c a b pos => fun X C G k O => by
    have ic := sX c X C G k O
    have ia := sX a X C G k O
    have ib := sX b X C G k O
    rw [cX]
    refine ⟨fun p h => ?_, fun _ h => by cases h⟩
    have h : kIte (cX c C).2 (cX a C).1 (cX b C).1 = some p := h
    unfold kIte at h
    split at h
    · rename_i h1 h2 h3; cases h; exact e_ite (ic.2 _ h1) (ia.1 _ h2) (ib.1 _ h3)
    · cases h
  | .Tuple es j pos => fun X C G k O => by
    have ib := sXs es X C G k O
    rw [cX]
    refine vb_ok (fun p h => ?_) fun _ => rfl
    cases e : (cXs es C).1 with
    | none => rw [e] at h; cases h
    | some ps => rw [e] at h; cases h; exact e_tup (pa_of (ib.1 _ e) e)
  | .List es pos => fun X C G k O => by
    have ib := sXs es X C G k O
    rw [cX]
    exact vb_ok (fun p h => x_lst (fun ps e => pa_of (ib.1 _ e) e) h) fun _ => rfl
  | .Subscript a i pos => fun X C G k O => by
    have ia := sX a X C G k O
    have ii := sX i X C G k O
    have is := sSl i X C G k O
    rw [cX]
    refine vb_ok (fun p h => ?_) fun _ => rfl
    unfold kSub at h
    split at h
    · rename_i p1 l u q1 h1 h2
      split at h
      · cases h
        obtain ⟨lo, hi, p2, rfl, hl, hu⟩ := is _ _ h2
        exact e_sl (ia.1 _ h1) hl hu
      · cases h
    · rename_i p1 q1 h1 h2 h3
      split at h
      · cases h
      · cases h
        exact e_idx (ia.1 _ h1) (ii.1 _ h3) (plainIx h3)
    · cases h
  | .Call f args kws pos => fun X C G k O => by
    have iA := sXs args X C G k O
    have iH := sHd args X C G k O
    have iF := sFn f X C G k O
    rw [cX]
    refine vb_ok (fun p h => ?_) fun _ => rfl
    cases kws with
    | cons _ _ => cases h
    | nil =>
      refine x_call O ?_ iH iF h
      cases e : (cXs args C).1 with
      | none => exact .inr rfl
      | some ps => exact .inl (iA.1 _ e)
  | .ListComp elt gens sc pos => fun X C G k O => by
    have iG := sG gens
    have iE := sX elt
    rw [cX]
    refine vb_ok (fun p h => ?_) fun _ => rfl
    unfold kComp at h
    split at h
    · rename_i x px it fs pe hn h1 h2 h3
      split at h
      · rename_i hok
        have hQ := compOk_of hok
        have hsub : subC C gens sc = C' C x sc := by unfold subC; rw [hn]
        obtain ⟨iter, ifs, rfl, i1, i2⟩ := iG _ _ hn
        rw [hsub] at h2 h3
        have h1 : (cX iter C).1 = some it := by rw [cG] at h1; exact h1
        have h2 : (cXs ifs (C' C x sc)).2 = some fs := by rw [cG] at h2; exact h2
        obtain ⟨j1, j2⟩ := i1 X C G k O
        have hpi : L2.PI X (.Name x px) iter (rdI X.K G (toPI it)) := i_of O h1 (j1 _ h1) j2
        have hE : ∀ X', CtxOk X' (C' C x sc) G k → PE X' elt (rdE X'.K G pe) := fun X' O' => (iE X' _ G k O').1 _ h3
        have hF : ∀ X', CtxOk X' (C' C x sc) G k → F2 (fun e b => PT X' e (rdB X'.K G b)) ifs fs := fun X' O' => (i2 X' _ G k O').2 _ h2
        split at h
        · rename_i keep hv _
          cases h
          have hnil : ifs = [] := by
            cases ifs with
            | nil => rfl
            | cons a r => obtain ⟨_, _, _, _, e⟩ := bs_cons h2; cases e
          exact e_comp O hQ hv hpi hE (.inl ⟨hnil, rfl⟩) (folded_plain h1 _)
        · rename_i keep c hv _
          cases h
          have hone : ∃ a, ifs = [a] := by
            cases ifs with
            | nil => unfold cXs at h2; cases h2
            | cons a r =>
              obtain ⟨p1, r1, e1, e2, e3⟩ := bs_cons h2
              cases e3
              cases r with
              | nil => exact ⟨a, rfl⟩
              | cons b r => obtain ⟨_, _, _, _, e⟩ := bs_cons e2; cases e
          obtain ⟨a, rfl⟩ := hone
          exact e_comp O hQ hv hpi hE (.inr ⟨a, c, rfl, rfl, fun X' O' => by cases hF X' O' with | cons f _ => exact f⟩) (folded_plain h1 _)
        · cases h
      · cases h
    · cases h
  | .NamedExpr .. => fun X C G k O => by unfold cX; exact nn_ok
  | .Lambda .. => fun X C G k O => by unfold cX; exact nn_ok
  | .Dict .. => fun X C G k O => by unfold cX; exact nn_ok
  | .Set .. => fun X C G k O => by unfold cX; exact nn_ok
  | .SetComp .. => fun X C G k O => by unfold cX; exact nn_ok
  | .DictComp .. => fun X C G k O => by unfold cX; exact nn_ok
  | .GeneratorExp .. => fun X C G k O => by unfold cX; exact nn_ok
  | .Await .. => fun X C G k O => by unfold cX; exact nn_ok
  | .Yield .. => fun X C G k O => by unfold cX; exact nn_ok
  | .YieldFrom .. => fun X C G k O => by unfold cX; exact nn_ok
  | .FormattedValue .. => fun X C G k O => by unfold cX; exact nn_ok
  | .JoinedStr .. => fun X C G k O => by unfold cX; exact nn_ok
  | .Attribute .. => fun X C G k O => by unfold cX; exact nn_ok
  | .Starred .. => fun X C G k O => by unfold cX; exact nn_ok
  | .Slice .. => fun X C G k O => by unfold cX; exact nn_ok
theorem sXs : ∀ es : List Expr, SXs es
  | [] => fun X C G k O => by
    refine ⟨fun ps h => ?_, fun bs h => ?_⟩
    · unfold cXs at h; cases h; exact .nil
    · unfold cXs at h; cases h; exact .nil
  | e :: es => fun X C G k O => by
    have ia := sX e X C G k O
    have ib := sXs es X C G k O
    refine ⟨fun ps h => ?_, fun bs h => ?_⟩
    · obtain ⟨p, r, h1, h2, rfl⟩ := xs_cons h
      exact .cons (ia.1 _ h1) (ib.1 _ h2)
    · obtain ⟨p, r, h1, h2, rfl⟩ := bs_cons h
      exact .cons (ia.2 _ h1) (ib.2 _ h2)
theorem sXo : ∀ e : Option Expr, SXo e
  | none => fun X C G k O o h => by unfold cXo at h; cases h; exact o_none
  | some e => fun X C G k O o h => by
    have ia := sX e X C G k O
    rw [cXo] at h
    cases e1 : (cX e C).1 with
    | none => rw [e1] at h; cases h
    | some p => rw [e1] at h; cases h; exact o_some (ia.1 _ e1)
theorem sSl : ∀ i : Expr, ∀ (X : Cx) (C : CC) (G : List Den) (k : Nat), CtxOk X C G k → ∀ l u, cSl i C = some (l, u) → ∃ lo hi p2, i = .Slice lo hi none p2 ∧ PO X lo (rdO X.K G l) ∧ PO X hi (rdO X.K G u)
  | .Slice lo hi st p2 => fun X C G k O l u h => by
    have i1 := sXo lo X C G k O
    have i2 := sXo hi X C G k O
    cases st with
    | some _ => unfold cSl at h; cases h
    | none =>
      rw [cSl] at h
      split at h
      · rename_i h1 h2
        cases h
        exact ⟨lo, hi, p2, rfl, i1 _ h1, i2 _ h2⟩
      · cases h
  | .Constant .. | .Name .. | .BinOp .. | .UnaryOp .. | .Compare .. | .BoolOp .. | .IfExp .. | .Tuple .. | .List .. | .Subscript .. | .Call .. | .ListComp .. | .NamedExpr .. | .Lambda .. | .Dict .. | .Set .. | .SetComp .. | .DictComp .. | .GeneratorExp .. | .Await .. | .Yield .. | .YieldFrom .. | .FormattedValue .. | .JoinedStr .. | .Attribute .. | .Starred .. => fun X C G k O l u h => by unfold cSl at h; cases h
theorem sFn : ∀ f : Expr, ∀ (X : Cx) (C : CC) (G : List Den) (k : Nat), CtxOk X C G k → ∀ e m ap, f = .Attribute e m ap → ∀ q, (cX e C).1 = some q → PE X e (rdE X.K G q)
  | .Attribute o m ap => fun X C G k O e m' ap' h q hq => by
    have i1 := sX o X C G k O
    cases h
    exact i1.1 _ hq
  | .Constant .. | .Name .. | .BinOp .. | .UnaryOp .. | .Compare .. | .BoolOp .. | .IfExp .. | .Tuple .. | .List .. | .Subscript .. | .Call .. | .ListComp .. | .NamedExpr .. | .Lambda .. | .Dict .. | .Set .. | .SetComp .. | .DictComp .. | .GeneratorExp .. | .Await .. | .Yield .. | .YieldFrom .. | .FormattedValue .. | .JoinedStr .. | .Slice .. | .Starred .. => fun X C G k O e m' ap' h q hq => by cases h
theorem sHd : ∀ es : List Expr, ∀ (X : Cx) (C : CC) (G : List Den) (k : Nat), CtxOk X C G k → ∀ a r, es = a :: r → ∀ q, (cX a C).1 = some q → PE X a (rdE X.K G q)
  | [] => fun X C G k O a r h q hq => by cases h
  | e :: es => fun X C G k O a r h q hq => by
    have i1 := sX e X C G k O
    cases h
    exact i1.1 _ hq
/-- what is walked, and the argument of a range -/
theorem sIt : ∀ e : Expr, ∀ (X : Cx) (C : CC) (G : List Den) (k : Nat), CtxOk X C G k → ∀ f a pos, e = .Call f [a] [] pos → ∀ q, (cX a C).1 = some q → PE X a (rdE X.K G q)
  | .Call f args kws pos => fun X C G k O f' a pos' h q hq => by
    have iH := sHd args X C G k O
    cases h
    exact iH a [] rfl q hq
  | .Constant .. | .Name .. | .BinOp .. | .UnaryOp .. | .Compare .. | .BoolOp .. | .IfExp .. | .Tuple .. | .List .. | .Subscript .. | .Attribute .. | .ListComp .. | .NamedExpr .. | .Lambda .. | .Dict .. | .Set .. | .SetComp .. | .DictComp .. | .GeneratorExp .. | .Await .. | .Yield .. | .YieldFrom .. | .FormattedValue .. | .JoinedStr .. | .Slice .. | .Starred .. => fun X C G k O f' a pos' h q hq => by cases h
theorem sG : ∀ gens : List Comprehension, ∀ x px, gName gens = some (x, px) → ∃ iter ifs, gens = [⟨.Name x px, iter, ifs, 0⟩] ∧ (∀ (X : Cx) (C : CC) (G : List Den) (k : Nat), CtxOk X C G k → (∀ p, (cX iter C).1 = some p → PE X iter (rdE X.K G p)) ∧ ∀ f a pos, iter = .Call f [a] [] pos → ∀ q, (cX a C).1 = some q → PE X a (rdE X.K G q)) ∧ SXs ifs
  | [⟨t, iter, ifs, asy⟩] => fun x px h => by
    have i1 := sX iter
    have i2 := sIt iter
    have i3 := sXs ifs
    cases t with
    | Name y py =>
      unfold gName at h
      dsimp only at h
      split at h
      · rename_i ha
        cases h
        have : asy = 0 := eq_of_beq ha
        subst this
        exact ⟨iter, ifs, rfl, fun X C G k O => ⟨(i1 X C G k O).1, i2 X C G k O⟩, i3⟩
      · cases h
    | _ => cases h
  | [] => fun x px h => by cases h
  | _ :: _ :: _ => fun x px h => by simp [gName] at h
end
end MP
set_option Elab.async false
set_option linter.all false
set_option maxRecDepth 100000
set_option maxHeartbeats 4000000
namespace MP
open PySem PySem.Spec PyProof.Rows L2

section
variable {X : Cx} {C : CC} {G : List Den} {k : Nat}
/-- what a comprehension is made of -/
theorem comp_data {elt : Expr} {gens : List Comprehension} {sc : Scope} {pos : Pos} {p : PX} (O : CtxOk X C G k) (h : (cX (.ListComp elt gens sc pos) C).1 = some p) :
    ∃ x px iter ifs pe cond src keep, gens = [⟨.Name x px, iter, ifs, 0⟩] ∧ p = .comp pe cond src keep ∧ CompOk C x sc ∧ varsOf C (freeNames sc.names) = some keep ∧ L2.PI X (.Name x px) iter (rdI X.K G src) ∧
      (∀ X', CtxOk X' (C' C x sc) G k → PE X' elt (rdE X'.K G pe)) ∧ ((ifs = [] ∧ cond = none) ∨ ∃ c b, ifs = [c] ∧ cond = some b ∧ ∀ X', CtxOk X' (C' C x sc) G k → PT X' c (rdB X'.K G b)) ∧ ∀ v, foldedSetIterable iter X.env v = pure v := by
  rw [cX, vb_fst] at h
  unfold kComp at h
  split at h
  · rename_i x px it fs pe hn h1 h2 h3
    split at h
    · rename_i hok
      have hQ := compOk_of hok
      have hsub : subC C gens sc = C' C x sc := by unfold subC; rw [hn]
      obtain ⟨iter, ifs, rfl, i1, i2⟩ := sG gens _ _ hn
      rw [hsub] at h2 h3
      have h1 : (cX iter C).1 = some it := by rw [cG] at h1; exact h1
      have h2 : (cXs ifs (C' C x sc)).2 = some fs := by rw [cG] at h2; exact h2
      obtain ⟨j1, j2⟩ := i1 X C G k O
      have hpi : L2.PI X (.Name x px) iter (rdI X.K G (toPI it)) := i_of O h1 (j1 _ h1) j2
      have hE : ∀ X', CtxOk X' (C' C x sc) G k → PE X' elt (rdE X'.K G pe) := fun X' O' => (sX elt X' _ G k O').1 _ h3
      have hF : ∀ X', CtxOk X' (C' C x sc) G k → F2 (fun e b => PT X' e (rdB X'.K G b)) ifs fs := fun X' O' => (i2 X' _ G k O').2 _ h2
      split at h
      · rename_i keep hv _
        cases h
        have hnil : ifs = [] := by
          cases ifs with
          | nil => rfl
          | cons a r => obtain ⟨_, _, _, _, e⟩ := bs_cons h2; cases e
        exact ⟨x, px, iter, ifs, _, _, _, _, rfl, rfl, hQ, hv, hpi, hE, .inl ⟨hnil, rfl⟩, folded_plain h1 _⟩
      · rename_i keep c hv _
        cases h
        have hone : ∃ a, ifs = [a] := by
          cases ifs with
          | nil => unfold cXs at h2; cases h2
          | cons a r =>
            obtain ⟨p1, r1, e1, e2, e3⟩ := bs_cons h2
            cases e3
            cases r with
            | nil => exact ⟨a, rfl⟩
            | cons b r => obtain ⟨_, _, _, _, e⟩ := bs_cons e2; cases e
        obtain ⟨a, rfl⟩ := hone
        exact ⟨x, px, iter, [a], _, _, _, _, rfl, rfl, hQ, hv, hpi, hE, .inr ⟨a, c, rfl, rfl, fun X' O' => by cases hF X' O' with | cons f _ => exact f⟩, folded_plain h1 _⟩
      · cases h
    · cases h
  · cases h
theorem swaps_no {e : Expr} {p : PX} {t : Option Expr} {line : Nat} {env : Env} (hc : isCompE e = false) (h : (cX e C).1 = some p) : swapsWith e t line env = pure false := by
  cases e <;> first | rfl | (unfold cX at h; cases h; done) | (cases hc; done)
theorem x_asg {ts : List Expr} {e : Expr} {pos : Pos} {p : PSt} (S : CtxS X C G k) (h : kAsg C ts e = some p) : PS X (.Assign ts e pos) (rdS X.K G p) := by
  have O := S.ok
  unfold kAsg at h
  split at h
  · rename_i t
    split at h
    · cases h
    · rename_i ht
      cases hT : cT t C with
      | none => rw [hT] at h; cases h
      | some g =>
        cases hE : cE e C with
        | none => rw [hT, hE] at h; cases h
        | some q =>
          rw [hT, hE] at h
          cases h
          have hg := g_all S hT
          have he := (sX e X C G k O).1 _ hE
          have hw : swappedStores [t] e X.env = pure none := by
            cases t with
            | Name x p => rfl
            | Tuple es j p =>
              cases e with
              | Tuple _ _ _ => exact absurd rfl ht
              | _ => rfl
            | _ => cases hT
          have h1 : (assignEach [t] X.env).map (·.2) = [assign t X.env] := by
            cases t with
            | Name x p => rfl
            | Tuple es j p => rfl
            | _ => cases hT
          cases hc : isCompE e with
          | false => exact s_asg he hg (swaps_no hc hE) hw h1
          | true =>
            cases e with
            | ListComp elt gens sc cp =>
              cases t with
              | Name y py =>
                have hT' : (if isLoc (lk C.nm y) = true then (C.var y).map PTg.nm else none) = some g := hT
                split at hT'
                · rename_i hl
                  cases hy : C.var y with
                  | none => rw [hy] at hT'; cases hT'
                  | some i =>
                    rw [hy] at hT'
                    cases hT'
                    have hsw : ∃ b : Bool, swapsWith (.ListComp elt gens sc cp) (some (.Name y py)) pos.line X.env = pure b := ⟨_, rfl⟩
                    obtain ⟨b, hb⟩ := hsw
                    cases b with
                    | false => exact s_asg he hg hb hw h1
                    | true =>
                      obtain ⟨x, px, iter, ifs, pe, cond, src, keep, rfl, rfl, hQ, hv, hpi, hEl, hI, hs⟩ := comp_data O hE
                      exact s_comp S hQ hv hl hy hb hpi hEl hI hs
                · cases hT'
              | Tuple es j p => exact s_asg he hg rfl hw h1
              | _ => cases hT
            | _ => cases hc
  · cases h
theorem x_aug {t : Expr} {op : Operator} {e : Expr} {pos : Pos} {p : PSt} (S : CtxS X C G k) (h : kAug C t op e = some p) : PS X (.AugAssign t op e pos) (rdS X.K G p) := by
  unfold kAug at h
  cases t with
  | Name x tp =>
    dsimp only at h
    split at h
    · rename_i i q h1 h2
      cases h
      split at h1
      · rename_i hl
        exact s_aug S hl h1 ((sX e X C G k S.ok).1 _ h2)
      · cases h1
    · cases h
  | _ => cases h
theorem x_ex {e : Expr} {pos : Pos} {p : PSt} (S : CtxS X C G k) (h : kEx C e = some p) : PS X (.Expr e pos) (rdS X.K G p) := by
  unfold kEx at h
  split at h
  · rename_i hd
    cases h
    cases e with
    | Constant c j cp =>
      cases c with
      | str s => exact s_doc
      | _ => cases hd
    | _ => cases hd
  · split at h
    · cases h
    · rename_i hc
      cases hE : cE e C with
      | none => rw [hE] at h; cases h
      | some q =>
        rw [hE] at h
        cases h
        exact s_ex ((sX e X C G k S.ok).1 _ hE) (swaps_no (by simpa using hc) hE)
end

mutual
theorem sS : ∀ s : Stmt, ∀ (X : Cx) (C : CC) (G : List Den) (k : Nat), CtxS X C G k → ∀ p, cS s C = some p → PS X s (rdS X.K G p)
  | .Return v pos => fun X C G k S p h => by
    rw [cS] at h
    cases v with
    | none => unfold cXo at h; cases h; exact s_retN
    | some e =>
      rw [cXo] at h
      cases e1 : (cX e C).1 with
      | none => rw [e1] at h; cases h
      | some q => rw [e1] at h; cases h; exact s_ret ((sX e X C G k S.ok).1 _ e1)
  | .Assign ts e pos => fun X C G k S p h => by rw [cS] at h; exact x_asg S h
  | .AugAssign t op e pos => fun X C G k S p h => by rw [cS] at h; exact x_aug S h
  | .Expr e pos => fun X C G k S p h => by rw [cS] at h; exact x_ex S h
  | .If c a b pos => fun X C G k S p h => by
    have ia := sSs a X C G k S
    have ib := sSs b X C G k S
    rw [cS] at h
    unfold kIf at h
    split at h
    · rename_i h1 h2 h3; cases h; exact s_if ((sX c X C G k S.ok).2 _ h1) (ia _ h2) (ib _ h3)
    · cases h
  | .For t it b orelse pos => fun X C G k S p h => by
    have ib := sSs b X C G k S
    rw [cS] at h
    unfold kFor at h
    split at h
    · rename_i g i q h1 h2 h3
      split at h
      · rename_i ho
        cases h
        have : orelse = [] := by simpa using ho
        subst this
        unfold cI at h2
        cases e1 : cE it C with
        | none => rw [e1] at h2; cases h2
        | some pi =>
          rw [e1] at h2
          cases h2
          exact s_for S.own S.ok.calm (i_of S.ok e1 ((sX it X C G k S.ok).1 _ e1) (sIt it X C G k S.ok)) (g_all S h1) (ib _ h3) (folded_plain e1 _)
      · cases h
    · cases h
  | .Break pos => fun X C G k S p h => by unfold cS at h; cases h; exact s_brk
  | .Continue pos => fun X C G k S p h => by unfold cS at h; cases h; exact s_cnt
  | .Pass pos => fun X C G k S p h => by unfold cS at h; cases h; exact s_pas
  | .FunctionDef .. | .AsyncFunctionDef .. | .ClassDef .. | .Delete .. | .TypeAlias .. | .AnnAssign .. | .AsyncFor .. | .While .. | .With .. | .AsyncWith .. | .Match .. | .Raise .. | .Try .. | .TryStar .. | .Assert .. | .Import .. | .ImportFrom .. | .Global .. | .Nonlocal .. => fun X C G k S p h => by unfold cS at h; cases h
theorem sSs : ∀ s : List Stmt, ∀ (X : Cx) (C : CC) (G : List Den) (k : Nat), CtxS X C G k → ∀ p, cSs s C = some p → PSs X s (rdSs X.K G p)
  | [] => fun X C G k S p h => by unfold cSs at h; cases h; exact ss_nil
  | s :: r => fun X C G k S p h => by
    have ia := sS s X C G k S
    have ib := sSs r X C G k S
    rw [cSs] at h
    split at h
    · rename_i h1 h2; cases h; exact ss_cons (ia _ h1) (ib _ h2)
    · cases h
end
end MP
set_option Elab.async false
set_option linter.all false
set_option maxRecDepth 100000
set_option maxHeartbeats 4000000
namespace MP
open PySem PySem.Spec PyProof.Rows L2

section
variable {K : PySem.W.Frag} {H H0 : Hp} {th t : Th}
mutual
/-- what names no new object stands without them -/
theorem RepV.cut0 : ∀ {d : D} {v : V}, nrf d = true → RepV K H (th ++ t) d v → RepV K H th d v
  | _, _, _, .non => .non
  | _, _, _, .bl b => .bl b
  | _, _, _, .int i => .int i
  | _, _, _, .str s => .str s
  | _, _, n, .tup q r => .tup q (RepVs.cut0 (by simpa [nrf] using n) r)
  | _, _, n, .lst q m r => .lst q (fun z => m (List.mem_append_left _ z)) (RepVs.cut0 (by simpa [nrf] using n) r)
  | _, _, n, .ref _ => by cases n
theorem RepVs.cut0 : ∀ {ds : List D} {vs : List V}, nrfs ds = true → RepVs K H (th ++ t) ds vs → RepVs K H th ds vs
  | _, _, _, .nil => .nil
  | _, _, n, .cons a b => by
    rw [nrfs, Bool.and_eq_true] at n
    exact .cons (RepV.cut0 n.1 a) (RepVs.cut0 n.2 b)
end
mutual
theorem RepV.cut1 : ∀ {d : D} {v v0 : V}, RepV K H0 th d v0 → RepV K H (th ++ t) d v → RepV K H th d v
  | _, _, _, _, .non => .non
  | _, _, _, _, .bl b => .bl b
  | _, _, _, _, .int i => .int i
  | _, _, _, _, .str s => .str s
  | _, _, _, .tup _ r0, .tup q r => .tup q (RepVs.cut1 r0 r)
  | _, _, _, .lst _ _ r0, .lst q m r => .lst q (fun z => m (List.mem_append_left _ z)) (RepVs.cut1 r0 r)
  | .ref n, _, _, .ref e0, .ref e => .ref (by
      have hn : n < th.length := (List.getElem?_eq_some_iff.mp e0).1
      rw [List.getElem?_append_left hn] at e
      exact e)
theorem RepVs.cut1 : ∀ {ds : List D} {vs vs0 : List V}, RepVs K H0 th ds vs0 → RepVs K H (th ++ t) ds vs → RepVs K H th ds vs
  | _, _, _, _, .nil => .nil
  | _, _, _, .cons a0 b0, .cons a b => .cons (RepV.cut1 a0 a) (RepVs.cut1 b0 b)
end
theorem Wd.cut {h h1 : AH} (w0 : Wd K th h H0) (w : Wd K (th ++ t) h1 H) (e : h1.take h.length = h) : Wd K th h H where
  nd := (List.nodup_append.mp w.nd).1
  len := w0.len
  kd := fun a m => w.kd a (List.mem_append_left _ m)
  obj := fun n a o e1 e2 => by
    have hn : n < th.length := (List.getElem?_eq_some_iff.mp e1).1
    have r0 := w0.obj n a o e1 e2
    have e2' : h1[n]? = some o := by
      rw [← e] at e2
      rw [List.getElem?_take_of_lt (by rw [← w0.len]; exact hn)] at e2
      exact e2
    have r := w.obj n a o (by rw [List.getElem?_append_left hn]; exact e1) e2'
    cases o with
    | lst ds =>
      obtain ⟨vs0, _, q0⟩ := r0
      obtain ⟨vs, e3, q⟩ := r
      exact ⟨vs, e3, RepVs.cut1 q0 q⟩
    | dct _ => exact r.elim
    | ins _ _ => exact r.elim
theorem Gr.cut (g : Gr th (th ++ t) H0 H) : Gr th th H0 H := ⟨⟨[], by simp⟩, g.keep, g.tups, fun a h1 h2 => absurd h1 h2⟩
end

/-- the promise of what is cut -/
theorem cut_ok {K : PySem.W.Frag} {th : Th} {h h1 : AH} {H : Hp} {d : D} {Q : VK} {f : Den} {ds : List D} (w : Wd K th h H) (e : f ds h = .ok d h1)
    (q : match cutDen f ds h with
      | .ok d h' => ∀ v H' th', RepV K H' th' d v → Wd K th' h' H' → Gr th th' H H' → Q v H'
      | .exc c h' => False
      | .bad => False) : ∀ v H' th', RepV K H' th' d v → Wd K th' h1 H' → Gr th th' H H' → Q v H' := by
  intro v H' th' r w' g
  by_cases hc : nrf d = true ∧ h1.take h.length = h
  · rw [cutDen_ok e hc.1 hc.2] at q
    obtain ⟨t, rfl⟩ := g.pre
    exact q v H' th (r.cut0 hc.1) (w.cut w' hc.2) g.cut
  · have : cutDen f ds h = .ok d h1 := by
      unfold cutDen
      rw [e]
      exact if_neg hc
    rw [this] at q
    exact q v H' th' r w' g

theorem startE_env {K : PySem.W.Frag} {th : Th} {H : Hp} {N : List Str} {ds : List D} {vs : List V} (r : RepVs K H th ds vs) : EnvR K H th (startE N.length ds) (L2.start N vs) := by
  have len := r.length
  refine ⟨by simp [startE, L2.start, len], fun i d e => ?_⟩
  unfold getV startE at e
  by_cases hi : i < ds.length
  · rw [List.getElem?_append_left (by simpa using hi), List.getElem?_map] at e
    cases q : ds[i]? with
    | none => rw [q] at e; cases e
    | some d' =>
      rw [q] at e
      have : d' = d := by simpa using e
      subst this
      obtain ⟨v, e2, r2⟩ := r.get q
      refine ⟨v, ?_, r2⟩
      unfold L2.start
      rw [List.getElem?_append_left (by simp; omega), List.getElem?_map, e2]
      rfl
  · rw [List.getElem?_append_right (by simp; omega), List.getElem?_replicate] at e
    split at e <;> cases e

/-- the promise of a def by its meaning, without a context -/
def FnX (P : Program) (w : World) (K : PySem.W.Frag) (mg : Str → Option Value) (base : Heap) (k : Nat) (x : Str) (f : Den) : Prop :=
  ∃ (fa : Addr) (fd : FuncData) (ps : List Str), mg x = some (.ref fa) ∧ PySem.W.keepIn K (.ref fa) = true ∧
    FnOk P w K mg base CX0 k fa fd ps (spOf K ps.length f) ∧ Binds K fd ps [] ∧ ∀ ds h d h', f ds h = .ok d h' → ds.length = ps.length
theorem FnX.mono {P : Program} {w : World} {K : PySem.W.Frag} {mg : Str → Option Value} {base : Heap} {j k : Nat} {x : Str} {f : Den} (h : FnX P w K mg base j x f) (hj : j ≤ k) : FnX P w K mg base k x f := by
  obtain ⟨fa, fd, ps, a, b, c, d, e⟩ := h
  exact ⟨fa, fd, ps, a, b, c.mono hj, d, e⟩

theorem runF_len {G : List Den} {np n : Nat} {b : List PSt} {ds : List D} {h h' : AH} {d : D} (e : cutDen (runF G np n b) ds h = .ok d h') : ds.length = np := by
  by_cases hl : ds.length = np
  · exact hl
  · have : runF G np n b ds h = .bad := by unfold runF; exact if_neg hl
    unfold cutDen at e
    rw [this] at e
    cases e

/-- what all the defs of a text have in common -/
structure Txt (mg : Str → Option Value) (K : PySem.W.Frag) (ct : List (Str × D)) (bl : List Str) : Prop where
  ct : ∀ y d, ct.lookup y = some d → ∃ u v, mg y = some u ∧ RelV v u ∧ ∀ H th, RepV K H th d v
  bl : ∀ y, bl.contains y = true → mg y = none

theorem fn_ok {P : Program} {w : World} {K : PySem.W.Frag} {mg : Str → Option Value} {base : Heap} {x qual : Str} {st : Stmt} {f : Addr} {fd : FuncData} {N ps : List Str} {k : Nat} {C : CC} {G : List Den} {b : List PSt}
    (F : Fun K x qual st f fd) (S : FnScope N ps (defScope st)) (T : Txt mg K C.ct C.bl) (hN : C.N = N) (hnm : C.nm = (defScope st).names) (hb : cSs (defBody st) C = some b)
    (hfs : ∀ (i : Nat) y g, C.fs[i]? = some y → G[i]? = some g → FnX P w K mg base k y g) :
    FnOk P w K mg base CX0 (k + 1) f fd ps (spOf K ps.length (cutDen (runF G ps.length N.length b))) := by
  refine F.ok S (fun vs H Q E h => h.1) (fun cdv A outer s H vs Q E hr h => ?_)
  obtain ⟨hl, th, h, ds, wd, rv, q⟩ := h
  have O : CtxS (cxOf CX0 P w K mg base N qual (defScope st) f cdv A outer s H E).nox C G k := {
    ok := {
      N := hN.symm
      nm := hnm.symm
      nd := by rw [hN]; exact S.nd
      calm := rfl
      room := hr
      ct := T.ct
      fs := fun i y g h1 h2 => ⟨hfs i y g h1 h2⟩
      bl := T.bl }
    fn := fun y _ => .inl rfl
    own := PassesOwn.never }
  refine ⟨_, sSs _ _ C G k O b hb, th, startE N.length ds, h, wd, startE_env rv, ?_⟩
  have hdl : ds.length = ps.length := by rw [rv.length]; exact hl
  cases e : exSs G b (startE N.length ds) h with
  | rt d h1 =>
    have er : runF G ps.length N.length b ds h = .ok d h1 := by unfold runF; rw [if_pos hdl, e]
    exact cut_ok wd er q
  | nx ρ' h1 =>
    have er : runF G ps.length N.length b ds h = .ok .non h1 := by unfold runF; rw [if_pos hdl, e]
    have := cut_ok wd er q
    exact fun σ' H' th' _ w' g => this .non H' th' .non w' g
  | bk ρ' h1 =>
    have er : runF G ps.length N.length b ds h = .bad := by unfold runF; rw [if_pos hdl, e]
    unfold cutDen at q
    rw [er] at q
    exact q.elim
  | ct ρ' h1 =>
    have er : runF G ps.length N.length b ds h = .bad := by unfold runF; rw [if_pos hdl, e]
    unfold cutDen at q
    rw [er] at q
    exact q.elim
  | exc c ρ' h1 =>
    have er : runF G ps.length N.length b ds h = .exc c h1 := by unfold runF; rw [if_pos hdl, e]
    unfold cutDen at q
    rw [er] at q
    exact q.elim
  | bad =>
    have er : runF G ps.length N.length b ds h = .bad := by unfold runF; rw [if_pos hdl, e]
    unfold cutDen at q
    rw [er] at q
    exact q.elim
theorem fn_x {P : Program} {w : World} {K : PySem.W.Frag} {mg : Str → Option Value} {base : Heap} {x qual : Str} {st : Stmt} {f : Addr} {fd : FuncData} {N ps : List Str} {k : Nat} {C : CC} {G : List Den} {b : List PSt}
    (hm : mg x = some (.ref f)) (F : Fun K x qual st f fd) (S : FnScope N ps (defScope st)) (hbd : Binds K fd ps []) (T : Txt mg K C.ct C.bl) (hN : C.N = N) (hnm : C.nm = (defScope st).names) (hb : cSs (defBody st) C = some b)
    (hfs : ∀ (i : Nat) y g, C.fs[i]? = some y → G[i]? = some g → FnX P w K mg base k y g) :
    FnX P w K mg base (k + 1) x (cutDen (runF G ps.length N.length b)) :=
  ⟨f, fd, ps, hm, F.kp, fn_ok F S T hN hnm hb hfs, hbd, fun ds h d h' e => runF_len e⟩
end MP
set_option linter.all false
set_option maxRecDepth 100000
namespace MP
open PySem
section
variable {h : AH}
@[simp] theorem vw_non : vw h .non = .non := rfl
@[simp] theorem vw_bl {b : Bool} : vw h (.bl b) = .bl b := rfl
@[simp] theorem vw_int {i : Int} : vw h (.int i) = .int i := rfl
@[simp] theorem vw_str {s : List Nat} : vw h (.str s) = .str s := rfl
@[simp] theorem vw_tup {xs : List D} : vw h (.tup xs) = .tup xs := rfl
@[simp] theorem vw_lst {xs : List D} : vw h (.lst xs) = .lst xs := rfl
@[simp] theorem tru_non : tru h .non = some false := rfl
@[simp] theorem tru_bl {b : Bool} : tru h (.bl b) = some b := rfl
@[simp] theorem tru_int {i : Int} : tru h (.int i) = some (i != 0) := rfl
@[simp] theorem tru_tup {xs : List D} : tru h (.tup xs) = some (!xs.isEmpty) := rfl
@[simp] theorem tru_lst {xs : List D} : tru h (.lst xs) = some (!xs.isEmpty) := rfl
@[simp] theorem getV_zero {x : Option D} {ρ : Ev} : getV (x :: ρ) 0 = x := by simp [getV]
@[simp] theorem getV_succ {x : Option D} {ρ : Ev} {n : Nat} : getV (x :: ρ) (n + 1) = getV ρ n := by simp [getV]
@[simp] theorem pure_int {n : Nat} {i : Int} : pureN n (.int i) = true := by cases n <;> rfl
@[simp] theorem pure_bl {n : Nat} {i : Bool} : pureN n (.bl i) = true := by cases n <;> rfl
@[simp] theorem pure_non {n : Nat} : pureN n .non = true := by cases n <;> rfl
@[simp] theorem pure_str {n : Nat} {s : List Nat} : pureN n (.str s) = s.all fun c => decide (c < 1114112) := by cases n <;> rfl
@[simp] theorem pure_tup {n : Nat} {xs : List D} : pureN (n + 1) (.tup xs) = xs.all (pureN n) := rfl
@[simp] theorem pure_lst {n : Nat} {xs : List D} : pureN (n + 1) (.lst xs) = xs.all (pureN n) := rfl
@[simp] theorem pure_ints (n : Nat) (l : List Int) : (l.map D.int).all (pureN n) = true := by
  induction l with
  | nil => rfl
  | cons a l ih => simp
@[simp] theorem inD_ints (x : Int) (l : List Int) : inD (.int x) (l.map .int) = l.contains x := by
  induction l with
  | nil => rfl
  | cons a l ih =>
    simp only [inD, List.map_cons, List.any_cons, List.contains_cons] at ih ⊢
    rw [ih]
    have e : eqD (D.int a) (D.int x) = (x == a) := by
      show (a == x) = (x == a)
      by_cases q : a = x
      · subst q; rfl
      · rw [beq_eq_false_iff_ne.mpr q, beq_eq_false_iff_ne.mpr (Ne.symm q)]
    rw [e]
@[simp] theorem cmp_eq {a b : D} : cmpD .Eq a b = if pureD a && pureD b then some (eqD a b) else none := rfl
@[simp] theorem cmp_ne {a b : D} : cmpD .NotEq a b = if pureD a && pureD b then some (!eqD a b) else none := rfl
@[simp] theorem cmp_lt {a b : Int} : cmpD .Lt (.int a) (.int b) = some (decide (a < b)) := rfl
@[simp] theorem cmp_le {a b : Int} : cmpD .LtE (.int a) (.int b) = some (decide (a ≤ b)) := rfl
@[simp] theorem cmp_gt {a b : Int} : cmpD .Gt (.int a) (.int b) = some (decide (b < a)) := rfl
@[simp] theorem cmp_ge {a b : Int} : cmpD .GtE (.int a) (.int b) = some (decide (b ≤ a)) := rfl
@[simp] theorem cmp_in_tup {x : D} {ys : List D} : cmpD .In x (.tup ys) = if pureD x && pureDs ys then some (inD x ys) else none := by cases x <;> rfl
@[simp] theorem cmp_in_lst {x : D} {ys : List D} : cmpD .In x (.lst ys) = if pureD x && pureDs ys then some (inD x ys) else none := by cases x <;> rfl
@[simp] theorem cmp_nin_tup {x : D} {ys : List D} : cmpD .NotIn x (.tup ys) = if pureD x && pureDs ys then some (!inD x ys) else none := by cases x <;> rfl
@[simp] theorem cmp_nin_lst {x : D} {ys : List D} : cmpD .NotIn x (.lst ys) = if pureD x && pureDs ys then some (!inD x ys) else none := by cases x <;> rfl
@[simp] theorem eqD_int {a b : Int} : eqD (.int a) (.int b) = (a == b) := by simp [eqD]
@[simp] theorem eqD_str {a b : List Nat} : eqD (.str a) (.str b) = (a == b) := by simp [eqD]
@[simp] theorem eqD_bl {a b : Bool} : eqD (.bl a) (.bl b) = (a == b) := by simp [eqD]
@[simp] theorem eqD_non : eqD .non .non = true := by simp [eqD]
end
section
variable {G : List Den} {ρ : Ev} {h : AH}
@[simp] theorem ev_var {i : Nat} : ev G (.var i) ρ h = (getV ρ i).bind fun d => some (d, h) := by simp [ev]
@[simp] theorem ev_con {d : D} : ev G (.con d) ρ h = some (d, h) := by simp [ev]
end
end MP
set_option linter.all false
set_option maxRecDepth 100000
set_option maxHeartbeats 4000000
namespace MP
open PySem

def forB (G : List Den) (t : PTg) (b : List PSt) : D → Ev → AH → R := fun d ρ h => match setT t d ρ with
  | some ρ' => exSs G b ρ' h
  | none => .bad
theorem exS_for {G : List Den} {t : PTg} {it : PI} {b : List PSt} {ρ : Ev} {h h' : AH} {ds : List D} (e : evI G it ρ h = some (ds, h')) : exS G (.forS t it b) ρ h = forL (forB G t b) ds ρ h' := by
  rw [exS, e]; rfl
theorem forB_nm {G : List Den} {i : Nat} {b : List PSt} {d : D} {ρ : Ev} {h : AH} : forB G (.nm i) b d ρ h = exSs G b (ρ.set i (some d)) h := rfl
theorem evI_seq {G : List Den} {e : PX} {ρ : Ev} {h h' : AH} {d : D} {l : List D} (e1 : ev G e ρ h = some (d, h')) (e2 : itD h' d = some l) : evI G (.seq e) ρ h = some (l, h') := by
  rw [evI, e1]; simp [e2]
theorem evI_rng {G : List Den} {e : PX} {ρ : Ev} {h h' : AH} {n : Int} (e1 : ev G e ρ h = some (.int n, h')) (hn : -16777216 ≤ n ∧ n ≤ 16777216) : evI G (.rng e) ρ h = some ((List.range n.toNat).map fun i : Nat => D.int (i : Int), h') := by
  have hr : rngD (.int n) = some ((List.range n.toNat).map fun i => D.int (i : Nat)) := if_pos ⟨by omega, by omega⟩
  rw [evI, e1]; simp [hr]
theorem exSs_nx {G : List Den} {s : PSt} {r : List PSt} {ρ ρ' : Ev} {h h' : AH} (e : exS G s ρ h = .nx ρ' h') : exSs G (s :: r) ρ h = exSs G r ρ' h' := by rw [exSs, e]
theorem exSs_rt {G : List Den} {s : PSt} {r : List PSt} {ρ : Ev} {h h' : AH} {d : D} (e : exS G s ρ h = .rt d h') : exSs G (s :: r) ρ h = .rt d h' := by rw [exSs, e]

/-! ### what an expression comes to, by a property; the objects stay -/
def EvP (G : List Den) (e : PX) (ρ : Ev) (h : AH) (P : D → Prop) : Prop := ∃ d, P d ∧ ev G e ρ h = some (d, h)
def EvI (G : List Den) (e : PX) (ρ : Ev) (h : AH) (P : Int → Prop) : Prop := ∃ i, P i ∧ ev G e ρ h = some (.int i, h)
def EvT (G : List Den) (e : PB) (ρ : Ev) (h : AH) (P : Bool → Prop) : Prop := ∃ b, P b ∧ evB G e ρ h = some (b, h)
def EvL (G : List Den) (es : List PX) (ρ : Ev) (h : AH) (P : List D → Prop) : Prop := ∃ ds, P ds ∧ evs G es ρ h = some (ds, h)
/-- each one so -/
def EvA (G : List Den) (es : List PX) (ρ : Ev) (h : AH) (P : D → Prop) : Prop := EvL G es ρ h fun ds => ds.length = es.length ∧ ∀ d ∈ ds, P d

section
variable {G : List Den} {ρ : Ev} {h : AH} {a b e : PX} {P Q : Int → Prop} {R : Int → Prop}
theorem EvI.p {PD : D → Prop} (he : EvI G e ρ h P) (k : ∀ i, P i → PD (.int i)) : EvP G e ρ h PD := let ⟨i, p, q⟩ := he; ⟨.int i, k i p, q⟩
theorem EvI.mono (he : EvI G e ρ h P) (k : ∀ i, P i → Q i) : EvI G e ρ h Q := let ⟨i, p, q⟩ := he; ⟨i, k i p, q⟩
theorem EvP.mono {PD QD : D → Prop} (he : EvP G e ρ h PD) (k : ∀ i, PD i → QD i) : EvP G e ρ h QD := let ⟨i, p, q⟩ := he; ⟨i, k i p, q⟩
theorem ei_con {i : Int} (p : P i) : EvI G (.con (.int i)) ρ h P := ⟨i, p, by simp⟩
theorem ei_var {j : Nat} {i : Int} (g : getV ρ j = some (.int i)) (p : P i) : EvI G (.var j) ρ h P := ⟨i, p, by simp [g]⟩
theorem ep_con {d : D} {PD : D → Prop} (p : PD d) : EvP G (.con d) ρ h PD := ⟨d, p, by simp⟩
theorem ep_var {j : Nat} {d : D} {PD : D → Prop} (g : getV ρ j = some d) (p : PD d) : EvP G (.var j) ρ h PD := ⟨d, p, by simp [g]⟩
theorem ei_add (ha : EvI G a ρ h P) (hb : EvI G b ρ h Q) (k : ∀ x y, P x → Q y → R (x + y)) : EvI G (.bin .Add a b) ρ h R := by
  obtain ⟨x, p, e1⟩ := ha
  obtain ⟨y, q, e2⟩ := hb
  exact ⟨x + y, k x y p q, by simp [ev, e1, e2, binD]⟩
theorem ei_sub (ha : EvI G a ρ h P) (hb : EvI G b ρ h Q) (k : ∀ x y, P x → Q y → R (x - y)) : EvI G (.bin .Sub a b) ρ h R := by
  obtain ⟨x, p, e1⟩ := ha
  obtain ⟨y, q, e2⟩ := hb
  exact ⟨x - y, k x y p q, by simp [ev, e1, e2, binD]⟩
theorem ei_mul (ha : EvI G a ρ h P) (hb : EvI G b ρ h Q) (ok : ∀ x y, P x → Q y → mulOk x y = true) (k : ∀ x y, P x → Q y → R (x * y)) : EvI G (.bin .Mult a b) ρ h R := by
  obtain ⟨x, p, e1⟩ := ha
  obtain ⟨y, q, e2⟩ := hb
  exact ⟨x * y, k x y p q, by simp [ev, e1, e2, binD, ok x y p q]⟩
theorem ei_fdiv (ha : EvI G a ρ h P) (hb : EvI G b ρ h Q) (ok : ∀ y, Q y → 0 < y ∧ y < 2 ^ 100) (k : ∀ x y, P x → Q y → R (x / y)) : EvI G (.bin .FloorDiv a b) ρ h R := by
  obtain ⟨x, p, e1⟩ := ha
  obtain ⟨y, q, e2⟩ := hb
  refine ⟨x / y, k x y p q, ?_⟩
  have : binD .FloorDiv (.int x) (.int y) = some (.int (x / y)) := if_pos (ok y q)
  simp [ev, e1, e2, this]
theorem ei_mod (ha : EvI G a ρ h P) (hb : EvI G b ρ h Q) (ok : ∀ y, Q y → 0 < y) (k : ∀ x y, P x → Q y → R (x % y)) : EvI G (.bin .Mod a b) ρ h R := by
  obtain ⟨x, p, e1⟩ := ha
  obtain ⟨y, q, e2⟩ := hb
  refine ⟨x % y, k x y p q, ?_⟩
  have : binD .Mod (.int x) (.int y) = some (.int (x % y)) := if_pos (ok y q)
  simp [ev, e1, e2, this]
theorem ei_pow (ha : EvI G a ρ h P) (hb : EvI G b ρ h Q) (ok : ∀ x y, P x → Q y → 0 ≤ y ∧ y ≤ 1000000 ∧ x.natAbs < 2 ^ 64) (k : ∀ x y, P x → Q y → R (x ^ y.toNat)) : EvI G (.bin .Pow a b) ρ h R := by
  obtain ⟨x, p, e1⟩ := ha
  obtain ⟨y, q, e2⟩ := hb
  refine ⟨x ^ y.toNat, k x y p q, ?_⟩
  have : binD .Pow (.int x) (.int y) = some (.int (x ^ y.toNat)) := if_pos (ok x y p q)
  simp [ev, e1, e2, this]
theorem ei_shl (ha : EvI G a ρ h P) (hb : EvI G b ρ h Q) (ok : ∀ x y, P x → Q y → 0 ≤ y ∧ y ≤ 1000000 ∧ x.natAbs < 2 ^ 64) (k : ∀ x y, P x → Q y → R (x * 2 ^ y.toNat)) : EvI G (.bin .LShift a b) ρ h R := by
  obtain ⟨x, p, e1⟩ := ha
  obtain ⟨y, q, e2⟩ := hb
  refine ⟨x * 2 ^ y.toNat, k x y p q, ?_⟩
  have : binD .LShift (.int x) (.int y) = some (.int (x * 2 ^ y.toNat)) := if_pos (ok x y p q)
  simp [ev, e1, e2, this]
/-- floor and rest by what is written -/
theorem ei_fdivC {n : Int} (ha : EvI G a ρ h P) (k : ∀ x, P x → R (x / n)) (ok : 0 < n ∧ n < 2 ^ 100 := by decide) : EvI G (.bin .FloorDiv a (.con (.int n))) ρ h R :=
  ei_fdiv ha (ei_con (P := fun y => y = n) rfl) (fun y e => by subst e; exact ok) fun x y p e => by subst e; exact k x p
theorem ei_modC {n : Int} (ha : EvI G a ρ h P) (k : ∀ x, P x → R (x % n)) (ok : 0 < n := by decide) : EvI G (.bin .Mod a (.con (.int n))) ρ h R :=
  ei_mod ha (ei_con (P := fun y => y = n) rfl) (fun y e => by subst e; exact ok) fun x y p e => by subst e; exact k x p
theorem ei_fdivP {n : Int} (ha : EvI G a ρ h P) (k : ∀ x, P x → R (x / 2 ^ n.toNat)) (ok : 0 ≤ n ∧ n ≤ 90 := by decide) : EvI G (.bin .FloorDiv a (.bin .Pow (.con (.int 2)) (.con (.int n)))) ρ h R := by
  refine ei_fdiv (Q := fun y => y = 2 ^ n.toNat) ha (ei_pow (P := fun y => y = 2) (Q := fun y => y = n) (ei_con rfl) (ei_con rfl) (fun x y e1 e2 => ?_) (fun x y e1 e2 => by subst e1 e2; rfl)) (fun y e => ?_) fun x y p e => by subst e; exact k x p
  · subst e1 e2
    exact ⟨ok.1, by omega, by decide⟩
  · subst e
    refine ⟨Int.pow_pos (by decide), ?_⟩
    have hn : n.toNat ≤ 90 := by omega
    have : (2 : Nat) ^ n.toNat ≤ 2 ^ 90 := Nat.pow_le_pow_right (by decide) hn
    have e : (2 : Int) ^ n.toNat = ((2 ^ n.toNat : Nat) : Int) := by simp
    rw [e]
    have l : (2 : Nat) ^ n.toNat < 2 ^ 100 := Nat.lt_of_le_of_lt this (by decide)
    exact_mod_cast l
theorem ei_min2 (ha : EvI G a ρ h P) (hb : EvI G b ρ h Q) (k : ∀ x y, P x → Q y → R (if y < x then y else x)) : EvI G (.blt .min2 [a, b]) ρ h R := by
  obtain ⟨x, p, e1⟩ := ha
  obtain ⟨y, q, e2⟩ := hb
  exact ⟨_, k x y p q, by simp [ev, evs, e1, e2, bltD]⟩
theorem ei_max2 (ha : EvI G a ρ h P) (hb : EvI G b ρ h Q) (k : ∀ x y, P x → Q y → R (if y > x then y else x)) : EvI G (.blt .max2 [a, b]) ρ h R := by
  obtain ⟨x, p, e1⟩ := ha
  obtain ⟨y, q, e2⟩ := hb
  exact ⟨_, k x y p q, by simp [ev, evs, e1, e2, bltD]⟩
theorem ei_lenL {PL : List D → Prop} (ha : EvP G a ρ h fun d => ∃ xs, d = .lst xs ∧ PL xs) (k : ∀ xs, PL xs → R (xs.length : Int)) : EvI G (.blt .len [a]) ρ h R := by
  obtain ⟨d, ⟨xs, rfl, p⟩, e1⟩ := ha
  exact ⟨_, k xs p, by simp [ev, evs, e1, bltD]⟩
theorem ei_lenS {PL : List Nat → Prop} (ha : EvP G a ρ h fun d => ∃ xs, d = .str xs ∧ PL xs) (k : ∀ xs, PL xs → xs.length ≤ SZ ∧ R (xs.length : Int)) : EvI G (.blt .len [a]) ρ h R := by
  obtain ⟨d, ⟨xs, rfl, p⟩, e1⟩ := ha
  exact ⟨_, (k xs p).2, by simp [ev, evs, e1, bltD, (k xs p).1]⟩

/-! several -/
theorem el_nil {PL : List D → Prop} (p : PL []) : EvL G [] ρ h PL := ⟨[], p, by simp [evs]⟩
theorem el_cons {es : List PX} {P1 : D → Prop} {P2 PL : List D → Prop} (ha : EvP G e ρ h P1) (hb : EvL G es ρ h P2) (k : ∀ d ds, P1 d → P2 ds → PL (d :: ds)) : EvL G (e :: es) ρ h PL := by
  obtain ⟨x, p, e1⟩ := ha
  obtain ⟨y, q, e2⟩ := hb
  exact ⟨x :: y, k x y p q, by simp [evs, e1, e2]⟩
theorem ea_nil {PD : D → Prop} : EvA G [] ρ h PD := el_nil ⟨rfl, by simp⟩
theorem ea_cons {es : List PX} {PD : D → Prop} (ha : EvP G e ρ h PD) (hb : EvA G es ρ h PD) : EvA G (e :: es) ρ h PD :=
  el_cons ha hb fun d ds p q => ⟨by simp [q.1], by
    intro x hx
    rcases List.mem_cons.mp hx with z | z
    · exact z ▸ p
    · exact q.2 x z⟩
theorem ep_lst {es : List PX} {PL : List D → Prop} {PD : D → Prop} (ha : EvL G es ρ h PL) (k : ∀ ds, PL ds → ds.length ≤ SZ ∧ PD (.lst ds)) : EvP G (.lst es) ρ h PD := by
  obtain ⟨ds, p, e1⟩ := ha
  exact ⟨_, (k ds p).2, by simp [ev, e1, (k ds p).1]⟩
theorem ep_tup {es : List PX} {PL : List D → Prop} {PD : D → Prop} (ha : EvL G es ρ h PL) (k : ∀ ds, PL ds → ds.length ≤ SZ ∧ PD (.tup ds)) : EvP G (.tup es) ρ h PD := by
  obtain ⟨ds, p, e1⟩ := ha
  exact ⟨_, (k ds p).2, by simp [ev, e1, (k ds p).1]⟩
/-- an item by an index that is some rest -/
theorem atI_mem {α : Type} {xs : List α} {i : Int} (h0 : 0 ≤ i) (h1 : i < xs.length) : ∃ x ∈ xs, atI xs i = some x := by
  have hl : i.toNat < xs.length := by omega
  refine ⟨xs[i.toNat], List.getElem_mem hl, ?_⟩
  unfold atI ixN
  rw [if_pos h0, if_pos h1]
  simp [hl]
theorem ep_idx {PD : D → Prop} {n : Nat} (ha : EvP G a ρ h fun d => ∃ xs, d = .lst xs ∧ xs.length = n ∧ ∀ x ∈ xs, PD x) (hb : EvI G b ρ h fun i => 0 ≤ i ∧ i < n) : EvP G (.idx a b) ρ h PD := by
  obtain ⟨d, ⟨xs, rfl, hn, p⟩, e1⟩ := ha
  obtain ⟨i, q, e2⟩ := hb
  subst hn
  obtain ⟨x, hx, e3⟩ := atI_mem q.1 q.2
  exact ⟨x, p x hx, by simp [ev, e1, e2, idxD, e3]⟩
/-- an item of a list that is written -/
theorem ep_idxA {PD : D → Prop} {es : List PX} {a : PX} {n : Int} (ha : EvA G es ρ h PD) (hb : EvI G a ρ h fun _ => True) (hn : n = es.length := by rfl) (hp : 0 < n ∧ es.length ≤ SZ := by decide) : EvP G (.idx (.lst es) (.bin .Mod a (.con (.int n)))) ρ h PD := by
  refine ep_idx (n := es.length) (ep_lst ha fun ds p => ⟨by rw [p.1]; exact hp.2, ds, rfl, p.1, p.2⟩) (ei_modC hb (fun x _ => ?_) hp.1)
  rw [← hn]
  exact ⟨Int.emod_nonneg _ (by omega), Int.emod_lt_of_pos _ hp.1⟩
/-- an item of a list by its own length -/
theorem ep_idxM {PD : D → Prop} {j : Nat} {xs : List D} {a : PX} (g : getV ρ j = some (.lst xs)) (h0 : xs ≠ []) (p : ∀ x ∈ xs, PD x) (hb : EvI G a ρ h fun _ => True) : EvP G (.idx (.var j) (.bin .Mod a (.blt .len [.var j]))) ρ h PD := by
  have hl : 0 < xs.length := List.length_pos_iff.mpr h0
  refine ep_idx (n := xs.length) (ep_var g ⟨xs, rfl, rfl, p⟩) (ei_mod (Q := fun y => y = xs.length) hb (ei_lenL (PL := fun ys => ys = xs) (ep_var g ⟨xs, rfl, rfl⟩) fun ys e => by rw [e]) (fun y e => ?_) fun x y _ e => ?_)
  · subst e; omega
  · subst e
    exact ⟨Int.emod_nonneg _ (by omega), Int.emod_lt_of_pos _ (by omega)⟩

/-! comprehensions -/
theorem compL_pure {f : D → AH → Option (Option D × AH)} {g : D → Option D} : ∀ {ds : List D}, (∀ d ∈ ds, f d h = some (g d, h)) → compL f ds h = some (ds.filterMap g, h)
  | [], _ => rfl
  | d :: ds, k => by
    unfold compL
    rw [k d List.mem_cons_self]
    show (compL f ds h).bind _ = _
    rw [compL_pure (ds := ds) fun x hx => k x (List.mem_cons_of_mem _ hx)]
    show some (putO (g d) _, h) = _
    cases e : g d with
    | none => simp [putO, e]
    | some x => simp [putO, e]
theorem compL_all {f : D → AH → Option (Option D × AH)} {PD : D → Prop} : ∀ {ds : List D}, (∀ d ∈ ds, ∃ x, PD x ∧ f d h = some (some x, h)) → ∃ out, out.length = ds.length ∧ (∀ x ∈ out, PD x) ∧ compL f ds h = some (out, h)
  | [], _ => ⟨[], rfl, by simp, rfl⟩
  | d :: ds, k => by
    obtain ⟨x, p, e⟩ := k d List.mem_cons_self
    obtain ⟨out, l, q, e2⟩ := compL_all (PD := PD) (ds := ds) fun x hx => k x (List.mem_cons_of_mem _ hx)
    refine ⟨x :: out, by simp [l], ?_, ?_⟩
    · intro y hy
      rcases List.mem_cons.mp hy with z | z
      · exact z ▸ p
      · exact q y z
    · unfold compL
      rw [e]
      show (compL f ds h).bind _ = _
      rw [e2]
      rfl
/-- a comprehension without a test over range -/
theorem ep_compR {elt : PX} {n : PX} {keep : List Nat} {N : Int} {PD : D → Prop} {PE : D → Prop} (hn : EvI G n ρ h fun i => i = N) (hN : -16777216 ≤ N ∧ N ≤ 16777216) (ht : ∀ i : Nat, (i : Int) < N → EvP G elt (some (.int i) :: keep.map (getV ρ)) h PD) (k : ∀ out : List D, out.length = N.toNat → (∀ x ∈ out, PD x) → PE (.lst out)) :
    EvP G (.comp elt none (.rng n) keep) ρ h PE := by
  obtain ⟨i, rfl, e⟩ := hn
  · have hr : rngD (.int i) = some ((List.range i.toNat).map fun i => D.int (i : Nat)) := if_pos ⟨by omega, by omega⟩
    obtain ⟨out, l, p, ec⟩ := compL_all (h := h) (PD := PD) (f := fun d h => (ev G elt (some d :: keep.map (getV ρ)) h).bind fun q => some (some q.1, q.2)) (ds := (List.range i.toNat).map fun i => D.int (i : Nat)) (by
      intro d hd
      obtain ⟨j, hj, rfl⟩ := List.mem_map.mp hd
      obtain ⟨x, px, ex⟩ := ht j (by have := List.mem_range.mp hj; omega)
      exact ⟨x, px, by rw [ex]; rfl⟩)
    have hl : out.length = i.toNat := by rw [l]; simp
    refine ⟨.lst out, k out hl p, ?_⟩
    unfold ev evI
    simp only [e, hr, Option.bind_some]
    rw [ec]
    show (if out.length ≤ SZ then some (D.lst out, h) else none) = _
    rw [if_pos]
    rw [hl]; show i.toNat ≤ 16777216; omega
/-- a comprehension without a test over a list -/
theorem ep_compS {elt : PX} {n : PX} {keep : List Nat} {xs : List D} {PD : D → Prop} {PE : D → Prop} (hn : EvP G n ρ h fun d => d = .lst xs) (hN : xs.length ≤ 16777216) (ht : ∀ d ∈ xs, EvP G elt (some d :: keep.map (getV ρ)) h PD) (k : ∀ out : List D, out.length = xs.length → (∀ x ∈ out, PD x) → PE (.lst out)) :
    EvP G (.comp elt none (.seq n) keep) ρ h PE := by
  obtain ⟨_, rfl, e⟩ := hn
  obtain ⟨out, l, p, ec⟩ := compL_all (h := h) (PD := PD) (f := fun d h => (ev G elt (some d :: keep.map (getV ρ)) h).bind fun q => some (some q.1, q.2)) (ds := xs) (by
    intro d hd
    obtain ⟨x, px, ex⟩ := ht d hd
    exact ⟨x, px, by rw [ex]; rfl⟩)
  refine ⟨.lst out, k out l p, ?_⟩
  unfold ev evI
  simp only [e, itD, Option.bind_some]
  rw [ec]
  show (if out.length ≤ SZ then some (D.lst out, h) else none) = _
  rw [if_pos]
  rw [l]; exact hN
theorem ep_mt {m : Mt} {o : PX} {es : List PX} {P1 PD : D → Prop} {PL : List D → Prop} (ho : EvP G o ρ h P1) (ha : EvL G es ρ h PL) (k : ∀ d ds, P1 d → PL ds → ∃ r, PD r ∧ mtD m d (ds.map (vw h)) = some r) : EvP G (.mt m o es) ρ h PD := by
  obtain ⟨d, p, e1⟩ := ho
  obtain ⟨ds, q, e2⟩ := ha
  obtain ⟨r, pr, e3⟩ := k d ds p q
  exact ⟨r, pr, by simp only [ev, e1, e2, Option.bind_some, e3]⟩
theorem ep_blt {m : Bl} {es : List PX} {PD : D → Prop} {PL : List D → Prop} (ha : EvL G es ρ h PL) (k : ∀ ds, PL ds → ∃ r, PD r ∧ bltD m (ds.map (vw h)) = some r) : EvP G (.blt m es) ρ h PD := by
  obtain ⟨ds, q, e2⟩ := ha
  obtain ⟨r, pr, e3⟩ := k ds q
  exact ⟨r, pr, by simp only [ev, e2, Option.bind_some, e3]⟩
theorem ep_bin {op : Operator} {P1 P2 PD : D → Prop} (ha : EvP G a ρ h P1) (hb : EvP G b ρ h P2) (k : ∀ x y, P1 x → P2 y → ∃ r, PD r ∧ binD op (vw h x) (vw h y) = some r) : EvP G (.bin op a b) ρ h PD := by
  obtain ⟨x, p, e1⟩ := ha
  obtain ⟨y, q, e2⟩ := hb
  obtain ⟨r, pr, e3⟩ := k x y p q
  exact ⟨r, pr, by simp only [ev, e1, e2, Option.bind_some, e3]⟩
theorem ep_idxG {P1 P2 PD : D → Prop} (ha : EvP G a ρ h P1) (hb : EvP G b ρ h P2) (k : ∀ x y, P1 x → P2 y → ∃ r, PD r ∧ idxD (vw h x) y = some r) : EvP G (.idx a b) ρ h PD := by
  obtain ⟨x, p, e1⟩ := ha
  obtain ⟨y, q, e2⟩ := hb
  obtain ⟨r, pr, e3⟩ := k x y p q
  exact ⟨r, pr, by simp only [ev, e1, e2, Option.bind_some, e3]⟩
theorem ep_slHi {P1 PD : D → Prop} (ha : EvP G a ρ h P1) (hb : EvI G b ρ h P) (k : ∀ x i, P1 x → P i → ∃ r, PD r ∧ slD (vw h x) none (some i) = some r) : EvP G (.sl a none (some b)) ρ h PD := by
  obtain ⟨x, p, e1⟩ := ha
  obtain ⟨i, q, e2⟩ := hb
  obtain ⟨r, pr, e3⟩ := k x i p q
  exact ⟨r, pr, by simp only [ev, evo, e1, e2, Option.bind_some, e3]⟩
theorem ep_slLo {P1 PD : D → Prop} (ha : EvP G a ρ h P1) (hb : EvI G b ρ h P) (k : ∀ x i, P1 x → P i → ∃ r, PD r ∧ slD (vw h x) (some i) none = some r) : EvP G (.sl a (some b) none) ρ h PD := by
  obtain ⟨x, p, e1⟩ := ha
  obtain ⟨i, q, e2⟩ := hb
  obtain ⟨r, pr, e3⟩ := k x i p q
  exact ⟨r, pr, by simp only [ev, evo, e1, e2, Option.bind_some, e3]⟩
theorem el_one {P1 : D → Prop} {PL : List D → Prop} (ha : EvP G e ρ h P1) (k : ∀ d, P1 d → PL [d]) : EvL G [e] ρ h PL := el_cons (P2 := fun ds => ds = []) ha (el_nil rfl) fun d ds p q => by subst q; exact k d p
theorem el_two {e2 : PX} {P1 P2 : D → Prop} {PL : List D → Prop} (ha : EvP G e ρ h P1) (hb : EvP G e2 ρ h P2) (k : ∀ d d2, P1 d → P2 d2 → PL [d, d2]) : EvL G [e, e2] ρ h PL :=
  el_cons (P2 := fun ds => ∃ d2, ds = [d2] ∧ P2 d2) ha (el_one hb fun d p => ⟨d, rfl, p⟩) fun d ds p ⟨d2, q, p2⟩ => by subst q; exact k d d2 p p2
/-- tests -/
theorem et_cmpI {op : CmpOp} {PB' : Bool → Prop} (ha : EvI G a ρ h P) (hb : EvI G b ρ h Q) (k : ∀ x y, P x → Q y → ∃ r, PB' r ∧ cmpD op (.int x) (.int y) = some r) : EvT G (.val (.cmp op a b)) ρ h PB' := by
  obtain ⟨x, p, e1⟩ := ha
  obtain ⟨y, q, e2⟩ := hb
  obtain ⟨r, pr, e3⟩ := k x y p q
  exact ⟨r, pr, by simp only [evB, ev, e1, e2, Option.bind_some, vw_int, e3, tru_bl]⟩
theorem et_any {c : PB} {PB' : Bool → Prop} {b : Bool} (e : evB G c ρ h = some (b, h)) (p : PB' b) : EvT G c ρ h PB' := ⟨b, p, e⟩
end
end MP
set_option linter.all false
namespace K11
open MP PySem
def p_holds : List PSt := [PSt.ret (PX.mt (Mt.startswith) (PX.var 1) [PX.var 0])]
-- names holds: [prefix, text]
def p_fits : List PSt := [PSt.asg (PTg.nm 2) (PX.idx (PX.var 1) (PX.con (D.int 0))),
 PSt.asg (PTg.nm 3) (PX.idx (PX.var 0) (PX.con (D.int 2))),
 PSt.asg (PTg.nm 4) (PX.idx (PX.var 0) (PX.con (D.int 3))),
 PSt.ifs
   (PB.or
     (PB.not (PB.val (PX.call 0 [PX.idx (PX.var 0) (PX.con (D.int 0)), PX.var 2])))
     (PB.val
       (PX.cmp
         (CmpOp.Gt)
         (PX.blt (Bl.len) [PX.var 2])
         (PX.idx (PX.var 0) (PX.con (D.int 1))))))
   [PSt.ret (PX.con (D.bl false))]
   [],
 PSt.ifs
   (PB.and
     (PB.val (PX.cmp (CmpOp.NotEq) (PX.var 3) (PX.con (D.int 0))))
     (PB.val (PX.cmp (CmpOp.NotIn) (PX.var 3) (PX.idx (PX.var 1) (PX.con (D.int 1))))))
   [PSt.ret (PX.con (D.bl false))]
   [],
 PSt.ret
   (PX.or
     (PX.cmp (CmpOp.Eq) (PX.var 4) (PX.con (D.int 0)))
     (PX.cmp (CmpOp.In) (PX.var 4) (PX.idx (PX.var 1) (PX.con (D.int 3)))))]
-- names fits: [rule, route, prefix, number, tag]
def p_changed_tags : List PSt := [PSt.asg
   (PTg.nm 3)
   (PX.comp
     (PX.var 0)
     (some (PB.val (PX.cmp (CmpOp.NotEq) (PX.var 0) (PX.var 1))))
     (PI.seq (PX.var 0))
     [2]),
 PSt.ifs
   (PB.and
     (PB.val (PX.cmp (CmpOp.NotEq) (PX.var 1) (PX.con (D.int 0))))
     (PB.and
       (PB.val (PX.cmp (CmpOp.NotIn) (PX.var 1) (PX.var 3)))
       (PB.val (PX.cmp (CmpOp.Lt) (PX.blt (Bl.len) [PX.var 3]) (PX.con (D.int 4))))))
   [PSt.asg
      (PTg.nm 3)
      (PX.blt (Bl.sorted) [PX.bin (Operator.Add) (PX.var 3) (PX.lst [PX.var 1])])]
   [],
 PSt.ret (PX.blt (Bl.tuple) [PX.var 3])]
-- names changed_tags: [tags, add, take, kept]
def p_judged : List PSt := [PSt.asg (PTg.nm 2) (PX.con (D.int 100)),
 PSt.asg (PTg.nm 3) (PX.con (D.int 0)),
 PSt.asg (PTg.nm 4) (PX.var 1),
 PSt.forS
   (PTg.nm 5)
   (PI.seq (PX.var 0))
   [PSt.ifs (PB.not (PB.val (PX.call 1 [PX.var 5, PX.var 4]))) [PSt.cnt] [],
    PSt.asg (PTg.nm 6) (PX.idx (PX.var 5) (PX.con (D.int 4))),
    PSt.ifs
      (PB.val (PX.cmp (CmpOp.Eq) (PX.var 6) (PX.con (D.str [110, 111]))))
      [PSt.ret (PX.con (D.non))]
      [],
    PSt.asg
      (PTg.nm 4)
      (PX.tup
        [PX.idx (PX.var 4) (PX.con (D.int 0)),
         PX.idx (PX.var 4) (PX.con (D.int 1)),
         PX.idx (PX.var 4) (PX.con (D.int 2)),
         PX.call
           2
           [PX.idx (PX.var 4) (PX.con (D.int 3)),
            PX.idx (PX.var 5) (PX.con (D.int 6)),
            PX.idx (PX.var 5) (PX.con (D.int 7))]]),
    PSt.ifs
      (PB.val
        (PX.cmp (CmpOp.IsNot) (PX.idx (PX.var 5) (PX.con (D.int 5))) (PX.con (D.non))))
      [PSt.asg (PTg.nm 2) (PX.idx (PX.var 5) (PX.con (D.int 5)))]
      [],
    PSt.aug 3 (Operator.Add) (PX.idx (PX.var 5) (PX.con (D.int 8))),
    PSt.ifs
      (PB.val (PX.cmp (CmpOp.Eq) (PX.var 6) (PX.con (D.str [121, 101, 115]))))
      [PSt.brk]
      []],
 PSt.ret (PX.tup [PX.var 4, PX.var 2, PX.var 3])]
-- names judged: [rules, route, preference, ahead, current, rule, deed]
def p_cell : List PSt := [PSt.ifs
   (PB.val (PX.cmp (CmpOp.Eq) (PX.var 0) (PX.lst [])))
   [PSt.ret (PX.bin (Operator.Mult) (PX.var 1) (PX.con (D.int 7919)))]
   [],
 PSt.ret
   (PX.bin
     (Operator.Add)
     (PX.idx (PX.var 0) (PX.bin (Operator.Mod) (PX.var 1) (PX.blt (Bl.len) [PX.var 0])))
     (PX.bin
       (Operator.Mult)
       (PX.bin (Operator.FloorDiv) (PX.var 1) (PX.blt (Bl.len) [PX.var 0]))
       (PX.con (D.int 104729))))]
-- names cell: [_law_script, _law_k]
def p_drawn : List PSt := [PSt.asg
   (PTg.nm 2)
   (PX.bin
     (Operator.Mod)
     (PX.bin
       (Operator.Add)
       (PX.bin (Operator.Mult) (PX.var 0) (PX.con (D.int 6364136223846793005)))
       (PX.bin
         (Operator.Mult)
         (PX.bin (Operator.Add) (PX.var 1) (PX.con (D.int 1)))
         (PX.con (D.int 1442695040888963407))))
     (PX.con (D.int 340282366920938463463374607431768211507))),
 PSt.ret
   (PX.bin
     (Operator.Mod)
     (PX.bin (Operator.Mult) (PX.var 2) (PX.var 2))
     (PX.con (D.int 340282366920938463463374607431768211297)))]
-- names drawn: [_law_cell_here, _law_k, _law_more]
def p_numbers : List PSt := [PSt.asg
   (PTg.nm 2)
   (PX.idx
     (PX.lst [PX.con (D.int 1), PX.con (D.int 2), PX.con (D.int 500), PX.con (D.int 7)])
     (PX.bin (Operator.Mod) (PX.var 0) (PX.con (D.int 4)))),
 PSt.ret
   (PX.comp
     (PX.bin
       (Operator.Add)
       (PX.bin
         (Operator.Mod)
         (PX.bin
           (Operator.Add)
           (PX.bin (Operator.FloorDiv) (PX.var 1) (PX.con (D.int 4)))
           (PX.bin (Operator.Mult) (PX.var 0) (PX.var 2)))
         (PX.con (D.int 999)))
       (PX.con (D.int 1)))
     none
     (PI.rng (PX.var 1))
     [0, 2])]
-- names numbers: [_law_more, _law_many, _law_step]
def p_bits : List PSt := [PSt.ret
   (PX.mt
     (Mt.join)
     (PX.con (D.str []))
     [PX.comp
        (PX.idx
          (PX.con (D.str [48, 49]))
          (PX.bin
            (Operator.Mod)
            (PX.bin
              (Operator.FloorDiv)
              (PX.var 1)
              (PX.bin (Operator.LShift) (PX.con (D.int 1)) (PX.var 0)))
            (PX.con (D.int 2))))
        none
        (PI.rng (PX.var 1))
        [0]])]
-- names bits: [_law_more, _law_many]
def p_prefixes : List PSt := [PSt.asg
   (PTg.nm 1)
   (PX.call
     7
     [PX.bin (Operator.FloorDiv) (PX.var 0) (PX.con (D.int 32)),
      PX.idx
        (PX.lst [PX.con (D.int 0), PX.con (D.int 3), PX.con (D.int 9), PX.con (D.int 12)])
        (PX.bin (Operator.Mod) (PX.var 0) (PX.con (D.int 4)))]),
 PSt.asg
   (PTg.nm 2)
   (PX.comp
     (PX.bin (Operator.Add) (PX.var 1) (PX.var 0))
     none
     (PI.seq
       (PX.lst
         [PX.con (D.str []),
          PX.con (D.str [48]),
          PX.con (D.str [49]),
          PX.con (D.str [48, 48]),
          PX.con (D.str [48, 49, 49]),
          PX.con (D.str [49, 48])]))
     [1]),
 PSt.ret
   (PX.bin
     (Operator.Add)
     (PX.var 2)
     (PX.lst
       [PX.sl
          (PX.bin
            (Operator.Add)
            (PX.bin
              (Operator.Add)
              (PX.var 1)
              (PX.call
                7
                [PX.bin (Operator.FloorDiv) (PX.var 0) (PX.con (D.int 65536)),
                 PX.con (D.int 16)]))
            (PX.con (D.str [48])))
          none
          (some (PX.con (D.int 16)))]))]
-- names prefixes: [_law_more, _law_stem, _law_found]
def p_tags : List PSt := [PSt.asg
   (PTg.nm 1)
   (PX.lst
     [PX.bin
        (Operator.Add)
        (PX.con (D.int 1))
        (PX.bin
          (Operator.Mod)
          (PX.bin (Operator.FloorDiv) (PX.var 0) (PX.con (D.int 8)))
          (PX.con (D.int 3))),
      PX.bin
        (Operator.Add)
        (PX.con (D.int 4))
        (PX.bin
          (Operator.Mod)
          (PX.bin (Operator.FloorDiv) (PX.var 0) (PX.con (D.int 24)))
          (PX.con (D.int 90))),
      PX.bin
        (Operator.Add)
        (PX.con (D.int 95))
        (PX.bin
          (Operator.Mod)
          (PX.bin (Operator.FloorDiv) (PX.var 0) (PX.con (D.int 2160)))
          (PX.con (D.int 3))),
      PX.bin
        (Operator.Add)
        (PX.con (D.int 98))
        (PX.bin
          (Operator.Mod)
          (PX.bin (Operator.FloorDiv) (PX.var 0) (PX.con (D.int 6480)))
          (PX.con (D.int 2)))]),
 PSt.ret
   (PX.blt
     (Bl.tuple)
     [PX.comp
        (PX.idx (PX.var 2) (PX.var 0))
        (some (PB.val
           (PX.cmp
             (CmpOp.Eq)
             (PX.bin
               (Operator.Mod)
               (PX.bin
                 (Operator.FloorDiv)
                 (PX.var 1)
                 (PX.bin (Operator.LShift) (PX.con (D.int 1)) (PX.var 0)))
               (PX.con (D.int 2)))
             (PX.con (D.int 1)))))
        (PI.rng (PX.con (D.int 4)))
        [0, 1]])]
-- names tags: [_law_more, _law_some]
def p_route : List PSt := [PSt.asg (PTg.nm 4) (PX.new [PX.var 2]),
 PSt.forS
   (PTg.nm 5)
   (PI.rng
     (PX.idx
       (PX.lst
         [PX.bin (Operator.Mod) (PX.var 0) (PX.con (D.int 3)),
          PX.bin (Operator.Mod) (PX.var 0) (PX.con (D.int 5)),
          PX.con (D.int 11)])
       (PX.bin
         (Operator.Mod)
         (PX.bin (Operator.FloorDiv) (PX.var 0) (PX.con (D.int 16)))
         (PX.con (D.int 3)))))
   [PSt.ex
      (PX.app
        (PX.var 4)
        (PX.idx
          (PX.var 3)
          (PX.bin
            (Operator.Mod)
            (PX.bin
              (Operator.FloorDiv)
              (PX.var 0)
              (PX.bin
                (Operator.Add)
                (PX.con (D.int 64))
                (PX.bin (Operator.Mult) (PX.con (D.int 13)) (PX.var 5))))
            (PX.blt (Bl.len) [PX.var 3]))))],
 PSt.asg
   (PTg.nm 6)
   (PX.idx
     (PX.lst
       [PX.con (D.int 0),
        PX.bin
          (Operator.Mod)
          (PX.bin (Operator.FloorDiv) (PX.var 0) (PX.con (D.int 4096)))
          (PX.con (D.int 3)),
        PX.con (D.int 1000)])
     (PX.bin
       (Operator.Mod)
       (PX.bin (Operator.FloorDiv) (PX.var 0) (PX.con (D.int 16384)))
       (PX.con (D.int 3)))),
 PSt.ret
   (PX.tup
     [PX.idx
        (PX.var 1)
        (PX.bin
          (Operator.Mod)
          (PX.bin (Operator.FloorDiv) (PX.var 0) (PX.con (D.int 65536)))
          (PX.blt (Bl.len) [PX.var 1])),
      PX.blt (Bl.tuple) [PX.var 4],
      PX.var 6,
      PX.call
        9
        [PX.bin
           (Operator.FloorDiv)
           (PX.var 0)
           (PX.bin (Operator.Pow) (PX.con (D.int 2)) (PX.con (D.int 24)))]])]
-- names route: [_law_more, _law_prefixes_here, _law_first, _law_some, _law_path, _law_k, _law_weight]
def p_rule : List PSt := [PSt.asg
   (PTg.nm 3)
   (PX.idx (PX.var 1) (PX.bin (Operator.Mod) (PX.var 0) (PX.blt (Bl.len) [PX.var 1]))),
 PSt.ifs
   (PB.val
     (PX.cmp
       (CmpOp.Gt)
       (PX.bin
         (Operator.Mod)
         (PX.bin (Operator.FloorDiv) (PX.var 0) (PX.con (D.int 8)))
         (PX.con (D.int 3)))
       (PX.con (D.int 0))))
   [PSt.asg
      (PTg.nm 3)
      (PX.sl
        (PX.var 3)
        none
        (some (PX.bin
           (Operator.Mod)
           (PX.bin (Operator.FloorDiv) (PX.var 0) (PX.con (D.int 24)))
           (PX.con (D.int 3)))))]
   [],
 PSt.asg
   (PTg.nm 4)
   (PX.idx
     (PX.lst
       [PX.con (D.int 16),
        PX.bin
          (Operator.Add)
          (PX.blt (Bl.len) [PX.var 3])
          (PX.bin
            (Operator.Mod)
            (PX.bin (Operator.FloorDiv) (PX.var 0) (PX.con (D.int 72)))
            (PX.con (D.int 4))),
        PX.con (D.int 16)])
     (PX.bin
       (Operator.Mod)
       (PX.bin (Operator.FloorDiv) (PX.var 0) (PX.con (D.int 288)))
       (PX.con (D.int 3)))),
 PSt.asg
   (PTg.nm 5)
   (PX.idx
     (PX.lst
       [PX.con (D.int 0),
        PX.con (D.int 0),
        PX.idx
          (PX.var 2)
          (PX.bin
            (Operator.Mod)
            (PX.bin (Operator.FloorDiv) (PX.var 0) (PX.con (D.int 4096)))
            (PX.blt (Bl.len) [PX.var 2]))])
     (PX.bin
       (Operator.Mod)
       (PX.bin (Operator.FloorDiv) (PX.var 0) (PX.con (D.int 1024)))
       (PX.con (D.int 3)))),
 PSt.asg
   (PTg.nm 6)
   (PX.idx
     (PX.lst
       [PX.con (D.int 0),
        PX.con (D.int 0),
        PX.bin
          (Operator.Add)
          (PX.con (D.int 1))
          (PX.bin
            (Operator.Mod)
            (PX.bin (Operator.FloorDiv) (PX.var 0) (PX.con (D.int 65536)))
            (PX.con (D.int 3)))])
     (PX.bin
       (Operator.Mod)
       (PX.bin (Operator.FloorDiv) (PX.var 0) (PX.con (D.int 16384)))
       (PX.con (D.int 3)))),
 PSt.asg
   (PTg.nm 7)
   (PX.idx
     (PX.lst
       [PX.con (D.str [110, 111]),
        PX.con (D.str [121, 101, 115]),
        PX.con (D.str [111, 110]),
        PX.con (D.str [111, 110])])
     (PX.bin
       (Operator.Mod)
       (PX.bin
         (Operator.FloorDiv)
         (PX.var 0)
         (PX.bin (Operator.Pow) (PX.con (D.int 2)) (PX.con (D.int 20))))
       (PX.con (D.int 4)))),
 PSt.asg
   (PTg.nm 8)
   (PX.idx
     (PX.lst
       [PX.con (D.non),
        PX.con (D.int 100),
        PX.bin
          (Operator.Mod)
          (PX.bin
            (Operator.FloorDiv)
            (PX.var 0)
            (PX.bin (Operator.Pow) (PX.con (D.int 2)) (PX.con (D.int 24))))
          (PX.con (D.int 1001)),
        PX.con (D.int 200)])
     (PX.bin
       (Operator.Mod)
       (PX.bin
         (Operator.FloorDiv)
         (PX.var 0)
         (PX.bin (Operator.Pow) (PX.con (D.int 2)) (PX.con (D.int 22))))
       (PX.con (D.int 4)))),
 PSt.asg
   (PTg.nm 0)
   (PX.bin
     (Operator.FloorDiv)
     (PX.var 0)
     (PX.bin (Operator.Pow) (PX.con (D.int 2)) (PX.con (D.int 36)))),
 PSt.ret
   (PX.tup
     [PX.var 3,
      PX.blt (Bl.min2) [PX.var 4, PX.con (D.int 16)],
      PX.var 5,
      PX.var 6,
      PX.var 7,
      PX.var 8,
      PX.idx
        (PX.lst [PX.con (D.int 0), PX.con (D.int 1), PX.con (D.int 2), PX.con (D.int 99)])
        (PX.bin (Operator.Mod) (PX.var 0) (PX.con (D.int 4))),
      PX.idx
        (PX.lst [PX.con (D.int 0), PX.con (D.int 1), PX.con (D.int 3)])
        (PX.bin
          (Operator.Mod)
          (PX.bin (Operator.FloorDiv) (PX.var 0) (PX.con (D.int 4)))
          (PX.con (D.int 3))),
      PX.bin
        (Operator.Mod)
        (PX.bin (Operator.FloorDiv) (PX.var 0) (PX.con (D.int 12)))
        (PX.con (D.int 4))])]
-- names rule: [_law_more, _law_prefixes_here, _law_some, _law_prefix, _law_longest, _law_number, _law_tag, _law_deed, _law_prefer]
def p_lfits : List PSt := [PSt.ifs
   (PB.or
     (PB.val
       (PX.cmp
         (CmpOp.NotEq)
         (PX.sl
           (PX.idx (PX.var 1) (PX.con (D.int 0)))
           none
           (some (PX.blt (Bl.len) [PX.idx (PX.var 0) (PX.con (D.int 0))])))
         (PX.idx (PX.var 0) (PX.con (D.int 0)))))
     (PB.val
       (PX.cmp
         (CmpOp.Gt)
         (PX.blt (Bl.len) [PX.idx (PX.var 1) (PX.con (D.int 0))])
         (PX.idx (PX.var 0) (PX.con (D.int 1))))))
   [PSt.ret (PX.con (D.bl false))]
   [],
 PSt.ifs
   (PB.and
     (PB.val
       (PX.cmp (CmpOp.NotEq) (PX.idx (PX.var 0) (PX.con (D.int 2))) (PX.con (D.int 0))))
     (PB.val
       (PX.cmp
         (CmpOp.NotIn)
         (PX.idx (PX.var 0) (PX.con (D.int 2)))
         (PX.blt (Bl.list) [PX.idx (PX.var 1) (PX.con (D.int 1))]))))
   [PSt.ret (PX.con (D.bl false))]
   [],
 PSt.ret
   (PX.or
     (PX.cmp (CmpOp.Eq) (PX.idx (PX.var 0) (PX.con (D.int 3))) (PX.con (D.int 0)))
     (PX.cmp
       (CmpOp.In)
       (PX.idx (PX.var 0) (PX.con (D.int 3)))
       (PX.blt (Bl.list) [PX.idx (PX.var 1) (PX.con (D.int 3))])))]
-- names lfits: [_law_rule_here, _law_route_here]
def p_ljudged : List PSt := [PSt.asg (PTg.nm 2) (PX.con (D.int 100)),
 PSt.asg (PTg.nm 3) (PX.con (D.int 0)),
 PSt.forS
   (PTg.nm 4)
   (PI.seq (PX.var 0))
   [PSt.ifs (PB.not (PB.val (PX.call 12 [PX.var 4, PX.var 1]))) [PSt.cnt] [],
    PSt.asg
      (PTg.nm 5)
      (PX.blt
        (Bl.sorted)
        [PX.comp
           (PX.var 0)
           (some (PB.val
              (PX.cmp (CmpOp.NotEq) (PX.var 0) (PX.idx (PX.var 1) (PX.con (D.int 7))))))
           (PI.seq (PX.idx (PX.var 1) (PX.con (D.int 3))))
           [4]]),
    PSt.ifs
      (PB.and
        (PB.val
          (PX.cmp (CmpOp.Gt) (PX.idx (PX.var 4) (PX.con (D.int 6))) (PX.con (D.int 0))))
        (PB.and
          (PB.val (PX.cmp (CmpOp.NotIn) (PX.idx (PX.var 4) (PX.con (D.int 6))) (PX.var 5)))
          (PB.val (PX.cmp (CmpOp.Lt) (PX.blt (Bl.len) [PX.var 5]) (PX.con (D.int 4))))))
      [PSt.asg
         (PTg.nm 5)
         (PX.blt
           (Bl.sorted)
           [PX.bin
              (Operator.Add)
              (PX.var 5)
              (PX.lst [PX.idx (PX.var 4) (PX.con (D.int 6))])])]
      [],
    PSt.asg
      (PTg.nm 1)
      (PX.bin
        (Operator.Add)
        (PX.sl (PX.var 1) none (some (PX.con (D.int 3))))
        (PX.tup [PX.blt (Bl.tuple) [PX.var 5]])),
    PSt.asg
      (PTg.nm 2)
      (PX.idx
        (PX.lst [PX.idx (PX.var 4) (PX.con (D.int 5)), PX.var 2])
        (PX.blt
          (Bl.int)
          [PX.cmp (CmpOp.Is) (PX.idx (PX.var 4) (PX.con (D.int 5))) (PX.con (D.non))])),
    PSt.asg
      (PTg.nm 3)
      (PX.bin (Operator.Add) (PX.var 3) (PX.idx (PX.var 4) (PX.con (D.int 8)))),
    PSt.ifs
      (PB.val
        (PX.cmp
          (CmpOp.Eq)
          (PX.idx (PX.var 4) (PX.con (D.int 4)))
          (PX.con (D.str [110, 111]))))
      [PSt.ret (PX.con (D.non))]
      [],
    PSt.ifs
      (PB.val
        (PX.cmp
          (CmpOp.Eq)
          (PX.idx (PX.var 4) (PX.con (D.int 4)))
          (PX.con (D.str [121, 101, 115]))))
      [PSt.ret (PX.tup [PX.var 1, PX.var 2, PX.var 3])]
      []],
 PSt.ret (PX.tup [PX.var 1, PX.var 2, PX.var 3])]
-- names ljudged: [_law_rules, _law_route_here, _law_prefer, _law_ahead, _law_rule_here, _law_tags_here]
def p_law : List PSt := [PSt.forS
   (PTg.nm 1)
   (PI.rng
     (PX.blt
       (Bl.max2)
       [PX.con (D.int 1), PX.blt (Bl.min2) [PX.con (D.int 6), PX.blt (Bl.len) [PX.var 0]]]))
   [PSt.asg (PTg.nm 2) (PX.call 5 [PX.call 4 [PX.var 0, PX.var 1], PX.var 1]),
    PSt.asg
      (PTg.nm 3)
      (PX.call 8 [PX.bin (Operator.FloorDiv) (PX.var 2) (PX.con (D.int 64))]),
    PSt.asg
      (PTg.nm 4)
      (PX.call
        6
        [PX.bin
           (Operator.FloorDiv)
           (PX.var 2)
           (PX.bin (Operator.Pow) (PX.con (D.int 2)) (PX.con (D.int 30))),
         PX.con (D.int 5)]),
    PSt.asg
      (PTg.nm 5)
      (PX.call
        10
        [PX.bin
           (Operator.FloorDiv)
           (PX.var 2)
           (PX.bin (Operator.Pow) (PX.con (D.int 2)) (PX.con (D.int 40))),
         PX.var 3,
         PX.idx (PX.var 4) (PX.con (D.int 0)),
         PX.var 4]),
    PSt.asg
      (PTg.nm 6)
      (PX.comp
        (PX.call
          11
          [PX.call
             5
             [PX.call 4 [PX.var 3, PX.bin (Operator.Add) (PX.var 1) (PX.var 0)],
              PX.bin
                (Operator.Add)
                (PX.bin (Operator.Add) (PX.var 1) (PX.var 0))
                (PX.con (D.int 30))],
           PX.var 2,
           PX.var 4])
        none
        (PI.rng (PX.bin (Operator.Mod) (PX.var 2) (PX.con (D.int 6))))
        [1, 3, 0, 4]),
    PSt.forS
      (PTg.nm 7)
      (PI.seq (PX.var 6))
      [PSt.asg (PTg.nm 8) (PX.call 1 [PX.var 7, PX.var 5]),
       PSt.ifs
         (PB.or
           (PB.not (PB.val (PX.isi (PX.var 8) (Ty.bool))))
           (PB.val (PX.cmp (CmpOp.NotEq) (PX.var 8) (PX.call 12 [PX.var 7, PX.var 5]))))
         [PSt.ret (PX.con (D.bl false))]
         []],
    PSt.asg (PTg.nm 9) (PX.blt (Bl.list) [PX.var 6]),
    PSt.asg (PTg.nm 10) (PX.call 3 [PX.var 9, PX.var 5]),
    PSt.asg (PTg.nm 11) (PX.call 13 [PX.var 6, PX.var 5]),
    PSt.ifs
      (PB.or
        (PB.val (PX.cmp (CmpOp.NotEq) (PX.var 10) (PX.var 11)))
        (PB.or
          (PB.val (PX.cmp (CmpOp.NotEq) (PX.var 9) (PX.var 6)))
          (PB.and
            (PB.val (PX.cmp (CmpOp.IsNot) (PX.var 11) (PX.con (D.non))))
            (PB.not (PB.val (PX.isi (PX.var 10) (Ty.tuple)))))))
      [PSt.ret (PX.con (D.bl false))]
      [],
    PSt.ifs
      (PB.and
        (PB.val (PX.cmp (CmpOp.NotEq) (PX.var 6) (PX.lst [])))
        (PB.val
          (PX.cmp
            (CmpOp.Eq)
            (PX.idx (PX.idx (PX.var 6) (PX.con (D.int 0))) (PX.con (D.int 4)))
            (PX.con (D.str [111, 110])))))
      [PSt.asg
         (PTg.nm 12)
         (PX.call 3 [PX.sl (PX.var 6) none (some (PX.con (D.int 1))), PX.var 5]),
       PSt.asg
         (PTg.nm 13)
         (PX.call
           3
           [PX.sl (PX.var 6) (some (PX.con (D.int 1))) none,
            PX.idx (PX.var 12) (PX.con (D.int 0))]),
       PSt.ifs
         (PB.or
           (PB.and
             (PB.val (PX.cmp (CmpOp.Is) (PX.var 13) (PX.con (D.non))))
             (PB.val (PX.cmp (CmpOp.IsNot) (PX.var 10) (PX.con (D.non)))))
           (PB.and
             (PB.val (PX.cmp (CmpOp.IsNot) (PX.var 13) (PX.con (D.non))))
             (PB.val (PX.cmp (CmpOp.Is) (PX.var 10) (PX.con (D.non))))))
         [PSt.ret (PX.con (D.bl false))]
         [],
       PSt.ifs
         (PB.and
           (PB.val (PX.cmp (CmpOp.IsNot) (PX.var 13) (PX.con (D.non))))
           (PB.or
             (PB.val
               (PX.cmp
                 (CmpOp.NotEq)
                 (PX.idx (PX.var 13) (PX.con (D.int 0)))
                 (PX.idx (PX.var 10) (PX.con (D.int 0)))))
             (PB.val
               (PX.cmp
                 (CmpOp.NotEq)
                 (PX.bin
                   (Operator.Add)
                   (PX.idx (PX.var 13) (PX.con (D.int 2)))
                   (PX.idx (PX.var 12) (PX.con (D.int 2))))
                 (PX.idx (PX.var 10) (PX.con (D.int 2)))))))
         [PSt.ret (PX.con (D.bl false))]
         []]
      []],
 PSt.ret (PX.con (D.bl true))]
-- names law: [_law_script, _law_k, _law_more, _law_prefixes_here, _law_some, _law_route_here, _law_rules, _law_rule_here, _law_told, _law_handed, _law_found, _law_due, _law_first, _law_rest]

end K11
set_option linter.all false
set_option maxRecDepth 100000
set_option maxHeartbeats 4000000
namespace MP
theorem run_rt {G : List Den} {np n : Nat} {b : List PSt} {args : List D} {h : AH} {d : D} (hl : args.length = np) (e : exSs G b (startE n args) h = .rt d h) : cutDen (runF G np n b) args h = .ok d h := by
  refine cutDen_same ?_
  unfold runF
  rw [if_pos hl, e]
theorem run_rtN {G : List Den} {np n : Nat} {b : List PSt} {args : List D} {h h' : AH} {d : D} (hl : args.length = np) (e : exSs G b (startE n args) h = .rt d h') (hn : nrf d = true) (ht : h'.take h.length = h) : cutDen (runF G np n b) args h = .ok d h := by
  refine cutDen_ok (h' := h') ?_ hn ht
  unfold runF
  rw [if_pos hl, e]
/-- it returns such a thing; the objects stay -/
def Rets (P : D → Prop) (h : AH) (r : R) : Prop := ∃ d, P d ∧ r = .rt d h
theorem run_rets {G : List Den} {np n : Nat} {b : List PSt} {args : List D} {h : AH} {P : D → Prop} (H : Rets P h (exSs G b (startE n args) h)) (hl : args.length = np) : ∃ d, P d ∧ cutDen (runF G np n b) args h = .ok d h :=
  let ⟨d, p, e⟩ := H
  ⟨d, p, run_rt hl e⟩
section
variable {G : List Den} {ρ : Ev} {h : AH} {Post : R → Prop}
theorem st_asg {i : Nat} {e : PX} {P : D → Prop} {r : List PSt} (he : EvP G e ρ h P) (k : ∀ d, P d → Post (exSs G r (ρ.set i (some d)) h)) : Post (exSs G (.asg (.nm i) e :: r) ρ h) := by
  obtain ⟨d, p, e1⟩ := he
  have : exSs G (.asg (.nm i) e :: r) ρ h = exSs G r (ρ.set i (some d)) h := by simp [exSs, exS, e1, setT]
  rw [this]
  exact k d p
theorem st_ret {e : PX} {P : D → Prop} {r : List PSt} (he : EvP G e ρ h P) (k : ∀ d, P d → Post (.rt d h)) : Post (exSs G (.ret e :: r) ρ h) := by
  obtain ⟨d, p, e1⟩ := he
  have : exSs G (.ret e :: r) ρ h = .rt d h := by simp [exSs, exS, e1]
  rw [this]
  exact k d p
theorem st_retP {e : PX} {P Q : D → Prop} {r : List PSt} (he : EvP G e ρ h P) (k : ∀ d, P d → Q d) : Rets Q h (exSs G (.ret e :: r) ρ h) := st_ret (Post := Rets Q h) he fun d p => ⟨d, k d p, rfl⟩
theorem st_if {c : PB} {a b : List PSt} {P : Bool → Prop} {r : List PSt} (he : EvT G c ρ h P) (kt : P true → Post (exSs G (a ++ r) ρ h)) (kf : P false → Post (exSs G (b ++ r) ρ h)) : Post (exSs G (.ifs c a b :: r) ρ h) := by
  have app : ∀ (a r : List PSt) ρ h, exSs G (a ++ r) ρ h = (match exSs G a ρ h with | .nx ρ' h' => exSs G r ρ' h' | .rt d h' => .rt d h' | .bk ρ' h' => .bk ρ' h' | .ct ρ' h' => .ct ρ' h' | .exc c ρ' h' => .exc c ρ' h' | .bad => .bad) := by
    intro a r
    induction a with
    | nil => intro ρ h; simp [exSs]
    | cons s a ih =>
      intro ρ h
      show exSs G (s :: (a ++ r)) ρ h = _
      rw [exSs]
      rw [show exSs G (s :: a) ρ h = _ from by rw [exSs]]
      cases exS G s ρ h <;> simp [ih]
  obtain ⟨b', p, e1⟩ := he
  rw [exSs, exS, e1]
  cases b' with
  | true =>
    have := kt p
    rw [app] at this
    cases hx : exSs G a ρ h <;> simp [hx] at this ⊢ <;> exact this
  | false =>
    have := kf p
    rw [app] at this
    cases hx : exSs G b ρ h <;> simp [hx] at this ⊢ <;> exact this
theorem ep_call {i : Nat} {f : Den} {es : List PX} {PL : List D → Prop} {PD : D → Prop} (hG : G[i]? = some f) (ha : EvL G es ρ h PL) (k : ∀ ds, PL ds → ∃ d, PD d ∧ f ds h = .ok d h) : EvP G (.call i es) ρ h PD := by
  obtain ⟨ds, p, e1⟩ := ha
  obtain ⟨d, q, e2⟩ := k ds p
  exact ⟨d, q, by simp [ev, e1, hG, e2]⟩
end
end MP
namespace K11
open MP PySem
theorem mulOk_l {a b : Int} (h : a.natAbs < 2 ^ 64) : mulOk a b = true := by unfold mulOk; rw [decide_eq_true h]; rfl
theorem mulOk_r {a b : Int} (h : b.natAbs < 2 ^ 64) : mulOk a b = true := by unfold mulOk; rw [decide_eq_true h]; simp
theorem mulOk_b {a b : Int} (ha : a.natAbs < 2 ^ 200) (hb : b.natAbs < 2 ^ 200) : mulOk a b = true := by
  have l : (2 : Nat) ^ 200 ≤ 2 ^ 4096 := Nat.pow_le_pow_right (by decide) (by decide)
  unfold mulOk
  rw [decide_eq_true (Nat.lt_of_lt_of_le ha l), decide_eq_true (Nat.lt_of_lt_of_le hb l)]
  simp

def BitStr (s : List Nat) : Prop := ∀ c ∈ s, c = 48 ∨ c = 49
def PCell (f : Den) : Prop := ∀ (sc : List Int) (k : Int) (h : AH), sc.length ≤ 63 → 0 ≤ k → k < 1000 → ∃ i : Int, f [.lst (sc.map .int), .int k] h = .ok (.int i) h
def PDrawn (f : Den) : Prop := ∀ (c k : Int) (h : AH), 0 ≤ k → k < 1000 → ∃ i : Int, 0 ≤ i ∧ f [.int c, .int k] h = .ok (.int i) h
def PNumbers (f : Den) : Prop := ∀ (m : Int) (h : AH), ∃ l : List Int, l.length = 5 ∧ (∀ x ∈ l, 1 ≤ x ∧ x ≤ 999) ∧ f [.int m, .int 5] h = .ok (.lst (l.map .int)) h
def PBits (f : Den) : Prop := ∀ (m n : Int) (h : AH), 0 ≤ n → n ≤ 16 → ∃ s, BitStr s ∧ s.length = n.toNat ∧ f [.int m, .int n] h = .ok (.str s) h
def PfxOk (s : List Nat) : Prop := BitStr s ∧ s.length ≤ 16
def PPrefixes (f : Den) : Prop := ∀ (m : Int) (h : AH), ∃ l : List (List Nat), l.length = 7 ∧ (∀ x ∈ l, PfxOk x) ∧ f [.int m] h = .ok (.lst (l.map .str)) h
def TagsOk (l : List Int) : Prop := l.length ≤ 4 ∧ l.Pairwise (· < ·)
def PTags (f : Den) : Prop := ∀ (m : Int) (h : AH), ∃ l : List Int, TagsOk l ∧ f [.int m] h = .ok (.tup (l.map .int)) h

theorem ints_of {l : List D} (h : ∀ x ∈ l, ∃ i : Int, x = .int i) : ∃ is : List Int, l = is.map .int := by
  induction l with
  | nil => exact ⟨[], rfl⟩
  | cons a l ih =>
    obtain ⟨i, rfl⟩ := h a List.mem_cons_self
    obtain ⟨is, e⟩ := ih fun x hx => h x (List.mem_cons_of_mem _ hx)
    exact ⟨i :: is, by rw [e]; rfl⟩
theorem ints_ofP {P : Int → Prop} {l : List D} (h : ∀ x ∈ l, ∃ i : Int, x = .int i ∧ P i) : ∃ is : List Int, l = is.map .int ∧ ∀ i ∈ is, P i := by
  induction l with
  | nil => exact ⟨[], rfl, by simp⟩
  | cons a l ih =>
    obtain ⟨i, rfl, p⟩ := h a List.mem_cons_self
    obtain ⟨is, e, q⟩ := ih fun x hx => h x (List.mem_cons_of_mem _ hx)
    exact ⟨i :: is, by rw [e]; rfl, by simpa using ⟨p, q⟩⟩
theorem strs_ofP {P : List Nat → Prop} {l : List D} (h : ∀ x ∈ l, ∃ i, x = .str i ∧ P i) : ∃ is : List (List Nat), l = is.map .str ∧ ∀ i ∈ is, P i := by
  induction l with
  | nil => exact ⟨[], rfl, by simp⟩
  | cons a l ih =>
    obtain ⟨i, rfl, p⟩ := h a List.mem_cons_self
    obtain ⟨is, e, q⟩ := ih fun x hx => h x (List.mem_cons_of_mem _ hx)
    exact ⟨i :: is, by rw [e]; rfl, by simpa using ⟨p, q⟩⟩
@[simp] theorem strs_map (l : List (List Nat)) : strs? (l.map .str) = some l := by
  induction l with
  | nil => rfl
  | cons a l ih => simp [strs?, ih]
@[simp] theorem ints_map (l : List Int) : ints? (l.map .int) = some l := by
  induction l with
  | nil => rfl
  | cons a l ih => simp [ints?, ih]
theorem join_nil (l : List (List Nat)) : joinD [] l = l.flatten := by
  induction l with
  | nil => rfl
  | cons a l ih =>
    cases l with
    | nil => simp [joinD]
    | cons b r => rw [joinD, ih]; simp

theorem bits_ok {G : List Den} : PBits (cutDen (runF G 2 2 p_bits)) := by
  intro m n h h0 h1
  suffices H : Rets (fun d => ∃ s, d = .str s ∧ BitStr s ∧ s.length = n.toNat) h (exSs G p_bits (startE 2 [.int m, .int n]) h) by
    obtain ⟨d, ⟨s, rfl, a, b⟩, e⟩ := run_rets H rfl
    exact ⟨s, a, b, e⟩
  unfold p_bits
  have hc : EvP G (PX.comp (PX.idx (PX.con (D.str [48, 49])) (PX.bin (Operator.Mod) (PX.bin (Operator.FloorDiv) (PX.var 1) (PX.bin (Operator.LShift) (PX.con (D.int 1)) (PX.var 0))) (PX.con (D.int 2)))) none (PI.rng (PX.var 1)) [0]) (startE 2 [.int m, .int n]) h
      fun d => ∃ l : List (List Nat), d = .lst (l.map .str) ∧ l.length = n.toNat ∧ ∀ x ∈ l, x = [48] ∨ x = [49] := by
    refine ep_compR (N := n) (PD := fun d => ∃ x, d = .str x ∧ (x = [48] ∨ x = [49])) (ei_var (by simp [startE]) rfl) ⟨by omega, by omega⟩ (fun i hi => ?_) fun out hl ha => ?_
    · have hm : EvI G (PX.bin (Operator.Mod) (PX.bin (Operator.FloorDiv) (PX.var 1) (PX.bin (Operator.LShift) (PX.con (D.int 1)) (PX.var 0))) (PX.con (D.int 2))) (some (.int i) :: [0].map (getV (startE 2 [.int m, .int n]))) h fun x => x = 0 ∨ x = 1 := by
        refine ei_modC (ei_fdiv (Q := fun y => 0 < y ∧ y < 2 ^ 100) (P := fun _ => True) (R := fun _ => True) (ei_var (i := m) (by simp [startE]) trivial) (ei_shl (P := fun x => x = 1) (Q := fun x => x = (i : Int)) (ei_con rfl) (ei_var (i := i) (by simp) rfl) (fun x y e1 e2 => ?_) fun x y e1 e2 => ?_) (fun y hy => hy) fun _ _ _ _ => trivial) fun x _ => by omega
        · subst e1 e2; exact ⟨by omega, by omega, by decide⟩
        · subst e1 e2
          have : (2 : Nat) ^ i ≤ 2 ^ 16 := Nat.pow_le_pow_right (by decide) (by omega)
          have e : (1 : Int) * 2 ^ ((i : Int)).toNat = ((2 ^ i : Nat) : Int) := by simp
          rw [e]
          have : (2 ^ i : Nat) < 2 ^ 100 := Nat.lt_of_le_of_lt this (by decide)
          exact ⟨by exact_mod_cast Nat.pow_pos (by decide), by exact_mod_cast this⟩
      refine ep_idxG (P1 := fun d => d = .str [48, 49]) (P2 := fun d => d = .int 0 ∨ d = .int 1) (ep_con rfl) (hm.p fun i q => by rcases q with rfl | rfl <;> simp) fun x y e1 e2 => ?_
      subst e1
      rcases e2 with rfl | rfl
      · exact ⟨.str [48], ⟨_, rfl, .inl rfl⟩, rfl⟩
      · exact ⟨.str [49], ⟨_, rfl, .inr rfl⟩, rfl⟩
    · obtain ⟨l, rfl, hp⟩ := strs_ofP ha
      exact ⟨l, rfl, by simpa using hl, hp⟩
  refine st_retP (P := fun d => ∃ s, d = .str s ∧ BitStr s ∧ s.length = n.toNat) (ep_mt (P1 := fun d => d = .str []) (PL := fun ds => ∃ l : List (List Nat), ds = [.lst (l.map .str)] ∧ l.length = n.toNat ∧ ∀ x ∈ l, x = [48] ∨ x = [49]) (ep_con rfl) (el_one hc fun d ⟨l, e, q⟩ => ⟨l, by rw [e], q⟩) ?_) fun d p => p
  rintro _ _ rfl ⟨l, rfl, hl, hp⟩
  have hs : (l.map List.length).sum = l.length := by
    clear hl
    induction l with
    | nil => rfl
    | cons a l ih =>
      have := ih fun x hx => hp x (List.mem_cons_of_mem _ hx)
      rcases hp a List.mem_cons_self with rfl | rfl <;> simp [this] <;> omega
  refine ⟨.str l.flatten, ⟨_, rfl, ?_, ?_⟩, ?_⟩
  · intro c hc
    obtain ⟨x, hx, hcx⟩ := List.mem_flatten.mp hc
    rcases hp x hx with rfl | rfl
    · exact .inl (by simpa using hcx)
    · exact .inr (by simpa using hcx)
  · rw [← hl, List.length_flatten, hs]
  · show ((strs? (l.map .str)).bind fun l => if (l.map List.length).sum + l.length * ([] : List Nat).length ≤ SZ then some (D.str (joinD [] l)) else none) = _
    rw [strs_map]
    show (if (l.map List.length).sum + l.length * 0 ≤ SZ then some (D.str (joinD [] l)) else none) = _
    rw [if_pos (by rw [hs, hl]; show _ ≤ 16777216; omega), join_nil]

theorem cell_ok {G : List Den} : PCell (cutDen (runF G 2 2 p_cell)) := by
  intro sc k h hsc h0 h1
  suffices H : Rets (fun d => ∃ i : Int, d = .int i) h (exSs G p_cell (startE 2 [.lst (sc.map .int), .int k]) h) by
    obtain ⟨d, ⟨s, rfl⟩, e⟩ := run_rets H rfl
    exact ⟨s, e⟩
  unfold p_cell
  refine st_if (Post := Rets _ h) (P := fun b => b = sc.isEmpty) ?_ (fun e => ?_) fun e => ?_
  · refine ⟨_, rfl, ?_⟩
    cases sc with
    | nil => simp [evB, ev, evs, startE, eqD, eqDs]
    | cons a l => simp [evB, ev, evs, startE, eqD, eqDs]
  · refine st_retP (P := fun d => ∃ i : Int, d = .int i) (EvI.p (P := fun _ => True) (ei_mul (P := fun _ => True) (Q := fun x => x = 7919) (ei_var (i := k) (by simp [startE]) trivial) (ei_con rfl) (fun x y _ e => by subst e; exact mulOk_r (by decide)) fun _ _ _ _ => trivial) fun i _ => ⟨i, rfl⟩) fun d p => p
  · have hne : sc ≠ [] := by cases sc with | nil => cases e | cons a l => simp
    have hl : 0 < sc.length := List.length_pos_iff.mpr hne
    refine st_retP (P := fun d => ∃ i : Int, d = .int i) ?_ fun d p => p
    have hx := ep_idxM (G := G) (ρ := startE 2 [.lst (sc.map .int), .int k]) (h := h) (j := 0) (xs := sc.map .int) (a := .var 1) (PD := fun d => ∃ i : Int, d = .int i) (by simp [startE]) (by simpa using hne) (by intro x hx; obtain ⟨i, _, rfl⟩ := List.mem_map.mp hx; exact ⟨i, rfl⟩) (ei_var (i := k) (by simp [startE]) trivial)
    obtain ⟨d, ⟨i, rfl⟩, ex⟩ := hx
    refine EvI.p (P := fun _ => True) (ei_add (P := fun _ => True) (Q := fun _ => True) ⟨i, trivial, ex⟩ (ei_mul (P := fun _ => True) (Q := fun x => x = 104729) (ei_fdiv (P := fun _ => True) (Q := fun y => y = sc.length) (ei_var (i := k) (by simp [startE]) trivial) ?_ ?_ fun _ _ _ _ => trivial) (ei_con rfl) (fun x y _ e => by subst e; exact mulOk_r (by decide)) fun _ _ _ _ => trivial) fun _ _ _ _ => trivial) fun i _ => ⟨i, rfl⟩
    · exact ei_lenL (PL := fun ys => ys = sc.map .int) (ep_var (by simp [startE]) ⟨_, rfl, rfl⟩) fun ys e => by rw [e]; simp
    · intro y e; subst e; exact ⟨by omega, by omega⟩

theorem drawn_ok {G : List Den} : PDrawn (cutDen (runF G 2 3 p_drawn)) := by
  intro c k h h0 h1
  suffices H : Rets (fun d => ∃ i : Int, d = .int i ∧ 0 ≤ i) h (exSs G p_drawn (startE 3 [.int c, .int k]) h) by
    obtain ⟨d, ⟨s, rfl, p⟩, e⟩ := run_rets H rfl
    exact ⟨s, p, e⟩
  unfold p_drawn
  refine st_asg (Post := Rets _ h) (P := fun d => ∃ i : Int, d = .int i ∧ 0 ≤ i ∧ i < 340282366920938463463374607431768211507) (EvI.p (P := fun i => 0 ≤ i ∧ i < 340282366920938463463374607431768211507) (ei_modC (P := fun _ => True)
    (ei_add (P := fun _ => True) (Q := fun _ => True) (ei_mul (P := fun _ => True) (Q := fun x => x = 6364136223846793005) (ei_var (i := c) (by simp [startE]) trivial) (ei_con rfl) (fun x y _ e => by subst e; exact mulOk_r (by decide)) fun _ _ _ _ => trivial)
      (ei_mul (P := fun _ => True) (Q := fun x => x = 1442695040888963407) (ei_add (P := fun _ => True) (Q := fun _ => True) (ei_var (i := k) (by simp [startE]) trivial) (ei_con trivial) fun _ _ _ _ => trivial) (ei_con rfl) (fun x y _ e => by subst e; exact mulOk_r (by decide)) fun _ _ _ _ => trivial) fun _ _ _ _ => trivial)
    fun x _ => ⟨Int.emod_nonneg _ (by decide), Int.emod_lt_of_pos _ (by decide)⟩) fun i p => ⟨i, rfl, p⟩) ?_
  rintro d ⟨i, rfl, h2, h3⟩
  refine st_retP (P := fun d => ∃ i : Int, d = .int i ∧ 0 ≤ i) (EvI.p (P := fun i => 0 ≤ i) (ei_modC (P := fun _ => True) (ei_mul (P := fun x => x = i) (Q := fun x => x = i) (ei_var (by simp [startE]) rfl) (ei_var (by simp [startE]) rfl) (fun x y e1 e2 => ?_) fun _ _ _ _ => trivial) fun x _ => Int.emod_nonneg _ (by decide)) fun i p => ⟨i, rfl, p⟩) fun d p => p
  subst e1 e2
  have : y.natAbs < 2 ^ 200 := by
    have : (340282366920938463463374607431768211507 : Nat) < 2 ^ 200 := by decide
    omega
  exact mulOk_b this this

theorem numbers_ok {G : List Den} : PNumbers (cutDen (runF G 2 3 p_numbers)) := by
  intro m h
  suffices H : Rets (fun d => ∃ l : List Int, d = .lst (l.map .int) ∧ l.length = 5 ∧ (∀ x ∈ l, 1 ≤ x ∧ x ≤ 999)) h (exSs G p_numbers (startE 3 [.int m, .int 5]) h) by
    obtain ⟨d, ⟨s, rfl, p⟩, e⟩ := run_rets H rfl
    exact ⟨s, p.1, p.2, e⟩
  unfold p_numbers
  refine st_asg (Post := Rets _ h) (P := fun d => ∃ i : Int, d = .int i) (ep_idxA (ea_cons (ep_con ⟨_, rfl⟩) (ea_cons (ep_con ⟨_, rfl⟩) (ea_cons (ep_con ⟨_, rfl⟩) (ea_cons (ep_con ⟨_, rfl⟩) ea_nil)))) (ei_var (i := m) (by simp [startE]) trivial)) ?_
  rintro d ⟨st, rfl⟩
  refine st_retP (P := fun d => ∃ l : List Int, d = .lst (l.map .int) ∧ l.length = 5 ∧ (∀ x ∈ l, 1 ≤ x ∧ x ≤ 999)) (ep_compR (N := 5) (PD := fun d => ∃ i : Int, d = .int i ∧ (1 ≤ i ∧ i ≤ 999)) (ei_var (by simp [startE]) rfl) ⟨by decide, by decide⟩ (fun i hi => ?_) fun out l p => ?_) fun d p => p
  · refine EvI.p (P := fun i => 1 ≤ i ∧ i ≤ 999) (ei_add (P := fun i => 0 ≤ i ∧ i < 999) (Q := fun i => i = 1) (ei_modC (P := fun _ => True) (ei_add (P := fun _ => True) (Q := fun _ => True) (ei_fdivC (P := fun _ => True) (ei_var (i := m) (by simp [startE]) trivial) fun _ _ => trivial)
      (ei_mul (P := fun x => x = (i : Int)) (Q := fun _ => True) (ei_var (by simp) rfl) (ei_var (i := st) (by simp [startE]) trivial) (fun x y e _ => ?_) fun _ _ _ _ => trivial) fun _ _ _ _ => trivial) fun x _ => ⟨Int.emod_nonneg _ (by decide), Int.emod_lt_of_pos _ (by decide)⟩) (ei_con rfl) fun x y p e => ?_) fun i p => ⟨i, rfl, p⟩
    · subst e; exact mulOk_l (by omega)
    · subst e; omega
  · obtain ⟨is, rfl, q⟩ := ints_ofP p
    exact ⟨is, rfl, by simpa using l, q⟩

theorem BitStr.take {s : List Nat} (h : BitStr s) (n : Nat) : BitStr (s.take n) := fun c hc => h c (List.mem_of_mem_take hc)
theorem BitStr.append {s t : List Nat} (h : BitStr s) (k : BitStr t) : BitStr (s ++ t) := fun c hc => by
  rcases List.mem_append.mp hc with z | z
  · exact h c z
  · exact k c z
theorem prefixes_ok {G : List Den} {f : Den} (hG : G[7]? = some f) (hf : PBits f) : PPrefixes (cutDen (runF G 1 3 p_prefixes)) := by
  intro m h
  suffices H : Rets (fun d => ∃ l : List (List Nat), d = .lst (l.map .str) ∧ l.length = 7 ∧ ∀ x ∈ l, PfxOk x) h (exSs G p_prefixes (startE 3 [.int m]) h) by
    obtain ⟨d, ⟨s, rfl, p⟩, e⟩ := run_rets H rfl
    exact ⟨s, p.1, p.2, e⟩
  unfold p_prefixes
  refine st_asg (Post := Rets _ h) (P := fun d => ∃ s, d = .str s ∧ BitStr s ∧ s.length ≤ 12) (ep_call (PL := fun ds => ∃ a b : Int, ds = [.int a, .int b] ∧ 0 ≤ b ∧ b ≤ 12) hG (el_two (P1 := fun d => ∃ i : Int, d = .int i) (P2 := fun d => ∃ i : Int, d = .int i ∧ 0 ≤ i ∧ i ≤ 12)
    (EvI.p (P := fun _ => True) (ei_fdivC (P := fun _ => True) (ei_var (i := m) (by simp [startE]) trivial) fun _ _ => trivial) fun i _ => ⟨i, rfl⟩)
    (ep_idxA (ea_cons (ep_con ⟨_, rfl, by decide, by decide⟩) (ea_cons (ep_con ⟨_, rfl, by decide, by decide⟩) (ea_cons (ep_con ⟨_, rfl, by decide, by decide⟩) (ea_cons (ep_con ⟨_, rfl, by decide, by decide⟩) ea_nil)))) (ei_var (i := m) (by simp [startE]) trivial))
    fun d d2 ⟨i, e⟩ ⟨j, e2, p⟩ => ⟨i, j, by rw [e, e2], p⟩) ?_) ?_
  · rintro ds ⟨a, b, rfl, h1, h2⟩
    obtain ⟨s, p, l, e⟩ := hf a b h h1 (by omega)
    exact ⟨_, ⟨s, rfl, p, by omega⟩, e⟩
  rintro d ⟨stem, rfl, bs, ls⟩
  refine st_asg (Post := Rets _ h) (P := fun d => ∃ l : List (List Nat), d = .lst (l.map .str) ∧ l.length = 6 ∧ ∀ x ∈ l, PfxOk x) (ep_compS (xs := [[], [48], [49], [48, 48], [48, 49, 49], [49, 48]].map D.str) (PD := fun d => ∃ s, d = .str s ∧ PfxOk s)
    (by refine ⟨_, rfl, ?_⟩; simp [ev, evs, SZ]) (by decide) (fun d hd => ?_) fun out l p => ?_) ?_
  · obtain ⟨t, ht, rfl⟩ := List.mem_map.mp hd
    have bt : BitStr t ∧ t.length ≤ 3 := by
      simp at ht
      rcases ht with rfl | rfl | rfl | rfl | rfl | rfl <;> simp [BitStr]
    refine ep_bin (P1 := fun d => d = .str stem) (P2 := fun d => d = .str t) (ep_var (by simp [startE]) rfl) (ep_var (by simp) rfl) ?_
    rintro _ _ rfl rfl
    exact ⟨_, ⟨stem ++ t, rfl, bs.append bt.1, by rw [List.length_append]; omega⟩, if_pos (by show _ ≤ 16777216; omega)⟩
  · obtain ⟨is, rfl, q⟩ := strs_ofP p
    exact ⟨is, rfl, by simpa using l, q⟩
  rintro d ⟨found, rfl, lf, pf⟩
  have hb16 : EvP G (PX.call 7 [PX.bin (Operator.FloorDiv) (PX.var 0) (PX.con (D.int 65536)), PX.con (D.int 16)]) ((((startE 3 [.int m]).set 1 (some (.str stem))).set 2 (some (.lst (found.map .str))))) h fun d => ∃ s, d = .str s ∧ BitStr s ∧ s.length = 16 := by
    refine ep_call (PL := fun ds => ∃ a : Int, ds = [.int a, .int 16]) hG (el_two (P1 := fun d => ∃ i : Int, d = .int i) (P2 := fun d => d = .int 16)
      (EvI.p (P := fun _ => True) (ei_fdivC (P := fun _ => True) (ei_var (i := m) (by simp [startE]) trivial) fun _ _ => trivial) fun i _ => ⟨i, rfl⟩) (ep_con rfl) fun d d2 ⟨i, e⟩ e2 => ⟨i, by rw [e, e2]⟩) ?_
    rintro ds ⟨a, rfl⟩
    obtain ⟨s, p, l, e⟩ := hf a 16 h (by decide) (by decide)
    exact ⟨_, ⟨s, rfl, p, l⟩, e⟩
  refine st_retP (P := fun d => ∃ l : List (List Nat), d = .lst (l.map .str) ∧ l.length = 7 ∧ ∀ x ∈ l, PfxOk x) (ep_bin (P1 := fun d => d = .lst (found.map .str)) (P2 := fun d => ∃ s, d = .lst [.str s] ∧ PfxOk s) (ep_var (by simp [startE]) rfl)
    (ep_lst (PL := fun ds => ∃ s, ds = [.str s] ∧ PfxOk s) (el_one (P1 := fun d => ∃ s, d = .str s ∧ PfxOk s) (ep_slHi (P1 := fun d => ∃ s, d = .str s ∧ BitStr s ∧ s.length ≤ 29) (P := fun i => i = 16)
      (ep_bin (P1 := fun d => ∃ s, d = .str s ∧ BitStr s ∧ s.length ≤ 28) (P2 := fun d => d = .str [48]) (ep_bin (P1 := fun d => d = .str stem) (P2 := fun d => ∃ s, d = .str s ∧ BitStr s ∧ s.length = 16) (ep_var (by simp [startE]) rfl) hb16 ?_) (ep_con rfl) ?_) (ei_con rfl) ?_) fun d ⟨s, e, p⟩ => ⟨s, by rw [e], p⟩) ?_) ?_) fun d p => p
  · rintro _ _ rfl ⟨s, rfl, b1, l1⟩
    exact ⟨_, ⟨stem ++ s, rfl, bs.append b1, by rw [List.length_append]; omega⟩, if_pos (by show _ ≤ 16777216; omega)⟩
  · rintro _ _ ⟨s, rfl, b1, l1⟩ rfl
    exact ⟨_, ⟨s ++ [48], rfl, b1.append (by simp [BitStr]), by rw [List.length_append]; simp; omega⟩, if_pos (by show _ ≤ 16777216; simp; omega)⟩
  · rintro _ _ ⟨s, rfl, b1, l1⟩ rfl
    refine ⟨_, ⟨cut s none (some 16), rfl, ?_, ?_⟩, if_pos (by show _ ≤ 16777216; omega)⟩
    · exact (show BitStr (s.drop _) from fun c hc => b1 c (List.mem_of_mem_drop hc)).take _
    · unfold cut sIx
      simp
      omega
  · rintro ds ⟨s, rfl, p⟩
    exact ⟨by simp [SZ], s, rfl, p⟩
  · rintro _ _ rfl ⟨s, rfl, p⟩
    refine ⟨_, ⟨found ++ [s], rfl, by simp [lf], ?_⟩, ?_⟩
    · intro x hx
      rcases List.mem_append.mp hx with z | z
      · exact pf x z
      · have : x = s := by simpa using z
        rw [this]; exact p
    · show (if (found.map D.str).length + [D.str s].length ≤ SZ then some (D.lst (found.map D.str ++ [D.str s])) else none) = _
      rw [if_pos (by simp [lf, SZ])]
      simp

theorem compL_cons {f : D → AH → Option (Option D × AH)} {d : D} {ds : List D} {h : AH} {o : Option D} (e : f d h = some (o, h)) : compL f (d :: ds) h = (compL f ds h).bind fun q => some (putO o q.1, q.2) := by
  rw [compL, e]; rfl
theorem ints_sub (l : List Int) : ∀ x ∈ l.map D.int, ∃ i : Int, x = .int i := fun x hx => let ⟨i, _, e⟩ := List.mem_map.mp hx; ⟨i, e.symm⟩
theorem tags_ok {G : List Den} : PTags (cutDen (runF G 1 2 p_tags)) := by
  intro m h
  suffices H : Rets (fun d => ∃ l : List Int, d = .tup (l.map .int) ∧ TagsOk l) h (exSs G p_tags (startE 2 [.int m]) h) by
    obtain ⟨d, ⟨s, rfl, p⟩, e⟩ := run_rets H rfl
    exact ⟨s, p, e⟩
  unfold p_tags
  have one : ∀ (c q r : Int), 0 < q ∧ q < 2 ^ 100 → 0 < r → EvP G (PX.bin (Operator.Add) (PX.con (D.int c)) (PX.bin (Operator.Mod) (PX.bin (Operator.FloorDiv) (PX.var 0) (PX.con (D.int q))) (PX.con (D.int r)))) (startE 2 [.int m]) h fun d => ∃ i : Int, d = .int i ∧ c ≤ i ∧ i < c + r := by
    intro c q r h1 h2
    refine EvI.p (P := fun i => c ≤ i ∧ i < c + r) (ei_add (P := fun i => i = c) (Q := fun i => 0 ≤ i ∧ i < r) (ei_con rfl) (ei_modC (P := fun _ => True) (ei_fdivC (P := fun _ => True) (ei_var (i := m) (by simp [startE]) trivial) (fun _ _ => trivial) h1) (fun x _ => ⟨Int.emod_nonneg _ (by omega), Int.emod_lt_of_pos _ h2⟩) h2) fun x y e p => ?_) fun i p => ⟨i, rfl, p⟩
    omega
  refine st_asg (Post := Rets _ h) (P := fun d => ∃ a b c e : Int, d = .lst [.int a, .int b, .int c, .int e] ∧ a < b ∧ b < c ∧ c < e) (ep_lst (PL := fun ds => ∃ a b c e : Int, ds = [.int a, .int b, .int c, .int e] ∧ a < b ∧ b < c ∧ c < e)
    (el_cons (P2 := fun ds => ∃ b c e : Int, ds = [.int b, .int c, .int e] ∧ 4 ≤ b ∧ b < c ∧ c < e) (one 1 8 3 (by decide) (by decide))
      (el_cons (P2 := fun ds => ∃ c e : Int, ds = [.int c, .int e] ∧ 95 ≤ c ∧ c < e) (one 4 24 90 (by decide) (by decide))
        (el_two (one 95 2160 3 (by decide) (by decide)) (one 98 6480 2 (by decide) (by decide)) ?_) ?_) ?_) ?_) ?_
  · rintro _ _ ⟨i, rfl, p⟩ ⟨j, rfl, q⟩
    exact ⟨i, j, rfl, by omega, by omega⟩
  · rintro _ _ ⟨i, rfl, p⟩ ⟨j, k, rfl, q⟩
    exact ⟨i, j, k, rfl, by omega, by omega, by omega⟩
  · rintro _ _ ⟨i, rfl, p⟩ ⟨j, k, l, rfl, q⟩
    exact ⟨i, j, k, l, rfl, by omega, by omega, by omega⟩
  · rintro _ ⟨i, j, k, l, rfl, q⟩
    exact ⟨by simp [SZ], i, j, k, l, rfl, q⟩
  rintro _ ⟨a, b, c, e, rfl, h1, h2, h3⟩
  refine st_retP (P := fun d => ∃ l : List Int, d = .tup (l.map .int) ∧ TagsOk l) (ep_blt (PL := fun ds => ∃ l : List Int, ds = [.lst (l.map .int)] ∧ TagsOk l) (el_one (P1 := fun d => ∃ l : List Int, d = .lst (l.map .int) ∧ TagsOk l) ?_ fun d ⟨l, e, p⟩ => ⟨l, by rw [e], p⟩) fun ds ⟨l, e, p⟩ => ⟨_, ⟨l, rfl, p⟩, by rw [e]; rfl⟩) fun d p => p
  let s4 : List Int := [a, b, c, e]
  have bit : ∀ k : Nat, k < 4 → ∃ t : Bool, evB G (PB.val (PX.cmp (CmpOp.Eq) (PX.bin (Operator.Mod) (PX.bin (Operator.FloorDiv) (PX.var 1) (PX.bin (Operator.LShift) (PX.con (D.int 1)) (PX.var 0))) (PX.con (D.int 2))) (PX.con (D.int 1)))) [some (.int k), some (.int m), some (.lst [.int a, .int b, .int c, .int e])] h = some (t, h) := by
    intro k hk
    have := et_cmpI (G := G) (ρ := [some (.int k), some (.int m), some (.lst [.int a, .int b, .int c, .int e])]) (h := h) (op := .Eq) (PB' := fun _ => True) (ei_modC (n := 2) (P := fun _ => True) (R := fun _ => True) (ei_fdiv (Q := fun y => 0 < y ∧ y < 2 ^ 100) (P := fun _ => True) (R := fun _ => True) (ei_var (j := 1) (i := m) (by simp) trivial)
      (ei_shl (a := .con (.int 1)) (b := .var 0) (P := fun x => x = 1) (Q := fun x => x = (k : Int)) (ei_con rfl) (ei_var (i := k) (by simp) rfl) (fun x y e1 e2 => by subst e1 e2; exact ⟨by omega, by omega, by decide⟩) fun x y e1 e2 => by
        subst e1 e2
        have : (2 : Nat) ^ k ≤ 2 ^ 4 := Nat.pow_le_pow_right (by decide) (by omega)
        have e : (1 : Int) * 2 ^ ((k : Int)).toNat = ((2 ^ k : Nat) : Int) := by simp
        rw [e]
        have : (2 ^ k : Nat) < 2 ^ 100 := Nat.lt_of_le_of_lt this (by decide)
        exact ⟨by exact_mod_cast Nat.pow_pos (by decide), by exact_mod_cast this⟩) (fun y hy => hy) fun _ _ _ _ => trivial) fun x _ => trivial) (ei_con (i := 1) (P := fun _ => True) trivial) fun x y _ _ => ⟨_, trivial, rfl⟩
    obtain ⟨t, _, e⟩ := this
    exact ⟨t, e⟩
  obtain ⟨t0, e0⟩ := bit 0 (by decide)
  obtain ⟨t1, e1⟩ := bit 1 (by decide)
  obtain ⟨t2, e2⟩ := bit 2 (by decide)
  obtain ⟨t3, e3⟩ := bit 3 (by decide)
  have keep : List.map (getV (List.set (startE 2 [D.int m]) 1 (some (D.lst [D.int a, D.int b, D.int c, D.int e])))) [0, 1] = [some (.int m), some (.lst [.int a, .int b, .int c, .int e])] := by simp [startE]
  refine ⟨.lst (([(t0, a), (t1, b), (t2, c), (t3, e)].filterMap fun p => if p.1 then some p.2 else none).map .int), ⟨_, rfl, ?_⟩, ?_⟩
  · cases t0 <;> cases t1 <;> cases t2 <;> cases t3 <;> simp [TagsOk] <;> omega
  · unfold ev evI
    rw [ev_con]
    show ((compL _ (List.map (fun i : Nat => D.int (i : Int)) (List.range 4)) h).bind _) = _
    rw [keep]
    have r4 : List.map (fun i : Nat => D.int (i : Int)) (List.range 4) = [.int ((0 : Nat) : Int), .int ((1 : Nat) : Int), .int ((2 : Nat) : Int), .int ((3 : Nat) : Int)] := rfl
    rw [r4]
    rw [compL_cons (o := if t0 then some (.int a) else none), compL_cons (o := if t1 then some (.int b) else none), compL_cons (o := if t2 then some (.int c) else none), compL_cons (o := if t3 then some (.int e) else none)]
    · cases t0 <;> cases t1 <;> cases t2 <;> cases t3 <;> simp [compL, putO, SZ]
    · simp only [e3, Option.bind_some]; cases t3 <;> simp [ev, idxD, atI, ixN]
    · simp only [e2, Option.bind_some]; cases t2 <;> simp [ev, idxD, atI, ixN]
    · simp only [e1, Option.bind_some]; cases t1 <;> simp [ev, idxD, atI, ixN]
    · simp only [e0, Option.bind_some]; cases t0 <;> simp [ev, idxD, atI, ixN]
end K11
set_option linter.all false
set_option maxRecDepth 100000
set_option maxHeartbeats 4000000
namespace MP
theorem st_nx {G : List Den} {ρ ρ' : Ev} {h h' : AH} {Post : R → Prop} {s : PSt} {r : List PSt} (e : exS G s ρ h = .nx ρ' h') (k : Post (exSs G r ρ' h')) : Post (exSs G (s :: r) ρ h) := by
  rw [exSs, e]; exact k
end MP
namespace K11
open MP PySem

structure Rt where
  pre : List Nat
  path : List Int
  w : Int
  tags : List Int
def Rt.d (t : Rt) : D := .tup [.str t.pre, .tup (t.path.map .int), .int t.w, .tup (t.tags.map .int)]
inductive Deed where
  | no | yes | on
  deriving DecidableEq
def Deed.d : Deed → D
  | .no => .str [110, 111]
  | .yes => .str [121, 101, 115]
  | .on => .str [111, 110]
def optD : Option Int → D
  | none => .non
  | some p => .int p
structure Rl where
  pre : List Nat
  longest : Int
  number : Int
  tag : Int
  deed : Deed
  prefer : Option Int
  add : Int
  take : Int
  ahead : Int
def Rl.d (r : Rl) : D := .tup [.str r.pre, .int r.longest, .int r.number, .int r.tag, r.deed.d, optD r.prefer, .int r.add, .int r.take, .int r.ahead]
structure Rt.Ok (t : Rt) : Prop where
  pre : PfxOk t.pre
  path : t.path.length ≤ 12
  tags : TagsOk t.tags
structure Rl.Ok (r : Rl) : Prop where
  pre : PfxOk r.pre
  add : 0 ≤ r.add
def PRoute (f : Den) : Prop := ∀ (m : Int) (P : List (List Nat)) (a : Int) (S : List Int) (h : AH), P ≠ [] → (∀ p ∈ P, PfxOk p) → S ≠ [] → ∃ t : Rt, t.Ok ∧ f [.int m, .lst (P.map .str), .int a, .lst (S.map .int)] h = .ok t.d h
def PRule (f : Den) : Prop := ∀ (m : Int) (P : List (List Nat)) (S : List Int) (h : AH), P ≠ [] → (∀ p ∈ P, PfxOk p) → S ≠ [] → ∃ t : Rl, t.Ok ∧ f [.int m, .lst (P.map .str), .lst (S.map .int)] h = .ok t.d h

theorem nrfs_ints (l : List Int) : nrfs (l.map .int) = true := by
  induction l with
  | nil => rfl
  | cons a l ih => simp [nrfs, nrf, ih]
theorem nrf_rt (t : Rt) : nrf t.d = true := by simp [Rt.d, nrf, nrfs, nrfs_ints]

theorem set_last (h : AH) (a b : O) : (h ++ [a]).set h.length b = h ++ [b] := by simp
theorem path_loop {G : List Den} (m : Int) (Pd Fd : D) (S : List Int) (hS : S ≠ []) (h : AH) (x6 : Option D) : ∀ (ds : List Nat) (path : List Int) (x5 : Option D), (∀ k ∈ ds, k < 1000) → path.length + ds.length ≤ 1000 → ∃ (path' : List Int) (x5' : Option D), path'.length = path.length + ds.length ∧
    forL (fun d ρ h => match setT (.nm 5) d ρ with | some ρ' => exSs G [PSt.ex (PX.app (PX.var 4) (PX.idx (PX.var 3) (PX.bin (Operator.Mod) (PX.bin (Operator.FloorDiv) (PX.var 0) (PX.bin (Operator.Add) (PX.con (D.int 64)) (PX.bin (Operator.Mult) (PX.con (D.int 13)) (PX.var 5)))) (PX.blt (Bl.len) [PX.var 3]))))] ρ' h | none => .bad)
      (ds.map fun i : Nat => D.int (i : Int)) [some (.int m), some Pd, some Fd, some (.lst (S.map .int)), some (.ref h.length), x5, x6] (h ++ [O.lst (path.map .int)]) = .nx [some (.int m), some Pd, some Fd, some (.lst (S.map .int)), some (.ref h.length), x5', x6] (h ++ [O.lst (path'.map .int)]) := by
  intro ds
  induction ds with
  | nil => intro path x5 _ _; exact ⟨path, x5, rfl, rfl⟩
  | cons k ds ih =>
    intro path x5 hk hl
    have hk0 := hk k List.mem_cons_self
    have hx := ep_idxM (G := G) (ρ := [some (.int m), some Pd, some Fd, some (.lst (S.map .int)), some (.ref h.length), some (.int (k : Int)), x6]) (h := h ++ [O.lst (path.map .int)]) (j := 3) (xs := S.map .int) (PD := fun d => ∃ i : Int, d = .int i)
      (a := PX.bin (Operator.FloorDiv) (PX.var 0) (PX.bin (Operator.Add) (PX.con (D.int 64)) (PX.bin (Operator.Mult) (PX.con (D.int 13)) (PX.var 5)))) (by simp) (by simpa using hS) (ints_sub S)
      (ei_fdiv (P := fun _ => True) (Q := fun x => x = 64 + 13 * (k : Int)) (ei_var (i := m) (by simp) trivial) (ei_add (P := fun x => x = 64) (Q := fun x => x = 13 * (k : Int)) (ei_con rfl) (ei_mul (P := fun x => x = 13) (Q := fun x => x = (k : Int)) (ei_con rfl) (ei_var (by simp) rfl) (fun x y e1 e2 => by subst e1; exact mulOk_l (by decide)) fun x y e1 e2 => by rw [e1, e2]) fun x y e1 e2 => by rw [e1, e2]) (fun y e => by subst e; exact ⟨by omega, by omega⟩) fun _ _ _ _ => trivial)
    obtain ⟨d, ⟨i, rfl⟩, ex⟩ := hx
    obtain ⟨p', x5', hp, e⟩ := ih (path ++ [i]) (some (.int (k : Int))) (fun j hj => hk j (List.mem_cons_of_mem _ hj)) (by simp at hl ⊢; omega)
    refine ⟨p', x5', by simp at hp ⊢; omega, ?_⟩
    rw [← e, List.map_cons, forL]
    have turn : (match setT (.nm 5) (D.int (k : Int)) [some (.int m), some Pd, some Fd, some (.lst (S.map .int)), some (.ref h.length), x5, x6] with | some ρ' => exSs G [PSt.ex (PX.app (PX.var 4) (PX.idx (PX.var 3) (PX.bin (Operator.Mod) (PX.bin (Operator.FloorDiv) (PX.var 0) (PX.bin (Operator.Add) (PX.con (D.int 64)) (PX.bin (Operator.Mult) (PX.con (D.int 13)) (PX.var 5)))) (PX.blt (Bl.len) [PX.var 3]))))] ρ' (h ++ [O.lst (path.map .int)]) | none => .bad)
        = .nx [some (.int m), some Pd, some Fd, some (.lst (S.map .int)), some (.ref h.length), some (.int (k : Int)), x6] (h ++ [O.lst ((path ++ [i]).map .int)]) := by
      show exSs G _ [some (.int m), some Pd, some Fd, some (.lst (S.map .int)), some (.ref h.length), some (.int (k : Int)), x6] _ = _
      have ea : ev G (PX.app (PX.var 4) (PX.idx (PX.var 3) (PX.bin (Operator.Mod) (PX.bin (Operator.FloorDiv) (PX.var 0) (PX.bin (Operator.Add) (PX.con (D.int 64)) (PX.bin (Operator.Mult) (PX.con (D.int 13)) (PX.var 5)))) (PX.blt (Bl.len) [PX.var 3])))) [some (.int m), some Pd, some Fd, some (.lst (S.map .int)), some (.ref h.length), some (.int (k : Int)), x6] (h ++ [O.lst (path.map .int)]) = some (.non, h ++ [O.lst ((path ++ [i]).map .int)]) := by
        rw [ev, ev_var]
        simp only [getV_succ, getV_zero, Option.bind_some]
        have hg : (h ++ [O.lst (path.map .int)])[h.length]? = some (.lst (path.map .int)) := by simp
        simp only [hg, ex, Option.bind_some]
        rw [if_pos (by simp [SZ] at hl ⊢; omega), set_last]
        simp
      rw [exSs, exS, ea]
      simp [exSs]
    rw [turn]

theorem route_ok {G : List Den} {f : Den} (hG : G[9]? = some f) (hf : PTags f) : PRoute (cutDen (runF G 4 7 p_route)) := by
  intro m P a S h hP pP hS
  suffices H : ∃ path : List Int, Rets (fun d => ∃ t : Rt, d = t.d ∧ t.Ok) (h ++ [O.lst (path.map .int)]) (exSs G p_route (startE 7 [.int m, .lst (P.map .str), .int a, .lst (S.map .int)]) h) by
    obtain ⟨path, d, ⟨t, rfl, ok⟩, e⟩ := H
    exact ⟨t, ok, run_rtN rfl e (nrf_rt t) (by simp)⟩
  have hn : EvI G (PX.idx (PX.lst [PX.bin (Operator.Mod) (PX.var 0) (PX.con (D.int 3)), PX.bin (Operator.Mod) (PX.var 0) (PX.con (D.int 5)), PX.con (D.int 11)]) (PX.bin (Operator.Mod) (PX.bin (Operator.FloorDiv) (PX.var 0) (PX.con (D.int 16))) (PX.con (D.int 3))))
      [some (.int m), some (.lst (P.map .str)), some (.int a), some (.lst (S.map .int)), some (.ref h.length), none, none] (h ++ [O.lst [.int a]]) fun i => 0 ≤ i ∧ i ≤ 11 := by
    have := ep_idxA (G := G) (ρ := [some (.int m), some (.lst (P.map .str)), some (.int a), some (.lst (S.map .int)), some (.ref h.length), none, none]) (h := h ++ [O.lst [.int a]]) (PD := fun d => ∃ i : Int, d = .int i ∧ 0 ≤ i ∧ i ≤ 11) (n := 3)
      (a := PX.bin (Operator.FloorDiv) (PX.var 0) (PX.con (D.int 16)))
      (ea_cons (EvI.p (P := fun i => 0 ≤ i ∧ i ≤ 11) (ei_modC (n := 3) (P := fun _ => True) (ei_var (j := 0) (i := m) (by simp) trivial) fun x _ => by omega) fun i p => ⟨i, rfl, p⟩) (ea_cons (EvI.p (P := fun i => 0 ≤ i ∧ i ≤ 11) (ei_modC (n := 5) (P := fun _ => True) (ei_var (j := 0) (i := m) (by simp) trivial) fun x _ => by omega) fun i p => ⟨i, rfl, p⟩) (ea_cons (ep_con (d := .int 11) ⟨_, rfl, by decide, by decide⟩) ea_nil)))
      (ei_fdivC (P := fun _ => True) (ei_var (i := m) (by simp) trivial) fun _ _ => trivial)
    obtain ⟨d, ⟨i, rfl, p⟩, e⟩ := this
    exact ⟨i, p, e⟩
  obtain ⟨n, ⟨n0, n11⟩, en⟩ := hn
  obtain ⟨path, x5, hl, el⟩ := path_loop (G := G) m (.lst (P.map .str)) (.int a) S hS h none (List.range n.toNat) [a] none (by intro k hk; have := List.mem_range.mp hk; omega) (by simp; omega)
  refine ⟨path, ?_⟩
  unfold p_route
  refine st_nx (Post := Rets _ _) (ρ' := [some (.int m), some (.lst (P.map .str)), some (.int a), some (.lst (S.map .int)), some (.ref h.length), none, none]) (h' := h ++ [O.lst [.int a]]) ?_ ?_
  · simp [exS, ev, evs, startE, setT, SZ]
  refine st_nx (Post := Rets _ _) (ρ' := [some (.int m), some (.lst (P.map .str)), some (.int a), some (.lst (S.map .int)), some (.ref h.length), x5, none]) (h' := h ++ [O.lst (path.map .int)]) ?_ ?_
  · rw [exS, evI, en]
    have hr : rngD (.int n) = some ((List.range n.toNat).map fun i => D.int (i : Nat)) := if_pos ⟨by omega, by omega⟩
    simp only [Option.bind_some, hr]
    exact el
  have lp : path.length ≤ 12 := by simp at hl; omega
  refine st_asg (Post := Rets _ _) (P := fun d => ∃ i : Int, d = .int i) (ep_idxA (ea_cons (ep_con ⟨_, rfl⟩) (ea_cons (EvI.p (P := fun _ => True) (ei_modC (P := fun _ => True) (ei_fdivC (P := fun _ => True) (ei_var (i := m) (by simp) trivial) fun _ _ => trivial) fun _ _ => trivial) fun i _ => ⟨i, rfl⟩) (ea_cons (ep_con ⟨_, rfl⟩) ea_nil))) (ei_fdivC (P := fun _ => True) (ei_var (i := m) (by simp) trivial) fun _ _ => trivial)) ?_
  rintro _ ⟨w, rfl⟩
  refine st_retP (P := fun d => ∃ t : Rt, d = t.d ∧ t.Ok) (ep_tup (PL := fun ds => ∃ (p : List Nat) (tg : List Int), ds = [.str p, .tup (path.map .int), .int w, .tup (tg.map .int)] ∧ PfxOk p ∧ TagsOk tg) (el_cons (P1 := fun d => ∃ p, d = .str p ∧ PfxOk p) (P2 := fun ds => ∃ (tg : List Int), ds = [.tup (path.map .int), .int w, .tup (tg.map .int)] ∧ TagsOk tg) ?_
    (el_cons (P1 := fun d => d = .tup (path.map .int)) (P2 := fun ds => ∃ (tg : List Int), ds = [.int w, .tup (tg.map .int)] ∧ TagsOk tg) ?_
      (el_two (P1 := fun d => d = .int w) (P2 := fun d => ∃ tg : List Int, d = .tup (tg.map .int) ∧ TagsOk tg) (ep_var (by simp) rfl) ?_ fun d d2 e ⟨tg, e2, p⟩ => ⟨tg, by rw [e, e2], p⟩) fun d ds e ⟨tg, e2, p⟩ => ⟨tg, by rw [e, e2], p⟩) fun d ds ⟨p, e, pp⟩ ⟨tg, e2, pt⟩ => ⟨p, tg, by rw [e, e2], pp, pt⟩) fun ds ⟨p, tg, e, pp, pt⟩ => ⟨by rw [e]; simp [SZ], ⟨p, path, w, tg⟩, by rw [e]; rfl, ⟨pp, lp, pt⟩⟩) fun d p => p
  · refine ep_idxM (xs := P.map .str) (by simp) (by simpa using hP) (fun x hx => ?_) (ei_fdivC (P := fun _ => True) (ei_var (i := m) (by simp) trivial) fun _ _ => trivial)
    obtain ⟨p, hp, rfl⟩ := List.mem_map.mp hx
    exact ⟨p, rfl, pP p hp⟩
  · refine ep_blt (PL := fun ds => ds = [.ref h.length]) (el_one (P1 := fun d => d = .ref h.length) (ep_var (by simp) rfl) fun d e => by rw [e]) ?_
    rintro _ rfl
    refine ⟨_, rfl, ?_⟩
    simp [vw, bltD]
  · refine ep_call (PL := fun ds => ∃ a : Int, ds = [.int a]) hG (el_one (P1 := fun d => ∃ i : Int, d = .int i) (EvI.p (P := fun _ => True) (ei_fdivP (P := fun _ => True) (ei_var (i := m) (by simp) trivial) fun _ _ => trivial) fun i _ => ⟨i, rfl⟩) fun d ⟨i, e⟩ => ⟨i, by rw [e]⟩) ?_
    rintro _ ⟨i, rfl⟩
    obtain ⟨l, ok, e⟩ := hf i (h ++ [O.lst (path.map .int)])
    exact ⟨_, ⟨l, rfl, ok⟩, e⟩

theorem optI {d : D} (h : d = .non ∨ ∃ i : Int, d = .int i) : ∃ o, d = optD o := by
  rcases h with rfl | ⟨i, rfl⟩
  · exact ⟨none, rfl⟩
  · exact ⟨some i, rfl⟩
theorem rule_ok {G : List Den} : PRule (cutDen (runF G 3 9 p_rule)) := by
  intro m P S h hP pP hS
  suffices H : Rets (fun d => ∃ t : Rl, d = t.d ∧ t.Ok) h (exSs G p_rule (startE 9 [.int m, .lst (P.map .str), .lst (S.map .int)]) h) by
    obtain ⟨d, ⟨t, rfl, ok⟩, e⟩ := run_rets H rfl
    exact ⟨t, ok, e⟩
  unfold p_rule
  have e0 : startE 9 [.int m, .lst (P.map .str), .lst (S.map .int)] = [some (.int m), some (.lst (P.map .str)), some (.lst (S.map .int)), none, none, none, none, none, none] := rfl
  rw [e0]
  have em : ∀ {a b c e f g : Option D} {n : Int}, 0 < n ∧ n < 2 ^ 100 → EvI G (PX.bin (Operator.FloorDiv) (PX.var 0) (PX.con (D.int n))) [some (.int m), some (.lst (P.map .str)), some (.lst (S.map .int)), a, b, c, e, f, g] h fun _ => True := fun hn => ei_fdivC (P := fun _ => True) (ei_var (i := m) (by simp) trivial) (fun _ _ => trivial) hn
  have emP : ∀ {a b c e f g : Option D} {n : Int}, 0 ≤ n ∧ n ≤ 90 → EvI G (PX.bin (Operator.FloorDiv) (PX.var 0) (PX.bin .Pow (.con (.int 2)) (PX.con (D.int n)))) [some (.int m), some (.lst (P.map .str)), some (.lst (S.map .int)), a, b, c, e, f, g] h fun _ => True := fun hn => ei_fdivP (P := fun _ => True) (ei_var (i := m) (by simp) trivial) (fun _ _ => trivial) hn
  refine st_asg (Post := Rets _ h) (P := fun d => ∃ p, d = .str p ∧ PfxOk p) (ep_idxM (xs := P.map .str) (by simp) (by simpa using hP) (fun x hx => ?_) (ei_var (i := m) (by simp) trivial)) ?_
  · obtain ⟨p, hp, rfl⟩ := List.mem_map.mp hx
    exact ⟨p, rfl, pP p hp⟩
  rintro _ ⟨p0, rfl, hp0⟩
  simp only [List.set_cons_succ, List.set_cons_zero]
  have rest : ∀ p, PfxOk p → Rets (fun d => ∃ t : Rl, d = t.d ∧ t.Ok) h (exSs G (p_rule.drop 2) [some (.int m), some (.lst (P.map .str)), some (.lst (S.map .int)), some (.str p), none, none, none, none, none] h) := by
    intro p hp
    unfold p_rule
    simp only [List.drop_succ_cons, List.drop_zero]
    have hz : p.length ≤ SZ := by have := hp.2; show _ ≤ 16777216; omega
    refine st_asg (Post := Rets _ h) (P := fun d => ∃ i : Int, d = .int i) (ep_idxA (ea_cons (ep_con ⟨_, rfl⟩) (ea_cons (EvI.p (P := fun _ => True) (ei_add (P := fun _ => True) (Q := fun _ => True) (ei_lenS (PL := fun s => s = p) (ep_var (by simp) ⟨_, rfl, rfl⟩) fun s e => ⟨by rw [e]; exact hz, trivial⟩) (ei_modC (P := fun _ => True) (em (by decide)) fun _ _ => trivial) fun _ _ _ _ => trivial) fun i _ => ⟨i, rfl⟩) (ea_cons (ep_con ⟨_, rfl⟩) ea_nil))) (em (by decide))) ?_
    rintro _ ⟨lo, rfl⟩
    simp only [List.set_cons_succ, List.set_cons_zero]
    refine st_asg (Post := Rets _ h) (P := fun d => ∃ i : Int, d = .int i) (ep_idxA (ea_cons (ep_con ⟨_, rfl⟩) (ea_cons (ep_con ⟨_, rfl⟩) (ea_cons (ep_idxM (xs := S.map .int) (by simp) (by simpa using hS) (ints_sub S) (em (by decide))) ea_nil))) (em (by decide))) ?_
    rintro _ ⟨nu, rfl⟩
    simp only [List.set_cons_succ, List.set_cons_zero]
    refine st_asg (Post := Rets _ h) (P := fun d => ∃ i : Int, d = .int i) (ep_idxA (ea_cons (ep_con ⟨_, rfl⟩) (ea_cons (ep_con ⟨_, rfl⟩) (ea_cons (EvI.p (P := fun _ => True) (ei_add (P := fun _ => True) (Q := fun _ => True) (ei_con trivial) (ei_modC (P := fun _ => True) (em (by decide)) fun _ _ => trivial) fun _ _ _ _ => trivial) fun i _ => ⟨i, rfl⟩) ea_nil))) (em (by decide))) ?_
    rintro _ ⟨tg, rfl⟩
    simp only [List.set_cons_succ, List.set_cons_zero]
    refine st_asg (Post := Rets _ h) (P := fun d => ∃ i : Deed, d = i.d) (ep_idxA (ea_cons (ep_con ⟨.no, rfl⟩) (ea_cons (ep_con ⟨.yes, rfl⟩) (ea_cons (ep_con ⟨.on, rfl⟩) (ea_cons (ep_con ⟨.on, rfl⟩) ea_nil)))) (emP (by decide))) ?_
    rintro _ ⟨dd, rfl⟩
    simp only [List.set_cons_succ, List.set_cons_zero]
    refine st_asg (Post := Rets _ h) (P := fun d => ∃ o, d = optD o) (ep_idxA (ea_cons (ep_con ⟨none, rfl⟩) (ea_cons (ep_con ⟨some 100, rfl⟩) (ea_cons (EvI.p (P := fun _ => True) (ei_modC (P := fun _ => True) (emP (by decide)) fun _ _ => trivial) fun i _ => ⟨some i, rfl⟩) (ea_cons (ep_con ⟨some 200, rfl⟩) ea_nil)))) (emP (by decide))) ?_
    rintro _ ⟨pf, rfl⟩
    simp only [List.set_cons_succ, List.set_cons_zero]
    refine st_asg (Post := Rets _ h) (P := fun d => ∃ i : Int, d = .int i) (EvI.p (emP (by decide)) fun i _ => ⟨i, rfl⟩) ?_
    rintro _ ⟨m2, rfl⟩
    simp only [List.set_cons_succ, List.set_cons_zero]
    refine st_retP (P := fun d => ∃ t : Rl, d = t.d ∧ t.Ok) (ep_tup (PL := fun ds => ∃ (l2 ad tk ah : Int), ds = [.str p, .int l2, .int nu, .int tg, dd.d, optD pf, .int ad, .int tk, .int ah] ∧ 0 ≤ ad)
      (el_cons (P2 := fun ds => ∃ (l2 ad tk ah : Int), ds = [.int l2, .int nu, .int tg, dd.d, optD pf, .int ad, .int tk, .int ah] ∧ 0 ≤ ad) (ep_var (PD := fun d => d = .str p) (by simp) rfl)
      (el_cons (P1 := fun d => ∃ i : Int, d = .int i) (P2 := fun ds => ∃ (ad tk ah : Int), ds = [.int nu, .int tg, dd.d, optD pf, .int ad, .int tk, .int ah] ∧ 0 ≤ ad) (EvI.p (P := fun _ => True) (ei_min2 (P := fun _ => True) (Q := fun _ => True) (ei_var (i := lo) (by simp) trivial) (ei_con trivial) fun _ _ _ _ => trivial) fun i _ => ⟨i, rfl⟩)
      (el_cons (P2 := fun ds => ∃ (ad tk ah : Int), ds = [.int tg, dd.d, optD pf, .int ad, .int tk, .int ah] ∧ 0 ≤ ad) (ep_var (PD := fun d => d = .int nu) (by simp) rfl)
      (el_cons (P2 := fun ds => ∃ (ad tk ah : Int), ds = [dd.d, optD pf, .int ad, .int tk, .int ah] ∧ 0 ≤ ad) (ep_var (PD := fun d => d = .int tg) (by simp) rfl)
      (el_cons (P2 := fun ds => ∃ (ad tk ah : Int), ds = [optD pf, .int ad, .int tk, .int ah] ∧ 0 ≤ ad) (ep_var (PD := fun d => d = dd.d) (by simp) rfl)
      (el_cons (P2 := fun ds => ∃ (ad tk ah : Int), ds = [.int ad, .int tk, .int ah] ∧ 0 ≤ ad) (ep_var (PD := fun d => d = optD pf) (by simp) rfl)
      (el_cons (P1 := fun d => ∃ i : Int, d = .int i ∧ 0 ≤ i) (P2 := fun ds => ∃ (tk ah : Int), ds = [.int tk, .int ah])
        (ep_idxA (ea_cons (ep_con ⟨_, rfl, by decide⟩) (ea_cons (ep_con ⟨_, rfl, by decide⟩) (ea_cons (ep_con ⟨_, rfl, by decide⟩) (ea_cons (ep_con ⟨_, rfl, by decide⟩) ea_nil)))) (ei_var (i := m2) (by simp) trivial))
        (el_two (P1 := fun d => ∃ i : Int, d = .int i) (P2 := fun d => ∃ i : Int, d = .int i)
          (ep_idxA (ea_cons (ep_con ⟨_, rfl⟩) (ea_cons (ep_con ⟨_, rfl⟩) (ea_cons (ep_con ⟨_, rfl⟩) ea_nil))) (ei_fdivC (P := fun _ => True) (ei_var (i := m2) (by simp) trivial) fun _ _ => trivial))
          (EvI.p (P := fun _ => True) (ei_modC (P := fun _ => True) (ei_fdivC (P := fun _ => True) (ei_var (i := m2) (by simp) trivial) fun _ _ => trivial) fun _ _ => trivial) fun i _ => ⟨i, rfl⟩)
          fun d d2 ⟨i, e⟩ ⟨j, e2⟩ => ⟨i, j, by rw [e, e2]⟩)
        fun d ds ⟨i, e, q⟩ ⟨j, k, e2⟩ => ⟨i, j, k, by rw [e, e2], q⟩)
        fun d ds e ⟨i, j, k, e2, q⟩ => ⟨i, j, k, by rw [e, e2], q⟩)
        fun d ds e ⟨i, j, k, e2, q⟩ => ⟨i, j, k, by rw [e, e2], q⟩)
        fun d ds e ⟨i, j, k, e2, q⟩ => ⟨i, j, k, by rw [e, e2], q⟩)
        fun d ds e ⟨i, j, k, e2, q⟩ => ⟨i, j, k, by rw [e, e2], q⟩)
        fun d ds ⟨l, e⟩ ⟨i, j, k, e2, q⟩ => ⟨l, i, j, k, by rw [e, e2], q⟩)
        fun d ds e ⟨l, i, j, k, e2, q⟩ => ⟨l, i, j, k, by rw [e, e2], q⟩)
      fun ds ⟨l, i, j, k, e, q⟩ => ⟨by rw [e]; simp [SZ], ⟨p, l, nu, tg, dd, pf, i, j, k⟩, by rw [e]; rfl, ⟨hp, q⟩⟩) fun d p => p
  refine st_if (Post := Rets _ h) (P := fun _ => True) (et_cmpI (P := fun _ => True) (Q := fun _ => True) (ei_modC (P := fun _ => True) (em (by decide)) fun _ _ => trivial) (ei_con trivial) fun x y _ _ => ⟨_, trivial, rfl⟩) (fun _ => ?_) fun _ => rest p0 hp0
  refine st_asg (Post := Rets _ h) (P := fun d => ∃ p, d = .str p ∧ PfxOk p) (ep_slHi (P1 := fun d => d = .str p0) (P := fun _ => True) (ep_var (by simp) rfl) (ei_modC (P := fun _ => True) (em (by decide)) fun _ _ => trivial) ?_) ?_
  · rintro _ i rfl _
    refine ⟨_, ⟨cut p0 none (some i), rfl, ?_, ?_⟩, if_pos (by have := hp0.2; show _ ≤ 16777216; omega)⟩
    · exact (show BitStr (p0.drop _) from fun c hc => hp0.1 c (List.mem_of_mem_drop hc)).take _
    · have := hp0.2
      unfold cut
      simp
      omega
  rintro _ ⟨p, rfl, hp⟩
  exact rest p hp
end K11
set_option linter.all false
set_option maxRecDepth 100000
set_option maxHeartbeats 4000000
namespace K11
open MP PySem

def PHolds (f : Den) : Prop := ∀ (p t : List Nat) (h : AH), f [.str p, .str t] h = .ok (.bl (p.isPrefixOf t)) h
theorem holds_ok {G : List Den} : PHolds (cutDen (runF G 2 2 p_holds)) := by
  intro p t h
  refine run_rt rfl ?_
  simp [p_holds, exSs, exS, ev, evs, startE, getV, vw, mtD]

def fitsB (r : Rl) (t : Rt) : Bool := (r.pre.isPrefixOf t.pre && !decide (r.longest < (t.pre.length : Int))) && (r.number == 0 || t.path.contains r.number) && (r.tag == 0 || t.tags.contains r.tag)
def PFits (f : Den) : Prop := ∀ (r : Rl) (t : Rt) (h : AH), t.Ok → r.Ok → f [r.d, t.d] h = .ok (.bl (fitsB r t)) h
theorem small {s : List Nat} (h : PfxOk s) : s.length ≤ SZ := by have := h.2; show _ ≤ 16777216; omega

theorem rl0 (r : Rl) : idxD r.d (.int 0) = some (.str r.pre) := rfl
theorem rl1 (r : Rl) : idxD r.d (.int 1) = some (.int r.longest) := rfl
theorem rl2 (r : Rl) : idxD r.d (.int 2) = some (.int r.number) := rfl
theorem rl3 (r : Rl) : idxD r.d (.int 3) = some (.int r.tag) := rfl
theorem rl4 (r : Rl) : idxD r.d (.int 4) = some r.deed.d := rfl
theorem rl5 (r : Rl) : idxD r.d (.int 5) = some (optD r.prefer) := rfl
theorem rl6 (r : Rl) : idxD r.d (.int 6) = some (.int r.add) := rfl
theorem rl7 (r : Rl) : idxD r.d (.int 7) = some (.int r.take) := rfl
theorem rl8 (r : Rl) : idxD r.d (.int 8) = some (.int r.ahead) := rfl
theorem rt0 (t : Rt) : idxD t.d (.int 0) = some (.str t.pre) := rfl
theorem rt1 (t : Rt) : idxD t.d (.int 1) = some (.tup (t.path.map .int)) := rfl
theorem rt2 (t : Rt) : idxD t.d (.int 2) = some (.int t.w) := rfl
theorem rt3 (t : Rt) : idxD t.d (.int 3) = some (.tup (t.tags.map .int)) := rfl
theorem vw_rl (r : Rl) (h : AH) : vw h r.d = r.d := rfl
theorem vw_rt (t : Rt) (h : AH) : vw h t.d = t.d := rfl
theorem len_str {s : List Nat} (h : s.length ≤ SZ) : bltD .len [.str s] = some (.int s.length) := if_pos h
theorem tuple_lst (s : List D) : bltD .tuple [.lst s] = some (.tup s) := rfl
theorem len_lst (s : List D) : bltD .len [.lst s] = some (.int s.length) := rfl

theorem fits_ok {G : List Den} {f : Den} (hG : G[0]? = some f) (hf : PHolds f) : PFits (cutDen (runF G 2 5 p_fits)) := by
  intro r t h ht hr
  refine run_rt rfl ?_
  have hl := small ht.pre
  have e0 : startE 5 [r.d, t.d] = [some r.d, some t.d, none, none, none] := rfl
  rw [e0]
  by_cases h1 : r.pre.isPrefixOf t.pre = true <;> by_cases h2 : r.longest < (t.pre.length : Int) <;> by_cases h3 : r.number = 0 <;> by_cases h4 : r.tag = 0 <;> by_cases h5 : r.number ∈ t.path <;>
  simp [p_fits, exSs, exS, ev, evs, evB, rl0, rl1, rl2, rl3, rt0, rt1, rt3, vw_rl, vw_rt, setT, hG, hf r.pre t.pre h, len_str hl, fitsB, h1, h2, h3, h4, h5]

def kept (tags : List Int) (take : Int) : List Int := tags.filter fun x => x != take
def chTags (tags : List Int) (add take : Int) : List Int := if (add != 0 && !(kept tags take).contains add && decide ((kept tags take).length < 4)) = true then (kept tags take ++ [add]).mergeSort fun a b => decide (a ≤ b) else kept tags take
theorem kept_len (tags : List Int) (take : Int) : (kept tags take).length ≤ tags.length := List.length_filter_le _ _
theorem filterMap_ints (tags : List Int) (p : Int → Bool) : (tags.map D.int).filterMap (fun d => match d with | .int i => if p i then some (D.int i) else none | _ => none) = (tags.filter p).map .int := by
  induction tags with
  | nil => rfl
  | cons a l ih =>
    simp only [List.map_cons, List.filterMap_cons, List.filter_cons, ih]
    cases p a <;> simp
/-- the tags without one -/
theorem ev_kept {G : List Den} {ρ : Ev} {h : AH} {src tk : PX} {keep : List Nat} {tags : List Int} {take : Int} (hs : ∃ d, ev G src ρ h = some (d, h) ∧ (d = .tup (tags.map .int) ∨ d = .lst (tags.map .int))) (ht : ∀ i : Int, ev G tk (some (.int i) :: keep.map (getV ρ)) h = some (.int take, h)) (hl : tags.length ≤ SZ) :
    ev G (PX.comp (PX.var 0) (some (PB.val (PX.cmp (CmpOp.NotEq) (PX.var 0) tk))) (PI.seq src) keep) ρ h = some (.lst ((kept tags take).map .int), h) := by
  obtain ⟨d, e, hd⟩ := hs
  unfold ev evI
  have hi : itD h d = some (tags.map .int) := by rcases hd with rfl | rfl <;> rfl
  simp only [e, Option.bind_some, hi]
  rw [compL_pure (g := fun d => match d with | .int i => if i != take then some (D.int i) else none | _ => none)]
  · rw [filterMap_ints tags fun i => i != take]
    have : ((tags.filter fun i => i != take).map D.int).length ≤ SZ := by rw [List.length_map]; exact Nat.le_trans (List.length_filter_le _ _) hl
    simp only [Option.bind_some]
    rw [if_pos this]
    rfl
  · intro x hx
    obtain ⟨i, _, rfl⟩ := List.mem_map.mp hx
    simp only [evB, ev, getV_zero, Option.bind_some, ht, vw_int, cmp_ne]
    by_cases q : i = take <;> simp [q]
def PChanged (f : Den) : Prop := ∀ (tags : List Int) (a k : Int) (h : AH), tags.length ≤ 4 → f [.tup (tags.map .int), .int a, .int k] h = .ok (.tup ((chTags tags a k).map .int)) h
theorem changed_ok {G : List Den} : PChanged (cutDen (runF G 3 4 p_changed_tags)) := by
  intro tags a k h hl
  refine run_rt rfl ?_
  unfold p_changed_tags
  have hz : tags.length ≤ SZ := by show _ ≤ 16777216; omega
  have e0 : startE 4 [.tup (tags.map .int), .int a, .int k] = [some (.tup (tags.map .int)), some (.int a), some (.int k), none] := rfl
  rw [e0]
  have ek := ev_kept (G := G) (ρ := [some (.tup (tags.map .int)), some (.int a), some (.int k), none]) (h := h) (src := .var 0) (tk := .var 1) (keep := [2]) (tags := tags) (take := k) ⟨_, by simp, .inl rfl⟩ (by intro i; simp) hz
  have kl := kept_len tags k
  rw [exSs, exS, ek]
  simp only [setT, List.set_cons_succ, List.set_cons_zero]
  generalize hK : kept tags k = K at kl
  have hb : binD .Add (.lst (K.map .int)) (.lst [.int a]) = some (.lst (K.map .int ++ [.int a])) := by
    have : (K.map D.int).length + [D.int a].length ≤ SZ := by simp [SZ]; omega
    show (if _ then _ else _) = _
    rw [if_pos this]
  have hs : K.length < 4 → bltD .sorted [.lst (K.map .int ++ [.int a])] = some (.lst (((K ++ [a]).mergeSort fun a b => decide (a ≤ b)).map .int)) := by
    intro h4
    show ((ints? (K.map .int ++ [.int a])).bind _) = _
    rw [show K.map D.int ++ [D.int a] = (K ++ [a]).map .int by simp, ints_map]
    show (if (K ++ [a]).length < 64 then _ else _) = _
    rw [if_pos (by simp; omega)]
  unfold chTags
  rw [hK]
  by_cases h1 : a = 0
  · simp [exSs, exS, evB, ev, evs, h1, bltD]
  · by_cases h2 : a ∈ K
    · simp [exSs, exS, evB, ev, evs, h1, h2, bltD]
    · by_cases h3 : K.length < 4
      · have h3' : (K.length : Int) < 4 := by omega
        simp [exSs, exS, evB, ev, evs, h1, h2, h3, h3', hs h3, hb, len_lst, tuple_lst, setT, SZ]
      · have h3' : ¬ (K.length : Int) < 4 := by omega
        simp [exSs, exS, evB, ev, evs, h1, h2, h3, h3', bltD]

def chg (r : Rl) (t : Rt) : Rt := { t with tags := chTags t.tags r.add r.take }
def judgedB : List Rl → Rt → Int → Int → Option (Rt × Int × Int)
  | [], t, p, a => some (t, p, a)
  | r :: rs, t, p, a => if fitsB r t = true then (match r.deed with
      | .no => none
      | .yes => some (chg r t, r.prefer.getD p, a + r.ahead)
      | .on => judgedB rs (chg r t) (r.prefer.getD p) (a + r.ahead)) else judgedB rs t p a
def resD : Option (Rt × Int × Int) → D
  | none => .non
  | some (t, p, a) => .tup [t.d, .int p, .int a]

theorem kept_sorted {tags : List Int} {k : Int} (h : tags.Pairwise (· < ·)) : (kept tags k).Pairwise (· < ·) := h.filter _
theorem sort_sorted {l : List Int} (h : l.Pairwise (· ≤ ·)) : (l.mergeSort fun a b => decide (a ≤ b)) = l := List.mergeSort_of_pairwise (h.imp fun q => by simpa using q)
theorem sorted_lt {l : List Int} (nd : l.Nodup) : (l.mergeSort fun a b => decide (a ≤ b)).Pairwise (· < ·) := by
  have s := List.pairwise_mergeSort (le := fun (x y : Int) => decide (x ≤ y)) (by intro a b c; simp; omega) (by intro a b; simp; omega) l
  have n : (l.mergeSort fun a b => decide (a ≤ b)).Nodup := (List.mergeSort_perm l _).nodup_iff.mpr nd
  exact (s.and n).imp fun ⟨h1, h2⟩ => by
    exact Int.lt_iff_le_and_ne.mpr ⟨by simpa using h1, h2⟩
theorem chTags_ok {tags : List Int} (h : TagsOk tags) (a k : Int) : TagsOk (chTags tags a k) := by
  have ks := kept_sorted (k := k) h.2
  have kl := Nat.le_trans (kept_len tags k) h.1
  unfold chTags
  split
  · rename_i q
    simp only [Bool.and_eq_true, Bool.not_eq_true', decide_eq_true_eq] at q
    refine ⟨by rw [List.length_mergeSort]; simp; omega, sorted_lt ?_⟩
    rw [List.nodup_append]
    refine ⟨ks.imp fun q => Int.ne_of_lt q, by simp, ?_⟩
    intro x hx y hy e
    have : y = a := by simpa using hy
    subst this
    subst e
    have := q.1.2
    simp at this
    exact this hx
  · exact ⟨kl, ks⟩
theorem chg_ok {r : Rl} {t : Rt} (h : t.Ok) : (chg r t).Ok := ⟨h.pre, h.path, chTags_ok h.tags _ _⟩

theorem eq_on {dd : Deed} : eqD dd.d (.str [110, 111]) = decide (dd = .no) := by cases dd <;> simp [Deed.d]
theorem eq_yes {dd : Deed} : eqD dd.d (.str [121, 101, 115]) = decide (dd = .yes) := by cases dd <;> simp [Deed.d]
theorem eq_onn {dd : Deed} : eqD dd.d (.str [111, 110]) = decide (dd = .on) := by cases dd <;> simp [Deed.d]
theorem pure_deed {dd : Deed} {n : Nat} : pureN n dd.d = true := by cases dd <;> simp [Deed.d]
theorem vw_deed {dd : Deed} {h : AH} : vw h dd.d = dd.d := by cases dd <;> rfl
theorem vw_opt {o : Option Int} {h : AH} : vw h (optD o) = optD o := by cases o <;> rfl

/-- one turn of judged -/
def bodyJ : List PSt := [PSt.ifs (PB.not (PB.val (PX.call 1 [PX.var 5, PX.var 4]))) [PSt.cnt] [],
    PSt.asg (PTg.nm 6) (PX.idx (PX.var 5) (PX.con (D.int 4))),
    PSt.ifs (PB.val (PX.cmp (CmpOp.Eq) (PX.var 6) (PX.con (D.str [110, 111])))) [PSt.ret (PX.con (D.non))] [],
    PSt.asg (PTg.nm 4) (PX.tup [PX.idx (PX.var 4) (PX.con (D.int 0)), PX.idx (PX.var 4) (PX.con (D.int 1)), PX.idx (PX.var 4) (PX.con (D.int 2)),
         PX.call 2 [PX.idx (PX.var 4) (PX.con (D.int 3)), PX.idx (PX.var 5) (PX.con (D.int 6)), PX.idx (PX.var 5) (PX.con (D.int 7))]]),
    PSt.ifs (PB.val (PX.cmp (CmpOp.IsNot) (PX.idx (PX.var 5) (PX.con (D.int 5))) (PX.con (D.non)))) [PSt.asg (PTg.nm 2) (PX.idx (PX.var 5) (PX.con (D.int 5)))] [],
    PSt.aug 3 (Operator.Add) (PX.idx (PX.var 5) (PX.con (D.int 8))),
    PSt.ifs (PB.val (PX.cmp (CmpOp.Eq) (PX.var 6) (PX.con (D.str [121, 101, 115])))) [PSt.brk] []]
theorem turnJ {G : List Den} {f g : Den} (hF : G[1]? = some f) (hf : PFits f) (hC : G[2]? = some g) (hg : PChanged g) (x0 x1 : D) (p a : Int) (t : Rt) (r : Rl) (x6 : Option D) (h : AH) (ht : t.Ok) (hr : r.Ok) :
    ∃ y6, exSs G bodyJ [some x0, some x1, some (.int p), some (.int a), some t.d, some r.d, x6] h = (if fitsB r t = true then (match r.deed with
      | .no => .rt .non h
      | .yes => .bk [some x0, some x1, some (.int (r.prefer.getD p)), some (.int (a + r.ahead)), some (chg r t).d, some r.d, y6] h
      | .on => .nx [some x0, some x1, some (.int (r.prefer.getD p)), some (.int (a + r.ahead)), some (chg r t).d, some r.d, y6] h)
      else .ct [some x0, some x1, some (.int p), some (.int a), some t.d, some r.d, x6] h) := by
  refine ⟨some r.deed.d, ?_⟩
  have hc := hg t.tags r.add r.take h ht.tags.1
  have hfit := hf r t h ht hr
  have ed : (chg r t).d = .tup [.str t.pre, .tup (t.path.map .int), .int t.w, .tup ((chTags t.tags r.add r.take).map .int)] := rfl
  unfold bodyJ
  cases q : fitsB r t with
  | false =>
    rw [q] at hfit
    simp [exSs, exS, ev, evs, evB, hF, hfit]
  | true =>
    rw [q] at hfit
    cases dd : r.deed with
    | no => simp [exSs, exS, ev, evs, evB, hF, hfit, setT, vw_rl, rl4, dd, Deed.d]
    | yes =>
      cases pp : r.prefer with
      | none => simp [exSs, exS, ev, evs, evB, hF, hfit, setT, vw_rl, vw_rt, rl4, rl5, rl6, rl7, rl8, rt0, rt1, rt2, rt3, dd, Deed.d, hC, hc, SZ, pp, optD, cmpD, isNon, augD, ed]
      | some z => simp [exSs, exS, ev, evs, evB, hF, hfit, setT, vw_rl, vw_rt, rl4, rl5, rl6, rl7, rl8, rt0, rt1, rt2, rt3, dd, Deed.d, hC, hc, SZ, pp, optD, cmpD, isNon, augD, ed]
    | on =>
      cases pp : r.prefer with
      | none => simp [exSs, exS, ev, evs, evB, hF, hfit, setT, vw_rl, vw_rt, rl4, rl5, rl6, rl7, rl8, rt0, rt1, rt2, rt3, dd, Deed.d, hC, hc, SZ, pp, optD, cmpD, isNon, augD, ed]
      | some z => simp [exSs, exS, ev, evs, evB, hF, hfit, setT, vw_rl, vw_rt, rl4, rl5, rl6, rl7, rl8, rt0, rt1, rt2, rt3, dd, Deed.d, hC, hc, SZ, pp, optD, cmpD, isNon, augD, ed]
theorem loopJ {G : List Den} {f g : Den} (hF : G[1]? = some f) (hf : PFits f) (hC : G[2]? = some g) (hg : PChanged g) (x0 x1 : D) (h : AH) : ∀ (rs : List Rl) (p a : Int) (t : Rt) (x5 x6 : Option D), t.Ok → (∀ r ∈ rs, r.Ok) →
    ∃ y5 y6, forL (forB G (.nm 5) bodyJ) (rs.map Rl.d) [some x0, some x1, some (.int p), some (.int a), some t.d, x5, x6] h =
      (match judgedB rs t p a with
      | none => .rt .non h
      | some (t', p', a') => .nx [some x0, some x1, some (.int p'), some (.int a'), some t'.d, y5, y6] h) := by
  intro rs
  induction rs with
  | nil => intro p a t x5 x6 _ _; exact ⟨x5, x6, rfl⟩
  | cons r rs ih =>
    intro p a t x5 x6 ht hr
    have hr1 := hr r List.mem_cons_self
    have hr2 := fun x hx => hr x (List.mem_cons_of_mem _ hx)
    obtain ⟨y6, e⟩ := turnJ hF hf hC hg x0 x1 p a t r x6 h ht hr1
    rw [List.map_cons, forL]
    rw [forB_nm]
    simp only [List.set_cons_succ, List.set_cons_zero]
    rw [e]
    unfold judgedB
    cases q : fitsB r t with
    | false =>
      obtain ⟨y5, y6', e'⟩ := ih p a t (some r.d) x6 ht hr2
      exact ⟨y5, y6', by simpa using e'⟩
    | true =>
      cases dd : r.deed with
      | no => exact ⟨none, none, by simp⟩
      | yes => exact ⟨some r.d, y6, by simp⟩
      | on =>
        obtain ⟨y5, y6', e'⟩ := ih (r.prefer.getD p) (a + r.ahead) (chg r t) (some r.d) y6 (chg_ok ht) hr2
        exact ⟨y5, y6', by simpa using e'⟩
def PJudged (f : Den) : Prop := ∀ (rs : List Rl) (t : Rt) (h : AH), t.Ok → (∀ r ∈ rs, r.Ok) → f [.lst (rs.map Rl.d), t.d] h = .ok (resD (judgedB rs t 100 0)) h
theorem judged_ok {G : List Den} {f g : Den} (hF : G[1]? = some f) (hf : PFits f) (hC : G[2]? = some g) (hg : PChanged g) : PJudged (cutDen (runF G 2 7 p_judged)) := by
  intro rs t h ht hr
  refine run_rt rfl ?_
  have e0 : startE 7 [.lst (rs.map Rl.d), t.d] = [some (.lst (rs.map Rl.d)), some t.d, none, none, none, none, none] := rfl
  rw [e0]
  have pj : p_judged = [PSt.asg (PTg.nm 2) (PX.con (D.int 100)), PSt.asg (PTg.nm 3) (PX.con (D.int 0)), PSt.asg (PTg.nm 4) (PX.var 1), PSt.forS (PTg.nm 5) (PI.seq (PX.var 0)) bodyJ, PSt.ret (PX.tup [PX.var 4, PX.var 2, PX.var 3])] := rfl
  obtain ⟨y5, y6, e⟩ := loopJ hF hf hC hg (.lst (rs.map Rl.d)) t.d h rs 100 0 t none none ht hr
  rw [pj]
  have i : exSs G [PSt.asg (PTg.nm 2) (PX.con (D.int 100)), PSt.asg (PTg.nm 3) (PX.con (D.int 0)), PSt.asg (PTg.nm 4) (PX.var 1), PSt.forS (PTg.nm 5) (PI.seq (PX.var 0)) bodyJ, PSt.ret (PX.tup [PX.var 4, PX.var 2, PX.var 3])] [some (.lst (rs.map Rl.d)), some t.d, none, none, none, none, none] h =
      exSs G [PSt.forS (PTg.nm 5) (PI.seq (PX.var 0)) bodyJ, PSt.ret (PX.tup [PX.var 4, PX.var 2, PX.var 3])] [some (.lst (rs.map Rl.d)), some t.d, some (.int 100), some (.int 0), some t.d, none, none] h := by
    simp [exSs, exS, setT]
  have e1 := exS_for (t := .nm 5) (b := bodyJ) (G := G) (it := .seq (.var 0)) (ρ := [some (.lst (rs.map Rl.d)), some t.d, some (.int 100), some (.int 0), some t.d, none, none]) (h := h) (evI_seq (by simp; exact ⟨rfl, rfl⟩) rfl)
  rw [e] at e1
  rw [i]
  cases q : judgedB rs t 100 0 with
  | none => rw [q] at e1; rw [exSs_rt e1]; rfl
  | some z =>
    obtain ⟨t', p', a'⟩ := z
    rw [q] at e1
    rw [exSs_nx e1]
    simp [exSs, exS, ev, evs, SZ, resD]
end K11
set_option linter.all false
set_option maxRecDepth 100000
set_option maxHeartbeats 4000000
namespace K11
open MP PySem

theorem cut_take {α : Type} (s : List α) (n : Nat) : cut s none (some (n : Int)) = s.take n := by
  unfold cut sIx
  have : ¬ ((n : Int) < 0) := by omega
  simp [this]
theorem take_prefix (p t : List Nat) : (t.take p.length == p) = p.isPrefixOf t := by
  rw [Bool.eq_iff_iff]
  simp only [beq_iff_eq, List.isPrefixOf_iff_prefix]
  constructor
  · intro h; rw [← h]; exact List.take_prefix _ _
  · rintro ⟨s, rfl⟩; simp
theorem pfx_pure {s : List Nat} (h : PfxOk s) : (s.all fun c => decide (c < 1114112)) = true := by
  rw [List.all_eq_true]
  intro c hc
  rcases h.1 c hc with rfl | rfl <;> rfl
theorem int_t : bltD .int [.bl true] = some (.int 1) := rfl
theorem int_f : bltD .int [.bl false] = some (.int 0) := rfl
theorem idx2_0 {x y : D} : idxD (.lst [x, y]) (.int 0) = some x := rfl
theorem idx2_1 {x y : D} : idxD (.lst [x, y]) (.int 1) = some y := rfl
theorem add_int {x y : Int} : binD .Add (.int x) (.int y) = some (.int (x + y)) := rfl
theorem list_tup (s : List D) : bltD .list [.tup s] = some (.lst s) := rfl
theorem list_lst (s : List D) : bltD .list [.lst s] = some (.lst s) := rfl
theorem sl_str {s : List Nat} (h : s.length ≤ SZ) (n : Nat) : slD (.str s) none (some (n : Int)) = some (.str (s.take n)) := by
  show (if _ then _ else _) = _
  rw [if_pos h, cut_take]
theorem lfits_ok {G : List Den} : PFits (cutDen (runF G 2 2 p_lfits)) := by
  intro r t h ht hr
  refine run_rt rfl ?_
  have hl := small ht.pre
  have hl2 := small hr.pre
  have pt : ((t.pre.take r.pre.length).all fun c => decide (c < 1114112)) = true := pfx_pure ⟨ht.pre.1.take _, by have := ht.pre.2; simp; omega⟩
  have e0 : startE 2 [r.d, t.d] = [some r.d, some t.d] := rfl
  rw [e0]
  by_cases h1 : r.pre.isPrefixOf t.pre = true <;> by_cases h2 : r.longest < (t.pre.length : Int) <;> by_cases h3 : r.number = 0 <;> by_cases h4 : r.tag = 0 <;> by_cases h5 : r.number ∈ t.path <;>
  simp [p_lfits, exSs, exS, ev, evs, evB, evo, rl0, rl1, rl2, rl3, rt0, rt1, rt3, vw_rl, vw_rt, setT, len_str hl, len_str hl2, sl_str hl, list_tup, fitsB, take_prefix, pfx_pure hr.pre, pt, h1, h2, h3, h4, h5]

def bodyL : List PSt := [PSt.ifs (PB.not (PB.val (PX.call 12 [PX.var 4, PX.var 1]))) [PSt.cnt] [],
    PSt.asg (PTg.nm 5) (PX.blt (Bl.sorted) [PX.comp (PX.var 0) (some (PB.val (PX.cmp (CmpOp.NotEq) (PX.var 0) (PX.idx (PX.var 1) (PX.con (D.int 7)))))) (PI.seq (PX.idx (PX.var 1) (PX.con (D.int 3)))) [4]]),
    PSt.ifs (PB.and (PB.val (PX.cmp (CmpOp.Gt) (PX.idx (PX.var 4) (PX.con (D.int 6))) (PX.con (D.int 0)))) (PB.and (PB.val (PX.cmp (CmpOp.NotIn) (PX.idx (PX.var 4) (PX.con (D.int 6))) (PX.var 5))) (PB.val (PX.cmp (CmpOp.Lt) (PX.blt (Bl.len) [PX.var 5]) (PX.con (D.int 4))))))
      [PSt.asg (PTg.nm 5) (PX.blt (Bl.sorted) [PX.bin (Operator.Add) (PX.var 5) (PX.lst [PX.idx (PX.var 4) (PX.con (D.int 6))])])] [],
    PSt.asg (PTg.nm 1) (PX.bin (Operator.Add) (PX.sl (PX.var 1) none (some (PX.con (D.int 3)))) (PX.tup [PX.blt (Bl.tuple) [PX.var 5]])),
    PSt.asg (PTg.nm 2) (PX.idx (PX.lst [PX.idx (PX.var 4) (PX.con (D.int 5)), PX.var 2]) (PX.blt (Bl.int) [PX.cmp (CmpOp.Is) (PX.idx (PX.var 4) (PX.con (D.int 5))) (PX.con (D.non))])),
    PSt.asg (PTg.nm 3) (PX.bin (Operator.Add) (PX.var 3) (PX.idx (PX.var 4) (PX.con (D.int 8)))),
    PSt.ifs (PB.val (PX.cmp (CmpOp.Eq) (PX.idx (PX.var 4) (PX.con (D.int 4))) (PX.con (D.str [110, 111])))) [PSt.ret (PX.con (D.non))] [],
    PSt.ifs (PB.val (PX.cmp (CmpOp.Eq) (PX.idx (PX.var 4) (PX.con (D.int 4))) (PX.con (D.str [121, 101, 115])))) [PSt.ret (PX.tup [PX.var 1, PX.var 2, PX.var 3])] []]

theorem sort_ints {l : List Int} (h : l.length < 64) : bltD .sorted [.lst (l.map .int)] = some (.lst ((l.mergeSort fun a b => decide (a ≤ b)).map .int)) := by
  show ((ints? (l.map .int)).bind _) = _
  rw [ints_map]
  show (if l.length < 64 then _ else _) = _
  rw [if_pos h]
/-- the first rows of a turn: the tags -/
theorem tagsL {G : List Den} {x0 : D} {p a : Int} {t : Rt} {r : Rl} {x5 : Option D} {h : AH} (ht : t.Ok) (hr : r.Ok) {rest : List PSt} :
    exSs G (PSt.asg (PTg.nm 5) (PX.blt (Bl.sorted) [PX.comp (PX.var 0) (some (PB.val (PX.cmp (CmpOp.NotEq) (PX.var 0) (PX.idx (PX.var 1) (PX.con (D.int 7)))))) (PI.seq (PX.idx (PX.var 1) (PX.con (D.int 3)))) [4]]) ::
      PSt.ifs (PB.and (PB.val (PX.cmp (CmpOp.Gt) (PX.idx (PX.var 4) (PX.con (D.int 6))) (PX.con (D.int 0)))) (PB.and (PB.val (PX.cmp (CmpOp.NotIn) (PX.idx (PX.var 4) (PX.con (D.int 6))) (PX.var 5))) (PB.val (PX.cmp (CmpOp.Lt) (PX.blt (Bl.len) [PX.var 5]) (PX.con (D.int 4))))))
      [PSt.asg (PTg.nm 5) (PX.blt (Bl.sorted) [PX.bin (Operator.Add) (PX.var 5) (PX.lst [PX.idx (PX.var 4) (PX.con (D.int 6))])])] [] :: rest) [some x0, some t.d, some (.int p), some (.int a), some r.d, x5] h =
    exSs G rest [some x0, some t.d, some (.int p), some (.int a), some r.d, some (.lst ((chTags t.tags r.add r.take).map .int))] h := by
  have hl := ht.tags.1
  have hz : t.tags.length ≤ SZ := by show _ ≤ 16777216; omega
  have ek := ev_kept (G := G) (ρ := [some x0, some t.d, some (.int p), some (.int a), some r.d, x5]) (h := h) (src := PX.idx (PX.var 1) (PX.con (D.int 3))) (tk := PX.idx (PX.var 1) (PX.con (D.int 7))) (keep := [4]) (tags := t.tags) (take := r.take) ⟨_, by simp [ev, vw_rt, rt3], .inl rfl⟩ (by intro i; simp [ev, vw_rl, rl7]) hz
  have kl := kept_len t.tags r.take
  have ks := kept_sorted (k := r.take) ht.tags.2
  have e1 : ev G (PX.blt (Bl.sorted) [PX.comp (PX.var 0) (some (PB.val (PX.cmp (CmpOp.NotEq) (PX.var 0) (PX.idx (PX.var 1) (PX.con (D.int 7)))))) (PI.seq (PX.idx (PX.var 1) (PX.con (D.int 3)))) [4]]) [some x0, some t.d, some (.int p), some (.int a), some r.d, x5] h = some (.lst ((kept t.tags r.take).map .int), h) := by
    rw [ev, evs, ek]
    simp only [Option.bind_some, evs, List.map_cons, List.map_nil, vw_lst]
    rw [sort_ints (by omega), sort_sorted (ks.imp fun q => Int.le_of_lt q)]
    rfl
  rw [exSs, exS, e1]
  simp only [setT, List.set_cons_succ, List.set_cons_zero]
  generalize hK : kept t.tags r.take = K at kl
  have hb : binD .Add (.lst (K.map .int)) (.lst [.int r.add]) = some (.lst (K.map .int ++ [.int r.add])) := by
    have : (K.map D.int).length + [D.int r.add].length ≤ SZ := by simp [SZ]; omega
    show (if _ then _ else _) = _
    rw [if_pos this]
  have hs : K.length < 4 → bltD .sorted [.lst (K.map .int ++ [.int r.add])] = some (.lst (((K ++ [r.add]).mergeSort fun a b => decide (a ≤ b)).map .int)) := by
    intro h4
    rw [show K.map D.int ++ [D.int r.add] = (K ++ [r.add]).map .int by simp, sort_ints (by simp; omega)]
  have h0 := hr.add
  unfold chTags
  rw [hK]
  by_cases h1 : r.add = 0
  · simp [exSs, exS, evB, ev, evs, h1, vw_rl, rl6]
  · have h1' : 0 < r.add := by omega
    by_cases h2 : r.add ∈ K
    · simp [exSs, exS, evB, ev, evs, h1, h1', h2, len_lst, vw_rl, rl6]
    · by_cases h3 : K.length < 4
      · have h3' : (K.length : Int) < 4 := by omega
        simp [exSs, exS, evB, ev, evs, h1, h1', h2, h3, h3', hs h3, hb, len_lst, setT, SZ, vw_rl, rl6]
      · have h3' : ¬ (K.length : Int) < 4 := by omega
        simp [exSs, exS, evB, ev, evs, h1, h1', h2, h3, h3', len_lst, vw_rl, rl6]
theorem turnL {G : List Den} {f : Den} (hF : G[12]? = some f) (hf : PFits f) (x0 : D) (p a : Int) (t : Rt) (r : Rl) (x5 : Option D) (h : AH) (ht : t.Ok) (hr : r.Ok) :
    ∃ y5, exSs G bodyL [some x0, some t.d, some (.int p), some (.int a), some r.d, x5] h = (if fitsB r t = true then (match r.deed with
      | .no => .rt .non h
      | .yes => .rt (.tup [(chg r t).d, .int (r.prefer.getD p), .int (a + r.ahead)]) h
      | .on => .nx [some x0, some (chg r t).d, some (.int (r.prefer.getD p)), some (.int (a + r.ahead)), some r.d, y5] h)
      else .ct [some x0, some t.d, some (.int p), some (.int a), some r.d, x5] h) := by
  refine ⟨some (.lst ((chTags t.tags r.add r.take).map .int)), ?_⟩
  have hfit := hf r t h ht hr
  have ed : (chg r t).d = .tup [.str t.pre, .tup (t.path.map .int), .int t.w, .tup ((chTags t.tags r.add r.take).map .int)] := rfl
  have sl3 : slD t.d none (some 3) = some (.tup [.str t.pre, .tup (t.path.map .int), .int t.w]) := rfl
  unfold bodyL
  cases q : fitsB r t with
  | false =>
    rw [q] at hfit
    simp [exSs, exS, ev, evs, evB, hF, hfit]
  | true =>
    rw [q] at hfit
    have e0 : exS G (PSt.ifs (PB.not (PB.val (PX.call 12 [PX.var 4, PX.var 1]))) [PSt.cnt] []) [some x0, some t.d, some (.int p), some (.int a), some r.d, x5] h = .nx [some x0, some t.d, some (.int p), some (.int a), some r.d, x5] h := by
      simp [exSs, exS, ev, evs, evB, hF, hfit]
    rw [exSs_nx e0, tagsL ht hr]
    have hb : binD .Add (.tup [.str t.pre, .tup (t.path.map .int), .int t.w]) (.tup [.tup ((chTags t.tags r.add r.take).map .int)]) = some (chg r t).d := rfl
    cases dd : r.deed with
    | no =>
      cases pp : r.prefer with
      | none => simp [exSs, exS, ev, evs, evB, evo, setT, vw_rl, vw_rt, rl4, rl5, rl8, sl3, tuple_lst, hb, SZ, dd, Deed.d, pp, optD, cmpD, isNon, int_t, int_f, idx2_0, idx2_1, add_int]
      | some z => simp [exSs, exS, ev, evs, evB, evo, setT, vw_rl, vw_rt, rl4, rl5, rl8, sl3, tuple_lst, hb, SZ, dd, Deed.d, pp, optD, cmpD, isNon, int_t, int_f, idx2_0, idx2_1, add_int]
    | yes =>
      cases pp : r.prefer with
      | none => simp [exSs, exS, ev, evs, evB, evo, setT, vw_rl, vw_rt, rl4, rl5, rl8, sl3, tuple_lst, hb, SZ, dd, Deed.d, pp, optD, cmpD, isNon, int_t, int_f, idx2_0, idx2_1, add_int]
      | some z => simp [exSs, exS, ev, evs, evB, evo, setT, vw_rl, vw_rt, rl4, rl5, rl8, sl3, tuple_lst, hb, SZ, dd, Deed.d, pp, optD, cmpD, isNon, int_t, int_f, idx2_0, idx2_1, add_int]
    | on =>
      cases pp : r.prefer with
      | none => simp [exSs, exS, ev, evs, evB, evo, setT, vw_rl, vw_rt, rl4, rl5, rl8, sl3, tuple_lst, hb, SZ, dd, Deed.d, pp, optD, cmpD, isNon, int_t, int_f, idx2_0, idx2_1, add_int]
      | some z => simp [exSs, exS, ev, evs, evB, evo, setT, vw_rl, vw_rt, rl4, rl5, rl8, sl3, tuple_lst, hb, SZ, dd, Deed.d, pp, optD, cmpD, isNon, int_t, int_f, idx2_0, idx2_1, add_int]
end K11
set_option linter.all false
set_option maxRecDepth 100000
set_option maxHeartbeats 4000000
namespace MP
theorem exSs_bad {G : List Den} {s : PSt} {r : List PSt} {ρ : Ev} {h : AH} (e : exS G s ρ h = .bad) : exSs G (s :: r) ρ h = .bad := by rw [exSs, e]
mutual
theorem eqD_refl : ∀ (n : Nat) (d : D), pureN n d = true → eqD d d = true
  | _, .non, _ => by simp [eqD]
  | _, .bl _, _ => by simp [eqD]
  | _, .int _, _ => by simp [eqD]
  | _, .str _, _ => by simp [eqD]
  | n + 1, .tup xs, h => by
    rw [eqD]
    exact eqDs_refl n xs (by simpa using h)
  | n + 1, .lst xs, h => by
    rw [eqD]
    exact eqDs_refl n xs (by simpa using h)
  | 0, .tup _, h => by cases h
  | 0, .lst _, h => by cases h
  | n, .ref _, h => by cases n <;> cases h
  | n, .fn _, h => by cases n <;> cases h
  | n, .exn _, h => by cases n <;> cases h
theorem eqDs_refl : ∀ (n : Nat) (xs : List D), (∀ x ∈ xs, pureN n x = true) → eqDs xs xs = true
  | _, [], _ => by simp [eqDs]
  | n, x :: xs, h => by
    rw [eqDs, eqD_refl n x (h x List.mem_cons_self), eqDs_refl n xs fun y hy => h y (List.mem_cons_of_mem _ hy)]
    rfl
end
theorem ne_self {d : D} (h : pureD d = true) : cmpD .NotEq d d = some false := by
  rw [cmp_ne, h, eqD_refl 16 d h]
  rfl
/-- it goes on, with such names; the objects stay -/
def Nexts (Q : Ev → Prop) (h : AH) (r : R) : Prop := ∃ ρ, Q ρ ∧ r = .nx ρ h
end MP
namespace K11
open MP PySem

theorem loopL {G : List Den} {f : Den} (hF : G[12]? = some f) (hf : PFits f) (x0 : D) (h : AH) : ∀ (rs : List Rl) (p a : Int) (t : Rt) (x4 x5 : Option D), t.Ok → (∀ r ∈ rs, r.Ok) →
    forL (forB G (.nm 4) bodyL) (rs.map Rl.d) [some x0, some t.d, some (.int p), some (.int a), x4, x5] h = .rt (resD (judgedB rs t p a)) h ∨
    ∃ t' p' a' y4 y5, judgedB rs t p a = some (t', p', a') ∧ forL (forB G (.nm 4) bodyL) (rs.map Rl.d) [some x0, some t.d, some (.int p), some (.int a), x4, x5] h = .nx [some x0, some t'.d, some (.int p'), some (.int a'), y4, y5] h := by
  intro rs
  induction rs with
  | nil => intro p a t x4 x5 _ _; exact .inr ⟨t, p, a, x4, x5, rfl, rfl⟩
  | cons r rs ih =>
    intro p a t x4 x5 ht hr
    have hr1 := hr r List.mem_cons_self
    have hr2 := fun x hx => hr x (List.mem_cons_of_mem _ hx)
    obtain ⟨y5, e⟩ := turnL hF hf x0 p a t r x5 h ht hr1
    rw [List.map_cons, forL]
    rw [forB_nm]
    simp only [List.set_cons_succ, List.set_cons_zero]
    rw [e]
    unfold judgedB
    cases q : fitsB r t with
    | false => simpa using ih p a t (some r.d) x5 ht hr2
    | true =>
      cases dd : r.deed with
      | no => exact .inl (by simp [resD])
      | yes => exact .inl (by simp [resD])
      | on => simpa using ih (r.prefer.getD p) (a + r.ahead) (chg r t) (some r.d) y5 (chg_ok ht) hr2
theorem ljudged_ok {G : List Den} {f : Den} (hF : G[12]? = some f) (hf : PFits f) : PJudged (cutDen (runF G 2 6 p_ljudged)) := by
  intro rs t h ht hr
  refine run_rt rfl ?_
  have e0 : startE 6 [.lst (rs.map Rl.d), t.d] = [some (.lst (rs.map Rl.d)), some t.d, none, none, none, none] := rfl
  rw [e0]
  have pj : p_ljudged = [PSt.asg (PTg.nm 2) (PX.con (D.int 100)), PSt.asg (PTg.nm 3) (PX.con (D.int 0)), PSt.forS (PTg.nm 4) (PI.seq (PX.var 0)) bodyL, PSt.ret (PX.tup [PX.var 1, PX.var 2, PX.var 3])] := rfl
  rw [pj]
  have i : exSs G [PSt.asg (PTg.nm 2) (PX.con (D.int 100)), PSt.asg (PTg.nm 3) (PX.con (D.int 0)), PSt.forS (PTg.nm 4) (PI.seq (PX.var 0)) bodyL, PSt.ret (PX.tup [PX.var 1, PX.var 2, PX.var 3])] [some (.lst (rs.map Rl.d)), some t.d, none, none, none, none] h =
      exSs G [PSt.forS (PTg.nm 4) (PI.seq (PX.var 0)) bodyL, PSt.ret (PX.tup [PX.var 1, PX.var 2, PX.var 3])] [some (.lst (rs.map Rl.d)), some t.d, some (.int 100), some (.int 0), none, none] h := by
    simp [exSs, exS, setT]
  rw [i]
  have e1 := exS_for (t := .nm 4) (b := bodyL) (G := G) (it := .seq (.var 0)) (ρ := [some (.lst (rs.map Rl.d)), some t.d, some (.int 100), some (.int 0), none, none]) (h := h) (evI_seq (by simp; exact ⟨rfl, rfl⟩) rfl)
  rcases loopL hF hf (.lst (rs.map Rl.d)) h rs 100 0 t none none ht hr with e | ⟨t', p', a', y4, y5, q, e⟩
  · rw [e] at e1
    exact exSs_rt e1
  · rw [e] at e1
    rw [exSs_nx e1, q]
    simp [exSs, exS, ev, evs, SZ, resD]

theorem judgedB_ok : ∀ (rs : List Rl) (t : Rt) (p a : Int), t.Ok → ∀ t' p' a', judgedB rs t p a = some (t', p', a') → t'.Ok := by
  intro rs
  induction rs with
  | nil => intro t p a ht t' p' a' e; cases e; exact ht
  | cons r rs ih =>
    intro t p a ht t' p' a' e
    unfold judgedB at e
    split at e
    · cases dd : r.deed with
      | no => rw [dd] at e; cases e
      | yes => rw [dd] at e; cases e; exact chg_ok ht
      | on => rw [dd] at e; exact ih _ _ _ (chg_ok ht) _ _ _ e
    · exact ih _ _ _ ht _ _ _ e
theorem judgedB_shift : ∀ (rs : List Rl) (t : Rt) (p a q b : Int), (judgedB rs t p a = none ∧ judgedB rs t q b = none) ∨ ∃ t' p' a' q' b', judgedB rs t p a = some (t', p', a') ∧ judgedB rs t q b = some (t', q', b') ∧ a' - a = b' - b := by
  intro rs
  induction rs with
  | nil => intro t p a q b; exact .inr ⟨t, p, a, q, b, rfl, rfl, by omega⟩
  | cons r rs ih =>
    intro t p a q b
    unfold judgedB
    split
    · cases dd : r.deed with
      | no => exact .inl ⟨rfl, rfl⟩
      | yes => exact .inr ⟨_, _, _, _, _, rfl, rfl, by omega⟩
      | on =>
        rcases ih (chg r t) (r.prefer.getD p) (a + r.ahead) (r.prefer.getD q) (b + r.ahead) with h | ⟨t', p', a', q', b', h1, h2, h3⟩
        · exact .inl h
        · exact .inr ⟨t', p', a', q', b', h1, h2, by omega⟩
    · exact ih t p a q b

theorem pure_rt {t : Rt} (h : t.Ok) {n : Nat} : pureN (n + 2) t.d = true := by
  simp [Rt.d, pfx_pure h.pre]
theorem pure_opt {o : Option Int} {n : Nat} : pureN n (optD o) = true := by cases o <;> simp [optD]
theorem pure_rl {r : Rl} (h : r.Ok) {n : Nat} : pureN (n + 1) r.d = true := by
  simp [Rl.d, pure_deed, pure_opt]
  exact fun c hc => by rcases h.pre.1 c hc with rfl | rfl <;> decide
theorem pure_res {rs : List Rl} {t : Rt} {p a : Int} (h : t.Ok) : pureD (resD (judgedB rs t p a)) = true := by
  cases q : judgedB rs t p a with
  | none => simp [resD]
  | some z =>
    obtain ⟨t', p', a'⟩ := z
    have := pure_rt (judgedB_ok rs t p a h _ _ _ q) (n := 13)
    simp [resD, this]
theorem pure_rules {rs : List Rl} (h : ∀ r ∈ rs, r.Ok) : pureD (.lst (rs.map Rl.d)) = true := by
  simp
  exact fun r hr => pure_rl (h r hr)
theorem vw_res {o : Option (Rt × Int × Int)} {h : AH} : vw h (resD o) = resD o := by cases o <;> rfl

/-- the loop over the rules -/
def bodyF : List PSt := [PSt.asg (PTg.nm 8) (PX.call 1 [PX.var 7, PX.var 5]),
       PSt.ifs (PB.or (PB.not (PB.val (PX.isi (PX.var 8) (Ty.bool)))) (PB.val (PX.cmp (CmpOp.NotEq) (PX.var 8) (PX.call 12 [PX.var 7, PX.var 5])))) [PSt.ret (PX.con (D.bl false))] []]
theorem loopF {G : List Den} {f g : Den} (hF : G[1]? = some f) (hf : PFits f) (hL : G[12]? = some g) (hg : PFits g) (h : AH) (t : Rt) (ht : t.Ok) (x0 x1 x2 x3 x4 x6 x9 x10 x11 x12 x13 : Option D) : ∀ (rs : List Rl) (x7 x8 : Option D), (∀ r ∈ rs, r.Ok) →
    ∃ y7 y8, forL (forB G (.nm 7) bodyF) (rs.map Rl.d) [x0, x1, x2, x3, x4, some t.d, x6, x7, x8, x9, x10, x11, x12, x13] h = .nx [x0, x1, x2, x3, x4, some t.d, x6, y7, y8, x9, x10, x11, x12, x13] h := by
  intro rs
  induction rs with
  | nil => intro x7 x8 _; exact ⟨x7, x8, rfl⟩
  | cons r rs ih =>
    intro x7 x8 hr
    have hr1 := hr r List.mem_cons_self
    have hr2 := fun x hx => hr x (List.mem_cons_of_mem _ hx)
    obtain ⟨y7, y8, e⟩ := ih (some r.d) (some (.bl (fitsB r t))) hr2
    refine ⟨y7, y8, ?_⟩
    rw [List.map_cons, forL, forB_nm]
    simp only [List.set_cons_succ, List.set_cons_zero]
    have turn : exSs G bodyF [x0, x1, x2, x3, x4, some t.d, x6, some r.d, x8, x9, x10, x11, x12, x13] h = .nx [x0, x1, x2, x3, x4, some t.d, x6, some r.d, some (.bl (fitsB r t)), x9, x10, x11, x12, x13] h := by
      unfold bodyF
      have e1 := hf r t h ht hr1
      have e2 := hg r t h ht hr1
      simp [exSs, exS, ev, evs, evB, hF, hL, e1, e2, setT, isiD]
    rw [turn]
    exact e
end K11
set_option linter.all false
set_option maxRecDepth 100000
set_option maxHeartbeats 4000000
namespace MP
theorem evB_cmp {G : List Den} {op : PySem.CmpOp} {a b : PX} {ρ : Ev} {h : AH} {x y : D} {r : Bool} (ha : ev G a ρ h = some (x, h)) (hb : ev G b ρ h = some (y, h)) (hc : cmpD op (vw h x) (vw h y) = some r) : evB G (.val (.cmp op a b)) ρ h = some (r, h) := by
  simp only [evB, ev, ha, hb, Option.bind_some, hc, tru_bl]
theorem evB_and {G : List Den} {a b : PB} {ρ : Ev} {h : AH} {x y : Bool} (ha : evB G a ρ h = some (x, h)) (hb : evB G b ρ h = some (y, h)) : evB G (.and a b) ρ h = some (x && y, h) := by
  rw [evB, ha]
  cases x <;> simp [hb]
theorem evB_or {G : List Den} {a b : PB} {ρ : Ev} {h : AH} {x y : Bool} (ha : evB G a ρ h = some (x, h)) (hb : evB G b ρ h = some (y, h)) : evB G (.or a b) ρ h = some (x || y, h) := by
  rw [evB, ha]
  cases x <;> simp [hb]
end MP
namespace K11
open MP PySem

structure GOk (G : List Den) : Prop where
  fits : ∃ f, G[1]? = some f ∧ PFits f
  judged : ∃ f, G[3]? = some f ∧ PJudged f
  cell : ∃ f, G[4]? = some f ∧ PCell f
  drawn : ∃ f, G[5]? = some f ∧ PDrawn f
  numbers : ∃ f, G[6]? = some f ∧ PNumbers f
  prefixes : ∃ f, G[8]? = some f ∧ PPrefixes f
  route : ∃ f, G[10]? = some f ∧ PRoute f
  rule : ∃ f, G[11]? = some f ∧ PRule f
  lfits : ∃ f, G[12]? = some f ∧ PFits f
  ljudged : ∃ f, G[13]? = some f ∧ PJudged f

def EnvL (sc : List Int) (ρ : Ev) : Prop := ∃ x1 x2 x3 x4 x5 x6 x7 x8 x9 x10 x11 x12 x13, ρ = [some (.lst (sc.map .int)), x1, x2, x3, x4, x5, x6, x7, x8, x9, x10, x11, x12, x13]
def bodyLaw : List PSt := match p_law with
  | [.forS _ _ b, _] => b
  | _ => []
/-- the last two questions -/
def testA : PSt := PSt.ifs (PB.or (PB.val (PX.cmp (CmpOp.NotEq) (PX.var 10) (PX.var 11))) (PB.or (PB.val (PX.cmp (CmpOp.NotEq) (PX.var 9) (PX.var 6))) (PB.and (PB.val (PX.cmp (CmpOp.IsNot) (PX.var 11) (PX.con (D.non)))) (PB.not (PB.val (PX.isi (PX.var 10) (Ty.tuple)))))))
      [PSt.ret (PX.con (D.bl false))] []
def inB : List PSt := [PSt.asg (PTg.nm 12) (PX.call 3 [PX.sl (PX.var 6) none (some (PX.con (D.int 1))), PX.var 5]),
       PSt.asg (PTg.nm 13) (PX.call 3 [PX.sl (PX.var 6) (some (PX.con (D.int 1))) none, PX.idx (PX.var 12) (PX.con (D.int 0))]),
       PSt.ifs (PB.or (PB.and (PB.val (PX.cmp (CmpOp.Is) (PX.var 13) (PX.con (D.non)))) (PB.val (PX.cmp (CmpOp.IsNot) (PX.var 10) (PX.con (D.non))))) (PB.and (PB.val (PX.cmp (CmpOp.IsNot) (PX.var 13) (PX.con (D.non)))) (PB.val (PX.cmp (CmpOp.Is) (PX.var 10) (PX.con (D.non)))))) [PSt.ret (PX.con (D.bl false))] [],
       PSt.ifs (PB.and (PB.val (PX.cmp (CmpOp.IsNot) (PX.var 13) (PX.con (D.non)))) (PB.or (PB.val (PX.cmp (CmpOp.NotEq) (PX.idx (PX.var 13) (PX.con (D.int 0))) (PX.idx (PX.var 10) (PX.con (D.int 0))))) (PB.val (PX.cmp (CmpOp.NotEq) (PX.bin (Operator.Add) (PX.idx (PX.var 13) (PX.con (D.int 2))) (PX.idx (PX.var 12) (PX.con (D.int 2)))) (PX.idx (PX.var 10) (PX.con (D.int 2)))))))
         [PSt.ret (PX.con (D.bl false))] []]
def testB : PSt := PSt.ifs (PB.and (PB.val (PX.cmp (CmpOp.NotEq) (PX.var 6) (PX.lst []))) (PB.val (PX.cmp (CmpOp.Eq) (PX.idx (PX.idx (PX.var 6) (PX.con (D.int 0))) (PX.con (D.int 4))) (PX.con (D.str [111, 110])))))
      inB []

theorem isi_tup {xs : List D} : isiD (.tup xs) .tuple = some true := rfl
theorem isNot_non {d : D} : cmpD .IsNot d .non = some (!isNon d) := by cases d <;> rfl
theorem is_non {d : D} : cmpD .Is d .non = some (isNon d) := by cases d <;> rfl
theorem testA_ok {G : List Den} {h : AH} {rs : List Rl} {t : Rt} (ht : t.Ok) (hr : ∀ r ∈ rs, r.Ok) (x0 x1 x2 x3 x4 x5 x7 x8 x12 x13 : Option D) :
    exS G testA [x0, x1, x2, x3, x4, x5, some (.lst (rs.map Rl.d)), x7, x8, some (.lst (rs.map Rl.d)), some (resD (judgedB rs t 100 0)), some (resD (judgedB rs t 100 0)), x12, x13] h =
      .nx [x0, x1, x2, x3, x4, x5, some (.lst (rs.map Rl.d)), x7, x8, some (.lst (rs.map Rl.d)), some (resD (judgedB rs t 100 0)), some (resD (judgedB rs t 100 0)), x12, x13] h := by
  have n1 := ne_self (pure_res (rs := rs) (p := 100) (a := 0) ht)
  have n2 := ne_self (pure_rules hr)
  unfold testA
  cases q : judgedB rs t 100 0 with
  | none =>
    rw [q] at n1
    simp only [exS, evB, ev, getV_zero, getV_succ, Option.bind_some, vw_lst, n1, n2, tru_bl, isNot_non, vw_res]
    simp [resD, isNon, exSs, isNot_non]
  | some z =>
    rw [q] at n1
    obtain ⟨t', p', a'⟩ := z
    simp only [exS, evB, ev, getV_zero, getV_succ, Option.bind_some, vw_lst, n1, n2, tru_bl, isNot_non, vw_res]
    simp [resD, isNon, exSs, isi_tup, evB, ev, isNot_non]

theorem sl_lst1 {xs : List D} : slD (.lst xs) none (some 1) = some (.lst (xs.take 1)) := by
  show some (D.lst (cut xs none (some 1))) = _
  have := cut_take xs 1
  rw [show ((1 : Nat) : Int) = 1 from rfl] at this
  rw [this]
theorem sl_drop1 {xs : List D} : slD (.lst xs) (some 1) none = some (.lst (xs.drop 1)) := by
  show some (D.lst (cut xs (some 1) none)) = _
  unfold cut sIx
  cases xs with
  | nil => simp
  | cons a l => simp
theorem idx_head {a : D} {l : List D} : idxD (.lst (a :: l)) (.int 0) = some a := by
  show atI (a :: l) 0 = _
  unfold atI ixN
  simp
theorem res0 {t : Rt} {p a : Int} : idxD (resD (some (t, p, a))) (.int 0) = some t.d := rfl
theorem res2 {t : Rt} {p a : Int} : idxD (resD (some (t, p, a))) (.int 2) = some (.int a) := rfl
theorem one_on {r : Rl} {t : Rt} (dd : r.deed = .on) : ∃ t1 p1 a1, judgedB [r] t 100 0 = some (t1, p1, a1) ∧ (t.Ok → t1.Ok) ∧ ∀ rs, judgedB (r :: rs) t 100 0 = judgedB rs t1 p1 a1 := by
  cases q : fitsB r t with
  | false => exact ⟨t, 100, 0, by simp [judgedB, q], id, fun rs => by simp [judgedB, q]⟩
  | true => exact ⟨chg r t, r.prefer.getD 100, 0 + r.ahead, by simp [judgedB, q, dd], chg_ok, fun rs => by simp [judgedB, q, dd]⟩

theorem testB_ok {G : List Den} {f : Den} (hJ : G[3]? = some f) (hj : PJudged f) {h : AH} {rs : List Rl} {t : Rt} (ht : t.Ok) (hr : ∀ r ∈ rs, r.Ok) (x0 x1 x2 x3 x4 x7 x8 x9 x11 x12 x13 : Option D) :
    ∃ y12 y13, exS G testB [x0, x1, x2, x3, x4, some t.d, some (.lst (rs.map Rl.d)), x7, x8, x9, some (resD (judgedB rs t 100 0)), x11, x12, x13] h =
      .nx [x0, x1, x2, x3, x4, some t.d, some (.lst (rs.map Rl.d)), x7, x8, x9, some (resD (judgedB rs t 100 0)), x11, y12, y13] h := by
  unfold testB
  cases rs with
  | nil =>
    refine ⟨x12, x13, ?_⟩
    simp [exS, exSs, evB, ev, evs, eqD, eqDs]
  | cons r rs =>
    have hr1 := hr r List.mem_cons_self
    have hr2 := fun x hx => hr x (List.mem_cons_of_mem _ hx)
    have hp : pureD (.lst ((r :: rs).map Rl.d)) = true := pure_rules hr
    have pe : pureD (D.lst []) = true := rfl
    have c1 : cmpD .NotEq (.lst ((r :: rs).map Rl.d)) (.lst []) = some true := by
      rw [cmp_ne, hp, pe]
      simp [eqD, eqDs]
    have c2 : cmpD .Eq r.deed.d (.str [111, 110]) = some (decide (r.deed = .on)) := by
      rw [cmp_eq]
      have : pureD (.str [111, 110]) = true := by decide
      rw [show pureD r.deed.d = true from pure_deed, this, eq_onn]; rfl
    by_cases dd : r.deed = .on
    · obtain ⟨t1, p1, a1, e1, ok1, e2⟩ := one_on (t := t) dd
      have j1 : f [.lst [r.d], t.d] h = .ok (resD (some (t1, p1, a1))) h := by
        have := hj [r] t h ht (by simpa using hr1)
        rw [e1] at this
        exact this
      have j2 := hj rs t1 h (ok1 ht) hr2
      rw [e2 rs]
      have hin : ∃ y12 y13, exSs G inB [x0, x1, x2, x3, x4, some t.d, some (.lst ((r :: rs).map Rl.d)), x7, x8, x9, some (resD (judgedB rs t1 p1 a1)), x11, x12, x13] h = .nx [x0, x1, x2, x3, x4, some t.d, some (.lst ((r :: rs).map Rl.d)), x7, x8, x9, some (resD (judgedB rs t1 p1 a1)), x11, y12, y13] h := by
        refine ⟨some (resD (some (t1, p1, a1))), some (resD (judgedB rs t1 100 0)), ?_⟩
        unfold inB
        have s1 : exS G (PSt.asg (PTg.nm 12) (PX.call 3 [PX.sl (PX.var 6) none (some (PX.con (D.int 1))), PX.var 5])) [x0, x1, x2, x3, x4, some t.d, some (.lst ((r :: rs).map Rl.d)), x7, x8, x9, some (resD (judgedB rs t1 p1 a1)), x11, x12, x13] h = .nx [x0, x1, x2, x3, x4, some t.d, some (.lst ((r :: rs).map Rl.d)), x7, x8, x9, some (resD (judgedB rs t1 p1 a1)), x11, some (resD (some (t1, p1, a1))), x13] h := by
          simp [exS, ev, evs, evo, sl_lst1, hJ, j1, setT]
        have s2 : exS G (PSt.asg (PTg.nm 13) (PX.call 3 [PX.sl (PX.var 6) (some (PX.con (D.int 1))) none, PX.idx (PX.var 12) (PX.con (D.int 0))])) [x0, x1, x2, x3, x4, some t.d, some (.lst ((r :: rs).map Rl.d)), x7, x8, x9, some (resD (judgedB rs t1 p1 a1)), x11, some (resD (some (t1, p1, a1))), x13] h = .nx [x0, x1, x2, x3, x4, some t.d, some (.lst ((r :: rs).map Rl.d)), x7, x8, x9, some (resD (judgedB rs t1 p1 a1)), x11, some (resD (some (t1, p1, a1))), some (resD (judgedB rs t1 100 0))] h := by
          simp [exS, ev, evs, evo, sl_drop1, hJ, j2, setT, vw_res, res0]
        rw [exSs_nx s1, exSs_nx s2]
        rcases judgedB_shift rs t1 p1 a1 100 0 with ⟨q1, q2⟩ | ⟨t', p', a', q', b', q1, q2, q3⟩
        · rw [q1, q2]
          simp [exSs, exS, evB, ev, resD, is_non, isNot_non, isNon]
        · have okt : t'.Ok := judgedB_ok rs t1 p1 a1 (ok1 ht) _ _ _ q1
          have n1 : pureN 16 t'.d = true := pure_rt okt (n := 14)
          have n2 := eqD_refl 16 _ n1
          have e3 : b' + a1 = a' := by omega
          rw [q1, q2]
          have nn : ∀ {t : Rt} {p a : Int}, isNon (resD (some (t, p, a))) = false := rfl
          simp [exSs, exS, evB, ev, vw_res, vw_rt, is_non, isNot_non, nn, res0, res2, n1, n2, add_int, e3, evo]
      obtain ⟨y12, y13, e4⟩ := hin
      refine ⟨y12, y13, ?_⟩
      rw [exS]
      have et : evB G (PB.and (PB.val (PX.cmp (CmpOp.NotEq) (PX.var 6) (PX.lst []))) (PB.val (PX.cmp (CmpOp.Eq) (PX.idx (PX.idx (PX.var 6) (PX.con (D.int 0))) (PX.con (D.int 4))) (PX.con (D.str [111, 110])))))
          [x0, x1, x2, x3, x4, some t.d, some (.lst ((r :: rs).map Rl.d)), x7, x8, x9, some (resD (judgedB rs t1 p1 a1)), x11, x12, x13] h = some (true, h) := by
        have := evB_and (G := G) (evB_cmp (x := .lst ((r :: rs).map Rl.d)) (y := .lst []) (op := .NotEq) (a := .var 6) (b := .lst []) (ρ := [x0, x1, x2, x3, x4, some t.d, some (.lst ((r :: rs).map Rl.d)), x7, x8, x9, some (resD (judgedB rs t1 p1 a1)), x11, x12, x13]) (h := h) (by simp) (by simp [ev, evs]) c1) (evB_cmp (x := r.deed.d) (y := .str [111, 110]) (op := .Eq) (a := PX.idx (PX.idx (PX.var 6) (PX.con (D.int 0))) (PX.con (D.int 4))) (b := .con (.str [111, 110])) (by simp [ev, idx_head, vw_rl, rl4]) (by simp) (by rw [vw_deed]; exact c2))
        rw [this, dd]
        rfl
      rw [et]
      exact e4
    · refine ⟨x12, x13, ?_⟩
      rw [exS]
      have et : evB G (PB.and (PB.val (PX.cmp (CmpOp.NotEq) (PX.var 6) (PX.lst []))) (PB.val (PX.cmp (CmpOp.Eq) (PX.idx (PX.idx (PX.var 6) (PX.con (D.int 0))) (PX.con (D.int 4))) (PX.con (D.str [111, 110])))))
          [x0, x1, x2, x3, x4, some t.d, some (.lst ((r :: rs).map Rl.d)), x7, x8, x9, some (resD (judgedB (r :: rs) t 100 0)), x11, x12, x13] h = some (false, h) := by
        have := evB_and (G := G) (evB_cmp (x := .lst ((r :: rs).map Rl.d)) (y := .lst []) (op := .NotEq) (a := .var 6) (b := .lst []) (ρ := [x0, x1, x2, x3, x4, some t.d, some (.lst ((r :: rs).map Rl.d)), x7, x8, x9, some (resD (judgedB (r :: rs) t 100 0)), x11, x12, x13]) (h := h) (by simp) (by simp [ev, evs]) c1) (evB_cmp (x := r.deed.d) (y := .str [111, 110]) (op := .Eq) (a := PX.idx (PX.idx (PX.var 6) (PX.con (D.int 0))) (PX.con (D.int 4))) (b := .con (.str [111, 110])) (by simp [ev, idx_head, vw_rl, rl4]) (by simp) (by rw [vw_deed]; exact c2))
        rw [this, decide_eq_false dd]
        rfl
      rw [et]
      simp [exSs]
end K11
set_option linter.all false
set_option maxRecDepth 100000
set_option maxHeartbeats 4000000
namespace K11
open MP PySem

theorem body_eq : bodyLaw = [PSt.asg (PTg.nm 2) (PX.call 5 [PX.call 4 [PX.var 0, PX.var 1], PX.var 1]),
    PSt.asg (PTg.nm 3) (PX.call 8 [PX.bin (Operator.FloorDiv) (PX.var 2) (PX.con (D.int 64))]),
    PSt.asg (PTg.nm 4) (PX.call 6 [PX.bin (Operator.FloorDiv) (PX.var 2) (PX.bin (Operator.Pow) (PX.con (D.int 2)) (PX.con (D.int 30))), PX.con (D.int 5)]),
    PSt.asg (PTg.nm 5) (PX.call 10 [PX.bin (Operator.FloorDiv) (PX.var 2) (PX.bin (Operator.Pow) (PX.con (D.int 2)) (PX.con (D.int 40))), PX.var 3, PX.idx (PX.var 4) (PX.con (D.int 0)), PX.var 4]),
    PSt.asg (PTg.nm 6) (PX.comp (PX.call 11 [PX.call 5 [PX.call 4 [PX.var 3, PX.bin (Operator.Add) (PX.var 1) (PX.var 0)], PX.bin (Operator.Add) (PX.bin (Operator.Add) (PX.var 1) (PX.var 0)) (PX.con (D.int 30))], PX.var 2, PX.var 4]) none (PI.rng (PX.bin (Operator.Mod) (PX.var 2) (PX.con (D.int 6)))) [1, 3, 0, 4]),
    PSt.forS (PTg.nm 7) (PI.seq (PX.var 6)) bodyF,
    PSt.asg (PTg.nm 9) (PX.blt (Bl.list) [PX.var 6]),
    PSt.asg (PTg.nm 10) (PX.call 3 [PX.var 9, PX.var 5]),
    PSt.asg (PTg.nm 11) (PX.call 13 [PX.var 6, PX.var 5]),
    testA, testB] := rfl

theorem rules_of {l : List D} (h : ∀ x ∈ l, ∃ r : Rl, x = r.d ∧ r.Ok) : ∃ rs : List Rl, l = rs.map Rl.d ∧ ∀ r ∈ rs, r.Ok := by
  induction l with
  | nil => exact ⟨[], rfl, by simp⟩
  | cons a l ih =>
    obtain ⟨i, rfl, p⟩ := h a List.mem_cons_self
    obtain ⟨is, e, q⟩ := ih fun x hx => h x (List.mem_cons_of_mem _ hx)
    exact ⟨i :: is, by rw [e]; rfl, by simpa using ⟨p, q⟩⟩

theorem turnLaw {G : List Den} (H : GOk G) (h : AH) (sc : List Int) (hsc : sc.length ≤ 63) (k : Nat) (hk : k < 6) (x2 x3 x4 x5 x6 x7 x8 x9 x10 x11 x12 x13 : Option D) :
    Nexts (EnvL sc) h (exSs G bodyLaw [some (.lst (sc.map .int)), some (.int (k : Int)), x2, x3, x4, x5, x6, x7, x8, x9, x10, x11, x12, x13] h) := by
  obtain ⟨fF, gF, pF⟩ := H.fits
  obtain ⟨fJ, gJ, pJ⟩ := H.judged
  obtain ⟨fC, gC, pC⟩ := H.cell
  obtain ⟨fD, gD, pD⟩ := H.drawn
  obtain ⟨fN, gN, pN⟩ := H.numbers
  obtain ⟨fP, gP, pP⟩ := H.prefixes
  obtain ⟨fR, gR, pR⟩ := H.route
  obtain ⟨fU, gU, pU⟩ := H.rule
  obtain ⟨fLF, gLF, pLF⟩ := H.lfits
  obtain ⟨fLJ, gLJ, pLJ⟩ := H.ljudged
  rw [body_eq]
  -- more
  refine st_asg (Post := Nexts (EnvL sc) h) (P := fun d => ∃ i : Int, d = .int i ∧ 0 ≤ i) (ep_call (PL := fun ds => ∃ c : Int, ds = [.int c, .int (k : Int)]) gD (el_two (P1 := fun d => ∃ c : Int, d = .int c) (P2 := fun d => d = .int (k : Int)) (ep_call (PL := fun ds => ds = [.lst (sc.map .int), .int (k : Int)]) gC
    (el_two (P1 := fun d => d = .lst (sc.map .int)) (P2 := fun d => d = .int (k : Int)) (ep_var (by simp) rfl) (ep_var (by simp) rfl) fun d d2 e e2 => by rw [e, e2]) ?_) (ep_var (by simp) rfl) fun d d2 ⟨c, e⟩ e2 => ⟨c, by rw [e, e2]⟩) ?_) ?_
  · rintro _ rfl
    obtain ⟨i, e⟩ := pC sc k h hsc (by omega) (by omega)
    exact ⟨_, ⟨i, rfl⟩, e⟩
  · rintro _ ⟨c, rfl⟩
    obtain ⟨i, i0, e⟩ := pD c k h (by omega) (by omega)
    exact ⟨_, ⟨i, rfl, i0⟩, e⟩
  rintro _ ⟨m, rfl, m0⟩
  simp only [List.set_cons_succ, List.set_cons_zero]
  -- prefixes
  refine st_asg (Post := Nexts (EnvL sc) h) (P := fun d => ∃ l : List (List Nat), d = .lst (l.map .str) ∧ l.length = 7 ∧ ∀ x ∈ l, PfxOk x) (ep_call (PL := fun ds => ∃ c : Int, ds = [.int c]) gP (el_one (P1 := fun d => ∃ c : Int, d = .int c) (EvI.p (P := fun _ => True) (ei_fdivC (P := fun _ => True) (ei_var (i := m) (by simp) trivial) fun _ _ => trivial) fun i _ => ⟨i, rfl⟩) fun d ⟨c, e⟩ => ⟨c, by rw [e]⟩) ?_) ?_
  · rintro _ ⟨c, rfl⟩
    obtain ⟨l, l7, ok, e⟩ := pP c h
    exact ⟨_, ⟨l, rfl, l7, ok⟩, e⟩
  rintro _ ⟨P, rfl, P7, Pok⟩
  have Pne : P ≠ [] := by intro e; rw [e] at P7; cases P7
  simp only [List.set_cons_succ, List.set_cons_zero]
  -- numbers
  refine st_asg (Post := Nexts (EnvL sc) h) (P := fun d => ∃ l : List Int, d = .lst (l.map .int) ∧ l.length = 5) (ep_call (PL := fun ds => ∃ c : Int, ds = [.int c, .int 5]) gN (el_two (P1 := fun d => ∃ c : Int, d = .int c) (P2 := fun d => d = .int 5) (EvI.p (P := fun _ => True) (ei_fdivP (P := fun _ => True) (ei_var (i := m) (by simp) trivial) fun _ _ => trivial) fun i _ => ⟨i, rfl⟩) (ep_con rfl) fun d d2 ⟨c, e⟩ e2 => ⟨c, by rw [e, e2]⟩) ?_) ?_
  · rintro _ ⟨c, rfl⟩
    obtain ⟨l, l5, ok, e⟩ := pN c h
    exact ⟨_, ⟨l, rfl, l5⟩, e⟩
  rintro _ ⟨S, rfl, S5⟩
  have Sne : S ≠ [] := by intro e; rw [e] at S5; cases S5
  simp only [List.set_cons_succ, List.set_cons_zero]
  -- route
  refine st_asg (Post := Nexts (EnvL sc) h) (P := fun d => ∃ t : Rt, d = t.d ∧ t.Ok) (ep_call (PL := fun ds => ∃ c a : Int, ds = [.int c, .lst (P.map .str), .int a, .lst (S.map .int)]) gR (el_cons (P1 := fun d => ∃ c : Int, d = .int c) (P2 := fun ds => ∃ a : Int, ds = [.lst (P.map .str), .int a, .lst (S.map .int)])
    (EvI.p (P := fun _ => True) (ei_fdivP (P := fun _ => True) (ei_var (i := m) (by simp) trivial) fun _ _ => trivial) fun i _ => ⟨i, rfl⟩)
    (el_cons (P1 := fun d => d = .lst (P.map .str)) (P2 := fun ds => ∃ a : Int, ds = [.int a, .lst (S.map .int)]) (ep_var (by simp) rfl)
      (el_two (P1 := fun d => ∃ a : Int, d = .int a) (P2 := fun d => d = .lst (S.map .int)) ?_ (ep_var (by simp) rfl) fun d d2 ⟨a, e⟩ e2 => ⟨a, by rw [e, e2]⟩) fun d ds e ⟨a, e2⟩ => ⟨a, by rw [e, e2]⟩)
    fun d ds ⟨c, e⟩ ⟨a, e2⟩ => ⟨c, a, by rw [e, e2]⟩) ?_) ?_
  · refine ep_idx (n := 5) (ep_var (by simp) ⟨S.map .int, rfl, by simpa using S5, ints_sub S⟩) (ei_con ⟨by decide, by decide⟩)
  · rintro _ ⟨c, a, rfl⟩
    obtain ⟨t, ok, e⟩ := pR c P a S h Pne Pok Sne
    exact ⟨_, ⟨t, rfl, ok⟩, e⟩
  rintro _ ⟨t, rfl, tok⟩
  simp only [List.set_cons_succ, List.set_cons_zero]
  -- rules
  refine st_asg (Post := Nexts (EnvL sc) h) (P := fun d => ∃ rs : List Rl, d = .lst (rs.map Rl.d) ∧ ∀ r ∈ rs, r.Ok) (ep_compR (N := m % 6) (PD := fun d => ∃ r : Rl, d = r.d ∧ r.Ok) (ei_modC (P := fun x => x = m) (ei_var (i := m) (by simp) rfl) fun x e => by rw [e]) ⟨by omega, by omega⟩ (fun j hj => ?_) fun out ol op => ?_) ?_
  · have add1 : ∀ {ρ : Ev} {h : AH}, getV ρ 1 = some (.int (k : Int)) → getV ρ 0 = some (.int (j : Int)) → EvI G (PX.bin (Operator.Add) (PX.var 1) (PX.var 0)) ρ h fun i => i = (k : Int) + j := fun g1 g0 => ei_add (P := fun i => i = (k : Int)) (Q := fun i => i = (j : Int)) (ei_var g1 rfl) (ei_var g0 rfl) fun x y e1 e2 => by rw [e1, e2]
    refine ep_call (PL := fun ds => ∃ c : Int, ds = [.int c, .lst (P.map .str), .lst (S.map .int)]) gU (el_cons (P1 := fun d => ∃ c : Int, d = .int c) (P2 := fun ds => ds = [.lst (P.map .str), .lst (S.map .int)]) ?_
      (el_two (P1 := fun d => d = .lst (P.map .str)) (P2 := fun d => d = .lst (S.map .int)) (ep_var (by simp) rfl) (ep_var (by simp) rfl) fun d d2 e e2 => by rw [e, e2]) fun d ds ⟨c, e⟩ e2 => ⟨c, by rw [e, e2]⟩) ?_
    · refine ep_call (PL := fun ds => ∃ c : Int, ds = [.int c, .int ((k : Int) + j + 30)]) gD (el_two (P1 := fun d => ∃ c : Int, d = .int c) (P2 := fun d => d = .int ((k : Int) + j + 30)) (ep_call (PL := fun ds => ds = [.lst (sc.map .int), .int ((k : Int) + j)]) gC
        (el_two (P1 := fun d => d = .lst (sc.map .int)) (P2 := fun d => d = .int ((k : Int) + j)) (ep_var (by simp) rfl) (EvI.p (add1 (by simp) (by simp)) fun i e => by rw [e]) fun d d2 e e2 => by rw [e, e2]) ?_)
        (EvI.p (ei_add (Q := fun i => i = 30) (R := fun i => i = (k : Int) + j + 30) (add1 (by simp) (by simp)) (ei_con rfl) fun x y e1 e2 => by rw [e1, e2]) fun i e => by rw [e]) fun d d2 ⟨c, e⟩ e2 => ⟨c, by rw [e, e2]⟩) ?_
      · rintro _ rfl
        obtain ⟨i, e⟩ := pC sc (k + j) h hsc (by omega) (by omega)
        exact ⟨_, ⟨i, rfl⟩, e⟩
      · rintro _ ⟨c, rfl⟩
        obtain ⟨i, i0, e⟩ := pD c (k + j + 30) h (by omega) (by omega)
        exact ⟨_, ⟨i, rfl⟩, e⟩
    · rintro _ ⟨c, rfl⟩
      obtain ⟨r, ok, e⟩ := pU c P S h Pne Pok Sne
      exact ⟨_, ⟨r, rfl, ok⟩, e⟩
  · obtain ⟨rs, rfl, ok⟩ := rules_of op
    exact ⟨rs, rfl, ok⟩
  rintro _ ⟨rs, rfl, rok⟩
  simp only [List.set_cons_succ, List.set_cons_zero]
  -- fits
  obtain ⟨y7, y8, ef⟩ := loopF gF pF gLF pLF h t tok (some (.lst (sc.map .int))) (some (.int (k : Int))) (some (.int m)) (some (.lst (P.map .str))) (some (.lst (S.map .int))) (some (.lst (rs.map Rl.d))) x9 x10 x11 x12 x13 rs x7 x8 rok
  have ef' := (exS_for (t := .nm 7) (b := bodyF) (G := G) (it := .seq (.var 6)) (ρ := [some (.lst (sc.map .int)), some (.int (k : Int)), some (.int m), some (.lst (P.map .str)), some (.lst (S.map .int)), some t.d, some (.lst (rs.map Rl.d)), x7, x8, x9, x10, x11, x12, x13]) (h := h) (evI_seq (d := .lst (rs.map Rl.d)) (by simp) rfl)).trans ef
  refine st_nx (Post := Nexts (EnvL sc) h) ef' ?_
  -- judged
  refine st_asg (Post := Nexts (EnvL sc) h) (P := fun d => d = .lst (rs.map Rl.d)) (ep_blt (PL := fun ds => ds = [.lst (rs.map Rl.d)]) (el_one (P1 := fun d => d = .lst (rs.map Rl.d)) (ep_var (by simp) rfl) fun d e => by rw [e]) fun ds e => ⟨_, rfl, by rw [e]; rfl⟩) ?_
  rintro _ rfl
  simp only [List.set_cons_succ, List.set_cons_zero]
  refine st_asg (Post := Nexts (EnvL sc) h) (P := fun d => d = resD (judgedB rs t 100 0)) (ep_call (PL := fun ds => ds = [.lst (rs.map Rl.d), t.d]) gJ (el_two (P1 := fun d => d = .lst (rs.map Rl.d)) (P2 := fun d => d = t.d) (ep_var (by simp) rfl) (ep_var (by simp) rfl) fun d d2 e e2 => by rw [e, e2]) fun ds e => ⟨_, rfl, by rw [e]; exact pJ rs t h tok rok⟩) ?_
  rintro _ rfl
  simp only [List.set_cons_succ, List.set_cons_zero]
  refine st_asg (Post := Nexts (EnvL sc) h) (P := fun d => d = resD (judgedB rs t 100 0)) (ep_call (PL := fun ds => ds = [.lst (rs.map Rl.d), t.d]) gLJ (el_two (P1 := fun d => d = .lst (rs.map Rl.d)) (P2 := fun d => d = t.d) (ep_var (by simp) rfl) (ep_var (by simp) rfl) fun d d2 e e2 => by rw [e, e2]) fun ds e => ⟨_, rfl, by rw [e]; exact pLJ rs t h tok rok⟩) ?_
  rintro _ rfl
  simp only [List.set_cons_succ, List.set_cons_zero]
  refine st_nx (Post := Nexts (EnvL sc) h) (testA_ok tok rok _ _ _ _ _ _ _ _ _ _) ?_
  obtain ⟨y12, y13, eB⟩ := testB_ok gJ pJ (h := h) tok rok (some (.lst (sc.map .int))) (some (.int (k : Int))) (some (.int m)) (some (.lst (P.map .str))) (some (.lst (S.map .int))) y7 y8 (some (.lst (rs.map Rl.d))) (some (resD (judgedB rs t 100 0))) x12 x13
  refine st_nx (Post := Nexts (EnvL sc) h) eB ?_
  rw [exSs]
  exact ⟨_, ⟨_, _, _, _, _, _, _, _, _, _, _, _, _, rfl⟩, rfl⟩

theorem loopLaw {G : List Den} (H : GOk G) (h : AH) (sc : List Int) (hsc : sc.length ≤ 63) : ∀ (ds : List Nat) (ρ : Ev), EnvL sc ρ → (∀ k ∈ ds, k < 6) → Nexts (EnvL sc) h (forL (forB G (.nm 1) bodyLaw) (ds.map fun i : Nat => D.int (i : Int)) ρ h) := by
  intro ds
  induction ds with
  | nil => intro ρ hρ _; exact ⟨ρ, hρ, rfl⟩
  | cons k ds ih =>
    intro ρ hρ hk
    obtain ⟨x1, x2, x3, x4, x5, x6, x7, x8, x9, x10, x11, x12, x13, rfl⟩ := hρ
    rw [List.map_cons, forL, forB_nm]
    simp only [List.set_cons_succ, List.set_cons_zero]
    obtain ⟨ρ', hρ', e⟩ := turnLaw H h sc hsc k (hk k List.mem_cons_self) x2 x3 x4 x5 x6 x7 x8 x9 x10 x11 x12 x13
    rw [e]
    exact ih ρ' hρ' fun j hj => hk j (List.mem_cons_of_mem _ hj)
theorem law_eq : p_law = [PSt.forS (PTg.nm 1) (PI.rng (PX.blt (Bl.max2) [PX.con (D.int 1), PX.blt (Bl.min2) [PX.con (D.int 6), PX.blt (Bl.len) [PX.var 0]]])) bodyLaw, PSt.ret (PX.con (D.bl true))] := rfl
def PLaw (f : Den) : Prop := ∀ (sc : List Int) (h : AH), sc.length ≤ 63 → f [.lst (sc.map .int)] h = .ok (.bl true) h
theorem law_ok {G : List Den} (H : GOk G) : PLaw (cutDen (runF G 1 14 p_law)) := by
  intro sc h hsc
  refine run_rt rfl ?_
  rw [law_eq]
  have e0 : startE 14 [.lst (sc.map .int)] = [some (.lst (sc.map .int)), none, none, none, none, none, none, none, none, none, none, none, none, none] := rfl
  rw [e0]
  have hn : EvI G (PX.blt (Bl.max2) [PX.con (D.int 1), PX.blt (Bl.min2) [PX.con (D.int 6), PX.blt (Bl.len) [PX.var 0]]]) [some (.lst (sc.map .int)), none, none, none, none, none, none, none, none, none, none, none, none, none] h fun n => 0 ≤ n ∧ n ≤ 6 := by
    refine ei_max2 (P := fun x => x = 1) (Q := fun x => x ≤ 6) (ei_con rfl) (ei_min2 (P := fun x => x = 6) (Q := fun _ => True) (ei_con rfl) (ei_lenL (PL := fun _ => True) (ep_var (d := .lst (sc.map .int)) (by simp) ⟨_, rfl, trivial⟩) fun _ _ => trivial) fun x y e _ => ?_) fun x y e q => ?_
    · subst e; split <;> omega
    · subst e; split <;> omega
  obtain ⟨n, ⟨n0, n6⟩, en⟩ := hn
  obtain ⟨ρ', _, e⟩ := loopLaw H h sc hsc (List.range n.toNat) [some (.lst (sc.map .int)), none, none, none, none, none, none, none, none, none, none, none, none, none] ⟨_, _, _, _, _, _, _, _, _, _, _, _, _, rfl⟩ (by intro k hk; have := List.mem_range.mp hk; omega)
  rw [exSs_nx ((exS_for (evI_rng en ⟨by omega, by omega⟩)).trans e)]
  simp [exSs, exS]
end K11
set_option Elab.async false
set_option linter.all false
set_option maxRecDepth 100000
set_option maxHeartbeats 0
namespace K11
open PySem MP L2
def top (i : Nat) : Stmt := PySem.Challenge.pw_plainpath_k11_judged.main.body.getD i (.Pass ⟨0, 0, 0, 0⟩)
def cts : List (Str × D) := [("MOST_TAGS", .int 4), ("FIRST_PREFERENCE", .int 100)]
def fns : List Str := ["holds", "fits", "changed_tags", "judged", "_law_cell", "_law_drawn", "_law_numbers", "_law_bits", "_law_prefixes", "_law_tags", "_law_route", "_law_rule", "_law_fits", "_law_judged"]
def blt : List Str := ["len", "sorted", "tuple", "range", "min", "max", "list", "int", "isinstance", "bool"]
def cc (i : Nat) (N : List Str) : CC := ⟨N, (defScope (top i)).names, cts, fns, blt, [58]⟩
theorem t_holds : cSs (defBody (top 3)) (cc 3 ["prefix", "text"]) = some p_holds := by rfl
theorem sc_holds : FnScope ["prefix", "text"] ["prefix", "text"] (defScope (top 3)) := ⟨rfl, rfl, rfl, by decide +kernel, rfl, by decide +kernel, by decide +kernel⟩
theorem t_fits : cSs (defBody (top 4)) (cc 4 ["rule", "route", "prefix", "number", "tag"]) = some p_fits := by rfl
theorem sc_fits : FnScope ["rule", "route", "prefix", "number", "tag"] ["rule", "route"] (defScope (top 4)) := ⟨rfl, rfl, rfl, by decide +kernel, rfl, by decide +kernel, by decide +kernel⟩
theorem t_changed_tags : cSs (defBody (top 5)) (cc 5 ["tags", "add", "take", "kept"]) = some p_changed_tags := by rfl
theorem sc_changed_tags : FnScope ["tags", "add", "take", "kept"] ["tags", "add", "take"] (defScope (top 5)) := ⟨rfl, rfl, rfl, by decide +kernel, rfl, by decide +kernel, by decide +kernel⟩
theorem t_judged : cSs (defBody (top 6)) (cc 6 ["rules", "route", "preference", "ahead", "current", "rule", "deed"]) = some p_judged := by rfl
theorem sc_judged : FnScope ["rules", "route", "preference", "ahead", "current", "rule", "deed"] ["rules", "route"] (defScope (top 6)) := ⟨rfl, rfl, rfl, by decide +kernel, rfl, by decide +kernel, by decide +kernel⟩
theorem t_cell : cSs (defBody (top 8)) (cc 8 ["_law_script", "_law_k"]) = some p_cell := by rfl
theorem sc_cell : FnScope ["_law_script", "_law_k"] ["_law_script", "_law_k"] (defScope (top 8)) := ⟨rfl, rfl, rfl, by decide +kernel, rfl, by decide +kernel, by decide +kernel⟩
theorem t_drawn : cSs (defBody (top 9)) (cc 9 ["_law_cell_here", "_law_k", "_law_more"]) = some p_drawn := by rfl
theorem sc_drawn : FnScope ["_law_cell_here", "_law_k", "_law_more"] ["_law_cell_here", "_law_k"] (defScope (top 9)) := ⟨rfl, rfl, rfl, by decide +kernel, rfl, by decide +kernel, by decide +kernel⟩
theorem t_numbers : cSs (defBody (top 10)) (cc 10 ["_law_more", "_law_many", "_law_step"]) = some p_numbers := by rfl
theorem sc_numbers : FnScope ["_law_more", "_law_many", "_law_step"] ["_law_more", "_law_many"] (defScope (top 10)) := ⟨rfl, rfl, rfl, by decide +kernel, rfl, by decide +kernel, by decide +kernel⟩
theorem t_bits : cSs (defBody (top 11)) (cc 11 ["_law_more", "_law_many"]) = some p_bits := by rfl
theorem sc_bits : FnScope ["_law_more", "_law_many"] ["_law_more", "_law_many"] (defScope (top 11)) := ⟨rfl, rfl, rfl, by decide +kernel, rfl, by decide +kernel, by decide +kernel⟩
theorem t_prefixes : cSs (defBody (top 12)) (cc 12 ["_law_more", "_law_stem", "_law_found"]) = some p_prefixes := by rfl
theorem sc_prefixes : FnScope ["_law_more", "_law_stem", "_law_found"] ["_law_more"] (defScope (top 12)) := ⟨rfl, rfl, rfl, by decide +kernel, rfl, by decide +kernel, by decide +kernel⟩
theorem t_tags : cSs (defBody (top 13)) (cc 13 ["_law_more", "_law_some"]) = some p_tags := by rfl
theorem sc_tags : FnScope ["_law_more", "_law_some"] ["_law_more"] (defScope (top 13)) := ⟨rfl, rfl, rfl, by decide +kernel, rfl, by decide +kernel, by decide +kernel⟩
theorem t_route : cSs (defBody (top 14)) (cc 14 ["_law_more", "_law_prefixes_here", "_law_first", "_law_some", "_law_path", "_law_k", "_law_weight"]) = some p_route := by rfl
theorem sc_route : FnScope ["_law_more", "_law_prefixes_here", "_law_first", "_law_some", "_law_path", "_law_k", "_law_weight"] ["_law_more", "_law_prefixes_here", "_law_first", "_law_some"] (defScope (top 14)) := ⟨rfl, rfl, rfl, by decide +kernel, rfl, by decide +kernel, by decide +kernel⟩
theorem t_rule : cSs (defBody (top 15)) (cc 15 ["_law_more", "_law_prefixes_here", "_law_some", "_law_prefix", "_law_longest", "_law_number", "_law_tag", "_law_deed", "_law_prefer"]) = some p_rule := by rfl
theorem sc_rule : FnScope ["_law_more", "_law_prefixes_here", "_law_some", "_law_prefix", "_law_longest", "_law_number", "_law_tag", "_law_deed", "_law_prefer"] ["_law_more", "_law_prefixes_here", "_law_some"] (defScope (top 15)) := ⟨rfl, rfl, rfl, by decide +kernel, rfl, by decide +kernel, by decide +kernel⟩
theorem t_lfits : cSs (defBody (top 16)) (cc 16 ["_law_rule_here", "_law_route_here"]) = some p_lfits := by rfl
theorem sc_lfits : FnScope ["_law_rule_here", "_law_route_here"] ["_law_rule_here", "_law_route_here"] (defScope (top 16)) := ⟨rfl, rfl, rfl, by decide +kernel, rfl, by decide +kernel, by decide +kernel⟩
theorem t_ljudged : cSs (defBody (top 17)) (cc 17 ["_law_rules", "_law_route_here", "_law_prefer", "_law_ahead", "_law_rule_here", "_law_tags_here"]) = some p_ljudged := by rfl
theorem sc_ljudged : FnScope ["_law_rules", "_law_route_here", "_law_prefer", "_law_ahead", "_law_rule_here", "_law_tags_here"] ["_law_rules", "_law_route_here"] (defScope (top 17)) := ⟨rfl, rfl, rfl, by decide +kernel, rfl, by decide +kernel, by decide +kernel⟩
theorem t_law : cSs (defBody (top 18)) (cc 18 ["_law_script", "_law_k", "_law_more", "_law_prefixes_here", "_law_some", "_law_route_here", "_law_rules", "_law_rule_here", "_law_told", "_law_handed", "_law_found", "_law_due", "_law_first", "_law_rest"]) = some p_law := by rfl
theorem sc_law : FnScope ["_law_script", "_law_k", "_law_more", "_law_prefixes_here", "_law_some", "_law_route_here", "_law_rules", "_law_rule_here", "_law_told", "_law_handed", "_law_found", "_law_due", "_law_first", "_law_rest"] ["_law_script"] (defScope (top 18)) := ⟨rfl, rfl, rfl, by decide +kernel, rfl, by decide +kernel, by decide +kernel⟩
noncomputable def d_holds : Den := cutDen (runF [] 2 2 p_holds)
noncomputable def d_fits : Den := cutDen (runF [d_holds] 2 5 p_fits)
noncomputable def d_changed_tags : Den := cutDen (runF [d_holds, d_fits] 3 4 p_changed_tags)
noncomputable def d_judged : Den := cutDen (runF [d_holds, d_fits, d_changed_tags] 2 7 p_judged)
noncomputable def d_cell : Den := cutDen (runF [d_holds, d_fits, d_changed_tags, d_judged] 2 2 p_cell)
noncomputable def d_drawn : Den := cutDen (runF [d_holds, d_fits, d_changed_tags, d_judged, d_cell] 2 3 p_drawn)
noncomputable def d_numbers : Den := cutDen (runF [d_holds, d_fits, d_changed_tags, d_judged, d_cell, d_drawn] 2 3 p_numbers)
noncomputable def d_bits : Den := cutDen (runF [d_holds, d_fits, d_changed_tags, d_judged, d_cell, d_drawn, d_numbers] 2 2 p_bits)
noncomputable def d_prefixes : Den := cutDen (runF [d_holds, d_fits, d_changed_tags, d_judged, d_cell, d_drawn, d_numbers, d_bits] 1 3 p_prefixes)
noncomputable def d_tags : Den := cutDen (runF [d_holds, d_fits, d_changed_tags, d_judged, d_cell, d_drawn, d_numbers, d_bits, d_prefixes] 1 2 p_tags)
noncomputable def d_route : Den := cutDen (runF [d_holds, d_fits, d_changed_tags, d_judged, d_cell, d_drawn, d_numbers, d_bits, d_prefixes, d_tags] 4 7 p_route)
noncomputable def d_rule : Den := cutDen (runF [d_holds, d_fits, d_changed_tags, d_judged, d_cell, d_drawn, d_numbers, d_bits, d_prefixes, d_tags, d_route] 3 9 p_rule)
noncomputable def d_lfits : Den := cutDen (runF [d_holds, d_fits, d_changed_tags, d_judged, d_cell, d_drawn, d_numbers, d_bits, d_prefixes, d_tags, d_route, d_rule] 2 2 p_lfits)
noncomputable def d_ljudged : Den := cutDen (runF [d_holds, d_fits, d_changed_tags, d_judged, d_cell, d_drawn, d_numbers, d_bits, d_prefixes, d_tags, d_route, d_rule, d_lfits] 2 6 p_ljudged)
noncomputable def d_law : Den := cutDen (runF [d_holds, d_fits, d_changed_tags, d_judged, d_cell, d_drawn, d_numbers, d_bits, d_prefixes, d_tags, d_route, d_rule, d_lfits, d_ljudged] 1 14 p_law)

theorem x_holds : PHolds d_holds := holds_ok
theorem x_fits : PFits d_fits := fits_ok rfl x_holds
theorem x_changed : PChanged d_changed_tags := changed_ok
theorem x_judged : PJudged d_judged := judged_ok rfl x_fits rfl x_changed
theorem x_cell : PCell d_cell := cell_ok
theorem x_drawn : PDrawn d_drawn := drawn_ok
theorem x_numbers : PNumbers d_numbers := numbers_ok
theorem x_bits : PBits d_bits := bits_ok
theorem x_prefixes : PPrefixes d_prefixes := prefixes_ok rfl x_bits
theorem x_tags : PTags d_tags := tags_ok
theorem x_route : PRoute d_route := route_ok rfl x_tags
theorem x_rule : PRule d_rule := rule_ok
theorem x_lfits : PFits d_lfits := lfits_ok
theorem x_ljudged : PJudged d_ljudged := ljudged_ok rfl x_lfits
theorem x_law : PLaw d_law := law_ok ⟨⟨_, rfl, x_fits⟩, ⟨_, rfl, x_judged⟩, ⟨_, rfl, x_cell⟩, ⟨_, rfl, x_drawn⟩, ⟨_, rfl, x_numbers⟩, ⟨_, rfl, x_prefixes⟩, ⟨_, rfl, x_route⟩, ⟨_, rfl, x_rule⟩, ⟨_, rfl, x_lfits⟩, ⟨_, rfl, x_ljudged⟩⟩
end K11
set_option Elab.async false
set_option linter.all false
set_option maxRecDepth 100000
set_option maxHeartbeats 4000000
namespace K11
open PySem MP L2
theorem all_mk {l : PySem.W.OpenLaw} {w : World} {K : PySem.W.Frag} {h : Heap} {mg : Str → Option Value} {fa f0 f1 f2 f3 f4 f5 f6 f7 f8 f9 f10 f11 f12 f13 f14 : Addr} (X : K.In h) (G : h.Ns mainGlobals mg) (hfa : mg "law" = some (.ref fa))
    {od0 an0 : Option Addr} {sl0 : Array (Option Value)} {oc0 kV0 dc0 pm0 cd0 ct0 : Value} {od1 an1 : Option Addr} {sl1 : Array (Option Value)} {oc1 kV1 dc1 pm1 cd1 ct1 : Value} {od2 an2 : Option Addr} {sl2 : Array (Option Value)} {oc2 kV2 dc2 pm2 cd2 ct2 : Value} {od3 an3 : Option Addr} {sl3 : Array (Option Value)} {oc3 kV3 dc3 pm3 cd3 ct3 : Value} {od4 an4 : Option Addr} {sl4 : Array (Option Value)} {oc4 kV4 dc4 pm4 cd4 ct4 : Value} {od5 an5 : Option Addr} {sl5 : Array (Option Value)} {oc5 kV5 dc5 pm5 cd5 ct5 : Value} {od6 an6 : Option Addr} {sl6 : Array (Option Value)} {oc6 kV6 dc6 pm6 cd6 ct6 : Value} {od7 an7 : Option Addr} {sl7 : Array (Option Value)} {oc7 kV7 dc7 pm7 cd7 ct7 : Value} {od8 an8 : Option Addr} {sl8 : Array (Option Value)} {oc8 kV8 dc8 pm8 cd8 ct8 : Value} {od9 an9 : Option Addr} {sl9 : Array (Option Value)} {oc9 kV9 dc9 pm9 cd9 ct9 : Value} {od10 an10 : Option Addr} {sl10 : Array (Option Value)} {oc10 kV10 dc10 pm10 cd10 ct10 : Value} {od11 an11 : Option Addr} {sl11 : Array (Option Value)} {oc11 kV11 dc11 pm11 cd11 ct11 : Value} {od12 an12 : Option Addr} {sl12 : Array (Option Value)} {oc12 kV12 dc12 pm12 cd12 ct12 : Value} {od13 an13 : Option Addr} {sl13 : Array (Option Value)} {oc13 kV13 dc13 pm13 cd13 ct13 : Value} {od14 an14 : Option Addr} {sl14 : Array (Option Value)} {oc14 kV14 dc14 pm14 cd14 ct14 : Value} {tk0 tk1 : Tok}
    (a0 : PySem.W.nsIn K mainGlobals "holds" = some (some (.ref f0))) (l0 : K.lookup f0 = some ⟨oc0, od0, .func (PySem.W.fnOf "holds" "holds" (defArgs (top 3)) (defBody (top 3)) (defScope (top 3)) .none kV0 dc0 pm0 an0 cd0 ct0), sl0⟩) (c0 : PySem.W.codeIn K cd0 "holds" = true) (k0 : PySem.W.keepIn K (.ref f0) = true)
    (a1 : PySem.W.nsIn K mainGlobals "fits" = some (some (.ref f1))) (l1 : K.lookup f1 = some ⟨oc1, od1, .func (PySem.W.fnOf "fits" "fits" (defArgs (top 4)) (defBody (top 4)) (defScope (top 4)) .none kV1 dc1 pm1 an1 cd1 ct1), sl1⟩) (c1 : PySem.W.codeIn K cd1 "fits" = true) (k1 : PySem.W.keepIn K (.ref f1) = true)
    (a2 : PySem.W.nsIn K mainGlobals "changed_tags" = some (some (.ref f2))) (l2 : K.lookup f2 = some ⟨oc2, od2, .func (PySem.W.fnOf "changed_tags" "changed_tags" (defArgs (top 5)) (defBody (top 5)) (defScope (top 5)) .none kV2 dc2 pm2 an2 cd2 ct2), sl2⟩) (c2 : PySem.W.codeIn K cd2 "changed_tags" = true) (k2 : PySem.W.keepIn K (.ref f2) = true)
    (a3 : PySem.W.nsIn K mainGlobals "judged" = some (some (.ref f3))) (l3 : K.lookup f3 = some ⟨oc3, od3, .func (PySem.W.fnOf "judged" "judged" (defArgs (top 6)) (defBody (top 6)) (defScope (top 6)) .none kV3 dc3 pm3 an3 cd3 ct3), sl3⟩) (c3 : PySem.W.codeIn K cd3 "judged" = true) (k3 : PySem.W.keepIn K (.ref f3) = true)
    (a4 : PySem.W.nsIn K mainGlobals "_law_cell" = some (some (.ref f4))) (l4 : K.lookup f4 = some ⟨oc4, od4, .func (PySem.W.fnOf "_law_cell" "_law_cell" (defArgs (top 8)) (defBody (top 8)) (defScope (top 8)) .none kV4 dc4 pm4 an4 cd4 ct4), sl4⟩) (c4 : PySem.W.codeIn K cd4 "_law_cell" = true) (k4 : PySem.W.keepIn K (.ref f4) = true)
    (a5 : PySem.W.nsIn K mainGlobals "_law_drawn" = some (some (.ref f5))) (l5 : K.lookup f5 = some ⟨oc5, od5, .func (PySem.W.fnOf "_law_drawn" "_law_drawn" (defArgs (top 9)) (defBody (top 9)) (defScope (top 9)) .none kV5 dc5 pm5 an5 cd5 ct5), sl5⟩) (c5 : PySem.W.codeIn K cd5 "_law_drawn" = true) (k5 : PySem.W.keepIn K (.ref f5) = true)
    (a6 : PySem.W.nsIn K mainGlobals "_law_numbers" = some (some (.ref f6))) (l6 : K.lookup f6 = some ⟨oc6, od6, .func (PySem.W.fnOf "_law_numbers" "_law_numbers" (defArgs (top 10)) (defBody (top 10)) (defScope (top 10)) .none kV6 dc6 pm6 an6 cd6 ct6), sl6⟩) (c6 : PySem.W.codeIn K cd6 "_law_numbers" = true) (k6 : PySem.W.keepIn K (.ref f6) = true)
    (a7 : PySem.W.nsIn K mainGlobals "_law_bits" = some (some (.ref f7))) (l7 : K.lookup f7 = some ⟨oc7, od7, .func (PySem.W.fnOf "_law_bits" "_law_bits" (defArgs (top 11)) (defBody (top 11)) (defScope (top 11)) .none kV7 dc7 pm7 an7 cd7 ct7), sl7⟩) (c7 : PySem.W.codeIn K cd7 "_law_bits" = true) (k7 : PySem.W.keepIn K (.ref f7) = true)
    (a8 : PySem.W.nsIn K mainGlobals "_law_prefixes" = some (some (.ref f8))) (l8 : K.lookup f8 = some ⟨oc8, od8, .func (PySem.W.fnOf "_law_prefixes" "_law_prefixes" (defArgs (top 12)) (defBody (top 12)) (defScope (top 12)) .none kV8 dc8 pm8 an8 cd8 ct8), sl8⟩) (c8 : PySem.W.codeIn K cd8 "_law_prefixes" = true) (k8 : PySem.W.keepIn K (.ref f8) = true)
    (a9 : PySem.W.nsIn K mainGlobals "_law_tags" = some (some (.ref f9))) (l9 : K.lookup f9 = some ⟨oc9, od9, .func (PySem.W.fnOf "_law_tags" "_law_tags" (defArgs (top 13)) (defBody (top 13)) (defScope (top 13)) .none kV9 dc9 pm9 an9 cd9 ct9), sl9⟩) (c9 : PySem.W.codeIn K cd9 "_law_tags" = true) (k9 : PySem.W.keepIn K (.ref f9) = true)
    (a10 : PySem.W.nsIn K mainGlobals "_law_route" = some (some (.ref f10))) (l10 : K.lookup f10 = some ⟨oc10, od10, .func (PySem.W.fnOf "_law_route" "_law_route" (defArgs (top 14)) (defBody (top 14)) (defScope (top 14)) .none kV10 dc10 pm10 an10 cd10 ct10), sl10⟩) (c10 : PySem.W.codeIn K cd10 "_law_route" = true) (k10 : PySem.W.keepIn K (.ref f10) = true)
    (a11 : PySem.W.nsIn K mainGlobals "_law_rule" = some (some (.ref f11))) (l11 : K.lookup f11 = some ⟨oc11, od11, .func (PySem.W.fnOf "_law_rule" "_law_rule" (defArgs (top 15)) (defBody (top 15)) (defScope (top 15)) .none kV11 dc11 pm11 an11 cd11 ct11), sl11⟩) (c11 : PySem.W.codeIn K cd11 "_law_rule" = true) (k11 : PySem.W.keepIn K (.ref f11) = true)
    (a12 : PySem.W.nsIn K mainGlobals "_law_fits" = some (some (.ref f12))) (l12 : K.lookup f12 = some ⟨oc12, od12, .func (PySem.W.fnOf "_law_fits" "_law_fits" (defArgs (top 16)) (defBody (top 16)) (defScope (top 16)) .none kV12 dc12 pm12 an12 cd12 ct12), sl12⟩) (c12 : PySem.W.codeIn K cd12 "_law_fits" = true) (k12 : PySem.W.keepIn K (.ref f12) = true)
    (a13 : PySem.W.nsIn K mainGlobals "_law_judged" = some (some (.ref f13))) (l13 : K.lookup f13 = some ⟨oc13, od13, .func (PySem.W.fnOf "_law_judged" "_law_judged" (defArgs (top 17)) (defBody (top 17)) (defScope (top 17)) .none kV13 dc13 pm13 an13 cd13 ct13), sl13⟩) (c13 : PySem.W.codeIn K cd13 "_law_judged" = true) (k13 : PySem.W.keepIn K (.ref f13) = true)
    (a14 : PySem.W.nsIn K mainGlobals "law" = some (some (.ref f14))) (l14 : K.lookup f14 = some ⟨oc14, od14, .func (PySem.W.fnOf "law" "law" (defArgs (top 18)) (defBody (top 18)) (defScope (top 18)) .none kV14 dc14 pm14 an14 cd14 ct14), sl14⟩) (c14 : PySem.W.codeIn K cd14 "law" = true) (k14 : PySem.W.keepIn K (.ref f14) = true)
    (m0 : PySem.W.nsIn K mainGlobals "MOST_TAGS" = some (some (.int 4 tk0)))
    (m1 : PySem.W.nsIn K mainGlobals "FIRST_PREFERENCE" = some (some (.int 100 tk1)))
    (z0 : PySem.W.nsIn K mainGlobals "len" = some none)
    (z1 : PySem.W.nsIn K mainGlobals "sorted" = some none)
    (z2 : PySem.W.nsIn K mainGlobals "tuple" = some none)
    (z3 : PySem.W.nsIn K mainGlobals "range" = some none)
    (z4 : PySem.W.nsIn K mainGlobals "min" = some none)
    (z5 : PySem.W.nsIn K mainGlobals "max" = some none)
    (z6 : PySem.W.nsIn K mainGlobals "list" = some none)
    (z7 : PySem.W.nsIn K mainGlobals "int" = some none)
    (z8 : PySem.W.nsIn K mainGlobals "isinstance" = some none)
    (z9 : PySem.W.nsIn K mainGlobals "bool" = some none)
    : ∃ fd : FuncData, (∀ (s : Shared) (v : Value), BindsTo s fd ⟨[v], []⟩ [("_law_script", v)]) ∧ ∀ base : Heap, K.In base → base.Ns mainGlobals mg → FnOk l.prog w K mg base CX0 16 fa fd ["_law_script"] (spOf K 1 d_law) := by
  have e := hfa.symm.trans (PySem.W.mg_of X G a14)
  cases e
  have F0 := fun_mk (st := top 3) l0 c0 k0
  have b0 := F0.binds (ps := ["prefix", "text"]) fun _ _ _ _ _ _ us hl => match us, hl with | [_, _], _ => rfl
  have F1 := fun_mk (st := top 4) l1 c1 k1
  have b1 := F1.binds (ps := ["rule", "route"]) fun _ _ _ _ _ _ us hl => match us, hl with | [_, _], _ => rfl
  have F2 := fun_mk (st := top 5) l2 c2 k2
  have b2 := F2.binds (ps := ["tags", "add", "take"]) fun _ _ _ _ _ _ us hl => match us, hl with | [_, _, _], _ => rfl
  have F3 := fun_mk (st := top 6) l3 c3 k3
  have b3 := F3.binds (ps := ["rules", "route"]) fun _ _ _ _ _ _ us hl => match us, hl with | [_, _], _ => rfl
  have F4 := fun_mk (st := top 8) l4 c4 k4
  have b4 := F4.binds (ps := ["_law_script", "_law_k"]) fun _ _ _ _ _ _ us hl => match us, hl with | [_, _], _ => rfl
  have F5 := fun_mk (st := top 9) l5 c5 k5
  have b5 := F5.binds (ps := ["_law_cell_here", "_law_k"]) fun _ _ _ _ _ _ us hl => match us, hl with | [_, _], _ => rfl
  have F6 := fun_mk (st := top 10) l6 c6 k6
  have b6 := F6.binds (ps := ["_law_more", "_law_many"]) fun _ _ _ _ _ _ us hl => match us, hl with | [_, _], _ => rfl
  have F7 := fun_mk (st := top 11) l7 c7 k7
  have b7 := F7.binds (ps := ["_law_more", "_law_many"]) fun _ _ _ _ _ _ us hl => match us, hl with | [_, _], _ => rfl
  have F8 := fun_mk (st := top 12) l8 c8 k8
  have b8 := F8.binds (ps := ["_law_more"]) fun _ _ _ _ _ _ us hl => match us, hl with | [_], _ => rfl
  have F9 := fun_mk (st := top 13) l9 c9 k9
  have b9 := F9.binds (ps := ["_law_more"]) fun _ _ _ _ _ _ us hl => match us, hl with | [_], _ => rfl
  have F10 := fun_mk (st := top 14) l10 c10 k10
  have b10 := F10.binds (ps := ["_law_more", "_law_prefixes_here", "_law_first", "_law_some"]) fun _ _ _ _ _ _ us hl => match us, hl with | [_, _, _, _], _ => rfl
  have F11 := fun_mk (st := top 15) l11 c11 k11
  have b11 := F11.binds (ps := ["_law_more", "_law_prefixes_here", "_law_some"]) fun _ _ _ _ _ _ us hl => match us, hl with | [_, _, _], _ => rfl
  have F12 := fun_mk (st := top 16) l12 c12 k12
  have b12 := F12.binds (ps := ["_law_rule_here", "_law_route_here"]) fun _ _ _ _ _ _ us hl => match us, hl with | [_, _], _ => rfl
  have F13 := fun_mk (st := top 17) l13 c13 k13
  have b13 := F13.binds (ps := ["_law_rules", "_law_route_here"]) fun _ _ _ _ _ _ us hl => match us, hl with | [_, _], _ => rfl
  have F14 := fun_mk (st := top 18) l14 c14 k14
  have b14 := F14.binds (ps := ["_law_script"]) fun _ _ _ _ _ _ us hl => match us, hl with | [_], _ => rfl
  have T : Txt mg K cts blt := by
    refine ⟨fun y d hy => ?_, fun y hy => ?_⟩
    · unfold cts at hy
      rw [List.lookup_cons] at hy
      split at hy
      · rename_i hq
        cases hy
        have : y = "MOST_TAGS" := eq_of_beq hq
        subst this
        exact ⟨_, .int 4, PySem.W.mg_of X G m0, ⟨_, rfl⟩, fun H th => .int 4⟩
      · rw [List.lookup_cons] at hy
        split at hy
        · rename_i hq
          cases hy
          have : y = "FIRST_PREFERENCE" := eq_of_beq hq
          subst this
          exact ⟨_, .int 100, PySem.W.mg_of X G m1, ⟨_, rfl⟩, fun H th => .int 100⟩
        · cases hy
    · have hy : y ∈ blt := by simpa using hy
      unfold blt at hy
      simp only [List.mem_cons, List.not_mem_nil, or_false] at hy
      rcases hy with rfl | rfl | rfl | rfl | rfl | rfl | rfl | rfl | rfl | rfl
      · exact PySem.W.mg_none_of X G z0
      · exact PySem.W.mg_none_of X G z1
      · exact PySem.W.mg_none_of X G z2
      · exact PySem.W.mg_none_of X G z3
      · exact PySem.W.mg_none_of X G z4
      · exact PySem.W.mg_none_of X G z5
      · exact PySem.W.mg_none_of X G z6
      · exact PySem.W.mg_none_of X G z7
      · exact PySem.W.mg_none_of X G z8
      · exact PySem.W.mg_none_of X G z9
  refine ⟨PySem.W.fnOf "law" "law" (defArgs (top 18)) (defBody (top 18)) (defScope (top 18)) .none kV14 dc14 pm14 an14 cd14 ct14, fun s v => .of_eq rfl, fun base _ _ => ?_⟩
  have X0 : FnX l.prog w K mg base 1 "holds" d_holds := fn_x (C := cc 3 _) (PySem.W.mg_of X G a0) F0 sc_holds b0 T rfl rfl t_holds (fun i y g h1 h2 => match i, h1, h2 with
    | q + 0, h1, h2 => by simp at h2)
  have X1 : FnX l.prog w K mg base 2 "fits" d_fits := fn_x (C := cc 4 _) (PySem.W.mg_of X G a1) F1 sc_fits b1 T rfl rfl t_fits (fun i y g h1 h2 => match i, h1, h2 with
    | 0, h1, h2 => by cases h1; cases h2; exact X0.mono (by decide)
    | q + 1, h1, h2 => by simp at h2)
  have X2 : FnX l.prog w K mg base 3 "changed_tags" d_changed_tags := fn_x (C := cc 5 _) (PySem.W.mg_of X G a2) F2 sc_changed_tags b2 T rfl rfl t_changed_tags (fun i y g h1 h2 => match i, h1, h2 with
    | 0, h1, h2 => by cases h1; cases h2; exact X0.mono (by decide)
    | 1, h1, h2 => by cases h1; cases h2; exact X1.mono (by decide)
    | q + 2, h1, h2 => by simp at h2)
  have X3 : FnX l.prog w K mg base 4 "judged" d_judged := fn_x (C := cc 6 _) (PySem.W.mg_of X G a3) F3 sc_judged b3 T rfl rfl t_judged (fun i y g h1 h2 => match i, h1, h2 with
    | 0, h1, h2 => by cases h1; cases h2; exact X0.mono (by decide)
    | 1, h1, h2 => by cases h1; cases h2; exact X1.mono (by decide)
    | 2, h1, h2 => by cases h1; cases h2; exact X2.mono (by decide)
    | q + 3, h1, h2 => by simp at h2)
  have X4 : FnX l.prog w K mg base 5 "_law_cell" d_cell := fn_x (C := cc 8 _) (PySem.W.mg_of X G a4) F4 sc_cell b4 T rfl rfl t_cell (fun i y g h1 h2 => match i, h1, h2 with
    | 0, h1, h2 => by cases h1; cases h2; exact X0.mono (by decide)
    | 1, h1, h2 => by cases h1; cases h2; exact X1.mono (by decide)
    | 2, h1, h2 => by cases h1; cases h2; exact X2.mono (by decide)
    | 3, h1, h2 => by cases h1; cases h2; exact X3.mono (by decide)
    | q + 4, h1, h2 => by simp at h2)
  have X5 : FnX l.prog w K mg base 6 "_law_drawn" d_drawn := fn_x (C := cc 9 _) (PySem.W.mg_of X G a5) F5 sc_drawn b5 T rfl rfl t_drawn (fun i y g h1 h2 => match i, h1, h2 with
    | 0, h1, h2 => by cases h1; cases h2; exact X0.mono (by decide)
    | 1, h1, h2 => by cases h1; cases h2; exact X1.mono (by decide)
    | 2, h1, h2 => by cases h1; cases h2; exact X2.mono (by decide)
    | 3, h1, h2 => by cases h1; cases h2; exact X3.mono (by decide)
    | 4, h1, h2 => by cases h1; cases h2; exact X4.mono (by decide)
    | q + 5, h1, h2 => by simp at h2)
  have X6 : FnX l.prog w K mg base 7 "_law_numbers" d_numbers := fn_x (C := cc 10 _) (PySem.W.mg_of X G a6) F6 sc_numbers b6 T rfl rfl t_numbers (fun i y g h1 h2 => match i, h1, h2 with
    | 0, h1, h2 => by cases h1; cases h2; exact X0.mono (by decide)
    | 1, h1, h2 => by cases h1; cases h2; exact X1.mono (by decide)
    | 2, h1, h2 => by cases h1; cases h2; exact X2.mono (by decide)
    | 3, h1, h2 => by cases h1; cases h2; exact X3.mono (by decide)
    | 4, h1, h2 => by cases h1; cases h2; exact X4.mono (by decide)
    | 5, h1, h2 => by cases h1; cases h2; exact X5.mono (by decide)
    | q + 6, h1, h2 => by simp at h2)
  have X7 : FnX l.prog w K mg base 8 "_law_bits" d_bits := fn_x (C := cc 11 _) (PySem.W.mg_of X G a7) F7 sc_bits b7 T rfl rfl t_bits (fun i y g h1 h2 => match i, h1, h2 with
    | 0, h1, h2 => by cases h1; cases h2; exact X0.mono (by decide)
    | 1, h1, h2 => by cases h1; cases h2; exact X1.mono (by decide)
    | 2, h1, h2 => by cases h1; cases h2; exact X2.mono (by decide)
    | 3, h1, h2 => by cases h1; cases h2; exact X3.mono (by decide)
    | 4, h1, h2 => by cases h1; cases h2; exact X4.mono (by decide)
    | 5, h1, h2 => by cases h1; cases h2; exact X5.mono (by decide)
    | 6, h1, h2 => by cases h1; cases h2; exact X6.mono (by decide)
    | q + 7, h1, h2 => by simp at h2)
  have X8 : FnX l.prog w K mg base 9 "_law_prefixes" d_prefixes := fn_x (C := cc 12 _) (PySem.W.mg_of X G a8) F8 sc_prefixes b8 T rfl rfl t_prefixes (fun i y g h1 h2 => match i, h1, h2 with
    | 0, h1, h2 => by cases h1; cases h2; exact X0.mono (by decide)
    | 1, h1, h2 => by cases h1; cases h2; exact X1.mono (by decide)
    | 2, h1, h2 => by cases h1; cases h2; exact X2.mono (by decide)
    | 3, h1, h2 => by cases h1; cases h2; exact X3.mono (by decide)
    | 4, h1, h2 => by cases h1; cases h2; exact X4.mono (by decide)
    | 5, h1, h2 => by cases h1; cases h2; exact X5.mono (by decide)
    | 6, h1, h2 => by cases h1; cases h2; exact X6.mono (by decide)
    | 7, h1, h2 => by cases h1; cases h2; exact X7.mono (by decide)
    | q + 8, h1, h2 => by simp at h2)
  have X9 : FnX l.prog w K mg base 10 "_law_tags" d_tags := fn_x (C := cc 13 _) (PySem.W.mg_of X G a9) F9 sc_tags b9 T rfl rfl t_tags (fun i y g h1 h2 => match i, h1, h2 with
    | 0, h1, h2 => by cases h1; cases h2; exact X0.mono (by decide)
    | 1, h1, h2 => by cases h1; cases h2; exact X1.mono (by decide)
    | 2, h1, h2 => by cases h1; cases h2; exact X2.mono (by decide)
    | 3, h1, h2 => by cases h1; cases h2; exact X3.mono (by decide)
    | 4, h1, h2 => by cases h1; cases h2; exact X4.mono (by decide)
    | 5, h1, h2 => by cases h1; cases h2; exact X5.mono (by decide)
    | 6, h1, h2 => by cases h1; cases h2; exact X6.mono (by decide)
    | 7, h1, h2 => by cases h1; cases h2; exact X7.mono (by decide)
    | 8, h1, h2 => by cases h1; cases h2; exact X8.mono (by decide)
    | q + 9, h1, h2 => by simp at h2)
  have X10 : FnX l.prog w K mg base 11 "_law_route" d_route := fn_x (C := cc 14 _) (PySem.W.mg_of X G a10) F10 sc_route b10 T rfl rfl t_route (fun i y g h1 h2 => match i, h1, h2 with
    | 0, h1, h2 => by cases h1; cases h2; exact X0.mono (by decide)
    | 1, h1, h2 => by cases h1; cases h2; exact X1.mono (by decide)
    | 2, h1, h2 => by cases h1; cases h2; exact X2.mono (by decide)
    | 3, h1, h2 => by cases h1; cases h2; exact X3.mono (by decide)
    | 4, h1, h2 => by cases h1; cases h2; exact X4.mono (by decide)
    | 5, h1, h2 => by cases h1; cases h2; exact X5.mono (by decide)
    | 6, h1, h2 => by cases h1; cases h2; exact X6.mono (by decide)
    | 7, h1, h2 => by cases h1; cases h2; exact X7.mono (by decide)
    | 8, h1, h2 => by cases h1; cases h2; exact X8.mono (by decide)
    | 9, h1, h2 => by cases h1; cases h2; exact X9.mono (by decide)
    | q + 10, h1, h2 => by simp at h2)
  have X11 : FnX l.prog w K mg base 12 "_law_rule" d_rule := fn_x (C := cc 15 _) (PySem.W.mg_of X G a11) F11 sc_rule b11 T rfl rfl t_rule (fun i y g h1 h2 => match i, h1, h2 with
    | 0, h1, h2 => by cases h1; cases h2; exact X0.mono (by decide)
    | 1, h1, h2 => by cases h1; cases h2; exact X1.mono (by decide)
    | 2, h1, h2 => by cases h1; cases h2; exact X2.mono (by decide)
    | 3, h1, h2 => by cases h1; cases h2; exact X3.mono (by decide)
    | 4, h1, h2 => by cases h1; cases h2; exact X4.mono (by decide)
    | 5, h1, h2 => by cases h1; cases h2; exact X5.mono (by decide)
    | 6, h1, h2 => by cases h1; cases h2; exact X6.mono (by decide)
    | 7, h1, h2 => by cases h1; cases h2; exact X7.mono (by decide)
    | 8, h1, h2 => by cases h1; cases h2; exact X8.mono (by decide)
    | 9, h1, h2 => by cases h1; cases h2; exact X9.mono (by decide)
    | 10, h1, h2 => by cases h1; cases h2; exact X10.mono (by decide)
    | q + 11, h1, h2 => by simp at h2)
  have X12 : FnX l.prog w K mg base 13 "_law_fits" d_lfits := fn_x (C := cc 16 _) (PySem.W.mg_of X G a12) F12 sc_lfits b12 T rfl rfl t_lfits (fun i y g h1 h2 => match i, h1, h2 with
    | 0, h1, h2 => by cases h1; cases h2; exact X0.mono (by decide)
    | 1, h1, h2 => by cases h1; cases h2; exact X1.mono (by decide)
    | 2, h1, h2 => by cases h1; cases h2; exact X2.mono (by decide)
    | 3, h1, h2 => by cases h1; cases h2; exact X3.mono (by decide)
    | 4, h1, h2 => by cases h1; cases h2; exact X4.mono (by decide)
    | 5, h1, h2 => by cases h1; cases h2; exact X5.mono (by decide)
    | 6, h1, h2 => by cases h1; cases h2; exact X6.mono (by decide)
    | 7, h1, h2 => by cases h1; cases h2; exact X7.mono (by decide)
    | 8, h1, h2 => by cases h1; cases h2; exact X8.mono (by decide)
    | 9, h1, h2 => by cases h1; cases h2; exact X9.mono (by decide)
    | 10, h1, h2 => by cases h1; cases h2; exact X10.mono (by decide)
    | 11, h1, h2 => by cases h1; cases h2; exact X11.mono (by decide)
    | q + 12, h1, h2 => by simp at h2)
  have X13 : FnX l.prog w K mg base 14 "_law_judged" d_ljudged := fn_x (C := cc 17 _) (PySem.W.mg_of X G a13) F13 sc_ljudged b13 T rfl rfl t_ljudged (fun i y g h1 h2 => match i, h1, h2 with
    | 0, h1, h2 => by cases h1; cases h2; exact X0.mono (by decide)
    | 1, h1, h2 => by cases h1; cases h2; exact X1.mono (by decide)
    | 2, h1, h2 => by cases h1; cases h2; exact X2.mono (by decide)
    | 3, h1, h2 => by cases h1; cases h2; exact X3.mono (by decide)
    | 4, h1, h2 => by cases h1; cases h2; exact X4.mono (by decide)
    | 5, h1, h2 => by cases h1; cases h2; exact X5.mono (by decide)
    | 6, h1, h2 => by cases h1; cases h2; exact X6.mono (by decide)
    | 7, h1, h2 => by cases h1; cases h2; exact X7.mono (by decide)
    | 8, h1, h2 => by cases h1; cases h2; exact X8.mono (by decide)
    | 9, h1, h2 => by cases h1; cases h2; exact X9.mono (by decide)
    | 10, h1, h2 => by cases h1; cases h2; exact X10.mono (by decide)
    | 11, h1, h2 => by cases h1; cases h2; exact X11.mono (by decide)
    | 12, h1, h2 => by cases h1; cases h2; exact X12.mono (by decide)
    | q + 13, h1, h2 => by simp at h2)
  exact (fn_ok (C := cc 18 _) (k := 14) F14 sc_law T rfl rfl t_law (fun i y g h1 h2 => match i, h1, h2 with
    | 0, h1, h2 => by cases h1; cases h2; exact X0.mono (by decide)
    | 1, h1, h2 => by cases h1; cases h2; exact X1.mono (by decide)
    | 2, h1, h2 => by cases h1; cases h2; exact X2.mono (by decide)
    | 3, h1, h2 => by cases h1; cases h2; exact X3.mono (by decide)
    | 4, h1, h2 => by cases h1; cases h2; exact X4.mono (by decide)
    | 5, h1, h2 => by cases h1; cases h2; exact X5.mono (by decide)
    | 6, h1, h2 => by cases h1; cases h2; exact X6.mono (by decide)
    | 7, h1, h2 => by cases h1; cases h2; exact X7.mono (by decide)
    | 8, h1, h2 => by cases h1; cases h2; exact X8.mono (by decide)
    | 9, h1, h2 => by cases h1; cases h2; exact X9.mono (by decide)
    | 10, h1, h2 => by cases h1; cases h2; exact X10.mono (by decide)
    | 11, h1, h2 => by cases h1; cases h2; exact X11.mono (by decide)
    | 12, h1, h2 => by cases h1; cases h2; exact X12.mono (by decide)
    | 13, h1, h2 => by cases h1; cases h2; exact X13.mono (by decide)
    | q + 14, h1, h2 => by simp at h2)).mono (by decide)

theorem walk {l : PySem.W.OpenLaw} {q : Program} {loose : List Str} {XP : (Str → Option Value) → Heap → Prop} {YP : World → Heap → Prop} {d : DefRec} {K : Params → PySem.W.Frag} (hn : l.most = some 63) (hdf : d.params.defaults = [])
    (hY : ∀ (w : World) (h : Heap), YP w h → (K w.params).In h)
    (F : ∀ (w : World) (mg : Str → Option Value) (fa : Addr) (h : Heap), (K w.params).In h → h.Ns mainGlobals mg → mg d.name = some (.ref fa) →
      ∃ fd : FuncData, (∀ (s : Shared) (u : Value), BindsTo s fd ⟨[u], []⟩ [("_law_script", u)]) ∧ ∀ base : Heap, (K w.params).In base → base.Ns mainGlobals mg → FnOk l.prog w (K w.params) mg base CX0 16 fa fd ["_law_script"] (spOf (K w.params) 1 d_law)) :
    PySem.W.WalkO q loose XP YP l.row.toRowW d [] (fun f vs => PySem.call f vs) :=
  L2.walk_of (n := 63) (k := 16) (x := "_law_script") (CX := fun _ => CX0) (sp := fun w => spOf (K w.params) 1 d_law) hn (by decide) hdf ⟨rfl, by decide, by decide⟩ hY F
    (fun w H a ns hl _ hS => ⟨rfl, [], [], [.lst (ns.map .int)], ⟨List.nodup_nil, rfl, fun a m => absurd m (by simp), fun n a o e => absurd e (by simp)⟩, .cons (.lst hS (by simp) (RepVs.ints ns)) .nil, by
      rw [x_law ns [] hl]
      exact fun v H' th' r _ _ => by cases r; rfl⟩) fun _ _ _ _ _ z => z
end K11
open PySem PySem.W PyProof.Rows
set_option maxRecDepth 100000 in
set_option maxHeartbeats 0 in
theorem PySem.Challenge.cw_plainpath_k11_judged_holds : PySem.Challenge.rw_plainpath_k11_judged.Holds := by
  w_on; o_law; k_head; (case hw => w_witness2)
  k_fill
  refine K11.walk (l := PySem.Challenge.rw_plainpath_k11_judged) rfl rfl (fun w h Y => PySem.W.kIn_of Y) ?F
  case F =>
    intro w mg fa h KX G hmg
    refine' K11.all_mk KX G hmg ?a0 ?l0 ?c0 ?k0 ?a1 ?l1 ?c1 ?k1 ?a2 ?l2 ?c2 ?k2 ?a3 ?l3 ?c3 ?k3 ?a4 ?l4 ?c4 ?k4 ?a5 ?l5 ?c5 ?k5 ?a6 ?l6 ?c6 ?k6 ?a7 ?l7 ?c7 ?k7 ?a8 ?l8 ?c8 ?k8 ?a9 ?l9 ?c9 ?k9 ?a10 ?l10 ?c10 ?k10 ?a11 ?l11 ?c11 ?k11 ?a12 ?l12 ?c12 ?k12 ?a13 ?l13 ?c13 ?k13 ?a14 ?l14 ?c14 ?k14 ?m0 ?m1 ?z0 ?z1 ?z2 ?z3 ?z4 ?z5 ?z6 ?z7 ?z8 ?z9
    (case a0 => k_is); (case l0 => k_is); (case c0 => k_is); (case k0 => k_is)
    (case a1 => k_is); (case l1 => k_is); (case c1 => k_is); (case k1 => k_is)
    (case a2 => k_is); (case l2 => k_is); (case c2 => k_is); (case k2 => k_is)
    (case a3 => k_is); (case l3 => k_is); (case c3 => k_is); (case k3 => k_is)
    (case a4 => k_is); (case l4 => k_is); (case c4 => k_is); (case k4 => k_is)
    (case a5 => k_is); (case l5 => k_is); (case c5 => k_is); (case k5 => k_is)
    (case a6 => k_is); (case l6 => k_is); (case c6 => k_is); (case k6 => k_is)
    (case a7 => k_is); (case l7 => k_is); (case c7 => k_is); (case k7 => k_is)
    (case a8 => k_is); (case l8 => k_is); (case c8 => k_is); (case k8 => k_is)
    (case a9 => k_is); (case l9 => k_is); (case c9 => k_is); (case k9 => k_is)
    (case a10 => k_is); (case l10 => k_is); (case c10 => k_is); (case k10 => k_is)
    (case a11 => k_is); (case l11 => k_is); (case c11 => k_is); (case k11 => k_is)
    (case a12 => k_is); (case l12 => k_is); (case c12 => k_is); (case k12 => k_is)
    (case a13 => k_is); (case l13 => k_is); (case c13 => k_is); (case k13 => k_is)
    (case a14 => k_is); (case l14 => k_is); (case c14 => k_is); (case k14 => k_is)
    (case m0 => k_is); (case m1 => k_is)
    (case z0 => k_is); (case z1 => k_is); (case z2 => k_is); (case z3 => k_is); (case z4 => k_is); (case z5 => k_is); (case z6 => k_is); (case z7 => k_is); (case z8 => k_is); (case z9 => k_is)
