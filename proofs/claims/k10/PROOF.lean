import PyProof.Rows.All
import Wide.All
import OpenK.AllK
import Wide.FinOn
import Lean
import PyProof.EqAt
import PyProof.EqKinds
import PyProof.TupleCall
import PySem.Challenge.RW_plainpath_k10_routes_and_rules_refused
-- CHANGE: your row's module here, as the last of these rows
set_option Elab.async false
set_option linter.all false
set_option maxRecDepth 100000
namespace L2
open PySem PySem.Spec PyProof.Rows
abbrev Key := Sum Int Str
def keyIs : Key → Value → Bool
  | .inl k, v => Value.isInt k v
  | .inr x, v => Value.isStrOf x v
def keyH (w : World) : Key → Int
  | .inl k => hashInt k
  | .inr x => hashStr w x
theorem keyIs_shape : ∀ {k : Key} {v : Value}, keyIs k v = true → (∃ i t, k = Sum.inl i ∧ v = Value.int i t) ∨ (∃ x t, k = Sum.inr x ∧ v = Value.str x t)
  | .inl i, v, h => by
    obtain ⟨t, e⟩ := Value.isInt_shape (k := i) (v := v) h
    exact .inl ⟨i, t, rfl, e⟩
  | .inr x, v, h => by
    obtain ⟨t, e⟩ := Value.isStrOf_shape (x := x) (v := v) h
    exact .inr ⟨x, t, rfl, e⟩
theorem key_ll (a b : Int) : decide ((Sum.inl a : Key) = Sum.inl b) = (a == b) := by
  by_cases e : a = b
  · subst e; simp
  · have h : ¬ (Sum.inl a : Key) = Sum.inl b := fun q => e (Sum.inl.inj q)
    rw [decide_eq_false h]
    exact (beq_eq_false_iff_ne.mpr e).symm
theorem key_rr (a b : Str) : decide ((Sum.inr a : Key) = Sum.inr b) = decide (a = b) := by
  by_cases e : a = b
  · subst e; simp
  · have h : ¬ (Sum.inr a : Key) = Sum.inr b := fun q => e (Sum.inr.inj q)
    rw [decide_eq_false h, decide_eq_false e]
theorem key_lr (a : Int) (b : Str) : decide ((Sum.inl a : Key) = Sum.inr b) = false := decide_eq_false (fun q => nomatch q)
theorem key_rl (a : Str) (b : Int) : decide ((Sum.inr a : Key) = Sum.inl b) = false := decide_eq_false (fun q => nomatch q)
def mixKind (prog : Program) (w : World) : PySem.KeyKind prog w Key where
  is := keyIs
  hash := keyH w
  inj := fun v a b ha hb => by
    rcases keyIs_shape ha with ⟨i, t, rfl, rfl⟩ | ⟨x, t, rfl, rfl⟩
    · rcases keyIs_shape hb with ⟨j, u, rfl, e⟩ | ⟨y, u, rfl, e⟩
      · injection e with e1 _; rw [e1]
      · exact nomatch e
    · rcases keyIs_shape hb with ⟨j, u, rfl, e⟩ | ⟨y, u, rfl, e⟩
      · exact nomatch e
      · injection e with e1 _; rw [e1]
  byValue := fun k v h => by
    rcases keyIs_shape h with ⟨i, t, rfl, rfl⟩ | ⟨x, t, rfl, rfl⟩ <;> rfl
  pyHash := fun hv h => by
    rcases keyIs_shape hv with ⟨i, t, rfl, rfl⟩ | ⟨x, t, rfl, rfl⟩
    · exact wpAny_pyHash_int h
    · exact wpAny_pyHash_str h
  eqBool := fun hu hv h => by
    rcases keyIs_shape hu with ⟨i, t, rfl, rfl⟩ | ⟨x, t, rfl, rfl⟩
    · rcases keyIs_shape hv with ⟨j, u, rfl, rfl⟩ | ⟨y, u, rfl, rfl⟩
      · rw [key_ll] at h; exact wpAny_eqBool_int h
      · rw [key_lr] at h; exact SeqAt.EqAt.int_str i t y u _ _ _ _ h
    · rcases keyIs_shape hv with ⟨j, u, rfl, rfl⟩ | ⟨y, u, rfl, rfl⟩
      · rw [key_rl] at h; exact SeqAt.EqAt.str_int x t j u _ _ _ _ h
      · rw [key_rr] at h; exact wpAny_eqBool_str h
  «strs» := fun k x t v h => by
    rcases keyIs_shape h with ⟨i, u, rfl, e⟩ | ⟨y, u, rfl, e⟩
    · exact nomatch e
    · injection e with e1 _
      subst e1
      cases v <;> rfl
end L2
namespace L2
open PySem PySem.Spec PyProof.Rows
inductive V where
  | non | bl (b : Bool) | int (i : Int) | str (x : Str) | byt (b : Array UInt8) | flt (b : UInt64) | ref (a : Addr) | ty (n : String)
  deriving DecidableEq
def RelV : V → Value → Prop
  | .non, u => u = Value.none
  | .bl b, u => u = Value.bool b
  | .int i, u => ∃ t, u = Value.int i t
  | .str x, u => ∃ t, u = Value.str x t
  | .byt b, u => ∃ t, u = Value.bytes b t
  | .flt b, u => ∃ t, u = Value.float b t
  | .ref a, u => u = Value.ref a
  | .ty n, u => u = Value.type n
abbrev Vals : List V → List Value → Prop := Paired RelV
theorem Vals.length {xs : List V} {us : List Value} (r : Vals xs us) : xs.length = us.length := Paired.length r
theorem Vals.get : ∀ {xs : List V} {us : List Value} {i : Nat} {x : V}, Vals xs us → xs[i]? = some x → ∃ u, us[i]? = some u ∧ RelV x u
  | _, _, _, _, .nil, e => by simp at e
  | _, _, 0, _, .cons r _, e => by simp at e; subst e; exact ⟨_, rfl, r⟩
  | _, _, i + 1, x, .cons _ t, e => by
    obtain ⟨u, h1, h2⟩ := Vals.get (i := i) (x := x) t (by simpa using e)
    exact ⟨u, by simpa using h1, h2⟩
theorem Vals.append : ∀ {xs ys : List V} {us ws : List Value}, Vals xs us → Vals ys ws → Vals (xs ++ ys) (us ++ ws)
  | _, _, _, _, .nil, s => s
  | _, _, _, _, .cons r t, s => .cons r (Vals.append t s)
theorem Vals.take : ∀ {xs : List V} {us : List Value} (n : Nat), Vals xs us → Vals (xs.take n) (us.take n)
  | _, _, 0, _ => .nil
  | _, _, _ + 1, .nil => .nil
  | _, _, n + 1, .cons r t => .cons r (Vals.take n t)
theorem Vals.drop : ∀ {xs : List V} {us : List Value} (n : Nat), Vals xs us → Vals (xs.drop n) (us.drop n)
  | _, _, 0, r => r
  | _, _, _ + 1, .nil => .nil
  | _, _, n + 1, .cons _ t => Vals.drop n t
def RelO : Option V → Option Value → Prop
  | some v, some u => RelV v u
  | none, none => True
  | _, _ => False
def KV {κ : Type} : List (κ × V) → List (κ × Value) → Prop := Paired fun (p : κ × V) (q : κ × Value) => p.1 = q.1 ∧ RelV p.2 q.2
def kV : Key → V
  | .inl i => .int i
  | .inr x => .str x
inductive HO where
  | lst (xs : List V)
  | tup (xs : List V)
  | dK (kvs : List (Key × V)) | dT (kvs : List (List Key × V))
  | set (S : Int → Bool) (n : Nat)
  | ins (C dx : Addr) (fs : List (Str × V))
  | own (x : Addr)
  | xd (fs : List (Str × V))
  | met (f x : Addr)
  | rng (lo hi : Int)
  | frz (o : Obj) (u : HO)
  | tbl (ps : Array Value)
  | ext (φ : Heap → Prop)
abbrev Hp := Addr → Option HO
def upd (H : Hp) (a : Addr) (o : HO) : Hp := fun b => if b = a then some o else H b
theorem upd_same {H : Hp} {a : Addr} {o : HO} : upd H a o a = some o := by unfold upd; rw [if_pos rfl]
theorem upd_ne {H : Hp} {a b : Addr} {o : HO} (h : b ≠ a) : upd H a o b = H b := by unfold upd; rw [if_neg h]
theorem ne_of {H : Hp} {a b : Addr} {o u : HO} (h : H a = some o) (h' : H b = some u) (d : o ≠ u) : a ≠ b := by
  intro e; subst e; rw [h] at h'; exact d (Option.some.inj h')
theorem ne_of_none {H : Hp} {a b : Addr} {o : HO} (h : H a = some o) (h' : H b = none) : a ≠ b := by
  intro e; subst e; rw [h] at h'; cases h'
section
variable (P : Program) (w : World)
def ObjOk (H : Hp) (h : Heap) (a : Addr) : HO → Prop
  | .lst xs => xs.length ≤ sizeLine ∧ ∃ (its : List Value) (n : Nat), Vals xs its ∧ h.get? a = some { cls := .type "list", data := .seq its.toArray n }
  | .tup xs => xs.length ≤ sizeLine ∧ ∃ its : List Value, Vals xs its ∧ IsTup h a its.toArray
  | .dK kvs => kvs.length ≤ sizeLine ∧ (a == sysModules) = false ∧ ∃ vs, KV kvs vs ∧ h.DictOf (mixKind P w) a vs
  | .dT kvs => kvs.length ≤ sizeLine ∧ (a == sysModules) = false ∧ ∃ xs : List (List Key × Addr × Value),
      Paired (fun (p : List Key × V) (q : List Key × Addr × Value) => p.1 = q.1 ∧ H q.2.1 = some (.tup (p.1.map kV)) ∧ RelV p.2 q.2.2) kvs xs ∧
      ∃ o es ep, h.get? a = some o ∧ o.ExactDict ∧ o.data = .dict es ep ∧ es.toList = xs.map (entryOfKey (tupleKind (mixKind P w))) ∧ (xs.map (·.1)).Nodup
  | .set S n => h.SetOf (intKind P w) a S n
  | .ins C dx fs => H dx = some (.own a) ∧ fs.length ≤ 1000 ∧ dx ≠ a ∧ h.get? a = some (PySem.W.instObj C dx) ∧
      ∃ mA, h.Ns1 dx mA ∧ (∀ f, RelO (fs.lookup f) (mA f)) ∧ PySem.Within mA (fs.map (·.1))
  | .own _ => ∃ o, h.get? a = some o
  | .xd fs => ∃ mA, h.Ns1 a mA ∧ ∀ f, RelO (fs.lookup f) (mA f)
  | .rng lo hi => ∃ t u v, h.get? a = some { cls := .type "range", data := .fields #[.int lo t, .int hi u, .int 1 v] }
  | .frz o u => h.get? a = some o ∧ ObjOk H h a u
  | .tbl ps => h.get? a = some { cls := .none, data := .fields ps }
  | .met f x => h.get? a = some (PySem.W.methodObj (.ref f) (.ref x))
  | .ext φ => φ h ∧ (∃ o, h.get? a = some o) ∧ ∀ h1 h2 : Heap, φ h1 → (∀ o, h1.get? a = some o → h2.get? a = some o) → φ h2
def HOk (H : Hp) (h : Heap) : Prop := ∀ a o, H a = some o → ObjOk P w H h a o
end
section
variable {P : Program} {w : World} {H H' : Hp} {h h' : Heap} {a : Addr} {o : HO}
theorem ObjOk.lt (x : ObjOk P w H h a o) : a < h.objs.size := by
  cases o with
  | lst xs => obtain ⟨_, _, _, _, e⟩ := x; exact Heap.lt_size e
  | tup xs => obtain ⟨_, _, _, p⟩ := x; exact p.lt
  | dK kvs => obtain ⟨_, _, _, _, o, _, _, e, _⟩ := x; exact Heap.lt_size e
  | dT kvs => obtain ⟨_, _, _, _, o, _, _, e, _⟩ := x; exact Heap.lt_size e
  | set S n => obtain ⟨o, _, _, _, e, _⟩ := x; exact Heap.lt_size e
  | ins C dx fs => obtain ⟨_, _, _, e, _⟩ := x; exact Heap.lt_size e
  | own y => obtain ⟨_, e⟩ := x; exact Heap.lt_size e
  | xd fs => obtain ⟨_, ⟨_, _, _, e, _⟩, _⟩ := x; exact Heap.lt_size e
  | rng lo hi => obtain ⟨_, _, _, e⟩ := x; exact Heap.lt_size e
  | frz ob u => obtain ⟨e, _⟩ := x; exact Heap.lt_size e
  | tbl ps => exact Heap.lt_size (show h.get? a = some _ from x)
  | met f y => exact Heap.lt_size (show h.get? a = some _ from x)
  | ext φ => obtain ⟨_, ⟨_, e⟩, _⟩ := x; exact Heap.lt_size e
theorem Paired.mapP {α β : Type} {F G : α → β → Prop} : ∀ {l₁ : List α} {l₂ : List β}, Paired F l₁ l₂ → (∀ a b, F a b → G a b) → Paired G l₁ l₂
  | _, _, .nil, _ => .nil
  | _, _, .cons r t, f => .cons (f _ _ r) (Paired.mapP t f)
theorem ObjOk.stay (x : ObjOk P w H h a o) (k : ∀ b u, (b = a ∨ H b = some (.own a)) → h.get? b = some u → h'.get? b = some u)
    (ho : ∀ b, H b = some (.own a) → H' b = some (.own a)) (ht : ∀ b xs, H b = some (.tup xs) → H' b = some (.tup xs)) : ObjOk P w H' h' a o := by
  induction o with
  | lst xs => obtain ⟨z, its, n, r, e⟩ := x; exact ⟨z, its, n, r, k _ _ (.inl rfl) e⟩
  | tup xs => obtain ⟨z, its, r, ob, e, c⟩ := x; exact ⟨z, its, r, ob, k _ _ (.inl rfl) e, c⟩
  | dK kvs => obtain ⟨z, y, vs, r, ob, es, ep, e, c⟩ := x; exact ⟨z, y, vs, r, ob, es, ep, k _ _ (.inl rfl) e, c⟩
  | dT kvs =>
    obtain ⟨z, y, xs, r, ob, es, ep, e, c⟩ := x
    exact ⟨z, y, xs, Paired.mapP r fun p q z => ⟨z.1, ht _ _ z.2.1, z.2.2⟩, ob, es, ep, k _ _ (.inl rfl) e, c⟩
  | set S n => obtain ⟨ob, es, ep, t, e, c⟩ := x; exact ⟨ob, es, ep, t, k _ _ (.inl rfl) e, c⟩
  | ins C dx fs =>
    obtain ⟨d, z, ne, e, mA, ⟨od, es, ep, e2, c⟩, r⟩ := x
    exact ⟨ho _ d, z, ne, k _ _ (.inl rfl) e, mA, ⟨od, es, ep, k _ _ (.inr d) e2, c⟩, r⟩
  | own y => obtain ⟨ob, e⟩ := x; exact ⟨ob, k _ _ (.inl rfl) e⟩
  | xd fs => obtain ⟨mA, ⟨od, es, ep, e, c⟩, r⟩ := x; exact ⟨mA, ⟨od, es, ep, k _ _ (.inl rfl) e, c⟩, r⟩
  | rng lo hi => obtain ⟨t, u, v, e⟩ := x; exact ⟨t, u, v, k _ _ (.inl rfl) e⟩
  | frz ob u ih => obtain ⟨e, q⟩ := x; exact ⟨k _ _ (.inl rfl) e, ih q⟩
  | tbl ps =>
    have e : h.get? a = some { cls := .none, data := .fields ps } := x
    show h'.get? a = some { cls := .none, data := .fields ps }
    exact k a _ (.inl rfl) e
  | met f y =>
    have e : h.get? a = some (PySem.W.methodObj (.ref f) (.ref y)) := x
    show h'.get? a = some (PySem.W.methodObj (.ref f) (.ref y))
    exact k a _ (.inl rfl) e
  | ext φ => obtain ⟨p, ⟨o, e⟩, st⟩ := x; exact ⟨st _ _ p fun o q => k _ _ (.inl rfl) q, ⟨o, k _ _ (.inl rfl) e⟩, st⟩
theorem HOk.lt (x : HOk P w H h) (e : H a = some o) : a < h.objs.size := (x a o e).lt
theorem HOk.fresh (x : HOk P w H h) (e : h.objs.size ≤ a) : H a = none := by
  cases q : H a with
  | none => rfl
  | some u => exact absurd (Nat.lt_of_lt_of_le (x.lt q) e) (Nat.lt_irrefl _)
theorem HOk.kept (x : HOk P w H h) (k : ∀ b u, h.get? b = some u → h'.get? b = some u) : HOk P w H h' := fun a o e =>
  (x a o e).stay (fun b u _ q => k b u q) (fun _ q => q) fun _ _ q => q
theorem HOk.laid (x : HOk P w H h) (k : ∀ b u, h.get? b = some u → h'.get? b = some u) (hp : h.objs.size ≤ a) (new : ObjOk P w (upd H a o) h' a o) : HOk P w (upd H a o) h' := fun b u e => by
  have hn := x.fresh hp
  by_cases hb : b = a
  · subst hb; rw [upd_same] at e; cases e; exact new
  · rw [upd_ne hb] at e
    exact (x b u e).stay (fun c v _ q => k c v q) (fun c q => by rw [upd_ne (ne_of_none q hn)]; exact q) fun c xs q => by rw [upd_ne (ne_of_none q hn)]; exact q
end
def Rd (H : Hp) (a : Addr) (u : HO) : Prop := H a = some u ∨ ∃ o, H a = some (.frz o u)
theorem Rd.ok {P : Program} {w : World} {H : Hp} {h : Heap} {a : Addr} {u : HO} (r : Rd H a u) (x : HOk P w H h) : ObjOk P w H h a u := by
  rcases r with r | ⟨o, r⟩
  · exact x a u r
  · obtain ⟨_, q⟩ := x a _ r
    exact q
def Mut : Option HO → Prop
  | some (.lst _) => True
  | some (.dK _) => True
  | some (.dT _) => True
  | some (.set _ _) => True
  | some (.ins _ _ _) => True
  | some (.ext _) => True
  | _ => False
section
variable {P : Program} {w : World} {H : Hp} {h h' : Heap} {x e : Addr} {o' : HO}
theorem HOk.write (ok : HOk P w H h) (mu : Mut (H x)) (he : e = x ∨ H e = some (.own x)) (k : ∀ b u, b ≠ e → h.get? b = some u → h'.get? b = some u) (heo : ∃ u, h'.get? e = some u)
    (new : ObjOk P w (upd H x o') h' x o') : HOk P w (upd H x o') h' := fun b u q => by
  have nown : ∀ c y, H c = some (.own y) → c ≠ x := fun c y r z => by subst z; rw [r] at mu; exact mu
  have ntup : ∀ c xs, H c = some (.tup xs) → c ≠ x := fun c xs r z => by subst z; rw [r] at mu; exact mu
  by_cases hb : b = x
  · subst hb; rw [upd_same] at q; cases q; exact new
  · rw [upd_ne hb] at q
    by_cases hbe : b = e
    · have q' : H b = some (.own x) := by
        rcases he with z | z
        · exact absurd (hbe.trans z) hb
        · rw [hbe]; exact z
      rw [q] at q'; cases q'
      obtain ⟨v, hv⟩ := heo
      exact ⟨v, by rw [hbe]; exact hv⟩
    · refine (ok b u q).stay (fun c v hc r => k c v ?_ r) (fun c r => by rw [upd_ne (nown c b r)]; exact r) fun c xs r => by rw [upd_ne (ntup c xs r)]; exact r
      rcases hc with rfl | hc
      · exact hbe
      · rintro rfl
        rcases he with z | z
        · exact nown c b hc z
        · rw [hc] at z; cases z; exact hb rfl
end
structure Un (fs ex : List Addr) (H H' : Hp) (h h' : Heap) : Prop where
  keep : ∀ b o, h.get? b = some o → H b = none → b ∉ fs → b ∉ ex → h'.get? b = some o
  slot : ∀ b o, h.get? b = some o → H b = none → b ∈ fs → b ∉ ex → ∃ sl, h'.get? b = some { o with slots := sl }
  free : ∀ b o, h.get? b = some o → H b = none → b ∉ ex → H' b = none
  there : ∀ b o, h.get? b = some o → b ∉ ex → ∃ o', h'.get? b = some o'
  tups : ∀ b xs, H b = some (.tup xs) → H' b = some (.tup xs)
  frzs : ∀ b o u, H b = some (.frz o u) → H' b = some (.frz o u)
  tbls : ∀ b ps, H b = some (.tbl ps) → ∃ more, H' b = some (.tbl (ps ++ more))
section
variable {fs fs' ex ex' : List Addr} {H H1 H2 : Hp} {h h1 h2 h' : Heap} {a x e : Addr} {o : HO}
theorem Un.any (u : Un fs ex H H1 h h1) {b : Addr} {ob : Obj} (q : h.get? b = some ob) (n : H b = none) (hx : b ∉ ex) : ∃ sl, h1.get? b = some { ob with slots := sl } := by
  by_cases hb : b ∈ fs
  · exact u.slot b ob q n hb hx
  · exact ⟨ob.slots, u.keep b ob q n hb hx⟩
theorem Un.kept (k : ∀ b u, h.get? b = some u → h'.get? b = some u) : Un fs ex H H h h' :=
  ⟨fun b ob q _ _ _ => k b ob q, fun b ob q _ _ _ => ⟨ob.slots, k b ob q⟩, fun _ _ _ n _ => n, fun b ob q _ => ⟨ob, k b ob q⟩, fun _ _ q => q, fun _ _ _ q => q, fun _ ps q => ⟨#[], by rw [q]; simp⟩⟩
theorem Un.refl : Un fs ex H H h h := Un.kept fun _ _ q => q
theorem Un.laid (k : ∀ b u, h.get? b = some u → h'.get? b = some u) (hp : h.objs.size ≤ a) (hn : H a = none) : Un fs ex H (upd H a o) h h' where
  keep := fun b u q _ _ _ => k b u q
  slot := fun b u q _ _ _ => ⟨u.slots, k b u q⟩
  free := fun b u q n _ => by rw [upd_ne (Nat.ne_of_lt (Nat.lt_of_lt_of_le (Heap.lt_size q) hp))]; exact n
  there := fun b u q _ => ⟨u, k b u q⟩
  tups := fun b xs q => by rw [upd_ne (ne_of_none q hn)]; exact q
  frzs := fun b u xs q => by rw [upd_ne (ne_of_none q hn)]; exact q
  tbls := fun b ps q => ⟨#[], by rw [upd_ne (ne_of_none q hn), q]; simp⟩
theorem Un.write (mu : Mut (H x)) (he : e = x ∨ H e = some (.own x)) (k : ∀ b u, b ≠ e → h.get? b = some u → h'.get? b = some u) (heo : ∃ u, h'.get? e = some u) : Un fs ex H (upd H x o) h h' := by
  have hx : ∀ b, H b = none → b ≠ x := fun b n z => by subst z; rw [n] at mu; exact mu
  have hb : ∀ b, H b = none → b ≠ e := fun b n z => by
    subst z
    rcases he with r | r
    · exact hx b n r
    · rw [n] at r; cases r
  have hm : ∀ b u, H b = some u → ¬ Mut (some u) → b ≠ x := fun b u q nm z => by subst z; rw [q] at mu; exact nm mu
  refine ⟨fun b u q n _ _ => k b u (hb b n) q, fun b u q n _ _ => ⟨u.slots, k b u (hb b n) q⟩, fun b u q n _ => by rw [upd_ne (hx b n)]; exact n, fun b u q _ => ?_,
    fun b xs q => by rw [upd_ne (hm b _ q fun z => z)]; exact q, fun b u xs q => by rw [upd_ne (hm b _ q fun z => z)]; exact q, fun b ps q => ⟨#[], by rw [upd_ne (hm b _ q fun z => z), q]; simp⟩⟩
  by_cases hbe : b = e
  · subst hbe; exact heo
  · exact ⟨u, k b u hbe q⟩
end
def trk (h : Heap) (H : Hp) : List Addr := (List.range h.objs.size).filter fun a => (H a).isSome
def hidT (h : Heap) (H : Hp) : Heap := PySem.W.hideAll h (trk h H)
theorem hidT_size (h : Heap) (H : Hp) : (hidT h H).objs.size = h.objs.size := PySem.W.hideAll_size _ _
theorem hidT_get {h : Heap} {H : Hp} {b : Addr} {o : Obj} (e : h.get? b = some o) (n : H b = none) : (hidT h H).get? b = some o :=
  PySem.W.hideAll_get _ e fun hm => by
    have q : (H b).isSome = true := (List.mem_filter.mp hm).2
    rw [n] at q; simp at q
theorem of_hidT {h : Heap} {H : Hp} {b : Addr} {o : Obj} (e : (hidT h H).get? b = some o) : h.get? b = some o ∧ H b = none := by
  have e' : h.get? b = some o := PySem.W.of_hideAll (trk h H) e
  refine ⟨e', ?_⟩
  cases q : H b with
  | none => rfl
  | some x =>
    have hm : b ∈ trk h H := List.mem_filter.mpr ⟨List.mem_range.mpr (Heap.lt_size e'), by simp [q]⟩
    have z : (hidT h H).get? b = none := PySem.W.hideAll_none (trk h H) hm
    rw [z] at e; cases e
end L2
namespace L2
open PySem PySem.Spec PyProof.Rows
structure Mod (K : PySem.W.Frag) (mg : Str → Option Value) (base : Heap) : Prop where
  kin : K.In base
  glob : base.Ns mainGlobals mg
  blt : ∃ mb, base.Ns builtinsNs mb ∧ ∀ x : Str, x ≠ "__name__" → mb x = bootBuiltins x
  nolimit : base.NoLimit
/-- the context: a def's body (or a comprehension's block) running. base: fixed through the whole law; s₀, H₀: the entry; outer: the frames whose slots others may change (a def's callers); stack: all frames that run;
   ex: iterators that were made ahead of the entry and are walked here (a comprehension's); fn: the names whose cells were made at the entry (a def: all; a comprehension's block: its own); calm: not within an except suite; pn: pins that every state bears; xe: what is wanted of an exception that leaves the code -/
structure Cx where
  prog : Program
  w : World
  K : PySem.W.Frag
  mg : Str → Option Value
  base : Heap
  A : Around
  N : List Str
  s₀ : Shared
  H₀ : Hp
  env : Env
  outer : List Env
  stack : List Env
  ex : List Addr
  fn : Str → Bool
  calm : Bool
  pn : List (Addr × Obj)
  xe : Value → Shared → Prop
def frs (l : List Env) : List Addr := l.filterMap (·.frame)
abbrev Cx.fs (X : Cx) : List Addr := frs X.outer
def Vis (sc : Scope) (x : Str) : Prop := sc.names.lookup x = some .local ∨ sc.names.lookup x = some .cell ∨ sc.names.lookup x = some .free
def Loc (sc : Scope) (x : Str) : Prop := sc.names.lookup x = some .local ∨ sc.names.lookup x = some .cell
def Look (env : Env) (h : Heap) (m : Str → Option Value) (x : Str) (u : Value) : Prop :=
  (env.kindOf x = some .local ∧ m x = some u) ∨ ((env.kindOf x = some .cell ∨ env.kindOf x = some .free) ∧ ∃ c, env.cells.lookup x = some c ∧ h.IsCell c (some u))
structure Cx.Ok (X : Cx) : Prop where
  mod : Mod X.K X.mg X.base
  kind : X.env.scope.kind = .function
  glob : X.env.globals = mainGlobals
  blt : X.env.builtins = builtinsNs
  above : X.s₀.heap.objs.size ≤ X.env.locals
  inj : ∀ x y c, X.env.cells.lookup x = some c → X.env.cells.lookup y = some c → x = y
  has : ∀ x, (X.env.kindOf x = some .cell ∨ X.env.kindOf x = some .free) → ∃ c, X.env.cells.lookup x = some c
  cab : ∀ x c, X.fn x = true → X.env.cells.lookup x = some c → X.s₀.heap.objs.size ≤ c
  hd : X.calm = true → X.A.handled = none
  frames : X.A.frames = some X.stack
  stk : X.stack = X.outer ∨ (X.stack = X.env :: X.outer ∧ X.env.frame = some X.env.locals)
  exf : ∀ b ∈ X.ex, b ≠ X.env.locals ∧ ∀ x c, X.env.cells.lookup x = some c → c ≠ b
  bs : ∀ b o, X.base.get? b = some o → X.s₀.heap.get? b = some o ∧ X.H₀ b = none
  bsz : X.base.objs.size ≤ X.s₀.heap.objs.size
  noex : ∀ b o, X.base.get? b = some o → b ∉ X.ex
  exfs : ∀ b ∈ X.ex, b ∉ X.fs
  funs : X.s₀.heap.FunFrames X.base X.outer
  frf : ∀ b ∈ X.fs, X.H₀ b = none
structure Inv (X : Cx) (pins : List (Addr × Obj)) (σ : List (Option V)) (H : Hp) (s : Shared) : Prop where
  ok : X.Ok
  os : s.os = X.s₀.os
  bare : AllBare s.gens
  base : Un X.fs X.ex X.H₀ H X.s₀.heap s.heap
  loc : ∃ m, s.heap.Ns X.env.locals m ∧ ∀ (i : Nat) (x : Str) (v : V), X.N[i]? = some x → σ[i]? = some (some v) → Vis X.env.scope x → ∃ u, RelV v u ∧ Look X.env s.heap m x u
  cell : ∀ x c, X.env.cells.lookup x = some c → ∃ v, s.heap.IsCell c v
  free : H X.env.locals = none
  freeC : ∀ x c, X.env.cells.lookup x = some c → H c = none
  pin : ∀ p ∈ X.pn ++ pins, s.heap.get? p.1 = some p.2 ∧ H p.1 = none ∧ p.1 ≠ X.env.locals ∧ p.1 ∉ X.fs ∧ ∀ v, p.2.data ≠ .cell v
  hok : HOk X.prog X.w H s.heap
  len : σ.length = X.N.length
section
variable {X : Cx} {pins : List (Addr × Obj)} {σ : List (Option V)} {H H' : Hp} {s : Shared} {h' : Heap}
theorem Cx.Ok.nofr (ok : X.Ok) {b : Addr} {o : Obj} (e : X.base.get? b = some o) : b ∉ X.fs := fun hb => by
  have := (ok.funs.mem hb).1
  rw [e] at this; cases this
theorem Inv.bs (I : Inv X pins σ H s) : ∀ b o, X.base.get? b = some o → s.heap.get? b = some o ∧ H b = none := fun b o e =>
  ⟨I.base.keep b o (I.ok.bs b o e).1 (I.ok.bs b o e).2 (I.ok.nofr e) (I.ok.noex b o e), I.base.free b o (I.ok.bs b o e).1 (I.ok.bs b o e).2 (I.ok.noex b o e)⟩
theorem Inv.bk (I : Inv X pins σ H s) : ∀ b o, X.base.get? b = some o → s.heap.get? b = some o := fun b o e => (I.bs b o e).1
theorem Inv.mod (I : Inv X pins σ H s) : Mod X.K X.mg X.base := I.ok.mod
theorem Inv.kIn (I : Inv X pins σ H s) : X.K.In s.heap := I.ok.mod.kin.keeps I.bk
theorem Inv.lt (I : Inv X pins σ H s) : X.env.locals < s.heap.objs.size := let ⟨_, hn, _⟩ := I.loc; hn.lt
theorem Inv.sz (I : Inv X pins σ H s) : X.s₀.heap.objs.size ≤ s.heap.objs.size := Nat.le_trans I.ok.above (Nat.le_of_lt I.lt)
theorem Inv.nofs (I : Inv X pins σ H s) {a : Addr} (h : s.heap.objs.size ≤ a) : a ∉ X.fs := fun hb => by
  obtain ⟨_, o, ho, _⟩ := I.ok.funs.mem hb
  exact absurd (Nat.lt_of_lt_of_le (Heap.lt_size ho) (Nat.le_trans I.sz h)) (Nat.lt_irrefl _)
theorem Inv.cne (I : Inv X pins σ H s) : ∀ x c, X.env.cells.lookup x = some c → c ≠ X.env.locals := fun x c e z => by
  obtain ⟨v, o, ho, hd⟩ := I.cell x c e
  obtain ⟨m, ⟨o', es, ep, ho', hd', _⟩, _⟩ := I.loc
  rw [z, ho'] at ho; cases ho; rw [hd'] at hd; cases hd
theorem Inv.funs (I : Inv X pins σ H s) : s.heap.FunFrames X.base X.outer := by
  have all : ∀ (l : List Env), (∀ b ∈ frs l, b ∈ X.fs) → X.s₀.heap.FunFrames X.base l → s.heap.FunFrames X.base l := by
    intro l
    induction l with
    | nil => intro _ _; trivial
    | cons env r ih =>
      intro hs hl
      obtain ⟨hk, ⟨L, o, hf, hn, ho, hd⟩, hr⟩ := hl
      have hL : L ∈ X.fs := hs L (by unfold frs; rw [List.filterMap_cons, hf]; exact List.mem_cons_self)
      obtain ⟨sl, e⟩ := I.base.slot L o ho (I.ok.frf L hL) hL fun z => I.ok.exfs L z hL
      exact ⟨hk, ⟨L, _, hf, hn, e, hd⟩, ih (fun b hb => hs b (by unfold frs; rw [List.filterMap_cons, hf]; exact List.mem_cons_of_mem _ hb)) hr⟩
  exact all X.outer (fun _ hb => hb) I.ok.funs
theorem Inv.stack (I : Inv X pins σ H s) : s.heap.FunFrames X.base X.stack := by
  rcases I.ok.stk with e | ⟨e, hf⟩
  · rw [e]; exact I.funs
  · rw [e]
    obtain ⟨m, hn, _⟩ := I.loc
    refine .cons (by rw [I.ok.kind]; decide) hf hn ?_ I.funs
    exact Heap.get?_none_of_le (Nat.le_trans I.ok.bsz I.ok.above)
theorem Inv.stkSub (I : Inv X pins σ H s) : ∀ b ∈ frs X.stack, b ∈ X.env.locals :: X.fs := fun b hb => by
  rcases I.ok.stk with e | ⟨e, hf⟩
  · rw [e] at hb; exact List.mem_cons_of_mem _ hb
  · rw [e] at hb
    unfold frs at hb
    rw [List.filterMap_cons, hf] at hb
    exact hb
theorem Inv.stkFree (I : Inv X pins σ H s) : ∀ b ∈ frs X.stack, H b = none := fun b hb => by
  rcases List.mem_cons.mp (I.stkSub b hb) with e | hb
  · rw [e]; exact I.free
  · obtain ⟨_, o, ho, _⟩ := I.ok.funs.mem hb
    exact I.base.free b o ho (I.ok.frf b hb) fun z => I.ok.exfs b z hb
theorem Inv.step {g' : Array GenState} {t' : Nat} {d' : Drawn} {ch : List Addr} (I : Inv X pins σ H s)
    (hch : ∀ b ∈ ch, (b ∈ X.ex ∨ X.s₀.heap.objs.size ≤ b) ∧ b ≠ X.env.locals ∧ (∀ x c, X.env.cells.lookup x = some c → c ≠ b) ∧ ∀ p ∈ X.pn ++ pins, p.1 ≠ b)
    (keep : ∀ b o, b ≠ X.env.locals → b ∉ X.fs → b ∉ ch → s.heap.get? b = some o → H b = none → h'.get? b = some o)
    (slot : ∀ b o, b ≠ X.env.locals → b ∈ X.fs → b ∉ ch → s.heap.get? b = some o → H b = none → ∃ sl, h'.get? b = some { o with slots := sl }) (free : ∀ b o, b ∉ ch → s.heap.get? b = some o → H b = none → H' b = none)
    (there : ∀ b o, b ∉ ch → s.heap.get? b = some o → ∃ o', h'.get? b = some o')
    (tups : ∀ b xs, H b = some (.tup xs) → H' b = some (.tup xs)) (frzs : ∀ b o u, H b = some (.frz o u) → H' b = some (.frz o u)) (tbls : ∀ b ps, H b = some (.tbl ps) → ∃ more, H' b = some (.tbl (ps ++ more)))
    (ns : ∀ m, s.heap.Ns X.env.locals m → h'.Ns X.env.locals m) (hok : HOk X.prog X.w H' h') (hg : AllBare g') :
    Inv X pins σ H' { s with heap := h', gens := g', drawn := d', toks := t' } := by
  have neL : ∀ b o, X.s₀.heap.get? b = some o → b ≠ X.env.locals := fun b o e => Nat.ne_of_lt (Nat.lt_of_lt_of_le (Heap.lt_size e) I.ok.above)
  have neC : ∀ b o, X.s₀.heap.get? b = some o → b ∉ X.ex → b ∉ ch := fun b o e hx hb => by
    rcases (hch b hb).1 with z | z
    · exact hx z
    · exact absurd (Nat.lt_of_lt_of_le (Heap.lt_size e) z) (Nat.lt_irrefl _)
  have cellK : ∀ x c, X.env.cells.lookup x = some c → ∀ v, s.heap.IsCell c v → h'.IsCell c v := fun x c e v ⟨o, ho, hd⟩ => by
    have nch : c ∉ ch := fun z => (hch c z).2.2.1 x c e rfl
    by_cases hc : c ∈ X.fs
    · obtain ⟨sl, q⟩ := slot c o (I.cne x c e) hc nch ho (I.freeC x c e)
      exact ⟨_, q, hd⟩
    · exact ⟨o, keep c o (I.cne x c e) hc nch ho (I.freeC x c e), hd⟩
  refine ⟨I.ok, I.os, hg, ⟨fun b o e n hb hx => ?_, fun b o e n hb hx => ?_, fun b o e n hx => ?_, fun b o e hx => ?_, fun b xs e => tups b xs (I.base.tups b xs e), fun b o xs e => frzs b o xs (I.base.frzs b o xs e), fun b ps e => ?_⟩, ?_, fun x c e => ?_, ?_, fun x c e => ?_, fun p hp => ?_, hok, I.len⟩
  · exact keep b o (neL b o e) hb (neC b o e hx) (I.base.keep b o e n hb hx) (I.base.free b o e n hx)
  · obtain ⟨sl, e1⟩ := I.base.slot b o e n hb hx
    obtain ⟨sl', e2⟩ := slot b _ (neL b o e) hb (neC b o e hx) e1 (I.base.free b o e n hx)
    exact ⟨sl', e2⟩
  · obtain ⟨o', e1⟩ := I.base.there b o e hx
    exact free b o' (neC b o e hx) e1 (I.base.free b o e n hx)
  · obtain ⟨o', e1⟩ := I.base.there b o e hx
    exact there b o' (neC b o e hx) e1
  · obtain ⟨m1, e1⟩ := I.base.tbls b ps e
    obtain ⟨m2, e2⟩ := tbls b _ e1
    exact ⟨m1 ++ m2, by rw [e2, Array.append_assoc]⟩
  · obtain ⟨m, hn, hl⟩ := I.loc
    refine ⟨m, ns m hn, fun i x v e1 e2 e3 => ?_⟩
    obtain ⟨u, r, l⟩ := hl i x v e1 e2 e3
    refine ⟨u, r, ?_⟩
    rcases l with l | ⟨k, c, e, z⟩
    · exact .inl l
    · exact .inr ⟨k, c, e, cellK x c e _ z⟩
  · obtain ⟨v, z⟩ := I.cell x c e
    exact ⟨v, cellK x c e v z⟩
  · obtain ⟨m, ⟨o, _, _, ho, _⟩, _⟩ := I.loc
    exact free _ o (fun z => (hch _ z).2.1 rfl) ho I.free
  · obtain ⟨v, o, ho, hd⟩ := I.cell x c e
    exact free c o (fun z => (hch c z).2.2.1 x c e rfl) ho (I.freeC x c e)
  · obtain ⟨e, n, ne, nf, d⟩ := I.pin p hp
    have nch : p.1 ∉ ch := fun z => (hch p.1 z).2.2.2 p hp rfl
    exact ⟨keep p.1 p.2 ne nf nch e n, free p.1 p.2 nch e n, ne, nf, d⟩
theorem Inv.un {t' : Nat} (I : Inv X pins σ H s) (u : Un X.fs [] H H' s.heap h') (hok : HOk X.prog X.w H' h') : Inv X pins σ H' { s with heap := h', toks := t' } := by
  obtain ⟨m, ⟨o, es, ep, ho, r⟩, _⟩ := id I.loc
  obtain ⟨sl, hL⟩ := u.any ho I.free (by simp)
  exact I.step (g' := s.gens) (d' := s.drawn) (ch := []) (fun _ z => nomatch z) (fun b o _ hb _ e n => u.keep b o e n hb (by simp)) (fun b o _ hb _ e n => u.slot b o e n hb (by simp)) (fun b o _ e n => u.free b o e n (by simp)) (fun b o _ e => u.there b o e (by simp)) u.tups u.frzs u.tbls (fun m' hm => by
    obtain ⟨o', es', ep', ho', r'⟩ := hm
    rw [ho] at ho'; cases ho'
    exact ⟨_, es', ep', hL, r'⟩) hok I.bare
theorem Inv.call {g' : Array GenState} {t' : Nat} {d' : Drawn} {ch : List Addr} (I : Inv X pins σ H s) (u : Un (frs X.stack) ch H H' s.heap h') (hok : HOk X.prog X.w H' h') (hg : AllBare g')
    (hch : ∀ b ∈ ch, (b ∈ X.ex ∨ X.s₀.heap.objs.size ≤ b) ∧ b ≠ X.env.locals ∧ (∀ x c, X.env.cells.lookup x = some c → c ≠ b) ∧ ∀ p ∈ X.pn ++ pins, p.1 ≠ b) :
    Inv X pins σ H' { s with heap := h', gens := g', drawn := d', toks := t' } := by
  obtain ⟨m, ⟨o, es, ep, ho, r⟩, _⟩ := id I.loc
  obtain ⟨sl, hL⟩ := u.any ho I.free fun z => (hch _ z).2.1 rfl
  exact I.step (ch := ch) hch (fun b o hL hb hc e n => u.keep b o e n (fun z => (List.mem_cons.mp (I.stkSub b z)).elim hL hb) hc) (fun b o _ _ hc e n => u.any e n hc) (fun b o hc e n => u.free b o e n hc) (fun b o hc e => u.there b o e hc) u.tups u.frzs u.tbls (fun m' hm => by
    obtain ⟨o', es', ep', ho', r'⟩ := hm
    rw [ho] at ho'; cases ho'
    exact ⟨_, es', ep', hL, r'⟩) hok hg
theorem Inv.turned {t' : Nat} {it : Addr} (I : Inv X pins σ H s) (k : ∀ b o, b ≠ it → s.heap.get? b = some o → h'.get? b = some o) (hn : H it = none) (hL : it ≠ X.env.locals)
    (h1 : it ∈ X.ex ∨ X.s₀.heap.objs.size ≤ it) (h2 : ∀ x c, X.env.cells.lookup x = some c → c ≠ it) (h3 : ∀ p ∈ X.pn ++ pins, p.1 ≠ it) : Inv X pins σ H { s with heap := h', toks := t' } := by
  have nit : ∀ b u, H b = some u → b ≠ it := fun b u e z => by rw [z, hn] at e; cases e
  refine I.step (g' := s.gens) (d' := s.drawn) (ch := [it]) (fun b hb => ?_) (fun b o _ _ hc e _ => k b o (fun z => hc (by simp [z])) e) (fun b o _ _ hc e _ => ⟨o.slots, k b o (fun z => hc (by simp [z])) e⟩) (fun _ _ _ _ n => n)
    (fun b o hc e => ⟨o, k b o (fun z => hc (by simp [z])) e⟩) (fun _ _ e => e) (fun _ _ _ e => e) (fun b ps e => ⟨#[], by rw [e]; simp⟩) (fun m hm => ?_) (fun b u e => ?_) I.bare
  · have e : b = it := by simpa using hb
    subst e
    exact ⟨h1, hL, h2, h3⟩
  · obtain ⟨o, es, ep, ho, r⟩ := hm
    exact ⟨o, es, ep, k _ o (Ne.symm hL) ho, r⟩
  · refine (I.hok b u e).stay (fun c v hc q => k c v ?_ q) (fun _ q => q) fun _ _ q => q
    rcases hc with z | z
    · rw [z]; exact nit b u e
    · exact nit c _ z
theorem Inv.tok (I : Inv X pins σ H s) (t : Nat) : Inv X pins σ H { s with toks := t } := I.un (h' := s.heap) (t' := t) Un.refl I.hok
theorem Inv.kept {t' : Nat} (I : Inv X pins σ H s) (k : ∀ b u, s.heap.get? b = some u → h'.get? b = some u) : Inv X pins σ H { s with heap := h', toks := t' } := I.un (Un.kept k) (I.hok.kept k)
theorem Inv.laid {a : Addr} {o : HO} {t' : Nat} (I : Inv X pins σ H s) (k : ∀ b u, s.heap.get? b = some u → h'.get? b = some u) (hp : s.heap.objs.size ≤ a) (new : ObjOk X.prog X.w (upd H a o) h' a o) :
    Inv X pins σ (upd H a o) { s with heap := h', toks := t' } := I.un (Un.laid k hp (I.hok.fresh hp)) (I.hok.laid k hp new)
theorem Inv.write {x e : Addr} {o : HO} {t' : Nat} (I : Inv X pins σ H s) (mu : Mut (H x)) (he : e = x ∨ H e = some (.own x)) (k : ∀ b u, b ≠ e → s.heap.get? b = some u → h'.get? b = some u) (heo : ∃ u, h'.get? e = some u)
    (new : ObjOk X.prog X.w (upd H x o) h' x o) : Inv X pins σ (upd H x o) { s with heap := h', toks := t' } := I.un (Un.write mu he k heo) (I.hok.write mu he k heo new)
theorem Inv.pins_of {pins' : List (Addr × Obj)} (I : Inv X pins σ H s) (h : ∀ p ∈ pins', s.heap.get? p.1 = some p.2 ∧ H p.1 = none ∧ p.1 ≠ X.env.locals ∧ p.1 ∉ X.fs ∧ ∀ v, p.2.data ≠ .cell v) : Inv X pins' σ H s :=
  ⟨I.ok, I.os, I.bare, I.base, I.loc, I.cell, I.free, I.freeC, fun p hp => (List.mem_append.mp hp).elim (fun z => I.pin p (List.mem_append_left _ z)) (h p), I.hok, I.len⟩
theorem nodup_ix {N : List Str} (hN : N.Nodup) {i j : Nat} {x : Str} (a : N[i]? = some x) (b : N[j]? = some x) : i = j := by
  obtain ⟨h1, e1⟩ := List.getElem?_eq_some_iff.mp a
  obtain ⟨h2, e2⟩ := List.getElem?_eq_some_iff.mp b
  exact (List.getElem_inj hN).mp (e1.trans e2.symm)
theorem store_ok2 {M : Model} {A : Around} {E : Value → Shared → Prop} {i : Nat} {x : Str} {v : V} {u : Value} {Q : Unit → Shared → Prop} (I : Inv X pins σ H s) (hN : X.N.Nodup) (hi : X.N[i]? = some x) (hx : Loc X.env.scope x) (r : RelV v u)
    (h : ∀ s', Inv X pins (σ.set i (some v)) H s' → (∃ a, Heap.SameBut a s.heap s'.heap ∧ (a = X.env.locals ∨ X.env.cells.lookup x = some a)) → Q () s') (hf : X.fn x = true ∨ X.env.scope.names.lookup x = some .local := by first | exact .inl rfl | exact .inr rfl | assumption) : wpAny M A (storeName X.env x u) Q E s := by
  obtain ⟨m, hn, hl⟩ := id I.loc
  have hcls : (X.env.scope.kind == .class || (X.env.scope.kind == .module && X.env.locals != X.env.globals)) = false := by rw [I.ok.kind]; rfl
  have hiσ : i < σ.length := by rw [I.len]; exact (List.getElem?_eq_some_iff.mp hi).1
  have cne := I.cne
  have tracked : ∀ {a : Addr} {h' : Heap}, (∃ o, s.heap.get? a = some o ∧ H a = none) → Heap.SameBut a s.heap h' → HOk X.prog X.w H h' := fun {a h'} ha hs b ob e => by
    obtain ⟨_, _, hfree⟩ := ha
    refine (I.hok b ob e).stay (fun c w' hc q => (hs.2 c ?_).trans q) (fun _ q => q) fun _ _ q => q
    rintro rfl
    rcases hc with rfl | hc
    · rw [hfree] at e; cases e
    · rw [hfree] at hc; cases hc
  rcases hx with hk | hk
  · refine wpAny_storeName_local hk hn (fun h' hn' hs => ?_) hcls
    obtain ⟨oL, _, _, hoL, _⟩ := id hn
    refine h _ ⟨I.ok, I.os, I.bare, ⟨fun b o e n hb hx => ?_, fun b o e n hb hx => ?_, I.base.free, fun b o e hx => ?_, I.base.tups, I.base.frzs, I.base.tbls⟩, ⟨_, hn', fun j y v' e1 e2 e3 => ?_⟩, fun y c e => ?_, I.free, I.freeC, fun p hp => ?_, tracked ⟨oL, hoL, I.free⟩ hs, by simpa using I.len⟩ ⟨_, hs, .inl rfl⟩
    · exact (hs.2 b (Nat.ne_of_lt (Nat.lt_of_lt_of_le (Heap.lt_size e) I.ok.above))).trans (I.base.keep b o e n hb hx)
    · obtain ⟨sl, e1⟩ := I.base.slot b o e n hb hx
      exact ⟨sl, (hs.2 b (Nat.ne_of_lt (Nat.lt_of_lt_of_le (Heap.lt_size e) I.ok.above))).trans e1⟩
    · obtain ⟨o', e1⟩ := I.base.there b o e hx
      exact ⟨o', (hs.2 b (Nat.ne_of_lt (Nat.lt_of_lt_of_le (Heap.lt_size e) I.ok.above))).trans e1⟩
    · by_cases hj : j = i
      · subst hj
        rw [hi] at e1; cases e1
        rw [List.getElem?_set_self hiσ] at e2
        cases e2
        exact ⟨u, r, .inl ⟨hk, by simp⟩⟩
      · rw [List.getElem?_set_ne (Ne.symm hj)] at e2
        obtain ⟨u', r', q⟩ := hl j y v' e1 e2 e3
        refine ⟨u', r', ?_⟩
        rcases q with ⟨k, e⟩ | ⟨k, c, e, z⟩
        · refine .inl ⟨k, ?_⟩
          have : y ≠ x := fun e => hj (nodup_ix hN e1 (e ▸ hi))
          simp [this, e]
        · exact .inr ⟨k, c, e, z.sameBut hs (cne y c e)⟩
    · obtain ⟨w', z⟩ := I.cell y c e
      exact ⟨w', z.sameBut hs (cne y c e)⟩
    · obtain ⟨e, n, ne, nf, d⟩ := I.pin p hp
      exact ⟨(hs.2 p.1 ne).trans e, n, ne, nf, d⟩
  · have hfn : X.fn x = true := by
      rcases hf with z | z
      · exact z
      · rw [z] at hk; cases hk
    obtain ⟨c, hc⟩ := I.ok.has x (.inl hk)
    obtain ⟨w', z⟩ := I.cell x c hc
    refine wpAny_storeName_cell I.ok.kind hk hc z (fun h' hc' hs => ?_)
    obtain ⟨oc, hoc, hocd⟩ := id z
    refine h { s with heap := h' } ⟨I.ok, I.os, I.bare, ⟨fun b o e n hb hx => ?_, fun b o e n hb hx => ?_, I.base.free, fun b o e hx => ?_, I.base.tups, I.base.frzs, I.base.tbls⟩, ⟨m, hn.sameBut hs (Ne.symm (cne x c hc)), fun j y v' e1 e2 e3 => ?_⟩, fun y c' e => ?_, I.free, I.freeC, fun p hp => ?_, tracked ⟨oc, hoc, I.freeC x c hc⟩ hs, by simpa using I.len⟩ ⟨c, hs, .inr hc⟩
    · exact (hs.2 b (Nat.ne_of_lt (Nat.lt_of_lt_of_le (Heap.lt_size e) (I.ok.cab x c hfn hc)))).trans (I.base.keep b o e n hb hx)
    · obtain ⟨sl, e1⟩ := I.base.slot b o e n hb hx
      exact ⟨sl, (hs.2 b (Nat.ne_of_lt (Nat.lt_of_lt_of_le (Heap.lt_size e) (I.ok.cab x c hfn hc)))).trans e1⟩
    · obtain ⟨o', e1⟩ := I.base.there b o e hx
      exact ⟨o', (hs.2 b (Nat.ne_of_lt (Nat.lt_of_lt_of_le (Heap.lt_size e) (I.ok.cab x c hfn hc)))).trans e1⟩
    · by_cases hj : j = i
      · subst hj
        rw [hi] at e1; cases e1
        rw [List.getElem?_set_self hiσ] at e2
        cases e2
        exact ⟨u, r, .inr ⟨.inl hk, c, hc, hc'⟩⟩
      · rw [List.getElem?_set_ne (Ne.symm hj)] at e2
        obtain ⟨u', r', q⟩ := hl j y v' e1 e2 e3
        refine ⟨u', r', ?_⟩
        rcases q with q | ⟨k, c', e, z'⟩
        · exact .inl q
        · refine .inr ⟨k, c', e, z'.sameBut hs ?_⟩
          rintro rfl
          exact hj (nodup_ix hN e1 (I.ok.inj _ _ _ e hc ▸ hi))
    · by_cases hcc : c' = c
      · subst hcc; exact ⟨_, hc'⟩
      · obtain ⟨w2, z2⟩ := I.cell y c' e
        exact ⟨w2, z2.sameBut hs hcc⟩
    · obtain ⟨e, n, ne, nf, d⟩ := I.pin p hp
      refine ⟨(hs.2 p.1 ?_).trans e, n, ne, nf, d⟩
      intro q
      rw [q, hoc] at e
      have q' : oc = p.2 := Option.some.inj e
      exact d w' (by rw [← q']; exact hocd)
theorem store_ok {M : Model} {A : Around} {E : Value → Shared → Prop} {i : Nat} {x : Str} {v : V} {u : Value} {Q : Unit → Shared → Prop} (I : Inv X pins σ H s) (hN : X.N.Nodup) (hi : X.N[i]? = some x) (hx : Loc X.env.scope x) (r : RelV v u)
    (h : ∀ s', Inv X pins (σ.set i (some v)) H s' → Q () s') (hf : X.fn x = true ∨ X.env.scope.names.lookup x = some .local := by first | exact .inl rfl | exact .inr rfl | assumption) : wpAny M A (storeName X.env x u) Q E s :=
  store_ok2 I hN hi hx r (fun s' I' _ => h s' I') hf
theorem Inv.call' {s' : Shared} {ch : List Addr} (I : Inv X pins σ H s) (ho : s'.os = s.os) (u : Un (frs X.stack) ch H H' s.heap s'.heap) (hok : HOk X.prog X.w H' s'.heap) (hg : AllBare s'.gens)
    (hch : ∀ b ∈ ch, (b ∈ X.ex ∨ X.s₀.heap.objs.size ≤ b) ∧ b ≠ X.env.locals ∧ (∀ x c, X.env.cells.lookup x = some c → c ≠ b) ∧ ∀ p ∈ X.pn ++ pins, p.1 ≠ b) : Inv X pins σ H' s' := by
  obtain ⟨h', g', d', t', o'⟩ := s'
  have e : o' = s.os := ho
  subst e
  exact I.call (g' := g') (t' := t') (d' := d') u hok hg hch
end
abbrev XK := Value → Option Addr → Hp → Prop
abbrev St := List (Option V)
abbrev VK := V → Hp → Prop
abbrev TE := St → Hp → VK → Prop
abbrev TT := St → Hp → (Bool → Hp → Prop) → Prop
abbrev TA := St → Hp → (List V → Hp → Prop) → Prop
structure Ends where
  nx : St → Hp → Prop
  rt : VK
  bk : St → Hp → Prop := fun _ _ => False
  ct : St → Hp → Prop := fun _ _ => False
abbrev TS := Ends → St → Hp → Prop
def EP (X : Cx) (pins : List (Addr × Obj)) (σ : St) (Q : VK) (u : Value) (s' : Shared) : Prop := ∃ v H', Inv X pins σ H' s' ∧ RelV v u ∧ Q v H'
def TP (X : Cx) (pins : List (Addr × Obj)) (σ : St) (Q : Bool → Hp → Prop) (b : Bool) (s' : Shared) : Prop := ∃ H', Inv X pins σ H' s' ∧ Q b H'
def AP (X : Cx) (pins : List (Addr × Obj)) (σ : St) (Q : List V → Hp → Prop) (us : List Value) (s' : Shared) : Prop := ∃ vs H', Inv X pins σ H' s' ∧ Vals vs us ∧ Q vs H'
def SP (X : Cx) (pins : List (Addr × Obj)) (D : Ends) (f : Flow) (s' : Shared) : Prop :=
  match f with
  | .next => ∃ σ' H', Inv X pins σ' H' s' ∧ D.nx σ' H'
  | .brk => ∃ σ' H', Inv X pins σ' H' s' ∧ D.bk σ' H'
  | .cont => ∃ σ' H', Inv X pins σ' H' s' ∧ D.ct σ' H'
  | .ret u => ∃ v σ' H', Inv X pins σ' H' s' ∧ RelV v u ∧ D.rt v H'
def PE (X : Cx) (e : Expr) (t : TE) : Prop :=
  ∀ (pins : List (Addr × Obj)) (s : Shared) (σ : St) (H : Hp) (Q : VK), Inv X pins σ H s → t σ H Q → wpAny (model X.prog X.w) X.A (eval e X.env) (EP X pins σ Q) X.xe s
def PT (X : Cx) (e : Expr) (t : TT) : Prop :=
  ∀ (pins : List (Addr × Obj)) (s : Shared) (σ : St) (H : Hp) (Q : Bool → Hp → Prop), Inv X pins σ H s → t σ H Q → wpAny (model X.prog X.w) X.A (isTrue e X.env (eval e X.env)) (TP X pins σ Q) X.xe s
def PW (X : Cx) (e : Expr) (t : TT) : Prop :=
  ∀ (whole : Sem Value) (pins : List (Addr × Obj)) (s : Shared) (σ : St) (H : Hp) (Q : Bool → Hp → Prop), Inv X pins σ H s → t σ H Q → wpAny (model X.prog X.w) X.A (isTrue e X.env whole) (TP X pins σ Q) X.xe s
theorem PW.pt {X : Cx} {e : Expr} {t : TT} (h : PW X e t) : PT X e t := h _
def PA (X : Cx) (es : List Expr) (t : TA) : Prop :=
  ∀ (pos : Pos) (pins : List (Addr × Obj)) (s : Shared) (σ : St) (H : Hp) (Q : List V → Hp → Prop), Inv X pins σ H s → t σ H Q → wpAny (model X.prog X.w) X.A (spliced (backTo pos (starEach es X.env))) (AP X pins σ Q) X.xe s
def PS (X : Cx) (st : Stmt) (t : TS) : Prop :=
  ∀ (pins : List (Addr × Obj)) (s : Shared) (σ : St) (H : Hp) (D : Ends), Inv X pins σ H s → t D σ H → wpAny (model X.prog X.w) X.A (exec st X.env) (SP X pins D) X.xe s
def PSs (X : Cx) (st : List Stmt) (t : TS) : Prop :=
  ∀ (pins : List (Addr × Obj)) (s : Shared) (σ : St) (H : Hp) (D : Ends), Inv X pins σ H s → t D σ H → wpAny (model X.prog X.w) X.A (execs st X.env) (SP X pins D) X.xe s
theorem thn {α : Type} {t : Sem α} {Q Q' : α → Shared → Prop} {M : Model} {A : Around} {E : Value → Shared → Prop} {s : Shared} (h : wpAny M A t Q E s) (hQ : ∀ a s, Q a s → Q' a s) : wpAny M A t Q' E s := wpAny_mono h hQ fun _ _ x => x
end L2
namespace L2
open PySem PySem.Spec PyProof.Rows
section
variable {X : Cx}
theorem bin {a b : Expr} {ta tb : TE} (ha : PE X a ta) (hb : PE X b tb) {pins : List (Addr × Obj)} {s : Shared} {σ : St} {H : Hp} {R : V → V → Hp → Prop} (I : Inv X pins σ H s) (h : ta σ H fun x H1 => tb σ H1 fun y H2 => R x y H2)
    {α : Type} {Q : α → Shared → Prop} {f : Value → Value → Sem α}
    (hf : ∀ v u s2 x y H2, Inv X pins σ H2 s2 → RelV x v → RelV y u → R x y H2 → wpAny (model X.prog X.w) X.A (f v u) Q X.xe s2) :
    wpAny (model X.prog X.w) X.A (eval a X.env) (fun v s₁ => wpAny (model X.prog X.w) X.A (eval b X.env) (fun u s₂ => wpAny (model X.prog X.w) X.A (f v u) Q X.xe s₂) X.xe s₁) X.xe s := by
  refine thn (ha pins s σ H _ I h) fun v s1 ⟨x, H1, I1, r1, q1⟩ => ?_
  refine thn (hb pins s1 σ H1 _ I1 q1) fun u s2 ⟨y, H2, I2, r2, q2⟩ => ?_
  exact hf v u s2 x y H2 I2 r1 r2 q2
def tVar (i : Nat) : TE := fun σ H Q => ∃ v, σ[i]? = some (some v) ∧ Q v H
def tC (v : V) : TE := fun _ H Q => Q v H
theorem pe_var {i : Nat} {x : Str} {pos : Pos} (hN : X.N[i]? = some x) (hv : Vis X.env.scope x) (hd : (x == ("__debug__" : Str)) = false := by decide) (hcd : (x == ("__classdict__" : Str)) = false := by decide) : PE X (.Name x pos) (tVar i) := by
  intro pins s σ H Q I h
  obtain ⟨v, e, h⟩ := h
  obtain ⟨m, hn, hl⟩ := I.loc
  obtain ⟨u, r, l⟩ := hl i x v hN e hv
  have fin : EP X pins σ Q u s := ⟨v, H, I, r, h⟩
  rcases l with ⟨hk, hm⟩ | ⟨hk, c, hc, hcell⟩
  · exact wpAny_Name (wpAny_loadName_local I.ok.kind hk hn hm fin) hd
  · rcases hk with hk | hk
    · exact wpAny_Name (wpAny_loadName_cell I.ok.kind hk hc hcell fin) hd
    · exact wpAny_Name (wpAny_loadName_free I.ok.kind hk hc hcell fin hcd) hd
theorem pe_int {i j pos} : PE X (.Constant (.int i) j pos) (tC (.int i)) := fun _ _ _ H _ I h => wpAny_Constant_int ⟨.int i, H, I.tok _, ⟨_, rfl⟩, h⟩
theorem pe_bl {b j pos} : PE X (.Constant (.bool b) j pos) (tC (.bl b)) := fun _ _ _ H _ I h => Constant_bool ⟨.bl b, H, I, rfl, h⟩
theorem pe_non {j pos} : PE X (.Constant .none j pos) (tC .non) := fun _ _ _ H _ I h => Constant_none ⟨.non, H, I, rfl, h⟩
theorem pe_str {x j pos} : PE X (.Constant (.str x) j pos) (tC (.str x)) := fun _ _ _ H _ I h => Calls.Constant_str ⟨.str x, H, I.tok _, ⟨_, rfl⟩, h⟩
def Gl (X : Cx) (x : Str) : Prop := X.env.kindOf x = some .globalImplicit
theorem ld_glob {E : Value → Shared → Prop} {pins : List (Addr × Obj)} {s : Shared} {σ : St} {H : Hp} {x : Str} {u : Value} {pos : Pos} {Q : Value → Shared → Prop} (I : Inv X pins σ H s) (hg : Gl X x) (hm : X.mg x = some u) (h : Q u s)
    (hd : (x == ("__debug__" : Str)) = false := by decide) : wpAny (model X.prog X.w) X.A (eval (.Name x pos) X.env) Q E s :=
  Calls.Name_function_global I.ok.kind hg (Calls.loadGlobal_global (by rw [I.ok.glob]; exact I.mod.glob.keeps I.bk) hm h) hd
theorem ld_blt {E : Value → Shared → Prop} {pins : List (Addr × Obj)} {s : Shared} {σ : St} {H : Hp} {x : Str} {u : Value} {pos : Pos} {Q : Value → Shared → Prop} (I : Inv X pins σ H s) (hg : Gl X x) (hm : X.mg x = none) (hv : bootBuiltins x = some u) (h : Q u s)
    (hn : x ≠ "__name__" := by decide) (hd : (x == ("__debug__" : Str)) = false := by decide) : wpAny (model X.prog X.w) X.A (eval (.Name x pos) X.env) Q E s := by
  obtain ⟨mb, h1, h2⟩ := I.mod.blt
  exact Calls.Name_function_global I.ok.kind hg (Calls.loadGlobal_builtin (by rw [I.ok.glob]; exact I.mod.glob.keeps I.bk) hm (by rw [I.ok.blt]; exact h1.keeps I.bk) ((h2 x hn).trans hv) h) hd
theorem pe_glob {x : Str} {v : V} {u : Value} {pos : Pos} (hg : Gl X x) (hm : X.mg x = some u) (r : RelV v u) (hd : (x == ("__debug__" : Str)) = false := by decide) : PE X (.Name x pos) (tC v) :=
  fun _ _ _ H _ I h => ld_glob I hg hm ⟨v, H, I, r, h⟩ hd
theorem pe_bltn {x : Str} {v : V} {u : Value} {pos : Pos} (hg : Gl X x) (hm : X.mg x = none) (hv : bootBuiltins x = some u) (r : RelV v u) (hn : x ≠ "__name__" := by decide) (hd : (x == ("__debug__" : Str)) = false := by decide) : PE X (.Name x pos) (tC v) :=
  fun _ _ _ H _ I h => ld_blt I hg hm hv ⟨v, H, I, r, h⟩ hn hd
def t2I (ta tb : TE) (k : Int → Int → Hp → Prop) : St → Hp → Prop := fun σ H => ta σ H fun x H1 => tb σ H1 fun y H2 => ∃ i j, x = .int i ∧ y = .int j ∧ k i j H2
variable {a b : Expr} {ta tb : TE} {pos : Pos}
def PC (X : Cx) (op : CmpOp) (a b : Expr) (t : TE) : Prop :=
  ∀ (pins : List (Addr × Obj)) (s : Shared) (σ : St) (H : Hp) (Q : VK), Inv X pins σ H s → t σ H Q →
    wpAny (model X.prog X.w) X.A (eval a X.env) (fun v s₁ => wpAny (model X.prog X.w) X.A (eval b X.env) (fun u s₂ => wpAny (model X.prog X.w) X.A (compareOp op v u) (EP X pins σ Q) X.xe s₂) X.xe s₁) X.xe s
theorem nobehind (b : Expr) {op : CmpOp} (h : op ≠ .In) (h2 : op ≠ .NotIn) : behindInMarks op b = false := by
  have e1 : (op == CmpOp.In) = false := by cases op <;> first | rfl | exact absurd rfl h
  have e2 : (op == CmpOp.NotIn) = false := by cases op <;> first | rfl | exact absurd rfl h2
  cases b <;> simp [behindInMarks, e1, e2]
def tCmp (p : Int → Int → Bool) (ta tb : TE) : TE := fun σ H Q => t2I ta tb (fun i j H2 => Q (.bl (p i j)) H2) σ H
abbrev tNeI : TE → TE → TE := tCmp fun i j => !decide (i = j)
theorem pc_int {op : CmpOp} {p : Int → Int → Bool} (ha : PE X a ta) (hb : PE X b tb)
    (rule : ∀ (i j : Int) (t u : Tok) (Q : Value → Shared → Prop) (s : Shared), Q (.bool (p i j)) s → wpAny (model X.prog X.w) X.A (compareOp op (.int i t) (.int j u)) Q X.xe s) : PC X op a b (tCmp p ta tb) := by
  intro pins s σ H Q I h
  refine bin ha hb I h fun v u s2 x y H2 I2 rx ry q => ?_
  obtain ⟨i, j, rfl, rfl, q⟩ := q
  obtain ⟨t, rfl⟩ := rx
  obtain ⟨t', rfl⟩ := ry
  exact rule i j t t' _ s2 ⟨.bl _, H2, I2, rfl, q⟩
theorem pc_neI (ha : PE X a ta) (hb : PE X b tb) : PC X .NotEq a b (tNeI ta tb) := pc_int ha hb fun _ _ _ _ _ _ h => ne_int (by rw [bne, Bool.beq_eq_decide_eq]; exact h)
def tB (t : TE) : TT := fun σ H Q => t σ H fun x H1 => ∃ c, x = .bl c ∧ Q c H1
theorem pt_cmp {op : CmpOp} {t : TE} (h : PC X op a b t) (h1 : behindInMarks op b = false := by first | exact nobehind _ (by decide) (by decide) | rfl) : PT X (.Compare a [op] [b] pos) (tB t) := by
  intro pins s σ H Q I hw
  refine wpAny_isTrue_Compare1 (thn (h pins s σ H _ I hw) fun v s1 h1 => thn h1 fun u s2 h2 => thn h2 fun c s3 ⟨x, H1, I1, r1, q1⟩ => ?_) h1
  obtain ⟨d, rfl, q⟩ := q1
  cases r1
  exact wpAny_truthy_bool ⟨H1, I1, q⟩
theorem pt_val {e : Expr} {t : TE} (h : PE X e t) (he : ∀ whole, isTrue e X.env whole = (do let v ← whole; standAt e.pos; holding [v] (truthy v)) := by intro _; rfl) : PT X e (tB t) := by
  intro pins s σ H Q I hw
  refine isTrue_plain (thn (h pins s σ H _ I hw) fun v s1 ⟨x, H1, I1, r1, q1⟩ => ?_) (he _)
  obtain ⟨d, rfl, q⟩ := q1
  cases r1
  exact wpAny_truthy_bool ⟨H1, I1, q⟩
variable {tA tB' : TT} {rest : List Expr}
def tAnd (t u : TT) : TT := fun σ H Q => t σ H fun c H1 => if c = true then u σ H1 Q else Q false H1
def tOr (t u : TT) : TT := fun σ H Q => t σ H fun c H1 => if c = true then Q true H1 else u σ H1 Q
def tNot (t : TT) : TT := fun σ H Q => t σ H fun c H1 => Q (!c) H1
theorem pw_and1 (ha : PT X a tA) : PW X (.BoolOp .And [a] pos) tA := by
  intro wh pins s σ H Q I h
  refine isTrue_and (thn (ha pins s σ H Q I h) fun c s1 e => ?_)
  cases c with
  | true => exact isTrue_and_nil e
  | false => exact e
theorem pw_or1 (ha : PT X a tA) : PW X (.BoolOp .Or [a] pos) tA := by
  intro wh pins s σ H Q I h
  refine isTrue_or (thn (ha pins s σ H Q I h) fun c s1 e => ?_)
  cases c with
  | false => exact isTrue_or_nil e
  | true => exact e
theorem pw_and (ha : PT X a tA) (hb : PW X (.BoolOp .And (b :: rest) pos) tB') : PW X (.BoolOp .And (a :: b :: rest) pos) (tAnd tA tB') := by
  intro wh pins s σ H Q I h
  refine isTrue_and (thn (ha pins s σ H _ I h) fun c s1 ⟨H1, I1, q1⟩ => ?_)
  cases c with
  | true => exact hb wh pins s1 σ H1 Q I1 q1
  | false => exact ⟨H1, I1, q1⟩
theorem pw_or (ha : PT X a tA) (hb : PW X (.BoolOp .Or (b :: rest) pos) tB') : PW X (.BoolOp .Or (a :: b :: rest) pos) (tOr tA tB') := by
  intro wh pins s σ H Q I h
  refine isTrue_or (thn (ha pins s σ H _ I h) fun c s1 ⟨H1, I1, q1⟩ => ?_)
  cases c with
  | true => exact ⟨H1, I1, q1⟩
  | false => exact hb wh pins s1 σ H1 Q I1 q1
theorem pt_not (ha : PT X a tA) : PT X (.UnaryOp .Not a pos) (tNot tA) := by
  intro pins s σ H Q I h
  exact isTrue_not (ha pins s σ H (fun c H1 => Q (!c) H1) I h)
def tAndV (ta tb : TE) : TE := fun σ H Q => ta σ H fun x H1 => ∃ c, x = .bl c ∧ if c = true then tb σ H1 Q else Q (.bl false) H1
def tOrV (ta tb : TE) : TE := fun σ H Q => ta σ H fun x H1 => ∃ c, x = .bl c ∧ if c = true then Q (.bl true) H1 else tb σ H1 Q
def tNotV (ta : TE) : TE := fun σ H Q => ta σ H fun x H1 => ∃ c, x = .bl c ∧ Q (.bl (!c)) H1
theorem pe_one {op} {t : TE} (h : PE X a t) : PE X (.BoolOp op [a] pos) t := fun pins s σ H Q I hw => BoolOp_one (h pins s σ H Q I hw)
theorem pe_and (ha : PE X a ta) (hb : PE X (.BoolOp .And (b :: rest) pos) tb) : PE X (.BoolOp .And (a :: b :: rest) pos) (tAndV ta tb) := by
  intro pins s σ H Q I h
  refine BoolOp_and (thn (ha pins s σ H _ I h) fun v s1 ⟨x, H1, I1, r1, q1⟩ => ?_)
  obtain ⟨c, rfl, q1⟩ := q1
  cases r1
  refine wpAny_truthy_bool ?_
  cases c with
  | true => exact hb pins s1 σ H1 Q I1 q1
  | false => exact ⟨.bl false, H1, I1, rfl, q1⟩
theorem pe_or (ha : PE X a ta) (hb : PE X (.BoolOp .Or (b :: rest) pos) tb) : PE X (.BoolOp .Or (a :: b :: rest) pos) (tOrV ta tb) := by
  intro pins s σ H Q I h
  refine BoolOp_or (thn (ha pins s σ H _ I h) fun v s1 ⟨x, H1, I1, r1, q1⟩ => ?_)
  obtain ⟨c, rfl, q1⟩ := q1
  cases r1
  refine wpAny_truthy_bool ?_
  cases c with
  | false => exact hb pins s1 σ H1 Q I1 q1
  | true => exact ⟨.bl true, H1, I1, rfl, q1⟩
theorem pe_not (ha : PE X a ta) : PE X (.UnaryOp .Not a pos) (tNotV ta) := by
  intro pins s σ H Q I h
  refine UnaryOp_ (thn (ha pins s σ H _ I h) fun v s1 ⟨x, H1, I1, r1, q1⟩ => ?_)
  obtain ⟨c, rfl, q1⟩ := q1
  cases r1
  exact not_of (wpAny_truthy_bool ⟨.bl (!c), H1, I1, rfl, q1⟩)
end
end L2
namespace L2
open PySem PySem.Spec PyProof.Rows
def SqL (K : PySem.W.Frag) (H : Hp) (a : Addr) (xs : List V) : Prop :=
  Rd H a (.lst xs) ∨
    ∃ (o : Obj) (its : Array Value) (n : Nat), K.lookup a = some o ∧ o.cls = .type "list" ∧ o.dict = none ∧ o.data = .seq its n ∧ its.size ≤ sizeLine ∧ Vals xs its.toList
def SqT (K : PySem.W.Frag) (H : Hp) (a : Addr) (xs : List V) : Prop :=
  Rd H a (.tup xs) ∨
    ∃ (o : Obj) (its : Array Value) (n : Nat), K.lookup a = some o ∧ o.cls = .type "tuple" ∧ o.data = .seq its n ∧ its.size ≤ sizeLine ∧ Vals xs its.toList
def absV : Value → Option V
  | .none => some .non
  | .bool b => some (.bl b)
  | .int i _ => some (.int i)
  | .str x _ => some (.str x)
  | .bytes b _ => some (.byt b)
  | .float b _ => some (.flt b)
  | .ref a => some (.ref a)
  | .type n => some (.ty n)
  | _ => none
theorem RelV.abs {x : V} {u : Value} (r : RelV x u) : absV u = some x := by
  cases x with
  | non => cases r; rfl
  | bl _ => cases r; rfl
  | int _ => obtain ⟨t, rfl⟩ := r; rfl
  | str _ => obtain ⟨t, rfl⟩ := r; rfl
  | byt _ => obtain ⟨t, rfl⟩ := r; rfl
  | flt _ => obtain ⟨t, rfl⟩ := r; rfl
  | ref _ => cases r; rfl
  | ty _ => cases r; rfl
theorem RelV.inj {x y : V} {u : Value} (r : RelV x u) (q : RelV y u) : x = y := Option.some.inj (r.abs.symm.trans q.abs)
theorem Vals.inj : ∀ {xs ys : List V} {us : List Value}, Vals xs us → Vals ys us → xs = ys
  | _, _, _, .nil, .nil => rfl
  | _, _, _, .cons r t, .cons r' t' => by rw [r.inj r', Vals.inj t t']
section
variable {X : Cx} {pins : List (Addr × Obj)} {σ : St} {H : Hp} {s : Shared} {a : Addr} {xs ys : List V}
theorem SqL.of {K : PySem.W.Frag} (h : H a = some (.lst xs)) : SqL K H a xs := .inl (.inl h)
theorem SqT.of {K : PySem.W.Frag} (h : H a = some (.tup xs)) : SqT K H a xs := .inl (.inl h)
theorem Inv.list (I : Inv X pins σ H s) (h : SqL X.K H a xs) : ∃ its : List Value, Vals xs its ∧ PlainL s.heap a its.toArray ∧ xs.length ≤ sizeLine := by
  rcases h with h | ⟨o, its, n, hk, hc, hd, hs, hz, r⟩
  · obtain ⟨z, its, n, r, e⟩ := h.ok I.hok
    exact ⟨its, r, ⟨_, n, e, rfl, rfl, rfl⟩, z⟩
  · refine ⟨its.toList, r, ⟨o, n, I.kIn a o hk, hc, hd, by simpa using hs⟩, ?_⟩
    have e := r.length
    simp only [Array.length_toList] at e
    omega
theorem Inv.tuple (I : Inv X pins σ H s) (h : SqT X.K H a xs) : ∃ its : List Value, Vals xs its ∧ IsTup s.heap a its.toArray ∧ xs.length ≤ sizeLine := by
  rcases h with h | ⟨o, its, n, hk, hc, hs, hz, r⟩
  · obtain ⟨z, its, r, p⟩ := h.ok I.hok
    exact ⟨its, r, p, z⟩
  · refine ⟨its.toList, r, ⟨o, I.kIn a o hk, hc, n, by simpa using hs⟩, ?_⟩
    have e := r.length
    simp only [Array.length_toList] at e
    omega
theorem Inv.list_inj (I : Inv X pins σ H s) (h : SqL X.K H a xs) (h' : SqL X.K H a ys) : xs = ys := by
  obtain ⟨its, r, ⟨o, n, e, _, _, d⟩, _⟩ := I.list h
  obtain ⟨its', r', ⟨o', n', e', _, _, d'⟩, _⟩ := I.list h'
  rw [e] at e'; cases e'
  rw [d] at d'
  injection d' with d1 _
  have : its = its' := by simpa using congrArg Array.toList d1
  subst this
  exact r.inj r'
theorem Inv.tuple_inj (I : Inv X pins σ H s) (h : SqT X.K H a xs) (h' : SqT X.K H a ys) : xs = ys := by
  obtain ⟨its, r, ⟨o, e, _, n, d⟩, _⟩ := I.tuple h
  obtain ⟨its', r', ⟨o', e', _, n', d'⟩, _⟩ := I.tuple h'
  rw [e] at e'; cases e'
  rw [d] at d'
  injection d' with d1 _
  have : its = its' := by simpa using congrArg Array.toList d1
  subst this
  exact r.inj r'
end
section
variable {X : Cx} {pins : List (Addr × Obj)} {σ : St} {H : Hp} {s : Shared} {E : Value → Shared → Prop}
end
section
variable {X : Cx} {st : Stmt} {rest : List Stmt} {t u : TS} {e : Expr} {te : TE} {pos : Pos}
def tNext : TS := fun D σ H => D.nx σ H
def tSeq (t u : TS) : TS := fun D σ H => t { D with nx := u D } σ H
theorem pss_nil : PSs X [] tNext := fun _ _ σ H _ I h => wpAny_execs_nil ⟨σ, H, I, h⟩
theorem pss_cons (h1 : PS X st t) (h2 : PSs X rest u) : PSs X (st :: rest) (tSeq t u) := by
  intro pins s σ H D I h
  refine wpAny_execs_cons (thn (h1 pins s σ H { D with nx := u D } I h) fun f s1 q => ?_)
  cases f with
  | next =>
    obtain ⟨σ', H', I', q⟩ := q
    exact h2 pins s1 σ' H' D I' q
  | ret v => exact q
  | brk => exact q
  | cont => exact q
theorem pss_one (h1 : PS X st t) : PSs X [st] t := by
  intro pins s σ H D I h
  refine wpAny_execs_cons (thn (h1 pins s σ H D I h) fun f s1 q => ?_)
  cases f with
  | next => exact wpAny_execs_nil q
  | ret v => exact q
  | brk => exact q
  | cont => exact q
theorem Inv.quiet {pins : List (Addr × Obj)} {σ : St} {H : Hp} {s : Shared} (I : Inv X pins σ H s) : interactive X.env = false := by simp [interactive, I.ok.kind]
def tDrop (te : TE) : TS := fun D σ H => te σ H fun _ H1 => D.nx σ H1
theorem ps_expr (he : PE X e te) (hs : swapsWith e none pos.line X.env = pure false := by rfl) : PS X (.Expr e pos) (tDrop te) := by
  intro pins s σ H D I h
  exact wpAny_Expr_any (thn (he pins s σ H _ I h) fun v s1 ⟨x, H1, I1, r1, q1⟩ => ⟨σ, H1, I1, q1⟩) I.quiet hs
def tRet (te : TE) : TS := fun D σ H => te σ H D.rt
theorem ps_ret (he : PE X e te) : PS X (.Return (some e) pos) (tRet te) := by
  intro pins s σ H D I h
  exact wpAny_Return_some (thn (he pins s σ H _ I h) fun v s1 ⟨x, H1, I1, r1, q1⟩ => ⟨x, σ, H1, I1, r1, q1⟩)
def tIfS (c : TT) (t u : TS) : TS := fun D σ H => c σ H fun b H1 => if b = true then t D σ H1 else u D σ H1
theorem ps_if {c : Expr} {a b : List Stmt} {tc : TT} (hc : PT X c tc) (ha : PSs X a t) (hb : PSs X b u) : PS X (.If c a b pos) (tIfS tc t u) := by
  intro pins s σ H D I h
  refine wpAny_If (thn (hc pins s σ H _ I h) fun d s1 ⟨H1, I1, q1⟩ => ?_)
  cases d with
  | true => exact ha pins s1 σ H1 D I1 q1
  | false => exact hb pins s1 σ H1 D I1 q1
end
abbrev TG := V → St → Hp → (St → Hp → Prop) → Prop
abbrev TGs := List V → St → Hp → (St → Hp → Prop) → Prop
def PG (X : Cx) (target : Expr) (t : TG) : Prop :=
  ∀ (pins : List (Addr × Obj)) (s : Shared) (σ : St) (H : Hp) (v : V) (u : Value) (Q : St → Hp → Prop), Inv X pins σ H s → RelV v u → t v σ H Q →
    wpAny (model X.prog X.w) X.A (assign target X.env u) (fun _ s' => ∃ σ' H', Inv X pins σ' H' s' ∧ Q σ' H') X.xe s
def PGs (X : Cx) (ts : List Expr) (t : TGs) : Prop :=
  ∀ (pins : List (Addr × Obj)) (s : Shared) (σ : St) (H : Hp) (vs : List V) (us : List Value) (Q : St → Hp → Prop), Inv X pins σ H s → Vals vs us → t vs σ H Q →
    wpAny (model X.prog X.w) X.A (assignInOrder ((assignEach ts X.env).map (·.2)) us) (fun _ s' => ∃ σ' H', Inv X pins σ' H' s' ∧ Q σ' H') X.xe s
section
variable {X : Cx} {pos : Pos}
def gName (i : Nat) : TG := fun v σ H Q => Q (σ.set i (some v)) H
theorem pg_name {i : Nat} {x : Str} (hN : X.N.Nodup) (hi : X.N[i]? = some x) (hx : Loc X.env.scope x) (hf : X.fn x = true ∨ X.env.scope.names.lookup x = some .local := by first | exact .inl rfl | exact .inr rfl | assumption) : PG X (.Name x pos) (gName i) := by
  intro pins s σ H v u Q I r h
  exact wpAny_assign_Name (store_ok I hN hi hx r (fun s' I' => ⟨_, H, I', h⟩) hf)
def gNil : TGs := fun vs σ H Q => vs = [] ∧ Q σ H
def gCons (t : TG) (u : TGs) : TGs := fun vs σ H Q => ∃ v r, vs = v :: r ∧ t v σ H fun σ' H' => u r σ' H' Q
theorem pgs_nil : PGs X [] gNil := by
  intro pins s σ H vs us Q I r h
  obtain ⟨e, h⟩ := h
  subst e
  cases r
  exact assignInOrder_nil ⟨σ, H, I, h⟩
theorem pgs_cons {e : Expr} {es : List Expr} {t : TG} {u : TGs} (h1 : PG X e t) (h2 : PGs X es u)
    (hs : (assignEach (e :: es) X.env).map (·.2) = assign e X.env :: (assignEach es X.env).map (·.2) := by rfl) : PGs X (e :: es) (gCons t u) := by
  intro pins s σ H vs us Q I r h
  obtain ⟨v, vr, e1, h⟩ := h
  subst e1
  cases r with
  | cons r rr =>
    rw [hs]
    refine assignInOrder_cons (thn (h1 pins s σ H _ _ _ I r h) fun _ s1 ⟨σ1, H1, I1, q1⟩ => ?_)
    exact h2 pins s1 σ1 H1 _ _ Q I1 rr q1
def gTup (K : PySem.W.Frag) (n : Nat) (t : TGs) : TG := fun v σ H Q => ∃ a xs, v = .ref a ∧ SqT K H a xs ∧ xs.length = n ∧ t xs σ H Q
theorem pg_tup {es : List Expr} {k : Nat} {t : TGs} {n : Nat} (hc : X.calm = true) (h : PGs X es t)
    (hn : (assignEach es X.env).length = n := by rfl) (hst : (assignEach es X.env).findIdx? (·.1) = none := by rfl) : PG X (.Tuple es k pos) (gTup X.K n t) := by
  intro pins s σ H v u Q I r hw
  obtain ⟨a, xs, e1, hq, hl, hw⟩ := hw
  subst e1
  cases r
  obtain ⟨its, rv, ht, hz⟩ := I.tuple hq
  refine assign_Tuple_tuple (I.ok.hd hc) ht (by simp [hn, ← hl, rv.length]) hst fun h' hx => ?_
  have I1 : Inv X pins σ H { s with heap := h' } := I.kept (t' := s.toks) fun b o e => hx b o (Nat.ne_of_lt (Heap.lt_size e)) e
  exact h pins _ σ H xs _ Q I1 (by simpa using rv) hw
def tAsg (te : TE) (g : TG) : TS := fun D σ H => te σ H fun x H1 => g x σ H1 D.nx
theorem ps_asg {tg e : Expr} {te : TE} {g : TG} (he : PE X e te) (hg : PG X tg g) (hs : swapsWithSole [tg] e pos.line X.env = pure false := by rfl) (hw : swappedStores [tg] e X.env = pure none := by rfl)
    (h1 : (assignEach [tg] X.env).map (·.2) = [assign tg X.env] := by rfl) : PS X (.Assign [tg] e pos) (tAsg te g) := by
  intro pins s σ H D I h
  refine wpAny_Assign_stores (thn (he pins s σ H _ I h) fun v s1 ⟨x, H1, I1, r1, q1⟩ => ?_) hs hw
  rw [h1]
  exact thn (hg pins s1 σ H1 x v _ I1 r1 q1) fun _ s2 q => q
theorem ps_set {i : Nat} {x : Str} {e : Expr} {te : TE} {pos' : Pos} (hN : X.N.Nodup) (hi : X.N[i]? = some x) (hx : Loc X.env.scope x) (he : PE X e te) (hs : swapsWith e (some (.Name x pos')) pos.line X.env = pure false := by rfl) (hf : X.fn x = true ∨ X.env.scope.names.lookup x = some .local := by first | exact .inl rfl | exact .inr rfl | assumption) :
    PS X (.Assign [.Name x pos'] e pos) (tAsg te (gName i)) := by
  intro pins s σ H D I h
  refine wpAny_Assign_Name (thn (he pins s σ H _ I h) fun v s1 ⟨y, H1, I1, r1, q1⟩ => ?_) hs
  exact store_ok I1 hN hi hx r1 (fun s2 I2 => ⟨_, H1, I2, q1⟩) hf
end
section
variable {X : Cx} {pos : Pos}
end
structure It where
  go : Nat → Hp → Prop
  yld : Nat → Hp → V → Hp → Prop
  stop : Nat → Hp → Prop
def FpOk (X : Cx) (pins : List (Addr × Obj)) (H : Hp) (b : Addr) : Prop :=
  H b = none ∧ b ≠ X.env.locals ∧ b ∉ X.fs ∧ (b ∈ X.ex ∨ X.s₀.heap.objs.size ≤ b) ∧ (∀ x c, X.env.cells.lookup x = some c → c ≠ b) ∧ ∀ p ∈ X.pn ++ pins, p.1 ≠ b
theorem Inv.fpOk {X : Cx} {pins : List (Addr × Obj)} {σ : St} {H H' : Hp} {s : Shared} {b : Addr} (I : Inv X pins σ H s) (hb : s.heap.objs.size ≤ b) (hn : H' b = none) : FpOk X pins H' b := by
  refine ⟨hn, Nat.ne_of_gt (Nat.lt_of_lt_of_le I.lt hb), I.nofs hb, .inr (Nat.le_trans I.sz hb), fun x c e z => ?_, fun p hp z => ?_⟩
  · obtain ⟨v, q⟩ := I.cell x c e
    exact absurd (Nat.lt_of_lt_of_le q.lt (by rw [z]; exact hb)) (Nat.lt_irrefl _)
  · exact absurd (Nat.lt_of_lt_of_le (Heap.lt_size (I.pin p hp).1) (by rw [z]; exact hb)) (Nat.lt_irrefl _)
structure Turn (P : Program) (w : World) (K : PySem.W.Frag) (tg : Expr) (J : It) (fp : List Addr) (it : Addr) (tn : Nat → Heap → Prop) : Prop where
  mem : it ∈ fp
  obj : ∀ i h, tn i h → ∀ b ∈ fp, ∃ o, h.get? b = some o ∧ ∀ v, o.data ≠ .cell v
  keep : ∀ i h h', tn i h → (∀ b ∈ fp, ∀ o, h.get? b = some o → h'.get? b = some o) → tn i h'
  item : ∀ (X : Cx), X.prog = P → X.w = w → X.K = K → X.calm = true → ∀ (i : Nat) (pins : List (Addr × Obj)) (s : Shared) (σ : St) (H : Hp) (E : Value → Shared → Prop), Inv X pins σ H s → (∀ b ∈ fp, FpOk X pins H b) → tn i s.heap → J.go i H →
    wpAny (model P w) X.A (pyNext (.ref it)) (fun r s1 => ∃ u, r = some u ∧
      wpAny (model P w) X.A (letOwnedTupleGo tg (.ref it) u) (fun _ s2 => ∃ x H', Inv X pins σ H' s2 ∧ RelV x u ∧ J.yld i H x H' ∧ tn (i + 1) s2.heap ∧ ∀ b ∈ fp, H' b = none) E s1) E s
  done : ∀ (X : Cx), X.prog = P → X.w = w → X.K = K → X.calm = true → ∀ (i : Nat) (pins : List (Addr × Obj)) (s : Shared) (σ : St) (H : Hp) (E : Value → Shared → Prop), Inv X pins σ H s → (∀ b ∈ fp, FpOk X pins H b) → tn i s.heap → J.stop i H →
    wpAny (model P w) X.A (pyNext (.ref it)) (fun r s1 => r = none ∧ Inv X pins σ H s1) E s
  self : ∀ (A : Around) (i : Nat) (s : Shared) (Q : Value → Shared → Prop) (E : Value → Shared → Prop), tn i s.heap → Q (.ref it) s → wpAny (model P w) A (pyIter (.ref it)) Q E s
abbrev TI := St → Hp → (It → Hp → Prop) → Prop
def PIE (X : Cx) (pins : List (Addr × Obj)) (σ : St) (tg : Expr) (R : It → Hp → Prop) (itv : Value) (s2 : Shared) : Prop :=
  ∃ (it : Addr) (fp : List Addr) (tn : Nat → Heap → Prop) (J : It) (H' : Hp), itv = .ref it ∧ Inv X pins σ H' s2 ∧ Turn X.prog X.w X.K tg J fp it tn ∧ tn 0 s2.heap ∧ (∀ b ∈ fp, FpOk X pins H' b) ∧ R J H'
def PI (X : Cx) (tg iter : Expr) (wi : TI) : Prop :=
  ∀ (pins : List (Addr × Obj)) (s : Shared) (σ : St) (H : Hp) (R : It → Hp → Prop), Inv X pins σ H s → wi σ H R →
    wpAny (model X.prog X.w) X.A (eval iter X.env) (fun v s1 => wpAny (model X.prog X.w) X.A (pyIter v) (PIE X pins σ tg R) X.xe s1) X.xe s
theorem go_of {M : Model} {A : Around} {E : Value → Shared → Prop} {s : Shared} {tg : Expr} {it : Addr} {u : Value} {o : Obj} {n : String} {vs : Array Value} {Q : Unit → Shared → Prop} (ho : s.heap.get? it = some o) (hc : o.cls = .type n) (hd : o.data = .fields vs)
    (hn : ["enumerate", "zip", "dict_itemiterator", "dict_reverseitemiterator", "odict_iterator", "itertools.zip_longest", "itertools.pairwise"].contains n = false) (hQ : Q () s) : wpAny M A (letOwnedTupleGo tg (.ref it) u) Q E s := by
  unfold letOwnedTupleGo
  cases tg <;> first
    | exact wpAny_pure hQ
    | (cases u <;> first
        | exact wpAny_pure hQ
        | (refine wpAny_bind (wpAny_load ho ?_)
           rw [hc, hd]
           show wpAny M A (if (["enumerate", "zip", "dict_itemiterator", "dict_reverseitemiterator", "odict_iterator", "itertools.zip_longest", "itertools.pairwise"].contains n && vs[0]? == some (rawInt _)) = true then _ else _) Q E s
           rw [if_neg (by intro h; rw [hn, Bool.false_and] at h; cases h)]
           exact wpAny_pure hQ))
def Itl (K : PySem.W.Frag) (a : Addr) : It :=
  ⟨fun i H => ∃ xs x, SqL K H a xs ∧ xs[i]? = some x, fun i H x H' => H' = H ∧ ∀ xs, SqL K H a xs → xs[i]? = some x, fun i H => ∃ xs, SqL K H a xs ∧ xs.length ≤ i⟩
def Itt (K : PySem.W.Frag) (a : Addr) : It :=
  ⟨fun i H => ∃ xs x, SqT K H a xs ∧ xs[i]? = some x, fun i H x H' => H' = H ∧ ∀ xs, SqT K H a xs → xs[i]? = some x, fun i H => ∃ xs, SqT K H a xs ∧ xs.length ≤ i⟩
def Itr (lo : Int) (n : Nat) : It := ⟨fun i _ => i < n, fun i H x H' => H' = H ∧ x = .int (lo + i), fun i _ => n ≤ i⟩
theorem turn_list {P : Program} {w : World} {K : PySem.W.Frag} {tg : Expr} (a it : Addr) : Turn P w K tg (Itl K a) [it] it (fun i h => h.IsListIter it a i) where
  mem := by simp
  obj := fun i h st b hb => by
    have e : b = it := by simpa using hb
    subst e
    obtain ⟨o, e, c, d⟩ := st
    exact ⟨o, e, fun v z => by rw [d] at z; cases z⟩
  keep := fun i h h' st k => st.at fun o e => k it (by simp) o e
  item := by
    intro X hP hw hK hc i pins s σ H E I hf st hg
    subst hP hw hK
    obtain ⟨xs, x, hq, hx⟩ := hg
    obtain ⟨its, rv, p, hz⟩ := I.list hq
    obtain ⟨u, hu, ru⟩ := rv.get hx
    obtain ⟨f0, f1, f2, f3, f4, f5⟩ := hf it (by simp)
    refine wpAny_pyNext_list_item st p.isList (x := u) (by simpa using hu) fun h' st' sb => ?_
    have I1 : Inv X pins σ H { s with heap := h' } := I.turned (t' := s.toks) (fun b o hb e => (sb.2 b hb).trans e) f0 f1 f3 f4 f5
    obtain ⟨o, e, c, d⟩ := id st'
    exact ⟨u, rfl, go_of (s := { s with heap := h' }) e c d (by decide) ⟨x, H, I1, ru, ⟨rfl, fun ys hy => by rw [I.list_inj hy hq]; exact hx⟩, st', fun b hb => (hf b hb).1⟩⟩
  done := by
    intro X hP hw hK hc i pins s σ H E I hf st hg
    subst hP hw hK
    obtain ⟨xs, hq, hx⟩ := hg
    obtain ⟨its, rv, p, hz⟩ := I.list hq
    obtain ⟨f0, f1, f2, f3, f4, f5⟩ := hf it (by simp)
    have hl := rv.length
    exact wpAny_pyNext_list_end (I.ok.hd hc) st p.isList (by simp; omega) fun h' eb => ⟨rfl, I.turned (t' := s.toks) (fun b o hb e => eb b o hb e) f0 f1 f3 f4 f5⟩
  self := fun _ _ _ _ _ st h => wpAny_pyIter_listiter st h
theorem turn_tuple {P : Program} {w : World} {K : PySem.W.Frag} {tg : Expr} (a it : Addr) : Turn P w K tg (Itt K a) [it] it (fun i h => h.IsTupleIter it a i) where
  mem := by simp
  obj := fun i h st b hb => by
    have e : b = it := by simpa using hb
    subst e
    obtain ⟨o, e, c, d⟩ := st
    exact ⟨o, e, fun v z => by rw [d] at z; cases z⟩
  keep := fun i h h' st k => st.at fun o e => k it (by simp) o e
  item := by
    intro X hP hw hK hc i pins s σ H E I hf st hg
    subst hP hw hK
    obtain ⟨xs, x, hq, hx⟩ := hg
    obtain ⟨its, rv, p, hz⟩ := I.tuple hq
    obtain ⟨u, hu, ru⟩ := rv.get hx
    obtain ⟨f0, f1, f2, f3, f4, f5⟩ := hf it (by simp)
    refine wpAny_pyNext_tuple_item st (show s.heap.IsTuple a its.toArray from p) (x := u) (by simpa using hu) fun h' st' sb => ?_
    have I1 : Inv X pins σ H { s with heap := h' } := I.turned (t' := s.toks) (fun b o hb e => (sb.2 b hb).trans e) f0 f1 f3 f4 f5
    obtain ⟨o, e, c, d⟩ := id st'
    exact ⟨u, rfl, go_of (s := { s with heap := h' }) e c d (by decide) ⟨x, H, I1, ru, ⟨rfl, fun ys hy => by rw [I.tuple_inj hy hq]; exact hx⟩, st', fun b hb => (hf b hb).1⟩⟩
  done := by
    intro X hP hw hK hc i pins s σ H E I hf st hg
    subst hP hw hK
    obtain ⟨xs, hq, hx⟩ := hg
    obtain ⟨its, rv, p, hz⟩ := I.tuple hq
    obtain ⟨f0, f1, f2, f3, f4, f5⟩ := hf it (by simp)
    have hl := rv.length
    exact wpAny_pyNext_tuple_end (I.ok.hd hc) st (show s.heap.IsTuple a its.toArray from p) (by simp; omega) fun h' eb => ⟨rfl, I.turned (t' := s.toks) (fun b o hb e => eb b o hb e) f0 f1 f3 f4 f5⟩
  self := fun _ _ _ _ _ st h => wpAny_pyIter_tupleiter st h
theorem turn_range {P : Program} {w : World} {K : PySem.W.Frag} {tg : Expr} (it : Addr) (lo : Int) (n : Nat) : Turn P w K tg (Itr lo n) [it] it (fun i h => IsRangeIter h it (lo + (i : Nat) * 1) ((n : Int) - (i : Nat)) 1) where
  mem := by simp
  obj := fun i h st b hb => by
    have e : b = it := by simpa using hb
    subst e
    exact ⟨_, st, fun v z => by
      have z' : Data.fields _ = Data.cell v := z
      cases z'⟩
  keep := fun i h h' st k => k it (by simp) _ st
  item := by
    intro X hP hw hK hc i pins s σ H E I hf st hg
    subst hP hw hK
    obtain ⟨f0, f1, f2, f3, f4, f5⟩ := hf it (by simp)
    have W := Walks.range (prog := X.prog) (w := X.w) (I.ok.hd hc) it lo 1 n
    refine W.item i s _ _ hg st fun v h' tk hv st' kk => ?_
    obtain ⟨t, rfl⟩ := hv
    have I1 : Inv X pins σ H { s with heap := h', toks := tk } := I.turned (fun b o hb e => kk b o (by simpa using hb) e) f0 f1 f3 f4 f5
    refine ⟨_, rfl, go_of (s := { s with heap := h', toks := tk }) (n := "range_iterator") st' rfl rfl (by decide) ⟨.int (lo + i), H, I1, ⟨t, ?_⟩, ⟨rfl, rfl⟩, st', fun b hb => (hf b hb).1⟩⟩
    rw [Int.mul_one]
  done := by
    intro X hP hw hK hc i pins s σ H E I hf st hg
    subst hP hw hK
    obtain ⟨f0, f1, f2, f3, f4, f5⟩ := hf it (by simp)
    exact wpAny_pyNext_range_end (I.ok.hd hc) st (by have : n ≤ i := hg; omega) fun h' eb => ⟨rfl, I.turned (t' := s.toks) (fun b o hb e => eb b o hb e) f0 f1 f3 f4 f5⟩
  self := fun _ _ _ _ _ st h => wpAny_pyIter_rangeiter st h
end L2
namespace L2
open PySem PySem.Spec PyProof.Rows
section
variable {X : Cx} {tg : Expr}
theorem range_it {pins : List (Addr × Obj)} {σ : St} {H : Hp} {s : Shared} {R : It → Hp → Prop} {E : Value → Shared → Prop} {lo hi : Int} {t u v : Tok} {tk : Nat} (I : Inv X pins σ H s) (h1 : -(2 ^ 62) ≤ lo) (h2 : lo < 2 ^ 62) (h3 : -(2 ^ 62) ≤ hi) (h4 : hi < 2 ^ 62)
    (q : R (Itr lo (hi - lo).toNat) H) : wpAny (model X.prog X.w) X.A (pyIter (.ref s.heap.objs.size)) (PIE X pins σ tg R) E { s with heap := s.heap.push { cls := .type "range", data := .fields #[.int lo t, .int hi u, .int 1 v] }, toks := tk } := by
  refine wpAny_pyIter_range (IsRange.new ..) (small_one h1 h2 h3 h4) ?_
  have I1 : Inv X pins σ H { s with heap := s.heap.push { cls := .type "range", data := .fields #[.int lo t, .int hi u, .int 1 v] }, toks := tk } := I.kept fun b o e => Heap.get?_push_of_some _ e
  refine ⟨(s.heap.push { cls := .type "range", data := .fields #[.int lo t, .int hi u, .int 1 v] }).objs.size, [(s.heap.push { cls := .type "range", data := .fields #[.int lo t, .int hi u, .int 1 v] }).objs.size], _, _, H, rfl,
    I1.kept (t' := tk) fun b o e => Heap.get?_push_of_some _ e, turn_range _ lo (hi - lo).toNat, ?_, fun b hb => ?_, q⟩
  · have e1 : lo + ((0 : Nat) : Int) * 1 = lo := by simp
    have e2 : (((hi - lo).toNat : Nat) : Int) - ((0 : Nat) : Int) = Builtin.Range.rangeSize lo hi 1 := by rw [rangeSize_one]; split <;> omega
    show IsRangeIter _ _ (lo + ((0 : Nat) : Int) * 1) ((((hi - lo).toNat : Nat) : Int) - ((0 : Nat) : Int)) 1
    rw [e1, e2]
    exact Heap.get?_push_size _ rfl
  · have e : b = (s.heap.push { cls := .type "range", data := .fields #[.int lo t, .int hi u, .int 1 v] }).objs.size := by simpa using hb
    subst e
    exact I1.fpOk (Nat.le_refl _) (I1.hok.fresh (Nat.le_refl _))
def iRng1 (ta : TA) : TI := fun σ H R => ta σ H fun vs H1 => ∃ j : Int, vs = [.int j] ∧ -(2 ^ 62) ≤ j ∧ j < 2 ^ 62 ∧ R (Itr 0 j.toNat) H1
theorem pi_range1 {a : Expr} {ta : TA} {p pos : Pos} (hg : Gl X "range") (hm : X.mg "range" = none) (ha : PA X [a] ta) (hs : starEach [a] X.env = [(false, eval a X.env)] := by rfl) : PI X tg (.Call (.Name "range" p) [a] [] pos) (iRng1 ta) := by
  intro pins s σ H R I h
  refine Call_ (ld_blt I hg hm boot_range (PyProof.Rows.callWith_type1 (thn (ha pos pins s σ H _ I h) fun us s1 ⟨vs, H1, I1, r1, q1⟩ => ?_) hs rfl))
  obtain ⟨j, e, q1, q2, q⟩ := q1
  subst e
  cases r1 with
  | cons r rr =>
    cases rr
    obtain ⟨t, rfl⟩ := r
    exact call_range_1 (range_it I1 (by omega) (by omega) q1 q2 (by simpa using q))
def tFor (wi : TI) (g : TG) (tb : TS) : TS := fun D σ H => wi σ H fun J H1 => ∃ W : Nat → Nat → St → Hp → Prop, (∃ m, W 0 m σ H1) ∧ ∀ i m σ H, W i m σ H →
  (J.stop i H ∧ D.nx σ H) ∨ (J.go i H ∧ ∃ N : St → Hp → Prop, (∀ σ' H', N σ' H' → ∃ m', m' < m ∧ W (i + 1) m' σ' H') ∧ ∀ x H', J.yld i H x H' → g x σ H' fun σ2 H2 => tb { D with nx := N, ct := N, bk := D.nx } σ2 H2)
def pinsAt (fp : List Addr) (h : Heap) : List (Addr × Obj) := fp.filterMap fun b => (h.get? b).map fun o => (b, o)
theorem mem_pinsAt {fp : List Addr} {h : Heap} {b : Addr} {o : Obj} (hb : b ∈ fp) (e : h.get? b = some o) : (b, o) ∈ pinsAt fp h := List.mem_filterMap.mpr ⟨b, hb, by rw [e]; rfl⟩
theorem of_pinsAt {fp : List Addr} {h : Heap} {p : Addr × Obj} (hp : p ∈ pinsAt fp h) : p.1 ∈ fp ∧ h.get? p.1 = some p.2 := by
  obtain ⟨b, hb, e⟩ := List.mem_filterMap.mp hp
  cases q : h.get? b with
  | none => rw [q] at e; cases e
  | some o =>
    rw [q] at e
    have e' : (b, o) = p := Option.some.inj e
    subst e'
    exact ⟨hb, q⟩
theorem Inv.pinned {pins : List (Addr × Obj)} {σ : St} {H : Hp} {s : Shared} {fp : List Addr} (I : Inv X pins σ H s) (hf : ∀ b ∈ fp, FpOk X pins H b) (ho : ∀ b ∈ fp, ∃ o, s.heap.get? b = some o ∧ ∀ v, o.data ≠ .cell v) : Inv X (pins ++ pinsAt fp s.heap) σ H s :=
  I.pins_of fun p hp => (List.mem_append.mp hp).elim (fun z => I.pin p (List.mem_append_right _ z)) fun z => by
    obtain ⟨hb, e⟩ := of_pinsAt z
    obtain ⟨f0, f1, f2, _⟩ := hf p.1 hb
    obtain ⟨o, e', d⟩ := ho p.1 hb
    rw [e] at e'; cases e'
    exact ⟨e, f0, f1, f2, d⟩
theorem Inv.unpinned {pins pl : List (Addr × Obj)} {σ : St} {H : Hp} {s : Shared} (I : Inv X (pins ++ pl) σ H s) : Inv X pins σ H s := I.pins_of fun p hp => I.pin p (List.mem_append_right _ (List.mem_append_left _ hp))
theorem ps_for {iter : Expr} {body : List Stmt} {wi : TI} {g : TG} {tb : TS} {pos : Pos} (hp : PassesOwn (model X.prog X.w) X.A X.env X.xe) (hc : X.calm = true) (hi : PI X tg iter wi) (hg : PG X tg g) (hb : PSs X body tb)
    (hs : ∀ x, foldedSetIterable iter X.env x = pure x := by intro _; rfl) : PS X (.For tg iter body [] pos) (tFor wi g tb) := by
  intro pins s σ H D I h
  refine wpAny_For (thn (hi pins s σ H _ I h) fun v s1 h1 => thn h1 fun itv s2 h2 => ?_) hs
  obtain ⟨it, fp, tn, J, H2, e, I2, T, st2, f2, W, ⟨m0, w0⟩, turn⟩ := h2
  subst e
  -- what stays true of the iterator's objects through the loop
  have stat : ∀ {H' : Hp}, (∀ b ∈ fp, H' b = none) → ∀ b ∈ fp, FpOk X pins H' b := fun hn b hb => ⟨hn b hb, (f2 b hb).2⟩
  refine codeAny_forLoop_any (fun n s' => ∃ i σ' H', Inv X pins σ' H' s' ∧ tn i s'.heap ∧ (∀ b ∈ fp, H' b = none) ∧ W i n σ' H') ?_ m0 ⟨0, σ, H2, I2, st2, fun b hb => (f2 b hb).1, w0⟩
  rintro n s3 ⟨i, σ3, H3, I3, st3, fr3, w3⟩
  rcases turn i n σ3 H3 w3 with ⟨stop, qn⟩ | ⟨go, N, hN, step⟩
  · refine wpAny_passesOwn hp (thn (T.done X rfl rfl rfl hc i pins s3 σ3 H3 X.xe I3 (stat fr3) st3 stop) fun r s4 ⟨hr, I4⟩ => ?_)
    subst hr
    exact wpAny_execs_nil ⟨σ3, H3, I4, qn⟩
  · refine wpAny_passesOwn hp (thn (T.item X rfl rfl rfl hc i pins s3 σ3 H3 X.xe I3 (stat fr3) st3 go) fun r s4 ⟨u, hr, h4⟩ => ?_)
    subst hr
    refine wpAny_passesOwn hp (thn h4 fun _ s5 ⟨x, H5, I5, r5, y5, st5, fr5⟩ => ?_)
    have I5' := I5.pinned (stat fr5) (T.obj _ _ st5)
    refine wpAny_passesOwn hp (thn (hg _ s5 σ3 H5 x u _ I5' r5 (step x H5 y5)) fun _ s6 ⟨σ6, H6, I6, q6⟩ => ?_)
    refine wpAny_passesOwn hp (thn (hb _ s6 σ6 H6 _ I6 q6) fun f s7 q7 => ?_)
    have again : ∀ {σ7 : St} {H7 : Hp}, Inv X (pins ++ pinsAt fp s5.heap) σ7 H7 s7 → N σ7 H7 → ∃ m, m < n ∧ ∃ i σ' H', Inv X pins σ' H' s7 ∧ tn i s7.heap ∧ (∀ b ∈ fp, H' b = none) ∧ W i m σ' H' := fun {σ7 H7} I7 n7 => by
      obtain ⟨m', hm, w7⟩ := hN σ7 H7 n7
      refine ⟨m', hm, i + 1, σ7, H7, I7.unpinned, T.keep _ _ _ st5 fun b hb o e => (I7.pin (b, o) (List.mem_append_right _ (List.mem_append_right _ (mem_pinsAt hb e)))).1, fun b hb => ?_, w7⟩
      obtain ⟨o, e, d⟩ := T.obj _ _ st5 b hb
      exact (I7.pin (b, o) (List.mem_append_right _ (List.mem_append_right _ (mem_pinsAt hb e)))).2.1
    cases f with
    | next => obtain ⟨σ7, H7, I7, n7⟩ := q7; exact again I7 n7
    | cont => obtain ⟨σ7, H7, I7, n7⟩ := q7; exact again I7 n7
    | brk => obtain ⟨σ7, H7, I7, q7⟩ := q7; exact ⟨σ7, H7, I7.unpinned, q7⟩
    | ret v => obtain ⟨x7, σ7, H7, I7, r7, q7⟩ := q7; exact ⟨x7, σ7, H7, I7.unpinned, r7, q7⟩
end
theorem for_list {K : PySem.W.Frag} {a : Addr} {xs : List V} {g : TG} {tb : TS} {D : Ends} {σ : St} {H : Hp} (Pv : Nat → St → Hp → Prop) (h0 : Pv 0 σ H) (hl : ∀ i σ H, i ≤ xs.length → Pv i σ H → SqL K H a xs)
    (hs : ∀ i x σ H, xs[i]? = some x → Pv i σ H → g x σ H fun σ2 H2 => tb { D with nx := Pv (i + 1), ct := Pv (i + 1), bk := D.nx } σ2 H2) (hd : ∀ σ H, Pv xs.length σ H → D.nx σ H) :
    ∃ W : Nat → Nat → St → Hp → Prop, (∃ m, W 0 m σ H) ∧ ∀ i m σ H, W i m σ H →
      ((Itl K a).stop i H ∧ D.nx σ H) ∨ ((Itl K a).go i H ∧ ∃ N : St → Hp → Prop, (∀ σ' H', N σ' H' → ∃ m', m' < m ∧ W (i + 1) m' σ' H') ∧ ∀ x H', (Itl K a).yld i H x H' → g x σ H' fun σ2 H2 => tb { D with nx := N, ct := N, bk := D.nx } σ2 H2) := by
  refine ⟨fun i m σ H => m = xs.length - i ∧ i ≤ xs.length ∧ Pv i σ H, ⟨xs.length, by simp, Nat.zero_le _, h0⟩, ?_⟩
  rintro i m σ H ⟨rfl, hi, p⟩
  have q := hl i σ H hi p
  by_cases hlt : i < xs.length
  · refine .inr ⟨⟨xs, xs[i], q, by simp [hlt]⟩, Pv (i + 1), fun σ' H' p' => ⟨xs.length - (i + 1), by omega, rfl, hlt, p'⟩, fun x H' y => ?_⟩
    obtain ⟨e, y⟩ := y
    subst e
    exact hs i x σ _ (y xs q) p
  · have e : i = xs.length := by omega
    subst e
    exact .inl ⟨⟨xs, q, Nat.le_refl _⟩, hd σ H p⟩
theorem for_tup {K : PySem.W.Frag} {a : Addr} {xs : List V} {g : TG} {tb : TS} {D : Ends} {σ : St} {H : Hp} (Pv : Nat → St → Hp → Prop) (h0 : Pv 0 σ H) (hl : ∀ i σ H, i ≤ xs.length → Pv i σ H → SqT K H a xs)
    (hs : ∀ i x σ H, xs[i]? = some x → Pv i σ H → g x σ H fun σ2 H2 => tb { D with nx := Pv (i + 1), ct := Pv (i + 1), bk := D.nx } σ2 H2) (hd : ∀ σ H, Pv xs.length σ H → D.nx σ H) :
    ∃ W : Nat → Nat → St → Hp → Prop, (∃ m, W 0 m σ H) ∧ ∀ i m σ H, W i m σ H →
      ((Itt K a).stop i H ∧ D.nx σ H) ∨ ((Itt K a).go i H ∧ ∃ N : St → Hp → Prop, (∀ σ' H', N σ' H' → ∃ m', m' < m ∧ W (i + 1) m' σ' H') ∧ ∀ x H', (Itt K a).yld i H x H' → g x σ H' fun σ2 H2 => tb { D with nx := N, ct := N, bk := D.nx } σ2 H2) := by
  refine ⟨fun i m σ H => m = xs.length - i ∧ i ≤ xs.length ∧ Pv i σ H, ⟨xs.length, by simp, Nat.zero_le _, h0⟩, ?_⟩
  rintro i m σ H ⟨rfl, hi, p⟩
  have q := hl i σ H hi p
  by_cases hlt : i < xs.length
  · refine .inr ⟨⟨xs, xs[i], q, by simp [hlt]⟩, Pv (i + 1), fun σ' H' p' => ⟨xs.length - (i + 1), by omega, rfl, hlt, p'⟩, fun x H' y => ?_⟩
    obtain ⟨e, y⟩ := y
    subst e
    exact hs i x σ _ (y xs q) p
  · have e : i = xs.length := by omega
    subst e
    exact .inl ⟨⟨xs, q, Nat.le_refl _⟩, hd σ H p⟩
theorem for_range {lo : Int} {n : Nat} {g : TG} {tb : TS} {D : Ends} {σ : St} {H : Hp} (Pv : Nat → St → Hp → Prop) (h0 : Pv 0 σ H)
    (hs : ∀ i σ H, i < n → Pv i σ H → g (.int (lo + i)) σ H fun σ2 H2 => tb { D with nx := Pv (i + 1), ct := Pv (i + 1), bk := D.nx } σ2 H2) (hd : ∀ σ H, Pv n σ H → D.nx σ H) :
    ∃ W : Nat → Nat → St → Hp → Prop, (∃ m, W 0 m σ H) ∧ ∀ i m σ H, W i m σ H →
      ((Itr lo n).stop i H ∧ D.nx σ H) ∨ ((Itr lo n).go i H ∧ ∃ N : St → Hp → Prop, (∀ σ' H', N σ' H' → ∃ m', m' < m ∧ W (i + 1) m' σ' H') ∧ ∀ x H', (Itr lo n).yld i H x H' → g x σ H' fun σ2 H2 => tb { D with nx := N, ct := N, bk := D.nx } σ2 H2) := by
  refine ⟨fun i m σ H => m = n - i ∧ i ≤ n ∧ Pv i σ H, ⟨n, by simp, Nat.zero_le _, h0⟩, ?_⟩
  rintro i m σ H ⟨rfl, hi, p⟩
  by_cases hlt : i < n
  · refine .inr ⟨hlt, Pv (i + 1), fun σ' H' p' => ⟨n - (i + 1), by omega, rfl, hlt, p'⟩, fun x H' y => ?_⟩
    obtain ⟨e, y⟩ := y
    subst e y
    exact hs i σ _ hlt p
  · have e : i = n := by omega
    subst e
    exact .inl ⟨Nat.le_refl _, hd σ H p⟩
end L2
namespace L2
open PySem PySem.Spec PyProof.Rows
abbrev R2 := V → V → Hp → VK → Prop
def OpR (X : Cx) (f : Value → Value → Sem Value) (r : R2) : Prop :=
  ∀ (pins : List (Addr × Obj)) (s : Shared) (σ : St) (H : Hp) (x y : V) (v u : Value) (Q : VK), Inv X pins σ H s → RelV x v → RelV y u → r x y H Q →
    wpAny (model X.prog X.w) X.A (f v u) (EP X pins σ Q) X.xe s
def UnR (X : Cx) (f : Value → Sem Value) (r : V → Hp → VK → Prop) : Prop :=
  ∀ (pins : List (Addr × Obj)) (s : Shared) (σ : St) (H : Hp) (x : V) (v : Value) (Q : VK), Inv X pins σ H s → RelV x v → r x H Q →
    wpAny (model X.prog X.w) X.A (f v) (EP X pins σ Q) X.xe s
def CallR (X : Cx) (f : Value) (r : List V → Hp → VK → Prop) : Prop :=
  ∀ (pins : List (Addr × Obj)) (s : Shared) (σ : St) (H : Hp) (xs : List V) (us : List Value) (Q : VK), Inv X pins σ H s → Vals xs us → r xs H Q →
    wpAny (model X.prog X.w) X.A (call f us) (EP X pins σ Q) X.xe s
def TruR (X : Cx) (r : V → Hp → (Bool → Hp → Prop) → Prop) : Prop :=
  ∀ (pins : List (Addr × Obj)) (s : Shared) (σ : St) (H : Hp) (x : V) (v : Value) (Q : Bool → Hp → Prop), Inv X pins σ H s → RelV x v → r x H Q →
    wpAny (model X.prog X.w) X.A (truthy v) (TP X pins σ Q) X.xe s
def tOp (r : R2) (ta tb : TE) : TE := fun σ H Q => ta σ H fun x H1 => tb σ H1 fun y H2 => r x y H2 Q
def tUn (r : V → Hp → VK → Prop) (ta : TE) : TE := fun σ H Q => ta σ H fun x H1 => r x H1 Q
def rI (C : Int → Int → Prop) (g : Int → Int → V) : R2 := fun x y H Q => ∃ i j, x = .int i ∧ y = .int j ∧ C i j ∧ Q (g i j) H
def rI0 (g : Int → Int → V) : R2 := fun x y H Q => ∃ i j, x = .int i ∧ y = .int j ∧ Q (g i j) H
def rU (g : Int → V) : V → Hp → VK → Prop := fun x H Q => ∃ i, x = .int i ∧ Q (g i) H
section
variable {X : Cx} {a b c : Expr} {ta tb tc : TE} {pos : Pos}
theorem binT (ha : PE X a ta) (hb : PE X b tb) {pins : List (Addr × Obj)} {s : Shared} {σ : St} {H : Hp} {R : V → V → Hp → Prop} (I : Inv X pins σ H s)
    (h : ta σ H fun x H1 => tb σ H1 fun y H2 => R x y H2) {Q : Value → Shared → Prop} {f : Value → Value → Sem Value}
    (hf : ∀ v u s2 x y H2, Inv X pins σ H2 s2 → RelV x v → RelV y u → R x y H2 → wpAny (model X.prog X.w) X.A (f v u) Q X.xe s2) :
    wpAny (model X.prog X.w) X.A (eval a X.env) (fun v s₁ => wpAny (model X.prog X.w) X.A (eval b X.env) (fun u s₂ => wpAny (model X.prog X.w) X.A (f v u) Q X.xe s₂) X.xe s₁) X.xe s := by
  refine thn (ha pins s σ H _ I h) fun v s1 ⟨x, H1, I1, r1, q1⟩ => ?_
  refine thn (hb pins s1 σ H1 _ I1 q1) fun u s2 ⟨y, H2, I2, r2, q2⟩ => ?_
  exact hf v u s2 x y H2 I2 r1 r2 q2
theorem pe_op {op : Operator} {r : R2} (ho : OpR X (binaryOp op) r) (ha : PE X a ta) (hb : PE X b tb) : PE X (.BinOp a op b pos) (tOp r ta tb) := by
  intro pins s σ H Q I h
  exact wpAny_BinOp (binT ha hb I h fun v u s2 x y H2 I2 rx ry q => ho pins s2 σ H2 x y v u Q I2 rx ry q)
theorem pe_un {op : UnaryOp} {r : V → Hp → VK → Prop} (ho : UnR X (unaryOp op) r) (ha : PE X a ta) : PE X (.UnaryOp op a pos) (tUn r ta) := by
  intro pins s σ H Q I h
  exact UnaryOp_ (thn (ha pins s σ H _ I h) fun v s1 ⟨x, H1, I1, r1, q1⟩ => ho pins s1 σ H1 x v Q I1 r1 q1)
theorem opI {f : Value → Value → Sem Value} {C : Int → Int → Prop} {g : Int → Int → Int}
    (rule : ∀ (i j : Int) (t u : Tok) (s : Shared) (Q : Value → Shared → Prop) (E : Value → Shared → Prop), C i j → Q (.int (g i j) s.toks) { s with toks := s.toks + 1 } → wpAny (model X.prog X.w) X.A (f (.int i t) (.int j u)) Q E s) :
    OpR X f (rI C fun i j => .int (g i j)) := by
  intro pins s σ H x y v u Q I rx ry h
  obtain ⟨i, j, rfl, rfl, hc, q⟩ := h
  obtain ⟨t, rfl⟩ := rx
  obtain ⟨t', rfl⟩ := ry
  exact rule i j t t' s _ _ hc ⟨.int (g i j), H, I.tok _, ⟨_, rfl⟩, q⟩
theorem opI0 {f : Value → Value → Sem Value} {g : Int → Int → Int}
    (rule : ∀ (i j : Int) (t u : Tok) (s : Shared) (Q : Value → Shared → Prop) (E : Value → Shared → Prop), Q (.int (g i j) s.toks) { s with toks := s.toks + 1 } → wpAny (model X.prog X.w) X.A (f (.int i t) (.int j u)) Q E s) :
    OpR X f (rI0 fun i j => .int (g i j)) := by
  intro pins s σ H x y v u Q I rx ry h
  obtain ⟨i, j, rfl, rfl, q⟩ := h
  obtain ⟨t, rfl⟩ := rx
  obtain ⟨t', rfl⟩ := ry
  exact rule i j t t' s _ _ ⟨.int (g i j), H, I.tok _, ⟨_, rfl⟩, q⟩
theorem opB0 {f : Value → Value → Sem Value} {g : Int → Int → Bool}
    (rule : ∀ (i j : Int) (t u : Tok) (s : Shared) (Q : Value → Shared → Prop) (E : Value → Shared → Prop), Q (.bool (g i j)) s → wpAny (model X.prog X.w) X.A (f (.int i t) (.int j u)) Q E s) :
    OpR X f (rI0 fun i j => .bl (g i j)) := by
  intro pins s σ H x y v u Q I rx ry h
  obtain ⟨i, j, rfl, rfl, q⟩ := h
  obtain ⟨t, rfl⟩ := rx
  obtain ⟨t', rfl⟩ := ry
  exact rule i j t t' s _ _ ⟨.bl (g i j), H, I, rfl, q⟩
def CPow (i j : Int) : Prop := 0 ≤ j ∧ j ≤ 1000000 ∧ i.natAbs < 2 ^ 64
theorem op_add : OpR X (binaryOp .Add) (rI0 fun i j => .int (i + j)) := opI0 fun _ _ _ _ _ _ _ q => add_int q
theorem op_sub : OpR X (binaryOp .Sub) (rI0 fun i j => .int (i - j)) := opI0 fun _ _ _ _ _ _ _ q => sub_int q
theorem op_mod : OpR X (binaryOp .Mod) (rI (fun _ j => 0 < j) fun i j => .int (i % j)) := opI fun i j _ _ _ _ _ hc q => by
  have h1 : (0 : Int) < j := hc
  exact mod_int' (by omega) (by rw [Int.fmod_eq_emod_of_nonneg i (by omega)]; exact q)
theorem op_pow : OpR X (binaryOp .Pow) (rI CPow fun i j => .int (i ^ j.toNat)) := opI fun _ _ _ _ _ _ _ hc q => pow_int_small hc.1 hc.2.1 hc.2.2 q
theorem op_shl : OpR X (binaryOp .LShift) (rI CPow fun i j => .int (i * 2 ^ j.toNat)) := opI fun _ _ _ _ _ _ _ hc q => lshift_int_small hc.1 hc.2.1 hc.2.2 q
theorem unI {f : Value → Sem Value} {g : Int → Int}
    (rule : ∀ (i : Int) (t : Tok) (s : Shared) (Q : Value → Shared → Prop) (E : Value → Shared → Prop), Q (.int (g i) s.toks) { s with toks := s.toks + 1 } → wpAny (model X.prog X.w) X.A (f (.int i t)) Q E s) :
    UnR X f (rU fun i => .int (g i)) := by
  intro pins s σ H x v Q I rx h
  obtain ⟨i, rfl, q⟩ := h
  obtain ⟨t, rfl⟩ := rx
  exact rule i t s _ _ ⟨.int (g i), H, I.tok _, ⟨_, rfl⟩, q⟩
theorem un_neg : UnR X (unaryOp .USub) (rU fun i => .int (-i)) := unI fun _ _ _ _ _ q => neg_int q
end
section
variable {X : Cx} {a b c : Expr} {ta tb tc : TE} {pos : Pos}
theorem fin_bl {pins : List (Addr × Obj)} {σ : St} {H : Hp} {s : Shared} {Q : VK} {k k' : Bool} (I : Inv X pins σ H s) (q : Q (.bl k) H) (e : k = k') : EP X pins σ Q (.bool k') s := by
  subst e
  exact ⟨.bl k, H, I, rfl, q⟩
theorem op_lt : OpR X (compareOp .Lt) (rI0 fun i j => .bl (decide (i < j))) := opB0 fun _ _ _ _ _ _ _ q => lt_int q
theorem op_le : OpR X (compareOp .LtE) (rI0 fun i j => .bl (decide (i ≤ j))) := opB0 fun _ _ _ _ _ _ _ q => le_int q
theorem op_gt : OpR X (compareOp .Gt) (rI0 fun i j => .bl (decide (j < i))) := opB0 fun _ _ _ _ _ _ _ q => gt_int q
theorem op_ge : OpR X (compareOp .GtE) (rI0 fun i j => .bl (decide (j ≤ i))) := opB0 fun _ _ _ _ _ _ _ q => ge_int q
theorem op_isN : OpR X (compareOp .Is) (fun x y H Q => y = .non ∧ Q (.bl (decide (x = .non))) H) := by
  intro pins s σ H x y v u Q I rx ry h
  obtain ⟨rfl, q⟩ := h
  cases ry
  refine is_none_gen (fin_bl I q ?_)
  cases x <;> first
    | (cases rx; rfl)
    | (obtain ⟨t, rfl⟩ := rx; rfl)
theorem op_notN : OpR X (compareOp .IsNot) (fun x y H Q => y = .non ∧ Q (.bl (!decide (x = .non))) H) := by
  intro pins s σ H x y v u Q I rx ry h
  obtain ⟨rfl, q⟩ := h
  cases ry
  refine isnot_none_gen (fin_bl I q ?_)
  cases x <;> first
    | (cases rx; rfl)
    | (obtain ⟨t, rfl⟩ := rx; rfl)
theorem pe_cmpR {op : CmpOp} {r : R2} (ho : OpR X (compareOp op) r) (ha : PE X a ta) (hb : PE X b tb) (hm : behindInMarks op b = false) : PE X (.Compare a [op] [b] pos) (tOp r ta tb) := by
  intro pins s σ H Q I h
  exact wpAny_Compare1 (binT ha hb I h fun v u s2 x y H2 I2 rx ry q => ho pins s2 σ H2 x y v u Q I2 rx ry q) hm
def tTest (t : TE) : TT := fun σ H Q => t σ H fun x H' => ∃ k, x = .bl k ∧ Q k H'
theorem pt_cmpR {op : CmpOp} {r : R2} (ho : OpR X (compareOp op) r) (ha : PE X a ta) (hb : PE X b tb) (hm : behindInMarks op b = false) : PT X (.Compare a [op] [b] pos) (tTest (tOp r ta tb)) := by
  intro pins s σ H Q I h
  refine wpAny_isTrue_Compare1 (thn (ha pins s σ H _ I h) fun v s1 ⟨x, H1, I1, r1, q1⟩ => thn (hb pins s1 σ H1 _ I1 q1) fun u s2 ⟨y, H2, I2, r2, q2⟩ =>
    thn (ho pins s2 σ H2 x y v u _ I2 r1 r2 q2) fun c s3 ⟨z, H3, I3, r3, k, e, q3⟩ => ?_) hm
  subst e
  cases r3
  exact wpAny_truthy_bool ⟨H3, I3, q3⟩
def tChain (r r' : R2) (ta tb tc : TE) : TE := fun σ H Q => ta σ H fun x H1 => tb σ H1 fun y H2 => r x y H2 fun z H3 => ∃ k, z = .bl k ∧
  (if k = true then tc σ H3 fun w' H4 => r' y w' H4 Q else Q (.bl false) H3)
theorem pe_chain {op op' : CmpOp} {r r' : R2} (ho : OpR X (compareOp op) r) (ho' : OpR X (compareOp op') r') (ha : PE X a ta) (hb : PE X b tb) (hc : PE X c tc)
    (hm : lastMarks [op, op'] [b, c] = false := by with_unfolding_all rfl) : PE X (.Compare a [op, op'] [b, c] pos) (tChain r r' ta tb tc) := by
  intro pins s σ H Q I h
  refine Compare_chain (thn (ha pins s σ H _ I h) fun v s1 ⟨x, H1, I1, r1, q1⟩ => chain_link (thn (hb pins s1 σ H1 _ I1 q1) fun u s2 ⟨y, H2, I2, r2, q2⟩ =>
    thn (ho pins s2 σ H2 x y v u _ I2 r1 r2 q2) fun d s3 ⟨z, H3, I3, r3, k, e, q3⟩ => ?_)) hm
  subst e
  cases r3
  refine wpAny_truthy_bool ?_
  cases k with
  | false => exact ite_ff ⟨.bl false, H3, I3, rfl, q3⟩
  | true => exact ite_tt (chain_last (thn (hc pins s3 σ H3 _ I3 q3) fun w' s4 ⟨z', H4, I4, r4, q4⟩ => ho' pins s4 σ H4 y z' u w' Q I4 r2 r4 q4))
theorem pt_chain {op op' : CmpOp} {r r' : R2} (ho : OpR X (compareOp op) r) (ho' : OpR X (compareOp op') r') (ha : PE X a ta) (hb : PE X b tb) (hc : PE X c tc)
    (hm : lastMarks [op, op'] [b, c] = false := by with_unfolding_all rfl) : PT X (.Compare a [op, op'] [b, c] pos) (tTest (tChain r r' ta tb tc)) := by
  intro pins s σ H Q I h
  refine isTrue_chain (thn (ha pins s σ H _ I h) fun v s1 ⟨x, H1, I1, r1, q1⟩ => test_link (thn (hb pins s1 σ H1 _ I1 q1) fun u s2 ⟨y, H2, I2, r2, q2⟩ =>
    thn (ho pins s2 σ H2 x y v u _ I2 r1 r2 q2) fun d s3 ⟨z, H3, I3, r3, k, e, q3⟩ => ?_)) hm
  subst e
  cases r3
  refine wpAny_truthy_bool ?_
  cases k with
  | false =>
    obtain ⟨k', e', q'⟩ := q3
    cases e'
    exact ite_ff ⟨H3, I3, q'⟩
  | true =>
    refine ite_tt (test_last (thn (hc pins s3 σ H3 _ I3 q3) fun w' s4 ⟨z', H4, I4, r4, q4⟩ => thn (ho' pins s4 σ H4 y z' u w' _ I4 r2 r4 q4) fun d' s5 ⟨z2, H5, I5, r5, k2, e2, q5⟩ => ?_))
    subst e2
    cases r5
    exact wpAny_truthy_bool ⟨H5, I5, q5⟩
def TruV (K : PySem.W.Frag) (x : V) (H : Hp) (k : Bool) : Prop :=
  match x with
  | .non => k = false
  | .bl b => k = b
  | .int i => k = (i != 0)
  | .str y => y.length ≤ sizeLine ∧ k = ((y.length : Int) != 0)
  | .byt y => y.size ≤ sizeLine ∧ k = ((y.size : Int) != 0)
  | .ref p => (∃ xs, SqL K H p xs ∧ k = !xs.isEmpty) ∨ (∃ xs, SqT K H p xs ∧ k = !xs.isEmpty) ∨ ∃ kvs, H p = some (.dK kvs) ∧ k = !kvs.isEmpty
  | _ => False
theorem isEmpty_kv {κ : Type} {kvs : List (κ × V)} {vs : List (κ × Value)} (r : KV kvs vs) : (!vs.isEmpty) = !kvs.isEmpty := by
  cases r <;> rfl
theorem isEmpty_of {xs : List V} {its : List Value} (r : Vals xs its) : (!its.toArray.isEmpty) = !xs.isEmpty := by
  cases r <;> simp
theorem line63 : (sizeLine : Nat) < 2 ^ 63 := by rw [sizeLine_eq]; decide
theorem tru_ok : TruR X (fun x H Q => ∃ k, TruV X.K x H k ∧ Q k H) := by
  intro pins s σ H x v Q I rx h
  obtain ⟨k, e, q⟩ := h
  have hl := line63
  have hs : sizeLine = 16777216 := sizeLine_eq
  cases x with
  | non =>
    cases rx
    have e' : k = false := e
    subst e'
    exact truthy_none ⟨H, I, q⟩
  | bl b =>
    cases rx
    have e' : k = b := e
    subst e'
    exact wpAny_truthy_bool ⟨H, I, q⟩
  | int i =>
    obtain ⟨t, rfl⟩ := rx
    have e' : k = (i != 0) := e
    subst e'
    exact PySem.P.truthy_int ⟨H, I, q⟩
  | str y =>
    obtain ⟨t, rfl⟩ := rx
    obtain ⟨hy, e'⟩ : y.length ≤ sizeLine ∧ k = ((y.length : Int) != 0) := e
    subst e'
    exact PySem.P.truthy_str (by omega) ⟨H, I.tok _, q⟩
  | byt y =>
    obtain ⟨t, rfl⟩ := rx
    obtain ⟨hy, e'⟩ : y.size ≤ sizeLine ∧ k = ((y.size : Int) != 0) := e
    subst e'
    exact PySem.W.truthy_bytes (by omega) ⟨H, I.tok _, q⟩
  | ref p =>
    cases rx
    have e' : (∃ xs, SqL X.K H p xs ∧ k = !xs.isEmpty) ∨ (∃ xs, SqT X.K H p xs ∧ k = !xs.isEmpty) ∨ ∃ kvs, H p = some (.dK kvs) ∧ k = !kvs.isEmpty := e
    rcases e' with ⟨xs, hx, e'⟩ | ⟨xs, hx, e'⟩ | ⟨kvs, hx, e'⟩
    · subst e'
      obtain ⟨its, r, pl, hz⟩ := I.list hx
      have hlen := r.length
      exact wpAny_truthy_list pl.isList (by simp only [List.size_toArray]; omega) ⟨H, I.tok _, by rw [isEmpty_of r]; exact q⟩
    · subst e'
      obtain ⟨its, r, pl, hz⟩ := I.tuple hx
      have hlen := r.length
      exact truthy_tuple pl (by simp only [List.size_toArray]; omega) ⟨H, I.tok _, by rw [isEmpty_of r]; exact q⟩
    · subst e'
      obtain ⟨hz, hS, vs, r, m⟩ : kvs.length ≤ sizeLine ∧ (p == sysModules) = false ∧ ∃ vs, KV kvs vs ∧ s.heap.DictOf (mixKind X.prog X.w) p vs := I.hok p _ hx
      have hlen : kvs.length = vs.length := Paired.length r
      exact wpAny_truthy_dict hS m (by omega) ⟨H, I.tok _, by rw [isEmpty_kv r]; exact q⟩
  | _ => exact (show False from e).elim
theorem pt_truth (ha : PE X a ta) (he : ∀ whole, isTrue a X.env whole = (do let v ← whole; standAt a.pos; holding [v] (truthy v))) :
    PT X a (fun σ H Q => ta σ H fun x H' => ∃ k, TruV X.K x H' k ∧ Q k H') := by
  intro pins s σ H Q I h
  exact isTrue_plain (thn (ha pins s σ H _ I h) fun v s1 ⟨x, H1, I1, r1, q1⟩ => tru_ok pins s1 σ H1 x v Q I1 r1 q1) (he _)
theorem op_add_str : OpR X (binaryOp .Add) (fun x y H Q => ∃ i j, x = .str i ∧ y = .str j ∧ i.length + j.length ≤ sizeLine ∧ Q (.str (i ++ j)) H) := by
  intro pins s σ H x y v u Q I rx ry h
  obtain ⟨i, j, rfl, rfl, hz, q⟩ := h
  obtain ⟨t, rfl⟩ := rx
  obtain ⟨t', rfl⟩ := ry
  exact add_str (fun t' tk => ⟨.str (i ++ j), H, I.tok _, ⟨_, rfl⟩, q⟩) hz
theorem vals1 {x : V} {us : List Value} (r : Vals [x] us) : ∃ u, us = [u] ∧ RelV x u := by
  cases r with
  | cons r1 r2 => cases r2; exact ⟨_, rfl, r1⟩
theorem vals2 {x y : V} {us : List Value} (r : Vals [x, y] us) : ∃ u w', us = [u, w'] ∧ RelV x u ∧ RelV y w' := by
  cases r with
  | cons r1 r2 =>
    cases r2 with
    | cons r3 r4 => cases r4; exact ⟨_, _, rfl, r1, r3⟩
theorem call_max2 (hc : X.calm = true) : CallR X (.builtin "max") (fun xs H Q => ∃ i j, xs = [.int i, .int j] ∧ Q (.int (if j > i then j else i)) H) := by
  intro pins s σ H xs us Q I r h
  obtain ⟨i, j, rfl, q⟩ := h
  obtain ⟨u, w', rfl, ⟨t, rfl⟩, ⟨t', rfl⟩⟩ := vals2 r
  refine max_two_ints (I.ok.hd hc) fun h' tk k => ⟨_, H, I.kept k, ?_, q⟩
  by_cases hj : j > i
  · rw [if_pos hj, if_pos hj]; exact ⟨_, rfl⟩
  · rw [if_neg hj, if_neg hj]; exact ⟨_, rfl⟩
theorem call_min2 (hc : X.calm = true) : CallR X (.builtin "min") (fun xs H Q => ∃ i j, xs = [.int i, .int j] ∧ Q (.int (if j < i then j else i)) H) := by
  intro pins s σ H xs us Q I r h
  obtain ⟨i, j, rfl, q⟩ := h
  obtain ⟨u, w', rfl, ⟨t, rfl⟩, ⟨t', rfl⟩⟩ := vals2 r
  refine min_two_ints (I.ok.hd hc) fun h' tk k => ⟨_, H, I.kept k, ?_, q⟩
  by_cases hj : j < i
  · rw [if_pos hj, if_pos hj]; exact ⟨_, rfl⟩
  · rw [if_neg hj, if_neg hj]; exact ⟨_, rfl⟩
theorem call_int1 : CallR X (.type "int") (fun xs H Q => (∃ i, xs = [.int i] ∧ Q (.int i) H) ∨ ∃ k, xs = [.bl k] ∧ Q (.int (if k then 1 else 0)) H) := by
  intro pins s σ H xs us Q I r h
  rcases h with ⟨i, rfl, q⟩ | ⟨k, rfl, q⟩
  · obtain ⟨u, rfl, t, rfl⟩ := vals1 r
    exact call_int_int ⟨.int i, H, I, ⟨_, rfl⟩, q⟩
  · obtain ⟨u, rfl, r1⟩ := vals1 r
    cases r1
    exact call_int_bool ⟨.int (if k then 1 else 0), H, I.tok _, ⟨_, rfl⟩, q⟩
end
end L2
namespace L2
open PySem PySem.Spec PyProof.Rows
section
variable {prog : Program} {w : World} {A : Around} {E : Value → Shared → Prop} {s : Shared} {K : PySem.W.Frag} {x dx C f : Addr} {mA : Str → Option Value} {name : Str} {v : Value}
end
section
variable {P : Program} {w : World} {H H' : Hp} {h h' : Heap} {a C dx : Addr} {fs fs' : List (Str × V)}
end
section
variable {X : Cx} {pins : List (Addr × Obj)} {σ : St} {H : Hp} {s : Shared} {a C dx : Addr} {fs : List (Str × V)} {f : Str} {v : V} {A : Around} {E : Value → Shared → Prop}
end
section
variable {X : Cx} {o e value : Expr} {f : Str} {pos pos' tpos : Pos} {ta tv : TE}
end
section
variable {X : Cx} {pins : List (Addr × Obj)} {σ : St} {H : Hp} {s : Shared} {A : Around} {E : Value → Shared → Prop} {Q : Value → Shared → Prop} {c : Value} {b : Bool}
end
end L2
namespace L2
open PySem PySem.Spec PyProof.Rows
structure Room (k : Nat) (A : Around) : Prop where
  hd : A.handled = none
  dp : A.depth + 3 * k + 5 < recursionLimit
  un : A.units + 16 * k + 200 < cLine
theorem Room.mono {j k : Nat} {A : Around} (r : Room k A) (h : j ≤ k) : Room j A := ⟨r.hd, by have := r.dp; omega, by have := r.un; omega⟩
theorem Room.deeper {k : Nat} {A : Around} (r : Room (k + 1) A) (env : Env) : Room k (A.deeper env) :=
  ⟨r.hd, by have := r.dp; show A.depth + 1 + 3 * k + 5 < _; omega, by have := r.un; show A.units + 3 + 16 * k + 200 < _; omega⟩
theorem Room.depth {k : Nat} {A : Around} (r : Room k A) : A.depth < recursionLimit := by have := r.dp; omega
def tNil : TA := fun _ H Q => Q [] H
def tCons (ta : TE) (tr : TA) : TA := fun σ H Q => ta σ H fun x H1 => tr σ H1 fun xs H2 => Q (x :: xs) H2
section
variable {X : Cx} {e : Expr} {es : List Expr} {te : TE} {t : TA} {pos : Pos}
theorem pa_nil : PA X [] tNil := fun _ _ _ _ H Q I h => Calls.spliced_nil ⟨[], H, I, .nil, h⟩
theorem pa_cons (ha : PE X e te) (hr : PA X es t) (hs : starEach (e :: es) X.env = (false, eval e X.env) :: starEach es X.env := by rfl) : PA X (e :: es) (tCons te t) := by
  intro pos pins s σ H Q I h
  rw [hs]
  show wpAny _ _ (spliced ((false, eval e X.env) :: backTo pos (starEach es X.env))) _ _ s
  refine Calls.spliced_cons (thn (ha pins s σ H _ I h) fun u s1 ⟨x, H1, I1, r1, q1⟩ => ?_)
  exact thn (hr pos pins s1 σ H1 _ I1 q1) fun us s2 ⟨xs, H2, I2, r2, q2⟩ => ⟨x :: xs, H2, I2, .cons r1 r2, q2⟩
def tTup (t : TA) : TE := fun σ H Q => t σ H fun xs H1 => xs.length ≤ sizeLine ∧ ∀ p, H1 p = none → Q (.ref p) (upd H1 p (.tup xs))
def tLst (t : TA) : TE := fun σ H Q => t σ H fun xs H1 => xs.length ≤ sizeLine ∧ ∀ p, H1 p = none → Q (.ref p) (upd H1 p (.lst xs))
theorem pe_tup {x1} (h : PA X es t) : PE X (.Tuple es x1 pos) (tTup t) := by
  intro pins s σ H Q I hq
  refine wpAny_Tuple_spliced (thn (h pos pins s σ H _ I hq) fun us s1 ⟨xs, H1, I1, r, z, q⟩ => ⟨by rw [← r.length]; exact z, ?_⟩)
  have hf : H1 s1.heap.objs.size = none := I1.hok.fresh (Nat.le_refl _)
  refine ⟨.ref s1.heap.objs.size, upd H1 s1.heap.objs.size (.tup xs), I1.laid (t' := s1.toks) (fun b u e => Heap.get?_push_of_some _ e) (Nat.le_refl _) ?_, rfl, q _ hf⟩
  exact ⟨z, us, r, ⟨_, Heap.get?_push_size _ rfl, rfl, _, rfl⟩⟩
theorem pe_lst (h : PA X es t) : PE X (.List es pos) (tLst t) := by
  intro pins s σ H Q I hq
  refine wpAny_List_spliced (thn (h pos pins s σ H _ I hq) fun us s1 ⟨xs, H1, I1, r, z, q⟩ => ⟨by rw [← r.length]; exact z, ?_⟩)
  have hf : H1 s1.heap.objs.size = none := I1.hok.fresh (Nat.le_refl _)
  refine ⟨.ref s1.heap.objs.size, upd H1 s1.heap.objs.size (.lst xs), I1.laid (t' := s1.toks) (fun b u e => Heap.get?_push_of_some _ e) (Nat.le_refl _) ?_, rfl, q _ hf⟩
  exact ⟨z, us, 0, r, Heap.get?_push_size _ rfl⟩
end
abbrev Sp := List V → Hp → VK → XK → Prop
abbrev CXT := List Env → Hp → Shared → XK → Value → Shared → Prop
structure Env0 (P : Program) (w : World) (K : PySem.W.Frag) (mg : Str → Option Value) (base : Heap) (A : Around) (outer : List Env) (s : Shared) (H : Hp) : Prop where
  frames : A.frames = some outer
  mod : Mod K mg base
  bs : ∀ b o, base.get? b = some o → s.heap.get? b = some o ∧ H b = none
  bsz : base.objs.size ≤ s.heap.objs.size
  funs : s.heap.FunFrames base outer
  frf : ∀ b ∈ frs outer, H b = none
  hok : HOk P w H s.heap
  bare : AllBare s.gens
def CE (outer : List Env) (P : Program) (w : World) (H : Hp) (s : Shared) (Q : VK) (u : Value) (s' : Shared) : Prop :=
  ∃ v H', s'.os = s.os ∧ AllBare s'.gens ∧ Un (frs outer) [] H H' s.heap s'.heap ∧ HOk P w H' s'.heap ∧ RelV v u ∧ Q v H'
def CR (CX : CXT) (outer : List Env) (P : Program) (w : World) (H : Hp) (s : Shared) (Q : VK) (E : XK) (r : Result) (s' : Shared) : Prop :=
  match r with
  | .ok (.ret u) => CE outer P w H s Q u s'
  | .ok _ => False
  | .error e => CX outer H s E e s'
structure FnOk (P : Program) (w : World) (K : PySem.W.Frag) (mg : Str → Option Value) (base : Heap) (CX : CXT) (k : Nat) (f : Addr) (fd : FuncData) (ps : List Str) (sp : Sp) : Prop where
  len : ∀ vs H Q E, sp vs H Q E → vs.length = ps.length
  run : ∀ (A : Around) (outer : List Env) (s : Shared) (H : Hp) (args : Args) (us : List Value) (vs : List V) (Q : VK) (E : XK), Room k A → Env0 P w K mg base A outer s H → BindsTo s fd args (ps.zip us) → Vals vs us → sp vs H Q E →
    codeAny (model P w) A (.call (.ref f) args) (CR CX outer P w H s Q E) s
theorem FnOk.mono {P : Program} {w : World} {K : PySem.W.Frag} {mg : Str → Option Value} {base : Heap} {CX : CXT} {j k : Nat} {f : Addr} {fd : FuncData} {ps : List Str} {sp : Sp} (F : FnOk P w K mg base CX j f fd ps sp) (h : j ≤ k) :
    FnOk P w K mg base CX k f fd ps sp := ⟨F.len, fun A outer s H args us vs Q E hr => F.run A outer s H args us vs Q E (hr.mono h)⟩
theorem FnOk.imp {P : Program} {w : World} {K : PySem.W.Frag} {mg : Str → Option Value} {base : Heap} {CX : CXT} {k : Nat} {f : Addr} {fd : FuncData} {ps : List Str} {sp sp' : Sp} (F : FnOk P w K mg base CX k f fd ps sp)
    (h : ∀ vs H Q E, sp' vs H Q E → sp vs H Q E) : FnOk P w K mg base CX k f fd ps sp' :=
  ⟨fun vs H Q E q => F.len vs H Q E (h _ _ _ _ q), fun A outer s H args us vs Q E hr he hb hv hs => F.run A outer s H args us vs Q E hr he hb hv (h _ _ _ _ hs)⟩
section
variable {X : Cx} {pins : List (Addr × Obj)} {σ : St} {H : Hp} {s s' : Shared}
theorem Inv.env0 (I : Inv X pins σ H s) : Env0 X.prog X.w X.K X.mg X.base X.A X.stack s H :=
  ⟨I.ok.frames, I.ok.mod, I.bs, Nat.le_trans I.ok.bsz I.sz, I.stack, I.stkFree, I.hok, I.bare⟩
theorem Inv.after {Q : VK} {u : Value} (I : Inv X pins σ H s) (h : CE X.stack X.prog X.w H s Q u s') : EP X pins σ Q u s' := by
  obtain ⟨v, H', os, bare, un, hok, r, q⟩ := h
  obtain ⟨hh, g, d, t, os'⟩ := s'
  obtain rfl : os' = s.os := os
  exact ⟨v, H', I.call (h' := hh) (g' := g) (d' := d) (t' := t) (ch := []) un hok bare (fun b z => absurd z (by simp)), r, q⟩
end
def tCall (sp : Sp) (dvs : List V) (E : XK) (t : TA) : TE := fun σ H Q => t σ H fun vs H1 => sp (vs ++ dvs) H1 Q E
def Binds (K : PySem.W.Frag) (fd : FuncData) (ps : List Str) (ds : List Value) : Prop :=
  ∀ (s : Shared) (us : List Value), K.In s.heap → (us ++ ds).length = ps.length → BindsTo s fd ⟨us, []⟩ (ps.zip (us ++ ds))
theorem Binds.all {K : PySem.W.Frag} {fd : FuncData} {ps : List Str} (h : ∀ us : List Value, us.length = ps.length → bindArgs fd ⟨us, []⟩ = pure (ps.zip us)) : Binds K fd ps [] := fun s us _ hl => by
  rw [List.append_nil] at hl ⊢
  exact .of_eq (h us hl)
def Passes (CX : CXT) (X : Cx) (E : XK) : Prop := ∀ (pins : List (Addr × Obj)) (σ : St) (H : Hp) (s : Shared) (e : Value) (s' : Shared), Inv X pins σ H s → CX X.stack H s E e s' → X.xe e s'
section
variable {X : Cx} {CX : CXT} {k : Nat} {f C : Addr} {fd : FuncData} {ps : List Str} {sp : Sp} {dvs : List V} {ds : List Value} {E : XK} {x m : Str} {p pos apos : Pos} {e o : Expr} {es : List Expr} {ta : TE} {t : TA}
theorem run_fn {pins : List (Addr × Obj)} {σ : St} {H : Hp} {s : Shared} {Q : VK} {us : List Value} {vs : List V} (F : FnOk X.prog X.w X.K X.mg X.base CX k f fd ps sp) (hr : Room k X.A) (hb : Binds X.K fd ps ds) (hd : Vals dvs ds) (hx : Passes CX X E)
    (I : Inv X pins σ H s) (r : Vals vs us) (h : sp (vs ++ dvs) H Q E) : wpAny (model X.prog X.w) X.A (call (.ref f) us) (EP X pins σ Q) X.xe s := by
  have r2 : Vals (vs ++ dvs) (us ++ ds) := r.append hd
  have hl : (us ++ ds).length = ps.length := by rw [← r2.length]; exact F.len _ _ _ _ h
  refine wpAny_call (codeAny_mono (F.run X.A X.stack s H ⟨us, []⟩ (us ++ ds) (vs ++ dvs) Q E hr I.env0 (hb s us I.kIn hl) r2 h) fun r s' hq => ?_)
  cases r with
  | error e => exact hx pins σ H s e s' I hq
  | ok fl =>
    cases fl with
    | ret u => exact I.after hq
    | next => exact False.elim hq
    | brk => exact False.elim hq
    | cont => exact False.elim hq
theorem pe_call (F : FnOk X.prog X.w X.K X.mg X.base CX k f fd ps sp) (hr : Room k X.A) (hg : Gl X x) (hm : X.mg x = some (.ref f)) (hk : PySem.W.keepIn X.K (.ref f) = true) (hb : Binds X.K fd ps ds) (hd : Vals dvs ds) (hx : Passes CX X E)
    (ha : PA X (e :: es) t) (hdb : (x == ("__debug__" : Str)) = false := by decide) (he : starEach (e :: es) X.env = (false, eval e X.env) :: starEach es X.env := by rfl) (hpl : (backTo pos (starEach es X.env)).any (·.1) = false := by rfl) :
    PE X (.Call (.Name x p) (e :: es) [] pos) (tCall sp dvs E t) := by
  intro pins s σ H Q I h
  refine wpAny_Call_Name_kw (ld_glob I hg hm ?_ hdb)
  refine PySem.W.callWith_K (h₀ := X.base) I.ok.mod.kin hk (thn (ha pos pins s σ H _ I h) fun us s1 ⟨vs, H1, I1, r, q⟩ => ⟨I1.kIn, ?_⟩) he hpl
  exact run_fn F hr hb hd hx I1 r q
end
section
variable {X : Cx} {CX : CXT} {k : Nat} {f C : Addr} {fd : FuncData} {ps ks : List Str} {sp : Sp} {E : XK} {x m : Str} {p pos apos kpos : Pos} {e o : Expr} {es : List Expr} {kws : List Keyword} {te ta : TE} {t tk : TA} {nm : Option Str}
variable {g : List Value → List Value → List Value} {gV : List V → List V → List V}
end
structure FnScope (N P : List Str) (sc : Scope) : Prop where
  kind : sc.kind = .function
  co : sc.isCoroutine = false
  gen : sc.isGenerator = false
  nd : N.Nodup
  pre : N.take P.length = P
  par : ∀ x ∈ P, sc.names.lookup x = some .local ∨ sc.names.lookup x = some .cell
  nofree : ∀ y ∈ sc.names, y.2 ≠ .free
theorem bindL_out {kindOf : Str → Option NameKind} {x : Str} : ∀ {binds : List (Str × Value)} {m : Str → Option Value}, (∀ v, (x, v) ∉ binds) → bindL kindOf binds m x = m x
  | [], _, _ => rfl
  | (n, v) :: r, m, h => by
    unfold bindL
    rw [bindL_out fun w hw => h w (List.mem_cons_of_mem _ hw)]
    split
    · have : x ≠ n := by rintro rfl; exact h v List.mem_cons_self
      simp [this]
    · rfl
theorem bindC_out {kindOf : Str → Option NameKind} {x : Str} : ∀ {binds : List (Str × Value)} {m : Str → Option Value}, (∀ v, (x, v) ∉ binds) → bindC kindOf binds m x = m x
  | [], _, _ => rfl
  | (n, v) :: r, m, h => by
    unfold bindC
    rw [bindC_out fun w hw => h w (List.mem_cons_of_mem _ hw)]
    split
    · rfl
    · have : x ≠ n := by rintro rfl; exact h v List.mem_cons_self
      simp [this]
theorem bindL_get {kindOf : Str → Option NameKind} {x : Str} {v : Value} : ∀ {P : List Str} {vs : List Value} {i : Nat} {m : Str → Option Value}, P.Nodup → P[i]? = some x → vs[i]? = some v → kindOf x = some .local →
    bindL kindOf (P.zip vs) m x = some v
  | [], _, _, _, _, h, _, _ => by simp at h
  | _ :: _, [], _, _, _, _, h, _ => by simp at h
  | p :: P, w :: vs, 0, m, nd, h1, h2, hk => by
    simp at h1 h2; subst h1; subst h2
    show bindL kindOf ((p, w) :: P.zip vs) m p = _
    unfold bindL
    rw [bindL_out fun v hv => (List.nodup_cons.mp nd).1 (List.of_mem_zip hv).1, if_pos hk]
    simp
  | p :: P, w :: vs, i + 1, m, nd, h1, h2, hk => by
    show bindL kindOf ((p, w) :: P.zip vs) m x = _
    unfold bindL
    exact bindL_get (i := i) (List.nodup_cons.mp nd).2 (by simpa using h1) (by simpa using h2) hk
theorem bindC_get {kindOf : Str → Option NameKind} {x : Str} {v : Value} : ∀ {P : List Str} {vs : List Value} {i : Nat} {m : Str → Option Value}, P.Nodup → P[i]? = some x → vs[i]? = some v → kindOf x ≠ some .local →
    bindC kindOf (P.zip vs) m x = some v
  | [], _, _, _, _, h, _, _ => by simp at h
  | _ :: _, [], _, _, _, _, h, _ => by simp at h
  | p :: P, w :: vs, 0, m, nd, h1, h2, hk => by
    simp at h1 h2; subst h1; subst h2
    show bindC kindOf ((p, w) :: P.zip vs) m p = _
    unfold bindC
    rw [bindC_out fun v hv => (List.nodup_cons.mp nd).1 (List.of_mem_zip hv).1, if_neg hk]
    simp
  | p :: P, w :: vs, i + 1, m, nd, h1, h2, hk => by
    show bindC kindOf ((p, w) :: P.zip vs) m x = _
    unfold bindC
    exact bindC_get (i := i) (List.nodup_cons.mp nd).2 (by simpa using h1) (by simpa using h2) hk
def start (N : List Str) (vs : List V) : St := vs.map some ++ List.replicate (N.length - vs.length) none
def cxOf (CX : CXT) (P : Program) (w : World) (K : PySem.W.Frag) (mg : Str → Option Value) (base : Heap) (N : List Str) (qual : Str) (scope : Scope) (f : Addr) (cd : Value) (A : Around) (outer : List Env) (s : Shared) (H : Hp) (E : XK) : Cx where
  prog := P
  w := w
  K := K
  mg := mg
  base := base
  A := A.deeper (envOfC qual scope s.heap.objs.size f cd)
  N := N
  s₀ := s
  H₀ := H
  env := envOfC qual scope s.heap.objs.size f cd
  outer := outer
  stack := envOfC qual scope s.heap.objs.size f cd :: outer
  ex := []
  calm := true
  fn := fun _ => true
  pn := []
  xe := fun e s' => wpAny (model P w) (A.deeper (envOfC qual scope s.heap.objs.size f cd)) (leaving (envOfC qual scope s.heap.objs.size f cd) e) (fun _ s'' => CX outer H s E e s'') (fun e' s'' => CX outer H s E e' s'') s'
theorem cell_has {sc : Scope} {n : Nat} {x : Str} (h : sc.names.lookup x = some .cell) : ∃ c, (cellsFrom n sc.names []).lookup x = some c := by
  have q := PySem.W.cellsFrom_some sc.names n [] (.inl h)
  exact Option.isSome_iff_exists.mp q
theorem inv_start {CX : CXT} {P : Program} {w : World} {K : PySem.W.Frag} {mg : Str → Option Value} {base : Heap} {N ps : List Str} {qual : Str} {scope : Scope} {f : Addr} {cd : Value} {A : Around} {outer : List Env} {s s1 : Shared} {H : Hp} {E : XK} {us : List Value} {vs : List V}
    (S : FnScope N ps scope) (hd : A.handled = none) (e0 : Env0 P w K mg base A outer s H) (hl : vs.length = ps.length) (r : Vals vs us)
    (x : InCallC s s.heap.objs.size (bindL (envOfC qual scope s.heap.objs.size f cd).kindOf (ps.zip us) fun _ => none) (cellsFrom (s.heap.objs.size + 1) scope.names []) (bindC (envOfC qual scope s.heap.objs.size f cd).kindOf (ps.zip us) fun _ => none) s1) :
    Inv (cxOf CX P w K mg base N qual scope f cd A outer s H E) [] (start N vs) H s1 := by
  have hpl : ps.length ≤ N.length := by have := congrArg List.length S.pre; rw [List.length_take] at this; omega
  obtain ⟨h1, tk, rfl, hk⟩ := x.done
  have noA : ∀ b : Addr, b ∉ (cxOf CX P w K mg base N qual scope f cd A outer s H E).ex := fun b z => absurd (show b ∈ ([] : List Addr) from z) (by simp)
  refine ⟨⟨e0.mod, S.kind, rfl, rfl, Nat.le_refl _, fun y z c h1 h2 => ?_, fun y hy => ?_, fun y c _ h => ?_, fun _ => hd, Around.frames_deeper e0.frames, .inr ⟨rfl, rfl⟩, fun b z => absurd z (noA b), e0.bs, e0.bsz, fun b _ _ => noA b, fun b z => absurd z (noA b), e0.funs, e0.frf⟩,
    rfl, e0.bare, Un.kept hk, ⟨_, x.toInCall.ns, fun i y v h1 h2 h3 => ?_⟩, fun y c h => ⟨_, x.cell y c h⟩, e0.hok.fresh (Nat.le_refl _), fun y c h => ?_, fun p hp => absurd (show p ∈ ([] : List (Addr × Obj)) from hp) (by simp), e0.hok.kept hk, ?_⟩
  · exact name_of_addr x.apart (PySem.mem_of_lookup h1) (PySem.mem_of_lookup h2)
  · have hy : scope.names.lookup y = some .cell ∨ scope.names.lookup y = some .free := hy
    rcases hy with hy | hy
    · exact cell_has hy
    · exact absurd rfl (S.nofree _ (PySem.mem_of_lookup hy))
  · exact Nat.le_of_lt (x.above y c (PySem.mem_of_lookup h))
  · have hi : i < vs.length := by
      unfold start at h2
      by_cases hi : i < vs.length
      · exact hi
      · rw [List.getElem?_append_right (by simpa using hi)] at h2
        rw [List.getElem?_replicate] at h2
        split at h2 <;> cases h2
    have ha : vs[i]? = some v := by
      unfold start at h2
      rw [List.getElem?_append_left (by simpa using hi), List.getElem?_map] at h2
      cases e : vs[i]? with
      | none => rw [e] at h2; cases h2
      | some a => rw [e] at h2; cases h2; rfl
    obtain ⟨u, hu, rv⟩ := r.get ha
    have hp : ps[i]? = some y := by
      rw [← S.pre, List.getElem?_take_of_lt (by omega)]; exact h1
    have ndP : ps.Nodup := by rw [← S.pre]; exact S.nd.sublist (List.take_sublist _ _)
    refine ⟨u, rv, ?_⟩
    rcases S.par y (List.mem_of_getElem? hp) with k | k
    · exact .inl ⟨k, bindL_get ndP hp hu k⟩
    · obtain ⟨c, e⟩ := cell_has (n := s.heap.objs.size + 1) k
      refine .inr ⟨.inl k, c, e, ?_⟩
      have q := x.cell y c e
      rw [bindC_get ndP hp hu (by show scope.names.lookup y ≠ _; rw [k]; decide)] at q
      exact q
  · exact e0.hok.fresh (Nat.le_of_lt (x.above y c (PySem.mem_of_lookup h)))
  · unfold start
    show _ = N.length
    rw [List.length_append, List.length_map, List.length_replicate]
    omega
theorem fn_of {CX : CXT} {P : Program} {w : World} {K : PySem.W.Frag} {mg : Str → Option Value} {base : Heap} {k : Nat} {f : Addr} {name qual : Str} {params : Arguments} {body : List Stmt} {scope : Scope} {dV kV doc pm cdv ct oc : Value} {an od : Option Addr}
    {osl : Array (Option Value)} {N ps : List Str} {sp : Sp} (lk : K.lookup f = some ⟨oc, od, .func (PySem.W.fnOf name qual params body scope dV kV doc pm an cdv ct), osl⟩) (hcd : PySem.W.codeIn K cdv qual = true) (S : FnScope N ps scope)
    (len : ∀ vs H Q E, sp vs H Q E → vs.length = ps.length)
    (hbody : ∀ (A : Around) (outer : List Env) (s : Shared) (H : Hp) (vs : List V) (Q : VK) (E : XK), Room k (A.deeper (envOfC qual scope s.heap.objs.size f cdv)) → sp vs H Q E →
      ∃ t, PSs (cxOf CX P w K mg base N qual scope f cdv A outer s H E) body t ∧ t { nx := fun _ H' => Q .non H', rt := Q } (start N vs) H) :
    FnOk P w K mg base CX (k + 1) f (PySem.W.fnOf name qual params body scope dV kV doc pm an cdv ct) ps sp := by
  refine ⟨len, fun A outer s H args us vs Q E hr e0 hb r hsp => ?_⟩
  have hl := len _ _ _ _ hsp
  have KX : K.In s.heap := e0.mod.kin.keeps fun b o e => (e0.bs b o e).1
  have lim : s.heap.NoLimit := e0.mod.nolimit.keeps fun b o e => (e0.bs b o e).1
  have hkind : ∀ y ∈ ps.zip us, scope.names.lookup y.1 = some .local ∨ (scope.names.lookup y.1 = some .cell ∧ ((cellsFrom (s.heap.objs.size + 1) scope.names []).lookup y.1).isSome = true) := fun ⟨n, v⟩ hy => by
    rcases S.par n (List.of_mem_zip hy).1 with q | q
    · exact .inl q
    · exact .inr ⟨q, PySem.W.cellsFrom_some _ _ _ (.inl q)⟩
  refine codeAny_call_function hr.depth (KX _ _ lk) rfl S.co S.gen rfl (PySem.W.codeRec_of KX hcd) (hb _ _ _ _ ?_)
  refine wpAny_newFunctionEnv_cells S.kind hkind fun env he s1 x => ?_
  subst he
  refine ⟨lim.keeps x.toInCall.keep, codeAny_func ?_⟩
  obtain ⟨t, ht, hq⟩ := hbody A outer s H vs Q E (hr.deeper _) hsp
  have I : Inv (cxOf CX P w K mg base N qual scope f cdv A outer s H E) [] (start N vs) H s1 := inv_start S hr.hd e0 hl r x
  refine wpAny_mono (ht [] s1 (start N vs) H _ I hq) (fun fl s' hs => ?_) fun e s' hs => hs
  have fin : ∀ {σ' : St} {H' : Hp} {v : V} {u : Value}, Inv (cxOf CX P w K mg base N qual scope f cdv A outer s H E) [] σ' H' s' → RelV v u → Q v H' → CE outer P w H s Q u s' :=
    fun {σ' H' v u} J rv q => ⟨v, H', J.os, J.bare, J.base, J.hok, rv, q⟩
  cases fl with
  | ret u =>
    obtain ⟨v, σ', H', J, rv, q⟩ := hs
    exact fin J rv q
  | next =>
    obtain ⟨σ', H', J, q⟩ := hs
    exact fin (v := V.non) (u := Value.none) J rfl q
  | brk =>
    obtain ⟨_, _, _, q⟩ := hs
    exact False.elim q
  | cont =>
    obtain ⟨_, _, _, q⟩ := hs
    exact False.elim q
end L2
namespace L2
open PySem PySem.Spec PyProof.Rows
section
variable {X : Cx} {x : Str} {p pos : Pos} {e : Expr} {es : List Expr} {t : TA} {id T : String} {r : List V → Hp → VK → Prop}
def tCB (r : List V → Hp → VK → Prop) (t : TA) : TE := fun σ H Q => t σ H fun vs H1 => r vs H1 Q
theorem pe_callB (hc : CallR X (.builtin id) r) (hg : Gl X x) (hm : X.mg x = none) (hv : bootBuiltins x = some (.builtin id)) (ha : PA X (e :: es) t) (hn : x ≠ "__name__" := by decide) (hdb : (x == ("__debug__" : Str)) = false := by decide)
    (he : starEach (e :: es) X.env = (false, eval e X.env) :: starEach es X.env := by rfl) (hpl : (backTo pos (starEach es X.env)).any (·.1) = false := by rfl) : PE X (.Call (.Name x p) (e :: es) [] pos) (tCB r t) := by
  intro pins s σ H Q I h
  refine wpAny_Call_Name_kw (ld_blt I hg hm hv ?_ hn hdb)
  exact PyProof.Rows.callWith_builtin1 (thn (ha pos pins s σ H _ I h) fun us s1 ⟨vs, H1, I1, r1, q1⟩ => hc pins s1 σ H1 vs us Q I1 r1 q1) he hpl
theorem pe_callTy (hc : CallR X (.type T) r) (hg : Gl X x) (hm : X.mg x = none) (hv : bootBuiltins x = some (.type T)) (ha : PA X (e :: es) t) (hn : x ≠ "__name__" := by decide) (hdb : (x == ("__debug__" : Str)) = false := by decide)
    (he : starEach (e :: es) X.env = (false, eval e X.env) :: starEach es X.env := by rfl) (hpl : (backTo pos (starEach es X.env)).any (·.1) = false := by rfl) : PE X (.Call (.Name x p) (e :: es) [] pos) (tCB r t) := by
  intro pins s σ H Q I h
  refine wpAny_Call_Name_kw (ld_blt I hg hm hv ?_ hn hdb)
  exact PyProof.Rows.callWith_type1 (thn (ha pos pins s σ H _ I h) fun us s1 ⟨vs, H1, I1, r1, q1⟩ => hc pins s1 σ H1 vs us Q I1 r1 q1) he hpl
end
end L2
namespace HT
open PySem PyProof.Rows
section
open PySem.SeqAt
open PySem.AutoSeq1 (wpAny_loadPart')
open PySem.MeetsSeq PySem.MeetsSeq2 PySem.MeetsSeq3
end
section
variable {prog : Program} {w : World} {A : Around} {E : Value → Shared → Prop} {s : Shared}
theorem cat_tup {t b : Addr} {vs ws : List Value} {Q : Value → Shared → Prop} (ht : IsTup s.heap t vs.toArray) (hb : IsTup s.heap b ws.toArray) (hv : vs ≠ [])
    (h1 : ws = [] → Q (.ref t) s) (h2 : ws ≠ [] → Q (.ref s.heap.objs.size) { s with heap := s.heap.push { cls := .type "tuple", data := .seq (vs ++ ws).toArray } })
    (hsz : vs.length + ws.length ≤ sizeLine) : wpAny (model prog w) A (binaryOp .Add (.ref t) (.ref b)) Q E s := by
  obtain ⟨⟨cls, dd, data, sl⟩, ho, hc, n, hd⟩ := id ht
  obtain ⟨⟨cls2, dd2, data2, sl2⟩, ho2, hc2, n2, hd2⟩ := id hb
  simp only at hc hd hc2 hd2
  subst hc hd hc2 hd2
  have e : vs.toArray ++ ws.toArray = (vs ++ ws).toArray := by simp
  by_cases hw : ws = []
  · exact concat_meets ⟨_, ho, rfl⟩ ⟨_, ho2, rfl⟩ noFill_tuple_add seq_tuple_add PySem.F.slot_tuple_add PySem.F.entry_tuple_add (PySem.F.args_tuple_add_2 _ _)
      (tuple_addW1 t b vs.toArray ws.toArray n n2 dd dd2 sl sl2 (by simpa using hv) (by simp [hw])) ⟨ho, ho2, h1 hw⟩
  · refine concat_meets ⟨_, ho, rfl⟩ ⟨_, ho2, rfl⟩ noFill_tuple_add seq_tuple_add PySem.F.slot_tuple_add PySem.F.entry_tuple_add (PySem.F.args_tuple_add_2 _ _)
      (tuple_addW2 t b vs.toArray ws.toArray n n2 dd dd2 sl sl2 (by simpa using hv) (by simpa using hw) (by rw [List.size_toArray, List.size_toArray]; exact hsz)) ⟨ho, ho2, ?_⟩
    rw [e]
    exact h2 hw
def sIx (n d : Nat) : Option Int → Nat
  | none => d
  | some v => if v < 0 then (v + (n : Int)).toNat else min v.toNat n
theorem sIx_le (n d : Nat) (hd : d ≤ n) (o : Option Int) : sIx n d o ≤ n := by
  cases o with
  | none => exact hd
  | some v =>
    show (if v < 0 then (v + (n : Int)).toNat else min v.toNat n) ≤ n
    by_cases hv : v < 0
    · rw [if_pos hv]; omega
    · rw [if_neg hv]; exact Nat.min_le_right _ _
theorem clip_eq (v : Int) (n d : Nat) : (if v < 0 then max (v + (n : Int)) 0 else min v (n : Int)) = ((sIx n d (some v) : Nat) : Int) := by
  show (if v < 0 then max (v + (n : Int)) 0 else min v (n : Int)) = (((if v < 0 then (v + (n : Int)).toNat else min v.toNat n) : Nat) : Int)
  by_cases hv : v < 0
  · simp only [if_pos hv]; omega
  · simp only [if_neg hv]; omega
theorem adjust_gen (lo hi : Option Int) (n : Nat) : Builtin.Slice.sliceAdjust lo hi 1 (n : Int) = (((sIx n 0 lo : Nat) : Int), ((sIx n n hi : Nat) : Int)) := by
  have h1 : ¬ ((1 : Int) < 0) := by omega
  unfold Builtin.Slice.sliceAdjust
  simp only [h1, if_false]
  refine Prod.ext ?_ ?_
  · cases lo with
    | none => rfl
    | some v => exact clip_eq v n 0
  · cases hi with
    | none => rfl
    | some v => exact clip_eq v n n
theorem places_gen (i j : Nat) : Builtin.Slice.slicePlaces (i : Int) (j : Int) 1 = j - i := by
  unfold Builtin.Slice.slicePlaces
  have h1 : (1 : Int) > 0 := by omega
  simp only [h1, if_true, Int.ediv_one]
  split <;> omega
theorem slicePart_ {v : Value} {o : Option Int} {Q : Option Int → Shared → Prop} (p : IsPart v o) (h : Q o s) : wpAny (model prog w) A (Builtin.Slice.slicePartIndex v) Q E s := by
  cases p with
  | none => exact slicePart_none h
  | int i t => exact slicePart_int h
theorem sliceApplied_gen {sl : Addr} {vl vu : Value} {lo hi : Option Int} {n : Nat} {Q : Int × Int × Nat → Shared → Prop} (hs : s.heap.IsSliceOf sl vl vu .none) (pl : IsPart vl lo) (pu : IsPart vu hi)
    (h : Q (((sIx n 0 lo : Nat) : Int), 1, sIx n n hi - sIx n 0 lo) s) : wpAny (model prog w) A (Builtin.Slice.sliceApplied (.ref sl) (pure (n : Int))) Q E s := by
  obtain ⟨os, hos, hcs, hds⟩ := id hs
  unfold Builtin.Slice.sliceApplied Builtin.Slice.sliceFields
  refine wpAny_bind (wpAny_bind (wpAny_field hos hds (x := vl) rfl (wpAny_bind (wpAny_field hos hds (x := vu) rfl (wpAny_bind (wpAny_field hos hds (x := .none) rfl (wpAny_pure ?_)))))))
  refine wpAny_bind (slicePart_none ?_)
  show wpAny _ _ (if ((1 : Int) == 0) = true then _ else _) _ _ s
  rw [if_neg (by decide)]
  refine wpAny_bind (slicePart_ pl (wpAny_bind (slicePart_ pu (wpAny_bind (wpAny_pure ?_)))))
  show wpAny _ _ (match Builtin.Slice.sliceAdjust lo hi 1 (n : Int) with | (lo, hi) => pure (lo, (1 : Int), Builtin.Slice.slicePlaces lo hi 1)) _ _ s
  rw [adjust_gen lo hi n]
  show wpAny _ _ (pure (((sIx n 0 lo : Nat) : Int), (1 : Int), Builtin.Slice.slicePlaces ((sIx n 0 lo : Nat) : Int) ((sIx n n hi : Nat) : Int) 1)) _ _ s
  rw [places_gen]
  exact wpAny_pure h
theorem pick_gen (xs : Array Value) (i k : Nat) : ((List.range k).filterMap fun (m : Nat) => xs[((i : Int) + (m : Int) * 1).toNat]?).toArray = ((xs.toList.drop i).take k).toArray := by
  have e : (fun (m : Nat) => xs[((i : Int) + (m : Int) * 1).toNat]?) = fun m => xs[i + m]? := by
    funext m
    have : ((i : Int) + (m : Int) * 1).toNat = i + m := by omega
    rw [this]
  rw [e]
  have := pick_run xs i k
  rw [List.filterMap_map] at this
  have e2 : ((fun x => xs[x]?) ∘ fun x => i + x) = fun m => xs[i + m]? := rfl
  rw [e2] at this
  rw [this]
theorem getItem_tuple_cut {t sl : Addr} {items : Array Value} {vl vu : Value} {lo hi : Option Int} {Q : Value → Shared → Prop} (ht : IsTup s.heap t items) (hs : s.heap.IsSliceOf sl vl vu .none) (pl : IsPart vl lo) (pu : IsPart vu hi)
    (hw : ¬ (sIx items.size 0 lo = 0 ∧ sIx items.size items.size hi = items.size))
    (h : Q (.ref s.heap.objs.size) { s with heap := s.heap.push { cls := .type "tuple", data := .seq ((items.toList.drop (sIx items.size 0 lo)).take (sIx items.size items.size hi - sIx items.size 0 lo)).toArray } })
    (hsz : items.size ≤ sizeLine) : wpAny (model prog w) A (getItem (.ref t) (.ref sl)) Q E s := by
  have htake : sizeOk (.seq ((items.toList.drop (sIx items.size 0 lo)).take (sIx items.size items.size hi - sIx items.size 0 lo)).toArray) := by
    show ((items.toList.drop (sIx items.size 0 lo)).take (sIx items.size items.size hi - sIx items.size 0 lo)).toArray.size ≤ sizeLine
    rw [List.size_toArray, List.length_take, List.length_drop, Array.length_toList]
    omega
  have hj : sIx items.size items.size hi ≤ items.size := sIx_le _ _ (Nat.le_refl _) hi
  obtain ⟨os, hos, hcs, hds⟩ := id hs
  have hTs : s.TypeIs (.ref sl) "slice" := ⟨os, hos, hcs⟩
  unfold getItem
  try with_reducible refine wpAny_holding ?_
  first | refine wpAny_bind (wpAny_pure ?_) | skip
  refine wpAny_bind (wpAny_sequenceKey ht.typeIs (by decide) ?_)
  refine wpAny_bind (wpAny_callSpecial?_slot (name := Str.ofString "__getitem__") ht.typeIs PyProof.Rows.slot_tuple_getitem
    (wpAny_call_entry PyProof.Rows.slot_tuple_getitem ht.typeIs entry_tuple_getitem ?_ (args_tuple_getitem _ _)))
  show wpAny _ _ (Builtin.Tuple.tupleItemsOf (.ref t) >>= _) _ _ s
  refine wpAny_bind (tupleItemsOf_ ht ?_)
  refine wpAny_bind (wpAny_typeOf hTs ?_)
  rw [if_pos (by decide)]
  refine wpAny_bind (sliceApplied_gen hs pl pu ?_)
  have hno : ¬ ((((sIx items.size 0 lo : Nat) : Int) == 0 && (1 : Int) == 1 && (sIx items.size items.size hi - sIx items.size 0 lo) == items.size) = true) := by
    intro q
    rw [Bool.and_eq_true, Bool.and_eq_true] at q
    have q1 : ((sIx items.size 0 lo : Nat) : Int) = 0 := eq_of_beq q.1.1
    have q2 : sIx items.size items.size hi - sIx items.size 0 lo = items.size := eq_of_beq q.2
    exact hw ⟨by omega, by omega⟩
  show wpAny _ _ (if (((sIx items.size 0 lo : Nat) : Int) == 0 && (1 : Int) == 1 && (sIx items.size items.size hi - sIx items.size 0 lo) == items.size) = true then _ else _) _ _ s
  rw [if_neg hno, pick_gen]
  first
    | exact wpAny_bind (m := Builtin.Tuple.tupleExact _) (wpAny_newObj_type (wpAny_pure ⟨_, rfl, wpAny_pure h⟩) htake)
    | exact wpAny_bind (m := Builtin.Tuple.tupleExact _) (wpAny_newObj_type (wpAny_bind (wpAny_pure (wpAny_pure ⟨_, rfl, wpAny_pure h⟩))) htake)
    | exact wpAny_bind (wpAny_bind (m := Builtin.Tuple.tupleExact _) (wpAny_newObj_type (wpAny_pure (wpAny_pure ⟨_, rfl, wpAny_pure h⟩)) htake))
    | exact wpAny_bind (wpAny_bind (m := Builtin.Tuple.tupleExact _) (wpAny_newObj_type (wpAny_pure ⟨_, rfl, wpAny_pure h⟩) htake))
end
end HT
namespace L2
open PySem PySem.Spec PyProof.Rows
abbrev TO := St → Hp → (Option Int → Hp → Prop) → Prop
def PO (X : Cx) (e : Option Expr) (t : TO) : Prop :=
  ∀ (pins : List (Addr × Obj)) (s : Shared) (σ : St) (H : Hp) (Q : Option Int → Hp → Prop), Inv X pins σ H s → t σ H Q →
    wpAny (model X.prog X.w) X.A (evalPart e X.env) (fun u s' => ∃ o H', Inv X pins σ H' s' ∧ IsPart u o ∧ Q o H') X.xe s
def tNoPart : TO := fun _ H Q => Q none H
def tPart (t : TE) : TO := fun σ H Q => t σ H fun x H1 => ∃ i, x = .int i ∧ Q (some i) H1
theorem intsAre_of {ns : List Int} : ∀ {us : List Value}, Vals (ns.map V.int) us → IntsAre us ns := by
  induction ns with
  | nil => intro us r; rw [List.map_nil] at r; cases r; exact .nil
  | cons n ns ih =>
    intro us r
    rw [List.map_cons] at r
    cases r with
    | cons r1 r2 =>
      obtain ⟨t, e⟩ := r1
      subst e
      exact .cons n t (ih r2)
section
variable {X : Cx} {e : Expr} {te : TE} {lo hi : Option Expr} {tl th : TO} {pos p2 : Pos}
theorem po_none : PO X none tNoPart := by
  intro pins s σ H Q I h
  rw [evalPart_none]
  exact wpAny_pure ⟨none, H, I, .none, h⟩
theorem po_some (h : PE X e te) : PO X (some e) (tPart te) := by
  intro pins s σ H Q I hw
  rw [evalPart_some]
  refine thn (h pins s σ H _ I hw) fun u s1 ⟨x, H1, I1, r1, q1⟩ => ?_
  obtain ⟨i, rfl, q⟩ := q1
  obtain ⟨t, rfl⟩ := r1
  exact ⟨some i, H1, I1, .int i t, q⟩
def SlR (X : Cx) (r : V → Option Int → Option Int → Hp → VK → Prop) : Prop :=
  ∀ (pins : List (Addr × Obj)) (s : Shared) (σ : St) (H : Hp) (x : V) (v vl vu : Value) (lo hi : Option Int) (sl : Addr) (Q : VK), Inv X pins σ H s → RelV x v → s.heap.IsSliceOf sl vl vu .none → IsPart vl lo → IsPart vu hi → r x lo hi H Q →
    ∃ T id, typeLookup (.type T) "__getitem__" = pure (some (.builtin id)) ∧ s.TypeIs v T ∧ wpAny (model X.prog X.w) X.A (getItem v (.ref sl)) (EP X pins σ Q) X.xe s
def tSl (r : V → Option Int → Option Int → Hp → VK → Prop) (te : TE) (tl th : TO) : TE := fun σ H Q => te σ H fun x H1 => tl σ H1 fun l H2 => th σ H2 fun u H3 => r x l u H3 Q
theorem pe_slice {r : V → Option Int → Option Int → Hp → VK → Prop} (hr : SlR X r) (he : PE X e te) (hl : PO X lo tl) (hu : PO X hi th) : PE X (.Subscript e (.Slice lo hi none p2) pos) (tSl r te tl th) := by
  intro pins s σ H Q I h
  refine Subscript_ (thn (he pins s σ H _ I h) fun v s1 ⟨x, H1, I1, r1, q1⟩ => ?_)
  refine wpAny_Slice (thn (hl pins s1 σ H1 _ I1 q1) fun vl s2 ⟨l, H2, I2, pl, q2⟩ => thn (hu pins s2 σ H2 _ I2 q2) fun vu s3 ⟨u, H3, I3, pu, q3⟩ => ?_)
  rw [evalPart_none]
  refine wpAny_pure ?_
  have I4 : Inv X pins σ H3 { s3 with heap := s3.heap.push { cls := .type "slice", data := .fields #[vl, vu, .none] } } := I3.kept (t' := s3.toks) fun b ob q => Heap.get?_push_of_some _ q
  obtain ⟨T, id, hT, ht, hg⟩ := hr pins { s3 with heap := s3.heap.push { cls := .type "slice", data := .fields #[vl, vu, .none] } } σ H3 x v vl vu l u s3.heap.objs.size Q I4 r1 (Heap.IsSliceOf.new ..) pl pu q3
  show wpAny (model X.prog X.w) X.A (subscriptTail e (.Slice lo hi none p2) v (.ref s3.heap.objs.size)) (EP X pins σ Q) X.xe { s3 with heap := s3.heap.push { cls := .type "slice", data := .fields #[vl, vu, .none] } }
  exact tail_any (ops := [.ref s3.heap.objs.size, v]) ht hT hg (by with_unfolding_all rfl)
def cutV (xs : List V) (lo hi : Option Int) : List V := (xs.drop (HT.sIx xs.length 0 lo)).take (HT.sIx xs.length xs.length hi - HT.sIx xs.length 0 lo)
theorem cutV_length (xs : List V) (lo hi : Option Int) : (cutV xs lo hi).length ≤ xs.length := by
  unfold cutV
  rw [List.length_take, List.length_drop]
  omega
def rSlT (K : PySem.W.Frag) : V → Option Int → Option Int → Hp → VK → Prop := fun x lo hi H Q => ∃ a xs, x = .ref a ∧ SqT K H a xs ∧
  ¬ (HT.sIx xs.length 0 lo = 0 ∧ HT.sIx xs.length xs.length hi = xs.length) ∧ ∀ p, H p = none → Q (.ref p) (upd H p (.tup (cutV xs lo hi)))
theorem sl_tup : SlR X (rSlT X.K) := by
  intro pins s σ H x v vl vu lo hi sl Q I rx hs pl pu h
  obtain ⟨a, xs, rfl, hx, hw, q⟩ := h
  cases rx
  obtain ⟨its, r, ht, hz⟩ := I.tuple hx
  have hlen : its.toArray.size = xs.length := by rw [List.size_toArray]; exact r.length.symm
  refine ⟨"tuple", _, PyProof.Rows.slot_tuple_getitem.lookup, ht.typeIs, ?_⟩
  refine HT.getItem_tuple_cut ht hs pl pu (by rw [hlen]; exact hw) ?_ (by rw [hlen]; exact hz)
  rw [hlen]
  refine ⟨.ref s.heap.objs.size, _, I.laid (t' := s.toks) (o := .tup (cutV xs lo hi)) (fun b ob q => Heap.get?_push_of_some _ q) (Nat.le_refl _) ?_, rfl, q _ (I.hok.fresh (Nat.le_refl _))⟩
  exact ⟨Nat.le_trans (cutV_length xs lo hi) hz, _, (r.drop (HT.sIx xs.length 0 lo)).take (HT.sIx xs.length xs.length hi - HT.sIx xs.length 0 lo), IsTup.new _ _⟩
theorem Vals.nil_iff {xs : List V} {us : List Value} (r : Vals xs us) : us = [] ↔ xs = [] := by
  cases r with
  | nil => simp
  | cons _ _ => simp
end
end L2
namespace L2
open PySem PySem.Spec PyProof.Rows
def ixN (n : Nat) (i : Int) : Option Nat := if 0 ≤ i then (if i < n then some i.toNat else none) else if -(n : Int) ≤ i then some (i + n).toNat else none
def atI {α : Type} (xs : List α) (i : Int) : Option α := (ixN xs.length i).bind fun j => xs[j]?
theorem ixN_seq {n : Nat} {i : Int} {j : Nat} (h : ixN n i = some j) : seqIndex? i n = some j ∧ j < n ∧ -(n : Int) ≤ i ∧ i < n := by
  unfold ixN at h
  by_cases h0 : 0 ≤ i
  · rw [if_pos h0] at h
    by_cases h1 : i < n
    · rw [if_pos h1] at h
      have e : i.toNat = j := Option.some.inj h
      exact ⟨by rw [seqIndex_of h0 h1, e], by omega, by omega, h1⟩
    · rw [if_neg h1] at h; cases h
  · rw [if_neg h0] at h
    by_cases h1 : -(n : Int) ≤ i
    · rw [if_pos h1] at h
      have e : (i + n).toNat = j := Option.some.inj h
      exact ⟨by rw [seqIndex_neg (by omega) h1, e], by omega, h1, by omega⟩
    · rw [if_neg h1] at h; cases h
theorem atI_get {α : Type} {xs : List α} {i : Int} {v : α} (h : atI xs i = some v) : ∃ j, seqIndex? i xs.length = some j ∧ xs[j]? = some v ∧ j < xs.length ∧ -(xs.length : Int) ≤ i ∧ i < xs.length := by
  unfold atI at h
  cases e : ixN xs.length i with
  | none => rw [e] at h; cases h
  | some j =>
    rw [e] at h
    obtain ⟨h1, h2, h3, h4⟩ := ixN_seq e
    exact ⟨j, h1, h, h2, h3, h4⟩
def PlainIx (b : Expr) : Prop := ∀ o i, subscripted b false o i = operate [o, i] (getItem o i)
def IxR (X : Cx) (r : R2) : Prop :=
  ∀ (value slice : Expr) (pins : List (Addr × Obj)) (s : Shared) (σ : St) (H : Hp) (x y : V) (v u : Value) (Q : VK), Inv X pins σ H s → RelV x v → RelV y u → r x y H Q →
    subscripted slice false v u = operate [v, u] (getItem v u) → wpAny (model X.prog X.w) X.A (subscriptTail value slice v u) (EP X pins σ Q) X.xe s
def MtR (X : Cx) (id : String) (r : V → List V → Hp → VK → Prop) : Prop :=
  ∀ (pins : List (Addr × Obj)) (s : Shared) (σ : St) (H : Hp) (x : V) (xs : List V) (v : Value) (us : List Value) (Q : VK), Inv X pins σ H s → RelV x v → Vals xs us → r x xs H Q →
    wpAny (model X.prog X.w) X.A (call (.builtin id) (v :: us)) (EP X pins σ Q) X.xe s
section
variable {X : Cx} {a b : Expr} {ta tb : TE} {pos : Pos}
theorem pe_ix {r : R2} (hr : IxR X r) (ha : PE X a ta) (hb : PE X b tb) (hs : PlainIx b) : PE X (.Subscript a b pos) (tOp r ta tb) := by
  intro pins s σ H Q I h
  exact Subscript_ (binT ha hb I h fun v u s2 x y H2 I2 rx ry q => hr a b pins s2 σ H2 x y v u Q I2 rx ry q (hs _ _))
def rIxL (K : PySem.W.Frag) : R2 := fun x y H Q => ∃ p xs i v, x = .ref p ∧ y = .int i ∧ SqL K H p xs ∧ atI xs i = some v ∧ Q v H
def rIxT (K : PySem.W.Frag) : R2 := fun x y H Q => ∃ p xs i v, x = .ref p ∧ y = .int i ∧ SqT K H p xs ∧ atI xs i = some v ∧ Q v H
def rIxS : R2 := fun x y H Q => ∃ z i c, x = .str z ∧ y = .int i ∧ z.length ≤ sizeLine ∧ atI z.cps.toList i = some c ∧ Q (.str ⟨#[c]⟩) H
theorem ix_list : IxR X (rIxL X.K) := by
  intro value slice pins s σ H x y v u Q I rx ry h hs
  obtain ⟨p, xs, i, z, rfl, rfl, hq, he, q⟩ := h
  cases rx
  obtain ⟨t, rfl⟩ := ry
  obtain ⟨its, r, pl, hz⟩ := I.list hq
  obtain ⟨j, h1, h2, h3, h4, h5⟩ := atI_get he
  obtain ⟨w, ew, rw'⟩ := r.get h2
  have hl := r.length
  have hn := line63
  have fin : EP X pins σ Q w s := ⟨z, H, I, rw', q⟩
  by_cases h0 : 0 ≤ i
  · have hj : i.toNat = j := by
      rw [seqIndex_of h0 h5] at h1
      exact Option.some.inj h1
    exact item_listR pl.isList h0 (by omega) (by rw [hj]; simpa using ew) fin hs
  · have hj : (i + (its.toArray.size : Int)).toNat = j := by
      rw [seqIndex_neg (by omega) h4] at h1
      rw [List.size_toArray, ← hl]
      exact Option.some.inj h1
    exact subscriptTail_builtinR (x := w) pl.isList.typeIs slot_list_getitem.lookup
      (wpAny_getItem_list_neg (Q := fun r s' => r = w ∧ EP X pins σ Q r s') pl.isList (by omega) (by rw [List.size_toArray] <;> omega) (by omega) (by rw [hj]; simpa using ew) ⟨rfl, fin⟩) hs
theorem ix_tup : IxR X (rIxT X.K) := by
  intro value slice pins s σ H x y v u Q I rx ry h hs
  obtain ⟨p, xs, i, z, rfl, rfl, hq, he, q⟩ := h
  cases rx
  obtain ⟨t, rfl⟩ := ry
  obtain ⟨its, r, pl, hz⟩ := I.tuple hq
  obtain ⟨j, h1, h2, h3, h4, h5⟩ := atI_get he
  obtain ⟨w, ew, rw'⟩ := r.get h2
  have hl := r.length
  have hn := line63
  have fin : EP X pins σ Q w s := ⟨z, H, I, rw', q⟩
  exact subscriptTail_builtinR (x := w) pl.typeIs slot_tuple_getitem.lookup
    (getItem_tuple (j := j) (Q := fun r s' => r = w ∧ EP X pins σ Q r s') pl (by omega) (by omega) (by rw [List.size_toArray, ← hl]; exact h1) (by simpa using ew) ⟨rfl, fin⟩) hs
theorem ix_str : IxR X rIxS := by
  intro value slice pins s σ H x y v u Q I rx ry h hs
  obtain ⟨z, i, c, rfl, rfl, hz, he, q⟩ := h
  obtain ⟨t, rfl⟩ := rx
  obtain ⟨t', rfl⟩ := ry
  obtain ⟨j, h1, h2, h3, h4, h5⟩ := atI_get he
  have hl : z.cps.toList.length = z.length := by simp [Str.length]
  rw [hl] at h1 h4 h5
  have hn := line63
  exact tail_any (typeIs_str s z t) slot_str_getitem.lookup (getItem_str (c := c) (by
    have e1 : decide (i < -(2 ^ 63 : Int)) = false := decide_eq_false (by omega)
    have e2 : decide (i ≥ 2 ^ 63) = false := decide_eq_false (by omega)
    rw [e1, e2, Bool.or_false]) (by rw [h1]; simpa using h2) ⟨.str ⟨#[c]⟩, H, I.tok _, ⟨_, rfl⟩, q⟩) hs
theorem slice_bounds (lo hi : Option Int) (n : Nat) : (sliceBounds lo hi none n).1 = ((HT.sIx n 0 lo : Nat) : Int) ∧ (sliceBounds lo hi none n).2.1 = ((HT.sIx n n hi : Nat) : Int) ∧ (sliceBounds lo hi none n).2.2 = 1 := by
  refine ⟨?_, ?_, rfl⟩
  · cases lo with
    | none => simp [sliceBounds, HT.sIx]
    | some i =>
      simp only [sliceBounds, HT.sIx, Option.getD_none, show (1 : Int) > 0 by decide, if_true]
      by_cases h : i < 0
      · simp only [h, if_true] <;> omega
      · simp only [h, if_false] <;> omega
  · cases hi with
    | none => simp [sliceBounds, HT.sIx]
    | some i =>
      simp only [sliceBounds, HT.sIx, Option.getD_none, show (1 : Int) > 0 by decide, if_true]
      by_cases h : i < 0
      · simp only [h, if_true] <;> omega
      · simp only [h, if_false] <;> omega
theorem slicePick_cut (its : List Value) (lo hi : Option Int) : slicePick its.toArray lo hi none = ((its.drop (HT.sIx its.length 0 lo)).take (HT.sIx its.length its.length hi - HT.sIx its.length 0 lo)).toArray := by
  obtain ⟨h1, h2, h3⟩ := slice_bounds lo hi its.toArray.size
  unfold slicePick
  rw [h1, h2, h3]
  simp only [sliceRange_one, pick_run, List.size_toArray] <;> rfl
def rSlL (K : PySem.W.Frag) : V → Option Int → Option Int → Hp → VK → Prop := fun x lo hi H Q => ∃ a xs, x = .ref a ∧ SqL K H a xs ∧ ∀ p, H p = none → Q (.ref p) (upd H p (.lst (cutV xs lo hi)))
theorem sl_list : SlR X (rSlL X.K) := by
  intro pins s σ H x v vl vu lo hi sl Q I rx hs pl pu h
  obtain ⟨a, xs, rfl, hx, q⟩ := h
  cases rx
  obtain ⟨its, r, ht, hz⟩ := I.list hx
  have hlen := r.length
  refine ⟨"list", _, slot_list_getitem.lookup, ht.isList.typeIs, ?_⟩
  refine wpAny_getItem_list_slice ht.isList hs pl pu .none (by simp) ?_ (by rw [List.size_toArray] <;> omega)
  rw [slicePick_cut, ← hlen]
  refine ⟨.ref s.heap.objs.size, _, I.laid (t' := s.toks) (o := .lst (cutV xs lo hi)) (fun b ob q => Heap.get?_push_of_some _ q) (Nat.le_refl _) ?_, rfl, q _ (I.hok.fresh (Nat.le_refl _))⟩
  exact ⟨Nat.le_trans (cutV_length xs lo hi) hz, _, 0, (r.drop (HT.sIx xs.length 0 lo)).take (HT.sIx xs.length xs.length hi - HT.sIx xs.length 0 lo), Heap.get?_push_size _ rfl⟩
theorem call_len_seq : CallR X (.builtin "len") (fun xs H Q => ∃ p ys, xs = [.ref p] ∧ (SqL X.K H p ys ∨ SqT X.K H p ys) ∧ Q (.int ys.length) H) := by
  intro pins s σ H xs us Q I r h
  obtain ⟨p, ys, rfl, hq, q⟩ := h
  obtain ⟨u, rfl, rx⟩ := vals1 r
  cases rx
  have hn := line63
  rcases hq with hq | hq
  · obtain ⟨its, r', pl, hz⟩ := I.list hq
    have hlen := r'.length
    exact Calls.call_len_list pl.isList (by simp only [List.size_toArray] <;> omega) ⟨.int ys.length, H, I.tok _, ⟨s.toks + 1, by rw [List.size_toArray, hlen]⟩, q⟩
  · obtain ⟨its, r', pl, hz⟩ := I.tuple hq
    have hlen := r'.length
    exact len_tuple pl (by simp only [List.size_toArray] <;> omega) ⟨.int ys.length, H, I.tok _, ⟨s.toks + 1, by rw [List.size_toArray, hlen]⟩, q⟩
theorem call_len_str : CallR X (.builtin "len") (fun xs H Q => ∃ z, xs = [.str z] ∧ z.length ≤ sizeLine ∧ Q (.int z.length) H) := by
  intro pins s σ H xs us Q I r h
  obtain ⟨z, rfl, hz, q⟩ := h
  obtain ⟨u, rfl, t, rfl⟩ := vals1 r
  have hn := line63
  exact len_str (by omega) ⟨.int z.length, H, I.tok _, ⟨_, rfl⟩, q⟩
theorem call_list_of : CallR X (.type "list") (fun xs H Q => ∃ p ys, xs = [.ref p] ∧ (SqL X.K H p ys ∨ SqT X.K H p ys) ∧ ∀ l, H l = none → Q (.ref l) (upd H l (.lst ys))) := by
  intro pins s σ H xs us Q I r h
  obtain ⟨p, ys, rfl, hq, q⟩ := h
  obtain ⟨u, rfl, rx⟩ := vals1 r
  cases rx
  have fin : ∀ (its : List Value), Vals ys its → ys.length ≤ sizeLine → ∀ (h' : Heap) (c' : Nat), (∀ b o', s.heap.get? b = some o' → h'.get? b = some o') →
      h'.get? s.heap.objs.size = some { cls := .type "list", dict := none, data := .seq its.toArray c', slots := #[] } → EP X pins σ Q (.ref s.heap.objs.size) { s with heap := h' } := fun its r' hz h' c' kp e =>
    ⟨.ref s.heap.objs.size, _, I.laid (t' := s.toks) kp (Nat.le_refl _) (show ObjOk X.prog X.w _ h' _ (.lst ys) from ⟨hz, its, c', r', e⟩), rfl, q _ (I.hok.fresh (Nat.le_refl _))⟩
  rcases hq with hq | hq
  · obtain ⟨its, r', pl, hz⟩ := I.list hq
    have hlen := r'.length
    obtain ⟨o, ho, hc, n, hd⟩ := pl.isList
    exact call_list_seq p (.inl rfl) ho hc hd (fun h' c' kp e => fin its r' hz h' c' kp e) (by simp only [List.size_toArray] <;> omega)
  · obtain ⟨its, r', pl, hz⟩ := I.tuple hq
    have hlen := r'.length
    obtain ⟨o, ho, hc, n, hd⟩ := pl
    exact call_list_seq p (.inr rfl) ho hc hd (fun h' c' kp e => fin its r' hz h' c' kp e) (by simp only [List.size_toArray] <;> omega)
theorem call_tuple_of : CallR X (.type "tuple") (fun xs H Q => ∃ p ys, xs = [.ref p] ∧ ((SqL X.K H p ys ∧ ∀ l, H l = none → Q (.ref l) (upd H l (.tup ys))) ∨ (SqT X.K H p ys ∧ Q (.ref p) H))) := by
  intro pins s σ H xs us Q I r h
  obtain ⟨p, ys, rfl, h⟩ := h
  obtain ⟨u, rfl, rx⟩ := vals1 r
  cases rx
  rcases h with ⟨hq, q⟩ | ⟨hq, q⟩
  · obtain ⟨its, r', pl, hz⟩ := I.list hq
    have hlen := r'.length
    refine call_tuple_list pl.isList (fun h' kp => ?_) (by simp only [List.size_toArray] <;> omega)
    have I1 : Inv X pins σ H { s with heap := h' } := I.kept (t' := s.toks) kp
    have I2 : Inv X pins σ (upd H h'.objs.size (.tup ys)) { s with heap := h'.push { cls := .type "tuple", data := .seq its.toArray } } :=
      I1.laid (t' := s.toks) (fun b o e => Heap.get?_push_of_some _ e) (Nat.le_refl _) (show ObjOk X.prog X.w _ _ _ (.tup ys) from ⟨hz, its, r', IsTup.new _ _⟩)
    exact ⟨.ref h'.objs.size, _, I2, rfl, q _ (I1.hok.fresh (Nat.le_refl _))⟩
  · obtain ⟨its, r', pl, hz⟩ := I.tuple hq
    exact call_tuple_same pl ⟨.ref p, H, I, rfl, q⟩
def tyV (K : PySem.W.Frag) (T : String) (x : V) (H : Hp) : Prop := match x with
  | .str _ => T = "str"
  | .int _ => T = "int"
  | .ref p => (T = "list" ∧ ∃ xs, SqL K H p xs) ∨ (T = "tuple" ∧ ∃ o, K.lookup p = some o ∧ o.cls = .type "tuple" ∧ o.dict = none) ∨
      (T = "dict" ∧ ((∃ kvs, H p = some (.dK kvs)) ∨ ∃ kvs, H p = some (.dT kvs))) ∨ (T = "set" ∧ ∃ S n, H p = some (.set S n))
  | _ => False
theorem tyV_is {pins : List (Addr × Obj)} {σ : St} {H : Hp} {s : Shared} {T : String} {x : V} {v : Value} (I : Inv X pins σ H s) (r : RelV x v) (ty : tyV X.K T x H) :
    s.TypeIs v T ∧ ∀ a, v = .ref a → ∃ ob, s.heap.get? a = some ob ∧ ob.dict = none := by
  cases x with
  | str z =>
    obtain ⟨t, rfl⟩ := r
    cases (show T = "str" from ty)
    exact ⟨typeIs_str s z t, fun _ e => nomatch e⟩
  | int i =>
    obtain ⟨t, rfl⟩ := r
    cases (show T = "int" from ty)
    exact ⟨typeIs_int s i t, fun _ e => nomatch e⟩
  | ref p =>
    cases r
    rcases ty with ⟨rfl, xs, hq⟩ | ⟨rfl, o, hk, hc, hd⟩ | ⟨rfl, hk⟩ | ⟨rfl, S, n, hk⟩
    · obtain ⟨its, _, pl, _⟩ := I.list hq
      refine ⟨pl.isList.typeIs, fun a e => ?_⟩
      cases e
      obtain ⟨o, n, e, c, hd, _⟩ := pl
      exact ⟨o, e, hd⟩
    · refine ⟨⟨o, I.kIn p o hk, hc⟩, fun a e => ?_⟩
      cases e
      exact ⟨o, I.kIn _ o hk, hd⟩
    · have z : ∃ o, s.heap.get? p = some o ∧ o.ExactDict := by
        rcases hk with ⟨kvs, hk⟩ | ⟨kvs, hk⟩
        · obtain ⟨_, _, _, _, o, _, _, e, ex, _⟩ := I.hok p _ hk
          exact ⟨o, e, ex⟩
        · obtain ⟨_, _, _, _, o, _, _, e, ex, _⟩ := I.hok p _ hk
          exact ⟨o, e, ex⟩
      obtain ⟨o, e, ex⟩ := z
      refine ⟨⟨o, e, ex.1⟩, fun a e2 => ?_⟩
      cases e2
      exact ⟨o, e, ex.2.1⟩
    · obtain ⟨o, _, _, _, e, ex, _⟩ := I.hok p _ hk
      refine ⟨⟨o, e, ex.1⟩, fun a e2 => ?_⟩
      cases e2
      exact ⟨o, e, ex.2.1⟩
  | _ => exact False.elim ty
def tBM (K : PySem.W.Frag) (T : String) (r : V → List V → Hp → VK → Prop) (to : TE) (t : TA) : TE := fun σ H Q => to σ H fun x H1 => tyV K T x H1 ∧ t σ H1 fun xs H2 => r x xs H2 Q
variable {o e : Expr} {es : List Expr} {to : TE} {t : TA} {name : Str} {apos cpos : Pos} {T id : String} {r : V → List V → Hp → VK → Prop}
theorem pe_bm (pa : PlainAttrs T) (slot : Slot T name id) (hty : typeOf (.builtin id) = pure (.type "method_descriptor")) (hm : MtR X id r) (ho : PE X o to) (ha : PA X (e :: es) t)
    (hbase : attributeBase o name X.env (eval o X.env) = eval o X.env := by rfl)
    (hfew : ((backTo cpos (starEach (e :: es) X.env)).all (fun x => !x.1) && (backToKw cpos (keywordEach [] X.env)).all (fun x => x.1.isSome)
      && decide ((e :: es).length + ([] : List Keyword).length + (if ([] : List Keyword).isEmpty then 0 else 1) < 30)) = true := by rfl)
    (hline : (apos.endLine == cpos.line) = true := by rfl) (hs : starEach (e :: es) X.env = (false, eval e X.env) :: starEach es X.env := by rfl) (hplain : (backTo cpos (starEach es X.env)).any (·.1) = false := by rfl) :
    PE X (.Call (.Attribute o name apos) (e :: es) [] cpos) (tBM X.K T r to t) := by
  intro pins s σ H Q I h
  refine wpAny_Call_method_late hbase hfew hline rfl (thn (ho pins s σ H _ I h) fun v s1 ⟨x, H1, I1, r1, ty, q1⟩ => ?_)
  obtain ⟨h1, h2⟩ := tyV_is I1 r1 ty
  refine ⟨T, id, pa, slot, hty, h1, h2, ?_⟩
  have hA := ha cpos pins s1 σ H1 _ I1 q1
  rw [hs] at hA ⊢
  refine Calls.callWith_builtin (by show (false || (backTo cpos (starEach es X.env)).any (·.1)) = false; rw [hplain] <;> rfl) (Calls.evalArgs_plain ?_)
  exact thn hA fun us s2 ⟨vs, H2, I2, r2, q2⟩ => hm pins s2 σ H2 x vs v us Q I2 r1 r2 q2
/- xs.append(e), list.index on a module's tuple .. are MtR facts of 06m -/
end
end L2
namespace L2
open PySem PySem.Spec PyProof.Rows
def MtM (X : Cx) (id : String) (r : V → List V → Hp → VK → Prop) : Prop :=
  ∀ (pins : List (Addr × Obj)) (s : Shared) (σ : St) (H : Hp) (x : V) (xs : List V) (v : Value) (us : List Value) (Q : VK), Inv X pins σ H s → RelV x v → Vals xs us → r x xs H Q →
    wpAny (model X.prog X.w) X.A (call (.builtin id) (v :: us)) (EP X pins σ Q) X.xe s
theorem Vals.one : ∀ {x : V} {us : List Value}, Vals [x] us → ∃ u, us = [u] ∧ RelV x u
  | _, _, .cons r .nil => ⟨_, rfl, r⟩
theorem Vals.rep {xs : List V} {us : List Value} (h : Vals xs us) : ∀ k : Nat, Vals (List.replicate k xs).flatten (List.replicate k us).flatten
  | 0 => .nil
  | k + 1 => by
    rw [List.replicate_succ, List.replicate_succ, List.flatten_cons, List.flatten_cons]
    exact Vals.append h (Vals.rep h k)
theorem foldl_rep (its : List Value) : ∀ (k : Nat) (acc : List Value),
    List.foldl (fun x1 x2 => x1 ++ x2) acc.toArray (List.replicate k its.toArray) = (acc ++ (List.replicate k its).flatten).toArray
  | 0, acc => by simp
  | k + 1, acc => by
    have e : acc.toArray ++ its.toArray = (acc ++ its).toArray := by simp
    have e2 : (acc ++ its) ++ (List.replicate k its).flatten = acc ++ (List.replicate (k + 1) its).flatten := by
      rw [List.replicate_succ, List.flatten_cons, List.append_assoc]
    rw [← e2, ← foldl_rep its k (acc ++ its), ← e, List.replicate_succ, List.foldl_cons]
section
variable {X : Cx} {pins : List (Addr × Obj)} {σ : St} {H : Hp} {s : Shared} {l b : Addr} {xs ys zs : List V}
theorem Inv.lset {its its' : List Value} {n : Nat} {f : Array Value → Array Value} {t' : Nat} (I : Inv X pins σ H s) (hH : H l = some (.lst xs))
    (e : s.heap.get? l = some { cls := .type "list", data := .seq its.toArray n }) (hf : f its.toArray = its'.toArray) (hv : Vals ys its') (hz : ys.length ≤ sizeLine) :
    Inv X pins σ (upd H l (.lst ys)) { s with heap := s.heap.update l (Obj.mapSeq f), toks := t' } := by
  have q := PySem.IsL.update e f
  rw [hf] at q
  refine I.write (x := l) (e := l) (by rw [hH]; exact trivial) (.inl rfl) (fun b' u hb hu => (Heap.get?_update_other s.heap (Obj.mapSeq f) (Ne.symm hb)).trans hu) ⟨_, q⟩ ?_
  exact ⟨hz, its', _, hv, q⟩
theorem Inv.lnew {its : List Value} {t' : Nat} (I : Inv X pins σ H s) (hv : Vals ys its) (hz : ys.length ≤ sizeLine) :
    Inv X pins σ (upd H s.heap.objs.size (.lst ys)) { s with heap := s.heap.push { cls := .type "list", data := .seq its.toArray }, toks := t' } :=
  I.laid (fun _ _ q => Heap.get?_push_of_some _ q) (Nat.le_refl _) ⟨hz, its, 0, hv, Heap.get?_push_size _ rfl⟩
theorem Inv.fresh (I : Inv X pins σ H s) : H s.heap.objs.size = none := I.hok.fresh (Nat.le_refl _)
theorem Inv.lstM (I : Inv X pins σ H s) (hH : H l = some (.lst xs)) : xs.length ≤ sizeLine ∧ ∃ (its : List Value) (n : Nat), Vals xs its ∧ xs.length = its.length ∧ s.heap.get? l = some { cls := .type "list", data := .seq its.toArray n } := by
  obtain ⟨z, its, n, r, e⟩ := I.hok l _ hH
  exact ⟨z, its, n, r, r.length, e⟩
end
section
variable {X : Cx}
def rAppend : V → List V → Hp → VK → Prop := fun x vs H Q => ∃ l xs y, x = .ref l ∧ vs = [y] ∧ H l = some (.lst xs) ∧ xs.length < sizeLine ∧ Q .non (upd H l (.lst (xs ++ [y])))
theorem mt_append : MtM X "list.append" rAppend := by
  intro pins s σ H x vs v us Q I rx rv h
  obtain ⟨l, xs, y, rfl, rfl, hH, hz, q⟩ := h
  cases rx
  obtain ⟨u, rfl, ru⟩ := rv.one
  obtain ⟨z, its, n, r, hl, e⟩ := I.lstM hH
  refine call_meets F.slot_list_append ⟨_, e, rfl⟩ F.entry_list_append (F.args_list_append_2 _ _) (PySem.list_append l its.toArray n u (by rw [List.size_toArray]; omega)) ⟨e, ?_⟩
  refine ⟨.non, _, I.lset (its' := its ++ [u]) hH e (by simp) (r.append (.cons ru .nil)) ?_, rfl, q⟩
  rw [List.length_append, List.length_singleton]
  omega
theorem len_rep {α : Type} (xs : List α) (k : Nat) : (List.replicate k xs).flatten.length = k * xs.length := by
  induction k with
  | zero => simp
  | succ k ih => rw [List.replicate_succ, List.flatten_cons, List.length_append, ih, Nat.succ_mul, Nat.add_comm]
end
section
variable {prog : Program} {w : World} {A : Around} {E : Value → Shared → Prop} {s : Shared}
end
section
variable {X : Cx}
end
end L2
namespace Att
open PySem PySem.W PySem.Calls PyProof.Rows
theorem ints_of_wellAll {P : Params} {h : Heap} : ∀ (ns : List Int) (vs : List Value), WellAll P h vs (ns.map WData.int) → IntsAre vs ns := by
  intro ns
  induction ns with
  | nil =>
    intro vs w
    rw [List.map_nil] at w
    cases w
    exact .nil
  | cons n ns ih =>
    intro vs w
    rw [List.map_cons] at w
    cases w with
    | cons a b =>
      cases a
      exact .cons _ _ (ih _ b)
theorem script_of {l : OpenLaw} {n : Nat} (hn : l.most = some n) {P : Params} {h : Heap} {args : List WData} {vals : List Value}
    (hpre : l.row.toRowW.claim.pre args = true) (hwl : WellAll P h vals args) :
    ∃ a vs ns, vals = [Value.ref a] ∧ args = [WData.list (ns.map WData.int)] ∧ h.get? a = some { cls := .type "list", data := .seq vs.toArray } ∧ IntsAre vs ns ∧ ns.length ≤ n := by
  have hsh : WShape.hasAll [] args [.list .int] = true := (pre_splitW hpre).1
  have hc : l.pre.holds [] { args := args } = true := (pre_splitW hpre).2
  obtain ⟨d, r, rfl, h1, h2⟩ := hasAllW_cons hsh
  obtain rfl := hasAllW_nil h2
  obtain ⟨xs, rfl, h3⟩ := hasW_list h1
  obtain ⟨ns, rfl⟩ := items_int h3
  have hlen : ns.length ≤ n := by
    unfold OpenLaw.pre at hc
    have h4 : (WTm.not (.lt (.lit (.int (n : Int))) (.len (.arg 0)))).holds [] { args := [.list (ns.map .int)] } = true := by
      have h4 := (holds_andW hc).1
      rw [hn] at h4
      exact h4
    have h5 := condW_of h4 (w_not (w_lt w_lit (w_len_list (w_arg rfl))))
    rw [List.length_map] at h5
    refine Nat.le_of_not_lt fun q => ?_
    have q' : (n : Int) < ((ns.length : Nat) : Int) := by omega
    first
      | (rw [decide_eq_true q'] at h5; exact absurd h5 (by decide))
      | (simp at h5; omega)
  cases hwl with
  | cons w1 w2 =>
    cases w2
    cases w1 with
    | list ho hall => exact ⟨_, _, ns, rfl, rfl, ho, ints_of_wellAll ns _ hall, hlen⟩
theorem post_true (l : OpenLaw) (args : List WData) : l.row.toRowW.claim.post args (.bool true) args = true :=
  postW_of (r := l.row.toRowW) (X := (true == true))
    (show WShape.has [] (.bool true) .bool = true by first | rfl | decide | simp [WShape.has, WShape.arms, WShape.armsAll])
    (show (WTm.eq .res (.lit (.bool true))).value [] { args := args, res := some (.bool true), after := args } = some (.bool (true == true)) from w_eq_bool (w_res rfl) w_lit) rfl
theorem attach_call {l : OpenLaw} {n : Nat} {q : Program} {loose : List Str} {XP : (Str → Option Value) → Heap → Prop} {YP : World → Heap → Prop} {d : DefRec}
    (hn : l.most = some n) (hdf : d.params.defaults = [])
    (call : ∀ (w : World) (s₀ s₁ : Shared) (mg mb : Str → Option Value) (fa : Addr) (o : Obj) (pm cd doc : Value) (a : Addr) (vs : List Value) (ns : List Int),
      Ground q loose [] XP w s₀ mg mb s₁.heap → YP w s₁.heap →
      s₁.heap.get? fa = some o → o.data = .func (docDef d.name d.params d.body d.scope pm cd doc) → s₁.heap.CodeRec cd d.name → mg d.name = some (.ref fa) →
      s₁.heap.get? a = some { cls := .type "list", data := .seq vs.toArray } → IntsAre vs ns → ns.length ≤ n → s₁.gens = #[] →
      codeAny (model l.prog w) callerA (.call (.ref fa) ⟨[.ref a], []⟩) (fun r s' => r = .ok (.ret (.bool true)) ∧ OldK s₁.heap s'.heap ∧ s'.os = s₁.os ∧ AllBare s'.gens) s₁) :
    WalkO q loose XP YP l.row.toRowW d [] (fun f vs => PySem.call f vs) := by
  intro w s₀ s₁ mg mb G Y fa o pm cd doc dV kV ho hd hcd hD hmg hg args vals as hpre hlay hrd hwl hlo
  obtain rfl : dV = .none := Dflts.none hD hdf
  obtain rfl : kV = .none := Dflts.noKw hD
  obtain ⟨a, vs, ns, rfl, rfl, hobj, hints, hlen⟩ := script_of hn hpre hwl
  refine enter_call (codeAny_mono (call w s₀ s₁ mg mb fa o pm cd doc a vs ns G Y ho (fd_plain hd) hcd hmg hobj hints hlen hg) fun r s' hq => ?_)
  obtain ⟨rfl, h2, h3, h4⟩ := hq
  exact ⟨.inl ⟨.bool true, .bool true, [], rfl, fun _ => rfl, .bool true, post_true l _, fun _ => ⟨List.Pairwise.nil, fun _ hm => (nomatch hm)⟩⟩, h2, h3, h4⟩
section
variable {prog : Program} {w : World} {A : Around} {E : Value → Shared → Prop} {s : Shared} {K : Frag}
end
end Att
namespace L2
open PySem PySem.Spec PyProof.Rows
theorem vals_ints : ∀ {vs : List Value} {ns : List Int}, IntsAre vs ns → Vals (ns.map V.int) vs
  | _, _, .nil => .nil
  | _, _, .cons n t h => .cons ⟨t, rfl⟩ (vals_ints h)
def Only (H : Hp) : Prop := ∀ b, H b = none ∨ ∃ o xs, H b = some (.frz o (.lst xs))
theorem law_call {P : Program} {w : World} {K : PySem.W.Frag} {mg mb : Str → Option Value} {CX : CXT} {k : Nat} {fa a : Addr} {fd : FuncData} {x : Str} {sp : Sp} {s₁ : Shared} {vs : List Value} {ns : List Int}
    (KX : K.In s₁.heap) (hns : s₁.heap.Ns mainGlobals mg) (hb : s₁.heap.Ns builtinsNs mb) (hbb : ∀ x : Str, x ≠ "__name__" → mb x = bootBuiltins x) (hlim : s₁.heap.NoLimit) (hg : s₁.gens = #[])
    (ha : s₁.heap.get? a = some { cls := .type "list", data := .seq vs.toArray }) (hi : IntsAre vs ns) (hl : ns.length ≤ sizeLine) (hr : Room k callerA)
    (F : ∀ base : Heap, K.In base → base.Ns mainGlobals mg → FnOk P w K mg base CX k fa fd [x] sp) (hbind : ∀ (s : Shared) (u : Value), BindsTo s fd ⟨[u], []⟩ [(x, u)])
    (hsp : ∀ H : Hp, Only H → SqL K H a (ns.map V.int) → sp [.ref a] H (fun v _ => v = .bl true) fun _ _ _ => False)
    (hCX : ∀ H e s', CX [] H s₁ (fun _ _ _ => False) e s' → False) :
    codeAny (model P w) callerA (.call (.ref fa) ⟨[.ref a], []⟩) (fun r s' => r = .ok (.ret (.bool true)) ∧ OldK s₁.heap s'.heap ∧ s'.os = s₁.os ∧ AllBare s'.gens) s₁ := by
  have rv := vals_ints hi
  have lenV := hi.length
  -- from an abstract heap in which nothing but the script may be tracked
  have core : ∀ H : Hp, Only H → SqL K H a (ns.map V.int) → HOk P w H s₁.heap → (∀ b, H b ≠ none → b = a) → (H a ≠ none → K.lookup a = none) →
      codeAny (model P w) callerA (.call (.ref fa) ⟨[.ref a], []⟩) (fun r s' => r = .ok (.ret (.bool true)) ∧ OldK s₁.heap s'.heap ∧ s'.os = s₁.os ∧ AllBare s'.gens) s₁ := by
    intro H hO hS hok hA hK
    have base_of : ∀ {b : Addr} {o : Obj}, s₁.heap.get? b = some o → H b = none → (hidT s₁.heap H).get? b = some o := fun e n => hidT_get e n
    have noA : ∀ {b : Addr} {o : Obj} {es : Array DictEntry} {ep : Nat}, s₁.heap.get? b = some o → o.data = .dict es ep → H b = none := fun {b o es ep} e d => by
      cases q : H b with
      | none => rfl
      | some u =>
        have e' : b = a := hA b (by rw [q]; simp)
        subst e'
        rw [ha] at e; cases e
        have d' : Data.seq vs.toArray _ = Data.dict es ep := d
        cases d'
    have nsK : ∀ {b : Addr} {m : Str → Option Value}, s₁.heap.Ns b m → (hidT s₁.heap H).Ns b m := fun {b m} ⟨o, es, ep, e, d, r⟩ => ⟨o, es, ep, base_of e (noA e d), d, r⟩
    have hKb : K.In (hidT s₁.heap H) := fun b o e => base_of (KX b o e) (by
      cases q : H b with
      | none => rfl
      | some u =>
        have e' : b = a := hA b (by rw [q]; simp)
        subst e'
        rw [hK (by rw [q]; simp)] at e; cases e)
    have hM : Mod K mg (hidT s₁.heap H) := ⟨hKb, nsK hns, ⟨mb, nsK hb, hbb⟩, let ⟨mc, h1, h2⟩ := hlim; ⟨mc, nsK h1, h2⟩⟩
    have e0 : Env0 P w K mg (hidT s₁.heap H) callerA [] s₁ H := ⟨rfl, hM, fun b o e => of_hidT e, Nat.le_of_eq (hidT_size _ _), trivial, fun b hb => absurd (show b ∈ ([] : List Addr) from hb) (by simp), hok, .of_eq hg⟩
    refine codeAny_mono ((F _ hKb (nsK hns)).run callerA [] s₁ H ⟨[.ref a], []⟩ [.ref a] [.ref a] _ _ hr e0 (hbind s₁ (.ref a)) (.cons rfl .nil) (hsp H hO hS)) fun r s' h => ?_
    cases r with
    | error e => exact (hCX H e s' h).elim
    | ok fl =>
      cases fl with
      | next => exact False.elim h
      | brk => exact False.elim h
      | cont => exact False.elim h
      | ret u =>
        obtain ⟨v, H', os, bare, un, hok', r', q⟩ := h
        have q' : v = .bl true := q
        subst q'
        obtain rfl : u = Value.bool true := r'
        refine ⟨rfl, OldK.of_keep fun b o e => ?_, os, bare⟩
        cases q : H b with
        | none => exact un.keep b o e q (by intro z; exact absurd (show b ∈ ([] : List Addr) from z) (by simp)) (by simp)
        | some u =>
          rcases hO b with z | ⟨ob, xs, z⟩
          · rw [q] at z; cases z
          · have z2 := un.frzs b ob _ z
            obtain ⟨e1, _⟩ := hok b _ z
            obtain ⟨e2, _⟩ := hok' b _ z2
            rw [e] at e1; cases e1
            exact e2
  cases hk : K.lookup a with
  | some o =>
    -- the script is one of the module's own objects
    have e := KX a o hk
    rw [ha] at e
    cases e
    refine core (fun _ => none) (fun _ => .inl rfl) (.inr ⟨_, vs.toArray, _, hk, rfl, rfl, rfl, by rw [List.size_toArray, lenV]; exact hl, by simpa using rv⟩) (fun b u z => by have z' : (none : Option HO) = some u := z; cases z') (fun b z => absurd rfl z) fun z => absurd rfl z
  | none =>
    refine core (fun b => if b = a then some (.frz { cls := .type "list", data := .seq vs.toArray } (.lst (ns.map V.int))) else none) (fun b => ?_) (.inl (.inr ⟨{ cls := .type "list", data := .seq vs.toArray }, if_pos rfl⟩)) (fun b u z => ?_) (fun b z => ?_) fun _ => hk
    · by_cases hb : b = a
      · exact .inr ⟨_, _, if_pos hb⟩
      · exact .inl (if_neg hb)
    · by_cases hb : b = a
      · have z' := (if_pos hb).symm.trans z
        cases z'
        subst hb
        exact ⟨ha, by rw [List.length_map]; exact hl, vs, _, rv, ha⟩
      · have z' := (if_neg hb).symm.trans z
        cases z'
    · by_cases hb : b = a
      · exact hb
      · exact absurd (if_neg hb) z
end L2
namespace L2
open PySem PySem.Spec PyProof.Rows
theorem walk_of {l : PySem.W.OpenLaw} {n k : Nat} {q : Program} {loose : List Str} {XP : (Str → Option Value) → Heap → Prop} {YP : World → Heap → Prop} {d : DefRec} {K : Params → PySem.W.Frag} {CX : World → CXT} {sp : World → Sp} {x : Str}
    (hn : l.most = some n) (hn2 : n ≤ sizeLine) (hdf : d.params.defaults = []) (hr : Room k callerA)
    (hY : ∀ (w : World) (h : Heap), YP w h → (K w.params).In h)
    (F : ∀ (w : World) (mg : Str → Option Value) (fa : Addr) (h : Heap), (K w.params).In h → h.Ns mainGlobals mg → mg d.name = some (.ref fa) →
      ∃ fd : FuncData, (∀ (s : Shared) (u : Value), BindsTo s fd ⟨[u], []⟩ [(x, u)]) ∧
        ∀ base : Heap, (K w.params).In base → base.Ns mainGlobals mg → FnOk l.prog w (K w.params) mg base (CX w) k fa fd [x] (sp w))
    (hsp : ∀ (w : World) (H : Hp) (a : Addr) (ns : List Int), ns.length ≤ n → Only H → SqL (K w.params) H a (ns.map V.int) → sp w [.ref a] H (fun v _ => v = .bl true) fun _ _ _ => False)
    (hCX : ∀ (w : World) (H : Hp) (s : Shared) (e : Value) (s' : Shared), CX w [] H s (fun _ _ _ => False) e s' → False) :
    PySem.W.WalkO q loose XP YP l.row.toRowW d [] (fun f vs => PySem.call f vs) := by
  refine Att.attach_call hn hdf fun w s₀ s₁ mg mb fa o pm cd doc a vs ns G Y ho hd hcd hmg hobj hints hlen hg => ?_
  have KX := hY w _ Y
  obtain ⟨fd, hb, hF⟩ := F w mg fa _ KX G.T.g hmg
  exact law_call KX G.T.g G.T.b G.T.builtins G.T.nolimit hg hobj hints (Nat.le_trans hlen hn2) hr hF hb (fun H hO hS => hsp w H a ns hlen hO hS) fun H e s' => hCX w H s₁ e s'
end L2
/- THE LAST THEOREM (shape; LID, My.* are yours):
   My.Adr: a structure of the addresses that your layer names (classes, functions); My.Txt K t: a structure (Prop) of the equations over K;
   My.txt_mk : {K} {implicit addresses ..} (e1 : nsIn K mainGlobals "law" = some (some (.ref f))) (e2 : K.lookup f = some ⟨oc, od, .func (fnOf "law" "law" params body scope dV kV doc pm an cdv ct), sl⟩) (e3 : codeIn K cdv "law" = true) .. : ∃ t, My.Txt K t
set_option maxRecDepth 100000 in
set_option maxHeartbeats 0 in
theorem PySem.Challenge.cw_LID_holds : PySem.Challenge.rw_LID.Holds := by
  w_on; o_law; k_head; (case hw => w_witness2)
  k_fill
  refine L2.walk_of (l := PySem.Challenge.rw_LID) (n := 63) (k := 40) (x := "script") (CX := fun w => ..) (sp := fun _ => My.sp_law) rfl (by decide) rfl ⟨rfl, by decide, by decide⟩ (fun w h Y => PySem.W.kIn_of Y) ?F ?S ?C
  case F =>
    intro w mg fa h KX G hmg
    have T : ∃ t, My.Txt (L2.KOf KX) t := by
      dsimp only [L2.KOf]                          -- K must stand as «<heap const> w.params» for k_is
      refine' My.txt_mk ?e1 ?e2 ?e3 ..
      (case e1 => PySem.W.k_is)                    -- in the order: a name -> its address -> its object -> its parts
      (case e2 => PySem.W.k_is)
      ..
    obtain ⟨t, T⟩ := T
    have e0 := hmg.symm.trans (PySem.W.mg_of KX G T.law)
    cases e0                                       -- fa is the law's own address
    exact ⟨_, fun s u => .of_eq rfl, fun base kb nb => My.law_fn T kb nb⟩     -- if «.of_eq rfl» comes too early: refine' ⟨_, ?b, fun base kb nb => My.law_fn T kb nb⟩; exact fun s u => .of_eq rfl
  case S => exact fun w H a ns hl hO hS => ..
  case C => exact ..
(the tactic k_is has no namespace: write k_is) -/
namespace L2
open PySem PySem.Spec PyProof.Rows
def defArgs (s : Stmt) : Arguments := match s with
  | .FunctionDef _ a _ _ _ _ _ _ _ _ => a
  | _ => { posonlyargs := [], args := [], vararg := none, kwonlyargs := [], kw_defaults := [], kwarg := none, defaults := [] }
def defBody (s : Stmt) : List Stmt := match s with
  | .FunctionDef _ _ b _ _ _ _ _ _ _ => b
  | _ => []
def defScope (s : Stmt) : Scope := match s with
  | .FunctionDef _ _ _ _ _ _ sc _ _ _ => sc
  | _ => { kind := .function, names := [], isGenerator := false, isCoroutine := false }
abbrev CX0 : CXT := fun _ _ _ _ _ _ => False
abbrev E0 : XK := fun _ _ _ => False
structure Fun (K : PySem.W.Frag) (x qual : Str) (st : Stmt) (f : Addr) (fd : FuncData) : Prop where
  ex : ∃ (oc : Value) (od : Option Addr) (kV doc pm : Value) (an : Option Addr) (cdv ct : Value) (osl : Array (Option Value)),
    fd = PySem.W.fnOf x qual (defArgs st) (defBody st) (defScope st) .none kV doc pm an cdv ct ∧ K.lookup f = some ⟨oc, od, .func fd, osl⟩ ∧ PySem.W.codeIn K cdv qual = true
  kp : PySem.W.keepIn K (.ref f) = true
section
variable {P : Program} {w : World} {K : PySem.W.Frag} {mg : Str → Option Value} {base : Heap}
theorem Fun.binds {x qual : Str} {st : Stmt} {f : Addr} {fd : FuncData} {ps : List Str} (F : Fun K x qual st f fd)
    (h : ∀ (kV doc pm : Value) (an : Option Addr) (cdv ct : Value) (us : List Value), us.length = ps.length → bindArgs (PySem.W.fnOf x qual (defArgs st) (defBody st) (defScope st) .none kV doc pm an cdv ct) ⟨us, []⟩ = pure (ps.zip us)) : Binds K fd ps [] := by
  obtain ⟨oc, od, kV, doc, pm, an, cdv, ct, osl, rfl, lk, hcd⟩ := F.ex
  exact .all (h kV doc pm an cdv ct)
theorem fun_mk {x qual : Str} {st : Stmt} {f : Addr} {oc : Value} {od an : Option Addr} {osl : Array (Option Value)} {kV doc pm cdv ct : Value} (l : K.lookup f = some ⟨oc, od, .func (PySem.W.fnOf x qual (defArgs st) (defBody st) (defScope st) .none kV doc pm an cdv ct), osl⟩)
    (c : PySem.W.codeIn K cdv qual = true) (k : PySem.W.keepIn K (.ref f) = true) : Fun K x qual st f (PySem.W.fnOf x qual (defArgs st) (defBody st) (defScope st) .none kV doc pm an cdv ct) := ⟨⟨oc, od, kV, doc, pm, an, cdv, ct, osl, rfl, l, c⟩, k⟩
end
section
variable {X : Cx}
end
end L2
namespace MP
open PySem
inductive D where
  | non | bl (b : Bool) | int (i : Int) | str (s : List Nat)
  | tup (xs : List D) | lst (xs : List D) | ref (n : Nat) | fn (f : Str) | exn (c : Nat)
  deriving Inhabited
inductive O where
  | lst (xs : List D)
  | dct (kvs : List (D × D))
  | ins (c : Nat) (fs : List (Nat × D))
noncomputable abbrev AH := List O
noncomputable abbrev Ev := List (Option D)
inductive Out where
  | ok (d : D) (h : AH)
  | exc (c : Nat) (h : AH)
  | bad
noncomputable abbrev Den := List D → AH → Out
noncomputable abbrev SZ : Nat := 16777216
noncomputable def vw (h : AH) : D → D
  | .ref n => match h[n]? with
    | some (.lst xs) => .lst xs
    | _ => .ref n
  | d => d
noncomputable def pureN : Nat → D → Bool
  | _, .non => true
  | _, .bl _ => true
  | _, .int _ => true
  | _, .str s => s.all fun c => decide (c < 1114112)
  | n + 1, .tup xs => xs.all (pureN n)
  | n + 1, .lst xs => xs.all (pureN n)
  | _, _ => false
noncomputable abbrev pureD (d : D) : Bool := pureN 16 d
noncomputable abbrev pureDs (ds : List D) : Bool := ds.all (pureN 16)
noncomputable def b2z (b : Bool) : Int := if b then 1 else 0
mutual
noncomputable def eqD : D → D → Bool
  | .non, .non => true
  | .bl a, .bl b => a == b
  | .bl a, .int b => b2z a == b
  | .int a, .bl b => a == b2z b
  | .int a, .int b => a == b
  | .str a, .str b => a == b
  | .tup a, .tup b => eqDs a b
  | .lst a, .lst b => eqDs a b
  | _, _ => false
noncomputable def eqDs : List D → List D → Bool
  | [], [] => true
  | a :: as, b :: bs => eqD a b && eqDs as bs
  | _, _ => false
end
noncomputable def inD (x : D) (ys : List D) : Bool := ys.any fun y => eqD y x
noncomputable def flatD : D → Bool
  | .non => true | .bl _ => true | .int _ => true | .str _ => true
  | _ => false
noncomputable def tru (h : AH) (d : D) : Option Bool :=
  match vw h d with
  | .non => some false
  | .bl b => some b
  | .int i => some (i != 0)
  | .str s => if s.length ≤ SZ then some (!s.isEmpty) else none
  | .tup xs => some (!xs.isEmpty)
  | .lst xs => some (!xs.isEmpty)
  | _ => none
noncomputable def mulOk (a b : Int) : Bool := decide (a.natAbs < 2 ^ 64) || decide (b.natAbs < 2 ^ 64) || (decide (a.natAbs < 2 ^ 4096) && decide (b.natAbs < 2 ^ 4096))
noncomputable def rep {α : Type} (k : Nat) (xs : List α) : List α := (List.replicate k xs).flatten
noncomputable def binD : Operator → D → D → Option D
  | .Add, .int a, .int b => some (.int (a + b))
  | .Sub, .int a, .int b => some (.int (a - b))
  | .Mult, .int a, .int b => if mulOk a b then some (.int (a * b)) else none
  | .FloorDiv, .int a, .int b => if 0 < b ∧ b < 2 ^ 100 then some (.int (a / b)) else none
  | .Mod, .int a, .int b => if 0 < b then some (.int (a % b)) else none
  | .Pow, .int a, .int b => if 0 ≤ b ∧ b ≤ 1000000 ∧ a.natAbs < 2 ^ 64 then some (.int (a ^ b.toNat)) else none
  | .LShift, .int a, .int b => if 0 ≤ b ∧ b ≤ 1000000 ∧ a.natAbs < 2 ^ 64 then some (.int (a * 2 ^ b.toNat)) else none
  | .Add, .str a, .str b => if a.length + b.length ≤ SZ then some (.str (a ++ b)) else none
  | .Add, .tup a, .tup b => if a.length + b.length ≤ SZ then some (.tup (a ++ b)) else none
  | .Add, .lst a, .lst b => if a.length + b.length ≤ SZ then some (.lst (a ++ b)) else none
  | .Mult, .str a, .int k => if 2 ≤ k ∧ (!a.isEmpty) = true ∧ a.length * k.toNat ≤ SZ then some (.str (rep k.toNat a)) else none
  | .Mult, .tup a, .int k => if 2 ≤ k ∧ (!a.isEmpty) = true ∧ a.length * k.toNat ≤ SZ then some (.tup (rep k.toNat a)) else none
  | _, _, _ => none
noncomputable def isNon : D → Bool
  | .non => true
  | _ => false
noncomputable def cmpD : CmpOp → D → D → Option Bool
  | .Eq, a, b => if pureD a && pureD b then some (eqD a b) else none
  | .NotEq, a, b => if pureD a && pureD b then some (!eqD a b) else none
  | .Lt, .int a, .int b => some (decide (a < b))
  | .LtE, .int a, .int b => some (decide (a ≤ b))
  | .Gt, .int a, .int b => some (decide (b < a))
  | .GtE, .int a, .int b => some (decide (b ≤ a))
  | .Is, a, .non => some (isNon a)
  | .IsNot, a, .non => some (!isNon a)
  | .In, x, .lst ys => if pureD x && pureDs ys then some (inD x ys) else none
  | .In, x, .tup ys => if pureD x && pureDs ys then some (inD x ys) else none
  | .NotIn, x, .lst ys => if pureD x && pureDs ys then some (!inD x ys) else none
  | .NotIn, x, .tup ys => if pureD x && pureDs ys then some (!inD x ys) else none
  | _, _, _ => none
noncomputable def ixN (n : Nat) (i : Int) : Option Nat := if 0 ≤ i then (if i < n then some i.toNat else none) else if -(n : Int) ≤ i then some (i + n).toNat else none
noncomputable def atI {α : Type} (xs : List α) (i : Int) : Option α := (ixN xs.length i).bind fun j => xs[j]?
noncomputable def idxD : D → D → Option D
  | .lst xs, .int i => atI xs i
  | .tup xs, .int i => atI xs i
  | .str s, .int i => if s.length ≤ SZ then (atI s i).map fun c => .str [c] else none
  | _, _ => none
noncomputable def sIx (n d : Nat) : Option Int → Nat
  | none => d
  | some v => if v < 0 then (v + (n : Int)).toNat else min v.toNat n
noncomputable def cut {α : Type} (xs : List α) (lo hi : Option Int) : List α := (xs.drop (sIx xs.length 0 lo)).take (sIx xs.length xs.length hi - sIx xs.length 0 lo)
noncomputable def slD : D → Option Int → Option Int → Option D
  | .lst xs, lo, hi => some (.lst (cut xs lo hi))
  | .tup xs, lo, hi => some (.tup (cut xs lo hi))
  | .str s, lo, hi => if s.length ≤ SZ then some (.str (cut s lo hi)) else none
  | _, _, _ => none
inductive Bl where
  | len | min2 | max2 | minS | maxS | sum | sorted | list | tuple | int | all | sortedSet | range
  deriving DecidableEq
inductive Mt where
  | join | startswith | index
  deriving DecidableEq
inductive Ty where
  | bool | tuple | list | int | str | valueError | own (c : Nat)
  deriving DecidableEq
mutual
inductive PX where
  | var (i : Nat)
  | con (d : D)
  | bin (op : Operator) (a b : PX)
  | neg (a : PX)
  | cmp (op : CmpOp) (a b : PX)
  | cmp2 (op op' : CmpOp) (a b c : PX)
  | and (a b : PX) | or (a b : PX) | not (a : PX)
  | ite (c : PB) (a b : PX)
  | tup (xs : List PX) | lst (xs : List PX) | new (xs : List PX)
  | idx (a b : PX)
  | sl (a : PX) (lo hi : Option PX)
  | call (f : Nat) (xs : List PX)
  | callV (a : Nat) (fs : List Str) (xs : List PX)
  | blt (b : Bl) (xs : List PX)
  | mt (m : Mt) (o : PX) (xs : List PX)
  | app (o : PX) (a : PX)
  | isi (a : PX) (t : Ty)
  | fst (xs : List PX)
  | comp (elt : PX) (cond : Option PB) (src : PI) (keep : List Nat)
inductive PB where
  | val (p : PX) | not (b : PB) | and (a b : PB) | or (a b : PB)
inductive PI where
  | seq (e : PX)
  | rng (e : PX)
end
inductive PTg where
  | nm (i : Nat) | tp (is : List Nat)
inductive PSt where
  | ret (e : PX) | retN
  | asg (t : PTg) (e : PX)
  | aug (i : Nat) (op : Operator) (e : PX)
  | ex (e : PX)
  | ifs (c : PB) (a b : List PSt)
  | forS (t : PTg) (it : PI) (b : List PSt)
  | brk | cnt | pas
  | rai (c : Nat) (xs : List PX)
  | tryW (b : List PSt) (ws : List (Nat × D))
noncomputable def ltInt : D → Option Int
  | .int i => some i
  | _ => none
noncomputable def ints? : List D → Option (List Int)
  | [] => some []
  | .int i :: r => (ints? r).map (i :: ·)
  | _ => none
noncomputable def strs? : List D → Option (List (List Nat))
  | [] => some []
  | .str i :: r => (strs? r).map (i :: ·)
  | _ => none
noncomputable def bools? : List D → Option (List Bool)
  | [] => some []
  | .bl i :: r => (bools? r).map (i :: ·)
  | _ => none
noncomputable def seq? : D → Option (List D)
  | .lst xs => some xs
  | .tup xs => some xs
  | _ => none
noncomputable def bestI (lt : Int → Int → Bool) : List Int → Int
  | [] => 0
  | x :: xs => xs.foldl (fun a b => if lt b a = true then b else a) x
noncomputable def dedI (l : List Int) : List Int := l.foldl (fun a k => if a.any (· == k) then a else a ++ [k]) []
noncomputable def bltD : Bl → List D → Option D
  | .len, [.str s] => if s.length ≤ SZ then some (.int s.length) else none
  | .len, [.lst s] => some (.int s.length)
  | .len, [.tup s] => some (.int s.length)
  | .min2, [.int a, .int b] => some (.int (if b < a then b else a))
  | .max2, [.int a, .int b] => some (.int (if b > a then b else a))
  | .list, [.lst s] => some (.lst s)
  | .list, [.tup s] => some (.lst s)
  | .tuple, [.lst s] => some (.tup s)
  | .tuple, [.tup s] => some (.tup s)
  | .int, [.int i] => some (.int i)
  | .int, [.bl i] => some (.int (b2z i))
  | .all, [.lst xs] => (bools? xs).bind fun l => some (.bl (l.all id))
  | .minS, [.tup xs] => (ints? xs).bind fun l => if 0 < l.length then some (.int (bestI (fun a b => decide (a < b)) l)) else none
  | .maxS, [.tup xs] => (ints? xs).bind fun l => if 0 < l.length then some (.int (bestI (fun a b => decide (a > b)) l)) else none
  | .sortedSet, [.lst xs] => (ints? xs).bind fun l => if l.length < 64 then some (.lst (((dedI l).mergeSort fun a b => decide (a ≤ b)).map .int)) else none
  | .sorted, [.lst xs] => (ints? xs).bind fun l => if l.length < 64 then some (.lst ((l.mergeSort fun a b => decide (a ≤ b)).map .int)) else none
  | _, _ => none
noncomputable def joinD (sep : List Nat) : List (List Nat) → List Nat
  | [] => []
  | [x] => x
  | x :: y :: r => x ++ sep ++ joinD sep (y :: r)
noncomputable def mtD : Mt → D → List D → Option D
  | .join, .str s, [.lst xs] => (strs? xs).bind fun l => if (l.map List.length).sum + l.length * s.length ≤ SZ then some (.str (joinD s l)) else none
  | .startswith, .str s, [.str p] => some (.bl (p.isPrefixOf s))
  | _, _, _ => none
noncomputable def isiD : D → Ty → Option Bool
  | .bl _, .bool => some true
  | .int _, .bool => some false | .str _, .bool => some false | .non, .bool => some false | .tup _, .bool => some false | .lst _, .bool => some false
  | .tup _, .tuple => some true
  | .int _, .tuple => some false | .str _, .tuple => some false | .non, .tuple => some false | .bl _, .tuple => some false | .lst _, .tuple => some false
  | .lst _, .list => some true
  | .int _, .list => some false | .str _, .list => some false | .non, .list => some false | .bl _, .list => some false | .tup _, .list => some false
  | _, _ => none
noncomputable def fmtD : D → Option (List Nat)
  | .str s => if s.length ≤ SZ then some s else none
  | .int i => if i.natAbs.log2 < 1920 then some (Str.ofString (toString i)).cps.toList else none
  | _ => none
noncomputable def fmtDs : List D → Option (List Nat)
  | [] => some []
  | d :: ds => match fmtD d, fmtDs ds with
    | some x, some y => some (x ++ y)
    | _, _ => none
noncomputable abbrev Res := Option (D × AH)
noncomputable abbrev Bnd {α β : Type} (x : Option (α × AH)) (f : α → AH → Option (β × AH)) : Option (β × AH) := x.bind fun p => f p.1 p.2
noncomputable def putO (o : Option D) (r : List D) : List D := match o with
  | some x => x :: r
  | none => r
noncomputable def compL (f : D → AH → Option (Option D × AH)) : List D → AH → Option (List D × AH)
  | [], h => some ([], h)
  | d :: ds, h => (f d h).bind fun p => (compL f ds p.2).bind fun q => some (putO p.1 q.1, q.2)
noncomputable def itD (h : AH) (d : D) : Option (List D) := match d with
  | .lst xs => some xs
  | .tup xs => some xs
  | .str s => some (s.map fun c => .str [c])
  | _ => none
noncomputable def rngD : D → Option (List D)
  | .int n => if -(2 ^ 62) ≤ n ∧ n < 2 ^ 62 then some ((List.range n.toNat).map fun i => .int (i : Nat)) else none
  | _ => none
noncomputable def getV (ρ : Ev) (i : Nat) : Option D := (ρ[i]?).bind id
mutual
noncomputable def ev (G : List Den) : PX → Ev → AH → Option (D × AH)
  | .var i, ρ, h => (getV ρ i).bind fun d => some (d, h)
  | .con d, _, h => some (d, h)
  | .bin op a b, ρ, h => (ev G a ρ h).bind fun p => (ev G b ρ p.2).bind fun q => (binD op (vw q.2 p.1) (vw q.2 q.1)).bind fun d => some (d, q.2)
  | .neg a, ρ, h => (ev G a ρ h).bind fun p => match p.1 with | .int i => some (.int (-i), p.2) | _ => none
  | .cmp op a b, ρ, h => (ev G a ρ h).bind fun p => (ev G b ρ p.2).bind fun q => (cmpD op (vw q.2 p.1) (vw q.2 q.1)).bind fun d => some (.bl d, q.2)
  | .cmp2 op op' a b c, ρ, h => (ev G a ρ h).bind fun p => (ev G b ρ p.2).bind fun q => (cmpD op (vw q.2 p.1) (vw q.2 q.1)).bind fun k =>
      if k = true then (ev G c ρ q.2).bind fun r => (cmpD op' (vw r.2 q.1) (vw r.2 r.1)).bind fun d => some (.bl d, r.2) else some (.bl false, q.2)
  | .and a b, ρ, h => (ev G a ρ h).bind fun p => match p.1 with
    | .bl k => if k = true then ev G b ρ p.2 else some (.bl false, p.2)
    | _ => none
  | .or a b, ρ, h => (ev G a ρ h).bind fun p => match p.1 with
    | .bl k => if k = true then some (.bl true, p.2) else ev G b ρ p.2
    | _ => none
  | .not a, ρ, h => (ev G a ρ h).bind fun p => match p.1 with
    | .bl k => some (.bl (!k), p.2)
    | _ => none
  | .ite c a b, ρ, h => (evB G c ρ h).bind fun p => if p.1 = true then ev G a ρ p.2 else ev G b ρ p.2
  | .tup xs, ρ, h => (evs G xs ρ h).bind fun p => if p.1.length ≤ SZ then some (.tup p.1, p.2) else none
  | .lst xs, ρ, h => (evs G xs ρ h).bind fun p => if p.1.length ≤ SZ then some (.lst p.1, p.2) else none
  | .new xs, ρ, h => (evs G xs ρ h).bind fun p => if p.1.length ≤ SZ then some (.ref p.2.length, p.2 ++ [.lst p.1]) else none
  | .idx a b, ρ, h => (ev G a ρ h).bind fun p => (ev G b ρ p.2).bind fun q => (idxD (vw q.2 p.1) q.1).bind fun d => some (d, q.2)
  | .sl a lo hi, ρ, h => (ev G a ρ h).bind fun p => (evo G lo ρ p.2).bind fun q => (evo G hi ρ q.2).bind fun r => (slD (vw r.2 p.1) q.1 r.1).bind fun d => some (d, r.2)
  | .call f xs, ρ, h => (evs G xs ρ h).bind fun p => (G[f]?).bind fun φ => match φ p.1 p.2 with | .ok d h' => some (d, h') | _ => none
  | .callV i fs xs, ρ, h => none
  | .blt b xs, ρ, h => (evs G xs ρ h).bind fun p => (bltD b (p.1.map (vw p.2))).bind fun d => some (d, p.2)
  | .mt m o xs, ρ, h => (ev G o ρ h).bind fun p => (evs G xs ρ p.2).bind fun q => (mtD m p.1 (q.1.map (vw q.2))).bind fun d => some (d, q.2)
  | .app o a, ρ, h => (ev G o ρ h).bind fun p => match p.1 with
    | .ref n => (match p.2[n]? with
      | some (.lst _) => (ev G a ρ p.2).bind fun q => (match q.2[n]? with
        | some (.lst xs) => if xs.length < SZ then some (.non, q.2.set n (.lst (xs ++ [q.1]))) else none
        | _ => none)
      | _ => none)
    | _ => none
  | .fst xs, ρ, h => (evs G xs ρ h).bind fun p => (fmtDs p.1).bind fun t => if t.length ≤ SZ then some (.str t, p.2) else none
  | .isi a t, ρ, h => (ev G a ρ h).bind fun p => (isiD (vw p.2 p.1) t).bind fun k => some (.bl k, p.2)
  | .comp elt cond src keep, ρ, h => (evI G src ρ h).bind fun p =>
      (compL (fun d h => match cond with
        | none => (ev G elt (some d :: keep.map (getV ρ)) h).bind fun q => some (some q.1, q.2)
        | some c => (evB G c (some d :: keep.map (getV ρ)) h).bind fun q =>
            if q.1 = true then (ev G elt (some d :: keep.map (getV ρ)) q.2).bind fun r => some (some r.1, r.2) else some (none, q.2)) p.1 p.2).bind fun q =>
        if q.1.length ≤ SZ then some (.lst q.1, q.2) else none
noncomputable def evB (G : List Den) : PB → Ev → AH → Option (Bool × AH)
  | .val p, ρ, h => (ev G p ρ h).bind fun p => (tru p.2 p.1).bind fun k => some (k, p.2)
  | .not b, ρ, h => (evB G b ρ h).bind fun p => some (!p.1, p.2)
  | .and a b, ρ, h => (evB G a ρ h).bind fun p => if p.1 = true then evB G b ρ p.2 else some (false, p.2)
  | .or a b, ρ, h => (evB G a ρ h).bind fun p => if p.1 = true then some (true, p.2) else evB G b ρ p.2
noncomputable def evs (G : List Den) : List PX → Ev → AH → Option (List D × AH)
  | [], _, h => some ([], h)
  | x :: xs, ρ, h => (ev G x ρ h).bind fun p => (evs G xs ρ p.2).bind fun q => some (p.1 :: q.1, q.2)
noncomputable def evo (G : List Den) : Option PX → Ev → AH → Option (Option Int × AH)
  | none, _, h => some (none, h)
  | some x, ρ, h => (ev G x ρ h).bind fun p => match p.1 with | .int i => some (some i, p.2) | _ => none
noncomputable def evI (G : List Den) : PI → Ev → AH → Option (List D × AH)
  | .seq e, ρ, h => (ev G e ρ h).bind fun p => (itD p.2 p.1).bind fun l => some (l, p.2)
  | .rng e, ρ, h => (ev G e ρ h).bind fun p => (rngD p.1).bind fun l => some (l, p.2)
end
noncomputable def evR (G : List Den) (e : PX) (ρ : Ev) (h : AH) : Out := match e with
  | .call f xs => (match evs G xs ρ h with
    | some p => (match G[f]? with
      | some φ => φ p.1 p.2
      | none => .bad)
    | none => .bad)
  | .callV i fs xs => (match getV ρ i with
    | some (.fn x) => (match evs G xs ρ h with
      | some p => (match fs.findIdx? (· == x) with
        | some n => (match G[n]? with
          | some φ => φ p.1 p.2
          | none => .bad)
        | none => .bad)
      | none => .bad)
    | _ => .bad)
  | e => (match ev G e ρ h with
    | some p => .ok p.1 p.2
    | none => .bad)
inductive R where
  | nx (ρ : Ev) (h : AH) | rt (d : D) (h : AH) | bk (ρ : Ev) (h : AH) | ct (ρ : Ev) (h : AH) | exc (c : Nat) (ρ : Ev) (h : AH) | bad
noncomputable def augD : Operator → D → D → Option D
  | .Add, .int a, .int b => some (.int (a + b))
  | .Sub, .int a, .int b => some (.int (a - b))
  | _, _, _ => none
noncomputable def setT : PTg → D → Ev → Option Ev
  | .nm i, d, ρ => some (ρ.set i (some d))
  | .tp is, .tup xs, ρ => if is.length = xs.length then some ((is.zip xs).foldl (fun r p => r.set p.1 (some p.2)) ρ) else none
  | _, _, _ => none
noncomputable def forL (f : D → Ev → AH → R) : List D → Ev → AH → R
  | [], ρ, h => .nx ρ h
  | d :: ds, ρ, h => match f d ρ h with
    | .nx ρ' h' => forL f ds ρ' h'
    | .ct ρ' h' => forL f ds ρ' h'
    | .bk ρ' h' => .nx ρ' h'
    | .rt d h' => .rt d h'
    | .exc c ρ' h' => .exc c ρ' h'
    | .bad => .bad
mutual
noncomputable def exS (G : List Den) : PSt → Ev → AH → R
  | .ret e, ρ, h => match evR G e ρ h with | .ok d h' => .rt d h' | .exc c h' => .exc c ρ h' | .bad => .bad
  | .retN, ρ, h => .rt .non h
  | .asg t e, ρ, h => match evR G e ρ h with
    | .ok d h' => (match setT t d ρ with | some ρ' => .nx ρ' h' | none => .bad)
    | .exc c h' => .exc c ρ h'
    | .bad => .bad
  | .aug i op e, ρ, h => match getV ρ i, ev G e ρ h with
    | some x, some p => (match augD op x p.1 with
      | some z => .nx (ρ.set i (some z)) p.2
      | none => .bad)
    | _, _ => .bad
  | .ex e, ρ, h => match evR G e ρ h with | .ok d h' => .nx ρ h' | .exc c h' => .exc c ρ h' | .bad => .bad
  | .ifs c a b, ρ, h => match evB G c ρ h with
    | some p => if p.1 = true then exSs G a ρ p.2 else exSs G b ρ p.2
    | none => .bad
  | .forS t it b, ρ, h => match evI G it ρ h with
    | some p => forL (fun d ρ h => match setT t d ρ with | some ρ' => exSs G b ρ' h | none => .bad) p.1 ρ p.2
    | none => .bad
  | .brk, ρ, h => .bk ρ h
  | .cnt, ρ, h => .ct ρ h
  | .pas, ρ, h => .nx ρ h
  | .rai c xs, ρ, h => match evs G xs ρ h with | some p => .exc c ρ p.2 | none => .bad
  | .tryW b ws, ρ, h => match exSs G b ρ h with
    | .exc c ρ' h' => (match ws.lookup c with | some (.str t) => .rt (.str t) h' | _ => .bad)
    | .nx ρ' h' => .nx ρ' h'
    | .rt d h' => .rt d h'
    | .bk ρ' h' => .bk ρ' h'
    | .ct ρ' h' => .ct ρ' h'
    | .bad => .bad
noncomputable def exSs (G : List Den) : List PSt → Ev → AH → R
  | [], ρ, h => .nx ρ h
  | s :: r, ρ, h => match exS G s ρ h with
    | .nx ρ' h' => exSs G r ρ' h'
    | .rt d h' => .rt d h'
    | .bk ρ' h' => .bk ρ' h'
    | .ct ρ' h' => .ct ρ' h'
    | .exc c ρ' h' => .exc c ρ' h'
    | .bad => .bad
end
mutual
noncomputable def nrf : D → Bool
  | .ref _ => false
  | .tup xs => nrfs xs
  | .lst xs => nrfs xs
  | _ => true
noncomputable def nrfs : List D → Bool
  | [] => true
  | x :: xs => nrf x && nrfs xs
end
noncomputable def startE (n : Nat) (args : List D) : Ev := args.map some ++ List.replicate (n - args.length) none
noncomputable def runF (G : List Den) (np n : Nat) (b : List PSt) : Den := fun args h => if args.length = np then (match exSs G b (startE n args) h with
  | .rt d h' => .ok d h'
  | .nx _ h' => .ok .non h'
  | .exc c _ h' => .exc c h'
  | _ => .bad) else .bad
noncomputable def cutDen (f : Den) : Den := fun ds h => match f ds h with
  | .ok d h' => @ite _ (nrf d = true ∧ h'.take h.length = h) (Classical.propDecidable _) (.ok d h) (.ok d h')
  | .exc c h' => @ite _ (h'.take h.length = h) (Classical.propDecidable _) (.exc c h) (.exc c h')
  | r => r
theorem cutDen_ok {f : Den} {ds : List D} {h h' : AH} {d : D} (e : f ds h = .ok d h') (n : nrf d = true) (t : h'.take h.length = h) : cutDen f ds h = .ok d h := by
  unfold cutDen
  rw [e]
  simp [n, t]
theorem cutDen_same {f : Den} {ds : List D} {h : AH} {d : D} (e : f ds h = .ok d h) : cutDen f ds h = .ok d h := by
  unfold cutDen
  rw [e]
  simp
theorem cutDen_exc {f : Den} {ds : List D} {h h' : AH} {c : Nat} (e : f ds h = .exc c h') (t : h'.take h.length = h) : cutDen f ds h = .exc c h := by
  unfold cutDen
  rw [e]
  simp [t]
noncomputable def errs : List Str := ["BadRoute", "BadRule", "NoNeighbour", "NoLine"]
end MP
namespace MP
open PySem
structure CC where
  N : List Str
  nm : List (Str × NameKind)
  ct : List (Str × D)
  fs : List Str
  bl : List Str
  mu : List Nat
  er : List Nat := []
  tw : Option (Str × Str × List (Nat × D)) := none
noncomputable def lk (nm : List (Str × NameKind)) (x : Str) : Option NameKind := nm.lookup x
noncomputable def plainName (x : Str) : Bool := !(x == ("__debug__" : Str)) && !(x == ("__classdict__" : Str)) && !(x == ("__name__" : Str))
noncomputable def isVis : Option NameKind → Bool
  | some .local => true | some .cell => true | some .free => true | _ => false
noncomputable def isLoc : Option NameKind → Bool
  | some .local => true | some .cell => true | _ => false
noncomputable def CC.var (C : CC) (x : Str) : Option Nat := if isVis (lk C.nm x) && plainName x then C.N.findIdx? (· == x) else none
noncomputable def CC.isGl (C : CC) (x : Str) : Bool := (lk C.nm x == some .globalImplicit) && plainName x
noncomputable def CC.isBl (C : CC) (x : Str) : Bool := C.isGl x && C.bl.contains x
noncomputable def reNames (C : CC) (names : List (Str × NameKind)) : List (Str × NameKind) :=
  names.map fun (n, k) => if (k == .free && lk C.nm n == some .cell) then (n, .cell) else (n, k)
noncomputable def freeNames (names : List (Str × NameKind)) : List Str := names.filterMap fun (n, k) => if k == .free then some n else none
noncomputable def varsOf (C : CC) : List Str → Option (List Nat)
  | [] => some []
  | x :: r => match C.var x, varsOf C r with
    | some i, some l => some (i :: l)
    | _, _ => none
noncomputable def compOk (C : CC) (x : Str) (sc : Scope) : Bool :=
  (sc.kind == .function) && (sc.names.lookup x == some .local) && plainName x && sc.names.all (fun y => !(y.2 == .cell)) &&
  sc.names.all (fun y => !(y.2 == .local) || (sc.names.lookup y.1 == some .local)) && (sc.names.map (·.1)).Nodup &&
  sc.names.all (fun y => !(y.2 == .free) || (lk C.nm y.1 == some .cell || lk C.nm y.1 == some .free))
noncomputable def bltOf (x : Str) (as : List PX) : Option PX :=
  if x == "len" then some (.blt .len as)
  else if x == "min" && as.length == 2 then some (.blt .min2 as)
  else if x == "max" && as.length == 2 then some (.blt .max2 as)
  else if x == "min" && as.length == 1 then some (.blt .minS as)
  else if x == "max" && as.length == 1 then some (.blt .maxS as)
  else if x == "sorted" then some (.blt .sorted as)
  else if x == "sum" then some (.blt .sum as)
  else if x == "all" then some (.blt .all as)
  else if x == "list" then some (.blt .list as)
  else if x == "tuple" then some (.blt .tuple as)
  else if x == "int" then some (.blt .int as)
  else if x == "range" && as.length == 1 then some (.blt .range as)
  else none
noncomputable def noSuper : Expr → Bool
  | .Call _ [] [] _ => false
  | _ => true
noncomputable def kCon : Const → Option PX
  | .none => some (.con .non)
  | .bool b => some (.con (.bl b))
  | .int i => some (.con (.int i))
  | .str s => some (.con (.str s.cps.toList))
  | _ => none
noncomputable def kName (C : CC) (x : Str) : Option PX := match C.var x with
  | some i => some (.var i)
  | none => if C.isGl x then (match C.ct.lookup x with
    | some d => some (.con d)
    | none => if C.fs.contains x then some (.con (.fn x)) else none) else none
end MP
namespace MP
open PySem
noncomputable def idxs (C : CC) : List Expr → Option (List Nat)
  | [] => some []
  | .Name x _ :: r => (match (if isLoc (lk C.nm x) then C.var x else none), idxs C r with
    | some i, some l => some (i :: l)
    | _, _ => none)
  | _ => none
end MP
set_option maxHeartbeats 4000000
namespace MP
open PySem PySem.Spec PyProof.Rows L2
noncomputable abbrev Th := List Addr
noncomputable abbrev St := L2.St
noncomputable abbrev SS (s : List Nat) : Str := ⟨s.toArray⟩
mutual
inductive RepV (K : PySem.W.Frag) (H : Hp) (th : Th) : D → V → Prop
  | non : RepV K H th .non .non
  | bl (b : Bool) : RepV K H th (.bl b) (.bl b)
  | int (i : Int) : RepV K H th (.int i) (.int i)
  | str (s : List Nat) : RepV K H th (.str s) (.str (SS s))
  | tup {ds : List D} {vs : List V} {a : Addr} : SqT K H a vs → RepVs K H th ds vs → RepV K H th (.tup ds) (.ref a)
  | lst {ds : List D} {vs : List V} {a : Addr} : SqL K H a vs → a ∉ th → RepVs K H th ds vs → RepV K H th (.lst ds) (.ref a)
  | ref {n : Nat} {a : Addr} : th[n]? = some a → RepV K H th (.ref n) (.ref a)
  | fn {x : Str} {a : Addr} : PySem.W.nsIn K mainGlobals x = some (some (.ref a)) → RepV K H th (.fn x) (.ref a)
inductive RepVs (K : PySem.W.Frag) (H : Hp) (th : Th) : List D → List V → Prop
  | nil : RepVs K H th [] []
  | cons {d : D} {v : V} {ds : List D} {vs : List V} : RepV K H th d v → RepVs K H th ds vs → RepVs K H th (d :: ds) (v :: vs)
end
noncomputable def RepO (K : PySem.W.Frag) (H : Hp) (th : Th) (a : Addr) : O → Prop
  | .lst ds => ∃ vs, H a = some (.lst vs) ∧ RepVs K H th ds vs
  | .dct _ => False
  | .ins _ _ => False
structure Wd (K : PySem.W.Frag) (th : Th) (h : AH) (H : Hp) : Prop where
  nd : th.Nodup
  len : th.length = h.length
  kd : ∀ a ∈ th, K.lookup a = none
  obj : ∀ (n : Nat) (a : Addr) (o : O), th[n]? = some a → h[n]? = some o → RepO K H th a o
structure Gr (th th' : Th) (H H' : Hp) : Prop where
  pre : ∃ t, th' = th ++ t
  keep : ∀ a o, H a = some o → a ∉ th → H' a = some o
  tups : ∀ a xs, Rd H a (.tup xs) → Rd H' a (.tup xs)
  new : ∀ a, a ∈ th' → a ∉ th → H a = none
theorem Gr.refl (th : Th) (H : Hp) : Gr th th H H := ⟨⟨[], by simp⟩, fun _ _ h _ => h, fun _ _ h => h, fun a h1 h2 => absurd h1 h2⟩
theorem Gr.trans {th th1 th2 : Th} {H H1 H2 : Hp} (a : Gr th th1 H H1) (b : Gr th1 th2 H1 H2) : Gr th th2 H H2 where
  pre := by
    obtain ⟨t, rfl⟩ := a.pre
    obtain ⟨u, rfl⟩ := b.pre
    exact ⟨t ++ u, by simp⟩
  keep := fun c o h n => b.keep c o (a.keep c o h n) fun z => by
    have := a.new c z n
    rw [h] at this
    cases this
  tups := fun c xs h => b.tups c xs (a.tups c xs h)
  new := fun c z n => by
    by_cases z1 : c ∈ th1
    · exact a.new c z1 n
    · have e := b.new c z z1
      cases q : H c with
      | none => rfl
      | some o =>
        rw [a.keep c o q n] at e
        cases e
theorem nodup_ixA {N : List Addr} (hN : N.Nodup) {i j : Nat} {x : Addr} (a : N[i]? = some x) (b : N[j]? = some x) : i = j := by
  obtain ⟨hi, ha⟩ := List.getElem?_eq_some_iff.mp a
  obtain ⟨hj, hb⟩ := List.getElem?_eq_some_iff.mp b
  rcases Nat.lt_trichotomy i j with h | h | h
  · exact absurd (ha.trans hb.symm) ((List.pairwise_iff_getElem.mp hN) i j hi hj h)
  · exact h
  · exact absurd (hb.trans ha.symm) ((List.pairwise_iff_getElem.mp hN) j i hj hi h)
theorem RepVs.length {K : PySem.W.Frag} {H : Hp} {th : Th} : ∀ {ds : List D} {vs : List V}, RepVs K H th ds vs → ds.length = vs.length
  | _, _, .nil => rfl
  | _, _, .cons _ t => by simp [RepVs.length t]
section
variable {K : PySem.W.Frag} {th th' : Th} {h : AH} {H H' : Hp}
theorem RepO.some {a : Addr} {o : O} (r : RepO K H th a o) : H a ≠ none := by
  cases o with
  | lst ds => obtain ⟨vs, e, _⟩ := r; rw [e]; simp
  | dct _ => exact r.elim
  | ins _ _ => exact r.elim
theorem Wd.there (w : Wd K th h H) {a : Addr} (m : a ∈ th) : H a ≠ none := by
  obtain ⟨n, hn, e⟩ := List.mem_iff_getElem.mp m
  have hh : n < h.length := by rw [← w.len]; exact hn
  exact (w.obj n a h[n] (by rw [List.getElem?_eq_getElem hn, e]) (List.getElem?_eq_getElem hh)).some
theorem Wd.notin (w : Wd K th h H) {a : Addr} (e : H a = none) : a ∉ th := fun m => w.there m e
theorem SqT.mono {a : Addr} {xs : List V} (g : Gr th th' H H') (q : SqT K H a xs) : SqT K H' a xs := by
  rcases q with q | q
  · exact .inl (g.tups a xs q)
  · exact .inr q
theorem SqL.mono {a : Addr} {xs : List V} (g : Gr th th' H H') (n : a ∉ th) (q : SqL K H a xs) : SqL K H' a xs := by
  rcases q with (q | ⟨o, q⟩) | q
  · exact .inl (.inl (g.keep a _ q n))
  · exact .inl (.inr ⟨o, g.keep a _ q n⟩)
  · exact .inr q
theorem notin_mono {a : Addr} {xs : List V} (g : Gr th th' H H') (kd : ∀ a ∈ th', K.lookup a = none) (n : a ∉ th) (q : SqL K H a xs) : a ∉ th' := fun m => by
  have e := g.new a m n
  rcases q with (q | ⟨o, q⟩) | ⟨o, its, k, q, _⟩
  · rw [q] at e; cases e
  · rw [q] at e; cases e
  · rw [kd a m] at q; cases q
mutual
theorem RepV.mono (g : Gr th th' H H') (kd : ∀ a ∈ th', K.lookup a = none) : ∀ {d : D} {v : V}, RepV K H th d v → RepV K H' th' d v
  | _, _, .non => .non
  | _, _, .bl b => .bl b
  | _, _, .int i => .int i
  | _, _, .str s => .str s
  | _, _, .tup q r => .tup (SqT.mono g q) (RepVs.mono g kd r)
  | _, _, .lst q n r => .lst (SqL.mono g n q) (notin_mono g kd n q) (RepVs.mono g kd r)
  | _, _, .ref (n := n) e => .ref (by
      obtain ⟨t, rfl⟩ := g.pre
      have hn : n < th.length := (List.getElem?_eq_some_iff.mp e).1
      rw [List.getElem?_append_left hn]
      exact e)
  | _, _, .fn e => .fn e
theorem RepVs.mono (g : Gr th th' H H') (kd : ∀ a ∈ th', K.lookup a = none) : ∀ {ds : List D} {vs : List V}, RepVs K H th ds vs → RepVs K H' th' ds vs
  | _, _, .nil => .nil
  | _, _, .cons a b => .cons (RepV.mono g kd a) (RepVs.mono g kd b)
end
theorem RepVs.get : ∀ {ds : List D} {vs : List V} {i : Nat} {d : D}, RepVs K H th ds vs → ds[i]? = some d → ∃ v, vs[i]? = some v ∧ RepV K H th d v
  | _, _, _, _, .nil, e => by simp at e
  | _, _, 0, _, .cons r _, e => by simp at e; subst e; exact ⟨_, rfl, r⟩
  | _, _, i + 1, d, .cons _ t, e => by
    obtain ⟨v, h1, h2⟩ := RepVs.get (i := i) (d := d) t (by simpa using e)
    exact ⟨v, by simpa using h1, h2⟩
theorem RepVs.append : ∀ {xs ys : List D} {us ws : List V}, RepVs K H th xs us → RepVs K H th ys ws → RepVs K H th (xs ++ ys) (us ++ ws)
  | _, _, _, _, .nil, s => s
  | _, _, _, _, .cons r t, s => .cons r (RepVs.append t s)
theorem RepVs.take : ∀ {xs : List D} {us : List V} (n : Nat), RepVs K H th xs us → RepVs K H th (xs.take n) (us.take n)
  | _, _, 0, _ => by simp; exact .nil
  | _, _, _ + 1, .nil => .nil
  | _, _, n + 1, .cons r t => .cons r (RepVs.take n t)
theorem RepVs.drop : ∀ {xs : List D} {us : List V} (n : Nat), RepVs K H th xs us → RepVs K H th (xs.drop n) (us.drop n)
  | _, _, 0, r => r
  | _, _, _ + 1, .nil => .nil
  | _, _, n + 1, .cons _ t => RepVs.drop n t
theorem RepO.mono {a : Addr} {o : O} (g : Gr th th' H H') (kd : ∀ a ∈ th', K.lookup a = none) (e : H' a = H a) (r : RepO K H th a o) : RepO K H' th' a o := by
  cases o with
  | lst ds => obtain ⟨vs, q, r⟩ := r; exact ⟨vs, by rw [e]; exact q, r.mono g kd⟩
  | dct _ => exact r.elim
  | ins _ _ => exact r.elim
theorem Gr.laid {p : Addr} {o : HO} (th : Th) (hp : H p = none) : Gr th th H (upd H p o) where
  pre := ⟨[], by simp⟩
  keep := fun a u e _ => by rw [upd_ne (ne_of_none e hp)]; exact e
  tups := fun a xs r => by
    rcases r with r | ⟨u, r⟩
    · exact .inl (by rw [upd_ne (ne_of_none r hp)]; exact r)
    · exact .inr ⟨u, by rw [upd_ne (ne_of_none r hp)]; exact r⟩
  new := fun a h1 h2 => absurd h1 h2
theorem Wd.mono0 {H' : Hp} (w : Wd K th h H) (g : Gr th th H H') (s : ∀ a ∈ th, H' a = H a) : Wd K th h H' :=
  ⟨w.nd, w.len, w.kd, fun n a o e1 e2 => (w.obj n a o e1 e2).mono g w.kd (s a (List.mem_of_getElem? e1))⟩
theorem Wd.laid {p : Addr} {o : HO} (w : Wd K th h H) (hp : H p = none) : Wd K th h (upd H p o) :=
  w.mono0 (Gr.laid th hp) fun a m => upd_ne fun e => w.there m (e ▸ hp)
theorem Gr.added {p : Addr} {o : HO} (th : Th) (hp : H p = none) : Gr th (th ++ [p]) H (upd H p o) where
  pre := ⟨[p], rfl⟩
  keep := (Gr.laid th hp).keep
  tups := (Gr.laid th hp).tups
  new := fun a h1 h2 => by
    rcases List.mem_append.mp h1 with z | z
    · exact absurd z h2
    · have : a = p := by simpa using z
      rw [this]; exact hp
theorem Wd.added {p : Addr} {o : HO} {u : O} (w : Wd K th h H) (hp : H p = none) (hk : K.lookup p = none) (r : RepO K (upd H p o) (th ++ [p]) p u) : Wd K (th ++ [p]) (h ++ [u]) (upd H p o) := by
  have hn : p ∉ th := w.notin hp
  have kd : ∀ a ∈ th ++ [p], K.lookup a = none := fun a m => by
    rcases List.mem_append.mp m with z | z
    · exact w.kd a z
    · have : a = p := by simpa using z
      rw [this]; exact hk
  refine ⟨?_, by simp [w.len], kd, fun n a x e1 e2 => ?_⟩
  · rw [List.nodup_append]
    refine ⟨w.nd, by simp, ?_⟩
    intro a ha b hb
    have : b = p := by simpa using hb
    rw [this]
    exact fun e => hn (e ▸ ha)
  · by_cases hlt : n < th.length
    · rw [List.getElem?_append_left hlt] at e1
      rw [List.getElem?_append_left (by rw [← w.len]; exact hlt)] at e2
      have m : a ∈ th := List.mem_of_getElem? e1
      exact (w.obj n a x e1 e2).mono (Gr.added th hp) kd (upd_ne fun e => hn (e ▸ m))
    · have h1 : th.length ≤ n := Nat.le_of_not_lt hlt
      have hn' : n < (th ++ [p]).length := (List.getElem?_eq_some_iff.mp e1).1
      have : n = th.length := by simp at hn'; omega
      subst this
      rw [List.getElem?_append_right (Nat.le_refl _)] at e1
      rw [w.len, List.getElem?_append_right (Nat.le_refl _)] at e2
      simp at e1 e2
      subst e1 e2
      exact r
theorem Gr.wrote {a : Addr} {o : HO} {xs : List V} (hm : a ∈ th) (e : H a = some (.lst xs)) : Gr th th H (upd H a o) where
  pre := ⟨[], by simp⟩
  keep := fun c u q n => by
    have : c ≠ a := fun z => n (z ▸ hm)
    rw [upd_ne this]; exact q
  tups := fun c ys r => by
    rcases r with r | ⟨u, r⟩
    · exact .inl (by rw [upd_ne (ne_of r e (by intro z; cases z))]; exact r)
    · exact .inr ⟨u, by rw [upd_ne (ne_of r e (by intro z; cases z))]; exact r⟩
  new := fun c h1 h2 => absurd h1 h2
theorem Wd.wrote {a : Addr} {n : Nat} {o : HO} {u : O} {xs : List V} (w : Wd K th h H) (hn : th[n]? = some a) (e : H a = some (.lst xs)) (r : RepO K (upd H a o) th a u) : Wd K th (h.set n u) (upd H a o) := by
  have hm := List.mem_of_getElem? hn
  refine ⟨w.nd, by simp [w.len], w.kd, fun m b x e1 e2 => ?_⟩
  by_cases hmn : m = n
  · subst hmn
    rw [hn] at e1
    cases e1
    have hlt : m < h.length := by rw [← w.len]; exact (List.getElem?_eq_some_iff.mp hn).1
    rw [List.getElem?_set_self hlt] at e2
    cases e2
    exact r
  · rw [List.getElem?_set_ne (Ne.symm hmn)] at e2
    have hba : b ≠ a := fun z => by
      subst z
      exact hmn (nodup_ixA w.nd e1 hn)
    exact (w.obj m b x e1 e2).mono (Gr.wrote hm e) w.kd (upd_ne hba)
def RepW (K : PySem.W.Frag) (H : Hp) (th : Th) (d : D) (v : V) : Prop := match d with
  | .lst ds => ∃ a vs, v = .ref a ∧ SqL K H a vs ∧ RepVs K H th ds vs
  | d => RepV K H th d v
theorem RepV.view {d : D} {v : V} (w : Wd K th h H) (r : RepV K H th d v) : RepW K H th (vw h d) v := by
  cases r with
  | non => exact .non
  | bl b => exact .bl b
  | int i => exact .int i
  | str s => exact .str s
  | tup q r => exact .tup q r
  | lst q n r => exact ⟨_, _, rfl, q, r⟩
  | fn e => exact RepV.fn e
  | @ref n a e =>
    have hn : n < h.length := by rw [← w.len]; exact (List.getElem?_eq_some_iff.mp e).1
    have ro := w.obj n a h[n] e (List.getElem?_eq_getElem hn)
    have ev : vw h (.ref n) = (match h[n]? with | some (.lst xs) => .lst xs | _ => .ref n) := rfl
    rw [ev, List.getElem?_eq_getElem hn]
    cases q : h[n] with
    | lst xs =>
      rw [q] at ro
      obtain ⟨vs, e2, r2⟩ := ro
      exact ⟨a, vs, rfl, SqL.of e2, r2⟩
    | dct _ => exact RepV.ref e
    | ins _ _ => exact RepV.ref e
end
structure EnvR (K : PySem.W.Frag) (H : Hp) (th : Th) (ρ : Ev) (σ : St) : Prop where
  len : ρ.length = σ.length
  val : ∀ i d, getV ρ i = some d → ∃ v, σ[i]? = some (some v) ∧ RepV K H th d v
theorem EnvR.mono {K : PySem.W.Frag} {th th' : Th} {H H' : Hp} {ρ : Ev} {σ : St} (g : Gr th th' H H') (kd : ∀ a ∈ th', K.lookup a = none) (r : EnvR K H th ρ σ) : EnvR K H' th' ρ σ :=
  ⟨r.len, fun i d e => let ⟨v, e1, r1⟩ := r.val i d e; ⟨v, e1, r1.mono g kd⟩⟩
theorem getV_set_self {ρ : Ev} {i : Nat} {d : D} {x : Option D} (h : getV (ρ.set i x) i = some d) : x = some d := by
  unfold getV at h
  by_cases hi : i < ρ.length
  · rw [List.getElem?_set_self hi] at h; simpa using h
  · rw [List.getElem?_eq_none (by simp; omega)] at h; simp at h
theorem getV_set_ne {ρ : Ev} {i j : Nat} {x : Option D} (h : i ≠ j) : getV (ρ.set i x) j = getV ρ j := by
  unfold getV
  rw [List.getElem?_set_ne h]
theorem EnvR.set {K : PySem.W.Frag} {th : Th} {H : Hp} {ρ : Ev} {σ : St} {d : D} {v : V} (r : EnvR K H th ρ σ) (i : Nat) (q : RepV K H th d v) : EnvR K H th (ρ.set i (some d)) (σ.set i (some v)) := by
  refine ⟨by simp [r.len], fun j e hj => ?_⟩
  by_cases hij : i = j
  · subst hij
    have := getV_set_self hj
    cases this
    have hi : i < σ.length := by
      rw [← r.len]
      unfold getV at hj
      by_cases hi : i < ρ.length
      · exact hi
      · rw [List.getElem?_eq_none (by simp; omega)] at hj; simp at hj
    exact ⟨v, List.getElem?_set_self hi, q⟩
  · rw [getV_set_ne hij] at hj
    obtain ⟨u, e1, r1⟩ := r.val j e hj
    exact ⟨u, by rw [List.getElem?_set_ne hij]; exact e1, r1⟩
noncomputable def rdE (K : PySem.W.Frag) (G : List Den) (p : PX) : TE := fun σ H Q => ∃ th ρ h d h', Wd K th h H ∧ EnvR K H th ρ σ ∧ ev G p ρ h = some (d, h') ∧
  ∀ v H' th', RepV K H' th' d v → Wd K th' h' H' → Gr th th' H H' → Q v H'
noncomputable def rdA (K : PySem.W.Frag) (G : List Den) (ps : List PX) : TA := fun σ H Q => ∃ th ρ h ds h', Wd K th h H ∧ EnvR K H th ρ σ ∧ evs G ps ρ h = some (ds, h') ∧
  ∀ vs H' th', RepVs K H' th' ds vs → Wd K th' h' H' → Gr th th' H H' → Q vs H'
theorem _root_.L2.PE.imp {X : Cx} {e : Expr} {t t' : TE} (p : PE X e t) (h : ∀ σ H Q, t' σ H Q → t σ H Q) : PE X e t' := fun pins s σ H Q I q => p pins s σ H Q I (h σ H Q q)
theorem _root_.L2.PA.imp {X : Cx} {e : List Expr} {t t' : TA} (p : PA X e t) (h : ∀ σ H Q, t' σ H Q → t σ H Q) : PA X e t' := fun pos pins s σ H Q I q => p pos pins s σ H Q I (h σ H Q q)
theorem _root_.L2.PT.imp {X : Cx} {e : Expr} {t t' : TT} (p : PT X e t) (h : ∀ σ H Q, t' σ H Q → t σ H Q) : PT X e t' := fun pins s σ H Q I q => p pins s σ H Q I (h σ H Q q)
theorem _root_.L2.PW.imp {X : Cx} {e : Expr} {t t' : TT} (p : PW X e t) (h : ∀ σ H Q, t' σ H Q → t σ H Q) : PW X e t' := fun wh pins s σ H Q I q => p wh pins s σ H Q I (h σ H Q q)
theorem _root_.L2.PS.imp {X : Cx} {e : Stmt} {t t' : TS} (p : PS X e t) (h : ∀ D σ H, t' D σ H → t D σ H) : PS X e t' := fun pins s σ H D I q => p pins s σ H D I (h D σ H q)
theorem _root_.L2.PSs.imp {X : Cx} {e : List Stmt} {t t' : TS} (p : PSs X e t) (h : ∀ D σ H, t' D σ H → t D σ H) : PSs X e t' := fun pins s σ H D I q => p pins s σ H D I (h D σ H q)
noncomputable def rdOp (K : PySem.W.Frag) (f : D → D → Option D) : R2 := fun x y H Q => ∃ th h dx dy d, Wd K th h H ∧ RepW K H th dx x ∧ RepW K H th dy y ∧ f dx dy = some d ∧
  ∀ v H', RepV K H' th d v → Wd K th h H' → Gr th th H H' → Q v H'
theorem rd2 {K : PySem.W.Frag} {G : List Den} {p q : PX} {σ : St} {H : Hp} {Q : V → V → Hp → Prop} {th : Th} {ρ : Ev} {h h1 h2 : AH} {d1 d2 : D}
    (w : Wd K th h H) (e : EnvR K H th ρ σ) (e1 : ev G p ρ h = some (d1, h1)) (e2 : ev G q ρ h1 = some (d2, h2))
    (k : ∀ x y H' th', RepV K H' th' d1 x → RepV K H' th' d2 y → Wd K th' h2 H' → Gr th th' H H' → Q x y H') :
    rdE K G p σ H fun x H1 => rdE K G q σ H1 fun y H2 => Q x y H2 :=
  ⟨th, ρ, h, d1, h1, w, e, e1, fun x H1 th1 r1 w1 g1 => ⟨th1, ρ, h1, d2, h2, w1, e.mono g1 w1.kd, e2, fun y H2 th2 r2 w2 g2 => k x y H2 th2 (r1.mono g2 w2.kd) r2 w2 (g1.trans g2)⟩⟩
theorem noFill_tup_mul : fillsNumberSlot (.type "tuple") "mul" = pure false :=
  PySem.fillsNumberSlot_seq (id := "tuple.__mul__") (r := some (.builtin "tuple.__rmul__")) PySem.F.slot_tuple_mul.lookup (by decide +kernel) PySem.F.slot_tuple_rmul.lookup (by decide +kernel)
theorem repeat_tup : seqRepeat? (.type "tuple") = pure (some (.builtin "tuple.__mul__")) := by
  unfold seqRepeat?
  rw [PySem.seqSlot_of (T := "tuple") (name := "__mul__") (id := "tuple.__mul__") PySem.F.slot_tuple_mul.lookup (by decide +kernel), PySem.seqSlot_of (T := "tuple") (name := "__rmul__") (id := "tuple.__rmul__") PySem.F.slot_tuple_rmul.lookup (by decide +kernel)]
  rfl
section
variable {X : Cx}
theorem rmul_tup {prog : Program} {w : World} {A : Around} {E : Value → Shared → Prop} {s : Shared} {k : Int} {t : Tok} {l : Addr} {its : Array Value} {Q : Value → Shared → Prop} (ht : IsTup s.heap l its) (h : Q .notImplemented s) : wpAny (model prog w) A (call (.builtin "int.__rmul__") [.int k t, .ref l]) Q E s := by
  refine wpAny_call_entry PySem.F.slot_int_rmul (typeIs_int s k t) PySem.F.entry_int_rmul ?_ (PySem.F.args_int_rmul_2 _ _)
  obtain ⟨o, ho, hc, n, hd⟩ := ht
  obtain ⟨hp, g, d, tk, os⟩ := s
  obtain ⟨c, od, dt, sl⟩ := o
  dsimp only at hc ho hd ⊢
  subst hc hd
  wp_walk
  exact ⟨_, rfl, h⟩
theorem op_repT : OpR X (binaryOp .Mult) (fun x y H Q => ∃ l k xs, x = .ref l ∧ y = .int k ∧ SqT X.K H l xs ∧ xs ≠ [] ∧ 2 ≤ k ∧ xs.length * k.toNat ≤ sizeLine ∧ ∀ p, H p = none → Q (.ref p) (upd H p (.tup (List.replicate k.toNat xs).flatten))) := by
  intro pins s σ H x y v u Q I rx ry h
  obtain ⟨l, k, xs, rfl, rfl, hq, hne, hk, hz, q⟩ := h
  cases rx
  obtain ⟨t, rfl⟩ := ry
  obtain ⟨its, r, ht, hz0⟩ := I.tuple hq
  have hl := r.length
  have hb : its.length * k.toNat ≤ 16777216 := by
    have : sizeLine = 16777216 := by decide
    rw [← hl, ← this]; exact hz
  have hne' : its ≠ [] := fun e => hne (by rw [e] at hl; exact List.length_eq_zero_iff.mp hl)
  have hpos : 0 < its.length := List.length_pos_iff.mpr hne'
  have hk2 : k.toNat ≤ 16777216 := Nat.le_trans (Nat.le_mul_of_pos_left _ hpos) hb
  have hkc : (k.toNat : Int) = k := Int.toNat_of_nonneg (by omega)
  have hbz : (its.length : Int) * k ≤ 16777216 := by
    have := Int.ofNat_le.mpr hb
    rw [Int.natCast_mul, hkc] at this
    exact this
  have f0 : ∀ m : Nat, List.foldl (fun x1 x2 => x1 ++ x2) #[] (List.replicate m its.toArray) = (List.replicate m its).flatten.toArray := fun m => by
    have := foldl_rep its m []
    rw [List.nil_append] at this
    exact this
  refine wpAny_binaryOp_repeat_ref (T := "tuple") (U := "int") (by decide) ht.typeIs (fun s' => typeIs_int s' k t) noFill_tup_mul PySem.F.fills_int_mul PySem.F.slot_int_rmul repeat_tup PySem.F.slot_int_index.lookup (rmul_tup ht ⟨rfl, ht.typeIs, ?_⟩)
  refine wpAny_call_entry PySem.F.slot_tuple_mul ht.typeIs PySem.F.entry_tuple_mul ?_ (PySem.F.args_tuple_mul_2 _ _)
  show wpAny _ _ (asIndex (.int k t) >>= _) _ _ s
  refine wpAny_bind (wpAny_of_eq (a := k) rfl ?_)
  dsimp only
  rw [if_neg (by simp; omega)]
  refine wpAny_bind (tupleItemsOf_ ht ?_)
  have hem : its.toArray.isEmpty = false := by cases its with | nil => exact absurd rfl hne' | cons _ _ => rfl
  rw [hem]
  rw [if_neg (by simp; omega)]
  rw [if_neg (by simp; omega)]
  rw [if_neg (by rw [List.size_toArray]; omega)]
  rw [if_neg (by unfold Builtin.Tuple.tupleTooMany; rw [List.size_toArray]; simp; have : (sizeLine : Int) = 16777216 := by decide
                 omega)]
  rw [f0]
  have hfl : (List.replicate k.toNat xs).flatten.length ≤ sizeLine := by rw [len_rep, Nat.mul_comm]; exact hz
  have hfi : (List.replicate k.toNat its).flatten.length = (List.replicate k.toNat xs).flatten.length := by rw [len_rep, len_rep, hl]
  refine wpAny_bind (m := Builtin.Tuple.tupleExact _) (wpAny_newObj_type (wpAny_pure ⟨_, rfl, ?_⟩) (by show (List.replicate k.toNat its).flatten.toArray.size ≤ sizeLine; rw [List.size_toArray, hfi]; exact hfl))
  exact ⟨.ref s.heap.objs.size, _, I.laid (t' := s.toks) (fun b o e => Heap.get?_push_of_some _ e) (Nat.le_refl _) (show ObjOk X.prog X.w _ _ _ (.tup (List.replicate k.toNat xs).flatten) from ⟨hfl, _, r.rep k.toNat, IsTup.new _ _⟩), rfl, q _ (I.hok.fresh (Nat.le_refl _))⟩
theorem foldl_repN (its : List Nat) : ∀ (k : Nat) (acc : List Nat), List.foldl (fun x1 x2 => x1 ++ x2) acc.toArray (List.replicate k its.toArray) = (acc ++ (List.replicate k its).flatten).toArray
  | 0, acc => by simp
  | k + 1, acc => by
    rw [List.replicate_succ, List.foldl_cons, List.append_toArray, foldl_repN its k (acc ++ its), List.replicate_succ, List.flatten_cons, List.append_assoc]
theorem op_repS : OpR X (binaryOp .Mult) (fun x y H Q => ∃ z k, x = .str (SS z) ∧ y = .int k ∧ 2 ≤ k ∧ z ≠ [] ∧ z.length * k.toNat ≤ 16777216 ∧ Q (.str (SS (List.replicate k.toNat z).flatten)) H) := by
  intro pins s σ H x y v u Q I rx ry h
  obtain ⟨z, k, rfl, rfl, hk, hne, hb, q⟩ := h
  obtain ⟨t, rfl⟩ := rx
  obtain ⟨t', rfl⟩ := ry
  have hl : (SS z).length = z.length := by simp [SS, Str.length]
  have hpos : 0 < z.length := List.length_pos_iff.mpr hne
  have hk2 : k.toNat ≤ 16777216 := Nat.le_trans (Nat.le_mul_of_pos_left _ hpos) hb
  have hkc : (k.toNat : Int) = k := Int.toNat_of_nonneg (by omega)
  have hbz : (z.length : Int) * k ≤ 16777216 := by
    have := Int.ofNat_le.mpr hb
    rw [Int.natCast_mul, hkc] at this
    exact this
  have hc : (k == 1 || (SS z).length == 0) = false := by
    rw [hl]
    have h1 : (k == 1) = false := by simp; omega
    have h2 : (z.length == 0) = false := by simp; exact hne
    rw [h1, h2]
    rfl
  have e : Txt.mul (SS z) k = SS (List.replicate k.toNat z).flatten := by
    unfold Txt.mul
    rw [if_neg (by omega), hc]
    have := foldl_repN z k.toNat []
    rw [List.nil_append] at this
    show Str.mk (List.foldl (fun x1 x2 => x1 ++ x2) [].toArray (List.replicate k.toNat z.toArray)) = _
    rw [this]
  refine SB.mul ⟨by simp; omega, fun _ _ => ?_, fun _ _ => ?_⟩ fun t2 k2 => ⟨.str (SS (List.replicate k.toNat z).flatten), H, I.tok k2, ⟨t2, by rw [e]⟩, q⟩
  · rw [hl]
    have : (z.length : Int) ≤ (2 ^ 63 - 1) / k := Int.le_ediv_of_mul_le (by omega) (by omega)
    omega
  · rw [hl]
    unfold Builtin.Str.tooLong
    have : sizeLine = 16777216 := by decide
    simp
    omega
end
section
variable {K : PySem.W.Frag} {H : Hp} {th : Th} {v : V}
theorem RepW.inon (r : RepW K H th .non v) : v = .non := by cases (show RepV K H th .non v from r); rfl
theorem RepW.ibl {b : Bool} (r : RepW K H th (.bl b) v) : v = .bl b := by cases (show RepV K H th (.bl b) v from r); rfl
theorem RepW.iint {i : Int} (r : RepW K H th (.int i) v) : v = .int i := by cases (show RepV K H th (.int i) v from r); rfl
theorem RepW.istr {s : List Nat} (r : RepW K H th (.str s) v) : v = .str (SS s) := by cases (show RepV K H th (.str s) v from r); rfl
theorem RepW.itup {ds : List D} (r : RepW K H th (.tup ds) v) : ∃ a vs, v = .ref a ∧ SqT K H a vs ∧ RepVs K H th ds vs := by
  cases (show RepV K H th (.tup ds) v from r) with
  | tup q r' => exact ⟨_, _, rfl, q, r'⟩
theorem RepW.ilst {ds : List D} (r : RepW K H th (.lst ds) v) : ∃ a vs, v = .ref a ∧ SqL K H a vs ∧ RepVs K H th ds vs := r
end
theorem SS_append (a b : List Nat) : (SS a ++ SS b : Str) = SS (a ++ b) := by
  show (⟨a.toArray ++ b.toArray⟩ : Str) = ⟨(a ++ b).toArray⟩
  simp
theorem SS_length (a : List Nat) : (SS a).length = a.length := by
  show a.toArray.size = a.length
  simp
theorem SZ_eq : sizeLine = SZ := by decide
theorem log2_lt_of {n k : Nat} (hk : 0 < k) (h : n < 2 ^ k) : n.log2 < k := by
  by_cases h0 : n = 0
  · subst h0
    have : Nat.log2 0 = 0 := by decide
    omega
  · exact (Nat.log2_lt h0).mpr h
theorem mulOk_ok {a b : Int} (h : mulOk a b = true) : IntMulOk a b := by
  unfold mulOk at h
  rw [Bool.or_eq_true, Bool.or_eq_true, Bool.and_eq_true] at h
  rcases h with (h | h) | ⟨h1, h2⟩
  · have h := of_decide_eq_true h
    exact .of_left (intBits_le_64 (by omega) (by omega))
  · have h := of_decide_eq_true h
    exact .of_right (intBits_le_64 (by omega) (by omega))
  · have h1 := of_decide_eq_true h1
    have h2 := of_decide_eq_true h2
    have b1 : Builtin.Int.intBits a ≤ 4096 := by
      unfold Builtin.Int.intBits
      split
      · omega
      · have := log2_lt_of (by decide) h1
        omega
    have b2 : Builtin.Int.intBits b ≤ 4096 := by
      unfold Builtin.Int.intBits
      split
      · omega
      · have := log2_lt_of (by decide) h2
        omega
    unfold IntMulOk
    have hb : Builtin.Int.intTooBig ((Builtin.Int.intBits a : Int) + (Builtin.Int.intBits b : Int)) = false := by
      unfold Builtin.Int.intTooBig
      have : ¬ (((Builtin.Int.intBits a : Int) + (Builtin.Int.intBits b : Int)) > (bitsLine : Int)) := by
        have : (bitsLine : Int) = 134217728 := by decide
        omega
      simpa using this
    simp [hb]
section
variable {X : Cx}
theorem op_mulM : OpR X (binaryOp .Mult) (rI (fun a b => mulOk a b = true) fun i j => .int (i * j)) := opI fun _ _ _ _ _ _ _ hc q => mul_int q (mulOk_ok hc)
theorem op_fdivM : OpR X (binaryOp .FloorDiv) (rI (fun _ b => 0 < b ∧ b < 2 ^ 100) fun i j => .int (i / j)) := opI fun i j _ _ _ _ _ hc q => by
  have h1 : (0 : Int) < j := hc.1
  have h2 : j < 2 ^ 100 := hc.2
  have h3 : j.natAbs < 2 ^ 100 := by omega
  have h4 := log2_lt_of (by decide) h3
  exact floordiv_int (by omega) (by rw [Int.fdiv_eq_ediv_of_nonneg i (by omega)]; exact q) (.inl (PyProof.noPylong_of_log2 (by omega)))
theorem op_catS : OpR X (binaryOp .Add) (fun x y H Q => ∃ l b xs zs, x = .ref l ∧ y = .ref b ∧ SqL X.K H l xs ∧ SqL X.K H b zs ∧ xs.length + zs.length ≤ sizeLine ∧ ∀ p, H p = none → Q (.ref p) (upd H p (.lst (xs ++ zs)))) := by
  intro pins s σ H x y v u Q I rx ry h
  obtain ⟨l, b, xs, zs, rfl, rfl, hH, hB, hz, q⟩ := h
  cases rx
  cases ry
  obtain ⟨its, r, pl, hz1⟩ := I.list hH
  obtain ⟨its2, r2, pl2, hz2⟩ := I.list hB
  have e1 := r.length
  have e2 := r2.length
  obtain ⟨⟨cls, dd, data, sl⟩, ho, hc, n, hd⟩ := pl.isList
  obtain ⟨⟨cls2, dd2, data2, sl2⟩, ho2, hc2, n2, hd2⟩ := pl2.isList
  simp only at hc hd hc2 hd2
  subst hc hd hc2 hd2
  have e : its.toArray ++ its2.toArray = (its ++ its2).toArray := by simp
  refine concat_meets ⟨_, ho, rfl⟩ ⟨_, ho2, rfl⟩ noFill_list_add seq_list_add PySem.F.slot_list_add PySem.F.entry_list_add (PySem.F.args_list_add_2 _ _) (list_addW l b its.toArray its2.toArray n n2 dd dd2 sl sl2 (by rw [List.size_toArray, List.size_toArray]; omega)) ⟨ho, ho2, ?_⟩
  rw [e]
  exact ⟨.ref _, _, I.lnew (t' := s.toks) (r.append r2) (by rw [List.length_append]; omega), rfl, q _ I.fresh⟩
theorem op_catTS : OpR X (binaryOp .Add) (fun x y H Q => ∃ l b xs zs, x = .ref l ∧ y = .ref b ∧ SqT X.K H l xs ∧ SqT X.K H b zs ∧ xs.length + zs.length ≤ sizeLine ∧
    (xs = [] → Q (.ref b) H) ∧ (zs = [] → Q (.ref l) H) ∧ ∀ p, H p = none → Q (.ref p) (upd H p (.tup (xs ++ zs)))) := by
  intro pins s σ H x y v u Q I rx ry h
  obtain ⟨l, b, xs, zs, rfl, rfl, hH, hB, hz, q1, q2, q3⟩ := h
  cases rx
  cases ry
  obtain ⟨its, r, pl, hz1⟩ := I.tuple hH
  obtain ⟨its2, r2, pl2, hz2⟩ := I.tuple hB
  have e1 := r.length
  have e2 := r2.length
  by_cases hv : its = []
  · obtain ⟨⟨cls, dd, data, sl⟩, ho, hc, n, hd⟩ := id pl
    obtain ⟨⟨cls2, dd2, data2, sl2⟩, ho2, hc2, n2, hd2⟩ := id pl2
    simp only at hc hd hc2 hd2
    subst hc hd hc2 hd2
    exact concat_meets ⟨_, ho, rfl⟩ ⟨_, ho2, rfl⟩ noFill_tuple_add seq_tuple_add PySem.F.slot_tuple_add PySem.F.entry_tuple_add (PySem.F.args_tuple_add_2 _ _)
      (tuple_addW0 l b its.toArray its2.toArray n n2 dd dd2 sl sl2 (by simp [hv])) ⟨ho, ho2, ⟨.ref b, H, I, rfl, q1 (r.nil_iff.mp hv)⟩⟩
  · refine HT.cat_tup pl pl2 hv (fun e => ?_) (fun _ => ?_) (by omega)
    · exact ⟨.ref l, H, I, rfl, q2 (r2.nil_iff.mp e)⟩
    · refine ⟨.ref s.heap.objs.size, _, I.laid (t' := s.toks) (o := .tup (xs ++ zs)) (fun b ob q => Heap.get?_push_of_some _ q) (Nat.le_refl _) ?_, rfl, q3 _ (I.hok.fresh (Nat.le_refl _))⟩
      exact ⟨by rw [List.length_append]; exact hz, _, r.append r2, IsTup.new _ _⟩
theorem RepVs.rep {K : PySem.W.Frag} {H : Hp} {th : Th} {ds : List D} {vs : List V} : ∀ k : Nat, RepVs K H th ds vs → RepVs K H th (MP.rep k ds) (List.replicate k vs).flatten
  | 0, _ => .nil
  | k + 1, r => by
    show RepVs K H th (List.replicate (k + 1) ds).flatten _
    rw [List.replicate_succ, List.replicate_succ, List.flatten_cons, List.flatten_cons]
    exact r.append (RepVs.rep k r)
theorem op_binD (op : Operator) : OpR X (binaryOp op) (rdOp X.K (binD op)) := by
  intro pins s σ H x y v u Q I rx ry h
  obtain ⟨th, ah, dx, dy, d, w, wx, wy, e, k⟩ := h
  have kk : ∀ v, RepV X.K H th d v → Q v H := fun v r => k v H r w (Gr.refl _ _)
  have kx := k
  unfold binD at e
  split at e
  · cases e; cases wx.iint; cases wy.iint
    exact op_add pins s σ H _ _ v u Q I rx ry ⟨_, _, rfl, rfl, kk _ (.int _)⟩
  · cases e; cases wx.iint; cases wy.iint
    exact op_sub pins s σ H _ _ v u Q I rx ry ⟨_, _, rfl, rfl, kk _ (.int _)⟩
  · split at e
    · rename_i hc
      cases e; cases wx.iint; cases wy.iint
      exact op_mulM pins s σ H _ _ v u Q I rx ry ⟨_, _, rfl, rfl, hc, kk _ (.int _)⟩
    · cases e
  · split at e
    · rename_i hc
      cases e; cases wx.iint; cases wy.iint
      exact op_fdivM pins s σ H _ _ v u Q I rx ry ⟨_, _, rfl, rfl, hc, kk _ (.int _)⟩
    · cases e
  · split at e
    · rename_i hc
      cases e; cases wx.iint; cases wy.iint
      exact op_mod pins s σ H _ _ v u Q I rx ry ⟨_, _, rfl, rfl, hc, kk _ (.int _)⟩
    · cases e
  · split at e
    · rename_i hc
      cases e; cases wx.iint; cases wy.iint
      exact op_pow pins s σ H _ _ v u Q I rx ry ⟨_, _, rfl, rfl, hc, kk _ (.int _)⟩
    · cases e
  · split at e
    · rename_i hc
      cases e; cases wx.iint; cases wy.iint
      exact op_shl pins s σ H _ _ v u Q I rx ry ⟨_, _, rfl, rfl, hc, kk _ (.int _)⟩
    · cases e
  · split at e
    · rename_i hc
      cases e; cases wx.istr; cases wy.istr
      exact op_add_str pins s σ H _ _ v u Q I rx ry ⟨_, _, rfl, rfl, by rw [SS_length, SS_length, SZ_eq]; exact hc, by rw [SS_append]; exact kk _ (.str _)⟩
    · cases e
  · split at e
    · rename_i a b hc
      cases e
      obtain ⟨l, xs, rfl, qx, r1⟩ := wx.itup
      obtain ⟨m, ys, rfl, qy, r2⟩ := wy.itup
      have l1 := r1.length
      have l2 := r2.length
      refine op_catTS pins s σ H _ _ v u Q I rx ry ⟨l, m, xs, ys, rfl, rfl, qx, qy, by rw [SZ_eq]; omega, fun z => ?_, fun z => ?_, fun p hp => ?_⟩
      · subst z
        cases r1
        exact kk _ (.tup qy (by simpa using r2))
      · subst z
        cases r2
        exact kk _ (.tup qx (by simpa using r1))
      · have g := Gr.laid (H := H) (o := .tup (xs ++ ys)) th hp
        exact k _ _ (.tup (SqT.of upd_same) ((r1.append r2).mono g w.kd)) (w.laid hp) g
    · cases e
  · split at e
    · rename_i a b hc
      cases e
      obtain ⟨l, xs, rfl, qx, r1⟩ := wx.ilst
      obtain ⟨m, ys, rfl, qy, r2⟩ := wy.ilst
      have l1 := r1.length
      have l2 := r2.length
      refine op_catS pins s σ H _ _ v u Q I rx ry ⟨l, m, xs, ys, rfl, rfl, qx, qy, by rw [SZ_eq]; omega, fun p hp => ?_⟩
      have g := Gr.laid (H := H) (o := .lst (xs ++ ys)) th hp
      exact k _ _ (.lst (SqL.of upd_same) (w.notin hp) ((r1.append r2).mono g w.kd)) (w.laid hp) g
    · cases e
  · split at e
    · rename_i a kz hc
      cases e; cases wx.istr; cases wy.iint
      exact op_repS pins s σ H _ _ v u Q I rx ry ⟨a, kz, rfl, rfl, hc.1, fun z => by rw [z] at hc; simp at hc, hc.2.2, kk _ (.str _)⟩
    · cases e
  · split at e
    · rename_i a kz hc
      cases e
      cases wy.iint
      obtain ⟨l, xs, rfl, qx, r1⟩ := wx.itup
      have l1 := r1.length
      refine op_repT pins s σ H _ _ v u Q I rx ry ⟨l, kz, xs, rfl, rfl, qx, fun z => ?_, hc.1, by rw [SZ_eq, ← l1]; exact hc.2.2, fun p hp => ?_⟩
      · rw [z] at l1
        have : a = [] := List.length_eq_zero_iff.mp l1
        rw [this] at hc
        simp at hc
      · have g := Gr.laid (H := H) (o := .tup (List.replicate kz.toNat xs).flatten) th hp
        exact kx _ _ (.tup (SqT.of upd_same) ((RepVs.rep kz.toNat r1).mono g w.kd)) (w.laid hp) g
    · cases e
  · cases e
end
mutual
noncomputable def toPy : D → PyData
  | .non => .none
  | .bl b => .bool b
  | .int i => .int i
  | .str s => .str (SS s)
  | .tup xs => .tuple (toPys xs)
  | .lst xs => .list (toPys xs)
  | _ => .none
noncomputable def toPys : List D → List PyData
  | [] => []
  | x :: xs => toPy x :: toPys xs
end
theorem strOk_SS {s : List Nat} (h : (s.all fun c => decide (c < 1114112)) = true) : PyData.strOk (SS s) = true := by
  unfold PyData.strOk
  show s.toArray.all _ = true
  rw [List.all_toArray]
  simpa using h
theorem canLay_py : ∀ (n : Nat) (d : D), pureN n d = true → (toPy d).canLay0 = true ∧ (toPy d).depth ≤ n := by
  have lists : ∀ n : Nat, (∀ d, pureN n d = true → (toPy d).canLay0 = true ∧ (toPy d).depth ≤ n) → ∀ ds : List D, ds.all (pureN n) = true → PyData.canLayAll0 (toPys ds) = true ∧ PyData.depthAll (toPys ds) ≤ n := by
    intro n ih ds
    induction ds with
    | nil => intro _; exact ⟨rfl, Nat.zero_le _⟩
    | cons d ds ih2 =>
      intro h
      rw [List.all_cons, Bool.and_eq_true] at h
      obtain ⟨h1, h2⟩ := h
      obtain ⟨a1, a2⟩ := ih d h1
      obtain ⟨b1, b2⟩ := ih2 h2
      exact ⟨by show (PyData.canLay0 (toPy d) && PyData.canLayAll0 (toPys ds)) = true; rw [a1, b1]; rfl, by show max (PyData.depth (toPy d)) (PyData.depthAll (toPys ds)) ≤ n; omega⟩
  intro n
  induction n with
  | zero =>
    intro d h
    cases d with
    | str s => exact ⟨strOk_SS h, Nat.zero_le _⟩
    | non => exact ⟨rfl, Nat.zero_le _⟩
    | bl b => exact ⟨rfl, Nat.zero_le _⟩
    | int i => exact ⟨rfl, Nat.zero_le _⟩
    | _ => cases h
  | succ n ih =>
    intro d h
    cases d with
    | str s => exact ⟨strOk_SS h, Nat.zero_le _⟩
    | non => exact ⟨rfl, Nat.zero_le _⟩
    | bl b => exact ⟨rfl, Nat.zero_le _⟩
    | int i => exact ⟨rfl, Nat.zero_le _⟩
    | tup xs => obtain ⟨a, b⟩ := lists n ih xs h; exact ⟨a, Nat.succ_le_succ b⟩
    | lst xs => obtain ⟨a, b⟩ := lists n ih xs h; exact ⟨a, Nat.succ_le_succ b⟩
    | _ => cases h
theorem canLayAll_py {n : Nat} : ∀ (ds : List D), ds.all (pureN n) = true → PyData.canLayAll0 (toPys ds) = true ∧ PyData.depthAll (toPys ds) ≤ n
  | [], _ => ⟨rfl, Nat.zero_le _⟩
  | d :: ds, h => by
    rw [List.all_cons, Bool.and_eq_true] at h
    obtain ⟨a1, a2⟩ := canLay_py n d h.1
    obtain ⟨b1, b2⟩ := canLayAll_py ds h.2
    exact ⟨by show (PyData.canLay0 (toPy d) && PyData.canLayAll0 (toPys ds)) = true; rw [a1, b1]; rfl, by show max (PyData.depth (toPy d)) (PyData.depthAll (toPys ds)) ≤ n; omega⟩
theorem SS_beq (a b : List Nat) : (SS a == SS b) = (a == b) := by
  by_cases h : a = b
  · subst h; simp
  · have h' : ¬ SS a = SS b := fun e => h (by
      have := congrArg (fun z : Str => z.cps.toList) e
      simpa using this)
    rw [beq_eq_false_iff_ne.mpr h, beq_eq_false_iff_ne.mpr h']
mutual
theorem eqv_py : ∀ (n : Nat) (a b : D), pureN n a = true → pureN n b = true → PyData.eqv (toPy a) (toPy b) = eqD a b
  | n, .non, b, _, hb => by cases b <;> first | rfl | (cases n <;> cases hb)
  | n, .bl x, b, _, hb => by cases b <;> first | rfl | (cases n <;> cases hb)
  | n, .int x, b, _, hb => by cases b <;> first | rfl | (cases n <;> cases hb)
  | n, .str x, b, _, hb => by
    cases b with
    | str y => exact SS_beq x y
    | _ => first | rfl | (cases n <;> cases hb)
  | 0, .tup x, b, ha, hb => by cases ha
  | 0, .lst x, b, ha, hb => by cases ha
  | n + 1, .tup x, b, ha, hb => by
    cases b with
    | tup y => exact eqvs_py n x y ha hb
    | _ => first | rfl | cases hb
  | n + 1, .lst x, b, ha, hb => by
    cases b with
    | lst y => exact eqvs_py n x y ha hb
    | _ => first | rfl | cases hb
  | n, .ref x, b, ha, hb => by cases n <;> cases ha
  | n, .fn x, b, ha, hb => by cases n <;> cases ha
  | n, .exn x, b, ha, hb => by cases n <;> cases ha
theorem eqvs_py : ∀ (n : Nat) (a b : List D), a.all (pureN n) = true → b.all (pureN n) = true → PyData.eqvAll (toPys a) (toPys b) = eqDs a b
  | _, [], [], _, _ => rfl
  | _, [], _ :: _, _, _ => rfl
  | _, _ :: _, [], _, _ => rfl
  | n, a :: as, b :: bs, ha, hb => by
    rw [List.all_cons, Bool.and_eq_true] at ha hb
    show (PyData.eqv (toPy a) (toPy b) && PyData.eqvAll (toPys as) (toPys bs)) = (eqD a b && eqDs as bs)
    rw [eqv_py n a b ha.1 hb.1, eqvs_py n as bs ha.2 hb.2]
end
section
variable {X : Cx} {pins : List (Addr × Obj)} {σ : St} {H : Hp} {s : Shared} {th : Th}
theorem reads_go (I : Inv X pins σ H s) (n : Nat) (ih : ∀ (d : D) (x : V) (v : Value), RepV X.K H th d x → pureN n d = true → RelV x v → ∃ as, Reads s.heap v (toPy d) as) :
    ∀ (ds : List D) (xs : List V) (vs : List Value), RepVs X.K H th ds xs → ds.all (pureN n) = true → Vals xs vs → ∃ as, ReadsAll s.heap vs (toPys ds) as
  | _, _, _, .nil, _, .nil => ⟨_, .nil⟩
  | _, _, _, .cons r rs, h, .cons v vs => by
    rw [List.all_cons, Bool.and_eq_true] at h
    obtain ⟨a, ra⟩ := ih _ _ _ r h.1 v
    obtain ⟨b, rb⟩ := reads_go I n ih _ _ _ rs h.2 vs
    exact ⟨_, .cons ra rb⟩
theorem RepV.reads (I : Inv X pins σ H s) : ∀ (n : Nat) (d : D) (x : V) (v : Value), RepV X.K H th d x → pureN n d = true → RelV x v → ∃ as, Reads s.heap v (toPy d) as := by
  intro n
  induction n with
  | zero =>
    intro d x v r h rv
    cases r with
    | non => cases rv; exact ⟨_, .none⟩
    | bl b => cases rv; exact ⟨_, .bool b⟩
    | int i => obtain ⟨t, rfl⟩ := rv; exact ⟨_, .int i t⟩
    | str z => obtain ⟨t, rfl⟩ := rv; exact ⟨_, .str _ t⟩
    | tup _ _ => cases h
    | lst _ _ _ => cases h
    | ref _ => cases h
    | fn _ => cases h
  | succ n ih =>
    intro d x v r h rv
    cases r with
    | non => cases rv; exact ⟨_, .none⟩
    | bl b => cases rv; exact ⟨_, .bool b⟩
    | int i => obtain ⟨t, rfl⟩ := rv; exact ⟨_, .int i t⟩
    | str z => obtain ⟨t, rfl⟩ := rv; exact ⟨_, .str _ t⟩
    | tup q rs =>
      cases rv
      obtain ⟨its, vv, ⟨o, ho, hc, k, hd⟩, hz⟩ := I.tuple q
      obtain ⟨as, ra⟩ := reads_go I n ih _ _ its rs h vv
      exact ⟨_, .tuple ho hc hd (by simpa using ra)⟩
    | lst q _ rs =>
      cases rv
      obtain ⟨its, vv, pl, hz⟩ := I.list q
      obtain ⟨o, ho, hc, k, hd⟩ := pl.isList
      obtain ⟨as, ra⟩ := reads_go I n ih _ _ its rs h vv
      exact ⟨_, .list ho hc hd (by simpa using ra)⟩
    | ref _ => cases h
    | fn _ => cases h
theorem RepW.reads (I : Inv X pins σ H s) (d : D) (x : V) (v : Value) (r : RepW X.K H th d x) (h : pureD d = true) (rv : RelV x v) : ∃ as, Reads s.heap v (toPy d) as := by
  cases d with
  | lst ds =>
    obtain ⟨a, vs, rfl, q, rs⟩ := r
    cases rv
    obtain ⟨its, vv, pl, hz⟩ := I.list q
    obtain ⟨o, ho, hc, k, hd⟩ := pl.isList
    obtain ⟨as, ra⟩ := reads_go I 15 (RepV.reads I 15) _ _ its rs h vv
    exact ⟨_, .list ho hc hd (by simpa using ra)⟩
  | _ => exact RepV.reads I 16 _ x v r h rv
theorem RepVs.reads (I : Inv X pins σ H s) (ds : List D) (xs : List V) (vs : List Value) (r : RepVs X.K H th ds xs) (h : pureDs ds = true) (rv : Vals xs vs) : ∃ as, ReadsAll s.heap vs (toPys ds) as :=
  reads_go I 16 (RepV.reads I 16) ds xs vs r h rv
theorem any_py (x : D) (hx : pureD x = true) : ∀ ys : List D, pureDs ys = true → ((toPys ys).any fun y => PyData.eqv y (toPy x)) = inD x ys
  | [], _ => rfl
  | y :: ys, h => by
    have h : (pureN 16 y && ys.all (pureN 16)) = true := h
    rw [Bool.and_eq_true] at h
    show (PyData.eqv (toPy y) (toPy x) || (toPys ys).any fun y => PyData.eqv y (toPy x)) = (eqD y x || inD x ys)
    rw [eqv_py 16 y x h.1 hx, any_py x hx ys h.2]
noncomputable def cmpV (op : CmpOp) (a b : D) : Option D := (cmpD op a b).map .bl
theorem op_cmpD (hu : X.A.units + 65 < cLine) (op : CmpOp) : OpR X (compareOp op) (rdOp X.K (cmpV op)) := by
  intro pins s σ H x y v u Q I rx ry h
  obtain ⟨th, ah, dx, dy, d, w, wx, wy, e, k⟩ := h
  unfold cmpV at e
  cases e1 : cmpD op dx dy with
  | none => rw [e1] at e; cases e
  | some b =>
    rw [e1] at e
    cases e
    have kk : Q (.bl b) H := k _ H (.bl b) w (Gr.refl _ _)
    unfold cmpD at e1
    split at e1
    · split at e1
      · rename_i hp
        rw [Bool.and_eq_true] at hp
        cases e1
        obtain ⟨as, ra⟩ := wx.reads I _ _ _ hp.1 rx
        obtain ⟨bs, rb⟩ := wy.reads I _ _ _ hp.2 ry
        obtain ⟨c1, d1⟩ := canLay_py 16 _ hp.1
        obtain ⟨c2, d2⟩ := canLay_py 16 _ hp.2
        refine SeqAt.compareEq_reads ra rb c1 c2 (by omega) ?_
        rw [eqv_py 16 _ _ hp.1 hp.2]
        exact ⟨.bl _, H, I, rfl, kk⟩
      · cases e1
    · split at e1
      · rename_i hp
        rw [Bool.and_eq_true] at hp
        cases e1
        obtain ⟨as, ra⟩ := wx.reads I _ _ _ hp.1 rx
        obtain ⟨bs, rb⟩ := wy.reads I _ _ _ hp.2 ry
        obtain ⟨c1, d1⟩ := canLay_py 16 _ hp.1
        obtain ⟨c2, d2⟩ := canLay_py 16 _ hp.2
        refine SeqAt.compareNe_reads ra rb c1 c2 (by omega) ?_
        rw [eqv_py 16 _ _ hp.1 hp.2]
        exact ⟨.bl _, H, I, rfl, kk⟩
      · cases e1
    · cases e1; cases wx.iint; cases wy.iint
      exact op_lt pins s σ H _ _ v u Q I rx ry ⟨_, _, rfl, rfl, kk⟩
    · cases e1; cases wx.iint; cases wy.iint
      exact op_le pins s σ H _ _ v u Q I rx ry ⟨_, _, rfl, rfl, kk⟩
    · cases e1; cases wx.iint; cases wy.iint
      exact op_gt pins s σ H _ _ v u Q I rx ry ⟨_, _, rfl, rfl, kk⟩
    · cases e1; cases wx.iint; cases wy.iint
      exact op_ge pins s σ H _ _ v u Q I rx ry ⟨_, _, rfl, rfl, kk⟩
    · cases e1; cases wy.inon
      refine op_isN pins s σ H _ _ v u Q I rx ry ⟨rfl, ?_⟩
      have e : decide (x = V.non) = isNon dx := by
        cases dx with
        | non => cases wx.inon; simp [isNon]
        | lst ds => obtain ⟨a, vs, rfl, _⟩ := wx; simp [isNon]
        | _ => cases (show RepV X.K H th _ x from wx) <;> simp [isNon]
      rw [e]; exact kk
    · cases e1; cases wy.inon
      refine op_notN pins s σ H _ _ v u Q I rx ry ⟨rfl, ?_⟩
      have e : (!decide (x = V.non)) = !isNon dx := by
        cases dx with
        | non => cases wx.inon; simp [isNon]
        | lst ds => obtain ⟨a, vs, rfl, _⟩ := wx; simp [isNon]
        | _ => cases (show RepV X.K H th _ x from wx) <;> simp [isNon]
      rw [e]; exact kk
    · split at e1
      · rename_i hp
        rw [Bool.and_eq_true] at hp
        cases e1
        obtain ⟨as, ra⟩ := wx.reads I _ _ _ hp.1 rx
        obtain ⟨a, vs, rfl, q, rs⟩ := wy.ilst
        cases ry
        obtain ⟨its, vv, pl, hz⟩ := I.list q
        obtain ⟨o, ho, hc, n, hd⟩ := pl.isList
        obtain ⟨bs, rb⟩ := rs.reads I _ _ its hp.2 vv
        obtain ⟨c1, d1⟩ := canLay_py 16 _ hp.1
        obtain ⟨c2, d2⟩ := canLayAll_py _ hp.2
        refine SeqAt.in_list_reads (.list ho hc hd (by simpa using rb)) ra c2 c1 (by omega) ?_
        rw [any_py _ hp.1 _ hp.2]
        exact ⟨.bl _, H, I, rfl, kk⟩
      · cases e1
    · split at e1
      · rename_i hp
        rw [Bool.and_eq_true] at hp
        cases e1
        obtain ⟨as, ra⟩ := wx.reads I _ _ _ hp.1 rx
        obtain ⟨a, vs, rfl, q, rs⟩ := wy.itup
        cases ry
        obtain ⟨its, vv, ⟨o, ho, hc, n, hd⟩, hz⟩ := I.tuple q
        obtain ⟨bs, rb⟩ := rs.reads I _ _ its hp.2 vv
        obtain ⟨c1, d1⟩ := canLay_py 16 _ hp.1
        obtain ⟨c2, d2⟩ := canLayAll_py _ hp.2
        refine SeqAt.in_tuple_reads (.tuple ho hc hd (by simpa using rb)) ra c2 c1 (by omega) ?_
        rw [any_py _ hp.1 _ hp.2]
        exact ⟨.bl _, H, I, rfl, kk⟩
      · cases e1
    · split at e1
      · rename_i hp
        rw [Bool.and_eq_true] at hp
        cases e1
        obtain ⟨as, ra⟩ := wx.reads I _ _ _ hp.1 rx
        obtain ⟨a, vs, rfl, q, rs⟩ := wy.ilst
        cases ry
        obtain ⟨its, vv, pl, hz⟩ := I.list q
        obtain ⟨o, ho, hc, n, hd⟩ := pl.isList
        obtain ⟨bs, rb⟩ := rs.reads I _ _ its hp.2 vv
        obtain ⟨c1, d1⟩ := canLay_py 16 _ hp.1
        obtain ⟨c2, d2⟩ := canLayAll_py _ hp.2
        refine SeqAt.notIn_list_reads (.list ho hc hd (by simpa using rb)) ra c2 c1 (by omega) ?_
        rw [any_py _ hp.1 _ hp.2]
        exact ⟨.bl _, H, I, rfl, kk⟩
      · cases e1
    · split at e1
      · rename_i hp
        rw [Bool.and_eq_true] at hp
        cases e1
        obtain ⟨as, ra⟩ := wx.reads I _ _ _ hp.1 rx
        obtain ⟨a, vs, rfl, q, rs⟩ := wy.itup
        cases ry
        obtain ⟨its, vv, ⟨o, ho, hc, n, hd⟩, hz⟩ := I.tuple q
        obtain ⟨bs, rb⟩ := rs.reads I _ _ its hp.2 vv
        obtain ⟨c1, d1⟩ := canLay_py 16 _ hp.1
        obtain ⟨c2, d2⟩ := canLayAll_py _ hp.2
        refine SeqAt.notIn_tuple_reads (.tuple ho hc hd (by simpa using rb)) ra c2 c1 (by omega) ?_
        rw [any_py _ hp.1 _ hp.2]
        exact ⟨.bl _, H, I, rfl, kk⟩
      · cases e1
    · cases e1
end
def Tra (h base : Heap) (e : Addr) (cls fl : Value) : Prop :=
  ∃ oe vs T oT ts, h.get? e = some oe ∧ oe.cls = cls ∧ oe.data = .fields vs ∧ vs[1]? = some (.ref T) ∧ vs[2]? = some .none ∧ base.get? T = none ∧ T ≠ e ∧ h.get? T = some oT ∧ oT.data = .fields ts ∧ ts[3]? = some fl
def Fly (base : Heap) (l : List Env) (e : Addr) (cls fl : Value) (h : Heap) : Prop := base.StaysIn h ∧ base.get? e = none ∧ h.FunFrames base l ∧ Tra h base e cls fl
theorem Fly.there {base h : Heap} {l : List Env} {e : Addr} {cls fl : Value} (x : Fly base l e cls fl h) : ∃ ob vs, h.get? e = some ob ∧ ob.cls = cls ∧ ob.data = .fields vs ∧ vs[2]? = some .none := by
  obtain ⟨_, _, _, oe, vs, _, _, _, a, b, c, _, d, _⟩ := x
  exact ⟨oe, vs, a, b, c, d⟩
section
variable {M : Model} {A : Around} {E : Value → Shared → Prop} {s : Shared} {base : Heap} {env : Env} {outer : List Env} {L e : Addr}
theorem fly_entry {ob : Obj} {rec : Array Value} {head : Value} {nx : Bool} {Q : Unit → Shared → Prop} (fr : A.frames = some (env :: outer)) (ff : s.heap.FunFrames base (env :: outer)) (ef : env.frame = some L)
    (eo : s.heap.get? e = some ob) (kb : base.StaysIn s.heap) (ne : base.get? e = none) (da : ob.data = .fields rec) (c2 : rec[2]? = some .none)
    (k : ∀ h', Fly base (env :: outer) e ob.cls (rawInt L) h' → s.heap.UpToSlots h' → Q () { s with heap := h' }) :
    wpAny M A (do let a ← frameOf env; let pl ← entryPlaceOf L nx; let b ← EntryCells.newEntry head a .none (rawInt L) .none pl; setField (.ref e) 1 b) Q E s := by
  have sz : 2 < rec.size := (Array.getElem?_eq_some_iff.mp c2).1
  have notFr : e ∉ (env :: outer).filterMap (·.frame) := fun m => by
    obtain ⟨_, o, g1, g2⟩ := ff.mem m
    rw [eo] at g1
    cases g1
    exact g2 rec da
  refine wpAny_bind (wpAny_frameOf_fun fr ff ef fun h1 so => wpAny_bind (wpAny_entryPlaceOf fun pl isp => ?_))
  unfold EntryCells.newEntry newFields
  refine wpAny_bind (wpAny_newObj_type ?_ (isp.sizeOk5 _ _ _ _ _))
  generalize hTb : ({ cls := .type "traceback", dict := none, data := .fields ([head, .ref L, .none, rawInt L, .none] ++ (if pl.isEmpty then List.replicate 6 Value.none else pl)).toArray } : Obj) = tb
  have tbd : tb.data = .fields ([head, .ref L, .none, rawInt L, .none] ++ (if pl.isEmpty then List.replicate 6 Value.none else pl)).toArray := by rw [← hTb]
  have tbf : tb.isFreed = false := by rw [← hTb]; rfl
  have e1 : h1.get? e = some ob := (so.2.1 e notFr).trans eo
  have kb1 : base.StaysIn h1 := fun b o q => (so.2.1 b fun m => by rw [(ff.mem m).1] at q; cases q).trans (kb b o q)
  have e2 : (h1.push tb).get? e = some ob := Heap.get?_push_of_some _ e1
  have tE : h1.objs.size ≠ e := Nat.ne_of_gt (Heap.lt_size e1)
  refine wpAny_setField e2 da (by omega) ?_
  have da3 := Obj.data_mapFields da (·.setIfInBounds 1 (Value.ref h1.objs.size))
  have e3 := Heap.get?_update_self (Obj.mapFields (·.setIfInBounds 1 (Value.ref h1.objs.size))) e2 (Obj.isFreed_of_fields da3)
  have t3 : ((h1.push tb).update e (Obj.mapFields (·.setIfInBounds 1 (Value.ref h1.objs.size)))).get? h1.objs.size = some tb := (Heap.get?_update_other _ _ (Ne.symm tE)).trans (Heap.get?_push_size h1 tbf)
  have kp : ∀ b o, b ≠ e → h1.get? b = some o → ((h1.push tb).update e (Obj.mapFields (·.setIfInBounds 1 (Value.ref h1.objs.size)))).get? b = some o := fun b o nb q => by
    rw [Heap.get?_update_other _ _ (Ne.symm nb)]
    exact Heap.get?_push_of_some _ q
  have nr : ∀ b o, s.heap.get? b = some o → (∀ vs, o.data ≠ .fields vs) → b ≠ e := fun b o q nf z => by
    rw [z, eo] at q
    cases q
    exact nf rec da
  refine k _ ⟨fun b o q => kp b o (fun z => by rw [z, ne] at q; cases q) (kb1 b o q), ne, ff.of_keeps fun b o q nf => ?_, ?_⟩ fun b o q nf => ?_
  · obtain ⟨sl, q2⟩ := so.2.2 b o q
    exact ⟨_, kp b _ (nr b o q nf) q2, rfl⟩
  · have s1 : 1 < rec.size := by omega
    refine ⟨_, rec.setIfInBounds 1 (.ref h1.objs.size), h1.objs.size, tb, _, e3, Obj.cls_mapFields _ _, da3, by simp [s1], by rw [Array.getElem?_setIfInBounds_ne (by decide)]; exact c2, kb1.fresh, tE, t3, tbd, ?_⟩
    first | (simp; done) | (rcases isp with rfl | ⟨_, _, _, _, _, _, _, rfl⟩ <;> simp)
  · obtain ⟨sl, q2⟩ := so.2.2 b o q
    exact ⟨sl, kp b _ (nr b o q nf) q2⟩
theorem fly_note0 {ob : Obj} {rec : Array Value} {Q : Unit → Shared → Prop} (fr : A.frames = some (env :: outer)) (ff : s.heap.FunFrames base (env :: outer)) (ef : env.frame = some L)
    (eo : s.heap.get? e = some ob) (kb : base.StaysIn s.heap) (ne : base.get? e = none) (da : ob.data = .fields rec) (c1 : rec[1]? = some .none) (c2 : rec[2]? = some .none)
    (k : ∀ h', Fly base (env :: outer) e ob.cls (rawInt L) h' → s.heap.UpToSlots h' → Q () { s with heap := h' }) : wpAny M A (noteFrame (.ref e) env) Q E s := by
  unfold noteFrame
  simp only [ef]
  refine wpAny_bind (wpAny_field eo da c1 ?_)
  rw [if_neg (by decide)]
  exact fly_entry fr ff ef eo kb ne da c2 k
theorem fly_note {cls : Value} {Q : Unit → Shared → Prop} (fr : A.frames = some (env :: outer)) (ef : env.frame = some L) (fl : Fly base (env :: outer) e cls .none s.heap)
    (k : ∀ h', Fly base (env :: outer) e cls (rawInt L) h' → s.heap.UpToSlots h' → Q () { s with heap := h' }) : wpAny M A (noteFrame (.ref e) env) Q E s := by
  obtain ⟨kb, ne, ff, ob, rec, T, oT, ts, eo, rfl, da, c1, c2, nT, tE, eT, dT, c3⟩ := fl
  unfold noteFrame
  simp only [ef]
  refine wpAny_bind (wpAny_field eo da c1 ?_)
  rw [if_pos (show (Value.ref T != Value.none) = true by simp)]
  refine wpAny_bind (wpAny_field eT dT c3 ?_)
  rw [if_neg (show ¬ ((Value.none == rawInt L) = true) by simp [rawInt])]
  refine wpAny_bind (wpAny_setField eT dT (Array.getElem?_eq_some_iff.mp c3).1 ?_)
  have ot : ∀ b, b ≠ T → (s.heap.update T (Obj.mapFields (·.setIfInBounds 3 Value.none))).get? b = s.heap.get? b := fun b nb => Heap.get?_update_other _ _ (Ne.symm nb)
  have nr : ∀ b o, s.heap.get? b = some o → (∀ vs, o.data ≠ .fields vs) → b ≠ T := fun b o q nf z => by
    rw [z, eT] at q
    cases q
    exact nf ts dT
  refine fly_entry (s := { s with heap := s.heap.update T (Obj.mapFields (·.setIfInBounds 3 Value.none)) }) fr (ff.of_keeps fun b o q nf => ⟨o, (ot b (nr b o q nf)).trans q, rfl⟩) ef ((ot e (Ne.symm tE)).trans eo) (fun b o q => (ot b fun z => by rw [z, nT] at q; cases q).trans (kb b o q)) ne da c2 fun h' f' u => ?_
  exact k h' f' fun b o q nf => u b o ((ot b (nr b o q nf)).trans q) nf
theorem fly_land {l : List Env} {cls fl : Value} {Q : Unit → Shared → Prop} (x : Fly base l e cls fl s.heap) (k : ∀ h', Fly base l e cls .none h' → s.heap.UpToSlots h' → Q () { s with heap := h' }) : wpAny M A (setFlight (.ref e) none) Q E s := by
  obtain ⟨kb, ne, ff, ob, rec, T, oT, ts, eo, ec, da, c1, c2, nT, tE, eT, dT, c3⟩ := x
  have sz : 3 < ts.size := (Array.getElem?_eq_some_iff.mp c3).1
  unfold setFlight
  refine wpAny_bind (wpAny_field eo da c1 ?_)
  rw [if_pos (show (Value.ref T != Value.none) = true by simp)]
  refine wpAny_setField eT dT sz ?_
  have ot : ∀ b, b ≠ T → (s.heap.update T (Obj.mapFields (·.setIfInBounds 3 ((none : Option Addr).elim Value.none fun f => rawInt f)))).get? b = s.heap.get? b := fun b nb => Heap.get?_update_other _ _ (Ne.symm nb)
  have nr : ∀ b o, s.heap.get? b = some o → (∀ vs, o.data ≠ .fields vs) → b ≠ T := fun b o q nf z => by
    rw [z, eT] at q
    cases q
    exact nf ts dT
  refine k _ ⟨fun b o q => (ot b fun z => by rw [z, nT] at q; cases q).trans (kb b o q), ne, ff.of_keeps fun b o q nf => ⟨o, (ot b (nr b o q nf)).trans q, rfl⟩, ?_⟩ fun b o q nf => ⟨o.slots, (ot b (nr b o q nf)).trans q⟩
  exact ⟨ob, rec, T, _, _, (ot e (Ne.symm tE)).trans eo, ec, da, c1, c2, nT, tE, Heap.get?_update_self _ eT (Obj.isFreed_of_fields (Obj.data_mapFields dT _)), Obj.data_mapFields dT _, by simp [sz]⟩
theorem Fly.inner {cls fl : Value} {h : Heap} (x : Fly base (env :: outer) e cls fl h) : Fly base outer e cls fl h := ⟨x.1, x.2.1, x.2.2.1.2.2, x.2.2.2⟩
theorem fly_leave {cls : Value} {Q : Unit → Shared → Prop} (fr : A.frames = some (env :: outer)) (ef : env.frame = some L) (fl : Fly base (env :: outer) e cls .none s.heap)
    (k : ∀ h', Fly base outer e cls .none h' → s.heap.UpToSlots h' → Q () { s with heap := h' }) : wpAny M A (leaving env (.ref e)) Q E s := by
  unfold leaving
  exact wpAny_bind (fly_note fr ef fl fun h' f1 u1 => fly_land f1 fun h'' f2 u2 => k h'' f2.inner (u1.trans u2))
theorem fly_leave0 {h0 : Heap} {cls : Value} {args : List Value} {Q : Unit → Shared → Prop} (fr : A.frames = some (env :: outer)) (ef : env.frame = some L) (kb : base.StaysIn h0) (ff : h0.FunFrames base (env :: outer)) (mx : Heap.MadeExcOf h0 s.heap e cls args)
    (k : ∀ h', Fly base outer e cls .none h' → s.heap.UpToSlots h' → Q () { s with heap := h' }) : wpAny M A (leaving env (.ref e)) Q E s := by
  obtain ⟨t, eo, _, _⟩ := mx.there
  have ne : base.get? e = none := by
    cases q : base.get? e with
    | none => rfl
    | some o => have := kb e o q; rw [mx.new] at this; cases this
  unfold leaving
  exact wpAny_bind (fly_note0 fr (ff.of_keeps fun b o q _ => ⟨o, mx.keeps b o q, rfl⟩) ef eo (fun b o q => mx.keeps b o (kb b o q)) ne rfl rfl rfl fun h' f1 u1 => fly_land f1 fun h'' f2 u2 => k h'' f2.inner (u1.trans u2))
end
noncomputable def CXM (P : Program) (w : World) : CXT := fun outer H s E e s' =>
  ∃ (ea C : Addr) (B : Heap) (H' : Hp), e = .ref ea ∧ s'.os = s.os ∧ AllBare s'.gens ∧ Un (frs outer) [] H H' s.heap s'.heap ∧ HOk P w H' B ∧
    (∀ b o, s.heap.get? b = some o → H b = none → b ∉ frs outer → B.get? b = some o) ∧ (∀ b o, s.heap.get? b = some o → b ∉ frs outer → ∃ o', B.get? b = some o') ∧
    Fly B outer ea (.ref C) .none s'.heap ∧ E (.ref C) none H'
theorem passX0 {P : Program} {w : World} {X : Cx} : Passes (CXM P w) X E0 := fun _ _ _ _ _ _ _ h => by
  obtain ⟨_, _, _, _, _, _, _, _, _, _, _, _, z⟩ := h
  exact z.elim
theorem hok_hide {P : Program} {w : World} {H : Hp} {h : Heap} {fs : List Addr} (x : HOk P w H h) (hf : ∀ b ∈ fs, H b = none) : HOk P w H (PySem.W.hideAll h fs) := fun a o e =>
  (x a o e).stay (fun b u hb q => PySem.W.hideAll_get _ q fun m => by
    have n := hf b m
    rcases hb with rfl | hb
    · rw [e] at n; cases n
    · rw [hb] at n; cases n) (fun _ q => q) fun _ _ q => q
section
variable {X : Cx} {pins : List (Addr × Obj)} {σ : L2.St} {H H' : Hp} {s s' : Shared} {E : XK}
theorem frs_cons {env : Env} {outer : List Env} {L : Addr} (hf : env.frame = some L) : frs (env :: outer) = L :: frs outer := by
  unfold frs
  rw [List.filterMap_cons, hf]
theorem leave_made {h1 : Heap} {e C : Addr} {vs : List Value} {E' : Value → Shared → Prop} (hst : X.stack = X.env :: X.outer) (hf : X.env.frame = some X.env.locals) (hex : X.ex = []) (I : Inv X pins σ H s) (hx : Heap.MadeExcOf s.heap h1 e (.ref C) vs) (q : E (.ref C) none H) :
    wpAny (model X.prog X.w) X.A (leaving X.env (.ref e)) (fun _ s'' => CXM X.prog X.w X.outer X.H₀ X.s₀ E (.ref e) s'') E' { s with heap := h1 } := by
  have hfr : X.A.frames = some (X.env :: X.outer) := by rw [← hst]; exact I.ok.frames
  have stk := I.stack
  have free : ∀ b ∈ frs X.stack, H b = none := I.stkFree
  rw [hst] at stk free
  have efs := frs_cons (outer := X.outer) hf
  have hin : ∀ env ∈ (X.env :: X.outer), ∀ b, env.frame = some b → b ∈ frs (X.env :: X.outer) := fun env he b hb => List.mem_filterMap.mpr ⟨env, he, hb⟩
  refine fly_leave0 (base := PySem.W.hideAll s.heap (frs (X.env :: X.outer))) (h0 := s.heap) hfr hf (fun b o q => PySem.W.of_hideAll _ q) (PySem.W.funFrames_hide stk hin) hx fun h' fl us => ?_
  have hB : ∀ b o, s.heap.get? b = some o → b ∉ frs (X.env :: X.outer) → (PySem.W.hideAll s.heap (frs (X.env :: X.outer))).get? b = some o := fun b o q n => PySem.W.hideAll_get _ q n
  have old : ∀ b o, X.s₀.heap.get? b = some o → b ≠ X.env.locals := fun b o q z => by
    have := Heap.lt_size q
    rw [z] at this
    exact absurd (Nat.lt_of_lt_of_le this I.ok.above) (Nat.lt_irrefl _)
  have nin : ∀ b, b ∉ frs X.outer → b ≠ X.env.locals → b ∉ frs (X.env :: X.outer) := fun b h1 h2 h3 => by
    rw [efs] at h3
    rcases List.mem_cons.mp h3 with z | z
    · exact h2 z
    · exact h1 z
  have ub := I.base
  rw [hex] at ub
  have stay := fl.1
  refine ⟨e, C, _, H, rfl, I.os, I.bare, ?_, hok_hide I.hok free, fun b o q1 q2 q3 => ?_, fun b o q1 q3 => ?_, fl, q⟩
  · refine ⟨fun b o q1 q2 q3 q4 => ?_, fun b o q1 q2 q3 q4 => ?_, ub.free, fun b o q1 q4 => ?_, ub.tups, ub.frzs, ub.tbls⟩
    · exact stay b o (hB b o (ub.keep b o q1 q2 q3 q4) (nin b q3 (old b o q1)))
    · obtain ⟨sl, e1⟩ := ub.slot b o q1 q2 q3 q4
      have m : b ∈ frs (X.env :: X.outer) := by rw [efs]; exact List.mem_cons_of_mem _ q3
      obtain ⟨_, ob, e2, e3⟩ := stk.mem m
      rw [e1] at e2
      cases e2
      obtain ⟨sl', e4⟩ := us b _ (hx.keeps _ _ e1) e3
      exact ⟨sl', e4⟩
    · by_cases m : b ∈ frs X.outer
      · obtain ⟨o1, e1⟩ := ub.there b o q1 q4
        have m' : b ∈ frs (X.env :: X.outer) := by rw [efs]; exact List.mem_cons_of_mem _ m
        obtain ⟨_, ob, e2, e3⟩ := stk.mem m'
        rw [e1] at e2
        cases e2
        obtain ⟨sl', e4⟩ := us b _ (hx.keeps _ _ e1) e3
        exact ⟨_, e4⟩
      · obtain ⟨o1, e1⟩ := ub.there b o q1 q4
        exact ⟨o1, stay b o1 (hB b o1 e1 (nin b m (old b o q1)))⟩
  · exact hB b o (ub.keep b o q1 q2 q3 (by simp)) (nin b q3 (old b o q1))
  · obtain ⟨o1, e1⟩ := ub.there b o q1 (by simp)
    exact ⟨o1, hB b o1 e1 (nin b q3 (old b o q1))⟩
theorem leave_on {e : Value} {E' : Value → Shared → Prop} (hst : X.stack = X.env :: X.outer) (hf : X.env.frame = some X.env.locals) (hex : X.ex = []) (I : Inv X pins σ H s) (q : CXM X.prog X.w X.stack H s E e s') :
    wpAny (model X.prog X.w) X.A (leaving X.env e) (fun _ s'' => CXM X.prog X.w X.outer X.H₀ X.s₀ E e s'') E' s' := by
  obtain ⟨ea, C, B, H', rfl, os, bare, un, hok, kB, tB, fl, q⟩ := q
  have hfr : X.A.frames = some (X.env :: X.outer) := by rw [← hst]; exact I.ok.frames
  have efs := frs_cons (outer := X.outer) hf
  have hoks : HOk X.prog X.w H' s'.heap := hok.kept fl.1
  have I' : Inv X pins σ H' s' := I.call' os un hoks bare fun b z => absurd z (by simp)
  rw [hst] at fl kB tB
  refine fly_leave hfr hf fl fun h' fl' us => ?_
  have old : ∀ b o, X.s₀.heap.get? b = some o → b ≠ X.env.locals := fun b o q z => by
    have := Heap.lt_size q
    rw [z] at this
    exact absurd (Nat.lt_of_lt_of_le this I.ok.above) (Nat.lt_irrefl _)
  have nin : ∀ b, b ∉ frs X.outer → b ≠ X.env.locals → b ∉ frs (X.env :: X.outer) := fun b h1 h2 h3 => by
    rw [efs] at h3
    rcases List.mem_cons.mp h3 with z | z
    · exact h2 z
    · exact h1 z
  have ub := I.base
  have ub' := I'.base
  rw [hex] at ub ub'
  have stay := fl'.1
  have kB' : ∀ b o, X.s₀.heap.get? b = some o → X.H₀ b = none → b ∉ frs X.outer → B.get? b = some o := fun b o q1 q2 q3 =>
    kB b o (ub.keep b o q1 q2 q3 (by simp)) (ub.free b o q1 q2 (by simp)) (nin b q3 (old b o q1))
  have tB' : ∀ b o, X.s₀.heap.get? b = some o → b ∉ frs X.outer → ∃ o', B.get? b = some o' := fun b o q1 q3 => by
    obtain ⟨o1, e1⟩ := ub.there b o q1 (by simp)
    exact tB b o1 e1 (nin b q3 (old b o q1))
  refine ⟨ea, C, B, H', rfl, os.trans I.os, bare, ?_, hok, kB', tB', fl', q⟩
  refine ⟨fun b o q1 q2 q3 q4 => stay b o (kB' b o q1 q2 q3), fun b o q1 q2 q3 q4 => ?_, ub'.free, fun b o q1 q4 => ?_, ub'.tups, ub'.frzs, ub'.tbls⟩
  · obtain ⟨sl, e1⟩ := ub'.slot b o q1 q2 q3 q4
    have m : b ∈ frs (X.env :: X.outer) := by rw [efs]; exact List.mem_cons_of_mem _ q3
    obtain ⟨_, ob, e2, e3⟩ := fl.2.2.1.mem m
    rw [e1] at e2
    cases e2
    obtain ⟨sl', e4⟩ := us b _ e1 e3
    exact ⟨sl', e4⟩
  · by_cases m : b ∈ frs X.outer
    · obtain ⟨o1, e1⟩ := ub'.there b o q1 q4
      have m' : b ∈ frs (X.env :: X.outer) := by rw [efs]; exact List.mem_cons_of_mem _ m
      obtain ⟨_, ob, e2, e3⟩ := fl.2.2.1.mem m'
      rw [e1] at e2
      cases e2
      obtain ⟨sl', e4⟩ := us b _ e1 e3
      exact ⟨_, e4⟩
    · obtain ⟨o1, e1⟩ := tB' b o q1 m
      exact ⟨o1, stay b o1 e1⟩
end
def XM (X : Cx) (E : XK) : Prop := ∀ {pins : List (Addr × Obj)} {σ : L2.St} {H : Hp} {s : Shared} {h1 : Heap} {e C : Addr} {vs : List Value}, Inv X pins σ H s → Heap.MadeExcOf s.heap h1 e (.ref C) vs → E (.ref C) none H → X.xe (.ref e) { s with heap := h1 }
def XC (X : Cx) (E : XK) : Prop := Passes (CXM X.prog X.w) X E
theorem xm_def {P : Program} {w : World} {K : PySem.W.Frag} {mg : Str → Option Value} {base : Heap} {N : List Str} {qual : Str} {scope : Scope} {f : Addr} {cd : Value} {A : Around} {outer : List Env} {s : Shared} {H : Hp} {E : XK} :
    XM (cxOf (CXM P w) P w K mg base N qual scope f cd A outer s H E) E :=
  fun I hx q => leave_made (X := cxOf (CXM P w) P w K mg base N qual scope f cd A outer s H E) rfl rfl rfl I hx q
theorem xc_def {P : Program} {w : World} {K : PySem.W.Frag} {mg : Str → Option Value} {base : Heap} {N : List Str} {qual : Str} {scope : Scope} {f : Addr} {cd : Value} {A : Around} {outer : List Env} {s : Shared} {H : Hp} {E : XK} :
    XC (cxOf (CXM P w) P w K mg base N qual scope f cd A outer s H E) E :=
  fun pins σ H' s' e s'' I q => leave_on (X := cxOf (CXM P w) P w K mg base N qual scope f cd A outer s H E) rfl rfl rfl I q
theorem xc_own {P : Program} {w : World} {K : PySem.W.Frag} {mg : Str → Option Value} {base : Heap} {N : List Str} {qual : Str} {scope : Scope} {f : Addr} {cd : Value} {A : Around} {outer : List Env} {s : Shared} {H : Hp} {E : XK} :
    PassesOwn (model P w) (cxOf (CXM P w) P w K mg base N qual scope f cd A outer s H E).A (cxOf (CXM P w) P w K mg base N qual scope f cd A outer s H E).env (cxOf (CXM P w) P w K mg base N qual scope f cd A outer s H E).xe := PassesOwn.leaving
noncomputable def ecV (mg : Str → Option Value) (c : Nat) : Value := match errs[c]? with
  | some x => (mg x).getD .none
  | none => .none
noncomputable def spOf (K : PySem.W.Frag) (mg : Str → Option Value) (n : Nat) (f : Den) : Sp := fun vs H Q E => vs.length = n ∧ ∃ th h ds, Wd K th h H ∧ RepVs K H th ds vs ∧
  match f ds h with
  | .ok d h' => ∀ v H' th', RepV K H' th' d v → Wd K th' h' H' → Gr th th' H H' → Q v H'
  | .exc c h' => ∀ H' th', Wd K th' h' H' → Gr th th' H H' → E (ecV mg c) none H'
  | .bad => False
noncomputable def toE (mg : Str → Option Value) (EX : Nat → Hp → Prop) : XK := fun cls _ H => ∃ c, cls = ecV mg c ∧ EX c H
structure FnM (X : Cx) (k : Nat) (x : Str) (f : Den) : Prop where
  ex : ∃ (fa : Addr) (fd : FuncData) (ps : List Str), X.mg x = some (.ref fa) ∧ PySem.W.keepIn X.K (.ref fa) = true ∧
    FnOk X.prog X.w X.K X.mg X.base (CXM X.prog X.w) k fa fd ps (spOf X.K X.mg ps.length f) ∧ Binds X.K fd ps [] ∧ ∀ ds h, f ds h ≠ .bad → ds.length = ps.length
structure CtxOk (X : Cx) (C : CC) (G : List Den) (k : Nat) : Prop where
  N : X.N = C.N
  nm : X.env.scope.names = C.nm
  nd : C.N.Nodup
  calm : X.calm = true
  room : Room k X.A
  ct : ∀ x d, C.ct.lookup x = some d → ∃ u v, X.mg x = some u ∧ RelV v u ∧ ∀ H th, RepV X.K H th d v
  fs : ∀ (i : Nat) x f, C.fs[i]? = some x → G[i]? = some f → FnM X k x f
  bl : ∀ x, C.bl.contains x = true → X.mg x = none
  gl : ∀ x a, PySem.W.nsIn X.K mainGlobals x = some (some (.ref a)) → X.mg x = some (.ref a)
  fa : ∀ x, C.fs.contains x = true → ∃ a, PySem.W.nsIn X.K mainGlobals x = some (some (.ref a))
def ErrOk (mg : Str → Option Value) (base : Heap) (c : Nat) : Prop := ∃ x C bm nid B iid, errs[c]? = some x ∧ OwnCls x C bm nid mg base ∧ ExcBaseFacts B nid iid bm
structure CtxS (X : Cx) (C : CC) (G : List Den) (k : Nat) (EX : Nat → Hp → Prop) : Prop where
  ok : CtxOk X C G k
  xc : XC X (toE X.mg EX)
  xm : C.er = [] ∨ XM X (toE X.mg EX)
  st : X.stack = X.env :: X.outer ∧ X.env.frame = some X.env.locals ∧ X.ex = []
  af : ∀ x, X.fn x = true
  er : ∀ c, C.er.contains c = true → ErrOk X.mg X.base c
  fn : ∀ x, isLoc (lk C.nm x) = true → X.fn x = true ∨ X.env.scope.names.lookup x = some .local
  own : PassesOwn (model X.prog X.w) X.A X.env X.xe
section
variable {X : Cx} {C : CC} {G : List Den} {k : Nat}
theorem CtxOk.units (O : CtxOk X C G k) : X.A.units + 65 < cLine := by have := O.room.un; omega
theorem lookupEq {x : Str} (O : CtxOk X C G k) : X.env.scope.names.lookup x = lk C.nm x := by rw [O.nm]; rfl
theorem isVis_vis {x : Str} (O : CtxOk X C G k) (h : isVis (lk C.nm x) = true) : Vis X.env.scope x := by
  unfold Vis
  rw [lookupEq O]
  cases e : lk C.nm x with
  | none => rw [e] at h; cases h
  | some q =>
    rw [e] at h
    cases q with
    | «local» => exact .inl rfl
    | cell => exact .inr (.inl rfl)
    | free => exact .inr (.inr rfl)
    | globalExplicit => cases h
    | globalImplicit => cases h
theorem isLoc_loc {x : Str} (O : CtxOk X C G k) (h : isLoc (lk C.nm x) = true) : L2.Loc X.env.scope x := by
  unfold L2.Loc
  rw [lookupEq O]
  cases e : lk C.nm x with
  | none => rw [e] at h; cases h
  | some q =>
    rw [e] at h
    cases q with
    | «local» => exact .inl rfl
    | cell => exact .inr rfl
    | free => cases h
    | globalExplicit => cases h
    | globalImplicit => cases h
theorem plain_debug {x : Str} (h : plainName x = true) : (x == ("__debug__" : Str)) = false ∧ (x == ("__classdict__" : Str)) = false ∧ x ≠ "__name__" := by
  unfold plainName at h
  rw [Bool.and_eq_true, Bool.and_eq_true] at h
  obtain ⟨⟨h1, h2⟩, h3⟩ := h
  refine ⟨by simpa using h1, by simpa using h2, ?_⟩
  intro e
  rw [e] at h3
  simp at h3
theorem findIdx_get {x : Str} {i : Nat} : ∀ {l : List Str}, l.findIdx? (· == x) = some i → l[i]? = some x := by
  intro l h
  obtain ⟨h1, h2, _⟩ := List.findIdx?_eq_some_iff_getElem.mp h
  rw [List.getElem?_eq_getElem h1]
  simpa using h2
theorem var_ok {x : Str} {i : Nat} (O : CtxOk X C G k) (h : C.var x = some i) : X.N[i]? = some x ∧ Vis X.env.scope x ∧ plainName x = true := by
  unfold CC.var at h
  split at h
  · rename_i hc
    rw [Bool.and_eq_true] at hc
    rw [O.N]
    exact ⟨findIdx_get h, isVis_vis O hc.1, hc.2⟩
  · cases h
theorem isGl_ok {x : Str} (O : CtxOk X C G k) (h : C.isGl x = true) : Gl X x ∧ plainName x = true := by
  unfold CC.isGl at h
  rw [Bool.and_eq_true] at h
  refine ⟨?_, h.2⟩
  show X.env.scope.names.lookup x = some .globalImplicit
  rw [lookupEq O]
  simpa using h.1
theorem e_con {c : Const} {j : Nat} {pos : Pos} {d : D} {v : V} (hp : PE X (.Constant c j pos) (tC v)) (r : ∀ H th, RepV X.K H th d v) : PE X (.Constant c j pos) (rdE X.K G (.con d)) := by
  refine hp.imp fun σ H Q ⟨th, ρ, h, d', h', w, e, q, kk⟩ => ?_
  cases q
  exact kk v H th (r H th) w (Gr.refl _ _)
theorem e_var {x : Str} {i : Nat} {pos : Pos} (O : CtxOk X C G k) (h : C.var x = some i) : PE X (.Name x pos) (rdE X.K G (.var i)) := by
  obtain ⟨h1, h2, h3⟩ := var_ok O h
  obtain ⟨h4, h5, _⟩ := plain_debug h3
  refine (pe_var h1 h2 h4 h5).imp fun σ H Q ⟨th, ρ, ah, d', h', w, e, q, kk⟩ => ?_
  unfold ev at q
  cases g : getV ρ i with
  | none => rw [g] at q; cases q
  | some d =>
    rw [g] at q
    cases q
    obtain ⟨v, e1, r1⟩ := e.val i _ g
    exact ⟨v, e1, kk v H th r1 w (Gr.refl _ _)⟩
theorem e_glob {x : Str} {d : D} {pos : Pos} (O : CtxOk X C G k) (hg : C.isGl x = true) (h : C.ct.lookup x = some d) : PE X (.Name x pos) (rdE X.K G (.con d)) := by
  obtain ⟨g, pl⟩ := isGl_ok O hg
  obtain ⟨h4, h5, _⟩ := plain_debug pl
  obtain ⟨u, v, hm, r, rr⟩ := O.ct x d h
  refine (pe_glob g hm r h4).imp fun σ H Q ⟨th, ρ, ah, d', h', w, e, q, kk⟩ => ?_
  cases q
  exact kk v H th (rr H th) w (Gr.refl _ _)
theorem e_bin {a b : Expr} {p q : PX} {op : Operator} {pos : Pos} (ha : PE X a (rdE X.K G p)) (hb : PE X b (rdE X.K G q)) : PE X (.BinOp a op b pos) (rdE X.K G (.bin op p q)) := by
  refine (pe_op (op_binD op) ha hb).imp fun σ H Q ⟨th, ρ, h, d, h', w, e, e1, kk⟩ => ?_
  unfold ev at e1
  obtain ⟨⟨d1, h1⟩, q1, e1⟩ := Option.bind_eq_some_iff.mp e1
  obtain ⟨⟨d2, h2⟩, q2, e1⟩ := Option.bind_eq_some_iff.mp e1
  obtain ⟨d3, q3, e1⟩ := Option.bind_eq_some_iff.mp e1
  cases e1
  exact rd2 w e q1 q2 fun x y H' th' r1 r2 w' g => ⟨th', _, _, _, _, w', r1.view w', r2.view w', q3, fun v H2 r w2 g2 => kk v H2 th' r w2 (g.trans g2)⟩
theorem e_cmp {a b : Expr} {p q : PX} {op : CmpOp} {pos : Pos} (O : CtxOk X C G k) (ha : PE X a (rdE X.K G p)) (hb : PE X b (rdE X.K G q)) (hm : behindInMarks op b = false) : PE X (.Compare a [op] [b] pos) (rdE X.K G (.cmp op p q)) := by
  refine (pe_cmpR (op_cmpD O.units op) ha hb hm).imp fun σ H Q ⟨th, ρ, h, d, h', w, e, e1, kk⟩ => ?_
  unfold ev at e1
  obtain ⟨⟨d1, h1⟩, q1, e1⟩ := Option.bind_eq_some_iff.mp e1
  obtain ⟨⟨d2, h2⟩, q2, e1⟩ := Option.bind_eq_some_iff.mp e1
  obtain ⟨d3, q3, e1⟩ := Option.bind_eq_some_iff.mp e1
  cases e1
  exact rd2 w e q1 q2 fun x y H' th' r1 r2 w' g => ⟨th', _, _, _, _, w', r1.view w', r2.view w', by unfold cmpV; rw [q3]; rfl, fun v H2 r w2 g2 => kk v H2 th' r w2 (g.trans g2)⟩
noncomputable def rdB (K : PySem.W.Frag) (G : List Den) (b : PB) : TT := fun σ H Q => ∃ th ρ h c h', Wd K th h H ∧ EnvR K H th ρ σ ∧ evB G b ρ h = some (c, h') ∧ ∀ H' th', Wd K th' h' H' → Gr th th' H H' → Q c H'
theorem t_cmp {a b : Expr} {p q : PX} {op : CmpOp} {pos : Pos} (O : CtxOk X C G k) (ha : PE X a (rdE X.K G p)) (hb : PE X b (rdE X.K G q)) (hm : behindInMarks op b = false) : PT X (.Compare a [op] [b] pos) (rdB X.K G (.val (.cmp op p q))) := by
  refine (pt_cmpR (op_cmpD O.units op) ha hb hm).imp fun σ H Q ⟨th, ρ, h, c, h', w, e, e1, kk⟩ => ?_
  unfold evB at e1
  obtain ⟨⟨d0, h0⟩, e0, e1⟩ := Option.bind_eq_some_iff.mp e1
  obtain ⟨c0, e2, e1⟩ := Option.bind_eq_some_iff.mp e1
  cases e1
  unfold ev at e0
  obtain ⟨⟨d1, h1⟩, q1, e0⟩ := Option.bind_eq_some_iff.mp e0
  obtain ⟨⟨d2, h2⟩, q2, e0⟩ := Option.bind_eq_some_iff.mp e0
  obtain ⟨d3, q3, e0⟩ := Option.bind_eq_some_iff.mp e0
  cases e0
  have : c = d3 := by simpa [tru, vw] using e2.symm
  subst this
  refine rd2 w e q1 q2 fun x y H' th' r1 r2 w' g => ⟨th', _, _, _, _, w', r1.view w', r2.view w', by unfold cmpV; rw [q3]; rfl, fun v H2 r w2 g2 => ?_⟩
  cases r
  exact ⟨_, rfl, kk H2 th' w2 (g.trans g2)⟩
theorem rd_chain {p q r : PX} {op op' : CmpOp} {σ : St} {H : Hp} {Q : VK} {th : Th} {ρ : Ev} {h h' : AH} {d : D} (w : Wd X.K th h H) (e : EnvR X.K H th ρ σ) (e1 : ev G (.cmp2 op op' p q r) ρ h = some (d, h'))
    (kk : ∀ v H' th', RepV X.K H' th' d v → Wd X.K th' h' H' → Gr th th' H H' → Q v H') :
    tChain (rdOp X.K (cmpV op)) (rdOp X.K (cmpV op')) (rdE X.K G p) (rdE X.K G q) (rdE X.K G r) σ H Q := by
  unfold ev at e1
  obtain ⟨⟨d1, h1⟩, q1, e1⟩ := Option.bind_eq_some_iff.mp e1
  obtain ⟨⟨d2, h2⟩, q2, e1⟩ := Option.bind_eq_some_iff.mp e1
  obtain ⟨b, q3, e1⟩ := Option.bind_eq_some_iff.mp e1
  refine rd2 w e q1 q2 fun x y H' th' r1 r2 w' g => ⟨th', _, _, _, _, w', r1.view w', r2.view w', by unfold cmpV; rw [q3]; rfl, fun v H2 rv w2 g2 => ?_⟩
  cases rv
  refine ⟨b, rfl, ?_⟩
  cases b with
  | false =>
    rw [if_neg Bool.false_ne_true] at e1 ⊢
    cases e1
    exact kk _ H2 th' (.bl _) w2 (g.trans g2)
  | true =>
    rw [if_pos rfl] at e1 ⊢
    obtain ⟨⟨d4, h4⟩, q4, e1⟩ := Option.bind_eq_some_iff.mp e1
    obtain ⟨b5, q5, e1⟩ := Option.bind_eq_some_iff.mp e1
    cases e1
    refine ⟨th', ρ, h2, d4, h4, w2, e.mono (g.trans g2) w2.kd, q4, fun z H4 th4 r4 w4 g4 => ?_⟩
    exact ⟨th4, _, _, _, _, w4, ((r2.mono g2 w2.kd).mono g4 w4.kd).view w4, r4.view w4, by unfold cmpV; rw [q5]; rfl, fun v H5 r5 w5 g5 => kk v H5 th4 r5 w5 (((g.trans g2).trans g4).trans g5)⟩
theorem e_cmp2 {a b c : Expr} {p q r : PX} {op op' : CmpOp} {pos : Pos} (O : CtxOk X C G k) (ha : PE X a (rdE X.K G p)) (hb : PE X b (rdE X.K G q)) (hc : PE X c (rdE X.K G r)) (hm : lastMarks [op, op'] [b, c] = false) :
    PE X (.Compare a [op, op'] [b, c] pos) (rdE X.K G (.cmp2 op op' p q r)) :=
  (pe_chain (op_cmpD O.units op) (op_cmpD O.units op') ha hb hc hm).imp fun σ H Q ⟨th, ρ, h, d, h', w, e, e1, kk⟩ => rd_chain w e e1 kk
theorem t_cmp2 {a b c : Expr} {p q r : PX} {op op' : CmpOp} {pos : Pos} (O : CtxOk X C G k) (ha : PE X a (rdE X.K G p)) (hb : PE X b (rdE X.K G q)) (hc : PE X c (rdE X.K G r)) (hm : lastMarks [op, op'] [b, c] = false) :
    PT X (.Compare a [op, op'] [b, c] pos) (rdB X.K G (.val (.cmp2 op op' p q r))) := by
  refine (pt_chain (op_cmpD O.units op) (op_cmpD O.units op') ha hb hc hm).imp fun σ H Q ⟨th, ρ, h, b, h', w, e, e1, kk⟩ => ?_
  unfold evB at e1
  obtain ⟨⟨d0, h0⟩, e0, e1⟩ := Option.bind_eq_some_iff.mp e1
  obtain ⟨c0, e2, e1⟩ := Option.bind_eq_some_iff.mp e1
  cases e1
  have hb : ∃ z, d0 = .bl z := by
    unfold ev at e0
    obtain ⟨⟨d1, h1⟩, q1, e0⟩ := Option.bind_eq_some_iff.mp e0
    obtain ⟨⟨d2, h2⟩, q2, e0⟩ := Option.bind_eq_some_iff.mp e0
    obtain ⟨z, q3, e0⟩ := Option.bind_eq_some_iff.mp e0
    split at e0
    · obtain ⟨⟨d4, h4⟩, q4, e0⟩ := Option.bind_eq_some_iff.mp e0
      obtain ⟨b5, q5, e0⟩ := Option.bind_eq_some_iff.mp e0
      cases e0
      exact ⟨_, rfl⟩
    · cases e0
      exact ⟨_, rfl⟩
  obtain ⟨z, rfl⟩ := hb
  have : b = z := by simpa [tru, vw] using e2.symm
  subst this
  exact rd_chain w e e0 fun v H' th' rv w' g => by cases rv; exact ⟨_, rfl, kk H' th' w' g⟩
theorem e_neg {a : Expr} {p : PX} {pos : Pos} (ha : PE X a (rdE X.K G p)) : PE X (.UnaryOp .USub a pos) (rdE X.K G (.neg p)) := by
  refine (pe_un un_neg ha).imp fun σ H Q ⟨th, ρ, h, d, h', w, e, e1, kk⟩ => ?_
  unfold ev at e1
  obtain ⟨⟨d1, h1⟩, q1, e1⟩ := Option.bind_eq_some_iff.mp e1
  refine ⟨th, ρ, h, d1, h1, w, e, q1, fun v H' th' r w' g => ?_⟩
  cases d1 with
  | int i => cases e1; cases r; exact ⟨_, rfl, kk _ H' th' (.int _) w' g⟩
  | _ => cases e1
theorem e_not {a : Expr} {p : PX} {pos : Pos} (ha : PE X a (rdE X.K G p)) : PE X (.UnaryOp .Not a pos) (rdE X.K G (.not p)) := by
  refine (pe_not ha).imp fun σ H Q ⟨th, ρ, h, d, h', w, e, e1, kk⟩ => ?_
  unfold ev at e1
  obtain ⟨⟨d1, h1⟩, q1, e1⟩ := Option.bind_eq_some_iff.mp e1
  refine ⟨th, ρ, h, d1, h1, w, e, q1, fun v H' th' r w' g => ?_⟩
  cases d1 with
  | bl i => cases e1; cases r; exact ⟨_, rfl, kk _ H' th' (.bl _) w' g⟩
  | _ => cases e1
theorem e_and {a b : Expr} {rest : List Expr} {p q : PX} {pos : Pos} (ha : PE X a (rdE X.K G p)) (hb : PE X (.BoolOp .And (b :: rest) pos) (rdE X.K G q)) : PE X (.BoolOp .And (a :: b :: rest) pos) (rdE X.K G (.and p q)) := by
  refine (pe_and ha hb).imp fun σ H Q ⟨th, ρ, h, d, h', w, e, e1, kk⟩ => ?_
  unfold ev at e1
  obtain ⟨⟨d1, h1⟩, q1, e1⟩ := Option.bind_eq_some_iff.mp e1
  refine ⟨th, ρ, h, d1, h1, w, e, q1, fun v H' th' r w' g => ?_⟩
  cases d1 with
  | bl i =>
    cases r
    refine ⟨i, rfl, ?_⟩
    cases i with
    | true => exact ⟨th', ρ, h1, d, h', w', e.mono g w'.kd, e1, fun v H2 th2 r2 w2 g2 => kk v H2 th2 r2 w2 (g.trans g2)⟩
    | false =>
      have e1 : some (D.bl false, h1) = some (d, h') := e1
      cases e1
      exact kk _ H' th' (.bl _) w' g
  | _ => cases e1
theorem e_or {a b : Expr} {rest : List Expr} {p q : PX} {pos : Pos} (ha : PE X a (rdE X.K G p)) (hb : PE X (.BoolOp .Or (b :: rest) pos) (rdE X.K G q)) : PE X (.BoolOp .Or (a :: b :: rest) pos) (rdE X.K G (.or p q)) := by
  refine (pe_or ha hb).imp fun σ H Q ⟨th, ρ, h, d, h', w, e, e1, kk⟩ => ?_
  unfold ev at e1
  obtain ⟨⟨d1, h1⟩, q1, e1⟩ := Option.bind_eq_some_iff.mp e1
  refine ⟨th, ρ, h, d1, h1, w, e, q1, fun v H' th' r w' g => ?_⟩
  cases d1 with
  | bl i =>
    cases r
    refine ⟨i, rfl, ?_⟩
    cases i with
    | false => exact ⟨th', ρ, h1, d, h', w', e.mono g w'.kd, e1, fun v H2 th2 r2 w2 g2 => kk v H2 th2 r2 w2 (g.trans g2)⟩
    | true =>
      have e1 : some (D.bl true, h1) = some (d, h') := e1
      cases e1
      exact kk _ H' th' (.bl _) w' g
  | _ => cases e1
theorem t_not {a : Expr} {b : PB} {pos : Pos} (ha : PT X a (rdB X.K G b)) : PT X (.UnaryOp .Not a pos) (rdB X.K G (.not b)) := by
  refine (pt_not ha).imp fun σ H Q ⟨th, ρ, h, c, h', w, e, e1, kk⟩ => ?_
  unfold evB at e1
  obtain ⟨⟨d1, h1⟩, q1, e1⟩ := Option.bind_eq_some_iff.mp e1
  cases e1
  exact ⟨th, ρ, h, d1, _, w, e, q1, fun H' th' w' g => kk H' th' w' g⟩
theorem w_and {a b : Expr} {rest : List Expr} {p q : PB} {pos : Pos} (ha : PT X a (rdB X.K G p)) (hb : PW X (.BoolOp .And (b :: rest) pos) (rdB X.K G q)) : PW X (.BoolOp .And (a :: b :: rest) pos) (rdB X.K G (.and p q)) := by
  refine (pw_and ha hb).imp fun σ H Q ⟨th, ρ, h, c, h', w, e, e1, kk⟩ => ?_
  unfold evB at e1
  obtain ⟨⟨d1, h1⟩, q1, e1⟩ := Option.bind_eq_some_iff.mp e1
  refine ⟨th, ρ, h, d1, h1, w, e, q1, fun H' th' w' g => ?_⟩
  cases d1 with
  | true => exact ⟨th', ρ, h1, c, h', w', e.mono g w'.kd, e1, fun H2 th2 w2 g2 => kk H2 th2 w2 (g.trans g2)⟩
  | false =>
    have e1 : some (false, h1) = some (c, h') := e1
    cases e1
    exact kk H' th' w' g
theorem w_or {a b : Expr} {rest : List Expr} {p q : PB} {pos : Pos} (ha : PT X a (rdB X.K G p)) (hb : PW X (.BoolOp .Or (b :: rest) pos) (rdB X.K G q)) : PW X (.BoolOp .Or (a :: b :: rest) pos) (rdB X.K G (.or p q)) := by
  refine (pw_or ha hb).imp fun σ H Q ⟨th, ρ, h, c, h', w, e, e1, kk⟩ => ?_
  unfold evB at e1
  obtain ⟨⟨d1, h1⟩, q1, e1⟩ := Option.bind_eq_some_iff.mp e1
  refine ⟨th, ρ, h, d1, h1, w, e, q1, fun H' th' w' g => ?_⟩
  cases d1 with
  | false => exact ⟨th', ρ, h1, c, h', w', e.mono g w'.kd, e1, fun H2 th2 w2 g2 => kk H2 th2 w2 (g.trans g2)⟩
  | true =>
    have e1 : some (true, h1) = some (c, h') := e1
    cases e1
    exact kk H' th' w' g
theorem tru_V {H : Hp} {th : Th} {h : AH} {d : D} {v : V} {c : Bool} (w : Wd X.K th h H) (r : RepV X.K H th d v) (e : tru h d = some c) : TruV X.K v H c := by
  have rw' := r.view w
  unfold tru at e
  split at e
  · rename_i hv; rw [hv] at rw'; cases rw'.inon; cases e; rfl
  · rename_i hv; rw [hv] at rw'; cases rw'.ibl; cases e; rfl
  · rename_i hv; rw [hv] at rw'; cases rw'.iint; cases e; rfl
  · rename_i s hv
    rw [hv] at rw'; cases rw'.istr
    split at e
    · rename_i hl
      cases e
      refine ⟨by rw [SS_length, SZ_eq]; exact hl, ?_⟩
      rw [SS_length]
      cases s <;> simp
      omega
    · cases e
  · rename_i xs hv
    rw [hv] at rw'
    cases e
    obtain ⟨a, vs, rfl, q, rs⟩ := rw'.itup
    refine .inr (.inl ⟨vs, q, ?_⟩)
    cases rs <;> rfl
  · rename_i xs hv
    rw [hv] at rw'
    cases e
    obtain ⟨a, vs, rfl, q, rs⟩ := rw'.ilst
    refine .inl ⟨vs, q, ?_⟩
    cases rs <;> rfl
  · cases e
theorem t_val {a : Expr} {p : PX} (ha : PE X a (rdE X.K G p)) (he : ∀ whole, isTrue a X.env whole = (do let v ← whole; standAt a.pos; holding [v] (truthy v))) : PT X a (rdB X.K G (.val p)) := by
  refine (pt_truth ha he).imp fun σ H Q ⟨th, ρ, h, c, h', w, e, e1, kk⟩ => ?_
  unfold evB at e1
  obtain ⟨⟨d1, h1⟩, q1, e1⟩ := Option.bind_eq_some_iff.mp e1
  obtain ⟨c1, q2, e1⟩ := Option.bind_eq_some_iff.mp e1
  cases e1
  exact ⟨th, ρ, h, d1, _, w, e, q1, fun v H' th' r w' g => ⟨_, tru_V w' r q2, kk H' th' w' g⟩⟩
theorem a_nil : PA X [] (rdA X.K G []) := by
  refine pa_nil.imp fun σ H Q ⟨th, ρ, h, ds, h', w, e, e1, kk⟩ => ?_
  cases e1
  exact kk [] H th .nil w (Gr.refl _ _)
theorem a_cons {e : Expr} {es : List Expr} {p : PX} {ps : List PX} (ha : PE X e (rdE X.K G p)) (hr : PA X es (rdA X.K G ps)) (hs : starEach (e :: es) X.env = (false, eval e X.env) :: starEach es X.env) : PA X (e :: es) (rdA X.K G (p :: ps)) := by
  refine (pa_cons ha hr hs).imp fun σ H Q ⟨th, ρ, h, ds, h', w, e, e1, kk⟩ => ?_
  unfold evs at e1
  obtain ⟨⟨d1, h1⟩, q1, e1⟩ := Option.bind_eq_some_iff.mp e1
  obtain ⟨⟨d2, h2⟩, q2, e1⟩ := Option.bind_eq_some_iff.mp e1
  cases e1
  exact ⟨th, ρ, h, d1, h1, w, e, q1, fun v H1 th1 r1 w1 g1 => ⟨th1, ρ, h1, d2, _, w1, e.mono g1 w1.kd, q2, fun vs H2 th2 r2 w2 g2 => kk _ H2 th2 (.cons (r1.mono g2 w2.kd) r2) w2 (g1.trans g2)⟩⟩
theorem e_tup {es : List Expr} {ps : List PX} {j : Nat} {pos : Pos} (ha : PA X es (rdA X.K G ps)) : PE X (.Tuple es j pos) (rdE X.K G (.tup ps)) := by
  refine (pe_tup ha).imp fun σ H Q ⟨th, ρ, h, d, h', w, e, e1, kk⟩ => ?_
  unfold ev at e1
  obtain ⟨⟨ds, h1⟩, q1, e1⟩ := Option.bind_eq_some_iff.mp e1
  refine ⟨th, ρ, h, ds, h1, w, e, q1, fun vs H' th' r w' g => ?_⟩
  have hl := r.length
  split at e1
  · rename_i hz
    cases e1
    refine ⟨by rw [← hl, SZ_eq]; exact hz, fun p hp => ?_⟩
    have g2 := Gr.laid (H := H') (o := .tup vs) th' hp
    exact kk _ _ th' (.tup (SqT.of upd_same) (r.mono g2 w'.kd)) (w'.laid hp) (g.trans g2)
  · cases e1
theorem e_lst {es : List Expr} {ps : List PX} {pos : Pos} (ha : PA X es (rdA X.K G ps)) : PE X (.List es pos) (rdE X.K G (.lst ps)) := by
  refine (pe_lst ha).imp fun σ H Q ⟨th, ρ, h, d, h', w, e, e1, kk⟩ => ?_
  unfold ev at e1
  obtain ⟨⟨ds, h1⟩, q1, e1⟩ := Option.bind_eq_some_iff.mp e1
  refine ⟨th, ρ, h, ds, h1, w, e, q1, fun vs H' th' r w' g => ?_⟩
  have hl := r.length
  split at e1
  · rename_i hz
    cases e1
    refine ⟨by rw [← hl, SZ_eq]; exact hz, fun p hp => ?_⟩
    have g2 := Gr.laid (H := H') (o := .lst vs) th' hp
    exact kk _ _ th' (.lst (SqL.of upd_same) (w'.notin hp) (r.mono g2 w'.kd)) (w'.laid hp) (g.trans g2)
  · cases e1
theorem pe_lstN {es : List Expr} {t : TA} {pos : Pos} (h : PA X es t) : PE X (.List es pos) (fun σ H Q => t σ H fun xs H1 => xs.length ≤ sizeLine ∧ ∀ p, H1 p = none → X.K.lookup p = none → Q (.ref p) (upd H1 p (.lst xs))) := by
  intro pins s σ H Q I hq
  refine wpAny_List_spliced (thn (h pos pins s σ H _ I hq) fun us s1 ⟨xs, H1, I1, r, z, q⟩ => ⟨by rw [← r.length]; exact z, ?_⟩)
  have hf : H1 s1.heap.objs.size = none := I1.hok.fresh (Nat.le_refl _)
  have hk : X.K.lookup s1.heap.objs.size = none := by
    cases e : X.K.lookup s1.heap.objs.size with
    | none => rfl
    | some o => exact absurd (Heap.lt_size (I1.kIn _ _ e)) (Nat.lt_irrefl _)
  refine ⟨.ref s1.heap.objs.size, upd H1 s1.heap.objs.size (.lst xs), I1.laid (t' := s1.toks) (fun b u e => Heap.get?_push_of_some _ e) (Nat.le_refl _) ?_, rfl, q _ hf hk⟩
  exact ⟨z, us, 0, r, Heap.get?_push_size _ rfl⟩
theorem e_new {es : List Expr} {ps : List PX} {pos : Pos} (ha : PA X es (rdA X.K G ps)) : PE X (.List es pos) (rdE X.K G (.new ps)) := by
  refine (pe_lstN ha).imp fun σ H Q ⟨th, ρ, h, d, h', w, e, e1, kk⟩ => ?_
  unfold ev at e1
  obtain ⟨⟨ds, h1⟩, q1, e1⟩ := Option.bind_eq_some_iff.mp e1
  refine ⟨th, ρ, h, ds, h1, w, e, q1, fun vs H' th' r w' g => ?_⟩
  have hl := r.length
  split at e1
  · rename_i hz
    cases e1
    refine ⟨by rw [← hl, SZ_eq]; exact hz, fun p hp hk => ?_⟩
    have g2 := Gr.added (H := H') (o := .lst vs) th' hp
    have kd2 : ∀ a ∈ th' ++ [p], X.K.lookup a = none := fun a m => by
      rcases List.mem_append.mp m with z | z
      · exact w'.kd a z
      · have : a = p := by simpa using z
        rw [this]; exact hk
    refine kk _ _ (th' ++ [p]) (.ref ?_) (w'.added hp hk ⟨vs, upd_same, r.mono g2 kd2⟩) (g.trans g2)
    show (th' ++ [p])[h1.length]? = some p
    rw [← w'.len]
    simp
  · cases e1
end
section
variable {X : Cx} {G : List Den}
theorem atI_rep {K : PySem.W.Frag} {H : Hp} {th : Th} {ds : List D} {vs : List V} {i : Int} {d : D} (r : RepVs K H th ds vs) (e : atI ds i = some d) : ∃ v, L2.atI vs i = some v ∧ RepV K H th d v := by
  unfold atI at e
  obtain ⟨j, e1, e2⟩ := Option.bind_eq_some_iff.mp e
  obtain ⟨v, e3, r3⟩ := r.get e2
  refine ⟨v, ?_, r3⟩
  show (L2.ixN vs.length i).bind _ = _
  rw [← r.length]
  have e1' : L2.ixN ds.length i = some j := e1
  rw [e1']
  exact e3
theorem ix_D : IxR X (rdOp X.K idxD) := by
  intro value slice pins s σ H x y v u Q I rx ry h hs
  obtain ⟨th, ah, dx, dy, d, w, wx, wy, e, k⟩ := h
  have kk : ∀ v, RepV X.K H th d v → Q v H := fun v r => k v H r w (Gr.refl _ _)
  unfold idxD at e
  split at e
  · obtain ⟨a, vs, rfl, q, rs⟩ := wx.ilst
    cases wy.iint
    obtain ⟨z, e1, r1⟩ := atI_rep rs e
    exact ix_list value slice pins s σ H _ _ v u Q I rx ry ⟨a, vs, _, z, rfl, rfl, q, e1, kk z r1⟩ hs
  · obtain ⟨a, vs, rfl, q, rs⟩ := wx.itup
    cases wy.iint
    obtain ⟨z, e1, r1⟩ := atI_rep rs e
    exact ix_tup value slice pins s σ H _ _ v u Q I rx ry ⟨a, vs, _, z, rfl, rfl, q, e1, kk z r1⟩ hs
  · split at e
    · rename_i z i hz
      cases wx.istr
      cases wy.iint
      cases e1 : atI z i with
      | none => rw [e1] at e; cases e
      | some c =>
        rw [e1] at e
        cases e
        refine ix_str value slice pins s σ H _ _ v u Q I rx ry ⟨SS z, i, c, rfl, rfl, by rw [SS_length, SZ_eq]; exact hz, ?_, kk _ (.str [c])⟩ hs
        show L2.atI (z.toArray).toList i = some c
        rw [List.toList_toArray]
        exact e1
    · cases e
  · cases e
theorem e_idx {a b : Expr} {p q : PX} {pos : Pos} (ha : PE X a (rdE X.K G p)) (hb : PE X b (rdE X.K G q)) (hs : PlainIx b) : PE X (.Subscript a b pos) (rdE X.K G (.idx p q)) := by
  refine (pe_ix ix_D ha hb hs).imp fun σ H Q ⟨th, ρ, h, d, h', w, e, e1, kk⟩ => ?_
  unfold ev at e1
  obtain ⟨⟨d1, h1⟩, q1, e1⟩ := Option.bind_eq_some_iff.mp e1
  obtain ⟨⟨d2, h2⟩, q2, e1⟩ := Option.bind_eq_some_iff.mp e1
  obtain ⟨d3, q3, e1⟩ := Option.bind_eq_some_iff.mp e1
  cases e1
  refine rd2 w e q1 q2 fun x y H' th' r1 r2 w' g => ⟨th', h2, vw h2 d1, d2, _, w', r1.view w', ?_, q3, fun v H2 r w2 g2 => kk v H2 th' r w2 (g.trans g2)⟩
  cases d2 with
  | lst ds => cases r2 with | lst q n r => exact ⟨_, _, rfl, q, r⟩
  | _ => exact r2
theorem sIx_eq (n d : Nat) (o : Option Int) : sIx n d o = HT.sIx n d o := by cases o <;> rfl
theorem cut_rep {K : PySem.W.Frag} {H : Hp} {th : Th} {ds : List D} {vs : List V} (lo hi : Option Int) (r : RepVs K H th ds vs) : RepVs K H th (cut ds lo hi) (cutV vs lo hi) := by
  unfold cut cutV
  rw [sIx_eq, sIx_eq, r.length]
  exact (r.drop _).take _
theorem getItem_tuple_all {prog : Program} {w : World} {A : Around} {E : Value → Shared → Prop} {s : Shared} {t sl : Addr} {items : Array Value} {vl vu : Value} {lo hi : Option Int} {Q : Value → Shared → Prop} (ht : IsTup s.heap t items) (hs : s.heap.IsSliceOf sl vl vu .none) (pl : IsPart vl lo) (pu : IsPart vu hi)
    (hw : HT.sIx items.size 0 lo = 0 ∧ HT.sIx items.size items.size hi = items.size) (h : Q (.ref t) s) : wpAny (model prog w) A (getItem (.ref t) (.ref sl)) Q E s := by
  obtain ⟨os, hos, hcs, hds⟩ := id hs
  have hTs : s.TypeIs (.ref sl) "slice" := ⟨os, hos, hcs⟩
  unfold getItem
  try with_reducible refine wpAny_holding ?_
  first | refine wpAny_bind (wpAny_pure ?_) | skip
  refine wpAny_bind (wpAny_sequenceKey ht.typeIs (by decide) ?_)
  refine wpAny_bind (wpAny_callSpecial?_slot (name := Str.ofString "__getitem__") ht.typeIs PyProof.Rows.slot_tuple_getitem
    (wpAny_call_entry PyProof.Rows.slot_tuple_getitem ht.typeIs entry_tuple_getitem ?_ (args_tuple_getitem _ _)))
  show wpAny _ _ (Builtin.Tuple.tupleItemsOf (.ref t) >>= _) _ _ s
  refine wpAny_bind (tupleItemsOf_ ht ?_)
  refine wpAny_bind (wpAny_typeOf hTs ?_)
  rw [if_pos (by decide)]
  refine wpAny_bind (HT.sliceApplied_gen hs pl pu ?_)
  have hyes : (((HT.sIx items.size 0 lo : Nat) : Int) == 0 && (1 : Int) == 1 && (HT.sIx items.size items.size hi - HT.sIx items.size 0 lo) == items.size) = true := by
    rw [hw.1, hw.2]
    simp
  show wpAny _ _ (if (((HT.sIx items.size 0 lo : Nat) : Int) == 0 && (1 : Int) == 1 && (HT.sIx items.size items.size hi - HT.sIx items.size 0 lo) == items.size) = true then _ else _) _ _ s
  rw [if_pos hyes]
  unfold Builtin.Tuple.tupleIsExact
  refine wpAny_bind (wpAny_bind (wpAny_typeOf ht.typeIs (wpAny_pure ?_)))
  rw [if_pos (by decide)]
  exact wpAny_bind (wpAny_rule (wpAny_pure ⟨_, rfl, wpAny_pure h⟩))
theorem pick_list {α : Type} (s : List α) (a : Nat) : ∀ k : Nat, (List.range k).filterMap (fun m => s[a + m]?) = (s.drop a).take k
  | 0 => by simp
  | k + 1 => by
    rw [List.range_succ, List.filterMap_append, pick_list s a k, List.take_add_one]
    congr 1
    rw [List.getElem?_drop]
    cases e : s[a + k]? <;> simp [e]
theorem clip_ix (n : Nat) (d : Nat) (hd : d ≤ n) (o : Option Int) :
    (match o with | none => (d : Int) | some i => if (1 : Int) > 0 then max 0 (min (if i < 0 then i + (n : Int) else i) (n : Int)) else max (-1) (min (if i < 0 then i + (n : Int) else i) ((n : Int) - 1))) = ((sIx n d o : Nat) : Int) := by
  cases o with
  | none => rfl
  | some i =>
    show (if (1 : Int) > 0 then max 0 (min (if i < 0 then i + (n : Int) else i) (n : Int)) else max (-1) (min (if i < 0 then i + (n : Int) else i) ((n : Int) - 1))) = _
    rw [if_pos (show (1 : Int) > 0 by decide)]
    show _ = (((if i < 0 then (i + (n : Int)).toNat else min i.toNat n) : Nat) : Int)
    split <;> omega
theorem sIx_le' (n d : Nat) (hd : d ≤ n) (o : Option Int) : sIx n d o ≤ n := by
  cases o with
  | none => exact hd
  | some i =>
    show (if i < 0 then (i + (n : Int)).toNat else min i.toNat n) ≤ n
    split <;> omega
theorem strIdx_eq (n : Nat) (lo hi : Option Int) : Builtin.Str.strSliceIndices lo hi 1 n = (List.range (sIx n n hi - sIx n 0 lo)).map fun k => sIx n 0 lo + k := by
  have e1 := clip_ix n 0 (Nat.zero_le _) lo
  have e2 := clip_ix n n (Nat.le_refl _) hi
  have e : Builtin.Str.strSliceIndices lo hi 1 n = sliceRange ((sIx n 0 lo : Nat) : Int) ((sIx n n hi : Nat) : Int) 1 := by
    rw [← e1, ← e2]
    rfl
  rw [e]
  unfold sliceRange
  rw [if_pos (show (1 : Int) > 0 by decide)]
  have c : (if ((sIx n 0 lo : Nat) : Int) < ((sIx n n hi : Nat) : Int) then (((sIx n n hi : Nat) : Int) - ((sIx n 0 lo : Nat) : Int) + 1 - 1) / 1 else 0).toNat = sIx n n hi - sIx n 0 lo := by
    rw [Int.ediv_one]
    split <;> omega
  show (List.range (if ((sIx n 0 lo : Nat) : Int) < ((sIx n n hi : Nat) : Int) then (((sIx n n hi : Nat) : Int) - ((sIx n 0 lo : Nat) : Int) + 1 - 1) / 1 else 0).toNat).map _ = _
  rw [c]
  refine List.map_congr_left fun k _ => ?_
  show (((sIx n 0 lo : Nat) : Int) + 1 * (k : Int)).toNat = _
  omega
theorem strSlice_eq (s : List Nat) (lo hi : Option Int) : Txt.slice (SS s) lo hi = SS (cut s lo hi) := by
  unfold Txt.slice
  rw [SS_length, strIdx_eq]
  have pk : (List.filterMap (fun x => (SS s).cps[x]?) ((List.range (sIx s.length s.length hi - sIx s.length 0 lo)).map fun k => sIx s.length 0 lo + k)) = cut s lo hi := by
    rw [List.filterMap_map]
    have : ((fun x => (SS s).cps[x]?) ∘ fun k => sIx s.length 0 lo + k) = fun m => s[sIx s.length 0 lo + m]? := by
      funext k
      show s.toArray[_]? = _
      simp
    rw [this, pick_list]
    rfl
  rw [pk]
  split
  · rename_i hc
    have hl : sIx s.length s.length hi - sIx s.length 0 lo = s.length := by
      have := (Bool.and_eq_true_iff.mp hc).2
      simpa using this
    have h2 := sIx_le' s.length s.length (Nat.le_refl _) hi
    have h3 := sIx_le' s.length 0 (Nat.zero_le _) lo
    have h0 : sIx s.length 0 lo = 0 := by omega
    have h1 : sIx s.length s.length hi = s.length := by omega
    unfold cut
    rw [h0, h1]
    simp
  · rfl
def rdSl (K : PySem.W.Frag) : V → Option Int → Option Int → Hp → VK → Prop := fun x lo hi H Q => ∃ th h dx d, Wd K th h H ∧ RepW K H th dx x ∧ slD dx lo hi = some d ∧
  ∀ v H', RepV K H' th d v → Wd K th h H' → Gr th th H H' → Q v H'
theorem isPart_str {v : Value} {o : Option Int} (p : IsPart v o) : ∃ z : Option (Int × Tok), v = partValue z ∧ z.map (·.1) = o := by
  cases p with
  | none => exact ⟨none, rfl, rfl⟩
  | int i t => exact ⟨some (i, t), rfl, rfl⟩
theorem sl_D : SlR X (rdSl X.K) := by
  intro pins s σ H x v vl vu lo hi sl Q I rx hs pl pu h
  obtain ⟨th, ah, dx, d, w, wx, e, k⟩ := h
  have kk : ∀ v, RepV X.K H th d v → Q v H := fun v r => k v H r w (Gr.refl _ _)
  unfold slD at e
  split at e
  · cases e
    obtain ⟨a, vs, rfl, q, rs⟩ := wx.ilst
    refine sl_list pins s σ H _ v vl vu lo hi sl Q I rx hs pl pu ⟨a, vs, rfl, q, fun p hp => ?_⟩
    have g := Gr.laid (H := H) (o := .lst (cutV vs lo hi)) th hp
    exact k _ _ (.lst (SqL.of upd_same) (w.notin hp) ((cut_rep lo hi rs).mono g w.kd)) (w.laid hp) g
  · cases e
    rename_i xs
    obtain ⟨a, vs, rfl, q, rs⟩ := wx.itup
    by_cases hw : HT.sIx vs.length 0 lo = 0 ∧ HT.sIx vs.length vs.length hi = vs.length
    · cases rx
      obtain ⟨its, r, ht, hz⟩ := I.tuple q
      have hlen : its.toArray.size = vs.length := by rw [List.size_toArray]; exact r.length.symm
      refine ⟨"tuple", _, PyProof.Rows.slot_tuple_getitem.lookup, ht.typeIs, getItem_tuple_all ht hs pl pu (by rw [hlen]; exact hw) ⟨.ref a, H, I, rfl, kk _ ?_⟩⟩
      have : cut xs lo hi = xs := by
        unfold cut
        rw [sIx_eq, sIx_eq, rs.length, hw.1, hw.2]
        have := rs.length
        simp [List.take_of_length_le, this]
      rw [this]
      exact .tup q rs
    · refine sl_tup pins s σ H _ v vl vu lo hi sl Q I rx hs pl pu ⟨a, vs, rfl, q, hw, fun p hp => ?_⟩
      have g := Gr.laid (H := H) (o := .tup (cutV vs lo hi)) th hp
      exact k _ _ (.tup (SqT.of upd_same) ((cut_rep lo hi rs).mono g w.kd)) (w.laid hp) g
  · split at e
    · rename_i z hz
      cases e
      cases wx.istr
      obtain ⟨t, rfl⟩ := rx
      obtain ⟨zl, rfl, el⟩ := isPart_str pl
      obtain ⟨zu, rfl, eu⟩ := isPart_str pu
      refine ⟨"str", _, F.slot_str_getitem.lookup, typeIs_str _ _ _, wpAny_getItem_str_slice (l := zl) (u := zu) (st := none) hs rfl ?_⟩
      have hsz : (SS z).length ≤ sizeLine := by rw [SS_length, SZ_eq]; exact hz
      subst el eu
      have e1 : sliceMade (SS z) t zl zu none = (if ((1 : Int) == 1 && (Builtin.Str.strSliceIndices (zl.map (·.1)) (zu.map (·.1)) 1 (SS z).length).length == (SS z).length) = true then Made.val (.str (SS z) t)
        else Made.str ⟨((Builtin.Str.strSliceIndices (zl.map (·.1)) (zu.map (·.1)) 1 (SS z).length).filterMap ((SS z).cps[·]?)).toArray⟩) := rfl
      have e2 : Txt.slice (SS z) (zl.map (·.1)) (zu.map (·.1)) = (if ((1 : Int) == 1 && (Builtin.Str.strSliceIndices (zl.map (·.1)) (zu.map (·.1)) 1 (SS z).length).length == (SS z).length) = true then SS z
        else ⟨((Builtin.Str.strSliceIndices (zl.map (·.1)) (zu.map (·.1)) 1 (SS z).length).filterMap ((SS z).cps[·]?)).toArray⟩) := rfl
      rw [e1]
      refine post_val_or_str ?_
      rw [← e2]
      refine ⟨Nat.le_trans (Txt.slice_le (SS z) (zl.map (·.1)) (zu.map (·.1))) hsz, fun t' k' => ?_⟩
      rw [strSlice_eq]
      exact ⟨.str (SS (cut z (zl.map (·.1)) (zu.map (·.1)))), H, I.tok _, ⟨t', rfl⟩, kk _ (.str _)⟩
    · cases e
  · cases e
noncomputable def rdO (K : PySem.W.Frag) (G : List Den) (p : Option PX) : TO := fun σ H Q => ∃ th ρ h o h', Wd K th h H ∧ EnvR K H th ρ σ ∧ evo G p ρ h = some (o, h') ∧ ∀ H' th', Wd K th' h' H' → Gr th th' H H' → Q o H'
theorem _root_.L2.PO.imp {e : Option Expr} {t t' : TO} (p : PO X e t) (h : ∀ σ H Q, t' σ H Q → t σ H Q) : PO X e t' := fun pins s σ H Q I q => p pins s σ H Q I (h σ H Q q)
theorem o_none : PO X none (rdO X.K G none) := by
  refine po_none.imp fun σ H Q ⟨th, ρ, h, o, h', w, e, e1, kk⟩ => ?_
  cases e1
  exact kk H th w (Gr.refl _ _)
theorem o_some {e : Expr} {p : PX} (h : PE X e (rdE X.K G p)) : PO X (some e) (rdO X.K G (some p)) := by
  refine (po_some h).imp fun σ H Q ⟨th, ρ, h, o, h', w, e, e1, kk⟩ => ?_
  unfold evo at e1
  obtain ⟨⟨d1, h1⟩, q1, e1⟩ := Option.bind_eq_some_iff.mp e1
  refine ⟨th, ρ, h, d1, h1, w, e, q1, fun v H' th' r w' g => ?_⟩
  cases d1 with
  | int i => cases e1; cases r; exact ⟨_, rfl, kk H' th' w' g⟩
  | _ => cases e1
theorem e_sl {a : Expr} {lo hi : Option Expr} {p : PX} {l u : Option PX} {p2 pos : Pos} (ha : PE X a (rdE X.K G p)) (hl : PO X lo (rdO X.K G l)) (hu : PO X hi (rdO X.K G u)) : PE X (.Subscript a (.Slice lo hi none p2) pos) (rdE X.K G (.sl p l u)) := by
  refine (pe_slice sl_D ha hl hu).imp fun σ H Q ⟨th, ρ, h, d, h', w, e, e1, kk⟩ => ?_
  unfold ev at e1
  obtain ⟨⟨d1, h1⟩, q1, e1⟩ := Option.bind_eq_some_iff.mp e1
  obtain ⟨⟨d2, h2⟩, q2, e1⟩ := Option.bind_eq_some_iff.mp e1
  obtain ⟨⟨d3, h3⟩, q3, e1⟩ := Option.bind_eq_some_iff.mp e1
  obtain ⟨d4, q4, e1⟩ := Option.bind_eq_some_iff.mp e1
  cases e1
  exact ⟨th, ρ, h, d1, h1, w, e, q1, fun x H1 th1 r1 w1 g1 => ⟨th1, ρ, h1, d2, h2, w1, e.mono g1 w1.kd, q2, fun H2 th2 w2 g2 => ⟨th2, ρ, h2, d3, _, w2, e.mono (g1.trans g2) w2.kd, q3, fun H3 th3 w3 g3 =>
    ⟨th3, _, _, _, w3, ((r1.mono g2 w2.kd).mono g3 w3.kd).view w3, q4, fun v H4 r4 w4 g4 => kk v H4 th3 r4 w4 (((g1.trans g2).trans g3).trans g4)⟩⟩⟩⟩
inductive RepWs (K : PySem.W.Frag) (H : Hp) (th : Th) : List D → List V → Prop
  | nil : RepWs K H th [] []
  | cons {d : D} {v : V} {ds : List D} {vs : List V} : RepW K H th d v → RepWs K H th ds vs → RepWs K H th (d :: ds) (v :: vs)
theorem RepVs.views {K : PySem.W.Frag} {H : Hp} {th : Th} {h : AH} (w : Wd K th h H) : ∀ {ds : List D} {vs : List V}, RepVs K H th ds vs → RepWs K H th (ds.map (vw h)) vs
  | _, _, .nil => .nil
  | _, _, .cons a b => .cons (a.view w) (RepVs.views w b)
def rdC (K : PySem.W.Frag) (f : List D → Option D) : List V → Hp → VK → Prop := fun xs H Q => ∃ th h ds d, Wd K th h H ∧ RepWs K H th ds xs ∧ f ds = some d ∧
  ∀ v H', RepV K H' th d v → Wd K th h H' → Gr th th H H' → Q v H'
theorem ints_rep {K : PySem.W.Frag} {H : Hp} {th : Th} : ∀ {ds : List D} {vs : List V} {l : List Int}, RepVs K H th ds vs → ints? ds = some l → vs = l.map V.int ∧ ds = l.map D.int
  | _, _, _, .nil, e => by cases e; exact ⟨rfl, rfl⟩
  | d :: ds, _, l, .cons r rs, e => by
    cases d with
    | int i =>
      have e : (ints? ds).map (i :: ·) = some l := e
      cases e1 : ints? ds with
      | none => rw [e1] at e; cases e
      | some l' =>
        rw [e1] at e
        cases e
        obtain ⟨a, b⟩ := ints_rep rs e1
        cases r
        exact ⟨by rw [a]; rfl, by rw [b]; rfl⟩
    | _ => cases e
theorem strs_rep {K : PySem.W.Frag} {H : Hp} {th : Th} : ∀ {ds : List D} {vs : List V} {l : List (List Nat)}, RepVs K H th ds vs → strs? ds = some l → vs = l.map fun s => V.str (SS s)
  | _, _, _, .nil, e => by cases e; rfl
  | d :: ds, _, l, .cons r rs, e => by
    cases d with
    | str i =>
      have e : (strs? ds).map (i :: ·) = some l := e
      cases e1 : strs? ds with
      | none => rw [e1] at e; cases e
      | some l' =>
        rw [e1] at e
        cases e
        have a := strs_rep rs e1
        cases r
        rw [a]; rfl
    | _ => cases e
theorem RepVs.ints {K : PySem.W.Frag} {H : Hp} {th : Th} : ∀ l : List Int, RepVs K H th (l.map D.int) (l.map V.int)
  | [] => .nil
  | i :: l => .cons (.int i) (RepVs.ints l)
theorem pairwise_sorted_unique : ∀ {a b : List Int}, a.Perm b → a.Pairwise (· ≤ ·) → b.Pairwise (· ≤ ·) → a = b := PySem.W.lks_uniq
theorem mergeSort_is {a l : List Int} (p : a.Perm l) (o : a.Pairwise (· ≤ ·)) : a = l.mergeSort fun x y => decide (x ≤ y) := by
  refine pairwise_sorted_unique (p.trans (List.mergeSort_perm _ _).symm) o ?_
  have := List.pairwise_mergeSort (le := fun (x y : Int) => decide (x ≤ y)) (by intro a b c; simp; omega) (by intro a b; simp; omega) l
  exact this.imp (by intro a b h; simpa using h)
theorem call_sortedM : CallR X (.builtin "sorted") (fun xs H Q => ∃ (p : Addr) (l : List Int), xs = [.ref p] ∧ SqL X.K H p (l.map V.int) ∧ l.length < 64 ∧
    ∀ a, H a = none → Q (.ref a) (upd H a (.lst ((l.mergeSort fun x y => decide (x ≤ y)).map V.int)))) := by
  intro pins s σ H xs us Q I r h
  obtain ⟨p, l, rfl, hq, hl, q⟩ := h
  obtain ⟨u, rfl, rx⟩ := vals1 r
  cases rx
  obtain ⟨its, rv, pl, hz⟩ := I.list hq
  have ii := intsAre_of rv
  have lenV := rv.length
  rw [List.length_map] at lenV
  refine sorted_ints pl.isList ii (by omega) fun out ns' a1 a2 a3 => ?_
  obtain ⟨e, he⟩ := sortedAll_at s.heap its out
  have es := mergeSort_is a2 a3
  have I1 : Inv X pins σ (upd H (s.heap.objs.size + 1) (.lst (ns'.map V.int))) { s with heap := sortedAll s.heap its out } := by
    refine I.laid (t' := s.toks) (fun b o q => sortedAll_old q) (Nat.le_succ _) ?_
    refine ⟨?_, out.toList, e, vals_ints a1, ?_⟩
    · rw [List.length_map, a2.length_eq]
      have : l.length ≤ sizeLine := by rw [SZ_eq]; show l.length ≤ 16777216; omega
      exact this
    · rw [he]
  refine ⟨.ref (s.heap.objs.size + 1), _, I1, rfl, ?_⟩
  rw [es]
  exact q _ (I.hok.fresh (Nat.le_succ _))
end
theorem vals_back : ∀ {xs : List V} {us : List Value} {i : Nat} {u : Value}, Vals xs us → us[i]? = some u → ∃ x, xs[i]? = some x ∧ RelV x u
  | [], _, _, _, r, e => by cases r; simp at e
  | x :: xs, _, 0, u, r, e => by
    cases r with
    | cons a b =>
      simp at e
      subst e
      exact ⟨x, rfl, a⟩
  | x :: xs, _, i + 1, u, r, e => by
    cases r with
    | cons a b =>
      obtain ⟨y, e1, r1⟩ := vals_back b (by simpa using e)
      exact ⟨y, by simpa using e1, r1⟩
theorem bools_rep {K : PySem.W.Frag} {H : Hp} {th : Th} : ∀ {ds : List D} {vs : List V} {l : List Bool}, RepVs K H th ds vs → bools? ds = some l → vs = l.map V.bl
  | _, _, _, .nil, e => by cases e; rfl
  | d :: ds, _, l, .cons r rs, e => by
    cases d with
    | bl i =>
      have e : (bools? ds).map (i :: ·) = some l := e
      cases e1 : bools? ds with
      | none => rw [e1] at e; cases e
      | some l' =>
        rw [e1] at e
        cases e
        have a := bools_rep rs e1
        cases r
        rw [a]; rfl
    | _ => cases e
theorem argBest_is {l : List Int} (lt : Int → Int → Bool) : ∀ k, k < l.length → argBest (fun i j => lt (l.getD i 0) (l.getD j 0)) k < l.length ∧
    l.getD (argBest (fun i j => lt (l.getD i 0) (l.getD j 0)) k) 0 = ((l.drop 1).take k).foldl (fun a b => if lt b a = true then b else a) (l.getD 0 0)
  | 0, h => ⟨h, by simp [argBest]⟩
  | k + 1, h => by
    obtain ⟨h1, h2⟩ := argBest_is (l := l) lt k (by omega)
    have hk : (l.drop 1)[k]? = some (l.getD (k + 1) 0) := by
      rw [List.getElem?_drop, Nat.add_comm 1 k, List.getElem?_eq_getElem h, List.getD_eq_getElem?_getD, List.getElem?_eq_getElem h]
      rfl
    have e : argBest (fun i j => lt (l.getD i 0) (l.getD j 0)) (k + 1) = if lt (l.getD (k + 1) 0) (l.getD (argBest (fun i j => lt (l.getD i 0) (l.getD j 0)) k) 0) then k + 1 else argBest (fun i j => lt (l.getD i 0) (l.getD j 0)) k := rfl
    rw [List.take_add_one, hk]
    simp only [Option.toList_some, List.foldl_append, List.foldl_cons, List.foldl_nil]
    rw [← h2, e]
    split
    · exact ⟨h, rfl⟩
    · exact ⟨h1, rfl⟩
theorem argBest_all {l : List Int} (lt : Int → Int → Bool) (h : 0 < l.length) : argBest (fun i j => lt (l.getD i 0) (l.getD j 0)) (l.length - 1) < l.length ∧
    l.getD (argBest (fun i j => lt (l.getD i 0) (l.getD j 0)) (l.length - 1)) 0 = bestI lt l := by
  obtain ⟨h1, h2⟩ := argBest_is (l := l) lt (l.length - 1) (by omega)
  refine ⟨h1, h2.trans ?_⟩
  cases l with
  | nil => simp at h
  | cons x xs =>
    show ((x :: xs).drop 1 |>.take (xs.length + 1 - 1)).foldl _ _ = _
    simp [bestI]
section
variable {X : Cx} {G : List Den}
theorem it_kept {h h' : Heap} {o : Obj} (hk : ∀ b u, b ∉ [h.objs.size] → (h.push o).get? b = some u → h'.get? b = some u) : ∀ b u, h.get? b = some u → h'.get? b = some u := fun b u e =>
  hk b u (fun hm => by
    have e1 : b = h.objs.size := by simpa using hm
    exact absurd (e1 ▸ Heap.lt_size e) (Nat.lt_irrefl _)) (Heap.get?_push_of_some _ e)
theorem call_allL (hc : X.calm = true) : CallR X (.builtin "all") (fun xs H Q => ∃ (p : Addr) (l : List Bool), xs = [.ref p] ∧ SqL X.K H p (l.map V.bl) ∧ Q (.bl (l.all id)) H) := by
  intro pins s σ H xs us Q I r h
  obtain ⟨p, l, rfl, hq, q⟩ := h
  obtain ⟨u, rfl, rx⟩ := vals1 r
  cases rx
  obtain ⟨its, rv, pl, hz⟩ := I.list hq
  have hlt : p < s.heap.objs.size := by obtain ⟨_, e, _⟩ := pl.isList; exact Heap.lt_size e
  have hlen : its.toArray.size = l.length := by
    have := rv.length
    simp at this ⊢
    omega
  refine call_all_walk (wpAny_pyIter_list pl.isList ?_)
  refine ⟨_, _, _, _, _, _, fun i => l.getD i true, rfl, Walks.list (A := X.A.in1) (I.ok.hd hc) s.heap.objs.size p (Nat.ne_of_lt hlt) its.toArray, ⟨⟨_, Heap.get?_push_size _ rfl, rfl, rfl⟩, pl.isList.push _⟩, fun i v s1 Q1 E1 hP q1 => ?_, fun h' tk kk => ?_⟩
  · obtain ⟨x, e1, r1⟩ := vals_back rv (by simpa using hP)
    rw [List.getElem?_map] at e1
    cases e2 : l[i]? with
    | none => rw [e2] at e1; cases e1
    | some b =>
      rw [e2] at e1
      cases e1
      cases r1
      refine wpAny_truthy_bool ?_
      have : l.getD i true = b := by rw [List.getD_eq_getElem?_getD, e2]; rfl
      rw [← this]
      exact q1
  · refine ⟨.bl (l.all id), H, I.kept (it_kept kk), ?_, q⟩
    show Value.bool _ = Value.bool _
    congr 1
    rw [hlen]
    clear kk hlen hz rv q pl hq
    induction l with
    | nil => rfl
    | cons b l ih =>
      rw [List.length_cons, List.range_succ_eq_map, List.all_cons, List.all_cons, List.all_map]
      have : ((fun i => (b :: l).getD i true) ∘ Nat.succ) = fun i => l.getD i true := by funext i; rfl
      rw [this, ih]
      rfl
theorem call_minT (hc : X.calm = true) : CallR X (.builtin "min") (fun xs H Q => ∃ (p : Addr) (l : List Int), xs = [.ref p] ∧ SqT X.K H p (l.map V.int) ∧ 0 < l.length ∧ Q (.int (bestI (fun a b => decide (a < b)) l)) H) := by
  intro pins s σ H xs us Q I r h
  obtain ⟨p, l, rfl, hq, hne, q⟩ := h
  obtain ⟨u, rfl, rx⟩ := vals1 r
  cases rx
  obtain ⟨its, rv, pl, hz⟩ := I.tuple hq
  have pt : s.heap.IsTuple p its.toArray := pl
  have hlt : p < s.heap.objs.size := by obtain ⟨_, e, _⟩ := pt; exact Heap.lt_size e
  have hlen : its.toArray.size = l.length := by
    have := rv.length
    simp at this ⊢
    omega
  have hval : ∀ i v, its.toArray[i]? = some v → ∃ t, v = Value.int (l.getD i 0) t := fun i v hP => by
    obtain ⟨x, e1, r1⟩ := vals_back rv (by simpa using hP)
    rw [List.getElem?_map] at e1
    cases e2 : l[i]? with
    | none => rw [e2] at e1; cases e1
    | some b =>
      rw [e2] at e1
      cases e1
      have : l.getD i 0 = b := by rw [List.getD_eq_getElem?_getD, e2]; rfl
      rw [this]
      exact r1
  refine call_min_walk (wpAny_pyIter_tuple pt ?_)
  refine ⟨_, _, _, _, _, _, _, rfl, Walks.tuple (A := X.A.in1) (I.ok.hd hc) s.heap.objs.size p (Nat.ne_of_lt hlt) its.toArray, ⟨⟨_, Heap.get?_push_size _ rfl, rfl, rfl⟩, pt.push _⟩, fun b hb => ?_, by rw [hlen]; exact hne, CmpOf.ints_lt (fun i => l.getD i 0) hval, fun v h' tk hP kk => ?_⟩
  · show b < (s.heap.push _).objs.size
    rw [Heap.size_push]
    rcases List.mem_cons.mp hb with rfl | hb
    · exact Nat.lt_succ_self _
    · have : b = p := by simpa using hb
      rw [this]
      exact Nat.lt_succ_of_lt hlt
  · obtain ⟨t, rfl⟩ := hval _ _ hP
    rw [hlen]
    obtain ⟨a1, a2⟩ := argBest_all (fun a b => decide (a < b)) hne
    exact ⟨.int (bestI (fun a b => decide (a < b)) l), H, I.kept (it_kept kk), ⟨t, by rw [← a2]⟩, q⟩
theorem call_maxT (hc : X.calm = true) : CallR X (.builtin "max") (fun xs H Q => ∃ (p : Addr) (l : List Int), xs = [.ref p] ∧ SqT X.K H p (l.map V.int) ∧ 0 < l.length ∧ Q (.int (bestI (fun a b => decide (a > b)) l)) H) := by
  intro pins s σ H xs us Q I r h
  obtain ⟨p, l, rfl, hq, hne, q⟩ := h
  obtain ⟨u, rfl, rx⟩ := vals1 r
  cases rx
  obtain ⟨its, rv, pl, hz⟩ := I.tuple hq
  have pt : s.heap.IsTuple p its.toArray := pl
  have hlt : p < s.heap.objs.size := by obtain ⟨_, e, _⟩ := pt; exact Heap.lt_size e
  have hlen : its.toArray.size = l.length := by
    have := rv.length
    simp at this ⊢
    omega
  have hval : ∀ i v, its.toArray[i]? = some v → ∃ t, v = Value.int (l.getD i 0) t := fun i v hP => by
    obtain ⟨x, e1, r1⟩ := vals_back rv (by simpa using hP)
    rw [List.getElem?_map] at e1
    cases e2 : l[i]? with
    | none => rw [e2] at e1; cases e1
    | some b =>
      rw [e2] at e1
      cases e1
      have : l.getD i 0 = b := by rw [List.getD_eq_getElem?_getD, e2]; rfl
      rw [this]
      exact r1
  refine call_max_walk (wpAny_pyIter_tuple pt ?_)
  refine ⟨_, _, _, _, _, _, _, rfl, Walks.tuple (A := X.A.in1) (I.ok.hd hc) s.heap.objs.size p (Nat.ne_of_lt hlt) its.toArray, ⟨⟨_, Heap.get?_push_size _ rfl, rfl, rfl⟩, pt.push _⟩, fun b hb => ?_, by rw [hlen]; exact hne, CmpOf.ints_gt (fun i => l.getD i 0) hval, fun v h' tk hP kk => ?_⟩
  · show b < (s.heap.push _).objs.size
    rw [Heap.size_push]
    rcases List.mem_cons.mp hb with rfl | hb
    · exact Nat.lt_succ_self _
    · have : b = p := by simpa using hb
      rw [this]
      exact Nat.lt_succ_of_lt hlt
  · obtain ⟨t, rfl⟩ := hval _ _ hP
    rw [hlen]
    obtain ⟨a1, a2⟩ := argBest_all (fun a b => decide (a > b)) hne
    exact ⟨.int (bestI (fun a b => decide (a > b)) l), H, I.kept (it_kept kk), ⟨t, by rw [← a2]⟩, q⟩
noncomputable def Its (x : Str) : It := ⟨fun i H => i < x.cps.size, fun i H y H' => H' = H ∧ ∃ c, x.cps[i]? = some c ∧ y = .str ⟨#[c]⟩, fun i H => x.cps.size ≤ i⟩
theorem turn_str {P : Program} {w : World} {K : PySem.W.Frag} {tg : Expr} (x : Str) (t : Tok) (it : Addr) (ty : String) (hty : ty = "str_ascii_iterator" ∨ ty = "str_iterator") : Turn P w K tg (Its x) [it] it (fun i h => h.IsStrIter it ty x t i) where
  mem := by simp
  obj := fun i h st b hb => by
    have e : b = it := by simpa using hb
    subst e
    obtain ⟨o, e, c, d⟩ := st
    exact ⟨o, e, fun v z => by rw [d] at z; cases z⟩
  keep := fun i h h' st k => let ⟨o, ho, r⟩ := st; ⟨o, k it (by simp) o ho, r⟩
  item := by
    intro X hP hw hK hc i pins s σ H E I hf st hg
    subst hP hw hK
    have hg : i < x.cps.size := hg
    obtain ⟨f0, f1, f2, f3, f4, f5⟩ := hf it (by simp)
    have go : ∀ h', h'.IsStrIter it ty x t (i + 1) → Heap.SameBut it s.heap h' → ∃ u, some (Value.str ⟨#[x.cps[i]]⟩ s.toks) = some u ∧
        wpAny (model X.prog X.w) X.A (letOwnedTupleGo tg (.ref it) u) (fun _ s2 => ∃ x' H', Inv X pins σ H' s2 ∧ RelV x' u ∧ (Its x).yld i H x' H' ∧ s2.heap.IsStrIter it ty x t (i + 1) ∧ ∀ b ∈ [it], H' b = none) E { s with heap := h', toks := s.toks + 1 } := fun h' st' sb => by
      have I1 : Inv X pins σ H { s with heap := h', toks := s.toks + 1 } := I.turned (fun b o hb e => (sb.2 b hb).trans e) f0 f1 f3 f4 f5
      obtain ⟨o, e, c, d⟩ := id st'
      exact ⟨_, rfl, go_of (s := { s with heap := h', toks := s.toks + 1 }) e c d (by rcases hty with rfl | rfl <;> decide) ⟨.str ⟨#[x.cps[i]]⟩, H, I1, ⟨_, rfl⟩, ⟨rfl, _, by simp [hg], rfl⟩, st', fun b hb => (hf b hb).1⟩⟩
    rcases hty with rfl | rfl
    · exact wpAny_pyNext_ascii_item st (c := x.cps[i]) (by simp [hg]) fun h' st' sb => go h' st' sb
    · exact wpAny_pyNext_wide_item st (c := x.cps[i]) (by simp [hg]) fun h' st' sb => go h' st' sb
  done := by
    intro X hP hw hK hc i pins s σ H E I hf st hg
    subst hP hw hK
    have hg : x.cps.size ≤ i := hg
    obtain ⟨f0, f1, f2, f3, f4, f5⟩ := hf it (by simp)
    rcases hty with rfl | rfl
    · exact wpAny_pyNext_ascii_end (I.ok.hd hc) st (by simp; omega) fun h' eb => ⟨rfl, I.turned (t' := s.toks) (fun b o hb e => eb b o hb e) f0 f1 f3 f4 f5⟩
    · exact wpAny_pyNext_wide_end (I.ok.hd hc) st (by simp; omega) fun h' eb => ⟨rfl, I.turned (t' := s.toks) (fun b o hb e => eb b o hb e) f0 f1 f3 f4 f5⟩
  self := fun _ _ _ _ _ st h => by
    rcases hty with rfl | rfl
    · exact wpAny_pyIter_striter_ascii st h
    · exact wpAny_pyIter_striter_wide st h
theorem str_it {tg : Expr} {pins : List (Addr × Obj)} {σ : St} {H1 : Hp} {s1 : Shared} {R : It → Hp → Prop} {x : V} {v : Value} {E : Value → Shared → Prop} (I1 : Inv X pins σ H1 s1) (r1 : RelV x v) (q1 : ∃ a, x = .str a ∧ R (Its a) H1) :
    wpAny (model X.prog X.w) X.A (pyIter v) (PIE X pins σ tg R) E s1 := by
  obtain ⟨a, e, q⟩ := q1
  subst e
  obtain ⟨t, rfl⟩ := r1
  have fin : ∀ ty, ty = "str_ascii_iterator" ∨ ty = "str_iterator" → PIE X pins σ tg R (.ref s1.heap.objs.size) { s1 with heap := s1.heap.push { cls := .type ty, data := .fields #[.str a t, .int 0 0] } } := fun ty hty => by
    refine ⟨s1.heap.objs.size, [s1.heap.objs.size], _, _, H1, rfl, I1.kept (t' := s1.toks) fun b o e => Heap.get?_push_of_some _ e, turn_str a t _ ty hty, ⟨_, Heap.get?_push_size _ rfl, rfl, rfl⟩, fun b hb => ?_, q⟩
    have e : b = s1.heap.objs.size := by simpa using hb
    subst e
    exact I1.fpOk (Nat.le_refl _) (I1.hok.fresh (Nat.le_refl _))
  cases ha : a.cps.all (· < 128)
  · exact wpAny_pyIter_wide ha (fin _ (.inr rfl))
  · exact wpAny_pyIter_ascii ha (fin _ (.inl rfl))
end
inductive IterOf (K : PySem.W.Frag) (H : Hp) (th : Th) : It → List D → Prop
  | lst {a : Addr} {vs : List V} {ds : List D} : SqL K H a vs → a ∉ th → RepVs K H th ds vs → IterOf K H th (Itl K a) ds
  | tup {a : Addr} {vs : List V} {ds : List D} : SqT K H a vs → RepVs K H th ds vs → IterOf K H th (Itt K a) ds
  | str (s : List Nat) : IterOf K H th (Its (SS s)) (s.map fun c => D.str [c])
  | rng (n : Nat) : IterOf K H th (Itr 0 n) ((List.range n).map fun (i : Nat) => D.int (i : Int))
section
variable {X : Cx} {C : CC} {G : List Den} {k : Nat} {tg : Expr} {EX : Nat → Hp → Prop}
noncomputable def rdI (K : PySem.W.Frag) (G : List Den) (it : PI) : TI := fun σ H R => ∃ th ρ h ds h', Wd K th h H ∧ EnvR K H th ρ σ ∧ evI G it ρ h = some (ds, h') ∧
  ∀ J H' th', IterOf K H' th' J ds → Wd K th' h' H' → Gr th th' H H' → R J H'
theorem _root_.L2.PI.imp {e : Expr} {t t' : TI} (p : L2.PI X tg e t) (h : ∀ σ H Q, t' σ H Q → t σ H Q) : L2.PI X tg e t' := fun pins s σ H Q I q => p pins s σ H Q I (h σ H Q q)
theorem pi_seq {l : Expr} {tl : TE} (hl : PE X l tl) : L2.PI X tg l (fun σ H R => tl σ H fun x H1 => (∃ z, x = .str z ∧ R (Its z) H1) ∨ ∃ a, x = .ref a ∧ (((∃ xs, SqL X.K H1 a xs) ∧ R (Itl X.K a) H1) ∨ ((∃ xs, SqT X.K H1 a xs) ∧ R (Itt X.K a) H1))) := by
  intro pins s σ H R I h
  refine thn (hl pins s σ H _ I h) fun v s1 ⟨x, H1, I1, r1, q1⟩ => ?_
  rcases q1 with q1 | q1
  · exact str_it I1 r1 q1
  obtain ⟨a, e, q1⟩ := q1
  subst e
  cases r1
  rcases q1 with ⟨⟨xs, hq⟩, q⟩ | ⟨⟨xs, hq⟩, q⟩
  · obtain ⟨its, rv, p, hz⟩ := I1.list hq
    refine wpAny_pyIter_list p.isList ?_
    refine ⟨s1.heap.objs.size, [s1.heap.objs.size], _, _, H1, rfl, I1.kept (t' := s1.toks) fun b o e => Heap.get?_push_of_some _ e, turn_list a _, ⟨_, Heap.get?_push_size _ rfl, rfl, rfl⟩, fun b hb => ?_, q⟩
    have e : b = s1.heap.objs.size := by simpa using hb
    subst e
    exact I1.fpOk (Nat.le_refl _) (I1.hok.fresh (Nat.le_refl _))
  · obtain ⟨its, rv, p, hz⟩ := I1.tuple hq
    refine wpAny_pyIter_tuple (show s1.heap.IsTuple a its.toArray from p) ?_
    refine ⟨s1.heap.objs.size, [s1.heap.objs.size], _, _, H1, rfl, I1.kept (t' := s1.toks) fun b o e => Heap.get?_push_of_some _ e, turn_tuple a _, ⟨_, Heap.get?_push_size _ rfl, rfl, rfl⟩, fun b hb => ?_, q⟩
    have e : b = s1.heap.objs.size := by simpa using hb
    subst e
    exact I1.fpOk (Nat.le_refl _) (I1.hok.fresh (Nat.le_refl _))
theorem i_seq {e : Expr} {p : PX} (hl : PE X e (rdE X.K G p)) : L2.PI X tg e (rdI X.K G (.seq p)) := by
  refine (pi_seq hl).imp fun σ H R ⟨th, ρ, h, ds, h', w, en, e1, kk⟩ => ?_
  unfold evI at e1
  obtain ⟨⟨d1, h1⟩, q1, e1⟩ := Option.bind_eq_some_iff.mp e1
  obtain ⟨l, q2, e1⟩ := Option.bind_eq_some_iff.mp e1
  cases e1
  refine ⟨th, ρ, h, d1, _, w, en, q1, fun v H' th' r w' g => ?_⟩
  cases r with
  | lst q n r =>
    cases q2
    exact .inr ⟨_, rfl, .inl ⟨⟨_, q⟩, kk _ H' th' (.lst q n r) w' g⟩⟩
  | tup q r =>
    cases q2
    exact .inr ⟨_, rfl, .inr ⟨⟨_, q⟩, kk _ H' th' (.tup q r) w' g⟩⟩
  | str z =>
    cases q2
    exact .inl ⟨_, rfl, kk _ H' th' (.str z) w' g⟩
  | _ => cases q2
theorem i_rng {a : Expr} {p : PX} {ps pos : Pos} (hg : Gl X "range") (hm : X.mg "range" = none) (ha : PE X a (rdE X.K G p)) (hs : starEach [a] X.env = [(false, eval a X.env)]) :
    L2.PI X tg (.Call (.Name "range" ps) [a] [] pos) (rdI X.K G (.rng p)) := by
  refine (pi_range1 hg hm (a_cons ha a_nil hs) hs).imp fun σ H R ⟨th, ρ, h, ds, h', w, en, e1, kk⟩ => ?_
  unfold evI at e1
  obtain ⟨⟨d1, h1⟩, q1, e1⟩ := Option.bind_eq_some_iff.mp e1
  obtain ⟨l, q2, e1⟩ := Option.bind_eq_some_iff.mp e1
  cases e1
  refine ⟨th, ρ, h, [d1], _, w, en, by unfold evs; rw [q1]; rfl, fun vs H' th' r w' g => ?_⟩
  cases r with
  | cons r rs =>
    cases rs
    cases d1 with
    | int n =>
      have q2 : (if -(2 ^ 62) ≤ n ∧ n < 2 ^ 62 then some ((List.range n.toNat).map fun i => D.int (i : Nat)) else none) = some ds := q2
      split at q2
      · rename_i hb
        cases q2
        cases r
        exact ⟨_, rfl, hb.1, hb.2, kk _ H' th' (.rng _) w' g⟩
      · cases q2
    | _ => cases q2
theorem for_it {K : PySem.W.Frag} {J : It} {ds : List D} {th1 : Th} {H1 : Hp} {g : TG} {tb : TS} {D0 : Ends} {σ0 : St} (it : IterOf K H1 th1 J ds) (Pv : Nat → St → Hp → Prop) (h0 : Pv 0 σ0 H1)
    (hl : ∀ i σ H, Pv i σ H → ∃ th, Gr th1 th H1 H)
    (hs : ∀ i d x σ H, ds[i]? = some d → Pv i σ H → (∀ th, Gr th1 th H1 H → (∀ a ∈ th, K.lookup a = none) → RepV K H th d x) → g x σ H fun σ2 H2 => tb { D0 with nx := Pv (i + 1), ct := Pv (i + 1), bk := D0.nx } σ2 H2)
    (hd : ∀ σ H, Pv ds.length σ H → D0.nx σ H) :
    ∃ W : Nat → Nat → St → Hp → Prop, (∃ m, W 0 m σ0 H1) ∧ ∀ i m σ H, W i m σ H →
      (J.stop i H ∧ D0.nx σ H) ∨ (J.go i H ∧ ∃ N : St → Hp → Prop, (∀ σ' H', N σ' H' → ∃ m', m' < m ∧ W (i + 1) m' σ' H') ∧ ∀ x H', J.yld i H x H' → g x σ H' fun σ2 H2 => tb { D0 with nx := N, ct := N, bk := D0.nx } σ2 H2) := by
  cases it with
  | @lst a vs ds q n r =>
    have len := r.length
    refine for_list (K := K) (a := a) (xs := vs) Pv h0 (fun i σ H _ p => ?_) (fun i x σ H e p => ?_) (fun σ H p => hd σ H (by rw [len]; exact p))
    · obtain ⟨th, gr⟩ := hl i σ H p
      exact SqL.mono gr n q
    · have hi : i < ds.length := by rw [len]; exact (List.getElem?_eq_some_iff.mp e).1
      obtain ⟨v, e2, r2⟩ := r.get (List.getElem?_eq_getElem hi)
      rw [e] at e2
      cases e2
      exact hs i _ x σ H (List.getElem?_eq_getElem hi) p fun th gr kd => r2.mono gr kd
  | @tup a vs ds q r =>
    have len := r.length
    refine for_tup (K := K) (a := a) (xs := vs) Pv h0 (fun i σ H _ p => ?_) (fun i x σ H e p => ?_) (fun σ H p => hd σ H (by rw [len]; exact p))
    · obtain ⟨th, gr⟩ := hl i σ H p
      exact SqT.mono gr q
    · have hi : i < ds.length := by rw [len]; exact (List.getElem?_eq_some_iff.mp e).1
      obtain ⟨v, e2, r2⟩ := r.get (List.getElem?_eq_getElem hi)
      rw [e] at e2
      cases e2
      exact hs i _ x σ H (List.getElem?_eq_getElem hi) p fun th gr kd => r2.mono gr kd
  | str z =>
    have hz : (SS z).cps.size = z.length := by simp
    refine ⟨fun i m σ H => m = z.length - i ∧ i ≤ z.length ∧ Pv i σ H, ⟨z.length, by simp, Nat.zero_le _, h0⟩, ?_⟩
    rintro i m σ H ⟨rfl, hi, p⟩
    by_cases hlt : i < z.length
    · refine .inr ⟨by show i < (SS z).cps.size; rw [hz]; exact hlt, Pv (i + 1), fun σ' H' p' => ⟨z.length - (i + 1), by omega, rfl, hlt, p'⟩, fun x H' y => ?_⟩
      obtain ⟨e, c, ec, y⟩ := y
      subst e y
      have ez : z[i]? = some c := by simpa using ec
      exact hs i (.str [c]) _ σ _ (by simp [ez]) p fun th gr kd => .str [c]
    · have e : i = z.length := by omega
      subst e
      exact .inl ⟨by show (SS z).cps.size ≤ z.length; rw [hz]; exact Nat.le_refl _, hd σ H (by simpa using p)⟩
  | rng n =>
    refine for_range (lo := 0) (n := n) Pv h0 (fun i σ H hi p => ?_) (fun σ H p => hd σ H (by simpa using p))
    have e : ((List.range n).map fun (i : Nat) => D.int (i : Int))[i]? = some (.int (i : Int)) := by simp [hi]
    have z : (0 : Int) + (i : Int) = (i : Int) := by omega
    rw [z]
    exact hs i _ _ σ H e p fun th gr kd => .int _
noncomputable def rdG (K : PySem.W.Frag) (t : PTg) : TG := fun v σ H Q => ∃ th ρ h d ρ', Wd K th h H ∧ EnvR K H th ρ σ ∧ RepV K H th d v ∧ setT t d ρ = some ρ' ∧ ∀ σ', EnvR K H th ρ' σ' → Q σ' H
theorem _root_.L2.PG.imp {e : Expr} {t t' : TG} (p : PG X e t) (h : ∀ v σ H Q, t' v σ H Q → t v σ H Q) : PG X e t' := fun pins s σ H v u Q I r q => p pins s σ H v u Q I r (h v σ H Q q)
theorem g_name {x : Str} {i : Nat} {pos : Pos} (S : CtxS X C G k EX) (hl : isLoc (lk C.nm x) = true) (h : C.var x = some i) : PG X (.Name x pos) (rdG X.K (.nm i)) := by
  have O := S.ok
  obtain ⟨h1, h2, h3⟩ := var_ok O h
  refine (pg_name (by rw [O.N]; exact O.nd) h1 (isLoc_loc O hl) (S.fn x hl)).imp fun v σ H Q ⟨th, ρ, ah, d, ρ', w, e, r, e1, kk⟩ => ?_
  cases e1
  exact kk _ (e.set i r)
theorem gs_names (S : CtxS X C G k EX) : ∀ (es : List Expr) (is : List Nat), idxs C es = some is →
    PGs X es (fun vs σ H Q => vs.length = is.length ∧ Q ((is.zip vs).foldl (fun r p => r.set p.1 (some p.2)) σ) H) ∧ es.length = is.length ∧ (assignEach es X.env).length = es.length ∧ (assignEach es X.env).findIdx? (·.1) = none := by
  have O := S.ok
  intro es
  induction es with
  | nil =>
    intro is h
    cases h
    refine ⟨fun pins s σ H vs us Q I r q => ?_, rfl, rfl, rfl⟩
    obtain ⟨e, q⟩ := q
    have : vs = [] := List.eq_nil_of_length_eq_zero e
    subst this
    exact pgs_nil pins s σ H [] us Q I r ⟨rfl, q⟩
  | cons t r ih =>
    intro is h
    cases t with
    | Name x p =>
      unfold idxs at h
      split at h
      · rename_i i l e1 e2
        cases h
        split at e1
        · rename_i hl
          obtain ⟨a, b, c, d⟩ := ih l e2
          obtain ⟨h1, h2, h3⟩ := var_ok O e1
          refine ⟨fun pins s σ H vs us Q I rv q => ?_, by simp [b], by show (assignEach r X.env).length + 1 = _; rw [c]; rfl, ?_⟩
          · obtain ⟨e, q⟩ := q
            cases vs with
            | nil => cases e
            | cons v vs =>
              refine pgs_cons (pg_name (i := i) (by rw [O.N]; exact O.nd) h1 (isLoc_loc O hl) (S.fn x hl)) a rfl pins s σ H (v :: vs) us Q I rv ⟨v, vs, rfl, ?_⟩
              exact ⟨by simpa using e, q⟩
          · show List.findIdx? _ ((false, _) :: assignEach r X.env) = none
            rw [List.findIdx?_cons]
            simp [d]
        · cases e1
      · cases h
    | _ => cases h
theorem foldl_env {K : PySem.W.Frag} {H : Hp} {th : Th} : ∀ (is : List Nat) (ds : List D) (vs : List V) (ρ : Ev) (σ : St), EnvR K H th ρ σ → RepVs K H th ds vs →
    EnvR K H th ((is.zip ds).foldl (fun r p => r.set p.1 (some p.2)) ρ) ((is.zip vs).foldl (fun r p => r.set p.1 (some p.2)) σ)
  | [], _, _, _, _, e, _ => by simpa using e
  | i :: is, _, _, _, _, e, .nil => by simpa using e
  | i :: is, _, _, _, _, e, .cons r rs => foldl_env is _ _ _ _ (e.set i r) rs
theorem g_tup {es : List Expr} {is : List Nat} {j : Nat} {pos : Pos} (S : CtxS X C G k EX) (h : idxs C es = some is) : PG X (.Tuple es j pos) (rdG X.K (.tp is)) := by
  obtain ⟨a, b, c, d⟩ := gs_names S es is h
  refine (pg_tup (n := es.length) S.ok.calm a c d).imp fun v σ H Q ⟨th, ρ, ah, dd, ρ', w, e, r, e1, kk⟩ => ?_
  cases dd with
  | tup xs =>
    have e1 : (if is.length = xs.length then some ((is.zip xs).foldl (fun r p => r.set p.1 (some p.2)) ρ) else none) = some ρ' := e1
    split at e1
    · rename_i hl
      cases e1
      cases r with
      | tup q rs =>
        have len := rs.length
        exact ⟨_, _, rfl, q, by omega, by omega, kk _ (foldl_env is _ _ ρ σ e rs)⟩
    · cases e1
  | _ => cases e1
end
noncomputable def RK (K : PySem.W.Frag) (EX : Nat → Hp → Prop) (D0 : Ends) (th : Th) (H : Hp) : R → Prop
  | .nx ρ' h' => ∀ σ' H' th', EnvR K H' th' ρ' σ' → Wd K th' h' H' → Gr th th' H H' → D0.nx σ' H'
  | .rt d h' => ∀ v H' th', RepV K H' th' d v → Wd K th' h' H' → Gr th th' H H' → D0.rt v H'
  | .bk ρ' h' => ∀ σ' H' th', EnvR K H' th' ρ' σ' → Wd K th' h' H' → Gr th th' H H' → D0.bk σ' H'
  | .ct ρ' h' => ∀ σ' H' th', EnvR K H' th' ρ' σ' → Wd K th' h' H' → Gr th th' H H' → D0.ct σ' H'
  | .exc c _ h' => ∀ H' th', Wd K th' h' H' → Gr th th' H H' → EX c H'
  | .bad => False
theorem RK.mono {K : PySem.W.Frag} {EX : Nat → Hp → Prop} {D0 : Ends} {th th1 : Th} {H H1 : Hp} (g : Gr th th1 H H1) : ∀ {r : R}, RK K EX D0 th H r → RK K EX D0 th1 H1 r
  | .nx _ _, q => fun σ' H' th' e w g' => q σ' H' th' e w (g.trans g')
  | .rt _ _, q => fun σ' H' th' e w g' => q σ' H' th' e w (g.trans g')
  | .bk _ _, q => fun σ' H' th' e w g' => q σ' H' th' e w (g.trans g')
  | .ct _ _, q => fun σ' H' th' e w g' => q σ' H' th' e w (g.trans g')
  | .exc _ _ _, q => fun H' th' w g' => q H' th' w (g.trans g')
  | .bad, q => q
noncomputable def rdS (K : PySem.W.Frag) (G : List Den) (EX : Nat → Hp → Prop) (p : PSt) : TS := fun D0 σ H => ∃ th ρ h, Wd K th h H ∧ EnvR K H th ρ σ ∧ RK K EX D0 th H (exS G p ρ h)
noncomputable def rdSs (K : PySem.W.Frag) (G : List Den) (EX : Nat → Hp → Prop) (p : List PSt) : TS := fun D0 σ H => ∃ th ρ h, Wd K th h H ∧ EnvR K H th ρ σ ∧ RK K EX D0 th H (exSs G p ρ h)
noncomputable def rdR (K : PySem.W.Frag) (G : List Den) (EX : Nat → Hp → Prop) (p : PX) : TE := fun σ H Q => ∃ th ρ h, Wd K th h H ∧ EnvR K H th ρ σ ∧ match evR G p ρ h with
  | .ok d h' => ∀ v H' th', RepV K H' th' d v → Wd K th' h' H' → Gr th th' H H' → Q v H'
  | .exc c h' => ∀ H' th', Wd K th' h' H' → Gr th th' H H' → EX c H'
  | .bad => False
section
variable {X : Cx} {C : CC} {G : List Den} {k : Nat} {EX : Nat → Hp → Prop}
theorem ss_nil : PSs X [] (rdSs X.K G EX []) := by
  refine pss_nil.imp fun D0 σ H ⟨th, ρ, h, w, e, q⟩ => ?_
  unfold exSs at q
  exact q σ H th e w (Gr.refl _ _)
theorem ss_cons {s : Stmt} {r : List Stmt} {p : PSt} {q : List PSt} (h1 : PS X s (rdS X.K G EX p)) (h2 : PSs X r (rdSs X.K G EX q)) : PSs X (s :: r) (rdSs X.K G EX (p :: q)) := by
  refine (pss_cons h1 h2).imp fun D0 σ H ⟨th, ρ, h, w, e, qq⟩ => ⟨th, ρ, h, w, e, ?_⟩
  unfold exSs at qq
  cases e1 : exS G p ρ h with
  | nx ρ' h' =>
    rw [e1] at qq
    intro σ' H' th' e' w' g'
    exact ⟨th', ρ', h', w', e', RK.mono g' qq⟩
  | rt d h' => rw [e1] at qq; exact qq
  | bk ρ' h' => rw [e1] at qq; exact qq
  | ct ρ' h' => rw [e1] at qq; exact qq
  | exc _ _ _ => rw [e1] at qq; exact qq
  | bad => rw [e1] at qq; exact qq
theorem s_ret {e : Expr} {p : PX} {pos : Pos} (h : PE X e (rdR X.K G EX p)) : PS X (.Return (some e) pos) (rdS X.K G EX (.ret p)) := by
  refine (ps_ret h).imp fun D0 σ H ⟨th, ρ, h, w, e, qq⟩ => ?_
  unfold exS at qq
  refine ⟨th, ρ, h, w, e, ?_⟩
  cases e1 : evR G p ρ h with
  | bad => rw [e1] at qq; exact qq.elim
  | exc c h' => rw [e1] at qq; exact qq
  | ok d h' => rw [e1] at qq; exact qq
theorem s_ex {e : Expr} {p : PX} {pos : Pos} (h : PE X e (rdR X.K G EX p)) (hs : swapsWith e none pos.line X.env = pure false) : PS X (.Expr e pos) (rdS X.K G EX (.ex p)) := by
  refine (ps_expr h hs).imp fun D0 σ H ⟨th, ρ, h, w, e, qq⟩ => ?_
  unfold exS at qq
  refine ⟨th, ρ, h, w, e, ?_⟩
  cases e1 : evR G p ρ h with
  | bad => rw [e1] at qq; exact qq.elim
  | exc c h' => rw [e1] at qq; exact qq
  | ok d h' =>
    rw [e1] at qq
    exact fun v H' th' r w' g => qq σ H' th' (e.mono g w'.kd) w' g
theorem s_if {c : Expr} {a b : List Stmt} {r : PB} {p q : List PSt} {pos : Pos} (hc : PT X c (rdB X.K G r)) (ha : PSs X a (rdSs X.K G EX p)) (hb : PSs X b (rdSs X.K G EX q)) : PS X (.If c a b pos) (rdS X.K G EX (.ifs r p q)) := by
  refine (ps_if hc ha hb).imp fun D0 σ H ⟨th, ρ, h, w, e, qq⟩ => ?_
  unfold exS at qq
  cases e1 : evB G r ρ h with
  | none => rw [e1] at qq; exact qq.elim
  | some d =>
    rw [e1] at qq
    obtain ⟨t, h1⟩ := d
    refine ⟨th, ρ, h, t, h1, w, e, e1, fun H' th' w' g => ?_⟩
    cases t with
    | true => exact ⟨th', ρ, h1, w', e.mono g w'.kd, RK.mono g qq⟩
    | false => exact ⟨th', ρ, h1, w', e.mono g w'.kd, RK.mono g qq⟩
theorem s_asg {tg e : Expr} {t : PTg} {p : PX} {pos : Pos} (he : PE X e (rdR X.K G EX p)) (hg : PG X tg (rdG X.K t)) (hs : swapsWithSole [tg] e pos.line X.env = pure false) (hw : swappedStores [tg] e X.env = pure none)
    (h1 : (assignEach [tg] X.env).map (·.2) = [assign tg X.env]) : PS X (.Assign [tg] e pos) (rdS X.K G EX (.asg t p)) := by
  refine (ps_asg he hg hs hw h1).imp fun D0 σ H ⟨th, ρ, h, w, e, qq⟩ => ?_
  unfold exS at qq
  refine ⟨th, ρ, h, w, e, ?_⟩
  cases e1 : evR G p ρ h with
  | bad => rw [e1] at qq; exact qq.elim
  | exc c h' => rw [e1] at qq; exact qq
  | ok d h1 =>
    rw [e1] at qq
    dsimp only at qq
    cases e2 : setT t d ρ with
    | none => rw [e2] at qq; exact qq.elim
    | some ρ' =>
      rw [e2] at qq
      exact fun v H' th' r w' g => ⟨th', ρ, h1, d, ρ', w', e.mono g w'.kd, r, e2, fun σ' e' => qq σ' H' th' e' w' g⟩
theorem s_for {tg iter : Expr} {body : List Stmt} {t : PTg} {it : PI} {b : List PSt} {pos : Pos} (hp : PassesOwn (model X.prog X.w) X.A X.env X.xe) (hc : X.calm = true) (hi : L2.PI X tg iter (rdI X.K G it)) (hg : PG X tg (rdG X.K t))
    (hb : PSs X body (rdSs X.K G EX b)) (hs : ∀ x, foldedSetIterable iter X.env x = pure x) : PS X (.For tg iter body [] pos) (rdS X.K G EX (.forS t it b)) := by
  refine (ps_for hp hc hi hg hb hs).imp fun D0 σ H ⟨th, ρ, h, w, e, qq⟩ => ?_
  unfold exS at qq
  cases e1 : evI G it ρ h with
  | none => rw [e1] at qq; exact qq.elim
  | some dd =>
    obtain ⟨ds, h1⟩ := dd
    rw [e1] at qq
    have qq : RK X.K EX D0 th H (forL (fun d ρ h => match setT t d ρ with | some ρ' => exSs G b ρ' h | none => .bad) ds ρ h1) := qq
    refine ⟨th, ρ, h, ds, h1, w, e, e1, fun J H1 th1 itr w1 g1 => ?_⟩
    refine for_it itr (fun i σ2 H2 => ∃ th2 ρ2 h2, Wd X.K th2 h2 H2 ∧ EnvR X.K H2 th2 ρ2 σ2 ∧ Gr th1 th2 H1 H2 ∧
        RK X.K EX D0 th2 H2 (forL (fun d ρ h => match setT t d ρ with | some ρ' => exSs G b ρ' h | none => .bad) (ds.drop i) ρ2 h2))
      ⟨th1, ρ, h1, w1, e.mono g1 w1.kd, Gr.refl _ _, by rw [List.drop_zero]; exact RK.mono g1 qq⟩ ?_ ?_ ?_
    · rintro i σ2 H2 ⟨th2, ρ2, h2, w2, e2, g2, q2⟩
      exact ⟨th2, g2⟩
    · rintro i d x σ2 H2 hd ⟨th2, ρ2, h2, w2, e2, g2, q2⟩ rx
      have hlt : i < ds.length := (List.getElem?_eq_some_iff.mp hd).1
      have hdr : ds.drop i = d :: ds.drop (i + 1) := by
        rw [List.drop_eq_getElem_cons hlt]
        congr 1
        have := (List.getElem?_eq_some_iff.mp hd).2
        exact this
      rw [hdr] at q2
      unfold forL at q2
      cases es : setT t d ρ2 with
      | none => rw [es] at q2; exact q2.elim
      | some ρ3 =>
        rw [es] at q2
        refine ⟨th2, ρ2, h2, d, ρ3, w2, e2, rx th2 g2 w2.kd, es, fun σ3 e3 => ⟨th2, ρ3, h2, w2, e3, ?_⟩⟩
        dsimp only at q2
        cases er : exSs G b ρ3 h2 with
        | nx ρ4 h4 =>
          rw [er] at q2
          intro σ5 H5 th5 e5 w5 g5
          exact ⟨th5, ρ4, h4, w5, e5, g2.trans g5, RK.mono g5 q2⟩
        | ct ρ4 h4 =>
          rw [er] at q2
          intro σ5 H5 th5 e5 w5 g5
          exact ⟨th5, ρ4, h4, w5, e5, g2.trans g5, RK.mono g5 q2⟩
        | bk ρ4 h4 =>
          rw [er] at q2
          intro σ5 H5 th5 e5 w5 g5
          exact q2 σ5 H5 th5 e5 w5 g5
        | rt d4 h4 => rw [er] at q2; exact q2
        | exc _ _ _ => rw [er] at q2; exact q2
        | bad => rw [er] at q2; exact q2.elim
    · rintro σ2 H2 ⟨th2, ρ2, h2, w2, e2, g2, q2⟩
      rw [List.drop_length] at q2
      exact q2 σ2 H2 th2 e2 w2 (Gr.refl _ _)
end
end MP
namespace MP
open PySem
abbrev Ris (xs : Array Nat) : Prop := xs.toList.Pairwise (· < ·)
theorem Ris.at {xs : Array Nat} (r : Ris xs) {a b : Nat} (h : a < b) (hb : b < xs.size) : xs[a]'(by omega) < xs[b] := by
  have := List.pairwise_iff_getElem.mp r a b (by simp; omega) (by simpa using hb) h
  simpa using this
theorem below_go {xs : Array Nat} {j : Nat} (r : Ris xs) : ∀ (fuel lo hi : Nat), hi - lo ≤ fuel → lo ≤ hi → hi ≤ xs.size → (∀ i (h : i < xs.size), i < lo → xs[i] < j) → (∀ i (h : i < xs.size), hi ≤ i → j ≤ xs[i]) →
    (fun p => p ≤ xs.size ∧ (∀ i (h : i < xs.size), i < p → xs[i] < j) ∧ ∀ i (h : i < xs.size), p ≤ i → j ≤ xs[i]) (SetTable.below.go xs j fuel lo hi)
  | 0, lo, hi, h1, h2, h3, a, b => by
    have : hi = lo := by omega
    subst this
    exact ⟨h3, a, b⟩
  | fuel + 1, lo, hi, h1, h2, h3, a, b => by
    unfold SetTable.below.go
    by_cases hlt : lo < hi
    · rw [if_pos hlt]
      have hm : (lo + hi) / 2 < xs.size := by omega
      have hg : xs.getD ((lo + hi) / 2) j = xs[(lo + hi) / 2] := by simp [Array.getD, hm]
      dsimp only
      rw [hg]
      by_cases hc : xs[(lo + hi) / 2] < j
      · rw [if_pos hc]
        refine below_go r fuel _ hi (by omega) (by omega) h3 (fun i h q => ?_) b
        by_cases e : i = (lo + hi) / 2
        · subst e; exact hc
        · exact Nat.lt_trans (r.at (by omega) hm) hc
      · rw [if_neg hc]
        refine below_go r fuel lo _ (by omega) (by omega) (by omega) a fun i h q => ?_
        by_cases e : i = (lo + hi) / 2
        · subst e; omega
        · have := r.at (a := (lo + hi) / 2) (b := i) (by omega) h
          omega
    · rw [if_neg hlt]
      have : hi = lo := by omega
      subst this
      exact ⟨h3, a, b⟩
theorem below_is {xs : Array Nat} (j : Nat) (r : Ris xs) : SetTable.below xs j ≤ xs.size ∧ (∀ i (h : i < xs.size), i < SetTable.below xs j → xs[i] < j) ∧ ∀ i (h : i < xs.size), SetTable.below xs j ≤ i → j ≤ xs[i] :=
  below_go r xs.size 0 xs.size (by omega) (by omega) (Nat.le_refl _) (fun i h q => by omega) fun i h q => by omega
theorem below_uniq {xs : Array Nat} {j p : Nat} (r : Ris xs) (h1 : p ≤ xs.size) (h2 : ∀ i (h : i < xs.size), i < p → xs[i] < j) (h3 : ∀ i (h : i < xs.size), p ≤ i → j ≤ xs[i]) : SetTable.below xs j = p := by
  obtain ⟨a1, a2, a3⟩ := below_is j r
  rcases Nat.lt_trichotomy (SetTable.below xs j) p with h | h | h
  · have hs : SetTable.below xs j < xs.size := by omega
    have := h2 _ hs h
    have := a3 _ hs (Nat.le_refl _)
    omega
  · exact h
  · have hs : p < xs.size := by omega
    have := a2 _ hs h
    have := h3 _ hs (Nat.le_refl _)
    omega
theorem below_zero {xs : Array Nat} (r : Ris xs) : SetTable.below xs 0 = 0 := below_uniq r (Nat.zero_le _) (fun i h q => by omega) fun i h q => by omega
theorem below_next {xs : Array Nat} (r : Ris xs) {i : Nat} (h : i < xs.size) : SetTable.below xs (xs[i] + 1) = i + 1 := by
  refine below_uniq r (by omega) (fun k hk q => ?_) fun k hk q => ?_
  · by_cases e : k = i
    · subst e; omega
    · have := r.at (a := k) (b := i) (by omega) h
      omega
  · exact r.at (by omega) hk
theorem insertAt_list {α : Type} (xs : Array α) (p : Nat) (x : α) : (SetTable.insertAt xs p x).toList = xs.toList.take p ++ x :: xs.toList.drop p := by
  unfold SetTable.insertAt
  simp [List.take_of_length_le]
theorem Ris.put {xs : Array Nat} {j : Nat} (r : Ris xs) (hn : (xs[SetTable.below xs j]? == some j) = false) : Ris (SetTable.insertAt xs (SetTable.below xs j) j) := by
  obtain ⟨a1, a2, a3⟩ := below_is j r
  show (SetTable.insertAt xs (SetTable.below xs j) j).toList.Pairwise (· < ·)
  rw [insertAt_list]
  refine List.pairwise_append.mpr ⟨r.sublist (List.take_sublist _ _), List.pairwise_cons.mpr ⟨fun y hy => ?_, r.sublist (List.drop_sublist _ _)⟩, fun x hx y hy => ?_⟩
  · obtain ⟨i, hi, e⟩ := List.mem_iff_getElem.mp hy
    rw [List.getElem_drop] at e
    have hs : SetTable.below xs j + i < xs.size := by simp at hi; omega
    have e' : xs[SetTable.below xs j + i] = y := by simpa using e
    have := a3 _ hs (by omega)
    rw [e'] at this
    rcases Nat.lt_or_eq_of_le this with h | h
    · exact h
    · exfalso
      subst h
      have h0 : SetTable.below xs j < xs.size := by omega
      have b1 := a3 _ h0 (Nat.le_refl _)
      by_cases hz : i = 0
      · subst hz
        simp only [Nat.add_zero] at e'
        rw [Array.getElem?_eq_getElem h0, e'] at hn
        simp at hn
      · have := r.at (a := SetTable.below xs j) (b := SetTable.below xs j + i) (by omega) hs
        omega
  · obtain ⟨i, hi, e⟩ := List.mem_iff_getElem.mp hx
    rw [List.getElem_take] at e
    have hs : i < xs.size := by simp at hi; omega
    have e' : xs[i] = x := by simpa using e
    have h1 := a2 i hs (by simp at hi; omega)
    rw [e'] at h1
    rcases List.mem_cons.mp hy with rfl | hy
    · exact h1
    · obtain ⟨k, hk, e2⟩ := List.mem_iff_getElem.mp hy
      rw [List.getElem_drop] at e2
      have hs2 : SetTable.below xs j + k < xs.size := by simp at hk; omega
      have e3 : xs[SetTable.below xs j + k] = y := by simpa using e2
      have h2 := a3 _ hs2 (by omega)
      rw [e3] at h2
      omega
structure TabOk (t : SetTable) (led : Bool) : Prop where
  led : t.led = led
  pl : t.plain = true → t.dummies = #[] ∧ Ris t.place
theorem TabOk.fresh (led : Bool) : TabOk (SetTable.fresh 0 0 led) led := ⟨rfl, fun _ => ⟨rfl, List.Pairwise.nil⟩⟩
theorem TabOk.standIn {t : SetTable} {led : Bool} (h : TabOk t led) (n : Nat) : TabOk (t.standIn n) led := ⟨h.led, fun e => by cases e⟩
theorem TabOk.orStandIn {t : SetTable} {led : Bool} (h : TabOk t led) (n : Nat) : TabOk (t.orStandIn n) led := by
  unfold SetTable.orStandIn
  split
  · exact h
  · exact h.standIn n
theorem TabOk.off {t : SetTable} {led : Bool} (h : TabOk t led) : TabOk { t with plain := false } led := ⟨h.led, fun e => by cases e⟩
theorem probe_empty {t : SetTable} {f : Nat → Int} {h : Int} (hd : t.dummies = #[]) : ∀ (fuel : Nat) (p : SetTable.Probe) {j : Nat} {d : Option Nat}, p.dummy = none → SetTable.probe.go t f h fuel p = some (.empty j d) → d = none ∧ t.slot j = .empty
  | 0, p, j, d, h0, e => by cases e
  | fuel + 1, p, j, d, h0, e => by
    unfold SetTable.probe.go at e
    have adv : (t.advance p).dummy = none := by
      unfold SetTable.advance
      split
      · exact h0
      · exact h0
    cases hs : t.slot p.j with
    | empty =>
      rw [hs] at e
      cases e
      exact ⟨h0, hs⟩
    | dummy =>
      exfalso
      unfold SetTable.slot at hs
      have hh : SetTable.has t.dummies p.j = false := by rw [hd]; rfl
      dsimp only at hs
      split at hs
      · cases hs
      · rw [hh] at hs
        cases hs
    | live i =>
      rw [hs] at e
      dsimp only at e
      split at e
      · cases e
      · exact probe_empty hd fuel _ adv e
theorem TabOk.laid {m f mv : Nat} {led pl : Bool} {hs : Array Int} {t : SetTable} {o : Array Nat} (e : SetTable.laid m f mv led pl hs = some (t, o)) : TabOk t led := by
  unfold SetTable.laid at e
  obtain ⟨owner, e1, e2⟩ := Option.bind_eq_some_iff.mp e
  cases e2
  refine ⟨rfl, fun _ => ⟨rfl, ?_⟩⟩
  show (List.toArray _).toList.Pairwise (· < ·)
  rw [List.toList_toArray, List.pairwise_map]
  refine List.Pairwise.filterMap (R := (· < ·)) _ ?_ List.pairwise_lt_range
  intro a b hab x hx y hy
  cases ha : owner.getD a none with
  | none => rw [ha] at hx; cases hx
  | some u =>
    rw [ha] at hx
    cases hb : owner.getD b none with
    | none => rw [hb] at hy; cases hy
    | some v =>
      rw [hb] at hy
      cases hx
      cases hy
      exact hab
theorem TabOk.layNew {t : SetTable} {led : Bool} (h : TabOk t led) (es : Array (Int × Value)) (hh : Int) (x : Value) : TabOk (layNew t es hh x).2.1 led := by
  unfold PySem.layNew
  cases e : t.freeSlot hh with
  | none => exact h.standIn _
  | some z =>
    obtain ⟨slot, wd⟩ := z
    dsimp only
    refine TabOk.orStandIn (t := (t.put slot).1) ⟨h.led, fun hp => ?_⟩ _
    have hp : t.plain = true := hp
    obtain ⟨hd, hr⟩ := h.pl hp
    unfold SetTable.freeSlot at e
    cases e1 : t.probe (fun _ => hh + 1) hh (t.probeStart hh) with
    | none => rw [e1] at e; cases e
    | some m =>
      rw [e1] at e
      cases m with
      | candidate a b c => cases e
      | empty j d =>
        cases e
        obtain ⟨rfl, hs⟩ := probe_empty hd _ _ rfl e1
        have hn : SetTable.has t.dummies j = false := by rw [hd]; rfl
        refine ⟨?_, ?_⟩
        · show (if SetTable.has t.dummies j = true then _ else t.dummies) = _
          rw [hn]
          exact hd
        · refine hr.put ?_
          unfold SetTable.slot at hs
          dsimp only at hs
          split at hs
          · cases hs
          · rename_i hq
            simpa using hq
theorem TabOk.relayAll {t : SetTable} {led : Bool} (h : TabOk t led) (es : Array (Int × Value)) (n : Nat) : TabOk (relayAll t es n).2.1 led := by
  unfold PySem.relayAll
  cases e : t.relaid (es.map (·.1)) n with
  | none => exact h.standIn _
  | some z =>
    obtain ⟨t', o⟩ := z
    dsimp only
    split
    · have := TabOk.laid e
      rw [h.led] at this
      exact this
    · exact h.standIn _
theorem erase_perm {α : Type} : ∀ (l : List α) (i : Nat) (h : i < l.length), (l[i] :: l.eraseIdx i).Perm l
  | x :: xs, 0, _ => .refl _
  | x :: xs, i + 1, h => by
    have h' : i < xs.length := by simpa using h
    show (xs[i] :: x :: xs.eraseIdx i).Perm (x :: xs)
    exact (List.Perm.swap _ _ _).trans ((erase_perm xs i h').cons x)
theorem pick_perm {α : Type} (next : Nat → Nat) : ∀ (fuel k : Nat) (left : List α) (out : Array α), left.length ≤ fuel → (pickOrder.go next fuel k left out).toList.Perm (out.toList ++ left)
  | 0, k, left, out, h => by
    have : left = [] := List.length_eq_zero_iff.mp (by omega)
    subst this
    unfold pickOrder.go
    simp
  | fuel + 1, k, left, out, h => by
    unfold pickOrder.go
    cases left with
    | nil => simp
    | cons x xs =>
      have hlt : next k % (x :: xs).length < (x :: xs).length := Nat.mod_lt _ (by simp)
      rw [List.getElem?_eq_getElem hlt]
      dsimp only
      refine (pick_perm next fuel (k + 1) _ _ (by rw [List.length_eraseIdx_of_lt hlt]; simp at h ⊢; omega)).trans ?_
      rw [Array.toList_push, List.append_assoc]
      refine List.Perm.append_left _ ?_
      exact erase_perm _ _ hlt
theorem pickOrder_perm {α : Type} (next : Nat → Nat) (xs : Array α) : (pickOrder next xs).toList.Perm xs.toList := by
  have := pick_perm next xs.size 0 xs.toList #[] (by simp)
  simpa [pickOrder] using this
end MP
namespace MP
open PySem PySem.Spec PyProof.Rows L2
theorem slot_setit_next : Slot "set_iterator" "__next__" "set_iterator.__next__" :=
  .of (owner := "set_iterator") (n := "__next__") (by rw [typeLookup_type, builtinLookup_eq_fast]; kernel_rfl) (by decide +kernel) (by decide +kernel) (by decide +kernel) (by first | exact .inl (by decide +kernel) | exact .inr (by decide +kernel)) (by rw [isSubtype_type]; kernel_rfl)
theorem entry_setit_next : entryFor table "set_iterator.__next__" = some Builtin.«set_iterator.__next__» := entryFor_of_tree (by kernel_rfl)
theorem args_setit_next (a : Value) : argsOk "set_iterator.__next__" ⟨[a], []⟩ := by unfold argsOk; kernel_rfl
theorem entry_setiter : entryFor table "set.__iter__" = some Builtin.«frozenset.__iter__» :=
  entryFor_alias (id' := "frozenset.__iter__") (by kernel_rfl) rfl (by decide +kernel) (by kernel_rfl)
def SIt (h : Heap) (it : Addr) (f : Value) (i : Nat) (S : Addr) (n ep : Nat) : Prop := ∃ o, h.get? it = some o ∧ o.cls = .type "set_iterator" ∧ o.data = .fields #[f, .int i 0, .ref S, .int n 0, .int ep 0]
structure SRaw (w : World) (h : Heap) (S : Addr) (es : Array (Int × Value)) (ep : Nat) (t : SetTable) : Prop where
  obj : ∃ o, h.get? S = some o ∧ o.ExactSet ∧ o.data = .set es ep t
  fits : t.fits es.size = true
  tab : TabOk t (!w.params.followText "set-order")
theorem SRaw.keep {w : World} {h h' : Heap} {S : Addr} {es : Array (Int × Value)} {ep : Nat} {t : SetTable} (r : SRaw w h S es ep t) (k : ∀ o, h.get? S = some o → h'.get? S = some o) : SRaw w h' S es ep t :=
  ⟨let ⟨o, e, x⟩ := r.obj; ⟨o, k o e, x⟩, r.fits, r.tab⟩
section
variable {prog : Program} {w : World} {A : Around} {E : Value → Shared → Prop} {s : Shared} {it S : Addr} {es : Array (Int × Value)} {t : SetTable} {ep i : Nat}
theorem SIt.typeIs {f : Value} {n : Nat} (x : SIt s.heap it f i S n ep) : s.TypeIs (.ref it) "set_iterator" := let ⟨o, e, c, _⟩ := x; ⟨o, e, c⟩
theorem set_item {slot next : Nat} {x : Value} {Q : Option Value → Shared → Prop} (hit : SIt s.heap it (.int slot 0) i S es.size ep) (r : SRaw w s.heap S es ep t)
    (hnx : ∀ (A' : Around) (Q' : Option (Value × Nat) → Shared → Prop) (E' : Value → Shared → Prop), Q' (some (x, next)) s → wpAny (model prog w) A' (setNext S slot i ep) Q' E' s)
    (hQ : ∀ h', SIt h' it (.int next 0) (i + 1) S es.size ep → Heap.SameBut it s.heap h' → Q (some x) { s with heap := h' }) : wpAny (model prog w) A (pyNext (.ref it)) Q E s := by
  obtain ⟨o, ho, hc, hd⟩ := id hit
  obtain ⟨os, hos, hx, hds⟩ := r.obj
  unfold pyNext
  refine wpAny_bind (wpAny_attempt (wpAny_callSpecial?_slot (name := Str.ofString "__next__") hit.typeIs slot_setit_next (wpAny_call_entry slot_setit_next hit.typeIs entry_setit_next ?_ (args_setit_next _))))
  (show wpAny _ _ (fieldsOf (.ref it) >>= _) _ _ s); refine wpAny_bind (wpAny_fieldsOf ho hd ?_)
  (show wpAny _ _ (setEntries S >>= _) _ _ s); refine wpAny_bind (wpAny_setEntries_of hos hds r.fits ?_)
  dsimp only
  rw [if_neg (by simp)]
  (show wpAny _ _ (setNext S _ _ _ >>= _) _ _ s); refine wpAny_bind ?_
  have e1 : ((slot : Int)).toNat = slot := Int.toNat_natCast _
  have e2 : ((i : Int)).toNat = i := Int.toNat_natCast _
  have e3 : ((ep : Int)).toNat = ep := Int.toNat_natCast _
  rw [e1, e2, e3]
  refine hnx _ _ _ ?_
  dsimp only
  refine wpAny_bind (wpAny_setField ho hd (by simp) ?_)
  have g1 := Heap.get?_update_self (Obj.mapFields fun v => v.setIfInBounds 0 (rawInt next)) ho (Obj.isFreed_of_fields (Obj.data_mapFields hd _))
  refine wpAny_bind (wpAny_setField g1 (Obj.data_mapFields hd _) (by simp) ?_)
  have g2 := Heap.get?_update_self (Obj.mapFields fun v => v.setIfInBounds 1 (rawInt (i + 1))) g1 (Obj.isFreed_of_fields (Obj.data_mapFields (Obj.data_mapFields hd _) _))
  refine wpAny_pure ⟨_, rfl, wpAny_pure (hQ _ ⟨_, g2, ?_, ?_⟩ ((Heap.SameBut.update _ _ _).trans (Heap.SameBut.update _ _ _)))⟩
  · rw [Obj.cls_mapFields, Obj.cls_mapFields]; exact hc
  · rw [Obj.data_mapFields (Obj.data_mapFields hd _)]
    simp [rawInt]
theorem stop_end {o : Obj} {vs : Array Value} {A' : Around} {Q : Option Value → Shared → Prop} (ho : s.heap.get? it = some o) (hd : o.data = .fields vs) (hs : 2 < vs.size) (hh : A'.handled = none)
    (k : ∀ h', Heap.ExtBut it s.heap h' → Q none { s with heap := h' }) :
    wpAny (model prog w) A' (setField (.ref it) 2 .none >>= fun _ => newExc (.type "StopIteration") [] >>= fun e => raiseNew (α := PySem.Fin) e) (fun _ _ => False)
      (fun e s' => wpAny (model prog w) A (isInstance e (.type "StopIteration")) (fun b s2 => b = true ∧ Q none s2) E s') s := by
  refine wpAny_bind (wpAny_setField ho hd hs ?_)
  (refine wpAny_bind ?_; simp only [newExc, newTuple]); refine wpAny_bind (wpAny_newObj_type ?_ (by size_fits))
  refine wpAny_bind (m := firstArgMember _ _) (wpAny_of_eq (a := Value.none) (by first | rfl | (simp only [firstArgMember]; rfl)) ?_); refine wpAny_newObj_type ?_ (by size_fits)
  simp only [raiseNew]
  refine wpAny_bind (wpAny_handled ?_)
  rw [hh]; refine wpAny_bind (wpAny_pure (wpAny_throw ?_))
  refine wpAny_isInstance (T := "StopIteration") (b := true) ⟨_, Heap.get?_push_size _ rfl, rfl⟩ isSubtype_stop ⟨rfl, k _ (((Heap.SameBut.update _ _ _).extBut.push _).push _)⟩
theorem set_end {slot : Nat} {Q : Option Value → Shared → Prop} (hh : A.handled = none) (hit : SIt s.heap it (.int slot 0) i S es.size ep) (r : SRaw w s.heap S es ep t)
    (hnx : ∀ (A' : Around) (Q' : Option (Value × Nat) → Shared → Prop) (E' : Value → Shared → Prop), Q' none s → wpAny (model prog w) A' (setNext S slot i ep) Q' E' s)
    (hQ : ∀ h', Heap.ExtBut it s.heap h' → Q none { s with heap := h' }) : wpAny (model prog w) A (pyNext (.ref it)) Q E s := by
  obtain ⟨o, ho, hc, hd⟩ := id hit
  obtain ⟨os, hos, hx, hds⟩ := r.obj
  unfold pyNext
  refine wpAny_bind (wpAny_attempt (wpAny_callSpecial?_slot (name := Str.ofString "__next__") hit.typeIs slot_setit_next (wpAny_call_entry slot_setit_next hit.typeIs entry_setit_next ?_ (args_setit_next _))))
  (show wpAny _ _ (fieldsOf (.ref it) >>= _) _ _ s); refine wpAny_bind (wpAny_fieldsOf ho hd ?_)
  (show wpAny _ _ (setEntries S >>= _) _ _ s); refine wpAny_bind (wpAny_setEntries_of hos hds r.fits ?_)
  dsimp only
  rw [if_neg (by simp)]
  (show wpAny _ _ (setNext S _ _ _ >>= _) _ _ s); refine wpAny_bind ?_
  have e1 : ((slot : Int)).toNat = slot := Int.toNat_natCast _
  have e2 : ((i : Int)).toNat = i := Int.toNat_natCast _
  have e3 : ((ep : Int)).toNat = ep := Int.toNat_natCast _
  rw [e1, e2, e3]
  refine hnx _ _ _ ?_
  dsimp only
  refine wpAny_mono (stop_end (A := A) (E := E) (Q := Q) ho hd (by simp) hh hQ) (fun _ _ f => f.elim) fun e s' k => ?_
  refine wpAny_bind (wpAny_mono k (fun b s2 ⟨e1, q⟩ => ?_) fun _ _ z => z)
  subst e1
  exact wpAny_pure q
theorem set_itemD {T : Addr} {ps : List Nat} {pl : Nat} {hx0 : Int} {x : Value} {Q : Option Value → Shared → Prop} (hit : SIt s.heap it (.ref T) i S es.size ep) (r : SRaw w s.heap S es ep t) (hT : IsTup s.heap T (ps.map fun (p : Nat) => Value.int p 0).toArray)
    (hp : ps[i]? = some pl) (hx : es[pl]? = some (hx0, x))
    (hQ : ∀ h', SIt h' it (.ref T) (i + 1) S es.size ep → Heap.SameBut it s.heap h' → Q (some x) { s with heap := h' }) : wpAny (model prog w) A (pyNext (.ref it)) Q E s := by
  obtain ⟨o, ho, hc, hd⟩ := id hit
  obtain ⟨os, hos, hxx, hds⟩ := r.obj
  obtain ⟨oT, hoT, hcT, nT, hdT⟩ := hT
  unfold pyNext
  refine wpAny_bind (wpAny_attempt (wpAny_callSpecial?_slot (name := Str.ofString "__next__") hit.typeIs slot_setit_next (wpAny_call_entry slot_setit_next hit.typeIs entry_setit_next ?_ (args_setit_next _))))
  (show wpAny _ _ (fieldsOf (.ref it) >>= _) _ _ s); refine wpAny_bind (wpAny_fieldsOf ho hd ?_)
  (show wpAny _ _ (setEntries S >>= _) _ _ s); refine wpAny_bind (wpAny_setEntries_of hos hds r.fits ?_)
  dsimp only
  rw [if_neg (by simp)]
  (show wpAny _ _ (seqItems? (.ref T) >>= _) _ _ s); refine wpAny_bind (wpAny_seqItems hoT hdT ?_)
  dsimp only
  have e2 : ((i : Int)).toNat = i := Int.toNat_natCast _
  have e4 : (ps.map fun (p : Nat) => Value.int p 0).toArray[i]? = some (.int pl 0) := by simp [hp]
  rw [e2, e4]
  dsimp only
  (show wpAny _ _ (setNextDrawn S _ _ >>= _) _ _ s); refine wpAny_bind ?_
  unfold setNextDrawn
  refine wpAny_bind (wpAny_setState_of hos hds r.fits ?_)
  dsimp only
  rw [Int.toNat_natCast, Int.toNat_natCast, if_neg (by simp)]
  rw [hx]
  refine wpAny_pure ?_
  refine wpAny_bind (wpAny_setField ho hd (by simp) ?_)
  have g1 := Heap.get?_update_self (Obj.mapFields fun v => v.setIfInBounds 1 (rawInt (i + 1))) ho (Obj.isFreed_of_fields (Obj.data_mapFields hd _))
  refine wpAny_pure ⟨_, rfl, wpAny_pure (hQ _ ⟨_, g1, ?_, ?_⟩ (Heap.SameBut.update _ _ _))⟩
  · rw [Obj.cls_mapFields]; exact hc
  · rw [Obj.data_mapFields hd]
    simp [rawInt]
theorem set_endD {T : Addr} {ps : List Nat} {Q : Option Value → Shared → Prop} (hh : A.handled = none) (hit : SIt s.heap it (.ref T) i S es.size ep) (r : SRaw w s.heap S es ep t) (hT : IsTup s.heap T (ps.map fun (p : Nat) => Value.int p 0).toArray)
    (hp : ps[i]? = none) (hQ : ∀ h', Heap.ExtBut it s.heap h' → Q none { s with heap := h' }) : wpAny (model prog w) A (pyNext (.ref it)) Q E s := by
  obtain ⟨o, ho, hc, hd⟩ := id hit
  obtain ⟨os, hos, hxx, hds⟩ := r.obj
  obtain ⟨oT, hoT, hcT, nT, hdT⟩ := hT
  unfold pyNext
  refine wpAny_bind (wpAny_attempt (wpAny_callSpecial?_slot (name := Str.ofString "__next__") hit.typeIs slot_setit_next (wpAny_call_entry slot_setit_next hit.typeIs entry_setit_next ?_ (args_setit_next _))))
  (show wpAny _ _ (fieldsOf (.ref it) >>= _) _ _ s); refine wpAny_bind (wpAny_fieldsOf ho hd ?_)
  (show wpAny _ _ (setEntries S >>= _) _ _ s); refine wpAny_bind (wpAny_setEntries_of hos hds r.fits ?_)
  dsimp only
  rw [if_neg (by simp)]
  (show wpAny _ _ (seqItems? (.ref T) >>= _) _ _ s); refine wpAny_bind (wpAny_seqItems hoT hdT ?_)
  dsimp only
  have e2 : ((i : Int)).toNat = i := Int.toNat_natCast _
  have e4 : (ps.map fun (p : Nat) => Value.int p 0).toArray[i]? = none := by simpa using hp
  rw [e2, e4]
  dsimp only
  refine wpAny_bind (wpAny_setField ho hd (by simp) ?_)
  have g1 := Heap.get?_update_self (Obj.mapFields fun v => v.setIfInBounds 0 (rawInt 0)) ho (Obj.isFreed_of_fields (Obj.data_mapFields hd _))
  refine wpAny_mono (stop_end (s := { s with heap := s.heap.update it _ }) (A := A) (E := E) (Q := Q) g1 (Obj.data_mapFields hd _) (by simp) hh fun h' k => hQ h' fun b u nb q => k b u nb ((Heap.get?_update_other _ _ (Ne.symm nb)).trans q)) (fun _ _ f => f.elim) fun e s' k => ?_
  refine wpAny_bind (wpAny_mono k (fun b s2 ⟨e1, q⟩ => ?_) fun _ _ z => z)
  subst e1
  exact wpAny_pure q
theorem next_text (hb : w.params.followText "set-order" = true) (r : SRaw w s.heap S es ep t) {slot : Nat} {Q : Option (Value × Nat) → Shared → Prop}
    (h : Q (((pickOrder (w.params.setOrder S ep) es)[i]?).map fun e => (e.2, slot)) s) : wpAny (model prog w) A (setNext S slot i ep) Q E s := by
  obtain ⟨os, hos, hxx, hds⟩ := r.obj
  unfold setNext
  refine wpAny_bind (wpAny_setState_of hos hds r.fits ?_)
  dsimp only
  unfold setsByText
  refine wpAny_bind (wpAny_bind (wpAny_askSetting (wpAny_pure ?_)))
  show wpAny _ _ (if w.params.followText "set-order" = true then _ else _) _ _ s
  rw [if_pos hb, if_neg (by simp)]
  refine wpAny_bind ?_
  unfold setWalk
  refine wpAny_bind (wpAny_setState_of hos hds r.fits ?_)
  dsimp only
  unfold setsByText
  refine wpAny_bind (wpAny_bind (wpAny_askSetting (wpAny_pure ?_)))
  show wpAny _ _ (if w.params.followText "set-order" = true then _ else _) _ _ s
  rw [if_pos hb]
  exact wpAny_bind (wpAny_askSetting (wpAny_pure (wpAny_pure h)))
theorem next_plain (hb : w.params.followText "set-order" = false) (r : SRaw w s.heap S es ep t) (hp : (!t.plain && decide (es.size > 1)) = false) {slot : Nat} {Q : Option (Value × Nat) → Shared → Prop}
    (h : Q (match es[SetTable.below t.place slot]?, t.place[SetTable.below t.place slot]? with | some (_, x), some j => some (x, j + 1) | _, _ => none) s) : wpAny (model prog w) A (setNext S slot i ep) Q E s := by
  obtain ⟨os, hos, hxx, hds⟩ := r.obj
  have hl : t.led = true := by rw [r.tab.led, hb]; rfl
  unfold setNext
  refine wpAny_bind (wpAny_setState_of hos hds r.fits ?_)
  dsimp only
  unfold setsByText
  refine wpAny_bind (wpAny_bind (wpAny_askSetting (wpAny_pure ?_)))
  show wpAny _ _ (if w.params.followText "set-order" = true then _ else _) _ _ s
  rw [if_neg (by rw [hb]; simp)]
  show wpAny _ _ (if (!t.plain && decide (es.size > 1)) = true then _ else _) _ _ s
  rw [if_neg (by rw [hp]; simp)]
  show wpAny _ _ ((if (!t.led && !es.isEmpty) = true then unsupported "set:maker-not-led" else pure ()) >>= _) _ _ s
  rw [if_neg (by rw [hl]; simp)]
  exact wpAny_bind (wpAny_pure (wpAny_pure h))
end
theorem slot_setit_iter : Slot "set_iterator" "__iter__" "set_iterator.__iter__" :=
  .of (owner := "set_iterator") (n := "__iter__") (by rw [typeLookup_type, builtinLookup_eq_fast]; kernel_rfl) (by decide +kernel) (by decide +kernel) (by decide +kernel) (by first | exact .inl (by decide +kernel) | exact .inr (by decide +kernel)) (by rw [isSubtype_type]; kernel_rfl)
theorem entry_setit_iter : entryFor table "set_iterator.__iter__" = some Builtin.«dict_keyiterator.__iter__» :=
  entryFor_alias (id' := "dict_keyiterator.__iter__") (by kernel_rfl) rfl (by decide +kernel) (by kernel_rfl)
theorem args_setit_iter (a : Value) : argsOk "set_iterator.__iter__" ⟨[a], []⟩ := by unfold argsOk; kernel_rfl
theorem fm_eq (es : Array (Int × Value)) : ∀ ps : List Nat, (∀ p ∈ ps, p < es.size) → (ps.filterMap fun p => (es[p]?).map (·.2)) = ps.map fun p => (es.toList.map (·.2)).getD p .none
  | [], _ => rfl
  | p :: ps, h => by
    have hp : p < es.size := h p (by simp)
    have e : (es[p]?).map (·.2) = some ((es.toList.map (·.2)).getD p .none) := by
      rw [Array.getElem?_eq_getElem hp]
      simp [hp]
    rw [List.filterMap_cons, e, List.map_cons]
    dsimp only
    rw [fm_eq es ps fun q hq => h q (List.mem_cons_of_mem _ hq)]
section
variable {prog : Program} {w : World} {A : Around} {E : Value → Shared → Prop} {s : Shared} {it S : Addr} {es : Array (Int × Value)} {t : SetTable} {ep i : Nat}
theorem setit_self {f : Value} {n : Nat} {Q : Value → Shared → Prop} (hit : SIt s.heap it f i S n ep) (h : Q (.ref it) s) : wpAny (model prog w) A (pyIter (.ref it)) Q E s := by
  refine wpAny_pyIter_slot hit.typeIs slot_setit_iter (wpAny_call_entry slot_setit_iter hit.typeIs entry_setit_iter ?_ (args_setit_iter _))
  show wpAny _ _ (ret (.ref it)) _ _ s
  exact wpAny_pure ⟨_, rfl, "set_iterator", _, hit.typeIs, slot_setit_next.lookup, h⟩
theorem SIt.same {h h' : Heap} {f : Value} {n : Nat} (x : SIt h it f i S n ep) (k : ∀ o, h.get? it = some o → h'.get? it = some o) : SIt h' it f i S n ep := let ⟨o, e, r⟩ := x; ⟨o, k o e, r⟩
theorem walk_text (hh : A.handled = none) (hb : w.params.followText "set-order" = true) (hne : S ≠ it) : Walks prog w A it [it, S] [it] es.size (fun i v => ((pickOrder (w.params.setOrder S ep) es).toList.map (·.2))[i]? = some v) (fun i h => SIt h it (.int (0 : Nat) 0) i S es.size ep ∧ SRaw w h S es ep t) where
  sub := fun b hb => by simp at hb; simp [hb]
  frame := fun i h h' st hk => ⟨st.1.same fun o e => hk it (by simp) o e, st.2.keep fun o e => hk S (by simp) o e⟩
  item := fun i s Q E hi st hQ => by
    have hl : (pickOrder (w.params.setOrder S ep) es).size = es.size := by
      have := (pickOrder_perm (w.params.setOrder S ep) es).length_eq
      simpa using this
    have hi' : i < (pickOrder (w.params.setOrder S ep) es).size := by omega
    refine set_item (x := (pickOrder (w.params.setOrder S ep) es)[i].2) (next := 0) st.1 st.2 (fun A' Q' E' q => next_text hb st.2 ?_) fun h' st' sb => ?_
    · rw [Array.getElem?_eq_getElem hi']; exact q
    · refine hQ _ h' s.toks ?_ ⟨st', st.2.keep fun o e => (sb.2 S hne).trans e⟩ fun b o nb e => (sb.2 b fun z => nb (by simp [z])).trans e
      simp [hi']
  done := fun s Q E st hQ => by
    have hl : (pickOrder (w.params.setOrder S ep) es).size = es.size := by
      have := (pickOrder_perm (w.params.setOrder S ep) es).length_eq
      simpa using this
    refine set_end hh st.1 st.2 (fun A' Q' E' q => next_text hb st.2 ?_) fun h' eb => hQ h' s.toks fun b o nb e => eb b o (fun z => nb (by simp [z])) e
    rw [Array.getElem?_eq_none (by omega)]; exact q
  self := fun i s Q E st hQ => setit_self st.1 hQ
theorem walk_plain (hh : A.handled = none) (hb : w.params.followText "set-order" = false) (hp : (!t.plain && decide (es.size > 1)) = false) (hr : Ris t.place) (hz : t.place.size = es.size) (hne : S ≠ it) :
    Walks prog w A it [it, S] [it] es.size (fun i v => (es.toList.map (·.2))[i]? = some v) (fun i h => ∃ slot : Nat, SIt h it (.int slot 0) i S es.size ep ∧ SRaw w h S es ep t ∧ SetTable.below t.place slot = i) where
  sub := fun b hb => by simp at hb; simp [hb]
  frame := fun i h h' ⟨sl, st1, st2, st3⟩ hk => ⟨sl, st1.same fun o e => hk it (by simp) o e, st2.keep fun o e => hk S (by simp) o e, st3⟩
  item := fun i s Q E hi ⟨sl, st1, st2, st3⟩ hQ => by
    have hi' : i < t.place.size := by omega
    refine set_item (x := es[i].2) (next := t.place[i] + 1) st1 st2 (fun A' Q' E' q => next_plain hb st2 hp ?_) fun h' st' sb => ?_
    · rw [st3, Array.getElem?_eq_getElem hi, Array.getElem?_eq_getElem hi']; exact q
    · refine hQ _ h' s.toks ?_ ⟨_, st', st2.keep fun o e => (sb.2 S hne).trans e, below_next hr hi'⟩ fun b o nb e => (sb.2 b fun z => nb (by simp [z])).trans e
      simp [hi]
  done := fun s Q E ⟨sl, st1, st2, st3⟩ hQ => by
    refine set_end hh st1 st2 (fun A' Q' E' q => next_plain hb st2 hp ?_) fun h' eb => hQ h' s.toks fun b o nb e => eb b o (fun z => nb (by simp [z])) e
    rw [st3, Array.getElem?_eq_none (Nat.le_refl _)]; exact q
  self := fun i s Q E ⟨sl, st1, st2, st3⟩ hQ => setit_self st1 hQ
theorem walk_drawn {T : Addr} {ps : List Nat} (hh : A.handled = none) (hps : ps.Perm (List.range es.size)) (hne : S ≠ it) (hnT : T ≠ it) :
    Walks prog w A it [it, S, T] [it] es.size (fun i v => (ps.filterMap fun p => (es[p]?).map (·.2))[i]? = some v) (fun i h => SIt h it (.ref T) i S es.size ep ∧ SRaw w h S es ep t ∧ IsTup h T (ps.map fun (p : Nat) => Value.int p 0).toArray) where
  sub := fun b hb => by simp at hb; simp [hb]
  frame := fun i h h' ⟨st1, st2, st3⟩ hk => ⟨st1.same fun o e => hk it (by simp) o e, st2.keep fun o e => hk S (by simp) o e, let ⟨o, e, r⟩ := st3; ⟨o, hk T (by simp) o e, r⟩⟩
  item := fun i s Q E hi ⟨st1, st2, st3⟩ hQ => by
    have hl : ps.length = es.size := by simpa using hps.length_eq
    have hi' : i < ps.length := by omega
    have hpl : ps[i] < es.size := by
      have := (hps.mem_iff (a := ps[i])).mp (List.getElem_mem hi')
      simpa using this
    refine set_itemD (pl := ps[i]) (hx0 := es[ps[i]].1) (x := es[ps[i]].2) st1 st2 st3 (List.getElem?_eq_getElem hi') (Array.getElem?_eq_getElem hpl) fun h' st' sb => ?_
    refine hQ _ h' s.toks ?_ ⟨st', st2.keep fun o e => (sb.2 S hne).trans e, let ⟨o, e, r⟩ := st3; ⟨o, (sb.2 T hnT).trans e, r⟩⟩ fun b o nb e => (sb.2 b fun z => nb (by simp [z])).trans e
    have hfm := fm_eq es ps fun p hp => by simpa using hps.mem_iff.mp hp
    rw [hfm, List.getElem?_map, List.getElem?_eq_getElem hi']
    simp [hpl]
  done := fun s Q E ⟨st1, st2, st3⟩ hQ => by
    have hl : ps.length = es.size := by simpa using hps.length_eq
    exact set_endD hh st1 st2 st3 (List.getElem?_eq_none (by omega)) fun h' eb => hQ h' s.toks fun b o nb e => eb b o (fun z => nb (by simp [z])) e
  self := fun i s Q E ⟨st1, st2, st3⟩ hQ => setit_self st1 hQ
theorem wp_choose_ {src : Source} {n : Nat} {Q : Nat → Shared → Prop} (hn : n ≠ 0) (h : ∀ i d, i < n → Q i { s with drawn := d }) : wpAny (model prog w) A (choose src n) Q E s := fun Γ p hΓ => ⟨hn, h _ _ (Nat.mod_lt _ (Nat.pos_of_ne_zero hn))⟩
theorem wp_drawOrder {α : Type} : ∀ (n : Nat) (xs : List α) {s : Shared} {Q : List α → Shared → Prop}, xs.length = n → (∀ l d, l.Perm xs → Q l { s with drawn := d }) → wpAny (model prog w) A (drawOrder n xs) Q E s
  | 0, xs, s, Q, hl, h => by
    have : xs = [] := List.length_eq_zero_iff.mp hl
    subst this
    unfold drawOrder
    exact wpAny_pure (h [] s.drawn (.refl _))
  | n + 1, [], s, Q, hl, h => by cases hl
  | n + 1, x :: xs, s, Q, hl, h => by
    unfold drawOrder
    refine wpAny_bind (wp_choose_ (by simp) fun i d hi => ?_)
    rw [List.getElem?_eq_getElem hi]
    dsimp only
    refine wpAny_bind (wp_drawOrder n _ (by rw [List.length_eraseIdx_of_lt hi]; simp at hl ⊢; omega) fun l d' pl => wpAny_pure (h _ d' ?_))
    exact (pl.cons _).trans (erase_perm _ _ hi)
end
section
variable {prog : Program} {w : World} {A : Around} {E : Value → Shared → Prop} {s : Shared} {S : Addr} {es : Array (Int × Value)} {t : SetTable} {ep : Nat}
theorem wp_setEpoch (r : SRaw w s.heap S es ep t) {Q : Nat → Shared → Prop} (h : Q ep s) : wpAny (model prog w) A (setEpoch S) Q E s := let ⟨_, e, _, d⟩ := r.obj; wpAny_setEpoch_of e d r.fits h
theorem iter_set {Q : Value → Shared → Prop} (r : SRaw w s.heap S es ep t) (hn : es.size ≤ sizeLine)
    (hQ : ∀ (it : Addr) (fp : List Addr) (vs : List Value) (St : Nat → Heap → Prop) (h' : Heap) (d : Drawn), vs.Perm (es.toList.map (·.2)) → (∀ A' : Around, A'.handled = none → Walks prog w A' it fp [it] es.size (fun i v => vs[i]? = some v) St) → St 0 h' →
      s.heap.objs.size ≤ it → (∀ b ∈ fp, b = S ∨ s.heap.objs.size ≤ b) → (∀ b o, s.heap.get? b = some o → h'.get? b = some o) → Q (.ref it) { s with heap := h', drawn := d }) : wpAny (model prog w) A (pyIter (.ref S)) Q E s := by
  obtain ⟨os, hos, hx, hds⟩ := r.obj
  have hT : s.TypeIs (.ref S) "set" := ⟨os, hos, hx.1⟩
  have hlt : S < s.heap.objs.size := Heap.lt_size hos
  refine wpAny_pyIter_slot hT PySem.F.slot_set_iter (wpAny_call_entry PySem.F.slot_set_iter hT entry_setiter ?_ (PySem.F.args_set_iter_1 _))
  unfold Builtin.«frozenset.__iter__»
  (show wpAny _ _ (Builtin.Frozenset.sizeOf S >>= _) _ _ s); refine wpAny_bind (wpAny_bind (wpAny_setEntries_of hos hds r.fits (wpAny_pure ?_)))
  (show wpAny _ _ (setDrawn S >>= _) _ _ s); unfold setDrawn; refine wpAny_bind (wpAny_bind (wpAny_setState_of hos hds r.fits ?_))
  dsimp only
  unfold setsByText
  refine wpAny_bind (wpAny_bind (wpAny_askSetting (wpAny_pure ?_)))
  refine wpAny_pure ?_
  have fin : ∀ (f : Value) (h1 : Heap) (d : Drawn), (∀ b o, s.heap.get? b = some o → h1.get? b = some o) → s.heap.objs.size ≤ h1.objs.size →
      (∀ (o : Obj), o.cls = .type "set_iterator" → o.data = .fields #[f, .int (0 : Nat) 0, .ref S, .int es.size 0, .int ep 0] → Q (.ref h1.objs.size) { s with heap := h1.push o, drawn := d }) →
      wpAny (model prog w) A.in1 (setEpoch S >>= fun e => newFields "set_iterator" [f, rawInt 0, .ref S, rawInt es.size, rawInt e] >>= fun v => ret v)
        (fun fi s' => ∃ r, fi = PySem.Fin.done (.ret r) ∧ ∃ T' r', s'.TypeIs r T' ∧ typeLookup (.type T') "__next__" = pure (some r') ∧ Q r s') E { s with heap := h1, drawn := d } := fun f h1 d k1 hsz q => by
    refine wpAny_bind (wp_setEpoch (s := { s with heap := h1, drawn := d }) (r.keep fun o e => k1 S o e) ?_)
    exact wpAny_bind (wpAny_newObj_type (wpAny_pure ⟨_, rfl, "set_iterator", _, ⟨_, Heap.get?_push_size _ rfl, rfl⟩, slot_setit_next.lookup, q _ rfl rfl⟩))
  by_cases hb : w.params.followText "set-order" = true
  · have hd0 : (!w.params.followText "set-order" && (!t.plain && decide (es.size > 1))) = false := by rw [hb]; rfl
    show wpAny _ _ (if (!w.params.followText "set-order" && (!t.plain && decide (es.size > 1))) = true then _ else _) _ _ s
    rw [if_neg (by rw [hd0]; simp)]
    refine wpAny_bind (wpAny_pure ?_)
    refine fin (rawInt 0) s.heap s.drawn (fun b o e => e) (Nat.le_refl _) fun o hc hd => ?_
    refine hQ s.heap.objs.size [s.heap.objs.size, S] _ _ _ _ ((pickOrder_perm (w.params.setOrder S ep) es).map _) (fun A' hh => walk_text (t := t) hh hb (Nat.ne_of_lt hlt)) ⟨⟨o, Heap.get?_push_size _ (by cases o; simp at hd; subst hd; rfl), hc, hd⟩, r.keep fun o e => Heap.get?_push_of_some _ e⟩ (Nat.le_refl _) (fun b hb => ?_) fun b o e => Heap.get?_push_of_some _ e
    rcases List.mem_cons.mp hb with rfl | hb
    · exact .inr (Nat.le_refl _)
    · exact .inl (by simpa using hb)
  · have hb : w.params.followText "set-order" = false := by simpa using hb
    by_cases hp : (!t.plain && decide (es.size > 1)) = true
    · show wpAny _ _ (if (!w.params.followText "set-order" && (!t.plain && decide (es.size > 1))) = true then _ else _) _ _ s
      rw [if_pos (by rw [hb, hp]; rfl)]
      refine wpAny_bind (wp_drawOrder es.size (List.range es.size) (by simp) fun l d pl => ?_)
      have hll : l.length = es.size := by simpa using pl.length_eq
      refine wpAny_bind (m := newTuple _) (wpAny_newTuple ?_ (by simpa [hll] using hn))
      have e0 : (s.heap.push { cls := .type "tuple", data := .seq (l.map fun (i : Nat) => rawInt i).toArray }).objs.size = s.heap.objs.size + 1 := Heap.size_push ..
      refine fin (.ref s.heap.objs.size) (s.heap.push { cls := .type "tuple", data := .seq (l.map fun (i : Nat) => rawInt i).toArray }) d (fun b o e => Heap.get?_push_of_some _ e) (by rw [e0]; omega) fun o hc hd => ?_
      refine hQ (s.heap.push { cls := .type "tuple", data := .seq (l.map fun (i : Nat) => rawInt i).toArray }).objs.size [(s.heap.push { cls := .type "tuple", data := .seq (l.map fun (i : Nat) => rawInt i).toArray }).objs.size, S, s.heap.objs.size] _ _ _ _ ?_ (fun A' hh => walk_drawn (t := t) (T := s.heap.objs.size) hh pl (by rw [e0]; exact Nat.ne_of_lt (Nat.lt_succ_of_lt hlt)) (by rw [e0]; exact Nat.ne_of_lt (Nat.lt_succ_self _))) ⟨⟨o, Heap.get?_push_size _ (by cases o; simp at hd; subst hd; rfl), hc, hd⟩, (r.keep fun o e => Heap.get?_push_of_some _ (Heap.get?_push_of_some _ e)), ?_⟩ (by rw [e0]; exact Nat.le_succ _) (fun b hb => ?_) fun b o e => Heap.get?_push_of_some _ (Heap.get?_push_of_some _ e)
      · refine (pl.filterMap _).trans ?_
        rw [fm_eq es (List.range es.size) (by simp)]
        refine List.Perm.of_eq (List.ext_getElem? fun i => ?_)
        simp only [List.getElem?_map]
        by_cases hi : i < es.size
        · rw [List.getElem?_range hi]; simp [hi]
        · rw [List.getElem?_eq_none (by simp; omega), List.getElem?_eq_none (by simp; omega)]; rfl
      · exact ⟨_, Heap.get?_push_of_some _ (Heap.get?_push_size _ rfl), rfl, 0, rfl⟩
      · rcases List.mem_cons.mp hb with rfl | hb
        · exact .inr (by rw [e0]; exact Nat.le_succ _)
        · rcases List.mem_cons.mp hb with rfl | hb
          · exact .inl rfl
          · exact .inr (by have : b = s.heap.objs.size := by simpa using hb
                           rw [this]; exact Nat.le_refl _)
    · have hp : (!t.plain && decide (es.size > 1)) = false := by simpa using hp
      show wpAny _ _ (if (!w.params.followText "set-order" && (!t.plain && decide (es.size > 1))) = true then _ else _) _ _ s
      rw [if_neg (by rw [hp]; simp)]
      have hz : t.place.size = es.size := by
        have := r.fits
        simp only [SetTable.fits, Bool.and_eq_true, beq_iff_eq] at this
        exact this.1
      have hr : Ris t.place := by
        by_cases hpl : t.plain = true
        · exact (r.tab.pl hpl).2
        · have h1 : t.place.toList.length ≤ 1 := by
            simp [hpl] at hp
            simp; omega
          show t.place.toList.Pairwise (· < ·)
          match hL : t.place.toList, h1 with
          | [], _ => exact .nil
          | [x], _ => exact List.pairwise_singleton _ _
          | x :: y :: l, h1 => simp [hL] at h1
      refine wpAny_bind (wpAny_pure ?_)
      refine fin (rawInt 0) s.heap s.drawn (fun b o e => e) (Nat.le_refl _) fun o hc hd => ?_
      refine hQ s.heap.objs.size [s.heap.objs.size, S] _ _ _ _ (.refl _) (fun A' hh => walk_plain (t := t) hh hb hp hr hz (Nat.ne_of_lt hlt)) ⟨0, ⟨o, Heap.get?_push_size _ (by cases o; simp at hd; subst hd; rfl), hc, hd⟩, (r.keep fun o e => Heap.get?_push_of_some _ e), below_zero hr⟩ (Nat.le_refl _) (fun b hb => ?_) fun b o e => Heap.get?_push_of_some _ e
      rcases List.mem_cons.mp hb with rfl | hb
      · exact .inr (Nat.le_refl _)
      · exact .inl (by simpa using hb)
end
section
variable {prog : Program} {w : World} {A : Around} {E : Value → Shared → Prop} {s : Shared} {S : Addr} {es : Array (Int × Value)} {t : SetTable} {ep : Nat}
theorem items_list {vs : List Value} {acc : Array Value} {n : Nat} (hn : vs.length = n) (h : ItemsOf (fun i v => vs[i]? = some v) acc n) : acc.toList = vs := by
  refine List.ext_getElem? fun i => ?_
  by_cases hi : i < n
  · have hsz : i < acc.size := by rw [h.1]; exact hi
    have := h.2 i acc[i] (Array.getElem?_eq_getElem hsz)
    rw [this]
    simp [hsz]
  · rw [List.getElem?_eq_none (by simp [h.1]; omega), List.getElem?_eq_none (by omega)]
theorem collect_set {Q : List Value → Shared → Prop} (hh : A.handled = none) (r : SRaw w s.heap S es ep t) (hn : es.size ≤ sizeLine)
    (hQ : ∀ (vs : List Value) (s' : Shared), vs.Perm (es.toList.map (·.2)) → (∀ b o, s.heap.get? b = some o → s'.heap.get? b = some o) → s'.gens = s.gens → s'.os = s.os → Q vs s') : wpAny (model prog w) A (collect (.ref S)) Q E s := by
  obtain ⟨os, hos, hx, hds⟩ := r.obj
  have hlt : S < s.heap.objs.size := Heap.lt_size hos
  unfold collect
  refine wpAny_bind (wpAny_runValue (codeAny_builtin entry_proto_collect' ?_))
  rw [Around.under_plainId PySem.F.plain_proto_collect _]
  (show wpAny _ A.in1 (newList [] >>= fun l => again (.builtin "list.__iadd__" ⟨[l, .ref S], []⟩)) _ _ s); refine wpAny_bind (wpAny_newObj_type ?_)
  refine wpAny_pure ⟨plainId_quiet PySem.F.plain_list_iadd _, codeAny_builtin entry_list_iadd' ?_⟩
  rw [Around.under_plainId PySem.F.plain_list_iadd _]
  generalize hH : s.heap.push { cls := .type "list", data := .seq ([] : List Value).toArray } = H
  have hHs : H.objs.size = s.heap.objs.size + 1 := by rw [← hH, Heap.size_push]
  have kH : ∀ b o, s.heap.get? b = some o → H.get? b = some o := fun b o e => hH ▸ Heap.get?_push_of_some _ e
  have hL : H.get? s.heap.objs.size = some { cls := .type "list", data := .seq ([] : List Value).toArray } := hH ▸ Heap.get?_push_size _ rfl
  have r1 : SRaw w H S es ep t := r.keep fun o e => kH S o e
  show wpAny _ A.in1 (Builtin.List.listExtendWith (.ref s.heap.objs.size) (.ref S) (.ref s.heap.objs.size)) _ _ { s with heap := H }
  unfold Builtin.List.listExtendWith
  have hT1 : Shared.TypeIs { s with heap := H } (.ref S) "set" := ⟨os, kH S os hos, hx.1⟩
  refine wpAny_bind (wpAny_typeOf hT1 ?_)
  have h1 : Builtin.List.listSameRef (.ref s.heap.objs.size) (.ref S) = false := by simp [Builtin.List.listSameRef, Nat.ne_of_gt hlt]
  have h2 : (Value.type "set" == Value.type "list") = false := by decide
  have h3 : (Value.type "set" == Value.type "tuple") = false := by decide
  rw [if_neg (by rw [h1, h2, h3]; simp)]
  refine wpAny_bind (iter_set (s := { s with heap := H }) r1 hn fun it fp vs St h' d pv W st0 hit hfp k1 => ?_)
  have hSf : s.heap.objs.size ∉ fp := fun hm => by
    rcases hfp _ hm with e | e
    · exact absurd e (Nat.ne_of_gt hlt)
    · have e : H.objs.size ≤ s.heap.objs.size := e
      omega
  have hL1 := k1 _ _ hL
  have hT2 : Shared.TypeIs { s with heap := h', drawn := d } (.ref S) "set" := ⟨os, k1 S os (kH S os hos), hx.1⟩
  have hlen : vs.length = es.size := by simpa using pv.length_eq
  have key : ∀ (h : Heap) (c₁ : Nat), St 0 h → (∀ b o, b ≠ s.heap.objs.size → h'.get? b = some o → h.get? b = some o) → h.get? s.heap.objs.size = some { cls := .type "list", data := .seq #[] c₁ } →
      codeAny (model prog w) A (.builtin "list.extend.loop" ⟨[.ref s.heap.objs.size, .ref it, .ref s.heap.objs.size], []⟩) (fun q s2 => ∃ (acc : Array Value) (c : Nat), q = .ok (.ret (.ref s.heap.objs.size)) ∧ s2.heap.get? s.heap.objs.size = some { cls := .type "list", dict := none, data := .seq acc c, slots := #[] } ∧ acc.toList = vs ∧ (∀ b o, s.heap.get? b = some o → s2.heap.get? b = some o) ∧ s2.gens = s.gens ∧ s2.os = s.os) { s with heap := h, drawn := d } := fun h c₁ hst hk hS₁ => by
    refine codeAny_extend_loopS (W A.in1 hh).toS hn _ hSf _ es.size 0 _ #[] c₁ rfl (Nat.zero_le _) hst hS₁ (ItemsOf.nil _) fun s' acc' c' hm hS' hacc => ?_
    refine ⟨acc', c', rfl, hS', items_list hlen hacc, fun b o e => hm.heap b o (fun hmem => ?_) (hk b o (Nat.ne_of_lt (Heap.lt_size e)) (k1 b o (kH b o e))), hm.gens, hm.os⟩
    have hb := Heap.lt_size e
    rcases List.mem_cons.mp hmem with e' | hmem
    · exact absurd hb (e' ▸ Nat.lt_irrefl _)
    · have e1 : b = it := by simpa using hmem
      have e2 : H.objs.size ≤ it := hit
      rw [← e1, hHs] at e2
      exact absurd hb (Nat.not_lt.mpr (Nat.le_of_succ_le e2))
  have fin : ∀ {c' : Code} {s' : Shared}, c'.quiet = true → codeAny (model prog w) A c' (fun q s2 => ∃ (acc : Array Value) (c : Nat), q = .ok (.ret (.ref s.heap.objs.size)) ∧ s2.heap.get? s.heap.objs.size = some { cls := .type "list", dict := none, data := .seq acc c, slots := #[] } ∧ acc.toList = vs ∧ (∀ b o, s.heap.get? b = some o → s2.heap.get? b = some o) ∧ s2.gens = s.gens ∧ s2.os = s.os) s' →
      c'.quiet = true ∧ codeAny (model prog w) A c' (wants (fun a s2 => wpAny (model prog w) A (match a with
        | .ref a => (do match (← load a).data with
          | .seq xs _ => pure xs.toList
          | _ => unsupported "internal:collect")
        | _ => unsupported "internal:collect") Q E s2) E) s' := fun hq hc => ⟨hq, codeAny_mono hc fun q s2 ⟨acc, c, e1, e2, e3, e4, e5, e6⟩ => by
      subst e1
      show wpAny _ A (load s.heap.objs.size >>= _) _ _ s2
      refine wpAny_bind (wpAny_load e2 ?_)
      exact wpAny_pure (e3 ▸ hQ vs s2 pv e4 e5 e6)⟩
  refine wpAny_bind (wpAny_holding ?_)
  unfold Builtin.List.listLengthHint
  refine wpAny_bind (wpAny_specialOf hT2 PySem.F.slot_set_len.lookup ?_)
  wp_delta
  refine wpAny_bind (wpAny_isInstance (b := true) hT2 (by rw [isSubtype_type]; kernel_rfl) ?_)
  (show wpAny _ A.in1 (typeOf (Value.ref S) >>= _) _ _ _); refine wpAny_bind (wpAny_typeOf hT2 ?_)
  refine wpAny_pure ?_
  refine wpAny_ite_split (fun _ => ?_) (fun _ => wpAny_pure (fin (plainId_quiet PySem.F.plain_extend_loop _) (key _ _ st0 (fun b o _ e => e) hL1)))
  refine wpAny_bind (wpAny_rule ?_)
  refine wpAny_bind ?_
  show wpAny _ _ (updateSeq s.heap.objs.size (·.push .none) >>= fun _ => updateSeq s.heap.objs.size (·.pop)) _ _ _
  refine wpAny_bind (wpAny_updateSeq hL1 rfl ?_)
  have hS₂ := Heap.get?_update_self (Obj.mapSeq (·.push Value.none)) hL1 rfl
  refine wpAny_updateSeq (hz := by seq_fits) hS₂ rfl ?_
  have hS₃ := Heap.get?_update_self (Obj.mapSeq (·.pop)) hS₂ rfl
  refine wpAny_pure (fin (plainId_quiet PySem.F.plain_extend_loop _) (key _ _ ?_ (fun b o hb e => ?_) hS₃))
  · refine (W A hh).frame 0 _ _ st0 fun b hb o e => ?_
    have hbS : b ≠ s.heap.objs.size := fun h => hSf (h ▸ hb)
    exact (Heap.get?_update_other _ _ (Ne.symm hbS)).trans ((Heap.get?_update_other _ _ (Ne.symm hbS)).trans e)
  · exact (Heap.get?_update_other _ _ (Ne.symm hb)).trans ((Heap.get?_update_other _ _ (Ne.symm hb)).trans e)
end
noncomputable def vInt : Value → Int
  | .int i _ => i
  | _ => 0
theorem intsAre_iff : ∀ {l : List Value} {ns : List Int}, IntsAre l ns ↔ (∀ v ∈ l, ∃ i t, v = .int i t) ∧ ns = l.map vInt
  | [], ns => by
    constructor
    · intro h; cases h; exact ⟨by simp, rfl⟩
    · rintro ⟨_, rfl⟩; exact .nil
  | v :: l, ns => by
    constructor
    · intro h
      cases h with
      | cons n t hr =>
        obtain ⟨a, b⟩ := intsAre_iff.mp hr
        refine ⟨fun u hu => ?_, by rw [b]; rfl⟩
        rcases List.mem_cons.mp hu with rfl | hu
        · exact ⟨_, _, rfl⟩
        · exact a u hu
    · rintro ⟨a, rfl⟩
      obtain ⟨i, t, rfl⟩ := a v (by simp)
      exact .cons i t (intsAre_iff.mpr ⟨fun u hu => a u (List.mem_cons_of_mem _ hu), rfl⟩)
theorem ints_perm {l l' : List Value} {ns : List Int} (h : IntsAre l ns) (p : l'.Perm l) : ∃ ns', IntsAre l' ns' ∧ ns'.Perm ns := by
  obtain ⟨a, rfl⟩ := intsAre_iff.mp h
  exact ⟨_, intsAre_iff.mpr ⟨fun v hv => a v (p.mem_iff.mp hv), rfl⟩, p.map _⟩
def SInt (prog : Program) (w : World) (h : Heap) (S : Addr) (ks : List Int) : Prop := ∃ es ep t ns, SRaw w h S es ep t ∧ es.size < scanBound ∧ ElemsOf (intKind prog w) es.toList ∧ IntsAre (es.toList.map (·.2)) ns ∧ ns.Perm ks
theorem SInt.keep {prog : Program} {w : World} {h h' : Heap} {S : Addr} {ks : List Int} (r : SInt prog w h S ks) (k : ∀ o, h.get? S = some o → h'.get? S = some o) : SInt prog w h' S ks :=
  let ⟨es, ep, t, ns, r1, r2⟩ := r; ⟨es, ep, t, ns, r1.keep k, r2⟩
section
variable {prog : Program} {w : World} {A : Around} {E : Value → Shared → Prop} {s : Shared} {S : Addr}
theorem SRaw.stored {es es' : Array (Int × Value)} {t t' : SetTable} {ep : Nat} (r : SRaw w s.heap S es ep t) (hf : t'.fits es'.size = true) (ht : TabOk t' (!w.params.followText "set-order")) : SRaw w (s.heap.update S (Obj.putSet es' t')) S es' (ep + 1) t' := by
  obtain ⟨o, ho, hx, hd⟩ := r.obj
  have hg := Heap.get?_update_self (Obj.putSet es' t') ho (by rw [putSet_of es' t' hd]; rfl)
  rw [putSet_of es' t' hd] at hg
  exact ⟨⟨_, hg, hx, rfl⟩, hf, ht⟩
theorem add_tail {g : Bool → Sem Unit} (hg : ∀ (b : Bool) (s₁ : Shared) (Q' : Unit → Shared → Prop), Q' () s₁ → wpAny (model prog w) A (g b) Q' E s₁) {es es1 : Array (Int × Value)} {ep : Nat} {t t2 : SetTable} (r : SRaw w s.heap S es ep t)
    (hb1 : es1.size < scanBound) (hf2 : t2.fits es1.size = true) (ht2 : TabOk t2 (!w.params.followText "set-order")) {wd : Bool} {R : Option Bool → Shared → Prop}
    (h : ∀ h' es' ep' t', Heap.SameBut S s.heap h' → SRaw w h' S es' ep' t' → es'.toList.Perm es1.toList → R (some true) { s with heap := h' }) :
    wpAny (model prog w) A (storeSet S es1 t2 >>= fun _ => if (!wd && t2.tooFull) = true then g (relayAll t2 es1 (SetTable.grown es1.size)).2.2 >>= fun _ => storeSet S (relayAll t2 es1 (SetTable.grown es1.size)).1 (relayAll t2 es1 (SetTable.grown es1.size)).2.1 >>= fun _ => pure (some true) else pure (some true)) R E s := by
  obtain ⟨o, ho, hx, hd⟩ := r.obj
  refine wpAny_bind (wpAny_storeSet_of ho hd ?_ (fits_of_scanBound hb1))
  have r1 := r.stored (es' := es1) (t' := t2) hf2 ht2
  have sb1 := Heap.SameBut.update s.heap S (Obj.putSet es1 t2)
  split
  · have hp := relayAll_perm t2 es1 (SetTable.grown es1.size)
    have hfr := relayAll_fits t2 es1 (SetTable.grown es1.size)
    have hto := ht2.relayAll es1 (SetTable.grown es1.size)
    generalize relayAll t2 es1 (SetTable.grown es1.size) = Rl at hp hfr hto ⊢
    obtain ⟨es2, t3, gv⟩ := Rl
    have hsz : es2.size = es1.size := by simpa using hp.length_eq
    refine wpAny_bind (hg _ _ _ ?_)
    obtain ⟨o1, ho1, hx1, hd1⟩ := r1.obj
    refine wpAny_bind (wpAny_storeSet_of ho1 hd1 ?_ (fits_of_scanBound (by rw [hsz]; exact hb1)))
    exact wpAny_pure (h _ _ _ _ (sb1.trans (Heap.SameBut.update _ S _)) (SRaw.stored (s := { s with heap := s.heap.update S (Obj.putSet es1 t2) }) r1 hfr hto) hp)
  · exact wpAny_pure (h _ _ _ _ sb1 r1 (.refl _))
theorem add_int {ks : List Int} {k : Int} {tk : Tok} {Q : Bool → Shared → Prop} (r : SInt prog w s.heap S ks) (hroom : ks.length + 1 < scanBound)
    (h : ∀ b h', Heap.SameBut S s.heap h' → SInt prog w h' S (step_dedup ks k) → Q b { s with heap := h' }) : wpAny (model prog w) A (setAddHashed S (.int k tk) ((intKind prog w).hash k)) Q E s := by
  obtain ⟨es, ep, t, ns, r, hb, hel, hi, hp⟩ := r
  obtain ⟨o, ho, hx, hd⟩ := r.obj
  obtain ⟨ha, hns⟩ := intsAre_iff.mp hi
  have hkey : (intKind prog w).is k (.int k tk) = true := intKind_is _ _ _ _
  have hsc : (Value.int k tk).scannable = true := rfl
  have hsz : es.size = ks.length := by
    have := hp.length_eq
    rw [hns] at this
    simpa using this
  have hin : ∀ e ∈ es.toList, (intKind prog w).is k e.2 = true → vInt e.2 = k := fun e he hk => by
    obtain ⟨i, u, eu⟩ := ha e.2 (List.mem_map_of_mem he)
    rw [eu] at hk ⊢
    exact ((intKind prog w).inj _ k i hk (intKind_is _ _ _ _)).symm
  unfold setAddHashed setAddHashedIn
  refine wpAny_holding (wpAny_bind (wpAny_setState_of ho hd r.fits ?_))
  dsimp only
  rw [byScan_of hsc hb hel, if_pos rfl]
  unfold setAddByScan
  refine wpAny_bind (wpAny_bind (wpAny_rule (wpAny_bind (wpAny_setScan_of hkey ho hd r.fits hel ?_))))
  cases hr : List.findIdx? (fun e => (intKind prog w).is k e.2) es.toList with
  | some j =>
    dsimp only
    obtain ⟨hj, hpj, _⟩ := List.findIdx?_eq_some_iff_getElem.mp hr
    have hm : k ∈ ks := hp.mem_iff.mp (by
      rw [hns, ← hin _ (List.getElem_mem hj) hpj]
      exact List.mem_map_of_mem (List.mem_map_of_mem (List.getElem_mem hj)))
    have e1 : step_dedup ks k = ks := by
      unfold step_dedup
      rw [if_pos (List.any_eq_true.mpr ⟨k, hm, by simp⟩)]
    refine wpAny_pure (wpAny_pure (h false s.heap (Heap.SameBut.refl S s.heap) ?_))
    rw [e1]
    exact ⟨es, ep, t, ns, r, hb, hel, hi, hp⟩
  | none =>
    dsimp only
    have hm : k ∉ ks := fun hm => by
      have := hp.mem_iff.mpr hm
      rw [hns] at this
      obtain ⟨v, hv, e1⟩ := List.mem_map.mp this
      obtain ⟨e, he, e2⟩ := List.mem_map.mp hv
      obtain ⟨i, u, eu⟩ := ha v hv
      have hik : i = k := by rw [eu] at e1; exact e1
      have := List.findIdx?_eq_none_iff.mp hr e he
      rw [e2, eu, hik, intKind_is] at this
      cases this
    have e1 : step_dedup ks k = ks ++ [k] := by
      unfold step_dedup
      rw [if_neg fun hq => by
        obtain ⟨z, hz, hz2⟩ := List.any_eq_true.mp hq
        rw [eq_of_beq hz2] at hz
        exact hm hz]
    have hperm := layNew_perm t es ((intKind prog w).hash k) (.int k tk)
    have hfits := layNew_fits t es ((intKind prog w).hash k) (.int k tk)
    have htab := r.tab.layNew es ((intKind prog w).hash k) (.int k tk)
    generalize layNew t es ((intKind prog w).hash k) (.int k tk) = L at hperm hfits htab ⊢
    obtain ⟨es1, t1, wd, gv⟩ := L
    dsimp only at hperm hfits htab ⊢
    rw [Array.toList_push] at hperm
    have hs1 : es1.size = es.size + 1 := by simpa using hperm.length_eq
    have hb1 : es1.size < scanBound := by rw [hs1, hsz]; exact hroom
    have hgw : ∀ (b : Bool) {s₁ : Shared} {Q' : Unit → Shared → Prop}, Q' () s₁ → wpAny (model prog w) A (match b with | true => rule "set.scan.the-table-gave-way" | false => pure ()) Q' E s₁ := fun b s₁ Q' hq => by cases b <;> first | exact wpAny_pure hq | exact wpAny_rule hq
    have fin : ∀ h' es' ep' t', Heap.SameBut S s.heap h' → SRaw w h' S es' ep' t' → es'.toList.Perm es1.toList → Q true { s with heap := h' } := fun h' es' ep' t' sb r' p' => by
      have p2 := p'.trans hperm
      refine h true h' sb ?_
      rw [e1]
      have i1 : IntsAre ((es.toList ++ [((intKind prog w).hash k, Value.int k tk)]).map (·.2)) (ns ++ [k]) := by
        rw [List.map_append]
        refine intsAre_iff.mpr ⟨fun v hv => ?_, by rw [hns]; simp [vInt]⟩
        rcases List.mem_append.mp hv with hv | hv
        · exact ha v hv
        · exact ⟨k, tk, by simpa using hv⟩
      obtain ⟨ns', i2, p3⟩ := ints_perm i1 (p2.map (·.2))
      refine ⟨es', ep', t', ns', r', ?_, (hel.push hkey hsc).perm p2, i2, p3.trans (hp.append_right _)⟩
      have : es'.size = es1.size := by simpa using p'.length_eq
      omega
    refine wpAny_bind (hgw _ ?_)
    split
    · refine wpAny_bind ?_
      rw [hashByValue_scannable 8 hsc]
      refine wpAny_pure ?_
      refine add_tail (fun b s₁ Q' hq => by cases b <;> first | exact wpAny_pure hq | exact wpAny_rule hq) r hb1 ?_ ?_ fun h' es' ep' t' sb r' p' => wpAny_pure (fin h' es' ep' t' sb r' p')
      · split
        · exact hfits
        · exact SetTable.fits_plain_off hfits
      · split
        · exact htab
        · exact htab.off
    · refine wpAny_bind (wpAny_pure ?_)
      exact add_tail (fun b s₁ Q' hq => by cases b <;> first | exact wpAny_pure hq | exact wpAny_rule hq) r hb1 hfits htab fun h' es' ep' t' sb r' p' => wpAny_pure (fin h' es' ep' t' sb r' p')
end
theorem dedI_eq (l : List Int) : dedI l = l.foldl step_dedup [] := rfl
theorem dedI_snoc (l : List Int) (k : Int) : dedI (l ++ [k]) = step_dedup (dedI l) k := by rw [dedI_eq, dedI_eq, List.foldl_append]; rfl
theorem dedI_len : ∀ l : List Int, (dedI l).length ≤ l.length := by
  intro l
  suffices ∀ (l a : List Int), (l.foldl step_dedup a).length ≤ a.length + l.length by have := this l []; rw [← dedI_eq] at this; simpa using this
  intro l
  induction l with
  | nil => intro a; simp
  | cons x l ih =>
    intro a
    rw [List.foldl_cons]
    refine Nat.le_trans (ih _) ?_
    unfold step_dedup
    split <;> simp <;> omega
section
variable {prog : Program} {w : World} {A : Around} {E : Value → Shared → Prop} {s : Shared} {S : Addr}
theorem upd_loop {R : Result → Shared → Prop} {it : Addr} {fp : List Addr} {n : Nat} {P : Nat → Value → Prop} {St : Nat → Heap → Prop} (W : Walks prog w A.in1 it fp [it] n P St) (hSf : S ∉ fp) (hSi : S ≠ it) {l : List Int} (hl : l.length = n) (hval : ∀ i v, P i v → ∃ t, v = .int (l.getD i 0) t) (hb : n + 1 < scanBound) :
    ∀ (k i : Nat) (s : Shared), n - i = k → i ≤ n → St i s.heap → SInt prog w s.heap S (dedI (l.take i)) →
      (∀ h' tk, (∀ b o, b ≠ S → b ≠ it → s.heap.get? b = some o → h'.get? b = some o) → SInt prog w h' S (dedI l) → R (.ok (.ret .none)) { s with heap := h', toks := tk }) →
      codeAny (model prog w) A (.builtin "set.update.loop" ⟨[.ref S, .ref it], []⟩) R s
  | 0, i, s, hk, hi, hst, hS, hR => by
    have hin : i = n := by omega
    subst hin
    refine codeAny_builtin PyProof.Rows.F.entry_set_update_loop ?_
    rw [Around.under_plainId PyProof.Rows.F.plain_set_update_loop _]
    (show wpAny _ A.in1 (pyNext (.ref it) >>= _) _ _ s); refine wpAny_bind (W.done s _ _ hst fun h' tk kk => ?_)
    refine wpAny_pure (hR h' tk (fun b o n1 n2 e => kk b o (by simpa using n2) e) ?_)
    rw [List.take_of_length_le (by omega)] at hS
    exact hS.keep fun o e => kk S o (by simpa using hSi) e
  | k + 1, i, s, hk, hi, hst, hS, hR => by
    have hlt : i < n := by omega
    refine codeAny_builtin PyProof.Rows.F.entry_set_update_loop ?_
    rw [Around.under_plainId PyProof.Rows.F.plain_set_update_loop _]
    (show wpAny _ A.in1 (pyNext (.ref it) >>= _) _ _ s); refine wpAny_bind (W.item i s _ _ hlt hst fun v h1 tk1 hP hst1 kk => ?_)
    obtain ⟨t, rfl⟩ := hval i v hP
    have hS1 : SInt prog w h1 S (dedI (l.take i)) := hS.keep fun o e => kk S o (by simpa using hSi) e
    (show wpAny _ A.in1 (holding [Value.int (l.getD i 0) t] (setAdd S (.int (l.getD i 0) t)) >>= _) _ _ { s with heap := h1, toks := tk1 }); refine wpAny_bind (wpAny_holding ?_)
    unfold setAdd
    refine wpAny_holding (wpAny_bind ((intKind prog w).pyHash (k := l.getD i 0) (intKind_is _ _ _ _) ?_))
    have hroom : (dedI (l.take i)).length + 1 < scanBound := by
      have := dedI_len (l.take i)
      rw [List.length_take] at this
      omega
    refine add_int (s := { s with heap := h1, toks := tk1 + 1 }) hS1 hroom fun b h2 sb hS2 => ?_
    have e1 : dedI (l.take (i + 1)) = step_dedup (dedI (l.take i)) (l.getD i 0) := by
      rw [← dedI_snoc]
      congr 1
      rw [List.take_add_one, List.getElem?_eq_getElem (by omega), List.getD_eq_getElem?_getD, List.getElem?_eq_getElem (by omega)]
      rfl
    refine wpAny_pure ⟨plainId_quiet PyProof.Rows.F.plain_set_update_loop _, upd_loop W hSf hSi hl hval hb k (i + 1) _ (by omega) hlt (W.frame _ h1 _ hst1 fun b hb o e => ?_) (e1 ▸ hS2) fun h' tk k3 q => ?_⟩
    · exact (sb.2 b fun z => hSf (z ▸ hb)).trans e
    · exact hR h' tk (fun b o n1 n2 e => k3 b o n1 n2 ((sb.2 b n1).trans (kk b o (by simpa using n2) e))) q
theorem set_new1 (a : Value) {Q₁ : Value → Shared → Prop}
    (h : Q₁ (.ref s.heap.objs.size) { s with heap := s.heap.push { cls := .type "set", dict := none, data := .set #[] 0 (.fresh 0 0 (!w.params.followText "set-order")) } }) : codeAny (model prog w) A (.call (.builtin "set.__new__") ⟨[.type "set", a], []⟩) (wants Q₁ E) s := by
  refine codeAny_of_tree ?_
  (show wpAny _ A.in1 (do checkBuiltinCall "set.__new__" ⟨[.type "set", a], []⟩; again (.builtin "set.__new__" ⟨[.type "set", a], []⟩)) _ _ s); refine wpAny_bind (wpAny_of_eq (PySem.F.newCall_set_1 a) (wpAny_pure ⟨plainId_quiet PySem.F.plain_set_new _, codeAny_builtin PySem.F.entry_set_new ?_⟩))
  rw [Around.under_plainId PySem.F.plain_set_new _]
  unfold Builtin.«set.__new__» Builtin.Frozenset.newClass
  have hsub := sub_set_self
  obtain ⟨hp, g, d, tk, os⟩ := s
  dsimp only
  wp_walk
  refine wpAny_askSetting (wpAny_pure ?_)
  dsimp only
  simp only [newObj]; refine wpAny_bind (wpAny_alloc (wpAny_pure ?_)); exact wpAny_pure h
end
section
variable {prog : Program} {w : World} {A : Around} {E : Value → Shared → Prop} {s : Shared}
theorem call_setL {p : Addr} {its : Array Value} {l : List Int} {Q : Value → Shared → Prop} (hh : A.handled = none) (hl : s.heap.IsList p its) (hi : IntsAre its.toList l) (hb : l.length + 1 < scanBound)
    (h : ∀ h' tk, SInt prog w h' s.heap.objs.size (dedI l) → (∀ b o, s.heap.get? b = some o → h'.get? b = some o) → Q (.ref s.heap.objs.size) { s with heap := h', toks := tk }) : wpAny (model prog w) A (call (.type "set") [.ref p]) Q E s := by
  have hsz : its.size = l.length := by have := IntsAre.length hi; simpa using this
  (obtain ⟨c, tl, hmro⟩ := PySem.F.called_set.mro; have hmade := PySem.F.called_set.made; have hsub := PySem.F.called_set.sub); refine wpAny_call (codeAny_of_tree ?_)
  (show wpAny _ _ (callAny (.type "set") _) _ _ _); refine wpAny_pure ⟨Code.quiet_builtin _ (by decide +kernel), codeAny_builtin PySem.F.entry_type_call ?_⟩
  (rw [Around.under_plain (weight_type_call_type "set" [.ref p] []) rfl]; have h1 := PySem.F.called_set.notType; have h2 := PySem.F.called_set.canCreate; have hct := PySem.F.typeCall_set_1 (.ref p)); repeat (any_goals (first | assumption | wp_step))
  generalize hO : ({ cls := .type "set", dict := none, data := .set #[] 0 (.fresh 0 0 (!w.params.followText "set-order")) } : Obj) = O
  have hOc : O.cls = .type "set" := by rw [← hO]
  refine codeAny_mono (set_new1 (.ref p) (E := E) (Q₁ := fun obj s₁ => obj = .ref s.heap.objs.size ∧ s₁ = { s with heap := s.heap.push O }) ⟨rfl, by rw [hO]⟩) fun r s₁ hr => ?_
  cases r with
  | error e => exact hr
  | ok fl =>
    cases fl with
    | ret obj =>
      obtain ⟨rfl, rfl⟩ := hr
      have hS : (s.heap.push O).get? s.heap.objs.size = some O := Heap.get?_push_size _ (by rw [← hO]; rfl)
      have hT : Shared.TypeIs { s with heap := s.heap.push O } (.ref s.heap.objs.size) "set" := ⟨_, hS, hOc⟩
      (have hli := PySem.F.called_set.init.lookup; have hbi := PySem.F.called_set.init.bind (.ref s.heap.objs.size)); repeat (any_goals (first | assumption | wp_step))
      refine codeAny_mono (codeAny_call_builtin (R := wants (fun r s₂ => r = .none ∧ ∃ h' tk, s₂ = { s with heap := h', toks := tk } ∧ SInt prog w h' s.heap.objs.size (dedI l) ∧ (∀ b o, s.heap.get? b = some o → h'.get? b = some o)) E) PySem.F.called_set.init.plain PySem.F.entry_set_init (check_set_init_1 hT ?_)) fun r₂ s₂ hr₂ => ?_
      · obtain ⟨ol, hol, hcl, nl, hdl⟩ := hl
        obtain ⟨ocls, odict, odata, oslots⟩ := ol
        (simp only at hcl hdl; subst hcl; subst hdl)
        have hol' := Heap.get?_push_of_some O hol
        have hS' := hS
        subst hO
        (have hsls := PySem.F.sub_list_set; have hslf := PySem.F.sub_list_frozenset; have hne : (Value.type "list" == Value.type "dict") = false := by decide)
        have hl1 : (s.heap.push { cls := .type "set", dict := none, data := .set #[] 0 (.fresh 0 0 (!w.params.followText "set-order")) }).IsList p its := ⟨_, hol', rfl, nl, rfl⟩
        (unfold Builtin.«set.__init__» noKeywords Builtin.Frozenset.updateFrom; generalize hPI : pyIter = PI)
        wp_walk
        subst hPI
        (refine wpAny_pyIter_list hl1 ?_; refine wpAny_bind (wpAny_runValue ?_))
        generalize hH : s.heap.push { cls := .type "set", dict := none, data := .set #[] 0 (.fresh 0 0 (!w.params.followText "set-order")) } = H at *
        have hHs : H.objs.size = s.heap.objs.size + 1 := by rw [← hH, Heap.size_push]
        have hlS : p < s.heap.objs.size := Heap.lt_size hol
        have hh3 : A.in1.in1.in1.handled = none := by simp [hh]
        refine upd_loop (S := s.heap.objs.size) (Walks.list hh3 H.objs.size p (by rw [hHs]; exact Nat.ne_of_lt (Nat.lt_succ_of_lt hlS)) its) ?_ (by rw [hHs]; exact Nat.ne_of_lt (Nat.lt_succ_self _)) (l := l) hsz.symm (fun i v hv => IntsAre.int_at hi i v (by rw [Array.getElem?_toList]; exact hv)) (by rw [hsz]; exact hb) (its.size - 0) 0 _ rfl (Nat.zero_le _) ⟨⟨_, Heap.get?_push_size _ rfl, rfl, rfl⟩, hl1.push _⟩ ?_ fun h' tk kk q => ?_
        · intro hm
          rcases List.mem_cons.mp hm with e | hm
          · rw [hHs] at e; exact absurd e (Nat.ne_of_lt (Nat.lt_succ_self _))
          · have : s.heap.objs.size = p := by simpa using hm
            exact absurd this (Nat.ne_of_gt hlS)
        · refine ⟨#[], 0, _, [], ⟨⟨_, Heap.get?_push_of_some _ hS', ⟨rfl, rfl, rfl⟩, rfl⟩, rfl, TabOk.fresh _⟩, by decide, fun e he => by simp at he, .nil, ?_⟩
          simp [dedI]
        · refine wpAny_pure ?_
          refine wpAny_pure ⟨rfl, h', tk, rfl, q, fun b o e => kk b o (Nat.ne_of_lt (Heap.lt_size e)) (by rw [hHs]; exact Nat.ne_of_lt (Nat.lt_succ_of_lt (Heap.lt_size e))) (Heap.get?_push_of_some _ (hH ▸ Heap.get?_push_of_some _ e))⟩
      · cases r₂ with
        | error e => exact hr₂
        | ok fl₂ =>
          cases fl₂ with
          | ret r =>
            obtain ⟨rfl, h', tk, rfl, hS', hk'⟩ := hr₂
            repeat (any_goals (first | assumption | wp_step))
            exact h _ _ hS' hk'
          | _ => exact hr₂.elim
    | _ => exact hr.elim
end
section
variable {X : Cx} {G : List Den}
theorem inv_drawn {pins : List (Addr × Obj)} {σ : St} {H : Hp} {s : Shared} (I : Inv X pins σ H s) (d : Drawn) : Inv X pins σ H { s with drawn := d } := ⟨I.ok, I.os, I.bare, I.base, I.loc, I.cell, I.free, I.freeC, I.pin, I.hok, I.len⟩
noncomputable def SetH (X : Cx) (a : Addr) (l : List Int) : HO := .ext fun h => SInt X.prog X.w h a l
theorem call_setM (hc : X.calm = true) : CallR X (.type "set") (fun xs H Q => ∃ (p : Addr) (l : List Int), xs = [.ref p] ∧ SqL X.K H p (l.map V.int) ∧ l.length + 1 < scanBound ∧ ∀ a, H a = none → Q (.ref a) (upd H a (SetH X a (dedI l)))) := by
  intro pins s σ H xs us Q I r h
  obtain ⟨p, l, rfl, hq, hb, q⟩ := h
  obtain ⟨u, rfl, rx⟩ := vals1 r
  cases rx
  obtain ⟨its, rv, pl, hz⟩ := I.list hq
  refine call_setL (I.ok.hd hc) pl.isList (by simpa using intsAre_of rv) hb fun h' tk hS k => ?_
  have hob : ∃ o, h'.get? s.heap.objs.size = some o := by
    obtain ⟨es, ep, t, ns, r1, _⟩ := hS
    obtain ⟨o, e, _⟩ := r1.obj
    exact ⟨o, e⟩
  exact ⟨.ref s.heap.objs.size, _, I.laid (t' := tk) k (Nat.le_refl _) (show ObjOk X.prog X.w _ h' _ (SetH X _ (dedI l)) from ⟨hS, hob, fun h1 h2 a b => a.keep b⟩), rfl, q _ (I.hok.fresh (Nat.le_refl _))⟩
theorem call_sortedS (hc : X.calm = true) : CallR X (.builtin "sorted") (fun xs H Q => ∃ (a : Addr) (l : List Int), xs = [.ref a] ∧ H a = some (SetH X a l) ∧ l.length < 64 ∧ ∀ p, H p = none → Q (.ref p) (upd H p (.lst ((l.mergeSort fun x y => decide (x ≤ y)).map V.int)))) := by
  intro pins s σ H xs us Q I r h
  obtain ⟨a, l, rfl, hq, hl, q⟩ := h
  obtain ⟨u, rfl, rx⟩ := vals1 r
  cases rx
  have ob : ObjOk X.prog X.w H s.heap a (SetH X a l) := I.hok a _ hq
  obtain ⟨⟨es, ep, t, ns, r1, hb, hel, hi, hp⟩, _, _⟩ := ob
  have hlen : es.size = l.length := by
    have e1 := hp.length_eq
    have e2 := IntsAre.length hi
    simp at e2
    omega
  refine Calls.call_function_entry kind_sorted plain_sorted entry_sorted (args_sorted1 _) ?_
  unfold Builtin.«sorted»
  refine wpAny_bind (m := checkCount "sorted" 1 1 _) (wpAny_pure ?_)
  refine wpAny_bind (collect_set (A := X.A.in1) (I.ok.hd hc) r1 (by rw [SZ_eq]; show es.size ≤ 16777216; omega) fun vs s' pv kk hg ho => ?_)
  obtain ⟨ns', i1, p1⟩ := ints_perm hi pv
  have hvl : vs.length = l.length := by have := pv.length_eq; simp at this; omega
  have I1 : Inv X pins σ H s' := by
    obtain ⟨h', g', d', t', o'⟩ := s'
    dsimp only at hg ho kk
    subst hg ho
    exact inv_drawn (I.kept (h' := h') (t' := t') kk) d'
  refine wpAny_bind (wpAny_newList ?_ (by rw [SZ_eq]; show vs.length ≤ 16777216; omega))
  have hoL : (s'.heap.push (seqObj "list" vs.toArray 0)).get? s'.heap.objs.size = some (seqObj "list" vs.toArray 0) := Heap.get?_push_size _ rfl
  show wpAny _ _ _ _ _ { s' with heap := s'.heap.push (seqObj "list" vs.toArray 0) }
  refine wpAny_bind (wpAny_holding (wpAny_call_entry slot_list_sort ⟨_, hoL, rfl⟩ entry_list_sort (list_sort_tree hoL i1 (by omega) fun out ns2 a1 a2 a3 => ⟨_, rfl, ?_⟩) (args_list_sort _)))
  refine wpAny_pure ⟨_, rfl, ?_⟩
  obtain ⟨e, he⟩ := sortedHeap_at (out := out) hoL
  have es := mergeSort_is ((a2.trans p1).trans hp) a3
  refine ⟨.ref s'.heap.objs.size, _, I1.laid (t' := s'.toks) (fun b o q1 => ?_) (Nat.le_refl _) (show ObjOk X.prog X.w (upd H s'.heap.objs.size (.lst (ns2.map V.int))) _ _ (.lst (ns2.map V.int)) from ⟨?_, out.toList, e, vals_ints a1, ?_⟩), rfl, ?_⟩
  · have hlt := Heap.lt_size q1
    show (sortedHeap (s'.heap.push (seqObj "list" vs.toArray 0)) s'.heap.objs.size vs out).get? b = some o
    rw [sortedHeap_old (Nat.ne_of_lt hlt) (by rw [size_push']; exact Nat.lt_succ_of_lt hlt)]
    exact Heap.get?_push_of_some _ q1
  · rw [List.length_map, SZ_eq]
    have := ((a2.trans p1).trans hp).length_eq
    show ns2.length ≤ 16777216
    omega
  · show (sortedHeap (s'.heap.push (seqObj "list" vs.toArray 0)) s'.heap.objs.size vs out).get? s'.heap.objs.size = _
    rw [he]
  · rw [es]
    exact q _ (I1.hok.fresh (Nat.le_refl _))
end
section
variable {X : Cx} {C : CC} {G : List Den} {k : Nat}
theorem pe_false {e : Expr} {t : TE} (h : ∀ σ H Q, ¬ t σ H Q) : PE X e t := fun pins s σ H Q I q => absurd q (h σ H Q)
theorem e_call {x : Str} {i : Nat} {e : Expr} {es : List Expr} {ps : List PX} {p pos : Pos} (O : CtxOk X C G k) (hg : C.isGl x = true) (hi : C.fs.findIdx? (· == x) = some i) (ha : PA X (e :: es) (rdA X.K G ps))
    (he : starEach (e :: es) X.env = (false, eval e X.env) :: starEach es X.env) (hpl : (backTo pos (starEach es X.env)).any (·.1) = false) :
    PE X (.Call (.Name x p) (e :: es) [] pos) (rdE X.K G (.call i ps)) := by
  obtain ⟨g, pl⟩ := isGl_ok O hg
  obtain ⟨h4, h5, _⟩ := plain_debug pl
  cases hG : G[i]? with
  | none =>
    refine pe_false fun σ H Q ⟨th, ρ, h, d, h', w, en, e1, kk⟩ => ?_
    unfold ev at e1
    obtain ⟨⟨ds, h1⟩, q1, e1⟩ := Option.bind_eq_some_iff.mp e1
    rw [hG] at e1
    cases e1
  | some f =>
    obtain ⟨fa, fd, pn, hm, hk, F, hb, ar⟩ := (O.fs i x f (findIdx_get hi) hG).ex
    refine (pe_call (E := E0) F O.room g hm hk hb .nil passX0 ha h4 he hpl).imp fun σ H Q ⟨th, ρ, h, d, h', w, en, e1, kk⟩ => ?_
    unfold ev at e1
    obtain ⟨⟨ds, h1⟩, q1, e1⟩ := Option.bind_eq_some_iff.mp e1
    rw [hG] at e1
    have e1 : (match f ds h1 with | .ok d h' => some (d, h') | _ => none) = some (d, h') := e1
    refine ⟨th, ρ, h, ds, h1, w, en, q1, fun vs H1 th1 r1 w1 g1 => ?_⟩
    cases ef : f ds h1 with
    | ok d2 h2 =>
      rw [ef] at e1
      cases e1
      rw [List.append_nil]
      refine ⟨by rw [← r1.length]; exact ar _ _ (by rw [ef]; intro z; cases z), th1, h1, ds, w1, r1, ?_⟩
      rw [ef]
      exact fun v H' th' r w' g' => kk v H' th' r w' (g1.trans g')
    | exc c h2 => rw [ef] at e1; cases e1
    | bad => rw [ef] at e1; cases e1
theorem r_call {x : Str} {i : Nat} {e : Expr} {es : List Expr} {ps : List PX} {p pos : Pos} {EX : Nat → Hp → Prop} (O : CtxOk X C G k) (xc : XC X (toE X.mg EX)) (hg : C.isGl x = true) (hi : C.fs.findIdx? (· == x) = some i) (ha : PA X (e :: es) (rdA X.K G ps))
    (he : starEach (e :: es) X.env = (false, eval e X.env) :: starEach es X.env) (hpl : (backTo pos (starEach es X.env)).any (·.1) = false) :
    PE X (.Call (.Name x p) (e :: es) [] pos) (rdR X.K G EX (.call i ps)) := by
  obtain ⟨g, pl⟩ := isGl_ok O hg
  obtain ⟨h4, h5, _⟩ := plain_debug pl
  cases hG : G[i]? with
  | none =>
    refine pe_false fun σ H Q ⟨th, ρ, h, w, en, e1⟩ => ?_
    unfold evR at e1
    dsimp only at e1
    cases q1 : evs G ps ρ h with
    | none => rw [q1] at e1; exact e1
    | some d => rw [q1] at e1; dsimp only at e1; rw [hG] at e1; exact e1
  | some f =>
    obtain ⟨fa, fd, pn, hm, hk, F, hb, ar⟩ := (O.fs i x f (findIdx_get hi) hG).ex
    refine (pe_call (E := toE X.mg EX) F O.room g hm hk hb .nil xc ha h4 he hpl).imp fun σ H Q ⟨th, ρ, h, w, en, e1⟩ => ?_
    unfold evR at e1
    dsimp only at e1
    cases q1 : evs G ps ρ h with
    | none => rw [q1] at e1; exact e1.elim
    | some d =>
      obtain ⟨ds, h1⟩ := d
      rw [q1] at e1
      dsimp only at e1
      rw [hG] at e1
      dsimp only at e1
      refine ⟨th, ρ, h, ds, h1, w, en, q1, fun vs H1 th1 r1 w1 g1 => ?_⟩
      dsimp only
      rw [List.append_nil]
      cases ef : f ds h1 with
      | bad => rw [ef] at e1; exact e1.elim
      | ok d2 h2 =>
        rw [ef] at e1
        refine ⟨by rw [← r1.length]; exact ar _ _ (by rw [ef]; intro z; cases z), th1, h1, ds, w1, r1, ?_⟩
        rw [ef]
        exact fun v H' th' r w' g' => e1 v H' th' r w' (g1.trans g')
      | exc c h2 =>
        rw [ef] at e1
        refine ⟨by rw [← r1.length]; exact ar _ _ (by rw [ef]; intro z; cases z), th1, h1, ds, w1, r1, ?_⟩
        rw [ef]
        exact fun H' th' w' g' => ⟨c, rfl, e1 H' th' w' (g1.trans g')⟩
theorem rd_blt {b : Bl} {ps : List PX} {σ : St} {H : Hp} {Q : VK} (h : rdE X.K G (.blt b ps) σ H Q) : tCB (rdC X.K (bltD b)) (rdA X.K G ps) σ H Q := by
  obtain ⟨th, ρ, h, d, h', w, en, e1, kk⟩ := h
  unfold ev at e1
  obtain ⟨⟨ds, h1⟩, q1, e1⟩ := Option.bind_eq_some_iff.mp e1
  obtain ⟨d2, q2, e1⟩ := Option.bind_eq_some_iff.mp e1
  cases e1
  exact ⟨th, ρ, h, ds, _, w, en, q1, fun vs H1 th1 r1 w1 g1 => ⟨th1, _, _, _, w1, r1.views w1, q2, fun v H' r w' g' => kk v H' th1 r w' (g1.trans g')⟩⟩
theorem c_len : CallR X (.builtin "len") (rdC X.K (bltD .len)) := by
  intro pins s σ H xs us Q I r h
  obtain ⟨th, ah, ds, d, w, ws, e, k⟩ := h
  have kk : ∀ v, RepV X.K H th d v → Q v H := fun v r => k v H r w (Gr.refl _ _)
  cases ws with
  | nil => cases e
  | cons r1 rs =>
    cases rs with
    | cons _ _ => rename_i d0 _ _ _ _ _ _ _; cases d0 <;> cases e
    | nil =>
      rename_i d0 v0
      cases d0 with
      | str z =>
        cases r1.istr
        have e : (if z.length ≤ SZ then some (D.int z.length) else none) = some d := e
        split at e
        · rename_i hz
          cases e
          exact call_len_str pins s σ H _ us Q I r ⟨SS z, rfl, by rw [SS_length, SZ_eq]; exact hz, by rw [SS_length]; exact kk _ (.int _)⟩
        · cases e
      | lst z =>
        cases e
        obtain ⟨a, vs, rfl, q, rr⟩ := r1.ilst
        exact call_len_seq pins s σ H _ us Q I r ⟨a, vs, rfl, .inl q, by rw [← rr.length]; exact kk _ (.int _)⟩
      | tup z =>
        cases e
        obtain ⟨a, vs, rfl, q, rr⟩ := r1.itup
        exact call_len_seq pins s σ H _ us Q I r ⟨a, vs, rfl, .inr q, by rw [← rr.length]; exact kk _ (.int _)⟩
      | _ => cases e
theorem two_ints {b : Bl} {K : PySem.W.Frag} {H : Hp} {th : Th} {ds : List D} {vs : List V} {d : D} (hb : b = .min2 ∨ b = .max2) (ws : RepWs K H th ds vs) (e : bltD b ds = some d) : ∃ i j, ds = [.int i, .int j] ∧ vs = [.int i, .int j] := by
  cases ws with
  | nil => rcases hb with rfl | rfl <;> cases e
  | cons r1 rs =>
    cases rs with
    | nil => rename_i d0 v0; rcases hb with rfl | rfl <;> cases d0 <;> cases e
    | cons r2 rs =>
      cases rs with
      | nil =>
        rename_i d0 v0 d1 v1
        rcases hb with rfl | rfl
        · cases d0 with
          | int i =>
            cases d1 with
            | int j => cases r1.iint; cases r2.iint; exact ⟨i, j, rfl, rfl⟩
            | _ => cases e
          | _ => cases e
        · cases d0 with
          | int i =>
            cases d1 with
            | int j => cases r1.iint; cases r2.iint; exact ⟨i, j, rfl, rfl⟩
            | _ => cases e
          | _ => cases e
      | cons _ _ =>
        rename_i d0 v0 d1 v1 _ _ _ _ _ _
        rcases hb with rfl | rfl <;> cases d0 <;> first | cases e | (cases d1 <;> cases e)
theorem c_min2 (hc : X.calm = true) : CallR X (.builtin "min") (rdC X.K (bltD .min2)) := by
  intro pins s σ H xs us Q I r h
  obtain ⟨th, ah, ds, d, w, ws, e, k⟩ := h
  obtain ⟨i, j, rfl, rfl⟩ := two_ints (.inl rfl) ws e
  cases e
  exact call_min2 hc pins s σ H _ us Q I r ⟨i, j, rfl, k _ H (.int _) w (Gr.refl _ _)⟩
theorem c_max2 (hc : X.calm = true) : CallR X (.builtin "max") (rdC X.K (bltD .max2)) := by
  intro pins s σ H xs us Q I r h
  obtain ⟨th, ah, ds, d, w, ws, e, k⟩ := h
  obtain ⟨i, j, rfl, rfl⟩ := two_ints (.inr rfl) ws e
  cases e
  exact call_max2 hc pins s σ H _ us Q I r ⟨i, j, rfl, k _ H (.int _) w (Gr.refl _ _)⟩
theorem c_sorted : CallR X (.builtin "sorted") (rdC X.K (bltD .sorted)) := by
  intro pins s σ H xs us Q I r h
  obtain ⟨th, ah, ds, d, w, ws, e, k⟩ := h
  cases ws with
  | nil => cases e
  | cons r1 rs =>
    cases rs with
    | cons _ _ => rename_i d0 _ _ _ _ _ _ _; cases d0 <;> cases e
    | nil =>
      rename_i d0 v0
      cases d0 with
      | lst z =>
        have e : ((ints? z).bind fun l => if l.length < 64 then some (D.lst ((l.mergeSort fun a b => decide (a ≤ b)).map .int)) else none) = some d := e
        obtain ⟨l, e1, e2⟩ := Option.bind_eq_some_iff.mp e
        split at e2
        · rename_i hl
          cases e2
          obtain ⟨a, vs, rfl, q, rr⟩ := r1.ilst
          obtain ⟨ev, ed⟩ := ints_rep rr e1
          subst ev
          refine call_sortedM pins s σ H _ us Q I r ⟨a, l, rfl, q, hl, fun p hp => ?_⟩
          have g := Gr.laid (H := H) (o := .lst ((l.mergeSort fun a b => decide (a ≤ b)).map V.int)) th hp
          exact k _ _ (.lst (SqL.of upd_same) (w.notin hp) (RepVs.ints _)) (w.laid hp) g
        · cases e2
      | _ => cases e
theorem one_arg {f : List D → Option D} {K : PySem.W.Frag} {H : Hp} {th : Th} {ds : List D} {vs : List V} {d : D} (h0 : f [] = none) (h2 : ∀ a b c, f (a :: b :: c) = none) (ws : RepWs K H th ds vs) (e : f ds = some d) : ∃ d0 v0, ds = [d0] ∧ vs = [v0] ∧ RepW K H th d0 v0 := by
  cases ws with
  | nil => rw [h0] at e; cases e
  | cons r1 rs =>
    cases rs with
    | nil => exact ⟨_, _, rfl, rfl, r1⟩
    | cons r2 rs => rw [h2] at e; cases e
theorem c_list : CallR X (.type "list") (rdC X.K (bltD .list)) := by
  intro pins s σ H xs us Q I r h
  obtain ⟨th, ah, ds, d, w, ws, e, k⟩ := h
  obtain ⟨d0, v0, rfl, rfl, r1⟩ := one_arg (f := bltD .list) rfl (by intro a b c; cases a <;> rfl) ws e
  cases d0 with
  | lst z =>
    cases e
    obtain ⟨a, vs, rfl, q, rr⟩ := r1.ilst
    refine call_list_of pins s σ H _ us Q I r ⟨a, vs, rfl, .inl q, fun p hp => ?_⟩
    have g := Gr.laid (H := H) (o := .lst vs) th hp
    exact k _ _ (.lst (SqL.of upd_same) (w.notin hp) (rr.mono g w.kd)) (w.laid hp) g
  | tup z =>
    cases e
    obtain ⟨a, vs, rfl, q, rr⟩ := r1.itup
    refine call_list_of pins s σ H _ us Q I r ⟨a, vs, rfl, .inr q, fun p hp => ?_⟩
    have g := Gr.laid (H := H) (o := .lst vs) th hp
    exact k _ _ (.lst (SqL.of upd_same) (w.notin hp) (rr.mono g w.kd)) (w.laid hp) g
  | _ => cases e
theorem c_tuple : CallR X (.type "tuple") (rdC X.K (bltD .tuple)) := by
  intro pins s σ H xs us Q I r h
  obtain ⟨th, ah, ds, d, w, ws, e, k⟩ := h
  obtain ⟨d0, v0, rfl, rfl, r1⟩ := one_arg (f := bltD .tuple) rfl (by intro a b c; cases a <;> rfl) ws e
  cases d0 with
  | lst z =>
    cases e
    obtain ⟨a, vs, rfl, q, rr⟩ := r1.ilst
    refine call_tuple_of pins s σ H _ us Q I r ⟨a, vs, rfl, .inl ⟨q, fun p hp => ?_⟩⟩
    have g := Gr.laid (H := H) (o := .tup vs) th hp
    exact k _ _ (.tup (SqT.of upd_same) (rr.mono g w.kd)) (w.laid hp) g
  | tup z =>
    cases e
    obtain ⟨a, vs, rfl, q, rr⟩ := r1.itup
    exact call_tuple_of pins s σ H _ us Q I r ⟨a, vs, rfl, .inr ⟨q, k _ H (.tup q rr) w (Gr.refl _ _)⟩⟩
  | _ => cases e
theorem c_int : CallR X (.type "int") (rdC X.K (bltD .int)) := by
  intro pins s σ H xs us Q I r h
  obtain ⟨th, ah, ds, d, w, ws, e, k⟩ := h
  obtain ⟨d0, v0, rfl, rfl, r1⟩ := one_arg (f := bltD .int) rfl (by intro a b c; cases a <;> rfl) ws e
  cases d0 with
  | int z => cases e; cases r1.iint; exact call_int1 pins s σ H _ us Q I r (.inl ⟨z, rfl, k _ H (.int _) w (Gr.refl _ _)⟩)
  | bl z => cases e; cases r1.ibl; exact call_int1 pins s σ H _ us Q I r (.inr ⟨z, rfl, k _ H (.int _) w (Gr.refl _ _)⟩)
  | _ => cases e
theorem c_all (hc : X.calm = true) : CallR X (.builtin "all") (rdC X.K (bltD .all)) := by
  intro pins s σ H xs us Q I r h
  obtain ⟨th, ah, ds, d, w, ws, e, k⟩ := h
  obtain ⟨d0, v0, rfl, rfl, r1⟩ := one_arg (f := bltD .all) rfl (by intro a b c; cases a <;> rfl) ws e
  cases d0 with
  | lst z =>
    have e : ((bools? z).bind fun l => some (D.bl (l.all id))) = some d := e
    obtain ⟨l, e1, e2⟩ := Option.bind_eq_some_iff.mp e
    cases e2
    obtain ⟨a, vs, rfl, q, rr⟩ := r1.ilst
    have ev := bools_rep rr e1
    subst ev
    exact call_allL hc pins s σ H _ us Q I r ⟨a, l, rfl, q, k _ H (.bl _) w (Gr.refl _ _)⟩
  | _ => cases e
theorem c_minS (hc : X.calm = true) : CallR X (.builtin "min") (rdC X.K (bltD .minS)) := by
  intro pins s σ H xs us Q I r h
  obtain ⟨th, ah, ds, d, w, ws, e, k⟩ := h
  obtain ⟨d0, v0, rfl, rfl, r1⟩ := one_arg (f := bltD .minS) rfl (by intro a b c; cases a <;> rfl) ws e
  cases d0 with
  | tup z =>
    have e : ((ints? z).bind fun l => if 0 < l.length then some (D.int (bestI (fun a b => decide (a < b)) l)) else none) = some d := e
    obtain ⟨l, e1, e2⟩ := Option.bind_eq_some_iff.mp e
    split at e2
    · rename_i hl
      cases e2
      obtain ⟨a, vs, rfl, q, rr⟩ := r1.itup
      obtain ⟨ev, ed⟩ := ints_rep rr e1
      subst ev
      exact call_minT hc pins s σ H _ us Q I r ⟨a, l, rfl, q, hl, k _ H (.int _) w (Gr.refl _ _)⟩
    · cases e2
  | _ => cases e
theorem c_maxS (hc : X.calm = true) : CallR X (.builtin "max") (rdC X.K (bltD .maxS)) := by
  intro pins s σ H xs us Q I r h
  obtain ⟨th, ah, ds, d, w, ws, e, k⟩ := h
  obtain ⟨d0, v0, rfl, rfl, r1⟩ := one_arg (f := bltD .maxS) rfl (by intro a b c; cases a <;> rfl) ws e
  cases d0 with
  | tup z =>
    have e : ((ints? z).bind fun l => if 0 < l.length then some (D.int (bestI (fun a b => decide (a > b)) l)) else none) = some d := e
    obtain ⟨l, e1, e2⟩ := Option.bind_eq_some_iff.mp e
    split at e2
    · rename_i hl
      cases e2
      obtain ⟨a, vs, rfl, q, rr⟩ := r1.itup
      obtain ⟨ev, ed⟩ := ints_rep rr e1
      subst ev
      exact call_maxT hc pins s σ H _ us Q I r ⟨a, l, rfl, q, hl, k _ H (.int _) w (Gr.refl _ _)⟩
    · cases e2
  | _ => cases e
theorem e_bltB {x : Str} {id : String} {b : Bl} {e : Expr} {es : List Expr} {ps : List PX} {p pos : Pos} (O : CtxOk X C G k) (hx : C.isGl x = true) (hl : C.bl.contains x = true) (hc : CallR X (.builtin id) (rdC X.K (bltD b)))
    (hv : bootBuiltins x = some (.builtin id)) (ha : PA X (e :: es) (rdA X.K G ps)) (he : starEach (e :: es) X.env = (false, eval e X.env) :: starEach es X.env) (hpl : (backTo pos (starEach es X.env)).any (·.1) = false) :
    PE X (.Call (.Name x p) (e :: es) [] pos) (rdE X.K G (.blt b ps)) := by
  obtain ⟨g, pl⟩ := isGl_ok O hx
  obtain ⟨h4, h5, h6⟩ := plain_debug pl
  exact (pe_callB hc g (O.bl x hl) hv ha h6 h4 he hpl).imp fun σ H Q h => rd_blt h
theorem e_bltT {x : Str} {id : String} {b : Bl} {e : Expr} {es : List Expr} {ps : List PX} {p pos : Pos} (O : CtxOk X C G k) (hx : C.isGl x = true) (hl : C.bl.contains x = true) (hc : CallR X (.type id) (rdC X.K (bltD b)))
    (hv : bootBuiltins x = some (.type id)) (ha : PA X (e :: es) (rdA X.K G ps)) (he : starEach (e :: es) X.env = (false, eval e X.env) :: starEach es X.env) (hpl : (backTo pos (starEach es X.env)).any (·.1) = false) :
    PE X (.Call (.Name x p) (e :: es) [] pos) (rdE X.K G (.blt b ps)) := by
  obtain ⟨g, pl⟩ := isGl_ok O hx
  obtain ⟨h4, h5, h6⟩ := plain_debug pl
  exact (pe_callTy hc g (O.bl x hl) hv ha h6 h4 he hpl).imp fun σ H Q h => rd_blt h
theorem rd_bad {b : Bl} {ps : List PX} {e : Expr} (h : ∀ ds, bltD b ds = none) : PE X e (rdE X.K G (.blt b ps)) := pe_false fun σ H Q ⟨th, ρ, ah, d, h', w, en, e1, kk⟩ => by
  unfold ev at e1
  obtain ⟨⟨ds, h1⟩, q1, e1⟩ := Option.bind_eq_some_iff.mp e1
  obtain ⟨d2, q2, e1⟩ := Option.bind_eq_some_iff.mp e1
  rw [h] at q2
  cases q2
theorem e_blt {x : Str} {q : PX} {e : Expr} {es : List Expr} {ps : List PX} {p pos : Pos} (O : CtxOk X C G k) (hx : C.isGl x = true) (hl : C.bl.contains x = true) (h : bltOf x ps = some q)
    (ha : PA X (e :: es) (rdA X.K G ps)) (he : starEach (e :: es) X.env = (false, eval e X.env) :: starEach es X.env) (hpl : (backTo pos (starEach es X.env)).any (·.1) = false) :
    PE X (.Call (.Name x p) (e :: es) [] pos) (rdE X.K G q) := by
  unfold bltOf at h
  by_cases c : (x == ("len" : Str)) = true
  · rw [if_pos c] at h; cases h; cases eq_of_beq c; exact e_bltB O hx hl c_len boot_len ha he hpl
  rw [if_neg c] at h; clear c
  by_cases c : (x == ("min" : Str) && ps.length == 2) = true
  · rw [if_pos c] at h; cases h; cases eq_of_beq (Bool.and_eq_true_iff.mp c).1; exact e_bltB O hx hl (c_min2 O.calm) boot_min ha he hpl
  rw [if_neg c] at h; clear c
  by_cases c : (x == ("max" : Str) && ps.length == 2) = true
  · rw [if_pos c] at h; cases h; cases eq_of_beq (Bool.and_eq_true_iff.mp c).1; exact e_bltB O hx hl (c_max2 O.calm) boot_max ha he hpl
  rw [if_neg c] at h; clear c
  by_cases c : (x == ("min" : Str) && ps.length == 1) = true
  · rw [if_pos c] at h; cases h; cases eq_of_beq (Bool.and_eq_true_iff.mp c).1; exact e_bltB O hx hl (c_minS O.calm) boot_min ha he hpl
  rw [if_neg c] at h; clear c
  by_cases c : (x == ("max" : Str) && ps.length == 1) = true
  · rw [if_pos c] at h; cases h; cases eq_of_beq (Bool.and_eq_true_iff.mp c).1; exact e_bltB O hx hl (c_maxS O.calm) boot_max ha he hpl
  rw [if_neg c] at h; clear c
  by_cases c : (x == ("sorted" : Str)) = true
  · rw [if_pos c] at h; cases h; cases eq_of_beq c; exact e_bltB O hx hl c_sorted boot_sorted ha he hpl
  rw [if_neg c] at h; clear c
  by_cases c : (x == ("sum" : Str)) = true
  · rw [if_pos c] at h; cases h; exact rd_bad fun ds => by cases ds <;> rfl
  rw [if_neg c] at h; clear c
  by_cases c : (x == ("all" : Str)) = true
  · rw [if_pos c] at h; cases h; cases eq_of_beq c; exact e_bltB O hx hl (c_all O.calm) boot_all ha he hpl
  rw [if_neg c] at h; clear c
  by_cases c : (x == ("list" : Str)) = true
  · rw [if_pos c] at h; cases h; cases eq_of_beq c; exact e_bltT O hx hl c_list boot_list ha he hpl
  rw [if_neg c] at h; clear c
  by_cases c : (x == ("tuple" : Str)) = true
  · rw [if_pos c] at h; cases h; cases eq_of_beq c; exact e_bltT O hx hl c_tuple boot_tuple ha he hpl
  rw [if_neg c] at h; clear c
  by_cases c : (x == ("int" : Str)) = true
  · rw [if_pos c] at h; cases h; cases eq_of_beq c; exact e_bltT O hx hl c_int boot_int ha he hpl
  rw [if_neg c] at h; clear c
  by_cases c : (x == ("range" : Str) && ps.length == 1) = true
  · rw [if_pos c] at h; cases h; exact rd_bad fun ds => by cases ds <;> rfl
  rw [if_neg c] at h; clear c
  cases h
theorem e_sortedSet {a : Expr} {q : PX} {p p' pos pos' : Pos} (O : CtxOk X C G k) (h1 : C.isBl "sorted" = true) (h2 : C.isBl "set" = true) (ha : PE X a (rdE X.K G q)) (hs : starEach [a] X.env = [(false, eval a X.env)])
    (hs2 : starEach [.Call (.Name "set" p') [a] [] pos'] X.env = [(false, eval (.Call (.Name "set" p') [a] [] pos') X.env)]) :
    PE X (.Call (.Name "sorted" p) [.Call (.Name "set" p') [a] [] pos'] [] pos) (rdE X.K G (.blt .sortedSet [q])) := by
  obtain ⟨g1, l1⟩ := Bool.and_eq_true_iff.mp h1
  obtain ⟨g2, l2⟩ := Bool.and_eq_true_iff.mp h2
  obtain ⟨gl1, _⟩ := isGl_ok O g1
  obtain ⟨gl2, _⟩ := isGl_ok O g2
  have hin := pe_callTy (pos := pos') (p := p') (call_setM O.calm) gl2 (O.bl _ l2) boot_set (pa_cons ha pa_nil hs) (he := hs) (hpl := rfl)
  have hout := pe_callB (pos := pos) (p := p) (call_sortedS O.calm) gl1 (O.bl _ l1) boot_sorted (pa_cons hin pa_nil hs2) (he := hs2) (hpl := rfl)
  refine hout.imp fun σ H Q ⟨th, ρ, h, d, h', w, en, e1, kk⟩ => ?_
  unfold ev at e1
  obtain ⟨⟨ds, h3⟩, q1, e1⟩ := Option.bind_eq_some_iff.mp e1
  obtain ⟨d3, q3, e1⟩ := Option.bind_eq_some_iff.mp e1
  cases e1
  unfold evs at q1
  obtain ⟨⟨d1, h1'⟩, q4, q1⟩ := Option.bind_eq_some_iff.mp q1
  cases q1
  refine ⟨th, ρ, h, d1, _, w, en, q4, fun v H1 th1 r1 w1 gr1 => ?_⟩
  have rw1 := r1.view w1
  cases hd : vw h1' d1 with
  | lst xs =>
    have q3 : bltD .sortedSet [vw h1' d1] = some d := q3
    rw [hd] at q3 rw1
    have q3 : ((ints? xs).bind fun l => if l.length < 64 then some (D.lst (((dedI l).mergeSort fun a b => decide (a ≤ b)).map .int)) else none) = some d := q3
    obtain ⟨l, e5, e6⟩ := Option.bind_eq_some_iff.mp q3
    split at e6
    · rename_i hl64
      cases e6
      obtain ⟨a0, vs, rfl, sq, rr⟩ := rw1.ilst
      obtain ⟨ev0, ed⟩ := ints_rep rr e5
      subst ev0
      refine ⟨a0, l, rfl, sq, by unfold scanBound; omega, fun a1 ha1 => ?_⟩
      refine ⟨a1, dedI l, rfl, upd_same, Nat.lt_of_le_of_lt (dedI_len l) hl64, fun p0 hp0 => ?_⟩
      have ga := Gr.laid (H := H1) (o := SetH X a1 (dedI l)) th1 ha1
      have wa := w1.laid (o := SetH X a1 (dedI l)) ha1
      have gb := Gr.laid (H := upd H1 a1 (SetH X a1 (dedI l))) (o := .lst (((dedI l).mergeSort fun x y => decide (x ≤ y)).map V.int)) th1 hp0
      exact kk _ _ th1 (.lst (SqL.of upd_same) (wa.notin hp0) (RepVs.ints _)) (wa.laid hp0) (gr1.trans (ga.trans gb))
    · cases e6
  | _ =>
    have q3 : bltD .sortedSet [vw h1' d1] = some d := q3
    rw [hd] at q3
    cases q3
end
section
variable {X : Cx} {C : CC} {G : List Den} {k : Nat}
theorem base_ok {o : Expr} (h : noSuper o = true) (m : Str) (env : Env) : attributeBase o m env (eval o env) = eval o env := by
  cases o with
  | Call f as ks p =>
    cases as with
    | nil =>
      cases ks with
      | nil => cases h
      | cons _ _ => cases f <;> rfl
    | cons _ _ => cases f <;> cases ks <;> rfl
  | _ => rfl
theorem few1 {a : Expr} {env : Env} {cpos : Pos} (hs : starEach [a] env = [(false, eval a env)]) : ((backTo cpos (starEach [a] env)).all (fun x => !x.1) && (backToKw cpos (keywordEach [] env)).all (fun x => x.1.isSome)
      && decide ([a].length + ([] : List Keyword).length + (if ([] : List Keyword).isEmpty then 0 else 1) < 30)) = true := by
  rw [hs]; rfl
theorem rd_mt {m : Mt} {T : String} {o : PX} {ps : List PX} {r : V → List V → Hp → VK → Prop} (hT : ∀ d v H th ds, mtD m d ds ≠ none → RepV X.K H th d v → tyV X.K T v H)
    (hr : ∀ (x : V) (xs : List V) (H : Hp) (Q : VK) (th : Th) (h : AH) (d0 d : D) (ds : List D), Wd X.K th h H → RepV X.K H th d0 x → RepWs X.K H th ds xs → mtD m d0 ds = some d → (∀ v H', RepV X.K H' th d v → Wd X.K th h H' → Gr th th H H' → Q v H') → r x xs H Q)
    {σ : St} {H : Hp} {Q : VK} (h : rdE X.K G (.mt m o ps) σ H Q) : tBM X.K T r (rdE X.K G o) (rdA X.K G ps) σ H Q := by
  obtain ⟨th, ρ, h, d, h', w, en, e1, kk⟩ := h
  unfold ev at e1
  obtain ⟨⟨d1, h1⟩, q1, e1⟩ := Option.bind_eq_some_iff.mp e1
  obtain ⟨⟨ds, h2⟩, q2, e1⟩ := Option.bind_eq_some_iff.mp e1
  obtain ⟨d3, q3, e1⟩ := Option.bind_eq_some_iff.mp e1
  cases e1
  refine ⟨th, ρ, h, d1, h1, w, en, q1, fun x H1 th1 r1 w1 g1 => ⟨?_, th1, ρ, h1, ds, _, w1, en.mono g1 w1.kd, q2, fun xs H2 th2 r2 w2 g2 => ?_⟩⟩
  · exact hT d1 x H1 th1 _ (by rw [q3]; simp) r1
  · exact hr x xs H2 Q th2 _ _ _ _ w2 (r1.mono g2 w2.kd) (r2.views w2) q3 fun v H' r w' g' => kk v H' th2 r w' ((g1.trans g2).trans g')
theorem join_eq (sep : List Nat) : ∀ l : List (List Nat), Txt.join (SS sep) (l.map SS) = SS (joinD sep l) := by
  intro l
  show Builtin.Str.glued (SS sep) (l.map SS) = _
  rw [StrLaws.glued_eq_join]
  induction l with
  | nil => rfl
  | cons x l ih =>
    cases l with
    | nil => rfl
    | cons y r =>
      show SS x ++ SS sep ++ Str.join (SS sep) ((y :: r).map SS) = _
      rw [ih, SS_append, SS_append]
      rfl
theorem strsAre_of {l : List (List Nat)} : ∀ {us : List Value}, Vals (l.map fun s => V.str (SS s)) us → StrsAre us (l.map SS) := by
  induction l with
  | nil => intro us h; cases h; exact .nil
  | cons s l ih =>
    intro us h
    cases h with
    | cons r rs =>
      obtain ⟨t, rfl⟩ := r
      exact .cons _ _ (ih rs)
theorem m_join {o a : Expr} {po pa : PX} {apos cpos : Pos} (hb : noSuper o = true) (hl : (apos.endLine == cpos.line) = true) (ho : PE X o (rdE X.K G po)) (ha : PE X a (rdE X.K G pa)) (hs : starEach [a] X.env = [(false, eval a X.env)]) :
    PE X (.Call (.Attribute o "join" apos) [a] [] cpos) (rdE X.K G (.mt .join po [pa])) := by
  refine (pe_bm (r := fun x xs H Q => ∃ (z : List Nat) (p : Addr) (l : List (List Nat)), x = .str (SS z) ∧ xs = [.ref p] ∧ SqL X.K H p (l.map fun s => V.str (SS s)) ∧ (l.map List.length).sum + l.length * z.length ≤ SZ ∧ Q (.str (SS (joinD z l))) H)
    PySem.F.plainAttrs_str PySem.F.slot_str_join PySem.F.type_str_join ?_ ho (a_cons ha a_nil hs) (base_ok hb _ _) (few1 hs) hl hs rfl).imp fun σ H Q h => rd_mt ?_ ?_ h
  · intro pins s σ H x xs v us Q I rx rs h
    obtain ⟨z, p, l, rfl, rfl, q, hz, qq⟩ := h
    obtain ⟨t, rfl⟩ := rx
    obtain ⟨u, rfl, ru⟩ := vals1 rs
    cases ru
    obtain ⟨its, rv, pl, _⟩ := I.list q
    refine join_list (ys := l.map SS) pl.isList (by simpa using strsAre_of rv) ?_ fun t' k' => ?_
    · rw [List.map_map]
      have e : (l.map ((fun x : Str => x.length) ∘ SS)) = l.map List.length := List.map_congr_left fun s _ => SS_length s
      rw [e, List.length_map, SS_length]
      exact hz
    · rw [join_eq]
      exact ⟨.str _, H, I.tok _, ⟨t', rfl⟩, qq⟩
  · intro d v H th ds hn r
    cases d with
    | str z => cases r; exact rfl
    | _ => exact absurd rfl hn
  · intro x xs H Q th h d0 d ds w r0 rs e kk
    cases d0 with
    | str z =>
      cases rs with
      | nil => cases e
      | cons r1 rs =>
        cases rs with
        | cons _ _ => rename_i d1 _ _ _ _ _ _ _; cases d1 <;> cases e
        | nil =>
          rename_i d1 v1
          cases d1 with
          | lst y =>
            have e : ((strs? y).bind fun l => if (l.map List.length).sum + l.length * z.length ≤ SZ then some (D.str (joinD z l)) else none) = some d := e
            obtain ⟨l, e1, e2⟩ := Option.bind_eq_some_iff.mp e
            split at e2
            · rename_i hz
              cases e2
              cases r0
              obtain ⟨a, vs, rfl, q, rr⟩ := r1.ilst
              have ev := strs_rep rr e1
              subst ev
              exact ⟨z, a, l, rfl, rfl, q, hz, kk _ H (.str _) w (Gr.refl _ _)⟩
            · cases e2
          | _ => cases e
    | _ => cases e
theorem m_append {o a : Expr} {po pa : PX} {apos cpos : Pos} (hb : noSuper o = true) (hl : (apos.endLine == cpos.line) = true) (ho : PE X o (rdE X.K G po)) (ha : PE X a (rdE X.K G pa)) (hs : starEach [a] X.env = [(false, eval a X.env)]) :
    PE X (.Call (.Attribute o "append" apos) [a] [] cpos) (rdE X.K G (.app po pa)) := by
  refine (pe_bm PySem.F.plainAttrs_list PySem.F.slot_list_append PySem.F.type_list_append mt_append ho (a_cons ha a_nil hs) (base_ok hb _ _) (few1 hs) hl hs rfl).imp fun σ H Q h => ?_
  obtain ⟨th, ρ, h, d, h', w, en, e1, kk⟩ := h
  unfold ev at e1
  obtain ⟨⟨d1, h1⟩, q1, e1⟩ := Option.bind_eq_some_iff.mp e1
  dsimp only at e1
  cases d1 with
  | ref n =>
    dsimp only at e1
    cases g1 : h1[n]? with
    | none => rw [g1] at e1; cases e1
    | some o1 =>
      rw [g1] at e1
      cases o1 with
      | lst xs1 =>
        dsimp only at e1
        obtain ⟨⟨d2, h2⟩, q2, e1⟩ := Option.bind_eq_some_iff.mp e1
        dsimp only at e1
        cases g2 : h2[n]? with
        | none => rw [g2] at e1; cases e1
        | some o2 =>
          rw [g2] at e1
          cases o2 with
          | lst xs =>
            dsimp only at e1
            split at e1
            · rename_i hz
              cases e1
              refine ⟨th, ρ, h, _, h1, w, en, q1, fun x H1 th1 r1 w1 gr1 => ?_⟩
              cases r1 with
              | ref ea =>
                rename_i aa
                obtain ⟨vs1, ev1, rv1⟩ := w1.obj n aa _ ea g1
                refine ⟨.inl ⟨rfl, vs1, SqL.of ev1⟩, th1, ρ, h1, [d2], h2, w1, en.mono gr1 w1.kd, by unfold evs; rw [q2]; rfl, fun vs H2 th2 r2 w2 gr2 => ?_⟩
                cases r2 with
                | cons ra rs =>
                  cases rs
                  rename_i va
                  have ea2 : th2[n]? = some aa := by
                    obtain ⟨t, rfl⟩ := gr2.pre
                    rw [List.getElem?_append_left (List.getElem?_eq_some_iff.mp ea).1]
                    exact ea
                  obtain ⟨vs2, ev2, rv2⟩ := w2.obj n aa _ ea2 g2
                  have hm := List.mem_of_getElem? ea2
                  have gw := Gr.wrote (H := H2) (o := .lst (vs2 ++ [va])) hm ev2
                  refine ⟨aa, vs2, _, rfl, rfl, ev2, by rw [← rv2.length, SZ_eq]; exact hz, kk .non _ th2 .non (w2.wrote ea2 ev2 ⟨_, upd_same, ?_⟩) ((gr1.trans gr2).trans gw)⟩
                  exact (rv2.append (.cons ra .nil)).mono gw w2.kd
            · cases e1
          | _ => cases e1
      | _ => cases e1
  | _ => cases e1
end
theorem codeAny_compLoop_go {prog : Program} {w : World} {A : Around} {R : Result → Shared → Prop} {s : Shared} {elt target iter : Expr} {ifs : List Expr} {scope : Scope} {pos : Pos} {it acc : Value} {env : Env} (I : Nat → Shared → Prop)
    (turn : ∀ n s, I n s → wpAny (model prog w) A (pyNext it) (fun r s₁ => match r with
      | none => R (.ok .next) s₁
      | some v => wpAny (model prog w) A (letOwnedTupleGo target it v) (fun _ s₁ => wpAny (model prog w) A (assign target env v) (fun _ s₂ =>
          wpAny (model prog w) A (forIn ifs true fun c r => if r = true then do let ok ← isTrue c env (eval c env); pure (ForInStep.yield ok) else pure (ForInStep.yield r)) (fun ok s₃ =>
            if ok = true then wpAny (model prog w) A (eval elt env) (fun x s₄ =>
              wpAny (model prog w) A (call (.builtin "list.append") [acc, x]) (fun _ s₅ => ∃ m, m < n ∧ I m s₅) (notedBy (model prog w) A env fun e s' => R (.error e) s') s₄) (notedBy (model prog w) A env fun e s' => R (.error e) s') s₃
            else ∃ m, m < n ∧ I m s₃) (notedBy (model prog w) A env fun e s' => R (.error e) s') s₂) (notedBy (model prog w) A env fun e s' => R (.error e) s') s₁) (notedBy (model prog w) A env fun e s' => R (.error e) s') s₁) (notedBy (model prog w) A env fun e s' => R (.error e) s') s)
    (n : Nat) (h : I n s) :
    codeAny (model prog w) A (.compLoop (.ListComp elt [⟨target, iter, ifs, 0⟩] scope pos) 0 it acc env) R s := by
  refine codeAny_loop rfl I (fun n s hI => ?_) n h
  show wpAny _ A ((compTurn (.ListComp elt [⟨target, iter, ifs, 0⟩] scope pos) 0 it acc env).onRaise (fun x => do noteFrame x env; theTreesLotGoes x)) _ _ s
  refine wpAny_noted ?_
  rw [compTurn_list]
  refine wpAny_bind (wpAny_standAt (wpAny_bind (wpAny_mono (turn n s hI) (fun r s₁ h₁ => ?_) fun _ _ h' => h')))
  cases r with
  | none => exact wpAny_pure h₁
  | some v =>
    refine wpAny_bind (wpAny_mono h₁ (fun _ s₁ h₁ => ?_) fun _ _ h' => h')
    refine wpAny_bind (wpAny_mono h₁ (fun _ s₂ h₂ => wpAny_bind (wpAny_mono h₂ (fun ok s₃ h₃ => ?_) fun _ _ h' => h')) fun _ _ h' => h')
    cases ok with
    | true =>
      rw [if_pos rfl] at h₃
      rw [if_pos rfl]
      exact wpAny_bind (wpAny_bind (wpAny_mono h₃ (fun x s₄ h₄ => wpAny_bind (wpAny_mono h₄ (fun _ s₅ h₅ => wpAny_pure (wpAny_pure ⟨rfl, h₅⟩)) fun _ _ h' => h')) fun _ _ h' => h'))
    | false =>
      rw [if_neg Bool.false_ne_true] at h₃
      rw [if_neg Bool.false_ne_true]
      exact wpAny_pure ⟨rfl, h₃⟩
noncomputable def cloFold (cells : List (Str × Addr)) : List (Str × NameKind) → List (Str × Addr) → List (Str × Addr)
  | [], acc => acc
  | (n, q) :: r, acc => if q == .free then cloFold cells r ((n, (cells.lookup n).getD 0) :: acc) else cloFold cells r acc
theorem closureFor_eq {scope : Scope} {env : Env} (h : ∀ y ∈ scope.names, y.2 = .free → ∃ c, env.cells.lookup y.1 = some c) : closureFor scope env = pure (cloFold env.cells scope.names []) := by
  unfold closureFor
  have go : ∀ (names : List (Str × NameKind)) (acc : List (Str × Addr)), (∀ y ∈ names, y.2 = .free → ∃ c, env.cells.lookup y.1 = some c) →
      (forIn names acc fun (x : Str × NameKind) (r : List (Str × Addr)) => if (x.2 == NameKind.free) = true then do let __do_lift ← cellOf env x.1; pure (ForInStep.yield ((x.1, __do_lift) :: r)) else pure (ForInStep.yield r) : Sem (List (Str × Addr))) = pure (cloFold env.cells names acc) := by
    intro names
    induction names with
    | nil => intro acc _; rfl
    | cons y r ih =>
      intro acc hy
      obtain ⟨n, q⟩ := y
      rw [List.forIn_cons]
      by_cases hq : q = .free
      · subst hq
        obtain ⟨c, hc⟩ := hy (n, .free) List.mem_cons_self rfl
        have e : cellOf env n = pure c := by unfold cellOf; rw [hc]
        have e2 : cloFold env.cells ((n, NameKind.free) :: r) acc = cloFold env.cells r ((n, c) :: acc) := by
          have hc' : env.cells.lookup n = some c := hc
          simp [cloFold, hc']
        rw [e2]
        simp only [beq_self_eq_true, if_true, e]
        exact ih ((n, c) :: acc) fun y h1 h2 => hy y (List.mem_cons_of_mem _ h1) h2
      · have hf : (q == NameKind.free) = false := by simpa using hq
        have e2 : cloFold env.cells ((n, q) :: r) acc = cloFold env.cells r acc := by simp [cloFold, hf]
        rw [e2]
        simp only [hf, Bool.false_eq_true, if_false]
        exact ih acc fun y h1 h2 => hy y (List.mem_cons_of_mem _ h1) h2
  show (forIn scope.names [] _ >>= fun r => pure r) = _
  rw [go scope.names [] h]
  rfl
theorem cloFold_lookup (cells : List (Str × Addr)) (x : Str) : ∀ (names : List (Str × NameKind)) (acc : List (Str × Addr)), (names.map (·.1)).Nodup →
    (cloFold cells names acc).lookup x = if (x, NameKind.free) ∈ names then some ((cells.lookup x).getD 0) else acc.lookup x := by
  intro names
  induction names with
  | nil => intro acc _; simp [cloFold]
  | cons y r ih =>
    intro acc nd
    obtain ⟨n, q⟩ := y
    rw [List.map_cons, List.nodup_cons] at nd
    by_cases hq : q = .free
    · subst hq
      have e0 : cloFold cells ((n, NameKind.free) :: r) acc = cloFold cells r ((n, (cells.lookup n).getD 0) :: acc) := by simp [cloFold]
      rw [e0, ih _ nd.2]
      by_cases hx : x = n
      · subst hx
        have : ¬ ((x, NameKind.free) ∈ r) := fun h => nd.1 (List.mem_map.mpr ⟨_, h, rfl⟩)
        rw [if_neg this, if_pos List.mem_cons_self]
        simp [List.lookup_cons]
      · have e : ((x, NameKind.free) ∈ (n, NameKind.free) :: r) ↔ (x, NameKind.free) ∈ r := by
          rw [List.mem_cons]
          constructor
          · rintro (h | h)
            · exact absurd (congrArg Prod.fst h) hx
            · exact h
          · exact .inr
        simp only [e]
        split
        · rfl
        · rw [List.lookup_cons]
          rw [show (x == n) = false by simpa using hx]
    · have hf : (q == NameKind.free) = false := by simpa using hq
      have e0 : cloFold cells ((n, q) :: r) acc = cloFold cells r acc := by simp [cloFold, hf]
      rw [e0, ih _ nd.2]
      have e : ((x, NameKind.free) ∈ (n, q) :: r) ↔ (x, NameKind.free) ∈ r := by
        rw [List.mem_cons]
        constructor
        · rintro (h | h)
          · exact absurd (congrArg Prod.snd h).symm hq
          · exact h
        · exact .inr
      simp only [e]
theorem iter_step {K : PySem.W.Frag} {H1 H : Hp} {th1 th : Th} {J : It} {ds : List D} (it : IterOf K H1 th1 J ds) (g : Gr th1 th H1 H) (kd : ∀ a ∈ th, K.lookup a = none) (i : Nat) :
    (∀ d, ds[i]? = some d → J.go i H ∧ ∀ x H', J.yld i H x H' → H' = H ∧ RepV K H th d x) ∧ (ds.length ≤ i → J.stop i H) := by
  cases it with
  | @lst a vs ds q n r =>
    have q2 := SqL.mono g n q
    refine ⟨fun d hd => ?_, fun hl => ⟨vs, q2, by rw [← r.length]; exact hl⟩⟩
    obtain ⟨v, e1, r1⟩ := r.get hd
    refine ⟨⟨vs, v, q2, e1⟩, fun x H' y => ⟨y.1, ?_⟩⟩
    have := y.2 vs q2
    rw [e1] at this
    cases this
    exact r1.mono g kd
  | @tup a vs ds q r =>
    have q2 := SqT.mono g q
    refine ⟨fun d hd => ?_, fun hl => ⟨vs, q2, by rw [← r.length]; exact hl⟩⟩
    obtain ⟨v, e1, r1⟩ := r.get hd
    refine ⟨⟨vs, v, q2, e1⟩, fun x H' y => ⟨y.1, ?_⟩⟩
    have := y.2 vs q2
    rw [e1] at this
    cases this
    exact r1.mono g kd
  | str z =>
    have hz : (SS z).cps.size = z.length := by simp
    refine ⟨fun d hd => ?_, fun hl => (by show (SS z).cps.size ≤ i; rw [hz]; simpa using hl)⟩
    have hi : i < z.length := by
      have := (List.getElem?_eq_some_iff.mp hd).1
      simpa using this
    refine ⟨by show i < (SS z).cps.size; rw [hz]; exact hi, fun x H' y => ⟨y.1, ?_⟩⟩
    obtain ⟨_, c, ec, y⟩ := y
    have ez : z[i]? = some c := by simpa using ec
    rw [List.getElem?_map, ez] at hd
    cases hd
    rw [y]
    exact .str [c]
  | rng n =>
    refine ⟨fun d hd => ?_, fun hl => (by have h : n ≤ i := by simpa using hl
                                          exact h)⟩
    have hi : i < n := by
      have := (List.getElem?_eq_some_iff.mp hd).1
      simpa using this
    have ed : d = .int (i : Int) := by
      rw [List.getElem?_map, List.getElem?_range hi] at hd
      exact (Option.some.inj hd).symm
    refine ⟨hi, fun x H' y => ⟨y.1, ?_⟩⟩
    have := y.2
    rw [this, ed]
    have z : (0 : Int) + (i : Int) = (i : Int) := by omega
    rw [z]
    exact .int _
theorem hok_laid0 {P : Program} {w : World} {H : Hp} {h : Heap} {a : Addr} {o : HO} (x : HOk P w H h) (hn : H a = none) (new : ObjOk P w (upd H a o) h a o) : HOk P w (upd H a o) h := fun b u e => by
  by_cases hb : b = a
  · subst hb; rw [upd_same] at e; cases e; exact new
  · rw [upd_ne hb] at e
    exact (x b u e).stay (fun c v _ q => q) (fun c q => by rw [upd_ne (ne_of_none q hn)]; exact q) (fun c xs q => by rw [upd_ne (ne_of_none q hn)]; exact q)
theorem _root_.L2.Inv.track {X : Cx} {pins : List (Addr × Obj)} {σ : L2.St} {H : Hp} {s : Shared} {a : Addr} {vs : List V} {its : List Value} {n : Nat} (I : Inv X pins σ H s) (hn : H a = none) (hL : a ≠ X.env.locals) (h1 : a ∈ X.ex ∨ X.s₀.heap.objs.size ≤ a)
    (h2 : ∀ x c, X.env.cells.lookup x = some c → c ≠ a) (h3 : ∀ p ∈ X.pn ++ pins, p.1 ≠ a) (e : s.heap.get? a = some { cls := .type "list", data := .seq its.toArray n }) (r : Vals vs its) (hz : vs.length ≤ sizeLine) :
    Inv X pins σ (upd H a (.lst vs)) s := by
  have st := Inv.step (g' := s.gens) (t' := s.toks) (d' := s.drawn) (ch := [a]) (h' := s.heap) (H' := upd H a (.lst vs)) I
    (fun b hb => by have e : b = a := by simpa using hb
                    subst e; exact ⟨h1, hL, h2, h3⟩)
    (fun b o _ _ _ q _ => q) (fun b o _ _ _ q _ => ⟨o.slots, q⟩)
    (fun b o hb q qn => by rw [upd_ne (by simpa using hb)]; exact qn) (fun b o _ q => ⟨o, q⟩)
    (fun b xs q => by rw [upd_ne (ne_of_none q hn)]; exact q) (fun b o u q => by rw [upd_ne (ne_of_none q hn)]; exact q)
    (fun b ps q => ⟨#[], by rw [upd_ne (ne_of_none q hn)]; simpa using q⟩) (fun m q => q)
    (hok_laid0 I.hok hn ⟨hz, its, n, r, e⟩) I.bare
  exact st
noncomputable def kvs (σ : St) (is : List Nat) : St := is.map fun i => (σ[i]?).bind id
noncomputable def compCx (X : Cx) (x : Str) (fvs : List Str) (sc : Scope) (cl : List (Str × Addr)) (Cc : Addr) (s2 : Shared) (H2 : Hp) (fp : List Addr) (xe : Value → Shared → Prop) : Cx :=
  { X with N := x :: fvs, s₀ := s2, H₀ := H2, env := compEnvC sc cl Cc X.env, outer := X.stack, ex := fp, fn := fun _ => false, pn := [], xe := xe }
structure CompOk (C : CC) (x : Str) (sc : Scope) : Prop where
  kind : sc.kind = .function
  loc : sc.names.lookup x = some .local
  pl : plainName x = true
  nocell : ∀ y ∈ sc.names, y.2 ≠ .cell
  locs : ∀ y ∈ sc.names, y.2 = .local → sc.names.lookup y.1 = some .local
  nd : (sc.names.map (·.1)).Nodup
  fr : ∀ y ∈ sc.names, y.2 = .free → lk C.nm y.1 = some .cell ∨ lk C.nm y.1 = some .free
theorem compOk_of {C : CC} {x : Str} {sc : Scope} (h : compOk C x sc = true) : CompOk C x sc := by
  unfold compOk at h
  simp only [Bool.and_eq_true] at h
  obtain ⟨⟨⟨⟨⟨⟨h1, h2⟩, h3⟩, h4⟩, h5⟩, h6⟩, h7⟩ := h
  refine ⟨by simpa using h1, by simpa using h2, h3, fun y hy e => ?_, fun y hy e => ?_, by simpa using h6, fun y hy e => ?_⟩
  · have := List.all_eq_true.mp h4 y hy
    rw [e] at this
    cases this
  · have := List.all_eq_true.mp h5 y hy
    rw [e] at this
    simpa using this
  · have := List.all_eq_true.mp h7 y hy
    rw [e] at this
    simpa using this
theorem free_mem {names : List (Str × NameKind)} {y : Str} (h : y ∈ freeNames names) : (y, NameKind.free) ∈ names := by
  unfold freeNames at h
  obtain ⟨⟨n, q⟩, hm, e⟩ := List.mem_filterMap.mp h
  dsimp only at e
  split at e
  · rename_i hq
    cases e
    have : q = .free := by simpa using hq
    subst this
    exact hm
  · cases e
theorem nodup_free {names : List (Str × NameKind)} (nd : (names.map (·.1)).Nodup) : (freeNames names).Nodup := by
  unfold freeNames
  induction names with
  | nil => exact List.nodup_nil
  | cons y r ih =>
    obtain ⟨n, q⟩ := y
    rw [List.map_cons, List.nodup_cons] at nd
    rw [List.filterMap_cons]
    by_cases hq : q = .free
    · subst hq
      have : (if (NameKind.free == NameKind.free) = true then some n else none) = some n := by simp
      simp only [this]
      rw [List.nodup_cons]
      exact ⟨fun h => nd.1 (List.mem_map.mpr ⟨_, free_mem h, rfl⟩), ih nd.2⟩
    · have hf : (q == NameKind.free) = false := by simpa using hq
      simp only [hf, Bool.false_eq_true, if_false]
      exact ih nd.2
theorem lookup_mem {names : List (Str × NameKind)} (nd : (names.map (·.1)).Nodup) {y : Str} {q : NameKind} (h : (y, q) ∈ names) : names.lookup y = some q := by
  induction names with
  | nil => cases h
  | cons z r ih =>
    obtain ⟨n, q'⟩ := z
    rw [List.map_cons, List.nodup_cons] at nd
    rw [List.lookup_cons]
    rcases List.mem_cons.mp h with e | e
    · cases e; simp
    · have : y ≠ n := fun z => nd.1 (List.mem_map.mpr ⟨_, e, z⟩)
      rw [show (y == n) = false by simpa using this]
      exact ih nd.2 e
theorem varsOf_get {C : CC} : ∀ (l : List Str) (is : List Nat), varsOf C l = some is → l.length = is.length ∧ ∀ (j : Nat) (i : Nat), is[j]? = some i → ∃ y, l[j]? = some y ∧ C.var y = some i
  | [], is, h => by cases h; exact ⟨rfl, fun j i e => by simp at e⟩
  | y :: r, is, h => by
    unfold varsOf at h
    split at h
    · rename_i i l e1 e2
      cases h
      obtain ⟨a, b⟩ := varsOf_get r l e2
      refine ⟨by simp [a], fun j i' e => ?_⟩
      cases j with
      | zero => simp at e; subst e; exact ⟨y, rfl, e1⟩
      | succ j => exact b j i' (by simpa using e)
    · cases h
theorem reNames_eq {X : Cx} {C : CC} {G : List Den} {k : Nat} (O : CtxOk X C G k) (hk : X.env.scope.kind = .function) (sc : Scope) : (relabel sc X.env).names = reNames C sc.names := by
  unfold relabel reNames
  dsimp only
  refine List.map_congr_left fun y _ => ?_
  obtain ⟨n, q⟩ := y
  have e : X.env.kindOf n = lk C.nm n := lookupEq O
  simp only [hk, e, beq_self_eq_true, Bool.and_true]
section
variable {X : Cx} {C : CC} {G : List Den} {k : Nat} {pins : List (Addr × Obj)} {σ : St} {H2 : Hp} {s2 : Shared} {x : Str} {sc : Scope} {keep : List Nat} {fp : List Addr} {xe : Value → Shared → Prop}
noncomputable abbrev clo (X : Cx) (sc : Scope) : List (Str × Addr) := cloFold X.env.cells sc.names []
noncomputable abbrev cX' (X : Cx) (x : Str) (sc : Scope) (Cc : Addr) (s2 : Shared) (H2 : Hp) (fp : List Addr) (xe : Value → Shared → Prop) : Cx := compCx X x (freeNames sc.names) sc (clo X sc) Cc s2 H2 fp xe
theorem cells_free (I : Inv X pins σ H2 s2) (O : CtxOk X C G k) (Q : CompOk C x sc) : ∀ y ∈ sc.names, y.2 = .free → ∃ c, X.env.cells.lookup y.1 = some c := fun y hy e =>
  I.ok.has y.1 (by rcases Q.fr y hy e with h | h
                   · exact .inl ((lookupEq O).trans h)
                   · exact .inr ((lookupEq O).trans h))
theorem clo_some (I : Inv X pins σ H2 s2) (O : CtxOk X C G k) (Q : CompOk C x sc) {y : Str} {c : Addr} (h : (clo X sc).lookup y = some c) : (y, NameKind.free) ∈ sc.names ∧ X.env.cells.lookup y = some c := by
  rw [cloFold_lookup _ _ _ _ Q.nd] at h
  split at h
  · rename_i hm
    obtain ⟨c', hc⟩ := cells_free I O Q _ hm rfl
    have hc : X.env.cells.lookup y = some c' := hc
    rw [hc] at h
    cases h
    exact ⟨hm, hc⟩
  · cases h
theorem clo_of (I : Inv X pins σ H2 s2) (O : CtxOk X C G k) (Q : CompOk C x sc) {y : Str} (hm : (y, NameKind.free) ∈ sc.names) : ∃ c, X.env.cells.lookup y = some c ∧ (clo X sc).lookup y = some c := by
  obtain ⟨c, hc⟩ := cells_free I O Q _ hm rfl
  have hc : X.env.cells.lookup y = some c := hc
  refine ⟨c, hc, ?_⟩
  rw [cloFold_lookup _ _ _ _ Q.nd, if_pos hm, hc]
  rfl
theorem re_lookup (O : CtxOk X C G k) (hk : X.env.scope.kind = .function) (Q : CompOk C x sc) {y : Str} {q : NameKind} (hm : (y, q) ∈ sc.names) :
    (relabel sc X.env).names.lookup y = some (if (q == .free && X.env.kindOf y == some .cell) = true then .cell else q) := by
  have nd : ((relabel sc X.env).names.map (·.1)).Nodup := by
    have e : (relabel sc X.env).names.map (·.1) = sc.names.map (·.1) := by
      unfold relabel
      dsimp only
      rw [List.map_map]
      refine List.map_congr_left fun z _ => ?_
      show (if _ then _ else _ : Str × NameKind).1 = z.1
      split <;> rfl
    rw [e]
    exact Q.nd
  refine lookup_mem nd ?_
  unfold relabel
  dsimp only
  refine List.mem_map.mpr ⟨(y, q), hm, ?_⟩
  simp only [hk, beq_self_eq_true, Bool.and_true]
  split <;> rfl
theorem free_kind (O : CtxOk X C G k) (hk : X.env.scope.kind = .function) (Q : CompOk C x sc) {y : Str} (hm : (y, NameKind.free) ∈ sc.names) : (relabel sc X.env).names.lookup y = some .cell ∨ (relabel sc X.env).names.lookup y = some .free := by
  rw [re_lookup O hk Q hm]
  split
  · exact .inl rfl
  · exact .inr rfl
theorem mem_of_lookup {names : List (Str × NameKind)} {y : Str} {q : NameKind} (h : names.lookup y = some q) : (y, q) ∈ names := by
  induction names with
  | nil => cases h
  | cons z r ih =>
    obtain ⟨n, q'⟩ := z
    rw [List.lookup_cons] at h
    split at h
    · rename_i e
      cases h
      have : y = n := by simpa using e
      rw [this]
      exact List.mem_cons_self
    · exact List.mem_cons_of_mem _ (ih h)
theorem kind_free (O : CtxOk X C G k) (hk : X.env.scope.kind = .function) (Q : CompOk C x sc) {y : Str} (h : (relabel sc X.env).names.lookup y = some .cell ∨ (relabel sc X.env).names.lookup y = some .free) : (y, NameKind.free) ∈ sc.names := by
  have : ∃ q, (y, q) ∈ (relabel sc X.env).names ∧ (q = .cell ∨ q = .free) := by
    rcases h with h | h
    · exact ⟨_, mem_of_lookup h, .inl rfl⟩
    · exact ⟨_, mem_of_lookup h, .inr rfl⟩
  obtain ⟨q, hm, hq⟩ := this
  unfold relabel at hm
  dsimp only at hm
  obtain ⟨⟨n, q'⟩, hm', e⟩ := List.mem_map.mp hm
  by_cases hf : q' = .free
  · subst hf
    simp only at e
    split at e
    · cases e; exact hm'
    · cases e; exact hm'
  · have hff : (q' == NameKind.free) = false := by simpa using hf
    simp only [hff, Bool.false_and, Bool.false_eq_true, if_false] at e
    cases e
    rcases hq with rfl | rfl
    · exact absurd rfl (Q.nocell _ hm')
    · exact hm'
theorem inv_comp {h4 : Heap} {tk : Nat} {m : Str → Option Value} {ob : Obj} (I : Inv X pins σ H2 s2) (O : CtxOk X C G k) (Q : CompOk C x sc) (hv : varsOf C (freeNames sc.names) = some keep)
    (hf : ∀ b ∈ fp, FpOk X pins H2 b) (hfo : ∀ b ∈ fp, ∃ o, s2.heap.get? b = some o)
    (k4 : ∀ b o, s2.heap.get? b = some o → h4.get? b = some o) (hacc : h4.get? s2.heap.objs.size = some ob) (hob : ∀ v, ob.data ≠ .cell v) (ns : h4.Ns (s2.heap.objs.size + 1) m) :
    Inv (cX' X x sc (s2.heap.objs.size + 1) s2 H2 fp xe) [(s2.heap.objs.size, ob)] (none :: kvs σ keep) H2 { s2 with heap := h4, toks := tk } := by
  have hk := I.ok.kind
  have stk : ∀ b ∈ frs X.stack, b < s2.heap.objs.size := fun b hb => by
    rcases List.mem_cons.mp (I.stkSub b hb) with e | e
    · rw [e]; exact I.lt
    · exact Nat.lt_of_not_le fun h => I.nofs h e
  have cl_lt : ∀ y c, (clo X sc).lookup y = some c → c < s2.heap.objs.size := fun y c e => by
    obtain ⟨_, h2⟩ := clo_some I O Q e
    obtain ⟨v, hv⟩ := I.cell y c h2
    exact hv.lt
  have fp_lt : ∀ b ∈ fp, b < s2.heap.objs.size := fun b hb => let ⟨o, e⟩ := hfo b hb; Heap.lt_size e
  have okX : (cX' X x sc (s2.heap.objs.size + 1) s2 H2 fp xe).Ok := {
    mod := I.ok.mod
    kind := Q.kind
    glob := I.ok.glob
    blt := I.ok.blt
    above := Nat.le_succ _
    inj := fun y z c e1 e2 => I.ok.inj y z c (clo_some I O Q e1).2 (clo_some I O Q e2).2
    has := fun y h => by
      obtain ⟨c, _, e⟩ := clo_of I O Q (kind_free O hk Q h)
      exact ⟨c, e⟩
    cab := fun y c e => by cases e
    hd := I.ok.hd
    frames := I.ok.frames
    stk := .inl rfl
    exf := fun b hb => ⟨Nat.ne_of_lt (Nat.lt_succ_of_lt (fp_lt b hb)), fun y c e => (hf b hb).2.2.2.2.1 y c (clo_some I O Q e).2⟩
    bs := fun b o e => I.bs b o e
    bsz := Nat.le_trans I.ok.bsz I.sz
    noex := fun b o e hb => by
      obtain ⟨h0, _, _, h3, _⟩ := hf b hb
      obtain ⟨e1, e2⟩ := I.ok.bs b o e
      rcases h3 with h3 | h3
      · exact I.ok.noex b o e h3
      · exact absurd (Heap.lt_size e1) (Nat.not_lt.mpr h3)
    exfs := fun b hb hs => by
      obtain ⟨_, h1, h2, _⟩ := hf b hb
      rcases List.mem_cons.mp (I.stkSub b hs) with e | e
      · exact h1 e
      · exact h2 e
    funs := I.stack
    frf := fun b hb => I.stkFree b hb }
  obtain ⟨vlen, vget⟩ := varsOf_get _ _ hv
  refine {
    ok := okX
    os := rfl
    bare := I.bare
    base := Un.kept k4
    loc := ⟨m, ns, fun i y v e1 e2 hV => ?_⟩
    cell := fun y c e => ?_
    free := I.hok.fresh (Nat.le_succ _)
    freeC := fun y c e => I.freeC y c (clo_some I O Q e).2
    pin := fun p hp => ?_
    hok := I.hok.kept k4
    len := ?_ }
  · cases i with
    | zero => simp at e2
    | succ j =>
      have e2 : (kvs σ keep)[j]? = some (some v) := by simpa using e2
      have e1 : (x :: freeNames sc.names)[j + 1]? = some y := e1
      have e1 : (freeNames sc.names)[j]? = some y := by simpa using e1
      unfold kvs at e2
      rw [List.getElem?_map] at e2
      cases ek : keep[j]? with
      | none => rw [ek] at e2; cases e2
      | some i =>
        rw [ek] at e2
        have e2 : (σ[i]?).bind id = some v := by simpa using e2
        have e3 : σ[i]? = some (some v) := by
          cases q : σ[i]? with
          | none => rw [q] at e2; cases e2
          | some z => rw [q] at e2; simpa using e2
        obtain ⟨y', ey, hy⟩ := vget j i ek
        rw [e1] at ey
        cases ey
        obtain ⟨n1, n2, _⟩ := var_ok O hy
        obtain ⟨m0, hm0, look⟩ := I.loc
        obtain ⟨u, ru, lu⟩ := look i y v n1 e3 n2
        have hm := free_mem (List.mem_of_getElem? e1)
        refine ⟨u, ru, .inr ⟨free_kind O hk Q hm, ?_⟩⟩
        obtain ⟨c, c1, c2⟩ := clo_of I O Q hm
        refine ⟨c, c2, ?_⟩
        rcases lu with ⟨kl, _⟩ | ⟨_, c', c3, c4⟩
        · have kl : X.env.scope.names.lookup y = some .local := kl
          rw [lookupEq O] at kl
          rcases Q.fr _ hm rfl with h | h
          · rw [kl] at h; cases h
          · rw [kl] at h; cases h
        · rw [c1] at c3
          cases c3
          exact c4.keeps k4
  · obtain ⟨v, hv⟩ := I.cell y c (clo_some I O Q e).2
    exact ⟨v, hv.keeps k4⟩
  · have hp : p = (s2.heap.objs.size, ob) := by simpa [compCx] using hp
    subst hp
    refine ⟨hacc, I.hok.fresh (Nat.le_refl _), Nat.ne_of_lt (Nat.lt_succ_self _), fun hb => Nat.lt_irrefl _ (stk _ hb), hob⟩
  · show (none :: kvs σ keep).length = (x :: freeNames sc.names).length
    simp [kvs, vlen]
theorem ctx_comp (I : Inv X pins σ H2 s2) (O : CtxOk X C G k) (Q : CompOk C x sc) (Cc : Addr) : CtxOk (cX' X x sc Cc s2 H2 fp xe) { C with N := x :: freeNames sc.names, nm := reNames C sc.names } G k where
  N := rfl
  nm := reNames_eq O I.ok.kind sc
  nd := by
    show (x :: freeNames sc.names).Nodup
    rw [List.nodup_cons]
    refine ⟨fun h => ?_, nodup_free Q.nd⟩
    have := lookup_mem Q.nd (free_mem h)
    rw [Q.loc] at this
    cases this
  calm := O.calm
  room := O.room
  ct := O.ct
  fs := fun i y f h1 h2 => ⟨(O.fs i y f h1 h2).ex⟩
  bl := O.bl
  gl := O.gl
  fa := O.fa
end
def HandAt (A : Around) (h : Heap) : Prop := A.handled = none ∨ ∃ x ob vs, A.handled = some (.ref x) ∧ h.get? x = some ob ∧ ob.data = .fields vs ∧ vs[2]? = some .none
theorem entry_unchain : entryFor table "proto.unchain" = some Builtin.«proto.unchain» := entryFor_of_tree (by kernel_rfl)
theorem plain_unchain : plainId "proto.unchain" = true := by decide +kernel
section
variable {prog : Program} {w : World} {A : Around} {E : Value → Shared → Prop} {s : Shared}
theorem raiseNew_hand {α : Type} {e : Addr} {oe : Obj} {ve : Array Value} {Q : α → Shared → Prop} (hh : HandAt A s.heap) (he : s.heap.get? e = some oe) (de : oe.data = .fields ve) (hs : 2 < ve.size)
    (k : ∀ h', (∀ b o, b ≠ e → s.heap.get? b = some o → h'.get? b = some o) → (∃ oe', h'.get? e = some oe' ∧ oe'.cls = oe.cls) → E (.ref e) { s with heap := h' }) : wpAny (model prog w) A (raiseNew (α := α) (.ref e)) Q E s := by
  unfold raiseNew
  refine wpAny_bind (wpAny_handled ?_)
  rcases hh with hh | ⟨x, ob, vs, hh, ex, dx, c2⟩
  · rw [hh]
    exact wpAny_bind (wpAny_pure (wpAny_throw (k _ (fun b o _ q => q) ⟨oe, he, rfl⟩)))
  · rw [hh]
    dsimp only
    by_cases hxe : x = e
    · subst hxe
      rw [if_neg (by simp)]
      exact wpAny_bind (wpAny_pure (wpAny_throw (k _ (fun b o _ q => q) ⟨oe, he, rfl⟩)))
    · rw [if_pos (by simp [hxe])]
      refine wpAny_bind (wpAny_holding (wpAny_runValue (codeAny_builtin entry_unchain ?_)))
      rw [Around.under_plainId plain_unchain _]
      unfold Builtin.«proto.unchain»
      show wpAny _ _ (field (.ref x) 2 >>= _) _ _ s
      refine wpAny_bind (wpAny_field ex dx c2 ?_)
      show wpAny _ _ (if (Value.none == Value.none) = true then _ else _) _ _ s
      rw [if_pos (show (Value.none == Value.none) = true by decide)]
      refine wpAny_pure ?_
      show wpAny _ _ (setField (.ref e) 2 (.ref x) >>= _) _ _ s
      refine wpAny_bind (wpAny_setField he de hs ?_)
      exact wpAny_throw (k _ (fun b o nb q => (Heap.get?_update_other _ _ (Ne.symm nb)).trans q) ⟨_, Heap.get?_update_self _ he (Obj.isFreed_of_fields (Obj.data_mapFields de _)), Obj.cls_mapFields _ _⟩)
theorem next_list_end {it l : Addr} {i : Nat} {items : Array Value} {Q : Option Value → Shared → Prop} (hh : HandAt A s.heap) (hit : s.heap.IsListIter it l i) (hl : s.heap.IsList l items) (hx : items[i]? = none) (hd : ∀ x, A.handled = some (.ref x) → x ≠ it)
    (hQ : ∀ h', (∀ b o, b ≠ it → s.heap.get? b = some o → h'.get? b = some o) → Q none { s with heap := h' }) : wpAny (model prog w) A (pyNext (.ref it)) Q E s := by
  obtain ⟨o, ho, hc, hdt⟩ := id hit
  obtain ⟨ol, hol, _, nl, hdl⟩ := hl
  unfold pyNext
  refine wpAny_bind (wpAny_attempt (wpAny_callSpecial?_slot (name := Str.ofString "__next__") hit.typeIs slot_listiter_next (wpAny_call_entry slot_listiter_next hit.typeIs entry_listiter_next ?_ (args_listiter_next _))))
  (show wpAny _ _ (field (.ref it) 0 >>= _) _ _ s); refine wpAny_bind (wpAny_field ho hdt (x := .ref l) rfl ?_)
  (show wpAny _ _ (if (Value.ref l == Value.none) = true then _ else _) _ _ s); rw [if_neg (show ¬ ((Value.ref l == Value.none) = true) by simp)]
  (show wpAny _ _ (field (.ref it) 1 >>= _) _ _ s); refine wpAny_bind (wpAny_field ho hdt (x := .int i 0) rfl ?_)
  (show wpAny _ _ (seqItems? (.ref l) >>= _) _ _ s); refine wpAny_bind (wpAny_seqItems hol hdl ?_); simp only [Int.toNat_natCast, hx]
  refine wpAny_bind (wpAny_rule (wpAny_bind (wpAny_setField ho hdt (by simp) ?_)))
  generalize hg1 : s.heap.update it _ = g1
  have k1 : ∀ b o, b ≠ it → s.heap.get? b = some o → g1.get? b = some o := fun b o nb q => by rw [← hg1]; exact (Heap.get?_update_other _ _ (Ne.symm nb)).trans q
  (show wpAny _ _ (newExc (.type "StopIteration") [] >>= _) _ _ _); refine wpAny_bind ?_; simp only [newExc, newTuple]
  refine wpAny_bind (wpAny_newObj_type ?_ (by size_fits)); refine wpAny_bind (m := firstArgMember _ _) (wpAny_of_eq (a := Value.none) (by first | rfl | (simp only [firstArgMember]; rfl)) ?_)
  refine wpAny_newObj_type ?_ (by size_fits); refine raiseNew_hand ?_ (Heap.get?_push_size _ rfl) rfl (by simp; omega) fun h' kp ⟨oe', e1, e2⟩ => ?_
  · rcases hh with hh | ⟨x, ob, vs, hh, ex, dx, c2⟩
    · exact .inl hh
    · exact .inr ⟨x, ob, vs, hh, Heap.get?_push_of_some _ (Heap.get?_push_of_some _ (k1 x ob (hd x hh) ex)), dx, c2⟩
  · refine wpAny_bind (wpAny_isInstance (T := "StopIteration") (b := true) ⟨_, e1, e2⟩ isSubtype_stop ?_)
    refine wpAny_pure (hQ _ fun b o nb q => ?_)
    have q1 := Heap.get?_push_of_some { cls := .type "tuple", data := .seq ([] : List Value).toArray } (k1 b o nb q)
    exact kp b o (Nat.ne_of_lt (Heap.lt_size q1)) (Heap.get?_push_of_some _ q1)
end
noncomputable abbrev lobj (its : List Value) (n : Nat) : Obj := { cls := .type "list", data := .seq its.toArray n }
noncomputable def turnF (G : List Den) (pe : PX) (cond : Option PB) (keep : List Nat) (ρ : Ev) (d : D) (h : AH) : Option (Option D × AH) := match cond with
  | none => (ev G pe (some d :: keep.map (getV ρ)) h).bind fun q => some (some q.1, q.2)
  | some c => (evB G c (some d :: keep.map (getV ρ)) h).bind fun q => if q.1 = true then (ev G pe (some d :: keep.map (getV ρ)) q.2).bind fun r => some (some r.1, r.2) else some (none, q.2)
section
variable {X : Cx} {C : CC} {G : List Den} {k : Nat} {pins : List (Addr × Obj)} {σ : St} {H2 : Hp} {s2 : Shared} {x : Str} {sc : Scope} {keep : List Nat} {fp : List Addr}
noncomputable abbrev C' (C : CC) (x : Str) (sc : Scope) : CC := { C with N := x :: freeNames sc.names, nm := reNames C sc.names }
theorem kvs_env {K : PySem.W.Frag} {H : Hp} {th : Th} {ρ : Ev} (en : EnvR K H th ρ σ) (z : Option D) (y : Option V) (hz : ∀ d, z = some d → ∃ v, y = some v ∧ RepV K H th d v) : EnvR K H th (z :: keep.map (getV ρ)) (y :: kvs σ keep) := by
  refine ⟨by simp [kvs], fun i d e => ?_⟩
  cases i with
  | zero =>
    have e : z = some d := by simpa [getV] using e
    obtain ⟨v, e1, r⟩ := hz d e
    exact ⟨v, by simp [e1], r⟩
  | succ j =>
    unfold getV at e
    rw [List.getElem?_cons_succ, List.getElem?_map] at e
    cases ek : keep[j]? with
    | none => rw [ek] at e; cases e
    | some i =>
      rw [ek] at e
      have e : getV ρ i = some d := by simpa [getV] using e
      obtain ⟨v, e1, r⟩ := en.val i d e
      refine ⟨v, ?_, r⟩
      rw [List.getElem?_cons_succ]
      unfold kvs
      rw [List.getElem?_map, ek]
      simp [e1]
theorem comp_loop {elt iter : Expr} {ifs : List Expr} {px pos : Pos} {J : It} {it : Addr} {tn : Nat → Heap → Prop} {ds out : List D} {th2 : Th} {h2 h5 : AH} {ρ : Ev} {pe : PX} {cond : Option PB} {s4 : Shared} {R : Result → Shared → Prop} {Cc acc : Addr}
    (O : CtxOk X C G k) (Q : CompOk C x sc) (hCx : CtxOk (cX' X x sc Cc s2 H2 fp (notedBy (model X.prog X.w) X.A (compEnvC sc (clo X sc) Cc X.env) fun e s' => R (.error e) s')) (C' C x sc) G k)
    (T : Turn X.prog X.w X.K (.Name x px) J fp it tn) (itr : IterOf X.K H2 th2 J ds)
    (hE : ∀ X', CtxOk X' (C' C x sc) G k → PE X' elt (rdE X'.K G pe))
    (hI : (ifs = [] ∧ cond = none) ∨ ∃ c b, ifs = [c] ∧ cond = some b ∧ ∀ X', CtxOk X' (C' C x sc) G k → PT X' c (rdB X'.K G b))
    (en : EnvR X.K H2 th2 ρ σ) (w2 : Wd X.K th2 h2 H2)
    (hrun : compL (turnF G pe cond keep ρ) ds h2 = some (out, h5)) (hz : out.length ≤ SZ) (hCc : Cc ≠ acc) (hfa : acc ∉ fp)
    (I4 : Inv (cX' X x sc Cc s2 H2 fp (notedBy (model X.prog X.w) X.A (compEnvC sc (clo X sc) Cc X.env) fun e s' => R (.error e) s')) [(acc, lobj [] 0)] (none :: kvs σ keep) H2 s4)
    (t0 : tn 0 s4.heap) (hfr : ∀ b ∈ fp, H2 b = none) (ha2 : s2.heap.objs.size ≤ acc) (hac : ∀ y c, (clo X sc).lookup y = some c → c ≠ acc)
    (fin : ∀ s' H' th' its n vs xv, Inv (cX' X x sc Cc s2 H2 fp (notedBy (model X.prog X.w) X.A (compEnvC sc (clo X sc) Cc X.env) fun e s' => R (.error e) s')) [(acc, lobj its n)] (xv :: kvs σ keep) H' s' →
      Vals vs its → RepVs X.K H' th' out vs → Wd X.K th' h5 H' → Gr th2 th' H2 H' → R (.ok .next) s') :
    codeAny (model X.prog X.w) X.A (.compLoop (.ListComp elt [⟨.Name x px, iter, ifs, 0⟩] sc pos) 0 (.ref it) (.ref acc) (compEnvC sc (clo X sc) Cc X.env)) R s4 := by
  generalize hxe : (notedBy (model X.prog X.w) X.A (compEnvC sc (clo X sc) Cc X.env) fun e s' => R (.error e) s') = xe at hCx I4 fin
  generalize hX' : cX' X x sc Cc s2 H2 fp xe = X' at hCx I4 fin
  have p1 : X'.prog = X.prog := by rw [← hX']; rfl
  have p2 : X'.w = X.w := by rw [← hX']; rfl
  have p3 : X'.K = X.K := by rw [← hX']; rfl
  have p4 : X'.A = X.A := by rw [← hX']; rfl
  have p5 : X'.env = compEnvC sc (clo X sc) Cc X.env := by rw [← hX']; rfl
  have p6 : X'.xe = xe := by rw [← hX']; rfl
  have p7 : X'.ex = fp := by rw [← hX']; rfl
  have p8 : X'.pn = [] := by rw [← hX']; rfl
  have p9 : X'.s₀ = s2 := by rw [← hX']; rfl
  have nd' : X'.N.Nodup := by rw [hCx.N]; exact hCx.nd
  have n0 : X'.N[0]? = some x := by rw [hCx.N]; rfl
  have okX := I4.ok
  have fpok : ∀ {H : Hp} {ps : List (Addr × Obj)}, (∀ b ∈ fp, H b = none) → (∀ p ∈ ps, p.1 ∉ fp) → ∀ b ∈ fp, FpOk X' ps H b := fun hn hp b hb => by
    have hb' : b ∈ X'.ex := by rw [p7]; exact hb
    obtain ⟨e1, e2⟩ := okX.exf b hb'
    refine ⟨hn b hb, e1, okX.exfs b hb', .inl hb', e2, fun p h e => ?_⟩
    rw [p8] at h
    exact hp p (by simpa using h) (e ▸ hb)
  obtain ⟨L, hL⟩ : ∃ L : Nat → Shared → Prop, ∀ n s, L n s ↔ ∃ i H th h its ep vs acc0 xv rest, n = ds.length - i ∧ i ≤ ds.length ∧ Inv X' [(acc, lobj its ep)] (xv :: kvs σ keep) H s ∧ tn i s.heap ∧ (∀ b ∈ fp, H b = none) ∧
    Wd X.K th h H ∧ Gr th2 th H2 H ∧ Vals vs its ∧ RepVs X.K H th acc0 vs ∧ compL (turnF G pe cond keep ρ) (ds.drop i) h = some (rest, h5) ∧ out = acc0 ++ rest := ⟨_, fun _ _ => Iff.rfl⟩
  refine codeAny_compLoop_go L ?_ ds.length
    ((hL _ _).mpr ⟨0, H2, th2, h2, [], 0, [], [], none, out, rfl, Nat.zero_le _, I4, t0, hfr, w2, Gr.refl _ _, .nil, .nil, by rw [List.drop_zero]; exact hrun, rfl⟩)
  intro n s hn
  obtain ⟨i, H, th, h, its, ep, vs, acc0, xv, rest, rfl, hi, I, st, fr, w, g, rv, ra, hrest, hout⟩ := (hL _ _).mp hn
  obtain ⟨stepA, stepB⟩ := iter_step itr g w.kd i
  have pn1 : ∀ p ∈ [(acc, lobj its ep)], p.1 ∉ fp := fun p hp => by have e : p = (acc, lobj its ep) := by simpa using hp
                                                                    rw [e]; exact hfa
  rw [hxe]
  by_cases hlt : i < ds.length
  · -- a turn
    have hd : ds[i]? = some ds[i] := List.getElem?_eq_getElem hlt
    have hdr : ds.drop i = ds[i] :: ds.drop (i + 1) := List.drop_eq_getElem_cons hlt
    generalize ds[i] = d at hd hdr
    rw [hdr] at hrest
    unfold compL at hrest
    obtain ⟨⟨od, h7⟩, f1, hrest⟩ := Option.bind_eq_some_iff.mp hrest
    obtain ⟨⟨rest', h8⟩, f2, hrest⟩ := Option.bind_eq_some_iff.mp hrest
    have er : rest = putO od rest' := by cases hrest; rfl
    have e8 : h5 = h8 := by cases hrest; rfl
    subst er e8
    obtain ⟨go, yl⟩ := stepA d hd
    have item := T.item X' p1 p2 p3 hCx.calm i _ s _ H xe I (fpok fr pn1) st go
    rw [p4] at item
    refine thn item fun r s1 ⟨u, hr, h1⟩ => ?_
    subst hr
    refine thn h1 fun _ s5 ⟨xval, H5, I5, r5, y5, st5, fr5⟩ => ?_
    obtain ⟨rfl, rx⟩ := yl xval H5 y5
    have I5' := I5.pinned (fpok fr5 pn1) (T.obj _ _ st5)
    have asg := pg_name (X := X') (pos := px) nd' n0 (.inl (by rw [p5]; exact lookup_relabel_local Q.loc)) (.inr (by rw [p5]; exact lookup_relabel_local Q.loc)) _ s5 _ H5 xval u
      (fun σ' H' => σ' = (some xval :: kvs σ keep) ∧ H' = H5) I5' r5 ⟨rfl, rfl⟩
    rw [p1, p2, p4, p5, p6] at asg
    refine thn asg fun _ s6 ⟨σ6, H6, I6, e6, e6'⟩ => ?_
    subst e6 e6'
    have en6 : EnvR X.K H6 th (some d :: keep.map (getV ρ)) (some xval :: kvs σ keep) := kvs_env (en.mono g w.kd) (some d) (some xval) fun d' e => by cases e; exact ⟨xval, rfl, rx⟩
    -- what is done behind the tests
    have keepTn : ∀ {s9 : Shared} {σ9 : St} {H9 : Hp}, Inv X' ([(acc, lobj its ep)] ++ pinsAt fp s5.heap) σ9 H9 s9 → tn (i + 1) s9.heap ∧ (∀ b ∈ fp, H9 b = none) ∧ s9.heap.get? acc = some (lobj its ep) ∧ H9 acc = none := fun I9 => by
      refine ⟨T.keep _ _ _ st5 fun b hb o e => (I9.pin (b, o) (List.mem_append_right _ (List.mem_append_right _ (mem_pinsAt hb e)))).1, fun b hb => ?_, ?_, ?_⟩
      · obtain ⟨o, e, _⟩ := T.obj _ _ st5 b hb
        exact (I9.pin (b, o) (List.mem_append_right _ (List.mem_append_right _ (mem_pinsAt hb e)))).2.1
      · exact (I9.pin (acc, lobj its ep) (List.mem_append_right _ (List.mem_append_left _ List.mem_cons_self))).1
      · exact (I9.pin (acc, lobj its ep) (List.mem_append_right _ (List.mem_append_left _ List.mem_cons_self))).2.1
    have lenV := ra.length
    have lenI := rv.length
    -- the element is put in
    have emit : ∀ (h6 : AH) (s7 : Shared) (H7 : Hp) (th7 : Th) (de : D), Inv X' ([(acc, lobj its ep)] ++ pinsAt fp s5.heap) (some xval :: kvs σ keep) H7 s7 → Wd X.K th7 h6 H7 → Gr th th7 H6 H7 → ev G pe (some d :: keep.map (getV ρ)) h6 = some (de, h7) → od = some de →
        wpAny (model X.prog X.w) X.A (eval elt (compEnvC sc (clo X sc) Cc X.env)) (fun y s₄ => wpAny (model X.prog X.w) X.A (call (.builtin "list.append") [.ref acc, y]) (fun _ s₅ => ∃ m, m < ds.length - i ∧ L m s₅) xe s₄) xe s7 := by
      intro h6 s7 H7 th7 de I7 w7 g7 e7 eo
      have run := hE X' hCx _ s7 _ H7 (fun v H' => ∃ th', RepV X.K H' th' de v ∧ Wd X.K th' h7 H' ∧ Gr th7 th' H7 H') I7
        ⟨th7, _, h6, de, h7, by rw [p3]; exact w7, by rw [p3]; exact en6.mono g7 w7.kd, e7, fun v H' th' r w' g' => ⟨th', by rw [p3] at r; exact r, by rw [p3] at w'; exact w', g'⟩⟩
      rw [p1, p2, p4, p5, p6] at run
      refine thn run fun y s8 ⟨v, H8, I8, rv8, th8, r8, w8, g8⟩ => ?_
      obtain ⟨tn8, fr8, e8, n8⟩ := keepTn I8
      have hsz : its.toArray.size < sizeLine := by
        rw [List.size_toArray, SZ_eq, ← lenI, ← lenV]
        have : out.length = acc0.length + (rest'.length + 1) := by rw [hout, eo]; simp [putO]
        show acc0.length < 16777216
        have : out.length ≤ 16777216 := hz
        omega
      refine call_meets F.slot_list_append ⟨_, e8, rfl⟩ F.entry_list_append (F.args_list_append_2 _ _) (PySem.list_append acc its.toArray ep y (by omega)) ⟨e8, ?_⟩
      have q := PySem.IsL.update e8 (fun a => a.push y)
      have ea : its.toArray.push y = (its ++ [y]).toArray := by simp
      rw [ea] at q
      obtain ⟨ep', q⟩ : ∃ n', (s8.heap.update acc (Obj.mapSeq fun a => a.push y)).get? acc = some (lobj (its ++ [y]) n') := ⟨_, q⟩
      have I8b : Inv X' (pinsAt fp s5.heap) (some xval :: kvs σ keep) H8 s8 := I8.pins_of fun p hp => I8.pin p (List.mem_append_right _ (List.mem_append_right _ hp))
      have I9 : Inv X' (pinsAt fp s5.heap) (some xval :: kvs σ keep) H8 { s8 with heap := s8.heap.update acc (Obj.mapSeq fun a => a.push y) } := by
        refine I8b.turned (t' := s8.toks) (it := acc) (fun b o hb e => (Heap.get?_update_other s8.heap _ (Ne.symm hb)).trans e) n8 (by rw [p5]; exact Ne.symm hCc) (.inr (by rw [p9]; exact ha2)) (by rw [p5]; exact hac) fun p hp e => ?_
        rw [p8] at hp
        exact hfa (e ▸ (of_pinsAt (by simpa using hp)).1)
      have accP := I8.pin (acc, lobj its ep) (List.mem_append_right _ (List.mem_append_left _ List.mem_cons_self))
      have I10 : Inv X' [(acc, lobj (its ++ [y]) ep')] (some xval :: kvs σ keep) H8 { s8 with heap := s8.heap.update acc (Obj.mapSeq fun a => a.push y) } := I9.pins_of fun p hp => by
        have e : p = (acc, lobj (its ++ [y]) ep') := by simpa using hp
        subst e
        exact ⟨q, n8, accP.2.2.1, accP.2.2.2.1, fun v z => nomatch z⟩
      refine ⟨ds.length - (i + 1), by omega, (hL _ _).mpr ⟨i + 1, H8, th8, h7, its ++ [y], _, vs ++ [v], acc0 ++ [de], some xval, rest', rfl, hlt, I10, ?_, fr8, w8, (g.trans g7).trans g8, rv.append (.cons rv8 .nil), ?_, f2, by rw [hout, eo]; simp [putO]⟩⟩
      · exact T.keep _ _ _ tn8 fun b hb o e => (Heap.get?_update_other s8.heap _ (show acc ≠ b from fun z => hfa (by rw [z]; exact hb))).trans e
      · exact ((ra.mono g7 w7.kd).mono g8 w8.kd).append (.cons r8 .nil)
    -- the tests
    rcases hI with ⟨rfl, rfl⟩ | ⟨c, b, rfl, rfl, hT⟩
    · refine wpAny_tests_nil ?_
      rw [if_pos rfl]
      unfold turnF at f1
      obtain ⟨⟨de, h7'⟩, f3, f4⟩ := Option.bind_eq_some_iff.mp f1
      cases f4
      exact emit h s6 H6 th de I6 w (Gr.refl _ _) f3 rfl
    · unfold turnF at f1
      obtain ⟨⟨t, h6⟩, f3, f4⟩ := Option.bind_eq_some_iff.mp f1
      have run := hT X' hCx _ s6 _ H6 (fun b H' => b = t ∧ ∃ th', Wd X.K th' h6 H' ∧ Gr th th' H6 H') I6
        ⟨th, _, h, t, h6, by rw [p3]; exact w, by rw [p3]; exact en6, f3, fun H' th' w' g' => ⟨rfl, th', by rw [p3] at w'; exact w', g'⟩⟩
      rw [p1, p2, p4, p5, p6] at run
      refine wpAny_tests_one (thn run fun ok s7 ⟨H7, I7, e7, th7, w7, g7⟩ => ?_)
      subst e7
      cases ok with
      | true =>
        rw [if_pos rfl]
        have f4 : ((ev G pe (some d :: keep.map (getV ρ)) h6).bind fun r => some (some r.1, r.2)) = some (od, h7) := f4
        obtain ⟨⟨de, h7'⟩, f5, f6⟩ := Option.bind_eq_some_iff.mp f4
        cases f6
        exact emit h6 s7 H7 th7 de I7 w7 g7 f5 rfl
      | false =>
        rw [if_neg Bool.false_ne_true]
        have f4 : some (none, h6) = some (od, h7) := f4
        cases f4
        obtain ⟨tn7, fr7, e7, n7⟩ := keepTn I7
        refine ⟨ds.length - (i + 1), by omega, (hL _ _).mpr ⟨i + 1, H7, th7, _, its, ep, vs, acc0, some xval, rest', rfl, hlt, I7.pins_of fun p hp => I7.pin p (List.mem_append_right _ (List.mem_append_left _ hp)), tn7, fr7, w7, g.trans g7, rv, ra.mono g7 w7.kd, f2, hout⟩⟩
  · have hle : ds.length ≤ i := Nat.le_of_not_lt hlt
    have done := T.done X' p1 p2 p3 hCx.calm i _ s _ H xe I (fpok fr pn1) st (stepB hle)
    rw [p4] at done
    refine thn done fun r s1 ⟨hr, I1⟩ => ?_
    subst hr
    have hdr : ds.drop i = [] := List.drop_eq_nil_of_le hle
    rw [hdr] at hrest
    cases hrest
    rw [List.append_nil] at hout
    subst hout
    exact fin s1 H th its ep vs xv I1 rv ra w g
end
section
variable {X : Cx} {C : CC} {G : List Den} {k : Nat} {x : Str} {sc : Scope} {keep : List Nat}
theorem comp_ev {pe : PX} {cond : Option PB} {src : PI} {ρ : Ev} {h h' : AH} {d : D} (e1 : ev G (.comp pe cond src keep) ρ h = some (d, h')) :
    ∃ ds h2 out, evI G src ρ h = some (ds, h2) ∧ compL (turnF G pe cond keep ρ) ds h2 = some (out, h') ∧ out.length ≤ SZ ∧ d = .lst out := by
  unfold ev at e1
  obtain ⟨⟨ds, h2⟩, q1, e1⟩ := Option.bind_eq_some_iff.mp e1
  obtain ⟨⟨out, h5⟩, q2, e1⟩ := Option.bind_eq_some_iff.mp e1
  split at e1
  · rename_i hz
    cases e1
    refine ⟨ds, h2, out, q1, ?_, hz, rfl⟩
    rw [← q2]
    rfl
  · cases e1
structure CompEnd (X : Cx) (pins : List (Addr × Obj)) (σ : St) (th2 : Th) (H2 : Hp) (s2 : Shared) (out : List D) (h5 : AH) (s' : Shared) : Prop where
  ex : ∃ (H' : Hp) (th' : Th) (vs : List V) (oC : Obj) (m : Str → Option Value), s'.heap.get? (s2.heap.objs.size + 1) = some oC ∧ (∀ v, oC.data ≠ .cell v) ∧ s'.heap.Ns (s2.heap.objs.size + 1) m ∧
    Inv X (pins ++ [(s2.heap.objs.size + 1, oC)]) σ (upd H' s2.heap.objs.size (.lst vs)) s' ∧ RepV X.K (upd H' s2.heap.objs.size (.lst vs)) th' (.lst out) (.ref s2.heap.objs.size) ∧ Wd X.K th' h5 (upd H' s2.heap.objs.size (.lst vs)) ∧ Gr th2 th' H2 (upd H' s2.heap.objs.size (.lst vs))
theorem comp_block {pins : List (Addr × Obj)} {σ : St} {H2 : Hp} {s2 : Shared} {elt iter : Expr} {ifs : List Expr} {px pos : Pos} {J : It} {it : Addr} {fp : List Addr} {tn : Nat → Heap → Prop} {ds out : List D} {th2 : Th} {h2 h5 : AH} {ρ : Ev} {pe : PX} {cond : Option PB} {RR : Value → Addr → Result → Shared → Prop} {E : Value → Shared → Prop}
    (I : Inv X pins σ H2 s2) (O : CtxOk X C G k) (Q : CompOk C x sc) (hv : varsOf C (freeNames sc.names) = some keep)
    (T : Turn X.prog X.w X.K (.Name x px) J fp it tn) (t0 : tn 0 s2.heap) (hf : ∀ b ∈ fp, FpOk X pins H2 b) (itr : IterOf X.K H2 th2 J ds)
    (hE : ∀ X', CtxOk X' (C' C x sc) G k → PE X' elt (rdE X'.K G pe))
    (hI : (ifs = [] ∧ cond = none) ∨ ∃ c b, ifs = [c] ∧ cond = some b ∧ ∀ X', CtxOk X' (C' C x sc) G k → PT X' c (rdB X'.K G b))
    (en : EnvR X.K H2 th2 ρ σ) (w2 : Wd X.K th2 h2 H2) (hrun : compL (turnF G pe cond keep ρ) ds h2 = some (out, h5)) (hz : out.length ≤ SZ)
    (hRR : ∀ s', CompEnd X pins σ th2 H2 s2 out h5 s' → RR (.ref s2.heap.objs.size) (s2.heap.objs.size + 1) (.ok .next) s') :
    wpAny (model X.prog X.w) X.A (newList []) (fun acc s₃ => wpAny (model X.prog X.w) X.A (newFunctionEnv sc X.env.globals (clo X sc) [] X.env.qual none .none (some X.env)) (fun cenv s₄ =>
      codeAny (model X.prog X.w) X.A (.compStart (.ListComp elt [⟨.Name x px, iter, ifs, 0⟩] sc pos) 0 (.ref it) acc { cenv with scope := relabel sc X.env }) (RR acc cenv.locals) s₄) E s₃) E s2 := by
  have hfo : ∀ b ∈ fp, ∃ o, s2.heap.get? b = some o := fun b hb => let ⟨o, e, _⟩ := T.obj _ _ t0 b hb; ⟨o, e⟩
  have fp_lt : ∀ b ∈ fp, b < s2.heap.objs.size := fun b hb => let ⟨o, e⟩ := hfo b hb; Heap.lt_size e
  refine wpAny_newObj_type (wpAny_newFunctionEnv Q.nocell (by intro y hy; simp at hy) (fun h₁ hns₁ hsb₁ => ?_) Q.kind)
  dsimp only at hns₁ hsb₁ ⊢
  have hC : (s2.heap.push { cls := .type "list", dict := none, data := .seq ([] : List Value).toArray }).objs.size = s2.heap.objs.size + 1 := by rw [Heap.size_push]
  rw [hC] at hns₁ hsb₁
  have k4 : ∀ b o, s2.heap.get? b = some o → h₁.get? b = some o := fun b o e => hsb₁.extBut b o (Nat.ne_of_lt (Nat.lt_succ_of_lt (Heap.lt_size e))) (Heap.get?_push_of_some _ (Heap.get?_push_of_some _ e))
  have hacc : h₁.get? s2.heap.objs.size = some (lobj [] 0) := hsb₁.extBut _ _ (Nat.ne_of_lt (Nat.lt_succ_self _)) (Heap.get?_push_of_some _ (Heap.get?_push_size _ rfl))
  have I4 := inv_comp (xe := notedBy (model X.prog X.w) X.A (compEnvC sc (clo X sc) (s2.heap.objs.size + 1) X.env) fun e s' => RR (.ref s2.heap.objs.size) (s2.heap.objs.size + 1) (.error e) s') (tk := s2.toks + ([] : List (Str × Value)).length) I O Q hv hf hfo k4 hacc (fun v z => nomatch z) hns₁
  have cl_lt : ∀ y c, X.env.cells.lookup y = some c → c < s2.heap.objs.size := fun y c e => let ⟨v, hv⟩ := I.cell y c e; hv.lt
  have loop := comp_loop (s4 := { s2 with heap := h₁, toks := s2.toks + ([] : List (Str × Value)).length }) (iter := iter) (pos := pos) (ifs := ifs) (px := px) (R := RR (.ref s2.heap.objs.size) (s2.heap.objs.size + 1)) (Cc := s2.heap.objs.size + 1) (acc := s2.heap.objs.size) O Q (ctx_comp I O Q _) T itr hE hI en w2 hrun hz (Nat.succ_ne_self _) (fun h => Nat.lt_irrefl _ (fp_lt _ h)) I4
    (T.keep _ _ _ t0 fun b hb o e => k4 b o e) (fun b hb => (hf b hb).1) (Nat.le_refl _) (fun y c e => Nat.ne_of_lt (cl_lt y c (clo_some I O Q e).2)) (fun s' H' th' its n vs xv I' rv ra w' g' => hRR s' ⟨?_⟩)
  · rw [hC]
    exact codeAny_compStart_list loop (T.self _ 0 _ _ _ (T.keep _ _ _ t0 fun b hb o e => k4 b o e) loop)
  · have J1 : Inv X pins σ H' s' := I.call' I'.os I'.base I'.hok I'.bare fun b hb => ⟨(hf b hb).2.2.2.1, (hf b hb).2.1, (hf b hb).2.2.2.2.1, (hf b hb).2.2.2.2.2⟩
    obtain ⟨m, hn, _⟩ := I'.loc
    obtain ⟨oC, es, epo, hoC, hdC, _⟩ := id hn
    have hpa := I'.pin (s2.heap.objs.size, lobj its n) (List.mem_append_right _ List.mem_cons_self)
    have hCn : H' (s2.heap.objs.size + 1) = none := I'.free
    have pin_lt : ∀ p ∈ X.pn ++ pins, p.1 < s2.heap.objs.size := fun p hp => Heap.lt_size (I.pin p hp).1
    have lsz : vs.length ≤ sizeLine := by rw [← ra.length, SZ_eq]; exact hz
    have J2 : Inv X pins σ (upd H' s2.heap.objs.size (.lst vs)) s' := J1.track hpa.2.1 (Ne.symm (Nat.ne_of_lt I.lt)) (.inr I.sz) (fun y c e => Nat.ne_of_lt (cl_lt y c e)) (fun p hp => Nat.ne_of_lt (pin_lt p hp)) hpa.1 rv lsz
    have hoC' : s'.heap.get? (s2.heap.objs.size + 1) = some oC := hoC
    have nocell : ∀ v, oC.data ≠ .cell v := fun v z => by rw [hdC] at z; cases z
    have J3 : Inv X (pins ++ [(s2.heap.objs.size + 1, oC)]) σ (upd H' s2.heap.objs.size (.lst vs)) s' := J2.pins_of fun p hp => by
      rcases List.mem_append.mp hp with z | z
      · exact J2.pin p (List.mem_append_right _ z)
      · have e : p = (s2.heap.objs.size + 1, oC) := by simpa using z
        subst e
        refine ⟨hoC', by rw [upd_ne (Nat.succ_ne_self _)]; exact hCn, Ne.symm (Nat.ne_of_lt (Nat.lt_succ_of_lt I.lt)), fun hb => ?_, nocell⟩
        exact I.nofs (Nat.le_succ _) hb
    have gl := Gr.laid (H := H') (o := .lst vs) th' hpa.2.1
    exact ⟨H', th', vs, oC, m, hoC', nocell, hn, J3, .lst (SqL.of upd_same) (w'.notin hpa.2.1) (ra.mono gl w'.kd), w'.laid hpa.2.1, g'.trans gl⟩
theorem e_comp {elt iter : Expr} {ifs : List Expr} {px pos : Pos} {pe : PX} {cond : Option PB} {src : PI} (O : CtxOk X C G k) (Q : CompOk C x sc) (hv : varsOf C (freeNames sc.names) = some keep)
    (hi : L2.PI X (.Name x px) iter (rdI X.K G src)) (hE : ∀ X', CtxOk X' (C' C x sc) G k → PE X' elt (rdE X'.K G pe))
    (hI : (ifs = [] ∧ cond = none) ∨ ∃ c b, ifs = [c] ∧ cond = some b ∧ ∀ X', CtxOk X' (C' C x sc) G k → PT X' c (rdB X'.K G b)) (hs : ∀ v, foldedSetIterable iter X.env v = pure v) :
    PE X (.ListComp elt [⟨.Name x px, iter, ifs, 0⟩] sc pos) (rdE X.K G (.comp pe cond src keep)) := by
  intro pins s σ H Qv I hq
  obtain ⟨th, ρ, h, d, h', w, en, e1, kk⟩ := hq
  obtain ⟨ds, h2, out, q1, q2, hz, rfl⟩ := comp_ev e1
  rw [eval_ListComp]
  refine wpAny_comprehension_free (use := none) rfl hs (closureFor_eq (cells_free I O Q)) Q.kind Q.locs ?_
  refine thn (hi pins s σ H (fun J H' => ∃ th2, IterOf X.K H' th2 J ds ∧ Wd X.K th2 h2 H' ∧ Gr th th2 H H') I ⟨th, ρ, h, ds, h2, w, en, q1, fun J H' th' i w' g => ⟨th', i, w', g⟩⟩) fun v s1 h1 => ?_
  refine thn h1 fun itv s2 ⟨it, fp, tn, J, H2, e, I2, T, t0, hf, th2, itr, w2, g2⟩ => ?_
  subst e
  refine comp_block (RR := fun acc Cc => compPost (model X.prog X.w) X.A X.xe none (EP X pins σ Qv) acc Cc) I2 O Q hv T t0 hf itr hE hI (en.mono g2 w2.kd) w2 q2 hz fun s' ⟨H', th', vs, oC, m, hoC, nc, hn, J3, r, w', g'⟩ => ?_
  refine ⟨m, hn, fun h'' hs'' => ?_⟩
  have J4 : Inv X pins σ (upd H' s2.heap.objs.size (.lst vs)) { s' with heap := h'' } := by
    have pc := J3.pin (s2.heap.objs.size + 1, oC) (List.mem_append_right _ (List.mem_append_right _ (by simp)))
    refine (J3.unpinned).turned (t' := s'.toks) (it := s2.heap.objs.size + 1) (fun b o hb e => hs''.extBut b o hb e) pc.2.1 pc.2.2.1 (.inr (Nat.le_trans I2.sz (Nat.le_succ _))) (fun y c e => ?_) fun p hp => ?_
    · obtain ⟨v, hv⟩ := I2.cell y c e
      exact Nat.ne_of_lt (Nat.lt_succ_of_lt hv.lt)
    · exact Nat.ne_of_lt (Nat.lt_succ_of_lt (Heap.lt_size (I2.pin p hp).1))
  exact ⟨.ref s2.heap.objs.size, _, J4, rfl, kk _ _ th' r w' (g2.trans g')⟩
end
section
variable {X : Cx} {C : CC} {G : List Den} {k : Nat} {EX : Nat → Hp → Prop} {x : Str} {sc : Scope} {keep : List Nat}
end
inductive F2' {α β : Type} (R : α → β → Prop) : List α → List β → Prop
  | nil : F2' R [] []
  | cons {a : α} {b : β} {as : List α} {bs : List β} : R a b → F2' R as bs → F2' R (a :: as) (b :: bs)
section
variable {X : Cx} {C : CC} {G : List Den} {k : Nat} {EX : Nat → Hp → Prop}
theorem e_fn {x : Str} {pos : Pos} (O : CtxOk X C G k) (hg : C.isGl x = true) (h : C.fs.contains x = true) : PE X (.Name x pos) (rdE X.K G (.con (.fn x))) := by
  obtain ⟨g, pl⟩ := isGl_ok O hg
  obtain ⟨h4, h5, _⟩ := plain_debug pl
  obtain ⟨a, ha⟩ := O.fa x h
  refine (pe_glob (v := .ref a) g (O.gl x a ha) rfl h4).imp fun σ H Q ⟨th, ρ, ah, d', h', w, e, q, kk⟩ => ?_
  cases q
  exact kk _ H th (.fn ha) w (Gr.refl _ _)
theorem r_callV {x : Str} {i : Nat} {e : Expr} {es : List Expr} {ps : List PX} {p pos : Pos} (O : CtxOk X C G k) (xc : XC X (toE X.mg EX)) (hx : C.var x = some i) (ha : PA X (e :: es) (rdA X.K G ps))
    (he : starEach (e :: es) X.env = (false, eval e X.env) :: starEach es X.env) (hpl : (backTo pos (starEach es X.env)).any (·.1) = false) :
    PE X (.Call (.Name x p) (e :: es) [] pos) (rdR X.K G EX (.callV i C.fs ps)) := by
  obtain ⟨n1, n2, n3⟩ := var_ok O hx
  obtain ⟨h4, h5, _⟩ := plain_debug n3
  intro pins s σ H Q I hq
  obtain ⟨th, ρ, h, w, en, e1⟩ := hq
  unfold evR at e1
  dsimp only at e1
  cases g1 : getV ρ i with
  | none => rw [g1] at e1; exact e1.elim
  | some d =>
    rw [g1] at e1
    cases d with
    | fn y =>
      dsimp only at e1
      obtain ⟨v, ev1, rv⟩ := en.val i _ g1
      cases rv with
      | @fn _ a ey =>
        cases q1 : evs G ps ρ h with
        | none => rw [q1] at e1; exact e1.elim
        | some dd =>
          obtain ⟨ds, h1⟩ := dd
          rw [q1] at e1
          dsimp only at e1
          cases q2 : C.fs.findIdx? (· == y) with
          | none => rw [q2] at e1; exact e1.elim
          | some n =>
            rw [q2] at e1
            dsimp only at e1
            cases q3 : G[n]? with
            | none => rw [q3] at e1; exact e1.elim
            | some f =>
              rw [q3] at e1
              dsimp only at e1
              obtain ⟨fa, fd, pn, hm, hk, F, hb, ar⟩ := (O.fs n y f (findIdx_get q2) q3).ex
              have em := O.gl y a ey
              rw [hm] at em
              cases em
              refine wpAny_Call_Name_kw (thn (pe_var (pos := p) n1 n2 h4 h5 pins s σ H (fun v' H' => v' = .ref a ∧ H' = H) I ⟨_, ev1, rfl, rfl⟩) fun u s1 ⟨v', H', I1, rv', ev', eh⟩ => ?_)
              subst ev' eh
              cases rv'
              refine PySem.W.callWith_K (h₀ := X.base) I.ok.mod.kin hk (thn (ha pos pins s1 σ H' (fun vs H1 => ∃ th1, RepVs X.K H1 th1 ds vs ∧ Wd X.K th1 h1 H1 ∧ Gr th th1 H' H1) I1 ⟨th, ρ, h, ds, h1, w, en, q1, fun vs H1 th1 r1 w1 g1 => ⟨th1, r1, w1, g1⟩⟩) fun us s2 ⟨vs, H1, I2, r, th1, r1, w1, gr1⟩ => ⟨I2.kIn, ?_⟩) he hpl
              refine run_fn (E := toE X.mg EX) (dvs := []) (ds := []) F O.room hb .nil xc I2 r ?_
              rw [List.append_nil]
              cases ef : f ds h1 with
              | bad => rw [ef] at e1; exact e1.elim
              | ok d2 h2 =>
                rw [ef] at e1
                refine ⟨by rw [← r1.length]; exact ar _ _ (by rw [ef]; intro z; cases z), th1, h1, ds, w1, r1, ?_⟩
                rw [ef]
                exact fun v H' th' r w' g' => e1 v H' th' r w' (gr1.trans g')
              | exc c h2 =>
                rw [ef] at e1
                refine ⟨by rw [← r1.length]; exact ar _ _ (by rw [ef]; intro z; cases z), th1, h1, ds, w1, r1, ?_⟩
                rw [ef]
                exact fun H' th' w' g' => ⟨c, rfl, e1 H' th' w' (gr1.trans g')⟩
    | _ => exact e1.elim
theorem r_of {e : Expr} {p : PX} (h : PE X e (rdE X.K G p)) (h1 : ∀ i ps, p ≠ .call i ps) (h2 : ∀ i fs ps, p ≠ .callV i fs ps) : PE X e (rdR X.K G EX p) := by
  refine h.imp fun σ H Q ⟨th, ρ, h, w, en, e1⟩ => ?_
  have ee : evR G p ρ h = (match ev G p ρ h with | some p => .ok p.1 p.2 | none => .bad) := by
    unfold evR
    split
    · exact absurd rfl (h1 _ _)
    · exact absurd rfl (h2 _ _ _)
    · rfl
  rw [ee] at e1
  cases q : ev G p ρ h with
  | none => rw [q] at e1; exact e1.elim
  | some d => rw [q] at e1; exact ⟨th, ρ, h, d.1, d.2, w, en, q, e1⟩
theorem evs_len {G : List Den} : ∀ {ps : List PX} {ρ : Ev} {h h' : AH} {ds : List D}, evs G ps ρ h = some (ds, h') → ds.length = ps.length
  | [], ρ, h, h', ds, e => by unfold evs at e; cases e; rfl
  | p :: ps, ρ, h, h', ds, e => by
    unfold evs at e
    obtain ⟨⟨d1, h1⟩, q1, e⟩ := Option.bind_eq_some_iff.mp e
    obtain ⟨⟨d2, h2⟩, q2, e⟩ := Option.bind_eq_some_iff.mp e
    cases e
    simp [evs_len q2]
theorem s_rai {x : Str} {c : Nat} {e : Expr} {es : List Expr} {ps : List PX} {np cpos pos : Pos} (S : CtxS X C G k EX) (hg : C.isGl x = true) (hc : errs.findIdx? (· == x) = some c) (her : C.er.contains c = true) (hl : ps.length ≤ 20) (ha : PA X (e :: es) (rdA X.K G ps))
    (he : starEach (e :: es) X.env = (false, eval e X.env) :: starEach es X.env) (hpl : (backTo cpos (starEach es X.env)).any (·.1) = false) :
    PS X (.Raise (some (.Call (.Name x np) (e :: es) [] cpos)) none pos) (rdS X.K G EX (.rai c ps)) := by
  have O := S.ok
  obtain ⟨g, pl⟩ := isGl_ok O hg
  obtain ⟨h4, h5, _⟩ := plain_debug pl
  obtain ⟨x', Ca, bm, nid, B, iid, hx', OC, FB⟩ := S.er c her
  have ex : x' = x := by
    have := findIdx_get hc
    rw [hx'] at this
    exact Option.some.inj this
  subst ex
  intro pins s σ H D0 I hq
  obtain ⟨th, ρ, h, w, en, qq⟩ := hq
  unfold exS at qq
  cases q1 : evs G ps ρ h with
  | none => rw [q1] at qq; exact qq.elim
  | some dd =>
    obtain ⟨ds, h1⟩ := dd
    rw [q1] at qq
    have qq : ∀ H' th', Wd X.K th' h1 H' → Gr th th' H H' → EX c H' := qq
    have ecv : ecV X.mg c = .ref Ca := by
      unfold ecV
      rw [hx']
      show (X.mg x').getD .none = _
      rw [OC.bound]
      rfl
    obtain ⟨tl, N, nm, q, bs, hdct, sn, sub, ab, col, dd', k0, k1, k2, k3, k5, mN, hC, hN, hni, T⟩ := OC.obj
    refine wpAny_Raise_call_subT (C := Ca) (nm := nm) (q := q) (N := N) (bs := bs) (bm := tl) (hdct := hdct) (sn := sn) (sub := sub) (ab := ab) (col := col) (dd := dd') (k0 := k0) (k1 := k1) (k2 := k2) (k3 := k3) (k5 := k5)
      FB (mN := mN) (T.hasType FB.hasBase) (I.ok.hd O.calm) (by rw [he]; show (false || (backTo cpos (starEach es X.env)).any (·.1)) = false; rw [hpl]; rfl) hni (ld_glob I g OC.bound ⟨rfl, ?_⟩ h4)
    have run := ha cpos pins s σ H (fun vs H1 => ∃ th1, RepVs X.K H1 th1 ds vs ∧ Wd X.K th1 h1 H1 ∧ Gr th th1 H H1) I ⟨th, ρ, h, ds, h1, w, en, q1, fun vs H1 th1 r1 w1 g1 => ⟨th1, r1, w1, g1⟩⟩
    have run2 : wpAny (model X.prog X.w) X.A (spliced (backTo cpos (starEach (e :: es) X.env))) (fun us s2 => us.length ≤ sizeLine ∧ (∀ b o, X.base.get? b = some o → s2.heap.get? b = some o) ∧ ∀ h' e, Heap.MadeExcOf s2.heap h' e (.ref Ca) us → X.xe (.ref e) { s2 with heap := h' }) X.xe s := by
      refine thn run fun us s2 ⟨vs, H1, I2, r, th1, r1, w1, gr1⟩ => ⟨?_, I2.bk, fun h' e2 hm => ?_⟩
      · rw [← r.length, ← r1.length, evs_len q1, SZ_eq]
        show ps.length ≤ 16777216
        omega
      · rcases S.xm with z | xm
        · rw [z] at her; cases her
        · exact xm I2 hm ⟨c, ecv.symm, qq H1 th1 w1 gr1⟩
    rw [he] at run2 ⊢
    exact Calls.evalArgs_plain (wpAny_mono run2 (fun vs s₂ h₂ => ⟨rfl, h₂.1, h₂.2.1 _ _ hC, hN.keeps h₂.2.1, T.keeps h₂.2.1, h₂.2.2⟩) fun _ _ y => y)
theorem e_fst_go {pins : List (Addr × Obj)} {σ : St} {Q : Value → Shared → Prop} : ∀ {es : List Expr} {ps : List PX}, F2' (fun e p => (∃ c j pos, e = .Constant (.str c) j pos ∧ p = .con (.str c.cps.toList)) ∨ ∃ v pos, e = .FormattedValue v (-1) none pos ∧ PE X v (rdE X.K G p)) es ps →
    ∀ {s : Shared} {H : Hp} {th : Th} {ρ : Ev} {h h' : AH} {ds : List D} {t acc : List Nat}, Inv X pins σ H s → Wd X.K th h H → EnvR X.K H th ρ σ → evs G ps ρ h = some (ds, h') → fmtDs ds = some t → (acc ++ t).length ≤ SZ →
      (∀ s1 H1 th1, Inv X pins σ H1 s1 → Wd X.K th1 h' H1 → Gr th th1 H H1 → Q (.str (SS (acc ++ t)) s1.toks) { s1 with toks := s1.toks + 1 }) → wpAny (model X.prog X.w) X.A (joinParts (SS acc) (evalEach es X.env)) Q X.xe s
  | _, _, .nil, s, H, th, ρ, h, h', ds, t, acc, I, w, en, e1, e2, hz, k => by
    unfold evs at e1
    cases e1
    cases e2
    rw [List.append_nil] at k hz
    exact joinParts_nil (k s H th I w (Gr.refl _ _)) (by rw [SS_length, SZ_eq]; exact hz)
  | e :: es, p :: ps, .cons hp r, s, H, th, ρ, h, h', ds, t, acc, I, w, en, e1, e2, hz, k => by
    unfold evs at e1
    obtain ⟨⟨d1, h1⟩, q1, e1⟩ := Option.bind_eq_some_iff.mp e1
    obtain ⟨⟨d2, h2⟩, q2, e1⟩ := Option.bind_eq_some_iff.mp e1
    cases e1
    unfold fmtDs at e2
    cases f1 : fmtD d1 with
    | none => rw [f1] at e2; cases e2
    | some x =>
      cases f2 : fmtDs d2 with
      | none => rw [f1, f2] at e2; cases e2
      | some y =>
        rw [f1, f2] at e2
        cases e2
        show wpAny _ _ (joinParts (SS acc) (eval e X.env :: evalEach es X.env)) _ _ _
        refine joinParts_cons ?_
        have fin : ∀ (tk : Tok) (s1 : Shared) (H1 : Hp) (th1 : Th), Inv X pins σ H1 s1 → Wd X.K th1 h1 H1 → Gr th th1 H H1 → (SS acc ++ SS x).length ≤ sizeLine ∧ wpAny (model X.prog X.w) X.A (joinParts (SS acc ++ SS x) (evalEach es X.env)) Q X.xe s1 := fun tk s1 H1 th1 I1 w1 g1 => by
          rw [SS_append]
          refine ⟨by rw [SS_length, SZ_eq]; simp at hz ⊢; omega, ?_⟩
          refine e_fst_go r I1 w1 (en.mono g1 w1.kd) q2 f2 (acc := acc ++ x) (by simpa using hz) fun s2 H2 th2 I2 w2 g2 => ?_
          have := k s2 H2 th2 I2 w2 (g1.trans g2)
          rw [List.append_assoc]
          exact this
        rcases hp with ⟨c, j, pos, rfl, rfl⟩ | ⟨v, pos, rfl, hv⟩
        · rw [ev] at q1
          cases q1
          have f1 : (if c.cps.toList.length ≤ SZ then some c.cps.toList else none) = some x := f1
          split at f1
          · cases f1
            have ec : c = SS c.cps.toList := by cases c; simp [SS]
            refine Calls.Constant_str ?_
            dsimp only
            rw [ec]
            exact fin 0 _ H th (I.tok _) w (Gr.refl _ _)
          · cases f1
        · refine FormattedValue_plain (thn (hv pins s σ H (fun v' H' => ∃ th', RepV X.K H' th' d1 v' ∧ Wd X.K th' h1 H' ∧ Gr th th' H H') I ⟨th, ρ, h, d1, h1, w, en, q1, fun v' H' th' r' w' g' => ⟨th', r', w', g'⟩⟩) fun u s1 ⟨v', H1, I1, rv, th1, r1, w1, g1⟩ => ?_)
          cases d1 with
          | str z =>
            have f1 : (if z.length ≤ SZ then some z else none) = some x := f1
            split at f1
            · rename_i hzz
              cases f1
              cases r1
              obtain ⟨t', rfl⟩ := rv
              exact formatField_str (fun t'' tk => fin 0 _ H1 th1 (I1.tok _) w1 g1) (by rw [SS_length, SZ_eq]; exact hzz)
            · cases f1
          | int z =>
            have f1 : (if z.natAbs.log2 < 1920 then some (Str.ofString (toString z)).cps.toList else none) = some x := f1
            split at f1
            · rename_i hzz
              cases f1
              cases r1
              obtain ⟨t', rfl⟩ := rv
              refine formatField_int_small hzz ?_
              have ec : ((toString z : String) : Str) = SS (Str.ofString (toString z)).cps.toList := by
                show Str.ofString (toString z) = _
                cases Str.ofString (toString z); simp [SS]
              dsimp only
              rw [ec]
              exact fin 0 _ H1 th1 (I1.tok _) w1 g1
            · cases f1
          | _ => cases f1
theorem e_fst {v1 v2 : Expr} {rest : List Expr} {pos : Pos} {ps : List PX} (h : F2' (fun e p => (∃ c j pos, e = .Constant (.str c) j pos ∧ p = .con (.str c.cps.toList)) ∨ ∃ v pos, e = .FormattedValue v (-1) none pos ∧ PE X v (rdE X.K G p)) (v1 :: v2 :: rest) ps) :
    PE X (.JoinedStr (v1 :: v2 :: rest) pos) (rdE X.K G (.fst ps)) := by
  intro pins s σ H Q I ⟨th, ρ, ah, d, h', w, en, e1, kk⟩
  unfold ev at e1
  obtain ⟨⟨ds, h1⟩, q1, e1⟩ := Option.bind_eq_some_iff.mp e1
  obtain ⟨t, q2, e1⟩ := Option.bind_eq_some_iff.mp e1
  split at e1
  · rename_i hz
    cases e1
    refine JoinedStr_many ?_
    exact e_fst_go (acc := []) h I w en q1 q2 (by simpa using hz) fun s1 H1 th1 I1 w1 g1 => ⟨.str (SS t), H1, I1.tok _, ⟨_, rfl⟩, kk _ H1 th1 (.str _) w1 g1⟩
  · cases e1
end
theorem _root_.L2.ObjOk.some' {P : Program} {w : World} {H : Hp} {h : Heap} {a : Addr} {o : HO} (x : ObjOk P w H h a o) : h.get? a ≠ none := by
  cases o with
  | lst xs => obtain ⟨_, _, _, _, e⟩ := x; rw [e]; simp
  | tup xs => obtain ⟨_, _, _, _, e, _⟩ := x; rw [e]; simp
  | dK kvs => obtain ⟨_, _, _, _, o, _, _, e, _⟩ := x; rw [e]; simp
  | dT kvs => obtain ⟨_, _, _, _, o, _, _, e, _⟩ := x; rw [e]; simp
  | set S n => obtain ⟨o, _, _, _, e, _⟩ := x; rw [e]; simp
  | ins C dx fs => obtain ⟨_, _, _, e, _⟩ := x; rw [e]; simp
  | own y => obtain ⟨_, e⟩ := x; rw [e]; simp
  | xd fs => obtain ⟨_, ⟨_, _, _, e, _⟩, _⟩ := x; rw [e]; simp
  | rng lo hi => obtain ⟨_, _, _, e⟩ := x; rw [e]; simp
  | frz ob u => rw [x.1]; simp
  | tbl ps => have e : h.get? a = some { cls := .none, data := .fields ps } := x; rw [e]; simp
  | met f y => have e : h.get? a = some (PySem.W.methodObj (.ref f) (.ref y)) := x; rw [e]; simp
  | ext φ => obtain ⟨_, ⟨o, e⟩, _⟩ := x; rw [e]; simp
section
variable {X : Cx} {pins : List (Addr × Obj)} {σ : L2.St} {H H' : Hp} {s s' : Shared}
theorem inv_landed {ea C : Addr} {B h2 : Heap} (st : X.stack = X.env :: X.outer ∧ X.env.frame = some X.env.locals ∧ X.ex = []) (af : ∀ x, X.fn x = true) (I : Inv X pins σ H s) (os : s'.os = s.os) (bare : AllBare s'.gens) (un : Un (frs X.stack) [] H H' s.heap s'.heap) (hok : HOk X.prog X.w H' B)
    (kB : ∀ b o, s.heap.get? b = some o → H b = none → b ∉ frs X.stack → B.get? b = some o) (tB : ∀ b o, s.heap.get? b = some o → b ∉ frs X.stack → ∃ o', B.get? b = some o')
    (f0 : Fly B X.stack ea (.ref C) .none s'.heap) (stB : B.StaysIn h2) (us : s'.heap.UpToSlots h2) : Inv X pins σ H' { s' with heap := h2 } := by
  obtain ⟨hst, hf, hex⟩ := st
  have efs := frs_cons (outer := X.outer) hf
  have I' : Inv X pins σ H' s' := I.call' os un (hok.kept f0.1) bare fun b z => absurd z (by simp)
  have ub := I.base
  have ub' := I'.base
  have nst : ∀ b, b ∉ X.fs → b ≠ X.env.locals → b ∉ frs X.stack := fun b h1 h2 h3 => by
    rw [hst, efs] at h3
    rcases List.mem_cons.mp h3 with z | z
    · exact h2 z
    · exact h1 z
  have old : ∀ b o, X.s₀.heap.get? b = some o → b ≠ X.env.locals := fun b o q z => by
    have := Heap.lt_size q
    rw [z] at this
    exact absurd (Nat.lt_of_lt_of_le this I.ok.above) (Nat.lt_irrefl _)
  have noex : ∀ b, b ∉ X.ex := fun b z => by rw [hex] at z; cases z
  -- what is not tracked and no frame stays
  have same : ∀ b o, s.heap.get? b = some o → H b = none → b ∉ X.fs → b ≠ X.env.locals → h2.get? b = some o := fun b o q1 q2 q3 q4 => stB b o (kB b o q1 q2 (nst b q3 q4))
  obtain ⟨m, ns, look⟩ := I'.loc
  have cellS : ∀ x c v, X.env.cells.lookup x = some c → s'.heap.IsCell c v → Heap.IsCell h2 c v := fun x c v e q => by
    obtain ⟨v0, q0⟩ := I.cell x c e
    obtain ⟨o0, e0, d0⟩ := q0
    have hc := I.freeC x c e
    have hfs : c ∉ frs X.stack := nst c (fun z => by
      obtain ⟨_, o1, e1, d1⟩ := I.ok.funs.mem z
      exact absurd (Nat.lt_of_lt_of_le (Heap.lt_size e1) (I.ok.cab x c (af x) e)) (Nat.lt_irrefl _)) (I.cne x c e)
    have b1 := kB c o0 e0 hc hfs
    have b2 := f0.1 c o0 b1
    have b3 := stB c o0 b1
    obtain ⟨o1, e1, d1⟩ := q
    rw [b2] at e1
    cases e1
    exact ⟨o0, b3, d1⟩
  refine ⟨I'.ok, I'.os, I'.bare, ?_, ⟨m, us.ns ns, fun i x v a b c => ?_⟩, fun x c e => ?_, I'.free, I'.freeC, fun p hp => ?_, hok.kept stB, I'.len⟩
  · refine ⟨fun b o q1 q2 q3 q4 => same b o (ub.keep b o q1 q2 q3 q4) (ub.free b o q1 q2 q4) q3 (old b o q1), fun b o q1 q2 q3 q4 => ?_, ub'.free, fun b o q1 q4 => ?_, ub'.tups, ub'.frzs, ub'.tbls⟩
    · obtain ⟨sl, e1⟩ := ub'.slot b o q1 q2 q3 q4
      have m' : b ∈ frs X.stack := by rw [hst, efs]; exact List.mem_cons_of_mem _ q3
      obtain ⟨_, ob, e2, e3⟩ := f0.2.2.1.mem m'
      rw [e1] at e2
      cases e2
      obtain ⟨sl', e4⟩ := us b _ e1 e3
      exact ⟨sl', e4⟩
    · by_cases m' : b ∈ frs X.stack
      · obtain ⟨_, ob, e2, e3⟩ := f0.2.2.1.mem m'
        obtain ⟨sl', e4⟩ := us b _ e2 e3
        exact ⟨_, e4⟩
      · obtain ⟨o1, e1⟩ := ub.there b o q1 q4
        obtain ⟨o2, e2⟩ := tB b o1 e1 m'
        exact ⟨o2, stB b o2 e2⟩
  · obtain ⟨u, ru, lu⟩ := look i x v a b c
    refine ⟨u, ru, ?_⟩
    rcases lu with z | ⟨z, cc, z1, z2⟩
    · exact .inl z
    · exact .inr ⟨z, cc, z1, cellS x cc _ z1 z2⟩
  · obtain ⟨v, q⟩ := I'.cell x c e
    exact ⟨v, cellS x c v e q⟩
  · obtain ⟨p1, p2, p3, p4, p5⟩ := I.pin p hp
    exact ⟨same p.1 p.2 p1 p2 p4 p3, (I'.pin p hp).2.1, p3, p4, p5⟩
end
structure RoomH (k : Nat) (A : Around) : Prop where
  dp : A.depth + 3 * k + 5 < recursionLimit
  un : A.units + 16 * k + 200 < cLine
def WordOk (P : Program) (w : World) (K : PySem.W.Frag) (mg : Str → Option Value) (base : Heap) (k : Nat) (W : Str) (ws : List (Nat × D)) : Prop :=
  ∃ fa : Addr, mg W = some (.ref fa) ∧ PySem.W.keepIn K (.ref fa) = true ∧ ∀ (A : Around) (outer : List Env) (s : Shared) (H : Hp) (x : Addr) (ob : Obj) (vs : Array Value) (c : Nat) (t : List Nat),
    A.handled = some (.ref x) → RoomH k A → Env0 P w K mg base A outer s H → s.heap.get? x = some ob → ob.cls = ecV mg c → ob.data = .fields vs → vs[2]? = some .none → H x = none → x ∉ frs outer → ws.lookup c = some (.str t) →
      codeAny (model P w) A (.call (.ref fa) ⟨[.ref x], []⟩) (L2.CR CX0 outer P w H s (fun v H' => v = .str (SS t) ∧ ∀ b o, H b = some o → H' b = some o) E0) s
section
variable {X : Cx} {C : CC} {G : List Den} {k : Nat} {EX : Nat → Hp → Prop} {pins : List (Addr × Obj)} {σ : L2.St} {H : Hp} {s : Shared}
noncomputable def hCx (X : Cx) (e : Addr) : Cx := { X with A := X.A.mark (some (.ref e)), calm := false, xe := fun _ _ => False }
theorem inv_h (I : Inv X pins σ H s) (e : Addr) : Inv (hCx X e) pins σ H s :=
  ⟨⟨I.ok.mod, I.ok.kind, I.ok.glob, I.ok.blt, I.ok.above, I.ok.inj, I.ok.has, I.ok.cab, fun z => (by cases z), I.ok.frames, I.ok.stk, I.ok.exf, I.ok.bs, I.ok.bsz, I.ok.noex, I.ok.exfs, I.ok.funs, I.ok.frf⟩, I.os, I.bare, I.base, I.loc, I.cell, I.free, I.freeC, I.pin, I.hok, I.len⟩
theorem inv_unh {e : Addr} (ok : X.Ok) (I : Inv (hCx X e) pins σ H s) : Inv X pins σ H s := ⟨ok, I.os, I.bare, I.base, I.loc, I.cell, I.free, I.freeC, I.pin, I.hok, I.len⟩
noncomputable def nCx (X : Cx) (pins : List (Addr × Obj)) (xe : Value → Shared → Prop) : Cx := { X with pn := X.pn ++ pins, xe := xe }
theorem inv_n {xe : Value → Shared → Prop} (I : Inv X pins σ H s) : Inv (nCx X pins xe) [] σ H s :=
  ⟨⟨I.ok.mod, I.ok.kind, I.ok.glob, I.ok.blt, I.ok.above, I.ok.inj, I.ok.has, I.ok.cab, I.ok.hd, I.ok.frames, I.ok.stk, I.ok.exf, I.ok.bs, I.ok.bsz, I.ok.noex, I.ok.exfs, I.ok.funs, I.ok.frf⟩, I.os, I.bare, I.base, I.loc, I.cell, I.free, I.freeC, fun p hp => I.pin p (by simpa [nCx] using hp), I.hok, I.len⟩
theorem inv_unn {xe : Value → Shared → Prop} {p2 : List (Addr × Obj)} (ok : X.Ok) (I : Inv (nCx X pins xe) p2 σ H s) : Inv X pins σ H s :=
  ⟨ok, I.os, I.bare, I.base, I.loc, I.cell, I.free, I.freeC, fun p hp => I.pin p (by show p ∈ (X.pn ++ pins) ++ p2; exact List.mem_append_left _ hp), I.hok, I.len⟩
theorem ld_globA {A : Around} {E : Value → Shared → Prop} {x : Str} {u : Value} {pos : Pos} {Q : Value → Shared → Prop} (I : Inv X pins σ H s) (hg : Gl X x) (hm : X.mg x = some u) (h : Q u s) (hd : (x == ("__debug__" : Str)) = false) : wpAny (model X.prog X.w) A (eval (.Name x pos) X.env) Q E s :=
  Calls.Name_function_global I.ok.kind hg (Calls.loadGlobal_global (by rw [I.ok.glob]; exact I.mod.glob.keeps I.bk) hm h) hd
theorem pe_word {W n : Str} {j : Nat} {ws : List (Nat × D)} {ea : Addr} {ob : Obj} {vs : Array Value} {c : Nat} {t : List Nat} {wp np cp : Pos} {Q : VK} (O : CtxOk X C G k) (hWg : C.isGl W = true) (hn : C.var n = some j) (hW : WordOk X.prog X.w X.K X.mg X.base k W ws) (hst : X.stack = X.env :: X.outer ∧ X.env.frame = some X.env.locals)
    (I : Inv (hCx X ea) pins σ H s) (hj : σ[j]? = some (some (.ref ea))) (eo : s.heap.get? ea = some ob) (ec : ob.cls = ecV X.mg c) (ed : ob.data = .fields vs) (e2 : vs[2]? = some .none) (hN : H ea = none) (hf : ea ∉ frs X.stack) (hl : ws.lookup c = some (.str t))
    (q : ∀ H', (∀ b o, H b = some o → H' b = some o) → Q (.str (SS t)) H') : wpAny (model X.prog X.w) (X.A.mark (some (.ref ea))) (eval (.Call (.Name W wp) [.Name n np] [] cp) X.env) (EP (hCx X ea) pins σ Q) (fun _ _ => False) s := by
  obtain ⟨gW, plW⟩ := isGl_ok O hWg
  obtain ⟨w4, w5, _⟩ := plain_debug plW
  obtain ⟨n1, n2, n3⟩ := var_ok O hn
  obtain ⟨n4, n5, _⟩ := plain_debug n3
  obtain ⟨fa, hm, hk, run⟩ := hW
  refine wpAny_Call_Name_kw (ld_globA (X := hCx X ea) I gW hm ?_ w4)
  have pa : PA (hCx X ea) [.Name n np] (fun σ H Q => ∃ v, σ[j]? = some (some v) ∧ Q [v] H) := (pa_cons (pe_var (X := hCx X ea) n1 n2 n4 n5) pa_nil rfl).imp fun σ H Q ⟨v, e, q⟩ => ⟨v, e, q⟩
  have Ip : Inv (hCx X ea) (pins ++ [(ea, ob)]) σ H s := I.pins_of fun p hp => by
    rcases List.mem_append.mp hp with z | z
    · exact I.pin p (List.mem_append_right _ z)
    · have e : p = (ea, ob) := by simpa using z
      subst e
      have sub := I.stkSub
      refine ⟨eo, hN, fun z => hf ?_, fun z => hf ?_, fun v z => by rw [ed] at z; cases z⟩
      · rw [hst.1, frs_cons hst.2]
        exact List.mem_cons.mpr (.inl z)
      · rw [hst.1, frs_cons hst.2]
        exact List.mem_cons_of_mem _ z
  refine PySem.W.callWith_K (h₀ := X.base) I.ok.mod.kin hk (thn (pa cp _ s σ H (fun vs H' => vs = [.ref ea] ∧ H' = H ∧ True) Ip ⟨_, hj, rfl, rfl, trivial⟩) fun us s2 ⟨vs2, H2, I2, r2, ev, eh, _⟩ => ⟨I2.kIn, ?_⟩) rfl rfl
  subst ev eh
  obtain ⟨u, rfl, ru⟩ := vals1 r2
  cases ru
  have pc := I2.pin (ea, ob) (List.mem_append_right _ (List.mem_append_right _ (by simp)))
  refine wpAny_call (codeAny_mono (run (X.A.mark (some (.ref ea))) X.stack s2 H2 ea ob vs c t rfl ⟨O.room.dp, O.room.un⟩ I2.env0 pc.1 ec ed e2 pc.2.1 hf hl) fun r s' hq => ?_)
  cases r with
  | error e => exact False.elim hq
  | ok fl =>
    cases fl with
    | ret u =>
      obtain ⟨v, H', I3, rv, e3, q3⟩ := (I2.unpinned).after hq
      subst e3
      exact ⟨.str (SS t), H', I3, rv, q H' q3⟩
    | next => exact False.elim hq
    | brk => exact False.elim hq
    | cont => exact False.elim hq
theorem inv_gone {h6 : Heap} {m6 : Str → Option Value} (I : Inv X pins σ H s) (ns : h6.Ns X.env.locals m6) (sb : Heap.SameBut X.env.locals s.heap h6) : Inv X pins (List.replicate X.N.length none) H { s with heap := h6, toks := s.toks + 1 } := by
  have ot : ∀ b, b ≠ X.env.locals → h6.get? b = s.heap.get? b := fun b nb => sb.2 b nb
  have old : ∀ b o, X.s₀.heap.get? b = some o → b ≠ X.env.locals := fun b o q z => by
    have := Heap.lt_size q
    rw [z] at this
    exact absurd (Nat.lt_of_lt_of_le this I.ok.above) (Nat.lt_irrefl _)
  have ub := I.base
  refine ⟨I.ok, I.os, I.bare, ⟨fun b o q1 q2 q3 q4 => (ot b (old b o q1)).trans (ub.keep b o q1 q2 q3 q4), fun b o q1 q2 q3 q4 => ?_, ub.free, fun b o q1 q4 => ?_, ub.tups, ub.frzs, ub.tbls⟩, ⟨m6, ns, fun i x v a b => ?_⟩, fun x c e => ?_, I.free, I.freeC, fun p hp => ?_, fun b o e => ?_, by simp⟩
  · obtain ⟨sl, e1⟩ := ub.slot b o q1 q2 q3 q4
    exact ⟨sl, (ot b (old b o q1)).trans e1⟩
  · obtain ⟨o1, e1⟩ := ub.there b o q1 q4
    exact ⟨o1, (ot b (old b o q1)).trans e1⟩
  · rw [List.getElem?_replicate] at b
    split at b <;> cases b
  · obtain ⟨v, o, e1, d1⟩ := I.cell x c e
    exact ⟨v, o, (ot c (I.cne x c e)).trans e1, d1⟩
  · obtain ⟨p1, p2, p3, p4, p5⟩ := I.pin p hp
    exact ⟨(ot p.1 p3).trans p1, p2, p3, p4, p5⟩
  · refine (I.hok b o e).stay (fun c u hc q => (ot c fun z => ?_).trans q) (fun _ q => q) fun _ _ q => q
    have fr := I.free
    rw [← z] at fr
    rcases hc with rfl | hc
    · rw [e] at fr; cases fr
    · rw [hc] at fr; cases fr
theorem ctx_n {xe : Value → Shared → Prop} (O : CtxOk X C G k) : CtxOk (nCx X pins xe) { C with er := [] } G k :=
  ⟨O.N, O.nm, O.nd, O.calm, O.room, O.ct, fun i x f h1 h2 => ⟨(O.fs i x f h1 h2).ex⟩, O.bl, O.gl, O.fa⟩
theorem s_tryW {body : List Stmt} {b : List PSt} {ws : List (Nat × D)} {P n W : Str} {Pc : Addr} {j : Nat} {pp np wp cp rp hp pos : Pos} (S : CtxS X C G k EX)
    (hb : ∀ pins xe EX', CtxS (nCx X pins xe) { C with er := [] } G k EX' → PSs (nCx X pins xe) body (rdSs X.K G EX' b)) (hPg : C.isGl P = true) (hPm : X.mg P = some (.ref Pc)) (hn : C.var n = some j) (hnl : lk C.nm n = some .local) (hWg : C.isGl W = true) (hW : WordOk X.prog X.w X.K X.mg X.base k W ws)
    (hx : ∀ c d, ws.lookup c = some d → PySem.W.exmOne X.K (ecV X.mg c) (.ref Pc) = some true) :
    PS X (.Try body [.ExceptHandler (some (.Name P pp)) (some n) [.Return (some (.Call (.Name W wp) [.Name n np] [] cp)) rp] hp] [] [] pos) (rdS X.K G EX (.tryW b ws)) := by
  have O := S.ok
  obtain ⟨gP, plP⟩ := isGl_ok O hPg
  obtain ⟨P4, P5, _⟩ := plain_debug plP
  obtain ⟨n1, n2, n3⟩ := var_ok O hn
  obtain ⟨hst, hf, hex⟩ := S.st
  have hNd : X.N.Nodup := by rw [O.N]; exact O.nd
  have hloc : X.env.scope.names.lookup n = some .local := by rw [lookupEq O]; exact hnl
  intro pins s σ H D0 I hq
  obtain ⟨th, ρ, h, w, en, qq⟩ := hq
  unfold exS at qq
  -- what is wanted of an exception of the block
  let EX' : Nat → Hp → Prop := fun c H' => ∃ t th' h', ws.lookup c = some (.str t) ∧ Wd X.K th' h' H' ∧ ∀ v H'', RepV X.K H'' th' (.str t) v → Wd X.K th' h' H'' → Gr th' th' H' H'' → D0.rt v H''
  let xe' : Value → Shared → Prop := fun e s₁ => wpAny (model X.prog X.w) X.A (noteFrame e X.env) (fun _ s₂ => wpAny (model X.prog X.w) X.A (setFlight e none) (fun _ s₃ =>
    wpAny (model X.prog X.w) X.A (handleBy e X.env [.ExceptHandler (some (.Name P pp)) (some n) [.Return (some (.Call (.Name W wp) [.Name n np] [] cp)) rp] hp]) (SP X pins D0) X.xe s₃) X.xe s₂) X.xe s₁
  have rk : RK X.K EX' D0 th H (exSs G b ρ h) := by
    cases e1 : exSs G b ρ h with
    | nx _ _ => rw [e1] at qq; exact qq
    | rt _ _ => rw [e1] at qq; exact qq
    | bk _ _ => rw [e1] at qq; exact qq
    | ct _ _ => rw [e1] at qq; exact qq
    | bad => rw [e1] at qq; exact qq
    | exc c ρ' h' =>
      rw [e1] at qq
      dsimp only at qq
      intro H' th' w' g'
      cases e2 : ws.lookup c with
      | none => rw [e2] at qq; exact qq.elim
      | some d =>
        rw [e2] at qq
        cases d with
        | str t => exact ⟨t, th', h', e2, w', fun v H'' r w'' g'' => qq v H'' th' r w'' (g'.trans g'')⟩
        | _ => exact qq.elim
  have xc : XC (nCx X pins xe') (toE X.mg EX') := by
    intro p2 σ1 H1 s1 e s' I1 hc
    obtain ⟨ea, Ca, B, H', rfl, os, bare, un, hok, kB, tB, fl, c, ecv, t, th', h', hlk, w', fin⟩ := hc
    have I1' : Inv X pins σ1 H1 s1 := inv_unn I.ok I1
    have hfr : X.A.frames = some (X.env :: X.outer) := by rw [← hst]; exact I.ok.frames
    have fl0 : Fly B X.stack ea (.ref Ca) .none s'.heap := fl
    rw [show (nCx X pins xe').stack = X.env :: X.outer from hst] at fl
    show wpAny _ _ _ _ _ _
    refine fly_note hfr hf fl fun h1 f1 u1 => fly_land f1 fun h2 f2 u2 => ?_
    have I2 : Inv X pins σ1 H' { s' with heap := h2 } := inv_landed S.st S.af I1' os bare un hok kB tB fl0 f2.1 (u1.trans u2)
    have nea : H' ea = none := by
      cases q : H' ea with
      | none => rfl
      | some o =>
        have := (hok ea o q).some'
        rw [f2.2.1] at this
        exact absurd rfl this
    have nfr : ∀ {hh : Heap}, Fly B (X.env :: X.outer) ea (.ref Ca) .none hh → ea ∉ frs X.stack := fun f z => by
      rw [hst] at z
      obtain ⟨_, o, q1, q2⟩ := f.2.2.1.mem z
      obtain ⟨ob, vs, a1, a2, a3, a4⟩ := f.there
      rw [a1] at q1
      cases q1
      exact q2 vs a3
    obtain ⟨ob, vs, b1, b2, b3, b4⟩ := f2.there
    have LT : PySem.W.Looks (model X.prog X.w) h2 (typeOf (.ref ea)) (ecV X.mg c) := by
      rw [← ecv]
      exact b2 ▸ (PySem.W.Looks.ld b1).andThen .now
    refine wpAny_handleBy_cons (codeAny_handlers_test (ld_globA I2 gP hPm ((PySem.W.exm_one I2.kIn LT (hx c _ hlk)).here ?_) P4)) (by intro q; cases q)
    refine codeAny_handlers_suite_as ?_
    refine fly_land f2 fun h3 f3 u3 => ?_
    have I3 : Inv X pins σ1 H' { s' with heap := h3 } := inv_landed S.st S.af I1' os bare un hok kB tB fl0 f3.1 ((u1.trans u2).trans u3)
    obtain ⟨ob3, vs3, d1, d2, d3, d4⟩ := f3.there
    refine store_ok2 (v := .ref ea) I3 hNd n1 (.inl hloc) rfl (fun s4 I4 ⟨a, sb, ha⟩ => ?_) (.inr hloc)
    have nloc : ea ≠ X.env.locals := fun z => nfr f3 (by rw [hst, frs_cons hf]; exact List.mem_cons.mpr (.inl z))
    have e4 : s4.heap.get? ea = some ob3 := (sb.2 ea fun z => by
      rcases ha with rfl | hc
      · exact nloc z
      · obtain ⟨v, oc, q1, q2⟩ := I3.cell n a hc
        rw [← z] at q1
        have q1 : h3.get? ea = some oc := q1
        rw [d1] at q1
        cases q1
        rw [d3] at q2
        cases q2).trans d1
    have hj : (σ1.set j (some (V.ref ea)))[j]? = some (some (V.ref ea)) := by
      have : j < σ1.length := by rw [I3.len]; exact (List.getElem?_eq_some_iff.mp n1).1
      exact List.getElem?_set_self this
    have word := pe_word (wp := wp) (np := np) (cp := cp) (Q := fun v H'' => ∃ u : Unit, RepV X.K H'' th' (.str t) v ∧ Wd X.K th' h' H'' ∧ Gr th' th' H' H'') O hWg hn hW ⟨hst, hf⟩ (inv_h I4 ea) hj e4 (d2.trans ecv) d3 d4 nea (nfr f3) hlk fun H'' sm =>
      ⟨(), .str t, w'.mono0 ⟨⟨[], by simp⟩, fun a o q _ => sm a o q, fun a xs q => by
          rcases q with q | ⟨u, q⟩
          · exact .inl (sm _ _ q)
          · exact .inr ⟨u, sm _ _ q⟩, fun a h1 h2 => absurd h1 h2⟩ fun a m => by
        cases q : H' a with
        | none => exact absurd q (w'.there m)
        | some o => exact sm a o q, ⟨⟨[], by simp⟩, fun a o q _ => sm a o q, fun a xs q => by
          rcases q with q | ⟨u, q⟩
          · exact .inl (sm _ _ q)
          · exact .inr ⟨u, sm _ _ q⟩, fun a h1 h2 => absurd h1 h2⟩⟩
    refine wpAny_mono (Q := fun f s5 => ∃ u v H5 σ5, f = .ret u ∧ Inv (hCx X ea) pins σ5 H5 s5 ∧ RelV v u ∧ RepV X.K H5 th' (.str t) v ∧ Wd X.K th' h' H5 ∧ Gr th' th' H' H5) (E := fun _ _ => False) ?_ (fun f s5 hq => ?_) fun _ _ z => z.elim
    · exact wpAny_execs_cons (wpAny_Return_some (thn word fun u s5 ⟨v, H5, I5, rv, _, r5, w5, g5⟩ => ⟨u, v, H5, _, rfl, I5, rv, r5, w5, g5⟩))
    · obtain ⟨u, v, H5, σ5, rfl, I5, rv, r5, w5, g5⟩ := hq
      have I5' : Inv X pins σ5 H5 s5 := inv_unh I.ok I5
      obtain ⟨m5, ns5, _⟩ := I5'.loc
      refine wpAny_nameGoes (m := m5) hloc ns5 (by rw [I.ok.kind]; rfl) fun h6 m6 ns6 sb6 => ?_
      exact ⟨v, List.replicate X.N.length none, H5, inv_gone I5' ns6 sb6, rv, fin v H5 r5 w5 g5⟩
  have ctx : CtxS (nCx X pins xe') { C with er := [] } G k EX' :=
    { ok := ctx_n O
      xc := xc
      xm := .inl rfl
      st := S.st
      af := S.af
      er := fun c z => by cases z
      fn := S.fn
      own := PassesOwn.looking }
  refine wpAny_Try_except (wpAny_mono (hb _ _ EX' ctx [] s σ H D0 (inv_n I) ⟨th, ρ, h, w, en, rk⟩) (fun f s1 hs => ?_) fun e s1 he => he)
  cases f with
  | next =>
    obtain ⟨σ', H', I', q⟩ := hs
    exact wpAny_pure ⟨σ', H', inv_unn I.ok I', q⟩
  | brk => obtain ⟨σ', H', I', q⟩ := hs; exact ⟨σ', H', inv_unn I.ok I', q⟩
  | cont => obtain ⟨σ', H', I', q⟩ := hs; exact ⟨σ', H', inv_unn I.ok I', q⟩
  | ret u => obtain ⟨v, σ', H', I', r, q⟩ := hs; exact ⟨v, σ', H', inv_unn I.ok I', r, q⟩
end
def TwOk (X : Cx) (C : CC) (k : Nat) : Prop := ∀ P W ws, C.tw = some (P, W, ws) → ∃ Pc, X.mg P = some (.ref Pc) ∧ WordOk X.prog X.w X.K X.mg X.base k W ws ∧ ∀ c d, ws.lookup c = some d → PySem.W.exmOne X.K (ecV X.mg c) (.ref Pc) = some true
noncomputable def noCall : PX → Bool
  | .call _ _ | .callV _ _ _ => false
  | _ => true
def UC (C : CC) (x : Str) (sc : Scope) (G : List Den) (k : Nat) (P : Cx → Prop) : Prop := ∀ X', CtxOk X' (C' C x sc) G k → P X'
theorem uc_mk {C : CC} {x : Str} {sc : Scope} {G : List Den} {k : Nat} {P : Cx → Prop} (h : ∀ X', CtxOk X' (C' C x sc) G k → P X') : UC C x sc G k P := h
def UT (C : CC) (G : List Den) (k : Nat) (body : List Stmt) (b : List PSt) : Prop := ∀ X' EX', CtxS X' { C with er := [] } G k EX' → CtxOk X' { C with er := [] } G k → XC X' (toE X'.mg EX') → PSs X' body (rdSs X'.K G EX' b)
theorem ut_mk {C : CC} {G : List Den} {k : Nat} {body : List Stmt} {b : List PSt} (h : ∀ X' EX', CtxS X' { C with er := [] } G k EX' → CtxOk X' { C with er := [] } G k → XC X' (toE X'.mg EX') → PSs X' body (rdSs X'.K G EX' b)) : UT C G k body b := h
section
variable {X : Cx} {C : CC} {G : List Den} {k : Nat} {EX : Nat → Hp → Prop}
theorem x_con {c : Const} {j : Nat} {pos : Pos} {p : PX} (h : kCon c = some p) : PE X (.Constant c j pos) (rdE X.K G p) := by
  cases c with
  | none => cases h; exact e_con pe_non fun H th => .non
  | bool b => cases h; exact e_con pe_bl fun H th => .bl b
  | int i => cases h; exact e_con pe_int fun H th => .int i
  | str s =>
    cases h
    refine e_con pe_str fun H th => ?_
    have : s = SS s.cps.toList := by cases s; simp [SS]
    rw [this]
    exact .str _
  | _ => cases h
theorem x_name {x : Str} {pos : Pos} {p : PX} (O : CtxOk X C G k) (h : kName C x = some p) : PE X (.Name x pos) (rdE X.K G p) := by
  unfold kName at h
  split at h
  · rename_i i hv; cases h; exact e_var O hv
  · split at h
    · rename_i hg
      cases e : List.lookup x C.ct with
      | none =>
        rw [e] at h
        dsimp only at h
        split at h
        · rename_i hf; cases h; exact e_fn O hg hf
        · cases h
      | some d => rw [e] at h; cases h; exact e_glob O hg e
    · cases h
theorem d_rng {tg a : Expr} {p : PX} {ps pos : Pos} (O : CtxOk X C G k) (hgl : C.isGl "range" = true) (hbl : C.bl.contains "range" = true) (hs : starEach [a] X.env = [(false, eval a X.env)]) (ha : PE X a (rdE X.K G p)) : L2.PI X tg (.Call (.Name "range" ps) [a] [] pos) (rdI X.K G (.rng p)) :=
  i_rng (isGl_ok O hgl).1 (O.bl _ hbl) ha hs
theorem d_r {e : Expr} {p : PX} (hn : noCall p = true) (h : PE X e (rdE X.K G p)) : PE X e (rdR X.K G EX p) :=
  r_of h (fun i ps z => by rw [z] at hn; cases hn) fun i fs ps z => by rw [z] at hn; cases hn
theorem d_comp0 {x : Str} {sc : Scope} {keep : List Nat} {elt iter : Expr} {px pos : Pos} {pe : PX} {src : PI} (O : CtxOk X C G k) (Q : compOk C x sc = true) (hv : varsOf C (freeNames sc.names) = some keep) (hs : ∀ v, foldedSetIterable iter X.env v = pure v)
    (hi : L2.PI X (.Name x px) iter (rdI X.K G src)) (hE : UC C x sc G k fun X' => PE X' elt (rdE X'.K G pe)) : PE X (.ListComp elt [⟨.Name x px, iter, [], 0⟩] sc pos) (rdE X.K G (.comp pe none src keep)) :=
  e_comp O (compOk_of Q) hv hi hE (.inl ⟨rfl, rfl⟩) hs
theorem d_comp1 {x : Str} {sc : Scope} {keep : List Nat} {elt iter c : Expr} {px pos : Pos} {pe : PX} {b : PB} {src : PI} (O : CtxOk X C G k) (Q : compOk C x sc = true) (hv : varsOf C (freeNames sc.names) = some keep) (hs : ∀ v, foldedSetIterable iter X.env v = pure v)
    (hi : L2.PI X (.Name x px) iter (rdI X.K G src)) (hE : UC C x sc G k fun X' => PE X' elt (rdE X'.K G pe)) (hT : UC C x sc G k fun X' => PT X' c (rdB X'.K G b)) : PE X (.ListComp elt [⟨.Name x px, iter, [c], 0⟩] sc pos) (rdE X.K G (.comp pe (some b) src keep)) :=
  e_comp O (compOk_of Q) hv hi hE (.inr ⟨c, b, rfl, rfl, hT⟩) hs
theorem d_rai {x : Str} {c : Nat} {e : Expr} {es : List Expr} {ps : List PX} {np cpos pos : Pos} (S : CtxS X C G k EX) (hg : C.isGl x = true) (hc : errs.findIdx? (· == x) = some c) (her : C.er.contains c = true) (hl : Nat.ble ps.length 20 = true)
    (he : starEach (e :: es) X.env = (false, eval e X.env) :: starEach es X.env) (hpl : (backTo cpos (starEach es X.env)).any (·.1) = false) (ha : PA X (e :: es) (rdA X.K G ps)) :
    PS X (.Raise (some (.Call (.Name x np) (e :: es) [] cpos)) none pos) (rdS X.K G EX (.rai c ps)) := s_rai S hg hc her (Nat.le_of_ble_eq_true hl) ha he hpl
theorem d_for {tg iter : Expr} {body : List Stmt} {t : PTg} {it : PI} {b : List PSt} {pos : Pos} (S : CtxS X C G k EX) (hs : ∀ x, foldedSetIterable iter X.env x = pure x) (hi : L2.PI X tg iter (rdI X.K G it)) (hg : PG X tg (rdG X.K t))
    (hb : PSs X body (rdSs X.K G EX b)) : PS X (.For tg iter body [] pos) (rdS X.K G EX (.forS t it b)) := s_for S.own S.ok.calm hi hg hb hs
theorem d_try {body : List Stmt} {b : List PSt} {ws : List (Nat × D)} {P n W : Str} {pp np wp cp rp hp pos : Pos} (S : CtxS X C G k EX) (T : TwOk X C k) (ht : C.tw = some (P, W, ws)) (q4 : C.isGl P = true) (hj : (C.var n).isSome = true) (q6 : lk C.nm n = some .local) (q5 : C.isGl W = true)
    (ib : UT C G k body b) :
    PS X (.Try body [.ExceptHandler (some (.Name P pp)) (some n) [.Return (some (.Call (.Name W wp) [.Name n np] [] cp)) rp] hp] [] [] pos) (rdS X.K G EX (.tryW b ws)) := by
  obtain ⟨Pc, m1, m2, m3⟩ := T _ _ _ ht
  obtain ⟨j, hj⟩ := Option.isSome_iff_exists.mp hj
  exact s_tryW S (fun pins xe EX' S' => ib _ EX' S' S'.ok S'.xc) q4 m1 hj q6 q5 m2 m3
theorem t_and {a b : Expr} {rest : List Expr} {p q : PB} {pos : Pos} (ha : PT X a (rdB X.K G p)) (hb : PW X (.BoolOp .And (b :: rest) pos) (rdB X.K G q)) : PT X (.BoolOp .And (a :: b :: rest) pos) (rdB X.K G (.and p q)) := (w_and ha hb).pt
theorem t_or {a b : Expr} {rest : List Expr} {p q : PB} {pos : Pos} (ha : PT X a (rdB X.K G p)) (hb : PW X (.BoolOp .Or (b :: rest) pos) (rdB X.K G q)) : PT X (.BoolOp .Or (a :: b :: rest) pos) (rdB X.K G (.or p q)) := (w_or ha hb).pt
theorem f_con {c : Str} {j : Nat} {pos : Pos} {p : PX} {es : List Expr} {ps : List PX} (h : PX.con (.str c.cps.toList) = p) (r : F2' (fun e p => (∃ c j pos, e = .Constant (.str c) j pos ∧ p = .con (.str c.cps.toList)) ∨ ∃ v pos, e = .FormattedValue v (-1) none pos ∧ PE X v (rdE X.K G p)) es ps) :
    F2' (fun e p => (∃ c j pos, e = .Constant (.str c) j pos ∧ p = .con (.str c.cps.toList)) ∨ ∃ v pos, e = .FormattedValue v (-1) none pos ∧ PE X v (rdE X.K G p)) (.Constant (.str c) j pos :: es) (p :: ps) := .cons (.inl ⟨c, j, pos, rfl, h.symm⟩) r
theorem f_val {v : Expr} {cv : Int} {pos : Pos} {p : PX} {es : List Expr} {ps : List PX} (h : cv = -1) (hv : PE X v (rdE X.K G p)) (r : F2' (fun e p => (∃ c j pos, e = .Constant (.str c) j pos ∧ p = .con (.str c.cps.toList)) ∨ ∃ v pos, e = .FormattedValue v (-1) none pos ∧ PE X v (rdE X.K G p)) es ps) :
    F2' (fun e p => (∃ c j pos, e = .Constant (.str c) j pos ∧ p = .con (.str c.cps.toList)) ∨ ∃ v pos, e = .FormattedValue v (-1) none pos ∧ PE X v (rdE X.K G p)) (.FormattedValue v cv none pos :: es) (p :: ps) := .cons (.inr ⟨v, pos, by rw [h], hv⟩) r
theorem d_blt {x : Str} {b : Bl} {e : Expr} {es : List Expr} {ps : List PX} {p pos : Pos} (O : CtxOk X C G k) (hx : C.isGl x = true) (hl : C.bl.contains x = true) (h : bltOf x ps = some (.blt b ps))
    (he : starEach (e :: es) X.env = (false, eval e X.env) :: starEach es X.env) (hpl : (backTo pos (starEach es X.env)).any (·.1) = false) (ha : PA X (e :: es) (rdA X.K G ps)) :
    PE X (.Call (.Name x p) (e :: es) [] pos) (rdE X.K G (.blt b ps)) := e_blt O hx hl h ha he hpl
theorem d_callV {x : Str} {i : Nat} {e : Expr} {es : List Expr} {ps : List PX} {fs : List Str} {p pos : Pos} (O : CtxOk X C G k) (xc : XC X (toE X.mg EX)) (hf : C.fs = fs) (hx : C.var x = some i)
    (he : starEach (e :: es) X.env = (false, eval e X.env) :: starEach es X.env) (hpl : (backTo pos (starEach es X.env)).any (·.1) = false) (ha : PA X (e :: es) (rdA X.K G ps)) :
    PE X (.Call (.Name x p) (e :: es) [] pos) (rdR X.K G EX (.callV i fs ps)) := by
  subst hf
  exact r_callV O xc hx ha he hpl
theorem d_sset {a : Expr} {q : PX} {p p' pos pos' : Pos} (O : CtxOk X C G k) (h1 : C.isBl "sorted" = true) (h2 : C.isBl "set" = true) (hs : starEach [a] X.env = [(false, eval a X.env)]) (ha : PE X a (rdE X.K G q)) :
    PE X (.Call (.Name "sorted" p) [.Call (.Name "set" p') [a] [] pos'] [] pos) (rdE X.K G (.blt .sortedSet [q])) := e_sortedSet O h1 h2 ha hs rfl
end
section
variable {K : PySem.W.Frag} {H H0 : Hp} {th t : Th}
mutual
theorem RepV.cut0 : ∀ {d : D} {v : V}, nrf d = true → RepV K H (th ++ t) d v → RepV K H th d v
  | _, _, _, .non => .non
  | _, _, _, .bl b => .bl b
  | _, _, _, .int i => .int i
  | _, _, _, .str s => .str s
  | _, _, n, .tup q r => .tup q (RepVs.cut0 (by simpa [nrf] using n) r)
  | _, _, n, .lst q m r => .lst q (fun z => m (List.mem_append_left _ z)) (RepVs.cut0 (by simpa [nrf] using n) r)
  | _, _, n, .ref _ => by cases n
  | _, _, _, .fn e => .fn e
theorem RepVs.cut0 : ∀ {ds : List D} {vs : List V}, nrfs ds = true → RepVs K H (th ++ t) ds vs → RepVs K H th ds vs
  | _, _, _, .nil => .nil
  | _, _, n, .cons a b => by
    rw [nrfs, Bool.and_eq_true] at n
    exact .cons (RepV.cut0 n.1 a) (RepVs.cut0 n.2 b)
end
mutual
theorem RepV.cut1 : ∀ {d : D} {v v0 : V}, RepV K H0 th d v0 → RepV K H (th ++ t) d v → RepV K H th d v
  | _, _, _, _, .non => .non
  | _, _, _, _, .bl b => .bl b
  | _, _, _, _, .int i => .int i
  | _, _, _, _, .str s => .str s
  | _, _, _, .tup _ r0, .tup q r => .tup q (RepVs.cut1 r0 r)
  | _, _, _, .lst _ _ r0, .lst q m r => .lst q (fun z => m (List.mem_append_left _ z)) (RepVs.cut1 r0 r)
  | .ref n, _, _, .ref e0, .ref e => .ref (by
      have hn : n < th.length := (List.getElem?_eq_some_iff.mp e0).1
      rw [List.getElem?_append_left hn] at e
      exact e)
  | _, _, _, _, .fn e => .fn e
theorem RepVs.cut1 : ∀ {ds : List D} {vs vs0 : List V}, RepVs K H0 th ds vs0 → RepVs K H (th ++ t) ds vs → RepVs K H th ds vs
  | _, _, _, _, .nil => .nil
  | _, _, _, .cons a0 b0, .cons a b => .cons (RepV.cut1 a0 a) (RepVs.cut1 b0 b)
end
theorem Wd.cut {h h1 : AH} (w0 : Wd K th h H0) (w : Wd K (th ++ t) h1 H) (e : h1.take h.length = h) : Wd K th h H where
  nd := (List.nodup_append.mp w.nd).1
  len := w0.len
  kd := fun a m => w.kd a (List.mem_append_left _ m)
  obj := fun n a o e1 e2 => by
    have hn : n < th.length := (List.getElem?_eq_some_iff.mp e1).1
    have r0 := w0.obj n a o e1 e2
    have e2' : h1[n]? = some o := by
      rw [← e] at e2
      rw [List.getElem?_take_of_lt (by rw [← w0.len]; exact hn)] at e2
      exact e2
    have r := w.obj n a o (by rw [List.getElem?_append_left hn]; exact e1) e2'
    cases o with
    | lst ds =>
      obtain ⟨vs0, _, q0⟩ := r0
      obtain ⟨vs, e3, q⟩ := r
      exact ⟨vs, e3, RepVs.cut1 q0 q⟩
    | dct _ => exact r.elim
    | ins _ _ => exact r.elim
theorem Gr.cut (g : Gr th (th ++ t) H0 H) : Gr th th H0 H := ⟨⟨[], by simp⟩, g.keep, g.tups, fun a h1 h2 => absurd h1 h2⟩
end
theorem cut_ok {K : PySem.W.Frag} {th : Th} {h h1 : AH} {H : Hp} {d : D} {Q : VK} {f : Den} {ds : List D} (w : Wd K th h H) (e : f ds h = .ok d h1)
    {EX : Nat → Hp → Prop} (q : match cutDen f ds h with
      | .ok d h' => ∀ v H' th', RepV K H' th' d v → Wd K th' h' H' → Gr th th' H H' → Q v H'
      | .exc c h' => ∀ H' th', Wd K th' h' H' → Gr th th' H H' → EX c H'
      | .bad => False) : ∀ v H' th', RepV K H' th' d v → Wd K th' h1 H' → Gr th th' H H' → Q v H' := by
  intro v H' th' r w' g
  by_cases hc : nrf d = true ∧ h1.take h.length = h
  · rw [cutDen_ok e hc.1 hc.2] at q
    obtain ⟨t, rfl⟩ := g.pre
    exact q v H' th (r.cut0 hc.1) (w.cut w' hc.2) g.cut
  · have : cutDen f ds h = .ok d h1 := by
      unfold cutDen
      rw [e]
      exact if_neg hc
    rw [this] at q
    exact q v H' th' r w' g
theorem cut_exc {K : PySem.W.Frag} {th : Th} {h h1 : AH} {H : Hp} {c : Nat} {Q : VK} {f : Den} {ds : List D} (w : Wd K th h H) (e : f ds h = .exc c h1)
    {EX : Nat → Hp → Prop} (q : match cutDen f ds h with
      | .ok d h' => ∀ v H' th', RepV K H' th' d v → Wd K th' h' H' → Gr th th' H H' → Q v H'
      | .exc c h' => ∀ H' th', Wd K th' h' H' → Gr th th' H H' → EX c H'
      | .bad => False) : ∀ H' th', Wd K th' h1 H' → Gr th th' H H' → EX c H' := by
  intro H' th' w' g
  by_cases hc : h1.take h.length = h
  · rw [cutDen_exc e hc] at q
    obtain ⟨t, rfl⟩ := g.pre
    exact q H' th (w.cut w' hc) g.cut
  · have : cutDen f ds h = .exc c h1 := by
      unfold cutDen
      rw [e]
      exact if_neg hc
    rw [this] at q
    exact q H' th' w' g
theorem startE_env {K : PySem.W.Frag} {th : Th} {H : Hp} {N : List Str} {ds : List D} {vs : List V} (r : RepVs K H th ds vs) : EnvR K H th (startE N.length ds) (L2.start N vs) := by
  have len := r.length
  refine ⟨by simp [startE, L2.start, len], fun i d e => ?_⟩
  unfold getV startE at e
  by_cases hi : i < ds.length
  · rw [List.getElem?_append_left (by simpa using hi), List.getElem?_map] at e
    cases q : ds[i]? with
    | none => rw [q] at e; cases e
    | some d' =>
      rw [q] at e
      have : d' = d := by simpa using e
      subst this
      obtain ⟨v, e2, r2⟩ := r.get q
      refine ⟨v, ?_, r2⟩
      unfold L2.start
      rw [List.getElem?_append_left (by simp; omega), List.getElem?_map, e2]
      rfl
  · rw [List.getElem?_append_right (by simp; omega), List.getElem?_replicate] at e
    split at e <;> cases e
def FnX (P : Program) (w : World) (K : PySem.W.Frag) (mg : Str → Option Value) (base : Heap) (k : Nat) (x : Str) (f : Den) : Prop :=
  ∃ (fa : Addr) (fd : FuncData) (ps : List Str), mg x = some (.ref fa) ∧ PySem.W.keepIn K (.ref fa) = true ∧
    FnOk P w K mg base (CXM P w) k fa fd ps (spOf K mg ps.length f) ∧ Binds K fd ps [] ∧ ∀ ds h, f ds h ≠ .bad → ds.length = ps.length
theorem FnX.mono {P : Program} {w : World} {K : PySem.W.Frag} {mg : Str → Option Value} {base : Heap} {j k : Nat} {x : Str} {f : Den} (h : FnX P w K mg base j x f) (hj : j ≤ k) : FnX P w K mg base k x f := by
  obtain ⟨fa, fd, ps, a, b, c, d, e⟩ := h
  exact ⟨fa, fd, ps, a, b, c.mono hj, d, e⟩
theorem runF_len {G : List Den} {np n : Nat} {b : List PSt} {ds : List D} {h : AH} (e : cutDen (runF G np n b) ds h ≠ .bad) : ds.length = np := by
  by_cases hl : ds.length = np
  · exact hl
  · have : runF G np n b ds h = .bad := by unfold runF; exact if_neg hl
    unfold cutDen at e
    rw [this] at e
    exact absurd rfl e
structure Txt (mg : Str → Option Value) (K : PySem.W.Frag) (base : Heap) (C : CC) : Prop where
  ct : ∀ y d, C.ct.lookup y = some d → ∃ u v, mg y = some u ∧ RelV v u ∧ ∀ H th, RepV K H th d v
  bl : ∀ y, C.bl.contains y = true → mg y = none
  gl : ∀ x a, PySem.W.nsIn K mainGlobals x = some (some (.ref a)) → mg x = some (.ref a)
  fa : ∀ x, C.fs.contains x = true → ∃ a, PySem.W.nsIn K mainGlobals x = some (some (.ref a))
  er : ∀ c, C.er.contains c = true → ErrOk mg base c
theorem fn_ok {P : Program} {w : World} {K : PySem.W.Frag} {mg : Str → Option Value} {base : Heap} {x qual : Str} {st : Stmt} {f : Addr} {fd : FuncData} {N ps : List Str} {k : Nat} {C : CC} {G : List Den} {b : List PSt}
    (F : Fun K x qual st f fd) (S : FnScope N ps (defScope st)) (T : Txt mg K base C) (tw : ∀ P' W ws, C.tw = some (P', W, ws) → ∃ Pc, mg P' = some (.ref Pc) ∧ WordOk P w K mg base k W ws ∧ ∀ c d, ws.lookup c = some d → PySem.W.exmOne K (ecV mg c) (.ref Pc) = some true)
    (hN : C.N = N) (hnm : C.nm = (defScope st).names) (hb : ∀ X EX, CtxS X C G k EX → TwOk X C k → PSs X (defBody st) (rdSs X.K G EX b))
    (hfs : ∀ (i : Nat) y g, C.fs[i]? = some y → G[i]? = some g → FnX P w K mg base k y g) :
    FnOk P w K mg base (CXM P w) (k + 1) f fd ps (spOf K mg ps.length (cutDen (runF G ps.length N.length b))) := by
  obtain ⟨oc, od, kV, doc, pm, an, cdv, ct, osl, rfl, lk, hcd⟩ := F.ex
  refine fn_of lk hcd S (fun vs H Q E h => h.1) fun A outer s H vs Q E hr h => ?_
  obtain ⟨hl, th, h, ds, wd, rv, q⟩ := h
  have mono : ∀ cls d H', toE mg (fun c H => E (ecV mg c) none H) cls d H' → E cls none H' := fun cls d H' ⟨c, e, z⟩ => by rw [e]; exact z
  have O : CtxS (cxOf (CXM P w) P w K mg base N qual (defScope st) f cdv A outer s H E) C G k (fun c H => E (ecV mg c) none H) := {
    ok := {
      N := hN.symm
      nm := hnm.symm
      nd := by rw [hN]; exact S.nd
      calm := rfl
      room := hr
      ct := T.ct
      fs := fun i y g h1 h2 => ⟨hfs i y g h1 h2⟩
      bl := T.bl
      gl := T.gl
      fa := T.fa }
    xc := fun pins σ H1 s1 e s' I hc => by
      obtain ⟨ea, C, B, H', a1, a2, a3, a4, a5, a6, a7, a8, a9⟩ := hc
      exact xc_def pins σ H1 s1 e s' I ⟨ea, C, B, H', a1, a2, a3, a4, a5, a6, a7, a8, mono _ _ _ a9⟩
    xm := .inr fun I hx q => xm_def I hx (mono _ _ _ q)
    st := ⟨rfl, rfl, rfl⟩
    af := fun _ => rfl
    er := T.er
    fn := fun y _ => .inl rfl
    own := xc_own }
  refine ⟨_, hb _ _ O tw, th, startE N.length ds, h, wd, startE_env rv, ?_⟩
  have hdl : ds.length = ps.length := by rw [rv.length]; exact hl
  cases e : exSs G b (startE N.length ds) h with
  | rt d h1 =>
    have er : runF G ps.length N.length b ds h = .ok d h1 := by unfold runF; rw [if_pos hdl, e]
    exact cut_ok wd er q
  | nx ρ' h1 =>
    have er : runF G ps.length N.length b ds h = .ok .non h1 := by unfold runF; rw [if_pos hdl, e]
    have := cut_ok wd er q
    exact fun σ' H' th' _ w' g => this .non H' th' .non w' g
  | bk ρ' h1 =>
    have er : runF G ps.length N.length b ds h = .bad := by unfold runF; rw [if_pos hdl, e]
    unfold cutDen at q
    rw [er] at q
    exact q.elim
  | ct ρ' h1 =>
    have er : runF G ps.length N.length b ds h = .bad := by unfold runF; rw [if_pos hdl, e]
    unfold cutDen at q
    rw [er] at q
    exact q.elim
  | exc c ρ' h1 =>
    have er : runF G ps.length N.length b ds h = .exc c h1 := by unfold runF; rw [if_pos hdl, e]
    exact cut_exc wd er q
  | bad =>
    have er : runF G ps.length N.length b ds h = .bad := by unfold runF; rw [if_pos hdl, e]
    unfold cutDen at q
    rw [er] at q
    exact q.elim
theorem fn_x {P : Program} {w : World} {K : PySem.W.Frag} {mg : Str → Option Value} {base : Heap} {x qual : Str} {st : Stmt} {f : Addr} {fd : FuncData} {N ps : List Str} {k : Nat} {C : CC} {G : List Den} {b : List PSt}
    (hm : mg x = some (.ref f)) (F : Fun K x qual st f fd) (S : FnScope N ps (defScope st)) (hbd : Binds K fd ps []) (T : Txt mg K base C) (tw : ∀ P' W ws, C.tw = some (P', W, ws) → ∃ Pc, mg P' = some (.ref Pc) ∧ WordOk P w K mg base k W ws ∧ ∀ c d, ws.lookup c = some d → PySem.W.exmOne K (ecV mg c) (.ref Pc) = some true)
    (hN : C.N = N) (hnm : C.nm = (defScope st).names) (hb : ∀ X EX, CtxS X C G k EX → TwOk X C k → PSs X (defBody st) (rdSs X.K G EX b))
    (hfs : ∀ (i : Nat) y g, C.fs[i]? = some y → G[i]? = some g → FnX P w K mg base k y g) :
    FnX P w K mg base (k + 1) x (cutDen (runF G ps.length N.length b)) :=
  ⟨f, fd, ps, hm, F.kp, fn_ok F S T tw hN hnm hb hfs, hbd, fun ds h e => runF_len e⟩
end MP
namespace MP
open PySem PySem.Spec PyProof.Rows PySem.W PySem.Builtin PySem.Builtin.Getset_descriptor
section
variable {prog : Program} {w : World} {A : Around} {E : Value → Shared → Prop} {s : Shared} {K : PySem.W.Frag} {x C : Addr} {ob : Obj}
theorem exc_check {M : Model} {hh : Heap} {g : Array GenState} {d : Drawn} {t : Nat} {os : OsState} {nameV : Value} {Q : Unit → Shared → Prop} (L0 : Looks M hh (typeOf (.ref x)) (.ref C)) (L4 : Looks M hh (isSubtype (.ref C) (.type "BaseException")) true) (hq : Q () ⟨hh, g, d, t, os⟩) :
    wpAny M A (checkBuiltinCall "BaseException.__getattribute__" ⟨[.ref x, nameV], []⟩) Q E ⟨hh, g, d, t, os⟩ := by
  have hk : builtinKind "BaseException.__getattribute__" = some .slot := by decide +kernel
  have hsplit : splitId "BaseException.__getattribute__" = some ("BaseException", "__getattribute__") := by decide +kernel
  have ha := PySem.F.args_bexc_ga (.ref x) nameV
  simp only [checkBuiltinCall, hk, hsplit]
  refine wpAny_bind ?_
  · unfold isInstance
    refine wpAny_bind (L0.at (L4.at ?_))
    repeat (first | assumption | wp_step)
    first | exact hq | skip
theorem cls_get {R : Result → Shared → Prop} {hh : Heap} {g : Array GenState} {d : Drawn} {t : Nat} {os : OsState} {tp : Value} (X : K.In hh) (L0 : Looks (model prog w) hh (typeOf (.ref x)) (.ref C)) (hm : mroIn K C (.type "object") = some true) (h : R (.ok (.ret (.ref C))) ⟨hh, g, d, t, os⟩) :
    codeAny (model prog w) A (.call (.builtin "getset_descriptor.__get__") ⟨[.builtin "object.__class__", .ref x, tp], []⟩) R ⟨hh, g, d, t, os⟩ := by
  have L1 := looks_mroIn (M := model prog w) X hm
  refine codeAny_call_builtin KF.slot_gs.plain KF.entry_gs (KF.slot_gs.check _ _ _ _ _ _ _ _ KF.type_class (KF.args_gs _ _ _) ?_)
  (unfold Builtin.«getset_descriptor.__get__» descrGet; rw [dga_obj]; refine wpAny_bind (wpAny_pure ?_))
  (unfold descrGetter descrCheckInstance descrNameAndClass isInstance; simp only [KF.owner_class])
  repeat lk
  refine ⟨Code.quiet_builtin _ (by decide +kernel), codeAny_builtin KF.entry_class ?_⟩
  (unfold Builtin.«object.__class__» shownTypeOf; repeat lk); exact h
structure IsC (K : PySem.W.Frag) (C : Addr) : Prop where
  cls : (clsIn K C).isSome = true
  ga : findIn K (.ref C) "__getattribute__" = some (some (.builtin "BaseException.__getattribute__"))
  gn : findIn K (.ref C) "__getattr__" = some none
  cl : findIn K (.ref C) "__class__" = some (some (.builtin "object.__class__"))
  gt : specialIn K (.builtin "object.__class__") "__get__" = some (some (.builtin "getset_descriptor.__get__"))
  tk : takesIn K (.builtin "object.__class__") = some true
  mo : mroIn K C (.type "object") = some true
  mb : mroIn K C (.type "BaseException") = some true
theorem exc_ca {Q : Option Value → Shared → Prop} (X : K.In s.heap) (Z : IsC K C) (hx : s.heap.get? x = some ob) (hc : ob.cls = .ref C) (h : Q (some (.ref C)) { s with toks := s.toks + 1 }) : wpAny (model prog w) A (getAttr? (.ref x) "__class__") Q E s := by
  obtain ⟨hh, g, d, t, os⟩ := s
  have L0 : Looks (model prog w) hh (typeOf (.ref x)) (.ref C) := hc ▸ (Looks.ld hx).andThen .now
  have L1 := looks_findIn (M := model prog w) X Z.ga
  have L2 := looks_findIn (M := model prog w) X Z.gn
  have L3 : Looks (model prog w) hh (Builtin.ObjectAttr.find (.ref x) (.ref C) "__class__") (.bind (.builtin "getset_descriptor.__get__") (.builtin "object.__class__")) :=
    (looks_findIn (M := model prog w) X Z.cl).andThen ((looks_specialIn (M := model prog w) X Z.gt).andThen ((show Looks (model prog w) hh (Builtin.ObjectAttr.dataDescriptor? (some (.builtin "object.__class__")) (some (.builtin "getset_descriptor.__get__"))) (some (.builtin "getset_descriptor.__get__", .builtin "object.__class__")) from (looks_takesIn (M := model prog w) X Z.tk).andThen .now).andThen (Looks.tag .now)))
  have L4 := looks_mroIn (M := model prog w) X Z.mb
  unfold getAttr? getAttrBy? getAttrBy
  refine wpAny_bind (wpAny_mkText (wpAny_bind (wpAny_attempt (wpAny_holding (wpAny_bind (L0.at (wpAny_bind (L1.at ?_))))))))
  unfold getAttrByItsOwn hookBefore
  dsimp only
  rw [if_neg (show ¬ ((onTheHeap (Value.ref C) && Value.builtin "BaseException.__getattribute__" == Value.builtin "object.__getattribute__") = true) by rw [show (Value.builtin "BaseException.__getattribute__" == Value.builtin "object.__getattribute__") = false by decide +kernel]; simp)]
  rw [if_pos (show onTheHeap (Value.ref C) = true from rfl)]
  refine wpAny_bind (L2.at ?_)
  refine wpAny_bind (wpAny_attempt (wpAny_holding ?_))
  unfold callGetattribute
  rw [if_neg (by simp)]
  unfold boundAndCalled
  have hbd : bindSpecial (Value.builtin "BaseException.__getattribute__") (Value.ref x) = pure (Value.builtin "BaseException.__getattribute__", [Value.ref x]) := PySem.F.excAttr_ValueError.ga.bind (.ref x)
  refine wpAny_bind (wpAny_of_eq hbd ?_)
  show wpAny _ _ (call (.builtin "BaseException.__getattribute__") [.ref x, .str (Str.ofString "__class__") t]) _ _ _
  refine wpAny_call (codeAny_call_builtin PySem.F.excAttr_ValueError.ga.plain PySem.F.entry_bexc_ga ?_)
  refine exc_check L0 L4 ?_
  show wpAny _ _ (typeOf (.ref x) >>= _) _ _ _
  refine wpAny_bind (L0.at ?_)
  refine wpAny_bind (L3.at ?_)
  dsimp only
  unfold Builtin.ObjectAttr.bindTo
  dsimp only
  refine wpAny_bind (wpAny_holding (wpAny_call (cls_get (tp := .ref C) X L0 Z.mo ?_)))
  exact wpAny_pure (handed_on rfl (wpAny_pure h))
theorem kitx_exc (Z : IsC K C) (hc : ob.cls = .ref C) : KitX K (.ref x) (.ref C) (fun h => h.get? x = some ob) where
  ty := fun M h X hx => hc ▸ (Looks.ld hx).andThen .now
  it := fun M h X _ => by
    have hcl := Z.cls
    unfold clsIn at hcl
    split at hcl
    · rename_i c' d' cd' sl' ho
      intro A' Q' E' s' k q
      unfold isType loadHead
      exact wpAny_bind (wpAny_loadPart (k _ _ (X _ _ ho)) (wpAny_pure q))
    · cases hcl
  ne := fun h tp dd its n sl X e => by
    have hcl := Z.cls
    unfold clsIn at hcl
    split at hcl
    · rename_i c' d' cd' sl' ho
      by_cases z : C = tp
      · subst z
        have := X _ _ ho
        rw [e] at this
        cases this
      · simpa using z
    · cases hcl
  ca := fun X hx h => exc_ca X Z hx hc h
theorem isi_exc {c : Value} {b : Bool} {Q : Value → Shared → Prop} (Z : IsC K C) (X : K.In s.heap) (hx : s.heap.get? x = some ob) (hc : ob.cls = .ref C) (e : kitOne K (.ref C) c = some b) (h : ∀ tk, Q (.bool b) { s with toks := tk }) : wpAny (model prog w) A (call (.builtin "isinstance") [.ref x, c]) Q E s :=
  kia_one (kitx_exc Z hc) X hx e (by simp) h
end
end MP
namespace MP
open PySem PySem.Spec PyProof.Rows L2
def HandX (X : Cx) (x : Addr) (ob : Obj) : Prop := X.A.handled = some (.ref x) ∧ X.s₀.heap.get? x = some ob ∧ (∃ vs, ob.data = .fields vs ∧ vs[2]? = some .none) ∧ X.H₀ x = none ∧ x ∉ X.fs ∧ x ∉ X.ex
section
variable {X : Cx} {pins : List (Addr × Obj)} {σ : L2.St} {H : Hp} {s : Shared} {x : Addr} {ob : Obj}
theorem HandX.obj (hh : HandX X x ob) (I : Inv X pins σ H s) : s.heap.get? x = some ob := I.base.keep x ob hh.2.1 hh.2.2.2.1 hh.2.2.2.2.1 hh.2.2.2.2.2
theorem HandX.free (hh : HandX X x ob) (I : Inv X pins σ H s) : H x = none := I.base.free x ob hh.2.1 hh.2.2.2.1 hh.2.2.2.2.2
theorem HandX.at (hh : HandX X x ob) (I : Inv X pins σ H s) : HandAt X.A s.heap := by
  obtain ⟨vs, d, c⟩ := hh.2.2.1
  exact .inr ⟨x, ob, vs, hh.1, hh.obj I, d, c⟩
theorem HandX.ne (hh : HandX X x ob) {it : Addr} (h : it ∈ X.ex ∨ X.s₀.heap.objs.size ≤ it) : x ≠ it := fun z => by
  rcases h with h | h
  · exact hh.2.2.2.2.2 (z ▸ h)
  · exact absurd (Nat.lt_of_lt_of_le (Heap.lt_size hh.2.1) h) (by rw [z]; exact Nat.lt_irrefl _)
theorem done_hand {a it : Addr} {i : Nat} {xs : List V} {E : Value → Shared → Prop} (hh : HandX X x ob) (I : Inv X pins σ H s) (hf : FpOk X pins H it) (st : s.heap.IsListIter it a i) (hq : SqL X.K H a xs) (hx : xs.length ≤ i) :
    wpAny (model X.prog X.w) X.A (pyNext (.ref it)) (fun r s1 => r = none ∧ Inv X pins σ H s1) E s := by
  obtain ⟨its, rv, p, hz⟩ := I.list hq
  obtain ⟨f0, f1, f2, f3, f4, f5⟩ := hf
  have hl := rv.length
  refine next_list_end (hh.at I) st p.isList (by simp; omega) (fun y e => ?_) fun h' eb => ⟨rfl, I.turned (t' := s.toks) (fun b o hb e => eb b o hb e) f0 f1 f3 f4 f5⟩
  rw [hh.1] at e
  cases e
  exact hh.ne f3
theorem item_hand {a it : Addr} {i : Nat} {xs : List V} {y : V} {tg : Expr} {E : Value → Shared → Prop} (I : Inv X pins σ H s) (hf : FpOk X pins H it) (st : s.heap.IsListIter it a i) (hq : SqL X.K H a xs) (hx : xs[i]? = some y) :
    wpAny (model X.prog X.w) X.A (pyNext (.ref it)) (fun r s1 => ∃ u, r = some u ∧ wpAny (model X.prog X.w) X.A (letOwnedTupleGo tg (.ref it) u) (fun _ s2 => Inv X pins σ H s2 ∧ RelV y u ∧ s2.heap.IsListIter it a (i + 1)) E s1) E s := by
  obtain ⟨its, rv, p, hz⟩ := I.list hq
  obtain ⟨u, hu, ru⟩ := rv.get hx
  obtain ⟨f0, f1, f2, f3, f4, f5⟩ := hf
  refine wpAny_pyNext_list_item st p.isList (x := u) (by simpa using hu) fun h' st' sb => ?_
  have I1 : Inv X pins σ H { s with heap := h' } := I.turned (t' := s.toks) (fun b o hb e => (sb.2 b hb).trans e) f0 f1 f3 f4 f5
  obtain ⟨o, e, c, d⟩ := id st'
  exact ⟨u, rfl, go_of (s := { s with heap := h' }) e c d (by decide) ⟨I1, ru, st'⟩⟩
noncomputable def x0 (X : Cx) : Cx := { X with A := { X.A with handled := none }, calm := true }
theorem inv_x0 (I : Inv X pins σ H s) : Inv (x0 X) pins σ H s :=
  ⟨⟨I.ok.mod, I.ok.kind, I.ok.glob, I.ok.blt, I.ok.above, I.ok.inj, I.ok.has, I.ok.cab, fun _ => rfl, I.ok.frames, I.ok.stk, I.ok.exf, I.ok.bs, I.ok.bsz, I.ok.noex, I.ok.exfs, I.ok.funs, I.ok.frf⟩, I.os, I.bare, I.base, I.loc, I.cell, I.free, I.freeC, I.pin, I.hok, I.len⟩
theorem inv_xh (hc : X.calm = false) (I : Inv (x0 X) pins σ H s) : Inv X pins σ H s :=
  ⟨⟨I.ok.mod, I.ok.kind, I.ok.glob, I.ok.blt, I.ok.above, I.ok.inj, I.ok.has, I.ok.cab, fun z => (by rw [hc] at z; cases z), I.ok.frames, I.ok.stk, I.ok.exf, I.ok.bs, I.ok.bsz, I.ok.noex, I.ok.exfs, I.ok.funs, I.ok.frf⟩, I.os, I.bare, I.base, I.loc, I.cell, I.free, I.freeC, I.pin, I.hok, I.len⟩
end
noncomputable def bI (b : Bool) : V := .int (if b then 1 else 0)
section
variable {X : Cx} {C : CC} {G : List Den} {k : Nat} {f : Str} {sc : Scope} {x : Addr} {ob : Obj} {int : Str}
theorem comp_hand {pins : List (Addr × Obj)} {σ : L2.St} {H : Hp} {s2 : Shared} {iter : Expr} {px p1 p2 p3 pos : Pos} {it p : Addr} {bs : List Bool} {RR : Value → Addr → Result → Shared → Prop} {E : Value → Shared → Prop}
    (hh : HandX X x ob) (hc : X.calm = false) (I : Inv X pins σ H s2) (O : CtxOk (x0 X) C G k) (Q : CompOk C f sc) (hfr : freeNames sc.names = [])
    (hi : Gl (cX' (x0 X) f sc 0 s2 H [it] fun _ _ => True) "int") (hm : X.mg "int" = none) (hfd : (f == ("__debug__" : Str)) = false ∧ (f == ("__classdict__" : Str)) = false)
    (hq : SqL X.K H p (bs.map V.bl)) (st : s2.heap.IsListIter it p 0) (hf : FpOk X pins H it) (hz : bs.length ≤ 64)
    (hRR : ∀ s' H', (∃ (oC : Obj) (m : Str → Option Value), s'.heap.get? (s2.heap.objs.size + 1) = some oC ∧ (∀ v, oC.data ≠ .cell v) ∧ s'.heap.Ns (s2.heap.objs.size + 1) m ∧
      H' = upd H s2.heap.objs.size (.lst (bs.map bI)) ∧ H s2.heap.objs.size = none ∧ Inv X (pins ++ [(s2.heap.objs.size + 1, oC)]) σ H' s') → RR (.ref s2.heap.objs.size) (s2.heap.objs.size + 1) (.ok .next) s') :
    wpAny (model X.prog X.w) X.A (newList []) (fun acc s₃ => wpAny (model X.prog X.w) X.A (newFunctionEnv sc X.env.globals (clo X sc) [] X.env.qual none .none (some X.env)) (fun cenv s₄ =>
      codeAny (model X.prog X.w) X.A (.compStart (.ListComp (.Call (.Name "int" p1) [.Name f p2] [] p3) [⟨.Name f px, iter, [], 0⟩] sc pos) 0 (.ref it) acc { cenv with scope := relabel sc X.env }) (RR acc cenv.locals) s₄) E s₃) E s2 := by
  have hv : varsOf C (freeNames sc.names) = some [] := by rw [hfr]; rfl
  have hff : ∀ b ∈ [it], FpOk (x0 X) pins H b := fun b hb => by
    have e : b = it := by simpa using hb
    subst e
    exact hf
  have hfo : ∀ b ∈ [it], ∃ o, s2.heap.get? b = some o := fun b hb => by
    have e : b = it := by simpa using hb
    subst e
    obtain ⟨o, e, _⟩ := st
    exact ⟨o, e⟩
  have it_lt : it < s2.heap.objs.size := by obtain ⟨o, e⟩ := hfo it (by simp); exact Heap.lt_size e
  refine wpAny_newObj_type (wpAny_newFunctionEnv Q.nocell (by intro y hy; simp at hy) (fun h₁ hns₁ hsb₁ => ?_) Q.kind)
  dsimp only at hns₁ hsb₁ ⊢
  have hC : (s2.heap.push { cls := .type "list", dict := none, data := .seq ([] : List Value).toArray }).objs.size = s2.heap.objs.size + 1 := by rw [Heap.size_push]
  rw [hC] at hns₁ hsb₁
  have k4 : ∀ b o, s2.heap.get? b = some o → h₁.get? b = some o := fun b o e => hsb₁.extBut b o (Nat.ne_of_lt (Nat.lt_succ_of_lt (Heap.lt_size e))) (Heap.get?_push_of_some _ (Heap.get?_push_of_some _ e))
  have hacc : h₁.get? s2.heap.objs.size = some (lobj [] 0) := hsb₁.extBut _ _ (Nat.ne_of_lt (Nat.lt_succ_self _)) (Heap.get?_push_of_some _ (Heap.get?_push_size _ rfl))
  generalize hxe : (notedBy (model X.prog X.w) X.A (compEnvC sc (clo X sc) (s2.heap.objs.size + 1) X.env) fun e s' => RR (.ref s2.heap.objs.size) (s2.heap.objs.size + 1) (.error e) s') = xe
  have I4 := inv_comp (xe := xe) (tk := s2.toks + ([] : List (Str × Value)).length) (inv_x0 I) O Q hv hff hfo k4 hacc (fun v z => nomatch z) hns₁
  have I4 : Inv (cX' X f sc (s2.heap.objs.size + 1) s2 H [it] xe) [(s2.heap.objs.size, lobj [] 0)] [none] H { s2 with heap := h₁, toks := s2.toks + ([] : List (Str × Value)).length } := inv_xh hc I4
  have hO := ctx_comp (fp := [it]) (xe := xe) (inv_x0 I) O Q (s2.heap.objs.size + 1)
  have cl_lt : ∀ y c, X.env.cells.lookup y = some c → c < s2.heap.objs.size := fun y c e => let ⟨v, hv⟩ := I.cell y c e; hv.lt
  -- the handled one stands
  have hh' : HandX (cX' X f sc (s2.heap.objs.size + 1) s2 H [it] xe) x ob := by
    refine ⟨hh.1, hh.obj I, hh.2.2.1, hh.free I, fun hb => ?_, fun hb => ?_⟩
    · rcases List.mem_cons.mp (I.stkSub x hb) with e | e
      · exact absurd (Nat.lt_of_lt_of_le (Heap.lt_size hh.2.1) I.ok.above) (by rw [e]; exact Nat.lt_irrefl _)
      · exact hh.2.2.2.2.1 e
    · have e : x = it := by simpa [compCx] using hb
      exact hh.ne hf.2.2.2.1 e
  have hq' : SqL (cX' X f sc (s2.heap.objs.size + 1) s2 H [it] xe).K H p (bs.map V.bl) := hq
  have gI : Gl (cX' X f sc (s2.heap.objs.size + 1) s2 H [it] xe) "int" := hi
  have mI : (cX' X f sc (s2.heap.objs.size + 1) s2 H [it] xe).mg "int" = none := hm
  have fin : ∀ s' its n xv, Inv (cX' X f sc (s2.heap.objs.size + 1) s2 H [it] xe) [(s2.heap.objs.size, lobj its n)] [xv] H s' → Vals (bs.map bI) its → RR (.ref s2.heap.objs.size) (s2.heap.objs.size + 1) (.ok .next) s' := by
    intro s' its n xv I' rv
    have J1 : Inv X pins σ H s' := I.call' I'.os I'.base I'.hok I'.bare fun b hb => ⟨(hff b hb).2.2.2.1, (hff b hb).2.1, (hff b hb).2.2.2.2.1, (hff b hb).2.2.2.2.2⟩
    obtain ⟨m, hn, _⟩ := I'.loc
    obtain ⟨oC, es, epo, hoC, hdC, _⟩ := id hn
    have hpa := I'.pin (s2.heap.objs.size, lobj its n) (List.mem_append_right _ List.mem_cons_self)
    have hCn : H (s2.heap.objs.size + 1) = none := I'.free
    have pin_lt : ∀ p ∈ X.pn ++ pins, p.1 < s2.heap.objs.size := fun p hp => Heap.lt_size (I.pin p hp).1
    have lsz : (bs.map bI).length ≤ sizeLine := by rw [List.length_map]; exact Nat.le_trans hz (by rw [sizeLine_eq]; decide)
    have J2 : Inv X pins σ (upd H s2.heap.objs.size (.lst (bs.map bI))) s' := J1.track hpa.2.1 (Ne.symm (Nat.ne_of_lt I.lt)) (.inr I.sz) (fun y c e => Nat.ne_of_lt (cl_lt y c e)) (fun p hp => Nat.ne_of_lt (pin_lt p hp)) hpa.1 rv lsz
    have hoC' : s'.heap.get? (s2.heap.objs.size + 1) = some oC := hoC
    have nocell : ∀ v, oC.data ≠ .cell v := fun v z => by rw [hdC] at z; cases z
    have J3 : Inv X (pins ++ [(s2.heap.objs.size + 1, oC)]) σ (upd H s2.heap.objs.size (.lst (bs.map bI))) s' := J2.pins_of fun p hp => by
      rcases List.mem_append.mp hp with z | z
      · exact J2.pin p (List.mem_append_right _ z)
      · have e : p = (s2.heap.objs.size + 1, oC) := by simpa using z
        subst e
        refine ⟨hoC', by rw [upd_ne (Nat.succ_ne_self _)]; exact hCn, Ne.symm (Nat.ne_of_lt (Nat.lt_succ_of_lt I.lt)), fun hb => ?_, nocell⟩
        exact I.nofs (Nat.le_succ _) hb
    exact hRR s' _ ⟨oC, m, hoC', nocell, hn, rfl, hpa.2.1, J3⟩
  have st4 : h₁.IsListIter it p 0 := st.at fun o e => k4 it o e
  generalize hX' : cX' X f sc (s2.heap.objs.size + 1) s2 H [it] xe = X' at I4 hh' hq' gI mI fin
  have q1 : X'.prog = X.prog := by rw [← hX']; rfl
  have q2 : X'.w = X.w := by rw [← hX']; rfl
  have q4 : X'.A = X.A := by rw [← hX']; rfl
  have q5 : X'.env = compEnvC sc (clo X sc) (s2.heap.objs.size + 1) X.env := by rw [← hX']; rfl
  have q6 : X'.xe = xe := by rw [← hX']; rfl
  have q7 : X'.ex = [it] := by rw [← hX']; rfl
  have q8 : X'.pn = [] := by rw [← hX']; rfl
  have q9 : X'.s₀ = s2 := by rw [← hX']; rfl
  have eN : X'.N = [f] := by rw [← hX']; show f :: freeNames sc.names = _; rw [hfr]
  have nd' : X'.N.Nodup := by rw [eN]; simp
  have n0 : X'.N[0]? = some f := by rw [eN]; rfl
  have vf : Vis X'.env.scope f := .inl (by rw [q5]; exact lookup_relabel_local Q.loc)
  have okX := I4.ok
  have it_ne : s2.heap.objs.size ≠ it := Nat.ne_of_gt it_lt
  have fpok : ∀ {its : List Value} {ep : Nat}, FpOk X' [(s2.heap.objs.size, lobj its ep)] H it := fun {its ep} => by
    have hb' : it ∈ X'.ex := by rw [q7]; simp
    obtain ⟨e1, e2⟩ := okX.exf it hb'
    refine ⟨hf.1, e1, okX.exfs it hb', .inl hb', e2, fun p h e => ?_⟩
    rw [q8] at h
    have e' : p = (s2.heap.objs.size, lobj its ep) := by simpa using h
    rw [e'] at e
    exact it_ne e
  have pI : PE X' (.Call (.Name "int" p1) [.Name f p2] [] p3) (tCB (fun xs H Q => (∃ i, xs = [.int i] ∧ Q (.int i) H) ∨ ∃ k, xs = [.bl k] ∧ Q (.int (if k then 1 else 0)) H) (tCons (tVar 0) tNil)) :=
    pe_callTy call_int1 gI mI boot_int (pa_cons (pe_var n0 vf hfd.1 hfd.2) pa_nil rfl)
  have loop : codeAny (model X.prog X.w) X.A (.compLoop (.ListComp (.Call (.Name "int" p1) [.Name f p2] [] p3) [⟨.Name f px, iter, [], 0⟩] sc pos) 0 (.ref it) (.ref s2.heap.objs.size) (compEnvC sc (clo X sc) (s2.heap.objs.size + 1) X.env)) (RR (.ref s2.heap.objs.size) (s2.heap.objs.size + 1)) { s2 with heap := h₁, toks := s2.toks + ([] : List (Str × Value)).length } := by
    obtain ⟨L, hL⟩ : ∃ L : Nat → Shared → Prop, ∀ n s, L n s ↔ ∃ i its ep xv, n = bs.length - i ∧ i ≤ bs.length ∧ Inv X' [(s2.heap.objs.size, lobj its ep)] [xv] H s ∧ s.heap.IsListIter it p i ∧ Vals ((bs.take i).map bI) its := ⟨_, fun _ _ => Iff.rfl⟩
    refine codeAny_compLoop_go L ?_ bs.length
      ((hL _ _).mpr ⟨0, [], 0, none, rfl, Nat.zero_le _, I4, st4, .nil⟩)
    intro n s hn
    obtain ⟨i, its, ep, xv, rfl, hi', I5, st5, rv⟩ := (hL _ _).mp hn
    rw [hxe]
    by_cases hlt : i < bs.length
    · have item := item_hand (tg := .Name f px) (E := xe) I5 fpok st5 hq' (y := .bl bs[i]) (by rw [List.getElem?_map, List.getElem?_eq_getElem hlt]; rfl)
      rw [q1, q2, q4] at item
      refine thn item fun r s1 ⟨u, hr, h1⟩ => ?_
      subst hr
      refine thn h1 fun _ s6 ⟨I6, r6, st6⟩ => ?_
      have I6' := I6.pinned (fp := [it]) (fun b hb => by
        have e : b = it := by simpa using hb
        subst e
        exact fpok) (fun b hb => by
        have e : b = it := by simpa using hb
        subst e
        obtain ⟨o, e, c, d⟩ := st6
        exact ⟨o, e, fun v z => by rw [d] at z; cases z⟩)
      have asg := pg_name (X := X') (pos := px) nd' n0 (.inl (by rw [q5]; exact lookup_relabel_local Q.loc)) (.inr (by rw [q5]; exact lookup_relabel_local Q.loc)) _ s6 _ H (.bl bs[i]) u
        (fun σ' H' => σ' = [some (.bl bs[i])] ∧ H' = H) I6' r6 ⟨rfl, rfl⟩
      rw [q1, q2, q4, q5, q6] at asg
      refine thn asg fun _ s7 ⟨σ7, H7, I7, e7, e7'⟩ => ?_
      subst e7 e7'
      refine wpAny_tests_nil ?_
      rw [if_pos rfl]
      have run := pI _ s7 _ H7 (fun v H' => v = bI bs[i] ∧ H' = H7) I7 ⟨.bl bs[i], rfl, .inr ⟨bs[i], rfl, rfl, rfl⟩⟩
      rw [q1, q2, q4, q5, q6] at run
      refine thn run fun y s8 ⟨v, H8, I8, rv8, e8, e8'⟩ => ?_
      subst e8 e8'
      have accP := I8.pin (s2.heap.objs.size, lobj its ep) (List.mem_append_right _ (List.mem_append_left _ List.mem_cons_self))
      have a8 : s8.heap.get? s2.heap.objs.size = some (lobj its ep) := accP.1
      have hsz : its.toArray.size < sizeLine := by
        have := rv.length
        rw [List.length_map, List.length_take] at this
        rw [List.size_toArray, sizeLine_eq]
        omega
      refine call_meets F.slot_list_append ⟨_, a8, rfl⟩ F.entry_list_append (F.args_list_append_2 _ _) (PySem.list_append s2.heap.objs.size its.toArray ep y (by omega)) ⟨a8, ?_⟩
      have q := PySem.IsL.update a8 (fun a => a.push y)
      have ea : its.toArray.push y = (its ++ [y]).toArray := by simp
      rw [ea] at q
      obtain ⟨ep', q⟩ : ∃ n', (s8.heap.update s2.heap.objs.size (Obj.mapSeq fun a => a.push y)).get? s2.heap.objs.size = some (lobj (its ++ [y]) n') := ⟨_, q⟩
      obtain ⟨oi, ei, ci, di⟩ := id st6
      have it8 : s8.heap.get? it = some oi := (I8.pin (it, oi) (List.mem_append_right _ (List.mem_append_right _ (mem_pinsAt (by simp) ei)))).1
      have I8b : Inv X' (pinsAt [it] s6.heap) [some (.bl bs[i])] H8 s8 := I8.pins_of fun p hp => I8.pin p (List.mem_append_right _ (List.mem_append_right _ hp))
      have I9 : Inv X' (pinsAt [it] s6.heap) [some (.bl bs[i])] H8 { s8 with heap := s8.heap.update s2.heap.objs.size (Obj.mapSeq fun a => a.push y) } := by
        refine I8b.turned (t' := s8.toks) (it := s2.heap.objs.size) (fun b o hb e => (Heap.get?_update_other s8.heap _ (Ne.symm hb)).trans e) accP.2.1 accP.2.2.1 (.inr (by rw [q9]; exact Nat.le_refl _)) (by
          rw [q5]
          intro y c e
          exact Nat.ne_of_lt (cl_lt y c (clo_some (inv_x0 I) O Q e).2)) fun p hp e => ?_
        rw [q8] at hp
        have := (of_pinsAt (by simpa using hp)).1
        rw [e] at this
        exact it_ne (by simpa using this)
      have I10 : Inv X' [(s2.heap.objs.size, lobj (its ++ [y]) ep')] [some (.bl bs[i])] H8 { s8 with heap := s8.heap.update s2.heap.objs.size (Obj.mapSeq fun a => a.push y) } := I9.pins_of fun p hp => by
        have e : p = (s2.heap.objs.size, lobj (its ++ [y]) ep') := by simpa using hp
        subst e
        exact ⟨q, accP.2.1, accP.2.2.1, accP.2.2.2.1, fun v z => nomatch z⟩
      refine ⟨bs.length - (i + 1), by omega, (hL _ _).mpr ⟨i + 1, its ++ [y], ep', some (.bl bs[i]), rfl, hlt, I10, ?_, ?_⟩⟩
      · exact ⟨oi, (Heap.get?_update_other s8.heap _ it_ne).trans it8, ci, di⟩
      · rw [List.take_succ_eq_append_getElem hlt, List.map_append]
        exact rv.append (.cons rv8 .nil)
    · have hle : bs.length ≤ i := Nat.le_of_not_lt hlt
      have done := done_hand (E := xe) hh' I5 fpok st5 hq' (by rw [List.length_map]; exact hle)
      rw [q1, q2, q4] at done
      refine thn done fun r s1 ⟨hr, I6⟩ => ?_
      subst hr
      rw [List.take_of_length_le hle] at rv
      exact fin s1 its ep xv I6 rv
  rw [hC]
  exact codeAny_compStart_list loop (wpAny_pyIter_listiter st4 loop)
end
section
variable {X : Cx} {x : Addr} {ob : Obj} {C : CC} {G : List Den} {k : Nat}
theorem call_isiH {Ca : Addr} {c : Value} {cv : V} {b : Bool} (hh : HandX X x ob) (Z : IsC X.K Ca) (hc : ob.cls = .ref Ca) (hcv : ∀ u, RelV cv u → u = c) (e : PySem.W.kitOne X.K (.ref Ca) c = some b) :
    CallR X (.builtin "isinstance") (fun xs H Q => xs = [.ref x, cv] ∧ Q (.bl b) H) := by
  intro pins s σ H xs us Q I r h
  obtain ⟨rfl, q⟩ := h
  cases r with
  | cons r1 r2 =>
    cases r2 with
    | cons r3 r4 =>
      cases r4
      cases r1
      cases hcv _ r3
      exact isi_exc Z I.kIn (hh.obj I) hc e fun tk => ⟨.bl b, H, I.tok _, rfl, q⟩
theorem walk_listH {prog : Program} {w : World} {A : Around} {vs : Array Value} (hA : A.handled = some (.ref x)) (hd : ob.data = .fields vs) (h2 : vs[2]? = some .none) (I a : Addr) (ne : a ≠ I) (nx : x ≠ I) (items : Array Value) :
    Walks prog w A I [I, a, x] [I] items.size (fun i v => items[i]? = some v) (fun i h => h.IsListIter I a i ∧ h.IsList a items ∧ h.get? x = some ob) where
  sub := fun b hb => by
    have e : b = I := by simpa using hb
    simp [e]
  frame := fun i h h' ⟨s1, s2, s3⟩ k => by
    obtain ⟨o, e, r⟩ := s1
    obtain ⟨o2, e2, r2⟩ := s2
    exact ⟨⟨o, k I (by simp) o e, r⟩, ⟨o2, k a (by simp) o2 e2, r2⟩, k x (by simp) ob s3⟩
  item := fun i s Q E hi ⟨s1, s2, s3⟩ q => by
    refine wpAny_pyNext_list_item s1 s2 (x := items[i]) (Array.getElem?_eq_getElem hi) fun h' st' sb => ?_
    obtain ⟨o2, e2, r2⟩ := s2
    refine q items[i] h' s.toks (Array.getElem?_eq_getElem hi) ⟨st', ⟨o2, (sb.2 a ne).trans e2, r2⟩, (sb.2 x nx).trans s3⟩ fun b o hb e => (sb.2 b (by simpa using hb)).trans e
  done := fun s Q E ⟨s1, s2, s3⟩ q => by
    refine next_list_end (.inr ⟨x, ob, vs, hA, s3, hd, h2⟩) s1 s2 (by simp) (fun y e => ?_) fun h' eb => ?_
    · rw [hA] at e
      cases e
      exact nx
    · exact q h' s.toks fun b o hb e => eb b o (by simpa using hb) e
  self := fun i s Q E ⟨s1, s2, s3⟩ q => wpAny_pyIter_listiter s1 q
theorem preSum_succ (val : Nat → Int) (n : Nat) : preSum val (n + 1) = preSum val n + val n := by first | rfl | (show _ = _; simp [preSum])
theorem preSum_take (l : List Int) : ∀ n, n ≤ l.length → preSum (fun i => l.getD i 0) n = (l.take n).sum
  | 0, _ => by first | rfl | simp [preSum]
  | n + 1, h => by
    rw [preSum_succ, preSum_take l n (by omega), List.take_succ_eq_append_getElem (by omega), List.sum_append, List.getD_eq_getElem?_getD, List.getElem?_eq_getElem (by omega)]
    simp
theorem sum_bits : ∀ l : List Int, (∀ i ∈ l, 0 ≤ i ∧ i ≤ 1) → 0 ≤ l.sum ∧ l.sum ≤ l.length
  | [], _ => by simp
  | a :: l, h => by
    have h1 := h a (by simp)
    have h2 := sum_bits l fun i hi => h i (by simp [hi])
    simp only [List.sum_cons, List.length_cons]
    omega
theorem call_sumH (hh : HandX X x ob) : CallR X (.builtin "sum") (fun xs H Q => ∃ (p : Addr) (l : List Int), xs = [.ref p] ∧ SqL X.K H p (l.map V.int) ∧ l.length ≤ 64 ∧ (∀ i ∈ l, 0 ≤ i ∧ i ≤ 1) ∧ Q (.int l.sum) H) := by
  intro pins s σ H xs us Q I r h
  obtain ⟨p, l, rfl, hq, hz, hl, q⟩ := h
  obtain ⟨u, rfl, rx⟩ := vals1 r
  cases rx
  obtain ⟨its, rv, pl, _⟩ := I.list hq
  obtain ⟨vs, d, c⟩ := hh.2.2.1
  have hlt : p < s.heap.objs.size := by obtain ⟨_, e, _⟩ := pl.isList; exact Heap.lt_size e
  have hxl : x < s.heap.objs.size := Heap.lt_size (hh.obj I)
  have hlen : its.toArray.size = l.length := by
    have := rv.length
    simp at this ⊢
    omega
  refine call_sum_walk (wpAny_pyIter_list pl.isList ?_)
  refine ⟨_, _, _, _, _, _, fun i => l.getD i 0, rfl, walk_listH (A := X.A.in1) (x := x) (ob := ob) hh.1 d c s.heap.objs.size p (Nat.ne_of_lt hlt) (Nat.ne_of_lt hxl) its.toArray, ⟨⟨_, Heap.get?_push_size _ rfl, rfl, rfl⟩, pl.isList.push _, Heap.get?_push_of_some _ (hh.obj I)⟩, fun b hb => ?_, fun i v hP => ?_, fun j hj => ?_, fun h' tk t' kk => ?_⟩
  · show b < (Heap.push _ _).objs.size
    rw [Heap.size_push]
    have hb : b = s.heap.objs.size ∨ b = p ∨ b = x := by simpa using hb
    rcases hb with e | e | e
    · rw [e]; exact Nat.lt_succ_self _
    · rw [e]; exact Nat.lt_succ_of_lt hlt
    · rw [e]; exact Nat.lt_succ_of_lt hxl
  · obtain ⟨y, e1, r1⟩ := vals_back rv (by simpa using hP)
    rw [List.getElem?_map] at e1
    cases e2 : l[i]? with
    | none => rw [e2] at e1; cases e1
    | some z =>
      rw [e2] at e1
      cases e1
      obtain ⟨t, rfl⟩ := r1
      exact ⟨t, by dsimp only; rw [List.getD_eq_getElem?_getD, e2]; rfl⟩
  · rw [hlen] at hj
    have h1 := sum_bits (l.take (j + 1)) fun i hi => hl i (List.mem_of_mem_take hi)
    rw [← preSum_take l (j + 1) (by omega), List.length_take] at h1
    have h2 := hl (l.getD j 0) (by rw [List.getD_eq_getElem?_getD, List.getElem?_eq_getElem hj]; exact List.getElem_mem _)
    have : ((2 : Int) ^ 63) = 9223372036854775808 := by decide
    unfold InLong
    dsimp only
    rw [this]
    constructor
    · constructor <;> omega
    · constructor <;> omega
  · rw [hlen, preSum_take l _ (Nat.le_refl _), List.take_length]
    exact ⟨.int l.sum, H, I.kept (it_kept kk), ⟨_, rfl⟩, q⟩
theorem mt_indexH : MtR X "list.index" (fun y xs H Q => ∃ (p : Addr) (bs : List Bool) (j : Nat), y = .ref p ∧ xs = [.bl true] ∧ SqL X.K H p (bs.map V.bl) ∧ bs.length ≤ 64 ∧ bs[j]? = some true ∧ (∀ m, m < j → bs[m]? = some false) ∧ Q (.int j) H) := by
  intro pins s σ H y xs v us Q I rx rs h
  obtain ⟨p, bs, j, rfl, rfl, hq, hz, hj, hm, q⟩ := h
  cases rx
  obtain ⟨u, rfl, ru⟩ := vals1 rs
  cases ru
  obtain ⟨its, rv, pl, _⟩ := I.list hq
  obtain ⟨⟨oc, od, oda, osl⟩, n, e, e1, e2, e3⟩ := pl
  cases e1
  cases e2
  cases e3
  have hlen := rv.length
  rw [List.length_map] at hlen
  have hjl : j < bs.length := (List.getElem?_eq_some_iff.mp hj).1
  have val : ∀ m (b : Bool), bs[m]? = some b → its[m]? = some (Value.bool b) := fun m b hb => by
    obtain ⟨u, hu, ru⟩ := rv.get (i := m) (x := .bl b) (by rw [List.getElem?_map, hb]; rfl)
    cases ru
    exact hu
  have hjs : j < its.toArray.size := by rw [List.size_toArray]; omega
  have at' : ∀ m (hm : m < its.toArray.size) (b : Bool), bs[m]? = some b → its.toArray[m] = Value.bool b := fun m hm b hb => by
    have := val m b hb
    rw [List.getElem_toArray]
    exact Option.some.inj ((List.getElem?_eq_getElem (by simpa using hm)).symm.trans this)
  refine call_meets F.slot_list_index ⟨_, e, rfl⟩ F.entry_list_index (F.args_list_index_2 _ _) (SeqAt.list_indexAt p its.toArray n none osl (.bool true) (fun v => match v with | .bool b => b | _ => false) j hjs ?_ ?_ ?_) ⟨e, fun y hy => ?_, ?_⟩
  · have : ((2 : Int) ^ 63) = 9223372036854775808 := by decide
    rw [this]; omega
  · rw [at' j hjs true hj]
  · intro m hm' hlt
    rw [at' m hm' false (hm m hlt)]
  · obtain ⟨i, hi, rfl⟩ := Array.getElem_of_mem hy
    have hi' : i < bs.length := by rw [List.size_toArray] at hi; omega
    rw [at' i hi bs[i] (List.getElem?_eq_getElem hi')]
    have := SeqAt.EqAt.bool_bool (A := X.A.in1) (s := s) bs[i] true
    rw [show (bs[i] == true) = bs[i] by cases bs[i] <;> rfl] at this
    exact this
  · exact ⟨.int j, H, I.tok _, ⟨_, rfl⟩, q⟩
noncomputable def tFlags (K : PySem.W.Frag) (j : Nat) : TE := fun σ H Q => ∃ (p : Addr) (bs : List Bool), σ[j]? = some (some (.ref p)) ∧ SqL K H p (bs.map V.bl) ∧ bs.length ≤ 64 ∧ ∀ q, H q = none → Q (.ref q) (upd H q (.lst (bs.map bI)))
theorem pe_flags {f fl : Str} {sc : Scope} {j : Nat} {px pf p1 p2 p3 pos : Pos} (hh : HandX X x ob) (hc : X.calm = false) (O : CtxOk (x0 X) C G k) (Q : CompOk C f sc) (hfr : freeNames sc.names = [])
    (hi : lk (reNames C sc.names) "int" = some .globalImplicit) (hm : X.mg "int" = none) (hfd : (f == ("__debug__" : Str)) = false ∧ (f == ("__classdict__" : Str)) = false) (hj : X.N[j]? = some fl) (hv : Vis X.env.scope fl) (hld : (fl == ("__debug__" : Str)) = false ∧ (fl == ("__classdict__" : Str)) = false) :
    PE X (.ListComp (.Call (.Name "int" p1) [.Name f p2] [] p3) [⟨.Name f px, .Name fl pf, [], 0⟩] sc pos) (tFlags X.K j) := by
  intro pins s σ H Qv I hq
  obtain ⟨p, bs, e1, e2, hz, kk⟩ := hq
  have hcl : ∀ y ∈ sc.names, y.2 = .free → ∃ c, X.env.cells.lookup y.1 = some c := cells_free (X := x0 X) (inv_x0 I) O Q
  rw [eval_ListComp]
  refine wpAny_comprehension_free (use := none) rfl (fun v => rfl) (closureFor_eq hcl) Q.kind Q.locs ?_
  refine thn (pe_var hj hv hld.1 hld.2 pins s σ H (fun v H' => v = .ref p ∧ H' = H) I ⟨_, e1, rfl, rfl⟩) fun v s1 ⟨v', H1, I1, r1, e3, e4⟩ => ?_
  subst e3 e4
  cases r1
  obtain ⟨its, rv, pl, _⟩ := I1.list e2
  refine wpAny_pyIter_list pl.isList ?_
  have hfr' : H1 s1.heap.objs.size = none := I1.hok.fresh (Nat.le_refl _)
  have I2 : Inv X pins σ H1 { s1 with heap := s1.heap.push { cls := Value.type "list_iterator", data := Data.fields #[Value.ref p, Value.int 0 0] } } := I1.kept (t' := s1.toks) fun b o e => Heap.get?_push_of_some _ e
  have fp : FpOk X pins H1 s1.heap.objs.size := I1.fpOk (Nat.le_refl _) hfr'
  have gl : Gl (cX' (x0 X) f sc 0 { s1 with heap := s1.heap.push { cls := Value.type "list_iterator", data := Data.fields #[Value.ref p, Value.int 0 0] } } H1 [s1.heap.objs.size] fun _ _ => True) "int" := by
    have O' := ctx_comp (fp := [s1.heap.objs.size]) (xe := fun _ _ => True) (inv_x0 I2) O Q 0
    have e := lookupEq (x := "int") O'
    show List.lookup _ _ = _
    exact e.trans hi
  refine comp_hand (RR := fun acc Cc => compPost (model X.prog X.w) X.A X.xe none (EP X pins σ Qv) acc Cc) hh hc I2 O Q hfr gl hm hfd e2 ⟨_, Heap.get?_push_size _ rfl, rfl, rfl⟩ fp hz fun s' H' ⟨oC, m, hoC, nc, hn, eH, hacc, J3⟩ => ?_
  subst eH
  refine ⟨m, hn, fun h'' hs'' => ?_⟩
  generalize hs2 : ({ s1 with heap := s1.heap.push { cls := Value.type "list_iterator", data := Data.fields #[Value.ref p, Value.int 0 0] } } : Shared) = s2 at I2 hoC hn J3 hacc hs'' ⊢
  have J4 : Inv X pins σ (upd H1 s2.heap.objs.size (.lst (bs.map bI))) { s' with heap := h'' } := by
    have pc := J3.pin (s2.heap.objs.size + 1, oC) (List.mem_append_right _ (List.mem_append_right _ (by simp)))
    refine (J3.unpinned).turned (t' := s'.toks) (it := s2.heap.objs.size + 1) (fun b o hb e => hs''.extBut b o hb e) pc.2.1 pc.2.2.1 (.inr (Nat.le_trans I2.sz (Nat.le_succ _))) (fun y c e => ?_) fun p hp => ?_
    · obtain ⟨v, hv⟩ := I2.cell y c e
      exact Nat.ne_of_lt (Nat.lt_succ_of_lt hv.lt)
    · exact Nat.ne_of_lt (Nat.lt_succ_of_lt (Heap.lt_size (I2.pin p hp).1))
  exact ⟨.ref s2.heap.objs.size, _, J4, rfl, kk _ hacc⟩
end
theorem cls_some {K : W.Frag} {c : Addr} {od : Option Addr} {cd : ClassData} {sl : Array (Option Value)} (h : K.lookup c = some ⟨.type "type", od, .cls cd, sl⟩) : W.clsIn K c = some cd := by
  unfold W.clsIn
  rw [h]
theorem kit_own {K : W.Frag} {a c : Addr} {od : Option Addr} {cd : ClassData} {sl : Array (Option Value)} {b : Bool} (h : K.lookup c = some ⟨.type "type", od, .cls cd, sl⟩) (hm : W.mroIn K a (.ref c) = some b) : W.kitCls K (.ref a) (.ref c) = some b := by
  have ht : W.typeIn K (.ref c) = some (.type "type") := by
    unfold W.typeIn
    dsimp only
    rw [h]
    rfl
  unfold W.kitCls
  dsimp only
  rw [cls_some h, ht]
  exact hm
theorem kit_one {K : W.Frag} {a c : Addr} {od : Option Addr} {cd : ClassData} {sl : Array (Option Value)} {b : Bool} (h : K.lookup c = some ⟨.type "type", od, .cls cd, sl⟩) (hm : W.mroIn K a (.ref c) = some b) (hs : a = c → b = true) : W.kitOne K (.ref a) (.ref c) = some b := by
  unfold W.kitOne
  by_cases e : a = c
  · subst e
    rw [hs rfl, if_pos (by simp)]
  · rw [if_neg (by simpa using e)]
    exact kit_own h hm
theorem kit_val {K : W.Frag} {a : Addr} (hm : W.mroIn K a (.type "ValueError") = some true) : W.kitOne K (.ref a) (.type "ValueError") = some true := by
  unfold W.kitOne
  rw [if_neg (by simp)]
  unfold W.kitCls
  dsimp only
  rw [if_pos (by decide +kernel)]
  exact hm
theorem exm_own {K : W.Frag} {a c : Addr} {od : Option Addr} {cd : ClassData} {sl : Array (Option Value)} (h : K.lookup c = some ⟨.type "type", od, .cls cd, sl⟩) (hm : W.mroIn K a (.ref c) = some true) (hb : W.mroIn K c (.type "BaseException") = some true) : W.exmOne K (.ref a) (.ref c) = some true := by
  unfold W.exmOne
  have e : W.subIn K (.ref c) (.type "BaseException") = some true := hb
  rw [e, if_pos (by decide)]
  exact kit_own h hm
noncomputable def strKey (e : DictEntry) : Bool := match e.key with
  | .str _ _ => true
  | _ => false
theorem ns_ok {K : W.Frag} {N : Addr} {c : Value} {od : Option Addr} {es : Array DictEntry} {ep : Nat} {sl : Array (Option Value)} (h : K.lookup N = some ⟨c, od, .dict es ep, sl⟩) (hs : es.toList.all strKey = true) : W.nsOkIn K N = true := by
  unfold W.nsOkIn
  rw [h]
  rw [Array.all_toList] at hs
  exact hs
theorem own_cls {K : W.Frag} {h₀ : Heap} {mg : Str → Option Value} {x : Str} {a p : Addr} {od po : Option Addr} {nm qn : Str} {bs sub bm : List Value} {ns : Addr} {hd ab : Bool} {sn : List Str} {col : Option Bool} {k0 k1 k2 k3 k5 : Option Value} {pc : Value} {pcd : ClassData} {psl : Array (Option Value)} {nid : String}
    (X : K.In h₀) (G : h₀.Ns mainGlobals mg) (e : W.nsIn K mainGlobals x = some (some (Value.ref a)))
    (h0 : K.lookup a = some ⟨.type "type", od, .cls ⟨nm, bs, .ref a :: .ref p :: bm, ns, qn, hd, sn, sub, ab, col, false⟩, #[k0, k1, k2, k3, some (.builtin nid), k5]⟩) (hp : K.lookup p = some ⟨pc, po, .cls pcd, psl⟩)
    (o0 : W.nsOkIn K ns = true) (i0 : W.nsIn K ns "__init__" = some none) (o1 : W.nsOkIn K pcd.ns = true) (i1 : W.nsIn K pcd.ns "__init__" = some none) (hb : W.tailIn K bm bm = true) : OwnCls x a bm nid mg h₀ := by
  have ht : W.tailIn K bm (.ref p :: bm) = true := by
    rw [W.tailIn.eq_2, hp]
    dsimp only
    rw [o1, i1, hb]
    simp
  exact ⟨W.mg_of X G e, .ref p :: bm, ns, nm, qn, bs, hd, sn, sub, ab, col, od, k0, k1, k2, k3, k5, _, X _ _ h0, Heap.Ns.of_isNs (W.isNs_of_in X o0), W.nsMap_none_of_in X o0 i0, W.tail_of_in X ht⟩
noncomputable def wCx (P : Program) (w : World) (K : PySem.W.Frag) (mg : Str → Option Value) (base : Heap) (N : List Str) (qual : Str) (scope : Scope) (f : Addr) (cd : Value) (A : Around) (outer : List Env) (s : Shared) (H : Hp) : Cx :=
  { cxOf CX0 P w K mg base N qual scope f cd A outer s H E0 with calm := false, xe := fun _ _ => False }
theorem word_run {P : Program} {w : World} {K : PySem.W.Frag} {mg : Str → Option Value} {base : Heap} {x qual : Str} {st : Stmt} {f : Addr} {fd : FuncData} {N : List Str} {p : Str} {A : Around} {outer : List Env} {s : Shared} {H : Hp} {e : Addr} {Q : VK} {k : Nat}
    (F : Fun K x qual st f fd) (S : FnScope N [p] (defScope st)) (hb : Binds K fd [p] []) (hr : RoomH (k + 1) A) (e0 : Env0 P w K mg base A outer s H)
    (hbody : ∀ cdv, ∃ t, PSs (wCx P w K mg base N qual (defScope st) f cdv A outer s H) (defBody st) t ∧ t { nx := fun _ _ => False, rt := Q } (start N [.ref e]) H) :
    codeAny (model P w) A (.call (.ref f) ⟨[.ref e], []⟩) (L2.CR CX0 outer P w H s Q E0) s := by
  have hb := hb
  obtain ⟨oc, od, kV, doc, pm, an, cdv, ct, osl, rfl, lk, hcd⟩ := F.ex
  have KX : K.In s.heap := e0.mod.kin.keeps fun b o e => (e0.bs b o e).1
  have lim : s.heap.NoLimit := e0.mod.nolimit.keeps fun b o e => (e0.bs b o e).1
  have hkind : ∀ y ∈ [p].zip [Value.ref e], (defScope st).names.lookup y.1 = some .local ∨ ((defScope st).names.lookup y.1 = some .cell ∧ ((cellsFrom (s.heap.objs.size + 1) (defScope st).names []).lookup y.1).isSome = true) := fun ⟨n, v⟩ hy => by
    rcases S.par n (List.of_mem_zip hy).1 with q | q
    · exact .inl q
    · exact .inr ⟨q, PySem.W.cellsFrom_some _ _ _ (.inl q)⟩
  refine codeAny_call_function (by have := hr.dp; omega) (KX _ _ lk) rfl S.co S.gen rfl (PySem.W.codeRec_of KX hcd) (hb s [.ref e] KX rfl _ _ _ _ ?_)
  refine wpAny_newFunctionEnv_cells S.kind hkind fun env he s1 x => ?_
  subst he
  refine ⟨lim.keeps x.toInCall.keep, codeAny_func ?_⟩
  obtain ⟨t, ht, hq⟩ := hbody cdv
  have I0 : Inv (cxOf CX0 P w K mg base N qual (defScope st) f cdv { A with handled := none } outer s H E0) [] (start N [.ref e]) H s1 :=
    inv_start S rfl ⟨e0.frames, e0.mod, e0.bs, e0.bsz, e0.funs, e0.frf, e0.hok, e0.bare⟩ rfl (.cons rfl .nil) x
  have I : Inv (wCx P w K mg base N qual (defScope st) f cdv A outer s H) [] (start N [.ref e]) H s1 :=
    ⟨⟨I0.ok.mod, I0.ok.kind, I0.ok.glob, I0.ok.blt, I0.ok.above, I0.ok.inj, I0.ok.has, I0.ok.cab, fun z => (by cases z), Around.frames_deeper e0.frames, I0.ok.stk, I0.ok.exf, I0.ok.bs, I0.ok.bsz, I0.ok.noex, I0.ok.exfs, I0.ok.funs, I0.ok.frf⟩, I0.os, I0.bare, I0.base, I0.loc, I0.cell, I0.free, I0.freeC, I0.pin, I0.hok, I0.len⟩
  refine wpAny_mono (ht [] s1 (start N [.ref e]) H _ I hq) (fun fl s' hs => ?_) fun e s' hs => False.elim hs
  cases fl with
  | ret u =>
    obtain ⟨v, σ', H', J, rv, q⟩ := hs
    exact ⟨v, H', J.os, J.bare, J.base, J.hok, rv, q⟩
  | next =>
    obtain ⟨σ', H', J, q⟩ := hs
    exact False.elim q
  | brk =>
    obtain ⟨_, _, _, q⟩ := hs
    exact False.elim q
  | cont =>
    obtain ⟨_, _, _, q⟩ := hs
    exact False.elim q
end MP
namespace MP
open PySem
theorem bl_min2 {a b : Int} : bltD .min2 [.int a, .int b] = some (.int (if b < a then b else a)) := rfl
theorem bl_max2 {a b : Int} : bltD .max2 [.int a, .int b] = some (.int (if b > a then b else a)) := rfl
theorem bl_lenL {s : List D} : bltD .len [.lst s] = some (.int s.length) := rfl
theorem bl_lenS {s : List Nat} : bltD .len [.str s] = if s.length ≤ SZ then some (.int s.length) else none := rfl
theorem bl_intB {b : Bool} : bltD .int [.bl b] = some (.int (b2z b)) := rfl
theorem bi_add {a b : Int} : binD .Add (.int a) (.int b) = some (.int (a + b)) := rfl
theorem bi_sub {a b : Int} : binD .Sub (.int a) (.int b) = some (.int (a - b)) := rfl
theorem bi_mul {a b : Int} : binD .Mult (.int a) (.int b) = if mulOk a b then some (.int (a * b)) else none := rfl
section
variable {h : AH}
@[simp] theorem vw_non : vw h .non = .non := rfl
@[simp] theorem vw_bl {b : Bool} : vw h (.bl b) = .bl b := rfl
@[simp] theorem vw_int {i : Int} : vw h (.int i) = .int i := rfl
@[simp] theorem vw_str {s : List Nat} : vw h (.str s) = .str s := rfl
@[simp] theorem vw_tup {xs : List D} : vw h (.tup xs) = .tup xs := rfl
@[simp] theorem vw_lst {xs : List D} : vw h (.lst xs) = .lst xs := rfl
@[simp] theorem tru_non : tru h .non = some false := rfl
@[simp] theorem tru_bl {b : Bool} : tru h (.bl b) = some b := rfl
@[simp] theorem tru_int {i : Int} : tru h (.int i) = some (i != 0) := rfl
@[simp] theorem tru_tup {xs : List D} : tru h (.tup xs) = some (!xs.isEmpty) := rfl
@[simp] theorem tru_lst {xs : List D} : tru h (.lst xs) = some (!xs.isEmpty) := rfl
@[simp] theorem getV_zero {x : Option D} {ρ : Ev} : getV (x :: ρ) 0 = x := by simp [getV]
@[simp] theorem getV_succ {x : Option D} {ρ : Ev} {n : Nat} : getV (x :: ρ) (n + 1) = getV ρ n := by simp [getV]
@[simp] theorem pure_int {n : Nat} {i : Int} : pureN n (.int i) = true := by cases n <;> rfl
@[simp] theorem pure_bl {n : Nat} {i : Bool} : pureN n (.bl i) = true := by cases n <;> rfl
@[simp] theorem pure_non {n : Nat} : pureN n .non = true := by cases n <;> rfl
@[simp] theorem pure_str {n : Nat} {s : List Nat} : pureN n (.str s) = s.all fun c => decide (c < 1114112) := by cases n <;> rfl
@[simp] theorem pure_tup {n : Nat} {xs : List D} : pureN (n + 1) (.tup xs) = xs.all (pureN n) := rfl
@[simp] theorem pure_lst {n : Nat} {xs : List D} : pureN (n + 1) (.lst xs) = xs.all (pureN n) := rfl
@[simp] theorem pure_ints (n : Nat) (l : List Int) : (l.map D.int).all (pureN n) = true := by
  induction l with
  | nil => rfl
  | cons a l ih => simp
@[simp] theorem inD_ints (x : Int) (l : List Int) : inD (.int x) (l.map .int) = l.contains x := by
  induction l with
  | nil => rfl
  | cons a l ih =>
    simp only [inD, List.map_cons, List.any_cons, List.contains_cons] at ih ⊢
    rw [ih]
    have e : eqD (D.int a) (D.int x) = (x == a) := by
      show (a == x) = (x == a)
      by_cases q : a = x
      · subst q; rfl
      · rw [beq_eq_false_iff_ne.mpr q, beq_eq_false_iff_ne.mpr (Ne.symm q)]
    rw [e]
@[simp] theorem cmp_eq {a b : D} : cmpD .Eq a b = if pureD a && pureD b then some (eqD a b) else none := rfl
@[simp] theorem cmp_ne {a b : D} : cmpD .NotEq a b = if pureD a && pureD b then some (!eqD a b) else none := rfl
@[simp] theorem cmp_lt {a b : Int} : cmpD .Lt (.int a) (.int b) = some (decide (a < b)) := rfl
@[simp] theorem cmp_le {a b : Int} : cmpD .LtE (.int a) (.int b) = some (decide (a ≤ b)) := rfl
@[simp] theorem cmp_gt {a b : Int} : cmpD .Gt (.int a) (.int b) = some (decide (b < a)) := rfl
@[simp] theorem cmp_ge {a b : Int} : cmpD .GtE (.int a) (.int b) = some (decide (b ≤ a)) := rfl
@[simp] theorem cmp_in_tup {x : D} {ys : List D} : cmpD .In x (.tup ys) = if pureD x && pureDs ys then some (inD x ys) else none := by cases x <;> rfl
@[simp] theorem cmp_in_lst {x : D} {ys : List D} : cmpD .In x (.lst ys) = if pureD x && pureDs ys then some (inD x ys) else none := by cases x <;> rfl
@[simp] theorem cmp_nin_tup {x : D} {ys : List D} : cmpD .NotIn x (.tup ys) = if pureD x && pureDs ys then some (!inD x ys) else none := by cases x <;> rfl
@[simp] theorem cmp_nin_lst {x : D} {ys : List D} : cmpD .NotIn x (.lst ys) = if pureD x && pureDs ys then some (!inD x ys) else none := by cases x <;> rfl
@[simp] theorem eqD_int {a b : Int} : eqD (.int a) (.int b) = (a == b) := by simp [eqD]
@[simp] theorem eqD_str {a b : List Nat} : eqD (.str a) (.str b) = (a == b) := by simp [eqD]
@[simp] theorem eqD_bl {a b : Bool} : eqD (.bl a) (.bl b) = (a == b) := by simp [eqD]
@[simp] theorem eqD_non : eqD .non .non = true := by simp [eqD]
end
section
variable {G : List Den} {ρ : Ev} {h : AH}
@[simp] theorem ev_var {i : Nat} : ev G (.var i) ρ h = (getV ρ i).bind fun d => some (d, h) := by simp [ev]
@[simp] theorem ev_con {d : D} : ev G (.con d) ρ h = some (d, h) := by simp [ev]
end
end MP
namespace MP
open PySem
noncomputable def forB (G : List Den) (t : PTg) (b : List PSt) : D → Ev → AH → R := fun d ρ h => match setT t d ρ with
  | some ρ' => exSs G b ρ' h
  | none => .bad
theorem exS_for {G : List Den} {t : PTg} {it : PI} {b : List PSt} {ρ : Ev} {h h' : AH} {ds : List D} (e : evI G it ρ h = some (ds, h')) : exS G (.forS t it b) ρ h = forL (forB G t b) ds ρ h' := by
  rw [exS, e]; rfl
theorem forB_nm {G : List Den} {i : Nat} {b : List PSt} {d : D} {ρ : Ev} {h : AH} : forB G (.nm i) b d ρ h = exSs G b (ρ.set i (some d)) h := rfl
theorem evI_seq {G : List Den} {e : PX} {ρ : Ev} {h h' : AH} {d : D} {l : List D} (e1 : ev G e ρ h = some (d, h')) (e2 : itD h' d = some l) : evI G (.seq e) ρ h = some (l, h') := by
  rw [evI, e1]; simp [e2]
theorem evI_rng {G : List Den} {e : PX} {ρ : Ev} {h h' : AH} {n : Int} (e1 : ev G e ρ h = some (.int n, h')) (hn : -16777216 ≤ n ∧ n ≤ 16777216) : evI G (.rng e) ρ h = some ((List.range n.toNat).map fun i : Nat => D.int (i : Int), h') := by
  have hr : rngD (.int n) = some ((List.range n.toNat).map fun i => D.int (i : Nat)) := if_pos ⟨by omega, by omega⟩
  rw [evI, e1]; simp [hr]
theorem exSs_nx {G : List Den} {s : PSt} {r : List PSt} {ρ ρ' : Ev} {h h' : AH} (e : exS G s ρ h = .nx ρ' h') : exSs G (s :: r) ρ h = exSs G r ρ' h' := by rw [exSs, e]
theorem exSs_rt {G : List Den} {s : PSt} {r : List PSt} {ρ : Ev} {h h' : AH} {d : D} (e : exS G s ρ h = .rt d h') : exSs G (s :: r) ρ h = .rt d h' := by rw [exSs, e]
def EvP (G : List Den) (e : PX) (ρ : Ev) (h : AH) (P : D → Prop) : Prop := ∃ d, P d ∧ ev G e ρ h = some (d, h)
def EvI (G : List Den) (e : PX) (ρ : Ev) (h : AH) (P : Int → Prop) : Prop := ∃ i, P i ∧ ev G e ρ h = some (.int i, h)
def EvT (G : List Den) (e : PB) (ρ : Ev) (h : AH) (P : Bool → Prop) : Prop := ∃ b, P b ∧ evB G e ρ h = some (b, h)
def EvL (G : List Den) (es : List PX) (ρ : Ev) (h : AH) (P : List D → Prop) : Prop := ∃ ds, P ds ∧ evs G es ρ h = some (ds, h)
def EvA (G : List Den) (es : List PX) (ρ : Ev) (h : AH) (P : D → Prop) : Prop := EvL G es ρ h fun ds => ds.length = es.length ∧ ∀ d ∈ ds, P d
section
variable {G : List Den} {ρ : Ev} {h : AH} {a b e : PX} {P Q : Int → Prop} {R : Int → Prop}
theorem EvI.p {PD : D → Prop} (he : EvI G e ρ h P) (k : ∀ i, P i → PD (.int i)) : EvP G e ρ h PD := let ⟨i, p, q⟩ := he; ⟨.int i, k i p, q⟩
theorem EvI.mono (he : EvI G e ρ h P) (k : ∀ i, P i → Q i) : EvI G e ρ h Q := let ⟨i, p, q⟩ := he; ⟨i, k i p, q⟩
theorem EvP.mono {PD QD : D → Prop} (he : EvP G e ρ h PD) (k : ∀ i, PD i → QD i) : EvP G e ρ h QD := let ⟨i, p, q⟩ := he; ⟨i, k i p, q⟩
theorem ei_con {i : Int} (p : P i) : EvI G (.con (.int i)) ρ h P := ⟨i, p, by simp⟩
theorem ei_var {j : Nat} {i : Int} (g : getV ρ j = some (.int i)) (p : P i) : EvI G (.var j) ρ h P := ⟨i, p, by simp [g]⟩
theorem ep_con {d : D} {PD : D → Prop} (p : PD d) : EvP G (.con d) ρ h PD := ⟨d, p, by simp⟩
theorem ep_var {j : Nat} {d : D} {PD : D → Prop} (g : getV ρ j = some d) (p : PD d) : EvP G (.var j) ρ h PD := ⟨d, p, by simp [g]⟩
theorem ei_add (ha : EvI G a ρ h P) (hb : EvI G b ρ h Q) (k : ∀ x y, P x → Q y → R (x + y)) : EvI G (.bin .Add a b) ρ h R := by
  obtain ⟨x, p, e1⟩ := ha
  obtain ⟨y, q, e2⟩ := hb
  exact ⟨x + y, k x y p q, by simp [ev, e1, e2, bi_add]⟩
theorem ei_sub (ha : EvI G a ρ h P) (hb : EvI G b ρ h Q) (k : ∀ x y, P x → Q y → R (x - y)) : EvI G (.bin .Sub a b) ρ h R := by
  obtain ⟨x, p, e1⟩ := ha
  obtain ⟨y, q, e2⟩ := hb
  exact ⟨x - y, k x y p q, by simp [ev, e1, e2, bi_sub]⟩
theorem ei_mul (ha : EvI G a ρ h P) (hb : EvI G b ρ h Q) (ok : ∀ x y, P x → Q y → mulOk x y = true) (k : ∀ x y, P x → Q y → R (x * y)) : EvI G (.bin .Mult a b) ρ h R := by
  obtain ⟨x, p, e1⟩ := ha
  obtain ⟨y, q, e2⟩ := hb
  exact ⟨x * y, k x y p q, by simp [ev, e1, e2, bi_mul, ok x y p q]⟩
theorem ei_fdiv (ha : EvI G a ρ h P) (hb : EvI G b ρ h Q) (ok : ∀ y, Q y → 0 < y ∧ y < 2 ^ 100) (k : ∀ x y, P x → Q y → R (x / y)) : EvI G (.bin .FloorDiv a b) ρ h R := by
  obtain ⟨x, p, e1⟩ := ha
  obtain ⟨y, q, e2⟩ := hb
  refine ⟨x / y, k x y p q, ?_⟩
  have : binD .FloorDiv (.int x) (.int y) = some (.int (x / y)) := if_pos (ok y q)
  simp [ev, e1, e2, this]
theorem ei_mod (ha : EvI G a ρ h P) (hb : EvI G b ρ h Q) (ok : ∀ y, Q y → 0 < y) (k : ∀ x y, P x → Q y → R (x % y)) : EvI G (.bin .Mod a b) ρ h R := by
  obtain ⟨x, p, e1⟩ := ha
  obtain ⟨y, q, e2⟩ := hb
  refine ⟨x % y, k x y p q, ?_⟩
  have : binD .Mod (.int x) (.int y) = some (.int (x % y)) := if_pos (ok y q)
  simp [ev, e1, e2, this]
theorem ei_pow (ha : EvI G a ρ h P) (hb : EvI G b ρ h Q) (ok : ∀ x y, P x → Q y → 0 ≤ y ∧ y ≤ 1000000 ∧ x.natAbs < 2 ^ 64) (k : ∀ x y, P x → Q y → R (x ^ y.toNat)) : EvI G (.bin .Pow a b) ρ h R := by
  obtain ⟨x, p, e1⟩ := ha
  obtain ⟨y, q, e2⟩ := hb
  refine ⟨x ^ y.toNat, k x y p q, ?_⟩
  have : binD .Pow (.int x) (.int y) = some (.int (x ^ y.toNat)) := if_pos (ok x y p q)
  simp [ev, e1, e2, this]
theorem ei_shl (ha : EvI G a ρ h P) (hb : EvI G b ρ h Q) (ok : ∀ x y, P x → Q y → 0 ≤ y ∧ y ≤ 1000000 ∧ x.natAbs < 2 ^ 64) (k : ∀ x y, P x → Q y → R (x * 2 ^ y.toNat)) : EvI G (.bin .LShift a b) ρ h R := by
  obtain ⟨x, p, e1⟩ := ha
  obtain ⟨y, q, e2⟩ := hb
  refine ⟨x * 2 ^ y.toNat, k x y p q, ?_⟩
  have : binD .LShift (.int x) (.int y) = some (.int (x * 2 ^ y.toNat)) := if_pos (ok x y p q)
  simp [ev, e1, e2, this]
theorem ei_fdivC {n : Int} (ha : EvI G a ρ h P) (k : ∀ x, P x → R (x / n)) (ok : 0 < n ∧ n < 2 ^ 100 := by decide) : EvI G (.bin .FloorDiv a (.con (.int n))) ρ h R :=
  ei_fdiv ha (ei_con (P := fun y => y = n) rfl) (fun y e => by subst e; exact ok) fun x y p e => by subst e; exact k x p
theorem ei_modC {n : Int} (ha : EvI G a ρ h P) (k : ∀ x, P x → R (x % n)) (ok : 0 < n := by decide) : EvI G (.bin .Mod a (.con (.int n))) ρ h R :=
  ei_mod ha (ei_con (P := fun y => y = n) rfl) (fun y e => by subst e; exact ok) fun x y p e => by subst e; exact k x p
theorem ei_fdivP {n : Int} (ha : EvI G a ρ h P) (k : ∀ x, P x → R (x / 2 ^ n.toNat)) (ok : 0 ≤ n ∧ n ≤ 90 := by decide) : EvI G (.bin .FloorDiv a (.bin .Pow (.con (.int 2)) (.con (.int n)))) ρ h R := by
  refine ei_fdiv (Q := fun y => y = 2 ^ n.toNat) ha (ei_pow (P := fun y => y = 2) (Q := fun y => y = n) (ei_con rfl) (ei_con rfl) (fun x y e1 e2 => ?_) (fun x y e1 e2 => by subst e1 e2; rfl)) (fun y e => ?_) fun x y p e => by subst e; exact k x p
  · subst e1 e2
    exact ⟨ok.1, by omega, by decide⟩
  · subst e
    refine ⟨Int.pow_pos (by decide), ?_⟩
    have hn : n.toNat ≤ 90 := by omega
    have : (2 : Nat) ^ n.toNat ≤ 2 ^ 90 := Nat.pow_le_pow_right (by decide) hn
    have e : (2 : Int) ^ n.toNat = ((2 ^ n.toNat : Nat) : Int) := by simp
    rw [e]
    have l : (2 : Nat) ^ n.toNat < 2 ^ 100 := Nat.lt_of_le_of_lt this (by decide)
    exact_mod_cast l
theorem ei_min2 (ha : EvI G a ρ h P) (hb : EvI G b ρ h Q) (k : ∀ x y, P x → Q y → R (if y < x then y else x)) : EvI G (.blt .min2 [a, b]) ρ h R := by
  obtain ⟨x, p, e1⟩ := ha
  obtain ⟨y, q, e2⟩ := hb
  exact ⟨_, k x y p q, by simp [ev, evs, e1, e2, bl_min2]⟩
theorem ei_max2 (ha : EvI G a ρ h P) (hb : EvI G b ρ h Q) (k : ∀ x y, P x → Q y → R (if y > x then y else x)) : EvI G (.blt .max2 [a, b]) ρ h R := by
  obtain ⟨x, p, e1⟩ := ha
  obtain ⟨y, q, e2⟩ := hb
  exact ⟨_, k x y p q, by simp [ev, evs, e1, e2, bl_max2]⟩
theorem ei_lenL {PL : List D → Prop} (ha : EvP G a ρ h fun d => ∃ xs, d = .lst xs ∧ PL xs) (k : ∀ xs, PL xs → R (xs.length : Int)) : EvI G (.blt .len [a]) ρ h R := by
  obtain ⟨d, ⟨xs, rfl, p⟩, e1⟩ := ha
  exact ⟨_, k xs p, by simp [ev, evs, e1, bl_lenL]⟩
theorem ei_lenS {PL : List Nat → Prop} (ha : EvP G a ρ h fun d => ∃ xs, d = .str xs ∧ PL xs) (k : ∀ xs, PL xs → xs.length ≤ SZ ∧ R (xs.length : Int)) : EvI G (.blt .len [a]) ρ h R := by
  obtain ⟨d, ⟨xs, rfl, p⟩, e1⟩ := ha
  exact ⟨_, (k xs p).2, by simp [ev, evs, e1, bl_lenS, (k xs p).1]⟩
theorem el_nil {PL : List D → Prop} (p : PL []) : EvL G [] ρ h PL := ⟨[], p, by simp [evs]⟩
theorem el_cons {es : List PX} {P1 : D → Prop} {P2 PL : List D → Prop} (ha : EvP G e ρ h P1) (hb : EvL G es ρ h P2) (k : ∀ d ds, P1 d → P2 ds → PL (d :: ds)) : EvL G (e :: es) ρ h PL := by
  obtain ⟨x, p, e1⟩ := ha
  obtain ⟨y, q, e2⟩ := hb
  exact ⟨x :: y, k x y p q, by simp [evs, e1, e2]⟩
theorem ea_nil {PD : D → Prop} : EvA G [] ρ h PD := el_nil ⟨rfl, by simp⟩
theorem ea_cons {es : List PX} {PD : D → Prop} (ha : EvP G e ρ h PD) (hb : EvA G es ρ h PD) : EvA G (e :: es) ρ h PD :=
  el_cons ha hb fun d ds p q => ⟨by simp [q.1], by
    intro x hx
    rcases List.mem_cons.mp hx with z | z
    · exact z ▸ p
    · exact q.2 x z⟩
theorem ep_lst {es : List PX} {PL : List D → Prop} {PD : D → Prop} (ha : EvL G es ρ h PL) (k : ∀ ds, PL ds → ds.length ≤ SZ ∧ PD (.lst ds)) : EvP G (.lst es) ρ h PD := by
  obtain ⟨ds, p, e1⟩ := ha
  exact ⟨_, (k ds p).2, by simp [ev, e1, (k ds p).1]⟩
theorem ep_tup {es : List PX} {PL : List D → Prop} {PD : D → Prop} (ha : EvL G es ρ h PL) (k : ∀ ds, PL ds → ds.length ≤ SZ ∧ PD (.tup ds)) : EvP G (.tup es) ρ h PD := by
  obtain ⟨ds, p, e1⟩ := ha
  exact ⟨_, (k ds p).2, by simp [ev, e1, (k ds p).1]⟩
theorem atI_mem {α : Type} {xs : List α} {i : Int} (h0 : 0 ≤ i) (h1 : i < xs.length) : ∃ x ∈ xs, atI xs i = some x := by
  have hl : i.toNat < xs.length := by omega
  refine ⟨xs[i.toNat], List.getElem_mem hl, ?_⟩
  unfold atI ixN
  rw [if_pos h0, if_pos h1]
  simp [hl]
theorem ep_idx {PD : D → Prop} {n : Nat} (ha : EvP G a ρ h fun d => ∃ xs, d = .lst xs ∧ xs.length = n ∧ ∀ x ∈ xs, PD x) (hb : EvI G b ρ h fun i => 0 ≤ i ∧ i < n) : EvP G (.idx a b) ρ h PD := by
  obtain ⟨d, ⟨xs, rfl, hn, p⟩, e1⟩ := ha
  obtain ⟨i, q, e2⟩ := hb
  subst hn
  obtain ⟨x, hx, e3⟩ := atI_mem q.1 q.2
  exact ⟨x, p x hx, by simp [ev, e1, e2, idxD, e3]⟩
theorem ep_idxA {PD : D → Prop} {es : List PX} {a : PX} {n : Int} (ha : EvA G es ρ h PD) (hb : EvI G a ρ h fun _ => True) (hn : n = es.length := by rfl) (hp : 0 < n ∧ es.length ≤ SZ := by decide) : EvP G (.idx (.lst es) (.bin .Mod a (.con (.int n)))) ρ h PD := by
  refine ep_idx (n := es.length) (ep_lst ha fun ds p => ⟨by rw [p.1]; exact hp.2, ds, rfl, p.1, p.2⟩) (ei_modC hb (fun x _ => ?_) hp.1)
  rw [← hn]
  exact ⟨Int.emod_nonneg _ (by omega), Int.emod_lt_of_pos _ hp.1⟩
theorem ep_idxM {PD : D → Prop} {j : Nat} {xs : List D} {a : PX} (g : getV ρ j = some (.lst xs)) (h0 : xs ≠ []) (p : ∀ x ∈ xs, PD x) (hb : EvI G a ρ h fun _ => True) : EvP G (.idx (.var j) (.bin .Mod a (.blt .len [.var j]))) ρ h PD := by
  have hl : 0 < xs.length := List.length_pos_iff.mpr h0
  refine ep_idx (n := xs.length) (ep_var g ⟨xs, rfl, rfl, p⟩) (ei_mod (Q := fun y => y = xs.length) hb (ei_lenL (PL := fun ys => ys = xs) (ep_var g ⟨xs, rfl, rfl⟩) fun ys e => by rw [e]) (fun y e => ?_) fun x y _ e => ?_)
  · subst e; omega
  · subst e
    exact ⟨Int.emod_nonneg _ (by omega), Int.emod_lt_of_pos _ (by omega)⟩
theorem compL_pure {f : D → AH → Option (Option D × AH)} {g : D → Option D} : ∀ {ds : List D}, (∀ d ∈ ds, f d h = some (g d, h)) → compL f ds h = some (ds.filterMap g, h)
  | [], _ => rfl
  | d :: ds, k => by
    unfold compL
    rw [k d List.mem_cons_self]
    show (compL f ds h).bind _ = _
    rw [compL_pure (ds := ds) fun x hx => k x (List.mem_cons_of_mem _ hx)]
    show some (putO (g d) _, h) = _
    cases e : g d with
    | none => simp [putO, e]
    | some x => simp [putO, e]
theorem compL_all {f : D → AH → Option (Option D × AH)} {PD : D → Prop} : ∀ {ds : List D}, (∀ d ∈ ds, ∃ x, PD x ∧ f d h = some (some x, h)) → ∃ out, out.length = ds.length ∧ (∀ x ∈ out, PD x) ∧ compL f ds h = some (out, h)
  | [], _ => ⟨[], rfl, by simp, rfl⟩
  | d :: ds, k => by
    obtain ⟨x, p, e⟩ := k d List.mem_cons_self
    obtain ⟨out, l, q, e2⟩ := compL_all (PD := PD) (ds := ds) fun x hx => k x (List.mem_cons_of_mem _ hx)
    refine ⟨x :: out, by simp [l], ?_, ?_⟩
    · intro y hy
      rcases List.mem_cons.mp hy with z | z
      · exact z ▸ p
      · exact q y z
    · unfold compL
      rw [e]
      show (compL f ds h).bind _ = _
      rw [e2]
      rfl
theorem ep_compR {elt : PX} {n : PX} {keep : List Nat} {N : Int} {PD : D → Prop} {PE : D → Prop} (hn : EvI G n ρ h fun i => i = N) (hN : -16777216 ≤ N ∧ N ≤ 16777216) (ht : ∀ i : Nat, (i : Int) < N → EvP G elt (some (.int i) :: keep.map (getV ρ)) h PD) (k : ∀ out : List D, out.length = N.toNat → (∀ x ∈ out, PD x) → PE (.lst out)) :
    EvP G (.comp elt none (.rng n) keep) ρ h PE := by
  obtain ⟨i, rfl, e⟩ := hn
  · have hr : rngD (.int i) = some ((List.range i.toNat).map fun i => D.int (i : Nat)) := if_pos ⟨by omega, by omega⟩
    obtain ⟨out, l, p, ec⟩ := compL_all (h := h) (PD := PD) (f := fun d h => (ev G elt (some d :: keep.map (getV ρ)) h).bind fun q => some (some q.1, q.2)) (ds := (List.range i.toNat).map fun i => D.int (i : Nat)) (by
      intro d hd
      obtain ⟨j, hj, rfl⟩ := List.mem_map.mp hd
      obtain ⟨x, px, ex⟩ := ht j (by have := List.mem_range.mp hj; omega)
      exact ⟨x, px, by rw [ex]; rfl⟩)
    have hl : out.length = i.toNat := by rw [l]; simp
    refine ⟨.lst out, k out hl p, ?_⟩
    unfold ev evI
    simp only [e, hr, Option.bind_some]
    rw [ec]
    show (if out.length ≤ SZ then some (D.lst out, h) else none) = _
    rw [if_pos]
    rw [hl]; show i.toNat ≤ 16777216; omega
theorem ep_compS {elt : PX} {n : PX} {keep : List Nat} {xs : List D} {PD : D → Prop} {PE : D → Prop} (hn : EvP G n ρ h fun d => d = .lst xs) (hN : xs.length ≤ 16777216) (ht : ∀ d ∈ xs, EvP G elt (some d :: keep.map (getV ρ)) h PD) (k : ∀ out : List D, out.length = xs.length → (∀ x ∈ out, PD x) → PE (.lst out)) :
    EvP G (.comp elt none (.seq n) keep) ρ h PE := by
  obtain ⟨_, rfl, e⟩ := hn
  obtain ⟨out, l, p, ec⟩ := compL_all (h := h) (PD := PD) (f := fun d h => (ev G elt (some d :: keep.map (getV ρ)) h).bind fun q => some (some q.1, q.2)) (ds := xs) (by
    intro d hd
    obtain ⟨x, px, ex⟩ := ht d hd
    exact ⟨x, px, by rw [ex]; rfl⟩)
  refine ⟨.lst out, k out l p, ?_⟩
  unfold ev evI
  simp only [e, itD, Option.bind_some]
  rw [ec]
  show (if out.length ≤ SZ then some (D.lst out, h) else none) = _
  rw [if_pos]
  rw [l]; exact hN
theorem ep_mt {m : Mt} {o : PX} {es : List PX} {P1 PD : D → Prop} {PL : List D → Prop} (ho : EvP G o ρ h P1) (ha : EvL G es ρ h PL) (k : ∀ d ds, P1 d → PL ds → ∃ r, PD r ∧ mtD m d (ds.map (vw h)) = some r) : EvP G (.mt m o es) ρ h PD := by
  obtain ⟨d, p, e1⟩ := ho
  obtain ⟨ds, q, e2⟩ := ha
  obtain ⟨r, pr, e3⟩ := k d ds p q
  exact ⟨r, pr, by simp only [ev, e1, e2, Option.bind_some, e3]⟩
theorem ep_blt {m : Bl} {es : List PX} {PD : D → Prop} {PL : List D → Prop} (ha : EvL G es ρ h PL) (k : ∀ ds, PL ds → ∃ r, PD r ∧ bltD m (ds.map (vw h)) = some r) : EvP G (.blt m es) ρ h PD := by
  obtain ⟨ds, q, e2⟩ := ha
  obtain ⟨r, pr, e3⟩ := k ds q
  exact ⟨r, pr, by simp only [ev, e2, Option.bind_some, e3]⟩
theorem ep_bin {op : Operator} {P1 P2 PD : D → Prop} (ha : EvP G a ρ h P1) (hb : EvP G b ρ h P2) (k : ∀ x y, P1 x → P2 y → ∃ r, PD r ∧ binD op (vw h x) (vw h y) = some r) : EvP G (.bin op a b) ρ h PD := by
  obtain ⟨x, p, e1⟩ := ha
  obtain ⟨y, q, e2⟩ := hb
  obtain ⟨r, pr, e3⟩ := k x y p q
  exact ⟨r, pr, by simp only [ev, e1, e2, Option.bind_some, e3]⟩
theorem ep_idxG {P1 P2 PD : D → Prop} (ha : EvP G a ρ h P1) (hb : EvP G b ρ h P2) (k : ∀ x y, P1 x → P2 y → ∃ r, PD r ∧ idxD (vw h x) y = some r) : EvP G (.idx a b) ρ h PD := by
  obtain ⟨x, p, e1⟩ := ha
  obtain ⟨y, q, e2⟩ := hb
  obtain ⟨r, pr, e3⟩ := k x y p q
  exact ⟨r, pr, by simp only [ev, e1, e2, Option.bind_some, e3]⟩
theorem ep_slHi {P1 PD : D → Prop} (ha : EvP G a ρ h P1) (hb : EvI G b ρ h P) (k : ∀ x i, P1 x → P i → ∃ r, PD r ∧ slD (vw h x) none (some i) = some r) : EvP G (.sl a none (some b)) ρ h PD := by
  obtain ⟨x, p, e1⟩ := ha
  obtain ⟨i, q, e2⟩ := hb
  obtain ⟨r, pr, e3⟩ := k x i p q
  exact ⟨r, pr, by simp only [ev, evo, e1, e2, Option.bind_some, e3]⟩
theorem ep_slLo {P1 PD : D → Prop} (ha : EvP G a ρ h P1) (hb : EvI G b ρ h P) (k : ∀ x i, P1 x → P i → ∃ r, PD r ∧ slD (vw h x) (some i) none = some r) : EvP G (.sl a (some b) none) ρ h PD := by
  obtain ⟨x, p, e1⟩ := ha
  obtain ⟨i, q, e2⟩ := hb
  obtain ⟨r, pr, e3⟩ := k x i p q
  exact ⟨r, pr, by simp only [ev, evo, e1, e2, Option.bind_some, e3]⟩
theorem el_one {P1 : D → Prop} {PL : List D → Prop} (ha : EvP G e ρ h P1) (k : ∀ d, P1 d → PL [d]) : EvL G [e] ρ h PL := el_cons (P2 := fun ds => ds = []) ha (el_nil rfl) fun d ds p q => by subst q; exact k d p
theorem el_two {e2 : PX} {P1 P2 : D → Prop} {PL : List D → Prop} (ha : EvP G e ρ h P1) (hb : EvP G e2 ρ h P2) (k : ∀ d d2, P1 d → P2 d2 → PL [d, d2]) : EvL G [e, e2] ρ h PL :=
  el_cons (P2 := fun ds => ∃ d2, ds = [d2] ∧ P2 d2) ha (el_one hb fun d p => ⟨d, rfl, p⟩) fun d ds p ⟨d2, q, p2⟩ => by subst q; exact k d d2 p p2
theorem et_cmpI {op : CmpOp} {PB' : Bool → Prop} (ha : EvI G a ρ h P) (hb : EvI G b ρ h Q) (k : ∀ x y, P x → Q y → ∃ r, PB' r ∧ cmpD op (.int x) (.int y) = some r) : EvT G (.val (.cmp op a b)) ρ h PB' := by
  obtain ⟨x, p, e1⟩ := ha
  obtain ⟨y, q, e2⟩ := hb
  obtain ⟨r, pr, e3⟩ := k x y p q
  exact ⟨r, pr, by simp only [evB, ev, e1, e2, Option.bind_some, vw_int, e3, tru_bl]⟩
theorem et_any {c : PB} {PB' : Bool → Prop} {b : Bool} (e : evB G c ρ h = some (b, h)) (p : PB' b) : EvT G c ρ h PB' := ⟨b, p, e⟩
end
end MP
namespace MP
open PySem
theorem evR_ev {G : List Den} {e : PX} {ρ : Ev} {h h' : AH} {d : D} (e1 : ev G e ρ h = some (d, h')) : evR G e ρ h = .ok d h' := by
  cases e with
  | call f xs =>
    unfold ev at e1
    obtain ⟨p, q1, e1⟩ := Option.bind_eq_some_iff.mp e1
    obtain ⟨φ, q2, e1⟩ := Option.bind_eq_some_iff.mp e1
    simp only [evR, q1, q2]
    cases hr : φ p.1 p.2 with
    | ok d h => rw [hr] at e1; cases e1; rfl
    | exc c h => rw [hr] at e1; cases e1
    | bad => rw [hr] at e1; cases e1
  | callV i fs xs => unfold ev at e1; cases e1
  | _ => simp only [evR, e1]
theorem evR_call {G : List Den} {i : Nat} {xs : List PX} {ρ : Ev} {h h' : AH} {ds : List D} {φ : Den} (e1 : evs G xs ρ h = some (ds, h')) (e2 : G[i]? = some φ) : evR G (.call i xs) ρ h = φ ds h' := by simp only [evR, e1, e2]
theorem evR_callV {G : List Den} {i n : Nat} {fs : List Str} {x : Str} {xs : List PX} {ρ : Ev} {h h' : AH} {ds : List D} {φ : Den} (e0 : getV ρ i = some (.fn x)) (e1 : evs G xs ρ h = some (ds, h')) (e3 : fs.findIdx? (· == x) = some n) (e2 : G[n]? = some φ) : evR G (.callV i fs xs) ρ h = φ ds h' := by simp only [evR, e0, e1, e3, e2]
theorem run_rt {G : List Den} {np n : Nat} {b : List PSt} {args : List D} {h : AH} {d : D} (hl : args.length = np) (e : exSs G b (startE n args) h = .rt d h) : cutDen (runF G np n b) args h = .ok d h := by
  refine cutDen_same ?_
  unfold runF
  rw [if_pos hl, e]
theorem run_rtN {G : List Den} {np n : Nat} {b : List PSt} {args : List D} {h h' : AH} {d : D} (hl : args.length = np) (e : exSs G b (startE n args) h = .rt d h') (hn : nrf d = true) (ht : h'.take h.length = h) : cutDen (runF G np n b) args h = .ok d h := by
  refine cutDen_ok (h' := h') ?_ hn ht
  unfold runF
  rw [if_pos hl, e]
theorem run_nx {G : List Den} {np n : Nat} {b : List PSt} {args : List D} {h : AH} {ρ' : Ev} (hl : args.length = np) (e : exSs G b (startE n args) h = .nx ρ' h) : cutDen (runF G np n b) args h = .ok .non h := by
  refine cutDen_same ?_
  unfold runF
  rw [if_pos hl, e]
theorem run_exc {G : List Den} {np n : Nat} {b : List PSt} {args : List D} {h : AH} {ρ' : Ev} {c : Nat} (hl : args.length = np) (e : exSs G b (startE n args) h = .exc c ρ' h) : cutDen (runF G np n b) args h = .exc c h := by
  refine cutDen_exc (h' := h) ?_ (by simp)
  unfold runF
  rw [if_pos hl, e]
def Rets (P : D → Prop) (h : AH) (r : R) : Prop := ∃ d, P d ∧ r = .rt d h
theorem run_rets {G : List Den} {np n : Nat} {b : List PSt} {args : List D} {h : AH} {P : D → Prop} (H : Rets P h (exSs G b (startE n args) h)) (hl : args.length = np) : ∃ d, P d ∧ cutDen (runF G np n b) args h = .ok d h :=
  let ⟨d, p, e⟩ := H
  ⟨d, p, run_rt hl e⟩
section
variable {G : List Den} {ρ : Ev} {h : AH} {Post : R → Prop}
theorem st_asg {i : Nat} {e : PX} {P : D → Prop} {r : List PSt} (he : EvP G e ρ h P) (k : ∀ d, P d → Post (exSs G r (ρ.set i (some d)) h)) : Post (exSs G (.asg (.nm i) e :: r) ρ h) := by
  obtain ⟨d, p, e1⟩ := he
  have : exSs G (.asg (.nm i) e :: r) ρ h = exSs G r (ρ.set i (some d)) h := by simp [exSs, exS, evR_ev e1, setT]
  rw [this]
  exact k d p
theorem st_ret {e : PX} {P : D → Prop} {r : List PSt} (he : EvP G e ρ h P) (k : ∀ d, P d → Post (.rt d h)) : Post (exSs G (.ret e :: r) ρ h) := by
  obtain ⟨d, p, e1⟩ := he
  have : exSs G (.ret e :: r) ρ h = .rt d h := by simp [exSs, exS, evR_ev e1]
  rw [this]
  exact k d p
theorem st_retP {e : PX} {P Q : D → Prop} {r : List PSt} (he : EvP G e ρ h P) (k : ∀ d, P d → Q d) : Rets Q h (exSs G (.ret e :: r) ρ h) := st_ret (Post := Rets Q h) he fun d p => ⟨d, k d p, rfl⟩
theorem exSs_app : ∀ (a r : List PSt) (ρ : Ev) (h : AH), exSs G (a ++ r) ρ h = (match exSs G a ρ h with | .nx ρ' h' => exSs G r ρ' h' | .rt d h' => .rt d h' | .bk ρ' h' => .bk ρ' h' | .ct ρ' h' => .ct ρ' h' | .exc c ρ' h' => .exc c ρ' h' | .bad => .bad) := by
  intro a r
  induction a with
  | nil => intro ρ h; simp [exSs]
  | cons s a ih =>
    intro ρ h
    show exSs G (s :: (a ++ r)) ρ h = _
    rw [exSs]
    rw [show exSs G (s :: a) ρ h = _ from by rw [exSs]]
    cases exS G s ρ h <;> simp [ih]
theorem st_if {c : PB} {a b : List PSt} {P : Bool → Prop} {r : List PSt} (he : EvT G c ρ h P) (kt : P true → Post (exSs G (a ++ r) ρ h)) (kf : P false → Post (exSs G (b ++ r) ρ h)) : Post (exSs G (.ifs c a b :: r) ρ h) := by
  obtain ⟨b', p, e1⟩ := he
  rw [exSs, exS, e1]
  cases b' with
  | true =>
    have := kt p
    rw [exSs_app] at this
    cases hx : exSs G a ρ h <;> simp [hx] at this ⊢ <;> exact this
  | false =>
    have := kf p
    rw [exSs_app] at this
    cases hx : exSs G b ρ h <;> simp [hx] at this ⊢ <;> exact this
theorem ep_call {i : Nat} {f : Den} {es : List PX} {PL : List D → Prop} {PD : D → Prop} (hG : G[i]? = some f) (ha : EvL G es ρ h PL) (k : ∀ ds, PL ds → ∃ d, PD d ∧ f ds h = .ok d h) : EvP G (.call i es) ρ h PD := by
  obtain ⟨ds, p, e1⟩ := ha
  obtain ⟨d, q, e2⟩ := k ds p
  exact ⟨d, q, by simp [ev, e1, hG, e2]⟩
theorem ev_comp {elt : PX} {src : PI} {keep : List Nat} {ds : List D} {g : D → D} (hs : evI G src ρ h = some (ds, h)) (hl : ds.length ≤ SZ) (ht : ∀ d ∈ ds, ev G elt (some d :: keep.map (getV ρ)) h = some (g d, h)) : ev G (.comp elt none src keep) ρ h = some (.lst (ds.map g), h) := by
  rw [ev, hs]
  simp only [Option.bind_some]
  rw [compL_pure (g := fun d => some (g d)) fun d hd => by rw [ht d hd]; rfl]
  simp only [Option.bind_some]
  have : ds.filterMap (fun d => some (g d)) = ds.map g := by induction ds <;> simp_all
  rw [this, if_pos (by rw [List.length_map]; exact hl)]
theorem ev_compIf {elt : PX} {c : PB} {src : PI} {keep : List Nat} {ds : List D} {g : D → D} {p : D → Bool} (hs : evI G src ρ h = some (ds, h)) (hl : ds.length ≤ SZ) (hc : ∀ d ∈ ds, evB G c (some d :: keep.map (getV ρ)) h = some (p d, h)) (ht : ∀ d ∈ ds, p d = true → ev G elt (some d :: keep.map (getV ρ)) h = some (g d, h)) :
    ev G (.comp elt (some c) src keep) ρ h = some (.lst ((ds.filter p).map g), h) := by
  rw [ev, hs]
  simp only [Option.bind_some]
  rw [compL_pure (g := fun d => if p d = true then some (g d) else none) fun d hd => by
    rw [hc d hd]
    simp only [Option.bind_some]
    cases hp : p d with
    | true => simp [ht d hd hp]
    | false => simp]
  simp only [Option.bind_some]
  have : ds.filterMap (fun d => if p d = true then some (g d) else none) = (ds.filter p).map g := by
    clear hc ht hl hs
    induction ds with
    | nil => rfl
    | cons d ds ih => cases hp : p d <;> simp [hp, ih]
  rw [this, if_pos (by rw [List.length_map]; exact Nat.le_trans (List.length_filter_le _ _) hl)]
end
theorem eqD_strs (a b : List Nat) : eqD (.str a) (.str b) = (a == b) := rfl
end MP
namespace K10
open MP PySem
noncomputable def p_is_prefix : List PSt := [PSt.ret
   (PX.and
     (PX.cmp (CmpOp.LtE) (PX.blt (Bl.len) [PX.var 0]) (PX.con (D.int 16)))
     (PX.blt
       (Bl.all)
       [PX.comp
          (PX.cmp (CmpOp.In) (PX.var 0) (PX.tup [PX.con (D.str [48]), PX.con (D.str [49])]))
          none
          (PI.seq (PX.var 0))
          []]))]
-- names is_prefix: [text]
noncomputable def p_is_path : List PSt := [PSt.ret
   (PX.and
     (PX.cmp2
       (CmpOp.LtE)
       (CmpOp.LtE)
       (PX.con (D.int 1))
       (PX.blt (Bl.len) [PX.var 0])
       (PX.con (D.int 12)))
     (PX.blt
       (Bl.all)
       [PX.comp
          (PX.cmp2
            (CmpOp.LtE)
            (CmpOp.LtE)
            (PX.con (D.int 1))
            (PX.var 0)
            (PX.con (D.int 999)))
          none
          (PI.seq (PX.var 0))
          []]))]
-- names is_path: [path]
noncomputable def p_are_tags : List PSt := [PSt.ifs
   (PB.val (PX.cmp (CmpOp.Gt) (PX.blt (Bl.len) [PX.var 0]) (PX.con (D.int 4))))
   [PSt.ret (PX.con (D.bl false))]
   [],
 PSt.asg (PTg.nm 1) (PX.con (D.int 0)),
 PSt.forS
   (PTg.nm 2)
   (PI.seq (PX.var 0))
   [PSt.ifs
      (PB.not
        (PB.val
          (PX.cmp2 (CmpOp.Lt) (CmpOp.LtE) (PX.var 1) (PX.var 2) (PX.con (D.int 99)))))
      [PSt.ret (PX.con (D.bl false))]
      [],
    PSt.asg (PTg.nm 1) (PX.var 2)],
 PSt.ret (PX.con (D.bl true))]
-- names are_tags: [tags, last, tag]
noncomputable def p_need_prefix : List PSt := [PSt.ifs
   (PB.not (PB.val (PX.call 0 [PX.var 0])))
   [PSt.rai
      0
      [PX.con
         (D.str
           [116, 104, 101, 32, 112, 114, 101, 102, 105, 120, 32, 105, 115, 32, 110, 111, 116, 32, 111, 102, 32, 48, 32,
            116, 111, 32, 49, 54, 32, 115, 105, 103, 110, 115, 32, 48, 32, 97, 110, 100, 32, 49])]]
   []]
-- names need_prefix: [prefix]
noncomputable def p_need_route : List PSt := [PSt.ex (PX.call 3 [PX.idx (PX.var 0) (PX.con (D.int 0))]),
 PSt.ifs
   (PB.not (PB.val (PX.call 1 [PX.idx (PX.var 0) (PX.con (D.int 1))])))
   [PSt.rai
      0
      [PX.con
         (D.str
           [116, 104, 101, 32, 112, 97, 116, 104, 32, 105, 115, 32, 110, 111, 116, 32, 111, 102, 32, 49, 32, 116, 111,
            32, 49, 50, 32, 110, 117, 109, 98, 101, 114, 115, 32, 49, 32, 116, 111, 32, 57, 57, 57])]]
   [],
 PSt.ifs
   (PB.not
     (PB.val
       (PX.cmp2
         (CmpOp.LtE)
         (CmpOp.LtE)
         (PX.con (D.int 0))
         (PX.idx (PX.var 0) (PX.con (D.int 2)))
         (PX.con (D.int 1000)))))
   [PSt.rai
      0
      [PX.con
         (D.str
           [116, 104, 101, 32, 119, 101, 105, 103, 104, 116, 32, 105, 115, 32, 110, 111, 116, 32, 48, 32, 116, 111, 32,
            49, 48, 48, 48])]]
   [],
 PSt.ifs
   (PB.not (PB.val (PX.call 2 [PX.idx (PX.var 0) (PX.con (D.int 3))])))
   [PSt.rai
      0
      [PX.con
         (D.str
           [116, 104, 101, 32, 116, 97, 103, 115, 32, 97, 114, 101, 32, 110, 111, 116, 32, 97, 116, 32, 109, 111, 115,
            116, 32, 52, 32, 114, 105, 115, 105, 110, 103, 32, 110, 117, 109, 98, 101, 114, 115, 32, 49, 32, 116, 111,
            32, 57, 57])]]
   []]
-- names need_route: [route]
noncomputable def p_need_rule : List PSt := [PSt.ifs
   (PB.not (PB.val (PX.call 0 [PX.idx (PX.var 0) (PX.con (D.int 0))])))
   [PSt.rai
      1
      [PX.con
         (D.str
           [116, 104, 101, 32, 112, 114, 101, 102, 105, 120, 32, 105, 115, 32, 110, 111, 116, 32, 111, 102, 32, 48, 32,
            116, 111, 32, 49, 54, 32, 115, 105, 103, 110, 115, 32, 48, 32, 97, 110, 100, 32, 49])]]
   [],
 PSt.forS
   (PTg.tp [1, 2, 3])
   (PI.seq
     (PX.con
       (D.tup
         [D.tup [D.int 1, D.str [108, 111, 110, 103, 101, 115, 116], D.int 16],
          D.tup [D.int 2, D.str [110, 117, 109, 98, 101, 114], D.int 999],
          D.tup [D.int 3, D.str [116, 97, 103], D.int 99],
          D.tup [D.int 6, D.str [97, 100, 100], D.int 99],
          D.tup [D.int 7, D.str [116, 97, 107, 101], D.int 99],
          D.tup [D.int 8, D.str [97, 104, 101, 97, 100], D.int 3]])))
   [PSt.ifs
      (PB.not
        (PB.val
          (PX.cmp2
            (CmpOp.LtE)
            (CmpOp.LtE)
            (PX.con (D.int 0))
            (PX.idx (PX.var 0) (PX.var 1))
            (PX.var 3))))
      [PSt.rai
         1
         [PX.fst
            [PX.var 2,
             PX.con (D.str [32, 105, 115, 32, 110, 111, 116, 32, 48, 32, 116, 111, 32]),
             PX.var 3]]]
      []],
 PSt.ifs
   (PB.val
     (PX.cmp
       (CmpOp.NotIn)
       (PX.idx (PX.var 0) (PX.con (D.int 4)))
       (PX.con (D.tup [D.str [110, 111], D.str [121, 101, 115], D.str [111, 110]]))))
   [PSt.rai
      1
      [PX.con
         (D.str
           [116, 104, 101, 32, 100, 101, 101, 100, 32, 105, 115, 32, 110, 111, 116, 32, 110, 111, 44, 32, 121, 101, 115,
            32, 111, 114, 32, 111, 110])]]
   [],
 PSt.ifs
   (PB.and
     (PB.val
       (PX.cmp (CmpOp.IsNot) (PX.idx (PX.var 0) (PX.con (D.int 5))) (PX.con (D.non))))
     (PB.not
       (PB.val
         (PX.cmp2
           (CmpOp.LtE)
           (CmpOp.LtE)
           (PX.con (D.int 0))
           (PX.idx (PX.var 0) (PX.con (D.int 5)))
           (PX.con (D.int 1000))))))
   [PSt.rai
      1
      [PX.con
         (D.str
           [112, 114, 101, 102, 101, 114, 32, 105, 115, 32, 110, 111, 116, 32, 78, 111, 110, 101, 32, 111, 114, 32, 48,
            32, 116, 111, 32, 49, 48, 48, 48])]]
   []]
-- names need_rule: [rule, place, name, greatest]
noncomputable def p_cell : List PSt := [PSt.ifs
   (PB.val (PX.cmp (CmpOp.Eq) (PX.var 0) (PX.lst [])))
   [PSt.ret (PX.bin (Operator.Mult) (PX.var 1) (PX.con (D.int 7919)))]
   [],
 PSt.ret
   (PX.bin
     (Operator.Add)
     (PX.idx (PX.var 0) (PX.bin (Operator.Mod) (PX.var 1) (PX.blt (Bl.len) [PX.var 0])))
     (PX.bin
       (Operator.Mult)
       (PX.bin (Operator.FloorDiv) (PX.var 1) (PX.blt (Bl.len) [PX.var 0]))
       (PX.con (D.int 104729))))]
-- names _law_cell: [_law_script, _law_k]
noncomputable def p_drawn : List PSt := [PSt.asg
   (PTg.nm 2)
   (PX.bin
     (Operator.Mod)
     (PX.bin
       (Operator.Add)
       (PX.bin (Operator.Mult) (PX.var 0) (PX.con (D.int 6364136223846793005)))
       (PX.bin
         (Operator.Mult)
         (PX.bin (Operator.Add) (PX.var 1) (PX.con (D.int 1)))
         (PX.con (D.int 1442695040888963407))))
     (PX.con (D.int 340282366920938463463374607431768211507))),
 PSt.ret
   (PX.bin
     (Operator.Mod)
     (PX.bin (Operator.Mult) (PX.var 2) (PX.var 2))
     (PX.con (D.int 340282366920938463463374607431768211297)))]
-- names _law_drawn: [_law_cell_here, _law_k, _law_more]
noncomputable def p_numbers : List PSt := [PSt.asg
   (PTg.nm 2)
   (PX.idx
     (PX.lst [PX.con (D.int 1), PX.con (D.int 2), PX.con (D.int 500), PX.con (D.int 7)])
     (PX.bin (Operator.Mod) (PX.var 0) (PX.con (D.int 4)))),
 PSt.ret
   (PX.comp
     (PX.bin
       (Operator.Add)
       (PX.bin
         (Operator.Mod)
         (PX.bin
           (Operator.Add)
           (PX.bin (Operator.FloorDiv) (PX.var 1) (PX.con (D.int 4)))
           (PX.bin (Operator.Mult) (PX.var 0) (PX.var 2)))
         (PX.con (D.int 999)))
       (PX.con (D.int 1)))
     none
     (PI.rng (PX.var 1))
     [0, 2])]
-- names _law_numbers: [_law_more, _law_many, _law_step]
noncomputable def p_bits : List PSt := [PSt.ret
   (PX.mt
     (Mt.join)
     (PX.con (D.str []))
     [PX.comp
        (PX.idx
          (PX.con (D.str [48, 49]))
          (PX.bin
            (Operator.Mod)
            (PX.bin
              (Operator.FloorDiv)
              (PX.var 1)
              (PX.bin (Operator.LShift) (PX.con (D.int 1)) (PX.var 0)))
            (PX.con (D.int 2))))
        none
        (PI.rng (PX.var 1))
        [0]])]
-- names _law_bits: [_law_more, _law_many]
noncomputable def p_tags : List PSt := [PSt.asg
   (PTg.nm 1)
   (PX.lst
     [PX.bin
        (Operator.Add)
        (PX.con (D.int 1))
        (PX.bin
          (Operator.Mod)
          (PX.bin (Operator.FloorDiv) (PX.var 0) (PX.con (D.int 8)))
          (PX.con (D.int 3))),
      PX.bin
        (Operator.Add)
        (PX.con (D.int 4))
        (PX.bin
          (Operator.Mod)
          (PX.bin (Operator.FloorDiv) (PX.var 0) (PX.con (D.int 24)))
          (PX.con (D.int 90))),
      PX.bin
        (Operator.Add)
        (PX.con (D.int 95))
        (PX.bin
          (Operator.Mod)
          (PX.bin (Operator.FloorDiv) (PX.var 0) (PX.con (D.int 2160)))
          (PX.con (D.int 3))),
      PX.bin
        (Operator.Add)
        (PX.con (D.int 98))
        (PX.bin
          (Operator.Mod)
          (PX.bin (Operator.FloorDiv) (PX.var 0) (PX.con (D.int 6480)))
          (PX.con (D.int 2)))]),
 PSt.ret
   (PX.blt
     (Bl.tuple)
     [PX.comp
        (PX.idx (PX.var 2) (PX.var 0))
        (some (PB.val
           (PX.cmp
             (CmpOp.Eq)
             (PX.bin
               (Operator.Mod)
               (PX.bin
                 (Operator.FloorDiv)
                 (PX.var 1)
                 (PX.bin (Operator.LShift) (PX.con (D.int 1)) (PX.var 0)))
               (PX.con (D.int 2)))
             (PX.con (D.int 1)))))
        (PI.rng (PX.con (D.int 4)))
        [0, 1]])]
-- names _law_tags: [_law_more, _law_some]
noncomputable def p_spoilt_route : List PSt := [PSt.asg (PTg.tp [2, 3, 4, 5]) (PX.var 1),
 PSt.asg (PTg.nm 6) (PX.bin (Operator.Mod) (PX.var 0) (PX.con (D.int 10))),
 PSt.asg (PTg.nm 0) (PX.bin (Operator.FloorDiv) (PX.var 0) (PX.con (D.int 16))),
 PSt.ifs
   (PB.val (PX.cmp (CmpOp.Eq) (PX.var 6) (PX.con (D.int 0))))
   [PSt.ret
      (PX.tup
        [PX.idx
           (PX.lst
             [PX.bin
                (Operator.Add)
                (PX.var 2)
                (PX.bin (Operator.Mult) (PX.con (D.str [48])) (PX.con (D.int 17))),
              PX.bin
                (Operator.Add)
                (PX.sl (PX.var 2) none (some (PX.con (D.int 15))))
                (PX.con (D.str [50])),
              PX.con (D.str [120]),
              PX.con (D.str [32, 48]),
              PX.con (D.str [79, 49])])
           (PX.bin (Operator.Mod) (PX.var 0) (PX.con (D.int 5))),
         PX.var 3,
         PX.var 4,
         PX.var 5])]
   [],
 PSt.ifs
   (PB.val (PX.cmp (CmpOp.Eq) (PX.var 6) (PX.con (D.int 1))))
   [PSt.ret (PX.tup [PX.var 2, PX.tup [], PX.var 4, PX.var 5])]
   [],
 PSt.ifs
   (PB.val (PX.cmp (CmpOp.Eq) (PX.var 6) (PX.con (D.int 2))))
   [PSt.ret
      (PX.tup
        [PX.var 2,
         PX.bin
           (Operator.Add)
           (PX.var 3)
           (PX.bin (Operator.Mult) (PX.tup [PX.con (D.int 5)]) (PX.con (D.int 12))),
         PX.var 4,
         PX.var 5])]
   [],
 PSt.ifs
   (PB.val (PX.cmp (CmpOp.Eq) (PX.var 6) (PX.con (D.int 3))))
   [PSt.asg (PTg.nm 7) (PX.bin (Operator.Mod) (PX.var 0) (PX.blt (Bl.len) [PX.var 3])),
    PSt.ret
      (PX.tup
        [PX.var 2,
         PX.bin
           (Operator.Add)
           (PX.bin
             (Operator.Add)
             (PX.sl (PX.var 3) none (some (PX.var 7)))
             (PX.tup
               [PX.idx
                  (PX.lst
                    [PX.con (D.int 0),
                     PX.con (D.int 1000),
                     PX.neg (PX.con (D.int 1)),
                     PX.bin (Operator.Pow) (PX.con (D.int 10)) (PX.con (D.int 9))])
                  (PX.bin
                    (Operator.Mod)
                    (PX.bin (Operator.FloorDiv) (PX.var 0) (PX.con (D.int 16)))
                    (PX.con (D.int 4)))]))
           (PX.sl (PX.var 3) (some (PX.bin (Operator.Add) (PX.var 7) (PX.con (D.int 1)))) none),
         PX.var 4,
         PX.var 5])]
   [],
 PSt.ifs
   (PB.val (PX.cmp (CmpOp.Eq) (PX.var 6) (PX.con (D.int 4))))
   [PSt.ret
      (PX.tup
        [PX.var 2,
         PX.var 3,
         PX.idx
           (PX.lst
             [PX.neg (PX.con (D.int 1)),
              PX.con (D.int 1001),
              PX.bin (Operator.Pow) (PX.con (D.int 10)) (PX.con (D.int 12)),
              PX.neg (PX.con (D.int 5))])
           (PX.bin (Operator.Mod) (PX.var 0) (PX.con (D.int 4))),
         PX.var 5])]
   [],
 PSt.ifs
   (PB.val (PX.cmp (CmpOp.Eq) (PX.var 6) (PX.con (D.int 5))))
   [PSt.ret
      (PX.tup
        [PX.var 2,
         PX.var 3,
         PX.var 4,
         PX.bin (Operator.Add) (PX.var 5) (PX.tup [PX.con (D.int 99), PX.con (D.int 99)])])]
   [],
 PSt.ifs
   (PB.val (PX.cmp (CmpOp.Eq) (PX.var 6) (PX.con (D.int 6))))
   [PSt.ret
      (PX.tup
        [PX.var 2,
         PX.var 3,
         PX.var 4,
         PX.idx
           (PX.lst
             [PX.tup [PX.con (D.int 2), PX.con (D.int 1)],
              PX.tup [PX.con (D.int 0), PX.con (D.int 3)],
              PX.tup [PX.con (D.int 5), PX.con (D.int 100)],
              PX.tup [PX.con (D.int 1), PX.con (D.int 3), PX.con (D.int 2)],
              PX.tup [PX.neg (PX.con (D.int 1))],
              PX.tup [PX.con (D.int 7), PX.con (D.int 7)]])
           (PX.bin (Operator.Mod) (PX.var 0) (PX.con (D.int 6)))])]
   [],
 PSt.ifs
   (PB.val (PX.cmp (CmpOp.Eq) (PX.var 6) (PX.con (D.int 7))))
   [PSt.ret
      (PX.tup
        [PX.var 2,
         PX.var 3,
         PX.var 4,
         PX.tup
           [PX.con (D.int 1),
            PX.con (D.int 2),
            PX.con (D.int 3),
            PX.con (D.int 4),
            PX.con (D.int 5)]])]
   [],
 PSt.ret (PX.var 1)]
-- names _law_spoilt_route: [_law_more, _law_route, _law_prefix, _law_path, _law_weight, _law_tags_here, _law_way, _law_at]
noncomputable def p_spoilt_rule : List PSt := [PSt.asg (PTg.nm 2) (PX.bin (Operator.Mod) (PX.var 0) (PX.con (D.int 10))),
 PSt.asg
   (PTg.nm 3)
   (PX.lst
     [PX.lst
        [PX.con (D.str [50]),
         PX.bin (Operator.Mult) (PX.con (D.str [48])) (PX.con (D.int 17))],
      PX.lst [PX.neg (PX.con (D.int 1)), PX.con (D.int 17)],
      PX.lst [PX.neg (PX.con (D.int 1)), PX.con (D.int 1000)],
      PX.lst [PX.neg (PX.con (D.int 1)), PX.con (D.int 100)],
      PX.lst [PX.con (D.str []), PX.con (D.str [121, 101, 115, 32])],
      PX.lst [PX.neg (PX.con (D.int 1)), PX.con (D.int 1001)]]),
 PSt.asg
   (PTg.nm 3)
   (PX.bin
     (Operator.Add)
     (PX.var 3)
     (PX.lst
       [PX.lst [PX.con (D.int 100), PX.neg (PX.con (D.int 1))],
        PX.lst [PX.neg (PX.con (D.int 1)), PX.con (D.int 100)],
        PX.lst [PX.con (D.int 4), PX.neg (PX.con (D.int 1))]])),
 PSt.ifs
   (PB.val (PX.cmp (CmpOp.Eq) (PX.var 2) (PX.con (D.int 9))))
   [PSt.ret (PX.var 1)]
   [],
 PSt.ret
   (PX.bin
     (Operator.Add)
     (PX.bin
       (Operator.Add)
       (PX.sl (PX.var 1) none (some (PX.var 2)))
       (PX.tup
         [PX.idx
            (PX.idx (PX.var 3) (PX.var 2))
            (PX.bin
              (Operator.Mod)
              (PX.bin (Operator.FloorDiv) (PX.var 0) (PX.con (D.int 16)))
              (PX.con (D.int 2)))]))
     (PX.sl (PX.var 1) (some (PX.bin (Operator.Add) (PX.var 2) (PX.con (D.int 1)))) none))]
-- names _law_spoilt_rule: [_law_more, _law_rule, _law_at, _law_some]
noncomputable def p_good_route : List PSt := [PSt.asg (PTg.tp [1, 2, 3, 4]) (PX.var 0),
 PSt.ifs
   (PB.or
     (PB.val (PX.cmp (CmpOp.Gt) (PX.blt (Bl.len) [PX.var 1]) (PX.con (D.int 16))))
     (PB.val
       (PX.cmp
         (CmpOp.NotEq)
         (PX.comp
           (PX.var 0)
           (some (PB.and
              (PB.val (PX.cmp (CmpOp.NotEq) (PX.var 0) (PX.con (D.str [48]))))
              (PB.val (PX.cmp (CmpOp.NotEq) (PX.var 0) (PX.con (D.str [49]))))))
           (PI.seq (PX.var 1))
           [])
         (PX.lst []))))
   [PSt.ret (PX.con (D.bl false))]
   [],
 PSt.ifs
   (PB.or
     (PB.val (PX.cmp (CmpOp.Eq) (PX.var 2) (PX.tup [])))
     (PB.or
       (PB.val (PX.cmp (CmpOp.Gt) (PX.blt (Bl.len) [PX.var 2]) (PX.con (D.int 12))))
       (PB.or
         (PB.val (PX.cmp (CmpOp.Lt) (PX.blt (Bl.minS) [PX.var 2]) (PX.con (D.int 1))))
         (PB.or
           (PB.val (PX.cmp (CmpOp.Gt) (PX.blt (Bl.maxS) [PX.var 2]) (PX.con (D.int 999))))
           (PB.or
             (PB.val (PX.cmp (CmpOp.Lt) (PX.var 3) (PX.con (D.int 0))))
             (PB.val (PX.cmp (CmpOp.Gt) (PX.var 3) (PX.con (D.int 1000)))))))))
   [PSt.ret (PX.con (D.bl false))]
   [],
 PSt.ifs
   (PB.or
     (PB.val (PX.cmp (CmpOp.Gt) (PX.blt (Bl.len) [PX.var 4]) (PX.con (D.int 4))))
     (PB.val
       (PX.cmp
         (CmpOp.NotEq)
         (PX.blt (Bl.list) [PX.var 4])
         (PX.blt (Bl.sortedSet) [PX.blt (Bl.list) [PX.var 4]]))))
   [PSt.ret (PX.con (D.bl false))]
   [],
 PSt.ret
   (PX.or
     (PX.cmp (CmpOp.Eq) (PX.var 4) (PX.tup []))
     (PX.and
       (PX.cmp (CmpOp.Gt) (PX.idx (PX.var 4) (PX.con (D.int 0))) (PX.con (D.int 0)))
       (PX.cmp
         (CmpOp.Lt)
         (PX.idx (PX.var 4) (PX.neg (PX.con (D.int 1))))
         (PX.con (D.int 100)))))]
-- names _law_good_route: [_law_route, _law_prefix, _law_path, _law_weight, _law_tags_here]
noncomputable def p_good_rule : List PSt := [PSt.ifs
   (PB.or
     (PB.val
       (PX.cmp
         (CmpOp.Gt)
         (PX.blt (Bl.len) [PX.idx (PX.var 0) (PX.con (D.int 0))])
         (PX.con (D.int 16))))
     (PB.val
       (PX.cmp
         (CmpOp.NotEq)
         (PX.comp
           (PX.var 0)
           (some (PB.and
              (PB.val (PX.cmp (CmpOp.NotEq) (PX.var 0) (PX.con (D.str [48]))))
              (PB.val (PX.cmp (CmpOp.NotEq) (PX.var 0) (PX.con (D.str [49]))))))
           (PI.seq (PX.idx (PX.var 0) (PX.con (D.int 0))))
           [])
         (PX.lst []))))
   [PSt.ret (PX.con (D.bl false))]
   [],
 PSt.asg
   (PTg.nm 1)
   (PX.lst
     [PX.con (D.int 16),
      PX.con (D.int 999),
      PX.con (D.int 99),
      PX.con (D.int 0),
      PX.con (D.int 0),
      PX.con (D.int 99),
      PX.con (D.int 99),
      PX.con (D.int 3)]),
 PSt.forS
   (PTg.nm 2)
   (PI.seq
     (PX.lst
       [PX.con (D.int 1),
        PX.con (D.int 2),
        PX.con (D.int 3),
        PX.con (D.int 6),
        PX.con (D.int 7),
        PX.con (D.int 8)]))
   [PSt.ifs
      (PB.or
        (PB.val (PX.cmp (CmpOp.Lt) (PX.idx (PX.var 0) (PX.var 2)) (PX.con (D.int 0))))
        (PB.val
          (PX.cmp
            (CmpOp.Gt)
            (PX.idx (PX.var 0) (PX.var 2))
            (PX.idx (PX.var 1) (PX.bin (Operator.Sub) (PX.var 2) (PX.con (D.int 1)))))))
      [PSt.ret (PX.con (D.bl false))]
      []],
 PSt.ret
   (PX.and
     (PX.cmp
       (CmpOp.In)
       (PX.idx (PX.var 0) (PX.con (D.int 4)))
       (PX.lst
         [PX.con (D.str [110, 111]), PX.con (D.str [121, 101, 115]), PX.con (D.str [111, 110])]))
     (PX.or
       (PX.cmp (CmpOp.Is) (PX.idx (PX.var 0) (PX.con (D.int 5))) (PX.con (D.non)))
       (PX.and
         (PX.cmp (CmpOp.GtE) (PX.idx (PX.var 0) (PX.con (D.int 5))) (PX.con (D.int 0)))
         (PX.cmp
           (CmpOp.LtE)
           (PX.idx (PX.var 0) (PX.con (D.int 5)))
           (PX.con (D.int 1000))))))]
-- names _law_good_rule: [_law_rule, _law_most, _law_k]
noncomputable def p_told : List PSt := [PSt.tryW
   [PSt.ret
      (PX.callV
        0
        ["is_prefix",
         "is_path",
         "are_tags",
         "need_prefix",
         "need_route",
         "need_rule",
         "_law_cell",
         "_law_drawn",
         "_law_numbers",
         "_law_bits",
         "_law_tags",
         "_law_spoilt_route",
         "_law_spoilt_rule",
         "_law_good_route",
         "_law_good_rule",
         "_law_told"]
        [PX.var 1])]
   [(0, D.str [66, 97, 100, 82, 111, 117, 116, 101]), (1, D.str [66, 97, 100, 82, 117, 108, 101])]]
-- names _law_told: [_law_rule, _law_thing, _law_e]
noncomputable def p_law : List PSt := [PSt.forS
   (PTg.nm 1)
   (PI.rng
     (PX.blt
       (Bl.max2)
       [PX.con (D.int 1), PX.blt (Bl.min2) [PX.con (D.int 6), PX.blt (Bl.len) [PX.var 0]]]))
   [PSt.asg (PTg.nm 2) (PX.call 7 [PX.call 6 [PX.var 0, PX.var 1], PX.var 1]),
    PSt.asg
      (PTg.nm 3)
      (PX.call
        9
        [PX.bin (Operator.FloorDiv) (PX.var 2) (PX.con (D.int 16)),
         PX.idx
           (PX.lst
             [PX.con (D.int 0),
              PX.bin (Operator.Mod) (PX.var 2) (PX.con (D.int 17)),
              PX.con (D.int 16)])
           (PX.bin
             (Operator.Mod)
             (PX.bin (Operator.FloorDiv) (PX.var 2) (PX.con (D.int 8)))
             (PX.con (D.int 3)))]),
    PSt.asg
      (PTg.nm 4)
      (PX.bin
        (Operator.Add)
        (PX.con (D.int 1))
        (PX.bin
          (Operator.Mod)
          (PX.bin
            (Operator.FloorDiv)
            (PX.var 2)
            (PX.bin (Operator.Pow) (PX.con (D.int 2)) (PX.con (D.int 17))))
          (PX.con (D.int 12)))),
    PSt.asg
      (PTg.nm 5)
      (PX.blt
        (Bl.tuple)
        [PX.call
           8
           [PX.bin
              (Operator.FloorDiv)
              (PX.var 2)
              (PX.bin (Operator.Pow) (PX.con (D.int 2)) (PX.con (D.int 20))),
            PX.var 4]]),
    PSt.asg
      (PTg.nm 6)
      (PX.idx
        (PX.lst
          [PX.con (D.int 0),
           PX.con (D.int 1000),
           PX.bin
             (Operator.Mod)
             (PX.bin
               (Operator.FloorDiv)
               (PX.var 2)
               (PX.bin (Operator.Pow) (PX.con (D.int 2)) (PX.con (D.int 40))))
             (PX.con (D.int 1001))])
        (PX.bin
          (Operator.Mod)
          (PX.bin
            (Operator.FloorDiv)
            (PX.var 2)
            (PX.bin (Operator.Pow) (PX.con (D.int 2)) (PX.con (D.int 30))))
          (PX.con (D.int 3)))),
    PSt.asg
      (PTg.nm 7)
      (PX.tup
        [PX.var 3,
         PX.var 5,
         PX.var 6,
         PX.call
           10
           [PX.bin
              (Operator.FloorDiv)
              (PX.var 2)
              (PX.bin (Operator.Pow) (PX.con (D.int 2)) (PX.con (D.int 50)))]]),
    PSt.asg
      (PTg.nm 8)
      (PX.tup
        [PX.var 3,
         PX.idx
           (PX.lst [PX.con (D.int 0), PX.con (D.int 16), PX.con (D.int 7)])
           (PX.bin
             (Operator.Mod)
             (PX.bin (Operator.FloorDiv) (PX.var 2) (PX.con (D.int 32)))
             (PX.con (D.int 3))),
         PX.idx
           (PX.lst
             [PX.con (D.int 0), PX.con (D.int 999), PX.idx (PX.var 5) (PX.con (D.int 0))])
           (PX.bin
             (Operator.Mod)
             (PX.bin
               (Operator.FloorDiv)
               (PX.var 2)
               (PX.bin (Operator.Pow) (PX.con (D.int 2)) (PX.con (D.int 33))))
             (PX.con (D.int 3)))]),
    PSt.asg
      (PTg.nm 8)
      (PX.bin
        (Operator.Add)
        (PX.var 8)
        (PX.tup
          [PX.idx
             (PX.lst [PX.con (D.int 0), PX.con (D.int 99), PX.con (D.int 5)])
             (PX.bin
               (Operator.Mod)
               (PX.bin
                 (Operator.FloorDiv)
                 (PX.var 2)
                 (PX.bin (Operator.Pow) (PX.con (D.int 2)) (PX.con (D.int 35))))
               (PX.con (D.int 3)))])),
    PSt.asg
      (PTg.nm 8)
      (PX.bin
        (Operator.Add)
        (PX.var 8)
        (PX.tup
          [PX.idx
             (PX.lst
               [PX.con (D.str [110, 111]), PX.con (D.str [121, 101, 115]), PX.con (D.str [111, 110])])
             (PX.bin
               (Operator.Mod)
               (PX.bin
                 (Operator.FloorDiv)
                 (PX.var 2)
                 (PX.bin (Operator.Pow) (PX.con (D.int 2)) (PX.con (D.int 37))))
               (PX.con (D.int 3))),
           PX.idx
             (PX.lst [PX.con (D.non), PX.con (D.int 0), PX.con (D.int 1000)])
             (PX.bin
               (Operator.Mod)
               (PX.bin
                 (Operator.FloorDiv)
                 (PX.var 2)
                 (PX.bin (Operator.Pow) (PX.con (D.int 2)) (PX.con (D.int 39))))
               (PX.con (D.int 3)))])),
    PSt.asg
      (PTg.nm 8)
      (PX.bin
        (Operator.Add)
        (PX.var 8)
        (PX.tup
          [PX.idx
             (PX.lst [PX.con (D.int 0), PX.con (D.int 99)])
             (PX.bin
               (Operator.Mod)
               (PX.bin
                 (Operator.FloorDiv)
                 (PX.var 2)
                 (PX.bin (Operator.Pow) (PX.con (D.int 2)) (PX.con (D.int 42))))
               (PX.con (D.int 2))),
           PX.idx
             (PX.lst [PX.con (D.int 0), PX.con (D.int 99)])
             (PX.bin
               (Operator.Mod)
               (PX.bin
                 (Operator.FloorDiv)
                 (PX.var 2)
                 (PX.bin (Operator.Pow) (PX.con (D.int 2)) (PX.con (D.int 43))))
               (PX.con (D.int 2)))])),
    PSt.asg
      (PTg.nm 8)
      (PX.bin
        (Operator.Add)
        (PX.var 8)
        (PX.tup
          [PX.idx
             (PX.lst [PX.con (D.int 0), PX.con (D.int 3), PX.con (D.int 1)])
             (PX.bin
               (Operator.Mod)
               (PX.bin
                 (Operator.FloorDiv)
                 (PX.var 2)
                 (PX.bin (Operator.Pow) (PX.con (D.int 2)) (PX.con (D.int 44))))
               (PX.con (D.int 3)))])),
    PSt.ifs
      (PB.val
        (PX.cmp
          (CmpOp.Eq)
          (PX.bin
            (Operator.Mod)
            (PX.bin
              (Operator.FloorDiv)
              (PX.var 2)
              (PX.bin (Operator.Pow) (PX.con (D.int 2)) (PX.con (D.int 47))))
            (PX.con (D.int 2)))
          (PX.con (D.int 1))))
      [PSt.asg
         (PTg.nm 7)
         (PX.call
           11
           [PX.bin
              (Operator.FloorDiv)
              (PX.var 2)
              (PX.bin (Operator.Pow) (PX.con (D.int 2)) (PX.con (D.int 60))),
            PX.var 7]),
       PSt.asg
         (PTg.nm 8)
         (PX.call
           12
           [PX.bin
              (Operator.FloorDiv)
              (PX.bin
                (Operator.FloorDiv)
                (PX.var 2)
                (PX.bin (Operator.Pow) (PX.con (D.int 2)) (PX.con (D.int 60))))
              (PX.con (D.int 1024)),
            PX.var 8])]
      [],
    PSt.asg
      (PTg.nm 9)
      (PX.new
        [PX.idx
           (PX.new [PX.con (D.non), PX.con (D.str [66, 97, 100, 82, 111, 117, 116, 101])])
           (PX.blt (Bl.int) [PX.not (PX.call 13 [PX.var 7])])]),
    PSt.ex
      (PX.app
        (PX.var 9)
        (PX.idx
          (PX.lst [PX.con (D.non), PX.con (D.str [66, 97, 100, 82, 117, 108, 101])])
          (PX.blt (Bl.int) [PX.not (PX.call 14 [PX.var 8])]))),
    PSt.forS
      (PTg.nm 10)
      (PI.rng (PX.con (D.int 2)))
      [PSt.ifs
         (PB.val
           (PX.cmp
             (CmpOp.NotEq)
             (PX.lst
               [PX.call 15 [PX.con (D.fn "need_route"), PX.var 7],
                PX.call 15 [PX.con (D.fn "need_rule"), PX.var 8]])
             (PX.var 9)))
         [PSt.ret (PX.con (D.bl false))]
         []]],
 PSt.ret (PX.con (D.bl true))]
-- names law: [_law_script, _law_k, _law_more, _law_prefix, _law_many, _law_path, _law_weight, _law_route, _law_rule, _law_due, _law_turn]
end K10
namespace K10
open MP PySem
def okS (s : List Nat) : Prop := s.length ≤ SZ ∧ (s.all fun c => decide (c < 1114112)) = true
noncomputable def goodP (s : List Nat) : Bool := decide ((s.length : Int) ≤ 16) && s.all fun c => c == 48 || c == 49
noncomputable def goodPath (l : List Int) : Bool := (decide (1 ≤ (l.length : Int)) && decide ((l.length : Int) ≤ 12)) && l.all fun n => decide (1 ≤ n) && decide (n ≤ 999)
noncomputable def risT : Int → List Int → Bool
  | _, [] => true
  | a, x :: r => (decide (a < x) && decide (x ≤ 99)) && risT x r
noncomputable def goodTags (l : List Int) : Bool := !decide (4 < (l.length : Int)) && risT 0 l
noncomputable def goodW (w : Int) : Bool := decide (0 ≤ w) && decide (w ≤ 1000)
structure Rt where
  pre : List Nat
  path : List Int
  w : Int
  tags : List Int
noncomputable def Rt.d (t : Rt) : D := .tup [.str t.pre, .tup (t.path.map .int), .int t.w, .tup (t.tags.map .int)]
noncomputable def goodR (t : Rt) : Bool := goodP t.pre && goodPath t.path && goodW t.w && goodTags t.tags
structure Rt.Ok (t : Rt) : Prop where
  pre : okS t.pre
  path : t.path.length ≤ 1000
  tags : t.tags.length ≤ 1000
def PIsPrefix (f : Den) : Prop := ∀ (s : List Nat) (h : AH), okS s → f [.str s] h = .ok (.bl (goodP s)) h
theorem len_str {s : List Nat} (h : s.length ≤ SZ) : bltD .len [.str s] = some (.int s.length) := if_pos h
theorem bools_map {α : Type} (g : α → Bool) : ∀ l : List α, bools? (l.map fun x => D.bl (g x)) = some (l.map g)
  | [] => rfl
  | a :: l => by
    show (bools? (l.map fun x => D.bl (g x))).map (g a :: ·) = _
    rw [bools_map g l]
    rfl
theorem all_map {α : Type} (g : α → Bool) (l : List α) : bltD .all [.lst (l.map fun x => D.bl (g x))] = some (.bl (l.all g)) := by
  show (bools? (l.map fun x => D.bl (g x))).bind _ = _
  rw [bools_map]
  simp [List.all_map]
theorem sgl (a c : Nat) : ([a] == [c]) = (c == a) := by
  by_cases q : c = a
  · subst q; simp
  · have e1 : (a == c) = false := beq_eq_false_iff_ne.mpr (Ne.symm q)
    have e2 : (c == a) = false := beq_eq_false_iff_ne.mpr q
    rw [e2]
    simpa using Ne.symm q
theorem isPrefix_ok {G : List Den} : PIsPrefix (cutDen (runF G 1 1 p_is_prefix)) := by
  intro s h ⟨hl, hp⟩
  refine run_rt rfl ?_
  have e0 : startE 1 [.str s] = [some (.str s)] := rfl
  rw [e0]
  have ec : ev G (PX.comp (PX.cmp (CmpOp.In) (PX.var 0) (PX.tup [PX.con (D.str [48]), PX.con (D.str [49])])) none (PI.seq (PX.var 0)) []) [some (.str s)] h = some (.lst ((s.map fun c => D.str [c]).map fun d => match d with | .str [c] => .bl (c == 48 || c == 49) | _ => .non), h) := by
    refine ev_comp (ds := s.map fun c => D.str [c]) ?_ (by rw [List.length_map]; exact hl) fun d hd => ?_
    · rw [evI]; simp [itD]
    · obtain ⟨c, hc, rfl⟩ := List.mem_map.mp hd
      have hc' : c < 1114112 := by simpa using List.all_eq_true.mp hp c hc
      have z : ([48] == [c]) = (c == 48) := sgl 48 c
      have z1 : ([49] == [c]) = (c == 49) := sgl 49 c
      have z2 : inD (D.str [c]) [D.str [48], D.str [49]] = (c == 48 || c == 49) := by
        simp [inD, eqD_str, z, z1]
      have h2 : (2 : Nat) ≤ SZ := by decide
      simp [ev, evs, hc', z2, h2]
  have em : (s.map fun c => D.str [c]).map (fun d => match d with | .str [c] => D.bl (c == 48 || c == 49) | _ => D.non) = s.map fun c => D.bl (c == 48 || c == 49) := by simp [List.map_map]
  rw [em] at ec
  have hA := all_map (fun c => c == 48 || c == 49) s
  have hev : ev G (PX.and (PX.cmp (CmpOp.LtE) (PX.blt (Bl.len) [PX.var 0]) (PX.con (D.int 16))) (PX.blt (Bl.all) [PX.comp (PX.cmp (CmpOp.In) (PX.var 0) (PX.tup [PX.con (D.str [48]), PX.con (D.str [49])])) none (PI.seq (PX.var 0)) []])) [some (.str s)] h = some (.bl (goodP s), h) := by
    have e1 : ev G (PX.cmp (CmpOp.LtE) (PX.blt (Bl.len) [PX.var 0]) (PX.con (D.int 16))) [some (.str s)] h = some (.bl (decide ((s.length : Int) ≤ 16)), h) := by simp [ev, evs, len_str hl]
    have e2 : ev G (PX.blt (Bl.all) [PX.comp (PX.cmp (CmpOp.In) (PX.var 0) (PX.tup [PX.con (D.str [48]), PX.con (D.str [49])])) none (PI.seq (PX.var 0)) []]) [some (.str s)] h = some (.bl (s.all fun c => c == 48 || c == 49), h) := by
      rw [ev, evs, ec]
      simp only [evs, Option.bind_some, List.map_cons, List.map_nil, vw_lst]
      rw [hA]
      rfl
    rw [ev, e1]
    simp only [Option.bind_some]
    unfold goodP
    cases decide ((s.length : Int) ≤ 16) with
    | true => simp [e2]
    | false => simp
  unfold p_is_prefix
  rw [exSs, exS, evR_ev hev]
def PIsPath (f : Den) : Prop := ∀ (l : List Int) (h : AH), l.length ≤ 1000 → f [.tup (l.map .int)] h = .ok (.bl (goodPath l)) h
theorem len_tup (s : List D) : bltD .len [.tup s] = some (.int s.length) := rfl
theorem isPath_ok {G : List Den} : PIsPath (cutDen (runF G 1 1 p_is_path)) := by
  intro l h hl
  refine run_rt rfl ?_
  have e0 : startE 1 [.tup (l.map .int)] = [some (.tup (l.map .int))] := rfl
  rw [e0]
  have hz : l.length ≤ SZ := by show _ ≤ 16777216; omega
  have ec : ev G (PX.comp (PX.cmp2 (CmpOp.LtE) (CmpOp.LtE) (PX.con (D.int 1)) (PX.var 0) (PX.con (D.int 999))) none (PI.seq (PX.var 0)) []) [some (.tup (l.map .int))] h = some (.lst ((l.map D.int).map fun d => match d with | .int n => .bl (decide (1 ≤ n) && decide (n ≤ 999)) | _ => .non), h) := by
    refine ev_comp (ds := l.map D.int) ?_ (by rw [List.length_map]; exact hz) fun d hd => ?_
    · rw [evI]; simp [itD]
    · obtain ⟨n, hn, rfl⟩ := List.mem_map.mp hd
      by_cases q : 1 ≤ n <;> simp [ev, q]
  have em : (l.map D.int).map (fun d => match d with | .int n => D.bl (decide (1 ≤ n) && decide (n ≤ 999)) | _ => .non) = l.map fun n => D.bl (decide (1 ≤ n) && decide (n ≤ 999)) := by simp [List.map_map]
  rw [em] at ec
  have hA := all_map (fun n : Int => decide (1 ≤ n) && decide (n ≤ 999)) l
  have e1 : ev G (PX.cmp2 (CmpOp.LtE) (CmpOp.LtE) (PX.con (D.int 1)) (PX.blt (Bl.len) [PX.var 0]) (PX.con (D.int 12))) [some (.tup (l.map .int))] h = some (.bl (decide (1 ≤ (l.length : Int)) && decide ((l.length : Int) ≤ 12)), h) := by
    by_cases q : 1 ≤ (l.length : Int) <;> simp [ev, evs, len_tup, q]
  have e2 : ev G (PX.blt (Bl.all) [PX.comp (PX.cmp2 (CmpOp.LtE) (CmpOp.LtE) (PX.con (D.int 1)) (PX.var 0) (PX.con (D.int 999))) none (PI.seq (PX.var 0)) []]) [some (.tup (l.map .int))] h = some (.bl (l.all fun n => decide (1 ≤ n) && decide (n ≤ 999)), h) := by
    rw [ev, evs, ec]
    simp only [evs, Option.bind_some, List.map_cons, List.map_nil, vw_lst]
    rw [hA]
    rfl
  unfold p_is_path
  rw [exSs, exS, evR_ev (d := .bl (goodPath l)) (h' := h) ?_]
  rw [ev, e1]
  simp only [Option.bind_some]
  unfold goodPath
  cases (decide (1 ≤ (l.length : Int)) && decide ((l.length : Int) ≤ 12)) with
  | true => simp [e2]
  | false => simp
def PAreTags (f : Den) : Prop := ∀ (l : List Int) (h : AH), f [.tup (l.map .int)] h = .ok (.bl (goodTags l)) h
theorem tags_loop {G : List Den} {h : AH} {t : D} : ∀ (l : List Int) (a : Int) (x : Option D), ∃ y z, forL (forB G (.nm 2) [PSt.ifs (PB.not (PB.val (PX.cmp2 (CmpOp.Lt) (CmpOp.LtE) (PX.var 1) (PX.var 2) (PX.con (D.int 99))))) [PSt.ret (PX.con (D.bl false))] [], PSt.asg (PTg.nm 1) (PX.var 2)]) (l.map .int) [some t, some (.int a), x] h = if risT a l = true then .nx [some t, some (.int y), z] h else .rt (.bl false) h
  | [], a, x => ⟨a, x, rfl⟩
  | b :: l, a, x => by
    obtain ⟨y, z, ih⟩ := tags_loop (G := G) (h := h) (t := t) l b (some (.int b))
    by_cases h1 : a < b
    · by_cases h2 : b ≤ 99
      · refine ⟨y, z, ?_⟩
        have e : forB G (.nm 2) [PSt.ifs (PB.not (PB.val (PX.cmp2 (CmpOp.Lt) (CmpOp.LtE) (PX.var 1) (PX.var 2) (PX.con (D.int 99))))) [PSt.ret (PX.con (D.bl false))] [], PSt.asg (PTg.nm 1) (PX.var 2)] (.int b) [some t, some (.int a), x] h = .nx [some t, some (.int b), some (.int b)] h := by
          simp [forB, setT, exSs, exS, evB, ev, evR, h1, h2]
        rw [List.map_cons, forL, e]
        dsimp only
        rw [ih]
        simp [risT, h1, h2]
      · refine ⟨0, none, ?_⟩
        have e : forB G (.nm 2) [PSt.ifs (PB.not (PB.val (PX.cmp2 (CmpOp.Lt) (CmpOp.LtE) (PX.var 1) (PX.var 2) (PX.con (D.int 99))))) [PSt.ret (PX.con (D.bl false))] [], PSt.asg (PTg.nm 1) (PX.var 2)] (.int b) [some t, some (.int a), x] h = .rt (.bl false) h := by
          simp [forB, setT, exSs, exS, evB, ev, evR, h1, h2]
        rw [List.map_cons, forL, e]
        simp [risT, h2]
    · refine ⟨0, none, ?_⟩
      have e : forB G (.nm 2) [PSt.ifs (PB.not (PB.val (PX.cmp2 (CmpOp.Lt) (CmpOp.LtE) (PX.var 1) (PX.var 2) (PX.con (D.int 99))))) [PSt.ret (PX.con (D.bl false))] [], PSt.asg (PTg.nm 1) (PX.var 2)] (.int b) [some t, some (.int a), x] h = .rt (.bl false) h := by
        simp [forB, setT, exSs, exS, evB, ev, evR, h1]
      rw [List.map_cons, forL, e]
      simp [risT, h1]
theorem areTags_ok {G : List Den} : PAreTags (cutDen (runF G 1 3 p_are_tags)) := by
  intro l h
  refine run_rt rfl ?_
  have e0 : startE 3 [.tup (l.map .int)] = [some (.tup (l.map .int)), none, none] := rfl
  rw [e0]
  unfold p_are_tags goodTags
  by_cases q : 4 < (l.length : Int)
  · simp [exSs, exS, evB, ev, evs, evR, len_tup, q]
  · obtain ⟨y, z, e⟩ := tags_loop (G := G) (h := h) (t := .tup (l.map .int)) l 0 none
    rw [exSs, exS]
    simp only [evB, ev, evs, len_tup, List.map_cons, List.map_nil, getV_zero, Option.bind_some, vw_tup, vw_int, List.length_map, cmp_gt, q, decide_false, tru_bl, exSs, if_false, Bool.false_eq_true]
    rw [exS, evR_ev (d := .int 0) (h' := h) (by simp)]
    simp only [setT, List.set_cons_succ, List.set_cons_zero]
    rw [exS_for (ds := l.map .int) (h' := h) (by rw [evI]; simp [itD]), e]
    cases risT 0 l with
    | true => simp [exS, evR]
    | false => simp
def PNeedPrefix (f : Den) : Prop := ∀ (s : List Nat) (h : AH), okS s → f [.str s] h = if goodP s = true then .ok .non h else .exc 0 h
theorem needPrefix_ok {G : List Den} {f : Den} (hG : G[0]? = some f) (hf : PIsPrefix f) : PNeedPrefix (cutDen (runF G 1 1 p_need_prefix)) := by
  intro s h hs
  have e0 : startE 1 [.str s] = [some (.str s)] := rfl
  have ef := hf s h hs
  by_cases q : goodP s = true
  · rw [if_pos q]
    refine run_nx (ρ' := [some (.str s)]) rfl ?_
    rw [e0]
    simp [p_need_prefix, exSs, exS, evB, ev, evs, hG, ef, q]
  · rw [if_neg q]
    refine run_exc (ρ' := [some (.str s)]) rfl ?_
    rw [e0]
    have q : goodP s = false := by simpa using q
    simp [p_need_prefix, exSs, exS, evB, ev, evs, hG, ef, q]
theorem rt0 (t : Rt) : idxD t.d (.int 0) = some (.str t.pre) := rfl
theorem rt1 (t : Rt) : idxD t.d (.int 1) = some (.tup (t.path.map .int)) := rfl
theorem rt2 (t : Rt) : idxD t.d (.int 2) = some (.int t.w) := rfl
theorem rt3 (t : Rt) : idxD t.d (.int 3) = some (.tup (t.tags.map .int)) := rfl
theorem vw_rt (t : Rt) (h : AH) : vw h t.d = t.d := rfl
def PNeedRoute (f : Den) : Prop := ∀ (t : Rt) (h : AH), t.Ok → f [t.d] h = if goodR t = true then .ok .non h else .exc 0 h
theorem needRoute_ok {G : List Den} {f1 f2 f3 : Den} (g1 : G[1]? = some f1) (k1 : PIsPath f1) (g2 : G[2]? = some f2) (k2 : PAreTags f2) (g3 : G[3]? = some f3) (k3 : PNeedPrefix f3) : PNeedRoute (cutDen (runF G 1 1 p_need_route)) := by
  intro t h ht
  have e0 : startE 1 [t.d] = [some t.d] := rfl
  have a1 := k1 t.path h ht.path
  have a2 := k2 t.tags h
  have a3 := k3 t.pre h ht.pre
  have ex : evR G (PX.call 3 [PX.idx (PX.var 0) (PX.con (D.int 0))]) [some t.d] h = (if goodP t.pre = true then .ok .non h else .exc 0 h) := by
    rw [evR_call (ds := [.str t.pre]) (h' := h) (by simp [evs, ev, vw_rt, rt0]) g3, a3]
  by_cases q0 : goodP t.pre = true
  · by_cases q1 : goodPath t.path = true
    · by_cases q2 : 0 ≤ t.w
      · by_cases q3 : t.w ≤ 1000
        · by_cases q4 : goodTags t.tags = true
          · have hg : goodR t = true := by simp [goodR, goodW, q0, q1, q2, q3, q4]
            rw [if_pos hg]
            refine run_nx (ρ' := [some t.d]) rfl ?_
            rw [e0]
            simp [p_need_route, exSs, exS, ex, evB, ev, evs, vw_rt, rt0, rt1, rt2, rt3, g1, g2, a1, a2, q0, q1, q2, q3, q4]
          · have q4 : goodTags t.tags = false := by simpa using q4
            have hg : goodR t = false := by simp [goodR, q4]
            rw [hg]
            refine run_exc (ρ' := [some t.d]) rfl ?_
            rw [e0]
            simp [p_need_route, exSs, exS, ex, evB, ev, evs, vw_rt, rt0, rt1, rt2, rt3, g1, g2, a1, a2, q0, q1, q2, q3, q4]
        · have hg : goodR t = false := by simp [goodR, goodW, q3]
          rw [hg]
          refine run_exc (ρ' := [some t.d]) rfl ?_
          rw [e0]
          simp [p_need_route, exSs, exS, ex, evB, ev, evs, vw_rt, rt0, rt1, rt2, rt3, g1, g2, a1, a2, q0, q1, q2, q3]
      · have hg : goodR t = false := by simp [goodR, goodW, q2]
        rw [hg]
        refine run_exc (ρ' := [some t.d]) rfl ?_
        rw [e0]
        simp [p_need_route, exSs, exS, ex, evB, ev, evs, vw_rt, rt0, rt1, rt2, rt3, g1, g2, a1, a2, q0, q1, q2]
    · have q1 : goodPath t.path = false := by simpa using q1
      have hg : goodR t = false := by simp [goodR, q1]
      rw [hg]
      refine run_exc (ρ' := [some t.d]) rfl ?_
      rw [e0]
      simp [p_need_route, exSs, exS, ex, evB, ev, evs, vw_rt, rt0, rt1, rt2, rt3, g1, g2, a1, a2, q0, q1]
  · have q0 : goodP t.pre = false := by simpa using q0
    have hg : goodR t = false := by simp [goodR, q0]
    rw [hg]
    refine run_exc (ρ' := [some t.d]) rfl ?_
    rw [e0]
    simp [p_need_route, exSs, exS, ex, q0]
end K10
namespace K10
open MP PySem
noncomputable def bnd (x m : Int) : Bool := decide (0 ≤ x) && decide (x ≤ m)
noncomputable def optD : Option Int → D
  | none => .non
  | some i => .int i
noncomputable def preferOk : Option Int → Bool
  | none => true
  | some i => bnd i 1000
noncomputable def deedOk (s : List Nat) : Bool := s == [110, 111] || (s == [121, 101, 115] || s == [111, 110])
structure Rl where
  pre : List Nat
  longest : Int
  number : Int
  tag : Int
  deed : List Nat
  prefer : Option Int
  add : Int
  take : Int
  ahead : Int
noncomputable def Rl.d (r : Rl) : D := .tup [.str r.pre, .int r.longest, .int r.number, .int r.tag, .str r.deed, optD r.prefer, .int r.add, .int r.take, .int r.ahead]
noncomputable def numsOk (r : Rl) : Bool := bnd r.longest 16 && (bnd r.number 999 && (bnd r.tag 99 && (bnd r.add 99 && (bnd r.take 99 && bnd r.ahead 3))))
noncomputable def goodRl (r : Rl) : Bool := goodP r.pre && (numsOk r && (deedOk r.deed && preferOk r.prefer))
structure Rl.Ok (r : Rl) : Prop where
  pre : okS r.pre
  deed : okS r.deed
theorem rl0 (r : Rl) : idxD r.d (.int 0) = some (.str r.pre) := rfl
theorem rl1 (r : Rl) : idxD r.d (.int 1) = some (.int r.longest) := rfl
theorem rl2 (r : Rl) : idxD r.d (.int 2) = some (.int r.number) := rfl
theorem rl3 (r : Rl) : idxD r.d (.int 3) = some (.int r.tag) := rfl
theorem rl4 (r : Rl) : idxD r.d (.int 4) = some (.str r.deed) := rfl
theorem rl5 (r : Rl) : idxD r.d (.int 5) = some (optD r.prefer) := rfl
theorem rl6 (r : Rl) : idxD r.d (.int 6) = some (.int r.add) := rfl
theorem rl7 (r : Rl) : idxD r.d (.int 7) = some (.int r.take) := rfl
theorem rl8 (r : Rl) : idxD r.d (.int 8) = some (.int r.ahead) := rfl
theorem vw_rl (r : Rl) (h : AH) : vw h r.d = r.d := rfl
noncomputable def fstOk (nm : List Nat) (g : Int) : Bool := match fmtDs [.str nm, .str [32, 105, 115, 32, 110, 111, 116, 32, 48, 32, 116, 111, 32], .int g] with
  | some t => decide (t.length ≤ SZ)
  | none => false
noncomputable def rlBody : List PSt := [PSt.ifs (PB.not (PB.val (PX.cmp2 (CmpOp.LtE) (CmpOp.LtE) (PX.con (D.int 0)) (PX.idx (PX.var 0) (PX.var 1)) (PX.var 3)))) [PSt.rai 1 [PX.fst [PX.var 2, PX.con (D.str [32, 105, 115, 32, 110, 111, 116, 32, 48, 32, 116, 111, 32]), PX.var 3]]] []]
theorem rl_step {G : List Den} {h : AH} {r : Rl} {pl g v : Int} {nm : List Nat} {x y z : Option D} (hi : idxD r.d (.int pl) = some (.int v)) (hf : fstOk nm g = true) :
    forB G (.tp [1, 2, 3]) rlBody (.tup [.int pl, .str nm, .int g]) [some r.d, x, y, z] h = if bnd v g = true then .nx [some r.d, some (.int pl), some (.str nm), some (.int g)] h else .exc 1 [some r.d, some (.int pl), some (.str nm), some (.int g)] h := by
  have e1 : forB G (.tp [1, 2, 3]) rlBody (.tup [.int pl, .str nm, .int g]) [some r.d, x, y, z] h = exSs G rlBody [some r.d, some (.int pl), some (.str nm), some (.int g)] h := rfl
  rw [e1]
  unfold fstOk at hf
  cases hm : fmtDs [.str nm, .str [32, 105, 115, 32, 110, 111, 116, 32, 48, 32, 116, 111, 32], .int g] with
  | none => rw [hm] at hf; cases hf
  | some t =>
    rw [hm] at hf
    have ht : t.length ≤ SZ := by simpa using hf
    have ec : ev G (PX.cmp2 (CmpOp.LtE) (CmpOp.LtE) (PX.con (D.int 0)) (PX.idx (PX.var 0) (PX.var 1)) (PX.var 3)) [some r.d, some (.int pl), some (.str nm), some (.int g)] h = some (.bl (bnd v g), h) := by
      unfold bnd
      by_cases q : 0 ≤ v <;> simp [ev, vw_rl, hi, q]
    have ef : ev G (PX.fst [PX.var 2, PX.con (D.str [32, 105, 115, 32, 110, 111, 116, 32, 48, 32, 116, 111, 32]), PX.var 3]) [some r.d, some (.int pl), some (.str nm), some (.int g)] h = some (.str t, h) := by
      rw [ev]
      simp only [evs, ev_var, ev_con, getV_succ, getV_zero, Option.bind_some, hm]
      rw [if_pos ht]
    have eb : evB G (PB.not (PB.val (PX.cmp2 (CmpOp.LtE) (CmpOp.LtE) (PX.con (D.int 0)) (PX.idx (PX.var 0) (PX.var 1)) (PX.var 3)))) [some r.d, some (.int pl), some (.str nm), some (.int g)] h = some (!bnd v g, h) := by
      rw [evB, evB, ec]; simp
    unfold rlBody
    rw [exSs, exS, eb]
    cases bnd v g with
    | true => simp [exSs]
    | false => simp [exSs, exS, evs, ef]
theorem rl_loop {G : List Den} {h : AH} {r : Rl} : ∃ x y z, exS G (PSt.forS (PTg.tp [1, 2, 3]) (PI.seq (PX.con (D.tup [D.tup [D.int 1, D.str [108, 111, 110, 103, 101, 115, 116], D.int 16], D.tup [D.int 2, D.str [110, 117, 109, 98, 101, 114], D.int 999], D.tup [D.int 3, D.str [116, 97, 103], D.int 99], D.tup [D.int 6, D.str [97, 100, 100], D.int 99], D.tup [D.int 7, D.str [116, 97, 107, 101], D.int 99], D.tup [D.int 8, D.str [97, 104, 101, 97, 100], D.int 3]]))) rlBody) [some r.d, none, none, none] h =
    if numsOk r = true then .nx [some r.d, x, y, z] h else .exc 1 [some r.d, x, y, z] h := by
  rw [exS_for (h' := h) (ds := [D.tup [D.int 1, D.str [108, 111, 110, 103, 101, 115, 116], D.int 16], D.tup [D.int 2, D.str [110, 117, 109, 98, 101, 114], D.int 999], D.tup [D.int 3, D.str [116, 97, 103], D.int 99], D.tup [D.int 6, D.str [97, 100, 100], D.int 99], D.tup [D.int 7, D.str [116, 97, 107, 101], D.int 99], D.tup [D.int 8, D.str [97, 104, 101, 97, 100], D.int 3]]) (by rw [evI]; simp [itD])]
  unfold numsOk
  rw [forL, rl_step (rl1 r) (by decide +kernel)]
  cases bnd r.longest 16 with
  | false => exact ⟨_, _, _, rfl⟩
  | true =>
  simp only [if_true, Bool.true_and]
  rw [forL, rl_step (rl2 r) (by decide +kernel)]
  cases bnd r.number 999 with
  | false => exact ⟨_, _, _, rfl⟩
  | true =>
  simp only [if_true, Bool.true_and]
  rw [forL, rl_step (rl3 r) (by decide +kernel)]
  cases bnd r.tag 99 with
  | false => exact ⟨_, _, _, rfl⟩
  | true =>
  simp only [if_true, Bool.true_and]
  rw [forL, rl_step (rl6 r) (by decide +kernel)]
  cases bnd r.add 99 with
  | false => exact ⟨_, _, _, rfl⟩
  | true =>
  simp only [if_true, Bool.true_and]
  rw [forL, rl_step (rl7 r) (by decide +kernel)]
  cases bnd r.take 99 with
  | false => exact ⟨_, _, _, rfl⟩
  | true =>
  simp only [if_true, Bool.true_and]
  rw [forL, rl_step (rl8 r) (by decide +kernel)]
  cases bnd r.ahead 3 with
  | false => exact ⟨_, _, _, rfl⟩
  | true => exact ⟨_, _, _, rfl⟩
def PNeedRule (f : Den) : Prop := ∀ (r : Rl) (h : AH), r.Ok → f [r.d] h = if goodRl r = true then .ok .non h else .exc 1 h
theorem deed_in (s : List Nat) : inD (D.str s) [D.str [110, 111], D.str [121, 101, 115], D.str [111, 110]] = deedOk s := by
  have e : ∀ a : List Nat, (a == s) = (s == a) := fun a => by
    by_cases q : a = s
    · subst q; rfl
    · rw [beq_eq_false_iff_ne.mpr q, beq_eq_false_iff_ne.mpr (Ne.symm q)]
  simp only [inD, List.any_cons, List.any_nil, eqD_str, e, deedOk, Bool.or_false]
theorem needRule_ok {G : List Den} {f : Den} (hG : G[0]? = some f) (hf : PIsPrefix f) : PNeedRule (cutDen (runF G 1 4 p_need_rule)) := by
  intro r h hr
  have e0 : startE 4 [r.d] = [some r.d, none, none, none] := rfl
  have ef := hf r.pre h hr.pre
  obtain ⟨x, y, z, el⟩ := rl_loop (G := G) (h := h) (r := r)
  unfold rlBody at el
  have hd := hr.deed.2
  have e3 : ev G (PX.cmp (CmpOp.NotIn) (PX.idx (PX.var 0) (PX.con (D.int 4))) (PX.con (D.tup [D.str [110, 111], D.str [121, 101, 115], D.str [111, 110]]))) [some r.d, x, y, z] h = some (.bl (!deedOk r.deed), h) := by
    simp only [ev, ev_var, ev_con, getV_zero, Option.bind_some, vw_rl, rl4, vw_str, vw_tup, cmp_nin_tup, pure_str, hd]
    rw [if_pos (by decide)]
    simp [deed_in]
  have e4 : evB G (PB.and (PB.val (PX.cmp (CmpOp.IsNot) (PX.idx (PX.var 0) (PX.con (D.int 5))) (PX.con (D.non)))) (PB.not (PB.val (PX.cmp2 (CmpOp.LtE) (CmpOp.LtE) (PX.con (D.int 0)) (PX.idx (PX.var 0) (PX.con (D.int 5))) (PX.con (D.int 1000)))))) [some r.d, x, y, z] h = some (!preferOk r.prefer, h) := by
    cases hp : r.prefer with
    | none =>
      have q5 : idxD r.d (.int 5) = some .non := by rw [rl5, hp]; rfl
      have qc : cmpD .IsNot .non .non = some false := rfl
      simp [evB, ev, vw_rl, q5, qc, preferOk]
    | some v =>
      have q5 : idxD r.d (.int 5) = some (.int v) := by rw [rl5, hp]; rfl
      have qc : cmpD .IsNot (.int v) .non = some true := rfl
      by_cases q : 0 ≤ v <;> simp [evB, ev, vw_rl, q5, qc, preferOk, bnd, q]
  unfold goodRl
  cases q0 : goodP r.pre with
  | false =>
    refine run_exc (ρ' := [some r.d, none, none, none]) rfl ?_
    rw [e0]
    unfold p_need_rule
    simp [exSs, exS, evB, ev, evs, vw_rl, rl0, hG, ef, q0]
  | true =>
  have s1 : exS G (PSt.ifs (PB.not (PB.val (PX.call 0 [PX.idx (PX.var 0) (PX.con (D.int 0))]))) [PSt.rai 1 [PX.con (D.str [116, 104, 101, 32, 112, 114, 101, 102, 105, 120, 32, 105, 115, 32, 110, 111, 116, 32, 111, 102, 32, 48, 32, 116, 111, 32, 49, 54, 32, 115, 105, 103, 110, 115, 32, 48, 32, 97, 110, 100, 32, 49])]] []) [some r.d, none, none, none] h = .nx [some r.d, none, none, none] h := by
    simp [exSs, exS, evB, ev, evs, vw_rl, rl0, hG, ef, q0]
  cases q1 : numsOk r with
  | false =>
    rw [q1] at el
    refine run_exc (ρ' := [some r.d, x, y, z]) rfl ?_
    rw [e0]
    unfold p_need_rule
    rw [exSs_nx s1, exSs, el]
    rfl
  | true =>
  rw [q1] at el
  have el : _ = R.nx [some r.d, x, y, z] h := el
  cases q2 : deedOk r.deed with
  | false =>
    rw [q2] at e3
    refine run_exc (ρ' := [some r.d, x, y, z]) rfl ?_
    rw [e0]
    unfold p_need_rule
    rw [exSs_nx s1, exSs_nx el, exSs, exS, evB, e3]
    simp [exSs, exS, evs]
  | true =>
  rw [q2] at e3
  cases q3 : preferOk r.prefer with
  | false =>
    rw [q3] at e4
    refine run_exc (ρ' := [some r.d, x, y, z]) rfl ?_
    rw [e0]
    unfold p_need_rule
    rw [exSs_nx s1, exSs_nx el, exSs, exS, evB, e3]
    simp [exSs, exS, evs, e4]
  | true =>
    rw [q3] at e4
    refine run_nx (ρ' := [some r.d, x, y, z]) rfl ?_
    rw [e0]
    unfold p_need_rule
    rw [exSs_nx s1, exSs_nx el, exSs, exS, evB, e3]
    simp [exSs, exS, evs, e4]
end K10
namespace K10
open MP PySem
noncomputable abbrev le? : Int → Int → Bool := fun a b => decide (a ≤ b)
theorem ded_go : ∀ (l a : List Int), a.Nodup → (l.foldl (fun a k => if a.any (· == k) then a else a ++ [k]) a).Nodup ∧ ((a ++ l).Nodup → l.foldl (fun a k => if a.any (· == k) then a else a ++ [k]) a = a ++ l)
  | [], a, h => ⟨h, fun _ => by simp⟩
  | x :: l, a, h => by
    rw [List.foldl_cons]
    by_cases q : a.any (· == x) = true
    · rw [if_pos q]
      refine ⟨(ded_go l a h).1, fun hn => ?_⟩
      exfalso
      obtain ⟨y, hy, e⟩ := List.any_eq_true.mp q
      have e : y = x := eq_of_beq e
      subst e
      rw [List.nodup_append] at hn
      exact hn.2.2 y hy y (by simp) rfl
    · rw [if_neg q]
      have hx : x ∉ a := fun hx => q (List.any_eq_true.mpr ⟨x, hx, by simp⟩)
      have h2 : (a ++ [x]).Nodup := by
        rw [List.nodup_append]
        refine ⟨h, by simp, fun y hy z hz => ?_⟩
        have : z = x := by simpa using hz
        rw [this]
        exact fun e => hx (e ▸ hy)
      obtain ⟨i1, i2⟩ := ded_go l (a ++ [x]) h2
      refine ⟨i1, fun hn => ?_⟩
      have e : a ++ x :: l = (a ++ [x]) ++ l := by simp
      rw [e] at hn ⊢
      exact i2 hn
theorem ded_nodup (l : List Int) : (dedI l).Nodup := (ded_go l [] List.nodup_nil).1
theorem ded_id {l : List Int} (h : l.Nodup) : dedI l = l := by have := (ded_go l [] List.nodup_nil).2 (by simpa using h); simpa [dedI] using this
theorem ms_sorted (l : List Int) : (l.mergeSort le?).Pairwise (· ≤ ·) := by
  have := List.pairwise_mergeSort (le := le?) (by intro a b c; simp [le?]; omega) (by intro a b; simp [le?]; omega) l
  exact this.imp (by intro a b h; simpa [le?] using h)
theorem pw_lt {l : List Int} (h : l.Pairwise (· ≤ ·)) (n : l.Nodup) : l.Pairwise (· < ·) := by
  have := List.Pairwise.and h n
  exact this.imp fun ⟨a, b⟩ => by omega
theorem sorted_id {l : List Int} (h : l.Pairwise (· ≤ ·)) : l.mergeSort le? = l := List.mergeSort_of_pairwise (h.imp (by intro a b h; simpa [le?] using h))
theorem ris_iff (l : List Int) : l = (dedI l).mergeSort le? ↔ l.Pairwise (· < ·) := by
  constructor
  · intro e
    have h1 := ms_sorted (dedI l)
    have h2 : ((dedI l).mergeSort le?).Nodup := (List.mergeSort_perm _ _).nodup_iff.mpr (ded_nodup l)
    rw [← e] at h1 h2
    exact pw_lt h1 h2
  · intro h
    have hn : l.Nodup := h.imp fun h => by omega
    rw [ded_id hn, sorted_id (h.imp fun h => by omega)]
theorem risT_iff : ∀ (l : List Int) (a : Int), risT a l = true ↔ (a :: l).Pairwise (· < ·) ∧ ∀ x ∈ l, x ≤ 99
  | [], a => by simp [risT]
  | b :: l, a => by
    simp only [risT, Bool.and_eq_true, decide_eq_true_eq, risT_iff l b]
    constructor
    · rintro ⟨⟨h1, h2⟩, h3, h4⟩
      refine ⟨List.pairwise_cons.mpr ⟨fun x hx => ?_, h3⟩, fun x hx => ?_⟩
      · rcases List.mem_cons.mp hx with rfl | hx
        · exact h1
        · have := (List.pairwise_cons.mp h3).1 x hx
          omega
      · rcases List.mem_cons.mp hx with rfl | hx
        · exact h2
        · exact h4 x hx
    · rintro ⟨h1, h2⟩
      obtain ⟨h3, h4⟩ := List.pairwise_cons.mp h1
      exact ⟨⟨h3 b (by simp), h2 b (by simp)⟩, h4, fun x hx => h2 x (List.mem_cons_of_mem _ hx)⟩
noncomputable def lawTags (l : List Int) : Bool := !(decide (4 < (l.length : Int)) || !(l == (dedI l).mergeSort le?)) && (l.isEmpty || (decide (0 < l.headD 0) && decide (l.getLastD 0 < 100)))
theorem lawTags_is (l : List Int) : lawTags l = goodTags l := by
  unfold lawTags goodTags
  by_cases h4 : 4 < (l.length : Int)
  · simp [h4]
  · have key : (l == (dedI l).mergeSort le?) = true ∧ (l.isEmpty || (decide (0 < l.headD 0) && decide (l.getLastD 0 < 100))) = true ↔ risT 0 l = true := by
      rw [risT_iff, beq_iff_eq, ris_iff]
      cases l with
      | nil => simp
      | cons x r =>
        simp only [List.isEmpty_cons, Bool.false_or, Bool.and_eq_true, decide_eq_true_eq, List.headD_cons]
        have hl : (x :: r).getLastD 0 = (x :: r).getLast (by simp) := by rw [List.getLastD_eq_getLast?, List.getLast?_eq_some_getLast (by simp)]; rfl
        rw [hl]
        constructor
        · rintro ⟨h1, h2, h3⟩
          have h2 : 0 < x := of_decide_eq_true h2
          have h3 : (x :: r).getLast (by simp) < 100 := by first | exact h3 | exact of_decide_eq_true h3
          refine ⟨List.pairwise_cons.mpr ⟨fun y hy => ?_, h1⟩, fun y hy => ?_⟩
          · rcases List.mem_cons.mp hy with rfl | hy
            · exact h2
            · have := (List.pairwise_cons.mp h1).1 y hy
              omega
          · have : y ≤ (x :: r).getLast (by simp) := by
              obtain ⟨i, hi, rfl⟩ := List.mem_iff_getElem.mp hy
              rw [List.getLast_eq_getElem]
              by_cases q : i = (x :: r).length - 1
              · subst q; exact Int.le_refl _
              · have := List.pairwise_iff_getElem.mp h1 i ((x :: r).length - 1) hi (by simp) (by simp at hi q ⊢; omega)
                omega
            omega
        · rintro ⟨h1, h2⟩
          obtain ⟨h3, h4⟩ := List.pairwise_cons.mp h1
          have hx := h3 x (by simp)
          refine ⟨h4, decide_eq_true hx, ?_⟩
          have := h2 _ (List.getLast_mem (l := x :: r) (by simp))
          first | omega | exact decide_eq_true (by omega)
    have e : ∀ a b c : Bool, (a = true ∧ b = true ↔ c = true) → ((!(false || !a)) && b) = (!false && c) := by decide
    rw [decide_eq_false h4]
    exact e _ _ _ key
theorem best_lt (m : Int) : ∀ (l : List Int) (x : Int), (l.foldl (fun a b => if decide (b < a) = true then b else a) x < m) ↔ ∃ y ∈ x :: l, y < m
  | [], x => by simp
  | b :: l, x => by
    rw [List.foldl_cons, best_lt m l]
    by_cases q : b < x
    · simp only [decide_eq_true_eq, q, if_true, List.mem_cons, exists_eq_or_imp]
      constructor
      · intro h; exact .inr h
      · rintro (h | h)
        · exact .inl (by omega)
        · exact h
    · simp only [decide_eq_true_eq, q, if_false, List.mem_cons, exists_eq_or_imp]
      constructor
      · rintro (h | h)
        · exact .inl h
        · exact .inr (.inr h)
      · rintro (h | h | h)
        · exact .inl h
        · exact .inl (by omega)
        · exact .inr h
theorem best_gt (m : Int) : ∀ (l : List Int) (x : Int), (m < l.foldl (fun a b => if decide (b > a) = true then b else a) x) ↔ ∃ y ∈ x :: l, m < y
  | [], x => by simp
  | b :: l, x => by
    rw [List.foldl_cons, best_gt m l]
    by_cases q : b > x
    · simp only [decide_eq_true_eq, q, if_true, List.mem_cons, exists_eq_or_imp]
      constructor
      · intro h; exact .inr h
      · rintro (h | h)
        · exact .inl (by omega)
        · exact h
    · simp only [decide_eq_true_eq, q, if_false, List.mem_cons, exists_eq_or_imp]
      constructor
      · rintro (h | h)
        · exact .inl h
        · exact .inr (.inr h)
      · rintro (h | h | h)
        · exact .inl h
        · exact .inl (by omega)
        · exact .inr h
noncomputable def minI (l : List Int) : Int := bestI (fun a b => decide (a < b)) l
noncomputable def maxI (l : List Int) : Int := bestI (fun a b => decide (a > b)) l
noncomputable def lawPath (l : List Int) : Bool := !(l.isEmpty || (decide (12 < (l.length : Int)) || (decide (minI l < 1) || decide (999 < maxI l))))
theorem min_all (x : Int) (r : List Int) : decide (minI (x :: r) < 1) = !(x :: r).all fun n => decide (1 ≤ n) := by
  have := best_lt 1 r x
  rw [Bool.eq_iff_iff, decide_eq_true_eq]
  refine this.trans ?_
  rw [Bool.not_eq_true', List.all_eq_false]
  constructor
  · rintro ⟨y, hy, h⟩; exact ⟨y, hy, by simp; omega⟩
  · rintro ⟨y, hy, h⟩; exact ⟨y, hy, by simp at h; omega⟩
theorem max_all (x : Int) (r : List Int) : decide (999 < maxI (x :: r)) = !(x :: r).all fun n => decide (n ≤ 999) := by
  have := best_gt 999 r x
  rw [Bool.eq_iff_iff, decide_eq_true_eq]
  refine this.trans ?_
  rw [Bool.not_eq_true', List.all_eq_false]
  constructor
  · rintro ⟨y, hy, h⟩; exact ⟨y, hy, by simp; omega⟩
  · rintro ⟨y, hy, h⟩; exact ⟨y, hy, by simp at h; omega⟩
theorem all_and {α : Type} (p q : α → Bool) : ∀ l : List α, (l.all fun n => p n && q n) = (l.all p && l.all q)
  | [] => rfl
  | a :: l => by
    rw [List.all_cons, List.all_cons, List.all_cons, all_and p q l]
    cases p a <;> cases q a <;> simp
theorem lawPath_is (l : List Int) : lawPath l = goodPath l := by
  cases l with
  | nil => rfl
  | cons x r =>
    unfold lawPath goodPath
    rw [min_all, max_all, all_and]
    have h1 : decide (1 ≤ (((x :: r).length : Nat) : Int)) = true := by simp; omega
    have h2 : decide (12 < (((x :: r).length : Nat) : Int)) = !decide ((((x :: r).length : Nat) : Int) ≤ 12) := by
      by_cases q : (((x :: r).length : Nat) : Int) ≤ 12
      · rw [decide_eq_true q, decide_eq_false (by omega)]; rfl
      · rw [decide_eq_false q, decide_eq_true (by omega)]; rfl
    rw [h1, h2, List.isEmpty_cons]
    generalize decide ((((x :: r).length : Nat) : Int) ≤ 12) = A
    generalize ((x :: r).all fun n => decide (1 ≤ n)) = B
    generalize ((x :: r).all fun n => decide (n ≤ 999)) = C
    revert A B C
    decide
end K10
namespace K10
open MP PySem
theorem eqDs_nil (l : List D) : eqDs l [] = l.isEmpty := by cases l <;> rfl
theorem eqDs_ints : ∀ a b : List Int, eqDs (a.map .int) (b.map .int) = (a == b)
  | [], [] => rfl
  | [], b :: bs => rfl
  | a :: as, [] => rfl
  | a :: as, b :: bs => by
    show (eqD (.int a) (.int b) && eqDs (as.map .int) (bs.map .int)) = _
    rw [eqDs_ints as bs, eqD_int]
    rfl
theorem ints_map : ∀ l : List Int, ints? (l.map .int) = some l
  | [] => rfl
  | a :: l => by
    show (ints? (l.map .int)).map (a :: ·) = _
    rw [ints_map l]
    rfl
theorem pure_signs (n : Nat) {s : List Nat} (h : (s.all fun c => decide (c < 1114112)) = true) : (s.map fun c => D.str [c]).all (pureN n) = true := by
  rw [List.all_eq_true]
  intro d hd
  obtain ⟨c, hc, rfl⟩ := List.mem_map.mp hd
  have := List.all_eq_true.mp h c hc
  rw [pure_str]
  simpa using this
theorem sgl2 (a c : Nat) : ([c] == [a]) = (c == a) := by
  rw [sgl]
  by_cases q : c = a
  · subst q; rfl
  · rw [beq_eq_false_iff_ne.mpr q, beq_eq_false_iff_ne.mpr (Ne.symm q)]
theorem signs_ev {G : List Den} {ρ : Ev} {h : AH} {src : PX} {s : List Nat} (hs : ev G src ρ h = some (.str s, h)) (ho : okS s) :
    ev G (PX.cmp (CmpOp.NotEq) (PX.comp (PX.var 0) (some (PB.and (PB.val (PX.cmp (CmpOp.NotEq) (PX.var 0) (PX.con (D.str [48])))) (PB.val (PX.cmp (CmpOp.NotEq) (PX.var 0) (PX.con (D.str [49])))))) (PI.seq src) []) (PX.lst [])) ρ h = some (.bl (!s.all fun c => c == 48 || c == 49), h) := by
  obtain ⟨hl, hp⟩ := ho
  have ec := ev_compIf (G := G) (ρ := ρ) (h := h) (elt := PX.var 0) (c := PB.and (PB.val (PX.cmp (CmpOp.NotEq) (PX.var 0) (PX.con (D.str [48])))) (PB.val (PX.cmp (CmpOp.NotEq) (PX.var 0) (PX.con (D.str [49]))))) (src := PI.seq src) (keep := []) (ds := s.map fun c => D.str [c]) (g := id) (p := fun d => match d with | .str [c] => !(c == 48 || c == 49) | _ => false)
    (by rw [evI, hs]; simp [itD]) (by rw [List.length_map]; exact hl) (fun d hd => by
      obtain ⟨c, hc, rfl⟩ := List.mem_map.mp hd
      have hc' : c < 1114112 := by simpa using List.all_eq_true.mp hp c hc
      have z := sgl2 48 c
      have z1 := sgl2 49 c
      have e1 : evB G (PB.val (PX.cmp (CmpOp.NotEq) (PX.var 0) (PX.con (D.str [48])))) (some (D.str [c]) :: List.map (getV ρ) []) h = some (!(c == 48), h) := by simp [evB, ev, hc', z]
      have e2 : evB G (PB.val (PX.cmp (CmpOp.NotEq) (PX.var 0) (PX.con (D.str [49])))) (some (D.str [c]) :: List.map (getV ρ) []) h = some (!(c == 49), h) := by simp [evB, ev, hc', z1]
      rw [evB, e1]
      simp only [Option.bind_some, e2]
      cases (c == 48) <;> simp) (fun d hd _ => by simp)
  have ef : (((s.map fun c => D.str [c]).filter fun d => match d with | .str [c] => !(c == 48 || c == 49) | _ => false).map id) = (s.filter fun c => !(c == 48 || c == 49)).map fun c => D.str [c] := by
    rw [List.map_id, List.filter_map]
    rfl
  rw [ef] at ec
  have hpf : ((s.filter fun c => !(c == 48 || c == 49)).all fun c => decide (c < 1114112)) = true := by
    rw [List.all_eq_true] at hp ⊢
    exact fun c hc => hp c (List.mem_filter.mp hc).1
  have h1 : pureD (.lst ((s.filter fun c => !(c == 48 || c == 49)).map fun c => D.str [c])) = true := pure_signs 15 hpf
  have h3 : eqD (.lst ((s.filter fun c => !(c == 48 || c == 49)).map fun c => D.str [c])) (.lst []) = s.all fun c => c == 48 || c == 49 := by
    show eqDs _ [] = _
    rw [eqDs_nil, List.isEmpty_map]
    rw [Bool.eq_iff_iff, List.isEmpty_iff, List.filter_eq_nil_iff, List.all_eq_true]
    constructor
    · intro k c hc; have := k c hc; cases hz : (c == 48 || c == 49) with
      | true => rfl
      | false => rw [hz] at this; exact absurd rfl this
    · intro k c hc; have := k c hc; rw [this]; simp
  have hcmp : cmpD .NotEq (.lst ((s.filter fun c => !(c == 48 || c == 49)).map fun c => D.str [c])) (.lst []) = some (!s.all fun c => c == 48 || c == 49) := by
    rw [cmp_ne, h1, h3]
    rfl
  have el : ev G (PX.lst []) ρ h = some (.lst [], h) := by simp [ev, evs]
  rw [ev, ec]
  show ((ev G (PX.lst []) ρ h).bind fun q => (cmpD .NotEq (vw q.2 (.lst ((s.filter fun c => !(c == 48 || c == 49)).map fun c => D.str [c]))) (vw q.2 q.1)).bind fun d => some (D.bl d, q.2)) = _
  rw [el]
  show (cmpD .NotEq (.lst ((s.filter fun c => !(c == 48 || c == 49)).map fun c => D.str [c])) (.lst [])).bind _ = _
  rw [hcmp]
  rfl
theorem cond1 {G : List Den} {ρ : Ev} {h : AH} {src : PX} {s : List Nat} (hs : ev G src ρ h = some (.str s, h)) (ho : okS s) :
    evB G (PB.or (PB.val (PX.cmp (CmpOp.Gt) (PX.blt (Bl.len) [src]) (PX.con (D.int 16)))) (PB.val (PX.cmp (CmpOp.NotEq) (PX.comp (PX.var 0) (some (PB.and (PB.val (PX.cmp (CmpOp.NotEq) (PX.var 0) (PX.con (D.str [48])))) (PB.val (PX.cmp (CmpOp.NotEq) (PX.var 0) (PX.con (D.str [49])))))) (PI.seq src) []) (PX.lst [])))) ρ h = some (!goodP s, h) := by
  have e1 : evB G (PB.val (PX.cmp (CmpOp.Gt) (PX.blt (Bl.len) [src]) (PX.con (D.int 16)))) ρ h = some (decide (16 < (s.length : Int)), h) := by simp [evB, ev, evs, hs, len_str ho.1]
  have e2 : evB G (PB.val (PX.cmp (CmpOp.NotEq) (PX.comp (PX.var 0) (some (PB.and (PB.val (PX.cmp (CmpOp.NotEq) (PX.var 0) (PX.con (D.str [48])))) (PB.val (PX.cmp (CmpOp.NotEq) (PX.var 0) (PX.con (D.str [49])))))) (PI.seq src) []) (PX.lst []))) ρ h = some (!s.all fun c => c == 48 || c == 49, h) := by rw [evB, signs_ev hs ho]; simp
  rw [evB, e1]
  simp only [Option.bind_some, e2]
  unfold goodP
  by_cases q : 16 < (s.length : Int)
  · rw [decide_eq_true q, decide_eq_false (show ¬ (s.length : Int) ≤ 16 by omega)]; rfl
  · rw [decide_eq_false q, decide_eq_true (show (s.length : Int) ≤ 16 by omega)]; simp
theorem orB {G : List Den} {ρ : Ev} {h : AH} {a b : PB} {x y : Bool} (ha : evB G a ρ h = some (x, h)) (hb : x = false → evB G b ρ h = some (y, h)) : evB G (.or a b) ρ h = some (x || y, h) := by
  rw [evB, ha]
  cases x with
  | true => rfl
  | false => simp [hb rfl]
theorem min_ev {l : List Int} (h : l ≠ []) : bltD .minS [.tup (l.map .int)] = some (.int (minI l)) := by
  show (ints? (l.map .int)).bind _ = _
  rw [ints_map]
  show (if 0 < l.length then _ else _) = _
  rw [if_pos (List.length_pos_iff.mpr h)]
  rfl
theorem max_ev {l : List Int} (h : l ≠ []) : bltD .maxS [.tup (l.map .int)] = some (.int (maxI l)) := by
  show (ints? (l.map .int)).bind _ = _
  rw [ints_map]
  show (if 0 < l.length then _ else _) = _
  rw [if_pos (List.length_pos_iff.mpr h)]
  rfl
theorem eq_nil_tup (l : List Int) : cmpD .Eq (.tup (l.map .int)) (.tup []) = some l.isEmpty := by
  have h1 : pureD (.tup (l.map .int)) = true := pure_ints 15 l
  rw [cmp_eq, h1]
  show some (eqDs (l.map .int) []) = _
  rw [eqDs_nil, List.isEmpty_map]
theorem cond2 {G : List Den} {ρ : Ev} {h : AH} {l : List Int} {w : Int} (h2 : getV ρ 2 = some (.tup (l.map .int))) (h3 : getV ρ 3 = some (.int w)) :
    evB G (PB.or (PB.val (PX.cmp (CmpOp.Eq) (PX.var 2) (PX.tup []))) (PB.or (PB.val (PX.cmp (CmpOp.Gt) (PX.blt (Bl.len) [PX.var 2]) (PX.con (D.int 12)))) (PB.or (PB.val (PX.cmp (CmpOp.Lt) (PX.blt (Bl.minS) [PX.var 2]) (PX.con (D.int 1)))) (PB.or (PB.val (PX.cmp (CmpOp.Gt) (PX.blt (Bl.maxS) [PX.var 2]) (PX.con (D.int 999)))) (PB.or (PB.val (PX.cmp (CmpOp.Lt) (PX.var 3) (PX.con (D.int 0)))) (PB.val (PX.cmp (CmpOp.Gt) (PX.var 3) (PX.con (D.int 1000))))))))) ρ h = some (!(goodPath l && goodW w), h) := by
  have ht : ev G (PX.tup []) ρ h = some (.tup [], h) := by simp [ev, evs]
  have a1 : evB G (PB.val (PX.cmp (CmpOp.Eq) (PX.var 2) (PX.tup []))) ρ h = some (l.isEmpty, h) := by
    rw [evB, ev, ev_var, h2]
    show (((ev G (PX.tup []) ρ h).bind fun q => (cmpD .Eq (vw q.2 (.tup (l.map .int))) (vw q.2 q.1)).bind fun d => some (D.bl d, q.2)).bind _) = _
    rw [ht]
    show (((cmpD .Eq (.tup (l.map .int)) (.tup [])).bind fun d => some (D.bl d, h)).bind _) = _
    rw [eq_nil_tup]
    rfl
  have a2 : evB G (PB.val (PX.cmp (CmpOp.Gt) (PX.blt (Bl.len) [PX.var 2]) (PX.con (D.int 12)))) ρ h = some (decide (12 < (l.length : Int)), h) := by simp [evB, ev, evs, h2, len_tup]
  have a3 : l ≠ [] → evB G (PB.val (PX.cmp (CmpOp.Lt) (PX.blt (Bl.minS) [PX.var 2]) (PX.con (D.int 1)))) ρ h = some (decide (minI l < 1), h) := fun hn => by simp [evB, ev, evs, h2, min_ev hn]
  have a4 : l ≠ [] → evB G (PB.val (PX.cmp (CmpOp.Gt) (PX.blt (Bl.maxS) [PX.var 2]) (PX.con (D.int 999)))) ρ h = some (decide (999 < maxI l), h) := fun hn => by simp [evB, ev, evs, h2, max_ev hn]
  have a5 : evB G (PB.val (PX.cmp (CmpOp.Lt) (PX.var 3) (PX.con (D.int 0)))) ρ h = some (decide (w < 0), h) := by simp [evB, ev, h3]
  have a6 : evB G (PB.val (PX.cmp (CmpOp.Gt) (PX.var 3) (PX.con (D.int 1000)))) ρ h = some (decide (1000 < w), h) := by simp [evB, ev, h3]
  have hn : l.isEmpty = false → l ≠ [] := fun e z => by rw [z] at e; cases e
  rw [orB a1 fun z1 => orB a2 fun _ => orB (a3 (hn z1)) fun _ => orB (a4 (hn z1)) fun _ => orB a5 fun _ => a6]
  have hw : goodW w = !(decide (w < 0) || decide (1000 < w)) := by
    unfold goodW
    by_cases q1 : w < 0
    · rw [decide_eq_true q1, decide_eq_false (show ¬ 0 ≤ w by omega)]; rfl
    · rw [decide_eq_false q1, decide_eq_true (show 0 ≤ w by omega)]
      by_cases q2 : 1000 < w
      · rw [decide_eq_true q2, decide_eq_false (show ¬ w ≤ 1000 by omega)]; rfl
      · rw [decide_eq_false q2, decide_eq_true (show w ≤ 1000 by omega)]; rfl
  rw [← lawPath_is, hw]
  unfold lawPath
  generalize l.isEmpty = A
  generalize decide (12 < (l.length : Int)) = B
  generalize decide (minI l < 1) = C
  generalize decide (999 < maxI l) = D'
  generalize decide (w < 0) = E
  generalize decide (1000 < w) = F
  congr 2
  revert A B C D' E F
  decide
end K10
namespace K10
open MP PySem
theorem orX {G : List Den} {ρ : Ev} {h : AH} {a b : PX} {x y : Bool} (ha : ev G a ρ h = some (.bl x, h)) (hb : x = false → ev G b ρ h = some (.bl y, h)) : ev G (.or a b) ρ h = some (.bl (x || y), h) := by
  rw [ev, ha]
  cases x with
  | true => rfl
  | false => simp [hb rfl]
theorem andX {G : List Den} {ρ : Ev} {h : AH} {a b : PX} {x y : Bool} (ha : ev G a ρ h = some (.bl x, h)) (hb : x = true → ev G b ρ h = some (.bl y, h)) : ev G (.and a b) ρ h = some (.bl (x && y), h) := by
  rw [ev, ha]
  cases x with
  | false => rfl
  | true => simp [hb rfl]
theorem atI_map {α β : Type} (f : α → β) (l : List α) (i : Int) : atI (l.map f) i = (atI l i).map f := by
  unfold atI
  rw [List.length_map]
  cases ixN l.length i with
  | none => rfl
  | some j => simp
theorem at_head {l : List Int} (h : l ≠ []) : atI l 0 = some (l.headD 0) := by
  cases l with
  | nil => exact absurd rfl h
  | cons x r =>
    unfold atI ixN
    rw [if_pos (by decide), if_pos (by simp)]
    rfl
theorem at_last {l : List Int} (h : l ≠ []) : atI l (-1) = some (l.getLastD 0) := by
  have hp : 0 < l.length := List.length_pos_iff.mpr h
  unfold atI ixN
  rw [if_neg (by decide), if_pos (by omega)]
  have : ((-1 : Int) + (l.length : Int)).toNat = l.length - 1 := by omega
  rw [this]
  show l[l.length - 1]? = _
  rw [List.getLastD_eq_getLast?, List.getLast?_eq_getElem?, List.getElem?_eq_getElem (by omega)]
  rfl
theorem cond3 {G : List Den} {ρ : Ev} {h : AH} {l : List Int} (h4 : getV ρ 4 = some (.tup (l.map .int))) :
    evB G (PB.or (PB.val (PX.cmp (CmpOp.Gt) (PX.blt (Bl.len) [PX.var 4]) (PX.con (D.int 4)))) (PB.val (PX.cmp (CmpOp.NotEq) (PX.blt (Bl.list) [PX.var 4]) (PX.blt (Bl.sortedSet) [PX.blt (Bl.list) [PX.var 4]])))) ρ h = some (decide (4 < (l.length : Int)) || !(l == (dedI l).mergeSort le?), h) := by
  have a1 : evB G (PB.val (PX.cmp (CmpOp.Gt) (PX.blt (Bl.len) [PX.var 4]) (PX.con (D.int 4)))) ρ h = some (decide (4 < (l.length : Int)), h) := by simp [evB, ev, evs, h4, len_tup]
  refine orB a1 fun z => ?_
  have hlen : ¬ 4 < (l.length : Int) := of_decide_eq_false z
  have e1 : ev G (PX.blt (Bl.list) [PX.var 4]) ρ h = some (.lst (l.map .int), h) := by
    have : bltD .list [.tup (l.map .int)] = some (.lst (l.map .int)) := rfl
    simp [ev, evs, h4, this]
  have hs : bltD .sortedSet [.lst (l.map .int)] = some (.lst (((dedI l).mergeSort le?).map .int)) := by
    show (ints? (l.map .int)).bind _ = _
    rw [ints_map]
    show (if l.length < 64 then _ else _) = _
    rw [if_pos (by omega)]
  have e2 : ev G (PX.blt (Bl.sortedSet) [PX.blt (Bl.list) [PX.var 4]]) ρ h = some (.lst (((dedI l).mergeSort le?).map .int), h) := by
    rw [ev, evs, e1]
    simp only [evs, Option.bind_some, List.map_cons, List.map_nil, vw_lst, hs]
  have hc : cmpD .NotEq (.lst (l.map .int)) (.lst (((dedI l).mergeSort le?).map .int)) = some (!(l == (dedI l).mergeSort le?)) := by
    have p1 : pureD (.lst (l.map .int)) = true := pure_ints 15 l
    have p2 : pureD (.lst (((dedI l).mergeSort le?).map .int)) = true := pure_ints 15 _
    rw [cmp_ne, p1, p2]
    show some (!eqDs (l.map .int) (((dedI l).mergeSort le?).map .int)) = _
    rw [eqDs_ints]
  rw [evB, ev, e1]
  show ((((ev G (PX.blt (Bl.sortedSet) [PX.blt (Bl.list) [PX.var 4]]) ρ h).bind fun q => (cmpD .NotEq (vw q.2 (.lst (l.map .int))) (vw q.2 q.1)).bind fun d => some (D.bl d, q.2))).bind _) = _
  rw [e2]
  show (((cmpD .NotEq (.lst (l.map .int)) (.lst (((dedI l).mergeSort le?).map .int))).bind fun d => some (D.bl d, h)).bind _) = _
  rw [hc]
  rfl
theorem last3 {G : List Den} {ρ : Ev} {h : AH} {l : List Int} (h4 : getV ρ 4 = some (.tup (l.map .int))) :
    ev G (PX.or (PX.cmp (CmpOp.Eq) (PX.var 4) (PX.tup [])) (PX.and (PX.cmp (CmpOp.Gt) (PX.idx (PX.var 4) (PX.con (D.int 0))) (PX.con (D.int 0))) (PX.cmp (CmpOp.Lt) (PX.idx (PX.var 4) (PX.neg (PX.con (D.int 1)))) (PX.con (D.int 100))))) ρ h = some (.bl (l.isEmpty || (decide (0 < l.headD 0) && decide (l.getLastD 0 < 100))), h) := by
  have ht : ev G (PX.tup []) ρ h = some (.tup [], h) := by simp [ev, evs]
  have a1 : ev G (PX.cmp (CmpOp.Eq) (PX.var 4) (PX.tup [])) ρ h = some (.bl l.isEmpty, h) := by
    rw [ev, ev_var, h4]
    show ((ev G (PX.tup []) ρ h).bind fun q => (cmpD .Eq (vw q.2 (.tup (l.map .int))) (vw q.2 q.1)).bind fun d => some (D.bl d, q.2)) = _
    rw [ht]
    show ((cmpD .Eq (.tup (l.map .int)) (.tup [])).bind fun d => some (D.bl d, h)) = _
    rw [eq_nil_tup]
    rfl
  refine orX a1 fun z => ?_
  have hn : l ≠ [] := fun e => by rw [e] at z; cases z
  have i0 : idxD (.tup (l.map .int)) (.int 0) = some (.int (l.headD 0)) := by
    show atI (l.map D.int) 0 = _
    rw [atI_map, at_head hn]; rfl
  have i1 : idxD (.tup (l.map .int)) (.int (-1)) = some (.int (l.getLastD 0)) := by
    show atI (l.map D.int) (-1) = _
    rw [atI_map, at_last hn]; rfl
  refine andX (by simp [ev, h4, i0]) fun _ => by simp [ev, h4, i1]
def PGoodRoute (f : Den) : Prop := ∀ (t : Rt) (h : AH), t.Ok → f [t.d] h = .ok (.bl (goodR t)) h
theorem goodRoute_ok {G : List Den} : PGoodRoute (cutDen (runF G 1 5 p_good_route)) := by
  intro t h ht
  refine run_rt rfl ?_
  have e0 : startE 5 [t.d] = [some t.d, none, none, none, none] := rfl
  rw [e0]
  have s1 : exS G (PSt.asg (PTg.tp [1, 2, 3, 4]) (PX.var 0)) [some t.d, none, none, none, none] h = .nx [some t.d, some (.str t.pre), some (.tup (t.path.map .int)), some (.int t.w), some (.tup (t.tags.map .int))] h := rfl
  unfold p_good_route
  rw [exSs_nx s1]
  have c1 := cond1 (G := G) (ρ := [some t.d, some (.str t.pre), some (.tup (t.path.map .int)), some (.int t.w), some (.tup (t.tags.map .int))]) (h := h) (src := PX.var 1) (s := t.pre) rfl ht.pre
  have c2 := cond2 (G := G) (ρ := [some t.d, some (.str t.pre), some (.tup (t.path.map .int)), some (.int t.w), some (.tup (t.tags.map .int))]) (h := h) (l := t.path) (w := t.w) rfl rfl
  have c3 := cond3 (G := G) (ρ := [some t.d, some (.str t.pre), some (.tup (t.path.map .int)), some (.int t.w), some (.tup (t.tags.map .int))]) (h := h) (l := t.tags) rfl
  have c4 := last3 (G := G) (ρ := [some t.d, some (.str t.pre), some (.tup (t.path.map .int)), some (.int t.w), some (.tup (t.tags.map .int))]) (h := h) (l := t.tags) rfl
  generalize [some t.d, some (.str t.pre), some (.tup (t.path.map .int)), some (.int t.w), some (.tup (t.tags.map .int))] = ρ at c1 c2 c3 c4
  have hf : exS G (PSt.ret (PX.con (D.bl false))) ρ h = .rt (.bl false) h := rfl
  have hgr : goodR t = (goodP t.pre && ((goodPath t.path && goodW t.w) && lawTags t.tags)) := by
    unfold goodR
    rw [lawTags_is]
    cases goodP t.pre <;> cases goodPath t.path <;> cases goodW t.w <;> rfl
  rw [hgr]
  unfold lawTags
  rw [exSs, exS, c1]
  generalize goodP t.pre = g1
  generalize (goodPath t.path && goodW t.w) = g2 at c2
  generalize (decide (4 < (t.tags.length : Int)) || !(t.tags == (dedI t.tags).mergeSort le?)) = g3 at c3
  generalize (t.tags.isEmpty || (decide (0 < t.tags.headD 0) && decide (t.tags.getLastD 0 < 100))) = g4 at c4
  cases g1 with
  | false => rfl
  | true =>
  show exSs G _ ρ h = _
  rw [exSs, exS, c2]
  cases g2 with
  | false => rfl
  | true =>
  show exSs G _ ρ h = _
  rw [exSs, exS, c3]
  cases g3 with
  | true => rfl
  | false =>
  show exSs G _ ρ h = _
  rw [exSs, exS, evR_ev c4]
  simp
end K10
namespace K10
open MP PySem
noncomputable def mostD : D := .lst [.int 16, .int 999, .int 99, .int 0, .int 0, .int 99, .int 99, .int 3]
noncomputable def grBody : List PSt := [PSt.ifs (PB.or (PB.val (PX.cmp (CmpOp.Lt) (PX.idx (PX.var 0) (PX.var 2)) (PX.con (D.int 0)))) (PB.val (PX.cmp (CmpOp.Gt) (PX.idx (PX.var 0) (PX.var 2)) (PX.idx (PX.var 1) (PX.bin (Operator.Sub) (PX.var 2) (PX.con (D.int 1))))))) [PSt.ret (PX.con (D.bl false))] []]
theorem gr_step {G : List Den} {h : AH} {r : Rl} {k v m : Int} {x : Option D} (hi : idxD r.d (.int k) = some (.int v)) (hm : idxD mostD (.int (k - 1)) = some (.int m)) :
    forB G (.nm 2) grBody (.int k) [some r.d, some mostD, x] h = if bnd v m = true then .nx [some r.d, some mostD, some (.int k)] h else .rt (.bl false) h := by
  have e1 : forB G (.nm 2) grBody (.int k) [some r.d, some mostD, x] h = exSs G grBody [some r.d, some mostD, some (.int k)] h := rfl
  rw [e1]
  have a1 : evB G (PB.val (PX.cmp (CmpOp.Lt) (PX.idx (PX.var 0) (PX.var 2)) (PX.con (D.int 0)))) [some r.d, some mostD, some (.int k)] h = some (decide (v < 0), h) := by simp [evB, ev, vw_rl, hi]
  have vm : vw h mostD = mostD := rfl
  have a2 : evB G (PB.val (PX.cmp (CmpOp.Gt) (PX.idx (PX.var 0) (PX.var 2)) (PX.idx (PX.var 1) (PX.bin (Operator.Sub) (PX.var 2) (PX.con (D.int 1)))))) [some r.d, some mostD, some (.int k)] h = some (decide (m < v), h) := by simp [evB, ev, vw_rl, hi, bi_sub, vm, hm]
  have a3 := orB a1 fun _ => a2
  have hb : (decide (v < 0) || decide (m < v)) = !bnd v m := by
    unfold bnd
    by_cases q1 : v < 0
    · rw [decide_eq_true q1, decide_eq_false (show ¬ 0 ≤ v by omega)]; rfl
    · rw [decide_eq_false q1, decide_eq_true (show 0 ≤ v by omega)]
      by_cases q2 : m < v
      · rw [decide_eq_true q2, decide_eq_false (show ¬ v ≤ m by omega)]; rfl
      · rw [decide_eq_false q2, decide_eq_true (show v ≤ m by omega)]; rfl
  rw [hb] at a3
  unfold grBody
  rw [exSs, exS, a3]
  cases bnd v m with
  | true => simp [exSs]
  | false => simp [exSs, exS, evR]
theorem gr_loop {G : List Den} {h : AH} {r : Rl} : ∃ x, exS G (PSt.forS (PTg.nm 2) (PI.seq (PX.lst [PX.con (D.int 1), PX.con (D.int 2), PX.con (D.int 3), PX.con (D.int 6), PX.con (D.int 7), PX.con (D.int 8)])) grBody) [some r.d, some mostD, none] h =
    if numsOk r = true then .nx [some r.d, some mostD, x] h else .rt (.bl false) h := by
  have h6 : (6 : Nat) ≤ SZ := by decide
  rw [exS_for (h' := h) (ds := [D.int 1, D.int 2, D.int 3, D.int 6, D.int 7, D.int 8]) (by rw [evI]; simp [ev, evs, itD, h6])]
  unfold numsOk
  rw [forL, gr_step (rl1 r) (m := 16) rfl]
  cases bnd r.longest 16 with
  | false => exact ⟨none, rfl⟩
  | true =>
  simp only [if_true, Bool.true_and]
  rw [forL, gr_step (rl2 r) (m := 999) rfl]
  cases bnd r.number 999 with
  | false => exact ⟨none, rfl⟩
  | true =>
  simp only [if_true, Bool.true_and]
  rw [forL, gr_step (rl3 r) (m := 99) rfl]
  cases bnd r.tag 99 with
  | false => exact ⟨none, rfl⟩
  | true =>
  simp only [if_true, Bool.true_and]
  rw [forL, gr_step (rl6 r) (m := 99) rfl]
  cases bnd r.add 99 with
  | false => exact ⟨none, rfl⟩
  | true =>
  simp only [if_true, Bool.true_and]
  rw [forL, gr_step (rl7 r) (m := 99) rfl]
  cases bnd r.take 99 with
  | false => exact ⟨none, rfl⟩
  | true =>
  simp only [if_true, Bool.true_and]
  rw [forL, gr_step (rl8 r) (m := 3) rfl]
  cases bnd r.ahead 3 with
  | false => exact ⟨none, rfl⟩
  | true => exact ⟨_, rfl⟩
def PGoodRule (f : Den) : Prop := ∀ (r : Rl) (h : AH), r.Ok → f [r.d] h = .ok (.bl (goodRl r)) h
theorem goodRule_ok {G : List Den} : PGoodRule (cutDen (runF G 1 3 p_good_rule)) := by
  intro r h hr
  refine run_rt rfl ?_
  have e0 : startE 3 [r.d] = [some r.d, none, none] := rfl
  rw [e0]
  have c1 := cond1 (G := G) (ρ := [some r.d, none, none]) (h := h) (src := PX.idx (PX.var 0) (PX.con (D.int 0))) (s := r.pre) (by simp [ev, vw_rl, rl0]) hr.pre
  have s2 : exS G (PSt.asg (PTg.nm 1) (PX.lst [PX.con (D.int 16), PX.con (D.int 999), PX.con (D.int 99), PX.con (D.int 0), PX.con (D.int 0), PX.con (D.int 99), PX.con (D.int 99), PX.con (D.int 3)])) [some r.d, none, none] h = .nx [some r.d, some mostD, none] h := by
    have : (8 : Nat) ≤ SZ := by decide
    rw [exS, evR_ev (d := mostD) (h' := h) (by simp [ev, evs, this, mostD])]
    rfl
  obtain ⟨x, s3⟩ := gr_loop (G := G) (h := h) (r := r)
  unfold grBody at s3
  have hd := hr.deed.2
  have l1 : ev G (PX.cmp (CmpOp.In) (PX.idx (PX.var 0) (PX.con (D.int 4))) (PX.lst [PX.con (D.str [110, 111]), PX.con (D.str [121, 101, 115]), PX.con (D.str [111, 110])])) [some r.d, some mostD, x] h = some (.bl (deedOk r.deed), h) := by
    have el : ev G (PX.lst [PX.con (D.str [110, 111]), PX.con (D.str [121, 101, 115]), PX.con (D.str [111, 110])]) [some r.d, some mostD, x] h = some (.lst [D.str [110, 111], D.str [121, 101, 115], D.str [111, 110]], h) := by
      have : (3 : Nat) ≤ SZ := by decide
      simp [ev, evs, this]
    have ei : ev G (PX.idx (PX.var 0) (PX.con (D.int 4))) [some r.d, some mostD, x] h = some (.str r.deed, h) := by simp [ev, vw_rl, rl4]
    have hc : cmpD .In (.str r.deed) (.lst [D.str [110, 111], D.str [121, 101, 115], D.str [111, 110]]) = some (deedOk r.deed) := by
      have hp : pureD (.str r.deed) = true := by rw [pureD, pure_str]; exact hd
      rw [cmp_in_lst, hp, deed_in]
      rfl
    rw [ev, ei]
    show ((ev G (PX.lst [PX.con (D.str [110, 111]), PX.con (D.str [121, 101, 115]), PX.con (D.str [111, 110])]) [some r.d, some mostD, x] h).bind fun q => (cmpD .In (vw q.2 (.str r.deed)) (vw q.2 q.1)).bind fun d => some (D.bl d, q.2)) = _
    rw [el]
    show ((cmpD .In (.str r.deed) (.lst [D.str [110, 111], D.str [121, 101, 115], D.str [111, 110]])).bind fun d => some (D.bl d, h)) = _
    rw [hc]
    rfl
  have l2 : ev G (PX.or (PX.cmp (CmpOp.Is) (PX.idx (PX.var 0) (PX.con (D.int 5))) (PX.con (D.non))) (PX.and (PX.cmp (CmpOp.GtE) (PX.idx (PX.var 0) (PX.con (D.int 5))) (PX.con (D.int 0))) (PX.cmp (CmpOp.LtE) (PX.idx (PX.var 0) (PX.con (D.int 5))) (PX.con (D.int 1000))))) [some r.d, some mostD, x] h = some (.bl (preferOk r.prefer), h) := by
    cases hp : r.prefer with
    | none =>
      have q5 : idxD r.d (.int 5) = some .non := by rw [rl5, hp]; rfl
      have qc : cmpD .Is .non .non = some true := rfl
      simp [ev, vw_rl, q5, qc, preferOk]
    | some v =>
      have q5 : idxD r.d (.int 5) = some (.int v) := by rw [rl5, hp]; rfl
      have qc : cmpD .Is (.int v) .non = some false := rfl
      by_cases q : 0 ≤ v <;> simp [ev, vw_rl, q5, qc, preferOk, bnd, q]
  have l3 := andX l1 fun _ => l2
  unfold p_good_rule goodRl
  rw [exSs, exS, c1]
  cases goodP r.pre with
  | false => rfl
  | true =>
  show exSs G _ [some r.d, none, none] h = _
  rw [exSs_nx s2]
  cases q : numsOk r with
  | false =>
    rw [q] at s3
    rw [exSs, s3]
    rfl
  | true =>
    rw [q] at s3
    rw [exSs, s3]
    show exSs G _ [some r.d, some mostD, x] h = _
    rw [exSs, exS, evR_ev l3]
    simp
noncomputable def tNone (b : Bool) (w : List Nat) : D := if b = true then .non else .str w
def PTold (f : Den) : Prop := ∀ h : AH, (∀ t : Rt, t.Ok → f [.fn "need_route", t.d] h = .ok (tNone (goodR t) [66, 97, 100, 82, 111, 117, 116, 101]) h) ∧ ∀ r : Rl, r.Ok → f [.fn "need_rule", r.d] h = .ok (tNone (goodRl r) [66, 97, 100, 82, 117, 108, 101]) h
theorem told_ok {G : List Den} {f1 f2 : Den} (g1 : G[4]? = some f1) (k1 : PNeedRoute f1) (g2 : G[5]? = some f2) (k2 : PNeedRule f2) : PTold (cutDen (runF G 2 3 p_told)) := by
  intro h
  refine ⟨fun t ht => ?_, fun r hr => ?_⟩
  · refine run_rt rfl ?_
    have e0 : startE 3 [.fn "need_route", t.d] = [some (.fn "need_route"), some t.d, none] := rfl
    rw [e0]
    have er := k1 t h ht
    unfold p_told
    rw [exSs, exS, exSs, exS, evR_callV (x := "need_route") (n := 4) (ds := [t.d]) (h' := h) rfl (by simp [evs]) (by rfl) g1, er]
    cases goodR t with
    | true => rfl
    | false => rfl
  · refine run_rt rfl ?_
    have e0 : startE 3 [.fn "need_rule", r.d] = [some (.fn "need_rule"), some r.d, none] := rfl
    rw [e0]
    have er := k2 r h hr
    unfold p_told
    rw [exSs, exS, exSs, exS, evR_callV (x := "need_rule") (n := 5) (ds := [r.d]) (h' := h) rfl (by simp [evs]) (by rfl) g2, er]
    cases goodRl r with
    | true => rfl
    | false => rfl
end K10
namespace K10
open MP PySem
theorem mulOk_l {a b : Int} (h : a.natAbs < 2 ^ 64) : mulOk a b = true := by unfold mulOk; rw [decide_eq_true h]; rfl
theorem mulOk_r {a b : Int} (h : b.natAbs < 2 ^ 64) : mulOk a b = true := by unfold mulOk; rw [decide_eq_true h]; simp
theorem mulOk_b {a b : Int} (ha : a.natAbs < 2 ^ 200) (hb : b.natAbs < 2 ^ 200) : mulOk a b = true := by
  have l : (2 : Nat) ^ 200 ≤ 2 ^ 4096 := Nat.pow_le_pow_right (by decide) (by decide)
  unfold mulOk
  rw [decide_eq_true (Nat.lt_of_lt_of_le ha l), decide_eq_true (Nat.lt_of_lt_of_le hb l)]
  simp
def BitStr (s : List Nat) : Prop := ∀ c ∈ s, c = 48 ∨ c = 49
def PCell (f : Den) : Prop := ∀ (sc : List Int) (k : Int) (h : AH), sc.length ≤ 63 → 0 ≤ k → k < 1000 → ∃ i : Int, f [.lst (sc.map .int), .int k] h = .ok (.int i) h
def PDrawn (f : Den) : Prop := ∀ (c k : Int) (h : AH), 0 ≤ k → k < 1000 → ∃ i : Int, 0 ≤ i ∧ f [.int c, .int k] h = .ok (.int i) h
def PNumbers (f : Den) : Prop := ∀ (m n : Int) (h : AH), 1 ≤ n → n ≤ 12 → ∃ l : List Int, l.length = n.toNat ∧ (∀ x ∈ l, 1 ≤ x ∧ x ≤ 999) ∧ f [.int m, .int n] h = .ok (.lst (l.map .int)) h
def PBits (f : Den) : Prop := ∀ (m n : Int) (h : AH), 0 ≤ n → n ≤ 16 → ∃ s, BitStr s ∧ s.length = n.toNat ∧ f [.int m, .int n] h = .ok (.str s) h
def TagsOk (l : List Int) : Prop := l.length ≤ 4 ∧ l.Pairwise (· < ·)
def PTags (f : Den) : Prop := ∀ (m : Int) (h : AH), ∃ l : List Int, TagsOk l ∧ f [.int m] h = .ok (.tup (l.map .int)) h
theorem ints_of {l : List D} (h : ∀ x ∈ l, ∃ i : Int, x = .int i) : ∃ is : List Int, l = is.map .int := by
  induction l with
  | nil => exact ⟨[], rfl⟩
  | cons a l ih =>
    obtain ⟨i, rfl⟩ := h a List.mem_cons_self
    obtain ⟨is, e⟩ := ih fun x hx => h x (List.mem_cons_of_mem _ hx)
    exact ⟨i :: is, by rw [e]; rfl⟩
theorem ints_ofP {P : Int → Prop} {l : List D} (h : ∀ x ∈ l, ∃ i : Int, x = .int i ∧ P i) : ∃ is : List Int, l = is.map .int ∧ ∀ i ∈ is, P i := by
  induction l with
  | nil => exact ⟨[], rfl, by simp⟩
  | cons a l ih =>
    obtain ⟨i, rfl, p⟩ := h a List.mem_cons_self
    obtain ⟨is, e, q⟩ := ih fun x hx => h x (List.mem_cons_of_mem _ hx)
    exact ⟨i :: is, by rw [e]; rfl, by simpa using ⟨p, q⟩⟩
theorem strs_ofP {P : List Nat → Prop} {l : List D} (h : ∀ x ∈ l, ∃ i, x = .str i ∧ P i) : ∃ is : List (List Nat), l = is.map .str ∧ ∀ i ∈ is, P i := by
  induction l with
  | nil => exact ⟨[], rfl, by simp⟩
  | cons a l ih =>
    obtain ⟨i, rfl, p⟩ := h a List.mem_cons_self
    obtain ⟨is, e, q⟩ := ih fun x hx => h x (List.mem_cons_of_mem _ hx)
    exact ⟨i :: is, by rw [e]; rfl, by simpa using ⟨p, q⟩⟩
@[simp] theorem strs_map (l : List (List Nat)) : strs? (l.map .str) = some l := by
  induction l with
  | nil => rfl
  | cons a l ih => simp [strs?, ih]
theorem join_nil (l : List (List Nat)) : joinD [] l = l.flatten := by
  induction l with
  | nil => rfl
  | cons a l ih =>
    cases l with
    | nil => simp [joinD]
    | cons b r => rw [joinD, ih]; simp
theorem bits_ok {G : List Den} : PBits (cutDen (runF G 2 2 p_bits)) := by
  intro m n h h0 h1
  suffices H : Rets (fun d => ∃ s, d = .str s ∧ BitStr s ∧ s.length = n.toNat) h (exSs G p_bits (startE 2 [.int m, .int n]) h) by
    obtain ⟨d, ⟨s, rfl, a, b⟩, e⟩ := run_rets H rfl
    exact ⟨s, a, b, e⟩
  unfold p_bits
  have hc : EvP G (PX.comp (PX.idx (PX.con (D.str [48, 49])) (PX.bin (Operator.Mod) (PX.bin (Operator.FloorDiv) (PX.var 1) (PX.bin (Operator.LShift) (PX.con (D.int 1)) (PX.var 0))) (PX.con (D.int 2)))) none (PI.rng (PX.var 1)) [0]) (startE 2 [.int m, .int n]) h
      fun d => ∃ l : List (List Nat), d = .lst (l.map .str) ∧ l.length = n.toNat ∧ ∀ x ∈ l, x = [48] ∨ x = [49] := by
    refine ep_compR (N := n) (PD := fun d => ∃ x, d = .str x ∧ (x = [48] ∨ x = [49])) (ei_var (by simp [startE]) rfl) ⟨by omega, by omega⟩ (fun i hi => ?_) fun out hl ha => ?_
    · have hm : EvI G (PX.bin (Operator.Mod) (PX.bin (Operator.FloorDiv) (PX.var 1) (PX.bin (Operator.LShift) (PX.con (D.int 1)) (PX.var 0))) (PX.con (D.int 2))) (some (.int i) :: [0].map (getV (startE 2 [.int m, .int n]))) h fun x => x = 0 ∨ x = 1 := by
        refine ei_modC (ei_fdiv (Q := fun y => 0 < y ∧ y < 2 ^ 100) (P := fun _ => True) (R := fun _ => True) (ei_var (i := m) (by simp [startE]) trivial) (ei_shl (P := fun x => x = 1) (Q := fun x => x = (i : Int)) (ei_con rfl) (ei_var (i := i) (by simp) rfl) (fun x y e1 e2 => ?_) fun x y e1 e2 => ?_) (fun y hy => hy) fun _ _ _ _ => trivial) fun x _ => by omega
        · subst e1 e2; exact ⟨by omega, by omega, by decide⟩
        · subst e1 e2
          have : (2 : Nat) ^ i ≤ 2 ^ 16 := Nat.pow_le_pow_right (by decide) (by omega)
          have e : (1 : Int) * 2 ^ ((i : Int)).toNat = ((2 ^ i : Nat) : Int) := by simp
          rw [e]
          have : (2 ^ i : Nat) < 2 ^ 100 := Nat.lt_of_le_of_lt this (by decide)
          exact ⟨by exact_mod_cast Nat.pow_pos (by decide), by exact_mod_cast this⟩
      refine ep_idxG (P1 := fun d => d = .str [48, 49]) (P2 := fun d => d = .int 0 ∨ d = .int 1) (ep_con rfl) (hm.p fun i q => by rcases q with rfl | rfl <;> simp) fun x y e1 e2 => ?_
      subst e1
      rcases e2 with rfl | rfl
      · exact ⟨.str [48], ⟨_, rfl, .inl rfl⟩, rfl⟩
      · exact ⟨.str [49], ⟨_, rfl, .inr rfl⟩, rfl⟩
    · obtain ⟨l, rfl, hp⟩ := strs_ofP ha
      exact ⟨l, rfl, by simpa using hl, hp⟩
  refine st_retP (P := fun d => ∃ s, d = .str s ∧ BitStr s ∧ s.length = n.toNat) (ep_mt (P1 := fun d => d = .str []) (PL := fun ds => ∃ l : List (List Nat), ds = [.lst (l.map .str)] ∧ l.length = n.toNat ∧ ∀ x ∈ l, x = [48] ∨ x = [49]) (ep_con rfl) (el_one hc fun d ⟨l, e, q⟩ => ⟨l, by rw [e], q⟩) ?_) fun d p => p
  rintro _ _ rfl ⟨l, rfl, hl, hp⟩
  have hs : (l.map List.length).sum = l.length := by
    clear hl
    induction l with
    | nil => rfl
    | cons a l ih =>
      have := ih fun x hx => hp x (List.mem_cons_of_mem _ hx)
      rcases hp a List.mem_cons_self with rfl | rfl <;> simp [this] <;> omega
  refine ⟨.str l.flatten, ⟨_, rfl, ?_, ?_⟩, ?_⟩
  · intro c hc
    obtain ⟨x, hx, hcx⟩ := List.mem_flatten.mp hc
    rcases hp x hx with rfl | rfl
    · exact .inl (by simpa using hcx)
    · exact .inr (by simpa using hcx)
  · rw [← hl, List.length_flatten, hs]
  · show ((strs? (l.map .str)).bind fun l => if (l.map List.length).sum + l.length * ([] : List Nat).length ≤ SZ then some (D.str (joinD [] l)) else none) = _
    rw [strs_map]
    show (if (l.map List.length).sum + l.length * 0 ≤ SZ then some (D.str (joinD [] l)) else none) = _
    rw [if_pos (by rw [hs, hl]; show _ ≤ 16777216; omega), join_nil]
theorem cell_ok {G : List Den} : PCell (cutDen (runF G 2 2 p_cell)) := by
  intro sc k h hsc h0 h1
  suffices H : Rets (fun d => ∃ i : Int, d = .int i) h (exSs G p_cell (startE 2 [.lst (sc.map .int), .int k]) h) by
    obtain ⟨d, ⟨s, rfl⟩, e⟩ := run_rets H rfl
    exact ⟨s, e⟩
  unfold p_cell
  refine st_if (Post := Rets _ h) (P := fun b => b = sc.isEmpty) ?_ (fun e => ?_) fun e => ?_
  · refine ⟨_, rfl, ?_⟩
    cases sc with
    | nil => simp [evB, ev, evs, startE, eqD, eqDs]
    | cons a l => simp [evB, ev, evs, startE, eqD, eqDs]
  · refine st_retP (P := fun d => ∃ i : Int, d = .int i) (EvI.p (P := fun _ => True) (ei_mul (P := fun _ => True) (Q := fun x => x = 7919) (ei_var (i := k) (by simp [startE]) trivial) (ei_con rfl) (fun x y _ e => by subst e; exact mulOk_r (by decide)) fun _ _ _ _ => trivial) fun i _ => ⟨i, rfl⟩) fun d p => p
  · have hne : sc ≠ [] := by cases sc with | nil => cases e | cons a l => simp
    have hl : 0 < sc.length := List.length_pos_iff.mpr hne
    refine st_retP (P := fun d => ∃ i : Int, d = .int i) ?_ fun d p => p
    have hx := ep_idxM (G := G) (ρ := startE 2 [.lst (sc.map .int), .int k]) (h := h) (j := 0) (xs := sc.map .int) (a := .var 1) (PD := fun d => ∃ i : Int, d = .int i) (by simp [startE]) (by simpa using hne) (by intro x hx; obtain ⟨i, _, rfl⟩ := List.mem_map.mp hx; exact ⟨i, rfl⟩) (ei_var (i := k) (by simp [startE]) trivial)
    obtain ⟨d, ⟨i, rfl⟩, ex⟩ := hx
    refine EvI.p (P := fun _ => True) (ei_add (P := fun _ => True) (Q := fun _ => True) ⟨i, trivial, ex⟩ (ei_mul (P := fun _ => True) (Q := fun x => x = 104729) (ei_fdiv (P := fun _ => True) (Q := fun y => y = sc.length) (ei_var (i := k) (by simp [startE]) trivial) ?_ ?_ fun _ _ _ _ => trivial) (ei_con rfl) (fun x y _ e => by subst e; exact mulOk_r (by decide)) fun _ _ _ _ => trivial) fun _ _ _ _ => trivial) fun i _ => ⟨i, rfl⟩
    · exact ei_lenL (PL := fun ys => ys = sc.map .int) (ep_var (by simp [startE]) ⟨_, rfl, rfl⟩) fun ys e => by rw [e]; simp
    · intro y e; subst e; exact ⟨by omega, by omega⟩
theorem drawn_ok {G : List Den} : PDrawn (cutDen (runF G 2 3 p_drawn)) := by
  intro c k h h0 h1
  suffices H : Rets (fun d => ∃ i : Int, d = .int i ∧ 0 ≤ i) h (exSs G p_drawn (startE 3 [.int c, .int k]) h) by
    obtain ⟨d, ⟨s, rfl, p⟩, e⟩ := run_rets H rfl
    exact ⟨s, p, e⟩
  unfold p_drawn
  refine st_asg (Post := Rets _ h) (P := fun d => ∃ i : Int, d = .int i ∧ 0 ≤ i ∧ i < 340282366920938463463374607431768211507) (EvI.p (P := fun i => 0 ≤ i ∧ i < 340282366920938463463374607431768211507) (ei_modC (P := fun _ => True)
    (ei_add (P := fun _ => True) (Q := fun _ => True) (ei_mul (P := fun _ => True) (Q := fun x => x = 6364136223846793005) (ei_var (i := c) (by simp [startE]) trivial) (ei_con rfl) (fun x y _ e => by subst e; exact mulOk_r (by decide)) fun _ _ _ _ => trivial)
      (ei_mul (P := fun _ => True) (Q := fun x => x = 1442695040888963407) (ei_add (P := fun _ => True) (Q := fun _ => True) (ei_var (i := k) (by simp [startE]) trivial) (ei_con trivial) fun _ _ _ _ => trivial) (ei_con rfl) (fun x y _ e => by subst e; exact mulOk_r (by decide)) fun _ _ _ _ => trivial) fun _ _ _ _ => trivial)
    fun x _ => ⟨Int.emod_nonneg _ (by decide), Int.emod_lt_of_pos _ (by decide)⟩) fun i p => ⟨i, rfl, p⟩) ?_
  rintro d ⟨i, rfl, h2, h3⟩
  refine st_retP (P := fun d => ∃ i : Int, d = .int i ∧ 0 ≤ i) (EvI.p (P := fun i => 0 ≤ i) (ei_modC (P := fun _ => True) (ei_mul (P := fun x => x = i) (Q := fun x => x = i) (ei_var (by simp [startE]) rfl) (ei_var (by simp [startE]) rfl) (fun x y e1 e2 => ?_) fun _ _ _ _ => trivial) fun x _ => Int.emod_nonneg _ (by decide)) fun i p => ⟨i, rfl, p⟩) fun d p => p
  subst e1 e2
  have : y.natAbs < 2 ^ 200 := by
    have : (340282366920938463463374607431768211507 : Nat) < 2 ^ 200 := by decide
    omega
  exact mulOk_b this this
theorem numbers_ok {G : List Den} : PNumbers (cutDen (runF G 2 3 p_numbers)) := by
  intro m n h hn1 hn2
  suffices H : Rets (fun d => ∃ l : List Int, d = .lst (l.map .int) ∧ l.length = n.toNat ∧ (∀ x ∈ l, 1 ≤ x ∧ x ≤ 999)) h (exSs G p_numbers (startE 3 [.int m, .int n]) h) by
    obtain ⟨d, ⟨s, rfl, p⟩, e⟩ := run_rets H rfl
    exact ⟨s, p.1, p.2, e⟩
  unfold p_numbers
  refine st_asg (Post := Rets _ h) (P := fun d => ∃ i : Int, d = .int i) (ep_idxA (ea_cons (ep_con ⟨_, rfl⟩) (ea_cons (ep_con ⟨_, rfl⟩) (ea_cons (ep_con ⟨_, rfl⟩) (ea_cons (ep_con ⟨_, rfl⟩) ea_nil)))) (ei_var (i := m) (by simp [startE]) trivial)) ?_
  rintro d ⟨st, rfl⟩
  refine st_retP (P := fun d => ∃ l : List Int, d = .lst (l.map .int) ∧ l.length = n.toNat ∧ (∀ x ∈ l, 1 ≤ x ∧ x ≤ 999)) (ep_compR (N := n) (PD := fun d => ∃ i : Int, d = .int i ∧ (1 ≤ i ∧ i ≤ 999)) (ei_var (by simp [startE]) rfl) ⟨by omega, by omega⟩ (fun i hi => ?_) fun out l p => ?_) fun d p => p
  · refine EvI.p (P := fun i => 1 ≤ i ∧ i ≤ 999) (ei_add (P := fun i => 0 ≤ i ∧ i < 999) (Q := fun i => i = 1) (ei_modC (P := fun _ => True) (ei_add (P := fun _ => True) (Q := fun _ => True) (ei_fdivC (P := fun _ => True) (ei_var (i := m) (by simp [startE]) trivial) fun _ _ => trivial)
      (ei_mul (P := fun x => x = (i : Int)) (Q := fun _ => True) (ei_var (by simp) rfl) (ei_var (i := st) (by simp [startE]) trivial) (fun x y e _ => ?_) fun _ _ _ _ => trivial) fun _ _ _ _ => trivial) fun x _ => ⟨Int.emod_nonneg _ (by decide), Int.emod_lt_of_pos _ (by decide)⟩) (ei_con rfl) fun x y p e => ?_) fun i p => ⟨i, rfl, p⟩
    · subst e; exact mulOk_l (by omega)
    · subst e; omega
  · obtain ⟨is, rfl, q⟩ := ints_ofP p
    exact ⟨is, rfl, by simpa using l, q⟩
theorem compL_cons {f : D → AH → Option (Option D × AH)} {d : D} {ds : List D} {h : AH} {o : Option D} (e : f d h = some (o, h)) : compL f (d :: ds) h = (compL f ds h).bind fun q => some (putO o q.1, q.2) := by
  rw [compL, e]; rfl
theorem ints_sub (l : List Int) : ∀ x ∈ l.map D.int, ∃ i : Int, x = .int i := fun x hx => let ⟨i, _, e⟩ := List.mem_map.mp hx; ⟨i, e.symm⟩
theorem tags_ok {G : List Den} : PTags (cutDen (runF G 1 2 p_tags)) := by
  intro m h
  suffices H : Rets (fun d => ∃ l : List Int, d = .tup (l.map .int) ∧ TagsOk l) h (exSs G p_tags (startE 2 [.int m]) h) by
    obtain ⟨d, ⟨s, rfl, p⟩, e⟩ := run_rets H rfl
    exact ⟨s, p, e⟩
  unfold p_tags
  have one : ∀ (c q r : Int), 0 < q ∧ q < 2 ^ 100 → 0 < r → EvP G (PX.bin (Operator.Add) (PX.con (D.int c)) (PX.bin (Operator.Mod) (PX.bin (Operator.FloorDiv) (PX.var 0) (PX.con (D.int q))) (PX.con (D.int r)))) (startE 2 [.int m]) h fun d => ∃ i : Int, d = .int i ∧ c ≤ i ∧ i < c + r := by
    intro c q r h1 h2
    refine EvI.p (P := fun i => c ≤ i ∧ i < c + r) (ei_add (P := fun i => i = c) (Q := fun i => 0 ≤ i ∧ i < r) (ei_con rfl) (ei_modC (P := fun _ => True) (ei_fdivC (P := fun _ => True) (ei_var (i := m) (by simp [startE]) trivial) (fun _ _ => trivial) h1) (fun x _ => ⟨Int.emod_nonneg _ (by omega), Int.emod_lt_of_pos _ h2⟩) h2) fun x y e p => ?_) fun i p => ⟨i, rfl, p⟩
    omega
  refine st_asg (Post := Rets _ h) (P := fun d => ∃ a b c e : Int, d = .lst [.int a, .int b, .int c, .int e] ∧ a < b ∧ b < c ∧ c < e) (ep_lst (PL := fun ds => ∃ a b c e : Int, ds = [.int a, .int b, .int c, .int e] ∧ a < b ∧ b < c ∧ c < e)
    (el_cons (P2 := fun ds => ∃ b c e : Int, ds = [.int b, .int c, .int e] ∧ 4 ≤ b ∧ b < c ∧ c < e) (one 1 8 3 (by decide) (by decide))
      (el_cons (P2 := fun ds => ∃ c e : Int, ds = [.int c, .int e] ∧ 95 ≤ c ∧ c < e) (one 4 24 90 (by decide) (by decide))
        (el_two (one 95 2160 3 (by decide) (by decide)) (one 98 6480 2 (by decide) (by decide)) ?_) ?_) ?_) ?_) ?_
  · rintro _ _ ⟨i, rfl, p⟩ ⟨j, rfl, q⟩
    exact ⟨i, j, rfl, by omega, by omega⟩
  · rintro _ _ ⟨i, rfl, p⟩ ⟨j, k, rfl, q⟩
    exact ⟨i, j, k, rfl, by omega, by omega, by omega⟩
  · rintro _ _ ⟨i, rfl, p⟩ ⟨j, k, l, rfl, q⟩
    exact ⟨i, j, k, l, rfl, by omega, by omega, by omega⟩
  · rintro _ ⟨i, j, k, l, rfl, q⟩
    exact ⟨by simp [SZ], i, j, k, l, rfl, q⟩
  rintro _ ⟨a, b, c, e, rfl, h1, h2, h3⟩
  refine st_retP (P := fun d => ∃ l : List Int, d = .tup (l.map .int) ∧ TagsOk l) (ep_blt (PL := fun ds => ∃ l : List Int, ds = [.lst (l.map .int)] ∧ TagsOk l) (el_one (P1 := fun d => ∃ l : List Int, d = .lst (l.map .int) ∧ TagsOk l) ?_ fun d ⟨l, e, p⟩ => ⟨l, by rw [e], p⟩) fun ds ⟨l, e, p⟩ => ⟨_, ⟨l, rfl, p⟩, by rw [e]; rfl⟩) fun d p => p
  let s4 : List Int := [a, b, c, e]
  have bit : ∀ k : Nat, k < 4 → ∃ t : Bool, evB G (PB.val (PX.cmp (CmpOp.Eq) (PX.bin (Operator.Mod) (PX.bin (Operator.FloorDiv) (PX.var 1) (PX.bin (Operator.LShift) (PX.con (D.int 1)) (PX.var 0))) (PX.con (D.int 2))) (PX.con (D.int 1)))) [some (.int k), some (.int m), some (.lst [.int a, .int b, .int c, .int e])] h = some (t, h) := by
    intro k hk
    have := et_cmpI (G := G) (ρ := [some (.int k), some (.int m), some (.lst [.int a, .int b, .int c, .int e])]) (h := h) (op := .Eq) (PB' := fun _ => True) (ei_modC (n := 2) (P := fun _ => True) (R := fun _ => True) (ei_fdiv (Q := fun y => 0 < y ∧ y < 2 ^ 100) (P := fun _ => True) (R := fun _ => True) (ei_var (j := 1) (i := m) (by simp) trivial)
      (ei_shl (a := .con (.int 1)) (b := .var 0) (P := fun x => x = 1) (Q := fun x => x = (k : Int)) (ei_con rfl) (ei_var (i := k) (by simp) rfl) (fun x y e1 e2 => by subst e1 e2; exact ⟨by omega, by omega, by decide⟩) fun x y e1 e2 => by
        subst e1 e2
        have : (2 : Nat) ^ k ≤ 2 ^ 4 := Nat.pow_le_pow_right (by decide) (by omega)
        have e : (1 : Int) * 2 ^ ((k : Int)).toNat = ((2 ^ k : Nat) : Int) := by simp
        rw [e]
        have : (2 ^ k : Nat) < 2 ^ 100 := Nat.lt_of_le_of_lt this (by decide)
        exact ⟨by exact_mod_cast Nat.pow_pos (by decide), by exact_mod_cast this⟩) (fun y hy => hy) fun _ _ _ _ => trivial) fun x _ => trivial) (ei_con (i := 1) (P := fun _ => True) trivial) fun x y _ _ => ⟨_, trivial, rfl⟩
    obtain ⟨t, _, e⟩ := this
    exact ⟨t, e⟩
  obtain ⟨t0, e0⟩ := bit 0 (by decide)
  obtain ⟨t1, e1⟩ := bit 1 (by decide)
  obtain ⟨t2, e2⟩ := bit 2 (by decide)
  obtain ⟨t3, e3⟩ := bit 3 (by decide)
  have keep : List.map (getV (List.set (startE 2 [D.int m]) 1 (some (D.lst [D.int a, D.int b, D.int c, D.int e])))) [0, 1] = [some (.int m), some (.lst [.int a, .int b, .int c, .int e])] := by simp [startE]
  refine ⟨.lst (([(t0, a), (t1, b), (t2, c), (t3, e)].filterMap fun p => if p.1 then some p.2 else none).map .int), ⟨_, rfl, ?_⟩, ?_⟩
  · cases t0 <;> cases t1 <;> cases t2 <;> cases t3 <;> simp [TagsOk] <;> omega
  · unfold ev evI
    rw [ev_con]
    show ((compL _ (List.map (fun i : Nat => D.int (i : Int)) (List.range 4)) h).bind _) = _
    rw [keep]
    have r4 : List.map (fun i : Nat => D.int (i : Int)) (List.range 4) = [.int ((0 : Nat) : Int), .int ((1 : Nat) : Int), .int ((2 : Nat) : Int), .int ((3 : Nat) : Int)] := rfl
    rw [r4]
    rw [compL_cons (o := if t0 then some (.int a) else none), compL_cons (o := if t1 then some (.int b) else none), compL_cons (o := if t2 then some (.int c) else none), compL_cons (o := if t3 then some (.int e) else none)]
    · cases t0 <;> cases t1 <;> cases t2 <;> cases t3 <;> simp [compL, putO, SZ]
    · simp only [e3, Option.bind_some]; cases t3 <;> simp [ev, idxD, atI, ixN]
    · simp only [e2, Option.bind_some]; cases t2 <;> simp [ev, idxD, atI, ixN]
    · simp only [e1, Option.bind_some]; cases t1 <;> simp [ev, idxD, atI, ixN]
    · simp only [e0, Option.bind_some]; cases t0 <;> simp [ev, idxD, atI, ixN]
end K10
namespace K10
open MP PySem
def DS (d : D) : Prop := ∃ s, d = .str s ∧ okS s
def DP (d : D) : Prop := ∃ l : List Int, d = .tup (l.map .int) ∧ l.length ≤ 1000
def DI (d : D) : Prop := ∃ i : Int, d = .int i
def DR (d : D) : Prop := ∃ t : Rt, d = t.d ∧ t.Ok
structure Rt.In (t : Rt) : Prop where
  pre : okS t.pre
  pl : t.pre.length ≤ 16
  pp : t.path ≠ []
  pa : t.path.length ≤ 12
  tg : t.tags.length ≤ 4
theorem Rt.In.ok {t : Rt} (h : t.In) : t.Ok := ⟨h.pre, by have := h.pa; omega, by have := h.tg; omega⟩
section
variable {G : List Den} {ρ : Ev} {h : AH}
theorem tup4 {a b c e : PX} (ha : EvP G a ρ h DS) (hb : EvP G b ρ h DP) (hc : EvP G c ρ h DI) (he : EvP G e ρ h DP) : EvP G (.tup [a, b, c, e]) ρ h DR := by
  obtain ⟨_, ⟨s, rfl, hs⟩, e1⟩ := ha
  obtain ⟨_, ⟨l, rfl, hl⟩, e2⟩ := hb
  obtain ⟨_, ⟨i, rfl⟩, e3⟩ := hc
  obtain ⟨_, ⟨k, rfl, hk⟩, e4⟩ := he
  have h4 : (4 : Nat) ≤ SZ := by decide
  exact ⟨_, ⟨⟨s, l, i, k⟩, rfl, hs, hl, hk⟩, by simp [ev, evs, e1, e2, e3, e4, h4, Rt.d]⟩
theorem conI (xs : List Int) (hx : xs.length ≤ 10) : EvP G (.tup (xs.map fun i => .con (.int i))) ρ h DP := by
  have : ∀ l : List Int, evs G (l.map fun i => PX.con (.int i)) ρ h = some (l.map .int, h) := by
    intro l
    induction l with
    | nil => simp [evs]
    | cons a l ih => simp [evs, ih]
  have hz : (xs.map D.int).length ≤ SZ := by rw [List.length_map]; show _ ≤ 16777216; omega
  exact ⟨_, ⟨xs, rfl, by omega⟩, by rw [ev, this]; simp only [Option.bind_some]; rw [if_pos hz]⟩
theorem okS_app {a b : List Nat} (ha : okS a) (hb : okS b) (hl : a.length + b.length ≤ 1000) : okS (a ++ b) := ⟨by rw [List.length_append]; show _ ≤ 16777216; omega, by rw [List.all_append, ha.2, hb.2]; rfl⟩
end
def PSpoiltRoute (f : Den) : Prop := ∀ (m : Int) (t : Rt) (h : AH), t.In → ∃ t' : Rt, t'.Ok ∧ f [.int m, t.d] h = .ok t'.d h
theorem cons2 {a b : List D} (h : a.length + b.length ≤ 1000) : binD .Add (.tup a) (.tup b) = some (.tup (a ++ b)) := by
  show (if a.length + b.length ≤ SZ then _ else _) = _
  rw [if_pos (by show _ ≤ 16777216; omega)]
theorem cut_map {α β : Type} (f : α → β) (l : List α) (lo hi : Option Int) : cut (l.map f) lo hi = (cut l lo hi).map f := by
  unfold cut
  rw [List.length_map, List.map_take, List.map_drop]
theorem cut_len {α : Type} (l : List α) (lo hi : Option Int) : (cut l lo hi).length ≤ l.length := by
  unfold cut
  rw [List.length_take, List.length_drop]
  omega
theorem spoiltRoute_ok {G : List Den} : PSpoiltRoute (cutDen (runF G 2 8 p_spoilt_route)) := by
  intro m t h ht
  suffices H : Rets DR h (exSs G p_spoilt_route (startE 8 [.int m, t.d]) h) by
    obtain ⟨d, ⟨t', rfl, k⟩, e⟩ := run_rets H rfl
    exact ⟨t', k, e⟩
  have s1 : exS G (PSt.asg (PTg.tp [2, 3, 4, 5]) (PX.var 1)) (startE 8 [.int m, t.d]) h = .nx [some (.int m), some t.d, some (.str t.pre), some (.tup (t.path.map .int)), some (.int t.w), some (.tup (t.tags.map .int)), none, none] h := rfl
  unfold p_spoilt_route
  rw [exSs_nx s1]
  refine st_asg (Post := Rets DR h) (P := DI) (EvI.p (P := fun _ => True) (ei_modC (P := fun _ => True) (ei_var (i := m) rfl trivial) fun _ _ => trivial) fun i _ => ⟨i, rfl⟩) ?_
  rintro _ ⟨way, rfl⟩
  refine st_asg (Post := Rets DR h) (P := DI) (EvI.p (P := fun _ => True) (ei_fdivC (P := fun _ => True) (ei_var (i := m) rfl trivial) fun _ _ => trivial) fun i _ => ⟨i, rfl⟩) ?_
  rintro _ ⟨mo, rfl⟩
  show Rets DR h (exSs G _ [some (.int mo), some t.d, some (.str t.pre), some (.tup (t.path.map .int)), some (.int t.w), some (.tup (t.tags.map .int)), some (.int way), none] h)
  have c : ∀ k : Int, EvT G (PB.val (PX.cmp (CmpOp.Eq) (PX.var 6) (PX.con (D.int k)))) [some (.int mo), some t.d, some (.str t.pre), some (.tup (t.path.map .int)), some (.int t.w), some (.tup (t.tags.map .int)), some (.int way), none] h fun _ => True := fun k => et_cmpI (P := fun _ => True) (Q := fun _ => True) (ei_var (i := way) rfl trivial) (ei_con trivial) fun x y _ _ => ⟨_, trivial, rfl⟩
  have v0 : EvI G (PX.var 0) [some (.int mo), some t.d, some (.str t.pre), some (.tup (t.path.map .int)), some (.int t.w), some (.tup (t.tags.map .int)), some (.int way), none] h fun _ => True := ei_var (i := mo) rfl trivial
  have v2 : EvP G (PX.var 2) [some (.int mo), some t.d, some (.str t.pre), some (.tup (t.path.map .int)), some (.int t.w), some (.tup (t.tags.map .int)), some (.int way), none] h DS := ep_var (d := .str t.pre) rfl ⟨_, rfl, ht.pre⟩
  have v3 : EvP G (PX.var 3) [some (.int mo), some t.d, some (.str t.pre), some (.tup (t.path.map .int)), some (.int t.w), some (.tup (t.tags.map .int)), some (.int way), none] h DP := ep_var (d := .tup (t.path.map .int)) rfl ⟨_, rfl, by have := ht.pa; omega⟩
  have v4 : EvP G (PX.var 4) [some (.int mo), some t.d, some (.str t.pre), some (.tup (t.path.map .int)), some (.int t.w), some (.tup (t.tags.map .int)), some (.int way), none] h DI := ep_var (d := .int t.w) rfl ⟨_, rfl⟩
  have v5 : EvP G (PX.var 5) [some (.int mo), some t.d, some (.str t.pre), some (.tup (t.path.map .int)), some (.int t.w), some (.tup (t.tags.map .int)), some (.int way), none] h DP := ep_var (d := .tup (t.tags.map .int)) rfl ⟨_, rfl, by have := ht.tg; omega⟩
  have v2' : ev G (PX.var 2) [some (.int mo), some t.d, some (.str t.pre), some (.tup (t.path.map .int)), some (.int t.w), some (.tup (t.tags.map .int)), some (.int way), none] h = some (.str t.pre, h) := rfl
  have v3' : ev G (PX.var 3) [some (.int mo), some t.d, some (.str t.pre), some (.tup (t.path.map .int)), some (.int t.w), some (.tup (t.tags.map .int)), some (.int way), none] h = some (.tup (t.path.map .int), h) := rfl
  have v5' : ev G (PX.var 5) [some (.int mo), some t.d, some (.str t.pre), some (.tup (t.path.map .int)), some (.int t.w), some (.tup (t.tags.map .int)), some (.int way), none] h = some (.tup (t.tags.map .int), h) := rfl
  have v1' : EvP G (PX.var 1) [some (.int mo), some t.d, some (.str t.pre), some (.tup (t.path.map .int)), some (.int t.w), some (.tup (t.tags.map .int)), some (.int way), none] h DR := ep_var (d := t.d) rfl ⟨t, rfl, ht.ok⟩
  have hpl := ht.pl
  have hpa := ht.pa
  have htg := ht.tg
  have ok1 : ∀ s : List Nat, s.length ≤ 40 → (s.all fun c => decide (c < 1114112)) = true → okS s := fun s a b => ⟨by show _ ≤ 16777216; omega, b⟩
  refine st_if (Post := Rets DR h) (c 0) (fun _ => st_retP (tup4 (ep_idxA (ea_cons ?_ (ea_cons ?_ (ea_cons (ep_con ⟨_, rfl, ok1 _ (by decide) (by decide)⟩) (ea_cons (ep_con ⟨_, rfl, ok1 _ (by decide) (by decide)⟩) (ea_cons (ep_con ⟨_, rfl, ok1 _ (by decide) (by decide)⟩) ea_nil))))) v0) v3 v4 v5) fun d p => p) fun _ => ?_
  · have e1 : ev G (PX.bin (Operator.Mult) (PX.con (D.str [48])) (PX.con (D.int 17))) [some (.int mo), some t.d, some (.str t.pre), some (.tup (t.path.map .int)), some (.int t.w), some (.tup (t.tags.map .int)), some (.int way), none] h = some (.str (List.replicate 17 48), h) := rfl
    have hb : binD .Add (.str t.pre) (.str (List.replicate 17 48)) = some (.str (t.pre ++ List.replicate 17 48)) := if_pos (by simp; show _ ≤ 16777216; omega)
    exact ⟨_, ⟨_, rfl, okS_app ht.pre (ok1 (List.replicate 17 48) (by decide) (by decide)) (by simp; omega)⟩, by rw [ev, v2']; simp only [Option.bind_some, e1, vw_str, hb]⟩
  · have e1 : ev G (PX.sl (PX.var 2) none (some (PX.con (D.int 15)))) [some (.int mo), some t.d, some (.str t.pre), some (.tup (t.path.map .int)), some (.int t.w), some (.tup (t.tags.map .int)), some (.int way), none] h = some (.str (cut t.pre none (some 15)), h) := by
      have : slD (.str t.pre) none (some 15) = some (.str (cut t.pre none (some 15))) := if_pos ht.pre.1
      rw [ev, v2']
      simp [evo, this]
    have hcl := cut_len t.pre none (some 15)
    have hb : binD .Add (.str (cut t.pre none (some 15))) (.str [50]) = some (.str (cut t.pre none (some 15) ++ [50])) := if_pos (by simp; show _ ≤ 16777216; omega)
    have hok : okS (cut t.pre none (some 15)) := ok1 _ (by omega) (by
      have := ht.pre.2
      rw [List.all_eq_true] at this ⊢
      intro x hx
      exact this x (List.mem_of_mem_drop (List.mem_of_mem_take hx)))
    exact ⟨_, ⟨_, rfl, okS_app hok (ok1 [50] (by decide) (by decide)) (by simp; omega)⟩, by rw [ev, e1]; simp only [Option.bind_some, ev_con, vw_str, hb]⟩
  refine st_if (Post := Rets DR h) (c 1) (fun _ => st_retP (tup4 v2 (conI [] (by decide)) v4 v5) fun d p => p) fun _ => ?_
  refine st_if (Post := Rets DR h) (c 2) (fun _ => st_retP (tup4 v2 ?_ v4 v5) fun d p => p) fun _ => ?_
  · have e1 : ev G (PX.bin (Operator.Mult) (PX.tup [PX.con (D.int 5)]) (PX.con (D.int 12))) [some (.int mo), some t.d, some (.str t.pre), some (.tup (t.path.map .int)), some (.int t.w), some (.tup (t.tags.map .int)), some (.int way), none] h = some (.tup ((List.replicate 12 (5 : Int)).map .int), h) := rfl
    refine ⟨_, ⟨t.path ++ List.replicate 12 5, rfl, by simp; omega⟩, ?_⟩
    rw [ev, v3']
    simp only [Option.bind_some, e1, vw_tup]
    rw [cons2 (by simp; omega)]
    simp
  refine st_if (Post := Rets DR h) (c 3) (fun _ => ?_) fun _ => ?_
  · have hp : 0 < t.path.length := List.length_pos_iff.mpr ht.pp
    refine st_asg (Post := Rets DR h) (P := DI) (EvI.p (P := fun _ => True) (ei_mod (P := fun _ => True) (Q := fun y => y = (t.path.length : Int)) v0 ⟨_, rfl, by rw [ev, evs, v3']; simp [evs, len_tup]⟩ (fun y e => by subst e; omega) fun _ _ _ _ => trivial) fun i _ => ⟨i, rfl⟩) ?_
    rintro _ ⟨at_, rfl⟩
    show Rets DR h (exSs G _ [some (.int mo), some t.d, some (.str t.pre), some (.tup (t.path.map .int)), some (.int t.w), some (.tup (t.tags.map .int)), some (.int way), some (.int at_)] h)
    refine st_retP (tup4 (ep_var (d := .str t.pre) rfl ⟨_, rfl, ht.pre⟩) ?_ (ep_var (d := .int t.w) rfl ⟨_, rfl⟩) (ep_var (d := .tup (t.tags.map .int)) rfl ⟨_, rfl, by omega⟩)) fun d p => p
    have w3 : ev G (PX.var 3) [some (.int mo), some t.d, some (.str t.pre), some (.tup (t.path.map .int)), some (.int t.w), some (.tup (t.tags.map .int)), some (.int way), some (.int at_)] h = some (.tup (t.path.map .int), h) := rfl
    have hx : EvP G (PX.idx (PX.lst [PX.con (D.int 0), PX.con (D.int 1000), PX.neg (PX.con (D.int 1)), PX.bin (Operator.Pow) (PX.con (D.int 10)) (PX.con (D.int 9))]) (PX.bin (Operator.Mod) (PX.bin (Operator.FloorDiv) (PX.var 0) (PX.con (D.int 16))) (PX.con (D.int 4)))) [some (.int mo), some t.d, some (.str t.pre), some (.tup (t.path.map .int)), some (.int t.w), some (.tup (t.tags.map .int)), some (.int way), some (.int at_)] h DI :=
      ep_idxA (ea_cons (ep_con ⟨_, rfl⟩) (ea_cons (ep_con ⟨_, rfl⟩) (ea_cons ⟨_, ⟨_, rfl⟩, rfl⟩ (ea_cons ⟨_, ⟨_, rfl⟩, rfl⟩ ea_nil)))) (ei_fdivC (P := fun _ => True) (ei_var (i := mo) rfl trivial) fun _ _ => trivial)
    obtain ⟨_, ⟨x, rfl⟩, ex⟩ := hx
    have l1 := cut_len t.path none (some at_)
    have l2 := cut_len t.path (some (at_ + 1)) none
    have e1 : ev G (PX.sl (PX.var 3) none (some (PX.var 7))) [some (.int mo), some t.d, some (.str t.pre), some (.tup (t.path.map .int)), some (.int t.w), some (.tup (t.tags.map .int)), some (.int way), some (.int at_)] h = some (.tup ((cut t.path none (some at_)).map .int), h) := by
      rw [← cut_map]; rfl
    have e2 : ev G (PX.sl (PX.var 3) (some (PX.bin (Operator.Add) (PX.var 7) (PX.con (D.int 1)))) none) [some (.int mo), some t.d, some (.str t.pre), some (.tup (t.path.map .int)), some (.int t.w), some (.tup (t.tags.map .int)), some (.int way), some (.int at_)] h = some (.tup ((cut t.path (some (at_ + 1)) none).map .int), h) := by
      rw [← cut_map]; rfl
    have h1z : (1 : Nat) ≤ SZ := by decide
    have e3 : ∀ ρ : Ev, ev G (PX.idx (PX.lst [PX.con (D.int 0), PX.con (D.int 1000), PX.neg (PX.con (D.int 1)), PX.bin (Operator.Pow) (PX.con (D.int 10)) (PX.con (D.int 9))]) (PX.bin (Operator.Mod) (PX.bin (Operator.FloorDiv) (PX.var 0) (PX.con (D.int 16))) (PX.con (D.int 4)))) ρ h = some (.int x, h) → ev G (PX.tup [PX.idx (PX.lst [PX.con (D.int 0), PX.con (D.int 1000), PX.neg (PX.con (D.int 1)), PX.bin (Operator.Pow) (PX.con (D.int 10)) (PX.con (D.int 9))]) (PX.bin (Operator.Mod) (PX.bin (Operator.FloorDiv) (PX.var 0) (PX.con (D.int 16))) (PX.con (D.int 4)))]) ρ h = some (.tup ([x].map .int), h) := fun ρ e => by
      rw [ev, evs, e]; simp [evs, h1z]
    refine ⟨_, ⟨cut t.path none (some at_) ++ [x] ++ cut t.path (some (at_ + 1)) none, rfl, by simp; omega⟩, ?_⟩
    rw [ev, ev, e1]
    simp only [Option.bind_some]
    rw [e3 _ ex]
    simp only [Option.bind_some, vw_tup]
    rw [cons2 (by simp; omega)]
    simp only [Option.bind_some]
    rw [e2]
    simp only [Option.bind_some, vw_tup]
    rw [cons2 (by simp; omega)]
    simp
  refine st_if (Post := Rets DR h) (c 4) (fun _ => st_retP (tup4 v2 v3 (ep_idxA (ea_cons ⟨_, ⟨_, rfl⟩, rfl⟩ (ea_cons (ep_con ⟨_, rfl⟩) (ea_cons ⟨_, ⟨_, rfl⟩, rfl⟩ (ea_cons ⟨_, ⟨_, rfl⟩, rfl⟩ ea_nil)))) v0) v5) fun d p => p) fun _ => ?_
  refine st_if (Post := Rets DR h) (c 5) (fun _ => st_retP (tup4 v2 v3 v4 ?_) fun d p => p) fun _ => ?_
  · have e1 : ev G (PX.tup [PX.con (D.int 99), PX.con (D.int 99)]) [some (.int mo), some t.d, some (.str t.pre), some (.tup (t.path.map .int)), some (.int t.w), some (.tup (t.tags.map .int)), some (.int way), none] h = some (.tup ([99, 99].map .int), h) := rfl
    refine ⟨_, ⟨t.tags ++ [99, 99], rfl, by simp; omega⟩, ?_⟩
    rw [ev, v5']
    simp only [Option.bind_some, e1, vw_tup]
    rw [cons2 (by simp; omega)]
    simp
  refine st_if (Post := Rets DR h) (c 6) (fun _ => st_retP (tup4 v2 v3 v4 (ep_idxA (ea_cons (conI [2, 1] (by decide)) (ea_cons (conI [0, 3] (by decide)) (ea_cons (conI [5, 100] (by decide)) (ea_cons (conI [1, 3, 2] (by decide)) (ea_cons ⟨_, ⟨[-1], rfl, by decide⟩, rfl⟩ (ea_cons (conI [7, 7] (by decide)) ea_nil)))))) v0)) fun d p => p) fun _ => ?_
  refine st_if (Post := Rets DR h) (c 7) (fun _ => st_retP (tup4 v2 v3 v4 (conI [1, 2, 3, 4, 5] (by decide))) fun d p => p) fun _ => ?_
  exact st_retP v1' fun d p => p
def DL (d : D) : Prop := ∃ r : Rl, d = r.d ∧ r.Ok
def PSpoiltRule (f : Den) : Prop := ∀ (m : Int) (r : Rl) (h : AH), r.Ok → ∃ r' : Rl, r'.Ok ∧ f [.int m, r.d] h = .ok r'.d h
noncomputable def someD : List D := [.lst [.str [50], .str (List.replicate 17 48)], .lst [.int (-1), .int 17], .lst [.int (-1), .int 1000], .lst [.int (-1), .int 100], .lst [.str [], .str [121, 101, 115, 32]], .lst [.int (-1), .int 1001], .lst [.int 100, .int (-1)], .lst [.int (-1), .int 100], .lst [.int 4, .int (-1)]]
theorem rl_put (r : Rl) (hr : r.Ok) (k : Nat) (hk : k < 9) (b : Bool) : ∃ r' : Rl, r'.Ok ∧ ∃ x y, someD[k]? = some (.lst [x, y]) ∧
    (match r.d with | .tup xs => D.tup (xs.take k ++ [if b = true then y else x] ++ xs.drop (k + 1)) | d => d) = r'.d := by
  have ok1 : ∀ s : List Nat, s.length ≤ 40 → (s.all fun c => decide (c < 1114112)) = true → okS s := fun s a b => ⟨by show _ ≤ 16777216; omega, b⟩
  have oA : okS (if b = true then List.replicate 17 48 else [50]) := by cases b <;> exact ok1 _ (by decide) (by decide)
  have oB : okS (if b = true then [121, 101, 115, 32] else []) := by cases b <;> exact ok1 _ (by decide) (by decide)
  match k, hk with
  | 0, _ => exact ⟨{ r with pre := if b = true then List.replicate 17 48 else [50] }, ⟨oA, hr.deed⟩, _, _, rfl, by cases b <;> rfl⟩
  | 1, _ => exact ⟨{ r with longest := if b = true then 17 else -1 }, ⟨hr.pre, hr.deed⟩, _, _, rfl, by cases b <;> rfl⟩
  | 2, _ => exact ⟨{ r with number := if b = true then 1000 else -1 }, ⟨hr.pre, hr.deed⟩, _, _, rfl, by cases b <;> rfl⟩
  | 3, _ => exact ⟨{ r with tag := if b = true then 100 else -1 }, ⟨hr.pre, hr.deed⟩, _, _, rfl, by cases b <;> rfl⟩
  | 4, _ => exact ⟨{ r with deed := if b = true then [121, 101, 115, 32] else [] }, ⟨hr.pre, oB⟩, _, _, rfl, by cases b <;> rfl⟩
  | 5, _ => exact ⟨{ r with prefer := if b = true then some 1001 else some (-1) }, ⟨hr.pre, hr.deed⟩, _, _, rfl, by cases b <;> rfl⟩
  | 6, _ => exact ⟨{ r with add := if b = true then -1 else 100 }, ⟨hr.pre, hr.deed⟩, _, _, rfl, by cases b <;> rfl⟩
  | 7, _ => exact ⟨{ r with take := if b = true then 100 else -1 }, ⟨hr.pre, hr.deed⟩, _, _, rfl, by cases b <;> rfl⟩
  | 8, _ => exact ⟨{ r with ahead := if b = true then -1 else 4 }, ⟨hr.pre, hr.deed⟩, _, _, rfl, by cases b <;> rfl⟩
theorem rl_len (r : Rl) : ∃ xs : List D, r.d = .tup xs ∧ xs.length = 9 := ⟨_, rfl, rfl⟩
theorem cutHi {α : Type} (l : List α) (k : Nat) (h : k ≤ l.length) : cut l none (some (k : Int)) = l.take k := by
  unfold cut sIx
  have e : (if (k : Int) < 0 then ((k : Int) + (l.length : Int)).toNat else min ((k : Int)).toNat l.length) = k := by
    rw [if_neg (by omega)]; omega
  simp only [e, List.drop_zero, Nat.sub_zero]
theorem cutLo {α : Type} (l : List α) (k : Nat) (h : k ≤ l.length) : cut l (some (k : Int)) none = l.drop k := by
  unfold cut sIx
  have e : (if (k : Int) < 0 then ((k : Int) + (l.length : Int)).toNat else min ((k : Int)).toNat l.length) = k := by
    rw [if_neg (by omega)]; omega
  simp only [e]
  rw [List.take_of_length_le (by rw [List.length_drop]; omega)]
theorem spoiltRule_ok {G : List Den} : PSpoiltRule (cutDen (runF G 2 4 p_spoilt_rule)) := by
  intro m r h hr
  suffices H : Rets DL h (exSs G p_spoilt_rule (startE 4 [.int m, r.d]) h) by
    obtain ⟨d, ⟨t', rfl, k⟩, e⟩ := run_rets H rfl
    exact ⟨t', k, e⟩
  have e0 : startE 4 [.int m, r.d] = [some (.int m), some r.d, none, none] := rfl
  rw [e0]
  unfold p_spoilt_rule
  refine st_asg (Post := Rets DL h) (P := fun d => ∃ k : Nat, d = .int k ∧ k < 10) (EvI.p (P := fun i => 0 ≤ i ∧ i < 10) (ei_modC (P := fun _ => True) (ei_var (i := m) rfl trivial) fun x _ => ⟨Int.emod_nonneg _ (by decide), Int.emod_lt_of_pos _ (by decide)⟩) fun i p => ⟨i.toNat, by rw [Int.toNat_of_nonneg p.1], by omega⟩) ?_
  rintro _ ⟨k, rfl, hk⟩
  refine st_asg (Post := Rets DL h) (P := fun d => d = .lst (someD.take 6)) ⟨_, rfl, rfl⟩ ?_
  rintro _ rfl
  refine st_asg (Post := Rets DL h) (P := fun d => d = .lst someD) ⟨_, rfl, rfl⟩ ?_
  rintro _ rfl
  show Rets DL h (exSs G _ [some (.int m), some r.d, some (.int (k : Int)), some (.lst someD)] h)
  refine st_if (Post := Rets DL h) (P := fun b => b = ((k : Int) == 9)) (et_cmpI (P := fun x => x = (k : Int)) (Q := fun x => x = 9) (ei_var (i := (k : Int)) rfl rfl) (ei_con rfl) fun x y e1 e2 => ⟨_, rfl, by subst e1 e2; rfl⟩) (fun _ => st_retP (ep_var (d := r.d) rfl ⟨r, rfl, hr⟩) fun d p => p) fun e9 => ?_
  have hk9 : k < 9 := by
    have : (k : Int) ≠ 9 := fun z => by rw [z] at e9; cases e9
    omega
  obtain ⟨xs, hxs, hlen⟩ := rl_len r
  have hb : EvI G (PX.bin (Operator.Mod) (PX.bin (Operator.FloorDiv) (PX.var 0) (PX.con (D.int 16))) (PX.con (D.int 2))) [some (.int m), some r.d, some (.int (k : Int)), some (.lst someD)] h fun i => i = 0 ∨ i = 1 := ei_modC (P := fun _ => True) (ei_fdivC (P := fun _ => True) (ei_var (i := m) rfl trivial) fun _ _ => trivial) fun x _ => by omega
  obtain ⟨j, hj, ej⟩ := hb
  obtain ⟨r', hr', x, y, es, ed⟩ := rl_put r hr k hk9 (decide (j = 1))
  rw [hxs] at ed
  have a1 : idxD (.lst someD) (.int (k : Int)) = some (.lst [x, y]) := by
    show atI someD (k : Int) = _
    unfold atI ixN
    rw [if_pos (by omega), if_pos (by show (k : Int) < 9; omega)]
    simp [es]
  have a2 : idxD (.lst [x, y]) (.int j) = some (if decide (j = 1) = true then y else x) := by rcases hj with rfl | rfl <;> rfl
  have e1 : ev G (PX.sl (PX.var 1) none (some (PX.var 2))) [some (.int m), some r.d, some (.int (k : Int)), some (.lst someD)] h = some (.tup (xs.take k), h) := by
    have : slD (.tup xs) none (some (k : Int)) = some (.tup (xs.take k)) := by
      show some (D.tup (cut xs none (some (k : Int)))) = _
      rw [cutHi xs k (by omega)]
    rw [ev, ev_var]
    simp [hxs, evo, this]
  have e2 : ev G (PX.tup [PX.idx (PX.idx (PX.var 3) (PX.var 2)) (PX.bin (Operator.Mod) (PX.bin (Operator.FloorDiv) (PX.var 0) (PX.con (D.int 16))) (PX.con (D.int 2)))]) [some (.int m), some r.d, some (.int (k : Int)), some (.lst someD)] h = some (.tup [if decide (j = 1) = true then y else x], h) := by
    have h1z : (1 : Nat) ≤ SZ := by decide
    have ei : ev G (PX.idx (PX.var 3) (PX.var 2)) [some (.int m), some r.d, some (.int (k : Int)), some (.lst someD)] h = some (.lst [x, y], h) := by simp [ev, a1]
    have ei2 : ev G (PX.idx (PX.idx (PX.var 3) (PX.var 2)) (PX.bin (Operator.Mod) (PX.bin (Operator.FloorDiv) (PX.var 0) (PX.con (D.int 16))) (PX.con (D.int 2)))) [some (.int m), some r.d, some (.int (k : Int)), some (.lst someD)] h = some (if decide (j = 1) = true then y else x, h) := by
      rw [ev, ei]
      simp only [Option.bind_some, ej, vw_lst]
      rw [a2]
      rfl
    rw [ev, evs, ei2]
    simp [evs, h1z]
  have e3 : ev G (PX.sl (PX.var 1) (some (PX.bin (Operator.Add) (PX.var 2) (PX.con (D.int 1)))) none) [some (.int m), some r.d, some (.int (k : Int)), some (.lst someD)] h = some (.tup (xs.drop (k + 1)), h) := by
    have : slD (.tup xs) (some ((k : Int) + 1)) none = some (.tup (xs.drop (k + 1))) := by
      show some (D.tup (cut xs (some ((k : Int) + 1)) none)) = _
      have := cutLo xs (k + 1) (by omega)
      rw [show ((k : Int) + 1) = ((k + 1 : Nat) : Int) by omega, this]
    rw [ev, ev_var]
    simp [hxs, evo, ev, bi_add, this]
  refine st_retP (P := DL) ⟨_, ⟨r', rfl, hr'⟩, ?_⟩ fun d p => p
  rw [ev, ev, e1]
  simp only [Option.bind_some, e2, vw_tup]
  rw [cons2 (by simp; omega)]
  simp only [Option.bind_some, e3, vw_tup]
  rw [cons2 (by simp; omega)]
  simp only [Option.bind_some]
  rw [← ed]
end K10
namespace K10
open MP PySem
noncomputable abbrev wR : List Nat := [66, 97, 100, 82, 111, 117, 116, 101]
noncomputable abbrev wU : List Nat := [66, 97, 100, 82, 117, 108, 101]
structure GOk (G : List Den) : Prop where
  cell : ∃ f, G[6]? = some f ∧ PCell f
  drawn : ∃ f, G[7]? = some f ∧ PDrawn f
  numbers : ∃ f, G[8]? = some f ∧ PNumbers f
  bits : ∃ f, G[9]? = some f ∧ PBits f
  tags : ∃ f, G[10]? = some f ∧ PTags f
  sroute : ∃ f, G[11]? = some f ∧ PSpoiltRoute f
  srule : ∃ f, G[12]? = some f ∧ PSpoiltRule f
  groute : ∃ f, G[13]? = some f ∧ PGoodRoute f
  grule : ∃ f, G[14]? = some f ∧ PGoodRule f
  told : ∃ f, G[15]? = some f ∧ PTold f
noncomputable def sDue : PSt := PSt.asg (PTg.nm 9) (PX.new [PX.idx (PX.new [PX.con (D.non), PX.con (D.str [66, 97, 100, 82, 111, 117, 116, 101])]) (PX.blt (Bl.int) [PX.not (PX.call 13 [PX.var 7])])])
noncomputable def sApp : PSt := PSt.ex (PX.app (PX.var 9) (PX.idx (PX.lst [PX.con (D.non), PX.con (D.str [66, 97, 100, 82, 117, 108, 101])]) (PX.blt (Bl.int) [PX.not (PX.call 14 [PX.var 8])])))
noncomputable def bTurn : List PSt := [PSt.ifs (PB.val (PX.cmp (CmpOp.NotEq) (PX.lst [PX.call 15 [PX.con (D.fn "need_route"), PX.var 7], PX.call 15 [PX.con (D.fn "need_rule"), PX.var 8]]) (PX.var 9))) [PSt.ret (PX.con (D.bl false))] []]
noncomputable def sTurns : PSt := PSt.forS (PTg.nm 10) (PI.rng (PX.con (D.int 2))) bTurn
theorem pick (g : Bool) (w : List Nat) : idxD (.lst [.non, .str w]) (.int (b2z (!g))) = some (tNone g w) := by cases g <;> rfl
theorem tn_pure (g : Bool) {w : List Nat} (h : (w.all fun c => decide (c < 1114112)) = true) (n : Nat) : pureN n (tNone g w) = true := by
  cases g with
  | true => exact pure_non
  | false => show pureN n (.str w) = true; rw [pure_str]; exact h
theorem eqD_tn (g : Bool) (w : List Nat) : eqD (tNone g w) (tNone g w) = true := by cases g <;> simp [tNone]
theorem due_ok {G : List Den} {f : Den} (hG : G[13]? = some f) (hf : PGoodRoute f) {t : Rt} (ht : t.Ok) {r : Rl} (a0 a1 a2 a3 a4 a5 a6 x9 x10 : Option D) (h : AH) :
    exS G sDue [a0, a1, a2, a3, a4, a5, a6, some t.d, some r.d, x9, x10] h = .nx [a0, a1, a2, a3, a4, a5, a6, some t.d, some r.d, some (.ref (h.length + 1)), x10] (h ++ [.lst [.non, .str wR], .lst [tNone (goodR t) wR]]) := by
  have z1 : (1 : Nat) ≤ SZ := by decide
  have z2 : (2 : Nat) ≤ SZ := by decide
  have e1 : ev G (PX.new [PX.con (D.non), PX.con (D.str [66, 97, 100, 82, 111, 117, 116, 101])]) [a0, a1, a2, a3, a4, a5, a6, some t.d, some r.d, x9, x10] h = some (.ref h.length, h ++ [.lst [.non, .str wR]]) := by simp [ev, evs, z2]
  have ec := hf t (h ++ [.lst [.non, .str wR]]) ht
  have e2 : ev G (PX.blt (Bl.int) [PX.not (PX.call 13 [PX.var 7])]) [a0, a1, a2, a3, a4, a5, a6, some t.d, some r.d, x9, x10] (h ++ [.lst [.non, .str wR]]) = some (.int (b2z (!goodR t)), h ++ [.lst [.non, .str wR]]) := by
    have e3 : ev G (PX.call 13 [PX.var 7]) [a0, a1, a2, a3, a4, a5, a6, some t.d, some r.d, x9, x10] (h ++ [.lst [.non, .str wR]]) = some (.bl (goodR t), h ++ [.lst [.non, .str wR]]) := by
      rw [ev, evs]
      simp [evs, hG, ec]
    rw [ev, evs, ev, e3]
    simp [evs, bl_intB]
  have e4 : ev G (PX.idx (PX.new [PX.con (D.non), PX.con (D.str [66, 97, 100, 82, 111, 117, 116, 101])]) (PX.blt (Bl.int) [PX.not (PX.call 13 [PX.var 7])])) [a0, a1, a2, a3, a4, a5, a6, some t.d, some r.d, x9, x10] h = some (tNone (goodR t) wR, h ++ [.lst [.non, .str wR]]) := by
    rw [ev, e1]
    simp only [Option.bind_some, e2]
    have : vw (h ++ [.lst [.non, .str wR]]) (.ref h.length) = .lst [.non, .str wR] := by simp [vw]
    rw [this, pick]
    rfl
  have e5 : ev G (PX.new [PX.idx (PX.new [PX.con (D.non), PX.con (D.str [66, 97, 100, 82, 111, 117, 116, 101])]) (PX.blt (Bl.int) [PX.not (PX.call 13 [PX.var 7])])]) [a0, a1, a2, a3, a4, a5, a6, some t.d, some r.d, x9, x10] h = some (.ref (h.length + 1), h ++ [.lst [.non, .str wR], .lst [tNone (goodR t) wR]]) := by
    rw [ev, evs, e4]
    simp [evs, z1]
  unfold sDue
  rw [exS, evR_ev e5]
  rfl
theorem app_ok {G : List Den} {f : Den} (hG : G[14]? = some f) (hf : PGoodRule f) {t : Rt} {r : Rl} (hr : r.Ok) (a0 a1 a2 a3 a4 a5 a6 x10 : Option D) (h : AH) (d1 : D) :
    exS G sApp [a0, a1, a2, a3, a4, a5, a6, some t.d, some r.d, some (.ref (h.length + 1)), x10] (h ++ [.lst [.non, .str wR], .lst [d1]]) = .nx [a0, a1, a2, a3, a4, a5, a6, some t.d, some r.d, some (.ref (h.length + 1)), x10] (h ++ [.lst [.non, .str wR], .lst [d1, tNone (goodRl r) wU]]) := by
  have z2 : (2 : Nat) ≤ SZ := by decide
  have zs : ([d1] : List D).length < SZ := by simp [SZ]
  have ec := hf r (h ++ [.lst [.non, .str wR], .lst [d1]]) hr
  have e3 : ev G (PX.call 14 [PX.var 8]) [a0, a1, a2, a3, a4, a5, a6, some t.d, some r.d, some (.ref (h.length + 1)), x10] (h ++ [.lst [.non, .str wR], .lst [d1]]) = some (.bl (goodRl r), h ++ [.lst [.non, .str wR], .lst [d1]]) := by
    rw [ev, evs]
    simp [evs, hG, ec]
  have e2 : ev G (PX.blt (Bl.int) [PX.not (PX.call 14 [PX.var 8])]) [a0, a1, a2, a3, a4, a5, a6, some t.d, some r.d, some (.ref (h.length + 1)), x10] (h ++ [.lst [.non, .str wR], .lst [d1]]) = some (.int (b2z (!goodRl r)), h ++ [.lst [.non, .str wR], .lst [d1]]) := by
    rw [ev, evs, ev, e3]
    simp [evs, bl_intB]
  have e1 : ev G (PX.lst [PX.con (D.non), PX.con (D.str [66, 97, 100, 82, 117, 108, 101])]) [a0, a1, a2, a3, a4, a5, a6, some t.d, some r.d, some (.ref (h.length + 1)), x10] (h ++ [.lst [.non, .str wR], .lst [d1]]) = some (.lst [.non, .str wU], h ++ [.lst [.non, .str wR], .lst [d1]]) := by simp [ev, evs, z2]
  have e4 : ev G (PX.idx (PX.lst [PX.con (D.non), PX.con (D.str [66, 97, 100, 82, 117, 108, 101])]) (PX.blt (Bl.int) [PX.not (PX.call 14 [PX.var 8])])) [a0, a1, a2, a3, a4, a5, a6, some t.d, some r.d, some (.ref (h.length + 1)), x10] (h ++ [.lst [.non, .str wR], .lst [d1]]) = some (tNone (goodRl r) wU, h ++ [.lst [.non, .str wR], .lst [d1]]) := by
    rw [ev, e1]
    simp only [Option.bind_some, e2, vw_lst]
    rw [pick]
    rfl
  have g1 : (h ++ [O.lst [.non, .str wR], O.lst [d1]])[h.length + 1]? = some (.lst [d1]) := by simp
  have g2 : (h ++ [O.lst [.non, .str wR], O.lst [d1]]).set (h.length + 1) (.lst ([d1] ++ [tNone (goodRl r) wU])) = h ++ [.lst [.non, .str wR], .lst [d1, tNone (goodRl r) wU]] := by
    rw [List.set_append_right _ _ (by omega)]
    simp
  have e5 : ev G (PX.app (PX.var 9) (PX.idx (PX.lst [PX.con (D.non), PX.con (D.str [66, 97, 100, 82, 117, 108, 101])]) (PX.blt (Bl.int) [PX.not (PX.call 14 [PX.var 8])]))) [a0, a1, a2, a3, a4, a5, a6, some t.d, some r.d, some (.ref (h.length + 1)), x10] (h ++ [.lst [.non, .str wR], .lst [d1]]) = some (.non, h ++ [.lst [.non, .str wR], .lst [d1, tNone (goodRl r) wU]]) := by
    rw [ev, ev_var]
    simp only [getV_succ, getV_zero, Option.bind_some, g1, e4]
    rw [if_pos zs, g2]
  unfold sApp
  rw [exS, evR_ev e5]
theorem turn_ok {G : List Den} {f : Den} (hG : G[15]? = some f) (hf : PTold f) {t : Rt} (ht : t.Ok) {r : Rl} (hr : r.Ok) (a0 a1 a2 a3 a4 a5 a6 x10 : Option D) (h : AH) :
    exSs G bTurn [a0, a1, a2, a3, a4, a5, a6, some t.d, some r.d, some (.ref (h.length + 1)), x10] (h ++ [.lst [.non, .str wR], .lst [tNone (goodR t) wR, tNone (goodRl r) wU]]) = .nx [a0, a1, a2, a3, a4, a5, a6, some t.d, some r.d, some (.ref (h.length + 1)), x10] (h ++ [.lst [.non, .str wR], .lst [tNone (goodR t) wR, tNone (goodRl r) wU]]) := by
  generalize hH : h ++ [O.lst [.non, .str wR], O.lst [tNone (goodR t) wR, tNone (goodRl r) wU]] = H
  have z2 : (2 : Nat) ≤ SZ := by decide
  obtain ⟨c1, c2⟩ := hf H
  have c1 := c1 t ht
  have c2 := c2 r hr
  have e1 : ev G (PX.call 15 [PX.con (D.fn "need_route"), PX.var 7]) [a0, a1, a2, a3, a4, a5, a6, some t.d, some r.d, some (.ref (h.length + 1)), x10] H = some (tNone (goodR t) wR, H) := by
    rw [ev, evs]
    simp [evs, hG, c1]
  have e2 : ev G (PX.call 15 [PX.con (D.fn "need_rule"), PX.var 8]) [a0, a1, a2, a3, a4, a5, a6, some t.d, some r.d, some (.ref (h.length + 1)), x10] H = some (tNone (goodRl r) wU, H) := by
    rw [ev, evs]
    simp [evs, hG, c2]
  have e3 : ev G (PX.lst [PX.call 15 [PX.con (D.fn "need_route"), PX.var 7], PX.call 15 [PX.con (D.fn "need_rule"), PX.var 8]]) [a0, a1, a2, a3, a4, a5, a6, some t.d, some r.d, some (.ref (h.length + 1)), x10] H = some (.lst [tNone (goodR t) wR, tNone (goodRl r) wU], H) := by
    rw [ev, evs, e1]
    simp only [Option.bind_some]
    rw [evs, e2]
    simp [evs, z2]
  have v9 : vw H (.ref (h.length + 1)) = .lst [tNone (goodR t) wR, tNone (goodRl r) wU] := by rw [← hH]; simp [vw]
  have hc : cmpD .NotEq (.lst [tNone (goodR t) wR, tNone (goodRl r) wU]) (.lst [tNone (goodR t) wR, tNone (goodRl r) wU]) = some false := by
    have p : pureD (.lst [tNone (goodR t) wR, tNone (goodRl r) wU]) = true := by
      show ([tNone (goodR t) wR, tNone (goodRl r) wU].all (pureN 15)) = true
      simp [tn_pure (goodR t) (w := wR) (by decide) 15, tn_pure (goodRl r) (w := wU) (by decide) 15]
    have q : eqD (.lst [tNone (goodR t) wR, tNone (goodRl r) wU]) (.lst [tNone (goodR t) wR, tNone (goodRl r) wU]) = true := by
      show (eqD (tNone (goodR t) wR) (tNone (goodR t) wR) && (eqD (tNone (goodRl r) wU) (tNone (goodRl r) wU) && true)) = true
      rw [eqD_tn, eqD_tn]
      rfl
    rw [cmp_ne, p, q]
    rfl
  have eb : evB G (PB.val (PX.cmp (CmpOp.NotEq) (PX.lst [PX.call 15 [PX.con (D.fn "need_route"), PX.var 7], PX.call 15 [PX.con (D.fn "need_rule"), PX.var 8]]) (PX.var 9))) [a0, a1, a2, a3, a4, a5, a6, some t.d, some r.d, some (.ref (h.length + 1)), x10] H = some (false, H) := by
    rw [evB, ev, e3]
    simp only [Option.bind_some, ev_var, getV_succ, getV_zero, v9, vw_lst, hc, tru_bl]
  unfold bTurn
  rw [exSs, exS, eb]
  simp [exSs]
theorem rest_ok {G : List Den} (K : GOk G) {t : Rt} (ht : t.Ok) {r : Rl} (hr : r.Ok) (a0 a1 a2 a3 a4 a5 a6 x9 x10 : Option D) (h : AH) :
    ∃ y9 y10 u, exSs G [sDue, sApp, sTurns] [a0, a1, a2, a3, a4, a5, a6, some t.d, some r.d, x9, x10] h = .nx [a0, a1, a2, a3, a4, a5, a6, some t.d, some r.d, y9, y10] (h ++ u) := by
  obtain ⟨f1, g1, k1⟩ := K.groute
  obtain ⟨f2, g2, k2⟩ := K.grule
  obtain ⟨f3, g3, k3⟩ := K.told
  refine ⟨some (.ref (h.length + 1)), some (.int 1), [.lst [.non, .str wR], .lst [tNone (goodR t) wR, tNone (goodRl r) wU]], ?_⟩
  rw [exSs_nx (due_ok g1 k1 ht a0 a1 a2 a3 a4 a5 a6 x9 x10 h), exSs_nx (app_ok g2 k2 hr a0 a1 a2 a3 a4 a5 a6 x10 h _)]
  have er : exS G sTurns [a0, a1, a2, a3, a4, a5, a6, some t.d, some r.d, some (.ref (h.length + 1)), x10] (h ++ [.lst [.non, .str wR], .lst [tNone (goodR t) wR, tNone (goodRl r) wU]]) = .nx [a0, a1, a2, a3, a4, a5, a6, some t.d, some r.d, some (.ref (h.length + 1)), some (.int 1)] (h ++ [.lst [.non, .str wR], .lst [tNone (goodR t) wR, tNone (goodRl r) wU]]) := by
    unfold sTurns
    rw [exS_for (evI_rng (n := 2) (h' := h ++ [.lst [.non, .str wR], .lst [tNone (goodR t) wR, tNone (goodRl r) wU]]) (by simp) ⟨by decide, by decide⟩)]
    show forL (forB G (.nm 10) bTurn) [.int 0, .int 1] _ _ = _
    rw [forL, forB_nm]
    simp only [List.set_cons_succ, List.set_cons_zero]
    rw [turn_ok g3 k3 ht hr]
    simp only
    rw [forL, forB_nm]
    simp only [List.set_cons_succ, List.set_cons_zero]
    rw [turn_ok g3 k3 ht hr]
    rfl
  rw [exSs, er]
  rfl
noncomputable def bodyLaw : List PSt := match p_law with
  | [.forS _ _ b, _] => b
  | _ => []
theorem law_eq : p_law = [PSt.forS (PTg.nm 1) (PI.rng (PX.blt (Bl.max2) [PX.con (D.int 1), PX.blt (Bl.min2) [PX.con (D.int 6), PX.blt (Bl.len) [PX.var 0]]])) bodyLaw, PSt.ret (PX.con (D.bl true))] := rfl
def EnvL (sc : List Int) (ρ : Ev) : Prop := ∃ x1 x2 x3 x4 x5 x6 x7 x8 x9 x10, ρ = [some (.lst (sc.map .int)), x1, x2, x3, x4, x5, x6, x7, x8, x9, x10]
def NextsH (sc : List Int) (h : AH) (r : R) : Prop := ∃ ρ u, EnvL sc ρ ∧ r = .nx ρ (h ++ u)
noncomputable abbrev dp (n : Int) : PX := PX.bin (Operator.FloorDiv) (PX.var 2) (PX.bin (Operator.Pow) (PX.con (D.int 2)) (PX.con (D.int n)))
noncomputable abbrev pickI (es : List PX) (n k : Int) : PX := PX.idx (PX.lst es) (PX.bin (Operator.Mod) (dp n) (PX.con (D.int k)))
theorem body_eq : bodyLaw = [PSt.asg (PTg.nm 2) (PX.call 7 [PX.call 6 [PX.var 0, PX.var 1], PX.var 1]),
    PSt.asg (PTg.nm 3) (PX.call 9 [PX.bin (Operator.FloorDiv) (PX.var 2) (PX.con (D.int 16)), PX.idx (PX.lst [PX.con (D.int 0), PX.bin (Operator.Mod) (PX.var 2) (PX.con (D.int 17)), PX.con (D.int 16)]) (PX.bin (Operator.Mod) (PX.bin (Operator.FloorDiv) (PX.var 2) (PX.con (D.int 8))) (PX.con (D.int 3)))]),
    PSt.asg (PTg.nm 4) (PX.bin (Operator.Add) (PX.con (D.int 1)) (PX.bin (Operator.Mod) (dp 17) (PX.con (D.int 12)))),
    PSt.asg (PTg.nm 5) (PX.blt (Bl.tuple) [PX.call 8 [dp 20, PX.var 4]]),
    PSt.asg (PTg.nm 6) (pickI [PX.con (D.int 0), PX.con (D.int 1000), PX.bin (Operator.Mod) (dp 40) (PX.con (D.int 1001))] 30 3),
    PSt.asg (PTg.nm 7) (PX.tup [PX.var 3, PX.var 5, PX.var 6, PX.call 10 [dp 50]]),
    PSt.asg (PTg.nm 8) (PX.tup [PX.var 3, PX.idx (PX.lst [PX.con (D.int 0), PX.con (D.int 16), PX.con (D.int 7)]) (PX.bin (Operator.Mod) (PX.bin (Operator.FloorDiv) (PX.var 2) (PX.con (D.int 32))) (PX.con (D.int 3))), pickI [PX.con (D.int 0), PX.con (D.int 999), PX.idx (PX.var 5) (PX.con (D.int 0))] 33 3]),
    PSt.asg (PTg.nm 8) (PX.bin (Operator.Add) (PX.var 8) (PX.tup [pickI [PX.con (D.int 0), PX.con (D.int 99), PX.con (D.int 5)] 35 3])),
    PSt.asg (PTg.nm 8) (PX.bin (Operator.Add) (PX.var 8) (PX.tup [pickI [PX.con (D.str [110, 111]), PX.con (D.str [121, 101, 115]), PX.con (D.str [111, 110])] 37 3, pickI [PX.con (D.non), PX.con (D.int 0), PX.con (D.int 1000)] 39 3])),
    PSt.asg (PTg.nm 8) (PX.bin (Operator.Add) (PX.var 8) (PX.tup [pickI [PX.con (D.int 0), PX.con (D.int 99)] 42 2, pickI [PX.con (D.int 0), PX.con (D.int 99)] 43 2])),
    PSt.asg (PTg.nm 8) (PX.bin (Operator.Add) (PX.var 8) (PX.tup [pickI [PX.con (D.int 0), PX.con (D.int 3), PX.con (D.int 1)] 44 3])),
    PSt.ifs (PB.val (PX.cmp (CmpOp.Eq) (PX.bin (Operator.Mod) (dp 47) (PX.con (D.int 2))) (PX.con (D.int 1)))) [PSt.asg (PTg.nm 7) (PX.call 11 [dp 60, PX.var 7]), PSt.asg (PTg.nm 8) (PX.call 12 [PX.bin (Operator.FloorDiv) (dp 60) (PX.con (D.int 1024)), PX.var 8])] [],
    sDue, sApp, sTurns] := rfl
end K10
namespace K10
open MP PySem
theorem ok_small {s : List Nat} (h : BitStr s) (hl : s.length ≤ 16) : okS s := ⟨by show _ ≤ 16777216; omega, by
  rw [List.all_eq_true]
  intro c hc
  rcases h c hc with rfl | rfl <;> decide⟩
def DPref (d : D) : Prop := ∃ o, d = optD o
theorem cat2 {G : List Den} {ρ : Ev} {h : AH} {e : PX} {xs ys : List D} (g : getV ρ 8 = some (.tup xs)) (he : ev G (.tup [e]) ρ h = some (.tup ys, h)) (hl : xs.length + ys.length ≤ 100) : ev G (.bin .Add (.var 8) (.tup [e])) ρ h = some (.tup (xs ++ ys), h) := by
  rw [ev, ev_var, g]
  simp only [Option.bind_some, he, vw_tup]
  rw [cons2 (by omega)]
  rfl
theorem cat3 {G : List Den} {ρ : Ev} {h : AH} {e e2 : PX} {xs ys : List D} (g : getV ρ 8 = some (.tup xs)) (he : ev G (.tup [e, e2]) ρ h = some (.tup ys, h)) (hl : xs.length + ys.length ≤ 100) : ev G (.bin .Add (.var 8) (.tup [e, e2])) ρ h = some (.tup (xs ++ ys), h) := by
  rw [ev, ev_var, g]
  simp only [Option.bind_some, he, vw_tup]
  rw [cons2 (by omega)]
  rfl
theorem tup1 {G : List Den} {ρ : Ev} {h : AH} {e : PX} {d : D} (he : ev G e ρ h = some (d, h)) : ev G (.tup [e]) ρ h = some (.tup [d], h) := by
  have z : (1 : Nat) ≤ SZ := by decide
  rw [ev, evs, he]; simp [evs, z]
theorem tup2 {G : List Den} {ρ : Ev} {h : AH} {e e2 : PX} {d d2 : D} (he : ev G e ρ h = some (d, h)) (he2 : ev G e2 ρ h = some (d2, h)) : ev G (.tup [e, e2]) ρ h = some (.tup [d, d2], h) := by
  have z : (2 : Nat) ≤ SZ := by decide
  rw [ev, evs, he]
  simp only [Option.bind_some]
  rw [evs, he2]
  simp [evs, z]
theorem tup3 {G : List Den} {ρ : Ev} {h : AH} {e e2 e3 : PX} {d d2 d3 : D} (he : ev G e ρ h = some (d, h)) (he2 : ev G e2 ρ h = some (d2, h)) (he3 : ev G e3 ρ h = some (d3, h)) : ev G (.tup [e, e2, e3]) ρ h = some (.tup [d, d2, d3], h) := by
  have z : (3 : Nat) ≤ SZ := by decide
  rw [ev, evs, he]
  simp only [Option.bind_some]
  rw [evs, he2]
  simp only [Option.bind_some]
  rw [evs, he3]
  simp [evs, z]
theorem okA (s : List Nat) (a : s.length ≤ 40) (b : (s.all fun c => decide (c < 1114112)) = true) : okS s := ⟨by show _ ≤ 16777216; omega, b⟩
theorem turnLaw {G : List Den} (K : GOk G) (h : AH) (sc : List Int) (hsc : sc.length ≤ 63) (k : Nat) (hk : k < 6) (x2 x3 x4 x5 x6 x7 x8 x9 x10 : Option D) :
    NextsH sc h (exSs G bodyLaw [some (.lst (sc.map .int)), some (.int (k : Int)), x2, x3, x4, x5, x6, x7, x8, x9, x10] h) := by
  obtain ⟨fC, gC, pC⟩ := K.cell
  obtain ⟨fD, gD, pD⟩ := K.drawn
  obtain ⟨fN, gN, pN⟩ := K.numbers
  obtain ⟨fB, gB, pB⟩ := K.bits
  obtain ⟨fT, gT, pT⟩ := K.tags
  obtain ⟨fS, gS, pS⟩ := K.sroute
  obtain ⟨fU, gU, pU⟩ := K.srule
  rw [body_eq]
  -- more
  refine st_asg (Post := NextsH sc h) (P := fun d => ∃ i : Int, d = .int i) (ep_call (PL := fun ds => ∃ c : Int, ds = [.int c, .int (k : Int)]) gD (el_two (P1 := fun d => ∃ c : Int, d = .int c) (P2 := fun d => d = .int (k : Int)) (ep_call (PL := fun ds => ds = [.lst (sc.map .int), .int (k : Int)]) gC
    (el_two (P1 := fun d => d = .lst (sc.map .int)) (P2 := fun d => d = .int (k : Int)) (ep_var (by simp) rfl) (ep_var (by simp) rfl) fun d d2 e e2 => by rw [e, e2]) ?_) (ep_var (by simp) rfl) fun d d2 ⟨c, e⟩ e2 => ⟨c, by rw [e, e2]⟩) ?_) ?_
  · rintro _ rfl
    obtain ⟨i, e⟩ := pC sc k h hsc (by omega) (by omega)
    exact ⟨_, ⟨i, rfl⟩, e⟩
  · rintro _ ⟨c, rfl⟩
    obtain ⟨i, i0, e⟩ := pD c k h (by omega) (by omega)
    exact ⟨_, ⟨i, rfl⟩, e⟩
  rintro _ ⟨m, rfl⟩
  simp only [List.set_cons_succ, List.set_cons_zero]
  -- prefix
  refine st_asg (Post := NextsH sc h) (P := fun d => ∃ s, d = .str s ∧ BitStr s ∧ s.length ≤ 16) (ep_call (PL := fun ds => ∃ a b : Int, ds = [.int a, .int b] ∧ 0 ≤ b ∧ b ≤ 16) gB (el_two (P1 := DI) (P2 := fun d => ∃ i : Int, d = .int i ∧ 0 ≤ i ∧ i ≤ 16)
    (EvI.p (P := fun _ => True) (ei_fdivC (P := fun _ => True) (ei_var (i := m) (by simp) trivial) fun _ _ => trivial) fun i _ => ⟨i, rfl⟩)
    (ep_idxA (ea_cons (ep_con ⟨_, rfl, by decide, by decide⟩) (ea_cons (EvI.p (P := fun i => 0 ≤ i ∧ i < 17) (ei_modC (P := fun _ => True) (ei_var (i := m) (by simp) trivial) fun x _ => ⟨Int.emod_nonneg _ (by decide), Int.emod_lt_of_pos _ (by decide)⟩) fun i p => ⟨i, rfl, p.1, by omega⟩) (ea_cons (ep_con ⟨_, rfl, by decide, by decide⟩) ea_nil))) (ei_fdivC (P := fun _ => True) (ei_var (i := m) (by simp) trivial) fun _ _ => trivial))
    fun d d2 ⟨i, e⟩ ⟨j, e2, p⟩ => ⟨i, j, by rw [e, e2], p⟩) ?_) ?_
  · rintro ds ⟨a, b, rfl, h1, h2⟩
    obtain ⟨s, p, l, e⟩ := pB a b h h1 h2
    exact ⟨_, ⟨s, rfl, p, by omega⟩, e⟩
  rintro _ ⟨pre, rfl, bs, ls⟩
  simp only [List.set_cons_succ, List.set_cons_zero]
  have opre := ok_small bs ls
  -- many
  refine st_asg (Post := NextsH sc h) (P := fun d => ∃ i : Int, d = .int i ∧ 1 ≤ i ∧ i ≤ 12) (EvI.p (P := fun i => 1 ≤ i ∧ i ≤ 12) (ei_add (P := fun i => i = 1) (Q := fun i => 0 ≤ i ∧ i < 12) (ei_con rfl) (ei_modC (P := fun _ => True) (ei_fdivP (P := fun _ => True) (ei_var (i := m) (by simp) trivial) fun _ _ => trivial) fun x _ => ⟨Int.emod_nonneg _ (by decide), Int.emod_lt_of_pos _ (by decide)⟩) fun x y e p => by subst e; omega) fun i p => ⟨i, rfl, p⟩) ?_
  rintro _ ⟨n, rfl, n1, n2⟩
  simp only [List.set_cons_succ, List.set_cons_zero]
  -- path
  refine st_asg (Post := NextsH sc h) (P := fun d => ∃ l : List Int, d = .tup (l.map .int) ∧ l.length = n.toNat) (ep_blt (PL := fun ds => ∃ l : List Int, ds = [.lst (l.map .int)] ∧ l.length = n.toNat) (el_one (P1 := fun d => ∃ l : List Int, d = .lst (l.map .int) ∧ l.length = n.toNat)
    (ep_call (PL := fun ds => ∃ c : Int, ds = [.int c, .int n]) gN (el_two (P1 := DI) (P2 := fun d => d = .int n) (EvI.p (P := fun _ => True) (ei_fdivP (P := fun _ => True) (ei_var (i := m) (by simp) trivial) fun _ _ => trivial) fun i _ => ⟨i, rfl⟩) (ep_var (by simp) rfl) fun d d2 ⟨c, e⟩ e2 => ⟨c, by rw [e, e2]⟩) ?_) fun d ⟨l, e, p⟩ => ⟨l, by rw [e], p⟩) fun ds ⟨l, e, p⟩ => ⟨_, ⟨l, rfl, p⟩, by rw [e]; rfl⟩) ?_
  · rintro _ ⟨c, rfl⟩
    obtain ⟨l, l5, _, e⟩ := pN c n h n1 n2
    exact ⟨_, ⟨l, rfl, l5⟩, e⟩
  rintro _ ⟨path, rfl, pl⟩
  simp only [List.set_cons_succ, List.set_cons_zero]
  have pne : path ≠ [] := fun e => by rw [e] at pl; simp at pl; omega
  -- weight
  refine st_asg (Post := NextsH sc h) (P := DI) (ep_idxA (ea_cons (ep_con ⟨_, rfl⟩) (ea_cons (ep_con ⟨_, rfl⟩) (ea_cons (EvI.p (P := fun _ => True) (ei_modC (P := fun _ => True) (ei_fdivP (P := fun _ => True) (ei_var (i := m) (by simp) trivial) fun _ _ => trivial) fun x _ => trivial) fun i p => ⟨i, rfl⟩) ea_nil))) (ei_fdivP (P := fun _ => True) (ei_var (i := m) (by simp) trivial) fun _ _ => trivial)) ?_
  rintro _ ⟨wt, rfl⟩
  simp only [List.set_cons_succ, List.set_cons_zero]
  -- route
  refine st_asg (Post := NextsH sc h) (P := fun d => ∃ t : Rt, d = t.d ∧ t.In) ?_ ?_
  · have ht : EvP G (PX.call 10 [dp 50]) [some (.lst (sc.map .int)), some (.int (k : Int)), some (.int m), some (.str pre), some (.int n), some (.tup (path.map .int)), some (.int wt), x7, x8, x9, x10] h fun d => ∃ l : List Int, d = .tup (l.map .int) ∧ TagsOk l := by
      refine ep_call (PL := fun ds => ∃ c : Int, ds = [.int c]) gT (el_one (P1 := DI) (EvI.p (P := fun _ => True) (ei_fdivP (P := fun _ => True) (ei_var (i := m) (by simp) trivial) fun _ _ => trivial) fun i _ => ⟨i, rfl⟩) fun d ⟨c, e⟩ => ⟨c, by rw [e]⟩) ?_
      rintro _ ⟨c, rfl⟩
      obtain ⟨l, ok, e⟩ := pT c h
      exact ⟨_, ⟨l, rfl, ok⟩, e⟩
    obtain ⟨_, ⟨tg, rfl, tok⟩, et⟩ := ht
    have z4 : (4 : Nat) ≤ SZ := by decide
    refine ⟨_, ⟨⟨pre, path, wt, tg⟩, rfl, ⟨opre, ls, pne, by rw [pl]; omega, tok.1⟩⟩, ?_⟩
    rw [ev, evs]
    simp only [ev_var, getV_succ, getV_zero, Option.bind_some, evs, et]
    simp [z4, Rt.d]
  rintro _ ⟨t, rfl, tin⟩
  simp only [List.set_cons_succ, List.set_cons_zero]
  -- rule, bit by bit
  have pk : ∀ (ρ : Ev) (es : List PX) (PD : D → Prop) (q : Int) (j : Int), getV ρ 2 = some (.int m) → EvA G es ρ h PD → (j = es.length) → (0 < j ∧ es.length ≤ SZ) → (0 ≤ q ∧ q ≤ 90) → EvP G (pickI es q j) ρ h PD := fun ρ es PD q j g a hn hp hq => ep_idxA a (ei_fdivP (P := fun _ => True) (ei_var (i := m) g trivial) (fun _ _ => trivial) hq) hn hp
  refine st_asg (Post := NextsH sc h) (P := fun d => ∃ i j : Int, d = .tup [.str pre, .int i, .int j]) ?_ ?_
  · have a1 : EvP G (PX.idx (PX.lst [PX.con (D.int 0), PX.con (D.int 16), PX.con (D.int 7)]) (PX.bin (Operator.Mod) (PX.bin (Operator.FloorDiv) (PX.var 2) (PX.con (D.int 32))) (PX.con (D.int 3)))) [some (.lst (sc.map .int)), some (.int (k : Int)), some (.int m), some (.str pre), some (.int n), some (.tup (path.map .int)), some (.int wt), some t.d, x8, x9, x10] h DI :=
      ep_idxA (ea_cons (ep_con ⟨_, rfl⟩) (ea_cons (ep_con ⟨_, rfl⟩) (ea_cons (ep_con ⟨_, rfl⟩) ea_nil))) (ei_fdivC (P := fun _ => True) (ei_var (i := m) (by simp) trivial) fun _ _ => trivial)
    have i0 : idxD (.tup (path.map .int)) (.int 0) = some (.int (path.headD 0)) := by
      show atI (path.map D.int) 0 = _
      rw [atI_map, at_head pne]; rfl
    have a2 : EvP G (pickI [PX.con (D.int 0), PX.con (D.int 999), PX.idx (PX.var 5) (PX.con (D.int 0))] 33 3) [some (.lst (sc.map .int)), some (.int (k : Int)), some (.int m), some (.str pre), some (.int n), some (.tup (path.map .int)), some (.int wt), some t.d, x8, x9, x10] h DI :=
      pk _ _ DI 33 3 rfl (ea_cons (ep_con ⟨_, rfl⟩) (ea_cons (ep_con ⟨_, rfl⟩) (ea_cons ⟨_, ⟨_, rfl⟩, by simp [ev, i0]; rfl⟩ ea_nil))) rfl (by decide) (by decide)
    obtain ⟨_, ⟨i, rfl⟩, e1⟩ := a1
    obtain ⟨_, ⟨j, rfl⟩, e2⟩ := a2
    exact ⟨_, ⟨i, j, rfl⟩, tup3 (by simp) e1 e2⟩
  rintro _ ⟨i1, i2, rfl⟩
  simp only [List.set_cons_succ, List.set_cons_zero]
  refine st_asg (Post := NextsH sc h) (P := fun d => ∃ i : Int, d = .tup [.str pre, .int i1, .int i2, .int i]) ?_ ?_
  · obtain ⟨_, ⟨i, rfl⟩, e1⟩ := pk [some (.lst (sc.map .int)), some (.int (k : Int)), some (.int m), some (.str pre), some (.int n), some (.tup (path.map .int)), some (.int wt), some t.d, some (.tup [.str pre, .int i1, .int i2]), x9, x10] [PX.con (D.int 0), PX.con (D.int 99), PX.con (D.int 5)] DI 35 3 rfl (ea_cons (ep_con ⟨_, rfl⟩) (ea_cons (ep_con ⟨_, rfl⟩) (ea_cons (ep_con ⟨_, rfl⟩) ea_nil))) rfl (by decide) (by decide)
    exact ⟨_, ⟨i, rfl⟩, cat2 (xs := [.str pre, .int i1, .int i2]) rfl (tup1 e1) (by simp)⟩
  rintro _ ⟨i3, rfl⟩
  simp only [List.set_cons_succ, List.set_cons_zero]
  refine st_asg (Post := NextsH sc h) (P := fun d => ∃ (s : List Nat) (o : Option Int), okS s ∧ d = .tup [.str pre, .int i1, .int i2, .int i3, .str s, optD o]) ?_ ?_
  · obtain ⟨_, ⟨s, rfl, os⟩, e1⟩ := pk [some (.lst (sc.map .int)), some (.int (k : Int)), some (.int m), some (.str pre), some (.int n), some (.tup (path.map .int)), some (.int wt), some t.d, some (.tup [.str pre, .int i1, .int i2, .int i3]), x9, x10] [PX.con (D.str [110, 111]), PX.con (D.str [121, 101, 115]), PX.con (D.str [111, 110])] DS 37 3 rfl (ea_cons (ep_con ⟨_, rfl, okA _ (by decide) (by decide)⟩) (ea_cons (ep_con ⟨_, rfl, okA _ (by decide) (by decide)⟩) (ea_cons (ep_con ⟨_, rfl, okA _ (by decide) (by decide)⟩) ea_nil))) rfl (by decide) (by decide)
    obtain ⟨_, ⟨o, rfl⟩, e2⟩ := pk [some (.lst (sc.map .int)), some (.int (k : Int)), some (.int m), some (.str pre), some (.int n), some (.tup (path.map .int)), some (.int wt), some t.d, some (.tup [.str pre, .int i1, .int i2, .int i3]), x9, x10] [PX.con (D.non), PX.con (D.int 0), PX.con (D.int 1000)] DPref 39 3 rfl (ea_cons (ep_con ⟨none, rfl⟩) (ea_cons (ep_con ⟨some 0, rfl⟩) (ea_cons (ep_con ⟨some 1000, rfl⟩) ea_nil))) rfl (by decide) (by decide)
    exact ⟨_, ⟨s, o, os, rfl⟩, cat3 (xs := [.str pre, .int i1, .int i2, .int i3]) rfl (tup2 e1 e2) (by simp)⟩
  rintro _ ⟨s5, o5, os5, rfl⟩
  simp only [List.set_cons_succ, List.set_cons_zero]
  refine st_asg (Post := NextsH sc h) (P := fun d => ∃ i j : Int, d = .tup [.str pre, .int i1, .int i2, .int i3, .str s5, optD o5, .int i, .int j]) ?_ ?_
  · obtain ⟨_, ⟨i, rfl⟩, e1⟩ := pk [some (.lst (sc.map .int)), some (.int (k : Int)), some (.int m), some (.str pre), some (.int n), some (.tup (path.map .int)), some (.int wt), some t.d, some (.tup [.str pre, .int i1, .int i2, .int i3, .str s5, optD o5]), x9, x10] [PX.con (D.int 0), PX.con (D.int 99)] DI 42 2 rfl (ea_cons (ep_con ⟨_, rfl⟩) (ea_cons (ep_con ⟨_, rfl⟩) ea_nil)) rfl (by decide) (by decide)
    obtain ⟨_, ⟨j, rfl⟩, e2⟩ := pk [some (.lst (sc.map .int)), some (.int (k : Int)), some (.int m), some (.str pre), some (.int n), some (.tup (path.map .int)), some (.int wt), some t.d, some (.tup [.str pre, .int i1, .int i2, .int i3, .str s5, optD o5]), x9, x10] [PX.con (D.int 0), PX.con (D.int 99)] DI 43 2 rfl (ea_cons (ep_con ⟨_, rfl⟩) (ea_cons (ep_con ⟨_, rfl⟩) ea_nil)) rfl (by decide) (by decide)
    exact ⟨_, ⟨i, j, rfl⟩, cat3 (xs := [.str pre, .int i1, .int i2, .int i3, .str s5, optD o5]) rfl (tup2 e1 e2) (by simp)⟩
  rintro _ ⟨i6, i7, rfl⟩
  simp only [List.set_cons_succ, List.set_cons_zero]
  refine st_asg (Post := NextsH sc h) (P := fun d => ∃ r : Rl, d = r.d ∧ r.Ok) ?_ ?_
  · obtain ⟨_, ⟨i, rfl⟩, e1⟩ := pk [some (.lst (sc.map .int)), some (.int (k : Int)), some (.int m), some (.str pre), some (.int n), some (.tup (path.map .int)), some (.int wt), some t.d, some (.tup [.str pre, .int i1, .int i2, .int i3, .str s5, optD o5, .int i6, .int i7]), x9, x10] [PX.con (D.int 0), PX.con (D.int 3), PX.con (D.int 1)] DI 44 3 rfl (ea_cons (ep_con ⟨_, rfl⟩) (ea_cons (ep_con ⟨_, rfl⟩) (ea_cons (ep_con ⟨_, rfl⟩) ea_nil))) rfl (by decide) (by decide)
    exact ⟨_, ⟨⟨pre, i1, i2, i3, s5, o5, i6, i7, i⟩, rfl, opre, os5⟩, cat2 (xs := [.str pre, .int i1, .int i2, .int i3, .str s5, optD o5, .int i6, .int i7]) rfl (tup1 e1) (by simp)⟩
  rintro _ ⟨r, rfl, rok⟩
  simp only [List.set_cons_succ, List.set_cons_zero]
  have fin : ∀ (t : Rt) (r : Rl), t.Ok → r.Ok → NextsH sc h (exSs G [sDue, sApp, sTurns] [some (.lst (sc.map .int)), some (.int (k : Int)), some (.int m), some (.str pre), some (.int n), some (.tup (path.map .int)), some (.int wt), some t.d, some r.d, x9, x10] h) := fun t r ht hr => by
    obtain ⟨y9, y10, u, e⟩ := rest_ok K ht hr (some (.lst (sc.map .int))) (some (.int (k : Int))) (some (.int m)) (some (.str pre)) (some (.int n)) (some (.tup (path.map .int))) (some (.int wt)) x9 x10 h
    exact ⟨_, u, ⟨_, _, _, _, _, _, _, _, _, _, rfl⟩, e⟩
  refine st_if (Post := NextsH sc h) (P := fun _ => True) (et_cmpI (P := fun _ => True) (Q := fun _ => True) (ei_modC (P := fun _ => True) (ei_fdivP (P := fun _ => True) (ei_var (i := m) (by simp) trivial) fun _ _ => trivial) fun x _ => trivial) (ei_con trivial) fun x y _ _ => ⟨_, trivial, rfl⟩) (fun _ => ?_) fun _ => fin t r tin.ok rok
  refine st_asg (Post := NextsH sc h) (P := fun d => ∃ t : Rt, d = t.d ∧ t.Ok) (ep_call (PL := fun ds => ∃ c : Int, ds = [.int c, t.d]) gS (el_two (P1 := DI) (P2 := fun d => d = t.d) (EvI.p (P := fun _ => True) (ei_fdivP (P := fun _ => True) (ei_var (i := m) (by simp) trivial) fun _ _ => trivial) fun i _ => ⟨i, rfl⟩) (ep_var (by simp) rfl) fun d d2 ⟨c, e⟩ e2 => ⟨c, by rw [e, e2]⟩) ?_) ?_
  · rintro _ ⟨c, rfl⟩
    obtain ⟨t', ok, e⟩ := pS c t h tin
    exact ⟨_, ⟨t', rfl, ok⟩, e⟩
  rintro _ ⟨t', rfl, tok'⟩
  simp only [List.set_cons_succ, List.set_cons_zero]
  refine st_asg (Post := NextsH sc h) (P := fun d => ∃ r : Rl, d = r.d ∧ r.Ok) (ep_call (PL := fun ds => ∃ c : Int, ds = [.int c, r.d]) gU (el_two (P1 := DI) (P2 := fun d => d = r.d) (EvI.p (P := fun _ => True) (ei_fdivC (P := fun _ => True) (ei_fdivP (P := fun _ => True) (ei_var (i := m) (by simp) trivial) fun _ _ => trivial) fun _ _ => trivial) fun i _ => ⟨i, rfl⟩) (ep_var (by simp) rfl) fun d d2 ⟨c, e⟩ e2 => ⟨c, by rw [e, e2]⟩) ?_) ?_
  · rintro _ ⟨c, rfl⟩
    obtain ⟨r', ok, e⟩ := pU c r h rok
    exact ⟨_, ⟨r', rfl, ok⟩, e⟩
  rintro _ ⟨r', rfl, rok'⟩
  simp only [List.set_cons_succ, List.set_cons_zero]
  exact fin t' r' tok' rok'
theorem loopLaw {G : List Den} (K : GOk G) (sc : List Int) (hsc : sc.length ≤ 63) : ∀ (ds : List Nat) (ρ : Ev) (h : AH), EnvL sc ρ → (∀ k ∈ ds, k < 6) → NextsH sc h (forL (forB G (.nm 1) bodyLaw) (ds.map fun i : Nat => D.int (i : Int)) ρ h)
  | [], ρ, h, hρ, _ => ⟨ρ, [], hρ, by simp [forL]⟩
  | k :: ds, ρ, h, hρ, hk => by
    obtain ⟨x1, x2, x3, x4, x5, x6, x7, x8, x9, x10, rfl⟩ := hρ
    rw [List.map_cons, forL, forB_nm]
    simp only [List.set_cons_succ, List.set_cons_zero]
    obtain ⟨ρ', u, hρ', e⟩ := turnLaw K h sc hsc k (hk k List.mem_cons_self) x2 x3 x4 x5 x6 x7 x8 x9 x10
    rw [e]
    obtain ⟨ρ2, u2, h2, e2⟩ := loopLaw K sc hsc ds ρ' (h ++ u) hρ' fun j hj => hk j (List.mem_cons_of_mem _ hj)
    exact ⟨ρ2, u ++ u2, h2, by rw [← List.append_assoc]; exact e2⟩
def PLaw (f : Den) : Prop := ∀ (sc : List Int) (h : AH), sc.length ≤ 63 → f [.lst (sc.map .int)] h = .ok (.bl true) h
theorem law_ok {G : List Den} (K : GOk G) : PLaw (cutDen (runF G 1 11 p_law)) := by
  intro sc h hsc
  have e0 : startE 11 [.lst (sc.map .int)] = [some (.lst (sc.map .int)), none, none, none, none, none, none, none, none, none, none] := rfl
  have hn : EvI G (PX.blt (Bl.max2) [PX.con (D.int 1), PX.blt (Bl.min2) [PX.con (D.int 6), PX.blt (Bl.len) [PX.var 0]]]) [some (.lst (sc.map .int)), none, none, none, none, none, none, none, none, none, none] h fun n => 0 ≤ n ∧ n ≤ 6 := by
    refine ei_max2 (P := fun x => x = 1) (Q := fun x => x ≤ 6) (ei_con rfl) (ei_min2 (P := fun x => x = 6) (Q := fun _ => True) (ei_con rfl) (ei_lenL (PL := fun _ => True) (ep_var (d := .lst (sc.map .int)) (by simp) ⟨_, rfl, trivial⟩) fun _ _ => trivial) fun x y e _ => ?_) fun x y e q => ?_
    · subst e; split <;> omega
    · subst e; split <;> omega
  obtain ⟨n, ⟨n0, n6⟩, en⟩ := hn
  obtain ⟨ρ', u, _, e⟩ := loopLaw K sc hsc (List.range n.toNat) [some (.lst (sc.map .int)), none, none, none, none, none, none, none, none, none, none] h ⟨_, _, _, _, _, _, _, _, _, _, rfl⟩ (by intro k hk; have := List.mem_range.mp hk; omega)
  refine run_rtN (h' := h ++ u) rfl ?_ rfl (by simp)
  rw [law_eq, e0, exSs_nx ((exS_for (evI_rng en ⟨by omega, by omega⟩)).trans e)]
  simp [exSs, exS, evR]
end K10
set_option maxHeartbeats 0
namespace K10
open PySem PySem.Spec PyProof.Rows MP L2
noncomputable def top (i : Nat) : Stmt := PySem.Challenge.pw_plainpath_k10_routes_and_rules_refused.main.body.getD i (.Pass ⟨0, 0, 0, 0⟩)
noncomputable def cts : List (Str × D) := [("MOST_SIGNS", .int 16), ("MOST_STEPS", .int 12), ("MOST_TAGS", .int 4), ("GREATEST_NUMBER", .int 999), ("GREATEST_WEIGHT", .int 1000), ("GREATEST_TAG", .int 99), ("GREATEST_PREFERENCE", .int 1000),
  ("DEEDS", .tup [.str [110, 111], .str [121, 101, 115], .str [111, 110]]),
  ("RULE_NUMBERS", .tup [.tup [.int 1, .str [108, 111, 110, 103, 101, 115, 116], .int 16], .tup [.int 2, .str [110, 117, 109, 98, 101, 114], .int 999], .tup [.int 3, .str [116, 97, 103], .int 99], .tup [.int 6, .str [97, 100, 100], .int 99], .tup [.int 7, .str [116, 97, 107, 101], .int 99], .tup [.int 8, .str [97, 104, 101, 97, 100], .int 3]])]
noncomputable def fns : List Str := ["is_prefix", "is_path", "are_tags", "need_prefix", "need_route", "need_rule", "_law_cell", "_law_drawn", "_law_numbers", "_law_bits", "_law_tags", "_law_spoilt_route", "_law_spoilt_rule", "_law_good_route", "_law_good_rule", "_law_told"]
noncomputable def blt : List Str := ["len", "sorted", "set", "tuple", "range", "min", "max", "list", "int", "all"]
noncomputable def ws : List (Nat × D) := [(0, .str [66, 97, 100, 82, 111, 117, 116, 101]), (1, .str [66, 97, 100, 82, 117, 108, 101])]
noncomputable def cc (i : Nat) (N : List Str) : CC := ⟨N, (defScope (top i)).names, cts, fns, blt, [149], [0, 1], some ("PathError", "_law_word", ws)⟩
theorem dv :
  (∀ X EX G k, CtxS X (cc 16 ["text"]) G k EX → TwOk X (cc 16 ["text"]) k → PSs X (defBody (top 16)) (rdSs X.K G EX p_is_prefix)) ∧
  (∀ X EX G k, CtxS X (cc 17 ["path"]) G k EX → TwOk X (cc 17 ["path"]) k → PSs X (defBody (top 17)) (rdSs X.K G EX p_is_path)) ∧
  (∀ X EX G k, CtxS X (cc 18 ["tags", "last", "tag"]) G k EX → TwOk X (cc 18 ["tags", "last", "tag"]) k → PSs X (defBody (top 18)) (rdSs X.K G EX p_are_tags)) ∧
  (∀ X EX G k, CtxS X (cc 19 ["prefix"]) G k EX → TwOk X (cc 19 ["prefix"]) k → PSs X (defBody (top 19)) (rdSs X.K G EX p_need_prefix)) ∧
  (∀ X EX G k, CtxS X (cc 20 ["route"]) G k EX → TwOk X (cc 20 ["route"]) k → PSs X (defBody (top 20)) (rdSs X.K G EX p_need_route)) ∧
  (∀ X EX G k, CtxS X (cc 21 ["rule", "place", "name", "greatest"]) G k EX → TwOk X (cc 21 ["rule", "place", "name", "greatest"]) k → PSs X (defBody (top 21)) (rdSs X.K G EX p_need_rule)) ∧
  (∀ X EX G k, CtxS X (cc 23 ["_law_script", "_law_k"]) G k EX → TwOk X (cc 23 ["_law_script", "_law_k"]) k → PSs X (defBody (top 23)) (rdSs X.K G EX p_cell)) ∧
  (∀ X EX G k, CtxS X (cc 24 ["_law_cell_here", "_law_k", "_law_more"]) G k EX → TwOk X (cc 24 ["_law_cell_here", "_law_k", "_law_more"]) k → PSs X (defBody (top 24)) (rdSs X.K G EX p_drawn)) ∧
  (∀ X EX G k, CtxS X (cc 25 ["_law_more", "_law_many", "_law_step"]) G k EX → TwOk X (cc 25 ["_law_more", "_law_many", "_law_step"]) k → PSs X (defBody (top 25)) (rdSs X.K G EX p_numbers)) ∧
  (∀ X EX G k, CtxS X (cc 26 ["_law_more", "_law_many"]) G k EX → TwOk X (cc 26 ["_law_more", "_law_many"]) k → PSs X (defBody (top 26)) (rdSs X.K G EX p_bits)) ∧
  (∀ X EX G k, CtxS X (cc 28 ["_law_more", "_law_some"]) G k EX → TwOk X (cc 28 ["_law_more", "_law_some"]) k → PSs X (defBody (top 28)) (rdSs X.K G EX p_tags)) ∧
  (∀ X EX G k, CtxS X (cc 30 ["_law_more", "_law_route", "_law_prefix", "_law_path", "_law_weight", "_law_tags_here", "_law_way", "_law_at"]) G k EX → TwOk X (cc 30 ["_law_more", "_law_route", "_law_prefix", "_law_path", "_law_weight", "_law_tags_here", "_law_way", "_law_at"]) k → PSs X (defBody (top 30)) (rdSs X.K G EX p_spoilt_route)) ∧
  (∀ X EX G k, CtxS X (cc 31 ["_law_more", "_law_rule", "_law_at", "_law_some"]) G k EX → TwOk X (cc 31 ["_law_more", "_law_rule", "_law_at", "_law_some"]) k → PSs X (defBody (top 31)) (rdSs X.K G EX p_spoilt_rule)) ∧
  (∀ X EX G k, CtxS X (cc 32 ["_law_route", "_law_prefix", "_law_path", "_law_weight", "_law_tags_here"]) G k EX → TwOk X (cc 32 ["_law_route", "_law_prefix", "_law_path", "_law_weight", "_law_tags_here"]) k → PSs X (defBody (top 32)) (rdSs X.K G EX p_good_route)) ∧
  (∀ X EX G k, CtxS X (cc 33 ["_law_rule", "_law_most", "_law_k"]) G k EX → TwOk X (cc 33 ["_law_rule", "_law_most", "_law_k"]) k → PSs X (defBody (top 33)) (rdSs X.K G EX p_good_rule)) ∧
  (∀ X EX G k, CtxS X (cc 34 ["_law_rule", "_law_thing", "_law_e"]) G k EX → TwOk X (cc 34 ["_law_rule", "_law_thing", "_law_e"]) k → PSs X (defBody (top 34)) (rdSs X.K G EX p_told)) ∧
  (∀ X EX G k, CtxS X (cc 35 ["_law_script", "_law_k", "_law_more", "_law_prefix", "_law_many", "_law_path", "_law_weight", "_law_route", "_law_rule", "_law_due", "_law_turn"]) G k EX → TwOk X (cc 35 ["_law_script", "_law_k", "_law_more", "_law_prefix", "_law_many", "_law_path", "_law_weight", "_law_route", "_law_rule", "_law_due", "_law_turn"]) k → PSs X (defBody (top 35)) (rdSs X.K G EX p_law)) := by
  refine ⟨fun X EX G k S T => ?_, fun X EX G k S T => ?_, fun X EX G k S T => ?_, fun X EX G k S T => ?_, fun X EX G k S T => ?_, fun X EX G k S T => ?_, fun X EX G k S T => ?_, fun X EX G k S T => ?_, fun X EX G k S T => ?_, fun X EX G k S T => ?_, fun X EX G k S T => ?_, fun X EX G k S T => ?_, fun X EX G k S T => ?_, fun X EX G k S T => ?_, fun X EX G k S T => ?_, fun X EX G k S T => ?_, fun X EX G k S T => ?_⟩ <;>
    (have O := S.ok; have xc := S.xc; refine ss_cons ?_ ?_ <;> repeat' (first
      | with_reducible refine ss_nil
      | with_reducible refine ss_cons ?_ ?_
      | with_reducible refine x_con ?_
      | with_reducible refine x_name O ?_
      | with_reducible refine x_name O' ?_
      | with_reducible refine e_bin ?_ ?_
      | with_reducible refine a_nil
      | with_reducible refine a_cons ?_ ?_ ?_
      | with_reducible refine e_idx ?_ ?_ ?_
      | with_reducible refine e_sl ?_ ?_ ?_
      | with_reducible refine o_none
      | with_reducible refine o_some ?_
      | with_reducible refine e_tup ?_
      | with_reducible refine e_lst ?_
      | with_reducible refine e_new ?_
      | with_reducible refine e_neg ?_
      | with_reducible refine e_not ?_
      | with_reducible refine e_and ?_ ?_
      | with_reducible refine e_or ?_ ?_
      | with_reducible refine pe_one ?_
      | with_reducible refine m_join ?_ ?_ ?_ ?_ ?_
      | with_reducible refine m_append ?_ ?_ ?_ ?_ ?_
      | with_reducible refine e_fst ?_
      | with_reducible refine F2'.nil
      | with_reducible refine f_con ?_ ?_
      | with_reducible refine f_val ?_ ?_ ?_
      | with_reducible refine t_not ?_
      | with_reducible refine t_and ?_ ?_
      | with_reducible refine t_or ?_ ?_
      | with_reducible refine w_and ?_ ?_
      | with_reducible refine w_or ?_ ?_
      | with_reducible refine pw_and1 ?_
      | with_reducible refine pw_or1 ?_
      | with_reducible refine i_seq ?_
      | with_reducible refine s_ret ?_
      | with_reducible refine s_if ?_ ?_ ?_
      | with_reducible refine s_ex ?_ ?_
      | with_reducible refine e_cmp O ?_ ?_ ?_
      | with_reducible refine e_cmp2 O ?_ ?_ ?_ ?_
      | with_reducible refine d_sset O ?_ ?_ ?_ ?_
      | with_reducible refine e_call O ?_ ?_ ?_ ?_ ?_
      | with_reducible refine d_blt O ?_ ?_ ?_ ?_ ?_ ?_
      | with_reducible refine d_comp0 O ?_ ?_ ?_ ?_ ?_
      | with_reducible refine d_comp1 O ?_ ?_ ?_ ?_ ?_ ?_
      | with_reducible refine t_cmp O ?_ ?_ ?_
      | with_reducible refine t_cmp2 O ?_ ?_ ?_ ?_
      | with_reducible refine d_rng O ?_ ?_ ?_ ?_
      | with_reducible refine r_call O xc ?_ ?_ ?_ ?_ ?_
      | with_reducible refine d_callV O xc ?_ ?_ ?_ ?_ ?_
      | with_reducible refine g_name S ?_ ?_
      | with_reducible refine g_tup S ?_
      | with_reducible refine d_asgC S ?_ ?_ ?_ ?_ ?_ ?_ ?_
      | with_reducible refine d_for S ?_ ?_ ?_ ?_
      | with_reducible refine d_rai S ?_ ?_ ?_ ?_ ?_ ?_ ?_
      | with_reducible refine e_cmp O' ?_ ?_ ?_
      | with_reducible refine e_cmp2 O' ?_ ?_ ?_ ?_
      | with_reducible refine d_sset O' ?_ ?_ ?_ ?_
      | with_reducible refine e_call O' ?_ ?_ ?_ ?_ ?_
      | with_reducible refine d_blt O' ?_ ?_ ?_ ?_ ?_ ?_
      | with_reducible refine d_comp0 O' ?_ ?_ ?_ ?_ ?_
      | with_reducible refine d_comp1 O' ?_ ?_ ?_ ?_ ?_ ?_
      | with_reducible refine t_cmp O' ?_ ?_ ?_
      | with_reducible refine t_cmp2 O' ?_ ?_ ?_ ?_
      | with_reducible refine d_rng O' ?_ ?_ ?_ ?_
      | with_reducible refine r_call O' xc' ?_ ?_ ?_ ?_ ?_
      | with_reducible refine d_callV O' xc' ?_ ?_ ?_ ?_ ?_
      | with_reducible refine g_name S' ?_ ?_
      | with_reducible refine g_tup S' ?_
      | with_reducible refine d_asgC S' ?_ ?_ ?_ ?_ ?_ ?_ ?_
      | with_reducible refine d_for S' ?_ ?_ ?_ ?_
      | with_reducible refine d_rai S' ?_ ?_ ?_ ?_ ?_ ?_ ?_
      | with_reducible refine d_try S T ?_ ?_ ?_ ?_ ?_ ?_
      | with_reducible refine uc_mk fun X' O' => ?_
      | with_reducible refine ut_mk fun X' EX' S' O' xc' => ?_
      | with_reducible refine t_val ?_ ?_
      | with_reducible refine s_asg ?_ ?_ ?_ ?_ ?_
      | with_reducible refine d_r ?_ ?_
      | exact rfl
      | exact fun _ => rfl
      | exact fun _ _ => rfl))
theorem sc_is_prefix : FnScope ["text"] ["text"] (defScope (top 16)) := ⟨rfl, rfl, rfl, by decide +kernel, rfl, by decide +kernel, by decide +kernel⟩
theorem sc_is_path : FnScope ["path"] ["path"] (defScope (top 17)) := ⟨rfl, rfl, rfl, by decide +kernel, rfl, by decide +kernel, by decide +kernel⟩
theorem sc_are_tags : FnScope ["tags", "last", "tag"] ["tags"] (defScope (top 18)) := ⟨rfl, rfl, rfl, by decide +kernel, rfl, by decide +kernel, by decide +kernel⟩
theorem sc_need_prefix : FnScope ["prefix"] ["prefix"] (defScope (top 19)) := ⟨rfl, rfl, rfl, by decide +kernel, rfl, by decide +kernel, by decide +kernel⟩
theorem sc_need_route : FnScope ["route"] ["route"] (defScope (top 20)) := ⟨rfl, rfl, rfl, by decide +kernel, rfl, by decide +kernel, by decide +kernel⟩
theorem sc_need_rule : FnScope ["rule", "place", "name", "greatest"] ["rule"] (defScope (top 21)) := ⟨rfl, rfl, rfl, by decide +kernel, rfl, by decide +kernel, by decide +kernel⟩
theorem sc_cell : FnScope ["_law_script", "_law_k"] ["_law_script", "_law_k"] (defScope (top 23)) := ⟨rfl, rfl, rfl, by decide +kernel, rfl, by decide +kernel, by decide +kernel⟩
theorem sc_drawn : FnScope ["_law_cell_here", "_law_k", "_law_more"] ["_law_cell_here", "_law_k"] (defScope (top 24)) := ⟨rfl, rfl, rfl, by decide +kernel, rfl, by decide +kernel, by decide +kernel⟩
theorem sc_numbers : FnScope ["_law_more", "_law_many", "_law_step"] ["_law_more", "_law_many"] (defScope (top 25)) := ⟨rfl, rfl, rfl, by decide +kernel, rfl, by decide +kernel, by decide +kernel⟩
theorem sc_bits : FnScope ["_law_more", "_law_many"] ["_law_more", "_law_many"] (defScope (top 26)) := ⟨rfl, rfl, rfl, by decide +kernel, rfl, by decide +kernel, by decide +kernel⟩
theorem sc_tags : FnScope ["_law_more", "_law_some"] ["_law_more"] (defScope (top 28)) := ⟨rfl, rfl, rfl, by decide +kernel, rfl, by decide +kernel, by decide +kernel⟩
theorem sc_spoilt_route : FnScope ["_law_more", "_law_route", "_law_prefix", "_law_path", "_law_weight", "_law_tags_here", "_law_way", "_law_at"] ["_law_more", "_law_route"] (defScope (top 30)) := ⟨rfl, rfl, rfl, by decide +kernel, rfl, by decide +kernel, by decide +kernel⟩
theorem sc_spoilt_rule : FnScope ["_law_more", "_law_rule", "_law_at", "_law_some"] ["_law_more", "_law_rule"] (defScope (top 31)) := ⟨rfl, rfl, rfl, by decide +kernel, rfl, by decide +kernel, by decide +kernel⟩
theorem sc_good_route : FnScope ["_law_route", "_law_prefix", "_law_path", "_law_weight", "_law_tags_here"] ["_law_route"] (defScope (top 32)) := ⟨rfl, rfl, rfl, by decide +kernel, rfl, by decide +kernel, by decide +kernel⟩
theorem sc_good_rule : FnScope ["_law_rule", "_law_most", "_law_k"] ["_law_rule"] (defScope (top 33)) := ⟨rfl, rfl, rfl, by decide +kernel, rfl, by decide +kernel, by decide +kernel⟩
theorem sc_told : FnScope ["_law_rule", "_law_thing", "_law_e"] ["_law_rule", "_law_thing"] (defScope (top 34)) := ⟨rfl, rfl, rfl, by decide +kernel, rfl, by decide +kernel, by decide +kernel⟩
theorem sc_law : FnScope ["_law_script", "_law_k", "_law_more", "_law_prefix", "_law_many", "_law_path", "_law_weight", "_law_route", "_law_rule", "_law_due", "_law_turn"] ["_law_script"] (defScope (top 35)) := ⟨rfl, rfl, rfl, by decide +kernel, rfl, by decide +kernel, by decide +kernel⟩
noncomputable def d_is_prefix : Den := cutDen (runF [] 1 1 p_is_prefix)
noncomputable def d_is_path : Den := cutDen (runF [d_is_prefix] 1 1 p_is_path)
noncomputable def d_are_tags : Den := cutDen (runF [d_is_prefix, d_is_path] 1 3 p_are_tags)
noncomputable def d_need_prefix : Den := cutDen (runF [d_is_prefix, d_is_path, d_are_tags] 1 1 p_need_prefix)
noncomputable def d_need_route : Den := cutDen (runF [d_is_prefix, d_is_path, d_are_tags, d_need_prefix] 1 1 p_need_route)
noncomputable def d_need_rule : Den := cutDen (runF [d_is_prefix, d_is_path, d_are_tags, d_need_prefix, d_need_route] 1 4 p_need_rule)
noncomputable def d_cell : Den := cutDen (runF [d_is_prefix, d_is_path, d_are_tags, d_need_prefix, d_need_route, d_need_rule] 2 2 p_cell)
noncomputable def d_drawn : Den := cutDen (runF [d_is_prefix, d_is_path, d_are_tags, d_need_prefix, d_need_route, d_need_rule, d_cell] 2 3 p_drawn)
noncomputable def d_numbers : Den := cutDen (runF [d_is_prefix, d_is_path, d_are_tags, d_need_prefix, d_need_route, d_need_rule, d_cell, d_drawn] 2 3 p_numbers)
noncomputable def d_bits : Den := cutDen (runF [d_is_prefix, d_is_path, d_are_tags, d_need_prefix, d_need_route, d_need_rule, d_cell, d_drawn, d_numbers] 2 2 p_bits)
noncomputable def d_tags : Den := cutDen (runF [d_is_prefix, d_is_path, d_are_tags, d_need_prefix, d_need_route, d_need_rule, d_cell, d_drawn, d_numbers, d_bits] 1 2 p_tags)
noncomputable def d_spoilt_route : Den := cutDen (runF [d_is_prefix, d_is_path, d_are_tags, d_need_prefix, d_need_route, d_need_rule, d_cell, d_drawn, d_numbers, d_bits, d_tags] 2 8 p_spoilt_route)
noncomputable def d_spoilt_rule : Den := cutDen (runF [d_is_prefix, d_is_path, d_are_tags, d_need_prefix, d_need_route, d_need_rule, d_cell, d_drawn, d_numbers, d_bits, d_tags, d_spoilt_route] 2 4 p_spoilt_rule)
noncomputable def d_good_route : Den := cutDen (runF [d_is_prefix, d_is_path, d_are_tags, d_need_prefix, d_need_route, d_need_rule, d_cell, d_drawn, d_numbers, d_bits, d_tags, d_spoilt_route, d_spoilt_rule] 1 5 p_good_route)
noncomputable def d_good_rule : Den := cutDen (runF [d_is_prefix, d_is_path, d_are_tags, d_need_prefix, d_need_route, d_need_rule, d_cell, d_drawn, d_numbers, d_bits, d_tags, d_spoilt_route, d_spoilt_rule, d_good_route] 1 3 p_good_rule)
noncomputable def d_told : Den := cutDen (runF [d_is_prefix, d_is_path, d_are_tags, d_need_prefix, d_need_route, d_need_rule, d_cell, d_drawn, d_numbers, d_bits, d_tags, d_spoilt_route, d_spoilt_rule, d_good_route, d_good_rule] 2 3 p_told)
noncomputable def d_law : Den := cutDen (runF [d_is_prefix, d_is_path, d_are_tags, d_need_prefix, d_need_route, d_need_rule, d_cell, d_drawn, d_numbers, d_bits, d_tags, d_spoilt_route, d_spoilt_rule, d_good_route, d_good_rule, d_told] 1 11 p_law)
theorem x_is_prefix : PIsPrefix d_is_prefix := isPrefix_ok
theorem x_is_path : PIsPath d_is_path := isPath_ok
theorem x_are_tags : PAreTags d_are_tags := areTags_ok
theorem x_need_prefix : PNeedPrefix d_need_prefix := needPrefix_ok rfl x_is_prefix
theorem x_need_route : PNeedRoute d_need_route := needRoute_ok rfl x_is_path rfl x_are_tags rfl x_need_prefix
theorem x_need_rule : PNeedRule d_need_rule := needRule_ok rfl x_is_prefix
theorem x_cell : PCell d_cell := cell_ok
theorem x_drawn : PDrawn d_drawn := drawn_ok
theorem x_numbers : PNumbers d_numbers := numbers_ok
theorem x_bits : PBits d_bits := bits_ok
theorem x_tags : PTags d_tags := tags_ok
theorem x_spoilt_route : PSpoiltRoute d_spoilt_route := spoiltRoute_ok
theorem x_spoilt_rule : PSpoiltRule d_spoilt_rule := spoiltRule_ok
theorem x_good_route : PGoodRoute d_good_route := goodRoute_ok
theorem x_good_rule : PGoodRule d_good_rule := goodRule_ok
theorem x_told : PTold d_told := told_ok rfl x_need_route rfl x_need_rule
theorem x_law : PLaw d_law := law_ok ⟨⟨_, rfl, x_cell⟩, ⟨_, rfl, x_drawn⟩, ⟨_, rfl, x_numbers⟩, ⟨_, rfl, x_bits⟩, ⟨_, rfl, x_tags⟩, ⟨_, rfl, x_spoilt_route⟩, ⟨_, rfl, x_spoilt_rule⟩, ⟨_, rfl, x_good_route⟩, ⟨_, rfl, x_good_rule⟩, ⟨_, rfl, x_told⟩⟩
end K10
set_option maxHeartbeats 4000000
namespace K10
open PySem PySem.Spec PyProof.Rows MP L2
noncomputable def bZ (b : Bool) : Int := if b then 1 else 0
theorem sc_word : FnScope ["_law_e", "_law_flags", "_law_words"] ["_law_e"] (defScope (top 29)) := ⟨rfl, rfl, rfl, by decide +kernel, rfl, by decide +kernel, by decide +kernel⟩
noncomputable def scF : Scope := { kind := .function, names := [(Str.ofString ".0", .local), (Str.ofString "_law_flag", .local), (Str.ofString "int", .globalImplicit)], isGenerator := false, isCoroutine := false, more := [] }
noncomputable def cW : CC := ⟨["_law_e", "_law_flags", "_law_words"], (defScope (top 29)).names, [], [], [], [], [], none⟩
noncomputable def wds : List V := [.str "BadRoute", .str "BadRule", .str "NoNeighbour", .str "NoLine"]
theorem lk4 {x : Str} {v : NameKind} {l : List (Str × NameKind)} (h : (l.lookup x == some v) = true) : l.lookup x = some v := by simpa using h
theorem word_body {P : Program} {w : World} {K : PySem.W.Frag} {mg : Str → Option Value} {base : Heap} {f : Addr} {cdv : Value} {A : Around} {outer : List Env} {s : Shared} {H : Hp} {x : Addr} {ob : Obj} {vs : Array Value} {Ca c0 c1 c2 c3 : Addr} {b0 b1 b2 b3 : Bool} {j : Nat} {t : List Nat}
    (hh : A.handled = some (.ref x)) (hr : RoomH 1 A) (e0 : Env0 P w K mg base A outer s H) (hx : s.heap.get? x = some ob) (hc : ob.cls = .ref Ca) (hd : ob.data = .fields vs) (h2 : vs[2]? = some .none) (hH : H x = none) (hf : x ∉ frs outer)
    (Z : IsC K Ca) (gl : ∀ x a, PySem.W.nsIn K mainGlobals x = some (some (.ref a)) → mg x = some (.ref a))
    (m0 : mg "BadRoute" = some (.ref c0)) (m1 : mg "BadRule" = some (.ref c1)) (m2 : mg "NoNeighbour" = some (.ref c2)) (m3 : mg "NoLine" = some (.ref c3))
    (n0 : mg "isinstance" = none) (n1 : mg "sum" = none) (n2 : mg "int" = none) (n3 : mg "ValueError" = none)
    (k0 : PySem.W.kitOne K (.ref Ca) (.ref c0) = some b0) (k1 : PySem.W.kitOne K (.ref Ca) (.ref c1) = some b1) (k2 : PySem.W.kitOne K (.ref Ca) (.ref c2) = some b2) (k3 : PySem.W.kitOne K (.ref Ca) (.ref c3) = some b3) (kv : PySem.W.kitOne K (.ref Ca) (.type "ValueError") = some true)
    (hs : ([b0, b1, b2, b3].map bZ).sum = 1) (hj : [b0, b1, b2, b3][j]? = some true) (hm : ∀ m, m < j → [b0, b1, b2, b3][m]? = some false) (hat : L2.atI wds (j : Int) = some (V.str (SS t))) :
    ∃ T, PSs (wCx P w K mg base ["_law_e", "_law_flags", "_law_words"] "_law_word" (defScope (top 29)) f cdv A outer s H) (defBody (top 29)) T ∧
      T { nx := fun _ _ => False, rt := fun v H' => v = .str (SS t) ∧ ∀ b o, H b = some o → H' b = some o } (start ["_law_e", "_law_flags", "_law_words"] [.ref x]) H := by
  generalize hX : wCx P w K mg base ["_law_e", "_law_flags", "_law_words"] "_law_word" (defScope (top 29)) f cdv A outer s H = X
  have eN : X.N = (["_law_e", "_law_flags", "_law_words"] : List Str) := by rw [← hX]; rfl
  have eS : X.env.scope = defScope (top 29) := by rw [← hX]; rfl
  have eK : X.K = K := by rw [← hX]; rfl
  have em : X.mg = mg := by rw [← hX]; rfl
  have ec : X.calm = false := by rw [← hX]; rfl
  have hand : HandX X x ob := by
    rw [← hX]
    exact ⟨hh, hx, ⟨vs, hd, h2⟩, hH, hf, fun z => by cases z⟩
  have ctx : CtxOk (x0 X) cW [] 0 := by
    rw [← hX]
    refine ⟨rfl, rfl, sc_word.nd, rfl, ⟨rfl, ?_, ?_⟩, fun y d h => (by cases h), fun i y g h1 h2 => (by simp [cW] at h1), fun y h => (by cases h), gl, fun y h => (by cases h)⟩
    · have := hr.dp
      show A.depth + 1 + 3 * 0 + 5 < _
      omega
    · have := hr.un
      show A.units + 3 + 16 * 0 + 200 < _
      omega
  have Gx : ∀ y : Str, ((defScope (top 29)).names.lookup y == some .globalImplicit) = true → Gl X y := fun y h => by
    show X.env.scope.names.lookup y = _
    rw [eS]
    exact lk4 h
  have V0 : Vis X.env.scope "_law_e" := .inl (by rw [eS]; rfl)
  have V1 : Vis X.env.scope "_law_flags" := .inl (by rw [eS]; rfl)
  have V2 : Vis X.env.scope "_law_words" := .inl (by rw [eS]; rfl)
  have vE : ∀ p, PE X (.Name "_law_e" p) (tVar 0) := fun p => pe_var (by rw [eN]; rfl) V0
  have vF : ∀ p, PE X (.Name "_law_flags" p) (tVar 1) := fun p => pe_var (by rw [eN]; rfl) V1
  have vW : ∀ p, PE X (.Name "_law_words" p) (tVar 2) := fun p => pe_var (by rw [eN]; rfl) V2
  have isi : ∀ (c : Addr) (b : Bool) (y : Str) (q1 q2 q3 q4 : Pos), mg y = some (.ref c) → PySem.W.kitOne K (.ref Ca) (.ref c) = some b → ((defScope (top 29)).names.lookup y == some .globalImplicit) = true → (y == ("__debug__" : Str)) = false →
      PE X (.Call (.Name "isinstance" q1) [.Name "_law_e" q2, .Name y q3] [] q4) (tCB (fun xs H Q => xs = [.ref x, .ref c] ∧ Q (.bl b) H) (tCons (tVar 0) (tCons (tC (.ref c)) tNil))) := fun c b y q1 q2 q3 q4 hy hk hg hdb =>
    pe_callB (call_isiH hand (by rw [eK]; exact Z) hc (fun u r => r) (by rw [eK]; exact hk)) (Gx _ rfl) (by rw [em]; exact n0) boot_isinstance (pa_cons (vE q2) (pa_cons (pe_glob (Gx y hg) (by rw [em]; exact hy) rfl hdb) pa_nil rfl) rfl)
  have isv : ∀ (q1 q2 q3 q4 : Pos), PE X (.Call (.Name "isinstance" q1) [.Name "_law_e" q2, .Name "ValueError" q3] [] q4) (tCB (fun xs H Q => xs = [.ref x, .ty "ValueError"] ∧ Q (.bl true) H) (tCons (tVar 0) (tCons (tC (.ty "ValueError")) tNil))) := fun q1 q2 q3 q4 =>
    pe_callB (call_isiH hand (by rw [eK]; exact Z) hc (fun u r => r) (by rw [eK]; exact kv)) (Gx _ rfl) (by rw [em]; exact n0) boot_isinstance (pa_cons (vE q2) (pa_cons (pe_bltn (Gx _ rfl) (by rw [em]; exact n3) (by decide +kernel) rfl) pa_nil rfl) rfl)
  have cmp : ∀ (q1 q2 q3 q4 q5 q6 : Pos), PE X (.ListComp (.Call (.Name "int" q1) [.Name "_law_flag" q2] [] q3) [⟨.Name "_law_flag" q4, .Name "_law_flags" q5, [], 0⟩] scF q6) (tFlags X.K 1) := fun q1 q2 q3 q4 q5 q6 =>
    pe_flags hand ec ctx (compOk_of rfl) rfl rfl (by rw [em]; exact n2) ⟨by decide, by decide⟩ (by rw [eN]; rfl) V1 ⟨by decide, by decide⟩
  have sm : ∀ (q1 q2 q3 q4 q5 q6 q7 q8 : Pos), PE X (.Call (.Name "sum" q7) [.ListComp (.Call (.Name "int" q1) [.Name "_law_flag" q2] [] q3) [⟨.Name "_law_flag" q4, .Name "_law_flags" q5, [], 0⟩] scF q6] [] q8)
      (tCB (fun xs H Q => ∃ (p : Addr) (l : List Int), xs = [.ref p] ∧ SqL X.K H p (l.map V.int) ∧ l.length ≤ 64 ∧ (∀ i ∈ l, 0 ≤ i ∧ i ≤ 1) ∧ Q (.int l.sum) H) (tCons (tFlags X.K 1) tNil)) := fun q1 q2 q3 q4 q5 q6 q7 q8 =>
    pe_callB (call_sumH hand) (Gx _ rfl) (by rw [em]; exact n1) (by decide +kernel) (pa_cons (cmp q1 q2 q3 q4 q5 q6) pa_nil rfl)
  have nd : X.N.Nodup := by rw [eN]; exact sc_word.nd
  have V1L : Loc X.env.scope "_law_flags" := .inl (by rw [eS]; rfl)
  have V2L : Loc X.env.scope "_law_words" := .inl (by rw [eS]; rfl)
  have hfn : ∀ y, X.fn y = true := fun y => by rw [← hX]; rfl
  refine ⟨_, pss_cons (ps_set (i := 1) nd (by rw [eN]; rfl) V1L (pe_lst (pa_cons (isi c0 b0 _ _ _ _ _ m0 k0 rfl rfl) (pa_cons (isi c1 b1 _ _ _ _ _ m1 k1 rfl rfl) (pa_cons (isi c2 b2 _ _ _ _ _ m2 k2 rfl rfl) (pa_cons (isi c3 b3 _ _ _ _ _ m3 k3 rfl rfl) pa_nil rfl) rfl) rfl) rfl)) rfl (.inl (hfn _)))
    (pss_cons (ps_set (i := 2) nd (by rw [eN]; rfl) V2L (pe_lst (pa_cons pe_str (pa_cons pe_str (pa_cons pe_str (pa_cons pe_str pa_nil rfl) rfl) rfl) rfl)) rfl (.inl (hfn _)))
      (pss_cons (ps_if (PW.pt (pw_or (pt_cmp (pc_neI (sm _ _ _ _ _ _ _ _) pe_int)) (pw_or1 (pt_not (pt_val (isv _ _ _ _)))))) (pss_one (ps_ret pe_str)) pss_nil)
        (pss_one (ps_ret (pe_ix ix_list (vW _) (pe_bm F.plainAttrs_list F.slot_list_index F.type_list_index mt_indexH (vF _) (pa_cons pe_bl pa_nil rfl)) (fun _ _ => rfl)))))), ?_⟩
  have len4 : 4 ≤ sizeLine := by decide
  refine ⟨.ref x, rfl, rfl, .ref x, rfl, rfl, .ref x, rfl, rfl, .ref x, rfl, rfl, len4, fun p hp => ?_⟩
  refine ⟨len4, fun q hq => ?_⟩
  have npq : p ≠ q := fun z => by rw [← z, upd_same] at hq; cases hq
  have hq0 : H q = none := by rw [upd_ne (Ne.symm npq)] at hq; exact hq
  have sp : SqL X.K (upd (upd H p (.lst [.bl b0, .bl b1, .bl b2, .bl b3])) q (.lst wds)) p ([b0, b1, b2, b3].map V.bl) := .of (by rw [upd_ne npq, upd_same]; rfl)
  refine ⟨p, [b0, b1, b2, b3], rfl, sp, by simp, fun r hr' => ?_⟩
  have nrq : q ≠ r := fun z => by rw [← z, upd_same] at hr'; cases hr'
  have hr1 := hr'
  rw [upd_ne (Ne.symm nrq)] at hr1
  have nrp : p ≠ r := fun z => by rw [← z, upd_same] at hr1; cases hr1
  have hr0 : H r = none := by rw [upd_ne (Ne.symm nrp)] at hr1; exact hr1
  refine ⟨r, [b0, b1, b2, b3].map bZ, rfl, .of (by rw [upd_same]; rfl), by simp, fun i hi => ?_, ?_⟩
  · obtain ⟨b, _, rfl⟩ := List.mem_map.mp hi
    cases b <;> decide
  rw [hs]
  refine ⟨1, 1, rfl, rfl, false, rfl, ?_⟩
  refine ⟨.ref x, rfl, rfl, true, rfl, ?_⟩
  have sp' : SqL X.K (upd (upd (upd H p (.lst [.bl b0, .bl b1, .bl b2, .bl b3])) q (.lst wds)) r (.lst ([b0, b1, b2, b3].map bI))) p ([b0, b1, b2, b3].map V.bl) := .of (by rw [upd_ne nrp, upd_ne npq, upd_same]; rfl)
  refine ⟨.ref q, rfl, .ref p, rfl, .inl ⟨rfl, _, sp'⟩, p, [b0, b1, b2, b3], j, rfl, rfl, sp', by simp, hj, hm, q, wds, j, .str (SS t), rfl, rfl, .of (by rw [upd_ne nrq, upd_same]; rfl), hat, rfl, fun b o e => ?_⟩
  rw [upd_ne (fun z => by rw [z, hr0] at e; cases e), upd_ne (fun z => by rw [z, hq0] at e; cases e), upd_ne (fun z => by rw [z, hp] at e; cases e)]
  exact e
theorem word_ok {P : Program} {w : World} {K : PySem.W.Frag} {mg : Str → Option Value} {base : Heap} {f : Addr} {fd : FuncData} {c0 c1 c2 c3 : Addr} (hf : mg "_law_word" = some (.ref f)) (F : Fun K "_law_word" "_law_word" (top 29) f fd) (hb : Binds K fd ["_law_e"] [])
    (gl : ∀ x a, PySem.W.nsIn K mainGlobals x = some (some (.ref a)) → mg x = some (.ref a))
    (m0 : mg "BadRoute" = some (.ref c0)) (m1 : mg "BadRule" = some (.ref c1)) (m2 : mg "NoNeighbour" = some (.ref c2)) (m3 : mg "NoLine" = some (.ref c3))
    (n0 : mg "isinstance" = none) (n1 : mg "sum" = none) (n2 : mg "int" = none) (n3 : mg "ValueError" = none) (Z0 : IsC K c0) (Z1 : IsC K c1)
    (k00 : PySem.W.kitOne K (.ref c0) (.ref c0) = some true) (k01 : PySem.W.kitOne K (.ref c0) (.ref c1) = some false) (k02 : PySem.W.kitOne K (.ref c0) (.ref c2) = some false) (k03 : PySem.W.kitOne K (.ref c0) (.ref c3) = some false) (k0v : PySem.W.kitOne K (.ref c0) (.type "ValueError") = some true)
    (k10 : PySem.W.kitOne K (.ref c1) (.ref c0) = some false) (k11 : PySem.W.kitOne K (.ref c1) (.ref c1) = some true) (k12 : PySem.W.kitOne K (.ref c1) (.ref c2) = some false) (k13 : PySem.W.kitOne K (.ref c1) (.ref c3) = some false) (k1v : PySem.W.kitOne K (.ref c1) (.type "ValueError") = some true)
    {k : Nat} : WordOk P w K mg base (k + 1) "_law_word" ws := by
  refine ⟨f, hf, F.kp, fun A outer s H x ob vs c t hh hr e0 hx hc hd h2 hH hfr hw => ?_⟩
  have hr1 : RoomH 1 A := ⟨by have := hr.dp; omega, by have := hr.un; omega⟩
  refine word_run (k := 0) F sc_word hb hr1 e0 fun cdv => ?_
  have : (c = 0 ∧ t = [66, 97, 100, 82, 111, 117, 116, 101]) ∨ (c = 1 ∧ t = [66, 97, 100, 82, 117, 108, 101]) := by
    unfold ws at hw
    rw [List.lookup_cons] at hw
    split at hw
    · rename_i e
      cases hw
      exact .inl ⟨by simpa using e, rfl⟩
    · rw [List.lookup_cons] at hw
      split at hw
      · rename_i e
        cases hw
        exact .inr ⟨by simpa using e, rfl⟩
      · cases hw
  rcases this with ⟨rfl, rfl⟩ | ⟨rfl, rfl⟩
  · have hc0 : ob.cls = .ref c0 := hc.trans (by show (mg "BadRoute").getD .none = _; rw [m0]; rfl)
    exact word_body (j := 0) hh hr1 e0 hx hc0 hd h2 hH hfr Z0 gl m0 m1 m2 m3 n0 n1 n2 n3 k00 k01 k02 k03 k0v rfl rfl (fun m h => absurd h (Nat.not_lt_zero _)) rfl
  · have hc1 : ob.cls = .ref c1 := hc.trans (by show (mg "BadRule").getD .none = _; rw [m1]; rfl)
    exact word_body (j := 1) hh hr1 e0 hx hc1 hd h2 hH hfr Z1 gl m0 m1 m2 m3 n0 n1 n2 n3 k10 k11 k12 k13 k1v rfl rfl (fun m h => by
      have e : m = 0 := by omega
      subst e
      rfl) rfl
end K10
namespace K10
open PySem PySem.Spec PyProof.Rows MP L2
theorem len1 {us : List Value} (h : us.length = 1) : ∃ a, us = [a] := List.length_eq_one_iff.mp h
theorem len2 {us : List Value} (h : us.length = 2) : ∃ a b, us = [a, b] := match us, h with | [a, b], _ => ⟨a, b, rfl⟩
theorem ct_cons {P : Str → D → Prop} {x y : Str} {d v : D} {l : List (Str × D)} (h : List.lookup y ((x, v) :: l) = some d) (h0 : P x v) (h1 : List.lookup y l = some d → P y d) : P y d := by
  rw [List.lookup_cons] at h
  split at h
  · rename_i hq
    cases h
    cases (eq_of_beq hq)
    exact h0
  · exact h1 h
theorem tup_k {K : PySem.W.Frag} {a : Addr} {od : Option Addr} {its : Array Value} {n : Nat} {sl : Array (Option Value)} {vs : List V} (l : K.lookup a = some ⟨.type "tuple", od, .seq its n, sl⟩) (hz : its.size ≤ sizeLine) (hv : Vals vs its.toList) (H : Hp) : SqT K H a vs :=
  .inr ⟨_, its, n, l, rfl, rfl, hz, hv⟩
theorem rel_s {x : Str} {s : List Nat} {t : Tok} (h : x = SS s) : RelV (.str (SS s)) (.str x t) := ⟨t, by rw [h]⟩
theorem rel_i {i : Int} {t : Tok} : RelV (.int i) (.int i t) := ⟨t, rfl⟩
theorem rn_rep {K : PySem.W.Frag} {a : Addr} {od : Option Addr} {n : Nat} {sl : Array (Option Value)} {i j : Int} {x : Str} {s : List Nat} {t u v : Tok} (l : K.lookup a = some ⟨.type "tuple", od, .seq #[.int i t, .str x u, .int j v] n, sl⟩) (h : x = SS s) (H : Hp) (th : Th) : RepV K H th (.tup [.int i, .str s, .int j]) (.ref a) :=
  .tup (tup_k l (by show 3 ≤ sizeLine; decide) (.cons rel_i (.cons (rel_s h) (.cons rel_i .nil))) H) (.cons (.int i) (.cons (.str s) (.cons (.int j) .nil)))
theorem fs_snoc {P : Program} {w : World} {K : PySem.W.Frag} {mg : Str → Option Value} {base : Heap} {G : List Den} {g : Den} {k : Nat} {y : Str} (A : ∀ (j : Nat) y g, fns[j]? = some y → G[j]? = some g → FnX P w K mg base k y g) (hn : fns[G.length]? = some y) (X : FnX P w K mg base (k + 1) y g) :
    ∀ (j : Nat) y' g', fns[j]? = some y' → (G ++ [g])[j]? = some g' → FnX P w K mg base (k + 1) y' g' := fun j y' g' h1 h2 => by
  by_cases h : j < G.length
  · rw [List.getElem?_append_left h] at h2
    exact (A j y' g' h1 h2).mono (Nat.le_succ _)
  · rw [List.getElem?_append_right (by omega)] at h2
    have e : j = G.length := by
      by_cases z : j - G.length = 0
      · omega
      · rw [List.getElem?_eq_none (by simp; omega)] at h2
        cases h2
    subst e
    rw [hn] at h1
    cases h1
    simp at h2
    subst h2
    exact X
noncomputable def spL (K : PySem.W.Frag) : Sp := fun vs H Q _ => vs.length = 1 ∧ ∃ th h ds, Wd K th h H ∧ RepVs K H th ds vs ∧ ∃ d h', d_law ds h = .ok d h' ∧ ∀ v H' th', RepV K H' th' d v → Wd K th' h' H' → Gr th th' H H' → Q v H'
theorem all_mk {l : PySem.W.OpenLaw} {w : World} {K : PySem.W.Frag} {h : Heap} {mg : Str → Option Value} {fa f0 f1 f2 f3 f4 f5 f6 f7 f8 f9 f10 f11 f12 f13 f14 f15 f16 f17 : Addr} (X : K.In h) (G : h.Ns mainGlobals mg) (hfa : mg "law" = some (.ref fa))
    {od0 an0 : Option Addr} {sl0 : Array (Option Value)} {oc0 kV0 dc0 pm0 cd0 ct0 : Value} {od1 an1 : Option Addr} {sl1 : Array (Option Value)} {oc1 kV1 dc1 pm1 cd1 ct1 : Value} {od2 an2 : Option Addr} {sl2 : Array (Option Value)} {oc2 kV2 dc2 pm2 cd2 ct2 : Value} {od3 an3 : Option Addr} {sl3 : Array (Option Value)} {oc3 kV3 dc3 pm3 cd3 ct3 : Value} {od4 an4 : Option Addr} {sl4 : Array (Option Value)} {oc4 kV4 dc4 pm4 cd4 ct4 : Value} {od5 an5 : Option Addr} {sl5 : Array (Option Value)} {oc5 kV5 dc5 pm5 cd5 ct5 : Value} {od6 an6 : Option Addr} {sl6 : Array (Option Value)} {oc6 kV6 dc6 pm6 cd6 ct6 : Value} {od7 an7 : Option Addr} {sl7 : Array (Option Value)} {oc7 kV7 dc7 pm7 cd7 ct7 : Value} {od8 an8 : Option Addr} {sl8 : Array (Option Value)} {oc8 kV8 dc8 pm8 cd8 ct8 : Value} {od9 an9 : Option Addr} {sl9 : Array (Option Value)} {oc9 kV9 dc9 pm9 cd9 ct9 : Value} {od10 an10 : Option Addr} {sl10 : Array (Option Value)} {oc10 kV10 dc10 pm10 cd10 ct10 : Value} {od11 an11 : Option Addr} {sl11 : Array (Option Value)} {oc11 kV11 dc11 pm11 cd11 ct11 : Value} {od12 an12 : Option Addr} {sl12 : Array (Option Value)} {oc12 kV12 dc12 pm12 cd12 ct12 : Value} {od13 an13 : Option Addr} {sl13 : Array (Option Value)} {oc13 kV13 dc13 pm13 cd13 ct13 : Value} {od14 an14 : Option Addr} {sl14 : Array (Option Value)} {oc14 kV14 dc14 pm14 cd14 ct14 : Value} {od15 an15 : Option Addr} {sl15 : Array (Option Value)} {oc15 kV15 dc15 pm15 cd15 ct15 : Value} {od16 an16 : Option Addr} {sl16 : Array (Option Value)} {oc16 kV16 dc16 pm16 cd16 ct16 : Value} {od17 an17 : Option Addr} {sl17 : Array (Option Value)} {oc17 kV17 dc17 pm17 cd17 ct17 : Value} {tk0 tk1 tk2 tk3 tk4 tk5 tk6 : Tok}
    {q0 q1 r0 r1 r2 r3 r4 r5 e0 e1 e2 e3 e4 : Addr} {oq0 oq1 or0 or1 or2 or3 or4 or5 : Option Addr} {nq0 nq1 nr0 nr1 nr2 nr3 nr4 nr5 : Nat} {sq0 sq1 sr0 sr1 sr2 sr3 sr4 sr5 : Array (Option Value)} {u0 u1 u2 x0 y0 z0 x1 y1 z1 x2 y2 z2 x3 y3 z3 x4 y4 z4 x5 y5 z5 : Tok}
    {en0 eq0 : Str} {eb0 eu0 : List Value} {es0 : Addr} {eh0 ev0 : Bool} {et0 : List Str} {ew0 : Option Bool} {eo0 : Option Addr} {ea0 ec0 ed0 ee0 ef0 : Option Value} {en1 eq1 : Str} {eb1 eu1 : List Value} {es1 : Addr} {eh1 ev1 : Bool} {et1 : List Str} {ew1 : Option Bool} {eo1 : Option Addr} {ea1 ec1 ed1 ee1 ef1 : Option Value} {en2 eq2 : Str} {eb2 eu2 : List Value} {es2 : Addr} {eh2 ev2 : Bool} {et2 : List Str} {ew2 : Option Bool} {eo2 : Option Addr} {ea2 ec2 ed2 ee2 ef2 : Option Value} {en3 eq3 : Str} {eb3 eu3 : List Value} {es3 : Addr} {eh3 ev3 : Bool} {et3 : List Str} {ew3 : Option Bool} {eo3 : Option Addr} {ea3 ec3 ed3 ee3 ef3 : Option Value} {en4 eq4 : Str} {eb4 eu4 : List Value} {es4 : Addr} {eh4 ev4 : Bool} {et4 : List Str} {ew4 : Option Bool} {eo4 : Option Addr} {ea4 ec4 ed4 ee4 ef4 : Option Value}
    {eg0 : Value} {ej0 : Option Addr} {ek0 : Array DictEntry} {el0 : Nat} {em0 : Array (Option Value)} {eg1 : Value} {ej1 : Option Addr} {ek1 : Array DictEntry} {el1 : Nat} {em1 : Array (Option Value)} {eg4 : Value} {ej4 : Option Addr} {ek4 : Array DictEntry} {el4 : Nat} {em4 : Array (Option Value)}
    (a0 : PySem.W.nsIn K mainGlobals "is_prefix" = some (some (.ref f0)))
    (l0 : K.lookup f0 = some ⟨oc0, od0, .func (PySem.W.fnOf "is_prefix" "is_prefix" (defArgs (top 16)) (defBody (top 16)) (defScope (top 16)) .none kV0 dc0 pm0 an0 cd0 ct0), sl0⟩)
    (c0 : PySem.W.codeIn K cd0 "is_prefix" = true)
    (k0 : PySem.W.keepIn K (.ref f0) = true)
    (a1 : PySem.W.nsIn K mainGlobals "is_path" = some (some (.ref f1)))
    (l1 : K.lookup f1 = some ⟨oc1, od1, .func (PySem.W.fnOf "is_path" "is_path" (defArgs (top 17)) (defBody (top 17)) (defScope (top 17)) .none kV1 dc1 pm1 an1 cd1 ct1), sl1⟩)
    (c1 : PySem.W.codeIn K cd1 "is_path" = true)
    (k1 : PySem.W.keepIn K (.ref f1) = true)
    (a2 : PySem.W.nsIn K mainGlobals "are_tags" = some (some (.ref f2)))
    (l2 : K.lookup f2 = some ⟨oc2, od2, .func (PySem.W.fnOf "are_tags" "are_tags" (defArgs (top 18)) (defBody (top 18)) (defScope (top 18)) .none kV2 dc2 pm2 an2 cd2 ct2), sl2⟩)
    (c2 : PySem.W.codeIn K cd2 "are_tags" = true)
    (k2 : PySem.W.keepIn K (.ref f2) = true)
    (a3 : PySem.W.nsIn K mainGlobals "need_prefix" = some (some (.ref f3)))
    (l3 : K.lookup f3 = some ⟨oc3, od3, .func (PySem.W.fnOf "need_prefix" "need_prefix" (defArgs (top 19)) (defBody (top 19)) (defScope (top 19)) .none kV3 dc3 pm3 an3 cd3 ct3), sl3⟩)
    (c3 : PySem.W.codeIn K cd3 "need_prefix" = true)
    (k3 : PySem.W.keepIn K (.ref f3) = true)
    (a4 : PySem.W.nsIn K mainGlobals "need_route" = some (some (.ref f4)))
    (l4 : K.lookup f4 = some ⟨oc4, od4, .func (PySem.W.fnOf "need_route" "need_route" (defArgs (top 20)) (defBody (top 20)) (defScope (top 20)) .none kV4 dc4 pm4 an4 cd4 ct4), sl4⟩)
    (c4 : PySem.W.codeIn K cd4 "need_route" = true)
    (k4 : PySem.W.keepIn K (.ref f4) = true)
    (a5 : PySem.W.nsIn K mainGlobals "need_rule" = some (some (.ref f5)))
    (l5 : K.lookup f5 = some ⟨oc5, od5, .func (PySem.W.fnOf "need_rule" "need_rule" (defArgs (top 21)) (defBody (top 21)) (defScope (top 21)) .none kV5 dc5 pm5 an5 cd5 ct5), sl5⟩)
    (c5 : PySem.W.codeIn K cd5 "need_rule" = true)
    (k5 : PySem.W.keepIn K (.ref f5) = true)
    (a6 : PySem.W.nsIn K mainGlobals "_law_cell" = some (some (.ref f6)))
    (l6 : K.lookup f6 = some ⟨oc6, od6, .func (PySem.W.fnOf "_law_cell" "_law_cell" (defArgs (top 23)) (defBody (top 23)) (defScope (top 23)) .none kV6 dc6 pm6 an6 cd6 ct6), sl6⟩)
    (c6 : PySem.W.codeIn K cd6 "_law_cell" = true)
    (k6 : PySem.W.keepIn K (.ref f6) = true)
    (a7 : PySem.W.nsIn K mainGlobals "_law_drawn" = some (some (.ref f7)))
    (l7 : K.lookup f7 = some ⟨oc7, od7, .func (PySem.W.fnOf "_law_drawn" "_law_drawn" (defArgs (top 24)) (defBody (top 24)) (defScope (top 24)) .none kV7 dc7 pm7 an7 cd7 ct7), sl7⟩)
    (c7 : PySem.W.codeIn K cd7 "_law_drawn" = true)
    (k7 : PySem.W.keepIn K (.ref f7) = true)
    (a8 : PySem.W.nsIn K mainGlobals "_law_numbers" = some (some (.ref f8)))
    (l8 : K.lookup f8 = some ⟨oc8, od8, .func (PySem.W.fnOf "_law_numbers" "_law_numbers" (defArgs (top 25)) (defBody (top 25)) (defScope (top 25)) .none kV8 dc8 pm8 an8 cd8 ct8), sl8⟩)
    (c8 : PySem.W.codeIn K cd8 "_law_numbers" = true)
    (k8 : PySem.W.keepIn K (.ref f8) = true)
    (a9 : PySem.W.nsIn K mainGlobals "_law_bits" = some (some (.ref f9)))
    (l9 : K.lookup f9 = some ⟨oc9, od9, .func (PySem.W.fnOf "_law_bits" "_law_bits" (defArgs (top 26)) (defBody (top 26)) (defScope (top 26)) .none kV9 dc9 pm9 an9 cd9 ct9), sl9⟩)
    (c9 : PySem.W.codeIn K cd9 "_law_bits" = true)
    (k9 : PySem.W.keepIn K (.ref f9) = true)
    (a10 : PySem.W.nsIn K mainGlobals "_law_tags" = some (some (.ref f10)))
    (l10 : K.lookup f10 = some ⟨oc10, od10, .func (PySem.W.fnOf "_law_tags" "_law_tags" (defArgs (top 28)) (defBody (top 28)) (defScope (top 28)) .none kV10 dc10 pm10 an10 cd10 ct10), sl10⟩)
    (c10 : PySem.W.codeIn K cd10 "_law_tags" = true)
    (k10 : PySem.W.keepIn K (.ref f10) = true)
    (a11 : PySem.W.nsIn K mainGlobals "_law_spoilt_route" = some (some (.ref f11)))
    (l11 : K.lookup f11 = some ⟨oc11, od11, .func (PySem.W.fnOf "_law_spoilt_route" "_law_spoilt_route" (defArgs (top 30)) (defBody (top 30)) (defScope (top 30)) .none kV11 dc11 pm11 an11 cd11 ct11), sl11⟩)
    (c11 : PySem.W.codeIn K cd11 "_law_spoilt_route" = true)
    (k11 : PySem.W.keepIn K (.ref f11) = true)
    (a12 : PySem.W.nsIn K mainGlobals "_law_spoilt_rule" = some (some (.ref f12)))
    (l12 : K.lookup f12 = some ⟨oc12, od12, .func (PySem.W.fnOf "_law_spoilt_rule" "_law_spoilt_rule" (defArgs (top 31)) (defBody (top 31)) (defScope (top 31)) .none kV12 dc12 pm12 an12 cd12 ct12), sl12⟩)
    (c12 : PySem.W.codeIn K cd12 "_law_spoilt_rule" = true)
    (k12 : PySem.W.keepIn K (.ref f12) = true)
    (a13 : PySem.W.nsIn K mainGlobals "_law_good_route" = some (some (.ref f13)))
    (l13 : K.lookup f13 = some ⟨oc13, od13, .func (PySem.W.fnOf "_law_good_route" "_law_good_route" (defArgs (top 32)) (defBody (top 32)) (defScope (top 32)) .none kV13 dc13 pm13 an13 cd13 ct13), sl13⟩)
    (c13 : PySem.W.codeIn K cd13 "_law_good_route" = true)
    (k13 : PySem.W.keepIn K (.ref f13) = true)
    (a14 : PySem.W.nsIn K mainGlobals "_law_good_rule" = some (some (.ref f14)))
    (l14 : K.lookup f14 = some ⟨oc14, od14, .func (PySem.W.fnOf "_law_good_rule" "_law_good_rule" (defArgs (top 33)) (defBody (top 33)) (defScope (top 33)) .none kV14 dc14 pm14 an14 cd14 ct14), sl14⟩)
    (c14 : PySem.W.codeIn K cd14 "_law_good_rule" = true)
    (k14 : PySem.W.keepIn K (.ref f14) = true)
    (a15 : PySem.W.nsIn K mainGlobals "_law_told" = some (some (.ref f15)))
    (l15 : K.lookup f15 = some ⟨oc15, od15, .func (PySem.W.fnOf "_law_told" "_law_told" (defArgs (top 34)) (defBody (top 34)) (defScope (top 34)) .none kV15 dc15 pm15 an15 cd15 ct15), sl15⟩)
    (c15 : PySem.W.codeIn K cd15 "_law_told" = true)
    (k15 : PySem.W.keepIn K (.ref f15) = true)
    (a16 : PySem.W.nsIn K mainGlobals "law" = some (some (.ref f16)))
    (l16 : K.lookup f16 = some ⟨oc16, od16, .func (PySem.W.fnOf "law" "law" (defArgs (top 35)) (defBody (top 35)) (defScope (top 35)) .none kV16 dc16 pm16 an16 cd16 ct16), sl16⟩)
    (c16 : PySem.W.codeIn K cd16 "law" = true)
    (k16 : PySem.W.keepIn K (.ref f16) = true)
    (a17 : PySem.W.nsIn K mainGlobals "_law_word" = some (some (.ref f17)))
    (l17 : K.lookup f17 = some ⟨oc17, od17, .func (PySem.W.fnOf "_law_word" "_law_word" (defArgs (top 29)) (defBody (top 29)) (defScope (top 29)) .none kV17 dc17 pm17 an17 cd17 ct17), sl17⟩)
    (c17 : PySem.W.codeIn K cd17 "_law_word" = true)
    (k17 : PySem.W.keepIn K (.ref f17) = true)
    (m0 : PySem.W.nsIn K mainGlobals "MOST_SIGNS" = some (some (.int 16 tk0)))
    (m1 : PySem.W.nsIn K mainGlobals "MOST_STEPS" = some (some (.int 12 tk1)))
    (m2 : PySem.W.nsIn K mainGlobals "MOST_TAGS" = some (some (.int 4 tk2)))
    (m3 : PySem.W.nsIn K mainGlobals "GREATEST_NUMBER" = some (some (.int 999 tk3)))
    (m4 : PySem.W.nsIn K mainGlobals "GREATEST_WEIGHT" = some (some (.int 1000 tk4)))
    (m5 : PySem.W.nsIn K mainGlobals "GREATEST_TAG" = some (some (.int 99 tk5)))
    (m6 : PySem.W.nsIn K mainGlobals "GREATEST_PREFERENCE" = some (some (.int 1000 tk6)))
    (p0 : PySem.W.nsIn K mainGlobals "DEEDS" = some (some (.ref q0)))
    (p1 : PySem.W.nsIn K mainGlobals "RULE_NUMBERS" = some (some (.ref q1)))
    (lp0 : K.lookup q0 = some ⟨.type "tuple", oq0, .seq #[.str "no" u0, .str "yes" u1, .str "on" u2] nq0, sq0⟩)
    (lp1 : K.lookup q1 = some ⟨.type "tuple", oq1, .seq #[.ref r0, .ref r1, .ref r2, .ref r3, .ref r4, .ref r5] nq1, sq1⟩)
    (lr0 : K.lookup r0 = some ⟨.type "tuple", or0, .seq #[.int 1 x0, .str "longest" y0, .int 16 z0] nr0, sr0⟩)
    (lr1 : K.lookup r1 = some ⟨.type "tuple", or1, .seq #[.int 2 x1, .str "number" y1, .int 999 z1] nr1, sr1⟩)
    (lr2 : K.lookup r2 = some ⟨.type "tuple", or2, .seq #[.int 3 x2, .str "tag" y2, .int 99 z2] nr2, sr2⟩)
    (lr3 : K.lookup r3 = some ⟨.type "tuple", or3, .seq #[.int 6 x3, .str "add" y3, .int 99 z3] nr3, sr3⟩)
    (lr4 : K.lookup r4 = some ⟨.type "tuple", or4, .seq #[.int 7 x4, .str "take" y4, .int 99 z4] nr4, sr4⟩)
    (lr5 : K.lookup r5 = some ⟨.type "tuple", or5, .seq #[.int 8 x5, .str "ahead" y5, .int 3 z5] nr5, sr5⟩)
    (z_0 : PySem.W.nsIn K mainGlobals "len" = some none)
    (z_1 : PySem.W.nsIn K mainGlobals "sorted" = some none)
    (z_2 : PySem.W.nsIn K mainGlobals "set" = some none)
    (z_3 : PySem.W.nsIn K mainGlobals "tuple" = some none)
    (z_4 : PySem.W.nsIn K mainGlobals "range" = some none)
    (z_5 : PySem.W.nsIn K mainGlobals "min" = some none)
    (z_6 : PySem.W.nsIn K mainGlobals "max" = some none)
    (z_7 : PySem.W.nsIn K mainGlobals "list" = some none)
    (z_8 : PySem.W.nsIn K mainGlobals "int" = some none)
    (z_9 : PySem.W.nsIn K mainGlobals "all" = some none)
    (w_0 : PySem.W.nsIn K mainGlobals "isinstance" = some none)
    (w_1 : PySem.W.nsIn K mainGlobals "sum" = some none)
    (w_2 : PySem.W.nsIn K mainGlobals "ValueError" = some none)
    (gg0 : PySem.W.nsIn K mainGlobals "BadRoute" = some (some (.ref e0)))
    (gg1 : PySem.W.nsIn K mainGlobals "BadRule" = some (some (.ref e1)))
    (gg2 : PySem.W.nsIn K mainGlobals "NoNeighbour" = some (some (.ref e2)))
    (gg3 : PySem.W.nsIn K mainGlobals "NoLine" = some (some (.ref e3)))
    (gg4 : PySem.W.nsIn K mainGlobals "PathError" = some (some (.ref e4)))
    (h0l : K.lookup e0 = some ⟨.type "type", eo0, .cls ⟨en0, eb0, .ref e0 :: .ref e4 :: [.type "ValueError", .type "Exception", .type "BaseException", .type "object"], es0, eq0, eh0, et0, eu0, ev0, ew0, false⟩, #[ea0, ec0, ed0, ee0, some (.builtin "ValueError.__new__"), ef0]⟩)
    (h1l : K.lookup e1 = some ⟨.type "type", eo1, .cls ⟨en1, eb1, .ref e1 :: .ref e4 :: [.type "ValueError", .type "Exception", .type "BaseException", .type "object"], es1, eq1, eh1, et1, eu1, ev1, ew1, false⟩, #[ea1, ec1, ed1, ee1, some (.builtin "ValueError.__new__"), ef1]⟩)
    (h2l : K.lookup e2 = some ⟨.type "type", eo2, .cls ⟨en2, eb2, .ref e2 :: .ref e4 :: [.type "ValueError", .type "Exception", .type "BaseException", .type "object"], es2, eq2, eh2, et2, eu2, ev2, ew2, false⟩, #[ea2, ec2, ed2, ee2, some (.builtin "ValueError.__new__"), ef2]⟩)
    (h3l : K.lookup e3 = some ⟨.type "type", eo3, .cls ⟨en3, eb3, .ref e3 :: .ref e4 :: [.type "ValueError", .type "Exception", .type "BaseException", .type "object"], es3, eq3, eh3, et3, eu3, ev3, ew3, false⟩, #[ea3, ec3, ed3, ee3, some (.builtin "ValueError.__new__"), ef3]⟩)
    (h4l : K.lookup e4 = some ⟨.type "type", eo4, .cls ⟨en4, eb4, .ref e4 :: [.type "ValueError", .type "Exception", .type "BaseException", .type "object"], es4, eq4, eh4, et4, eu4, ev4, ew4, false⟩, #[ea4, ec4, ed4, ee4, some (.builtin "ValueError.__new__"), ef4]⟩)
    (h0ld : K.lookup es0 = some ⟨eg0, ej0, .dict ek0 el0, em0⟩)
    (h0ok : ek0.toList.all strKey = true)
    (h0in : PySem.W.nsIn K es0 "__init__" = some none)
    (h1ld : K.lookup es1 = some ⟨eg1, ej1, .dict ek1 el1, em1⟩)
    (h1ok : ek1.toList.all strKey = true)
    (h1in : PySem.W.nsIn K es1 "__init__" = some none)
    (h4ld : K.lookup es4 = some ⟨eg4, ej4, .dict ek4 el4, em4⟩)
    (h4ok : ek4.toList.all strKey = true)
    (h4in : PySem.W.nsIn K es4 "__init__" = some none)
    (h4mb : PySem.W.mroIn K e4 (.type "BaseException") = some true)
    (igt : PySem.W.specialIn K (.builtin "object.__class__") "__get__" = some (some (.builtin "getset_descriptor.__get__")))
    (itk : PySem.W.takesIn K (.builtin "object.__class__") = some true)
    (i0ga : PySem.W.findIn K (.ref e0) "__getattribute__" = some (some (.builtin "BaseException.__getattribute__")))
    (i0gn : PySem.W.findIn K (.ref e0) "__getattr__" = some none)
    (i0cl : PySem.W.findIn K (.ref e0) "__class__" = some (some (.builtin "object.__class__")))
    (i0mo : PySem.W.mroIn K e0 (.type "object") = some true)
    (i0mb : PySem.W.mroIn K e0 (.type "BaseException") = some true)
    (i0mv : PySem.W.mroIn K e0 (.type "ValueError") = some true)
    (i0mp : PySem.W.mroIn K e0 (.ref e4) = some true)
    (i0m0 : PySem.W.mroIn K e0 (.ref e0) = some true)
    (i0m1 : PySem.W.mroIn K e0 (.ref e1) = some false)
    (i0m2 : PySem.W.mroIn K e0 (.ref e2) = some false)
    (i0m3 : PySem.W.mroIn K e0 (.ref e3) = some false)
    (i1ga : PySem.W.findIn K (.ref e1) "__getattribute__" = some (some (.builtin "BaseException.__getattribute__")))
    (i1gn : PySem.W.findIn K (.ref e1) "__getattr__" = some none)
    (i1cl : PySem.W.findIn K (.ref e1) "__class__" = some (some (.builtin "object.__class__")))
    (i1mo : PySem.W.mroIn K e1 (.type "object") = some true)
    (i1mb : PySem.W.mroIn K e1 (.type "BaseException") = some true)
    (i1mv : PySem.W.mroIn K e1 (.type "ValueError") = some true)
    (i1mp : PySem.W.mroIn K e1 (.ref e4) = some true)
    (i1m0 : PySem.W.mroIn K e1 (.ref e0) = some false)
    (i1m1 : PySem.W.mroIn K e1 (.ref e1) = some true)
    (i1m2 : PySem.W.mroIn K e1 (.ref e2) = some false)
    (i1m3 : PySem.W.mroIn K e1 (.ref e3) = some false)
    (n01 : (e0 == e1) = false)
    (n02 : (e0 == e2) = false)
    (n03 : (e0 == e3) = false)
    (n12 : (e1 == e2) = false)
    (n13 : (e1 == e3) = false)
    : ∃ fd : FuncData, (∀ (s : Shared) (v : Value), BindsTo s fd ⟨[v], []⟩ [("_law_script", v)]) ∧ ∀ base : Heap, K.In base → base.Ns mainGlobals mg → FnOk l.prog w K mg base (CXM l.prog w) 18 fa fd ["_law_script"] (spL K) := by
  have e := hfa.symm.trans (PySem.W.mg_of X G a16)
  cases e
  have F0 := fun_mk (st := top 16) l0 c0 k0
  have b0 := F0.binds (ps := ["text"]) fun _ _ _ _ _ _ us hl => by obtain ⟨_, rfl⟩ := len1 hl; rfl
  have F1 := fun_mk (st := top 17) l1 c1 k1
  have b1 := F1.binds (ps := ["path"]) fun _ _ _ _ _ _ us hl => by obtain ⟨_, rfl⟩ := len1 hl; rfl
  have F2 := fun_mk (st := top 18) l2 c2 k2
  have b2 := F2.binds (ps := ["tags"]) fun _ _ _ _ _ _ us hl => by obtain ⟨_, rfl⟩ := len1 hl; rfl
  have F3 := fun_mk (st := top 19) l3 c3 k3
  have b3 := F3.binds (ps := ["prefix"]) fun _ _ _ _ _ _ us hl => by obtain ⟨_, rfl⟩ := len1 hl; rfl
  have F4 := fun_mk (st := top 20) l4 c4 k4
  have b4 := F4.binds (ps := ["route"]) fun _ _ _ _ _ _ us hl => by obtain ⟨_, rfl⟩ := len1 hl; rfl
  have F5 := fun_mk (st := top 21) l5 c5 k5
  have b5 := F5.binds (ps := ["rule"]) fun _ _ _ _ _ _ us hl => by obtain ⟨_, rfl⟩ := len1 hl; rfl
  have F6 := fun_mk (st := top 23) l6 c6 k6
  have b6 := F6.binds (ps := ["_law_script", "_law_k"]) fun _ _ _ _ _ _ us hl => by obtain ⟨_, _, rfl⟩ := len2 hl; rfl
  have F7 := fun_mk (st := top 24) l7 c7 k7
  have b7 := F7.binds (ps := ["_law_cell_here", "_law_k"]) fun _ _ _ _ _ _ us hl => by obtain ⟨_, _, rfl⟩ := len2 hl; rfl
  have F8 := fun_mk (st := top 25) l8 c8 k8
  have b8 := F8.binds (ps := ["_law_more", "_law_many"]) fun _ _ _ _ _ _ us hl => by obtain ⟨_, _, rfl⟩ := len2 hl; rfl
  have F9 := fun_mk (st := top 26) l9 c9 k9
  have b9 := F9.binds (ps := ["_law_more", "_law_many"]) fun _ _ _ _ _ _ us hl => by obtain ⟨_, _, rfl⟩ := len2 hl; rfl
  have F10 := fun_mk (st := top 28) l10 c10 k10
  have b10 := F10.binds (ps := ["_law_more"]) fun _ _ _ _ _ _ us hl => by obtain ⟨_, rfl⟩ := len1 hl; rfl
  have F11 := fun_mk (st := top 30) l11 c11 k11
  have b11 := F11.binds (ps := ["_law_more", "_law_route"]) fun _ _ _ _ _ _ us hl => by obtain ⟨_, _, rfl⟩ := len2 hl; rfl
  have F12 := fun_mk (st := top 31) l12 c12 k12
  have b12 := F12.binds (ps := ["_law_more", "_law_rule"]) fun _ _ _ _ _ _ us hl => by obtain ⟨_, _, rfl⟩ := len2 hl; rfl
  have F13 := fun_mk (st := top 32) l13 c13 k13
  have b13 := F13.binds (ps := ["_law_route"]) fun _ _ _ _ _ _ us hl => by obtain ⟨_, rfl⟩ := len1 hl; rfl
  have F14 := fun_mk (st := top 33) l14 c14 k14
  have b14 := F14.binds (ps := ["_law_rule"]) fun _ _ _ _ _ _ us hl => by obtain ⟨_, rfl⟩ := len1 hl; rfl
  have F15 := fun_mk (st := top 34) l15 c15 k15
  have b15 := F15.binds (ps := ["_law_rule", "_law_thing"]) fun _ _ _ _ _ _ us hl => by obtain ⟨_, _, rfl⟩ := len2 hl; rfl
  have F16 := fun_mk (st := top 35) l16 c16 k16
  have b16 := F16.binds (ps := ["_law_script"]) fun _ _ _ _ _ _ us hl => by obtain ⟨_, rfl⟩ := len1 hl; rfl
  have F17 := fun_mk (st := top 29) l17 c17 k17
  have b17 := F17.binds (ps := ["_law_e"]) fun _ _ _ _ _ _ us hl => by obtain ⟨_, rfl⟩ := len1 hl; rfl
  have gl : ∀ x a, PySem.W.nsIn K mainGlobals x = some (some (.ref a)) → mg x = some (.ref a) := fun x a e => PySem.W.mg_of X G e
  refine ⟨PySem.W.fnOf "law" "law" (defArgs (top 35)) (defBody (top 35)) (defScope (top 35)) .none kV16 dc16 pm16 an16 cd16 ct16, fun s v => .of_eq rfl, fun base KB GB => ?_⟩
  have T : ∀ i N, Txt mg K base (cc i N) := fun i N => by
    refine ⟨fun y d hy => ?_, fun y hy => ?_, gl, fun y hy => ?_, fun c hy => ?_⟩
    · refine ct_cons (P := fun y d => ∃ u v, mg y = some u ∧ RelV v u ∧ ∀ H th, RepV K H th d v) hy ⟨_, .int 16, PySem.W.mg_of X G m0, ⟨_, rfl⟩, fun H th => .int 16⟩ fun hy => ct_cons (P := fun y d => ∃ u v, mg y = some u ∧ RelV v u ∧ ∀ H th, RepV K H th d v) hy ⟨_, .int 12, PySem.W.mg_of X G m1, ⟨_, rfl⟩, fun H th => .int 12⟩ fun hy => ct_cons (P := fun y d => ∃ u v, mg y = some u ∧ RelV v u ∧ ∀ H th, RepV K H th d v) hy ⟨_, .int 4, PySem.W.mg_of X G m2, ⟨_, rfl⟩, fun H th => .int 4⟩ fun hy => ct_cons (P := fun y d => ∃ u v, mg y = some u ∧ RelV v u ∧ ∀ H th, RepV K H th d v) hy ⟨_, .int 999, PySem.W.mg_of X G m3, ⟨_, rfl⟩, fun H th => .int 999⟩ fun hy => ct_cons (P := fun y d => ∃ u v, mg y = some u ∧ RelV v u ∧ ∀ H th, RepV K H th d v) hy ⟨_, .int 1000, PySem.W.mg_of X G m4, ⟨_, rfl⟩, fun H th => .int 1000⟩ fun hy => ct_cons (P := fun y d => ∃ u v, mg y = some u ∧ RelV v u ∧ ∀ H th, RepV K H th d v) hy ⟨_, .int 99, PySem.W.mg_of X G m5, ⟨_, rfl⟩, fun H th => .int 99⟩ fun hy => ct_cons (P := fun y d => ∃ u v, mg y = some u ∧ RelV v u ∧ ∀ H th, RepV K H th d v) hy ⟨_, .int 1000, PySem.W.mg_of X G m6, ⟨_, rfl⟩, fun H th => .int 1000⟩ fun hy => ct_cons (P := fun y d => ∃ u v, mg y = some u ∧ RelV v u ∧ ∀ H th, RepV K H th d v) hy
        ⟨_, .ref q0, PySem.W.mg_of X G p0, rfl, fun H th => .tup (tup_k lp0 (by show 3 ≤ sizeLine; decide) (.cons (rel_s (by rfl)) (.cons (rel_s (by rfl)) (.cons (rel_s (by rfl)) .nil))) H) (.cons (.str _) (.cons (.str _) (.cons (.str _) .nil)))⟩ fun hy =>
        ct_cons (P := fun y d => ∃ u v, mg y = some u ∧ RelV v u ∧ ∀ H th, RepV K H th d v) hy
        ⟨_, .ref q1, PySem.W.mg_of X G p1, rfl, fun H th => .tup (tup_k (vs := [.ref r0, .ref r1, .ref r2, .ref r3, .ref r4, .ref r5]) lp1 (by show 6 ≤ sizeLine; decide) (.cons rfl (.cons rfl (.cons rfl (.cons rfl (.cons rfl (.cons rfl .nil)))))) H) (.cons (rn_rep lr0 rfl H th) (.cons (rn_rep lr1 rfl H th) (.cons (rn_rep lr2 rfl H th) (.cons (rn_rep lr3 rfl H th) (.cons (rn_rep lr4 rfl H th) (.cons (rn_rep lr5 rfl H th) .nil))))))⟩ fun hy => by cases hy
    · have hy : y ∈ blt := by simpa [cc] using hy
      unfold blt at hy
      simp only [List.mem_cons, List.not_mem_nil, or_false] at hy
      rcases hy with rfl | rfl | rfl | rfl | rfl | rfl | rfl | rfl | rfl | rfl
      · exact PySem.W.mg_none_of X G z_0
      · exact PySem.W.mg_none_of X G z_1
      · exact PySem.W.mg_none_of X G z_2
      · exact PySem.W.mg_none_of X G z_3
      · exact PySem.W.mg_none_of X G z_4
      · exact PySem.W.mg_none_of X G z_5
      · exact PySem.W.mg_none_of X G z_6
      · exact PySem.W.mg_none_of X G z_7
      · exact PySem.W.mg_none_of X G z_8
      · exact PySem.W.mg_none_of X G z_9
    · have hy : y ∈ fns := by simpa [cc] using hy
      unfold fns at hy
      simp only [List.mem_cons, List.not_mem_nil, or_false] at hy
      rcases hy with rfl | rfl | rfl | rfl | rfl | rfl | rfl | rfl | rfl | rfl | rfl | rfl | rfl | rfl | rfl | rfl
      · exact ⟨_, a0⟩
      · exact ⟨_, a1⟩
      · exact ⟨_, a2⟩
      · exact ⟨_, a3⟩
      · exact ⟨_, a4⟩
      · exact ⟨_, a5⟩
      · exact ⟨_, a6⟩
      · exact ⟨_, a7⟩
      · exact ⟨_, a8⟩
      · exact ⟨_, a9⟩
      · exact ⟨_, a10⟩
      · exact ⟨_, a11⟩
      · exact ⟨_, a12⟩
      · exact ⟨_, a13⟩
      · exact ⟨_, a14⟩
      · exact ⟨_, a15⟩
    · have hy : c ∈ [0, 1] := by simpa [cc] using hy
      simp only [List.mem_cons, List.not_mem_nil, or_false] at hy
      rcases hy with rfl | rfl
      · exact ⟨"BadRoute", _, _, _, _, _, rfl, own_cls KB GB gg0 h0l h4l (ns_ok h0ld h0ok) h0in (ns_ok h4ld h4ok) h4in rfl, PySem.F.excBase_ValueError⟩
      · exact ⟨"BadRule", _, _, _, _, _, rfl, own_cls KB GB gg1 h1l h4l (ns_ok h1ld h1ok) h1in (ns_ok h4ld h4ok) h4in rfl, PySem.F.excBase_ValueError⟩
  have W : ∀ k, WordOk l.prog w K mg base (k + 1) "_law_word" ws := fun k => word_ok (PySem.W.mg_of X G a17) F17 b17 gl (PySem.W.mg_of X G gg0) (PySem.W.mg_of X G gg1) (PySem.W.mg_of X G gg2) (PySem.W.mg_of X G gg3)
    (PySem.W.mg_none_of X G w_0) (PySem.W.mg_none_of X G w_1) (PySem.W.mg_none_of X G z_8) (PySem.W.mg_none_of X G w_2) ⟨by rw [cls_some h0l]; rfl, i0ga, i0gn, i0cl, igt, itk, i0mo, i0mb⟩ ⟨by rw [cls_some h1l]; rfl, i1ga, i1gn, i1cl, igt, itk, i1mo, i1mb⟩
    (kit_one h0l i0m0 fun _ => rfl) (kit_one h1l i0m1 fun z => absurd z (ne_of_beq_false n01)) (kit_one h2l i0m2 fun z => absurd z (ne_of_beq_false n02)) (kit_one h3l i0m3 fun z => absurd z (ne_of_beq_false n03)) (kit_val i0mv)
    (kit_one h0l i1m0 fun z => absurd z.symm (ne_of_beq_false n01)) (kit_one h1l i1m1 fun _ => rfl) (kit_one h2l i1m2 fun z => absurd z (ne_of_beq_false n12)) (kit_one h3l i1m3 fun z => absurd z (ne_of_beq_false n13)) (kit_val i1mv)
  have mx : ∀ c d, ws.lookup c = some d → PySem.W.exmOne K (ecV mg c) (.ref e4) = some true := fun c d hw => by
    unfold ws at hw
    rw [List.lookup_cons] at hw
    split at hw
    · rename_i q
      have q : c = 0 := by simpa using q
      subst q
      show PySem.W.exmOne K ((mg "BadRoute").getD .none) _ = _
      rw [PySem.W.mg_of X G gg0]
      exact exm_own h4l i0mp h4mb
    · rw [List.lookup_cons] at hw
      split at hw
      · rename_i q
        have q : c = 1 := by simpa using q
        subst q
        show PySem.W.exmOne K ((mg "BadRule").getD .none) _ = _
        rw [PySem.W.mg_of X G gg1]
        exact exm_own h4l i1mp h4mb
      · cases hw
  have tw : ∀ i N k P' W' ws', (cc i N).tw = some (P', W', ws') → ∃ Pc, mg P' = some (.ref Pc) ∧ WordOk l.prog w K mg base (k + 1) W' ws' ∧ ∀ c d, ws'.lookup c = some d → PySem.W.exmOne K (ecV mg c) (.ref Pc) = some true := fun i N k P' W' ws' h => by
    cases h
    exact ⟨e4, PySem.W.mg_of X G gg4, W k, mx⟩
  have A0 : ∀ (j : Nat) y g, fns[j]? = some y → ([] : List Den)[j]? = some g → FnX l.prog w K mg base 1 y g := fun j y g _ h => by simp at h
  have X0 : FnX l.prog w K mg base 2 "is_prefix" d_is_prefix := fn_x (k := 1) (C := cc 16 _) (PySem.W.mg_of X G a0) F0 sc_is_prefix b0 (T 16 _) (tw 16 _ 0) rfl rfl (fun X EX => dv.1 X EX _ _) A0
  have A1 := fs_snoc A0 rfl X0
  have X1 : FnX l.prog w K mg base 3 "is_path" d_is_path := fn_x (k := 2) (C := cc 17 _) (PySem.W.mg_of X G a1) F1 sc_is_path b1 (T 17 _) (tw 17 _ 1) rfl rfl (fun X EX => dv.2.1 X EX _ _) A1
  have A2 := fs_snoc A1 rfl X1
  have X2 : FnX l.prog w K mg base 4 "are_tags" d_are_tags := fn_x (k := 3) (C := cc 18 _) (PySem.W.mg_of X G a2) F2 sc_are_tags b2 (T 18 _) (tw 18 _ 2) rfl rfl (fun X EX => dv.2.2.1 X EX _ _) A2
  have A3 := fs_snoc A2 rfl X2
  have X3 : FnX l.prog w K mg base 5 "need_prefix" d_need_prefix := fn_x (k := 4) (C := cc 19 _) (PySem.W.mg_of X G a3) F3 sc_need_prefix b3 (T 19 _) (tw 19 _ 3) rfl rfl (fun X EX => dv.2.2.2.1 X EX _ _) A3
  have A4 := fs_snoc A3 rfl X3
  have X4 : FnX l.prog w K mg base 6 "need_route" d_need_route := fn_x (k := 5) (C := cc 20 _) (PySem.W.mg_of X G a4) F4 sc_need_route b4 (T 20 _) (tw 20 _ 4) rfl rfl (fun X EX => dv.2.2.2.2.1 X EX _ _) A4
  have A5 := fs_snoc A4 rfl X4
  have X5 : FnX l.prog w K mg base 7 "need_rule" d_need_rule := fn_x (k := 6) (C := cc 21 _) (PySem.W.mg_of X G a5) F5 sc_need_rule b5 (T 21 _) (tw 21 _ 5) rfl rfl (fun X EX => dv.2.2.2.2.2.1 X EX _ _) A5
  have A6 := fs_snoc A5 rfl X5
  have X6 : FnX l.prog w K mg base 8 "_law_cell" d_cell := fn_x (k := 7) (C := cc 23 _) (PySem.W.mg_of X G a6) F6 sc_cell b6 (T 23 _) (tw 23 _ 6) rfl rfl (fun X EX => dv.2.2.2.2.2.2.1 X EX _ _) A6
  have A7 := fs_snoc A6 rfl X6
  have X7 : FnX l.prog w K mg base 9 "_law_drawn" d_drawn := fn_x (k := 8) (C := cc 24 _) (PySem.W.mg_of X G a7) F7 sc_drawn b7 (T 24 _) (tw 24 _ 7) rfl rfl (fun X EX => dv.2.2.2.2.2.2.2.1 X EX _ _) A7
  have A8 := fs_snoc A7 rfl X7
  have X8 : FnX l.prog w K mg base 10 "_law_numbers" d_numbers := fn_x (k := 9) (C := cc 25 _) (PySem.W.mg_of X G a8) F8 sc_numbers b8 (T 25 _) (tw 25 _ 8) rfl rfl (fun X EX => dv.2.2.2.2.2.2.2.2.1 X EX _ _) A8
  have A9 := fs_snoc A8 rfl X8
  have X9 : FnX l.prog w K mg base 11 "_law_bits" d_bits := fn_x (k := 10) (C := cc 26 _) (PySem.W.mg_of X G a9) F9 sc_bits b9 (T 26 _) (tw 26 _ 9) rfl rfl (fun X EX => dv.2.2.2.2.2.2.2.2.2.1 X EX _ _) A9
  have A10 := fs_snoc A9 rfl X9
  have X10 : FnX l.prog w K mg base 12 "_law_tags" d_tags := fn_x (k := 11) (C := cc 28 _) (PySem.W.mg_of X G a10) F10 sc_tags b10 (T 28 _) (tw 28 _ 10) rfl rfl (fun X EX => dv.2.2.2.2.2.2.2.2.2.2.1 X EX _ _) A10
  have A11 := fs_snoc A10 rfl X10
  have X11 : FnX l.prog w K mg base 13 "_law_spoilt_route" d_spoilt_route := fn_x (k := 12) (C := cc 30 _) (PySem.W.mg_of X G a11) F11 sc_spoilt_route b11 (T 30 _) (tw 30 _ 11) rfl rfl (fun X EX => dv.2.2.2.2.2.2.2.2.2.2.2.1 X EX _ _) A11
  have A12 := fs_snoc A11 rfl X11
  have X12 : FnX l.prog w K mg base 14 "_law_spoilt_rule" d_spoilt_rule := fn_x (k := 13) (C := cc 31 _) (PySem.W.mg_of X G a12) F12 sc_spoilt_rule b12 (T 31 _) (tw 31 _ 12) rfl rfl (fun X EX => dv.2.2.2.2.2.2.2.2.2.2.2.2.1 X EX _ _) A12
  have A13 := fs_snoc A12 rfl X12
  have X13 : FnX l.prog w K mg base 15 "_law_good_route" d_good_route := fn_x (k := 14) (C := cc 32 _) (PySem.W.mg_of X G a13) F13 sc_good_route b13 (T 32 _) (tw 32 _ 13) rfl rfl (fun X EX => dv.2.2.2.2.2.2.2.2.2.2.2.2.2.1 X EX _ _) A13
  have A14 := fs_snoc A13 rfl X13
  have X14 : FnX l.prog w K mg base 16 "_law_good_rule" d_good_rule := fn_x (k := 15) (C := cc 33 _) (PySem.W.mg_of X G a14) F14 sc_good_rule b14 (T 33 _) (tw 33 _ 14) rfl rfl (fun X EX => dv.2.2.2.2.2.2.2.2.2.2.2.2.2.2.1 X EX _ _) A14
  have A15 := fs_snoc A14 rfl X14
  have X15 : FnX l.prog w K mg base 17 "_law_told" d_told := fn_x (k := 16) (C := cc 34 _) (PySem.W.mg_of X G a15) F15 sc_told b15 (T 34 _) (tw 34 _ 15) rfl rfl (fun X EX => dv.2.2.2.2.2.2.2.2.2.2.2.2.2.2.2.1 X EX _ _) A15
  have A16 := fs_snoc A15 rfl X15
  have Y := fn_ok (C := cc 35 _) (G := [d_is_prefix, d_is_path, d_are_tags, d_need_prefix, d_need_route, d_need_rule, d_cell, d_drawn, d_numbers, d_bits, d_tags, d_spoilt_route, d_spoilt_rule, d_good_route, d_good_rule, d_told]) (k := 17) F16 sc_law (T 35 _) (tw 35 _ 16) rfl rfl (fun X EX => dv.2.2.2.2.2.2.2.2.2.2.2.2.2.2.2.2 X EX _ _) (A16)
  refine Y.imp fun vs H Q E hq => ?_
  obtain ⟨h1, th, h, ds, wd, rv, d, h', e, q⟩ := hq
  refine ⟨h1, th, h, ds, wd, rv, ?_⟩
  have e : cutDen (runF [d_is_prefix, d_is_path, d_are_tags, d_need_prefix, d_need_route, d_need_rule, d_cell, d_drawn, d_numbers, d_bits, d_tags, d_spoilt_route, d_spoilt_rule, d_good_route, d_good_rule, d_told] 1 11 p_law) ds h = .ok d h' := e
  show match cutDen (runF [d_is_prefix, d_is_path, d_are_tags, d_need_prefix, d_need_route, d_need_rule, d_cell, d_drawn, d_numbers, d_bits, d_tags, d_spoilt_route, d_spoilt_rule, d_good_route, d_good_rule, d_told] 1 11 p_law) ds h with
    | .ok d h' => ∀ v H' th', RepV K H' th' d v → Wd K th' h' H' → Gr th th' H H' → Q v H'
    | .exc c h' => ∀ H' th', Wd K th' h' H' → Gr th th' H H' → E (ecV mg c) none H'
    | .bad => False
  rw [e]
  exact q
theorem walk {l : PySem.W.OpenLaw} {q : Program} {loose : List Str} {XP : (Str → Option Value) → Heap → Prop} {YP : World → Heap → Prop} {d : DefRec} {K : Params → PySem.W.Frag} (hn : l.most = some 63) (hdf : d.params.defaults = [])
    (hY : ∀ (w : World) (h : Heap), YP w h → (K w.params).In h)
    (F : ∀ (w : World) (mg : Str → Option Value) (fa : Addr) (h : Heap), (K w.params).In h → h.Ns mainGlobals mg → mg d.name = some (.ref fa) →
      ∃ fd : FuncData, (∀ (s : Shared) (u : Value), BindsTo s fd ⟨[u], []⟩ [("_law_script", u)]) ∧ ∀ base : Heap, (K w.params).In base → base.Ns mainGlobals mg → FnOk l.prog w (K w.params) mg base (CXM l.prog w) 18 fa fd ["_law_script"] (spL (K w.params))) :
    PySem.W.WalkO q loose XP YP l.row.toRowW d [] (fun f vs => PySem.call f vs) :=
  L2.walk_of (n := 63) (k := 18) (x := "_law_script") (CX := fun w => CXM l.prog w) (sp := fun w => spL (K w.params)) hn (by decide) hdf ⟨rfl, by decide, by decide⟩ hY F
    (fun w H a ns hl _ hS => ⟨rfl, [], [], [.lst (ns.map .int)], ⟨List.nodup_nil, rfl, fun a m => absurd m (by simp), fun n a o e => absurd e (by simp)⟩, .cons (.lst hS (by simp) (RepVs.ints ns)) .nil, _, _, x_law ns [] hl,
      fun v H' th' r _ _ => by cases r; rfl⟩) fun w H s e s' z => by
        obtain ⟨_, _, _, _, _, _, _, _, _, _, _, _, z⟩ := z
        exact z
end K10
open PySem PySem.W PyProof.Rows
set_option maxRecDepth 100000 in
set_option maxHeartbeats 0 in
theorem PySem.Challenge.cw_plainpath_k10_routes_and_rules_refused_holds : PySem.Challenge.rw_plainpath_k10_routes_and_rules_refused.Holds := by
  w_on; o_law; k_head; (case hw => w_witness2)
  k_fill
  refine K10.walk (l := PySem.Challenge.rw_plainpath_k10_routes_and_rules_refused) rfl rfl (fun w h Y => PySem.W.kIn_of Y) ?F
  case F =>
    intro w mg fa h KX G hmg
    refine' K10.all_mk KX G hmg ?a0 ?l0 ?c0 ?k0 ?a1 ?l1 ?c1 ?k1 ?a2 ?l2 ?c2 ?k2 ?a3 ?l3 ?c3 ?k3 ?a4 ?l4 ?c4 ?k4 ?a5 ?l5 ?c5 ?k5 ?a6 ?l6 ?c6 ?k6 ?a7 ?l7 ?c7 ?k7 ?a8 ?l8 ?c8 ?k8 ?a9 ?l9 ?c9 ?k9 ?a10 ?l10 ?c10 ?k10 ?a11 ?l11 ?c11 ?k11 ?a12 ?l12 ?c12 ?k12 ?a13 ?l13 ?c13 ?k13 ?a14 ?l14 ?c14 ?k14 ?a15 ?l15 ?c15 ?k15 ?a16 ?l16 ?c16 ?k16 ?a17 ?l17 ?c17 ?k17 ?m0 ?m1 ?m2 ?m3 ?m4 ?m5 ?m6 ?p0 ?p1 ?lp0 ?lp1 ?lr0 ?lr1 ?lr2 ?lr3 ?lr4 ?lr5 ?z_0 ?z_1 ?z_2 ?z_3 ?z_4 ?z_5 ?z_6 ?z_7 ?z_8 ?z_9 ?w_0 ?w_1 ?w_2 ?gg0 ?gg1 ?gg2 ?gg3 ?gg4 ?h0l ?h1l ?h2l ?h3l ?h4l ?h0ld ?h0ok ?h0in ?h1ld ?h1ok ?h1in ?h4ld ?h4ok ?h4in ?h4mb ?igt ?itk ?i0ga ?i0gn ?i0cl ?i0mo ?i0mb ?i0mv ?i0mp ?i0m0 ?i0m1 ?i0m2 ?i0m3 ?i1ga ?i1gn ?i1cl ?i1mo ?i1mb ?i1mv ?i1mp ?i1m0 ?i1m1 ?i1m2 ?i1m3 ?n01 ?n02 ?n03 ?n12 ?n13
    (case a0 => k_is)
    (case l0 => k_is)
    (case c0 => k_is)
    (case k0 => k_is)
    (case a1 => k_is)
    (case l1 => k_is)
    (case c1 => k_is)
    (case k1 => k_is)
    (case a2 => k_is)
    (case l2 => k_is)
    (case c2 => k_is)
    (case k2 => k_is)
    (case a3 => k_is)
    (case l3 => k_is)
    (case c3 => k_is)
    (case k3 => k_is)
    (case a4 => k_is)
    (case l4 => k_is)
    (case c4 => k_is)
    (case k4 => k_is)
    (case a5 => k_is)
    (case l5 => k_is)
    (case c5 => k_is)
    (case k5 => k_is)
    (case a6 => k_is)
    (case l6 => k_is)
    (case c6 => k_is)
    (case k6 => k_is)
    (case a7 => k_is)
    (case l7 => k_is)
    (case c7 => k_is)
    (case k7 => k_is)
    (case a8 => k_is)
    (case l8 => k_is)
    (case c8 => k_is)
    (case k8 => k_is)
    (case a9 => k_is)
    (case l9 => k_is)
    (case c9 => k_is)
    (case k9 => k_is)
    (case a10 => k_is)
    (case l10 => k_is)
    (case c10 => k_is)
    (case k10 => k_is)
    (case a11 => k_is)
    (case l11 => k_is)
    (case c11 => k_is)
    (case k11 => k_is)
    (case a12 => k_is)
    (case l12 => k_is)
    (case c12 => k_is)
    (case k12 => k_is)
    (case a13 => k_is)
    (case l13 => k_is)
    (case c13 => k_is)
    (case k13 => k_is)
    (case a14 => k_is)
    (case l14 => k_is)
    (case c14 => k_is)
    (case k14 => k_is)
    (case a15 => k_is)
    (case l15 => k_is)
    (case c15 => k_is)
    (case k15 => k_is)
    (case a16 => k_is)
    (case l16 => k_is)
    (case c16 => k_is)
    (case k16 => k_is)
    (case a17 => k_is)
    (case l17 => k_is)
    (case c17 => k_is)
    (case k17 => k_is)
    (case m0 => k_is)
    (case m1 => k_is)
    (case m2 => k_is)
    (case m3 => k_is)
    (case m4 => k_is)
    (case m5 => k_is)
    (case m6 => k_is)
    (case p0 => k_is)
    (case p1 => k_is)
    (case lp0 => k_is)
    (case lp1 => k_is)
    (case lr0 => k_is)
    (case lr1 => k_is)
    (case lr2 => k_is)
    (case lr3 => k_is)
    (case lr4 => k_is)
    (case lr5 => k_is)
    (case z_0 => k_is)
    (case z_1 => k_is)
    (case z_2 => k_is)
    (case z_3 => k_is)
    (case z_4 => k_is)
    (case z_5 => k_is)
    (case z_6 => k_is)
    (case z_7 => k_is)
    (case z_8 => k_is)
    (case z_9 => k_is)
    (case w_0 => k_is)
    (case w_1 => k_is)
    (case w_2 => k_is)
    (case gg0 => k_is)
    (case gg1 => k_is)
    (case gg2 => k_is)
    (case gg3 => k_is)
    (case gg4 => k_is)
    (case h0l => k_is)
    (case h1l => k_is)
    (case h2l => k_is)
    (case h3l => k_is)
    (case h4l => k_is)
    (case h0ld => k_is)
    (case h0ok => rfl)
    (case h0in => k_is)
    (case h1ld => k_is)
    (case h1ok => rfl)
    (case h1in => k_is)
    (case h4ld => k_is)
    (case h4ok => rfl)
    (case h4in => k_is)
    (case h4mb => k_is)
    (case igt => k_is)
    (case itk => k_is)
    (case i0ga => k_is)
    (case i0gn => k_is)
    (case i0cl => k_is)
    (case i0mo => k_is)
    (case i0mb => k_is)
    (case i0mv => k_is)
    (case i0mp => k_is)
    (case i0m0 => k_is)
    (case i0m1 => k_is)
    (case i0m2 => k_is)
    (case i0m3 => k_is)
    (case i1ga => k_is)
    (case i1gn => k_is)
    (case i1cl => k_is)
    (case i1mo => k_is)
    (case i1mb => k_is)
    (case i1mv => k_is)
    (case i1mp => k_is)
    (case i1m0 => k_is)
    (case i1m1 => k_is)
    (case i1m2 => k_is)
    (case i1m3 => k_is)
    (case n01 => rfl)
    (case n02 => rfl)
    (case n03 => rfl)
    (case n12 => rfl)
    (case n13 => rfl)
