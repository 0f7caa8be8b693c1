import PyProof.Rows.All
import Wide.All
import OpenK.AllK
import Wide.FinOn
import Lean
import PyProof.EqAt
import PyProof.EqKinds
import PyProof.TupleCall
import PySem.Challenge.RW_sayswho_k05_whole_words_worth

set_option Elab.async false
set_option linter.all false
set_option maxRecDepth 100000
/-! THE HAND LAYER, for ints, bools, texts, own classes, LISTS and tuples (index, slices, in, append, pop ..), calls, loops. Paste it whole ahead of your own text; what your proof does not reach may be deleted. -/
namespace L2
open PySem PySem.Spec PyProof.Rows

/-- a key: an int or a str -/
abbrev Key := Sum Int Str
def keyIs : Key → Value → Bool
  | .inl k, v => Value.isInt k v
  | .inr x, v => Value.isStrOf x v
def keyH (w : World) : Key → Int
  | .inl k => hashInt k
  | .inr x => hashStr w x
theorem keyIs_shape : ∀ {k : Key} {v : Value}, keyIs k v = true → (∃ i t, k = Sum.inl i ∧ v = Value.int i t) ∨ (∃ x t, k = Sum.inr x ∧ v = Value.str x t)
  | .inl i, v, h => by
    obtain ⟨t, e⟩ := Value.isInt_shape (k := i) (v := v) h
    exact .inl ⟨i, t, rfl, e⟩
  | .inr x, v, h => by
    obtain ⟨t, e⟩ := Value.isStrOf_shape (x := x) (v := v) h
    exact .inr ⟨x, t, rfl, e⟩
theorem keyIs_int (i : Int) (t : Tok) : keyIs (.inl i) (.int i t) = true := by simp [keyIs, Value.isInt]
theorem keyIs_str (x : Str) (t : Tok) : keyIs (.inr x) (.str x t) = true := by simp [keyIs, Value.isStrOf]
theorem key_ll (a b : Int) : decide ((Sum.inl a : Key) = Sum.inl b) = (a == b) := by
  by_cases e : a = b
  · subst e; simp
  · have h : ¬ (Sum.inl a : Key) = Sum.inl b := fun q => e (Sum.inl.inj q)
    rw [decide_eq_false h]
    exact (beq_eq_false_iff_ne.mpr e).symm
theorem key_rr (a b : Str) : decide ((Sum.inr a : Key) = Sum.inr b) = decide (a = b) := by
  by_cases e : a = b
  · subst e; simp
  · have h : ¬ (Sum.inr a : Key) = Sum.inr b := fun q => e (Sum.inr.inj q)
    rw [decide_eq_false h, decide_eq_false e]
theorem key_lr (a : Int) (b : Str) : decide ((Sum.inl a : Key) = Sum.inr b) = false := decide_eq_false (fun q => nomatch q)
theorem key_rl (a : Str) (b : Int) : decide ((Sum.inr a : Key) = Sum.inl b) = false := decide_eq_false (fun q => nomatch q)

def mixKind (prog : Program) (w : World) : PySem.KeyKind prog w Key where
  is := keyIs
  hash := keyH w
  inj := fun v a b ha hb => by
    rcases keyIs_shape ha with ⟨i, t, rfl, rfl⟩ | ⟨x, t, rfl, rfl⟩
    · rcases keyIs_shape hb with ⟨j, u, rfl, e⟩ | ⟨y, u, rfl, e⟩
      · injection e with e1 _; rw [e1]
      · exact nomatch e
    · rcases keyIs_shape hb with ⟨j, u, rfl, e⟩ | ⟨y, u, rfl, e⟩
      · exact nomatch e
      · injection e with e1 _; rw [e1]
  byValue := fun k v h => by
    rcases keyIs_shape h with ⟨i, t, rfl, rfl⟩ | ⟨x, t, rfl, rfl⟩ <;> rfl
  pyHash := fun hv h => by
    rcases keyIs_shape hv with ⟨i, t, rfl, rfl⟩ | ⟨x, t, rfl, rfl⟩
    · exact wpAny_pyHash_int h
    · exact wpAny_pyHash_str h
  eqBool := fun hu hv h => by
    rcases keyIs_shape hu with ⟨i, t, rfl, rfl⟩ | ⟨x, t, rfl, rfl⟩
    · rcases keyIs_shape hv with ⟨j, u, rfl, rfl⟩ | ⟨y, u, rfl, rfl⟩
      · rw [key_ll] at h; exact wpAny_eqBool_int h
      · rw [key_lr] at h; exact SeqAt.EqAt.int_str i t y u _ _ _ _ h
    · rcases keyIs_shape hv with ⟨j, u, rfl, rfl⟩ | ⟨y, u, rfl, rfl⟩
      · rw [key_rl] at h; exact SeqAt.EqAt.str_int x t j u _ _ _ _ h
      · rw [key_rr] at h; exact wpAny_eqBool_str h
  «strs» := fun k x t v h => by
    rcases keyIs_shape h with ⟨i, u, rfl, e⟩ | ⟨y, u, rfl, e⟩
    · exact nomatch e
    · injection e with e1 _
      subst e1
      cases v <;> rfl

theorem mixKind_int (prog : Program) (w : World) (i : Int) (t : Tok) : (mixKind prog w).is (.inl i) (.int i t) = true := keyIs_int i t
theorem mixKind_str (prog : Program) (w : World) (x : Str) (t : Tok) : (mixKind prog w).is (.inr x) (.str x t) = true := keyIs_str x t
end L2

namespace L2
open PySem PySem.Spec PyProof.Rows

/-- a value, without the heap -/
inductive V where
  | non | bl (b : Bool) | int (i : Int) | str (x : Str) | byt (b : Array UInt8) | flt (b : UInt64) | ref (a : Addr) | ty (n : String)
  deriving DecidableEq

def RelV : V → Value → Prop
  | .non, u => u = Value.none
  | .bl b, u => u = Value.bool b
  | .int i, u => ∃ t, u = Value.int i t
  | .str x, u => ∃ t, u = Value.str x t
  | .byt b, u => ∃ t, u = Value.bytes b t
  | .flt b, u => ∃ t, u = Value.float b t
  | .ref a, u => u = Value.ref a
  | .ty n, u => u = Value.type n

abbrev Vals : List V → List Value → Prop := Paired RelV
theorem Vals.length {xs : List V} {us : List Value} (r : Vals xs us) : xs.length = us.length := Paired.length r
theorem Vals.get : ∀ {xs : List V} {us : List Value} {i : Nat} {x : V}, Vals xs us → xs[i]? = some x → ∃ u, us[i]? = some u ∧ RelV x u
  | _, _, _, _, .nil, e => by simp at e
  | _, _, 0, _, .cons r _, e => by simp at e; subst e; exact ⟨_, rfl, r⟩
  | _, _, i + 1, x, .cons _ t, e => by
    obtain ⟨u, h1, h2⟩ := Vals.get (i := i) (x := x) t (by simpa using e)
    exact ⟨u, by simpa using h1, h2⟩
theorem Vals.set {x : V} {u : Value} (r : RelV x u) : ∀ {xs : List V} {us : List Value} (i : Nat), Vals xs us → Vals (xs.set i x) (us.set i u)
  | _, _, _, .nil => .nil
  | _, _, 0, .cons _ t => .cons r t
  | _, _, i + 1, .cons q t => .cons q (Vals.set r i t)
theorem Vals.append : ∀ {xs ys : List V} {us ws : List Value}, Vals xs us → Vals ys ws → Vals (xs ++ ys) (us ++ ws)
  | _, _, _, _, .nil, s => s
  | _, _, _, _, .cons r t, s => .cons r (Vals.append t s)
theorem Vals.take : ∀ {xs : List V} {us : List Value} (n : Nat), Vals xs us → Vals (xs.take n) (us.take n)
  | _, _, 0, _ => .nil
  | _, _, _ + 1, .nil => .nil
  | _, _, n + 1, .cons r t => .cons r (Vals.take n t)
theorem Vals.drop : ∀ {xs : List V} {us : List Value} (n : Nat), Vals xs us → Vals (xs.drop n) (us.drop n)
  | _, _, 0, r => r
  | _, _, _ + 1, .nil => .nil
  | _, _, n + 1, .cons _ t => Vals.drop n t
theorem Vals.none_of : ∀ {xs : List V} {us : List Value} {i : Nat}, Vals xs us → xs[i]? = none → us[i]? = none := fun {xs us i} r e => by
  have h1 := r.length
  have h2 : xs.length ≤ i := List.getElem?_eq_none_iff.mp e
  exact List.getElem?_eq_none_iff.mpr (by omega)

def RelO : Option V → Option Value → Prop
  | some v, some u => RelV v u
  | none, none => True
  | _, _ => False
def KV {κ : Type} : List (κ × V) → List (κ × Value) → Prop := Paired fun (p : κ × V) (q : κ × Value) => p.1 = q.1 ∧ RelV p.2 q.2

/-- a key of a dict (00_mix): an int or a text -/
def kV : Key → V
  | .inl i => .int i
  | .inr x => .str x

/-- what stands at a tracked address -/
inductive HO where
  /-- a list -/
  | lst (xs : List V)
  /-- a tuple (never changes) -/
  | tup (xs : List V)
  /-- a dict whose keys are ints and texts; one whose keys are tuples of ints and texts (the empty one is both) -/
  | dK (kvs : List (Key × V)) | dT (kvs : List (List Key × V))
  /-- a set of ints: its members, its size -/
  | set (S : Int → Bool) (n : Nat)
  /-- an instance of the class at C, its dict at dx, its attributes -/
  | ins (C dx : Addr) (fs : List (Str × V))
  /-- the dict of the instance at x -/
  | own (x : Addr)
  /-- the dict of an exception -/
  | xd (fs : List (Str × V))
  /-- a bound method, f of x -/
  | met (f x : Addr)
  /-- a range object lo, lo + 1, .. below hi -/
  | rng (lo hi : Int)
  /-- a thing that is known to the object (the script; a dict while a loop walks it): read, never written while it is so -/
  | frz (o : Obj) (u : HO)
  /-- a code object's table -/
  | tbl (ps : Array Value)
  /-- any other thing, by what is true of its one object (a def of one's own: SetO a S n := HO.ext fun h => ..) -/
  | ext (φ : Heap → Prop)

abbrev Hp := Addr → Option HO
def upd (H : Hp) (a : Addr) (o : HO) : Hp := fun b => if b = a then some o else H b
theorem upd_same {H : Hp} {a : Addr} {o : HO} : upd H a o a = some o := by unfold upd; rw [if_pos rfl]
theorem upd_ne {H : Hp} {a b : Addr} {o : HO} (h : b ≠ a) : upd H a o b = H b := by unfold upd; rw [if_neg h]
theorem ne_of_none {H : Hp} {a b : Addr} {o : HO} (h : H a = some o) (h' : H b = none) : a ≠ b := by
  intro e; subst e; rw [h] at h'; cases h'

section
variable (P : Program) (w : World)
def ObjOk (H : Hp) (h : Heap) (a : Addr) : HO → Prop
  | .lst xs => xs.length ≤ sizeLine ∧ ∃ (its : List Value) (n : Nat), Vals xs its ∧ h.get? a = some { cls := .type "list", data := .seq its.toArray n }
  | .tup xs => xs.length ≤ sizeLine ∧ ∃ its : List Value, Vals xs its ∧ IsTup h a its.toArray
  | .dK kvs => kvs.length ≤ sizeLine ∧ (a == sysModules) = false ∧ ∃ vs, KV kvs vs ∧ h.DictOf (mixKind P w) a vs
  | .dT kvs => kvs.length ≤ sizeLine ∧ (a == sysModules) = false ∧ ∃ xs : List (List Key × Addr × Value),
      Paired (fun (p : List Key × V) (q : List Key × Addr × Value) => p.1 = q.1 ∧ H q.2.1 = some (.tup (p.1.map kV)) ∧ RelV p.2 q.2.2) kvs xs ∧
      ∃ o es ep, h.get? a = some o ∧ o.ExactDict ∧ o.data = .dict es ep ∧ es.toList = xs.map (entryOfKey (tupleKind (mixKind P w))) ∧ (xs.map (·.1)).Nodup
  | .set S n => h.SetOf (intKind P w) a S n
  | .ins C dx fs => H dx = some (.own a) ∧ fs.length ≤ 1000 ∧ dx ≠ a ∧ h.get? a = some (PySem.W.instObj C dx) ∧
      ∃ mA, h.Ns1 dx mA ∧ (∀ f, RelO (fs.lookup f) (mA f)) ∧ PySem.Within mA (fs.map (·.1))
  | .own _ => ∃ o, h.get? a = some o
  | .xd fs => ∃ mA, h.Ns1 a mA ∧ ∀ f, RelO (fs.lookup f) (mA f)
  | .rng lo hi => ∃ t u v, h.get? a = some { cls := .type "range", data := .fields #[.int lo t, .int hi u, .int 1 v] }
  | .frz o u => h.get? a = some o ∧ ObjOk H h a u
  | .tbl ps => h.get? a = some { cls := .none, data := .fields ps }
  | .met f x => h.get? a = some (PySem.W.methodObj (.ref f) (.ref x))
  | .ext φ => φ h ∧ (∃ o, h.get? a = some o) ∧ ∀ h1 h2 : Heap, φ h1 → (∀ o, h1.get? a = some o → h2.get? a = some o) → φ h2
/-- the abstract heap is held -/
def HOk (H : Hp) (h : Heap) : Prop := ∀ a o, H a = some o → ObjOk P w H h a o
end

section
variable {P : Program} {w : World} {H H' : Hp} {h h' : Heap} {a : Addr} {o : HO}
theorem ObjOk.lt (x : ObjOk P w H h a o) : a < h.objs.size := by
  cases o with
  | lst xs => obtain ⟨_, _, _, _, e⟩ := x; exact Heap.lt_size e
  | tup xs => obtain ⟨_, _, _, p⟩ := x; exact p.lt
  | dK kvs => obtain ⟨_, _, _, _, o, _, _, e, _⟩ := x; exact Heap.lt_size e
  | dT kvs => obtain ⟨_, _, _, _, o, _, _, e, _⟩ := x; exact Heap.lt_size e
  | set S n => obtain ⟨o, _, _, _, e, _⟩ := x; exact Heap.lt_size e
  | ins C dx fs => obtain ⟨_, _, _, e, _⟩ := x; exact Heap.lt_size e
  | own y => obtain ⟨_, e⟩ := x; exact Heap.lt_size e
  | xd fs => obtain ⟨_, ⟨_, _, _, e, _⟩, _⟩ := x; exact Heap.lt_size e
  | rng lo hi => obtain ⟨_, _, _, e⟩ := x; exact Heap.lt_size e
  | frz ob u => obtain ⟨e, _⟩ := x; exact Heap.lt_size e
  | tbl ps => exact Heap.lt_size (show h.get? a = some _ from x)
  | met f y => exact Heap.lt_size (show h.get? a = some _ from x)
  | ext φ => obtain ⟨_, ⟨_, e⟩, _⟩ := x; exact Heap.lt_size e
theorem Paired.mapP {α β : Type} {F G : α → β → Prop} : ∀ {l₁ : List α} {l₂ : List β}, Paired F l₁ l₂ → (∀ a b, F a b → G a b) → Paired G l₁ l₂
  | _, _, .nil, _ => .nil
  | _, _, .cons r t, f => .cons (f _ _ r) (Paired.mapP t f)
/-- what an object's description leans on: its own object, its own dict, the tuples -/
theorem ObjOk.stay (x : ObjOk P w H h a o) (k : ∀ b u, (b = a ∨ H b = some (.own a)) → h.get? b = some u → h'.get? b = some u)
    (ho : ∀ b, H b = some (.own a) → H' b = some (.own a)) (ht : ∀ b xs, H b = some (.tup xs) → H' b = some (.tup xs)) : ObjOk P w H' h' a o := by
  induction o with
  | lst xs => obtain ⟨z, its, n, r, e⟩ := x; exact ⟨z, its, n, r, k _ _ (.inl rfl) e⟩
  | tup xs => obtain ⟨z, its, r, ob, e, c⟩ := x; exact ⟨z, its, r, ob, k _ _ (.inl rfl) e, c⟩
  | dK kvs => obtain ⟨z, y, vs, r, ob, es, ep, e, c⟩ := x; exact ⟨z, y, vs, r, ob, es, ep, k _ _ (.inl rfl) e, c⟩
  | dT kvs =>
    obtain ⟨z, y, xs, r, ob, es, ep, e, c⟩ := x
    exact ⟨z, y, xs, Paired.mapP r fun p q z => ⟨z.1, ht _ _ z.2.1, z.2.2⟩, ob, es, ep, k _ _ (.inl rfl) e, c⟩
  | set S n => obtain ⟨ob, es, ep, t, e, c⟩ := x; exact ⟨ob, es, ep, t, k _ _ (.inl rfl) e, c⟩
  | ins C dx fs =>
    obtain ⟨d, z, ne, e, mA, ⟨od, es, ep, e2, c⟩, r⟩ := x
    exact ⟨ho _ d, z, ne, k _ _ (.inl rfl) e, mA, ⟨od, es, ep, k _ _ (.inr d) e2, c⟩, r⟩
  | own y => obtain ⟨ob, e⟩ := x; exact ⟨ob, k _ _ (.inl rfl) e⟩
  | xd fs => obtain ⟨mA, ⟨od, es, ep, e, c⟩, r⟩ := x; exact ⟨mA, ⟨od, es, ep, k _ _ (.inl rfl) e, c⟩, r⟩
  | rng lo hi => obtain ⟨t, u, v, e⟩ := x; exact ⟨t, u, v, k _ _ (.inl rfl) e⟩
  | frz ob u ih => obtain ⟨e, q⟩ := x; exact ⟨k _ _ (.inl rfl) e, ih q⟩
  | tbl ps =>
    have e : h.get? a = some { cls := .none, data := .fields ps } := x
    show h'.get? a = some { cls := .none, data := .fields ps }
    exact k a _ (.inl rfl) e
  | met f y =>
    have e : h.get? a = some (PySem.W.methodObj (.ref f) (.ref y)) := x
    show h'.get? a = some (PySem.W.methodObj (.ref f) (.ref y))
    exact k a _ (.inl rfl) e
  | ext φ => obtain ⟨p, ⟨o, e⟩, st⟩ := x; exact ⟨st _ _ p fun o q => k _ _ (.inl rfl) q, ⟨o, k _ _ (.inl rfl) e⟩, st⟩
theorem HOk.lt (x : HOk P w H h) (e : H a = some o) : a < h.objs.size := (x a o e).lt
theorem HOk.fresh (x : HOk P w H h) (e : h.objs.size ≤ a) : H a = none := by
  cases q : H a with
  | none => rfl
  | some u => exact absurd (Nat.lt_of_lt_of_le (x.lt q) e) (Nat.lt_irrefl _)
/-- every object of the heap is kept -/
theorem HOk.kept (x : HOk P w H h) (k : ∀ b u, h.get? b = some u → h'.get? b = some u) : HOk P w H h' := fun a o e =>
  (x a o e).stay (fun b u _ q => k b u q) (fun _ q => q) fun _ _ q => q
/-- a new object is laid and tracked -/
theorem HOk.laid (x : HOk P w H h) (k : ∀ b u, h.get? b = some u → h'.get? b = some u) (hp : h.objs.size ≤ a) (new : ObjOk P w (upd H a o) h' a o) : HOk P w (upd H a o) h' := fun b u e => by
  have hn := x.fresh hp
  by_cases hb : b = a
  · subst hb; rw [upd_same] at e; cases e; exact new
  · rw [upd_ne hb] at e
    exact (x b u e).stay (fun c v _ q => k c v q) (fun c q => by rw [upd_ne (ne_of_none q hn)]; exact q) fun c xs q => by rw [upd_ne (ne_of_none q hn)]; exact q
end

/-- what may be read as u: it is u, or a known u -/
def Rd (H : Hp) (a : Addr) (u : HO) : Prop := H a = some u ∨ ∃ o, H a = some (.frz o u)
theorem Rd.of {H : Hp} {a : Addr} {u : HO} (h : H a = some u) : Rd H a u := .inl h
theorem Rd.ok {P : Program} {w : World} {H : Hp} {h : Heap} {a : Addr} {u : HO} (r : Rd H a u) (x : HOk P w H h) : ObjOk P w H h a u := by
  rcases r with r | ⟨o, r⟩
  · exact x a u r
  · obtain ⟨_, q⟩ := x a _ r
    exact q
/-- what may be written -/
def Mut : Option HO → Prop
  | some (.lst _) => True
  | some (.dK _) => True
  | some (.dT _) => True
  | some (.set _ _) => True
  | some (.ins _ _ _) => True
  | some (.ext _) => True
  | _ => False
section
variable {P : Program} {w : World} {H : Hp} {h h' : Heap} {x e : Addr} {o' : HO}
/-- the object at e is changed: x itself, or the dict of the instance x -/
theorem HOk.write (ok : HOk P w H h) (mu : Mut (H x)) (he : e = x ∨ H e = some (.own x)) (k : ∀ b u, b ≠ e → h.get? b = some u → h'.get? b = some u) (heo : ∃ u, h'.get? e = some u)
    (new : ObjOk P w (upd H x o') h' x o') : HOk P w (upd H x o') h' := fun b u q => by
  have nown : ∀ c y, H c = some (.own y) → c ≠ x := fun c y r z => by subst z; rw [r] at mu; exact mu
  have ntup : ∀ c xs, H c = some (.tup xs) → c ≠ x := fun c xs r z => by subst z; rw [r] at mu; exact mu
  by_cases hb : b = x
  · subst hb; rw [upd_same] at q; cases q; exact new
  · rw [upd_ne hb] at q
    by_cases hbe : b = e
    · have q' : H b = some (.own x) := by
        rcases he with z | z
        · exact absurd (hbe.trans z) hb
        · rw [hbe]; exact z
      rw [q] at q'; cases q'
      obtain ⟨v, hv⟩ := heo
      exact ⟨v, by rw [hbe]; exact hv⟩
    · refine (ok b u q).stay (fun c v hc r => k c v ?_ r) (fun c r => by rw [upd_ne (nown c b r)]; exact r) fun c xs r => by rw [upd_ne (ntup c xs r)]; exact r
      rcases hc with rfl | hc
      · exact hbe
      · rintro rfl
        rcases he with z | z
        · exact nown c b hc z
        · rw [hc] at z; cases z; exact hb rfl
end

/-! ### kept unless tracked; of the frames at fs (the callers') the slots may change (an exception that passes writes there); of the records at ex (iterators) nothing is said -/
structure Un (fs ex : List Addr) (H H' : Hp) (h h' : Heap) : Prop where
  keep : ∀ b o, h.get? b = some o → H b = none → b ∉ fs → b ∉ ex → h'.get? b = some o
  slot : ∀ b o, h.get? b = some o → H b = none → b ∈ fs → b ∉ ex → ∃ sl, h'.get? b = some { o with slots := sl }
  free : ∀ b o, h.get? b = some o → H b = none → b ∉ ex → H' b = none
  there : ∀ b o, h.get? b = some o → b ∉ ex → ∃ o', h'.get? b = some o'
  tups : ∀ b xs, H b = some (.tup xs) → H' b = some (.tup xs)
  frzs : ∀ b o u, H b = some (.frz o u) → H' b = some (.frz o u)
  tbls : ∀ b ps, H b = some (.tbl ps) → ∃ more, H' b = some (.tbl (ps ++ more))
section
variable {fs fs' ex ex' : List Addr} {H H1 H2 : Hp} {h h1 h2 h' : Heap} {a x e : Addr} {o : HO}
theorem Un.any (u : Un fs ex H H1 h h1) {b : Addr} {ob : Obj} (q : h.get? b = some ob) (n : H b = none) (hx : b ∉ ex) : ∃ sl, h1.get? b = some { ob with slots := sl } := by
  by_cases hb : b ∈ fs
  · exact u.slot b ob q n hb hx
  · exact ⟨ob.slots, u.keep b ob q n hb hx⟩
theorem Un.trans (a : Un fs ex H H1 h h1) (b : Un fs ex H1 H2 h1 h2) : Un fs ex H H2 h h2 where
  keep := fun c ob q n hc hx => b.keep c ob (a.keep c ob q n hc hx) (a.free c ob q n hx) hc hx
  slot := fun c ob q n hc hx => by
    obtain ⟨sl, e1⟩ := a.slot c ob q n hc hx
    obtain ⟨sl', e2⟩ := b.slot c _ e1 (a.free c ob q n hx) hc hx
    exact ⟨sl', e2⟩
  free := fun c ob q n hx => by
    obtain ⟨o', e1⟩ := a.there c ob q hx
    exact b.free c o' e1 (a.free c ob q n hx) hx
  there := fun c ob q hx => by
    obtain ⟨o', e1⟩ := a.there c ob q hx
    exact b.there c o' e1 hx
  tups := fun c xs q => b.tups c xs (a.tups c xs q)
  frzs := fun c ob xs q => b.frzs c ob xs (a.frzs c ob xs q)
  tbls := fun c ps q => by
    obtain ⟨m1, e1⟩ := a.tbls c ps q
    obtain ⟨m2, e2⟩ := b.tbls c _ e1
    exact ⟨m1 ++ m2, by rw [e2, Array.append_assoc]⟩
theorem Un.kept (k : ∀ b u, h.get? b = some u → h'.get? b = some u) : Un fs ex H H h h' :=
  ⟨fun b ob q _ _ _ => k b ob q, fun b ob q _ _ _ => ⟨ob.slots, k b ob q⟩, fun _ _ _ n _ => n, fun b ob q _ => ⟨ob, k b ob q⟩, fun _ _ q => q, fun _ _ _ q => q, fun _ ps q => ⟨#[], by rw [q]; simp⟩⟩
theorem Un.refl : Un fs ex H H h h := Un.kept fun _ _ q => q
theorem Un.laid (k : ∀ b u, h.get? b = some u → h'.get? b = some u) (hp : h.objs.size ≤ a) (hn : H a = none) : Un fs ex H (upd H a o) h h' where
  keep := fun b u q _ _ _ => k b u q
  slot := fun b u q _ _ _ => ⟨u.slots, k b u q⟩
  free := fun b u q n _ => by rw [upd_ne (Nat.ne_of_lt (Nat.lt_of_lt_of_le (Heap.lt_size q) hp))]; exact n
  there := fun b u q _ => ⟨u, k b u q⟩
  tups := fun b xs q => by rw [upd_ne (ne_of_none q hn)]; exact q
  frzs := fun b u xs q => by rw [upd_ne (ne_of_none q hn)]; exact q
  tbls := fun b ps q => ⟨#[], by rw [upd_ne (ne_of_none q hn), q]; simp⟩
theorem Un.write (mu : Mut (H x)) (he : e = x ∨ H e = some (.own x)) (k : ∀ b u, b ≠ e → h.get? b = some u → h'.get? b = some u) (heo : ∃ u, h'.get? e = some u) : Un fs ex H (upd H x o) h h' := by
  have hx : ∀ b, H b = none → b ≠ x := fun b n z => by subst z; rw [n] at mu; exact mu
  have hb : ∀ b, H b = none → b ≠ e := fun b n z => by
    subst z
    rcases he with r | r
    · exact hx b n r
    · rw [n] at r; cases r
  have hm : ∀ b u, H b = some u → ¬ Mut (some u) → b ≠ x := fun b u q nm z => by subst z; rw [q] at mu; exact nm mu
  refine ⟨fun b u q n _ _ => k b u (hb b n) q, fun b u q n _ _ => ⟨u.slots, k b u (hb b n) q⟩, fun b u q n _ => by rw [upd_ne (hx b n)]; exact n, fun b u q _ => ?_,
    fun b xs q => by rw [upd_ne (hm b _ q fun z => z)]; exact q, fun b u xs q => by rw [upd_ne (hm b _ q fun z => z)]; exact q, fun b ps q => ⟨#[], by rw [upd_ne (hm b _ q fun z => z), q]; simp⟩⟩
  by_cases hbe : b = e
  · subst hbe; exact heo
  · exact ⟨u, k b u hbe q⟩
theorem Un.mono (u : Un fs ex H H1 h h1) (hs : ∀ b ∈ fs, b ∈ fs') (hx : ∀ b ∈ ex, b ∈ ex') : Un fs' ex' H H1 h h1 :=
  ⟨fun b ob q n hb he => u.keep b ob q n (fun z => hb (hs b z)) fun z => he (hx b z), fun _ _ q n _ he => u.any q n fun z => he (hx _ z), fun b ob q n he => u.free b ob q n fun z => he (hx b z), fun b ob q he => u.there b ob q fun z => he (hx b z), u.tups, u.frzs, u.tbls⟩
end

/-! ### the heap without what is tracked -/
def trk (h : Heap) (H : Hp) : List Addr := (List.range h.objs.size).filter fun a => (H a).isSome
def hidT (h : Heap) (H : Hp) : Heap := PySem.W.hideAll h (trk h H)
theorem hidT_size (h : Heap) (H : Hp) : (hidT h H).objs.size = h.objs.size := PySem.W.hideAll_size _ _
theorem hidT_get {h : Heap} {H : Hp} {b : Addr} {o : Obj} (e : h.get? b = some o) (n : H b = none) : (hidT h H).get? b = some o :=
  PySem.W.hideAll_get _ e fun hm => by
    have q : (H b).isSome = true := (List.mem_filter.mp hm).2
    rw [n] at q; simp at q
theorem of_hidT {h : Heap} {H : Hp} {b : Addr} {o : Obj} (e : (hidT h H).get? b = some o) : h.get? b = some o ∧ H b = none := by
  have e' : h.get? b = some o := PySem.W.of_hideAll (trk h H) e
  refine ⟨e', ?_⟩
  cases q : H b with
  | none => rfl
  | some x =>
    have hm : b ∈ trk h H := List.mem_filter.mpr ⟨List.mem_range.mpr (Heap.lt_size e'), by simp [q]⟩
    have z : (hidT h H).get? b = none := PySem.W.hideAll_none (trk h H) hm
    rw [z] at e; cases e

/-! ### OpenK's ledger, filled with every new object but one -/
def allNews (g h : Heap) (L : Addr) : List (Addr × Obj) := (List.range h.objs.size).filterMap fun a => if a = L ∨ (g.get? a).isSome = true then none else (h.get? a).map fun o => (a, o)
def rest (g h : Heap) (L d : Addr) : List (Addr × Obj) := (allNews g h L).filter fun p => decide (p.1 ≠ d)
end L2

namespace L2
open PySem PySem.Spec PyProof.Rows

/-- the module's facts, over the base: the heap at the law's entry without what is tracked there -/
structure Mod (K : PySem.W.Frag) (mg : Str → Option Value) (base : Heap) : Prop where
  kin : K.In base
  glob : base.Ns mainGlobals mg
  blt : ∃ mb, base.Ns builtinsNs mb ∧ ∀ x : Str, x ≠ "__name__" → mb x = bootBuiltins x
  nolimit : base.NoLimit

/-- the context: a def's body (or a comprehension's block) running. base: fixed through the whole law; s₀, H₀: the entry; outer: the frames whose slots others may change (a def's callers); stack: all frames that run;
   ex: iterators that were made ahead of the entry and are walked here (a comprehension's); fn: the names whose cells were made at the entry (a def: all; a comprehension's block: its own); calm: not within an except suite; pn: pins that every state bears; xe: what is wanted of an exception that leaves the code -/
structure Cx where
  prog : Program
  w : World
  K : PySem.W.Frag
  mg : Str → Option Value
  base : Heap
  A : Around
  N : List Str
  s₀ : Shared
  H₀ : Hp
  env : Env
  outer : List Env
  stack : List Env
  ex : List Addr
  fn : Str → Bool
  calm : Bool
  pn : List (Addr × Obj)
  xe : Value → Shared → Prop
/-- the callers' frames -/
def frs (l : List Env) : List Addr := l.filterMap (·.frame)
abbrev Cx.fs (X : Cx) : List Addr := frs X.outer

def Vis (sc : Scope) (x : Str) : Prop := sc.names.lookup x = some .local ∨ sc.names.lookup x = some .cell ∨ sc.names.lookup x = some .free
def Loc (sc : Scope) (x : Str) : Prop := sc.names.lookup x = some .local ∨ sc.names.lookup x = some .cell
def Look (env : Env) (h : Heap) (m : Str → Option Value) (x : Str) (u : Value) : Prop :=
  (env.kindOf x = some .local ∧ m x = some u) ∨ ((env.kindOf x = some .cell ∨ env.kindOf x = some .free) ∧ ∃ c, env.cells.lookup x = some c ∧ h.IsCell c (some u))

structure Cx.Ok (X : Cx) : Prop where
  mod : Mod X.K X.mg X.base
  kind : X.env.scope.kind = .function
  glob : X.env.globals = mainGlobals
  blt : X.env.builtins = builtinsNs
  above : X.s₀.heap.objs.size ≤ X.env.locals
  inj : ∀ x y c, X.env.cells.lookup x = some c → X.env.cells.lookup y = some c → x = y
  has : ∀ x, (X.env.kindOf x = some .cell ∨ X.env.kindOf x = some .free) → ∃ c, X.env.cells.lookup x = some c
  cab : ∀ x c, X.fn x = true → X.env.cells.lookup x = some c → X.s₀.heap.objs.size ≤ c
  hd : X.calm = true → X.A.handled = none
  frames : X.A.frames = some X.stack
  stk : X.stack = X.outer ∨ (X.stack = X.env :: X.outer ∧ X.env.frame = some X.env.locals)
  exf : ∀ b ∈ X.ex, b ≠ X.env.locals ∧ ∀ x c, X.env.cells.lookup x = some c → c ≠ b
  bs : ∀ b o, X.base.get? b = some o → X.s₀.heap.get? b = some o ∧ X.H₀ b = none
  bsz : X.base.objs.size ≤ X.s₀.heap.objs.size
  noex : ∀ b o, X.base.get? b = some o → b ∉ X.ex
  exfs : ∀ b ∈ X.ex, b ∉ X.fs
  funs : X.s₀.heap.FunFrames X.base X.outer
  frf : ∀ b ∈ X.fs, X.H₀ b = none

structure Inv (X : Cx) (pins : List (Addr × Obj)) (σ : List (Option V)) (H : Hp) (s : Shared) : Prop where
  ok : X.Ok
  os : s.os = X.s₀.os
  bare : AllBare s.gens
  base : Un X.fs X.ex X.H₀ H X.s₀.heap s.heap
  loc : ∃ m, s.heap.Ns X.env.locals m ∧ ∀ (i : Nat) (x : Str) (v : V), X.N[i]? = some x → σ[i]? = some (some v) → Vis X.env.scope x → ∃ u, RelV v u ∧ Look X.env s.heap m x u
  cell : ∀ x c, X.env.cells.lookup x = some c → ∃ v, s.heap.IsCell c v
  free : H X.env.locals = none
  freeC : ∀ x c, X.env.cells.lookup x = some c → H c = none
  pin : ∀ p ∈ X.pn ++ pins, s.heap.get? p.1 = some p.2 ∧ H p.1 = none ∧ p.1 ≠ X.env.locals ∧ p.1 ∉ X.fs ∧ ∀ v, p.2.data ≠ .cell v
  hok : HOk X.prog X.w H s.heap
  len : σ.length = X.N.length

section
variable {X : Cx} {pins : List (Addr × Obj)} {σ : List (Option V)} {H H' : Hp} {s : Shared} {h' : Heap}

theorem Cx.Ok.nofr (ok : X.Ok) {b : Addr} {o : Obj} (e : X.base.get? b = some o) : b ∉ X.fs := fun hb => by
  have := (ok.funs.mem hb).1
  rw [e] at this; cases this
theorem Inv.bs (I : Inv X pins σ H s) : ∀ b o, X.base.get? b = some o → s.heap.get? b = some o ∧ H b = none := fun b o e =>
  ⟨I.base.keep b o (I.ok.bs b o e).1 (I.ok.bs b o e).2 (I.ok.nofr e) (I.ok.noex b o e), I.base.free b o (I.ok.bs b o e).1 (I.ok.bs b o e).2 (I.ok.noex b o e)⟩
theorem Inv.bk (I : Inv X pins σ H s) : ∀ b o, X.base.get? b = some o → s.heap.get? b = some o := fun b o e => (I.bs b o e).1
theorem Inv.mod (I : Inv X pins σ H s) : Mod X.K X.mg X.base := I.ok.mod
theorem Inv.kIn (I : Inv X pins σ H s) : X.K.In s.heap := I.ok.mod.kin.keeps I.bk
theorem Inv.nolimit (I : Inv X pins σ H s) : s.heap.NoLimit := I.ok.mod.nolimit.keeps I.bk
/-- the frame over the base: for OpenK's rules (K.In X.base is I.mod.kin) -/
theorem Inv.fr (I : Inv X pins σ H s) : ∃ m, Fr X.base X.env.locals s.heap m :=
  let ⟨m, hn, _⟩ := I.loc
  ⟨m, hn, I.bk, Nat.le_trans I.ok.bsz I.ok.above⟩
theorem Inv.lt (I : Inv X pins σ H s) : X.env.locals < s.heap.objs.size := let ⟨_, hn, _⟩ := I.loc; hn.lt
theorem Inv.sz (I : Inv X pins σ H s) : X.s₀.heap.objs.size ≤ s.heap.objs.size := Nat.le_trans I.ok.above (Nat.le_of_lt I.lt)
theorem Inv.nofs (I : Inv X pins σ H s) {a : Addr} (h : s.heap.objs.size ≤ a) : a ∉ X.fs := fun hb => by
  obtain ⟨_, o, ho, _⟩ := I.ok.funs.mem hb
  exact absurd (Nat.lt_of_lt_of_le (Heap.lt_size ho) (Nat.le_trans I.sz h)) (Nat.lt_irrefl _)
theorem Inv.cne (I : Inv X pins σ H s) : ∀ x c, X.env.cells.lookup x = some c → c ≠ X.env.locals := fun x c e z => by
  obtain ⟨v, o, ho, hd⟩ := I.cell x c e
  obtain ⟨m, ⟨o', es, ep, ho', hd', _⟩, _⟩ := I.loc
  rw [z, ho'] at ho; cases ho; rw [hd'] at hd; cases hd
theorem Inv.funs (I : Inv X pins σ H s) : s.heap.FunFrames X.base X.outer := by
  have all : ∀ (l : List Env), (∀ b ∈ frs l, b ∈ X.fs) → X.s₀.heap.FunFrames X.base l → s.heap.FunFrames X.base l := by
    intro l
    induction l with
    | nil => intro _ _; trivial
    | cons env r ih =>
      intro hs hl
      obtain ⟨hk, ⟨L, o, hf, hn, ho, hd⟩, hr⟩ := hl
      have hL : L ∈ X.fs := hs L (by unfold frs; rw [List.filterMap_cons, hf]; exact List.mem_cons_self)
      obtain ⟨sl, e⟩ := I.base.slot L o ho (I.ok.frf L hL) hL fun z => I.ok.exfs L z hL
      exact ⟨hk, ⟨L, _, hf, hn, e, hd⟩, ih (fun b hb => hs b (by unfold frs; rw [List.filterMap_cons, hf]; exact List.mem_cons_of_mem _ hb)) hr⟩
  exact all X.outer (fun _ hb => hb) I.ok.funs

/-- the frames that run, for a call -/
theorem Inv.stack (I : Inv X pins σ H s) : s.heap.FunFrames X.base X.stack := by
  rcases I.ok.stk with e | ⟨e, hf⟩
  · rw [e]; exact I.funs
  · rw [e]
    obtain ⟨m, hn, _⟩ := I.loc
    refine .cons (by rw [I.ok.kind]; decide) hf hn ?_ I.funs
    exact Heap.get?_none_of_le (Nat.le_trans I.ok.bsz I.ok.above)
theorem Inv.stkSub (I : Inv X pins σ H s) : ∀ b ∈ frs X.stack, b ∈ X.env.locals :: X.fs := fun b hb => by
  rcases I.ok.stk with e | ⟨e, hf⟩
  · rw [e] at hb; exact List.mem_cons_of_mem _ hb
  · rw [e] at hb
    unfold frs at hb
    rw [List.filterMap_cons, hf] at hb
    exact hb
theorem Inv.stkFree (I : Inv X pins σ H s) : ∀ b ∈ frs X.stack, H b = none := fun b hb => by
  rcases List.mem_cons.mp (I.stkSub b hb) with e | hb
  · rw [e]; exact I.free
  · obtain ⟨_, o, ho, _⟩ := I.ok.funs.mem hb
    exact I.base.free b o ho (I.ok.frf b hb) fun z => I.ok.exfs b z hb

/-- THE STEP: the untracked objects but the frame and the records at ch are kept (the callers' frames up to slots), the frame's map is kept, the new abstract heap is held -/
theorem Inv.step {g' : Array GenState} {t' : Nat} {d' : Drawn} {ch : List Addr} (I : Inv X pins σ H s)
    (hch : ∀ b ∈ ch, (b ∈ X.ex ∨ X.s₀.heap.objs.size ≤ b) ∧ b ≠ X.env.locals ∧ (∀ x c, X.env.cells.lookup x = some c → c ≠ b) ∧ ∀ p ∈ X.pn ++ pins, p.1 ≠ b)
    (keep : ∀ b o, b ≠ X.env.locals → b ∉ X.fs → b ∉ ch → s.heap.get? b = some o → H b = none → h'.get? b = some o)
    (slot : ∀ b o, b ≠ X.env.locals → b ∈ X.fs → b ∉ ch → s.heap.get? b = some o → H b = none → ∃ sl, h'.get? b = some { o with slots := sl }) (free : ∀ b o, b ∉ ch → s.heap.get? b = some o → H b = none → H' b = none)
    (there : ∀ b o, b ∉ ch → s.heap.get? b = some o → ∃ o', h'.get? b = some o')
    (tups : ∀ b xs, H b = some (.tup xs) → H' b = some (.tup xs)) (frzs : ∀ b o u, H b = some (.frz o u) → H' b = some (.frz o u)) (tbls : ∀ b ps, H b = some (.tbl ps) → ∃ more, H' b = some (.tbl (ps ++ more)))
    (ns : ∀ m, s.heap.Ns X.env.locals m → h'.Ns X.env.locals m) (hok : HOk X.prog X.w H' h') (hg : AllBare g') :
    Inv X pins σ H' { s with heap := h', gens := g', drawn := d', toks := t' } := by
  have neL : ∀ b o, X.s₀.heap.get? b = some o → b ≠ X.env.locals := fun b o e => Nat.ne_of_lt (Nat.lt_of_lt_of_le (Heap.lt_size e) I.ok.above)
  have neC : ∀ b o, X.s₀.heap.get? b = some o → b ∉ X.ex → b ∉ ch := fun b o e hx hb => by
    rcases (hch b hb).1 with z | z
    · exact hx z
    · exact absurd (Nat.lt_of_lt_of_le (Heap.lt_size e) z) (Nat.lt_irrefl _)
  have cellK : ∀ x c, X.env.cells.lookup x = some c → ∀ v, s.heap.IsCell c v → h'.IsCell c v := fun x c e v ⟨o, ho, hd⟩ => by
    have nch : c ∉ ch := fun z => (hch c z).2.2.1 x c e rfl
    by_cases hc : c ∈ X.fs
    · obtain ⟨sl, q⟩ := slot c o (I.cne x c e) hc nch ho (I.freeC x c e)
      exact ⟨_, q, hd⟩
    · exact ⟨o, keep c o (I.cne x c e) hc nch ho (I.freeC x c e), hd⟩
  refine ⟨I.ok, I.os, hg, ⟨fun b o e n hb hx => ?_, fun b o e n hb hx => ?_, fun b o e n hx => ?_, fun b o e hx => ?_, fun b xs e => tups b xs (I.base.tups b xs e), fun b o xs e => frzs b o xs (I.base.frzs b o xs e), fun b ps e => ?_⟩, ?_, fun x c e => ?_, ?_, fun x c e => ?_, fun p hp => ?_, hok, I.len⟩
  · exact keep b o (neL b o e) hb (neC b o e hx) (I.base.keep b o e n hb hx) (I.base.free b o e n hx)
  · obtain ⟨sl, e1⟩ := I.base.slot b o e n hb hx
    obtain ⟨sl', e2⟩ := slot b _ (neL b o e) hb (neC b o e hx) e1 (I.base.free b o e n hx)
    exact ⟨sl', e2⟩
  · obtain ⟨o', e1⟩ := I.base.there b o e hx
    exact free b o' (neC b o e hx) e1 (I.base.free b o e n hx)
  · obtain ⟨o', e1⟩ := I.base.there b o e hx
    exact there b o' (neC b o e hx) e1
  · obtain ⟨m1, e1⟩ := I.base.tbls b ps e
    obtain ⟨m2, e2⟩ := tbls b _ e1
    exact ⟨m1 ++ m2, by rw [e2, Array.append_assoc]⟩
  · obtain ⟨m, hn, hl⟩ := I.loc
    refine ⟨m, ns m hn, fun i x v e1 e2 e3 => ?_⟩
    obtain ⟨u, r, l⟩ := hl i x v e1 e2 e3
    refine ⟨u, r, ?_⟩
    rcases l with l | ⟨k, c, e, z⟩
    · exact .inl l
    · exact .inr ⟨k, c, e, cellK x c e _ z⟩
  · obtain ⟨v, z⟩ := I.cell x c e
    exact ⟨v, cellK x c e v z⟩
  · obtain ⟨m, ⟨o, _, _, ho, _⟩, _⟩ := I.loc
    exact free _ o (fun z => (hch _ z).2.1 rfl) ho I.free
  · obtain ⟨v, o, ho, hd⟩ := I.cell x c e
    exact free c o (fun z => (hch c z).2.2.1 x c e rfl) ho (I.freeC x c e)
  · obtain ⟨e, n, ne, nf, d⟩ := I.pin p hp
    have nch : p.1 ∉ ch := fun z => (hch p.1 z).2.2.2 p hp rfl
    exact ⟨keep p.1 p.2 ne nf nch e n, free p.1 p.2 nch e n, ne, nf, d⟩
/-- .. where the frame's own object is kept too -/
theorem Inv.un {t' : Nat} (I : Inv X pins σ H s) (u : Un X.fs [] H H' s.heap h') (hok : HOk X.prog X.w H' h') : Inv X pins σ H' { s with heap := h', toks := t' } := by
  obtain ⟨m, ⟨o, es, ep, ho, r⟩, _⟩ := id I.loc
  obtain ⟨sl, hL⟩ := u.any ho I.free (by simp)
  exact I.step (g' := s.gens) (d' := s.drawn) (ch := []) (fun _ z => nomatch z) (fun b o _ hb _ e n => u.keep b o e n hb (by simp)) (fun b o _ hb _ e n => u.slot b o e n hb (by simp)) (fun b o _ e n => u.free b o e n (by simp)) (fun b o _ e => u.there b o e (by simp)) u.tups u.frzs u.tbls (fun m' hm => by
    obtain ⟨o', es', ep', ho', r'⟩ := hm
    rw [ho] at ho'; cases ho'
    exact ⟨_, es', ep', hL, r'⟩) hok I.bare
/-- behind a call (or a comprehension's block): the slots of this frame may have changed too, the records at ch may have turned -/
theorem Inv.call {g' : Array GenState} {t' : Nat} {d' : Drawn} {ch : List Addr} (I : Inv X pins σ H s) (u : Un (frs X.stack) ch H H' s.heap h') (hok : HOk X.prog X.w H' h') (hg : AllBare g')
    (hch : ∀ b ∈ ch, (b ∈ X.ex ∨ X.s₀.heap.objs.size ≤ b) ∧ b ≠ X.env.locals ∧ (∀ x c, X.env.cells.lookup x = some c → c ≠ b) ∧ ∀ p ∈ X.pn ++ pins, p.1 ≠ b) :
    Inv X pins σ H' { s with heap := h', gens := g', drawn := d', toks := t' } := by
  obtain ⟨m, ⟨o, es, ep, ho, r⟩, _⟩ := id I.loc
  obtain ⟨sl, hL⟩ := u.any ho I.free fun z => (hch _ z).2.1 rfl
  exact I.step (ch := ch) hch (fun b o hL hb hc e n => u.keep b o e n (fun z => (List.mem_cons.mp (I.stkSub b z)).elim hL hb) hc) (fun b o _ _ hc e n => u.any e n hc) (fun b o hc e n => u.free b o e n hc) (fun b o hc e => u.there b o e hc) u.tups u.frzs u.tbls (fun m' hm => by
    obtain ⟨o', es', ep', ho', r'⟩ := hm
    rw [ho] at ho'; cases ho'
    exact ⟨_, es', ep', hL, r'⟩) hok hg
/-- an untracked record of ours (an iterator) has turned -/
theorem Inv.turned {t' : Nat} {it : Addr} (I : Inv X pins σ H s) (k : ∀ b o, b ≠ it → s.heap.get? b = some o → h'.get? b = some o) (hn : H it = none) (hL : it ≠ X.env.locals)
    (h1 : it ∈ X.ex ∨ X.s₀.heap.objs.size ≤ it) (h2 : ∀ x c, X.env.cells.lookup x = some c → c ≠ it) (h3 : ∀ p ∈ X.pn ++ pins, p.1 ≠ it) : Inv X pins σ H { s with heap := h', toks := t' } := by
  have nit : ∀ b u, H b = some u → b ≠ it := fun b u e z => by rw [z, hn] at e; cases e
  refine I.step (g' := s.gens) (d' := s.drawn) (ch := [it]) (fun b hb => ?_) (fun b o _ _ hc e _ => k b o (fun z => hc (by simp [z])) e) (fun b o _ _ hc e _ => ⟨o.slots, k b o (fun z => hc (by simp [z])) e⟩) (fun _ _ _ _ n => n)
    (fun b o hc e => ⟨o, k b o (fun z => hc (by simp [z])) e⟩) (fun _ _ e => e) (fun _ _ _ e => e) (fun b ps e => ⟨#[], by rw [e]; simp⟩) (fun m hm => ?_) (fun b u e => ?_) I.bare
  · have e : b = it := by simpa using hb
    subst e
    exact ⟨h1, hL, h2, h3⟩
  · obtain ⟨o, es, ep, ho, r⟩ := hm
    exact ⟨o, es, ep, k _ o (Ne.symm hL) ho, r⟩
  · refine (I.hok b u e).stay (fun c v hc q => k c v ?_ q) (fun _ q => q) fun _ _ q => q
    rcases hc with z | z
    · rw [z]; exact nit b u e
    · exact nit c _ z
theorem Inv.tok (I : Inv X pins σ H s) (t : Nat) : Inv X pins σ H { s with toks := t } := I.un (h' := s.heap) (t' := t) Un.refl I.hok
/-- all objects kept -/
theorem Inv.kept {t' : Nat} (I : Inv X pins σ H s) (k : ∀ b u, s.heap.get? b = some u → h'.get? b = some u) : Inv X pins σ H { s with heap := h', toks := t' } := I.un (Un.kept k) (I.hok.kept k)
/-- a new object laid and tracked -/
theorem Inv.laid {a : Addr} {o : HO} {t' : Nat} (I : Inv X pins σ H s) (k : ∀ b u, s.heap.get? b = some u → h'.get? b = some u) (hp : s.heap.objs.size ≤ a) (new : ObjOk X.prog X.w (upd H a o) h' a o) :
    Inv X pins σ (upd H a o) { s with heap := h', toks := t' } := I.un (Un.laid k hp (I.hok.fresh hp)) (I.hok.laid k hp new)
/-- an object written -/
theorem Inv.write {x e : Addr} {o : HO} {t' : Nat} (I : Inv X pins σ H s) (mu : Mut (H x)) (he : e = x ∨ H e = some (.own x)) (k : ∀ b u, b ≠ e → s.heap.get? b = some u → h'.get? b = some u) (heo : ∃ u, h'.get? e = some u)
    (new : ObjOk X.prog X.w (upd H x o) h' x o) : Inv X pins σ (upd H x o) { s with heap := h', toks := t' } := I.un (Un.write mu he k heo) (I.hok.write mu he k heo new)
theorem Inv.pins_of {pins' : List (Addr × Obj)} (I : Inv X pins σ H s) (h : ∀ p ∈ pins', s.heap.get? p.1 = some p.2 ∧ H p.1 = none ∧ p.1 ≠ X.env.locals ∧ p.1 ∉ X.fs ∧ ∀ v, p.2.data ≠ .cell v) : Inv X pins' σ H s :=
  ⟨I.ok, I.os, I.bare, I.base, I.loc, I.cell, I.free, I.freeC, fun p hp => (List.mem_append.mp hp).elim (fun z => I.pin p (List.mem_append_left _ z)) (h p), I.hok, I.len⟩

theorem nodup_ix {N : List Str} (hN : N.Nodup) {i j : Nat} {x : Str} (a : N[i]? = some x) (b : N[j]? = some x) : i = j := by
  obtain ⟨h1, e1⟩ := List.getElem?_eq_some_iff.mp a
  obtain ⟨h2, e2⟩ := List.getElem?_eq_some_iff.mp b
  exact (List.getElem_inj hN).mp (e1.trans e2.symm)

/-- a name is stored; what changed -/
theorem store_ok2 {M : Model} {A : Around} {E : Value → Shared → Prop} {i : Nat} {x : Str} {v : V} {u : Value} {Q : Unit → Shared → Prop} (I : Inv X pins σ H s) (hN : X.N.Nodup) (hi : X.N[i]? = some x) (hx : Loc X.env.scope x) (r : RelV v u)
    (h : ∀ s', Inv X pins (σ.set i (some v)) H s' → (∃ a, Heap.SameBut a s.heap s'.heap ∧ (a = X.env.locals ∨ X.env.cells.lookup x = some a)) → Q () s') (hf : X.fn x = true ∨ X.env.scope.names.lookup x = some .local := by first | exact .inl rfl | exact .inr rfl | assumption) : wpAny M A (storeName X.env x u) Q E s := by
  obtain ⟨m, hn, hl⟩ := id I.loc
  have hcls : (X.env.scope.kind == .class || (X.env.scope.kind == .module && X.env.locals != X.env.globals)) = false := by rw [I.ok.kind]; rfl
  have hiσ : i < σ.length := by rw [I.len]; exact (List.getElem?_eq_some_iff.mp hi).1
  have cne := I.cne
  have tracked : ∀ {a : Addr} {h' : Heap}, (∃ o, s.heap.get? a = some o ∧ H a = none) → Heap.SameBut a s.heap h' → HOk X.prog X.w H h' := fun {a h'} ha hs b ob e => by
    obtain ⟨_, _, hfree⟩ := ha
    refine (I.hok b ob e).stay (fun c w' hc q => (hs.2 c ?_).trans q) (fun _ q => q) fun _ _ q => q
    rintro rfl
    rcases hc with rfl | hc
    · rw [hfree] at e; cases e
    · rw [hfree] at hc; cases hc
  rcases hx with hk | hk
  · refine wpAny_storeName_local hk hn (fun h' hn' hs => ?_) hcls
    obtain ⟨oL, _, _, hoL, _⟩ := id hn
    refine h _ ⟨I.ok, I.os, I.bare, ⟨fun b o e n hb hx => ?_, fun b o e n hb hx => ?_, I.base.free, fun b o e hx => ?_, I.base.tups, I.base.frzs, I.base.tbls⟩, ⟨_, hn', fun j y v' e1 e2 e3 => ?_⟩, fun y c e => ?_, I.free, I.freeC, fun p hp => ?_, tracked ⟨oL, hoL, I.free⟩ hs, by simpa using I.len⟩ ⟨_, hs, .inl rfl⟩
    · exact (hs.2 b (Nat.ne_of_lt (Nat.lt_of_lt_of_le (Heap.lt_size e) I.ok.above))).trans (I.base.keep b o e n hb hx)
    · obtain ⟨sl, e1⟩ := I.base.slot b o e n hb hx
      exact ⟨sl, (hs.2 b (Nat.ne_of_lt (Nat.lt_of_lt_of_le (Heap.lt_size e) I.ok.above))).trans e1⟩
    · obtain ⟨o', e1⟩ := I.base.there b o e hx
      exact ⟨o', (hs.2 b (Nat.ne_of_lt (Nat.lt_of_lt_of_le (Heap.lt_size e) I.ok.above))).trans e1⟩
    · by_cases hj : j = i
      · subst hj
        rw [hi] at e1; cases e1
        rw [List.getElem?_set_self hiσ] at e2
        cases e2
        exact ⟨u, r, .inl ⟨hk, by simp⟩⟩
      · rw [List.getElem?_set_ne (Ne.symm hj)] at e2
        obtain ⟨u', r', q⟩ := hl j y v' e1 e2 e3
        refine ⟨u', r', ?_⟩
        rcases q with ⟨k, e⟩ | ⟨k, c, e, z⟩
        · refine .inl ⟨k, ?_⟩
          have : y ≠ x := fun e => hj (nodup_ix hN e1 (e ▸ hi))
          simp [this, e]
        · exact .inr ⟨k, c, e, z.sameBut hs (cne y c e)⟩
    · obtain ⟨w', z⟩ := I.cell y c e
      exact ⟨w', z.sameBut hs (cne y c e)⟩
    · obtain ⟨e, n, ne, nf, d⟩ := I.pin p hp
      exact ⟨(hs.2 p.1 ne).trans e, n, ne, nf, d⟩
  · have hfn : X.fn x = true := by
      rcases hf with z | z
      · exact z
      · rw [z] at hk; cases hk
    obtain ⟨c, hc⟩ := I.ok.has x (.inl hk)
    obtain ⟨w', z⟩ := I.cell x c hc
    refine wpAny_storeName_cell I.ok.kind hk hc z (fun h' hc' hs => ?_)
    obtain ⟨oc, hoc, hocd⟩ := id z
    refine h { s with heap := h' } ⟨I.ok, I.os, I.bare, ⟨fun b o e n hb hx => ?_, fun b o e n hb hx => ?_, I.base.free, fun b o e hx => ?_, I.base.tups, I.base.frzs, I.base.tbls⟩, ⟨m, hn.sameBut hs (Ne.symm (cne x c hc)), fun j y v' e1 e2 e3 => ?_⟩, fun y c' e => ?_, I.free, I.freeC, fun p hp => ?_, tracked ⟨oc, hoc, I.freeC x c hc⟩ hs, by simpa using I.len⟩ ⟨c, hs, .inr hc⟩
    · exact (hs.2 b (Nat.ne_of_lt (Nat.lt_of_lt_of_le (Heap.lt_size e) (I.ok.cab x c hfn hc)))).trans (I.base.keep b o e n hb hx)
    · obtain ⟨sl, e1⟩ := I.base.slot b o e n hb hx
      exact ⟨sl, (hs.2 b (Nat.ne_of_lt (Nat.lt_of_lt_of_le (Heap.lt_size e) (I.ok.cab x c hfn hc)))).trans e1⟩
    · obtain ⟨o', e1⟩ := I.base.there b o e hx
      exact ⟨o', (hs.2 b (Nat.ne_of_lt (Nat.lt_of_lt_of_le (Heap.lt_size e) (I.ok.cab x c hfn hc)))).trans e1⟩
    · by_cases hj : j = i
      · subst hj
        rw [hi] at e1; cases e1
        rw [List.getElem?_set_self hiσ] at e2
        cases e2
        exact ⟨u, r, .inr ⟨.inl hk, c, hc, hc'⟩⟩
      · rw [List.getElem?_set_ne (Ne.symm hj)] at e2
        obtain ⟨u', r', q⟩ := hl j y v' e1 e2 e3
        refine ⟨u', r', ?_⟩
        rcases q with q | ⟨k, c', e, z'⟩
        · exact .inl q
        · refine .inr ⟨k, c', e, z'.sameBut hs ?_⟩
          rintro rfl
          exact hj (nodup_ix hN e1 (I.ok.inj _ _ _ e hc ▸ hi))
    · by_cases hcc : c' = c
      · subst hcc; exact ⟨_, hc'⟩
      · obtain ⟨w2, z2⟩ := I.cell y c' e
        exact ⟨w2, z2.sameBut hs hcc⟩
    · obtain ⟨e, n, ne, nf, d⟩ := I.pin p hp
      refine ⟨(hs.2 p.1 ?_).trans e, n, ne, nf, d⟩
      intro q
      rw [q, hoc] at e
      have q' : oc = p.2 := Option.some.inj e
      exact d w' (by rw [← q']; exact hocd)
theorem store_ok {M : Model} {A : Around} {E : Value → Shared → Prop} {i : Nat} {x : Str} {v : V} {u : Value} {Q : Unit → Shared → Prop} (I : Inv X pins σ H s) (hN : X.N.Nodup) (hi : X.N[i]? = some x) (hx : Loc X.env.scope x) (r : RelV v u)
    (h : ∀ s', Inv X pins (σ.set i (some v)) H s' → Q () s') (hf : X.fn x = true ∨ X.env.scope.names.lookup x = some .local := by first | exact .inl rfl | exact .inr rfl | assumption) : wpAny M A (storeName X.env x u) Q E s :=
  store_ok2 I hN hi hx r (fun s' I' _ => h s' I') hf
/-- behind a call or a block, the state as it is -/
theorem Inv.call' {s' : Shared} {ch : List Addr} (I : Inv X pins σ H s) (ho : s'.os = s.os) (u : Un (frs X.stack) ch H H' s.heap s'.heap) (hok : HOk X.prog X.w H' s'.heap) (hg : AllBare s'.gens)
    (hch : ∀ b ∈ ch, (b ∈ X.ex ∨ X.s₀.heap.objs.size ≤ b) ∧ b ≠ X.env.locals ∧ (∀ x c, X.env.cells.lookup x = some c → c ≠ b) ∧ ∀ p ∈ X.pn ++ pins, p.1 ≠ b) : Inv X pins σ H' s' := by
  obtain ⟨h', g', d', t', o'⟩ := s'
  have e : o' = s.os := ho
  subst e
  exact I.call (g' := g') (t' := t') (d' := d') u hok hg hch
end

/-! ### the judgements -/
/-- an exception: its class, its own dict's address (where it has one), the abstract heap behind it -/
abbrev XK := Value → Option Addr → Hp → Prop
abbrev St := List (Option V)
abbrev VK := V → Hp → Prop
/-- an expression's reading; a test's; an argument list's -/
abbrev TE := St → Hp → VK → Prop
abbrev TT := St → Hp → (Bool → Hp → Prop) → Prop
abbrev TA := St → Hp → (List V → Hp → Prop) → Prop
/-- what is wanted behind a statement -/
structure Ends where
  nx : St → Hp → Prop
  rt : VK
  bk : St → Hp → Prop := fun _ _ => False
  ct : St → Hp → Prop := fun _ _ => False
abbrev TS := Ends → St → Hp → Prop

def EP (X : Cx) (pins : List (Addr × Obj)) (σ : St) (Q : VK) (u : Value) (s' : Shared) : Prop := ∃ v H', Inv X pins σ H' s' ∧ RelV v u ∧ Q v H'
def TP (X : Cx) (pins : List (Addr × Obj)) (σ : St) (Q : Bool → Hp → Prop) (b : Bool) (s' : Shared) : Prop := ∃ H', Inv X pins σ H' s' ∧ Q b H'
def AP (X : Cx) (pins : List (Addr × Obj)) (σ : St) (Q : List V → Hp → Prop) (us : List Value) (s' : Shared) : Prop := ∃ vs H', Inv X pins σ H' s' ∧ Vals vs us ∧ Q vs H'
def SP (X : Cx) (pins : List (Addr × Obj)) (D : Ends) (f : Flow) (s' : Shared) : Prop :=
  match f with
  | .next => ∃ σ' H', Inv X pins σ' H' s' ∧ D.nx σ' H'
  | .brk => ∃ σ' H', Inv X pins σ' H' s' ∧ D.bk σ' H'
  | .cont => ∃ σ' H', Inv X pins σ' H' s' ∧ D.ct σ' H'
  | .ret u => ∃ v σ' H', Inv X pins σ' H' s' ∧ RelV v u ∧ D.rt v H'

def PE (X : Cx) (e : Expr) (t : TE) : Prop :=
  ∀ (pins : List (Addr × Obj)) (s : Shared) (σ : St) (H : Hp) (Q : VK), Inv X pins σ H s → t σ H Q → wpAny (model X.prog X.w) X.A (eval e X.env) (EP X pins σ Q) X.xe s
def PT (X : Cx) (e : Expr) (t : TT) : Prop :=
  ∀ (pins : List (Addr × Obj)) (s : Shared) (σ : St) (H : Hp) (Q : Bool → Hp → Prop), Inv X pins σ H s → t σ H Q → wpAny (model X.prog X.w) X.A (isTrue e X.env (eval e X.env)) (TP X pins σ Q) X.xe s
/-- a test whatever its 'whole' is (and, or) -/
def PW (X : Cx) (e : Expr) (t : TT) : Prop :=
  ∀ (whole : Sem Value) (pins : List (Addr × Obj)) (s : Shared) (σ : St) (H : Hp) (Q : Bool → Hp → Prop), Inv X pins σ H s → t σ H Q → wpAny (model X.prog X.w) X.A (isTrue e X.env whole) (TP X pins σ Q) X.xe s
theorem PW.pt {X : Cx} {e : Expr} {t : TT} (h : PW X e t) : PT X e t := h _
/-- an argument list (no star), from the left -/
def PA (X : Cx) (es : List Expr) (t : TA) : Prop :=
  ∀ (pos : Pos) (pins : List (Addr × Obj)) (s : Shared) (σ : St) (H : Hp) (Q : List V → Hp → Prop), Inv X pins σ H s → t σ H Q → wpAny (model X.prog X.w) X.A (spliced (backTo pos (starEach es X.env))) (AP X pins σ Q) X.xe s
def PS (X : Cx) (st : Stmt) (t : TS) : Prop :=
  ∀ (pins : List (Addr × Obj)) (s : Shared) (σ : St) (H : Hp) (D : Ends), Inv X pins σ H s → t D σ H → wpAny (model X.prog X.w) X.A (exec st X.env) (SP X pins D) X.xe s
def PSs (X : Cx) (st : List Stmt) (t : TS) : Prop :=
  ∀ (pins : List (Addr × Obj)) (s : Shared) (σ : St) (H : Hp) (D : Ends), Inv X pins σ H s → t D σ H → wpAny (model X.prog X.w) X.A (execs st X.env) (SP X pins D) X.xe s
/-- weaken the end -/
theorem thn {α : Type} {t : Sem α} {Q Q' : α → Shared → Prop} {M : Model} {A : Around} {E : Value → Shared → Prop} {s : Shared} (h : wpAny M A t Q E s) (hQ : ∀ a s, Q a s → Q' a s) : wpAny M A t Q' E s := wpAny_mono h hQ fun _ _ x => x
end L2

namespace L2
open PySem PySem.Spec PyProof.Rows
section
variable {X : Cx}

/-- two expressions in a row -/
theorem bin {a b : Expr} {ta tb : TE} (ha : PE X a ta) (hb : PE X b tb) {pins : List (Addr × Obj)} {s : Shared} {σ : St} {H : Hp} {R : V → V → Hp → Prop} (I : Inv X pins σ H s) (h : ta σ H fun x H1 => tb σ H1 fun y H2 => R x y H2)
    {α : Type} {Q : α → Shared → Prop} {f : Value → Value → Sem α}
    (hf : ∀ v u s2 x y H2, Inv X pins σ H2 s2 → RelV x v → RelV y u → R x y H2 → wpAny (model X.prog X.w) X.A (f v u) Q X.xe s2) :
    wpAny (model X.prog X.w) X.A (eval a X.env) (fun v s₁ => wpAny (model X.prog X.w) X.A (eval b X.env) (fun u s₂ => wpAny (model X.prog X.w) X.A (f v u) Q X.xe s₂) X.xe s₁) X.xe s := by
  refine thn (ha pins s σ H _ I h) fun v s1 hh => ?_
  obtain ⟨x, H1, I1, r1, q1⟩ := hh
  refine thn (hb pins s1 σ H1 _ I1 q1) fun u s2 hh => ?_
  obtain ⟨y, H2, I2, r2, q2⟩ := hh
  exact hf v u s2 x y H2 I2 r1 r2 q2

/-! ### names and constants -/
def tVar (i : Nat) : TE := fun σ H Q => ∃ v, σ[i]? = some (some v) ∧ Q v H
def tC (v : V) : TE := fun _ H Q => Q v H
theorem pe_var {i : Nat} {x : Str} {pos : Pos} (hN : X.N[i]? = some x) (hv : Vis X.env.scope x) (hd : (x == ("__debug__" : Str)) = false := by decide) (hcd : (x == ("__classdict__" : Str)) = false := by decide) : PE X (.Name x pos) (tVar i) := by
  intro pins s σ H Q I h
  obtain ⟨v, e, h⟩ := h
  obtain ⟨m, hn, hl⟩ := I.loc
  obtain ⟨u, r, l⟩ := hl i x v hN e hv
  have fin : EP X pins σ Q u s := ⟨v, H, I, r, h⟩
  rcases l with ⟨hk, hm⟩ | ⟨hk, c, hc, hcell⟩
  · exact wpAny_Name (wpAny_loadName_local I.ok.kind hk hn hm fin) hd
  · rcases hk with hk | hk
    · exact wpAny_Name (wpAny_loadName_cell I.ok.kind hk hc hcell fin) hd
    · exact wpAny_Name (wpAny_loadName_free I.ok.kind hk hc hcell fin hcd) hd
theorem pe_int {i j pos} : PE X (.Constant (.int i) j pos) (tC (.int i)) := fun _ _ _ H _ I h => wpAny_Constant_int ⟨.int i, H, I.tok _, ⟨_, rfl⟩, h⟩
theorem pe_bl {b j pos} : PE X (.Constant (.bool b) j pos) (tC (.bl b)) := fun _ _ _ H _ I h => Constant_bool ⟨.bl b, H, I, rfl, h⟩
theorem pe_str {x j pos} : PE X (.Constant (.str x) j pos) (tC (.str x)) := fun _ _ _ H _ I h => Calls.Constant_str ⟨.str x, H, I.tok _, ⟨_, rfl⟩, h⟩

/-- a global name of the def -/
def Gl (X : Cx) (x : Str) : Prop := X.env.kindOf x = some .globalImplicit
theorem ld_glob {E : Value → Shared → Prop} {pins : List (Addr × Obj)} {s : Shared} {σ : St} {H : Hp} {x : Str} {u : Value} {pos : Pos} {Q : Value → Shared → Prop} (I : Inv X pins σ H s) (hg : Gl X x) (hm : X.mg x = some u) (h : Q u s)
    (hd : (x == ("__debug__" : Str)) = false := by decide) : wpAny (model X.prog X.w) X.A (eval (.Name x pos) X.env) Q E s :=
  Calls.Name_function_global I.ok.kind hg (Calls.loadGlobal_global (by rw [I.ok.glob]; exact I.mod.glob.keeps I.bk) hm h) hd
theorem ld_blt {E : Value → Shared → Prop} {pins : List (Addr × Obj)} {s : Shared} {σ : St} {H : Hp} {x : Str} {u : Value} {pos : Pos} {Q : Value → Shared → Prop} (I : Inv X pins σ H s) (hg : Gl X x) (hm : X.mg x = none) (hv : bootBuiltins x = some u) (h : Q u s)
    (hn : x ≠ "__name__" := by decide) (hd : (x == ("__debug__" : Str)) = false := by decide) : wpAny (model X.prog X.w) X.A (eval (.Name x pos) X.env) Q E s := by
  obtain ⟨mb, h1, h2⟩ := I.mod.blt
  exact Calls.Name_function_global I.ok.kind hg (Calls.loadGlobal_builtin (by rw [I.ok.glob]; exact I.mod.glob.keeps I.bk) hm (by rw [I.ok.blt]; exact h1.keeps I.bk) ((h2 x hn).trans hv) h) hd
/-- a module's constant, a class, a function, as a value -/
theorem pe_glob {x : Str} {v : V} {u : Value} {pos : Pos} (hg : Gl X x) (hm : X.mg x = some u) (r : RelV v u) (hd : (x == ("__debug__" : Str)) = false := by decide) : PE X (.Name x pos) (tC v) :=
  fun _ _ _ H _ I h => ld_glob I hg hm ⟨v, H, I, r, h⟩ hd

/-! ### arithmetic -/
variable {a b : Expr} {ta tb : TE} {pos : Pos}

/-! ### comparisons -/
def PC (X : Cx) (op : CmpOp) (a b : Expr) (t : TE) : Prop :=
  ∀ (pins : List (Addr × Obj)) (s : Shared) (σ : St) (H : Hp) (Q : VK), Inv X pins σ H s → t σ H Q →
    wpAny (model X.prog X.w) X.A (eval a X.env) (fun v s₁ => wpAny (model X.prog X.w) X.A (eval b X.env) (fun u s₂ => wpAny (model X.prog X.w) X.A (compareOp op v u) (EP X pins σ Q) X.xe s₂) X.xe s₁) X.xe s
theorem nobehind (b : Expr) {op : CmpOp} (h : op ≠ .In) (h2 : op ≠ .NotIn) : behindInMarks op b = false := by
  have e1 : (op == CmpOp.In) = false := by cases op <;> first | rfl | exact absurd rfl h
  have e2 : (op == CmpOp.NotIn) = false := by cases op <;> first | rfl | exact absurd rfl h2
  cases b <;> simp [behindInMarks, e1, e2]
/-- a comparison as a value, as a test -/
def tB (t : TE) : TT := fun σ H Q => t σ H fun x H1 => ∃ c, x = .bl c ∧ Q c H1
theorem pt_cmp {op : CmpOp} {t : TE} (h : PC X op a b t) (h1 : behindInMarks op b = false := by first | exact nobehind _ (by decide) (by decide) | rfl) : PT X (.Compare a [op] [b] pos) (tB t) := by
  intro pins s σ H Q I hw
  refine wpAny_isTrue_Compare1 (thn (h pins s σ H _ I hw) fun v s1 h1 => thn h1 fun u s2 h2 => thn h2 fun c s3 hh => ?_) h1
  obtain ⟨x, H1, I1, r1, q1⟩ := hh
  obtain ⟨d, rfl, q⟩ := q1
  cases r1
  exact wpAny_truthy_bool ⟨H1, I1, q⟩
/-- an expression whose value is a bool, as a test -/
theorem pt_val {e : Expr} {t : TE} (h : PE X e t) (he : ∀ whole, isTrue e X.env whole = (do let v ← whole; standAt e.pos; holding [v] (truthy v)) := by intro _; rfl) : PT X e (tB t) := by
  intro pins s σ H Q I hw
  refine isTrue_plain (thn (h pins s σ H _ I hw) fun v s1 hh => ?_) (he _)
  obtain ⟨x, H1, I1, r1, q1⟩ := hh
  obtain ⟨d, rfl, q⟩ := q1
  cases r1
  exact wpAny_truthy_bool ⟨H1, I1, q⟩

/-! ### and, or, not -/
variable {tA tB' : TT} {rest : List Expr}
def tAnd (t u : TT) : TT := fun σ H Q => t σ H fun c H1 => if c = true then u σ H1 Q else Q false H1
def tOr (t u : TT) : TT := fun σ H Q => t σ H fun c H1 => if c = true then Q true H1 else u σ H1 Q
def tNot (t : TT) : TT := fun σ H Q => t σ H fun c H1 => Q (!c) H1
theorem pw_and1 (ha : PT X a tA) : PW X (.BoolOp .And [a] pos) tA := by
  intro wh pins s σ H Q I h
  refine isTrue_and (thn (ha pins s σ H Q I h) fun c s1 e => ?_)
  cases c with
  | true => exact isTrue_and_nil e
  | false => exact e
theorem pw_or1 (ha : PT X a tA) : PW X (.BoolOp .Or [a] pos) tA := by
  intro wh pins s σ H Q I h
  refine isTrue_or (thn (ha pins s σ H Q I h) fun c s1 e => ?_)
  cases c with
  | false => exact isTrue_or_nil e
  | true => exact e
theorem pw_and (ha : PT X a tA) (hb : PW X (.BoolOp .And (b :: rest) pos) tB') : PW X (.BoolOp .And (a :: b :: rest) pos) (tAnd tA tB') := by
  intro wh pins s σ H Q I h
  refine isTrue_and (thn (ha pins s σ H _ I h) fun c s1 hh => ?_)
  obtain ⟨H1, I1, q1⟩ := hh
  cases c with
  | true => exact hb wh pins s1 σ H1 Q I1 q1
  | false => exact ⟨H1, I1, q1⟩
theorem pw_or (ha : PT X a tA) (hb : PW X (.BoolOp .Or (b :: rest) pos) tB') : PW X (.BoolOp .Or (a :: b :: rest) pos) (tOr tA tB') := by
  intro wh pins s σ H Q I h
  refine isTrue_or (thn (ha pins s σ H _ I h) fun c s1 hh => ?_)
  obtain ⟨H1, I1, q1⟩ := hh
  cases c with
  | true => exact ⟨H1, I1, q1⟩
  | false => exact hb wh pins s1 σ H1 Q I1 q1
theorem pt_not (ha : PT X a tA) : PT X (.UnaryOp .Not a pos) (tNot tA) := by
  intro pins s σ H Q I h
  exact isTrue_not (ha pins s σ H (fun c H1 => Q (!c) H1) I h)
/-- .. as values (bools) -/
def tAndV (ta tb : TE) : TE := fun σ H Q => ta σ H fun x H1 => ∃ c, x = .bl c ∧ if c = true then tb σ H1 Q else Q (.bl false) H1
def tOrV (ta tb : TE) : TE := fun σ H Q => ta σ H fun x H1 => ∃ c, x = .bl c ∧ if c = true then Q (.bl true) H1 else tb σ H1 Q
theorem pe_one {op} {t : TE} (h : PE X a t) : PE X (.BoolOp op [a] pos) t := fun pins s σ H Q I hw => BoolOp_one (h pins s σ H Q I hw)
theorem pe_and (ha : PE X a ta) (hb : PE X (.BoolOp .And (b :: rest) pos) tb) : PE X (.BoolOp .And (a :: b :: rest) pos) (tAndV ta tb) := by
  intro pins s σ H Q I h
  refine BoolOp_and (thn (ha pins s σ H _ I h) fun v s1 hh => ?_)
  obtain ⟨x, H1, I1, r1, q1⟩ := hh
  obtain ⟨c, rfl, q1⟩ := q1
  cases r1
  refine wpAny_truthy_bool ?_
  cases c with
  | true => exact hb pins s1 σ H1 Q I1 q1
  | false => exact ⟨.bl false, H1, I1, rfl, q1⟩
theorem pe_or (ha : PE X a ta) (hb : PE X (.BoolOp .Or (b :: rest) pos) tb) : PE X (.BoolOp .Or (a :: b :: rest) pos) (tOrV ta tb) := by
  intro pins s σ H Q I h
  refine BoolOp_or (thn (ha pins s σ H _ I h) fun v s1 hh => ?_)
  obtain ⟨x, H1, I1, r1, q1⟩ := hh
  obtain ⟨c, rfl, q1⟩ := q1
  cases r1
  refine wpAny_truthy_bool ?_
  cases c with
  | false => exact hb pins s1 σ H1 Q I1 q1
  | true => exact ⟨.bl true, H1, I1, rfl, q1⟩
/-- a if t else b -/
def tIf (t : TT) (ta tb : TE) : TE := fun σ H Q => t σ H fun c H1 => if c = true then ta σ H1 Q else tb σ H1 Q
theorem pe_ifExp {c : Expr} (hc : PT X c tA) (ha : PE X a ta) (hb : PE X b tb) : PE X (.IfExp c a b pos) (tIf tA ta tb) := by
  intro pins s σ H Q I h
  refine wpAny_IfExp (thn (hc pins s σ H _ I h) fun d s1 hh => ?_)
  obtain ⟨H1, I1, q1⟩ := hh
  cases d with
  | true => exact ha pins s1 σ H1 Q I1 q1
  | false => exact hb pins s1 σ H1 Q I1 q1
end
end L2

namespace L2
open PySem PySem.Spec PyProof.Rows

/-! ### a list, a tuple that is read: tracked, frozen, or an object of the module -/
def SqL (K : PySem.W.Frag) (H : Hp) (a : Addr) (xs : List V) : Prop :=
  Rd H a (.lst xs) ∨
    ∃ (o : Obj) (its : Array Value) (n : Nat), K.lookup a = some o ∧ o.cls = .type "list" ∧ o.dict = none ∧ o.data = .seq its n ∧ its.size ≤ sizeLine ∧ Vals xs its.toList
def SqT (K : PySem.W.Frag) (H : Hp) (a : Addr) (xs : List V) : Prop :=
  Rd H a (.tup xs) ∨
    ∃ (o : Obj) (its : Array Value) (n : Nat), K.lookup a = some o ∧ o.cls = .type "tuple" ∧ o.data = .seq its n ∧ its.size ≤ sizeLine ∧ Vals xs its.toList
def absV : Value → Option V
  | .none => some .non
  | .bool b => some (.bl b)
  | .int i _ => some (.int i)
  | .str x _ => some (.str x)
  | .bytes b _ => some (.byt b)
  | .float b _ => some (.flt b)
  | .ref a => some (.ref a)
  | .type n => some (.ty n)
  | _ => none
theorem RelV.abs {x : V} {u : Value} (r : RelV x u) : absV u = some x := by
  cases x with
  | non => cases r; rfl
  | bl _ => cases r; rfl
  | int _ => obtain ⟨t, rfl⟩ := r; rfl
  | str _ => obtain ⟨t, rfl⟩ := r; rfl
  | byt _ => obtain ⟨t, rfl⟩ := r; rfl
  | flt _ => obtain ⟨t, rfl⟩ := r; rfl
  | ref _ => cases r; rfl
  | ty _ => cases r; rfl
theorem RelV.inj {x y : V} {u : Value} (r : RelV x u) (q : RelV y u) : x = y := Option.some.inj (r.abs.symm.trans q.abs)
theorem Vals.inj : ∀ {xs ys : List V} {us : List Value}, Vals xs us → Vals ys us → xs = ys
  | _, _, _, .nil, .nil => rfl
  | _, _, _, .cons r t, .cons r' t' => by rw [r.inj r', Vals.inj t t']
section
variable {X : Cx} {pins : List (Addr × Obj)} {σ : St} {H : Hp} {s : Shared} {a : Addr} {xs ys : List V}
theorem SqL.of {K : PySem.W.Frag} (h : H a = some (.lst xs)) : SqL K H a xs := .inl (.inl h)
theorem SqT.of {K : PySem.W.Frag} (h : H a = some (.tup xs)) : SqT K H a xs := .inl (.inl h)
theorem Inv.list (I : Inv X pins σ H s) (h : SqL X.K H a xs) : ∃ its : List Value, Vals xs its ∧ PlainL s.heap a its.toArray ∧ xs.length ≤ sizeLine := by
  rcases h with h | ⟨o, its, n, hk, hc, hd, hs, hz, r⟩
  · obtain ⟨z, its, n, r, e⟩ := h.ok I.hok
    exact ⟨its, r, ⟨_, n, e, rfl, rfl, rfl⟩, z⟩
  · refine ⟨its.toList, r, ⟨o, n, I.kIn a o hk, hc, hd, by simpa using hs⟩, ?_⟩
    have e := r.length
    simp only [Array.length_toList] at e
    omega
theorem Inv.tuple (I : Inv X pins σ H s) (h : SqT X.K H a xs) : ∃ its : List Value, Vals xs its ∧ IsTup s.heap a its.toArray ∧ xs.length ≤ sizeLine := by
  rcases h with h | ⟨o, its, n, hk, hc, hs, hz, r⟩
  · obtain ⟨z, its, r, p⟩ := h.ok I.hok
    exact ⟨its, r, p, z⟩
  · refine ⟨its.toList, r, ⟨o, I.kIn a o hk, hc, n, by simpa using hs⟩, ?_⟩
    have e := r.length
    simp only [Array.length_toList] at e
    omega
theorem Inv.list_inj (I : Inv X pins σ H s) (h : SqL X.K H a xs) (h' : SqL X.K H a ys) : xs = ys := by
  obtain ⟨its, r, ⟨o, n, e, _, _, d⟩, _⟩ := I.list h
  obtain ⟨its', r', ⟨o', n', e', _, _, d'⟩, _⟩ := I.list h'
  rw [e] at e'; cases e'
  rw [d] at d'
  injection d' with d1 _
  have : its = its' := by simpa using congrArg Array.toList d1
  subst this
  exact r.inj r'
end

/-! ### another wish about exceptions -/
abbrev Cx.wish (X : Cx) (E : Value → Shared → Prop) : Cx := { X with xe := E }
/-- no exception leaves -/
abbrev Cx.nox (X : Cx) : Cx := X.wish fun _ _ => False
theorem Cx.Ok.wish {X : Cx} (ok : X.Ok) (E : Value → Shared → Prop) : (X.wish E).Ok :=
  ⟨ok.mod, ok.kind, ok.glob, ok.blt, ok.above, ok.inj, ok.has, ok.cab, ok.hd, ok.frames, ok.stk, ok.exf, ok.bs, ok.bsz, ok.noex, ok.exfs, ok.funs, ok.frf⟩
theorem Cx.Ok.unwish {X : Cx} {E : Value → Shared → Prop} (ok : (X.wish E).Ok) : X.Ok :=
  ⟨ok.mod, ok.kind, ok.glob, ok.blt, ok.above, ok.inj, ok.has, ok.cab, ok.hd, ok.frames, ok.stk, ok.exf, ok.bs, ok.bsz, ok.noex, ok.exfs, ok.funs, ok.frf⟩
section
variable {X : Cx} {pins : List (Addr × Obj)} {σ : St} {H : Hp} {s : Shared} {E : Value → Shared → Prop}
theorem Inv.wish (I : Inv X pins σ H s) (E : Value → Shared → Prop) : Inv (X.wish E) pins σ H s := ⟨I.ok.wish E, I.os, I.bare, I.base, I.loc, I.cell, I.free, I.freeC, I.pin, I.hok, I.len⟩
theorem Inv.unwish (I : Inv (X.wish E) pins σ H s) : Inv X pins σ H s := ⟨I.ok.unwish, I.os, I.bare, I.base, I.loc, I.cell, I.free, I.freeC, I.pin, I.hok, I.len⟩
theorem SP.unwish {D : Ends} {f : Flow} {s' : Shared} (h : SP (X.wish E) pins D f s') : SP X pins D f s' := by
  cases f with
  | next => obtain ⟨σ', H', I, q⟩ := h; exact ⟨σ', H', I.unwish, q⟩
  | brk => obtain ⟨σ', H', I, q⟩ := h; exact ⟨σ', H', I.unwish, q⟩
  | cont => obtain ⟨σ', H', I, q⟩ := h; exact ⟨σ', H', I.unwish, q⟩
  | ret u => obtain ⟨v, σ', H', I, r, q⟩ := h; exact ⟨v, σ', H', I.unwish, r, q⟩
theorem PE.nox {e : Expr} {t : TE} (h : PE X.nox e t) : PE X e t := fun pins s σ H Q I hw =>
  wpAny_mono (h pins s σ H Q (I.wish _) hw) (fun _ _ ⟨v, H', I', r, q⟩ => ⟨v, H', I'.unwish, r, q⟩) fun _ _ z => False.elim z
theorem PT.nox {e : Expr} {t : TT} (h : PT X.nox e t) : PT X e t := fun pins s σ H Q I hw =>
  wpAny_mono (h pins s σ H Q (I.wish _) hw) (fun _ _ ⟨H', I', q⟩ => ⟨H', I'.unwish, q⟩) fun _ _ z => False.elim z
theorem PSs.nox {st : List Stmt} {t : TS} (h : PSs X.nox st t) : PSs X st t := fun pins s σ H D I hw =>
  wpAny_mono (h pins s σ H D (I.wish _) hw) (fun _ _ q => q.unwish) fun _ _ z => False.elim z
end

/-! ### blocks and small statements -/
section
variable {X : Cx} {st : Stmt} {rest : List Stmt} {t u : TS} {e : Expr} {te : TE} {pos : Pos}
def tNext : TS := fun D σ H => D.nx σ H
def tSeq (t u : TS) : TS := fun D σ H => t { D with nx := u D } σ H
theorem pss_nil : PSs X [] tNext := fun _ _ σ H _ I h => wpAny_execs_nil ⟨σ, H, I, h⟩
theorem pss_cons (h1 : PS X st t) (h2 : PSs X rest u) : PSs X (st :: rest) (tSeq t u) := by
  intro pins s σ H D I h
  refine wpAny_execs_cons (thn (h1 pins s σ H { D with nx := u D } I h) fun f s1 q => ?_)
  cases f with
  | next =>
    obtain ⟨σ', H', I', q⟩ := q
    exact h2 pins s1 σ' H' D I' q
  | ret v => exact q
  | brk => exact q
  | cont => exact q
theorem pss_one (h1 : PS X st t) : PSs X [st] t := by
  intro pins s σ H D I h
  refine wpAny_execs_cons (thn (h1 pins s σ H D I h) fun f s1 q => ?_)
  cases f with
  | next => exact wpAny_execs_nil q
  | ret v => exact q
  | brk => exact q
  | cont => exact q
/-- in a def's body nothing is shown -/
theorem Inv.quiet {pins : List (Addr × Obj)} {σ : St} {H : Hp} {s : Shared} (I : Inv X pins σ H s) : interactive X.env = false := by simp [interactive, I.ok.kind]
/-- an expression whose value is dropped -/
def tDrop (te : TE) : TS := fun D σ H => te σ H fun _ H1 => D.nx σ H1
theorem ps_expr (he : PE X e te) (hs : swapsWith e none pos.line X.env = pure false := by rfl) : PS X (.Expr e pos) (tDrop te) := by
  intro pins s σ H D I h
  exact wpAny_Expr_any (thn (he pins s σ H _ I h) fun v s1 ⟨x, H1, I1, r1, q1⟩ => ⟨σ, H1, I1, q1⟩) I.quiet hs
def tRet (te : TE) : TS := fun D σ H => te σ H D.rt
theorem ps_ret (he : PE X e te) : PS X (.Return (some e) pos) (tRet te) := by
  intro pins s σ H D I h
  exact wpAny_Return_some (thn (he pins s σ H _ I h) fun v s1 ⟨x, H1, I1, r1, q1⟩ => ⟨x, σ, H1, I1, r1, q1⟩)
def tIfS (c : TT) (t u : TS) : TS := fun D σ H => c σ H fun b H1 => if b = true then t D σ H1 else u D σ H1
theorem ps_if {c : Expr} {a b : List Stmt} {tc : TT} (hc : PT X c tc) (ha : PSs X a t) (hb : PSs X b u) : PS X (.If c a b pos) (tIfS tc t u) := by
  intro pins s σ H D I h
  refine wpAny_If (thn (hc pins s σ H _ I h) fun d s1 hh => ?_)
  obtain ⟨H1, I1, q1⟩ := hh
  cases d with
  | true => exact ha pins s1 σ H1 D I1 q1
  | false => exact hb pins s1 σ H1 D I1 q1
end

/-! ### targets -/
abbrev TG := V → St → Hp → (St → Hp → Prop) → Prop
def PG (X : Cx) (target : Expr) (t : TG) : Prop :=
  ∀ (pins : List (Addr × Obj)) (s : Shared) (σ : St) (H : Hp) (v : V) (u : Value) (Q : St → Hp → Prop), Inv X pins σ H s → RelV v u → t v σ H Q →
    wpAny (model X.prog X.w) X.A (assign target X.env u) (fun _ s' => ∃ σ' H', Inv X pins σ' H' s' ∧ Q σ' H') X.xe s
section
variable {X : Cx} {pos : Pos}
def gName (i : Nat) : TG := fun v σ H Q => Q (σ.set i (some v)) H
theorem pg_name {i : Nat} {x : Str} (hN : X.N.Nodup) (hi : X.N[i]? = some x) (hx : Loc X.env.scope x) (hf : X.fn x = true ∨ X.env.scope.names.lookup x = some .local := by first | exact .inl rfl | exact .inr rfl | assumption) : PG X (.Name x pos) (gName i) := by
  intro pins s σ H v u Q I r h
  exact wpAny_assign_Name (store_ok I hN hi hx r (fun s' I' => ⟨_, H, I', h⟩) hf)
/-- target = value -/
def tAsg (te : TE) (g : TG) : TS := fun D σ H => te σ H fun x H1 => g x σ H1 D.nx
/-- name = value -/
theorem ps_set {i : Nat} {x : Str} {e : Expr} {te : TE} {pos' : Pos} (hN : X.N.Nodup) (hi : X.N[i]? = some x) (hx : Loc X.env.scope x) (he : PE X e te) (hs : swapsWith e (some (.Name x pos')) pos.line X.env = pure false := by rfl) (hf : X.fn x = true ∨ X.env.scope.names.lookup x = some .local := by first | exact .inl rfl | exact .inr rfl | assumption) :
    PS X (.Assign [.Name x pos'] e pos) (tAsg te (gName i)) := by
  intro pins s σ H D I h
  refine wpAny_Assign_Name (thn (he pins s σ H _ I h) fun v s1 hh => ?_) hs
  obtain ⟨y, H1, I1, r1, q1⟩ := hh
  exact store_ok I1 hN hi hx r1 (fun s2 I2 => ⟨_, H1, I2, q1⟩) hf
end

/-! ### while -/
section
variable {X : Cx} {pos : Pos}
/-- the invariant W with its measure -/
def tWhile (c : TT) (tb : TS) : TS := fun D σ H => ∃ W : Nat → St → Hp → Prop, (∃ m, W m σ H) ∧ ∀ m σ H, W m σ H →
  c σ H fun b H1 => if b = true then ∃ N : St → Hp → Prop, (∀ σ' H', N σ' H' → ∃ m', m' < m ∧ W m' σ' H') ∧ tb { D with nx := N, ct := N, bk := D.nx } σ H1 else D.nx σ H1
theorem ps_while {c : Expr} {body : List Stmt} {tc : TT} {tb : TS} (hp : PassesOwn (model X.prog X.w) X.A X.env X.xe) (hc : PT X c tc) (hb : PSs X body tb) : PS X (.While c body [] pos) (tWhile tc tb) := by
  intro pins s σ H D I h
  obtain ⟨W, ⟨m0, w0⟩, turn⟩ := h
  refine wpAny_While (codeAny_whileLoop (fun n s' => ∃ σ' H', Inv X pins σ' H' s' ∧ W n σ' H') ?_ m0 ⟨σ, H, I, w0⟩)
  rintro n s1 ⟨σ1, H1, I1, w1⟩
  refine wpAny_passesOwn hp (thn (hc pins s1 σ1 H1 _ I1 (turn n σ1 H1 w1)) fun b s2 hh => ?_)
  obtain ⟨H2, I2, q2⟩ := hh
  cases b with
  | true =>
    obtain ⟨N, hN, q2⟩ := q2
    rw [if_pos rfl]
    refine wpAny_passesOwn hp (thn (hb pins s2 σ1 H2 _ I2 q2) fun f s3 q3 => ?_)
    cases f with
    | next =>
      obtain ⟨σ3, H3, I3, n3⟩ := q3
      obtain ⟨m', hm, w3⟩ := hN σ3 H3 n3
      exact ⟨m', hm, σ3, H3, I3, w3⟩
    | cont =>
      obtain ⟨σ3, H3, I3, n3⟩ := q3
      obtain ⟨m', hm, w3⟩ := hN σ3 H3 n3
      exact ⟨m', hm, σ3, H3, I3, w3⟩
    | brk => exact q3
    | ret v => exact q3
  | false =>
    rw [if_neg Bool.false_ne_true]
    exact wpAny_execs_nil ⟨σ1, H2, I2, q2⟩
end

/-! ### what a loop or a comprehension walks -/
/-- at turn i: it yields x (the heap may grow), or it stops -/
structure It where
  go : Nat → Hp → Prop
  yld : Nat → Hp → V → Hp → Prop
  stop : Nat → Hp → Prop
/-- the iterator's own objects may turn: they are not the frame's, not pinned, younger than the entry (or a comprehension's own) -/
def FpOk (X : Cx) (pins : List (Addr × Obj)) (H : Hp) (b : Addr) : Prop :=
  H b = none ∧ b ≠ X.env.locals ∧ b ∉ X.fs ∧ (b ∈ X.ex ∨ X.s₀.heap.objs.size ≤ b) ∧ (∀ x c, X.env.cells.lookup x = some c → c ≠ b) ∧ ∀ p ∈ X.pn ++ pins, p.1 ≠ b
theorem Inv.fpOk {X : Cx} {pins : List (Addr × Obj)} {σ : St} {H H' : Hp} {s : Shared} {b : Addr} (I : Inv X pins σ H s) (hb : s.heap.objs.size ≤ b) (hn : H' b = none) : FpOk X pins H' b := by
  refine ⟨hn, Nat.ne_of_gt (Nat.lt_of_lt_of_le I.lt hb), I.nofs hb, .inr (Nat.le_trans I.sz hb), fun x c e z => ?_, fun p hp z => ?_⟩
  · obtain ⟨v, q⟩ := I.cell x c e
    exact absurd (Nat.lt_of_lt_of_le q.lt (by rw [z]; exact hb)) (Nat.lt_irrefl _)
  · exact absurd (Nat.lt_of_lt_of_le (Heap.lt_size (I.pin p hp).1) (by rw [z]; exact hb)) (Nat.lt_irrefl _)
structure Turn (P : Program) (w : World) (K : PySem.W.Frag) (tg : Expr) (J : It) (fp : List Addr) (it : Addr) (tn : Nat → Heap → Prop) : Prop where
  mem : it ∈ fp
  obj : ∀ i h, tn i h → ∀ b ∈ fp, ∃ o, h.get? b = some o ∧ ∀ v, o.data ≠ .cell v
  keep : ∀ i h h', tn i h → (∀ b ∈ fp, ∀ o, h.get? b = some o → h'.get? b = some o) → tn i h'
  item : ∀ (X : Cx), X.prog = P → X.w = w → X.K = K → X.calm = true → ∀ (i : Nat) (pins : List (Addr × Obj)) (s : Shared) (σ : St) (H : Hp) (E : Value → Shared → Prop), Inv X pins σ H s → (∀ b ∈ fp, FpOk X pins H b) → tn i s.heap → J.go i H →
    wpAny (model P w) X.A (pyNext (.ref it)) (fun r s1 => ∃ u, r = some u ∧
      wpAny (model P w) X.A (letOwnedTupleGo tg (.ref it) u) (fun _ s2 => ∃ x H', Inv X pins σ H' s2 ∧ RelV x u ∧ J.yld i H x H' ∧ tn (i + 1) s2.heap ∧ ∀ b ∈ fp, H' b = none) E s1) E s
  done : ∀ (X : Cx), X.prog = P → X.w = w → X.K = K → X.calm = true → ∀ (i : Nat) (pins : List (Addr × Obj)) (s : Shared) (σ : St) (H : Hp) (E : Value → Shared → Prop), Inv X pins σ H s → (∀ b ∈ fp, FpOk X pins H b) → tn i s.heap → J.stop i H →
    wpAny (model P w) X.A (pyNext (.ref it)) (fun r s1 => r = none ∧ Inv X pins σ H s1) E s
  self : ∀ (A : Around) (i : Nat) (s : Shared) (Q : Value → Shared → Prop) (E : Value → Shared → Prop), tn i s.heap → Q (.ref it) s → wpAny (model P w) A (pyIter (.ref it)) Q E s
abbrev TI := St → Hp → (It → Hp → Prop) → Prop
/-- an iterator has come -/
def PIE (X : Cx) (pins : List (Addr × Obj)) (σ : St) (tg : Expr) (R : It → Hp → Prop) (itv : Value) (s2 : Shared) : Prop :=
  ∃ (it : Addr) (fp : List Addr) (tn : Nat → Heap → Prop) (J : It) (H' : Hp), itv = .ref it ∧ Inv X pins σ H' s2 ∧ Turn X.prog X.w X.K tg J fp it tn ∧ tn 0 s2.heap ∧ (∀ b ∈ fp, FpOk X pins H' b) ∧ R J H'
def PI (X : Cx) (tg iter : Expr) (wi : TI) : Prop :=
  ∀ (pins : List (Addr × Obj)) (s : Shared) (σ : St) (H : Hp) (R : It → Hp → Prop), Inv X pins σ H s → wi σ H R →
    wpAny (model X.prog X.w) X.A (eval iter X.env) (fun v s1 => wpAny (model X.prog X.w) X.A (pyIter v) (PIE X pins σ tg R) X.xe s1) X.xe s

/-- the step ahead of the store is nothing for an iterator that keeps no tuple -/
theorem go_of {M : Model} {A : Around} {E : Value → Shared → Prop} {s : Shared} {tg : Expr} {it : Addr} {u : Value} {o : Obj} {n : String} {vs : Array Value} {Q : Unit → Shared → Prop} (ho : s.heap.get? it = some o) (hc : o.cls = .type n) (hd : o.data = .fields vs)
    (hn : ["enumerate", "zip", "dict_itemiterator", "dict_reverseitemiterator", "odict_iterator", "itertools.zip_longest", "itertools.pairwise"].contains n = false) (hQ : Q () s) : wpAny M A (letOwnedTupleGo tg (.ref it) u) Q E s := by
  unfold letOwnedTupleGo
  cases tg <;> first
    | exact wpAny_pure hQ
    | (cases u <;> first
        | exact wpAny_pure hQ
        | (refine wpAny_bind (wpAny_load ho ?_)
           rw [hc, hd]
           show wpAny M A (if (["enumerate", "zip", "dict_itemiterator", "dict_reverseitemiterator", "odict_iterator", "itertools.zip_longest", "itertools.pairwise"].contains n && vs[0]? == some (rawInt _)) = true then _ else _) Q E s
           rw [if_neg (by intro h; rw [hn, Bool.false_and] at h; cases h)]
           exact wpAny_pure hQ))

/-- the list at a, as it stands at each turn (a loop may append to it) -/
def Itl (K : PySem.W.Frag) (a : Addr) : It :=
  ⟨fun i H => ∃ xs x, SqL K H a xs ∧ xs[i]? = some x, fun i H x H' => H' = H ∧ ∀ xs, SqL K H a xs → xs[i]? = some x, fun i H => ∃ xs, SqL K H a xs ∧ xs.length ≤ i⟩
/-- lo, lo + 1, .. (n of them) -/
def Itr (lo : Int) (n : Nat) : It := ⟨fun i _ => i < n, fun i H x H' => H' = H ∧ x = .int (lo + i), fun i _ => n ≤ i⟩
theorem turn_list {P : Program} {w : World} {K : PySem.W.Frag} {tg : Expr} (a it : Addr) : Turn P w K tg (Itl K a) [it] it (fun i h => h.IsListIter it a i) where
  mem := by simp
  obj := fun i h st b hb => by
    have e : b = it := by simpa using hb
    subst e
    obtain ⟨o, e, c, d⟩ := st
    exact ⟨o, e, fun v z => by rw [d] at z; cases z⟩
  keep := fun i h h' st k => st.at fun o e => k it (by simp) o e
  item := by
    intro X hP hw hK hc i pins s σ H E I hf st hg
    subst hP hw hK
    obtain ⟨xs, x, hq, hx⟩ := hg
    obtain ⟨its, rv, p, hz⟩ := I.list hq
    obtain ⟨u, hu, ru⟩ := rv.get hx
    obtain ⟨f0, f1, f2, f3, f4, f5⟩ := hf it (by simp)
    refine wpAny_pyNext_list_item st p.isList (x := u) (by simpa using hu) fun h' st' sb => ?_
    have I1 : Inv X pins σ H { s with heap := h' } := I.turned (t' := s.toks) (fun b o hb e => (sb.2 b hb).trans e) f0 f1 f3 f4 f5
    obtain ⟨o, e, c, d⟩ := id st'
    exact ⟨u, rfl, go_of (s := { s with heap := h' }) e c d (by decide) ⟨x, H, I1, ru, ⟨rfl, fun ys hy => by rw [I.list_inj hy hq]; exact hx⟩, st', fun b hb => (hf b hb).1⟩⟩
  done := by
    intro X hP hw hK hc i pins s σ H E I hf st hg
    subst hP hw hK
    obtain ⟨xs, hq, hx⟩ := hg
    obtain ⟨its, rv, p, hz⟩ := I.list hq
    obtain ⟨f0, f1, f2, f3, f4, f5⟩ := hf it (by simp)
    have hl := rv.length
    exact wpAny_pyNext_list_end (I.ok.hd hc) st p.isList (by simp; omega) fun h' eb => ⟨rfl, I.turned (t' := s.toks) (fun b o hb e => eb b o hb e) f0 f1 f3 f4 f5⟩
  self := fun _ _ _ _ _ st h => wpAny_pyIter_listiter st h
theorem turn_range {P : Program} {w : World} {K : PySem.W.Frag} {tg : Expr} (it : Addr) (lo : Int) (n : Nat) : Turn P w K tg (Itr lo n) [it] it (fun i h => IsRangeIter h it (lo + (i : Nat) * 1) ((n : Int) - (i : Nat)) 1) where
  mem := by simp
  obj := fun i h st b hb => by
    have e : b = it := by simpa using hb
    subst e
    exact ⟨_, st, fun v z => by
      have z' : Data.fields _ = Data.cell v := z
      cases z'⟩
  keep := fun i h h' st k => k it (by simp) _ st
  item := by
    intro X hP hw hK hc i pins s σ H E I hf st hg
    subst hP hw hK
    obtain ⟨f0, f1, f2, f3, f4, f5⟩ := hf it (by simp)
    have W := Walks.range (prog := X.prog) (w := X.w) (I.ok.hd hc) it lo 1 n
    refine W.item i s _ _ hg st fun v h' tk hv st' kk => ?_
    obtain ⟨t, rfl⟩ := hv
    have I1 : Inv X pins σ H { s with heap := h', toks := tk } := I.turned (fun b o hb e => kk b o (by simpa using hb) e) f0 f1 f3 f4 f5
    refine ⟨_, rfl, go_of (s := { s with heap := h', toks := tk }) (n := "range_iterator") st' rfl rfl (by decide) ⟨.int (lo + i), H, I1, ⟨t, ?_⟩, ⟨rfl, rfl⟩, st', fun b hb => (hf b hb).1⟩⟩
    rw [Int.mul_one]
  done := by
    intro X hP hw hK hc i pins s σ H E I hf st hg
    subst hP hw hK
    obtain ⟨f0, f1, f2, f3, f4, f5⟩ := hf it (by simp)
    exact wpAny_pyNext_range_end (I.ok.hd hc) st (by have : n ≤ i := hg; omega) fun h' eb => ⟨rfl, I.turned (t' := s.toks) (fun b o hb e => eb b o hb e) f0 f1 f3 f4 f5⟩
  self := fun _ _ _ _ _ st h => wpAny_pyIter_rangeiter st h
end L2

namespace L2
open PySem PySem.Spec PyProof.Rows
section
variable {X : Cx} {tg : Expr}
def iList (K : PySem.W.Frag) (tl : TE) : TI := fun σ H R => tl σ H fun x H1 => ∃ a, x = .ref a ∧ (∃ xs, SqL K H1 a xs) ∧ R (Itl K a) H1
theorem pi_list {l : Expr} {tl : TE} (hl : PE X l tl) : PI X tg l (iList X.K tl) := by
  intro pins s σ H R I h
  refine thn (hl pins s σ H _ I h) fun v s1 hh => ?_
  obtain ⟨x, H1, I1, r1, q1⟩ := hh
  obtain ⟨a, e, ⟨xs, hq⟩, q⟩ := q1
  subst e
  cases r1
  obtain ⟨its, rv, p, hz⟩ := I1.list hq
  refine wpAny_pyIter_list p.isList ?_
  refine ⟨s1.heap.objs.size, [s1.heap.objs.size], _, _, H1, rfl, I1.kept (t' := s1.toks) fun b o e => Heap.get?_push_of_some _ e, turn_list a _, ⟨_, Heap.get?_push_size _ rfl, rfl, rfl⟩, fun b hb => ?_, q⟩
  have e : b = s1.heap.objs.size := by simpa using hb
  subst e
  exact I1.fpOk (Nat.le_refl _) (I1.hok.fresh (Nat.le_refl _))
/-- a range object just made, walked -/
theorem range_it {pins : List (Addr × Obj)} {σ : St} {H : Hp} {s : Shared} {R : It → Hp → Prop} {E : Value → Shared → Prop} {lo hi : Int} {t u v : Tok} {tk : Nat} (I : Inv X pins σ H s) (h1 : -(2 ^ 62) ≤ lo) (h2 : lo < 2 ^ 62) (h3 : -(2 ^ 62) ≤ hi) (h4 : hi < 2 ^ 62)
    (q : R (Itr lo (hi - lo).toNat) H) : wpAny (model X.prog X.w) X.A (pyIter (.ref s.heap.objs.size)) (PIE X pins σ tg R) E { s with heap := s.heap.push { cls := .type "range", data := .fields #[.int lo t, .int hi u, .int 1 v] }, toks := tk } := by
  refine wpAny_pyIter_range (IsRange.new ..) (small_one h1 h2 h3 h4) ?_
  have I1 : Inv X pins σ H { s with heap := s.heap.push { cls := .type "range", data := .fields #[.int lo t, .int hi u, .int 1 v] }, toks := tk } := I.kept fun b o e => Heap.get?_push_of_some _ e
  refine ⟨(s.heap.push { cls := .type "range", data := .fields #[.int lo t, .int hi u, .int 1 v] }).objs.size, [(s.heap.push { cls := .type "range", data := .fields #[.int lo t, .int hi u, .int 1 v] }).objs.size], _, _, H, rfl,
    I1.kept (t' := tk) fun b o e => Heap.get?_push_of_some _ e, turn_range _ lo (hi - lo).toNat, ?_, fun b hb => ?_, q⟩
  · have e1 : lo + ((0 : Nat) : Int) * 1 = lo := by simp
    have e2 : (((hi - lo).toNat : Nat) : Int) - ((0 : Nat) : Int) = Builtin.Range.rangeSize lo hi 1 := by rw [rangeSize_one]; split <;> omega
    show IsRangeIter _ _ (lo + ((0 : Nat) : Int) * 1) ((((hi - lo).toNat : Nat) : Int) - ((0 : Nat) : Int)) 1
    rw [e1, e2]
    exact Heap.get?_push_size _ rfl
  · have e : b = (s.heap.push { cls := .type "range", data := .fields #[.int lo t, .int hi u, .int 1 v] }).objs.size := by simpa using hb
    subst e
    exact I1.fpOk (Nat.le_refl _) (I1.hok.fresh (Nat.le_refl _))
def iRng1 (ta : TA) : TI := fun σ H R => ta σ H fun vs H1 => ∃ j : Int, vs = [.int j] ∧ -(2 ^ 62) ≤ j ∧ j < 2 ^ 62 ∧ R (Itr 0 j.toNat) H1
theorem pi_range1 {a : Expr} {ta : TA} {p pos : Pos} (hg : Gl X "range") (hm : X.mg "range" = none) (ha : PA X [a] ta) (hs : starEach [a] X.env = [(false, eval a X.env)] := by rfl) : PI X tg (.Call (.Name "range" p) [a] [] pos) (iRng1 ta) := by
  intro pins s σ H R I h
  refine Call_ (ld_blt I hg hm boot_range (PyProof.Rows.callWith_type1 (thn (ha pos pins s σ H _ I h) fun us s1 hh => ?_) hs rfl))
  obtain ⟨vs, H1, I1, r1, q1⟩ := hh
  obtain ⟨j, e, q1, q2, q⟩ := q1
  subst e
  cases r1 with
  | cons r rr =>
    cases rr
    obtain ⟨t, rfl⟩ := r
    exact call_range_1 (range_it I1 (by omega) (by omega) q1 q2 (by simpa using q))

/-! ### for -/
/-- W: the invariant by the turn and a measure; N: what the body is to reach -/
def tFor (wi : TI) (g : TG) (tb : TS) : TS := fun D σ H => wi σ H fun J H1 => ∃ W : Nat → Nat → St → Hp → Prop, (∃ m, W 0 m σ H1) ∧ ∀ i m σ H, W i m σ H →
  (J.stop i H ∧ D.nx σ H) ∨ (J.go i H ∧ ∃ N : St → Hp → Prop, (∀ σ' H', N σ' H' → ∃ m', m' < m ∧ W (i + 1) m' σ' H') ∧ ∀ x H', J.yld i H x H' → g x σ H' fun σ2 H2 => tb { D with nx := N, ct := N, bk := D.nx } σ2 H2)
/-- the records at fp as they stand -/
def pinsAt (fp : List Addr) (h : Heap) : List (Addr × Obj) := fp.filterMap fun b => (h.get? b).map fun o => (b, o)
theorem mem_pinsAt {fp : List Addr} {h : Heap} {b : Addr} {o : Obj} (hb : b ∈ fp) (e : h.get? b = some o) : (b, o) ∈ pinsAt fp h := List.mem_filterMap.mpr ⟨b, hb, by rw [e]; rfl⟩
theorem of_pinsAt {fp : List Addr} {h : Heap} {p : Addr × Obj} (hp : p ∈ pinsAt fp h) : p.1 ∈ fp ∧ h.get? p.1 = some p.2 := by
  obtain ⟨b, hb, e⟩ := List.mem_filterMap.mp hp
  cases q : h.get? b with
  | none => rw [q] at e; cases e
  | some o =>
    rw [q] at e
    have e' : (b, o) = p := Option.some.inj e
    subst e'
    exact ⟨hb, q⟩
theorem Inv.pinned {pins : List (Addr × Obj)} {σ : St} {H : Hp} {s : Shared} {fp : List Addr} (I : Inv X pins σ H s) (hf : ∀ b ∈ fp, FpOk X pins H b) (ho : ∀ b ∈ fp, ∃ o, s.heap.get? b = some o ∧ ∀ v, o.data ≠ .cell v) : Inv X (pins ++ pinsAt fp s.heap) σ H s :=
  I.pins_of fun p hp => (List.mem_append.mp hp).elim (fun z => I.pin p (List.mem_append_right _ z)) fun z => by
    obtain ⟨hb, e⟩ := of_pinsAt z
    obtain ⟨f0, f1, f2, _⟩ := hf p.1 hb
    obtain ⟨o, e', d⟩ := ho p.1 hb
    rw [e] at e'; cases e'
    exact ⟨e, f0, f1, f2, d⟩
theorem Inv.unpinned {pins pl : List (Addr × Obj)} {σ : St} {H : Hp} {s : Shared} (I : Inv X (pins ++ pl) σ H s) : Inv X pins σ H s := I.pins_of fun p hp => I.pin p (List.mem_append_right _ (List.mem_append_left _ hp))
theorem ps_for {iter : Expr} {body : List Stmt} {wi : TI} {g : TG} {tb : TS} {pos : Pos} (hp : PassesOwn (model X.prog X.w) X.A X.env X.xe) (hc : X.calm = true) (hi : PI X tg iter wi) (hg : PG X tg g) (hb : PSs X body tb)
    (hs : ∀ x, foldedSetIterable iter X.env x = pure x := by intro _; rfl) : PS X (.For tg iter body [] pos) (tFor wi g tb) := by
  intro pins s σ H D I h
  refine wpAny_For (thn (hi pins s σ H _ I h) fun v s1 h1 => thn h1 fun itv s2 h2 => ?_) hs
  obtain ⟨it, fp, tn, J, H2, e, I2, T, st2, f2, W, ⟨m0, w0⟩, turn⟩ := h2
  subst e
  -- what stays true of the iterator's objects through the loop
  have stat : ∀ {H' : Hp}, (∀ b ∈ fp, H' b = none) → ∀ b ∈ fp, FpOk X pins H' b := fun hn b hb => ⟨hn b hb, (f2 b hb).2⟩
  refine codeAny_forLoop_any (fun n s' => ∃ i σ' H', Inv X pins σ' H' s' ∧ tn i s'.heap ∧ (∀ b ∈ fp, H' b = none) ∧ W i n σ' H') ?_ m0 ⟨0, σ, H2, I2, st2, fun b hb => (f2 b hb).1, w0⟩
  rintro n s3 ⟨i, σ3, H3, I3, st3, fr3, w3⟩
  rcases turn i n σ3 H3 w3 with ⟨stop, qn⟩ | ⟨go, N, hN, step⟩
  · refine wpAny_passesOwn hp (thn (T.done X rfl rfl rfl hc i pins s3 σ3 H3 X.xe I3 (stat fr3) st3 stop) fun r s4 hh => ?_)
    obtain ⟨hr, I4⟩ := hh
    subst hr
    exact wpAny_execs_nil ⟨σ3, H3, I4, qn⟩
  · refine wpAny_passesOwn hp (thn (T.item X rfl rfl rfl hc i pins s3 σ3 H3 X.xe I3 (stat fr3) st3 go) fun r s4 hh => ?_)
    obtain ⟨u, hr, h4⟩ := hh
    subst hr
    refine wpAny_passesOwn hp (thn h4 fun _ s5 hh => ?_)
    obtain ⟨x, H5, I5, r5, y5, st5, fr5⟩ := hh
    have I5' := I5.pinned (stat fr5) (T.obj _ _ st5)
    refine wpAny_passesOwn hp (thn (hg _ s5 σ3 H5 x u _ I5' r5 (step x H5 y5)) fun _ s6 hh => ?_)
    obtain ⟨σ6, H6, I6, q6⟩ := hh
    refine wpAny_passesOwn hp (thn (hb _ s6 σ6 H6 _ I6 q6) fun f s7 q7 => ?_)
    have again : ∀ {σ7 : St} {H7 : Hp}, Inv X (pins ++ pinsAt fp s5.heap) σ7 H7 s7 → N σ7 H7 → ∃ m, m < n ∧ ∃ i σ' H', Inv X pins σ' H' s7 ∧ tn i s7.heap ∧ (∀ b ∈ fp, H' b = none) ∧ W i m σ' H' := fun {σ7 H7} I7 n7 => by
      obtain ⟨m', hm, w7⟩ := hN σ7 H7 n7
      refine ⟨m', hm, i + 1, σ7, H7, I7.unpinned, T.keep _ _ _ st5 fun b hb o e => (I7.pin (b, o) (List.mem_append_right _ (List.mem_append_right _ (mem_pinsAt hb e)))).1, fun b hb => ?_, w7⟩
      obtain ⟨o, e, d⟩ := T.obj _ _ st5 b hb
      exact (I7.pin (b, o) (List.mem_append_right _ (List.mem_append_right _ (mem_pinsAt hb e)))).2.1
    cases f with
    | next => obtain ⟨σ7, H7, I7, n7⟩ := q7; exact again I7 n7
    | cont => obtain ⟨σ7, H7, I7, n7⟩ := q7; exact again I7 n7
    | brk => obtain ⟨σ7, H7, I7, q7⟩ := q7; exact ⟨σ7, H7, I7.unpinned, q7⟩
    | ret v => obtain ⟨x7, σ7, H7, I7, r7, q7⟩ := q7; exact ⟨x7, σ7, H7, I7.unpinned, r7, q7⟩
end

/-! ### the forms one uses -/
/-- over a list that the body leaves as it is -/
theorem for_list {K : PySem.W.Frag} {a : Addr} {xs : List V} {g : TG} {tb : TS} {D : Ends} {σ : St} {H : Hp} (Pv : Nat → St → Hp → Prop) (h0 : Pv 0 σ H) (hl : ∀ i σ H, i ≤ xs.length → Pv i σ H → SqL K H a xs)
    (hs : ∀ i x σ H, xs[i]? = some x → Pv i σ H → g x σ H fun σ2 H2 => tb { D with nx := Pv (i + 1), ct := Pv (i + 1), bk := D.nx } σ2 H2) (hd : ∀ σ H, Pv xs.length σ H → D.nx σ H) :
    ∃ W : Nat → Nat → St → Hp → Prop, (∃ m, W 0 m σ H) ∧ ∀ i m σ H, W i m σ H →
      ((Itl K a).stop i H ∧ D.nx σ H) ∨ ((Itl K a).go i H ∧ ∃ N : St → Hp → Prop, (∀ σ' H', N σ' H' → ∃ m', m' < m ∧ W (i + 1) m' σ' H') ∧ ∀ x H', (Itl K a).yld i H x H' → g x σ H' fun σ2 H2 => tb { D with nx := N, ct := N, bk := D.nx } σ2 H2) := by
  refine ⟨fun i m σ H => m = xs.length - i ∧ i ≤ xs.length ∧ Pv i σ H, ⟨xs.length, by simp, Nat.zero_le _, h0⟩, ?_⟩
  rintro i m σ H ⟨rfl, hi, p⟩
  have q := hl i σ H hi p
  by_cases hlt : i < xs.length
  · refine .inr ⟨⟨xs, xs[i], q, by simp [hlt]⟩, Pv (i + 1), fun σ' H' p' => ⟨xs.length - (i + 1), by omega, rfl, hlt, p'⟩, fun x H' y => ?_⟩
    obtain ⟨e, y⟩ := y
    subst e
    exact hs i x σ _ (y xs q) p
  · have e : i = xs.length := by omega
    subst e
    exact .inl ⟨⟨xs, q, Nat.le_refl _⟩, hd σ H p⟩
theorem for_range {lo : Int} {n : Nat} {g : TG} {tb : TS} {D : Ends} {σ : St} {H : Hp} (Pv : Nat → St → Hp → Prop) (h0 : Pv 0 σ H)
    (hs : ∀ i σ H, i < n → Pv i σ H → g (.int (lo + i)) σ H fun σ2 H2 => tb { D with nx := Pv (i + 1), ct := Pv (i + 1), bk := D.nx } σ2 H2) (hd : ∀ σ H, Pv n σ H → D.nx σ H) :
    ∃ W : Nat → Nat → St → Hp → Prop, (∃ m, W 0 m σ H) ∧ ∀ i m σ H, W i m σ H →
      ((Itr lo n).stop i H ∧ D.nx σ H) ∨ ((Itr lo n).go i H ∧ ∃ N : St → Hp → Prop, (∀ σ' H', N σ' H' → ∃ m', m' < m ∧ W (i + 1) m' σ' H') ∧ ∀ x H', (Itr lo n).yld i H x H' → g x σ H' fun σ2 H2 => tb { D with nx := N, ct := N, bk := D.nx } σ2 H2) := by
  refine ⟨fun i m σ H => m = n - i ∧ i ≤ n ∧ Pv i σ H, ⟨n, by simp, Nat.zero_le _, h0⟩, ?_⟩
  rintro i m σ H ⟨rfl, hi, p⟩
  by_cases hlt : i < n
  · refine .inr ⟨hlt, Pv (i + 1), fun σ' H' p' => ⟨n - (i + 1), by omega, rfl, hlt, p'⟩, fun x H' y => ?_⟩
    obtain ⟨e, y⟩ := y
    subst e y
    exact hs i σ _ hlt p
  · have e : i = n := by omega
    subst e
    exact .inl ⟨Nat.le_refl _, hd σ H p⟩
end L2

namespace L2
open PySem PySem.Spec PyProof.Rows

abbrev R2 := V → V → Hp → VK → Prop
/-- a two-place operation on values: f is binaryOp op, inplaceOp op or compareOp op -/
def OpR (X : Cx) (f : Value → Value → Sem Value) (r : R2) : Prop :=
  ∀ (pins : List (Addr × Obj)) (s : Shared) (σ : St) (H : Hp) (x y : V) (v u : Value) (Q : VK), Inv X pins σ H s → RelV x v → RelV y u → r x y H Q →
    wpAny (model X.prog X.w) X.A (f v u) (EP X pins σ Q) X.xe s
/-- a one-place operation -/
def UnR (X : Cx) (f : Value → Sem Value) (r : V → Hp → VK → Prop) : Prop :=
  ∀ (pins : List (Addr × Obj)) (s : Shared) (σ : St) (H : Hp) (x : V) (v : Value) (Q : VK), Inv X pins σ H s → RelV x v → r x H Q →
    wpAny (model X.prog X.w) X.A (f v) (EP X pins σ Q) X.xe s
/-- a call of a value that is known (a builtin, a type) with values -/
def CallR (X : Cx) (f : Value) (r : List V → Hp → VK → Prop) : Prop :=
  ∀ (pins : List (Addr × Obj)) (s : Shared) (σ : St) (H : Hp) (xs : List V) (us : List Value) (Q : VK), Inv X pins σ H s → Vals xs us → r xs H Q →
    wpAny (model X.prog X.w) X.A (call f us) (EP X pins σ Q) X.xe s

def tOp (r : R2) (ta tb : TE) : TE := fun σ H Q => ta σ H fun x H1 => tb σ H1 fun y H2 => r x y H2 Q
def tUn (r : V → Hp → VK → Prop) (ta : TE) : TE := fun σ H Q => ta σ H fun x H1 => r x H1 Q
/-- ints in, under C, and a value out -/
def rI (C : Int → Int → Prop) (g : Int → Int → V) : R2 := fun x y H Q => ∃ i j, x = .int i ∧ y = .int j ∧ C i j ∧ Q (g i j) H
def rI0 (g : Int → Int → V) : R2 := fun x y H Q => ∃ i j, x = .int i ∧ y = .int j ∧ Q (g i j) H
def rU (g : Int → V) : V → Hp → VK → Prop := fun x H Q => ∃ i, x = .int i ∧ Q (g i) H

section
variable {X : Cx} {a b c : Expr} {ta tb tc : TE} {pos : Pos}

theorem binT (ha : PE X a ta) (hb : PE X b tb) {pins : List (Addr × Obj)} {s : Shared} {σ : St} {H : Hp} {R : V → V → Hp → Prop} (I : Inv X pins σ H s)
    (h : ta σ H fun x H1 => tb σ H1 fun y H2 => R x y H2) {Q : Value → Shared → Prop} {f : Value → Value → Sem Value}
    (hf : ∀ v u s2 x y H2, Inv X pins σ H2 s2 → RelV x v → RelV y u → R x y H2 → wpAny (model X.prog X.w) X.A (f v u) Q X.xe s2) :
    wpAny (model X.prog X.w) X.A (eval a X.env) (fun v s₁ => wpAny (model X.prog X.w) X.A (eval b X.env) (fun u s₂ => wpAny (model X.prog X.w) X.A (f v u) Q X.xe s₂) X.xe s₁) X.xe s := by
  refine thn (ha pins s σ H _ I h) fun v s1 hh => ?_
  obtain ⟨x, H1, I1, r1, q1⟩ := hh
  refine thn (hb pins s1 σ H1 _ I1 q1) fun u s2 hh => ?_
  obtain ⟨y, H2, I2, r2, q2⟩ := hh
  exact hf v u s2 x y H2 I2 r1 r2 q2

theorem pe_op {op : Operator} {r : R2} (ho : OpR X (binaryOp op) r) (ha : PE X a ta) (hb : PE X b tb) : PE X (.BinOp a op b pos) (tOp r ta tb) := by
  intro pins s σ H Q I h
  exact wpAny_BinOp (binT ha hb I h fun v u s2 x y H2 I2 rx ry q => ho pins s2 σ H2 x y v u Q I2 rx ry q)
theorem pe_un {op : UnaryOp} {r : V → Hp → VK → Prop} (ho : UnR X (unaryOp op) r) (ha : PE X a ta) : PE X (.UnaryOp op a pos) (tUn r ta) := by
  intro pins s σ H Q I h
  exact UnaryOp_ (thn (ha pins s σ H _ I h) fun v s1 ⟨x, H1, I1, r1, q1⟩ => ho pins s1 σ H1 x v Q I1 r1 q1)

/-! ### ints -/
theorem opI {f : Value → Value → Sem Value} {C : Int → Int → Prop} {g : Int → Int → Int}
    (rule : ∀ (i j : Int) (t u : Tok) (s : Shared) (Q : Value → Shared → Prop) (E : Value → Shared → Prop), C i j → Q (.int (g i j) s.toks) { s with toks := s.toks + 1 } → wpAny (model X.prog X.w) X.A (f (.int i t) (.int j u)) Q E s) :
    OpR X f (rI C fun i j => .int (g i j)) := by
  intro pins s σ H x y v u Q I rx ry h
  obtain ⟨i, j, rfl, rfl, hc, q⟩ := h
  obtain ⟨t, rfl⟩ := rx
  obtain ⟨t', rfl⟩ := ry
  exact rule i j t t' s _ _ hc ⟨.int (g i j), H, I.tok _, ⟨_, rfl⟩, q⟩
theorem opI0 {f : Value → Value → Sem Value} {g : Int → Int → Int}
    (rule : ∀ (i j : Int) (t u : Tok) (s : Shared) (Q : Value → Shared → Prop) (E : Value → Shared → Prop), Q (.int (g i j) s.toks) { s with toks := s.toks + 1 } → wpAny (model X.prog X.w) X.A (f (.int i t) (.int j u)) Q E s) :
    OpR X f (rI0 fun i j => .int (g i j)) := by
  intro pins s σ H x y v u Q I rx ry h
  obtain ⟨i, j, rfl, rfl, q⟩ := h
  obtain ⟨t, rfl⟩ := rx
  obtain ⟨t', rfl⟩ := ry
  exact rule i j t t' s _ _ ⟨.int (g i j), H, I.tok _, ⟨_, rfl⟩, q⟩
theorem opB0 {f : Value → Value → Sem Value} {g : Int → Int → Bool}
    (rule : ∀ (i j : Int) (t u : Tok) (s : Shared) (Q : Value → Shared → Prop) (E : Value → Shared → Prop), Q (.bool (g i j)) s → wpAny (model X.prog X.w) X.A (f (.int i t) (.int j u)) Q E s) :
    OpR X f (rI0 fun i j => .bl (g i j)) := by
  intro pins s σ H x y v u Q I rx ry h
  obtain ⟨i, j, rfl, rfl, q⟩ := h
  obtain ⟨t, rfl⟩ := rx
  obtain ⟨t', rfl⟩ := ry
  exact rule i j t t' s _ _ ⟨.bl (g i j), H, I, rfl, q⟩

def CDiv (i j : Int) : Prop := 0 < j ∧ j < 1073741824
def CPow (i j : Int) : Prop := 0 ≤ j ∧ j ≤ 1000000 ∧ i.natAbs < 2 ^ 64
def CMul (i j : Int) : Prop := (-(2 ^ 64) < i ∧ i < 2 ^ 64) ∨ (-(2 ^ 64) < j ∧ j < 2 ^ 64)
theorem CMul.ok {i j : Int} (h : CMul i j) : IntMulOk i j := by
  rcases h with ⟨h1, h2⟩ | ⟨h1, h2⟩
  · exact .of_left (intBits_le_64 h1 h2)
  · exact .of_right (intBits_le_64 h1 h2)
theorem two_pow_nn (k : Nat) : (0 : Int) ≤ 2 ^ k := by
  rw [two_pow_cast]
  exact Int.natCast_nonneg _

theorem op_add : OpR X (binaryOp .Add) (rI0 fun i j => .int (i + j)) := opI0 fun _ _ _ _ _ _ _ q => add_int q
theorem op_sub : OpR X (binaryOp .Sub) (rI0 fun i j => .int (i - j)) := opI0 fun _ _ _ _ _ _ _ q => sub_int q
theorem op_mul : OpR X (binaryOp .Mult) (rI CMul fun i j => .int (i * j)) := opI fun _ _ _ _ _ _ _ hc q => mul_int q hc.ok
/-- // by a positive divisor -/
theorem op_fdiv : OpR X (binaryOp .FloorDiv) (rI CDiv fun i j => .int (i / j)) := opI fun i j _ _ _ _ _ hc q => by
  have h1 : (0 : Int) < j := hc.1
  have h2 : j < 1073741824 := hc.2
  exact floordiv_int (by omega) (by rw [Int.fdiv_eq_ediv_of_nonneg i (by omega)]; exact q) (.inl (PyProof.noPylong_small (by omega)))
/-- % by a positive divisor of any size -/
theorem op_mod : OpR X (binaryOp .Mod) (rI (fun _ j => 0 < j) fun i j => .int (i % j)) := opI fun i j _ _ _ _ _ hc q => by
  have h1 : (0 : Int) < j := hc
  exact mod_int' (by omega) (by rw [Int.fmod_eq_emod_of_nonneg i (by omega)]; exact q)
theorem op_pow : OpR X (binaryOp .Pow) (rI CPow fun i j => .int (i ^ j.toNat)) := opI fun _ _ _ _ _ _ _ hc q => pow_int_small hc.1 hc.2.1 hc.2.2 q
theorem op_shr : OpR X (binaryOp .RShift) (rI (fun _ j => 0 ≤ j) fun i j => .int (i / 2 ^ j.toNat)) := opI fun i j _ _ _ _ _ hc q =>
  rshift_int hc (by rw [Int.fdiv_eq_ediv_of_nonneg i (two_pow_nn _)]; exact q)


theorem unI {f : Value → Sem Value} {g : Int → Int}
    (rule : ∀ (i : Int) (t : Tok) (s : Shared) (Q : Value → Shared → Prop) (E : Value → Shared → Prop), Q (.int (g i) s.toks) { s with toks := s.toks + 1 } → wpAny (model X.prog X.w) X.A (f (.int i t)) Q E s) :
    UnR X f (rU fun i => .int (g i)) := by
  intro pins s σ H x v Q I rx h
  obtain ⟨i, rfl, q⟩ := h
  obtain ⟨t, rfl⟩ := rx
  exact rule i t s _ _ ⟨.int (g i), H, I.tok _, ⟨_, rfl⟩, q⟩
theorem un_neg : UnR X (unaryOp .USub) (rU fun i => .int (-i)) := unI fun _ _ _ _ _ q => neg_int q

/-! ### bools among ints: n += (a < b) -/
end

/-! ### comparisons -/
/-- the scalars that == tells apart as data does -/
def scal : V → V → Bool
  | .non, .non => true | .non, .int _ => true | .int _, .non => true | .non, .bl _ => true | .bl _, .non => true | .non, .str _ => true | .str _, .non => true
  | .int _, .int _ => true | .bl _, .bl _ => true | .str _, .str _ => true | .byt _, .byt _ => true
  | .int _, .str _ => true | .str _, .int _ => true | .bl _, .str _ => true | .str _, .bl _ => true
  | _, _ => false
def rEq : R2 := fun x y H Q => scal x y = true ∧ Q (.bl (decide (x = y))) H
def rNe : R2 := fun x y H Q => scal x y = true ∧ Q (.bl (!decide (x = y))) H

theorem dec_int {i j : Int} : decide (V.int i = V.int j) = (i == j) := by
  rw [Bool.eq_iff_iff]
  simp
theorem dec_bl {i j : Bool} : decide (V.bl i = V.bl j) = (i == j) := by
  rw [Bool.eq_iff_iff]
  simp
theorem dec_str {i j : Str} : decide (V.str i = V.str j) = (i == j) := by
  rw [Bool.eq_iff_iff]
  simp
theorem dec_byt {i j : Array UInt8} : decide (V.byt i = V.byt j) = (i.toList == j.toList) := by
  rw [Bool.eq_iff_iff]
  cases i
  cases j
  simp

section
variable {X : Cx} {a b c : Expr} {ta tb tc : TE} {pos : Pos}
theorem fin_bl {pins : List (Addr × Obj)} {σ : St} {H : Hp} {s : Shared} {Q : VK} {k k' : Bool} (I : Inv X pins σ H s) (q : Q (.bl k) H) (e : k = k') : EP X pins σ Q (.bool k') s := by
  subst e
  exact ⟨.bl k, H, I, rfl, q⟩
theorem op_eq : OpR X (compareOp .Eq) rEq := by
  intro pins s σ H x y v u Q I rx ry h
  obtain ⟨hs, q⟩ := h
  cases x with
  | non =>
    cases rx
    cases y with
    | non => cases ry; exact PySem.EqNone.eq_none_none (fin_bl I q (by simp))
    | bl j => cases ry; exact PySem.EqNone.eq_none_bool (fin_bl I q (by simp))
    | int j => obtain ⟨t', rfl⟩ := ry; exact PySem.EqNone.eq_none_int (fin_bl I q (by simp))
    | str j => obtain ⟨t', rfl⟩ := ry; exact PySem.EqNone.eq_none_str (fin_bl I q (by simp))
    | _ => exact absurd (show false = true from hs) Bool.false_ne_true
  | bl i =>
    cases rx
    cases y with
    | non => cases ry; exact PySem.EqNone.eq_bool_none (fin_bl I q (by simp))
    | bl j => cases ry; exact eq_bool (fin_bl I q dec_bl)
    | str j => obtain ⟨t', rfl⟩ := ry; exact PySem.EqMixed.eq_bool_str (fin_bl I q (by simp))
    | _ => exact absurd (show false = true from hs) Bool.false_ne_true
  | int i =>
    obtain ⟨t, rfl⟩ := rx
    cases y with
    | non => cases ry; exact PySem.EqNone.eq_int_none (fin_bl I q (by simp))
    | int j => obtain ⟨t', rfl⟩ := ry; exact eq_int (fin_bl I q dec_int)
    | str j => obtain ⟨t', rfl⟩ := ry; exact PySem.EqMixed.eq_int_str (fin_bl I q (by simp))
    | _ => exact absurd (show false = true from hs) Bool.false_ne_true
  | str i =>
    obtain ⟨t, rfl⟩ := rx
    cases y with
    | non => cases ry; exact PySem.EqNone.eq_str_none (fin_bl I q (by simp))
    | bl j => cases ry; exact PySem.EqMixed.eq_str_bool (fin_bl I q (by simp))
    | int j => obtain ⟨t', rfl⟩ := ry; exact PySem.EqMixed.eq_str_int (fin_bl I q (by simp))
    | str j => obtain ⟨t', rfl⟩ := ry; exact eq_str (fin_bl I q dec_str)
    | _ => exact absurd (show false = true from hs) Bool.false_ne_true
  | byt i =>
    obtain ⟨t, rfl⟩ := rx
    cases y with
    | byt j => obtain ⟨t', rfl⟩ := ry; exact PySem.W.eq_bytes (fin_bl I q dec_byt)
    | _ => exact absurd (show false = true from hs) Bool.false_ne_true
  | _ => cases y <;> exact absurd (show false = true from hs) Bool.false_ne_true
theorem op_ne : OpR X (compareOp .NotEq) rNe := by
  intro pins s σ H x y v u Q I rx ry h
  obtain ⟨hs, q⟩ := h
  cases x with
  | non =>
    cases rx
    cases y with
    | non => cases ry; exact PySem.EqNone.ne_none_none (fin_bl I q (by simp))
    | bl j => cases ry; exact PySem.EqNone.ne_none_bool (fin_bl I q (by simp))
    | int j => obtain ⟨t', rfl⟩ := ry; exact PySem.EqNone.ne_none_int (fin_bl I q (by simp))
    | str j => obtain ⟨t', rfl⟩ := ry; exact PySem.EqNone.ne_none_str (fin_bl I q (by simp))
    | _ => exact absurd (show false = true from hs) Bool.false_ne_true
  | bl i =>
    cases rx
    cases y with
    | non => cases ry; exact PySem.EqNone.ne_bool_none (fin_bl I q (by simp))
    | bl j => cases ry; exact ne_bool (fin_bl I q (congrArg not dec_bl))
    | str j => obtain ⟨t', rfl⟩ := ry; exact PySem.EqMixed.ne_bool_str (fin_bl I q (by simp))
    | _ => exact absurd (show false = true from hs) Bool.false_ne_true
  | int i =>
    obtain ⟨t, rfl⟩ := rx
    cases y with
    | non => cases ry; exact PySem.EqNone.ne_int_none (fin_bl I q (by simp))
    | int j => obtain ⟨t', rfl⟩ := ry; exact ne_int (fin_bl I q (congrArg not dec_int))
    | str j => obtain ⟨t', rfl⟩ := ry; exact PySem.EqMixed.ne_int_str (fin_bl I q (by simp))
    | _ => exact absurd (show false = true from hs) Bool.false_ne_true
  | str i =>
    obtain ⟨t, rfl⟩ := rx
    cases y with
    | non => cases ry; exact PySem.EqNone.ne_str_none (fin_bl I q (by simp))
    | bl j => cases ry; exact PySem.EqMixed.ne_str_bool (fin_bl I q (by simp))
    | int j => obtain ⟨t', rfl⟩ := ry; exact PySem.EqMixed.ne_str_int (fin_bl I q (by simp))
    | str j => obtain ⟨t', rfl⟩ := ry; exact ne_str (fin_bl I q (congrArg not dec_str))
    | _ => exact absurd (show false = true from hs) Bool.false_ne_true
  | byt i =>
    obtain ⟨t, rfl⟩ := rx
    cases y with
    | byt j => obtain ⟨t', rfl⟩ := ry; exact PySem.W.ne_bytes (fin_bl I q (congrArg not dec_byt))
    | _ => exact absurd (show false = true from hs) Bool.false_ne_true
  | _ => cases y <;> exact absurd (show false = true from hs) Bool.false_ne_true

theorem op_lt : OpR X (compareOp .Lt) (rI0 fun i j => .bl (decide (i < j))) := opB0 fun _ _ _ _ _ _ _ q => lt_int q
theorem op_le : OpR X (compareOp .LtE) (rI0 fun i j => .bl (decide (i ≤ j))) := opB0 fun _ _ _ _ _ _ _ q => le_int q
theorem op_gt : OpR X (compareOp .Gt) (rI0 fun i j => .bl (decide (j < i))) := opB0 fun _ _ _ _ _ _ _ q => gt_int q
theorem op_ge : OpR X (compareOp .GtE) (rI0 fun i j => .bl (decide (j ≤ i))) := opB0 fun _ _ _ _ _ _ _ q => ge_int q
/-- the one string within the other -/
theorem op_in_str : OpR X (compareOp .In) (fun x y H Q => ∃ i j, x = .str i ∧ y = .str j ∧ Q (.bl (!(Builtin.Str.occurrences j i 0 j.length 1).isEmpty)) H) := by
  intro pins s σ H x y v u Q I rx ry h
  obtain ⟨i, j, rfl, rfl, q⟩ := h
  obtain ⟨t, rfl⟩ := rx
  obtain ⟨t', rfl⟩ := ry
  exact in_str (fin_bl I q rfl)



/-- two rules for one operation: by cases -/
theorem OpR.or {f : Value → Value → Sem Value} {r r' : R2} (h : OpR X f r) (h' : OpR X f r') : OpR X f (fun x y H Q => r x y H Q ∨ r' x y H Q) := by
  intro pins s σ H x y v u Q I rx ry q
  rcases q with q | q
  · exact h pins s σ H x y v u Q I rx ry q
  · exact h' pins s σ H x y v u Q I rx ry q

theorem nomark (b : Expr) {op : CmpOp} (h : op ≠ .In := by decide) (h2 : op ≠ .NotIn := by decide) : behindInMarks op b = false := by
  have e1 : (op == CmpOp.In) = false := by cases op <;> first | rfl | exact absurd rfl h
  have e2 : (op == CmpOp.NotIn) = false := by cases op <;> first | rfl | exact absurd rfl h2
  cases b <;> simp [behindInMarks, e1, e2]
/-- a comparison as a value; hm: nomark b, or (for in, not in) by with_unfolding_all rfl -/
theorem pe_cmpR {op : CmpOp} {r : R2} (ho : OpR X (compareOp op) r) (ha : PE X a ta) (hb : PE X b tb) (hm : behindInMarks op b = false) : PE X (.Compare a [op] [b] pos) (tOp r ta tb) := by
  intro pins s σ H Q I h
  exact wpAny_Compare1 (binT ha hb I h fun v u s2 x y H2 I2 rx ry q => ho pins s2 σ H2 x y v u Q I2 rx ry q) hm
/-- a reading of a value as a test -/
def tTest (t : TE) : TT := fun σ H Q => t σ H fun x H' => ∃ k, x = .bl k ∧ Q k H'
theorem pt_cmpR {op : CmpOp} {r : R2} (ho : OpR X (compareOp op) r) (ha : PE X a ta) (hb : PE X b tb) (hm : behindInMarks op b = false) : PT X (.Compare a [op] [b] pos) (tTest (tOp r ta tb)) := by
  intro pins s σ H Q I h
  refine wpAny_isTrue_Compare1 (thn (ha pins s σ H _ I h) fun v s1 ⟨x, H1, I1, r1, q1⟩ => thn (hb pins s1 σ H1 _ I1 q1) fun u s2 ⟨y, H2, I2, r2, q2⟩ =>
    thn (ho pins s2 σ H2 x y v u _ I2 r1 r2 q2) fun c s3 ⟨z, H3, I3, r3, k, e, q3⟩ => ?_) hm
  subst e
  cases r3
  exact wpAny_truthy_bool ⟨H3, I3, q3⟩
/-- a op1 b op2 c -/
def tChain (r r' : R2) (ta tb tc : TE) : TE := fun σ H Q => ta σ H fun x H1 => tb σ H1 fun y H2 => r x y H2 fun z H3 => ∃ k, z = .bl k ∧
  (if k = true then tc σ H3 fun w' H4 => r' y w' H4 Q else Q (.bl false) H3)
theorem pt_chain {op op' : CmpOp} {r r' : R2} (ho : OpR X (compareOp op) r) (ho' : OpR X (compareOp op') r') (ha : PE X a ta) (hb : PE X b tb) (hc : PE X c tc)
    (hm : lastMarks [op, op'] [b, c] = false := by with_unfolding_all rfl) : PT X (.Compare a [op, op'] [b, c] pos) (tTest (tChain r r' ta tb tc)) := by
  intro pins s σ H Q I h
  refine isTrue_chain (thn (ha pins s σ H _ I h) fun v s1 ⟨x, H1, I1, r1, q1⟩ => test_link (thn (hb pins s1 σ H1 _ I1 q1) fun u s2 ⟨y, H2, I2, r2, q2⟩ =>
    thn (ho pins s2 σ H2 x y v u _ I2 r1 r2 q2) fun d s3 ⟨z, H3, I3, r3, k, e, q3⟩ => ?_)) hm
  subst e
  cases r3
  refine wpAny_truthy_bool ?_
  cases k with
  | false =>
    obtain ⟨k', e', q'⟩ := q3
    cases e'
    exact ite_ff ⟨H3, I3, q'⟩
  | true =>
    refine ite_tt (test_last (thn (hc pins s3 σ H3 _ I3 q3) fun w' s4 ⟨z', H4, I4, r4, q4⟩ => thn (ho' pins s4 σ H4 y z' u w' _ I4 r2 r4 q4) fun d' s5 ⟨z2, H5, I5, r5, k2, e2, q5⟩ => ?_))
    subst e2
    cases r5
    exact wpAny_truthy_bool ⟨H5, I5, q5⟩

/-! ### truth -/
theorem line63 : (sizeLine : Nat) < 2 ^ 63 := by rw [sizeLine_eq]; decide

/-! ### strs and bytes -/


/-! ### scalar builtins, by CallR -/
theorem vals1 {x : V} {us : List Value} (r : Vals [x] us) : ∃ u, us = [u] ∧ RelV x u := by
  cases r with
  | cons r1 r2 => cases r2; exact ⟨_, rfl, r1⟩
theorem call_str_int : CallR X (.type "str") (fun xs H Q => ∃ i, xs = [.int i] ∧ i.natAbs.log2 < 1920 ∧ Q (.str (toString i)) H) := by
  intro pins s σ H xs us Q I r h
  obtain ⟨i, rfl, hz, q⟩ := h
  obtain ⟨u, rfl, t, rfl⟩ := vals1 r
  exact PySem.P.str_of_int hz ⟨.str _, H, I.tok _, ⟨_, rfl⟩, q⟩
end
end L2

namespace L2
open PySem PySem.Spec PyProof.Rows

/-! ### an instance, its attributes a map -/
structure ObjM (h : Heap) (x dx C : Addr) (mA : Str → Option Value) : Prop where
  obj : h.get? x = some (PySem.W.instObj C dx)
  ns : h.Ns1 dx mA
  ne : dx ≠ x

theorem lookIn_ns {h : Heap} {dx : Addr} {mA : Str → Option Value} (n : h.Ns1 dx mA) : ∃ od, h.get? dx = some od ∧ ∀ name, PySem.W.lookIn name od = some (mA name) := by
  obtain ⟨o, es, ep, ho, hd, hk, _, hm⟩ := n
  refine ⟨o, ho, fun name => ?_⟩
  have e := hm name
  unfold nsFind findBy at e
  rw [← Array.find?_toList] at e
  unfold PySem.W.lookIn
  rw [hd]
  dsimp only
  split
  · rename_i y q
    rw [q] at e
    exact congrArg some e
  · rename_i q
    rw [q] at e
    have a : es.toList.any (·.refKey) = false := by
      rw [List.any_eq_false]
      intro y hy
      obtain ⟨z, t, hkey⟩ := hk y (Array.mem_toList_iff.mp hy)
      simp [DictEntry.refKey, hkey]
    have a' : ¬ es.toList.any (·.refKey) = true := by rw [a]; exact Bool.false_ne_true
    rw [if_neg a']
    exact congrArg some e

theorem ObjM.look {h : Heap} {x dx C : Addr} {mA : Str → Option Value} (I : ObjM h x dx C mA) : ∃ od, PySem.W.InstAt h x (PySem.W.instObj C dx) C (some od) ∧ ∀ name, PySem.W.lookIn name od = some (mA name) :=
  let ⟨od, ho, hl⟩ := lookIn_ns I.ns
  ⟨od, ⟨I.obj, rfl, rfl, ho⟩, hl⟩

section
variable {prog : Program} {w : World} {A : Around} {E : Value → Shared → Prop} {s : Shared} {K : PySem.W.Frag} {x dx C f : Addr} {mA : Str → Option Value} {name : Str} {v : Value}

theorem get_map {expr : Bool} {Q : Value → Shared → Prop} (X : K.In s.heap) (I : ObjM s.heap x dx C mA) (hg : PySem.W.plainGet K C name = true) (hh : PySem.W.hasDictIn K C = true)
    (ha : PySem.W.findIn K (.ref C) name = some none) (hv : mA name = some v) (hv' : PySem.W.handedIn v = true) (h : Q v { s with toks := s.toks + 1 }) :
    wpAny (model prog w) A (getAttr (.ref x) name expr) Q E s := by
  obtain ⟨od, J, hl⟩ := I.look
  exact PySem.W.get_value X J (PySem.W.plainGet_of hg).1 (PySem.W.findObj_own hh ha rfl (by rw [hl, hv])) hv' h


theorem get_meth {pl : Sem Bool} {Q : Value × List Value → Shared → Prop} (X : K.In s.heap) (I : ObjM s.heap x dx C mA) (hg : PySem.W.plainGet K C name = true)
    (hf : PySem.W.findIn K (.ref C) name = some (some (.ref f))) (ht : PySem.W.isFn K (.ref f) = true) (hv : mA name = none) (h : Q (.ref f, [.ref x]) s) :
    wpAny (model prog w) A (getMethod (.ref x) name pl) Q E s := by
  obtain ⟨od, J, hl⟩ := I.look
  exact PySem.W.method_fn X J (PySem.W.plainGet_of hg).1 (PySem.W.plainGet_of hg).2 hf (beq_iff_eq.mp ht) (by show (PySem.W.lookIn name od).map (·.isSome) = some false; rw [hl, hv]; rfl) h

theorem set_map {ns : List Str} {Q : Unit → Shared → Prop} (X : K.In s.heap) (I : ObjM s.heap x dx C mA)
    (hs : PySem.W.findIn K (.ref C) "__setattr__" = some (some (.builtin "object.__setattr__"))) (hp : PySem.W.plainOver K C = true) (ht : PySem.W.takerIn K C name = some none) (hh : PySem.W.hasDictIn K C = true)
    (hw : PySem.Within mA ns) (hsz : ns.length ≤ sizeLine)
    (h : ∀ h', ObjM h' x dx C (fun y => if y = name then some v else mA y) → Heap.SameBut dx s.heap h' → Q () { s with heap := h', toks := s.toks + 2 }) :
    wpAny (model prog w) A (setAttr (.ref x) name v) Q E s := by
  obtain ⟨od, J, hl⟩ := I.look
  refine PySem.W.set_plain X J hs (PySem.W.osa_open (s := { s with toks := s.toks + 1 }) (r := none) X J hp ht fun b => ?_)
  obtain ⟨cd, hc, hd'⟩ := PySem.W.any_some hh
  have hx : s.heap.get? x = some ⟨.ref C, some dx, .plain, #[]⟩ := I.obj
  refine wpAny_bind (wpAny_pure (wpAny_bind (wpAny_bind (wpAny_loadPart hx (wpAny_bind (PySem.W.Looks.here (s := { s with toks := s.toks + 1 }) (PySem.W.looks_clsIn X hc) ?_))))))
  rw [hd']
  refine wpAny_pure (a := some dx) (wpAny_bind (wpAny_pure (wpAny_bind ?_)))
  refine wpAny_nsSet1 (s := { s with toks := s.toks + 1 }) I.ns fun h' hn2 hs2 => ?_
  obtain ⟨oD, esD, epD, hoD, hdD, hcD⟩ := hn2.count (PySem.Within.cons name v hw)
  refine wpAny_bind (wpAny_lookBehind hoD (by rw [hdD]; exact pastItsLine_dict (Nat.le_trans hcD (by rw [List.length_cons]; omega))) ?_)
  exact wpAny_pure (h _ ⟨(hs2.2 _ (Ne.symm I.ne)).trans I.obj, hn2, I.ne⟩ hs2)

/-- C(..): the dict at the heap's end, the instance behind it; then its __init__ -/
theorem make_map {R : Result → Shared → Prop} {vs : List Value} {kw : List (Str × Value)} (X : K.In s.heap) (hm : PySem.W.makesIn K C = true)
    (hi : PySem.W.findIn K (.ref C) "__init__" = some (some (.ref f))) (hf : PySem.W.typeIn K (.ref f) = some (.type "function"))
    (h : codeAny (model prog w) (A.under (.builtin "type.__call__" ⟨.ref C :: vs, kw⟩)) (.call (.ref f) ⟨.ref (s.heap.objs.size + 1) :: vs, kw⟩) (PySem.W.InitBack (s.heap.objs.size + 1) R)
      { s with heap := (s.heap.push PySem.W.emptyDict).push (PySem.W.instObj C s.heap.objs.size) }) :
    codeAny (model prog w) A (.call (.ref C) ⟨vs, kw⟩) R s := by
  obtain ⟨hh, g, d, t, os⟩ := s
  exact PySem.W.make_core (PySem.W.makes_of X hm) (PySem.W.looks_findIn X hi) (fun self => PySem.W.bind_fn X self hf) (.inl rfl) h
end

/-! ### the attributes as a list of pairs -/
def putF (f : Str) (v : V) : List (Str × V) → List (Str × V)
  | [] => [(f, v)]
  | (g, x) :: r => if g = f then (g, v) :: r else (g, x) :: putF f v r
theorem lookup_putF (f g : Str) (v : V) : ∀ fs : List (Str × V), (putF f v fs).lookup g = if g = f then some v else fs.lookup g
  | [] => by
    show List.lookup g [(f, v)] = _
    by_cases h : g = f
    · have hb : (g == f) = true := beq_iff_eq.mpr h
      simp only [List.lookup, hb, if_pos h]
    · have hb : (g == f) = false := beq_eq_false_iff_ne.mpr h
      simp only [List.lookup, hb, if_neg h]
  | (k, x) :: r => by
    have ih := lookup_putF f g v r
    rw [show putF f v ((k, x) :: r) = (if k = f then (k, v) :: r else (k, x) :: putF f v r) from rfl]
    by_cases hk : k = f
    · rw [if_pos hk]
      by_cases h : g = k
      · have hb : (g == k) = true := beq_iff_eq.mpr h
        simp only [List.lookup, hb, if_pos (h.trans hk)]
      · have hb : (g == k) = false := beq_eq_false_iff_ne.mpr h
        simp only [List.lookup, hb, if_neg (fun e : g = f => h (e.trans hk.symm))]
    · rw [if_neg hk]
      by_cases h : g = k
      · have hb : (g == k) = true := beq_iff_eq.mpr h
        simp only [List.lookup, hb, if_neg (fun e : g = f => hk (h.symm.trans e))]
      · have hb : (g == k) = false := beq_eq_false_iff_ne.mpr h
        simp only [List.lookup, hb]
        exact ih
theorem keys_putF (f : Str) (v : V) : ∀ fs : List (Str × V), f ∈ (putF f v fs).map (·.1) ∧ ∀ g, g ∈ fs.map (·.1) → g ∈ (putF f v fs).map (·.1)
  | [] => ⟨by simp [putF], fun g h => by simp at h⟩
  | (k, x) :: r => by
    obtain ⟨i1, i2⟩ := keys_putF f v r
    rw [show putF f v ((k, x) :: r) = (if k = f then (k, v) :: r else (k, x) :: putF f v r) from rfl]
    by_cases hk : k = f
    · rw [if_pos hk]
      subst hk
      exact ⟨by simp, fun g h => by simpa using h⟩
    · rw [if_neg hk]
      refine ⟨?_, fun g h => ?_⟩
      · rw [List.map_cons]
        exact List.mem_cons_of_mem _ i1
      · rw [List.map_cons] at h ⊢
        rcases List.mem_cons.mp h with e | e
        · exact List.mem_cons.mpr (.inl e)
        · exact List.mem_cons_of_mem _ (i2 g e)
theorem length_putF (f : Str) (v : V) : ∀ fs : List (Str × V), (putF f v fs).length ≤ fs.length + 1
  | [] => by simp [putF]
  | (k, x) :: r => by
    have ih := length_putF f v r
    rw [show putF f v ((k, x) :: r) = (if k = f then (k, v) :: r else (k, x) :: putF f v r) from rfl]
    by_cases hk : k = f
    · rw [if_pos hk, List.length_cons, List.length_cons]; omega
    · rw [if_neg hk, List.length_cons, List.length_cons]; omega

theorem RelO.some_of {v : V} {o : Option Value} (r : RelO (some v) o) : ∃ u, o = some u ∧ RelV v u := by
  cases o with
  | none => exact (show False from r).elim
  | some u => exact ⟨u, rfl, r⟩
theorem RelO.none_of {o : Option Value} (r : RelO none o) : o = none := by
  cases o with
  | none => rfl
  | some u => exact (show False from r).elim
theorem handed_of {v : V} {u : Value} (r : RelV v u) : PySem.W.handedIn u = true := by
  cases v with
  | non => cases (show u = Value.none from r); rfl
  | bl b => cases (show u = Value.bool b from r); rfl
  | int i => obtain ⟨t, e⟩ := (show ∃ t, u = Value.int i t from r); cases e; rfl
  | str x => obtain ⟨t, e⟩ := (show ∃ t, u = Value.str x t from r); cases e; rfl
  | byt b => obtain ⟨t, e⟩ := (show ∃ t, u = Value.bytes b t from r); cases e; rfl
  | flt b => obtain ⟨t, e⟩ := (show ∃ t, u = Value.float b t from r); cases e; rfl
  | ref a => cases (show u = Value.ref a from r); rfl
  | ty n => cases (show u = Value.type n from r); rfl

section
variable {P : Program} {w : World} {H H' : Hp} {h h' : Heap} {a C dx : Addr} {fs fs' : List (Str × V)}
theorem ins_get (hok : HOk P w H h) (e : H a = some (.ins C dx fs)) : ∃ mA, ObjM h a dx C mA ∧ (∀ f, RelO (fs.lookup f) (mA f)) ∧ PySem.Within mA (fs.map (·.1)) ∧ fs.length ≤ 1000 ∧ H dx = some (.own a) := by
  obtain ⟨d, z, ne, ob, mA, n, r, q⟩ := (show ObjOk P w H h a (.ins C dx fs) from hok a _ e)
  exact ⟨mA, ⟨ob, n, ne⟩, r, q, z, d⟩
end

/-! ### what of the text a class must have -/
structure Cls (K : PySem.W.Frag) (C : Addr) : Prop where
  pg : PySem.W.plainGet K C Str.empty = true
  hd : PySem.W.hasDictIn K C = true
  po : PySem.W.plainOver K C = true
  sa : PySem.W.findIn K (.ref C) "__setattr__" = some (some (.builtin "object.__setattr__"))
theorem Cls.get {K : PySem.W.Frag} {C : Addr} (c : Cls K C) (f : Str) : PySem.W.plainGet K C f = true := c.pg
/-- no class of it has the name -/
def NoAttr (K : PySem.W.Frag) (C : Addr) (f : Str) : Prop := PySem.W.findIn K (.ref C) f = some none
theorem NoAttr.taker {K : PySem.W.Frag} {C : Addr} {f : Str} (n : NoAttr K C f) : PySem.W.takerIn K C f = some none := by
  unfold PySem.W.takerIn
  rw [show PySem.W.findIn K (.ref C) f = some none from n]
  rfl
/-- a method: a plain def of the class or of one above it -/
structure Meth (K : PySem.W.Frag) (C : Addr) (m : Str) (f : Addr) : Prop where
  at_ : PySem.W.findIn K (.ref C) m = some (some (.ref f))
  fn : PySem.W.isFn K (.ref f) = true
  kp : PySem.W.keepIn K (.ref f) = true

section
variable {X : Cx} {pins : List (Addr × Obj)} {σ : St} {H : Hp} {s : Shared} {a C dx : Addr} {fs : List (Str × V)} {f : Str} {v : V} {A : Around} {E : Value → Shared → Prop}

theorem getattr_ok {b : Bool} {Q : Value → Shared → Prop} (I : Inv X pins σ H s) (e : H a = some (.ins C dx fs)) (c : Cls X.K C) (n : NoAttr X.K C f) (l : fs.lookup f = some v)
    (h : ∀ u s', Inv X pins σ H s' → RelV v u → Q u s') : wpAny (model X.prog X.w) A (getAttr (.ref a) f b) Q E s := by
  obtain ⟨mA, O, r, _, _, _⟩ := ins_get I.hok e
  obtain ⟨u, hu, ru⟩ := RelO.some_of (v := v) (o := mA f) (by rw [← l]; exact r f)
  exact get_map I.kIn O (c.get f) c.hd n hu (handed_of ru) (h u _ (I.tok _) ru)


theorem getmeth_ok {m : Str} {g : Addr} {pl : Sem Bool} {Q : Value × List Value → Shared → Prop} (I : Inv X pins σ H s) (e : H a = some (.ins C dx fs)) (c : Cls X.K C) (k : Meth X.K C m g) (l : fs.lookup m = none)
    (h : Q (.ref g, [.ref a]) s) : wpAny (model X.prog X.w) A (getMethod (.ref a) m pl) Q E s := by
  obtain ⟨mA, O, r, _, _, _⟩ := ins_get I.hok e
  have hn : mA m = none := RelO.none_of (by rw [← l]; exact r m)
  exact get_meth I.kIn O (c.get m) k.at_ k.fn hn h

theorem setattr_ok {y : V} {u : Value} {Q : Unit → Shared → Prop} (I : Inv X pins σ H s) (e : H a = some (.ins C dx fs)) (c : Cls X.K C) (n : NoAttr X.K C f) (hl : fs.length < 1000) (ry : RelV y u)
    (h : ∀ s', Inv X pins σ (upd H a (.ins C dx (putF f y fs))) s' → Q () s') : wpAny (model X.prog X.w) A (setAttr (.ref a) f u) Q E s := by
  obtain ⟨mA, O, r, wi, _, ho⟩ := ins_get I.hok e
  have hz : (fs.map (·.1)).length ≤ sizeLine := by rw [List.length_map, sizeLine_eq]; omega
  refine set_map I.kIn O c.sa c.po n.taker c.hd wi hz fun h' O' sb => h _ ?_
  have hd : ∃ o, h'.get? dx = some o := let ⟨o, _, _, e', _⟩ := O'.ns; ⟨o, e'⟩
  refine I.write (x := a) (e := dx) (by rw [e]; exact True.intro) (.inr ho) (fun b q hb z => (sb.2 b hb).trans z) hd ?_
  refine ⟨by rw [upd_ne O.ne]; exact ho, ?_, O.ne, O'.obj, _, O'.ns, fun g => ?_, fun g hg => ?_⟩
  · have := length_putF f y fs; omega
  · show RelO ((putF f y fs).lookup g) (if g = f then some u else mA g)
    rw [lookup_putF]
    by_cases q : g = f
    · rw [if_pos q, if_pos q]; exact ry
    · rw [if_neg q, if_neg q]; exact r g
  · by_cases q : g = f
    · rw [q]; exact (keys_putF f y fs).1
    · refine (keys_putF f y fs).2 g (wi g fun z => hg ?_)
      show (if g = f then some u else mA g) = none
      rw [if_neg q]; exact z

/-- a new instance, tracked, without attributes -/
theorem Inv.made (I : Inv X pins σ H s) : Inv X pins σ (upd (upd H s.heap.objs.size (.own (s.heap.objs.size + 1))) (s.heap.objs.size + 1) (.ins C s.heap.objs.size []))
    { s with heap := (s.heap.push PySem.W.emptyDict).push (PySem.W.instObj C s.heap.objs.size) } := by
  have e1 : (s.heap.push PySem.W.emptyDict).get? s.heap.objs.size = some PySem.W.emptyDict := Heap.get?_push_size s.heap rfl
  have e2 : ((s.heap.push PySem.W.emptyDict).push (PySem.W.instObj C s.heap.objs.size)).get? (s.heap.objs.size + 1) = some (PySem.W.instObj C s.heap.objs.size) := by
    have := Heap.get?_push_size (s.heap.push PySem.W.emptyDict) (o := PySem.W.instObj C s.heap.objs.size) rfl
    rwa [Heap.size_push] at this
  have e3 : (s.heap.push PySem.W.emptyDict).Ns s.heap.objs.size (fun _ => none) := ⟨PySem.W.emptyDict, #[], _, e1, rfl, (fun e he => absurd he (by simp)), fun _ => rfl⟩
  have I1 := I.laid (a := s.heap.objs.size) (o := .own (s.heap.objs.size + 1)) (h' := s.heap.push PySem.W.emptyDict) (t' := s.toks) (fun b u q => Heap.get?_push_of_some _ q) (Nat.le_refl _) ⟨_, e1⟩
  refine I1.laid (a := s.heap.objs.size + 1) (o := .ins C s.heap.objs.size []) (t' := s.toks) (fun b u q => Heap.get?_push_of_some _ q) (Nat.le_of_eq (Heap.size_push _ _)) ?_
  have ne : s.heap.objs.size ≠ s.heap.objs.size + 1 := Nat.ne_of_lt (Nat.lt_succ_self _)
  refine ⟨by rw [upd_ne ne, upd_same], Nat.zero_le _, ne, e2, fun _ => none, (Heap.Ns1.of_empty e3).at fun o q => Heap.get?_push_of_some _ q, fun _ => True.intro, fun y hy => absurd rfl hy⟩

/-- e.f where nothing but the object is asked: through attributeBase (super) and the last hold -/
theorem attr_of {prog : Program} {w : World} {env : Env} {e : Expr} {f : Str} {pos : Pos} {s : Shared} {Q : Value → Shared → Prop} (hb : attributeBase e f env (eval e env) = eval e env)
    (h : wpAny (model prog w) A (eval e env) (fun o s₁ => wpAny (model prog w) A (getAttr o f true) Q E s₁) E s) : wpAny (model prog w) A (eval (.Attribute e f pos) env) Q E s :=
  Attribute_any_ h (by rw [arm_eval_Attribute, hb])
end

/-! ### readings and rules -/
/-- e.f, an attribute of the instance -/
def tFld (K : PySem.W.Frag) (ta : TE) (f : Str) : TE := fun σ H Q => ta σ H fun x H1 => ∃ a C dx fs v, x = .ref a ∧ H1 a = some (.ins C dx fs) ∧ Cls K C ∧ NoAttr K C f ∧ fs.lookup f = some v ∧ Q v H1
/-- e.f = value -/
def sFld (K : PySem.W.Frag) (ta tv : TE) (f : Str) : TS := fun D σ H => tv σ H fun y H1 => ta σ H1 fun x H2 => ∃ a C dx fs, x = .ref a ∧ H2 a = some (.ins C dx fs) ∧ Cls K C ∧ NoAttr K C f ∧ fs.length < 1000 ∧
  D.nx σ (upd H2 a (.ins C dx (putF f y fs)))
/-- an augmented operator on two values -/
def InOp (X : Cx) (op : Operator) (rd : V → V → Hp → VK → Prop) : Prop :=
  ∀ (pins : List (Addr × Obj)) (s : Shared) (σ : St) (H : Hp) (x y : V) (u v : Value) (Q : VK), Inv X pins σ H s → RelV x u → RelV y v → rd x y H Q → wpAny (model X.prog X.w) X.A (inplaceOp op u v) (EP X pins σ Q) X.xe s
/-- e.f op= value -/
def sFldAug (K : PySem.W.Frag) (ta tv : TE) (rd : V → V → Hp → VK → Prop) (f : Str) : TS := fun D σ H => ta σ H fun x H1 => ∃ a C dx fs v, x = .ref a ∧ H1 a = some (.ins C dx fs) ∧ Cls K C ∧ NoAttr K C f ∧ fs.lookup f = some v ∧
  tv σ H1 fun y H2 => rd v y H2 fun z H3 => ∃ dx' fs', H3 a = some (.ins C dx' fs') ∧ fs'.length < 1000 ∧ D.nx σ (upd H3 a (.ins C dx' (putF f z fs')))

section
variable {X : Cx} {o e value : Expr} {f : Str} {pos pos' tpos : Pos} {ta tv : TE}
theorem pe_fld (he : PE X e ta) (hb : attributeBase e f X.env (eval e X.env) = eval e X.env) : PE X (.Attribute e f pos) (tFld X.K ta f) := by
  intro pins s σ H Q I h
  refine attr_of hb (thn (he pins s σ H _ I h) fun u s1 hh => ?_)
  obtain ⟨x, H1, I1, rx, a, C, dx, fs, v, ex, ea, c, n, l, q⟩ := hh
  subst ex
  obtain rfl : u = Value.ref a := rx
  exact getattr_ok I1 ea c n l fun u' s2 I2 ru => ⟨v, H1, I2, ru, q⟩
theorem ps_fld (ha : PE X o ta) (hv : PE X value tv) (hs : swapsWith value (some (.Attribute o f pos')) pos.line X.env = pure false) : PS X (.Assign [.Attribute o f pos'] value pos) (sFld X.K ta tv f) := by
  intro pins s σ H D I h
  refine plainObj_wpAny_Assign_Attribute (thn (hv pins s σ H _ I h) fun u s1 ⟨y, H1, I1, ry, q⟩ => thn (ha pins s1 σ H1 _ I1 q) fun ov s2 ⟨x, H2, I2, rx, a, C, dx, fs, ex, ea, c, n, l, q2⟩ => ?_) hs
  subst ex
  obtain rfl : ov = Value.ref a := rx
  exact setattr_ok I2 ea c n l ry fun s3 I3 => ⟨σ, _, I3, q2⟩
theorem ps_fldaug {op : Operator} {rd : V → V → Hp → VK → Prop} (ha : PE X o ta) (hv : PE X value tv) (hop : InOp X op rd) : PS X (.AugAssign (.Attribute o f tpos) op value pos) (sFldAug X.K ta tv rd f) := by
  intro pins s σ H D I h
  refine wpAny_AugAssign_AttributeAny (thn (ha pins s σ H _ I h) fun ov s1 hh => ?_)
  obtain ⟨x, H1, I1, rx, a, C, dx, fs, v, ex, ea, c, n, l, q⟩ := hh
  subst ex
  obtain rfl : ov = Value.ref a := rx
  refine getattr_ok I1 ea c n l fun u s2 I2 ru => thn (hv pins s2 σ H1 _ I2 q) fun w3 s3 ⟨y, H2, I3, ry, q3⟩ => thn (hop pins s3 σ H2 v y u w3 _ I3 ru ry q3) fun w4 s4 ⟨z, H3, I4, rz, dx', fs', ea', l', q4⟩ => ?_
  exact setattr_ok I4 ea' c n l' rz fun s5 I5 => ⟨σ, _, I5, q4⟩
def rAdd : V → V → Hp → VK → Prop := fun x y H Q => ∃ i j, x = .int i ∧ y = .int j ∧ Q (.int (i + j)) H
theorem in_add : InOp X .Add rAdd := by
  rintro pins s σ H x y u v Q I rx ry ⟨i, j, rfl, rfl, q⟩
  obtain ⟨t, rfl⟩ := (show ∃ t, u = Value.int i t from rx)
  obtain ⟨t', rfl⟩ := (show ∃ t', v = Value.int j t' from ry)
  exact PyProof.Rows.iadd_int ⟨.int (i + j), H, I.tok _, ⟨_, rfl⟩, q⟩

/-- what is between an instance and its method: the tree of a method call -/
theorem methcall_of {pl : Sem Bool} {m : Str} {apos : Pos} {args : List Expr} {pins : List (Addr × Obj)} {s : Shared} {σ : St} {H : Hp} {Q : Value → Shared → Prop} {te : TE} (he : PE X e te) (I : Inv X pins σ H s)
    (h : te σ H fun x H1 => ∃ a C dx fs g, x = .ref a ∧ H1 a = some (.ins C dx fs) ∧ Cls X.K C ∧ Meth X.K C m g ∧ fs.lookup m = none ∧
      ∀ s1, Inv X pins σ H1 s1 → wpAny (model X.prog X.w) X.A (callWith pos (.ref g) [.ref a] (backTo pos (starEach args X.env)) (backToKw pos (keywordEach [] X.env))) Q X.xe s1)
    (ht : eval (.Call (.Attribute e m apos) args [] pos) X.env = (do
      let ov ← eval e X.env
      standAt apos.atName
      let (f, first) ← holding [ov] (getMethod ov m pl)
      callWith pos f first (backTo pos (starEach args X.env)) (backToKw pos (keywordEach [] X.env)))) :
    wpAny (model X.prog X.w) X.A (eval (.Call (.Attribute e m apos) args [] pos) X.env) Q X.xe s := by
  refine PySem.W.methodCall_KW (pl := pl) (thn (he pins s σ H _ I h) fun u s1 hh => ?_) ht
  obtain ⟨x, H1, I1, rx, a, C, dx, fs, g, ex, ea, c, k, l, q⟩ := hh
  subst ex
  obtain rfl : u = Value.ref a := rx
  exact getmeth_ok I1 ea c k l (q s1 I1)
end

/-! ### isinstance -/
section
variable {X : Cx} {pins : List (Addr × Obj)} {σ : St} {H : Hp} {s : Shared} {A : Around} {E : Value → Shared → Prop} {Q : Value → Shared → Prop} {c : Value} {b : Bool}
end
end L2

namespace L2
open PySem PySem.Spec PyProof.Rows

/-! ### room -/
structure Room (k : Nat) (A : Around) : Prop where
  hd : A.handled = none
  dp : A.depth + 3 * k + 5 < recursionLimit
  un : A.units + 16 * k + 200 < cLine
theorem Room.mono {j k : Nat} {A : Around} (r : Room k A) (h : j ≤ k) : Room j A := ⟨r.hd, by have := r.dp; omega, by have := r.un; omega⟩
theorem Room.deeper {k : Nat} {A : Around} (r : Room (k + 1) A) (env : Env) : Room k (A.deeper env) :=
  ⟨r.hd, by have := r.dp; show A.depth + 1 + 3 * k + 5 < _; omega, by have := r.un; show A.units + 3 + 16 * k + 200 < _; omega⟩
theorem Room.in1 {k : Nat} {A : Around} (r : Room (k + 1) A) : Room k A.in1 :=
  ⟨r.hd, by have := r.dp; show A.depth + 3 * k + 5 < _; omega, by have := r.un; show A.units + 1 + 16 * k + 200 < _; omega⟩
theorem make_depth {A : Around} {C : Addr} {us : List Value} {kw : List (Str × Value)} : (A.under (.builtin "type.__call__" ⟨.ref C :: us, kw⟩)).depth = A.depth + 1 := by
  first | rfl | simp [Around.under, Code.weight, Code.isCreation, Code.isGuard, Code.isCaller, Code.frames, Code.isFrame, guardIds]
theorem make_units {A : Around} {C : Addr} {us : List Value} {kw : List (Str × Value)} : (A.under (.builtin "type.__call__" ⟨.ref C :: us, kw⟩)).units = A.units + 1 := by
  first | rfl | simp [Around.under, Code.cUnits, Code.frames, Code.isFrame]
theorem Room.make {k : Nat} {A : Around} (r : Room (k + 1) A) (C : Addr) (us : List Value) (kw : List (Str × Value)) : Room k (A.under (.builtin "type.__call__" ⟨.ref C :: us, kw⟩)) :=
  ⟨r.hd, by have := r.dp; rw [make_depth]; omega, by have := r.un; rw [make_units]; omega⟩
theorem Room.depth {k : Nat} {A : Around} (r : Room k A) : A.depth < recursionLimit := by have := r.dp; omega
theorem Room.units {k : Nat} {A : Around} (r : Room k A) : A.units + 64 < cLine := by have := r.un; omega
theorem Room.units0 {k : Nat} {A : Around} (r : Room k A) : A.units < cLine := by have := r.un; omega

/-! ### argument lists and displays -/
def tNil : TA := fun _ H Q => Q [] H
def tCons (ta : TE) (tr : TA) : TA := fun σ H Q => ta σ H fun x H1 => tr σ H1 fun xs H2 => Q (x :: xs) H2
section
variable {X : Cx} {e : Expr} {es : List Expr} {te : TE} {t : TA} {pos : Pos}
theorem pa_nil : PA X [] tNil := fun _ _ _ _ H Q I h => Calls.spliced_nil ⟨[], H, I, .nil, h⟩
theorem pa_cons (ha : PE X e te) (hr : PA X es t) (hs : starEach (e :: es) X.env = (false, eval e X.env) :: starEach es X.env := by rfl) : PA X (e :: es) (tCons te t) := by
  intro pos pins s σ H Q I h
  rw [hs]
  show wpAny _ _ (spliced ((false, eval e X.env) :: backTo pos (starEach es X.env))) _ _ s
  refine Calls.spliced_cons (thn (ha pins s σ H _ I h) fun u s1 hh => ?_)
  obtain ⟨x, H1, I1, r1, q1⟩ := hh
  exact thn (hr pos pins s1 σ H1 _ I1 q1) fun us s2 ⟨xs, H2, I2, r2, q2⟩ => ⟨x :: xs, H2, I2, .cons r1 r2, q2⟩

/-- a tuple, a list of written items -/
def tTup (t : TA) : TE := fun σ H Q => t σ H fun xs H1 => xs.length ≤ sizeLine ∧ ∀ p, H1 p = none → Q (.ref p) (upd H1 p (.tup xs))
def tLst (t : TA) : TE := fun σ H Q => t σ H fun xs H1 => xs.length ≤ sizeLine ∧ ∀ p, H1 p = none → Q (.ref p) (upd H1 p (.lst xs))
theorem pe_tup {x1} (h : PA X es t) : PE X (.Tuple es x1 pos) (tTup t) := by
  intro pins s σ H Q I hq
  refine wpAny_Tuple_spliced (thn (h pos pins s σ H _ I hq) fun us s1 ⟨xs, H1, I1, r, z, q⟩ => ⟨by rw [← r.length]; exact z, ?_⟩)
  have hf : H1 s1.heap.objs.size = none := I1.hok.fresh (Nat.le_refl _)
  refine ⟨.ref s1.heap.objs.size, upd H1 s1.heap.objs.size (.tup xs), I1.laid (t' := s1.toks) (fun b u e => Heap.get?_push_of_some _ e) (Nat.le_refl _) ?_, rfl, q _ hf⟩
  exact ⟨z, us, r, ⟨_, Heap.get?_push_size _ rfl, rfl, _, rfl⟩⟩
theorem pe_lst (h : PA X es t) : PE X (.List es pos) (tLst t) := by
  intro pins s σ H Q I hq
  refine wpAny_List_spliced (thn (h pos pins s σ H _ I hq) fun us s1 ⟨xs, H1, I1, r, z, q⟩ => ⟨by rw [← r.length]; exact z, ?_⟩)
  have hf : H1 s1.heap.objs.size = none := I1.hok.fresh (Nat.le_refl _)
  refine ⟨.ref s1.heap.objs.size, upd H1 s1.heap.objs.size (.lst xs), I1.laid (t' := s1.toks) (fun b u e => Heap.get?_push_of_some _ e) (Nat.le_refl _) ?_, rfl, q _ hf⟩
  exact ⟨z, us, 0, r, Heap.get?_push_size _ rfl⟩
end

/-! ### what a def promises -/
/-- a def's promise: the bound arguments in the parameters' order, the heap, the wanted end, the wanted exception -/
abbrev Sp := List V → Hp → VK → XK → Prop
/-- how an exception lies behind a call (file 08 gives it): the callers' frames, abstract heap and state ahead of the call, the wish, the exception, the state -/
abbrev CXT := List Env → Hp → Shared → XK → Value → Shared → Prop

/-- the state at a call -/
structure Env0 (P : Program) (w : World) (K : PySem.W.Frag) (mg : Str → Option Value) (base : Heap) (A : Around) (outer : List Env) (s : Shared) (H : Hp) : Prop where
  frames : A.frames = some outer
  mod : Mod K mg base
  bs : ∀ b o, base.get? b = some o → s.heap.get? b = some o ∧ H b = none
  bsz : base.objs.size ≤ s.heap.objs.size
  funs : s.heap.FunFrames base outer
  frf : ∀ b ∈ frs outer, H b = none
  hok : HOk P w H s.heap
  bare : AllBare s.gens
/-- a call's end -/
def CE (outer : List Env) (P : Program) (w : World) (H : Hp) (s : Shared) (Q : VK) (u : Value) (s' : Shared) : Prop :=
  ∃ v H', s'.os = s.os ∧ AllBare s'.gens ∧ Un (frs outer) [] H H' s.heap s'.heap ∧ HOk P w H' s'.heap ∧ RelV v u ∧ Q v H'
def CR (CX : CXT) (outer : List Env) (P : Program) (w : World) (H : Hp) (s : Shared) (Q : VK) (E : XK) (r : Result) (s' : Shared) : Prop :=
  match r with
  | .ok (.ret u) => CE outer P w H s Q u s'
  | .ok _ => False
  | .error e => CX outer H s E e s'
structure FnOk (P : Program) (w : World) (K : PySem.W.Frag) (mg : Str → Option Value) (base : Heap) (CX : CXT) (k : Nat) (f : Addr) (fd : FuncData) (ps : List Str) (sp : Sp) : Prop where
  len : ∀ vs H Q E, sp vs H Q E → vs.length = ps.length
  run : ∀ (A : Around) (outer : List Env) (s : Shared) (H : Hp) (args : Args) (us : List Value) (vs : List V) (Q : VK) (E : XK), Room k A → Env0 P w K mg base A outer s H → BindsTo s fd args (ps.zip us) → Vals vs us → sp vs H Q E →
    codeAny (model P w) A (.call (.ref f) args) (CR CX outer P w H s Q E) s
theorem FnOk.mono {P : Program} {w : World} {K : PySem.W.Frag} {mg : Str → Option Value} {base : Heap} {CX : CXT} {j k : Nat} {f : Addr} {fd : FuncData} {ps : List Str} {sp : Sp} (F : FnOk P w K mg base CX j f fd ps sp) (h : j ≤ k) :
    FnOk P w K mg base CX k f fd ps sp := ⟨F.len, fun A outer s H args us vs Q E hr => F.run A outer s H args us vs Q E (hr.mono h)⟩

theorem Env0.make {P : Program} {w : World} {K : PySem.W.Frag} {mg : Str → Option Value} {base : Heap} {A : Around} {outer : List Env} {s : Shared} {H : Hp} (e : Env0 P w K mg base A outer s H) (C : Addr) (us : List Value) (kw : List (Str × Value)) :
    Env0 P w K mg base (A.under (.builtin "type.__call__" ⟨.ref C :: us, kw⟩)) outer s H := ⟨by first | exact e.frames | (simpa [Around.under, Code.envs, Code.isFrame, pushEnvs] using e.frames), e.mod, e.bs, e.bsz, e.funs, e.frf, e.hok, e.bare⟩
theorem Env0.in1 {P : Program} {w : World} {K : PySem.W.Frag} {mg : Str → Option Value} {base : Heap} {A : Around} {outer : List Env} {s : Shared} {H : Hp} (e : Env0 P w K mg base A outer s H) :
    Env0 P w K mg base A.in1 outer s H := ⟨e.frames, e.mod, e.bs, e.bsz, e.funs, e.frf, e.hok, e.bare⟩

section
variable {X : Cx} {pins : List (Addr × Obj)} {σ : St} {H : Hp} {s s' : Shared}
/-- from a body: what a callee wants -/
theorem Inv.env0 (I : Inv X pins σ H s) : Env0 X.prog X.w X.K X.mg X.base X.A X.stack s H :=
  ⟨I.ok.frames, I.ok.mod, I.bs, Nat.le_trans I.ok.bsz I.sz, I.stack, I.stkFree, I.hok, I.bare⟩
/-- behind a call -/
theorem Inv.after {Q : VK} {u : Value} (I : Inv X pins σ H s) (h : CE X.stack X.prog X.w H s Q u s') : EP X pins σ Q u s' := by
  obtain ⟨v, H', os, bare, un, hok, r, q⟩ := h
  obtain ⟨hh, g, d, t, os'⟩ := s'
  obtain rfl : os' = s.os := os
  exact ⟨v, H', I.call (h' := hh) (g' := g) (d' := d) (t' := t) (ch := []) un hok bare (fun b z => absurd z (by simp)), r, q⟩
end

/-! ### calls -/
/-- f(..): the written arguments, then the defaults dvs; E: what is wanted of an exception -/
def tCall (sp : Sp) (dvs : List V) (E : XK) (t : TA) : TE := fun σ H Q => t σ H fun vs H1 => sp (vs ++ dvs) H1 Q E
/-- o.m(..) of an instance of the class at C -/
def tMeth (C : Addr) (m : Str) (sp : Sp) (dvs : List V) (E : XK) (ta : TE) (t : TA) : TE := fun σ H Q => ta σ H fun x H1 => ∃ a dx fs, x = .ref a ∧ H1 a = some (.ins C dx fs) ∧ fs.lookup m = none ∧
  t σ H1 fun vs H2 => sp (x :: (vs ++ dvs)) H2 Q E
/-- C(..): a new instance and its dict, then __init__ -/
def tMake (C : Addr) (sp : Sp) (dvs : List V) (E : XK) (t : TA) : TE := fun σ H Q => t σ H fun vs H1 => ∀ x dx, H1 x = none → H1 dx = none → dx ≠ x →
  sp (.ref x :: (vs ++ dvs)) (upd (upd H1 dx (.own x)) x (.ins C dx [])) (fun v H2 => v = .non ∧ Q (.ref x) H2) E

/-- how the parameters are bound: us the positional arguments, kw the keywords' values by name, ds the defaults that fill up -/
def Binds (K : PySem.W.Frag) (fd : FuncData) (ps : List Str) (ds : List Value) : Prop :=
  ∀ (s : Shared) (us : List Value), K.In s.heap → (us ++ ds).length = ps.length → BindsTo s fd ⟨us, []⟩ (ps.zip (us ++ ds))
/-- every parameter is given -/
theorem Binds.all {K : PySem.W.Frag} {fd : FuncData} {ps : List Str} (h : ∀ us : List Value, us.length = ps.length → bindArgs fd ⟨us, []⟩ = pure (ps.zip us)) : Binds K fd ps [] := fun s us _ hl => by
  rw [List.append_nil] at hl ⊢
  exact .of_eq (h us hl)

/-- an exception of a callee reaches what this body wants of exceptions -/
def Passes (CX : CXT) (X : Cx) (E : XK) : Prop := ∀ (pins : List (Addr × Obj)) (σ : St) (H : Hp) (s : Shared) (e : Value) (s' : Shared), Inv X pins σ H s → CX X.stack H s E e s' → X.xe e s'

section
variable {X : Cx} {CX : CXT} {k : Nat} {f C : Addr} {fd : FuncData} {ps : List Str} {sp : Sp} {dvs : List V} {ds : List Value} {E : XK} {x m : Str} {p pos apos : Pos} {e o : Expr} {es : List Expr} {ta : TE} {t : TA}

/-- the callee runs -/
theorem run_fn {pins : List (Addr × Obj)} {σ : St} {H : Hp} {s : Shared} {Q : VK} {us : List Value} {vs : List V} (F : FnOk X.prog X.w X.K X.mg X.base CX k f fd ps sp) (hr : Room k X.A) (hb : Binds X.K fd ps ds) (hd : Vals dvs ds) (hx : Passes CX X E)
    (I : Inv X pins σ H s) (r : Vals vs us) (h : sp (vs ++ dvs) H Q E) : wpAny (model X.prog X.w) X.A (call (.ref f) us) (EP X pins σ Q) X.xe s := by
  have r2 : Vals (vs ++ dvs) (us ++ ds) := r.append hd
  have hl : (us ++ ds).length = ps.length := by rw [← r2.length]; exact F.len _ _ _ _ h
  refine wpAny_call (codeAny_mono (F.run X.A X.stack s H ⟨us, []⟩ (us ++ ds) (vs ++ dvs) Q E hr I.env0 (hb s us I.kIn hl) r2 h) fun r s' hq => ?_)
  cases r with
  | error e => exact hx pins σ H s e s' I hq
  | ok fl =>
    cases fl with
    | ret u => exact I.after hq
    | next => exact False.elim hq
    | brk => exact False.elim hq
    | cont => exact False.elim hq

theorem pe_call (F : FnOk X.prog X.w X.K X.mg X.base CX k f fd ps sp) (hr : Room k X.A) (hg : Gl X x) (hm : X.mg x = some (.ref f)) (hk : PySem.W.keepIn X.K (.ref f) = true) (hb : Binds X.K fd ps ds) (hd : Vals dvs ds) (hx : Passes CX X E)
    (ha : PA X (e :: es) t) (hdb : (x == ("__debug__" : Str)) = false := by decide) (he : starEach (e :: es) X.env = (false, eval e X.env) :: starEach es X.env := by rfl) (hpl : (backTo pos (starEach es X.env)).any (·.1) = false := by rfl) :
    PE X (.Call (.Name x p) (e :: es) [] pos) (tCall sp dvs E t) := by
  intro pins s σ H Q I h
  refine wpAny_Call_Name_kw (ld_glob I hg hm ?_ hdb)
  refine PySem.W.callWith_K (h₀ := X.base) I.ok.mod.kin hk (thn (ha pos pins s σ H _ I h) fun us s1 ⟨vs, H1, I1, r, q⟩ => ⟨I1.kIn, ?_⟩) he hpl
  exact run_fn F hr hb hd hx I1 r q

/-- o.m(e, ..) -/
theorem pe_meth {pl : Sem Bool} (he : PE X o ta) (c : Cls X.K C) (hm : Meth X.K C m f) (F : FnOk X.prog X.w X.K X.mg X.base CX k f fd ps sp) (hr : Room k X.A) (hb : Binds X.K fd ps ds) (hd : Vals dvs ds) (hx : Passes CX X E) (ha : PA X (e :: es) t)
    (hst : starEach (e :: es) X.env = (false, eval e X.env) :: starEach es X.env := by rfl) (hpl : (backTo pos (starEach es X.env)).any (·.1) = false := by rfl)
    (ht : eval (.Call (.Attribute o m apos) (e :: es) [] pos) X.env = (do
      let ov ← eval o X.env
      standAt apos.atName
      let (f, first) ← holding [ov] (getMethod ov m pl)
      callWith pos f first (backTo pos (starEach (e :: es) X.env)) (backToKw pos (keywordEach [] X.env))) := by rfl) :
    PE X (.Call (.Attribute o m apos) (e :: es) [] pos) (tMeth C m sp dvs E ta t) := by
  intro pins s σ H Q I h
  refine PySem.W.methodCall_KW (pl := pl) (thn (he pins s σ H _ I h) fun u s1 hh => ?_) ht
  obtain ⟨x, H1, I1, rx, a, dx, fs, ex, ea, l, q⟩ := hh
  subst ex
  obtain rfl : u = Value.ref a := rx
  refine getmeth_ok I1 ea c hm l ?_
  refine PySem.W.callWith_K (first := [.ref a]) (h₀ := X.base) I.ok.mod.kin hm.kp (thn (ha pos pins s1 σ H1 _ I1 q) fun us s2 ⟨vs, H2, I2, r, q2⟩ => ⟨I2.kIn, ?_⟩) hst hpl
  exact run_fn (us := .ref a :: us) (vs := .ref a :: vs) F hr hb hd hx I2 (.cons rfl r) q2
/-- o.m() -/
theorem pe_meth0 {pl : Sem Bool} (he : PE X o ta) (c : Cls X.K C) (hm : Meth X.K C m f) (F : FnOk X.prog X.w X.K X.mg X.base CX k f fd ps sp) (hr : Room k X.A) (hb : Binds X.K fd ps ds) (hd : Vals dvs ds) (hx : Passes CX X E)
    (ht : eval (.Call (.Attribute o m apos) [] [] pos) X.env = (do
      let ov ← eval o X.env
      standAt apos.atName
      let (f, first) ← holding [ov] (getMethod ov m pl)
      callWith pos f first (backTo pos (starEach [] X.env)) (backToKw pos (keywordEach [] X.env))) := by rfl) :
    PE X (.Call (.Attribute o m apos) [] [] pos) (tMeth C m sp dvs E ta tNil) := by
  intro pins s σ H Q I h
  refine PySem.W.methodCall_KW (pl := pl) (thn (he pins s σ H _ I h) fun u s1 hh => ?_) ht
  obtain ⟨x, H1, I1, rx, a, dx, fs, ex, ea, l, q⟩ := hh
  subst ex
  obtain rfl : u = Value.ref a := rx
  refine getmeth_ok I1 ea c hm l ?_
  exact PySem.W.callWith_K0 (first := [.ref a]) I1.kIn hm.kp (run_fn (us := [.ref a]) (vs := [.ref a]) F hr hb hd hx I1 (.cons rfl .nil) q)

/-- what a class must have to be made -/
structure Mk (K : PySem.W.Frag) (C f : Addr) : Prop where
  makes : PySem.W.makesIn K C = true
  init : PySem.W.findIn K (.ref C) "__init__" = some (some (.ref f))
  fn : PySem.W.isFn K (.ref f) = true
  kp : PySem.W.keepIn K (.ref C) = true

theorem run_make {pins : List (Addr × Obj)} {σ : St} {H : Hp} {s : Shared} {Q : VK} {us : List Value} {vs : List V} (M : Mk X.K C f) (F : FnOk X.prog X.w X.K X.mg X.base CX k f fd ps sp) (hr : Room (k + 1) X.A) (hb : Binds X.K fd ps ds) (hd : Vals dvs ds)
    (hx : Passes CX X E) (I : Inv X pins σ H s) (r : Vals vs us)
    (h : ∀ x dx, H x = none → H dx = none → dx ≠ x → sp (.ref x :: (vs ++ dvs)) (upd (upd H dx (.own x)) x (.ins C dx [])) (fun v H2 => v = .non ∧ Q (.ref x) H2) E) :
    wpAny (model X.prog X.w) X.A (call (.ref C) us) (EP X pins σ Q) X.xe s := by
  have hq := h (s.heap.objs.size + 1) s.heap.objs.size (I.hok.fresh (Nat.le_succ _)) (I.hok.fresh (Nat.le_refl _)) (Nat.ne_of_lt (Nat.lt_succ_self _))
  have I2 := Inv.made (C := C) I
  have r2 : Vals (V.ref (s.heap.objs.size + 1) :: (vs ++ dvs)) (Value.ref (s.heap.objs.size + 1) :: (us ++ ds)) := .cons rfl (r.append hd)
  have hl : (Value.ref (s.heap.objs.size + 1) :: us ++ ds).length = ps.length := by
    have e := r2.length
    rw [F.len _ _ _ _ hq] at e
    exact e.symm
  refine wpAny_call (make_map (f := f) I.kIn M.makes M.init (beq_iff_eq.mp M.fn) (codeAny_mono (F.run _ X.stack _ _ ⟨Value.ref (s.heap.objs.size + 1) :: us, []⟩ (Value.ref (s.heap.objs.size + 1) :: (us ++ ds)) _ _ E (hr.make C us [])
    (I2.env0.make C us []) (hb _ (Value.ref (s.heap.objs.size + 1) :: us) I2.kIn hl) r2 hq) fun r s' hq' => ?_))
  cases r with
  | error e => exact hx pins σ _ _ e s' I2 hq'
  | ok fl =>
    cases fl with
    | ret u =>
      obtain ⟨v, H', I3, rv, ev, q3⟩ := I2.after hq'
      subst ev
      exact ⟨rv, ⟨V.ref (s.heap.objs.size + 1), H', I3, rfl, q3⟩⟩
    | next => exact False.elim hq'
    | brk => exact False.elim hq'
    | cont => exact False.elim hq'
theorem pe_make (M : Mk X.K C f) (F : FnOk X.prog X.w X.K X.mg X.base CX k f fd ps sp) (hr : Room (k + 1) X.A) (hg : Gl X x) (hm : X.mg x = some (.ref C)) (hb : Binds X.K fd ps ds) (hd : Vals dvs ds) (hx : Passes CX X E)
    (ha : PA X (e :: es) t) (hdb : (x == ("__debug__" : Str)) = false := by decide) (he : starEach (e :: es) X.env = (false, eval e X.env) :: starEach es X.env := by rfl) (hpl : (backTo pos (starEach es X.env)).any (·.1) = false := by rfl) :
    PE X (.Call (.Name x p) (e :: es) [] pos) (tMake C sp dvs E t) := by
  intro pins s σ H Q I h
  refine wpAny_Call_Name_kw (ld_glob I hg hm ?_ hdb)
  refine PySem.W.callWith_K (h₀ := X.base) I.ok.mod.kin M.kp (thn (ha pos pins s σ H _ I h) fun us s1 ⟨vs, H1, I1, r, q⟩ => ⟨I1.kIn, ?_⟩) he hpl
  exact run_make M F hr hb hd hx I1 r q
end

/-! ### keywords -/
section
variable {X : Cx} {CX : CXT} {k : Nat} {f C : Addr} {fd : FuncData} {ps ks : List Str} {sp : Sp} {E : XK} {x m : Str} {p pos apos kpos : Pos} {e o : Expr} {es : List Expr} {kws : List Keyword} {te ta : TE} {t tk : TA} {nm : Option Str}

variable {g : List Value → List Value → List Value} {gV : List V → List V → List V}
end

/-! ### a def's body keeps its promise -/
/-- names: the parameters first -/
structure FnScope (N P : List Str) (sc : Scope) : Prop where
  kind : sc.kind = .function
  co : sc.isCoroutine = false
  gen : sc.isGenerator = false
  nd : N.Nodup
  pre : N.take P.length = P
  par : ∀ x ∈ P, sc.names.lookup x = some .local ∨ sc.names.lookup x = some .cell
  nofree : ∀ y ∈ sc.names, y.2 ≠ .free

theorem bindL_out {kindOf : Str → Option NameKind} {x : Str} : ∀ {binds : List (Str × Value)} {m : Str → Option Value}, (∀ v, (x, v) ∉ binds) → bindL kindOf binds m x = m x
  | [], _, _ => rfl
  | (n, v) :: r, m, h => by
    unfold bindL
    rw [bindL_out fun w hw => h w (List.mem_cons_of_mem _ hw)]
    split
    · have : x ≠ n := by rintro rfl; exact h v List.mem_cons_self
      simp [this]
    · rfl
theorem bindC_out {kindOf : Str → Option NameKind} {x : Str} : ∀ {binds : List (Str × Value)} {m : Str → Option Value}, (∀ v, (x, v) ∉ binds) → bindC kindOf binds m x = m x
  | [], _, _ => rfl
  | (n, v) :: r, m, h => by
    unfold bindC
    rw [bindC_out fun w hw => h w (List.mem_cons_of_mem _ hw)]
    split
    · rfl
    · have : x ≠ n := by rintro rfl; exact h v List.mem_cons_self
      simp [this]
theorem bindL_get {kindOf : Str → Option NameKind} {x : Str} {v : Value} : ∀ {P : List Str} {vs : List Value} {i : Nat} {m : Str → Option Value}, P.Nodup → P[i]? = some x → vs[i]? = some v → kindOf x = some .local →
    bindL kindOf (P.zip vs) m x = some v
  | [], _, _, _, _, h, _, _ => by simp at h
  | _ :: _, [], _, _, _, _, h, _ => by simp at h
  | p :: P, w :: vs, 0, m, nd, h1, h2, hk => by
    simp at h1 h2; subst h1; subst h2
    show bindL kindOf ((p, w) :: P.zip vs) m p = _
    unfold bindL
    rw [bindL_out fun v hv => (List.nodup_cons.mp nd).1 (List.of_mem_zip hv).1, if_pos hk]
    simp
  | p :: P, w :: vs, i + 1, m, nd, h1, h2, hk => by
    show bindL kindOf ((p, w) :: P.zip vs) m x = _
    unfold bindL
    exact bindL_get (i := i) (List.nodup_cons.mp nd).2 (by simpa using h1) (by simpa using h2) hk
theorem bindC_get {kindOf : Str → Option NameKind} {x : Str} {v : Value} : ∀ {P : List Str} {vs : List Value} {i : Nat} {m : Str → Option Value}, P.Nodup → P[i]? = some x → vs[i]? = some v → kindOf x ≠ some .local →
    bindC kindOf (P.zip vs) m x = some v
  | [], _, _, _, _, h, _, _ => by simp at h
  | _ :: _, [], _, _, _, _, h, _ => by simp at h
  | p :: P, w :: vs, 0, m, nd, h1, h2, hk => by
    simp at h1 h2; subst h1; subst h2
    show bindC kindOf ((p, w) :: P.zip vs) m p = _
    unfold bindC
    rw [bindC_out fun v hv => (List.nodup_cons.mp nd).1 (List.of_mem_zip hv).1, if_neg hk]
    simp
  | p :: P, w :: vs, i + 1, m, nd, h1, h2, hk => by
    show bindC kindOf ((p, w) :: P.zip vs) m x = _
    unfold bindC
    exact bindC_get (i := i) (List.nodup_cons.mp nd).2 (by simpa using h1) (by simpa using h2) hk

/-- the names' values at the entry -/
def start (N : List Str) (vs : List V) : St := vs.map some ++ List.replicate (N.length - vs.length) none

/-- the context of a def's body, at its entry; an exception leaves the frame, then lies as CX says -/
def cxOf (CX : CXT) (P : Program) (w : World) (K : PySem.W.Frag) (mg : Str → Option Value) (base : Heap) (N : List Str) (qual : Str) (scope : Scope) (f : Addr) (cd : Value) (A : Around) (outer : List Env) (s : Shared) (H : Hp) (E : XK) : Cx where
  prog := P
  w := w
  K := K
  mg := mg
  base := base
  A := A.deeper (envOfC qual scope s.heap.objs.size f cd)
  N := N
  s₀ := s
  H₀ := H
  env := envOfC qual scope s.heap.objs.size f cd
  outer := outer
  stack := envOfC qual scope s.heap.objs.size f cd :: outer
  ex := []
  calm := true
  fn := fun _ => true
  pn := []
  xe := fun e s' => wpAny (model P w) (A.deeper (envOfC qual scope s.heap.objs.size f cd)) (leaving (envOfC qual scope s.heap.objs.size f cd) e) (fun _ s'' => CX outer H s E e s'') (fun e' s'' => CX outer H s E e' s'') s'

theorem cell_has {sc : Scope} {n : Nat} {x : Str} (h : sc.names.lookup x = some .cell) : ∃ c, (cellsFrom n sc.names []).lookup x = some c := by
  have q := PySem.W.cellsFrom_some sc.names n [] (.inl h)
  exact Option.isSome_iff_exists.mp q

theorem inv_start {CX : CXT} {P : Program} {w : World} {K : PySem.W.Frag} {mg : Str → Option Value} {base : Heap} {N ps : List Str} {qual : Str} {scope : Scope} {f : Addr} {cd : Value} {A : Around} {outer : List Env} {s s1 : Shared} {H : Hp} {E : XK} {us : List Value} {vs : List V}
    (S : FnScope N ps scope) (hd : A.handled = none) (e0 : Env0 P w K mg base A outer s H) (hl : vs.length = ps.length) (r : Vals vs us)
    (x : InCallC s s.heap.objs.size (bindL (envOfC qual scope s.heap.objs.size f cd).kindOf (ps.zip us) fun _ => none) (cellsFrom (s.heap.objs.size + 1) scope.names []) (bindC (envOfC qual scope s.heap.objs.size f cd).kindOf (ps.zip us) fun _ => none) s1) :
    Inv (cxOf CX P w K mg base N qual scope f cd A outer s H E) [] (start N vs) H s1 := by
  have hpl : ps.length ≤ N.length := by have := congrArg List.length S.pre; rw [List.length_take] at this; omega
  obtain ⟨h1, tk, rfl, hk⟩ := x.done
  have noA : ∀ b : Addr, b ∉ (cxOf CX P w K mg base N qual scope f cd A outer s H E).ex := fun b z => absurd (show b ∈ ([] : List Addr) from z) (by simp)
  refine ⟨⟨e0.mod, S.kind, rfl, rfl, Nat.le_refl _, fun y z c h1 h2 => ?_, fun y hy => ?_, fun y c _ h => ?_, fun _ => hd, Around.frames_deeper e0.frames, .inr ⟨rfl, rfl⟩, fun b z => absurd z (noA b), e0.bs, e0.bsz, fun b _ _ => noA b, fun b z => absurd z (noA b), e0.funs, e0.frf⟩,
    rfl, e0.bare, Un.kept hk, ⟨_, x.toInCall.ns, fun i y v h1 h2 h3 => ?_⟩, fun y c h => ⟨_, x.cell y c h⟩, e0.hok.fresh (Nat.le_refl _), fun y c h => ?_, fun p hp => absurd (show p ∈ ([] : List (Addr × Obj)) from hp) (by simp), e0.hok.kept hk, ?_⟩
  · exact name_of_addr x.apart (PySem.mem_of_lookup h1) (PySem.mem_of_lookup h2)
  · have hy : scope.names.lookup y = some .cell ∨ scope.names.lookup y = some .free := hy
    rcases hy with hy | hy
    · exact cell_has hy
    · exact absurd rfl (S.nofree _ (PySem.mem_of_lookup hy))
  · exact Nat.le_of_lt (x.above y c (PySem.mem_of_lookup h))
  · have hi : i < vs.length := by
      unfold start at h2
      by_cases hi : i < vs.length
      · exact hi
      · rw [List.getElem?_append_right (by simpa using hi)] at h2
        rw [List.getElem?_replicate] at h2
        split at h2 <;> cases h2
    have ha : vs[i]? = some v := by
      unfold start at h2
      rw [List.getElem?_append_left (by simpa using hi), List.getElem?_map] at h2
      cases e : vs[i]? with
      | none => rw [e] at h2; cases h2
      | some a => rw [e] at h2; cases h2; rfl
    obtain ⟨u, hu, rv⟩ := r.get ha
    have hp : ps[i]? = some y := by
      rw [← S.pre, List.getElem?_take_of_lt (by omega)]; exact h1
    have ndP : ps.Nodup := by rw [← S.pre]; exact S.nd.sublist (List.take_sublist _ _)
    refine ⟨u, rv, ?_⟩
    rcases S.par y (List.mem_of_getElem? hp) with k | k
    · exact .inl ⟨k, bindL_get ndP hp hu k⟩
    · obtain ⟨c, e⟩ := cell_has (n := s.heap.objs.size + 1) k
      refine .inr ⟨.inl k, c, e, ?_⟩
      have q := x.cell y c e
      rw [bindC_get ndP hp hu (by show scope.names.lookup y ≠ _; rw [k]; decide)] at q
      exact q
  · exact e0.hok.fresh (Nat.le_of_lt (x.above y c (PySem.mem_of_lookup h)))
  · unfold start
    show _ = N.length
    rw [List.length_append, List.length_map, List.length_replicate]
    omega

/-- THE RULE: a def (or a method) of the text, by its body. The body's reading t is chosen for each entry; it is run at the parameters' values -/
theorem fn_of {CX : CXT} {P : Program} {w : World} {K : PySem.W.Frag} {mg : Str → Option Value} {base : Heap} {k : Nat} {f : Addr} {name qual : Str} {params : Arguments} {body : List Stmt} {scope : Scope} {dV kV doc pm cdv ct oc : Value} {an od : Option Addr}
    {osl : Array (Option Value)} {N ps : List Str} {sp : Sp} (lk : K.lookup f = some ⟨oc, od, .func (PySem.W.fnOf name qual params body scope dV kV doc pm an cdv ct), osl⟩) (hcd : PySem.W.codeIn K cdv qual = true) (S : FnScope N ps scope)
    (len : ∀ vs H Q E, sp vs H Q E → vs.length = ps.length)
    (hbody : ∀ (A : Around) (outer : List Env) (s : Shared) (H : Hp) (vs : List V) (Q : VK) (E : XK), Room k (A.deeper (envOfC qual scope s.heap.objs.size f cdv)) → sp vs H Q E →
      ∃ t, PSs (cxOf CX P w K mg base N qual scope f cdv A outer s H E) body t ∧ t { nx := fun _ H' => Q .non H', rt := Q } (start N vs) H) :
    FnOk P w K mg base CX (k + 1) f (PySem.W.fnOf name qual params body scope dV kV doc pm an cdv ct) ps sp := by
  refine ⟨len, fun A outer s H args us vs Q E hr e0 hb r hsp => ?_⟩
  have hl := len _ _ _ _ hsp
  have KX : K.In s.heap := e0.mod.kin.keeps fun b o e => (e0.bs b o e).1
  have lim : s.heap.NoLimit := e0.mod.nolimit.keeps fun b o e => (e0.bs b o e).1
  have hkind : ∀ y ∈ ps.zip us, scope.names.lookup y.1 = some .local ∨ (scope.names.lookup y.1 = some .cell ∧ ((cellsFrom (s.heap.objs.size + 1) scope.names []).lookup y.1).isSome = true) := fun ⟨n, v⟩ hy => by
    rcases S.par n (List.of_mem_zip hy).1 with q | q
    · exact .inl q
    · exact .inr ⟨q, PySem.W.cellsFrom_some _ _ _ (.inl q)⟩
  refine codeAny_call_function hr.depth (KX _ _ lk) rfl S.co S.gen rfl (PySem.W.codeRec_of KX hcd) (hb _ _ _ _ ?_)
  refine wpAny_newFunctionEnv_cells S.kind hkind fun env he s1 x => ?_
  subst he
  refine ⟨lim.keeps x.toInCall.keep, codeAny_func ?_⟩
  obtain ⟨t, ht, hq⟩ := hbody A outer s H vs Q E (hr.deeper _) hsp
  have I : Inv (cxOf CX P w K mg base N qual scope f cdv A outer s H E) [] (start N vs) H s1 := inv_start S hr.hd e0 hl r x
  refine wpAny_mono (ht [] s1 (start N vs) H _ I hq) (fun fl s' hs => ?_) fun e s' hs => hs
  have fin : ∀ {σ' : St} {H' : Hp} {v : V} {u : Value}, Inv (cxOf CX P w K mg base N qual scope f cdv A outer s H E) [] σ' H' s' → RelV v u → Q v H' → CE outer P w H s Q u s' :=
    fun {σ' H' v u} J rv q => ⟨v, H', J.os, J.bare, J.base, J.hok, rv, q⟩
  cases fl with
  | ret u =>
    obtain ⟨v, σ', H', J, rv, q⟩ := hs
    exact fin J rv q
  | next =>
    obtain ⟨σ', H', J, q⟩ := hs
    exact fin (v := V.non) (u := Value.none) J rfl q
  | brk =>
    obtain ⟨_, _, _, q⟩ := hs
    exact False.elim q
  | cont =>
    obtain ⟨_, _, _, q⟩ := hs
    exact False.elim q
end L2

namespace L2
open PySem PySem.Spec PyProof.Rows
section
variable {X : Cx} {x : Str} {p pos : Pos} {e : Expr} {es : List Expr} {t : TA} {id T : String} {r : List V → Hp → VK → Prop}

def tCB (r : List V → Hp → VK → Prop) (t : TA) : TE := fun σ H Q => t σ H fun vs H1 => r vs H1 Q
/-- f(e, ..), f a built-in function -/
theorem pe_callB (hc : CallR X (.builtin id) r) (hg : Gl X x) (hm : X.mg x = none) (hv : bootBuiltins x = some (.builtin id)) (ha : PA X (e :: es) t) (hn : x ≠ "__name__" := by decide) (hdb : (x == ("__debug__" : Str)) = false := by decide)
    (he : starEach (e :: es) X.env = (false, eval e X.env) :: starEach es X.env := by rfl) (hpl : (backTo pos (starEach es X.env)).any (·.1) = false := by rfl) : PE X (.Call (.Name x p) (e :: es) [] pos) (tCB r t) := by
  intro pins s σ H Q I h
  refine wpAny_Call_Name_kw (ld_blt I hg hm hv ?_ hn hdb)
  exact PyProof.Rows.callWith_builtin1 (thn (ha pos pins s σ H _ I h) fun us s1 ⟨vs, H1, I1, r1, q1⟩ => hc pins s1 σ H1 vs us Q I1 r1 q1) he hpl
/-- T(e, ..), T a built-in type -/
theorem pe_callTy (hc : CallR X (.type T) r) (hg : Gl X x) (hm : X.mg x = none) (hv : bootBuiltins x = some (.type T)) (ha : PA X (e :: es) t) (hn : x ≠ "__name__" := by decide) (hdb : (x == ("__debug__" : Str)) = false := by decide)
    (he : starEach (e :: es) X.env = (false, eval e X.env) :: starEach es X.env := by rfl) (hpl : (backTo pos (starEach es X.env)).any (·.1) = false := by rfl) : PE X (.Call (.Name x p) (e :: es) [] pos) (tCB r t) := by
  intro pins s σ H Q I h
  refine wpAny_Call_Name_kw (ld_blt I hg hm hv ?_ hn hdb)
  exact PyProof.Rows.callWith_type1 (thn (ha pos pins s σ H _ I h) fun us s1 ⟨vs, H1, I1, r1, q1⟩ => hc pins s1 σ H1 vs us Q I1 r1 q1) he hpl
end
end L2

namespace L2
open PySem PySem.Spec PyProof.Rows

/-! ### lists of pairs as tables -/
section
variable {κ : Type} [DecidableEq κ]
def valV (kvs : List (κ × V)) (k : κ) : Option V := (kvs.find? fun kv => decide (kv.1 = k)).map (·.2)
/-- in its place, or at the end -/
def putK (kvs : List (κ × V)) (k : κ) (v : V) : List (κ × V) :=
  if (kvs.any fun kv => decide (kv.1 = k)) = true then kvs.map (fun kv => if kv.1 = k then (kv.1, v) else kv) else kvs ++ [(k, v)]
def dropK (kvs : List (κ × V)) (k : κ) : List (κ × V) := kvs.filter fun kv => decide (kv.1 ≠ k)

theorem valV_pos {p : κ × V} {r : List (κ × V)} {k : κ} (e : p.1 = k) : valV (p :: r) k = some p.2 := by simp [valV, List.find?_cons, e]
theorem valV_neg {p : κ × V} {r : List (κ × V)} {k : κ} (e : ¬ p.1 = k) : valV (p :: r) k = valV r k := by simp [valV, List.find?_cons, e]
theorem valV_any (k : κ) : ∀ kvs : List (κ × V), (kvs.any fun kv => decide (kv.1 = k)) = (valV kvs k).isSome
  | [] => rfl
  | p :: r => by
    rw [List.any_cons]
    by_cases e : p.1 = k
    · simp only [valV_pos e, decide_eq_true e, Bool.true_or, Option.isSome_some]
    · rw [valV_neg e, decide_eq_false e, Bool.false_or]; exact valV_any k r
theorem valV_map (k j : κ) (y : V) : ∀ kvs : List (κ × V), valV (kvs.map fun kv => if kv.1 = k then (kv.1, y) else kv) j = (valV kvs j).map fun x => if j = k then y else x
  | [] => rfl
  | p :: r => by
    have ih := valV_map k j y r
    rw [List.map_cons]
    by_cases h : p.1 = k
    · rw [if_pos h]
      by_cases e : p.1 = j
      · rw [valV_pos (p := (p.1, y)) e, valV_pos e, Option.map_some, if_pos (e.symm.trans h)]
      · rw [valV_neg (p := (p.1, y)) e, valV_neg e, ih]
    · rw [if_neg h]
      by_cases e : p.1 = j
      · rw [valV_pos (p := p) e, valV_pos e, Option.map_some, if_neg (fun z => h (e.trans z))]
      · rw [valV_neg (p := p) e, valV_neg e, ih]
theorem valV_snoc (k j : κ) (y : V) : ∀ kvs : List (κ × V), valV kvs k = none → valV (kvs ++ [(k, y)]) j = if j = k then some y else valV kvs j
  | [], _ => by
    by_cases e : k = j
    · rw [if_pos e.symm]; exact valV_pos (p := (k, y)) e
    · rw [if_neg (fun z => e z.symm)]; exact valV_neg (p := (k, y)) e
  | p :: r, hn => by
    rw [List.cons_append]
    have hk : ¬ p.1 = k := fun z => by rw [valV_pos z] at hn; cases hn
    rw [valV_neg hk] at hn
    have ih := valV_snoc k j y r hn
    by_cases e : p.1 = j
    · rw [valV_pos e, valV_pos e, if_neg (fun z => hk (e.trans z))]
    · rw [valV_neg e, valV_neg e, ih]
theorem valV_put (kvs : List (κ × V)) (k j : κ) (y : V) : valV (putK kvs k y) j = if j = k then some y else valV kvs j := by
  unfold putK
  by_cases a : (kvs.any fun kv => decide (kv.1 = k)) = true
  · rw [if_pos a, valV_map]
    rw [valV_any] at a
    by_cases e : j = k
    · obtain ⟨x, hx⟩ := Option.isSome_iff_exists.mp a
      rw [if_pos e, e, hx, Option.map_some, if_pos rfl]
    · rw [if_neg e]
      cases valV kvs j with
      | none => rfl
      | some x => rw [Option.map_some, if_neg e]
  · rw [if_neg a]
    refine valV_snoc k j y kvs ?_
    rw [valV_any] at a
    cases q : valV kvs k with
    | none => rfl
    | some x => rw [q] at a; exact (a rfl).elim
theorem length_putK (kvs : List (κ × V)) (k : κ) (v : V) : (putK kvs k v).length ≤ kvs.length + 1 := by
  unfold putK
  split
  · rw [List.length_map]; omega
  · rw [List.length_append, List.length_cons, List.length_nil]; omega

theorem RelO.isSome_eq {o : Option V} {u : Option Value} (r : RelO o u) : o.isSome = u.isSome := by
  cases o with
  | none => cases u with
    | none => rfl
    | some _ => exact (show False from r).elim
  | some _ => cases u with
    | none => exact (show False from r).elim
    | some _ => rfl
theorem RelO.getD {o : Option V} {u : Option Value} {d : V} {d' : Value} (r : RelO o u) (rd : RelV d d') : RelV (o.getD d) (u.getD d') := by
  cases o with
  | none => cases u with
    | none => exact rd
    | some _ => exact (show False from r).elim
  | some _ => cases u with
    | none => exact (show False from r).elim
    | some _ => exact r

/-- raw tables of the same keys -/
theorem KV.val {kvs : List (κ × V)} {vs : List (κ × Value)} (r : KV kvs vs) (k : κ) : RelO (valV kvs k) (valueAt vs k) := by
  unfold KV at r
  induction r with
  | nil => exact True.intro
  | @cons p q ps qs h t ih =>
    obtain ⟨h1, h2⟩ := h
    by_cases e : p.1 = k
    · have e' : q.1 = k := h1.symm.trans e
      have b : valueAt (q :: qs) k = some q.2 := by simp [valueAt, List.find?_cons, e']
      rw [valV_pos e, b]; exact h2
    · have e' : ¬ q.1 = k := fun z => e (h1.trans z)
      have b : valueAt (q :: qs) k = valueAt qs k := by simp [valueAt, List.find?_cons, e']
      rw [valV_neg e, b]; exact ih
theorem KV.any {kvs : List (κ × V)} {vs : List (κ × Value)} (r : KV kvs vs) (k : κ) : (kvs.any fun kv => decide (kv.1 = k)) = vs.any fun kv => decide (kv.1 = k) := by
  unfold KV at r
  induction r with
  | nil => rfl
  | cons h t ih => rw [List.any_cons, List.any_cons, ih, h.1]
theorem KV.repl {kvs : List (κ × V)} {vs : List (κ × Value)} (r : KV kvs vs) (k : κ) {y : V} {u : Value} (ry : RelV y u) :
    KV (kvs.map fun kv => if kv.1 = k then (kv.1, y) else kv) (vs.map fun kv => if kv.1 = k then (kv.1, u) else kv) := by
  unfold KV at r ⊢
  induction r with
  | nil => exact .nil
  | @cons p q ps qs h t ih =>
    rw [List.map_cons, List.map_cons]
    refine .cons ?_ ih
    obtain ⟨h1, h2⟩ := h
    by_cases e : p.1 = k
    · rw [if_pos e, if_pos (h1.symm.trans e)]; exact ⟨h1, ry⟩
    · rw [if_neg e, if_neg (fun z => e (h1.trans z))]; exact ⟨h1, h2⟩
theorem KV.put {kvs : List (κ × V)} {vs : List (κ × Value)} (r : KV kvs vs) (k : κ) {y : V} {u : Value} (ry : RelV y u) : KV (putK kvs k y) (stored vs k u) := by
  unfold putK stored
  rw [r.any k]
  by_cases e : (vs.any fun kv => decide (kv.1 = k)) = true
  · rw [if_pos e, if_pos e]; exact r.repl k ry
  · rw [if_neg e, if_neg e]; exact Paired.snoc r ⟨rfl, ry⟩
theorem KV.drop {kvs : List (κ × V)} {vs : List (κ × Value)} (r : KV kvs vs) (k : κ) : KV (dropK kvs k) (without vs k) := by
  unfold KV at r ⊢
  unfold dropK without
  induction r with
  | nil => exact .nil
  | @cons p q ps qs h t ih =>
    obtain ⟨h1, h2⟩ := h
    rw [List.filter_cons, List.filter_cons]
    by_cases e : p.1 = k
    · have a : ¬ decide (p.1 ≠ k) = true := by simp [e]
      have b : ¬ decide (q.1 ≠ k) = true := by simp [h1.symm.trans e]
      rw [if_neg a, if_neg b]; exact ih
    · have e' : ¬ q.1 = k := fun z => e (h1.trans z)
      have a : decide (p.1 ≠ k) = true := by simp [e]
      have b : decide (q.1 ≠ k) = true := by simp [e']
      rw [if_pos a, if_pos b]; exact .cons ⟨h1, h2⟩ ih
theorem KV.keys {kvs : List (κ × V)} {vs : List (κ × Value)} (r : KV kvs vs) : kvs.map (·.1) = vs.map (·.1) := by
  unfold KV at r
  induction r with
  | nil => rfl
  | cons h t ih => rw [List.map_cons, List.map_cons, ih, h.1]
theorem KV.length {kvs : List (κ × V)} {vs : List (κ × Value)} (r : KV kvs vs) : kvs.length = vs.length := Paired.length r
end


/-! ### a tracked dict, its keys ints and texts or tuples of these -/
theorem kV_is {P : Program} {w : World} {k : Key} {u : Value} (r : RelV (kV k) u) : (mixKind P w).is k u = true := by
  cases k with
  | inl i => obtain ⟨t, e⟩ := (show ∃ t, u = Value.int i t from r); subst e; exact mixKind_int P w i t
  | inr x => obtain ⟨t, e⟩ := (show ∃ t, u = Value.str x t from r); subst e; exact mixKind_str P w x t
theorem items_are {P : Program} {w : World} : ∀ {ks : List Key} {us : List Value}, Vals (ks.map kV) us → ItemsAre (mixKind P w) ks us
  | [], _, r => by rw [List.map_nil] at r; cases r; exact .nil
  | k :: ks, _, r => by
    rw [List.map_cons] at r
    cases r with
    | cons h t => exact .cons (kV_is h) (items_are t)

/-- raw entries of a dict with tuple keys -/
abbrev KT (H : Hp) : List (List Key × V) → List (List Key × Addr × Value) → Prop := Paired fun p q => p.1 = q.1 ∧ H q.2.1 = some (.tup (p.1.map kV)) ∧ RelV p.2 q.2.2
theorem KT.val {H : Hp} {kvs : List (List Key × V)} {xs : List (List Key × Addr × Value)} (r : KT H kvs xs) (k : List Key) : RelO (valV kvs k) ((atKey xs k).map (·.2)) := by
  induction r with
  | nil => exact True.intro
  | @cons p q ps qs h t ih =>
    obtain ⟨h1, _, h2⟩ := h
    by_cases e : p.1 = k
    · have e' : q.1 = k := h1.symm.trans e
      have b : atKey (q :: qs) k = some q.2 := by simp [atKey, List.find?_cons, e']
      rw [valV_pos e, b]; exact h2
    · have e' : ¬ q.1 = k := fun z => e (h1.trans z)
      have b : atKey (q :: qs) k = atKey qs k := by simp [atKey, List.find?_cons, e']
      rw [valV_neg e, b]; exact ih
theorem KT.repl {H : Hp} {kvs : List (List Key × V)} {xs : List (List Key × Addr × Value)} (r : KT H kvs xs) (k : List Key) {y : V} {u : Value} (ry : RelV y u) :
    KT H (kvs.map fun kv => if kv.1 = k then (kv.1, y) else kv) (xs.map (putAt k u)) := by
  induction r with
  | nil => exact .nil
  | @cons p q ps qs h t ih =>
    rw [List.map_cons, List.map_cons]
    refine .cons ?_ ih
    obtain ⟨h1, h2, h3⟩ := h
    unfold putAt
    by_cases e : p.1 = k
    · rw [if_pos e, if_pos (h1.symm.trans e)]; exact ⟨h1, h2, ry⟩
    · rw [if_neg e, if_neg (fun z => e (h1.trans z))]; exact ⟨h1, h2, h3⟩
theorem KT.put {H : Hp} {kvs : List (List Key × V)} {xs : List (List Key × Addr × Value)} (r : KT H kvs xs) (k : List Key) {b : Addr} {y : V} {u : Value} (hb : H b = some (.tup (k.map kV))) (ry : RelV y u) :
    KT H (putK kvs k y) (storedH xs k b u) := by
  have e : (kvs.any fun kv => decide (kv.1 = k)) = (atKey xs k).isSome := by
    rw [valV_any, (r.val k).isSome_eq, Option.isSome_map]
  unfold putK storedH
  rw [e]
  by_cases q : (atKey xs k).isSome = true
  · rw [if_pos q, if_pos q]; exact r.repl k ry
  · rw [if_neg q, if_neg q]; exact Paired.snoc r ⟨rfl, hb, ry⟩
theorem KT.keeps {H H' : Hp} {kvs : List (List Key × V)} {xs : List (List Key × Addr × Value)} (r : KT H kvs xs) (ht : ∀ b ys, H b = some (.tup ys) → H' b = some (.tup ys)) : KT H' kvs xs :=
  Paired.mapP r fun _ _ z => ⟨z.1, ht _ _ z.2.1, z.2.2⟩

section
variable {P : Program} {w : World} {H : Hp} {h : Heap} {a : Addr}
theorem rd_of {u : HO} (ok : HOk P w H h) (e : Rd H a u) : ObjOk P w H h a u := e.ok ok
theorem dk_rd {kvs : List (Key × V)} (ok : HOk P w H h) (e : Rd H a (.dK kvs)) : kvs.length ≤ sizeLine ∧ (a == sysModules) = false ∧ ∃ vs, KV kvs vs ∧ h.DictOf (mixKind P w) a vs :=
  show ObjOk P w H h a (.dK kvs) from rd_of ok e
theorem dk_of {kvs : List (Key × V)} (ok : HOk P w H h) (e : H a = some (.dK kvs)) : kvs.length ≤ sizeLine ∧ (a == sysModules) = false ∧ ∃ vs, KV kvs vs ∧ h.DictOf (mixKind P w) a vs := dk_rd ok (.inl e)
/-- a tracked tuple of ints and texts is a key -/
theorem key_of {ks : List Key} (ok : HOk P w H h) (e : H a = some (.tup (ks.map kV))) : (tupleKind (mixKind P w)).is h ks a := by
  obtain ⟨_, its, r, o, h1, h2, n, h3⟩ := (show ObjOk P w H h a (.tup (ks.map kV)) from ok a _ e)
  exact ⟨o, its.toArray, n, h1, h2, h3, by simpa using items_are r⟩
theorem dt_rd {kvs : List (List Key × V)} (ok : HOk P w H h) (e : Rd H a (.dT kvs)) : kvs.length ≤ sizeLine ∧ (a == sysModules) = false ∧
    ∃ xs, KT H kvs xs ∧ h.DictOfH (tupleKind (mixKind P w)) a xs := by
  obtain ⟨z, y, xs, r, o, es, ep, h1, h2, h3, h4, h5⟩ := (show ObjOk P w H h a (.dT kvs) from rd_of ok e)
  refine ⟨z, y, xs, r, o, es, ep, h1, h2, h3, h4, fun x hx => ?_, h5⟩
  have all : ∀ {l : List (List Key × V)} {m : List (List Key × Addr × Value)}, KT H l m → ∀ x ∈ m, (tupleKind (mixKind P w)).is h x.1 x.2.1 := by
    intro l m q
    induction q with
    | nil => intro x hx; exact nomatch hx
    | @cons p q ps qs hq t ih =>
      intro x hx
      rcases List.mem_cons.mp hx with e | hx
      · subst e
        exact key_of ok (by rw [← hq.1]; exact hq.2.1)
      · exact ih x hx
  exact all r x hx
end

/-- what the dict at a holds at the key y -/
def DGet (H : Hp) (a : Addr) (y : V) (r : Option V) : Prop :=
  (∃ kvs k, Rd H a (.dK kvs) ∧ y = kV k ∧ r = valV kvs k) ∨ ∃ kvs k b, Rd H a (.dT kvs) ∧ y = .ref b ∧ H b = some (.tup (k.map kV)) ∧ r = valV kvs k
/-- the heap behind a[y] = v -/
def DPut (H : Hp) (a : Addr) (y v : V) (H' : Hp) : Prop :=
  (∃ kvs k, H a = some (.dK kvs) ∧ y = kV k ∧ kvs.length < sizeLine ∧ H' = upd H a (.dK (putK kvs k v))) ∨
  ∃ kvs k b, H a = some (.dT kvs) ∧ y = .ref b ∧ H b = some (.tup (k.map kV)) ∧ kvs.length < sizeLine ∧ H' = upd H a (.dT (putK kvs k v))
theorem DGet.k {H : Hp} {a : Addr} {kvs : List (Key × V)} {k : Key} (e : H a = some (.dK kvs)) : DGet H a (kV k) (valV kvs k) := .inl ⟨kvs, k, .inl e, rfl, rfl⟩
theorem DGet.t {H : Hp} {a b : Addr} {kvs : List (List Key × V)} {k : List Key} (e : H a = some (.dT kvs)) (eb : H b = some (.tup (k.map kV))) : DGet H a (.ref b) (valV kvs k) := .inr ⟨kvs, k, b, .inl e, rfl, eb, rfl⟩
theorem DPut.k {H : Hp} {a : Addr} {kvs : List (Key × V)} {k : Key} {v : V} (e : H a = some (.dK kvs)) (hl : kvs.length < sizeLine) : DPut H a (kV k) v (upd H a (.dK (putK kvs k v))) := .inl ⟨kvs, k, e, rfl, hl, rfl⟩
theorem DPut.t {H : Hp} {a b : Addr} {kvs : List (List Key × V)} {k : List Key} {v : V} (e : H a = some (.dT kvs)) (eb : H b = some (.tup (k.map kV))) (hl : kvs.length < sizeLine) :
    DPut H a (.ref b) v (upd H a (.dT (putK kvs k v))) := .inr ⟨kvs, k, b, e, rfl, eb, hl, rfl⟩


section
variable {X : Cx} {pins : List (Addr × Obj)} {σ : St} {H : Hp} {s : Shared} {a : Addr} {y v : V} {u r : Value} {o : Option V} {A : Around} {E : Value → Shared → Prop}

theorem Inv.big (I : Inv X pins σ H s) : sysModules < s.heap.objs.size := by
  have h : mainGlobals < s.heap.objs.size := (I.mod.glob.keeps I.bk).lt
  exact Nat.lt_trans (by decide) h

/-- d[y], there -/
theorem d_getItem {Q : Value → Shared → Prop} (hu : A.units + 1 < cLine) (I : Inv X pins σ H s) (g : DGet H a y (some v)) (ry : RelV y u) (h : ∀ w' s', Inv X pins σ H s' → RelV v w' → Q w' s') :
    wpAny (model X.prog X.w) A (getItem (.ref a) u) Q E s := by
  rcases g with ⟨kvs, k, e, ey, l⟩ | ⟨kvs, k, b, e, ey, eb, l⟩
  · subst ey
    obtain ⟨z, hd, vs, rel, dd⟩ := dk_rd I.hok e
    obtain ⟨w', hw, rw'⟩ := RelO.some_of (v := v) (o := valueAt vs k) (by rw [l]; exact rel.val k)
    exact wpAny_getItem_of (kV_is ry) dd.mapOf hw (h w' _ (I.tok _) rw')
  · subst ey
    cases (show u = Value.ref b from ry)
    obtain ⟨z, hd, xs, rel, dd⟩ := dt_rd I.hok e
    obtain ⟨w', hw, rw'⟩ := RelO.some_of (v := v) (o := (atKey xs k).map (·.2)) (by rw [l]; exact rel.val k)
    obtain ⟨p, hp, hp2⟩ := Option.map_eq_some_iff.mp hw
    refine wpAny_getItem_heap (tupleKind_room_in1 hu) (key_of I.hok eb) dd hp ?_
    rw [hp2]
    exact h w' _ (I.tok _) rw'
/-- y in d -/
theorem d_in {Q : Value → Shared → Prop} (hu : A.units + 1 < cLine) (I : Inv X pins σ H s) (g : DGet H a y o) (ry : RelV y u) (h : ∀ s', Inv X pins σ H s' → Q (.bool o.isSome) s') :
    wpAny (model X.prog X.w) A (compareOp .In u (.ref a)) Q E s := by
  rcases g with ⟨kvs, k, e, ey, l⟩ | ⟨kvs, k, b, e, ey, eb, l⟩
  · subst ey
    obtain ⟨z, hd, vs, rel, dd⟩ := dk_rd I.hok e
    refine wpAny_in_of (kV_is ry) hd dd.mapOf ?_
    rw [← (rel.val k).isSome_eq, ← l]
    exact h _ (I.tok _)
  · subst ey
    cases (show u = Value.ref b from ry)
    obtain ⟨z, hd, xs, rel, dd⟩ := dt_rd I.hok e
    refine wpAny_in_heap (tupleKind_room_in1 hu) (key_of I.hok eb) hd dd ?_
    have q := (rel.val k).isSome_eq
    rw [Option.isSome_map] at q
    rw [← q, ← l]
    exact h _ (I.tok _)
/-- a dict's object is replaced -/
theorem d_write {h' : Heap} {t' : Nat} {ob : HO} (I : Inv X pins σ H s) (mu : Mut (H a)) (hs : Heap.SameBut a s.heap h') (he : ∃ q, h'.get? a = some q) (new : ObjOk X.prog X.w (upd H a ob) h' a ob) :
    Inv X pins σ (upd H a ob) { s with heap := h', toks := t' } :=
  I.write (x := a) (e := a) mu (.inl rfl) (fun b q hb z => (hs.2 b hb).trans z) he new
theorem dk_new {P : Program} {w : World} {H' : Hp} {h' : Heap} {kvs : List (Key × V)} {vs : List (Key × Value)} (z : kvs.length ≤ sizeLine) (hd : (a == sysModules) = false) (rel : KV kvs vs) (dd : h'.DictOf (mixKind P w) a vs) :
    ObjOk P w H' h' a (.dK kvs) := ⟨z, hd, vs, rel, dd⟩
end

section
variable {X : Cx} {pins : List (Addr × Obj)} {σ : St} {H : Hp} {s : Shared} {a : Addr} {kvs : List (Key × V)} {k : Key} {u : Value} {A : Around} {E : Value → Shared → Prop}
end


/-! ### readings and rules -/
/-- the element of a subscription, not a slice -/
def NoSl (i : Expr) : Prop := ∀ ov iv, subscripted i false ov iv = operate [ov, iv] (getItem ov iv)
theorem subD_of {prog : Program} {w : World} {A : Around} {E : Value → Shared → Prop} {s : Shared} {env : Env} {value slice : Expr} {pos : Pos} {T id : String} {Q : Value → Shared → Prop}
    (hl : typeLookup (.type T) "__getitem__" = pure (some (.builtin id))) (hs : NoSl slice)
    (h : wpAny (model prog w) A (eval value env) (fun o s₁ => wpAny (model prog w) A (eval slice env) (fun i s₂ => s₂.TypeIs o T ∧ wpAny (model prog w) A (getItem o i) Q E s₂) E s₁) E s) :
    wpAny (model prog w) A (eval (.Subscript value slice pos) env) Q E s := by
  refine Subscript_ (wpAny_mono h (fun o s₁ h₁ => wpAny_mono h₁ (fun i s₂ h₂ => ?_) fun _ _ x => x) fun _ _ x => x)
  obtain ⟨hT, h₂⟩ := h₂
  unfold subscriptTail
  refine wpAny_bind ?_
  rw [getitemInPython_of_ne hT.not_modules]
  refine wpAny_bind (wpAny_specialOf hT hl ?_)
  have fin : wpAny (model prog w) A (subscripted slice false o i) (fun r s₃ => wpAny (model prog w) A (letTemporaryGo value o r >>= fun _ => pure r) Q E s₃) E s₂ := by
    rw [hs o i]
    exact wpAny_operating (wpAny_mono h₂ (fun r s₃ h₃ => wpAny_bind (wpAny_letTemporaryGo (wpAny_pure h₃))) fun _ _ x => x)
  first
    | exact wpAny_pure (wpAny_bind fin)
    | exact wpAny_bind (wpAny_pure (wpAny_bind fin))
    | exact wpAny_bind fin

theorem dict_typeIs {X : Cx} {pins : List (Addr × Obj)} {σ : St} {H : Hp} {s : Shared} {a : Addr} {y : V} {o : Option V} (I : Inv X pins σ H s) (g : DGet H a y o) : s.TypeIs (.ref a) "dict" := by
  rcases g with ⟨kvs, k, e, _, _⟩ | ⟨kvs, k, b, e, _, _, _⟩
  · obtain ⟨_, _, vs, _, dd⟩ := dk_rd I.hok e
    exact dd.typeIs
  · obtain ⟨_, _, xs, _, dd⟩ := dt_rd I.hok e
    exact dd.typeIs

/-- d[y] -/
def tDGet (td ty : TE) : TE := fun σ H Q => td σ H fun x H1 => ty σ H1 fun y H2 => ∃ a v, x = .ref a ∧ DGet H2 a y (some v) ∧ Q v H2
/-- y in d, y not in d -/
def tDIn (ty td : TE) : TE := fun σ H Q => ty σ H fun y H1 => td σ H1 fun x H2 => ∃ a o, x = .ref a ∧ DGet H2 a y o ∧ Q (.bl o.isSome) H2

section
variable {X : Cx} {o i e value : Expr} {pos pos' tpos : Pos} {td ty tv : TE}
theorem pe_dget (hu : X.A.units + 1 < cLine) (ho : PE X o td) (hi : PE X i ty) (hs : NoSl i) : PE X (.Subscript o i pos) (tDGet td ty) := by
  intro pins s σ H Q I h
  refine subD_of PySem.F.slot_dict_getitem.lookup hs (thn (ho pins s σ H _ I h) fun u s1 ⟨x, H1, I1, rx, q1⟩ => thn (hi pins s1 σ H1 _ I1 q1) fun iv s2 ⟨y, H2, I2, ry, a, v, ex, g, q2⟩ => ?_)
  subst ex
  obtain rfl : u = Value.ref a := rx
  exact ⟨dict_typeIs I2 g, d_getItem hu I2 g ry fun w' s3 I3 rw' => ⟨v, H2, I3, rw', q2⟩⟩
theorem pc_din (hu : X.A.units + 1 < cLine) (hi : PE X i ty) (ho : PE X o td) : PC X .In i o (tDIn ty td) := by
  intro pins s σ H Q I h
  refine thn (hi pins s σ H _ I h) fun iv s1 ⟨y, H1, I1, ry, q1⟩ => thn (ho pins s1 σ H1 _ I1 q1) fun u s2 ⟨x, H2, I2, rx, a, ov, ex, g, q2⟩ => ?_
  subst ex
  obtain rfl : u = Value.ref a := rx
  exact d_in hu I2 g ry fun s3 I3 => ⟨.bl ov.isSome, H2, I3, rfl, q2⟩
end


/-! ### displays -/
theorem dk_empty {P : Program} {w : World} {H : Hp} (h : Heap) (hb : sysModules < h.objs.size) : ObjOk P w H (h.push { cls := .type "dict", data := .dict #[] }) h.objs.size (.dK []) :=
  ⟨Nat.zero_le _, beq_eq_false_iff_ne.mpr (Ne.symm (Nat.ne_of_lt hb)), [], .nil, Heap.DictOf.new h⟩
section
variable {X : Cx} {pos : Pos}
end

/-- the pairs of a display, from the left -/
def tPairs : List (TE × TE) → St → Hp → (List (V × V) → Hp → Prop) → Prop
  | [], _, H, Q => Q [] H
  | (tk, tv) :: r, σ, H, Q => tk σ H fun x H1 => tv σ H1 fun y H2 => tPairs r σ H2 fun ps H3 => Q ((x, y) :: ps) H3
abbrev VV : List (V × V) → List (Value × Value) → Prop := Paired fun p q => RelV p.1 q.1 ∧ RelV p.2 q.2
def PPs (X : Cx) (pos : Pos) (keys : List (Option Expr)) (values : List Expr) (trs : List (TE × TE)) : Prop :=
  ∀ (pins : List (Addr × Obj)) (s : Shared) (σ : St) (H : Hp) (Q : List (V × V) → Hp → Prop), Inv X pins σ H s → tPairs trs σ H Q →
    wpAny (model X.prog X.w) X.A (evalPairs (pairTrees keys values X.env pos)) (fun vs s' => ∃ ps H', Inv X pins σ H' s' ∧ VV ps vs ∧ Q ps H') X.xe s
theorem pps_nil {X : Cx} {pos : Pos} : PPs X pos [] [] [] := fun pins s σ H Q I h => pairTrees_nil_walk ⟨[], H, I, .nil, h⟩
theorem pps_cons {X : Cx} {pos : Pos} {k v : Expr} {ks : List (Option Expr)} {vs : List Expr} {tk tv : TE} {trs : List (TE × TE)} (hk : PE X k tk) (hv : PE X v tv) (hr : PPs X pos ks vs trs) :
    PPs X pos (some k :: ks) (v :: vs) ((tk, tv) :: trs) := fun pins s σ H Q I h =>
  pairTrees_cons_walk (thn (hk pins s σ H _ I h) fun u s1 ⟨x, H1, I1, rx, q1⟩ => thn (hv pins s1 σ H1 _ I1 q1) fun w2 s2 ⟨y, H2, I2, ry, q2⟩ =>
    thn (hr pins s2 σ H2 _ I2 q2) fun ws s3 ⟨ps, H3, I3, rel, q3⟩ => ⟨(x, y) :: ps, H3, I3, .cons ⟨rx, ry⟩ rel, q3⟩)

def mergeK (kvs more : List (Key × V)) : List (Key × V) := more.foldl (fun acc kv => putK acc kv.1 kv.2) kvs
theorem KV.merge : ∀ {more : List (Key × V)} {rs : List (Key × Value)} {kvs : List (Key × V)} {vs : List (Key × Value)}, KV more rs → KV kvs vs → KV (mergeK kvs more) (merged vs rs) := by
  intro more rs kvs vs r
  unfold KV at r
  induction r generalizing kvs vs with
  | nil => intro q; exact q
  | @cons p q ps qs h t ih =>
    intro r0
    have e : KV (putK kvs p.1 p.2) (stored vs q.1 q.2) := by
      have := r0.put p.1 h.2
      rw [← h.1]; exact this
    exact ih e
theorem length_mergeK : ∀ (more kvs : List (Key × V)), (mergeK kvs more).length ≤ kvs.length + more.length
  | [], kvs => by show kvs.length ≤ kvs.length + 0; omega
  | p :: r, kvs => by
    have h1 := length_mergeK r (putK kvs p.1 p.2)
    have h2 := length_putK kvs p.1 p.2
    show (mergeK (putK kvs p.1 p.2) r).length ≤ _
    rw [List.length_cons]; omega
theorem carries_of {P : Program} {w : World} : ∀ {kvs : List (Key × V)} {ws : List (Value × Value)}, VV (kvs.map fun kv => (kV kv.1, kv.2)) ws → ∃ rs, Carries (mixKind P w) ws rs ∧ KV kvs rs
  | [], _, r => by rw [List.map_nil] at r; cases r; exact ⟨[], True.intro, .nil⟩
  | p :: kvs, _, r => by
    rw [List.map_cons] at r
    cases r with
    | @cons a b as bs h t =>
      obtain ⟨rs, c, q⟩ := carries_of (P := P) (w := w) t
      obtain ⟨b1, b2⟩ := b
      exact ⟨(p.1, b2) :: rs, ⟨kV_is h.1, rfl, c⟩, .cons ⟨rfl, h.2⟩ q⟩
/-- {k: v, ..} with keys ints and texts; the new dict stands empty while the pairs are made -/
def tDisp (trs : List (TE × TE)) : TE := fun σ H Q => ∀ p, H p = none → tPairs trs σ (upd H p (.dK [])) fun ps H2 => H2 p = some (.dK []) ∧ ∃ kvs : List (Key × V), ps = kvs.map (fun kv => (kV kv.1, kv.2)) ∧ kvs.length ≤ 15 ∧ Q (.ref p) (upd H2 p (.dK (mergeK [] kvs)))
theorem pe_disp {X : Cx} {pos : Pos} {keys : List (Option Expr)} {values : List Expr} {trs : List (TE × TE)} (h : PPs X pos keys values trs) (hall : keys.all (·.isSome) = true) (hl : keys.length = values.length) (h0 : keys ≠ [])
    (h15 : keys.length ≤ 15) : PE X (.Dict keys values pos) (tDisp trs) := by
  intro pins s σ H Q I q
  have hn := I.hok.fresh (Nat.le_refl s.heap.objs.size)
  have I1 := I.laid (a := s.heap.objs.size) (o := .dK []) (h' := s.heap.push { cls := .type "dict", data := .dict #[] }) (t' := s.toks) (fun _ _ q => Heap.get?_push_of_some _ q) (Nat.le_refl _) (dk_empty s.heap I.big)
  refine wpAny_Dict_walk (knd := mixKind X.prog X.w) hall hl h0 h15 (thn (h pins _ σ _ _ I1 (q _ hn)) fun ws s2 hh => ?_)
  obtain ⟨ps, H2, I2, rel, e, kvs, ep, lk, q2⟩ := hh
  subst ep
  obtain ⟨rs, c, rk⟩ := carries_of (P := X.prog) (w := X.w) rel
  obtain ⟨z, hd, vs0, r0, dd⟩ := dk_of I2.hok e
  cases r0
  refine ⟨rs, c, dd, fun h' dd' hs => ⟨.ref s.heap.objs.size, _, ?_, rfl, q2⟩⟩
  have hz : (mergeK [] kvs).length ≤ sizeLine := by
    have h1 := length_mergeK kvs []
    rw [List.length_nil] at h1
    rw [sizeLine_eq]; omega
  have he : ∃ q, h'.get? s.heap.objs.size = some q := let ⟨q, _, _, hq, _⟩ := dd'; ⟨q, hq⟩
  exact d_write I2 (by rw [e]; exact True.intro) hs he (dk_new hz hd (rk.merge .nil) dd')


/-! ### methods -/


section
variable {X : Cx} {pins : List (Addr × Obj)} {σ : St} {H : Hp} {s : Shared} {a : Addr} {y d : V} {u r : Value} {o : Option V} {A : Around} {E : Value → Shared → Prop}
end

section
variable {X : Cx} {o e f : Expr} {apos cpos : Pos} {td ty tx : TE}
end

/-! ### dict(d): a copy -/
section
variable {X : Cx} {pins : List (Addr × Obj)} {σ : St} {H : Hp} {s : Shared} {a : Addr} {kvs : List (Key × V)} {A : Around} {E : Value → Shared → Prop}
end


section
variable {X : Cx} {pins : List (Addr × Obj)} {σ : St} {H : Hp} {s : Shared} {a : Addr} {y : V} {u : Value} {A : Around} {E : Value → Shared → Prop}
end
end L2

namespace HT
open PySem PyProof.Rows



section
open PySem.SeqAt
open PySem.AutoSeq1 (wpAny_loadPart')
open PySem.MeetsSeq PySem.MeetsSeq2 PySem.MeetsSeq3

end

section
variable {prog : Program} {w : World} {A : Around} {E : Value → Shared → Prop} {s : Shared}



/-! ### t[a:b], not the whole -/
/-- a slice's bound as a place among n (d where it is left out) -/
def sIx (n d : Nat) : Option Int → Nat
  | none => d
  | some v => if v < 0 then (v + (n : Int)).toNat else min v.toNat n
theorem sIx_none (n d : Nat) : sIx n d none = d := rfl

end
end HT

namespace L2
open PySem PySem.Spec PyProof.Rows

/-! ### the parts of a slice -/
abbrev TO := St → Hp → (Option Int → Hp → Prop) → Prop
/-- a slice's part (left out, or an int) -/
def PO (X : Cx) (e : Option Expr) (t : TO) : Prop :=
  ∀ (pins : List (Addr × Obj)) (s : Shared) (σ : St) (H : Hp) (Q : Option Int → Hp → Prop), Inv X pins σ H s → t σ H Q →
    wpAny (model X.prog X.w) X.A (evalPart e X.env) (fun u s' => ∃ o H', Inv X pins σ H' s' ∧ IsPart u o ∧ Q o H') X.xe s
def tNoPart : TO := fun _ H Q => Q none H
def tPart (t : TE) : TO := fun σ H Q => t σ H fun x H1 => ∃ i, x = .int i ∧ Q (some i) H1


section
variable {X : Cx} {e : Expr} {te : TE} {lo hi : Option Expr} {tl th : TO} {pos p2 : Pos}

theorem po_none : PO X none tNoPart := by
  intro pins s σ H Q I h
  rw [evalPart_none]
  exact wpAny_pure ⟨none, H, I, .none, h⟩
theorem po_some (h : PE X e te) : PO X (some e) (tPart te) := by
  intro pins s σ H Q I hw
  rw [evalPart_some]
  refine thn (h pins s σ H _ I hw) fun u s1 hh => ?_
  obtain ⟨x, H1, I1, r1, q1⟩ := hh
  obtain ⟨i, rfl, q⟩ := q1
  obtain ⟨t, rfl⟩ := r1
  exact ⟨some i, H1, I1, .int i t, q⟩

/-- what a slice of a value is, by values: the slice object stands at sl -/
def SlR (X : Cx) (r : V → Option Int → Option Int → Hp → VK → Prop) : Prop :=
  ∀ (pins : List (Addr × Obj)) (s : Shared) (σ : St) (H : Hp) (x : V) (v vl vu : Value) (lo hi : Option Int) (sl : Addr) (Q : VK), Inv X pins σ H s → RelV x v → s.heap.IsSliceOf sl vl vu .none → IsPart vl lo → IsPart vu hi → r x lo hi H Q →
    ∃ T id, typeLookup (.type T) "__getitem__" = pure (some (.builtin id)) ∧ s.TypeIs v T ∧ wpAny (model X.prog X.w) X.A (getItem v (.ref sl)) (EP X pins σ Q) X.xe s
theorem SlR.or {r r' : V → Option Int → Option Int → Hp → VK → Prop} (h : SlR X r) (h' : SlR X r') : SlR X (fun x lo hi H Q => r x lo hi H Q ∨ r' x lo hi H Q) := by
  intro pins s σ H x v vl vu lo hi sl Q I rx hs pl pu q
  rcases q with q | q
  · exact h pins s σ H x v vl vu lo hi sl Q I rx hs pl pu q
  · exact h' pins s σ H x v vl vu lo hi sl Q I rx hs pl pu q
def tSl (r : V → Option Int → Option Int → Hp → VK → Prop) (te : TE) (tl th : TO) : TE := fun σ H Q => te σ H fun x H1 => tl σ H1 fun l H2 => th σ H2 fun u H3 => r x l u H3 Q
/-- a[lo:hi], any a -/
theorem pe_slice {r : V → Option Int → Option Int → Hp → VK → Prop} (hr : SlR X r) (he : PE X e te) (hl : PO X lo tl) (hu : PO X hi th) : PE X (.Subscript e (.Slice lo hi none p2) pos) (tSl r te tl th) := by
  intro pins s σ H Q I h
  refine Subscript_ (thn (he pins s σ H _ I h) fun v s1 hh => ?_)
  obtain ⟨x, H1, I1, r1, q1⟩ := hh
  refine wpAny_Slice (thn (hl pins s1 σ H1 _ I1 q1) fun vl s2 ⟨l, H2, I2, pl, q2⟩ => thn (hu pins s2 σ H2 _ I2 q2) fun vu s3 ⟨u, H3, I3, pu, q3⟩ => ?_)
  rw [evalPart_none]
  refine wpAny_pure ?_
  have I4 : Inv X pins σ H3 { s3 with heap := s3.heap.push { cls := .type "slice", data := .fields #[vl, vu, .none] } } := I3.kept (t' := s3.toks) fun b ob q => Heap.get?_push_of_some _ q
  obtain ⟨T, id, hT, ht, hg⟩ := hr pins { s3 with heap := s3.heap.push { cls := .type "slice", data := .fields #[vl, vu, .none] } } σ H3 x v vl vu l u s3.heap.objs.size Q I4 r1 (Heap.IsSliceOf.new ..) pl pu q3
  show wpAny (model X.prog X.w) X.A (subscriptTail e (.Slice lo hi none p2) v (.ref s3.heap.objs.size)) (EP X pins σ Q) X.xe { s3 with heap := s3.heap.push { cls := .type "slice", data := .fields #[vl, vu, .none] } }
  exact tail_any (ops := [.ref s3.heap.objs.size, v]) ht hT hg (by with_unfolding_all rfl)

/-- the items of xs[lo:hi] -/
def cutV (xs : List V) (lo hi : Option Int) : List V := (xs.drop (HT.sIx xs.length 0 lo)).take (HT.sIx xs.length xs.length hi - HT.sIx xs.length 0 lo)
theorem cutV_length (xs : List V) (lo hi : Option Int) : (cutV xs lo hi).length ≤ xs.length := by
  unfold cutV
  rw [List.length_take, List.length_drop]
  omega

/-! ### t < u, t + u -/
theorem Vals.nil_iff {xs : List V} {us : List Value} (r : Vals xs us) : us = [] ↔ xs = [] := by
  cases r with
  | nil => simp
  | cons _ _ => simp
end
end L2

namespace L2
open PySem PySem.Spec PyProof.Rows

/-! ### places -/
/-- the place that an index of any sign means -/
def ixN (n : Nat) (i : Int) : Option Nat := if 0 ≤ i then (if i < n then some i.toNat else none) else if -(n : Int) ≤ i then some (i + n).toNat else none
def atI {α : Type} (xs : List α) (i : Int) : Option α := (ixN xs.length i).bind fun j => xs[j]?
theorem ixN_seq {n : Nat} {i : Int} {j : Nat} (h : ixN n i = some j) : seqIndex? i n = some j ∧ j < n ∧ -(n : Int) ≤ i ∧ i < n := by
  unfold ixN at h
  by_cases h0 : 0 ≤ i
  · rw [if_pos h0] at h
    by_cases h1 : i < n
    · rw [if_pos h1] at h
      have e : i.toNat = j := Option.some.inj h
      exact ⟨by rw [seqIndex_of h0 h1, e], by omega, by omega, h1⟩
    · rw [if_neg h1] at h; cases h
  · rw [if_neg h0] at h
    by_cases h1 : -(n : Int) ≤ i
    · rw [if_pos h1] at h
      have e : (i + n).toNat = j := Option.some.inj h
      exact ⟨by rw [seqIndex_neg (by omega) h1, e], by omega, h1, by omega⟩
    · rw [if_neg h1] at h; cases h
theorem atI_get {α : Type} {xs : List α} {i : Int} {v : α} (h : atI xs i = some v) : ∃ j, seqIndex? i xs.length = some j ∧ xs[j]? = some v ∧ j < xs.length ∧ -(xs.length : Int) ≤ i ∧ i < xs.length := by
  unfold atI at h
  cases e : ixN xs.length i with
  | none => rw [e] at h; cases h
  | some j =>
    rw [e] at h
    obtain ⟨h1, h2, h3, h4⟩ := ixN_seq e
    exact ⟨j, h1, h, h2, h3, h4⟩
theorem atI_nat {α : Type} {xs : List α} {j : Nat} {v : α} (h : xs[j]? = some v) : atI xs (j : Int) = some v := by
  have hj : j < xs.length := (List.getElem?_eq_some_iff.mp h).1
  have e : ixN xs.length (j : Int) = some j := by
    unfold ixN
    rw [if_pos (by omega), if_pos (by omega)]; simp
  unfold atI; rw [e]; exact h
theorem atI_last {α : Type} (xs : List α) (v : α) : atI (xs ++ [v]) (-1) = some v := by
  have hl : (xs ++ [v]).length = xs.length + 1 := by simp
  have e : ixN (xs ++ [v]).length (-1) = some xs.length := by
    unfold ixN
    rw [hl, if_neg (by decide), if_pos (by omega)]
    congr 1
    omega
  unfold atI
  rw [e]
  show (xs ++ [v])[xs.length]? = some v
  simp

/-! ### what may be subscripted -/
/-- what stands as an index of a plain subscript -/
def PlainIx (b : Expr) : Prop := ∀ o i, subscripted b false o i = operate [o, i] (getItem o i)
/-- a subscript by values -/
def IxR (X : Cx) (r : R2) : Prop :=
  ∀ (value slice : Expr) (pins : List (Addr × Obj)) (s : Shared) (σ : St) (H : Hp) (x y : V) (v u : Value) (Q : VK), Inv X pins σ H s → RelV x v → RelV y u → r x y H Q →
    subscripted slice false v u = operate [v, u] (getItem v u) → wpAny (model X.prog X.w) X.A (subscriptTail value slice v u) (EP X pins σ Q) X.xe s
/-- a call of a builtin's method by values: the receiver, the arguments -/
def MtR (X : Cx) (id : String) (r : V → List V → Hp → VK → Prop) : Prop :=
  ∀ (pins : List (Addr × Obj)) (s : Shared) (σ : St) (H : Hp) (x : V) (xs : List V) (v : Value) (us : List Value) (Q : VK), Inv X pins σ H s → RelV x v → Vals xs us → r x xs H Q →
    wpAny (model X.prog X.w) X.A (call (.builtin id) (v :: us)) (EP X pins σ Q) X.xe s
section
variable {X : Cx} {a b : Expr} {ta tb : TE} {pos : Pos}
theorem IxR.or {r r' : R2} (h : IxR X r) (h' : IxR X r') : IxR X (fun x y H Q => r x y H Q ∨ r' x y H Q) := by
  intro value slice pins s σ H x y v u Q I rx ry q hs
  rcases q with q | q
  · exact h value slice pins s σ H x y v u Q I rx ry q hs
  · exact h' value slice pins s σ H x y v u Q I rx ry q hs
theorem MtR.or {id : String} {r r' : V → List V → Hp → VK → Prop} (h : MtR X id r) (h' : MtR X id r') : MtR X id (fun x xs H Q => r x xs H Q ∨ r' x xs H Q) := by
  intro pins s σ H x xs v us Q I rx rs q
  rcases q with q | q
  · exact h pins s σ H x xs v us Q I rx rs q
  · exact h' pins s σ H x xs v us Q I rx rs q
/-- a[b] -/
theorem pe_ix {r : R2} (hr : IxR X r) (ha : PE X a ta) (hb : PE X b tb) (hs : PlainIx b) : PE X (.Subscript a b pos) (tOp r ta tb) := by
  intro pins s σ H Q I h
  exact Subscript_ (binT ha hb I h fun v u s2 x y H2 I2 rx ry q => hr a b pins s2 σ H2 x y v u Q I2 rx ry q (hs _ _))

def rIxL (K : PySem.W.Frag) : R2 := fun x y H Q => ∃ p xs i v, x = .ref p ∧ y = .int i ∧ SqL K H p xs ∧ atI xs i = some v ∧ Q v H
def rIxT (K : PySem.W.Frag) : R2 := fun x y H Q => ∃ p xs i v, x = .ref p ∧ y = .int i ∧ SqT K H p xs ∧ atI xs i = some v ∧ Q v H
def rIxS : R2 := fun x y H Q => ∃ z i c, x = .str z ∧ y = .int i ∧ z.length ≤ sizeLine ∧ atI z.cps.toList i = some c ∧ Q (.str ⟨#[c]⟩) H
theorem ix_list : IxR X (rIxL X.K) := by
  intro value slice pins s σ H x y v u Q I rx ry h hs
  obtain ⟨p, xs, i, z, rfl, rfl, hq, he, q⟩ := h
  cases rx
  obtain ⟨t, rfl⟩ := ry
  obtain ⟨its, r, pl, hz⟩ := I.list hq
  obtain ⟨j, h1, h2, h3, h4, h5⟩ := atI_get he
  obtain ⟨w, ew, rw'⟩ := r.get h2
  have hl := r.length
  have hn := line63
  have fin : EP X pins σ Q w s := ⟨z, H, I, rw', q⟩
  by_cases h0 : 0 ≤ i
  · have hj : i.toNat = j := by
      rw [seqIndex_of h0 h5] at h1
      exact Option.some.inj h1
    exact item_listR pl.isList h0 (by omega) (by rw [hj]; simpa using ew) fin hs
  · have hj : (i + (its.toArray.size : Int)).toNat = j := by
      rw [seqIndex_neg (by omega) h4] at h1
      rw [List.size_toArray, ← hl]
      exact Option.some.inj h1
    exact subscriptTail_builtinR (x := w) pl.isList.typeIs slot_list_getitem.lookup
      (wpAny_getItem_list_neg (Q := fun r s' => r = w ∧ EP X pins σ Q r s') pl.isList (by omega) (by rw [List.size_toArray] <;> omega) (by omega) (by rw [hj]; simpa using ew) ⟨rfl, fin⟩) hs
theorem ix_tup : IxR X (rIxT X.K) := by
  intro value slice pins s σ H x y v u Q I rx ry h hs
  obtain ⟨p, xs, i, z, rfl, rfl, hq, he, q⟩ := h
  cases rx
  obtain ⟨t, rfl⟩ := ry
  obtain ⟨its, r, pl, hz⟩ := I.tuple hq
  obtain ⟨j, h1, h2, h3, h4, h5⟩ := atI_get he
  obtain ⟨w, ew, rw'⟩ := r.get h2
  have hl := r.length
  have hn := line63
  have fin : EP X pins σ Q w s := ⟨z, H, I, rw', q⟩
  exact subscriptTail_builtinR (x := w) pl.typeIs slot_tuple_getitem.lookup
    (getItem_tuple (j := j) (Q := fun r s' => r = w ∧ EP X pins σ Q r s') pl (by omega) (by omega) (by rw [List.size_toArray, ← hl]; exact h1) (by simpa using ew) ⟨rfl, fin⟩) hs
theorem ix_str : IxR X rIxS := by
  intro value slice pins s σ H x y v u Q I rx ry h hs
  obtain ⟨z, i, c, rfl, rfl, hz, he, q⟩ := h
  obtain ⟨t, rfl⟩ := rx
  obtain ⟨t', rfl⟩ := ry
  obtain ⟨j, h1, h2, h3, h4, h5⟩ := atI_get he
  have hl : z.cps.toList.length = z.length := by simp [Str.length]
  rw [hl] at h1 h4 h5
  have hn := line63
  exact tail_any (typeIs_str s z t) slot_str_getitem.lookup (getItem_str (c := c) (by
    have e1 : decide (i < -(2 ^ 63 : Int)) = false := decide_eq_false (by omega)
    have e2 : decide (i ≥ 2 ^ 63) = false := decide_eq_false (by omega)
    rw [e1, e2, Bool.or_false]) (by rw [h1]; simpa using h2) ⟨.str ⟨#[c]⟩, H, I.tok _, ⟨_, rfl⟩, q⟩) hs

/-! ### xs[i] = v, any sign -/
theorem Inv.lst {pins : List (Addr × Obj)} {σ : St} {H : Hp} {s : Shared} {p : Addr} {xs : List V} (I : Inv X pins σ H s) (h : H p = some (.lst xs)) :
    ∃ (its : List Value) (n : Nat), Vals xs its ∧ s.heap.get? p = some { cls := .type "list", data := .seq its.toArray n } ∧ xs.length ≤ sizeLine := by
  obtain ⟨z, its, n, r, e⟩ := I.hok p _ h
  exact ⟨its, n, r, e, z⟩

/-! ### slices -/
theorem slice_bounds (lo hi : Option Int) (n : Nat) : (sliceBounds lo hi none n).1 = ((HT.sIx n 0 lo : Nat) : Int) ∧ (sliceBounds lo hi none n).2.1 = ((HT.sIx n n hi : Nat) : Int) ∧ (sliceBounds lo hi none n).2.2 = 1 := by
  refine ⟨?_, ?_, rfl⟩
  · cases lo with
    | none => simp [sliceBounds, HT.sIx]
    | some i =>
      simp only [sliceBounds, HT.sIx, Option.getD_none, show (1 : Int) > 0 by decide, if_true]
      by_cases h : i < 0
      · simp only [h, if_true] <;> omega
      · simp only [h, if_false] <;> omega
  · cases hi with
    | none => simp [sliceBounds, HT.sIx]
    | some i =>
      simp only [sliceBounds, HT.sIx, Option.getD_none, show (1 : Int) > 0 by decide, if_true]
      by_cases h : i < 0
      · simp only [h, if_true] <;> omega
      · simp only [h, if_false] <;> omega
theorem slicePick_cut (its : List Value) (lo hi : Option Int) : slicePick its.toArray lo hi none = ((its.drop (HT.sIx its.length 0 lo)).take (HT.sIx its.length its.length hi - HT.sIx its.length 0 lo)).toArray := by
  obtain ⟨h1, h2, h3⟩ := slice_bounds lo hi its.toArray.size
  unfold slicePick
  rw [h1, h2, h3]
  simp only [sliceRange_one, pick_run, List.size_toArray] <;> rfl
/-- xs[lo:hi] of a list: a new list -/
def rSlL (K : PySem.W.Frag) : V → Option Int → Option Int → Hp → VK → Prop := fun x lo hi H Q => ∃ a xs, x = .ref a ∧ SqL K H a xs ∧ ∀ p, H p = none → Q (.ref p) (upd H p (.lst (cutV xs lo hi)))
theorem sl_list : SlR X (rSlL X.K) := by
  intro pins s σ H x v vl vu lo hi sl Q I rx hs pl pu h
  obtain ⟨a, xs, rfl, hx, q⟩ := h
  cases rx
  obtain ⟨its, r, ht, hz⟩ := I.list hx
  have hlen := r.length
  refine ⟨"list", _, slot_list_getitem.lookup, ht.isList.typeIs, ?_⟩
  refine wpAny_getItem_list_slice ht.isList hs pl pu .none (by simp) ?_ (by rw [List.size_toArray] <;> omega)
  rw [slicePick_cut, ← hlen]
  refine ⟨.ref s.heap.objs.size, _, I.laid (t' := s.toks) (o := .lst (cutV xs lo hi)) (fun b ob q => Heap.get?_push_of_some _ q) (Nat.le_refl _) ?_, rfl, q _ (I.hok.fresh (Nat.le_refl _))⟩
  exact ⟨Nat.le_trans (cutV_length xs lo hi) hz, _, 0, (r.drop (HT.sIx xs.length 0 lo)).take (HT.sIx xs.length xs.length hi - HT.sIx xs.length 0 lo), Heap.get?_push_size _ rfl⟩

/-! ### in, not in: flat items -/
def flatV : V → Bool
  | .non => true
  | .bl _ => true
  | .int _ => true
  | .str _ => true
  | _ => false
/-- == of flat values -/
def eqV : V → V → Bool
  | .non, .non => true
  | .bl a, .bl b => a == b
  | .bl a, .int b => (if a then 1 else 0) == b
  | .int a, .bl b => a == (if b then 1 else 0)
  | .int a, .int b => a == b
  | .str a, .str b => a == b
  | _, _ => false
theorem eqAt_V {A : Around} {s : Shared} {y x : V} {u v : Value} (ry : RelV y u) (rx : RelV x v) (fy : flatV y = true) (fx : flatV x = true) : SeqAt.EqAt A s u v (eqV y x) := by
  cases y with
  | non =>
    cases ry
    cases x with
    | non => cases rx; exact SeqAt.EqAt.same _
    | bl b => cases rx; exact SeqAt.EqAt.none_bool b
    | int b => obtain ⟨t, rfl⟩ := rx; exact SeqAt.EqAt.none_int b t
    | str b => obtain ⟨t, rfl⟩ := rx; exact SeqAt.EqAt.none_str b t
    | _ => exact absurd (show false = true from fx) Bool.false_ne_true
  | bl a =>
    cases ry
    cases x with
    | non => cases rx; exact SeqAt.EqAt.bool_none a
    | bl b => cases rx; exact SeqAt.EqAt.bool_bool a b
    | int b => obtain ⟨t, rfl⟩ := rx; exact SeqAt.EqAt.bool_int a b t
    | str b => obtain ⟨t, rfl⟩ := rx; exact SeqAt.EqAt.bool_str a b t
    | _ => exact absurd (show false = true from fx) Bool.false_ne_true
  | int a =>
    obtain ⟨t', rfl⟩ := ry
    cases x with
    | non => cases rx; exact SeqAt.EqAt.int_none a t'
    | bl b => cases rx; exact SeqAt.EqAt.int_bool a t' b
    | int b => obtain ⟨t, rfl⟩ := rx; exact SeqAt.EqAt.int_int a t' b t
    | str b => obtain ⟨t, rfl⟩ := rx; exact SeqAt.EqAt.int_str a t' b t
    | _ => exact absurd (show false = true from fx) Bool.false_ne_true
  | str a =>
    obtain ⟨t', rfl⟩ := ry
    cases x with
    | non => cases rx; exact SeqAt.EqAt.str_none a t'
    | bl b => cases rx; exact SeqAt.EqAt.str_bool a t' b
    | int b => obtain ⟨t, rfl⟩ := rx; exact SeqAt.EqAt.str_int a t' b t
    | str b => obtain ⟨t, rfl⟩ := rx; exact SeqAt.EqAt.str_str a t' b t
    | _ => exact absurd (show false = true from fx) Bool.false_ne_true
  | _ => exact absurd (show false = true from fy) Bool.false_ne_true
/-- the items' answers, read off the values (a value's own answer does not lean on its token) -/
def eqU (x : V) (u : Value) : Bool := match u with
  | .none => eqV .non x
  | .bool b => eqV (.bl b) x
  | .int i _ => eqV (.int i) x
  | .str z _ => eqV (.str z) x
  | _ => false
theorem eqU_of {x y : V} {u : Value} (r : RelV y u) (f : flatV y = true) : eqU x u = eqV y x := by
  cases y with
  | non => cases r; rfl
  | bl b => cases r; rfl
  | int i => obtain ⟨t, rfl⟩ := r; rfl
  | str z => obtain ⟨t, rfl⟩ := r; rfl
  | _ => exact absurd (show false = true from f) Bool.false_ne_true
theorem any_eqU {x : V} : ∀ {xs : List V} {us : List Value}, Vals xs us → xs.all flatV = true → us.any (eqU x) = xs.any fun y => eqV y x
  | _, _, .nil, _ => rfl
  | y :: xs, u :: us, .cons r t, f => by
    rw [List.all_cons, Bool.and_eq_true] at f
    rw [List.any_cons, List.any_cons, eqU_of r f.1, any_eqU t f.2]
theorem mem_eqAt {A : Around} {s : Shared} {x : V} {v : Value} (rx : RelV x v) (fx : flatV x = true) : ∀ {xs : List V} {us : List Value}, Vals xs us → xs.all flatV = true → ∀ u ∈ us, SeqAt.EqAt A s u v (eqU x u)
  | _, _, .nil, _ => fun u hu => by cases hu
  | y :: xs, u :: us, .cons r t, f => fun u' hu => by
    rw [List.all_cons, Bool.and_eq_true] at f
    rcases List.mem_cons.mp hu with rfl | hu
    · rw [eqU_of r f.1]; exact eqAt_V r rx f.1 fx
    · exact mem_eqAt rx fx t f.2 u' hu
def inV (x : V) (xs : List V) : Bool := xs.any fun y => eqV y x
/-- x in a list or tuple of flat items -/
def rIn (K : PySem.W.Frag) (neg : Bool) : R2 := fun x y H Q => ∃ p xs, y = .ref p ∧ (SqL K H p xs ∨ SqT K H p xs) ∧ flatV x = true ∧ xs.all flatV = true ∧ Q (.bl (if neg then !inV x xs else inV x xs)) H
theorem op_notIn_seq : OpR X (compareOp .NotIn) (rIn X.K true) := by
  intro pins s σ H x y v u Q I rx ry h
  obtain ⟨p, xs, rfl, hq, fx, fs, q⟩ := h
  cases ry
  rcases hq with hq | hq
  · obtain ⟨its, r, pl, hz⟩ := I.list hq
    refine SeqAt.notIn_listAt (eqU x) pl.isList (fun w hw => mem_eqAt rx fx r fs w (by simpa using hw)) ⟨.bl _, H, I, rfl, ?_⟩
    rw [show its.toArray.any (eqU x) = its.any (eqU x) by simp, any_eqU r fs]
    exact q
  · obtain ⟨its, r, pl, hz⟩ := I.tuple hq
    refine SeqAt.notIn_tupleAt (eqU x) pl (fun w hw => mem_eqAt rx fx r fs w (by simpa using hw)) ⟨.bl _, H, I, rfl, ?_⟩
    rw [show its.toArray.any (eqU x) = its.any (eqU x) by simp, any_eqU r fs]
    exact q

/-! ### len, list(x), tuple(x) of any list or tuple that is read -/
theorem call_len_str : CallR X (.builtin "len") (fun xs H Q => ∃ z, xs = [.str z] ∧ z.length ≤ sizeLine ∧ Q (.int z.length) H) := by
  intro pins s σ H xs us Q I r h
  obtain ⟨z, rfl, hz, q⟩ := h
  obtain ⟨u, rfl, t, rfl⟩ := vals1 r
  have hn := line63
  exact len_str (by omega) ⟨.int z.length, H, I.tok _, ⟨_, rfl⟩, q⟩
theorem CallR.or {f : Value} {r r' : List V → Hp → VK → Prop} (h : CallR X f r) (h' : CallR X f r') : CallR X f (fun xs H Q => r xs H Q ∨ r' xs H Q) := by
  intro pins s σ H xs us Q I rs q
  rcases q with q | q
  · exact h pins s σ H xs us Q I rs q
  · exact h' pins s σ H xs us Q I rs q

/-! ### the call of a builtin's method: o.m(..) -/
/-- the value is of that builtin type -/
def tyV (K : PySem.W.Frag) (T : String) (x : V) (H : Hp) : Prop := match x with
  | .str _ => T = "str"
  | .int _ => T = "int"
  | .ref p => (T = "list" ∧ ∃ xs, SqL K H p xs) ∨ (T = "tuple" ∧ ∃ o, K.lookup p = some o ∧ o.cls = .type "tuple" ∧ o.dict = none) ∨
      (T = "dict" ∧ ((∃ kvs, H p = some (.dK kvs)) ∨ ∃ kvs, H p = some (.dT kvs))) ∨ (T = "set" ∧ ∃ S n, H p = some (.set S n))
  | _ => False
theorem tyV_is {pins : List (Addr × Obj)} {σ : St} {H : Hp} {s : Shared} {T : String} {x : V} {v : Value} (I : Inv X pins σ H s) (r : RelV x v) (ty : tyV X.K T x H) :
    s.TypeIs v T ∧ ∀ a, v = .ref a → ∃ ob, s.heap.get? a = some ob ∧ ob.dict = none := by
  cases x with
  | str z =>
    obtain ⟨t, rfl⟩ := r
    cases (show T = "str" from ty)
    exact ⟨typeIs_str s z t, fun _ e => nomatch e⟩
  | int i =>
    obtain ⟨t, rfl⟩ := r
    cases (show T = "int" from ty)
    exact ⟨typeIs_int s i t, fun _ e => nomatch e⟩
  | ref p =>
    cases r
    rcases ty with ⟨rfl, xs, hq⟩ | ⟨rfl, o, hk, hc, hd⟩ | ⟨rfl, hk⟩ | ⟨rfl, S, n, hk⟩
    · obtain ⟨its, _, pl, _⟩ := I.list hq
      refine ⟨pl.isList.typeIs, fun a e => ?_⟩
      cases e
      obtain ⟨o, n, e, c, hd, _⟩ := pl
      exact ⟨o, e, hd⟩
    · refine ⟨⟨o, I.kIn p o hk, hc⟩, fun a e => ?_⟩
      cases e
      exact ⟨o, I.kIn _ o hk, hd⟩
    · have z : ∃ o, s.heap.get? p = some o ∧ o.ExactDict := by
        rcases hk with ⟨kvs, hk⟩ | ⟨kvs, hk⟩
        · obtain ⟨_, _, _, _, o, _, _, e, ex, _⟩ := I.hok p _ hk
          exact ⟨o, e, ex⟩
        · obtain ⟨_, _, _, _, o, _, _, e, ex, _⟩ := I.hok p _ hk
          exact ⟨o, e, ex⟩
      obtain ⟨o, e, ex⟩ := z
      refine ⟨⟨o, e, ex.1⟩, fun a e2 => ?_⟩
      cases e2
      exact ⟨o, e, ex.2.1⟩
    · obtain ⟨o, _, _, _, e, ex, _⟩ := I.hok p _ hk
      refine ⟨⟨o, e, ex.1⟩, fun a e2 => ?_⟩
      cases e2
      exact ⟨o, e, ex.2.1⟩
  | _ => exact False.elim ty
def tBM0 (K : PySem.W.Frag) (T : String) (r : V → List V → Hp → VK → Prop) (to : TE) : TE := fun σ H Q => to σ H fun x H1 => tyV K T x H1 ∧ r x [] H1 Q
def tBM (K : PySem.W.Frag) (T : String) (r : V → List V → Hp → VK → Prop) (to : TE) (t : TA) : TE := fun σ H Q => to σ H fun x H1 => tyV K T x H1 ∧ t σ H1 fun xs H2 => r x xs H2 Q
variable {o e : Expr} {es : List Expr} {to : TE} {t : TA} {name : Str} {apos cpos : Pos} {T id : String} {r : V → List V → Hp → VK → Prop}
theorem pe_bm0 (pa : PlainAttrs T) (slot : Slot T name id) (hty : typeOf (.builtin id) = pure (.type "method_descriptor")) (hm : MtR X id r) (ho : PE X o to)
    (hbase : attributeBase o name X.env (eval o X.env) = eval o X.env := by rfl) (hline : (apos.endLine == cpos.line) = true := by rfl) : PE X (.Call (.Attribute o name apos) [] [] cpos) (tBM0 X.K T r to) := by
  intro pins s σ H Q I h
  refine wpAny_Call_method0_late hbase hline (thn (ho pins s σ H _ I h) fun v s1 hh => ?_)
  obtain ⟨x, H1, I1, r1, ty, q1⟩ := hh
  obtain ⟨h1, h2⟩ := tyV_is I1 r1 ty
  exact ⟨T, id, pa, slot, hty, h1, h2, Calls.callWith_builtin rfl (PySem.evalArgs_none (hm pins s1 σ H1 x [] v [] Q I1 r1 .nil q1))⟩
theorem pe_bm (pa : PlainAttrs T) (slot : Slot T name id) (hty : typeOf (.builtin id) = pure (.type "method_descriptor")) (hm : MtR X id r) (ho : PE X o to) (ha : PA X (e :: es) t)
    (hbase : attributeBase o name X.env (eval o X.env) = eval o X.env := by rfl)
    (hfew : ((backTo cpos (starEach (e :: es) X.env)).all (fun x => !x.1) && (backToKw cpos (keywordEach [] X.env)).all (fun x => x.1.isSome)
      && decide ((e :: es).length + ([] : List Keyword).length + (if ([] : List Keyword).isEmpty then 0 else 1) < 30)) = true := by rfl)
    (hline : (apos.endLine == cpos.line) = true := by rfl) (hs : starEach (e :: es) X.env = (false, eval e X.env) :: starEach es X.env := by rfl) (hplain : (backTo cpos (starEach es X.env)).any (·.1) = false := by rfl) :
    PE X (.Call (.Attribute o name apos) (e :: es) [] cpos) (tBM X.K T r to t) := by
  intro pins s σ H Q I h
  refine wpAny_Call_method_late hbase hfew hline rfl (thn (ho pins s σ H _ I h) fun v s1 hh => ?_)
  obtain ⟨x, H1, I1, r1, ty, q1⟩ := hh
  obtain ⟨h1, h2⟩ := tyV_is I1 r1 ty
  refine ⟨T, id, pa, slot, hty, h1, h2, ?_⟩
  have hA := ha cpos pins s1 σ H1 _ I1 q1
  rw [hs] at hA ⊢
  refine Calls.callWith_builtin (by show (false || (backTo cpos (starEach es X.env)).any (·.1)) = false; rw [hplain] <;> rfl) (Calls.evalArgs_plain ?_)
  exact thn hA fun us s2 ⟨vs, H2, I2, r2, q2⟩ => hm pins s2 σ H2 x vs v us Q I2 r1 r2 q2
/- xs.append(e), list.index on a module's tuple .. are MtR facts of 06m -/
end
end L2

namespace L2
open PySem PySem.Spec PyProof.Rows

def MtM (X : Cx) (id : String) (r : V → List V → Hp → VK → Prop) : Prop :=
  ∀ (pins : List (Addr × Obj)) (s : Shared) (σ : St) (H : Hp) (x : V) (xs : List V) (v : Value) (us : List Value) (Q : VK), Inv X pins σ H s → RelV x v → Vals xs us → r x xs H Q →
    wpAny (model X.prog X.w) X.A (call (.builtin id) (v :: us)) (EP X pins σ Q) X.xe s

/-! ### lists of values -/
theorem Vals.one : ∀ {x : V} {us : List Value}, Vals [x] us → ∃ u, us = [u] ∧ RelV x u
  | _, _, .cons r .nil => ⟨_, rfl, r⟩
theorem Vals.two : ∀ {x y : V} {us : List Value}, Vals [x, y] us → ∃ u v, us = [u, v] ∧ RelV x u ∧ RelV y v
  | _, _, _, .cons r (.cons q .nil) => ⟨_, _, rfl, r, q⟩
theorem Vals.zero : ∀ {us : List Value}, Vals [] us → us = []
  | _, .nil => rfl
theorem Vals.dropLast {xs : List V} {us : List Value} (h : Vals xs us) : Vals xs.dropLast us.dropLast := by
  induction h with
  | nil => exact .nil
  | cons r t ih =>
    cases t with
    | nil => exact .nil
    | cons q t' => exact .cons r ih
theorem Vals.eraseIdx : ∀ {xs : List V} {us : List Value} (i : Nat), Vals xs us → Vals (xs.eraseIdx i) (us.eraseIdx i)
  | _, _, _, .nil => .nil
  | _, _, 0, .cons _ t => t
  | _, _, i + 1, .cons r t => .cons r (Vals.eraseIdx i t)
theorem Vals.reverse {xs : List V} {us : List Value} (h : Vals xs us) : Vals xs.reverse us.reverse := by
  induction h with
  | nil => exact .nil
  | cons r t ih => rw [List.reverse_cons, List.reverse_cons]; exact Vals.append ih (.cons r .nil)
theorem Vals.rep {xs : List V} {us : List Value} (h : Vals xs us) : ∀ k : Nat, Vals (List.replicate k xs).flatten (List.replicate k us).flatten
  | 0 => .nil
  | k + 1 => by
    rw [List.replicate_succ, List.replicate_succ, List.flatten_cons, List.flatten_cons]
    exact Vals.append h (Vals.rep h k)
theorem erase_last {α : Type} (l : List α) : l.eraseIdx (l.length - 1) = l.dropLast := by
  induction l with
  | nil => rfl
  | cons a r ih =>
    cases r with
    | nil => rfl
    | cons b r =>
      have e : (a :: b :: r).length - 1 = ((b :: r).length - 1) + 1 := by
        have h1 : (a :: b :: r).length = r.length + 2 := rfl
        have h2 : (b :: r).length = r.length + 1 := rfl
        omega
      rw [e, List.eraseIdx_cons_succ, ih]
      all_goals rfl
theorem foldl_rep (its : List Value) : ∀ (k : Nat) (acc : List Value),
    List.foldl (fun x1 x2 => x1 ++ x2) acc.toArray (List.replicate k its.toArray) = (acc ++ (List.replicate k its).flatten).toArray
  | 0, acc => by simp
  | k + 1, acc => by
    have e : acc.toArray ++ its.toArray = (acc ++ its).toArray := by simp
    have e2 : (acc ++ its) ++ (List.replicate k its).flatten = acc ++ (List.replicate (k + 1) its).flatten := by
      rw [List.replicate_succ, List.flatten_cons, List.append_assoc]
    rw [← e2, ← foldl_rep its k (acc ++ its), ← e, List.replicate_succ, List.foldl_cons]

section
variable {X : Cx} {pins : List (Addr × Obj)} {σ : St} {H : Hp} {s : Shared} {l b : Addr} {xs ys zs : List V}

/-! ### the two steps: a tracked list is rewritten, a new list is laid -/
theorem Inv.lset {its its' : List Value} {n : Nat} {f : Array Value → Array Value} {t' : Nat} (I : Inv X pins σ H s) (hH : H l = some (.lst xs))
    (e : s.heap.get? l = some { cls := .type "list", data := .seq its.toArray n }) (hf : f its.toArray = its'.toArray) (hv : Vals ys its') (hz : ys.length ≤ sizeLine) :
    Inv X pins σ (upd H l (.lst ys)) { s with heap := s.heap.update l (Obj.mapSeq f), toks := t' } := by
  have q := PySem.IsL.update e f
  rw [hf] at q
  refine I.write (x := l) (e := l) (by rw [hH]; exact trivial) (.inl rfl) (fun b' u hb hu => (Heap.get?_update_other s.heap (Obj.mapSeq f) (Ne.symm hb)).trans hu) ⟨_, q⟩ ?_
  exact ⟨hz, its', _, hv, q⟩
theorem Inv.lnew {its : List Value} {t' : Nat} (I : Inv X pins σ H s) (hv : Vals ys its) (hz : ys.length ≤ sizeLine) :
    Inv X pins σ (upd H s.heap.objs.size (.lst ys)) { s with heap := s.heap.push { cls := .type "list", data := .seq its.toArray }, toks := t' } :=
  I.laid (fun _ _ q => Heap.get?_push_of_some _ q) (Nat.le_refl _) ⟨hz, its, 0, hv, Heap.get?_push_size _ rfl⟩
theorem Inv.fresh (I : Inv X pins σ H s) : H s.heap.objs.size = none := I.hok.fresh (Nat.le_refl _)
theorem Inv.lstM (I : Inv X pins σ H s) (hH : H l = some (.lst xs)) : xs.length ≤ sizeLine ∧ ∃ (its : List Value) (n : Nat), Vals xs its ∧ xs.length = its.length ∧ s.heap.get? l = some { cls := .type "list", data := .seq its.toArray n } := by
  obtain ⟨z, its, n, r, e⟩ := I.hok l _ hH
  exact ⟨z, its, n, r, r.length, e⟩

theorem notLongL {n : Nat} (h : n ≤ sizeLine) : Builtin.List.listTooLong n = false := by
  unfold Builtin.List.listTooLong
  exact decide_eq_false (by omega)
end

section
variable {X : Cx}

/-! ### methods -/
def rAppend : V → List V → Hp → VK → Prop := fun x vs H Q => ∃ l xs y, x = .ref l ∧ vs = [y] ∧ H l = some (.lst xs) ∧ xs.length < sizeLine ∧ Q .non (upd H l (.lst (xs ++ [y])))
theorem mt_append : MtM X "list.append" rAppend := by
  intro pins s σ H x vs v us Q I rx rv h
  obtain ⟨l, xs, y, rfl, rfl, hH, hz, q⟩ := h
  cases rx
  obtain ⟨u, rfl, ru⟩ := rv.one
  obtain ⟨z, its, n, r, hl, e⟩ := I.lstM hH
  refine call_meets F.slot_list_append ⟨_, e, rfl⟩ F.entry_list_append (F.args_list_append_2 _ _) (PySem.list_append l its.toArray n u (by rw [List.size_toArray]; omega)) ⟨e, ?_⟩
  refine ⟨.non, _, I.lset (its' := its ++ [u]) hH e (by simp) (r.append (.cons ru .nil)) ?_, rfl, q⟩
  rw [List.length_append, List.length_singleton]
  omega

def rExtend : V → List V → Hp → VK → Prop := fun x vs H Q => ∃ l b xs zs, x = .ref l ∧ vs = [.ref b] ∧ H l = some (.lst xs) ∧ H b = some (.lst zs) ∧ xs.length + zs.length ≤ sizeLine ∧ Q .non (upd H l (.lst (xs ++ zs)))
theorem mt_extend : MtM X "list.extend" rExtend := by
  intro pins s σ H x vs v us Q I rx rv h
  obtain ⟨l, b, xs, zs, rfl, rfl, hH, hB, hz, q⟩ := h
  cases rx
  obtain ⟨u, rfl, ru⟩ := rv.one
  cases ru
  obtain ⟨z, its, n, r, hl, e⟩ := I.lstM hH
  obtain ⟨z2, its2, n2, r2, hl2, e2⟩ := I.lstM hB
  have hsz : its.toArray.size + its2.toArray.size ≤ sizeLine := by rw [List.size_toArray, List.size_toArray]; omega
  have hlong : ¬ (!its.toArray.isEmpty && Builtin.List.listTooLong (its.toArray.size + its2.toArray.size)) = true := by
    rw [notLongL hsz, Bool.and_false]
    exact Bool.false_ne_true
  refine call_meets F.slot_list_extend ⟨_, e, rfl⟩ F.entry_list_extend (F.args_list_extend_2 _ _)
    (AutoSeq1.list_extend_list_list_0 l its.toArray n b its2.toArray n2 hlong (by rw [List.size_toArray]; omega) (by omega)) ⟨e, e2, ?_⟩
  refine ⟨.non, _, I.lset (its' := its ++ its2) hH e (by simp) (r.append r2) ?_, rfl, q⟩
  rw [List.length_append]
  omega

def rPop : V → List V → Hp → VK → Prop := fun x vs H Q => ∃ l xs y, x = .ref l ∧ vs = [] ∧ H l = some (.lst xs) ∧ xs[xs.length - 1]? = some y ∧ Q y (upd H l (.lst xs.dropLast))
theorem mt_pop : MtM X "list.pop" rPop := by
  intro pins s σ H x vs v us Q I rx rv h
  obtain ⟨l, xs, y, rfl, rfl, hH, hy, q⟩ := h
  cases rx
  have hus := rv.zero
  subst hus
  obtain ⟨z, its, n, r, hl, e⟩ := I.lstM hH
  obtain ⟨u, hu, ru⟩ := r.get hy
  have hy' : its.toArray[its.toArray.size - 1]? = some u := by
    show its.toArray[its.length - 1]? = some u
    rw [← Array.getElem?_toList, ← hl]
    exact hu
  refine call_meets F.slot_list_pop ⟨_, e, rfl⟩ F.entry_list_pop (F.args_list_pop_1 _) (MeetsSeq.list_pop_last l its.toArray n u hy' (by rw [List.size_toArray]; omega)) ⟨e, ?_⟩
  refine ⟨y, _, I.lset (its' := its.dropLast) hH e ?_ r.dropLast ?_, ru, q⟩
  · show its.toArray.eraseIdxIfInBounds (its.toArray.size - 1) = its.dropLast.toArray
    rw [List.size_toArray, List.eraseIdxIfInBounds_toArray, erase_last]
  · rw [List.length_dropLast]
    omega




/-! ### list + list, list += list, list * int -/
def rCat : R2 := fun x y H Q => ∃ l b xs zs, x = .ref l ∧ y = .ref b ∧ H l = some (.lst xs) ∧ H b = some (.lst zs) ∧ xs.length + zs.length ≤ sizeLine ∧ ∀ p, H p = none → Q (.ref p) (upd H p (.lst (xs ++ zs)))
theorem op_cat : OpR X (binaryOp .Add) rCat := by
  intro pins s σ H x y v u Q I rx ry h
  obtain ⟨l, b, xs, zs, rfl, rfl, hH, hB, hz, q⟩ := h
  cases rx
  cases ry
  obtain ⟨z, its, n, r, hl, e⟩ := I.lstM hH
  obtain ⟨z2, its2, n2, r2, hl2, e2⟩ := I.lstM hB
  refine PySem.P.add_list e e2 ?_ (by rw [List.size_toArray, List.size_toArray]; omega)
  have ea : its.toArray ++ its2.toArray = (its ++ its2).toArray := by simp
  rw [ea]
  exact ⟨.ref _, _, I.lnew (t' := s.toks) (r.append r2) (by rw [List.length_append]; omega), rfl, q _ I.fresh⟩
/-- a list times an int (a negative one is nothing) -/
def rRep : R2 := fun x y H Q => ∃ l k xs, x = .ref l ∧ y = .int k ∧ H l = some (.lst xs) ∧ -(2 ^ 63) ≤ k ∧ k < 2 ^ 63 ∧ xs.length * k.toNat ≤ sizeLine ∧
  ∀ p, H p = none → Q (.ref p) (upd H p (.lst (List.replicate k.toNat xs).flatten))
theorem len_rep {α : Type} (xs : List α) (k : Nat) : (List.replicate k xs).flatten.length = k * xs.length := by
  induction k with
  | zero => simp
  | succ k ih => rw [List.replicate_succ, List.flatten_cons, List.length_append, ih, Nat.succ_mul, Nat.add_comm]
theorem op_rep : OpR X (binaryOp .Mult) rRep := by
  intro pins s σ H x y v u Q I rx ry h
  obtain ⟨l, k, xs, rfl, rfl, hH, h1, h2, hz, q⟩ := h
  cases rx
  obtain ⟨t, rfl⟩ := ry
  obtain ⟨z, its, n, r, hl, e⟩ := I.lstM hH
  have hlen : its.toArray.size * k.toNat ≤ sizeLine := by rw [List.size_toArray, ← hl]; exact hz
  have hcap : ¬ its.toArray.size * k.toNat > (2 ^ 63 - 1) / 8 := by
    have : (sizeLine : Nat) ≤ (2 ^ 63 - 1) / 8 := by decide
    omega
  have hfit : ¬ (!Builtin.List.listFitsIndex k) = true := by
    rw [fitsIndex_both h1 h2]
    exact Bool.false_ne_true
  have hlong : ¬ Builtin.List.listTooLong (its.toArray.size * k.toNat) = true := by
    rw [notLongL hlen]
    exact Bool.false_ne_true
  have hnew : List.foldl (fun x1 x2 => x1 ++ x2) #[] (List.replicate (if its.toArray.isEmpty = true then 0 else k.toNat) its.toArray) = (List.replicate k.toNat its).flatten.toArray := by
    have f0 : ∀ m : Nat, List.foldl (fun x1 x2 => x1 ++ x2) #[] (List.replicate m its.toArray) = (List.replicate m its).flatten.toArray := fun m => by
      have := foldl_rep its m []
      rw [List.nil_append] at this
      exact this
    rw [f0]
    cases its with
    | nil => simp
    | cons a r' => rw [if_neg (by simp)]
  refine wpAny_binaryOp_repeat_ref (T := "list") (U := "int") (by decide) ⟨_, e, rfl⟩ (fun s' => typeIs_int s' k t) noFill_list_mul F.fills_int_mul F.slot_int_rmul repeat_list F.slot_int_index.lookup
    (call_meets F.slot_int_rmul (typeIs_int s k t) F.entry_int_rmul (F.args_int_rmul_2 _ _) (int___rmul___int_list k t l its.toArray n)
      ⟨e, rfl, ⟨_, e, rfl⟩, call_meets F.slot_list_mul ⟨_, e, rfl⟩ F.entry_list_mul (F.args_list_mul_2 _ _) (AutoListH.list___mul___list_int_3 l its.toArray n k t hfit hcap hlong) ⟨e, ?_⟩⟩)
  rw [hnew]
  exact ⟨.ref _, _, I.lnew (t' := s.toks) (r.rep k.toNat) (by rw [len_rep, Nat.mul_comm]; exact hz), rfl, q _ I.fresh⟩

/-! ### del xs[i] -/
end

/-! ### xs[a:b] = ys -/
section
variable {prog : Program} {w : World} {A : Around} {E : Value → Shared → Prop} {s : Shared}
set_option maxRecDepth 100000 in
end

section
variable {X : Cx}
end
end L2

namespace Att
open PySem PySem.W PySem.Calls PyProof.Rows

/-! ### the script -/
theorem ints_of_wellAll {P : Params} {h : Heap} : ∀ (ns : List Int) (vs : List Value), WellAll P h vs (ns.map WData.int) → IntsAre vs ns := by
  intro ns
  induction ns with
  | nil =>
    intro vs w
    rw [List.map_nil] at w
    cases w
    exact .nil
  | cons n ns ih =>
    intro vs w
    rw [List.map_cons] at w
    cases w with
    | cons a b =>
      cases a
      exact .cons _ _ (ih _ b)

theorem script_of {l : OpenLaw} {n : Nat} (hn : l.most = some n) {P : Params} {h : Heap} {args : List WData} {vals : List Value}
    (hpre : l.row.toRowW.claim.pre args = true) (hwl : WellAll P h vals args) :
    ∃ a vs ns, vals = [Value.ref a] ∧ args = [WData.list (ns.map WData.int)] ∧ h.get? a = some { cls := .type "list", data := .seq vs.toArray } ∧ IntsAre vs ns ∧ ns.length ≤ n := by
  have hsh : WShape.hasAll [] args [.list .int] = true := (pre_splitW hpre).1
  have hc : l.pre.holds [] { args := args } = true := (pre_splitW hpre).2
  obtain ⟨d, r, rfl, h1, h2⟩ := hasAllW_cons hsh
  obtain rfl := hasAllW_nil h2
  obtain ⟨xs, rfl, h3⟩ := hasW_list h1
  obtain ⟨ns, rfl⟩ := items_int h3
  have hlen : ns.length ≤ n := by
    unfold OpenLaw.pre at hc
    have h4 : (WTm.not (.lt (.lit (.int (n : Int))) (.len (.arg 0)))).holds [] { args := [.list (ns.map .int)] } = true := by
      have h4 := (holds_andW hc).1
      rw [hn] at h4
      exact h4
    have h5 := condW_of h4 (w_not (w_lt w_lit (w_len_list (w_arg rfl))))
    rw [List.length_map] at h5
    refine Nat.le_of_not_lt fun q => ?_
    have q' : (n : Int) < ((ns.length : Nat) : Int) := by omega
    first
      | (rw [decide_eq_true q'] at h5; exact absurd h5 (by decide))
      | (simp at h5; omega)
  cases hwl with
  | cons w1 w2 =>
    cases w2
    cases w1 with
    | list ho hall => exact ⟨_, _, ns, rfl, rfl, ho, ints_of_wellAll ns _ hall, hlen⟩

theorem post_true (l : OpenLaw) (args : List WData) : l.row.toRowW.claim.post args (.bool true) args = true :=
  postW_of (r := l.row.toRowW) (X := (true == true))
    (show WShape.has [] (.bool true) .bool = true by first | rfl | decide | simp [WShape.has, WShape.arms, WShape.armsAll])
    (show (WTm.eq .res (.lit (.bool true))).value [] { args := args, res := some (.bool true), after := args } = some (.bool (true == true)) from w_eq_bool (w_res rfl) w_lit) rfl

/-! ### the attachment: holds_open's last premise (the goal 'hc' behind k_head) from a wpAny of the law's body -/

/-- the same from a codeAny of the CALL (for a layer whose function contracts speak of calls) -/
theorem attach_call {l : OpenLaw} {n : Nat} {q : Program} {loose : List Str} {XP : (Str → Option Value) → Heap → Prop} {YP : World → Heap → Prop} {d : DefRec}
    (hn : l.most = some n) (hdf : d.params.defaults = [])
    (call : ∀ (w : World) (s₀ s₁ : Shared) (mg mb : Str → Option Value) (fa : Addr) (o : Obj) (pm cd doc : Value) (a : Addr) (vs : List Value) (ns : List Int),
      Ground q loose [] XP w s₀ mg mb s₁.heap → YP w s₁.heap →
      s₁.heap.get? fa = some o → o.data = .func (docDef d.name d.params d.body d.scope pm cd doc) → s₁.heap.CodeRec cd d.name → mg d.name = some (.ref fa) →
      s₁.heap.get? a = some { cls := .type "list", data := .seq vs.toArray } → IntsAre vs ns → ns.length ≤ n → s₁.gens = #[] →
      codeAny (model l.prog w) callerA (.call (.ref fa) ⟨[.ref a], []⟩) (fun r s' => r = .ok (.ret (.bool true)) ∧ OldK s₁.heap s'.heap ∧ s'.os = s₁.os ∧ AllBare s'.gens) s₁) :
    WalkO q loose XP YP l.row.toRowW d [] (fun f vs => PySem.call f vs) := by
  intro w s₀ s₁ mg mb G Y fa o pm cd doc dV kV ho hd hcd hD hmg hg args vals as hpre hlay hrd hwl hlo
  obtain rfl : dV = .none := Dflts.none hD hdf
  obtain rfl : kV = .none := Dflts.noKw hD
  obtain ⟨a, vs, ns, rfl, rfl, hobj, hints, hlen⟩ := script_of hn hpre hwl
  refine enter_call (codeAny_mono (call w s₀ s₁ mg mb fa o pm cd doc a vs ns G Y ho (fd_plain hd) hcd hmg hobj hints hlen hg) fun r s' hq => ?_)
  obtain ⟨rfl, h2, h3, h4⟩ := hq
  exact ⟨.inl ⟨.bool true, .bool true, [], rfl, fun _ => rfl, .bool true, post_true l _, fun _ => ⟨List.Pairwise.nil, fun _ hm => (nomatch hm)⟩⟩, h2, h3, h4⟩


/-! ### rules over ANY heap (no ledger) from facts about the written part K: the library's own take a ledger (News) for what they write -/
section
variable {prog : Program} {w : World} {A : Around} {E : Value → Shared → Prop} {s : Shared} {K : Frag}





/-! the whole heap as the ledger: makes every rule that writes through a ledger a rule over any heap -/
def ledger (h : Heap) (L d : Addr) : List (Addr × Obj) := (List.range h.objs.size).filterMap fun a => if a = L ∨ a = d then none else (h.get? a).map fun o => (a, o)

end
end Att

namespace L2
open PySem PySem.Spec PyProof.Rows

theorem vals_ints : ∀ {vs : List Value} {ns : List Int}, IntsAre vs ns → Vals (ns.map V.int) vs
  | _, _, .nil => .nil
  | _, _, .cons n t h => .cons ⟨t, rfl⟩ (vals_ints h)

/-- nothing is tracked but the script, known to the object (or it is an object of the module) -/
def Only (H : Hp) : Prop := ∀ b, H b = none ∨ ∃ o xs, H b = some (.frz o (.lst xs))

/-- THE HEAD: the law's promise, at the heap behind the top. F, the promise of the law's def, may use that base is part of the heap (so K.In base, base.Ns mainGlobals mg stand in Mod) -/
theorem law_call {P : Program} {w : World} {K : PySem.W.Frag} {mg mb : Str → Option Value} {CX : CXT} {k : Nat} {fa a : Addr} {fd : FuncData} {x : Str} {sp : Sp} {s₁ : Shared} {vs : List Value} {ns : List Int}
    (KX : K.In s₁.heap) (hns : s₁.heap.Ns mainGlobals mg) (hb : s₁.heap.Ns builtinsNs mb) (hbb : ∀ x : Str, x ≠ "__name__" → mb x = bootBuiltins x) (hlim : s₁.heap.NoLimit) (hg : s₁.gens = #[])
    (ha : s₁.heap.get? a = some { cls := .type "list", data := .seq vs.toArray }) (hi : IntsAre vs ns) (hl : ns.length ≤ sizeLine) (hr : Room k callerA)
    (F : ∀ base : Heap, K.In base → base.Ns mainGlobals mg → FnOk P w K mg base CX k fa fd [x] sp) (hbind : ∀ (s : Shared) (u : Value), BindsTo s fd ⟨[u], []⟩ [(x, u)])
    (hsp : ∀ H : Hp, Only H → SqL K H a (ns.map V.int) → sp [.ref a] H (fun v _ => v = .bl true) fun _ _ _ => False)
    (hCX : ∀ H e s', CX [] H s₁ (fun _ _ _ => False) e s' → False) :
    codeAny (model P w) callerA (.call (.ref fa) ⟨[.ref a], []⟩) (fun r s' => r = .ok (.ret (.bool true)) ∧ OldK s₁.heap s'.heap ∧ s'.os = s₁.os ∧ AllBare s'.gens) s₁ := by
  have rv := vals_ints hi
  have lenV := hi.length
  -- from an abstract heap in which nothing but the script may be tracked
  have core : ∀ H : Hp, Only H → SqL K H a (ns.map V.int) → HOk P w H s₁.heap → (∀ b, H b ≠ none → b = a) → (H a ≠ none → K.lookup a = none) →
      codeAny (model P w) callerA (.call (.ref fa) ⟨[.ref a], []⟩) (fun r s' => r = .ok (.ret (.bool true)) ∧ OldK s₁.heap s'.heap ∧ s'.os = s₁.os ∧ AllBare s'.gens) s₁ := by
    intro H hO hS hok hA hK
    have base_of : ∀ {b : Addr} {o : Obj}, s₁.heap.get? b = some o → H b = none → (hidT s₁.heap H).get? b = some o := fun e n => hidT_get e n
    have noA : ∀ {b : Addr} {o : Obj} {es : Array DictEntry} {ep : Nat}, s₁.heap.get? b = some o → o.data = .dict es ep → H b = none := fun {b o es ep} e d => by
      cases q : H b with
      | none => rfl
      | some u =>
        have e' : b = a := hA b (by rw [q]; simp)
        subst e'
        rw [ha] at e; cases e
        have d' : Data.seq vs.toArray _ = Data.dict es ep := d
        cases d'
    have nsK : ∀ {b : Addr} {m : Str → Option Value}, s₁.heap.Ns b m → (hidT s₁.heap H).Ns b m := fun {b m} ⟨o, es, ep, e, d, r⟩ => ⟨o, es, ep, base_of e (noA e d), d, r⟩
    have hKb : K.In (hidT s₁.heap H) := fun b o e => base_of (KX b o e) (by
      cases q : H b with
      | none => rfl
      | some u =>
        have e' : b = a := hA b (by rw [q]; simp)
        subst e'
        rw [hK (by rw [q]; simp)] at e; cases e)
    have hM : Mod K mg (hidT s₁.heap H) := ⟨hKb, nsK hns, ⟨mb, nsK hb, hbb⟩, let ⟨mc, h1, h2⟩ := hlim; ⟨mc, nsK h1, h2⟩⟩
    have e0 : Env0 P w K mg (hidT s₁.heap H) callerA [] s₁ H := ⟨rfl, hM, fun b o e => of_hidT e, Nat.le_of_eq (hidT_size _ _), trivial, fun b hb => absurd (show b ∈ ([] : List Addr) from hb) (by simp), hok, .of_eq hg⟩
    refine codeAny_mono ((F _ hKb (nsK hns)).run callerA [] s₁ H ⟨[.ref a], []⟩ [.ref a] [.ref a] _ _ hr e0 (hbind s₁ (.ref a)) (.cons rfl .nil) (hsp H hO hS)) fun r s' h => ?_
    cases r with
    | error e => exact (hCX H e s' h).elim
    | ok fl =>
      cases fl with
      | next => exact False.elim h
      | brk => exact False.elim h
      | cont => exact False.elim h
      | ret u =>
        obtain ⟨v, H', os, bare, un, hok', r', q⟩ := h
        have q' : v = .bl true := q
        subst q'
        obtain rfl : u = Value.bool true := r'
        refine ⟨rfl, OldK.of_keep fun b o e => ?_, os, bare⟩
        cases q : H b with
        | none => exact un.keep b o e q (by intro z; exact absurd (show b ∈ ([] : List Addr) from z) (by simp)) (by simp)
        | some u =>
          rcases hO b with z | ⟨ob, xs, z⟩
          · rw [q] at z; cases z
          · have z2 := un.frzs b ob _ z
            obtain ⟨e1, _⟩ := hok b _ z
            obtain ⟨e2, _⟩ := hok' b _ z2
            rw [e] at e1; cases e1
            exact e2
  cases hk : K.lookup a with
  | some o =>
    -- the script is one of the module's own objects
    have e := KX a o hk
    rw [ha] at e
    cases e
    refine core (fun _ => none) (fun _ => .inl rfl) (.inr ⟨_, vs.toArray, _, hk, rfl, rfl, rfl, by rw [List.size_toArray, lenV]; exact hl, by simpa using rv⟩) (fun b u z => by have z' : (none : Option HO) = some u := z; cases z') (fun b z => absurd rfl z) fun z => absurd rfl z
  | none =>
    refine core (fun b => if b = a then some (.frz { cls := .type "list", data := .seq vs.toArray } (.lst (ns.map V.int))) else none) (fun b => ?_) (.inl (.inr ⟨{ cls := .type "list", data := .seq vs.toArray }, if_pos rfl⟩)) (fun b u z => ?_) (fun b z => ?_) fun _ => hk
    · by_cases hb : b = a
      · exact .inr ⟨_, _, if_pos hb⟩
      · exact .inl (if_neg hb)
    · by_cases hb : b = a
      · have z' := (if_pos hb).symm.trans z
        cases z'
        subst hb
        exact ⟨ha, by rw [List.length_map]; exact hl, vs, _, rv, ha⟩
      · have z' := (if_neg hb).symm.trans z
        cases z'
    · by_cases hb : b = a
      · exact hb
      · exact absurd (if_neg hb) z
end L2

namespace L2
open PySem PySem.Spec PyProof.Rows

abbrev KOf {K : PySem.W.Frag} {h : Heap} (_ : K.In h) : PySem.W.Frag := K

/-- the goal that k_head leaves (case hc), from the law's promise. F gives the function object fd (K's own) once, then the promise over every base -/
theorem walk_of {l : PySem.W.OpenLaw} {n k : Nat} {q : Program} {loose : List Str} {XP : (Str → Option Value) → Heap → Prop} {YP : World → Heap → Prop} {d : DefRec} {K : Params → PySem.W.Frag} {CX : World → CXT} {sp : World → Sp} {x : Str}
    (hn : l.most = some n) (hn2 : n ≤ sizeLine) (hdf : d.params.defaults = []) (hr : Room k callerA)
    (hY : ∀ (w : World) (h : Heap), YP w h → (K w.params).In h)
    (F : ∀ (w : World) (mg : Str → Option Value) (fa : Addr) (h : Heap), (K w.params).In h → h.Ns mainGlobals mg → mg d.name = some (.ref fa) →
      ∃ fd : FuncData, (∀ (s : Shared) (u : Value), BindsTo s fd ⟨[u], []⟩ [(x, u)]) ∧
        ∀ base : Heap, (K w.params).In base → base.Ns mainGlobals mg → FnOk l.prog w (K w.params) mg base (CX w) k fa fd [x] (sp w))
    (hsp : ∀ (w : World) (H : Hp) (a : Addr) (ns : List Int), ns.length ≤ n → Only H → SqL (K w.params) H a (ns.map V.int) → sp w [.ref a] H (fun v _ => v = .bl true) fun _ _ _ => False)
    (hCX : ∀ (w : World) (H : Hp) (s : Shared) (e : Value) (s' : Shared), CX w [] H s (fun _ _ _ => False) e s' → False) :
    PySem.W.WalkO q loose XP YP l.row.toRowW d [] (fun f vs => PySem.call f vs) := by
  refine Att.attach_call hn hdf fun w s₀ s₁ mg mb fa o pm cd doc a vs ns G Y ho hd hcd hmg hobj hints hlen hg => ?_
  have KX := hY w _ Y
  obtain ⟨fd, hb, hF⟩ := F w mg fa _ KX G.T.g hmg
  exact law_call KX G.T.g G.T.b G.T.builtins G.T.nolimit hg hobj hints (Nat.le_trans hlen hn2) hr hF hb (fun H hO hS => hsp w H a ns hlen hO hS) fun H e s' => hCX w H s₁ e s'
end L2

/- THE LAST THEOREM (shape; LID, My.* are yours):
   My.Adr: a structure of the addresses that your layer names (classes, functions); My.Txt K t: a structure (Prop) of the equations over K;
   My.txt_mk : {K} {implicit addresses ..} (e1 : nsIn K mainGlobals "law" = some (some (.ref f))) (e2 : K.lookup f = some ⟨oc, od, .func (fnOf "law" "law" params body scope dV kV doc pm an cdv ct), sl⟩) (e3 : codeIn K cdv "law" = true) .. : ∃ t, My.Txt K t

set_option maxRecDepth 100000 in
set_option maxHeartbeats 0 in
theorem PySem.Challenge.cw_LID_holds : PySem.Challenge.rw_LID.Holds := by
  w_on; o_law; k_head; (case hw => w_witness2)
  k_fill
  refine L2.walk_of (l := PySem.Challenge.rw_LID) (n := 63) (k := 40) (x := "script") (CX := fun w => ..) (sp := fun _ => My.sp_law) rfl (by decide) rfl ⟨rfl, by decide, by decide⟩ (fun w h Y => PySem.W.kIn_of Y) ?F ?S ?C
  case F =>
    intro w mg fa h KX G hmg
    have T : ∃ t, My.Txt (L2.KOf KX) t := by
      dsimp only [L2.KOf]                          -- K must stand as «<heap const> w.params» for k_is
      refine' My.txt_mk ?e1 ?e2 ?e3 ..
      (case e1 => PySem.W.k_is)                    -- in the order: a name -> its address -> its object -> its parts
      (case e2 => PySem.W.k_is)
      ..
    obtain ⟨t, T⟩ := T
    have e0 := hmg.symm.trans (PySem.W.mg_of KX G T.law)
    cases e0                                       -- fa is the law's own address
    exact ⟨_, fun s u => .of_eq rfl, fun base kb nb => My.law_fn T kb nb⟩     -- if «.of_eq rfl» comes too early: refine' ⟨_, ?b, fun base kb nb => My.law_fn T kb nb⟩; exact fun s u => .of_eq rfl
  case S => exact fun w H a ns hl hO hS => ..
  case C => exact ..
(the tactic k_is has no namespace: write k_is) -/

/-! SHORT WORDS over the layer: a def of the text, its body, what a loop and a test want. -/
namespace L2
open PySem PySem.Spec PyProof.Rows

/-! ### the text by places -/
/-- the j-th statement of a class's body -/
def inClass (s : Stmt) (j : Nat) : Stmt := match s with
  | .ClassDef _ _ _ body _ _ _ _ _ _ _ => body.getD j (.Pass ⟨0, 0, 0, 0⟩)
  | _ => .Pass ⟨0, 0, 0, 0⟩
def defArgs (s : Stmt) : Arguments := match s with
  | .FunctionDef _ a _ _ _ _ _ _ _ _ => a
  | _ => { posonlyargs := [], args := [], vararg := none, kwonlyargs := [], kw_defaults := [], kwarg := none, defaults := [] }
def defBody (s : Stmt) : List Stmt := match s with
  | .FunctionDef _ _ b _ _ _ _ _ _ _ => b
  | _ => []
def defScope (s : Stmt) : Scope := match s with
  | .FunctionDef _ _ _ _ _ _ sc _ _ _ => sc
  | _ => { kind := .function, names := [], isGenerator := false, isCoroutine := false }

/-! ### no exception leaves a def -/
abbrev CX0 : CXT := fun _ _ _ _ _ _ => False
abbrev E0 : XK := fun _ _ _ => False
theorem pass0 {X : Cx} : Passes CX0 X E0 := fun _ _ _ _ _ _ _ h => h.elim

/-! ### a def (or method) of the text as it stands behind the top -/
structure Fun (K : PySem.W.Frag) (x qual : Str) (st : Stmt) (f : Addr) (fd : FuncData) : Prop where
  ex : ∃ (oc : Value) (od : Option Addr) (kV doc pm : Value) (an : Option Addr) (cdv ct : Value) (osl : Array (Option Value)),
    fd = PySem.W.fnOf x qual (defArgs st) (defBody st) (defScope st) .none kV doc pm an cdv ct ∧ K.lookup f = some ⟨oc, od, .func fd, osl⟩ ∧ PySem.W.codeIn K cdv qual = true
  kp : PySem.W.keepIn K (.ref f) = true
section
variable {P : Program} {w : World} {K : PySem.W.Frag} {mg : Str → Option Value} {base : Heap}
/-- THE RULE for a def: its body as a term of rules, and the reading of that term -/
theorem Fun.ok {x qual : Str} {st : Stmt} {f : Addr} {fd : FuncData} {N ps : List Str} {k : Nat} {sp : Sp} (F : Fun K x qual st f fd) (S : FnScope N ps (defScope st)) (len : ∀ vs H Q E, sp vs H Q E → vs.length = ps.length)
    (hbody : ∀ (cdv : Value) (A : Around) (outer : List Env) (s : Shared) (H : Hp) (vs : List V) (Q : VK) (E : XK), Room k (A.deeper (envOfC qual (defScope st) s.heap.objs.size f cdv)) → sp vs H Q E →
      ∃ t, PSs (cxOf CX0 P w K mg base N qual (defScope st) f cdv A outer s H E).nox (defBody st) t ∧ t { nx := fun _ H' => Q .non H', rt := Q } (start N vs) H) : FnOk P w K mg base CX0 (k + 1) f fd ps sp := by
  obtain ⟨oc, od, kV, doc, pm, an, cdv, ct, osl, rfl, lk, hcd⟩ := F.ex
  refine fn_of lk hcd S len fun A outer s H vs Q E hr hsp => ?_
  obtain ⟨t, h, q⟩ := hbody cdv A outer s H vs Q E hr hsp
  exact ⟨t, h.nox, q⟩
/-- how its arguments bind (no defaults): h is «fun _ _ _ _ _ _ us hl => match us, hl with | [_, _], _ => rfl», one _ a parameter -/
theorem Fun.binds {x qual : Str} {st : Stmt} {f : Addr} {fd : FuncData} {ps : List Str} (F : Fun K x qual st f fd)
    (h : ∀ (kV doc pm : Value) (an : Option Addr) (cdv ct : Value) (us : List Value), us.length = ps.length → bindArgs (PySem.W.fnOf x qual (defArgs st) (defBody st) (defScope st) .none kV doc pm an cdv ct) ⟨us, []⟩ = pure (ps.zip us)) : Binds K fd ps [] := by
  obtain ⟨oc, od, kV, doc, pm, an, cdv, ct, osl, rfl, lk, hcd⟩ := F.ex
  exact .all (h kV doc pm an cdv ct)
theorem fun_mk {x qual : Str} {st : Stmt} {f : Addr} {oc : Value} {od an : Option Addr} {osl : Array (Option Value)} {kV doc pm cdv ct : Value} (l : K.lookup f = some ⟨oc, od, .func (PySem.W.fnOf x qual (defArgs st) (defBody st) (defScope st) .none kV doc pm an cdv ct), osl⟩)
    (c : PySem.W.codeIn K cdv qual = true) (k : PySem.W.keepIn K (.ref f) = true) : Fun K x qual st f (PySem.W.fnOf x qual (defArgs st) (defBody st) (defScope st) .none kV doc pm an cdv ct) := ⟨⟨oc, od, kV, doc, pm, an, cdv, ct, osl, rfl, l, c⟩, k⟩
end
theorem small1000 {n : Nat} (h : n ≤ 1000) : n < sizeLine := Nat.lt_of_le_of_lt h (by decide)

/-! ### expressions in short: the name that stands in the i-th slot -/
section
variable {X : Cx}
theorem pv (i : Nat) {x : Str} {pos : Pos} (hN : X.N[i]? = some x := by rfl) (hv : Vis X.env.scope x := by first | exact Or.inl rfl | exact Or.inr (Or.inl rfl) | exact Or.inr (Or.inr rfl)) (hd : (x == ("__debug__" : Str)) = false := by decide)
    (hcd : (x == ("__classdict__" : Str)) = false := by decide) : PE X (.Name x pos) (tVar i) := pe_var hN hv hd hcd
end

/-! ### tests -/
theorem iteF {A B : Prop} (h : B) : if false = true then A else B := by
  rw [if_neg Bool.false_ne_true]
  exact h
theorem iteT {A B : Prop} (h : A) : if true = true then A else B := by
  rw [if_pos rfl]
  exact h

/-! ### heaps -/
/-- all that was tracked is as it was -/
def Same (H H' : Hp) : Prop := ∀ b o, H b = some o → H' b = some o
theorem Same.refl (H : Hp) : Same H H := fun _ _ h => h
theorem Same.trans {H H1 H2 : Hp} (a : Same H H1) (b : Same H1 H2) : Same H H2 := fun c o h => b c o (a c o h)
theorem Same.free {H H' : Hp} (e : Same H H') {l : Addr} (h : H' l = Option.none) : H l = Option.none := by
  cases q : H l with
  | none => rfl
  | some o =>
    rw [e l o q] at h
    cases h
theorem Same.seq {K : PySem.W.Frag} {H H' : Hp} {a : Addr} {xs : List V} (e : Same H H') (h : SqL K H a xs) : SqL K H' a xs := by
  rcases h with (h | ⟨o, h⟩) | h
  · exact .inl (.inl (e _ _ h))
  · exact .inl (.inr ⟨o, e _ _ h⟩)
  · exact .inr h

end L2

namespace L2
open PySem PySem.Spec PyProof.Rows
section
variable {X : Cx}
end
/-! ### a dict's pairs: keys that differ -/
section
variable {κ : Type} [DecidableEq κ]
end
end L2


set_option maxHeartbeats 4400000
/-! MORE RULES over the hand layer (own work): sum, isinstance, dict(d), d != e of equal tables, products of many bits, a comprehension of ints -/
namespace L2
open PySem PySem.Spec PyProof.Rows
section
variable {X : Cx}
/-! ### products -/
def CBits (i j : Int) : Prop := i.natAbs < 2 ^ 1000 ∧ j.natAbs < 2 ^ 1000
theorem bits_le {i : Int} (h : i.natAbs < 2 ^ 1000) : Builtin.Int.intBits i ≤ 2 ^ 20 := by
  unfold Builtin.Int.intBits
  split
  · exact Nat.zero_le _
  · rename_i hz
    have hz' : i.natAbs ≠ 0 := by
      intro z
      apply hz
      rw [beq_iff_eq]
      omega
    have h2 : i.natAbs.log2 < 1000 := (Nat.log2_lt hz').mpr h
    have e20 : (2 : Nat) ^ 20 = 1048576 := by decide
    omega
theorem op_mulB : OpR X (binaryOp .Mult) (rI CBits fun i j => .int (i * j)) := opI fun _ _ _ _ _ _ _ hc q => mul_int q (IntMulOk.of_bits (bits_le hc.1) (bits_le hc.2))
/-! ### sum -/
/-! ### isinstance, a built-in type -/
/-! ### dict(d) -/
/-! ### d != e, both of the same pairs -/
end
/-! ### a new object at an address that holds none -/
theorem ObjOk.there {P : Program} {w : World} {H : Hp} {h : Heap} {a : Addr} {o : HO} (x : ObjOk P w H h a o) : ∃ ob, h.get? a = some ob := by
  cases o with
  | lst xs => obtain ⟨_, _, _, _, e⟩ := x; exact ⟨_, e⟩
  | tup xs => obtain ⟨_, _, _, ob, e, _⟩ := x; exact ⟨ob, e⟩
  | dK kvs => obtain ⟨_, _, _, _, o, _, _, e, _⟩ := x; exact ⟨_, e⟩
  | dT kvs => obtain ⟨_, _, _, _, o, _, _, e, _⟩ := x; exact ⟨_, e⟩
  | set S n => obtain ⟨o, _, _, _, e, _⟩ := x; exact ⟨_, e⟩
  | ins C dx fs => obtain ⟨_, _, _, e, _⟩ := x; exact ⟨_, e⟩
  | own y => obtain ⟨_, e⟩ := x; exact ⟨_, e⟩
  | xd fs => obtain ⟨_, ⟨_, _, _, e, _⟩, _⟩ := x; exact ⟨_, e⟩
  | rng lo hi => obtain ⟨_, _, _, e⟩ := x; exact ⟨_, e⟩
  | frz ob u => obtain ⟨e, _⟩ := x; exact ⟨_, e⟩
  | tbl ps => exact ⟨_, (show h.get? a = some _ from x)⟩
  | met f y => exact ⟨_, (show h.get? a = some _ from x)⟩
  | ext φ => obtain ⟨_, ⟨_, e⟩, _⟩ := x; exact ⟨_, e⟩
/-! ### [elt for x in xs], xs a list of ints, elt an int and nothing made -/
theorem ite_t {c A B : Prop} [Decidable c] (hc : c) (h : A) : if decide c = true then A else B := by
  rw [if_pos (decide_eq_true hc)]; exact h
theorem ite_f {c A B : Prop} [Decidable c] (hc : ¬ c) (h : B) : if decide c = true then A else B := by
  rw [if_neg (by rw [decide_eq_false hc]; exact Bool.false_ne_true)]; exact h
theorem ite_d {c A B : Prop} [Decidable c] (h1 : c → A) (h2 : ¬ c → B) : if decide c = true then A else B := by
  by_cases h : c
  · exact ite_t h (h1 h)
  · exact ite_f h (h2 h)
theorem Same.new {H : Hp} {p : Addr} (h : H p = none) (o : HO) : Same H (upd H p o) := fun b u q => by rw [upd_ne (ne_of_none q h)]; exact q
end L2

/-! A COMPREHENSION over the hand layer (own work): [elt for target in iter if test], its element and test any code that raises nothing; the block is a context of its own -/
namespace L2
open PySem PySem.Spec PyProof.Rows
/-! ### its closure -/
def clOf (cells : List (Str × Addr)) : List (Str × NameKind) → List (Str × Addr) → List (Str × Addr)
  | [], acc => acc
  | (x, k) :: r, acc => if (k == .free) = true then clOf cells r ((x, (cells.lookup x).getD 0) :: acc) else clOf cells r acc
theorem clOf_lookup {cells : List (Str × Addr)} {x : Str} {c : Addr} : ∀ {names : List (Str × NameKind)} {acc : List (Str × Addr)}, (clOf cells names acc).lookup x = some c → acc.lookup x = some c ∨ ((cells.lookup x).getD 0 = c ∧ (x, NameKind.free) ∈ names)
  | [], acc, h => .inl h
  | (y, k) :: r, acc, h => by
    unfold clOf at h
    by_cases hk : (k == NameKind.free) = true
    · rw [if_pos hk] at h
      have ek : k = .free := by simpa using hk
      rcases clOf_lookup h with h | ⟨h, m⟩
      · rw [List.lookup_cons] at h
        cases hx : x == y with
        | true =>
          rw [hx] at h
          have e : x = y := by simpa using hx
          subst e
          exact .inr ⟨Option.some.inj h, by rw [ek]; exact List.mem_cons_self⟩
        | false =>
          rw [hx] at h
          exact .inl h
      · exact .inr ⟨h, List.mem_cons_of_mem _ m⟩
    · rw [if_neg hk] at h
      rcases clOf_lookup h with h | ⟨h, m⟩
      · exact .inl h
      · exact .inr ⟨h, List.mem_cons_of_mem _ m⟩
theorem clOf_has {cells : List (Str × Addr)} {x : Str} : ∀ {names : List (Str × NameKind)} {acc : List (Str × Addr)}, ((x, NameKind.free) ∈ names ∨ ∃ c, acc.lookup x = some c) → ∃ c, (clOf cells names acc).lookup x = some c
  | [], acc, h => by
    rcases h with h | h
    · cases h
    · exact h
  | (y, k) :: r, acc, h => by
    unfold clOf
    by_cases hk : (k == NameKind.free) = true
    · rw [if_pos hk]
      apply clOf_has
      by_cases hx : x = y
      · subst hx
        exact .inr ⟨(cells.lookup x).getD 0, by rw [List.lookup_cons, beq_self_eq_true]⟩
      · rcases h with h | ⟨c, h⟩
        · rcases List.mem_cons.mp h with e | h
          · cases e; exact absurd rfl hx
          · exact .inl h
        · refine .inr ⟨c, ?_⟩
          rw [List.lookup_cons]
          have : (x == y) = false := by simpa using hx
          rw [this]
          exact h
    · rw [if_neg hk]
      apply clOf_has
      rcases h with h | h
      · rcases List.mem_cons.mp h with e | h
        · cases e; exact absurd rfl hk
        · exact .inl h
      · exact .inr h
theorem closureFor_of {scope : Scope} {env : Env} (h : ∀ y ∈ scope.names, y.2 = .free → ∃ c, env.cells.lookup y.1 = some c) : closureFor scope env = pure (clOf env.cells scope.names []) := by
  have key : ∀ (names : List (Str × NameKind)) (cs : List (Str × Addr)), (∀ y ∈ names, y.2 = .free → ∃ c, env.cells.lookup y.1 = some c) →
      (forIn (m := Sem) names cs fun (x : Str × NameKind) (r : List (Str × Addr)) => (match x with
        | (name, kind) => if (kind == NameKind.free) = true then (do let a ← cellOf env name; pure (ForInStep.yield ((name, a) :: r))) else pure (ForInStep.yield r))) = pure (clOf env.cells names cs) := by
    intro names
    induction names with
    | nil => intro cs _; rfl
    | cons y r ih =>
      intro cs hy
      obtain ⟨x, k⟩ := y
      rw [List.forIn_cons]
      unfold clOf
      by_cases hk : (k == NameKind.free) = true
      · obtain ⟨c, hc⟩ := hy (x, k) List.mem_cons_self (by simpa using hk)
        have hc' : env.cells.lookup x = some c := hc
        have e1 : cellOf env x = pure c := by unfold cellOf; rw [hc']
        simp only [hk, if_true, e1, pure_bind, hc', Option.getD_some]
        exact ih _ fun z hz => hy z (List.mem_cons_of_mem _ hz)
      · simp only [if_neg hk, pure_bind]
        exact ih _ fun z hz => hy z (List.mem_cons_of_mem _ hz)
  have := key scope.names [] h
  simp only [closureFor]
  rw [this]
  rfl
theorem relabel_free {env : Env} : ∀ {names : List (Str × NameKind)} {x : Str}, names.lookup x = some .free →
    (names.map fun (n, k) => if (k == NameKind.free && env.scope.kind == .function && env.kindOf n == some .cell) then (n, NameKind.cell) else (n, k)).lookup x = some .cell ∨
    (names.map fun (n, k) => if (k == NameKind.free && env.scope.kind == .function && env.kindOf n == some .cell) then (n, NameKind.cell) else (n, k)).lookup x = some .free
  | [], _, h => by simp at h
  | (n, k) :: r, x, h => by
    have ih := @relabel_free env r x
    cases hx : x == n with
    | true =>
      rw [List.lookup_cons, hx] at h
      dsimp only at h
      cases h
      by_cases hc : (NameKind.free == NameKind.free && env.scope.kind == .function && env.kindOf n == some .cell) = true
      · left
        rw [List.map_cons]
        show List.lookup x ((if (NameKind.free == NameKind.free && env.scope.kind == .function && env.kindOf n == some .cell) = true then (n, NameKind.cell) else (n, NameKind.free)) :: _) = _
        rw [if_pos hc, List.lookup_cons, hx]
      · right
        rw [List.map_cons]
        show List.lookup x ((if (NameKind.free == NameKind.free && env.scope.kind == .function && env.kindOf n == some .cell) = true then (n, NameKind.cell) else (n, NameKind.free)) :: _) = _
        rw [if_neg hc, List.lookup_cons, hx]
    | false =>
      rw [List.lookup_cons, hx] at h
      dsimp only at h
      rw [List.map_cons]
      show List.lookup x ((if (k == NameKind.free && env.scope.kind == .function && env.kindOf n == some .cell) = true then (n, NameKind.cell) else (n, k)) :: _) = _ ∨
        List.lookup x ((if (k == NameKind.free && env.scope.kind == .function && env.kindOf n == some .cell) = true then (n, NameKind.cell) else (n, k)) :: _) = _
      by_cases hc :
        (k == NameKind.free && env.scope.kind == .function && env.kindOf n == some .cell) = true
      · rw [if_pos hc, List.lookup_cons, hx]; exact ih h
      · rw [if_neg hc, List.lookup_cons, hx]; exact ih h
theorem relabel_kind {env : Env} : ∀ {names : List (Str × NameKind)} {x : Str} {k : NameKind}, (names.map fun (n, k) => if (k == NameKind.free && env.scope.kind == .function && env.kindOf n == some .cell) then (n, NameKind.cell) else (n, k)).lookup x = some k →
    ∃ k', (x, k') ∈ names ∧ (k' = k ∨ k' = .free)
  | [], _, _, h => by simp at h
  | (n, k0) :: r, x, k, h => by
    have ih := @relabel_kind env r x k
    rw [List.map_cons] at h
    have h' : List.lookup x ((if (k0 == NameKind.free && env.scope.kind == .function && env.kindOf n == some .cell) = true then (n, NameKind.cell) else (n, k0)) :: (r.map fun (n, k) => if (k == NameKind.free && env.scope.kind == .function && env.kindOf n == some .cell) then (n, NameKind.cell) else (n, k))) = some k := h
    cases hx : x == n with
    | true =>
      have e : x = n := by simpa using hx
      subst e
      by_cases hc : (k0 == NameKind.free && env.scope.kind == .function && env.kindOf x == some .cell) = true
      · have ek : k0 = .free := by
          have := (Bool.and_eq_true_iff.mp (Bool.and_eq_true_iff.mp hc).1).1
          simpa using this
        exact ⟨k0, List.mem_cons_self, .inr ek⟩
      · rw [if_neg hc, List.lookup_cons, hx] at h'
        exact ⟨k0, List.mem_cons_self, .inl (Option.some.inj h')⟩
    | false =>
      have h2 : List.lookup x (r.map fun (n, k) => if (k == NameKind.free && env.scope.kind == .function && env.kindOf n == some .cell) then (n, NameKind.cell) else (n, k)) = some k := by
        by_cases hc : (k0 == NameKind.free && env.scope.kind == .function && env.kindOf n == some .cell) = true
        · rw [if_pos hc, List.lookup_cons, hx] at h'; exact h'
        · rw [if_neg hc, List.lookup_cons, hx] at h'; exact h'
      obtain ⟨k', m, e⟩ := ih h2
      exact ⟨k', List.mem_cons_of_mem _ m, e⟩
/-! ### the block's context -/
/-- what of the text a comprehension's scope must have: N its names, ix for each the outer slot (a free name) or none -/
structure CompScope (outer : Scope) (NX : List Str) (N : List Str) (ix : List (Option Nat)) (scope : Scope) : Prop where
  kind : scope.kind = .function
  nocell : ∀ y ∈ scope.names, y.2 ≠ .cell
  names : ∀ y ∈ scope.names, y.2 = .local → scope.names.lookup y.1 = some .local
  free : ∀ y ∈ scope.names, y.2 = .free → outer.names.lookup y.1 = some .cell ∨ outer.names.lookup y.1 = some .free
  len : ix.length = N.length
  frees : (N.zip ix).all (fun p => match p.2 with | none => true | some i => NX[i]? == some p.1 && scope.names.lookup p.1 == some .free) = true
def Cx.blk (X : Cx) (N : List Str) (scope : Scope) (C : Addr) (s₀ : Shared) (H₀ : Hp) (ex : List Addr) : Cx :=
  { X with N := N, env := compEnvC scope (clOf X.env.cells scope.names []) C X.env, s₀ := s₀, H₀ := H₀, outer := X.stack, stack := X.stack, ex := ex, fn := fun _ => false, pn := [], xe := fun _ _ => False }
def sgB (ix : List (Option Nat)) (σ : St) : St := ix.map fun o => match o with | none => none | some i => (σ[i]?).getD none
theorem cell_of_cl {X : Cx} {pins : List (Addr × Obj)} {σ : St} {H : Hp} {s : Shared} {outer : Scope} {NX N : List Str} {ix : List (Option Nat)} {scope : Scope} (I : Inv X pins σ H s) (S : CompScope X.env.scope NX N ix scope) {x : Str} {c : Addr}
    (h : (clOf X.env.cells scope.names []).lookup x = some c) : X.env.cells.lookup x = some c := by
  rcases clOf_lookup h with h | ⟨h, m⟩
  · cases h
  · have hk := S.free (x, .free) m rfl
    obtain ⟨c', e⟩ := I.ok.has x hk
    rw [e] at h
    rw [e]
    exact congrArg some h
theorem inv_blk {X : Cx} {pins : List (Addr × Obj)} {σ : St} {H : Hp} {s₃ : Shared} {NX N : List Str} {ix : List (Option Nat)} {scope : Scope} {fp : List Addr} {h₁ : Heap} {t : Nat} (I : Inv X pins σ H s₃) (S : CompScope X.env.scope X.N N ix scope)
    (hf : ∀ b ∈ fp, FpOk X pins H b) (hlt : ∀ b ∈ fp, b < s₃.heap.objs.size) (hns : ∃ m, h₁.Ns s₃.heap.objs.size m) (hk : ∀ b o, s₃.heap.get? b = some o → h₁.get? b = some o) :
    Inv (X.blk N scope s₃.heap.objs.size s₃ H fp) [] (sgB ix σ) H { s₃ with heap := h₁, toks := t } := by
  have nofr : ∀ b ∈ fp, b ∉ frs X.stack := fun b hb z => by
    rcases List.mem_cons.mp (I.stkSub b z) with e | e
    · exact (hf b hb).2.1 e
    · exact (hf b hb).2.2.1 e
  have clc : ∀ {x : Str} {c : Addr}, (clOf X.env.cells scope.names []).lookup x = some c → X.env.cells.lookup x = some c := fun h => cell_of_cl (outer := X.env.scope) I S h
  have ok : (X.blk N scope s₃.heap.objs.size s₃ H fp).Ok := by
    refine ⟨I.ok.mod, S.kind, I.ok.glob, I.ok.blt, Nat.le_refl _, fun x y c h1 h2 => I.ok.inj x y c (clc h1) (clc h2), fun x hx => ?_, fun x c z _ => absurd z (by show ¬ (false = true); decide), I.ok.hd, I.ok.frames, .inl rfl, fun b hb => ⟨Nat.ne_of_lt (hlt b hb), fun x c h => (hf b hb).2.2.2.2.1 x c (clc h)⟩,
      I.bs, Nat.le_trans I.ok.bsz I.sz, fun b o e hb => ?_, nofr, I.stack, I.stkFree⟩
    · have hm : (x, NameKind.free) ∈ scope.names := by
        rcases hx with hx | hx
        · obtain ⟨k', m, e⟩ := relabel_kind (env := X.env) (show (relabel scope X.env).names.lookup x = some .cell from hx)
          rcases e with e | e
          · exact absurd e (S.nocell _ m)
          · rw [e] at m; exact m
        · obtain ⟨k', m, e⟩ := relabel_kind (env := X.env) (show (relabel scope X.env).names.lookup x = some .free from hx)
          rcases e with e | e <;> (rw [e] at m; exact m)
      exact clOf_has (.inl hm)
    · have h0 := (I.ok.bs b o e).1
      rcases (hf b hb).2.2.2.1 with z | z
      · exact I.ok.noex b o e z
      · exact absurd (Nat.lt_of_lt_of_le (Heap.lt_size h0) z) (Nat.lt_irrefl _)
  obtain ⟨m, hn⟩ := hns
  refine ⟨ok, rfl, I.bare, Un.kept hk, ⟨m, hn, fun j x v e1 e2 e3 => ?_⟩, fun x c h => ?_, I.hok.fresh (Nat.le_refl _), fun x c h => I.freeC x c (clc h), fun p hp => absurd (show p ∈ ([] : List (Addr × Obj)) from hp) (by simp), I.hok.kept hk, ?_⟩
  · have e1' : N[j]? = some x := e1
    have e2' : (sgB ix σ)[j]? = some (some v) := e2
    unfold sgB at e2'
    rw [List.getElem?_map] at e2'
    cases eo : ix[j]? with
    | none => rw [eo] at e2'; cases e2'
    | some o =>
      rw [eo] at e2'
      cases o with
      | none => cases e2'
      | some i =>
        have e4 : (σ[i]?).getD none = some v := Option.some.inj e2'
        have hz : (N.zip ix)[j]? = some (x, some i) := by
          rw [List.getElem?_zip_eq_some]; exact ⟨e1', eo⟩
        have ha := List.all_eq_true.mp S.frees _ (List.mem_of_getElem? hz)
        have ha' : (X.N[i]? == some x && scope.names.lookup x == some .free) = true := ha
        obtain ⟨h1, h2⟩ := Bool.and_eq_true_iff.mp ha'
        have hX : X.N[i]? = some x := by simpa using h1
        have hfr : scope.names.lookup x = some .free := by simpa using h2
        have hσ : σ[i]? = some (some v) := by
          cases q : σ[i]? with
          | none => rw [q] at e4; cases e4
          | some w => rw [q] at e4; exact congrArg some e4
        have hm : (x, NameKind.free) ∈ scope.names := PySem.mem_of_lookup hfr
        have hv := S.free _ hm rfl
        obtain ⟨mX, _, hl⟩ := I.loc
        obtain ⟨u, r, l⟩ := hl i x v hX hσ (.inr hv)
        refine ⟨u, r, .inr ⟨relabel_free (env := X.env) hfr, ?_⟩⟩
        rcases l with ⟨k, _⟩ | ⟨_, c, ec, z⟩
        · have k' : X.env.scope.names.lookup x = some .local := k
          rcases hv with hv | hv <;> (rw [hv] at k'; cases k')
        · obtain ⟨c', ec'⟩ := clOf_has (cells := X.env.cells) (acc := []) (.inl hm)
          have : c' = c := Option.some.inj ((clc ec').symm.trans ec)
          subst this
          obtain ⟨o, ho, hd⟩ := z
          exact ⟨c', ec', o, hk _ _ ho, hd⟩
  · obtain ⟨v, o, ho, hd⟩ := I.cell x c (clc h)
    exact ⟨v, o, hk _ _ ho, hd⟩
  · show (sgB ix σ).length = N.length
    unfold sgB
    rw [List.length_map, S.len]
/-- behind the block -/
theorem inv_unblk {X : Cx} {pins : List (Addr × Obj)} {σ σ' : St} {H H' : Hp} {s₃ s' : Shared} {N : List Str} {scope : Scope} {fp : List Addr} {pins' : List (Addr × Obj)} {h' : Heap} (I : Inv X pins σ H s₃)
    (hf : ∀ b ∈ fp, FpOk X pins H b) (I' : Inv (X.blk N scope s₃.heap.objs.size s₃ H fp) pins' σ' H' s') (hs : Heap.SameBut s₃.heap.objs.size s'.heap h') : Inv X pins σ H' { s' with heap := h' } := by
  have ne : ∀ b o, s₃.heap.get? b = some o → b ≠ s₃.heap.objs.size := fun b o e => Nat.ne_of_lt (Heap.lt_size e)
  have u : Un (frs X.stack) fp H H' s₃.heap s'.heap := I'.base
  have u' : Un (frs X.stack) fp H H' s₃.heap h' := by
    refine ⟨fun b o e n hb hx => (hs.2 b (ne b o e)).trans (u.keep b o e n hb hx), fun b o e n hb hx => ?_, u.free, fun b o e hx => ?_, u.tups, u.frzs, u.tbls⟩
    · obtain ⟨sl, q⟩ := u.slot b o e n hb hx
      exact ⟨sl, (hs.2 b (ne b o e)).trans q⟩
    · obtain ⟨o', q⟩ := u.there b o e hx
      exact ⟨o', (hs.2 b (ne b o e)).trans q⟩
  have nC : H' s₃.heap.objs.size = none := I'.free
  have hok : HOk X.prog X.w H' h' := fun b o e => by
    refine (I'.hok b o e).stay (fun c v hc q => (hs.2 c ?_).trans q) (fun _ q => q) fun _ _ q => q
    rcases hc with z | z
    · rw [z]; intro w; rw [w] at e; rw [nC] at e; cases e
    · intro w; rw [w] at z; rw [nC] at z; cases z
  exact I.call' (s' := { s' with heap := h' }) (ch := fp) I'.os u' hok I'.bare fun b hb => ⟨(hf b hb).2.2.2.1, (hf b hb).2.1, (hf b hb).2.2.2.2.1, (hf b hb).2.2.2.2.2⟩
/-! ### the loop -/
/-- the tests of a clause -/
def PTs (X : Cx) (ifs : List Expr) (t : TT) : Prop :=
  ∀ (pins : List (Addr × Obj)) (s : Shared) (σ : St) (H : Hp) (Q : Bool → Hp → Prop), Inv X pins σ H s → t σ H Q →
    wpAny (model X.prog X.w) X.A (forIn ifs true fun c r => if r = true then do let ok ← isTrue c X.env (eval c X.env); pure (ForInStep.yield ok) else pure (ForInStep.yield r)) (TP X pins σ Q) X.xe s
def tTrue : TT := fun _ H Q => Q true H
theorem pts_nil {X : Cx} : PTs X [] tTrue := fun pins s σ H Q I h => wpAny_tests_nil ⟨H, I, h⟩
theorem compLoop_own {prog : Program} {w : World} {A : Around} {R : Result → Shared → Prop} {s : Shared} {elt target iter : Expr} {ifs : List Expr} {scope : Scope} {pos : Pos} {it acc : Value} {env : Env} (I : Nat → Shared → Prop)
    (turn : ∀ n s, I n s →
      wpAny (model prog w) A (pyNext it) (fun r s₁ => match r with
      | none => R (.ok .next) s₁
      | some v => wpAny (model prog w) A (letOwnedTupleGo target it v) (fun _ s₂ => wpAny (model prog w) A (assign target env v) (fun _ s₃ =>
          wpAny (model prog w) A (forIn ifs true fun c r => if r = true then do let ok ← isTrue c env (eval c env); pure (ForInStep.yield ok) else pure (ForInStep.yield r)) (fun ok s₄ =>
            if ok = true then wpAny (model prog w) A (eval elt env) (fun x s₅ =>
              wpAny (model prog w) A (call (.builtin "list.append") [acc, x]) (fun _ s₆ => ∃ m, m < n ∧ I m s₆) (fun _ _ => False) s₅) (fun _ _ => False) s₄
            else ∃ m, m < n ∧ I m s₄) (fun _ _ => False) s₃) (fun _ _ => False) s₂) (fun _ _ => False) s₁) (fun _ _ => False) s)
    (n : Nat) (h : I n s) : codeAny (model prog w) A (.compLoop (.ListComp elt [⟨target, iter, ifs, 0⟩] scope pos) 0 it acc env) R s := by
  refine codeAny_loop rfl I (fun n s hTurn => ?_) n h
  show wpAny _ A
    ((compTurn (.ListComp elt [⟨target, iter, ifs, 0⟩] scope pos) 0 it acc env).onRaise
      (fun x => do noteFrame x env; theTreesLotGoes x)) _ _ s
  refine wpAny_noted ?_
  rw [compTurn_list]
  have no : ∀ {E : Value → Shared → Prop} (x : Value) (s : Shared), False → E x s := fun _ _ f => f.elim
  refine wpAny_bind (wpAny_standAt (wpAny_bind (wpAny_mono (turn n s hTurn) (fun r s₁ h₁ => ?_) no)))
  cases r with
  | none => exact wpAny_pure h₁
  | some v =>
    refine wpAny_bind (wpAny_mono h₁ (fun _ s₂ h₂ => wpAny_bind (wpAny_mono h₂ (fun _ s₃ h₃ => wpAny_bind (wpAny_mono h₃ (fun ok s₄ h₄ => ?_) no)) no)) no)
    cases ok with
    | false => exact wpAny_pure ⟨rfl, h₄⟩
    | true => exact wpAny_bind (wpAny_bind (wpAny_mono h₄ (fun x s₅ h₅ => wpAny_bind (wpAny_mono h₅ (fun _ s₆ h₆ => wpAny_pure (wpAny_pure ⟨rfl, h₆⟩)) no)) no))
/-- W: the invariant by the turn, a measure and the items so far; D: the new list -/
def LcW (J : It) (D : Addr) (g : TG) (tt : TT) (te : TE) (Q : VK) (σ0 : St) (H0 : Hp) : Prop :=
  ∃ W : Nat → Nat → List V → St → Hp → Prop, (∃ m, W 0 m [] σ0 H0) ∧ ∀ i m ys σ' H', W i m ys σ' H' →
    ((J.stop i H' ∧ Q (.ref D) H') ∨ (J.go i H' ∧ ∃ N : List V → St → Hp → Prop, (∀ ys' σ2 H2, N ys' σ2 H2 → ∃ m', m' < m ∧ W (i + 1) m' ys' σ2 H2) ∧
      ∀ x H2, J.yld i H' x H2 → g x σ' H2 fun σ3 H3 => tt σ3 H3 fun b H4 => if b = true then te σ3 H4 fun y H5 => H5 D = some (.lst ys) ∧ ys.length < sizeLine ∧ N (ys ++ [y]) σ3 (upd H5 D (.lst (ys ++ [y]))) else N ys σ3 H4))
def tLc (ix : List (Option Nat)) (wi : TI) (g : TG) (tt : TT) (te : TE) : TE := fun σ H Q => wi σ H fun J H1 => ∀ D, H1 D = none → LcW J D g tt te Q (sgB ix σ) (upd H1 D (.lst []))
theorem lc_gen {X : Cx} {elt tg iter : Expr} {ifs : List Expr} {scope : Scope} {pos ipos : Pos} {N : List Str} {ix : List (Option Nat)} {wi : TI} {g : TG} {tt : TT} {te : TE} (hc : X.calm = true) (S : CompScope X.env.scope X.N N ix scope) (hi : PI X tg iter wi)
    (hg : ∀ C s₀ H₀ ex, PG (X.blk N scope C s₀ H₀ ex) tg g) (ht : ∀ C s₀ H₀ ex, PTs (X.blk N scope C s₀ H₀ ex) ifs tt) (he : ∀ C s₀ H₀ ex, PE (X.blk N scope C s₀ H₀ ex) elt te)
    (hs : ∀ x, foldedSetIterable iter X.env x = pure x) {pins : List (Addr × Obj)} {s : Shared} {σ : St} {H : Hp} {Q : VK} (I : Inv X pins σ H s) (h : tLc ix wi g tt te σ H Q) (use : Option (Value → Sem Unit)) (Qv : Value → Shared → Prop)
    (fin : ∀ {s₃ s6 : Shared} {H3 H6 : Hp} {σ6 : St} {fp : List Addr} {D : Addr}, Inv X pins σ H3 s₃ → (∀ b ∈ fp, FpOk X pins H3 b) → Inv (X.blk N scope s₃.heap.objs.size s₃ H3 fp) [] σ6 H6 s6 → Q (.ref D) H6 →
      compPost (model X.prog X.w) X.A X.xe use Qv (.ref D) s₃.heap.objs.size (.ok .next) s6) :
    wpAny (model X.prog X.w) X.A (comprehension (.ListComp elt [⟨tg, iter, ifs, 0⟩] scope pos) scope X.env ipos (newList []) false (eval iter X.env) use) Qv X.xe s := by
  refine wpAny_comprehension_free (use := use) rfl hs (closureFor_of fun y hy e => I.ok.has y.1 (S.free y hy e)) S.kind S.names (thn (hi pins s σ H _ I h) fun xv s₁ h₁ => thn h₁ fun itv s₂ h₂ => ?_)
  obtain ⟨it, fp, tn, J, H2, e, I2, T, st2, f2, lc⟩ := h₂
  subst e
  obtain ⟨W, ⟨m0, w0⟩, turn⟩ := lc s₂.heap.objs.size (I2.hok.fresh (Nat.le_refl _))
  refine wpAny_newObj_type (wpAny_newFunctionEnv S.nocell (by intro y hy; simp at hy) (fun h₁ hns₁ hsb₁ => ?_) S.kind)
  have I3 : Inv X pins σ (upd H2 s₂.heap.objs.size (.lst [])) { s₂ with heap := s₂.heap.push { cls := .type "list", dict := none, data := .seq ([] : List Value).toArray } } :=
    I2.laid (t' := s₂.toks) (fun b u e => Heap.get?_push_of_some _ e) (Nat.le_refl _) (show ObjOk X.prog X.w _ _ _ (.lst []) from ⟨Nat.zero_le _, [], 0, .nil, Heap.get?_push_size _ rfl⟩)
  generalize hs3 : ({ s₂ with heap := s₂.heap.push { cls := .type "list", dict := none, data := .seq ([] : List Value).toArray } } : Shared) = s₃ at I3 hns₁ hsb₁ ⊢
  have old : ∀ b o, s₃.heap.get? b = some o → h₁.get? b = some o := fun b o e => (hsb₁.2 b (Nat.ne_of_lt (Heap.lt_size e))).trans (Heap.get?_push_of_some _ e)
  have old2 : ∀ b o, s₂.heap.get? b = some o → s₃.heap.get? b = some o := fun b o e => by rw [← hs3]; exact Heap.get?_push_of_some _ e
  have sz : s₃.heap.objs.size = s₂.heap.objs.size + 1 := by rw [← hs3]; exact Heap.size_push ..
  have hlt2 : ∀ b ∈ fp, b < s₂.heap.objs.size := fun b hb => by
    obtain ⟨o, e, _⟩ := T.obj 0 _ st2 b hb
    exact Heap.lt_size e
  have hlt : ∀ b ∈ fp, b < s₃.heap.objs.size := fun b hb => by rw [sz]; exact Nat.lt_succ_of_lt (hlt2 b hb)
  have f3 : ∀ b ∈ fp, FpOk X pins (upd H2 s₂.heap.objs.size (.lst [])) b := fun b hb => ⟨by rw [upd_ne (Nat.ne_of_lt (hlt2 b hb))]; exact (f2 b hb).1, (f2 b hb).2⟩
  have I4 : Inv (X.blk N scope s₃.heap.objs.size s₃ (upd H2 s₂.heap.objs.size (.lst [])) fp) [] (sgB ix σ) (upd H2 s₂.heap.objs.size (.lst [])) { s₃ with heap := h₁, toks := s₃.toks + ([] : List (Str × Value)).length } :=
    inv_blk (NX := X.N) I3 S f3 hlt ⟨_, hns₁⟩ old
  have st4 : tn 0 h₁ := T.keep _ _ _ st2 fun b hb o e => old b o (old2 b o e)
  have fixed : ∀ b ∈ fp, b ≠ s₃.heap.objs.size ∧ b ∉ frs X.stack ∧ ∀ x c, (clOf X.env.cells scope.names []).lookup x = some c → c ≠ b := fun b hb =>
    ⟨Nat.ne_of_lt (hlt b hb), I4.ok.exfs b hb, fun x c h => (I4.ok.exf b hb).2 x c h⟩
  have stat : ∀ {H' : Hp}, (∀ b ∈ fp, H' b = none) → ∀ b ∈ fp, FpOk (X.blk N scope s₃.heap.objs.size s₃ (upd H2 s₂.heap.objs.size (.lst [])) fp) [] H' b := fun hn b hb =>
    ⟨hn b hb, (fixed b hb).1, (fixed b hb).2.1, .inl hb, (fixed b hb).2.2, fun p hp => absurd (show p ∈ ([] : List (Addr × Obj)) from hp) (by simp)⟩
  have loop : codeAny (model X.prog X.w) X.A (.compLoop (.ListComp elt [⟨tg, iter, ifs, 0⟩] scope pos) 0 (.ref it) (.ref s₂.heap.objs.size) (compEnvC scope (clOf X.env.cells scope.names []) s₃.heap.objs.size X.env))
      (compPost (model X.prog X.w) X.A X.xe use Qv (.ref s₂.heap.objs.size) s₃.heap.objs.size) { s₃ with heap := h₁, toks := s₃.toks + ([] : List (Str × Value)).length } := by
    refine compLoop_own (fun n s' => ∃ i ys σ' H', Inv (X.blk N scope s₃.heap.objs.size s₃ (upd H2 s₂.heap.objs.size (.lst [])) fp) [] σ' H' s' ∧ tn i s'.heap ∧ (∀ b ∈ fp, H' b = none) ∧ W i n ys σ' H') ?_ m0 ⟨0, [], sgB ix σ, _, I4, st4, fun b hb => (f3 b hb).1, w0⟩
    rintro n s5 ⟨i, ys, σ5, H5, I5, st5, fr5, w5⟩
    rcases turn i n ys σ5 H5 w5 with ⟨stop, qn⟩ | ⟨go, Nn, hN, step⟩
    · refine thn (T.done (X.blk N scope s₃.heap.objs.size s₃ (upd H2 s₂.heap.objs.size (.lst [])) fp) rfl rfl rfl hc i [] s5 σ5 H5 _ I5 (stat fr5) st5 stop) fun r s6 hh => ?_
      obtain ⟨hr, I6⟩ := hh
      subst hr
      exact fin I3 f3 I6 qn
    · refine thn (T.item (X.blk N scope s₃.heap.objs.size s₃ (upd H2 s₂.heap.objs.size (.lst [])) fp) rfl rfl rfl hc i [] s5 σ5 H5 _ I5 (stat fr5) st5 go) fun r s6 hh => ?_
      obtain ⟨u, hr, h6⟩ := hh
      subst hr
      refine thn h6 fun _ s7 hh => ?_
      obtain ⟨x, H7, I7, r7, y7, st7, fr7⟩ := hh
      have I7' := I7.pinned (stat fr7) (T.obj _ _ st7)
      have again : ∀ {ys' : List V} {σ8 : St} {H8 : Hp} {s8 : Shared}, Inv (X.blk N scope s₃.heap.objs.size s₃ (upd H2 s₂.heap.objs.size (.lst [])) fp) ([] ++ pinsAt fp s7.heap) σ8 H8 s8 → Nn ys' σ8 H8 →
          ∃ m, m < n ∧ ∃ i ys σ' H', Inv (X.blk N scope s₃.heap.objs.size s₃ (upd H2 s₂.heap.objs.size (.lst [])) fp) [] σ' H' s8 ∧ tn i s8.heap ∧ (∀ b ∈ fp, H' b = none) ∧ W i m ys σ' H' := fun {ys' σ8 H8 s8} I8 n8 => by
        obtain ⟨m', hm, w8⟩ := hN ys' σ8 H8 n8
        refine ⟨m', hm, i + 1, ys', σ8, H8, I8.unpinned, T.keep _ _ _ st7 fun b hb o e => (I8.pin (b, o) (List.mem_append_right _ (List.mem_append_right _ (mem_pinsAt hb e)))).1, fun b hb => ?_, w8⟩
        obtain ⟨o, e, d⟩ := T.obj _ _ st7 b hb
        exact (I8.pin (b, o) (List.mem_append_right _ (List.mem_append_right _ (mem_pinsAt hb e)))).2.1
      refine thn (hg _ _ _ _ _ s7 σ5 H7 x u _ I7' r7 (step x H7 y7)) fun _ s8 hh => ?_
      obtain ⟨σ8, H8, I8, q8⟩ := hh
      refine thn (ht _ _ _ _ _ s8 σ8 H8 _ I8 q8) fun b s9 hh => ?_
      obtain ⟨H9, I9, q9⟩ := hh
      cases b with
      | false => exact again I9 q9
      | true =>
        refine thn (he _ _ _ _ _ s9 σ8 H9 _ I9 q9) fun v s10 hh => ?_
        obtain ⟨y, H10, I10, r10, hD, hz, n10⟩ := hh
        refine thn (mt_append _ s10 σ8 H10 (.ref s₂.heap.objs.size) [y] (.ref s₂.heap.objs.size) [v] (fun _ H11 => Nn (ys ++ [y]) σ8 H11) I10 rfl (.cons r10 .nil) ⟨_, ys, y, rfl, rfl, hD, hz, n10⟩) fun _ s11 hh => ?_
        obtain ⟨_, H11, I11, _, n11⟩ := hh
        exact again I11 n11
  refine codeAny_compStart_list loop ?_
  exact T.self X.A 0 _ _ _ st4 loop
/-- [elt for target in iter if test] as a value; osc, NX: the scope and the names of the def around it -/
theorem pe_lc {X : Cx} (osc : Scope) (NX : List Str) {elt tg iter : Expr} {ifs : List Expr} {scope : Scope} {pos : Pos} {N : List Str} {ix : List (Option Nat)} {wi : TI} {g : TG} {tt : TT} {te : TE} (hc : X.calm = true) (S : CompScope osc NX N ix scope) (hi : PI X tg iter wi)
    (hg : ∀ C s₀ H₀ ex, PG (X.blk N scope C s₀ H₀ ex) tg g) (ht : ∀ C s₀ H₀ ex, PTs (X.blk N scope C s₀ H₀ ex) ifs tt) (he : ∀ C s₀ H₀ ex, PE (X.blk N scope C s₀ H₀ ex) elt te)
    (ho : X.env.scope = osc := by rfl) (hN : X.N = NX := by rfl) (hs : ∀ x, foldedSetIterable iter X.env x = pure x := by intro _; rfl) : PE X (.ListComp elt [⟨tg, iter, ifs, 0⟩] scope pos) (tLc ix wi g tt te) := by
  intro pins s σ H Q I h
  subst ho hN
  rw [eval_ListComp]
  refine lc_gen hc S hi hg ht he hs I h none (EP X pins σ Q) fun {s₃ s6 H3 H6 σ6 fp D} I3 f3 I6 qn => ?_
  obtain ⟨m, hn, _⟩ := I6.loc
  exact ⟨m, hn, fun h' hs' => ⟨.ref D, H6, inv_unblk I3 f3 I6 hs', rfl, qn⟩⟩
/-! ### the forms one uses -/
section
variable {K : PySem.W.Frag} {a D : Addr} {xs : List V} {g : TG} {tt : TT} {te : TE} {σ0 : St} {H0 : Hp} {Q : VK}
end
end L2

/-! STILL MORE RULES over the hand layer (own work): // by any short divisor, t + u, == and != with [], slices and find of texts, count and index of lists, a def by its name -/
namespace L2
open PySem PySem.Spec PyProof.Rows
section
variable {X : Cx}
/-! ### t + u, any of them empty -/
/-! ### xs == [], xs != [] -/
def rEqN (K : PySem.W.Frag) (neg : Bool) : R2 := fun x y H Q => ∃ a b xs, x = .ref a ∧ y = .ref b ∧ SqL K H a xs ∧ SqL K H b [] ∧ Q (.bl (if neg then !xs.isEmpty else xs.isEmpty)) H
theorem op_neN (hu : X.A.units < cLine) : OpR X (compareOp .NotEq) (rEqN X.K true) := by
  intro pins s σ H x y v u Q I rx ry h
  obtain ⟨a, b, xs, rfl, rfl, ha, hb, q⟩ := h
  cases rx
  cases ry
  obtain ⟨its, r1, p1, _⟩ := I.list ha
  obtain ⟨its2, r2, p2, _⟩ := I.list hb
  have e2 : its2 = [] := (Vals.nil_iff r2).mpr rfl
  subst e2
  cases xs with
  | nil =>
    have e1 : its = [] := (Vals.nil_iff r1).mpr rfl
    subst e1
    exact SeqAt.RcNeAt.lists (e := fun _ => true) p1.isList p2.isList rfl hu (fun j h1 _ => absurd h1 (by simp)) _ _ _ _ ⟨.bl false, H, I, rfl, q⟩
  | cons x r =>
    have hl := r1.length
    exact SeqAt.RcNeAt.lists_lengths p1.isList p2.isList (by rw [List.size_toArray, List.size_toArray, ← hl]; simp) hu _ _ _ _ ⟨.bl true, H, I, rfl, q⟩
/-! ### texts -/
def rSlS : V → Option Int → Option Int → Hp → VK → Prop := fun x lo hi H Q => ∃ z, x = .str z ∧ z.length ≤ sizeLine ∧ Q (.str (Txt.slice z lo hi)) H
theorem sl_str : SlR X rSlS := by
  intro pins s σ H x v vl vu lo hi sl Q I rx hs pl pu h
  obtain ⟨z, rfl, hz, q⟩ := h
  obtain ⟨t, rfl⟩ := rx
  refine ⟨"str", _, PySem.F.slot_str_getitem.lookup, typeIs_str _ _ _, ?_⟩
  obtain ⟨o, ho, hc, hd⟩ := hs
  have fin : ∀ (l u : Option (Int × Tok)), l.map (·.1) = lo → u.map (·.1) = hi → partValue l = vl → partValue u = vu → wpAny (model X.prog X.w) X.A (getItem (.str z t) (.ref sl)) (EP X pins σ Q) X.xe s := fun l u e1 e2 e3 e4 => by
    refine wpAny_getItem_str_slice (l := l) (u := u) (st := none) ⟨o, ho, hc, by rw [e3, e4]; exact hd⟩ rfl ?_
    subst e1 e2
    exact post_val_or_str ⟨Nat.le_trans (Txt.slice_le z _ _) hz, fun t' k => ⟨.str _, H, I.tok k, ⟨t', rfl⟩, q⟩⟩
  cases pl with
  | none =>
    cases pu with
    | none => exact fin none none rfl rfl rfl rfl
    | int j u => exact fin none (some (j, u)) rfl rfl rfl rfl
  | int i ti =>
    cases pu with
    | none => exact fin (some (i, ti)) none rfl rfl rfl rfl
    | int j u => exact fin (some (i, ti)) (some (j, u)) rfl rfl rfl rfl
/-! ### count, index -/
theorem strsAre_of {ys : List Str} : ∀ {us : List Value}, Vals (ys.map V.str) us → StrsAre us ys := by
  induction ys with
  | nil => intro us r; cases r; exact .nil
  | cons y r ih =>
    intro us h
    cases h with
    | cons a b => obtain ⟨t, rfl⟩ := a; exact .cons _ _ (ih b)
end
/-! ### in a block: the text's part by its name (the readings may not speak of the block) -/
/-! ### a def by its name -/
/-- the def x of the text keeps sp, with room k -/
def Cal (P : Program) (w : World) (K : PySem.W.Frag) (mg : Str → Option Value) (base : Heap) (k : Nat) (x : Str) (ps : List Str) (sp : Sp) : Prop :=
  ∃ (f : Addr) (fd : FuncData), FnOk P w K mg base CX0 k f fd ps sp ∧ Binds K fd ps [] ∧ PySem.W.keepIn K (.ref f) = true ∧ mg x = some (.ref f)
theorem Cal.mono {P : Program} {w : World} {K : PySem.W.Frag} {mg : Str → Option Value} {base : Heap} {j k : Nat} {x : Str} {ps : List Str} {sp : Sp} (c : Cal P w K mg base j x ps sp) (h : j ≤ k) : Cal P w K mg base k x ps sp := by
  obtain ⟨f, fd, F, b, kp, m⟩ := c
  exact ⟨f, fd, F.mono h, b, kp, m⟩
theorem pe_cal {X : Cx} {k : Nat} {x : Str} {ps : List Str} {sp : Sp} {p pos : Pos} {e : Expr} {es : List Expr} {t : TA} (c : Cal X.prog X.w X.K X.mg X.base k x ps sp) (hr : Room k X.A) (hg : Gl X x) (ha : PA X (e :: es) t)
    (hdb : (x == ("__debug__" : Str)) = false := by decide) (he : starEach (e :: es) X.env = (false, eval e X.env) :: starEach es X.env := by rfl) (hpl : (backTo pos (starEach es X.env)).any (·.1) = false := by rfl) :
    PE X (.Call (.Name x p) (e :: es) [] pos) (tCall sp [] E0 t) := by
  obtain ⟨f, fd, F, b, kp, m⟩ := c
  exact pe_call F hr hg m kp b .nil pass0 ha hdb he hpl
/-- the def x as it stands behind the top: its statement st, its parameters -/
def Has (K : PySem.W.Frag) (mg : Str → Option Value) (x : Str) (st : Stmt) (ps : List Str) : Prop := ∃ (f : Addr) (fd : FuncData), Fun K x x st f fd ∧ Binds K fd ps [] ∧ mg x = some (.ref f)
theorem Has.cal {P : Program} {w : World} {K : PySem.W.Frag} {mg : Str → Option Value} {base : Heap} {x : Str} {st : Stmt} {N ps : List Str} {k : Nat} {sp : Sp} (h : Has K mg x st ps) (S : FnScope N ps (defScope st)) (len : ∀ vs H Q E, sp vs H Q E → vs.length = ps.length)
    (hbody : ∀ (f : Addr) (cdv : Value) (A : Around) (outer : List Env) (s : Shared) (H : Hp) (vs : List V) (Q : VK) (E : XK), Room k (A.deeper (envOfC x (defScope st) s.heap.objs.size f cdv)) → sp vs H Q E →
      ∃ t, PSs (cxOf CX0 P w K mg base N x (defScope st) f cdv A outer s H E).nox (defBody st) t ∧ t { nx := fun _ H' => Q .non H', rt := Q } (start N vs) H) : Cal P w K mg base (k + 1) x ps sp := by
  obtain ⟨f, fd, F, b, m⟩ := h
  exact ⟨f, fd, F.ok S len fun cdv A outer s H vs Q E hr h => hbody f cdv A outer s H vs Q E hr h, b, F.kp, m⟩
/-- nothing can be asked -/
theorem Has.none {P : Program} {w : World} {K : PySem.W.Frag} {mg : Str → Option Value} {base : Heap} {x : Str} {st : Stmt} {ps : List Str} {k : Nat} {sp : Sp} (h : Has K mg x st ps) (no : ∀ vs H Q E, ¬ sp vs H Q E) : Cal P w K mg base k x ps sp := by
  obtain ⟨f, fd, F, b, m⟩ := h
  exact ⟨f, fd, ⟨fun vs H Q E h => absurd h (no vs H Q E), fun A outer s H args us vs Q E _ _ _ _ h => absurd h (no vs H Q E)⟩, b, F.kp, m⟩
theorem Has.mk {K : PySem.W.Frag} {h : Heap} {mg : Str → Option Value} {x : Str} {st : Stmt} {ps : List Str} {f : Addr} {oc : Value} {od an : Option Addr} {osl : Array (Option Value)} {kV doc pm cdv ct : Value} (X : K.In h) (G : h.Ns mainGlobals mg)
    (a : PySem.W.nsIn K mainGlobals x = some (some (.ref f))) (l : K.lookup f = some ⟨oc, od, .func (PySem.W.fnOf x x (defArgs st) (defBody st) (defScope st) .none kV doc pm an cdv ct), osl⟩) (c : PySem.W.codeIn K cdv x = true) (k : PySem.W.keepIn K (.ref f) = true)
    (hb : ∀ (kV doc pm : Value) (an : Option Addr) (cdv ct : Value) (us : List Value), us.length = ps.length → bindArgs (PySem.W.fnOf x x (defArgs st) (defBody st) (defScope st) .none kV doc pm an cdv ct) ⟨us, []⟩ = pure (ps.zip us)) : Has K mg x st ps :=
  ⟨f, _, fun_mk (st := st) l c k, (fun_mk (st := st) l c k).binds hb, PySem.W.mg_of X G a⟩
end L2

/-! COMMON THINGS of the laws about sayings (own work): what stays, divisors, kinds, cuts, items -/
namespace L2
open PySem PySem.Spec PyProof.Rows
/-- all that was tracked but r is as it was -/
def But (r : Addr) (H H' : Hp) : Prop := ∀ b o, b ≠ r → H b = some o → H' b = some o
theorem But.trans {r : Addr} {H H1 H2 : Hp} (a : But r H H1) (b : But r H1 H2) : But r H H2 := fun c o n h => b c o n (a c o n h)
theorem But.of {r : Addr} {H H' : Hp} (a : Same H H') : But r H H' := fun c o _ h => a c o h
theorem But.upd {r : Addr} {H : Hp} (o : HO) : But r H (upd H r o) := fun c u n h => by rw [upd_ne n]; exact h
theorem But.refl (r : Addr) (H : Hp) : But r H H := fun _ _ _ h => h
theorem But.new {r p : Addr} {H : Hp} (h : H p = none) (o : HO) : But r H (L2.upd H p o) := .of (Same.new h o)
theorem But.same {r : Addr} {H H' : Hp} (b : But r H H') (h : H r = none) : Same H H' := fun c o e => b c o (fun z => by rw [z, h] at e; cases e) e
theorem cm {a b : Int} (h : 0 ≤ a) (h2 : a < 10000000000) : CMul a b := .inl ⟨by omega, by omega⟩
theorem cmr {a b : Int} (h : 0 ≤ b) (h2 : b < 10000000000) : CMul a b := .inr ⟨by omega, by omega⟩
theorem p1018 : CPow 10 18 := ⟨by decide, by decide, by decide⟩
theorem small {n : Nat} (h : n ≤ 1000) : n ≤ sizeLine := Nat.le_of_lt (small1000 h)
theorem sz {n : Nat} (h : n ≤ 8388608) : n < sizeLine := Nat.lt_of_le_of_lt h (by decide)
theorem seq_cut {t R : TS} {D : Ends} {σ : St} {H : Hp} (J : St → Hp → Prop) (h : ∀ R' : St → Hp → Prop, (∀ σ' H', J σ' H' → R' σ' H') → t { D with nx := R' } σ H) (hR : ∀ σ' H', J σ' H' → R D σ' H') : tSeq t R D σ H := h (R D) hR
theorem gset {i : Nat} {v : V} {σ : St} {H : Hp} {t R : TS} {D : Ends} {rt : VK} {bk ct : St → Hp → Prop} (h : tSeq t R D (σ.set i (some v)) H) : gName i v σ H (Ends.nx ⟨tSeq t R D, rt, bk, ct⟩) := h
theorem But.none {r p : Addr} {H H' : Hp} (b : But r H H') (hr : p ≠ r) (h : H' p = none) : H p = none := by
  cases e : H p with
  | none => rfl
  | some o => rw [b p o hr e] at h; cases h
/-- a thing of its own was put -/
theorem But.put {r p : Addr} {H H' : Hp} {o : HO} (b : But r H H') (h : H p = .none) : But r H (L2.upd H' p o) := fun c u n e => by
  rw [upd_ne (ne_of_none e h)]
  exact b c u n e
/-- lists alike, item by item -/
def All2 {α β : Type} (R : α → β → Prop) (xs : List α) (ys : List β) : Prop := xs.length = ys.length ∧ ∀ (i : Nat) x y, xs[i]? = some x → ys[i]? = some y → R x y
theorem All2.nil {α β : Type} {R : α → β → Prop} : All2 R [] [] := ⟨rfl, fun i x y h => by simp at h⟩
theorem All2.mono {α β : Type} {R S : α → β → Prop} {xs : List α} {ys : List β} (h : All2 R xs ys) (f : ∀ x y, R x y → S x y) : All2 S xs ys := ⟨h.1, fun i x y a b => f x y (h.2 i x y a b)⟩
theorem All2.snoc {α β : Type} {R : α → β → Prop} {xs : List α} {ys : List β} {x : α} {y : β} (h : All2 R xs ys) (r : R x y) : All2 R (xs ++ [x]) (ys ++ [y]) := by
  have hl := h.1
  refine ⟨by simp [hl], fun i a b ha hb => ?_⟩
  by_cases hi : i < xs.length
  · rw [List.getElem?_append_left hi] at ha
    rw [List.getElem?_append_left (by omega)] at hb
    exact h.2 i a b ha hb
  · rw [List.getElem?_append_right (by omega)] at ha
    rw [List.getElem?_append_right (by omega)] at hb
    have hl2 := (List.getElem?_eq_some_iff.mp ha).1
    have e : i - xs.length = 0 := by simp at hl2; omega
    rw [e] at ha
    rw [show i - ys.length = 0 by omega] at hb
    cases ha
    cases hb
    exact r
theorem All2.get {α β : Type} {R : α → β → Prop} {xs : List α} {ys : List β} (h : All2 R xs ys) {i : Nat} (hi : i < ys.length) : ∃ x y, xs[i]? = some x ∧ ys[i]? = some y ∧ R x y := by
  have hx : i < xs.length := by rw [h.1]; exact hi
  exact ⟨xs[i], ys[i], List.getElem?_eq_getElem hx, List.getElem?_eq_getElem hi, h.2 i _ _ (List.getElem?_eq_getElem hx) (List.getElem?_eq_getElem hi)⟩
theorem All2.at {α β : Type} {R : α → β → Prop} {xs : List α} {ys : List β} (h : All2 R xs ys) {i : Nat} {x : α} (e : xs[i]? = some x) : ∃ y, ys[i]? = some y ∧ R x y := by
  have hi : i < ys.length := by rw [← h.1]; exact (List.getElem?_eq_some_iff.mp e).1
  exact ⟨ys[i], List.getElem?_eq_getElem hi, h.2 i x _ e (List.getElem?_eq_getElem hi)⟩
/-- a global tuple -/
def GT (K : PySem.W.Frag) (mg : Str → Option Value) (x : Str) (xs : List V) : Prop := ∃ a, mg x = some (.ref a) ∧ ∀ H : Hp, SqT K H a xs
def GI (mg : Str → Option Value) (x : Str) (n : Int) : Prop := ∃ t, mg x = some (.int n t)
end L2

/-! MORE RULES over the hand layer (own work): xs.insert(k, y), xs[::-1], all(bools), for k, x in enumerate(xs) -/
namespace L2
open PySem PySem.Spec PyProof.Rows
section
variable {X : Cx}
/-! ### insert -/
/-! ### xs[::-1] -/
/-! ### all(bools) -/
theorem vals_bl {bs : List Bool} {its : List Value} (r : Vals (bs.map V.bl) its) {i : Nat} {v : Value} (h : its[i]? = some v) : ∃ b, bs[i]? = some b ∧ v = .bool b := by
  have hi : i < (bs.map V.bl).length := by rw [r.length]; exact (List.getElem?_eq_some_iff.mp h).1
  obtain ⟨u, hu, ru⟩ := r.get (i := i) (x := (bs.map V.bl)[i]) (List.getElem?_eq_getElem hi)
  rw [h] at hu
  cases hu
  have hb : i < bs.length := by rw [List.length_map] at hi; exact hi
  refine ⟨bs[i], List.getElem?_eq_getElem hb, ?_⟩
  rw [List.getElem_map] at ru
  exact ru
theorem all_range (bs : List Bool) : (List.range bs.length).all (fun i => bs.getD i true) = bs.all id := by
  induction bs with
  | nil => rfl
  | cons b r ih =>
    rw [List.length_cons, List.range_succ_eq_map, List.all_cons, List.all_cons, List.all_map]
    show (b && (List.range r.length).all fun i => (b :: r).getD (i + 1) true) = (b && r.all id)
    rw [← ih]
    rfl
theorem call_all (hc : X.calm = true) : CallR X (.builtin "all") (fun xs H Q => ∃ (p : Addr) (bs : List Bool), xs = [.ref p] ∧ SqL X.K H p (bs.map V.bl) ∧ Q (.bl (bs.all id)) H) := by
  intro pins s σ H xs us Q I r h
  obtain ⟨p, bs, rfl, hq, q⟩ := h
  obtain ⟨u, rfl, rx⟩ := vals1 r
  cases rx
  obtain ⟨its, r', pl, hz⟩ := I.list hq
  have hl := r'.length
  rw [List.length_map] at hl
  have hlt : p < s.heap.objs.size := by obtain ⟨o, n, e, _⟩ := pl; exact Heap.lt_size e
  have W := Walks.list (prog := X.prog) (w := X.w) (A := X.A.in1) (I.ok.hd hc) s.heap.objs.size p (Nat.ne_of_lt hlt) its.toArray
  refine call_all_walk (wpAny_pyIter_list pl.isList ?_)
  refine ⟨s.heap.objs.size, [s.heap.objs.size, p], [s.heap.objs.size], its.toArray.size, _, _, fun i => bs.getD i true, rfl, W, ?_, ?_, ?_⟩
  · exact ⟨⟨_, Heap.get?_push_size _ rfl, rfl, rfl⟩, pl.isList.push _⟩
  · intro i v s' Q' E' hP hQ
    have hv : its[i]? = some v := by simpa using hP
    obtain ⟨b, hb, rfl⟩ := vals_bl r' hv
    refine wpAny_truthy_bool ?_
    have hQ' : Q' (bs.getD i true) s' := hQ
    rw [List.getD_eq_getElem?_getD, hb] at hQ'
    exact hQ'
  · intro h' tk hk
    rw [List.size_toArray, ← hl, all_range]
    refine ⟨.bl _, H, I.kept (t' := tk) fun b o e => hk b o (fun z => ?_) (Heap.get?_push_of_some _ e), rfl, q⟩
    rw [List.mem_singleton.mp z] at e
    exact Nat.lt_irrefl _ (Heap.lt_size e)
end
/-! ### for k, x in enumerate(xs) -/
end L2

/-! MORE RULES over the hand layer (own work): the signs of a text, one after another; join; a dict of the module, keyed by texts -/
namespace L2
open PySem PySem.Spec PyProof.Rows
/-! ### for c in text -/
def Ish (z : Str) : It := ⟨fun i _ => i < z.cps.size, fun i H x H' => H' = H ∧ ∃ c, z.cps[i]? = some c ∧ x = .str ⟨#[c]⟩, fun i _ => z.cps.size ≤ i⟩
theorem turn_str {P : Program} {w : World} {K : PySem.W.Frag} {tg : Expr} (it : Addr) (ty : String) (z : Str) (t : Tok) (hty : ty = "str_ascii_iterator" ∨ ty = "str_iterator") : Turn P w K tg (Ish z) [it] it (fun i h => h.IsStrIter it ty z t i) where
  mem := by simp
  obj := fun i h st b hb => by
    have e : b = it := by simpa using hb
    subst e
    obtain ⟨o, e, c, d⟩ := st
    exact ⟨o, e, fun v z => by rw [d] at z; cases z⟩
  keep := fun i h h' st k => by
    obtain ⟨o, ho, r⟩ := st
    exact ⟨o, k it (by simp) o ho, r⟩
  item := by
    intro X hP hw hK hc i pins s σ H E I hf st hg
    subst hP hw hK
    obtain ⟨f0, f1, f2, f3, f4, f5⟩ := hf it (by simp)
    have W : Walks X.prog X.w X.A it [it] [it] z.cps.size (SignAt z) (fun i h => h.IsStrIter it ty z t i) := by
      rcases hty with rfl | rfl
      · exact Walks.strAscii (I.ok.hd hc) it z t
      · exact Walks.strWide (I.ok.hd hc) it z t
    refine W.item i s _ _ hg st fun v h' tk hv st' kk => ?_
    obtain ⟨c, u, hc', rfl⟩ := hv
    have I1 : Inv X pins σ H { s with heap := h', toks := tk } := I.turned (fun b o hb e => kk b o (by simpa using hb) e) f0 f1 f3 f4 f5
    obtain ⟨o, e, c1, d1⟩ := id st'
    exact ⟨_, rfl, go_of (s := { s with heap := h', toks := tk }) e c1 d1 (by rcases hty with rfl | rfl <;> decide) ⟨.str ⟨#[c]⟩, H, I1, ⟨u, rfl⟩, ⟨rfl, c, hc', rfl⟩, st', fun b hb => (hf b hb).1⟩⟩
  done := by
    intro X hP hw hK hc i pins s σ H E I hf st hg
    subst hP hw hK
    obtain ⟨f0, f1, f2, f3, f4, f5⟩ := hf it (by simp)
    have hn : z.cps[i]? = none := by
      have h : z.cps.size ≤ i := hg
      simp [h]
    rcases hty with rfl | rfl
    · exact wpAny_pyNext_ascii_end (I.ok.hd hc) st hn fun h' eb => ⟨rfl, I.turned (t' := s.toks) (fun b o hb e => eb b o hb e) f0 f1 f3 f4 f5⟩
    · exact wpAny_pyNext_wide_end (I.ok.hd hc) st hn fun h' eb => ⟨rfl, I.turned (t' := s.toks) (fun b o hb e => eb b o hb e) f0 f1 f3 f4 f5⟩
  self := fun _ _ _ _ _ st h => by
    rcases hty with rfl | rfl
    · exact wpAny_pyIter_striter_ascii st h
    · exact wpAny_pyIter_striter_wide st h
def iStr (tl : TE) : TI := fun σ H R => tl σ H fun x H1 => ∃ z, x = .str z ∧ R (Ish z) H1
theorem pi_str {X : Cx} {tg l : Expr} {tl : TE} (hl : PE X l tl) : PI X tg l (iStr tl) := by
  intro pins s σ H R I h
  refine thn (hl pins s σ H _ I h) fun v s1 hh => ?_
  obtain ⟨x, H1, I1, r1, z, e, q⟩ := hh
  subst e
  obtain ⟨t, rfl⟩ := r1
  have fp : ∀ b ∈ [s1.heap.objs.size], FpOk X pins H1 b := fun b hb => by
    have e : b = s1.heap.objs.size := by simpa using hb
    subst e
    exact I1.fpOk (Nat.le_refl _) (I1.hok.fresh (Nat.le_refl _))
  cases ha : z.cps.all (· < 128)
  · exact wpAny_pyIter_wide ha ⟨s1.heap.objs.size, [s1.heap.objs.size], _, _, H1, rfl, I1.kept (t' := s1.toks) fun b o e => Heap.get?_push_of_some _ e, turn_str _ "str_iterator" z t (.inr rfl), ⟨_, Heap.get?_push_size _ rfl, rfl, rfl⟩, fp, q⟩
  · exact wpAny_pyIter_ascii ha ⟨s1.heap.objs.size, [s1.heap.objs.size], _, _, H1, rfl, I1.kept (t' := s1.toks) fun b o e => Heap.get?_push_of_some _ e, turn_str _ "str_ascii_iterator" z t (.inl rfl), ⟨_, Heap.get?_push_size _ rfl, rfl, rfl⟩, fp, q⟩
theorem lc_str {g : TG} {tt : TT} {te : TE} {Q : VK} {σ0 : St} {H0 : Hp} {D : Addr} {z : Str} (Pv : Nat → List V → St → Hp → Prop) (h0 : Pv 0 [] σ0 H0)
    (hs : ∀ i c ys σ H, z.cps[i]? = some c → Pv i ys σ H → g (.str ⟨#[c]⟩) σ H fun σ3 H3 => tt σ3 H3 fun b H4 => if b = true then te σ3 H4 fun y H5 => H5 D = some (.lst ys) ∧ ys.length < sizeLine ∧ Pv (i + 1) (ys ++ [y]) σ3 (upd H5 D (.lst (ys ++ [y]))) else Pv (i + 1) ys σ3 H4)
    (hd : ∀ ys σ H, Pv z.cps.size ys σ H → Q (.ref D) H) :
    LcW (Ish z) D g tt te Q σ0 H0 := by
  refine ⟨fun i m ys σ H => m = z.cps.size - i ∧ i ≤ z.cps.size ∧ Pv i ys σ H, ⟨z.cps.size, by simp, Nat.zero_le _, h0⟩, ?_⟩
  rintro i m ys σ H ⟨rfl, hi, p⟩
  by_cases hlt : i < z.cps.size
  · refine .inr ⟨hlt, fun ys' σ' H' => Pv (i + 1) ys' σ' H', fun ys' σ' H' p' => ⟨z.cps.size - (i + 1), by omega, rfl, hlt, p'⟩, fun x H' y => ?_⟩
    obtain ⟨e, c, y, y2⟩ := y
    subst e y2
    exact hs i c ys σ _ y p
  · have e : i = z.cps.size := by omega
    subst e
    exact .inl ⟨Nat.le_refl _, hd ys σ H p⟩
/-! ### join -/
theorem mt_join {X : Cx} : MtR X "str.join" (fun x vs H Q => ∃ (z : Str) (p : Addr) (ys : List Str), x = .str z ∧ vs = [.ref p] ∧ SqL X.K H p (ys.map V.str) ∧ (ys.map (·.length)).sum + ys.length * z.length ≤ 16777216 ∧ Q (.str (Txt.join z ys)) H) := by
  intro pins s σ H x vs v us Q I rx rv h
  obtain ⟨z, p, ys, rfl, rfl, hS, hz, q⟩ := h
  obtain ⟨t, rfl⟩ := rx
  obtain ⟨u, rfl, ru⟩ := rv.one
  cases ru
  obtain ⟨its, r, pl, hl⟩ := I.list hS
  exact join_list pl.isList (strsAre_of r) hz fun t' k => ⟨.str _, H, I.tok k, ⟨t', rfl⟩, q⟩
/-! ### a dict of the module -/
end L2

/-! EXCEPTIONS over the hand layer (own work): raise of an own class, a def that an exception leaves, try with one clause -/
namespace L2
open PySem PySem.Spec PyProof.Rows
/-- what lies behind a call that an exception left: B is the heap without the frames and without the exception -/
structure Lies (P : Program) (w : World) (outer : List Env) (H : Hp) (s : Shared) (B : Heap) (H' : Hp) (s' : Shared) : Prop where
  os : s'.os = s.os
  bare : AllBare s'.gens
  keep : ∀ b o, s.heap.get? b = some o → H b = none → b ∉ frs outer → B.get? b = some o
  slot : ∀ b o, s.heap.get? b = some o → H b = none → b ∈ frs outer → ∃ sl, s'.heap.get? b = some { o with slots := sl }
  free : ∀ b o, s.heap.get? b = some o → H b = none → H' b = none
  there : ∀ b o, s.heap.get? b = some o → b ∉ frs outer → ∃ o', B.get? b = some o'
  tups : ∀ b xs, H b = some (.tup xs) → H' b = some (.tup xs)
  frzs : ∀ b o u, H b = some (.frz o u) → H' b = some (.frz o u)
  tbls : ∀ b ps, H b = some (.tbl ps) → ∃ more, H' b = some (.tbl (ps ++ more))
  hok : HOk P w H' B
/-- an exception of an own class flies over the callers' frames -/
def CXR (P : Program) (w : World) : CXT := fun outer H s E e s' =>
  ∃ (ea : Addr) (cls a0 : Value) (B : Heap) (H' : Hp), e = .ref ea ∧ Heap.FlyingW B outer ea cls a0 s'.heap ∧ Lies P w outer H s B H' s' ∧ E cls none H'
theorem frs_mem {h B : Heap} {l : List Env} (f : h.FunFrames B l) {b : Addr} (hb : b ∈ frs l) : B.get? b = none ∧ ∃ o, h.get? b = some o ∧ ∀ vs, o.data ≠ .fields vs := f.mem hb
/-- .. seen from the caller -/
theorem Lies.un {P : Program} {w : World} {outer : List Env} {H H' : Hp} {s s' : Shared} {B : Heap} (L : Lies P w outer H s B H' s') (st : B.StaysIn s'.heap) (fr : s'.heap.FunFrames B outer) : Un (frs outer) [] H H' s.heap s'.heap where
  keep := fun b o e n hb _ => st b o (L.keep b o e n hb)
  slot := fun b o e n hb _ => L.slot b o e n hb
  free := fun b o e n _ => L.free b o e n
  there := fun b o e _ => by
    by_cases hb : b ∈ frs outer
    · obtain ⟨_, o', h, _⟩ := frs_mem fr hb
      exact ⟨o', h⟩
    · obtain ⟨o', h⟩ := L.there b o e hb
      exact ⟨o', st b o' h⟩
  tups := L.tups
  frzs := L.frzs
  tbls := L.tbls
/-- the same in a later heap: what stands in B stays, the frames stay but for slots -/
theorem Lies.on {P : Program} {w : World} {outer : List Env} {H H' : Hp} {s s' : Shared} {B h' : Heap} (L : Lies P w outer H s B H' s') (fr : s'.heap.FunFrames B outer) (us : s'.heap.UpToSlots h') : Lies P w outer H s B H' { s' with heap := h' } :=
  ⟨L.os, L.bare, L.keep, fun b o e n hb => by
    obtain ⟨sl, h1⟩ := L.slot b o e n hb
    obtain ⟨_, o', h2, nf⟩ := frs_mem fr hb
    rw [h1] at h2
    cases h2
    obtain ⟨sl', h3⟩ := us b _ h1 nf
    exact ⟨sl', h3⟩, L.free, L.there, L.tups, L.frzs, L.tbls, L.hok⟩
section
variable {P : Program} {w : World} {K : PySem.W.Frag} {mg : Str → Option Value} {base : Heap} {N : List Str} {qual : Str} {scope : Scope} {f : Addr} {cd : Value} {A : Around} {outer : List Env} {s : Shared} {H : Hp} {E : XK}
/-- from the frame that is left to its caller -/
theorem lies_out {X : Cx} {pins : List (Addr × Obj)} {σ : St} {H1 H' : Hp} {s1 s' : Shared} {B : Heap} (I : Inv X pins σ H1 s1) (hx : X.ex = []) (hs : X.stack = X.env :: X.outer) (hf : X.env.frame = some X.env.locals) (L : Lies X.prog X.w X.stack H1 s1 B H' s') :
    Lies X.prog X.w X.outer X.H₀ X.s₀ B H' s' := by
  have nx : ∀ b : Addr, b ∉ X.ex := fun b z => by rw [hx] at z; exact absurd z (by simp)
  have fe : frs X.stack = X.env.locals :: frs X.outer := by
    rw [hs]
    unfold frs
    rw [List.filterMap_cons, hf]
  have nl : ∀ b o, X.s₀.heap.get? b = some o → b ≠ X.env.locals := fun b o e => Nat.ne_of_lt (Nat.lt_of_lt_of_le (Heap.lt_size e) I.ok.above)
  have nst : ∀ b o, X.s₀.heap.get? b = some o → b ∉ frs X.outer → b ∉ frs X.stack := fun b o e hb z => by
    rw [fe] at z
    rcases List.mem_cons.mp z with z | z
    · exact nl b o e z
    · exact hb z
  refine ⟨L.os.trans I.os, L.bare, fun b o e n hb => ?_, fun b o e n hb => ?_, fun b o e n => ?_, fun b o e hb => ?_, fun b xs e => L.tups b xs (I.base.tups b xs e), fun b o u e => L.frzs b o u (I.base.frzs b o u e), fun b ps e => ?_, L.hok⟩
  · exact L.keep b o (I.base.keep b o e n hb (nx b)) (I.base.free b o e n (nx b)) (nst b o e hb)
  · obtain ⟨sl, h1⟩ := I.base.slot b o e n hb (nx b)
    obtain ⟨sl', h2⟩ := L.slot b _ h1 (I.base.free b o e n (nx b)) (by rw [fe]; exact List.mem_cons_of_mem _ hb)
    exact ⟨sl', h2⟩
  · obtain ⟨o', h1⟩ := I.base.there b o e (nx b)
    exact L.free b o' h1 (I.base.free b o e n (nx b))
  · obtain ⟨o', h1⟩ := I.base.there b o e (nx b)
    exact L.there b o' h1 (nst b o e hb)
  · obtain ⟨m1, e1⟩ := I.base.tbls b ps e
    obtain ⟨m2, e2⟩ := L.tbls b _ e1
    exact ⟨m1 ++ m2, by rw [e2, Array.append_assoc]⟩
theorem pass_on : Passes (CXR P w) (cxOf (CXR P w) P w K mg base N qual scope f cd A outer s H E) E := by
  intro pins σ H1 s1 e s' I h
  obtain ⟨ea, cls, a0, B, H', rfl, fl, L, q⟩ := h
  have L2' := lies_out I rfl rfl rfl L
  refine wpAny_leaves_onW I.ok.frames rfl fl fun h' fl' us => ?_
  have fr : s'.heap.FunFrames B outer := by
    obtain ⟨_, _, f3, _⟩ := fl
    exact f3.2.2
  exact ⟨ea, cls, a0, B, H', rfl, fl', Lies.on L2' fr us, q⟩
end
/-! ### an own class of exceptions -/
structure Exc (K : PySem.W.Frag) (mg : Str → Option Value) (x : Str) (C : Addr) (bmB : List Value) (newId : String) : Prop where
  bound : mg x = some (.ref C)
  inn : PySem.W.excIn K C bmB newId = true
theorem Exc.obj {K : PySem.W.Frag} {mg : Str → Option Value} {x : Str} {C : Addr} {bmB : List Value} {newId : String} (e : Exc K mg x C bmB newId) {h : Heap} (X : K.In h) :
    ∃ bm N nm q bs hdct sn sub ab col dd k0 k1 k2 k3 k5 mN, h.get? C = some (excClassObj nm q C N bs bm hdct sn sub ab col dd k0 k1 k2 k3 k5 newId) ∧ h.Ns N mN ∧ mN "__init__" = none ∧ OwnTail h bmB bm := by
  have q := e.inn
  unfold PySem.W.excIn at q
  split at q
  case h_2 => cases q
  case h_1 dd cd sl ho =>
  split at q
  case h_2 => cases q
  case h_1 C' bm k0 k1 k2 k3 n k5 hm hs =>
  rw [Bool.and_eq_true, Bool.and_eq_true, Bool.and_eq_true, Bool.and_eq_true, Bool.and_eq_true] at q
  obtain ⟨⟨⟨⟨⟨q1, q2⟩, q3⟩, q4⟩, q5⟩, q6⟩ := q
  have q1 := beq_iff_eq.mp q1
  have q2 := beq_iff_eq.mp q2
  have q3 : cd.hasDel = false := by cases z : cd.hasDel with | false => rfl | true => rw [z] at q3; cases q3
  have q6 := beq_iff_eq.mp q6
  subst q1 q2
  obtain ⟨nm, bs, mro, ns, qn, hd, sn, sub, ab, col, del⟩ := cd
  cases q3
  cases hm
  have hsl : sl = #[k0, k1, k2, k3, some (.builtin n), k5] := Array.toList_inj.mp hs
  rw [hsl] at ho
  exact ⟨bm, ns, nm, qn, bs, hd, sn, sub, ab, col, dd, k0, k1, k2, k3, k5, _, X _ _ ho, .of_isNs (PySem.W.isNs_of_in X q5), PySem.W.nsMap_none_of_in X q5 q6, PySem.W.tail_of_in X q4⟩
/-! ### raise C(..) -/
/-- a raise in this body reaches what is wanted of exceptions -/
def Raiser (X : Cx) (E : XK) : Prop := ∀ (pins : List (Addr × Obj)) (σ : St) (H : Hp) (s : Shared) (h2 : Heap) (e C : Addr) (vs : List Value), Inv X pins σ H s → Heap.MadeExcOf s.heap h2 e (.ref C) vs → E (.ref C) none H → X.xe (.ref e) { s with heap := h2 }
def tRaise (C : Addr) (E : XK) (t : TA) : TS := fun _ σ H => t σ H fun vs H1 => vs.length ≤ sizeLine ∧ E (.ref C) none H1
theorem ps_raise {X : Cx} {E : XK} {x : Str} {C : Addr} {bmB : List Value} {B newId initId : String} {np cpos pos : Pos} {e : Expr} {es : List Expr} {t : TA} (hE : Raiser X E) (hc : X.calm = true) (hg : Gl X x) (O : Exc X.K X.mg x C bmB newId) (FB : ExcBaseFacts B newId initId bmB)
    (ha : PA X (e :: es) t) (he : starEach (e :: es) X.env = (false, eval e X.env) :: starEach es X.env := by rfl) (hplain : (backTo cpos (starEach es X.env)).any (·.1) = false := by rfl) (hd : (x == ("__debug__" : Str)) = false := by decide) :
    PS X (.Raise (some (.Call (.Name x np) (e :: es) [] cpos)) none pos) (tRaise C E t) := by
  intro pins s σ H D I h
  obtain ⟨tl, N, nm, q, bs, hdct, sn, sub, ab, col, dd, k0, k1, k2, k3, k5, mN, hC, hN, hni, T⟩ := O.obj I.mod.kin
  refine wpAny_Raise_call_subT (C := C) (nm := nm) (q := q) (N := N) (bs := bs) (bm := tl) (hdct := hdct) (sn := sn) (sub := sub) (ab := ab) (col := col) (dd := dd) (k0 := k0) (k1 := k1) (k2 := k2) (k3 := k3) (k5 := k5)
    FB (mN := mN) (T.hasType FB.hasBase) (I.ok.hd hc) (by rw [he]; show (false || (backTo cpos (starEach es X.env)).any (·.1)) = false; rw [hplain]; rfl) hni (ld_glob I hg O.bound ⟨rfl, ?_⟩ hd)
  have ha' := ha cpos pins s σ H _ I h
  rw [he] at ha' ⊢
  exact Calls.evalArgs_plain (wpAny_mono ha' (fun us s2 ⟨vs, H1, I1, r1, q0, q1⟩ => ⟨rfl, (by rw [← r1.length]; exact q0), I1.bk _ _ hC, hN.keeps I1.bk, T.keeps I1.bk, fun h' e2 hm => hE pins σ H1 s2 h' e2 C us I1 hm q1⟩) fun _ _ y => y)
section
variable {P : Program} {w : World} {K : PySem.W.Frag} {mg : Str → Option Value} {base : Heap} {N : List Str} {qual : Str} {scope : Scope} {f : Addr} {cd : Value} {A : Around} {outer : List Env} {s : Shared} {H : Hp} {E : XK}
theorem raiser_on : Raiser (cxOf (CXR P w) P w K mg base N qual scope f cd A outer s H E) E := by
  intro pins σ H1 s1 h2 e C vs I hx q
  have st : (PySem.W.hideAll s1.heap (frs (envOfC qual scope s.heap.objs.size f cd :: outer))).StaysIn s1.heap := fun b o q => PySem.W.of_hideAll _ q
  have hl : s1.heap.FunFrames (PySem.W.hideAll s1.heap (frs (envOfC qual scope s.heap.objs.size f cd :: outer))) (envOfC qual scope s.heap.objs.size f cd :: outer) :=
    PySem.W.funFrames_hide I.stack (fun env he a ha => List.mem_filterMap.mpr ⟨env, he, ha⟩)
  refine wpAny_leaves_madeW I.ok.frames rfl st hl hx fun h' t fl tup tn us => ⟨e, .ref C, .ref t, _, H1, rfl, fl, ?_, q⟩
  refine lies_out (X := cxOf (CXR P w) P w K mg base N qual scope f cd A outer s H E) I rfl rfl rfl ⟨rfl, I.bare, fun b o e n hb => PySem.W.hideAll_get _ e hb, fun b o e n hb => ?_, fun b o e n => n, fun b o e hb => ⟨o, PySem.W.hideAll_get _ e hb⟩, fun _ _ e => e, fun _ _ _ e => e, fun b ps e => ⟨#[], by rw [e]; simp⟩, fun a o e => ?_⟩
  · obtain ⟨_, o', h1, nf⟩ := frs_mem I.stack hb
    rw [e] at h1
    cases h1
    exact us b o (hx.keeps b o e) nf
  · refine (I.hok a o e).stay (fun b u hb q => PySem.W.hideAll_get _ q fun z => ?_) (fun _ q => q) fun _ _ q => q
    have hn := I.stkFree b z
    rcases hb with rfl | hb
    · rw [e] at hn; cases hn
    · rw [hb] at hn; cases hn
end
/-! ### a def that an exception may leave -/
def CalR (P : Program) (w : World) (K : PySem.W.Frag) (mg : Str → Option Value) (base : Heap) (k : Nat) (x : Str) (ps : List Str) (sp : Sp) : Prop :=
  ∃ (f : Addr) (fd : FuncData), FnOk P w K mg base (CXR P w) k f fd ps sp ∧ Binds K fd ps [] ∧ PySem.W.keepIn K (.ref f) = true ∧ mg x = some (.ref f)
theorem pe_calR {X : Cx} {k : Nat} {x : Str} {ps : List Str} {sp : Sp} {E : XK} {p pos : Pos} {e : Expr} {es : List Expr} {t : TA} (c : CalR X.prog X.w X.K X.mg X.base k x ps sp) (hr : Room k X.A) (hx : Passes (CXR X.prog X.w) X E) (hg : Gl X x) (ha : PA X (e :: es) t)
    (hdb : (x == ("__debug__" : Str)) = false := by decide) (he : starEach (e :: es) X.env = (false, eval e X.env) :: starEach es X.env := by rfl) (hpl : (backTo pos (starEach es X.env)).any (·.1) = false := by rfl) :
    PE X (.Call (.Name x p) (e :: es) [] pos) (tCall sp [] E t) := by
  obtain ⟨f, fd, F, b, kp, m⟩ := c
  exact pe_call F hr hg m kp b .nil hx ha hdb he hpl
theorem Has.calR {P : Program} {w : World} {K : PySem.W.Frag} {mg : Str → Option Value} {base : Heap} {x : Str} {st : Stmt} {N ps : List Str} {k : Nat} {sp : Sp} (h : Has K mg x st ps) (S : FnScope N ps (defScope st)) (len : ∀ vs H Q E, sp vs H Q E → vs.length = ps.length)
    (hbody : ∀ (f : Addr) (cdv : Value) (A : Around) (outer : List Env) (s : Shared) (H : Hp) (vs : List V) (Q : VK) (E : XK), Room k (A.deeper (envOfC x (defScope st) s.heap.objs.size f cdv)) → sp vs H Q E →
      ∃ t, PSs (cxOf (CXR P w) P w K mg base N x (defScope st) f cdv A outer s H E) (defBody st) t ∧ t { nx := fun _ H' => Q .non H', rt := Q } (start N vs) H) : CalR P w K mg base (k + 1) x ps sp := by
  obtain ⟨f, fd, F, b, m⟩ := h
  refine ⟨f, fd, ?_, b, F.kp, m⟩
  obtain ⟨oc, od, kV, doc, pm, an, cdv, ct, osl, rfl, lk, hcd⟩ := F.ex
  exact fn_of lk hcd S len fun A outer s H vs Q E hr hsp => hbody f cdv A outer s H vs Q E hr hsp
/-- a statement that raises nothing, where others raise -/
theorem PS.nox {X : Cx} {st : Stmt} {t : TS} (h : PS X.nox st t) : PS X st t := fun pins s σ H D I hw =>
  wpAny_mono (h pins s σ H D (I.wish _) hw) (fun _ _ q => q.unwish) fun _ _ z => False.elim z
/-! ### the clause's context: the same body, an exception handled -/
abbrev Cx.mark (X : Cx) (v : Value) (E : Value → Shared → Prop) : Cx := { X with A := X.A.mark (some v), calm := false, xe := E }
theorem Inv.mark {X : Cx} {pins : List (Addr × Obj)} {σ : St} {H : Hp} {s : Shared} (I : Inv X pins σ H s) (v : Value) (E : Value → Shared → Prop) : Inv (X.mark v E) pins σ H s :=
  ⟨⟨I.ok.mod, I.ok.kind, I.ok.glob, I.ok.blt, I.ok.above, I.ok.inj, I.ok.has, I.ok.cab, (fun z => by cases z), I.ok.frames, I.ok.stk, I.ok.exf, I.ok.bs, I.ok.bsz, I.ok.noex, I.ok.exfs, I.ok.funs, I.ok.frf⟩, I.os, I.bare, I.base, I.loc, I.cell, I.free, I.freeC, I.pin, I.hok, I.len⟩
theorem Inv.unmark {X : Cx} {pins : List (Addr × Obj)} {σ : St} {H : Hp} {s : Shared} {v : Value} {E : Value → Shared → Prop} (I : Inv (X.mark v E) pins σ H s) (ok : X.Ok) : Inv X pins σ H s :=
  ⟨ok, I.os, I.bare, I.base, I.loc, I.cell, I.free, I.freeC, I.pin, I.hok, I.len⟩
theorem SP.unmark {X : Cx} {pins : List (Addr × Obj)} {v : Value} {E : Value → Shared → Prop} {D : Ends} {f : Flow} {s' : Shared} (h : SP (X.mark v E) pins D f s') (ok : X.Ok) : SP X pins D f s' := by
  cases f with
  | next => obtain ⟨σ', H', I, q⟩ := h; exact ⟨σ', H', I.unmark ok, q⟩
  | brk => obtain ⟨σ', H', I, q⟩ := h; exact ⟨σ', H', I.unmark ok, q⟩
  | cont => obtain ⟨σ', H', I, q⟩ := h; exact ⟨σ', H', I.unmark ok, q⟩
  | ret u => obtain ⟨v, σ', H', I, r, q⟩ := h; exact ⟨v, σ', H', I.unmark ok, r, q⟩
/-- the caught exception, back at the frame whose clause takes it -/
theorem Lies.inv {X : Cx} {pins : List (Addr × Obj)} {σ : St} {H1 H' : Hp} {s1 s' : Shared} {B h' : Heap} (I : Inv X pins σ H1 s1) (L : Lies X.prog X.w X.stack H1 s1 B H' s') (fr : s'.heap.FunFrames B X.stack) (us : s'.heap.UpToSlots h') (st : B.StaysIn h') (fr' : h'.FunFrames B X.stack) :
    Inv X pins σ H' { s' with heap := h' } := by
  have L' := L.on fr us
  exact I.call' (s' := { s' with heap := h' }) L'.os (L'.un st fr') (L'.hok.kept st) L'.bare fun b z => absurd z (by simp)
/-- a clause 'except C:' takes it -/
theorem taken {X : Cx} {pins : List (Addr × Obj)} {σ : St} {H1 H' : Hp} {s1 s' : Shared} {B : Heap} {D : Ends} {th : TS} {ea C : Addr} {a0 : Value} {x : Str} {bmB : List Value} {newId : String} {np hp : Pos} {b₀ : Stmt} {suite : List Stmt} {rest : List ExceptHandler}
    (I : Inv X pins σ H1 s1) (hs : X.stack = X.env :: X.outer) (hf : X.env.frame = some X.env.locals) (fl : Heap.FlyingW B X.stack ea (.ref C) a0 s'.heap) (L : Lies X.prog X.w X.stack H1 s1 B H' s')
    (hgx : Gl X x) (O : Exc X.K X.mg x C bmB newId) (hbase : bmB.contains (.type "BaseException") = true) (hth : PSs (X.mark (.ref ea) fun _ _ => False) (b₀ :: suite) th) (h : th D σ H') (hd : (x == ("__debug__" : Str)) = false) :
    wpAny (model X.prog X.w) X.A (noteFrame (.ref ea) X.env) (fun _ s₂ => wpAny (model X.prog X.w) X.A (setFlight (.ref ea) none) (fun _ s₃ => wpAny (model X.prog X.w) X.A (handleBy (.ref ea) X.env (.ExceptHandler (some (.Name x np)) none (b₀ :: suite) hp :: rest)) (SP X pins D) X.xe s₃) X.xe s₂) X.xe s' := by
  have fr := fl.2.2.1
  have fl0 : Heap.FlyingW B (X.env :: X.outer) ea (.ref C) a0 s'.heap := by rw [← hs]; exact fl
  refine wpAny_looks_onW (by rw [← hs]; exact I.ok.frames) hf fl0 fun h₄ held us4 => ?_
  refine wpAny_landsW held fun h₅ fl5 us5 => ?_
  have I5 : Inv X pins σ H' { s' with heap := h₅ } := L.inv I fr (us4.trans us5) fl5.1 (by rw [hs]; exact fl5.2.2.1)
  refine wpAny_handleBy_cons (codeAny_handlers_test (ld_glob (I5.mark (.ref ea) fun _ _ => False) hgx O.bound ?_ hd)) (by intro q; cases q)
  obtain ⟨bm, N, nm, qn, bs, hdct, sn, sub, ab, col, dd, k0, k1, k2, k3, k5, mN, hC, hN, hni, TL⟩ := O.obj I5.kIn
  obtain ⟨ob, hob, hobc⟩ := fl5.there
  refine wpAny_excMatches_sub_self hC hob hobc (TL.hasType hbase) (codeAny_handlers_suite ?_)
  refine lands_againW fl5 fun h₆ fl6 us6 => ?_
  have I6 : Inv X pins σ H' { s' with heap := h₆ } := L.inv I fr ((us4.trans us5).trans us6) fl6.1 (by rw [hs]; exact fl6.2.2.1)
  exact wpAny_mono (hth pins _ σ H' D (I6.mark (.ref ea) fun _ _ => False) h) (fun f s'' q => q.unmark I6.ok) fun _ _ z => False.elim z
/-! ### try: y = f(..) / except C: .. -/
end L2

/-! MORE RULES over the hand layer (own work): a module's text, one sign in a text, startswith, int(text), try with a call alone -/
namespace L2
open PySem PySem.Spec PyProof.Rows
def GS (mg : Str → Option Value) (x s : Str) : Prop := ∃ t, mg x = some (.str s t)
section
variable {X : Cx}
theorem op_in1 : OpR X (compareOp .In) (fun x y H Q => ∃ (c : Nat) (j : Str), x = .str ⟨#[c]⟩ ∧ y = .str j ∧ Q (.bl (decide (c ∈ j.cps.toList))) H) := by
  intro pins s σ H x y v u Q I rx ry h
  obtain ⟨c, j, rfl, rfl, q⟩ := h
  refine op_in_str pins s σ H _ _ v u Q I rx ry ⟨_, _, rfl, rfl, ?_⟩
  rw [StrLaws.found_one]
  exact q
theorem mt_starts : MtR X "str.startswith" (fun x vs H Q => ∃ z y, x = .str z ∧ vs = [.str y] ∧ Q (.bl (Txt.startswith z y)) H) := by
  intro pins s σ H x vs v us Q I rx rv h
  obtain ⟨z, y, rfl, rfl, q⟩ := h
  obtain ⟨t, rfl⟩ := rx
  obtain ⟨u, rfl, t', rfl⟩ := rv.one
  exact SC.startswith ⟨.bl _, H, I, rfl, q⟩
theorem call_int_text : CallR X (.type "int") (fun xs H Q => ∃ (z : Str) (n : Int), xs = [.str z] ∧ z.length ≤ 640 ∧ PySem.intText? z = some n ∧ Q (.int n) H) := by
  intro pins s σ H xs us Q I r h
  obtain ⟨z, n, rfl, hl, hn, q⟩ := h
  obtain ⟨u, rfl, t, rfl⟩ := vals1 r
  exact PySem.W.KIN.call_text hn hl ⟨.int n, H, I.tok _, ⟨_, rfl⟩, q⟩
end
/-! ### try: f(..) / except C: .. -/
end L2

/-! METHODS over the hand layer (own work): a method as one bundle; loops in a def that an exception may leave -/
namespace L2
open PySem PySem.Spec PyProof.Rows
def MCal (P : Program) (w : World) (K : PySem.W.Frag) (mg : Str → Option Value) (base : Heap) (k : Nat) (C : Addr) (m : Str) (ps : List Str) (sp : Sp) : Prop :=
  ∃ (f : Addr) (fd : FuncData), FnOk P w K mg base CX0 k f fd ps sp ∧ Binds K fd ps [] ∧ Meth K C m f
def HasM (K : PySem.W.Frag) (C : Addr) (m qual : Str) (st : Stmt) (ps : List Str) : Prop := ∃ (f : Addr) (fd : FuncData), Fun K m qual st f fd ∧ Binds K fd ps [] ∧ Meth K C m f
theorem HasM.cal {P : Program} {w : World} {K : PySem.W.Frag} {mg : Str → Option Value} {base : Heap} {C : Addr} {m qual : Str} {st : Stmt} {N ps : List Str} {k : Nat} {sp : Sp} (h : HasM K C m qual st ps) (S : FnScope N ps (defScope st)) (len : ∀ vs H Q E, sp vs H Q E → vs.length = ps.length)
    (hbody : ∀ (f : Addr) (cdv : Value) (A : Around) (outer : List Env) (s : Shared) (H : Hp) (vs : List V) (Q : VK) (E : XK), Room k (A.deeper (envOfC qual (defScope st) s.heap.objs.size f cdv)) → sp vs H Q E →
      ∃ t, PSs (cxOf CX0 P w K mg base N qual (defScope st) f cdv A outer s H E).nox (defBody st) t ∧ t { nx := fun _ H' => Q .non H', rt := Q } (start N vs) H) : MCal P w K mg base (k + 1) C m ps sp := by
  obtain ⟨f, fd, F, b, m⟩ := h
  exact ⟨f, fd, F.ok S len fun cdv A outer s H vs Q E hr h => hbody f cdv A outer s H vs Q E hr h, b, m⟩
theorem MCal.mono {P : Program} {w : World} {K : PySem.W.Frag} {mg : Str → Option Value} {base : Heap} {C : Addr} {j k : Nat} {m : Str} {ps : List Str} {sp : Sp} (c : MCal P w K mg base j C m ps sp) (h : j ≤ k) : MCal P w K mg base k C m ps sp := by
  obtain ⟨f, fd, F, b, m⟩ := c
  exact ⟨f, fd, F.mono h, b, m⟩
theorem CalR.mono {P : Program} {w : World} {K : PySem.W.Frag} {mg : Str → Option Value} {base : Heap} {j k : Nat} {x : Str} {ps : List Str} {sp : Sp} (c : CalR P w K mg base j x ps sp) (h : j ≤ k) : CalR P w K mg base k x ps sp := by
  obtain ⟨f, fd, F, b, kp, m⟩ := c
  exact ⟨f, fd, F.mono h, b, kp, m⟩
section
variable {X : Cx} {k : Nat} {C : Addr} {ps : List Str} {sp : Sp} {m : Str} {pos apos : Pos} {e o : Expr} {es : List Expr} {ta : TE} {t : TA}
theorem pe_mcal {pl : Sem Bool} (c : MCal X.prog X.w X.K X.mg X.base k C m ps sp) (cl : Cls X.K C) (hr : Room k X.A) (he : PE X o ta) (ha : PA X (e :: es) t)
    (hst : starEach (e :: es) X.env = (false, eval e X.env) :: starEach es X.env := by rfl) (hpl : (backTo pos (starEach es X.env)).any (·.1) = false := by rfl)
    (ht : eval (.Call (.Attribute o m apos) (e :: es) [] pos) X.env = (do
      let ov ← eval o X.env
      standAt apos.atName
      let (f, first) ← holding [ov] (getMethod ov m pl)
      callWith pos f first (backTo pos (starEach (e :: es) X.env)) (backToKw pos (keywordEach [] X.env))) := by rfl) :
    PE X (.Call (.Attribute o m apos) (e :: es) [] pos) (tMeth C m sp [] E0 ta t) := by
  obtain ⟨f, fd, F, b, hm⟩ := c
  exact pe_meth (pl := pl) he cl hm F hr b .nil pass0 ha hst hpl ht
theorem pe_mcal0 {pl : Sem Bool} (c : MCal X.prog X.w X.K X.mg X.base k C m ps sp) (cl : Cls X.K C) (hr : Room k X.A) (he : PE X o ta)
    (ht : eval (.Call (.Attribute o m apos) [] [] pos) X.env = (do
      let ov ← eval o X.env
      standAt apos.atName
      let (f, first) ← holding [ov] (getMethod ov m pl)
      callWith pos f first (backTo pos (starEach [] X.env)) (backToKw pos (keywordEach [] X.env))) := by rfl) :
    PE X (.Call (.Attribute o m apos) [] [] pos) (tMeth C m sp [] E0 ta tNil) := by
  obtain ⟨f, fd, F, b, hm⟩ := c
  exact pe_meth0 (pl := pl) he cl hm F hr b .nil pass0 ht
end
section
variable {P : Program} {w : World} {K : PySem.W.Frag} {mg : Str → Option Value} {base : Heap} {N : List Str} {qual : Str} {scope : Scope} {f : Addr} {cd : Value} {A : Around} {outer : List Env} {s : Shared} {H : Hp} {E : XK}
theorem own_on {X : Cx} (h : X = cxOf (CXR P w) P w K mg base N qual scope f cd A outer s H E) : PassesOwn (model X.prog X.w) X.A X.env X.xe := by
  subst h
  exact PassesOwn.leaving
end
end L2

namespace K05
open PySem L2
def top (i : Nat) : Stmt := PySem.Challenge.pw_sayswho_k05_whole_words_worth.main.body.getD i (.Pass ⟨0, 0, 0, 0⟩)
abbrev sPAllAmong : Stmt := top 11
abbrev sPIsName : Stmt := top 12
abbrev sPAreFigures : Stmt := top 13
abbrev sPNumberOf : Stmt := top 14
abbrev sMInit : Stmt := inClass (top 15) 0
abbrev sMStandsAt : Stmt := inClass (top 15) 1
abbrev sMTake : Stmt := inClass (top 15) 2
abbrev sMTakeAll : Stmt := inClass (top 15) 3
abbrev sPExpression : Stmt := top 16
abbrev sPTerms : Stmt := top 17
abbrev sPFactors : Stmt := top 18
abbrev sPFactor : Stmt := top 19
abbrev sPBracketed : Stmt := top 20
abbrev sPWorth : Stmt := top 21
abbrev sStir : Stmt := top 23
abbrev sParts : Stmt := top 24
abbrev sReckon : Stmt := top 25
abbrev sDue : Stmt := top 26
abbrev sLaw : Stmt := top 27
/-- the built-ins' names are free -/
structure Blt (mg : Str → Option Value) : Prop where
  ValueError : mg "ValueError" = none
  all : mg "all" = none
  int : mg "int" = none
  len : mg "len" = none
  range : mg "range" = none
  str : mg "str" = none
theorem bt_all : bootBuiltins "all" = some (.builtin "all") := by decide +kernel
theorem bt_int : bootBuiltins "int" = some (.type "int") := by decide +kernel
theorem bt_len : bootBuiltins "len" = some (.builtin "len") := by decide +kernel
theorem bt_str : bootBuiltins "str" = some (.type "str") := by decide +kernel
structure Glb (K : PySem.W.Frag) (mg : Str → Option Value) : Prop where
  TAKEN : GT K mg "TAKEN" [.str "box", .str "mark", .str "ask", .str "put", .str "go", .str "if", .str "stop", .str "in", .str "not"]
  LETTERS : GS mg "LETTERS" "abcdefghijklmnopqrstuvwxyz"
  FIGURES : GS mg "FIGURES" "0123456789"
  MOST_LETTERS : GI mg "MOST_LETTERS" 8
  MOST_FIGURES : GI mg "MOST_FIGURES" 3
  MOST_SIGNS : GI mg "MOST_SIGNS" 60
  MOST_BRACKETS : GI mg "MOST_BRACKETS" 5

local macro_rules | `(tactic| wtm_at "h") => `(tactic| first | assumption | exact upd_same)
local macro_rules | `(tactic| wtm_at "c") => `(tactic| first | exact p1018 | exact cmr (by decide) (by decide) | exact cm (by decide) (by decide) | exact cm (by omega) (by omega) | exact ⟨by decide, by decide⟩ | (dsimp only; omega) | omega | assumption)
local macro_rules | `(tactic| wtm_at "s") => `(tactic| first | refine ⟨_, rfl, ?_⟩ | refine ⟨_, _, rfl, rfl, ?_⟩ | refine ⟨rfl, ?_⟩ | refine ⟨_, _, _, _, rfl, rfl, SqT.of (by wtm_at "h"), rfl, ?_⟩ | refine ⟨_, _, _, _, rfl, rfl, SqL.of (by wtm_at "h"), rfl, ?_⟩ | refine And.intro (by wtm_at "c") ?_)
local macro_rules | `(tactic| wtm_at "ss") => `(tactic| repeat wtm_at "s")
/-! ### words: what a name is, what figures are -/
def cs (x : Str) : List Nat := x.cps.toList
theorem cs_len (x : Str) : (cs x).length = x.length := Array.length_toList
theorem cs_inj {x y : Str} (h : cs x = cs y) : x = y := by
  cases x; cases y
  exact congrArg Str.mk (Array.toList_inj.mp h)
abbrev abc : Str := "abcdefghijklmnopqrstuvwxyz"
abbrev fgs : Str := "0123456789"
theorem abc_cs : cs abc = List.range' 97 26 := by decide +kernel
theorem fgs_cs : cs fgs = List.range' 48 10 := by decide +kernel
def isL (c : Nat) : Bool := decide (97 ≤ c ∧ c ≤ 122)
def isD (c : Nat) : Bool := decide (48 ≤ c ∧ c ≤ 57)
theorem in_abc (c : Nat) : decide (c ∈ cs abc) = isL c := by
  rw [abc_cs, Bool.eq_iff_iff, decide_eq_true_iff, List.mem_range'_1]
  unfold isL
  rw [decide_eq_true_iff]
  omega
theorem in_fgs (c : Nat) : decide (c ∈ cs fgs) = isD c := by
  rw [fgs_cs, Bool.eq_iff_iff, decide_eq_true_iff, List.mem_range'_1]
  unfold isD
  rw [decide_eq_true_iff]
  omega
abbrev taken : List Str := ["box", "mark", "ask", "put", "go", "if", "stop", "in", "not"]
def isNm (x : Str) : Bool := decide (1 ≤ x.length ∧ x.length ≤ 8) && ((cs x).all isL && !decide (x ∈ taken))
def isFg (x : Str) : Bool := decide (1 ≤ x.length ∧ x.length ≤ 3) && ((cs x).all isD && (decide (x = "0") || !decide ((cs x)[0]? = some 48)))
theorem inV_strs (z : Str) (zs : List Str) : inV (.str z) (zs.map V.str) = decide (z ∈ zs) := by
  unfold inV
  rw [List.any_map]
  rw [Bool.eq_iff_iff, List.any_eq_true, decide_eq_true_iff]
  constructor
  · rintro ⟨y, hy, e⟩
    have e' : (y == z) = true := e
    rw [← (beq_iff_eq.mp e')]
    exact hy
  · intro h
    exact ⟨z, h, (by show (z == z) = true; exact beq_self_eq_true z)⟩
theorem bl_eq {Q : VK} {H : Hp} {b c : Bool} (q : Q (.bl c) H) (e : b = c) : Q (.bl b) H := e ▸ q
theorem iteB {b : Bool} {A B : Prop} (h : b = true) (a : A) : if b = true then A else B := by rw [if_pos h]; exact a
theorem iteC {b : Bool} {A B : Prop} (h : b = false) (a : B) : if b = true then A else B := by rw [if_neg (by rw [h]; decide)]; exact a
def spAmong : Sp := fun vs H Q _ => ∃ z y : Str, vs = [.str z, .str y] ∧ z.length ≤ 1000 ∧ ∀ H', Same H H' → Q (.bl ((cs z).all fun c => decide (c ∈ cs y))) H'
def spIsName : Sp := fun vs H Q _ => ∃ z : Str, vs = [.str z] ∧ z.length ≤ 1000 ∧ ∀ H', Same H H' → Q (.bl (isNm z)) H'
def spFigures : Sp := fun vs H Q _ => ∃ z : Str, vs = [.str z] ∧ z.length ≤ 1000 ∧ ∀ H', Same H H' → Q (.bl (isFg z)) H'
section
variable {P : Program} {w : World} {K : PySem.W.Frag} {mg : Str → Option Value} {base : Heap}
theorem scAmong : FnScope ["word", "signs"] ["word", "signs"] (defScope sPAllAmong) := ⟨rfl, rfl, rfl, by decide +kernel, rfl, by decide +kernel, by decide +kernel⟩
theorem ok_among (h : Has K mg "all_among" sPAllAmong ["word", "signs"]) (B : Blt mg) : Cal P w K mg base 1 "all_among" ["word", "signs"] spAmong := by
  refine h.cal scAmong (fun vs H Q E h => ?_) (fun f cdv A outer s H vs Q E hr h => ?_)
  · obtain ⟨z, y, rfl, _⟩ := h
    rfl
  obtain ⟨z, y, rfl, hz, q⟩ := h
  refine ⟨_, (pss_one (ps_ret (pe_callB (call_all rfl) rfl B.all bt_all (pa_cons (pe_lc (defScope sPAllAmong) ["word", "signs"] (N := ["sign", "signs"]) (ix := [none, some 1]) rfl ⟨rfl, by decide +kernel, by decide +kernel, by decide +kernel, rfl, by decide +kernel⟩ (pi_str (pv 0)) (fun _ _ _ _ => pg_name (i := 0) (show (["sign", "signs"] : List Str).Nodup by decide +kernel) rfl (Or.inl rfl)) (fun _ _ _ _ => pts_nil) (fun _ _ _ _ => (pe_cmpR op_in1 (pv 0) (pv 1) (by with_unfolding_all rfl)))) pa_nil)))), ?_⟩
  refine ⟨_, rfl, z, rfl, fun D hD => ?_⟩
  refine lc_str (z := z) (fun i ys σ H2 => ∃ c0 : Option V, σ = [c0, some (.str y)] ∧ ys = (((cs z).take i).map fun c => decide (c ∈ cs y)).map V.bl ∧ H2 D = some (.lst ys) ∧ Same H H2)
    ⟨none, rfl, rfl, upd_same, Same.new hD _⟩ ?_ ?_
  · rintro i c ys σ H2 hc ⟨c0, rfl, rfl, h2, s2⟩
    have hc' : (cs z)[i]? = some c := by rw [← hc]; exact Array.getElem?_toList
    have hi := (List.getElem?_eq_some_iff.mp hc').1
    rw [cs_len] at hi
    refine ⟨_, rfl, _, rfl, c, y, rfl, rfl, h2, small1000 (by rw [List.length_map, List.length_map, List.length_take]; omega), _, rfl, ?_, upd_same, fun a o e => by rw [upd_ne (ne_of_none e hD)]; exact s2 _ _ e⟩
    rw [List.take_add_one, hc', List.map_append, List.map_append]
    rfl
  rintro ys σ H2 ⟨c0, rfl, rfl, h2, s2⟩
  rw [List.take_of_length_le (by rw [cs_len]; exact Nat.le_refl _)] at h2
  refine ⟨D, _, rfl, SqL.of h2, bl_eq (q _ s2) ?_⟩
  rw [List.all_map]
  rfl
theorem scIsName : FnScope ["word"] ["word"] (defScope sPIsName) := ⟨rfl, rfl, rfl, by decide +kernel, rfl, by decide +kernel, by decide +kernel⟩
theorem ok_isName (h : Has K mg "is_name" sPIsName ["word"]) (B : Blt mg) (gl : Glb K mg) (cA : Cal P w K mg base 1 "all_among" ["word", "signs"] spAmong) : Cal P w K mg base 2 "is_name" ["word"] spIsName := by
  refine h.cal scIsName (fun vs H Q E h => ?_) (fun f cdv A outer s H vs Q E hr h => ?_)
  · obtain ⟨z, rfl, _⟩ := h
    rfl
  obtain ⟨z, rfl, hz, q⟩ := h
  obtain ⟨t1, m1⟩ := gl.MOST_LETTERS
  obtain ⟨t2, m2⟩ := gl.LETTERS
  obtain ⟨at', m3, hT⟩ := gl.TAKEN
  refine ⟨_, (pss_cons (ps_if (pt_not (pt_chain op_le op_le pe_int (pe_callB call_len_str rfl B.len bt_len (pa_cons (pv 0) pa_nil)) (pe_glob (v := .int 8) rfl m1 ⟨_, rfl⟩))) (pss_one (ps_ret pe_bl)) pss_nil)
    (pss_one (ps_ret (pe_and (pe_cal cA hr rfl (pa_cons (pv 0) (pa_cons (pe_glob (v := .str abc) rfl m2 ⟨_, rfl⟩) pa_nil))) (pe_one (pe_cmpR op_notIn_seq (pv 0) (pe_glob (v := .ref at') rfl m3 rfl) (by with_unfolding_all rfl))))))), ?_⟩
  have late : 1 ≤ z.length ∧ z.length ≤ 8 → tRet (tAndV (tCall spAmong [] E0 (tCons (tVar 0) (tCons (tC (V.str abc)) tNil))) (tOp (rIn K true) (tVar 0) (tC (V.ref at')))) { nx := fun x H' => Q V.non H', rt := Q } (L2.start ["word"] [V.str z]) H := fun hb => by
    refine ⟨_, rfl, z, abc, rfl, hz, fun H1 s1 => ?_⟩
    have el : ((cs z).all fun c => decide (c ∈ cs abc)) = (cs z).all isL := by
      congr 1
      funext c
      exact in_abc c
    rw [el]
    refine ⟨_, rfl, ?_⟩
    cases ha : (cs z).all isL with
    | false => exact bl_eq (q _ s1) (by unfold isNm; rw [ha, Bool.false_and, Bool.and_false])
    | true =>
      refine ⟨_, rfl, at', _, rfl, .inr (hT _), rfl, rfl, ?_⟩
      refine bl_eq (q _ s1) ?_
      show (!inV (V.str z) (taken.map V.str)) = _
      rw [inV_strs]
      unfold isNm
      rw [ha, Bool.true_and, decide_eq_true hb, Bool.true_and]
  refine ⟨_, rfl, z, rfl, Nat.le_of_lt (small1000 hz), _, _, rfl, rfl, _, rfl, ?_⟩
  by_cases h1 : 1 ≤ z.length
  · refine ite_t (by show (1 : Int) ≤ (z.length : Int); omega) ⟨_, _, rfl, rfl, _, rfl, ?_⟩
    by_cases h8 : z.length ≤ 8
    · refine iteC (by show (!decide ((z.length : Int) ≤ 8)) = false; rw [decide_eq_true (by omega)]; rfl) (late ⟨h1, h8⟩)
    · refine iteB (by show (!decide ((z.length : Int) ≤ 8)) = true; rw [decide_eq_false (by omega)]; rfl) ?_
      exact bl_eq (q _ (Same.refl _)) (by unfold isNm; rw [decide_eq_false (fun y => h8 y.2), Bool.false_and])
  · refine ite_f (by show ¬ (1 : Int) ≤ (z.length : Int); omega) ?_
    refine ⟨_, rfl, iteB rfl ?_⟩
    exact bl_eq (q _ (Same.refl _)) (by unfold isNm; rw [decide_eq_false (fun y => h1 y.1), Bool.false_and])
theorem scFigures : FnScope ["word"] ["word"] (defScope sPAreFigures) := ⟨rfl, rfl, rfl, by decide +kernel, rfl, by decide +kernel, by decide +kernel⟩
theorem ok_figures (h : Has K mg "are_figures" sPAreFigures ["word"]) (B : Blt mg) (gl : Glb K mg) (cA : Cal P w K mg base 1 "all_among" ["word", "signs"] spAmong) : Cal P w K mg base 2 "are_figures" ["word"] spFigures := by
  refine h.cal scFigures (fun vs H Q E h => ?_) (fun f cdv A outer s H vs Q E hr h => ?_)
  · obtain ⟨z, rfl, _⟩ := h
    rfl
  obtain ⟨z, rfl, hz, q⟩ := h
  obtain ⟨t1, m1⟩ := gl.MOST_FIGURES
  obtain ⟨t2, m2⟩ := gl.FIGURES
  refine ⟨_, (pss_cons (ps_if (PW.pt (pw_or (pt_not (pt_chain op_le op_le pe_int (pe_callB call_len_str rfl B.len bt_len (pa_cons (pv 0) pa_nil)) (pe_glob (v := .int 3) rfl m1 ⟨_, rfl⟩))) (pw_or1 (pt_not (pt_val (pe_cal cA hr rfl (pa_cons (pv 0) (pa_cons (pe_glob (v := .str fgs) rfl m2 ⟨_, rfl⟩) pa_nil)))))))) (pss_one (ps_ret pe_bl)) pss_nil)
    (pss_one (ps_ret (pe_or (pe_cmpR op_eq (pv 0) pe_str (nomark _)) (pe_one (pe_cmpR op_ne (pe_ix ix_str (pv 0) pe_int (fun _ _ => rfl)) pe_str (nomark _))))))), ?_⟩
  have no : ∀ H', Same H H' → ¬ (1 ≤ z.length ∧ z.length ≤ 3) → Q (.bl false) H' := fun H' s' hn => bl_eq (q _ s') (by unfold isFg; rw [decide_eq_false hn, Bool.false_and])
  refine ⟨_, rfl, z, rfl, Nat.le_of_lt (small1000 hz), _, _, rfl, rfl, _, rfl, ?_⟩
  by_cases h1 : 1 ≤ z.length
  · refine ite_t (by show (1 : Int) ≤ (z.length : Int); omega) ⟨_, _, rfl, rfl, _, rfl, ?_⟩
    by_cases h3 : z.length ≤ 3
    · refine iteC (by show (!decide ((z.length : Int) ≤ 3)) = false; rw [decide_eq_true (by omega)]; rfl) ?_
      refine ⟨_, rfl, z, fgs, rfl, hz, fun H1 s1 => ?_⟩
      have el : ((cs z).all fun c => decide (c ∈ cs fgs)) = (cs z).all isD := by
        congr 1
        funext c
        exact in_fgs c
      rw [el]
      refine ⟨_, rfl, ?_⟩
      cases ha : (cs z).all isD with
      | false => exact iteB rfl (bl_eq (q _ s1) (by unfold isFg; rw [ha, Bool.false_and, Bool.and_false]))
      | true =>
        refine iteC rfl ?_
        have hf : isFg z = (decide (z = "0") || !decide ((cs z)[0]? = some 48)) := by unfold isFg; rw [ha, Bool.true_and, decide_eq_true ⟨h1, h3⟩, Bool.true_and]
        refine ⟨_, rfl, rfl, _, rfl, ?_⟩
        by_cases e0 : z = "0"
        · refine ite_t (by rw [e0]) (bl_eq (q _ s1) ?_)
          rw [hf, decide_eq_true e0, Bool.true_or]
          first | done | exact decide_eq_true (by rw [e0])
        · refine ite_f (fun y => e0 (V.str.inj y)) ?_
          have h0 : 0 < (cs z).length := by rw [cs_len]; exact h1
          have hc := List.getElem?_eq_getElem h0
          generalize (cs z)[0] = c at hc
          refine ⟨_, rfl, z, ((0 : Nat) : Int), c, rfl, rfl, Nat.le_of_lt (small1000 hz), atI_nat hc, rfl, bl_eq (q _ s1) ?_⟩
          rw [hf, decide_eq_false e0, Bool.false_or, hc]
          congr 1
          rw [Bool.eq_iff_iff, decide_eq_true_iff, decide_eq_true_iff]
          constructor
          · intro y
            have y := congrArg cs (V.str.inj y)
            have e48 : cs "0" = [48] := by decide +kernel
            rw [e48] at y
            have y : [c] = [48] := y
            cases y
            rfl
          · intro y
            cases y
            rfl
    · refine iteB (by show (!decide ((z.length : Int) ≤ 3)) = true; rw [decide_eq_false (by omega)]; rfl) ?_
      exact iteT (no _ (Same.refl _) fun y => h3 y.2)
  · refine ite_f (by show ¬ (1 : Int) ≤ (z.length : Int); omega) ?_
    exact ⟨_, rfl, iteB rfl (iteT (no _ (Same.refl _) fun y => h1 y.1))⟩
end
/-! ### numbers -/
theorem cs_from (x : Str) {j : Nat} (h : j ≤ x.length) : cs (Txt.slice x (some (j : Int)) none) = (cs x).drop j := by
  have := PyProof.Rows.slice_closes_fromL (x := x) (i := (j : Int)) (b := x.length) (by omega) (by omega) rfl
  have e := eq_of_beq this
  rw [e]
  have hl := cs_len x
  unfold cs at hl ⊢
  simp
  exact List.take_of_length_le (by rw [List.length_drop, hl]; omega)
def figOf (z : Str) : Str := if Txt.startswith z "-" = true then Txt.slice z (some 1) none else z
def numOf (z : Str) : Option Int := if isFg (figOf z) = true ∧ z ≠ "-0" then PySem.intText? z else none
theorem starts_neg {z : Str} (h : Txt.startswith z "-" = true) : cs z = 45 :: cs (Txt.slice z (some 1) none) := by
  unfold Txt.startswith at h
  rw [Bool.and_eq_true] at h
  obtain ⟨h1, h2⟩ := h
  have hl : 1 ≤ z.length := of_decide_eq_true h1
  rw [StrLaws.subAt_eq] at h2
  have h3 := eq_of_beq h2
  have e45 : ("-" : Str).cps.toList = [45] := by decide +kernel
  have el : ("-" : Str).length = 1 := by decide +kernel
  rw [e45, el, List.drop_zero] at h3
  have hs : cs (Txt.slice z (some 1) none) = (cs z).drop 1 := cs_from z (j := 1) hl
  rw [hs]
  cases hc : cs z with
  | nil => have := cs_len z; rw [hc] at this; simp at this; omega
  | cons c r =>
    have h3 : (cs z).take 1 = [45] := h3
    rw [hc] at h3
    have h3 : [c] = [45] := h3
    cases h3
    rfl
theorem fg_digits {x : Str} (h : isFg x = true) : PySem.NumText.AllDigits (cs x) ∧ cs x ≠ [] ∧ x.length ≤ 3 := by
  unfold isFg at h
  rw [Bool.and_eq_true, Bool.and_eq_true] at h
  obtain ⟨h1, h2, _⟩ := h
  have h1 := of_decide_eq_true h1
  refine ⟨fun c hc => ?_, fun e => ?_, h1.2⟩
  · have := List.all_eq_true.mp h2 c hc
    exact of_decide_eq_true this
  · have := cs_len x
    rw [e] at this
    simp at this
    omega
theorem num_some {z : Str} (h : isFg (figOf z) = true) : ∃ n, PySem.intText? z = some n ∧ z.length ≤ 640 := by
  obtain ⟨h1, h2, h3⟩ := fg_digits h
  unfold figOf at h1 h2 h3
  by_cases hs : Txt.startswith z "-" = true
  · rw [if_pos hs] at h1 h2 h3
    have hz := starts_neg hs
    have hl : z.length ≤ 4 := by
      have := congrArg List.length hz
      rw [cs_len, List.length_cons, cs_len] at this
      omega
    exact ⟨_, PySem.intText_neg hz h1 h2 (by omega), by omega⟩
  · rw [if_neg hs] at h1 h2 h3
    exact ⟨_, PySem.intText_digits h1 h2 (by omega), by omega⟩
def spNumber (C : Addr) : Sp := fun vs H Q E => ∃ z : Str, vs = [.str z] ∧ z.length ≤ 1000 ∧ (∀ n, numOf z = some n → ∀ H', Same H H' → Q (.int n) H') ∧ (numOf z = none → ∀ H', Same H H' → E (.ref C) none H')
section
variable {P : Program} {w : World} {K : PySem.W.Frag} {mg : Str → Option Value} {base : Heap}
theorem scNumber : FnScope ["word", "figures"] ["word"] (defScope sPNumberOf) := ⟨rfl, rfl, rfl, by decide +kernel, rfl, by decide +kernel, by decide +kernel⟩
theorem ok_number {C : Addr} {bmB : List Value} {Bn newId initId : String} (h : Has K mg "number_of" sPNumberOf ["word"]) (B : Blt mg) (cF : Cal P w K mg base 2 "are_figures" ["word"] spFigures) (O : Exc K mg "NoRow" C bmB newId) (FB : ExcBaseFacts Bn newId initId bmB) : CalR P w K mg base 3 "number_of" ["word"] (spNumber C) := by
  refine h.calR scNumber (fun vs H Q E h => ?_) (fun f cdv A outer s H vs Q E hr h => ?_)
  · obtain ⟨z, rfl, _⟩ := h
    rfl
  obtain ⟨z, rfl, hz, q, qe⟩ := h
  have hr2 : Room 2 _ := hr
  refine ⟨_, (pss_cons (PS.nox (ps_set (i := 1) scNumber.nd rfl (Or.inl rfl) (pe_ifExp (pt_val (pe_bm PySem.F.plainAttrs_str PySem.F.slot_str_startswith PySem.F.type_str_startswith mt_starts (pv 0) (pa_cons pe_str pa_nil))) (pe_slice sl_str (pv 0) (po_some pe_int) po_none) (pv 0))))
    (pss_cons (ps_if (PT.nox (PW.pt (pw_or (pt_not (pt_val (pe_cal cF hr2 rfl (pa_cons (pv 1) pa_nil)))) (pw_or1 (pt_cmpR op_eq (pv 0) pe_str (nomark _)))))) (pss_one (ps_raise raiser_on rfl rfl O FB (pa_cons pe_str pa_nil))) pss_nil)
    (pss_one (PS.nox (ps_ret (pe_callTy call_int_text rfl B.int bt_int (pa_cons (pv 0) pa_nil))))))), ?_⟩
  refine seq_cut (fun σ' H' => σ' = [some (.str z), some (.str (figOf z))] ∧ H' = H) (fun R' hR' => ?_) ?_
  · refine ⟨_, rfl, rfl, z, "-", rfl, rfl, _, rfl, ?_⟩
    cases hs : Txt.startswith z "-" with
    | true => exact iteT ⟨_, rfl, _, rfl, z, rfl, Nat.le_of_lt (small1000 hz), hR' _ _ ⟨by unfold figOf; rw [if_pos hs]; rfl, rfl⟩⟩
    | false => exact iteF ⟨_, rfl, hR' _ _ ⟨by unfold figOf; rw [if_neg (by rw [hs]; decide)]; rfl, rfl⟩⟩
  rintro σ' H' ⟨rfl, rfl⟩
  have fl : (figOf z).length ≤ 1000 := by
    unfold figOf
    split
    · exact Nat.le_trans (Txt.slice_le z _ _) hz
    · exact hz
  refine ⟨_, rfl, figOf z, rfl, fl, fun H1 s1 => ?_⟩
  refine ⟨_, rfl, ?_⟩
  cases hf : isFg (figOf z) with
  | false =>
    refine iteT (iteT ⟨(by show 1 ≤ sizeLine; decide), qe ?_ _ s1⟩)
    unfold numOf
    rw [if_neg (by rw [hf]; exact fun y => Bool.false_ne_true y.1)]
  | true =>
    refine iteF ⟨_, rfl, rfl, _, rfl, ite_d (fun e => ?_) (fun e => ?_)⟩
    · refine ⟨(by show 1 ≤ sizeLine; decide), qe ?_ _ s1⟩
      unfold numOf
      rw [if_neg fun y => y.2 (V.str.inj e)]
    · obtain ⟨n, hn, hl⟩ := num_some hf
      refine ⟨_, rfl, z, n, rfl, hl, hn, q n ?_ _ s1⟩
      unfold numOf
      rw [if_pos ⟨hf, fun y => e (by rw [y])⟩]
      exact hn
end

/-! ### a Reading: the word and the place; r: the signs that are left -/
theorem pw_ne : ¬ (("word" : Str) = "place") := by decide +kernel
def flds (x : Str) (k : Nat) : List (Str × V) := putF "place" (.int (k : Int)) (putF "word" (.str x) [])
theorem flds_eq (x : Str) (k : Nat) : flds x k = ([("word", V.str x), ("place", V.int (k : Int))] : List (Str × V)) := by
  show (if ("word" : Str) = "place" then [(("word" : Str), V.int (k : Int))] else (("word" : Str), V.str x) :: putF "place" (V.int (k : Int)) []) = ([("word", V.str x), ("place", V.int (k : Int))] : List (Str × V))
  rw [if_neg pw_ne]
  all_goals rfl
theorem flds_word (x : Str) (k : Nat) : (flds x k).lookup ("word" : Str) = some (.str x) := by
  unfold flds
  rw [lookup_putF, if_neg pw_ne, lookup_putF, if_pos rfl]
theorem flds_place (x : Str) (k : Nat) : (flds x k).lookup ("place" : Str) = some (.int (k : Int)) := by
  unfold flds
  rw [lookup_putF, if_pos rfl]
theorem flds_no (x : Str) (k : Nat) {m : Str} (h1 : ¬ m = "place") (h2 : ¬ m = "word") : (flds x k).lookup m = none := by
  unfold flds
  rw [lookup_putF, if_neg h1, lookup_putF, if_neg h2]
  all_goals rfl
theorem flds_put (x : Str) (k : Nat) (y : Int) (j : Nat) (e : y = (j : Int)) : putF "place" (.int y) (flds x k) = flds x j := by
  subst e
  rw [flds_eq, flds_eq]
  show (if ("word" : Str) = "place" then _ else (("word" : Str), V.str x) :: (if ("place" : Str) = "place" then [(("place" : Str), V.int (j : Int))] else _)) = ([("word", V.str x), ("place", V.int (j : Int))] : List (Str × V))
  rw [if_neg pw_ne, if_pos rfl]
def ReadAt (C : Addr) (H : Hp) (a : Addr) (x : Str) (r : List Nat) : Prop := ∃ dx k, H a = some (.ins C dx (flds x k)) ∧ k ≤ x.length ∧ (cs x).drop k = r
def But (a : Addr) (H H' : Hp) : Prop := ∀ b o, H b = some o → b ≠ a → H' b = some o
theorem But.refl {a : Addr} {H : Hp} : But a H H := fun _ _ e _ => e
theorem But.trans {a : Addr} {H H1 H2 : Hp} (h : But a H H1) (g : But a H1 H2) : But a H H2 := fun b o e n => g b o (h b o e n) n
theorem But.of_same {a : Addr} {H H' : Hp} (h : Same H H') : But a H H' := fun b o e _ => h b o e
theorem But.upd {a : Addr} {H : Hp} {o : HO} : But a H (upd H a o) := fun b o e n => by rw [upd_ne n]; exact e
theorem ReadAt.same {C : Addr} {H H' : Hp} {a : Addr} {x : Str} {r : List Nat} (h : ReadAt C H a x r) (s : Same H H') : ReadAt C H' a x r := by
  obtain ⟨dx, k, h1, h2, h3⟩ := h
  exact ⟨dx, k, s _ _ h1, h2, h3⟩
def stands (r : List Nat) (p : Nat → Bool) : Bool := match r with | [] => false | c :: _ => p c
def amg (y : Str) (c : Nat) : Bool := decide (c ∈ cs y)
theorem drop_more {x : Str} {k : Nat} (h : k < x.length) : ∃ c, (cs x)[k]? = some c ∧ (cs x).drop k = c :: (cs x).drop (k + 1) := by
  have h' : k < (cs x).length := by rw [cs_len]; exact h
  exact ⟨_, List.getElem?_eq_getElem h', List.drop_eq_getElem_cons h'⟩
theorem cs_slice {x : Str} {k j : Nat} (h1 : k ≤ j) (h2 : j ≤ x.length) : cs (Txt.slice x (some (k : Int)) (some (j : Int))) = ((cs x).drop k).take (j - k) := by
  have := eq_of_beq (PyProof.Rows.slice_closesL (x := x) (i := (k : Int)) (j := (j : Int)) (by omega) (by omega) (by omega))
  rw [this]
  have e : ((j : Int) - (k : Int)).toNat = j - k := by omega
  rw [e]
  rfl
structure TxR (K : PySem.W.Frag) (mg : Str → Option Value) (C : Addr) : Prop where
  cl : Cls K C
  nW : NoAttr K C "word"
  nP : NoAttr K C "place"
  mgC : mg "Reading" = some (.ref C)
def spRInit (C : Addr) : Sp := fun vs H Q _ => ∃ (a dx : Addr) (x : Str), vs = [.ref a, .str x] ∧ H a = some (.ins C dx []) ∧ ∀ H', ReadAt C H' a x (cs x) → But a H H' → Q .non H'
def spStands (C : Addr) : Sp := fun vs H Q _ => ∃ (a : Addr) (x y : Str) (r : List Nat), vs = [.ref a, .str y] ∧ ReadAt C H a x r ∧ x.length ≤ 1000 ∧ Q (.bl (stands r (amg y))) H
def spTake (C : Addr) : Sp := fun vs H Q _ => ∃ (a : Addr) (x : Str) (c : Nat) (r : List Nat), vs = [.ref a] ∧ ReadAt C H a x (c :: r) ∧ x.length ≤ 1000 ∧ ∀ H', ReadAt C H' a x r → But a H H' → Q (.str ⟨#[c]⟩) H'
def spTakeAll (C : Addr) : Sp := fun vs H Q _ => ∃ (a : Addr) (x y : Str) (r : List Nat), vs = [.ref a, .str y] ∧ ReadAt C H a x r ∧ x.length ≤ 1000 ∧
  ∀ z H', cs z = r.takeWhile (amg y) → ReadAt C H' a x (r.dropWhile (amg y)) → But a H H' → Q (.str z) H'
section
variable {P : Program} {w : World} {K : PySem.W.Frag} {mg : Str → Option Value} {base : Heap} {C : Addr}
theorem scRInit : FnScope ["self", "word"] ["self", "word"] (defScope sMInit) := ⟨rfl, rfl, rfl, by decide +kernel, rfl, by decide +kernel, by decide +kernel⟩
theorem ok_rinit {f : Addr} {fd : FuncData} (F : Fun K "__init__" "Reading.__init__" sMInit f fd) (T : TxR K mg C) : FnOk P w K mg base CX0 1 f fd ["self", "word"] (spRInit C) := by
  refine F.ok scRInit (fun vs H Q E h => ?_) (fun cdv A outer s H vs Q E hr h => ?_)
  · obtain ⟨a, dx, x, rfl, _⟩ := h
    rfl
  obtain ⟨a, dx, x, rfl, ha, q⟩ := h
  refine ⟨_, pss_cons (ps_fld (pv 0) (pv 1) rfl) (pss_one (ps_fld (pv 0) pe_int rfl)), ?_⟩
  refine ⟨_, rfl, _, rfl, a, C, dx, [], rfl, ha, T.cl, T.nW, (by show 0 < 1000; decide), _, rfl, a, C, dx, _, rfl, upd_same, T.cl, T.nP, (by show 1 < 1000; decide), ?_⟩
  exact q _ ⟨dx, 0, upd_same, Nat.zero_le _, List.drop_zero⟩ (But.upd.trans But.upd)
theorem scStands : FnScope ["self", "signs"] ["self", "signs"] (defScope sMStandsAt) := ⟨rfl, rfl, rfl, by decide +kernel, rfl, by decide +kernel, by decide +kernel⟩
theorem ok_stands (h : HasM K C "stands_at" "Reading.stands_at" sMStandsAt ["self", "signs"]) (B : Blt mg) (T : TxR K mg C) : MCal P w K mg base 1 C "stands_at" ["self", "signs"] (spStands C) := by
  refine h.cal scStands (fun vs H Q E h => ?_) (fun f cdv A outer s H vs Q E hr h => ?_)
  · obtain ⟨a, x, y, r, rfl, _⟩ := h
    rfl
  obtain ⟨a, x, y, r, rfl, ⟨dx, k, ha, hk, hd⟩, hx, q⟩ := h
  refine ⟨_, pss_one (ps_ret (pe_and (pe_cmpR op_lt (pe_fld (pv 0) rfl) (pe_callB call_len_str rfl B.len bt_len (pa_cons (pe_fld (pv 0) rfl) pa_nil)) (by with_unfolding_all rfl)) (pe_one (pe_cmpR op_in1 (pe_ix ix_str (pe_fld (pv 0) rfl) (pe_fld (pv 0) rfl) (fun _ _ => rfl)) (pv 1) (by with_unfolding_all rfl))))), ?_⟩
  refine ⟨_, rfl, a, C, dx, _, _, rfl, ha, T.cl, T.nP, flds_place _ _, _, rfl, a, C, dx, _, _, rfl, ha, T.cl, T.nW, flds_word _ _, x, rfl, Nat.le_of_lt (small1000 hx), _, _, rfl, rfl, _, rfl, ?_⟩
  by_cases hlt : k < x.length
  · obtain ⟨c, hc, hd2⟩ := drop_more hlt
    rw [hd2] at hd
    subst hd
    refine iteB (decide_eq_true (by omega)) ⟨_, rfl, a, C, dx, _, _, rfl, ha, T.cl, T.nW, flds_word _ _, _, rfl, a, C, dx, _, _, rfl, ha, T.cl, T.nP, flds_place _ _, x, (k : Int), c, rfl, rfl, Nat.le_of_lt (small1000 hx), atI_nat hc, _, rfl, c, y, rfl, rfl, q⟩
  · have e : (cs x).drop k = [] := List.drop_eq_nil_of_le (by rw [cs_len]; omega)
    rw [e] at hd
    subst hd
    exact iteC (decide_eq_false (by omega)) q
theorem scTake : FnScope ["self", "sign"] ["self"] (defScope sMTake) := ⟨rfl, rfl, rfl, by decide +kernel, rfl, by decide +kernel, by decide +kernel⟩
theorem ok_take (h : HasM K C "take" "Reading.take" sMTake ["self"]) (T : TxR K mg C) : MCal P w K mg base 1 C "take" ["self"] (spTake C) := by
  refine h.cal scTake (fun vs H Q E h => ?_) (fun f cdv A outer s H vs Q E hr h => ?_)
  · obtain ⟨a, x, c, r, rfl, _⟩ := h
    rfl
  obtain ⟨a, x, c, r, rfl, ⟨dx, k, ha, hk, hd⟩, hx, q⟩ := h
  refine ⟨_, pss_cons (ps_set (i := 1) scTake.nd rfl (Or.inl rfl) (pe_ix ix_str (pe_fld (pv 0) rfl) (pe_fld (pv 0) rfl) (fun _ _ => rfl)))
    (pss_cons (ps_fldaug (pv 0) pe_int in_add) (pss_one (ps_ret (pv 1)))), ?_⟩
  have hlt : k < x.length := by
    have := congrArg List.length hd
    rw [List.length_drop, cs_len, List.length_cons] at this
    omega
  obtain ⟨c', hc, hd2⟩ := drop_more hlt
  rw [hd2] at hd
  cases hd
  refine ⟨_, rfl, a, C, dx, _, _, rfl, ha, T.cl, T.nW, flds_word _ _, _, rfl, a, C, dx, _, _, rfl, ha, T.cl, T.nP, flds_place _ _, x, (k : Int), c, rfl, rfl, Nat.le_of_lt (small1000 hx), atI_nat hc, ?_⟩
  refine ⟨_, rfl, a, C, dx, _, _, rfl, ha, T.cl, T.nP, flds_place _ _, _, _, rfl, rfl, dx, _, ha, (by rw [flds_eq]; show 2 < 1000; decide), ?_⟩
  refine ⟨_, rfl, q _ ⟨dx, k + 1, ?_, hlt, rfl⟩ But.upd⟩
  rw [upd_same, flds_put x k _ (k + 1) (by omega)]
theorem scTakeAll : FnScope ["self", "signs", "start"] ["self", "signs"] (defScope sMTakeAll) := ⟨rfl, rfl, rfl, by decide +kernel, rfl, by decide +kernel, by decide +kernel⟩
theorem ok_takeAll (h : HasM K C "take_all" "Reading.take_all" sMTakeAll ["self", "signs"]) (T : TxR K mg C) (cS : MCal P w K mg base 1 C "stands_at" ["self", "signs"] (spStands C)) : MCal P w K mg base 2 C "take_all" ["self", "signs"] (spTakeAll C) := by
  refine h.cal scTakeAll (fun vs H Q E h => ?_) (fun f cdv A outer s H vs Q E hr h => ?_)
  · obtain ⟨a, x, y, r, rfl, _⟩ := h
    rfl
  obtain ⟨a, x, y, r, rfl, ⟨dx, k, ha, hk, hd⟩, hx, q⟩ := h
  refine ⟨_, pss_cons (ps_set (i := 2) scTakeAll.nd rfl (Or.inl rfl) (pe_fld (pv 0) rfl))
    (pss_cons (ps_while PassesOwn.never (pt_val (pe_mcal cS T.cl hr (pv 0) (pa_cons (pv 1) pa_nil))) (pss_one (ps_fldaug (pv 0) pe_int in_add)))
    (pss_one (ps_ret (pe_slice sl_str (pe_fld (pv 0) rfl) (po_some (pv 2)) (po_some (pe_fld (pv 0) rfl)))))), ?_⟩
  refine ⟨_, rfl, a, C, dx, _, _, rfl, ha, T.cl, T.nP, flds_place _ _, ?_⟩
  refine ⟨fun m σ H2 => ∃ j, m = x.length - j ∧ σ = [some (.ref a), some (.str y), some (.int (k : Int))] ∧ k ≤ j ∧ j ≤ x.length ∧ H2 a = some (.ins C dx (flds x j)) ∧ But a H H2 ∧
    r.takeWhile (amg y) = r.take (j - k) ++ ((cs x).drop j).takeWhile (amg y) ∧ r.dropWhile (amg y) = ((cs x).drop j).dropWhile (amg y), ⟨_, k, rfl, rfl, Nat.le_refl _, hk, ha, But.refl, by rw [Nat.sub_self, List.take_zero, hd]; rfl, by rw [hd]⟩, ?_⟩
  rintro m σ H2 ⟨j, rfl, rfl, hj1, hj2, h2, b2, t1, t2⟩
  refine ⟨_, rfl, a, dx, _, rfl, h2, flds_no _ _ (by decide +kernel) (by decide +kernel), _, rfl, a, x, y, _, rfl, ⟨dx, j, h2, hj2, rfl⟩, hx, _, rfl, ?_⟩
  have hd' : (cs x).drop k = r := hd
  have fin : r.takeWhile (amg y) = r.take (j - k) → r.dropWhile (amg y) = (cs x).drop j → Q (.str (Txt.slice x (some (k : Int)) (some (j : Int)))) H2 := fun e1 e2 =>
    q _ H2 (by rw [cs_slice hj1 hj2, hd', e1]) ⟨dx, j, h2, hj2, e2.symm⟩ b2
  by_cases hlt : j < x.length
  · obtain ⟨c, hc, hd2⟩ := drop_more hlt
    rw [hd2] at t1 t2 ⊢
    cases hp : amg y c with
    | true =>
      refine iteB hp ⟨fun σ' H' => σ' = [some (.ref a), some (.str y), some (.int (k : Int))] ∧ H' = upd H2 a (.ins C dx (flds x (j + 1))), ?_, ?_⟩
      · rintro σ' H' ⟨rfl, rfl⟩
        refine ⟨x.length - (j + 1), by omega, j + 1, rfl, rfl, by omega, hlt, upd_same, b2.trans But.upd, ?_, ?_⟩
        · rw [t1, List.takeWhile_cons, if_pos hp]
          have e : j + 1 - k = (j - k) + 1 := by omega
          have hc' : r[j - k]? = some c := by
            rw [← hd', List.getElem?_drop, show k + (j - k) = j by omega]
            exact hc
          rw [e, List.take_add_one, hc']
          simp
        · rw [t2, List.dropWhile_cons, if_pos hp]
      · refine ⟨_, rfl, a, C, dx, _, _, rfl, h2, T.cl, T.nP, flds_place _ _, _, _, rfl, rfl, dx, _, h2, (by rw [flds_eq]; show 2 < 1000; decide), rfl, ?_⟩
        rw [flds_put x j _ (j + 1) (by omega)]
    | false =>
      refine iteC hp ⟨_, rfl, a, C, dx, _, _, rfl, h2, T.cl, T.nW, flds_word _ _, _, rfl, _, rfl, _, rfl, a, C, dx, _, _, rfl, h2, T.cl, T.nP, flds_place _ _, _, rfl, x, rfl, Nat.le_of_lt (small1000 hx), fin ?_ ?_⟩
      · rw [t1, List.takeWhile_cons, if_neg (by rw [hp]; decide), List.append_nil]
      · rw [t2, List.dropWhile_cons, if_neg (by rw [hp]; decide), hd2]
  · have e : (cs x).drop j = [] := List.drop_eq_nil_of_le (by rw [cs_len]; omega)
    rw [e] at t1 t2 ⊢
    refine iteC rfl ⟨_, rfl, a, C, dx, _, _, rfl, h2, T.cl, T.nW, flds_word _ _, _, rfl, _, rfl, _, rfl, a, C, dx, _, _, rfl, h2, T.cl, T.nP, flds_place _ _, _, rfl, x, rfl, Nat.le_of_lt (small1000 hx), fin ?_ ?_⟩
    · rw [t1]
      exact List.append_nil _
    · rw [t2, e]
      rfl
end

/-! ### the parser as a function of the signs that are left -/
inductive Ex where
  | num (n : Int)
  | box (x : Str)
  | op (c : Nat) (l r : Ex)
def tx (l : List Nat) : Str := ⟨l.toArray⟩
theorem cs_tx (l : List Nat) : cs (tx l) = l := rfl
theorem tx_cs {z : Str} {l : List Nat} (h : cs z = l) : z = tx l := cs_inj h
abbrev Res := Option (Ex × List Nat)
def factorF (brk : List Nat → Res) (r : List Nat) : Res :=
  if stands r (amg "(") = true then brk r
  else if stands r (amg fgs) = true then (match numOf (tx (r.takeWhile (amg fgs))) with | some n => some (.num n, r.dropWhile (amg fgs)) | none => none)
  else if isNm (tx (r.takeWhile (amg abc))) = true then some (.box (tx (r.takeWhile (amg abc))), r.dropWhile (amg abc)) else none
def loopF (f : List Nat → Res) (p : Nat → Bool) : Nat → Ex → List Nat → Res
  | _, e, [] => some (e, [])
  | 0, e, c :: r => some (e, c :: r)
  | n + 1, e, c :: r => if p c = true then (match f r with | some (e2, r2) => loopF f p n (.op c e e2) r2 | none => none) else some (e, c :: r)
def headF (f : List Nat → Res) (p : Nat → Bool) (r : List Nat) : Res := match f r with | some (e, r1) => loopF f p r1.length e r1 | none => none
abbrev factorsF (brk : List Nat → Res) : List Nat → Res := headF (factorF brk) (amg "*")
abbrev termsF (brk : List Nat → Res) : List Nat → Res := headF (factorsF brk) (amg "+-")
def brkF : Nat → List Nat → Res
  | 0, _ => none
  | n + 1, r => match termsF (brkF n) (r.drop 1) with
    | some (e, r2) => if stands r2 (amg ")") = true then some (e, r2.drop 1) else none
    | none => none
def exprF (l : List Nat) : Option Ex := if 60 < l.length then none else match termsF (brkF 5) l with | some (e, []) => some e | _ => none
def Shr (f : List Nat → Res) : Prop := ∀ r e r', f r = some (e, r') → r'.length ≤ r.length
theorem drop_le (p : Nat → Bool) (r : List Nat) : (r.dropWhile p).length ≤ r.length := (List.dropWhile_suffix p).length_le
theorem shr_factor {brk : List Nat → Res} (h : Shr brk) : Shr (factorF brk) := by
  intro r e r' q
  unfold factorF at q
  split at q
  · exact h _ _ _ q
  split at q
  · cases hn : numOf (tx (r.takeWhile (amg fgs))) with
    | none => rw [hn] at q; cases q
    | some n => rw [hn] at q; cases q; exact drop_le _ _
  split at q
  · cases q; exact drop_le _ _
  · cases q
theorem shr_loop {f : List Nat → Res} {p : Nat → Bool} (h : Shr f) : ∀ (n : Nat) (e : Ex) (r : List Nat) (e' : Ex) (r' : List Nat), loopF f p n e r = some (e', r') → r'.length ≤ r.length
  | n, e, [], e', r', q => by
    unfold loopF at q
    cases q
    exact Nat.le_refl _
  | 0, e, c :: r, e', r', q => by
    unfold loopF at q
    cases q
    exact Nat.le_refl _
  | n + 1, e, c :: r, e', r', q => by
    unfold loopF at q
    split at q
    · cases hf : f r with
      | none => rw [hf] at q; cases q
      | some er =>
        obtain ⟨e2, r2⟩ := er
        rw [hf] at q
        have h1 := h _ _ _ hf
        have h2 := shr_loop h n _ _ _ _ q
        rw [List.length_cons]
        omega
    · cases q
      exact Nat.le_refl _
theorem shr_head {f : List Nat → Res} {p : Nat → Bool} (h : Shr f) : Shr (headF f p) := by
  intro r e r' q
  unfold headF at q
  cases hf : f r with
  | none => rw [hf] at q; cases q
  | some er =>
    obtain ⟨e2, r2⟩ := er
    rw [hf] at q
    exact Nat.le_trans (shr_loop h _ _ _ _ _ q) (h _ _ _ hf)
theorem shr_terms {brk : List Nat → Res} (h : Shr brk) : Shr (termsF brk) := shr_head (shr_head (shr_factor h))
theorem shr_brk : ∀ n, Shr (brkF n)
  | 0 => fun r e r' q => by cases q
  | n + 1 => fun r e r' q => by
    unfold brkF at q
    cases ht : termsF (brkF n) (r.drop 1) with
    | none => rw [ht] at q; cases q
    | some er =>
      obtain ⟨e2, r2⟩ := er
      rw [ht] at q
      have h1 := shr_terms (shr_brk n) _ _ _ ht
      simp only at q
      split at q
      · cases q
        rw [List.length_drop] at h1 ⊢
        omega
      · cases q
/-! ### trees in the heap -/
def TreeAt (H : Hp) : Ex → V → Prop
  | .num n, v => ∃ p, v = .ref p ∧ H p = some (.tup [.str "number", .int n])
  | .box x, v => ∃ p, v = .ref p ∧ H p = some (.tup [.str "box", .str x])
  | .op c l r, v => ∃ p vl vr, v = .ref p ∧ H p = some (.tup [.str ⟨#[c]⟩, vl, vr]) ∧ TreeAt H l vl ∧ TreeAt H r vr
theorem TreeAt.mono {H H' : Hp} (h : ∀ p xs, H p = some (.tup xs) → H' p = some (.tup xs)) : ∀ (e : Ex) (v : V), TreeAt H e v → TreeAt H' e v
  | .num n, v, ⟨p, e1, e2⟩ => ⟨p, e1, h _ _ e2⟩
  | .box x, v, ⟨p, e1, e2⟩ => ⟨p, e1, h _ _ e2⟩
  | .op c l r, v, ⟨p, vl, vr, e1, e2, t1, t2⟩ => ⟨p, vl, vr, e1, h _ _ e2, TreeAt.mono h l vl t1, TreeAt.mono h r vr t2⟩
theorem TreeAt.same {H H' : Hp} {e : Ex} {v : V} (t : TreeAt H e v) (h : Same H H') : TreeAt H' e v := TreeAt.mono (fun p xs q => h _ _ q) e v t
theorem ReadAt.ins {C : Addr} {H : Hp} {a : Addr} {x : Str} {r : List Nat} (h : ReadAt C H a x r) : ∀ xs, H a ≠ some (.tup xs) := by
  obtain ⟨dx, k, h1, _⟩ := h
  intro xs e
  rw [h1] at e
  cases e
theorem TreeAt.but {H H' : Hp} {e : Ex} {v : V} {a : Addr} (t : TreeAt H e v) (n : ∀ xs, H a ≠ some (.tup xs)) (h : But a H H') : TreeAt H' e v :=
  TreeAt.mono (fun p xs q => h _ _ q fun z => n xs (by rw [← z]; exact q)) e v t
theorem ReadAt.len {C : Addr} {H : Hp} {a : Addr} {x : Str} {r : List Nat} (h : ReadAt C H a x r) : r.length ≤ x.length := by
  obtain ⟨dx, k, h1, h2, h3⟩ := h
  rw [← h3, List.length_drop, cs_len]
  omega
def spP (C NR : Addr) (F : List Nat → Res) (D : Int) : Sp := fun vs H Q E => ∃ (a : Addr) (x : Str) (r : List Nat), vs = [.ref a, .int D] ∧ ReadAt C H a x r ∧ x.length ≤ 60 ∧
  (∀ e r' v H', F r = some (e, r') → ReadAt C H' a x r' → But a H H' → TreeAt H' e v → Q v H') ∧ (F r = none → ∀ H', But a H H' → E (.ref NR) none H')
def spB (C NR : Addr) (F : List Nat → Res) (D : Int) : Sp := fun vs H Q E => ∃ (a : Addr) (x : Str) (r : List Nat), vs = [.ref a, .int D] ∧ ReadAt C H a x r ∧ x.length ≤ 60 ∧ stands r (amg "(") = true ∧
  (∀ e r' v H', F r = some (e, r') → ReadAt C H' a x r' → But a H H' → TreeAt H' e v → Q v H') ∧ (F r = none → ∀ H', But a H H' → E (.ref NR) none H')
section
variable {P : Program} {w : World} {K : PySem.W.Frag} {mg : Str → Option Value} {base : Heap} {C NR : Addr} {bmB : List Value} {Bn newId initId : String} {k : Nat} {D : Int} {F : List Nat → Res}
theorem scFactor : FnScope ["reading", "depth", "name"] ["reading", "depth"] (defScope sPFactor) := ⟨rfl, rfl, rfl, by decide +kernel, rfl, by decide +kernel, by decide +kernel⟩
theorem ok_factor (h : Has K mg "factor" sPFactor ["reading", "depth"]) (B : Blt mg) (gl : Glb K mg) (T : TxR K mg C) (O : Exc K mg "NoRow" NR bmB newId) (FB : ExcBaseFacts Bn newId initId bmB)
    (cS : MCal P w K mg base 1 C "stands_at" ["self", "signs"] (spStands C)) (cT : MCal P w K mg base 2 C "take_all" ["self", "signs"] (spTakeAll C)) (cN : CalR P w K mg base 3 "number_of" ["word"] (spNumber NR)) (cI : Cal P w K mg base 2 "is_name" ["word"] spIsName)
    (cB : CalR P w K mg base (k + 3) "bracketed" ["reading", "depth"] (spB C NR F (D + 1))) : CalR P w K mg base (k + 4) "factor" ["reading", "depth"] (spP C NR (factorF F) D) := by
  refine h.calR scFactor (fun vs H Q E h => ?_) (fun f cdv A outer s H vs Q E hr h => ?_)
  · obtain ⟨a, x, r, rfl, _⟩ := h
    rfl
  obtain ⟨a, x, r, rfl, R, hx, q, qe⟩ := h
  obtain ⟨t1, m1⟩ := gl.FIGURES
  obtain ⟨t2, m2⟩ := gl.LETTERS
  have hr1 : Room 1 _ := hr.mono (by omega)
  have hr2 : Room 2 _ := hr.mono (by omega)
  have hr3 : Room 3 _ := hr.mono (by omega)
  refine ⟨_, (pss_cons (ps_if (pt_val (pe_mcal cS T.cl hr1 (pv 0) (pa_cons pe_str pa_nil))) (pss_one (ps_ret (pe_calR cB hr pass_on rfl (pa_cons (pv 0) (pa_cons (pe_op op_add (pv 1) pe_int) pa_nil))))) pss_nil)
    (pss_cons (ps_if (pt_val (pe_mcal cS T.cl hr1 (pv 0) (pa_cons (pe_glob (v := .str fgs) rfl m1 ⟨_, rfl⟩) pa_nil))) (pss_one (ps_ret (pe_tup (pa_cons pe_str (pa_cons (pe_calR cN hr3 pass_on rfl (pa_cons (pe_mcal cT T.cl hr2 (pv 0) (pa_cons (pe_glob (v := .str fgs) rfl m1 ⟨_, rfl⟩) pa_nil)) pa_nil)) pa_nil))))) pss_nil)
    (pss_cons (ps_set (i := 2) scFactor.nd rfl (Or.inl rfl) (pe_mcal cT T.cl hr2 (pv 0) (pa_cons (pe_glob (v := .str abc) rfl m2 ⟨_, rfl⟩) pa_nil)))
    (pss_cons (ps_if (pt_not (pt_val (pe_cal cI hr2 rfl (pa_cons (pv 2) pa_nil)))) (pss_one (ps_raise raiser_on rfl rfl O FB (pa_cons pe_str pa_nil))) pss_nil)
    (pss_one (ps_ret (pe_tup (pa_cons pe_str (pa_cons (pv 2) pa_nil))))))))), ?_⟩
  obtain ⟨dx, j, ha, _, _⟩ := id R
  have hx' : x.length ≤ 1000 := by omega
  refine ⟨_, rfl, a, dx, _, rfl, ha, flds_no _ _ (by decide +kernel) (by decide +kernel), a, x, "(", r, rfl, R, hx', _, rfl, ?_⟩
  have hF : factorF F r = if stands r (amg "(") = true then F r
    else if stands r (amg fgs) = true then (match numOf (tx (r.takeWhile (amg fgs))) with | some n => some (.num n, r.dropWhile (amg fgs)) | none => none)
    else if isNm (tx (r.takeWhile (amg abc))) = true then some (.box (tx (r.takeWhile (amg abc))), r.dropWhile (amg abc)) else none := rfl
  have lw : ∀ p : Nat → Bool, (tx (r.takeWhile p)).length ≤ 1000 := fun p => by
    rw [← cs_len, cs_tx]
    have h1 := (List.takeWhile_prefix p (l := r)).length_le
    have h2 := R.len
    omega
  cases h1 : stands r (amg "(") with
  | true =>
    rw [if_pos h1] at hF
    refine iteB rfl ⟨_, rfl, _, rfl, _, _, rfl, rfl, a, x, r, rfl, R, hx, h1, fun e r' v H' hf => q e r' v H' (hF.trans hf), fun hf => qe (hF.trans hf)⟩
  | false =>
    rw [if_neg (by rw [h1]; decide)] at hF
    refine iteC rfl ⟨_, rfl, a, dx, _, rfl, ha, flds_no _ _ (by decide +kernel) (by decide +kernel), a, x, fgs, r, rfl, R, hx', _, rfl, ?_⟩
    cases h2 : stands r (amg fgs) with
    | true =>
      rw [if_pos h2] at hF
      refine iteB rfl ⟨_, rfl, a, dx, _, rfl, ha, flds_no _ _ (by decide +kernel) (by decide +kernel), a, x, fgs, r, rfl, R, hx', fun z H1 hz R1 b1 => ?_⟩
      cases tx_cs hz
      refine ⟨_, rfl, lw _, fun n hn H2 s2 => ?_, fun hn H2 s2 => ?_⟩
      · refine ⟨(by show 2 ≤ sizeLine; decide), fun p hp => ?_⟩
        rw [hn] at hF
        have s3 : Same H1 (upd H2 p (.tup [.str "number", .int n])) := fun b o e => by rw [upd_ne (ne_of_none (s2 _ _ e) hp)]; exact s2 _ _ e
        exact q _ _ _ _ hF (R1.same s3) (b1.trans (But.of_same s3)) ⟨p, rfl, upd_same⟩
      · rw [hn] at hF
        exact qe hF _ (b1.trans (But.of_same s2))
    | false =>
      rw [if_neg (by rw [h2]; decide)] at hF
      refine iteC rfl ⟨_, rfl, a, dx, _, rfl, ha, flds_no _ _ (by decide +kernel) (by decide +kernel), a, x, abc, r, rfl, R, hx', fun z H1 hz R1 b1 => ?_⟩
      cases tx_cs hz
      refine ⟨_, rfl, _, rfl, lw _, fun H2 s2 => ⟨_, rfl, ?_⟩⟩
      cases h3 : isNm (tx (r.takeWhile (amg abc))) with
      | true =>
        rw [if_pos h3] at hF
        refine iteC rfl ⟨_, rfl, (by show 2 ≤ sizeLine; decide), fun p hp => ?_⟩
        have s3 : Same H1 (upd H2 p (.tup [.str "box", .str (tx (r.takeWhile (amg abc)))])) := fun b o e => by rw [upd_ne (ne_of_none (s2 _ _ e) hp)]; exact s2 _ _ e
        exact q _ _ _ _ hF (R1.same s3) (b1.trans (But.of_same s3)) ⟨p, rfl, upd_same⟩
      | false =>
        rw [if_neg (by rw [h3]; decide)] at hF
        exact iteB rfl ⟨(by show 1 ≤ sizeLine; decide), qe hF _ (b1.trans (But.of_same s2))⟩
theorem scFactors : FnScope ["reading", "depth", "e", "sign"] ["reading", "depth"] (defScope sPFactors) := ⟨rfl, rfl, rfl, by decide +kernel, rfl, by decide +kernel, by decide +kernel⟩
theorem ok_factors (h : Has K mg "factors" sPFactors ["reading", "depth"]) (T : TxR K mg C) (hs : Shr F)
    (cS : MCal P w K mg base 1 C "stands_at" ["self", "signs"] (spStands C)) (cT : MCal P w K mg base 1 C "take" ["self"] (spTake C))
    (cF : CalR P w K mg base (k + 1) "factor" ["reading", "depth"] (spP C NR F D)) : CalR P w K mg base (k + 2) "factors" ["reading", "depth"] (spP C NR (headF F (amg "*")) D) := by
  refine h.calR scFactors (fun vs H Q E h => ?_) (fun f cdv A outer s H vs Q E hr h => ?_)
  · obtain ⟨a, x, r, rfl, _⟩ := h
    rfl
  obtain ⟨a, x, r, rfl, R, hx, q, qe⟩ := h
  have hr1 : Room 1 _ := hr.mono (by omega)
  have hx' : x.length ≤ 1000 := by omega
  refine ⟨_, (pss_cons (ps_set (i := 2) scFactors.nd rfl (Or.inl rfl) (pe_calR cF hr pass_on rfl (pa_cons (pv 0) (pa_cons (pv 1) pa_nil))))
    (pss_cons (ps_while (own_on rfl) (pt_val (pe_mcal cS T.cl hr1 (pv 0) (pa_cons pe_str pa_nil)))
      (pss_cons (ps_set (i := 3) scFactors.nd rfl (Or.inl rfl) (pe_mcal0 cT T.cl hr1 (pv 0)))
      (pss_one (ps_set (i := 2) scFactors.nd rfl (Or.inl rfl) (pe_tup (pa_cons (pv 3) (pa_cons (pv 2) (pa_cons (pe_calR cF hr pass_on rfl (pa_cons (pv 0) (pa_cons (pv 1) pa_nil))) pa_nil))))))))
    (pss_one (ps_ret (pv 2))))), ?_⟩
  have hH : headF F (amg "*") r = match F r with | some (e, r1) => loopF F (amg "*") r1.length e r1 | none => none := rfl
  refine ⟨_, rfl, _, rfl, a, x, r, rfl, R, hx, fun e0 r1 v0 H1 hf R1 b1 t1 => ?_, fun hf H1 b1 => ?_⟩
  rotate_left
  · rw [hf] at hH
    exact qe hH _ b1
  rw [hf] at hH
  refine ⟨fun m σ H2 => ∃ (e : Ex) (v : V) (r2 : List Nat) (s0 : Option V), σ = [some (.ref a), some (.int D), some v, s0] ∧ r2.length ≤ m ∧ ReadAt C H2 a x r2 ∧ But a H H2 ∧ TreeAt H2 e v ∧ loopF F (amg "*") m e r2 = headF F (amg "*") r,
    ⟨r1.length, e0, v0, r1, none, rfl, Nat.le_refl _, R1, b1, t1, hH.symm⟩, ?_⟩
  rintro m σ H2 ⟨e, v, r2, s0, rfl, hm, R2, b2, t2, hl⟩
  obtain ⟨dx, j, ha, _, _⟩ := id R2
  refine ⟨_, rfl, a, dx, _, rfl, ha, flds_no _ _ (by decide +kernel) (by decide +kernel), a, x, "*", r2, rfl, R2, hx', _, rfl, ?_⟩
  cases r2 with
  | nil =>
    have hl' : headF F (amg "*") r = some (e, []) := by rw [← hl]; unfold loopF; rfl
    exact iteC rfl ⟨_, rfl, q _ _ _ _ hl' R2 b2 t2⟩
  | cons c r3 =>
    cases hp : amg "*" c with
    | false =>
      have hl' : headF F (amg "*") r = some (e, c :: r3) := by
        rw [← hl]
        cases m with
        | zero => unfold loopF; rfl
        | succ n => unfold loopF; rw [if_neg (by rw [hp]; decide)]
      exact iteC hp ⟨_, rfl, q _ _ _ _ hl' R2 b2 t2⟩
    | true =>
      cases m with
      | zero => rw [List.length_cons] at hm; omega
      | succ n =>
        have hl2 : loopF F (amg "*") (n + 1) e (c :: r3) = match F r3 with | some (e2, r4) => loopF F (amg "*") n (.op c e e2) r4 | none => none := by
          rw [loopF, if_pos hp]
        refine iteB hp ⟨_, fun σ' H' z => z, ?_⟩
        refine ⟨_, rfl, a, dx, _, rfl, ha, flds_no _ _ (by decide +kernel) (by decide +kernel), a, x, c, r3, rfl, R2, hx', fun H3 R3 b3 => ?_⟩
        refine ⟨_, rfl, _, rfl, _, rfl, _, rfl, a, x, r3, rfl, R3, hx, fun e2 r4 v2 H4 hf2 R4 b4 t4 => ?_, fun hf2 H4 b4 => ?_⟩
        · refine ⟨(by show 3 ≤ sizeLine; decide), fun p hp2 => ?_⟩
          have s5 : Same H4 (upd H4 p (.tup [.str ⟨#[c]⟩, v, v2])) := Same.new hp2 _
          have t2' : TreeAt H4 e v := (t2.but R2.ins b3).but R3.ins b4
          rw [hf2] at hl2
          refine ⟨n, Nat.lt_succ_self n, .op c e e2, .ref p, r4, some (.str ⟨#[c]⟩), rfl, ?_, R4.same s5, ((b2.trans b3).trans b4).trans (But.of_same s5), ⟨p, v, v2, rfl, upd_same, t2'.same s5, t4.same s5⟩, hl2.symm.trans hl⟩
          have h5 := hs _ _ _ hf2
          rw [List.length_cons] at hm
          omega
        · rw [hf2] at hl2
          exact qe (hl.symm.trans hl2) _ ((b2.trans b3).trans b4)
theorem scTerms : FnScope ["reading", "depth", "e", "sign"] ["reading", "depth"] (defScope sPTerms) := ⟨rfl, rfl, rfl, by decide +kernel, rfl, by decide +kernel, by decide +kernel⟩
theorem ok_terms (h : Has K mg "terms" sPTerms ["reading", "depth"]) (T : TxR K mg C) (hs : Shr F)
    (cS : MCal P w K mg base 1 C "stands_at" ["self", "signs"] (spStands C)) (cT : MCal P w K mg base 1 C "take" ["self"] (spTake C))
    (cF : CalR P w K mg base (k + 1) "factors" ["reading", "depth"] (spP C NR F D)) : CalR P w K mg base (k + 2) "terms" ["reading", "depth"] (spP C NR (headF F (amg "+-")) D) := by
  refine h.calR scTerms (fun vs H Q E h => ?_) (fun f cdv A outer s H vs Q E hr h => ?_)
  · obtain ⟨a, x, r, rfl, _⟩ := h
    rfl
  obtain ⟨a, x, r, rfl, R, hx, q, qe⟩ := h
  have hr1 : Room 1 _ := hr.mono (by omega)
  have hx' : x.length ≤ 1000 := by omega
  refine ⟨_, (pss_cons (ps_set (i := 2) scTerms.nd rfl (Or.inl rfl) (pe_calR cF hr pass_on rfl (pa_cons (pv 0) (pa_cons (pv 1) pa_nil))))
    (pss_cons (ps_while (own_on rfl) (pt_val (pe_mcal cS T.cl hr1 (pv 0) (pa_cons pe_str pa_nil)))
      (pss_cons (ps_set (i := 3) scTerms.nd rfl (Or.inl rfl) (pe_mcal0 cT T.cl hr1 (pv 0)))
      (pss_one (ps_set (i := 2) scTerms.nd rfl (Or.inl rfl) (pe_tup (pa_cons (pv 3) (pa_cons (pv 2) (pa_cons (pe_calR cF hr pass_on rfl (pa_cons (pv 0) (pa_cons (pv 1) pa_nil))) pa_nil))))))))
    (pss_one (ps_ret (pv 2))))), ?_⟩
  have hH : headF F (amg "+-") r = match F r with | some (e, r1) => loopF F (amg "+-") r1.length e r1 | none => none := rfl
  refine ⟨_, rfl, _, rfl, a, x, r, rfl, R, hx, fun e0 r1 v0 H1 hf R1 b1 t1 => ?_, fun hf H1 b1 => ?_⟩
  rotate_left
  · rw [hf] at hH
    exact qe hH _ b1
  rw [hf] at hH
  refine ⟨fun m σ H2 => ∃ (e : Ex) (v : V) (r2 : List Nat) (s0 : Option V), σ = [some (.ref a), some (.int D), some v, s0] ∧ r2.length ≤ m ∧ ReadAt C H2 a x r2 ∧ But a H H2 ∧ TreeAt H2 e v ∧ loopF F (amg "+-") m e r2 = headF F (amg "+-") r,
    ⟨r1.length, e0, v0, r1, none, rfl, Nat.le_refl _, R1, b1, t1, hH.symm⟩, ?_⟩
  rintro m σ H2 ⟨e, v, r2, s0, rfl, hm, R2, b2, t2, hl⟩
  obtain ⟨dx, j, ha, _, _⟩ := id R2
  refine ⟨_, rfl, a, dx, _, rfl, ha, flds_no _ _ (by decide +kernel) (by decide +kernel), a, x, "+-", r2, rfl, R2, hx', _, rfl, ?_⟩
  cases r2 with
  | nil =>
    have hl' : headF F (amg "+-") r = some (e, []) := by rw [← hl]; unfold loopF; rfl
    exact iteC rfl ⟨_, rfl, q _ _ _ _ hl' R2 b2 t2⟩
  | cons c r3 =>
    cases hp : amg "+-" c with
    | false =>
      have hl' : headF F (amg "+-") r = some (e, c :: r3) := by
        rw [← hl]
        cases m with
        | zero => unfold loopF; rfl
        | succ n => unfold loopF; rw [if_neg (by rw [hp]; decide)]
      exact iteC hp ⟨_, rfl, q _ _ _ _ hl' R2 b2 t2⟩
    | true =>
      cases m with
      | zero => rw [List.length_cons] at hm; omega
      | succ n =>
        have hl2 : loopF F (amg "+-") (n + 1) e (c :: r3) = match F r3 with | some (e2, r4) => loopF F (amg "+-") n (.op c e e2) r4 | none => none := by
          rw [loopF, if_pos hp]
        refine iteB hp ⟨_, fun σ' H' z => z, ?_⟩
        refine ⟨_, rfl, a, dx, _, rfl, ha, flds_no _ _ (by decide +kernel) (by decide +kernel), a, x, c, r3, rfl, R2, hx', fun H3 R3 b3 => ?_⟩
        refine ⟨_, rfl, _, rfl, _, rfl, _, rfl, a, x, r3, rfl, R3, hx, fun e2 r4 v2 H4 hf2 R4 b4 t4 => ?_, fun hf2 H4 b4 => ?_⟩
        · refine ⟨(by show 3 ≤ sizeLine; decide), fun p hp2 => ?_⟩
          have s5 : Same H4 (upd H4 p (.tup [.str ⟨#[c]⟩, v, v2])) := Same.new hp2 _
          have t2' : TreeAt H4 e v := (t2.but R2.ins b3).but R3.ins b4
          rw [hf2] at hl2
          refine ⟨n, Nat.lt_succ_self n, .op c e e2, .ref p, r4, some (.str ⟨#[c]⟩), rfl, ?_, R4.same s5, ((b2.trans b3).trans b4).trans (But.of_same s5), ⟨p, v, v2, rfl, upd_same, t2'.same s5, t4.same s5⟩, hl2.symm.trans hl⟩
          have h5 := hs _ _ _ hf2
          rw [List.length_cons] at hm
          omega
        · rw [hf2] at hl2
          exact qe (hl.symm.trans hl2) _ ((b2.trans b3).trans b4)
end

def spExpr (NR : Addr) : Sp := fun vs H Q E => ∃ x : Str, vs = [.str x] ∧ x.length ≤ 1000000 ∧ (∀ e v H', exprF (cs x) = some e → Same H H' → TreeAt H' e v → Q v H') ∧ (exprF (cs x) = none → ∀ H', Same H H' → E (.ref NR) none H')
theorem smallM {n : Nat} (h : n ≤ 1000000) : n < sizeLine := Nat.lt_of_le_of_lt h (by decide)
section
variable {P : Program} {w : World} {K : PySem.W.Frag} {mg : Str → Option Value} {base : Heap} {C NR : Addr} {bmB : List Value} {Bn newId initId : String} {k : Nat} {D : Int} {F : List Nat → Res}
theorem scBracketed : FnScope ["reading", "depth", "e"] ["reading", "depth"] (defScope sPBracketed) := ⟨rfl, rfl, rfl, by decide +kernel, rfl, by decide +kernel, by decide +kernel⟩
theorem stands_cons {r : List Nat} {p : Nat → Bool} (h : stands r p = true) : ∃ c r', r = c :: r' ∧ p c = true := by
  cases r with
  | nil => cases h
  | cons c r' => exact ⟨c, r', rfl, h⟩
theorem ok_brk (h : Has K mg "bracketed" sPBracketed ["reading", "depth"]) (hT : Has K mg "terms" sPTerms ["reading", "depth"]) (gl : Glb K mg) (T : TxR K mg C) (O : Exc K mg "NoRow" NR bmB newId) (FB : ExcBaseFacts Bn newId initId bmB)
    (cS : MCal P w K mg base 1 C "stands_at" ["self", "signs"] (spStands C)) (cT : MCal P w K mg base 1 C "take" ["self"] (spTake C))
    (cF : ∀ n, n < k → CalR P w K mg base (4 * n + 6) "terms" ["reading", "depth"] (spP C NR (termsF (brkF n)) (5 - (n : Int)))) (hk : k ≤ 6) : CalR P w K mg base (4 * k + 3) "bracketed" ["reading", "depth"] (spB C NR (brkF k) (6 - (k : Int))) := by
  obtain ⟨t1, m1⟩ := gl.MOST_BRACKETS
  cases k with
  | zero =>
    have cF : CalR P w K mg base 1 "terms" ["reading", "depth"] (fun _ _ _ _ => False) := hT.calR (k := 0) scTerms (fun _ _ _ _ z => z.elim) fun _ _ _ _ _ _ _ _ _ _ z => z.elim
    refine h.calR scBracketed (fun vs H Q E h => ?_) (fun f cdv A outer s H vs Q E hr h => ?_)
    · obtain ⟨a, x, r, rfl, _⟩ := h
      rfl
    obtain ⟨a, x, r, rfl, R, hx, hs, q, qe⟩ := h
    have hr1 : Room 1 _ := hr.mono (by omega)
    refine ⟨_, (pss_cons (ps_if (pt_cmpR op_gt (pv 1) (pe_glob (v := .int 5) rfl m1 ⟨_, rfl⟩) (nomark _)) (pss_one (ps_raise raiser_on rfl rfl O FB (pa_cons pe_str pa_nil))) pss_nil)
      (pss_cons (ps_expr (pe_mcal0 cT T.cl hr1 (pv 0)))
      (pss_cons (ps_set (i := 2) scBracketed.nd rfl (Or.inl rfl) (pe_calR (E := E) cF hr1 pass_on rfl (pa_cons (pv 0) (pa_cons (pv 1) pa_nil))))
      (pss_cons (ps_if (pt_not (pt_val (pe_mcal cS T.cl hr1 (pv 0) (pa_cons pe_str pa_nil)))) (pss_one (ps_raise raiser_on rfl rfl O FB (pa_cons pe_str pa_nil))) pss_nil)
      (pss_cons (ps_expr (pe_mcal0 cT T.cl hr1 (pv 0)))
      (pss_one (ps_ret (pv 2)))))))), ?_⟩
    exact ⟨_, rfl, _, _, rfl, rfl, _, rfl, iteB (decide_eq_true (by decide)) ⟨(by show 1 ≤ sizeLine; decide), qe rfl _ But.refl⟩⟩
  | succ n =>
    have cF := cF n (Nat.lt_succ_self n)
    refine h.calR scBracketed (fun vs H Q E h => ?_) (fun f cdv A outer s H vs Q E hr h => ?_)
    · obtain ⟨a, x, r, rfl, _⟩ := h
      rfl
    obtain ⟨a, x, r, rfl, R, hx, hs, q, qe⟩ := h
    have hr1 : Room 1 _ := hr.mono (by omega)
    have hx' : x.length ≤ 1000 := by omega
    obtain ⟨c, r', rfl, hc⟩ := stands_cons hs
    obtain ⟨dx, j, ha, _, _⟩ := id R
    refine ⟨_, (pss_cons (ps_if (pt_cmpR op_gt (pv 1) (pe_glob (v := .int 5) rfl m1 ⟨_, rfl⟩) (nomark _)) (pss_one (ps_raise raiser_on rfl rfl O FB (pa_cons pe_str pa_nil))) pss_nil)
      (pss_cons (ps_expr (pe_mcal0 cT T.cl hr1 (pv 0)))
      (pss_cons (ps_set (i := 2) scBracketed.nd rfl (Or.inl rfl) (pe_calR cF (hr.mono (by omega)) pass_on rfl (pa_cons (pv 0) (pa_cons (pv 1) pa_nil))))
      (pss_cons (ps_if (pt_not (pt_val (pe_mcal cS T.cl hr1 (pv 0) (pa_cons pe_str pa_nil)))) (pss_one (ps_raise raiser_on rfl rfl O FB (pa_cons pe_str pa_nil))) pss_nil)
      (pss_cons (ps_expr (pe_mcal0 cT T.cl hr1 (pv 0)))
      (pss_one (ps_ret (pv 2)))))))), ?_⟩
    have hB : brkF (n + 1) (c :: r') = match termsF (brkF n) r' with | some (e, r2) => if stands r2 (amg ")") = true then some (e, r2.drop 1) else none | none => none := rfl
    refine ⟨_, rfl, _, _, rfl, rfl, _, rfl, iteC (decide_eq_false (by omega)) ?_⟩
    refine ⟨_, rfl, a, dx, _, rfl, ha, flds_no _ _ (by decide +kernel) (by decide +kernel), a, x, c, r', rfl, R, hx', fun H1 R1 b1 => ?_⟩
    refine ⟨_, rfl, _, rfl, a, x, r', (by rw [show (6 - ((n + 1 : Nat) : Int)) = 5 - (n : Int) by omega]; rfl), R1, hx, fun e r2 v H2 hf R2 b2 t2 => ?_, fun hf H2 b2 => ?_⟩
    · rw [hf] at hB
      obtain ⟨dx2, j2, ha2, _, _⟩ := id R2
      refine ⟨_, rfl, a, dx2, _, rfl, ha2, flds_no _ _ (by decide +kernel) (by decide +kernel), a, x, ")", r2, rfl, R2, hx', _, rfl, ?_⟩
      cases h2 : stands r2 (amg ")") with
      | false =>
        have hB' : brkF (n + 1) (c :: r') = none := hB.trans (if_neg (by rw [h2]; decide))
        exact iteB rfl ⟨(by show 1 ≤ sizeLine; decide), qe hB' _ (b1.trans b2)⟩
      | true =>
        have hB' : brkF (n + 1) (c :: r') = some (e, r2.drop 1) := hB.trans (if_pos h2)
        obtain ⟨c2, r3, rfl, _⟩ := stands_cons h2
        refine iteC rfl ⟨_, rfl, a, dx2, _, rfl, ha2, flds_no _ _ (by decide +kernel) (by decide +kernel), a, x, c2, r3, rfl, R2, hx', fun H3 R3 b3 => ?_⟩
        exact ⟨_, rfl, q _ _ _ _ hB' R3 ((b1.trans b2).trans b3) (t2.but R2.ins b3)⟩
    · rw [hf] at hB
      exact qe hB _ (b1.trans b2)
/-- every level of brackets -/
theorem ok_levels (hB : Has K mg "bracketed" sPBracketed ["reading", "depth"]) (hT : Has K mg "terms" sPTerms ["reading", "depth"]) (hFs : Has K mg "factors" sPFactors ["reading", "depth"]) (hF : Has K mg "factor" sPFactor ["reading", "depth"])
    (B : Blt mg) (gl : Glb K mg) (T : TxR K mg C) (O : Exc K mg "NoRow" NR bmB newId) (FB : ExcBaseFacts Bn newId initId bmB)
    (cS : MCal P w K mg base 1 C "stands_at" ["self", "signs"] (spStands C)) (cT : MCal P w K mg base 1 C "take" ["self"] (spTake C)) (cA : MCal P w K mg base 2 C "take_all" ["self", "signs"] (spTakeAll C))
    (cN : CalR P w K mg base 3 "number_of" ["word"] (spNumber NR)) (cI : Cal P w K mg base 2 "is_name" ["word"] spIsName) :
    ∀ n, n ≤ 6 → CalR P w K mg base (4 * n + 6) "terms" ["reading", "depth"] (spP C NR (termsF (brkF n)) (5 - (n : Int))) := by
  intro n
  induction n using Nat.strongRecOn with
  | _ n ih =>
    intro hn
    have cB := ok_brk (k := n) hB hT gl T O FB cS cT (fun m hm => ih m hm (by omega)) hn
    rw [show (6 - (n : Int)) = (5 - (n : Int)) + 1 by omega] at cB
    have c1 := ok_factor (k := 4 * n) hF B gl T O FB cS cA cN cI cB
    have c2 := ok_factors (k := 4 * n + 3) hFs T (shr_factor (shr_brk n)) cS cT c1
    exact ok_terms (k := 4 * n + 4) hT T (shr_head (shr_factor (shr_brk n))) cS cT c2
theorem scExpression : FnScope ["word", "reading", "e"] ["word"] (defScope sPExpression) := ⟨rfl, rfl, rfl, by decide +kernel, rfl, by decide +kernel, by decide +kernel⟩
theorem ok_expression {fI : Addr} {fdI : FuncData} (h : Has K mg "expression" sPExpression ["word"]) (B : Blt mg) (gl : Glb K mg) (T : TxR K mg C) (O : Exc K mg "NoRow" NR bmB newId) (FB : ExcBaseFacts Bn newId initId bmB) (M : Mk K C fI) (bI : Binds K fdI ["self", "word"] [])
    (G : FnOk P w K mg base CX0 1 fI fdI ["self", "word"] (spRInit C)) (cF : CalR P w K mg base 26 "terms" ["reading", "depth"] (spP C NR (termsF (brkF 5)) 0)) : CalR P w K mg base 27 "expression" ["word"] (spExpr NR) := by
  refine h.calR scExpression (fun vs H Q E h => ?_) (fun f cdv A outer s H vs Q E hr h => ?_)
  · obtain ⟨x, rfl, _⟩ := h
    rfl
  obtain ⟨x, rfl, hx, q, qe⟩ := h
  obtain ⟨t1, m1⟩ := gl.MOST_SIGNS
  have hr2 : Room (1 + 1) _ := hr.mono (by decide)
  refine ⟨_, (pss_cons (ps_if (pt_cmpR op_gt (pe_callB call_len_str rfl B.len bt_len (pa_cons (pv 0) pa_nil)) (pe_glob (v := .int 60) rfl m1 ⟨_, rfl⟩) (nomark _)) (pss_one (ps_raise raiser_on rfl rfl O FB (pa_cons pe_str pa_nil))) pss_nil)
    (pss_cons (ps_set (i := 1) scExpression.nd rfl (Or.inl rfl) (pe_make M G hr2 rfl T.mgC bI .nil pass0 (pa_cons (pv 0) pa_nil)))
    (pss_cons (ps_set (i := 2) scExpression.nd rfl (Or.inl rfl) (pe_calR cF hr pass_on rfl (pa_cons (pv 1) (pa_cons pe_int pa_nil))))
    (pss_cons (ps_if (pt_cmpR op_lt (pe_fld (pv 1) rfl) (pe_callB call_len_str rfl B.len bt_len (pa_cons (pv 0) pa_nil)) (nomark _)) (pss_one (ps_raise raiser_on rfl rfl O FB (pa_cons pe_str pa_nil))) pss_nil)
    (pss_one (ps_ret (pv 2))))))), ?_⟩
  have hE : exprF (cs x) = if 60 < (cs x).length then none else match termsF (brkF 5) (cs x) with | some (e, []) => some e | _ => none := rfl
  rw [cs_len] at hE
  refine ⟨_, rfl, x, rfl, Nat.le_of_lt (smallM hx), _, _, rfl, rfl, _, rfl, ?_⟩
  by_cases h60 : 60 < x.length
  · rw [if_pos h60] at hE
    exact iteB (decide_eq_true (by omega)) ⟨(by show 1 ≤ sizeLine; decide), qe hE _ (Same.refl _)⟩
  rw [if_neg h60] at hE
  refine iteC (decide_eq_false (by omega)) ⟨_, rfl, fun a dx na nd ne => ⟨a, dx, x, rfl, upd_same, fun H1 R1 b1 => ⟨rfl, ?_⟩⟩⟩
  have s1 : ∀ H', But a H1 H' → Same H H' := fun H' b b0 o e => b _ _ (b1 _ _ (by rw [upd_ne (ne_of_none e na), upd_ne (ne_of_none e nd)]; exact e) (ne_of_none e na)) (ne_of_none e na)
  refine ⟨_, rfl, a, x, cs x, rfl, R1, by omega, fun e r' v H2 hf R2 b2 t2 => ?_, fun hf H2 b2 => ?_⟩
  · rw [hf] at hE
    obtain ⟨dx2, j, ha, hj, hd⟩ := id R2
    refine ⟨_, rfl, a, C, dx2, _, _, rfl, ha, T.cl, T.nP, flds_place _ _, _, rfl, x, rfl, Nat.le_of_lt (smallM hx), _, _, rfl, rfl, _, rfl, ?_⟩
    cases r' with
    | nil =>
      have : x.length ≤ j := by
        have := congrArg List.length hd
        rw [List.length_drop, cs_len, List.length_nil] at this
        omega
      exact iteC (decide_eq_false (by omega)) ⟨_, rfl, q _ _ _ hE (s1 _ b2) t2⟩
    | cons c r2 =>
      have : j < x.length := by
        have := congrArg List.length hd
        rw [List.length_drop, cs_len, List.length_cons] at this
        omega
      exact iteB (decide_eq_true (by omega)) ⟨(by show 1 ≤ sizeLine; decide), qe hE _ (s1 _ b2)⟩
  · rw [hf] at hE
    exact qe hE _ (s1 _ b2)
end

/-! ### written words: where brackets stand -/
/-- a leaf as it is written: a number's figures or a name -/
def Leaf (e : Ex) (t : List Nat) : Prop := (∃ n, e = .num n ∧ t ≠ [] ∧ (∀ c ∈ t, amg fgs c = true) ∧ numOf (tx t) = some n) ∨ (∃ x, e = .box x ∧ t = cs x ∧ t ≠ [] ∧ (∀ c ∈ t, amg abc c = true) ∧ isNm x = true)
theorem amg_eq (y : Str) {l : List Nat} (h : cs y = l) (c : Nat) : amg y c = decide (c ∈ l) := by
  unfold amg
  rw [h]
theorem amg_op (c : Nat) : amg "(" c = decide (c = 40) := by rw [amg_eq "(" (l := [40]) (by decide +kernel)]; simp
theorem amg_cl (c : Nat) : amg ")" c = decide (c = 41) := by rw [amg_eq ")" (l := [41]) (by decide +kernel)]; simp
theorem amg_st (c : Nat) : amg "*" c = decide (c = 42) := by rw [amg_eq "*" (l := [42]) (by decide +kernel)]; simp
theorem amg_pm (c : Nat) : amg "+-" c = decide (c = 43 ∨ c = 45) := by rw [amg_eq "+-" (l := [43, 45]) (by decide +kernel)]; simp
theorem amg_fg (c : Nat) : amg fgs c = isD c := in_fgs c
theorem amg_ab (c : Nat) : amg abc c = isL c := in_abc c
theorem isD_iff {c : Nat} : isD c = true ↔ 48 ≤ c ∧ c ≤ 57 := by unfold isD; exact decide_eq_true_iff
theorem isL_iff {c : Nat} : isL c = true ↔ 97 ≤ c ∧ c ≤ 122 := by unfold isL; exact decide_eq_true_iff

theorem call_str_text {X : Cx} : CallR X (.type "str") (fun xs H Q => (∃ z, xs = [.str z] ∧ Q (.str z) H) ∨ ∃ i : Int, xs = [.int i] ∧ 0 ≤ i ∧ i < 1000 ∧ Q (.str (toString i)) H) := by
  intro pins s σ H xs us Q I r h
  rcases h with ⟨z, rfl, q⟩ | ⟨i, rfl, h0, h1, q⟩
  · obtain ⟨u, rfl, t, rfl⟩ := r.one
    exact PySem.P.str_of_str ⟨.str z, H, I, ⟨_, rfl⟩, q⟩
  · refine call_str_int pins s σ H _ us Q I r ⟨i, rfl, ?_, q⟩
    have := Nat.log2_le_self i.natAbs
    omega
/-! ### the law's trees -/
abbrev nms : List Str := ["a", "m", "boxes", "xx", "zyx", "ins", "iff", "rivers", "vw", "wavemor", "nota", "mu"]
def Ex.ok : Ex → Prop
  | .num n => 0 ≤ n ∧ n < 1000
  | .box x => x ∈ nms
  | .op c l r => (c = 42 ∨ c = 43 ∨ c = 45) ∧ l.ok ∧ r.ok
def Ex.hgt : Ex → Nat
  | .num _ => 0
  | .box _ => 0
  | .op _ l r => max l.hgt r.hgt + 1
def Ex.lvs : Ex → Nat
  | .num _ => 1
  | .box _ => 1
  | .op _ l r => l.lvs + r.lvs
def lfOk (n : Nat) : Bool := let t : Str := Str.ofString (toString (n : Int)); !(cs t).isEmpty && ((cs t).all isD && (isFg t && (!(Txt.startswith t "-") && decide (t.length ≤ 7))))
theorem lf_all : (List.range 1000).all lfOk = true := by decide +kernel
theorem leaf_of {t : Str} {n : Int} (a1 : (!(cs t).isEmpty) = true) (a2 : (cs t).all isD = true) (a3 : isFg t = true) (a4 : (!(Txt.startswith t "-")) = true) (hr : PySem.intText? t = some n) : Leaf (.num n) (cs t) := by
  have hs : Txt.startswith t "-" = false := by
    cases z : Txt.startswith t "-" with
    | false => rfl
    | true => rw [z] at a4; cases a4
  refine .inl ⟨_, rfl, ?_, fun c hc => ?_, ?_⟩
  · intro e
    rw [e] at a1
    cases a1
  · rw [amg_fg]
    exact List.all_eq_true.mp a2 c hc
  · have et : tx (cs t) = t := cs_inj (cs_tx _)
    have ef : figOf t = t := by
      unfold figOf
      rw [if_neg (by rw [hs]; decide)]
    rw [et]
    unfold numOf
    have hne : t ≠ "-0" := fun e => by
      rw [e] at hs
      revert hs
      decide +kernel
    rw [ef, if_pos ⟨a3, hne⟩]
    exact hr
theorem lf_at {m : Nat} (h : m < 1000) : lfOk m = true := List.all_eq_true.mp lf_all m (List.mem_range.mpr h)
theorem lfOk_eq (m : Nat) {t : Str} (h : t = Str.ofString (toString (m : Int))) : lfOk m = (!(cs t).isEmpty && ((cs t).all isD && (isFg t && (!(Txt.startswith t "-") && decide (t.length ≤ 7))))) := by
  subst h
  rfl
theorem leaf_num {n : Int} (h0 : 0 ≤ n) (h1 : n < 1000) : Leaf (.num n) (cs (Str.ofString (toString n))) ∧ (Str.ofString (toString n)).length ≤ 7 := by
  have hr := PySem.W.KIN.num_reads h0 (by omega)
  obtain ⟨m, rfl⟩ := Int.eq_ofNat_of_zero_le h0
  have hm := lf_at (m := m) (by omega)
  rw [lfOk_eq m rfl] at hm
  generalize Str.ofString (toString (m : Int)) = t at hr hm ⊢
  rw [Bool.and_eq_true, Bool.and_eq_true, Bool.and_eq_true, Bool.and_eq_true] at hm
  obtain ⟨a1, a2, a3, a4, a5⟩ := hm
  exact ⟨leaf_of a1 a2 a3 a4 hr, of_decide_eq_true a5⟩

/-! ### a word's parts, and the walk over them -/
inductive Kd where
  | ltr | fig | oth
deriving DecidableEq
def kd (c : Nat) : Kd := if isD c = true then .fig else if isL c = true then .ltr else .oth
abbrev Pt := Kd × List Nat
def cns (c : Nat) : List Pt → List Pt
  | [] => [(kd c, [c])]
  | (k, t) :: r => if kd c = k ∧ k ≠ .oth then (k, c :: t) :: r else (kd c, [c]) :: (k, t) :: r
def toks : List Nat → List Pt
  | [] => []
  | c :: r => cns c (toks r)
def snc : List Pt → Nat → List Pt
  | [], c => [(kd c, [c])]
  | [(k, t)], c => if kd c = k ∧ k ≠ .oth then [(k, t ++ [c])] else [(k, t), (kd c, [c])]
  | p :: q :: r, c => p :: snc (q :: r) c
theorem cns_snc (a c : Nat) : ∀ ps : List Pt, cns a (snc ps c) = snc (cns a ps) c
  | [] => by
    show (if kd a = kd c ∧ kd c ≠ .oth then [(kd c, a :: [c])] else [(kd a, [a]), (kd c, [c])]) = if kd c = kd a ∧ kd a ≠ .oth then [(kd a, [a] ++ [c])] else [(kd a, [a]), (kd c, [c])]
    by_cases h : kd a = kd c
    · rw [h]
      rfl
    · rw [if_neg fun y => h y.1, if_neg fun y => h y.1.symm]
  | [(k, t)] => by
    show cns a (if kd c = k ∧ k ≠ .oth then [(k, t ++ [c])] else [(k, t), (kd c, [c])]) = snc (if kd a = k ∧ k ≠ .oth then [(k, a :: t)] else [(kd a, [a]), (k, t)]) c
    by_cases h1 : kd c = k ∧ k ≠ .oth
    · rw [if_pos h1]
      by_cases h2 : kd a = k ∧ k ≠ .oth
      · rw [if_pos h2]
        show (if kd a = k ∧ k ≠ .oth then [(k, a :: (t ++ [c]))] else _) = if kd c = k ∧ k ≠ .oth then [(k, (a :: t) ++ [c])] else _
        rw [if_pos h1, if_pos h2]
        rfl
      · rw [if_neg h2]
        show (if kd a = k ∧ k ≠ .oth then _ else [(kd a, [a]), (k, t ++ [c])]) = (kd a, [a]) :: (if kd c = k ∧ k ≠ .oth then [(k, t ++ [c])] else _)
        rw [if_pos h1, if_neg h2]
    · rw [if_neg h1]
      by_cases h2 : kd a = k ∧ k ≠ .oth
      · rw [if_pos h2]
        show (if kd a = k ∧ k ≠ .oth then (k, a :: t) :: [(kd c, [c])] else _) = if kd c = k ∧ k ≠ .oth then _ else [(k, a :: t), (kd c, [c])]
        rw [if_neg h1, if_pos h2]
      · rw [if_neg h2]
        show (if kd a = k ∧ k ≠ .oth then _ else (kd a, [a]) :: (k, t) :: [(kd c, [c])]) = (kd a, [a]) :: (if kd c = k ∧ k ≠ .oth then _ else [(k, t), (kd c, [c])])
        rw [if_neg h1, if_neg h2]
  | (k, t) :: q :: r => by
    show cns a ((k, t) :: snc (q :: r) c) = snc (if kd a = k ∧ k ≠ .oth then (k, a :: t) :: q :: r else (kd a, [a]) :: (k, t) :: q :: r) c
    by_cases h2 : kd a = k ∧ k ≠ .oth
    · rw [if_pos h2]
      show (if kd a = k ∧ k ≠ .oth then (k, a :: t) :: snc (q :: r) c else _) = (k, a :: t) :: snc (q :: r) c
      rw [if_pos h2]
    · rw [if_neg h2]
      show (if kd a = k ∧ k ≠ .oth then _ else (kd a, [a]) :: (k, t) :: snc (q :: r) c) = (kd a, [a]) :: (k, t) :: snc (q :: r) c
      rw [if_neg h2]
theorem toks_snoc (c : Nat) : ∀ l : List Nat, toks (l ++ [c]) = snc (toks l) c
  | [] => rfl
  | a :: l => by
    show cns a (toks (l ++ [c])) = snc (cns a (toks l)) c
    rw [toks_snoc c l, cns_snc]
theorem snc_last (c : Nat) (k : Kd) (t : List Nat) : ∀ ps : List Pt, snc (ps ++ [(k, t)]) c = if kd c = k ∧ k ≠ .oth then ps ++ [(k, t ++ [c])] else ps ++ [(k, t)] ++ [(kd c, [c])]
  | [] => rfl
  | [p] => by
    show p :: snc [(k, t)] c = _
    show p :: (if kd c = k ∧ k ≠ .oth then [(k, t ++ [c])] else [(k, t), (kd c, [c])]) = _
    split
    · rfl
    · rfl
  | p :: q :: ps => by
    show p :: snc (q :: ps ++ [(k, t)]) c = _
    rw [snc_last c k t (q :: ps)]
    split
    · rfl
    · rfl
theorem toks_head (c : Nat) (r : List Nat) : ∃ t ps, toks (c :: r) = (kd c, c :: t) :: ps := by
  show ∃ t ps, cns c (toks r) = (kd c, c :: t) :: ps
  cases toks r with
  | nil => exact ⟨[], [], rfl⟩
  | cons p ps =>
    obtain ⟨k, t⟩ := p
    show ∃ t' ps', (if kd c = k ∧ k ≠ .oth then (k, c :: t) :: ps else (kd c, [c]) :: (k, t) :: ps) = (kd c, c :: t') :: ps'
    split
    · rename_i h
      exact ⟨t, ps, by rw [h.1]⟩
    · exact ⟨[], (k, t) :: ps, rfl⟩
theorem toks_new {c : Nat} {k : Kd} {r : List Nat} (hk : kd c = k) (h : k = .oth ∨ ∀ c' r', r = c' :: r' → kd c' ≠ k) : toks (c :: r) = (k, [c]) :: toks r := by
  subst hk
  show cns c (toks r) = _
  cases r with
  | nil => rfl
  | cons c' r' =>
    obtain ⟨t, ps, e⟩ := toks_head c' r'
    rw [e]
    show (if kd c = kd c' ∧ kd c' ≠ .oth then _ else (kd c, [c]) :: (kd c', c' :: t) :: ps) = _
    rw [if_neg]
    rintro ⟨h1, h2⟩
    rcases h with h | h
    · exact h2 (by rw [← h1]; exact h)
    · exact h c' r' rfl h1.symm
theorem toks_run {k : Kd} (hk : k ≠ .oth) : ∀ (t r : List Nat), t ≠ [] → (∀ c ∈ t, kd c = k) → (∀ c' r', r = c' :: r' → kd c' ≠ k) → toks (t ++ r) = (k, t) :: toks r
  | [], r, h, _, _ => absurd rfl h
  | [c], r, _, ha, hr => toks_new (ha c List.mem_cons_self) (.inr hr)
  | c :: c2 :: t, r, _, ha, hr => by
    show cns c (toks (c2 :: t ++ r)) = _
    rw [toks_run hk (c2 :: t) r (by simp) (fun x hx => ha x (List.mem_cons_of_mem _ hx)) hr]
    show (if kd c = k ∧ k ≠ .oth then (k, c :: c2 :: t) :: toks r else _) = _
    rw [if_pos ⟨ha c List.mem_cons_self, hk⟩]
def gf : Kd → List Nat → Bool
  | .ltr, t => decide (t.length ≤ 8) && !decide (tx t ∈ taken)
  | .fig, t => decide (t.length ≤ 3) && (decide (tx t = "0") || !decide (t[0]? = some 48))
  | .oth, _ => false
def wk : List Pt → Int → Bool → Bool
  | [], d, u => decide (d = 0) && !u
  | (k, t) :: ps, d, u =>
    if u = true then
      (if t = [40] then (if d + 1 < 0 ∨ 5 < d + 1 then false else wk ps (d + 1) true)
      else if gf k t = true then (if d < 0 ∨ 5 < d then false else wk ps d false) else false)
    else if t = [41] then (if d - 1 < 0 ∨ 5 < d - 1 then false else wk ps (d - 1) false)
    else if t = [43] ∨ t = [45] ∨ t = [42] then (if d < 0 ∨ 5 < d then false else wk ps d true)
    else false
theorem wk_open {ps : List Pt} {k : Kd} {d : Int} (h0 : 0 ≤ d) (h5 : d < 5) : wk ((k, [40]) :: ps) d true = wk ps (d + 1) true := by
  rw [wk, if_pos rfl, if_pos rfl, if_neg (by omega)]
theorem wk_open5 {ps : List Pt} {k : Kd} : wk ((k, [40]) :: ps) 5 true = false := by
  rw [wk, if_pos rfl, if_pos rfl, if_pos (by omega)]
theorem wk_fac {ps : List Pt} {k : Kd} {t : List Nat} {d : Int} (h0 : 0 ≤ d) (h5 : d ≤ 5) (ht : t ≠ [40]) : wk ((k, t) :: ps) d true = if gf k t = true then wk ps d false else false := by
  rw [wk, if_pos rfl, if_neg ht, if_neg (show ¬ (d < 0 ∨ 5 < d) by omega)]
theorem wk_shut {ps : List Pt} {k : Kd} {d : Int} (h0 : 0 < d) (h5 : d ≤ 5) : wk ((k, [41]) :: ps) d false = wk ps (d - 1) false := by
  rw [wk, if_neg (by decide), if_pos rfl, if_neg (by omega)]
theorem wk_shut0 {ps : List Pt} {k : Kd} : wk ((k, [41]) :: ps) 0 false = false := by
  rw [wk, if_neg (by decide), if_pos rfl, if_pos (by omega)]
theorem wk_sign {ps : List Pt} {k : Kd} {c : Nat} {d : Int} (h0 : 0 ≤ d) (h5 : d ≤ 5) (hc : c = 43 ∨ c = 45 ∨ c = 42) : wk ((k, [c]) :: ps) d false = wk ps d true := by
  rw [wk, if_neg (by decide), if_neg (by rcases hc with rfl | rfl | rfl <;> decide), if_pos (by rcases hc with rfl | rfl | rfl <;> decide), if_neg (by omega)]
theorem wk_bad {ps : List Pt} {k : Kd} {c : Nat} {t : List Nat} {d : Int} (h1 : c ≠ 41) (h2 : c ≠ 43) (h3 : c ≠ 45) (h4 : c ≠ 42) : wk ((k, c :: t) :: ps) d false = false := by
  rw [wk, if_neg (by decide), if_neg fun y => h1 (List.cons.inj y).1, if_neg]
  rintro (y | y | y)
  · exact h2 (List.cons.inj y).1
  · exact h3 (List.cons.inj y).1
  · exact h4 (List.cons.inj y).1
theorem kd_oth {c : Nat} (h : c = 40 ∨ c = 41 ∨ c = 42 ∨ c = 43 ∨ c = 45) : kd c = .oth := by
  rcases h with rfl | rfl | rfl | rfl | rfl <;> decide
theorem kd_fig {c : Nat} : kd c = .fig ↔ isD c = true := by
  unfold kd
  split
  · rename_i h
    exact ⟨fun _ => h, fun _ => rfl⟩
  · rename_i h
    constructor
    · intro y
      split at y <;> cases y
    · intro y
      exact absurd y h
theorem kd_ltr {c : Nat} : kd c = .ltr ↔ isL c = true := by
  unfold kd
  split
  · rename_i h
    rw [isD_iff] at h
    rw [isL_iff]
    exact ⟨(fun y => by cases y), fun y => by omega⟩
  · split
    · rename_i h
      exact ⟨fun _ => h, fun _ => rfl⟩
    · rename_i h
      exact ⟨(fun y => by cases y), fun y => absurd y h⟩
abbrev aft (d : Int) (x : Res) : Bool := match x with | some (_, r) => wk (toks r) d false | none => false
def Fits (d : Int) (f : List Nat → Res) : Prop := ∀ r, wk (toks r) d true = aft d (f r)
theorem fg_fun : amg fgs = isD := funext amg_fg
theorem ab_fun : amg abc = isL := funext amg_ab
theorem tw_split (p : Nat → Bool) (c : Nat) (r : List Nat) (h : p c = true) : ∃ t r', c :: r = (c :: t) ++ r' ∧ (c :: r).takeWhile p = c :: t ∧ (c :: r).dropWhile p = r' ∧ (∀ x ∈ c :: t, p x = true) ∧ ∀ c' r'', r' = c' :: r'' → p c' = false := by
  refine ⟨r.takeWhile p, r.dropWhile p, ?_, ?_, ?_, ?_, ?_⟩
  · rw [List.cons_append, List.takeWhile_append_dropWhile]
  · rw [List.takeWhile_cons, if_pos h]
  · rw [List.dropWhile_cons, if_pos h]
  · intro x hx
    rcases List.mem_cons.mp hx with rfl | hx
    · exact h
    · exact List.all_eq_true.mp (List.all_takeWhile (l := r)) x hx
  · intro c' r'' e
    have := List.head?_dropWhile_not p r
    rw [e] at this
    exact Bool.eq_false_iff.mpr (by simpa using this)
theorem num_gf {c : Nat} {t : List Nat} (ha : ∀ x ∈ c :: t, isD x = true) : (numOf (tx (c :: t))).isSome = gf .fig (c :: t) := by
  have hs : Txt.startswith (tx (c :: t)) "-" = false := by
    cases z : Txt.startswith (tx (c :: t)) "-" with
    | false => rfl
    | true =>
      have h := starts_neg z
      rw [cs_tx] at h
      have hc := ha c List.mem_cons_self
      rw [(List.cons.inj h).1] at hc
      exact absurd hc (by decide)
  have ef : figOf (tx (c :: t)) = tx (c :: t) := by
    unfold figOf
    rw [if_neg (by rw [hs]; decide)]
  have hne : tx (c :: t) ≠ "-0" := fun e => by
    rw [e] at hs
    revert hs
    decide +kernel
  have eg : isFg (tx (c :: t)) = gf .fig (c :: t) := by
    unfold isFg gf
    have el : (tx (c :: t)).length = (c :: t).length := by rw [← cs_len, cs_tx]
    rw [cs_tx, el, List.all_eq_true.mpr ha, Bool.true_and]
    congr 1
    rw [Bool.eq_iff_iff, decide_eq_true_iff, decide_eq_true_iff]
    constructor
    · exact fun y => y.2
    · exact fun y => ⟨by rw [List.length_cons]; omega, y⟩
  unfold numOf
  rw [ef]
  cases hg : isFg (tx (c :: t)) with
  | true =>
    obtain ⟨n, hn, _⟩ := num_some (z := tx (c :: t)) (by rw [ef]; exact hg)
    rw [if_pos ⟨rfl, hne⟩, hn, ← eg, hg]
    rfl
  | false =>
    rw [if_neg (fun y => Bool.false_ne_true y.1), ← eg, hg]
    rfl
theorem nm_gf {c : Nat} {t : List Nat} (ha : ∀ x ∈ c :: t, isL x = true) : isNm (tx (c :: t)) = gf .ltr (c :: t) := by
  unfold isNm gf
  have el : (tx (c :: t)).length = (c :: t).length := by rw [← cs_len, cs_tx]
  rw [cs_tx, el, List.all_eq_true.mpr ha, Bool.true_and]
  congr 1
  rw [Bool.eq_iff_iff, decide_eq_true_iff, decide_eq_true_iff]
  constructor
  · exact fun y => y.2
  · exact fun y => ⟨by rw [List.length_cons]; omega, y⟩
theorem nm_nil : isNm (tx []) = false := by decide +kernel
theorem fits_factor {d : Int} {brk : List Nat → Res} (h0 : 0 ≤ d) (h5 : d ≤ 5) (hb : ∀ r, wk (toks (40 :: r)) d true = aft d (brk (40 :: r))) : Fits d (factorF brk) := by
  intro r
  cases r with
  | nil =>
    show (decide (d = 0) && !true) = aft d (if isNm (tx []) = true then _ else none)
    rw [nm_nil, if_neg (by decide), Bool.not_true, Bool.and_false]
  | cons c r =>
    have hF : factorF brk (c :: r) = if amg "(" c = true then brk (c :: r)
      else if amg fgs c = true then (match numOf (tx ((c :: r).takeWhile (amg fgs))) with | some n => some (.num n, (c :: r).dropWhile (amg fgs)) | none => none)
      else if isNm (tx ((c :: r).takeWhile (amg abc))) = true then some (.box (tx ((c :: r).takeWhile (amg abc))), (c :: r).dropWhile (amg abc)) else none := rfl
    rw [fg_fun, ab_fun, amg_op] at hF
    by_cases h40 : c = 40
    · subst h40
      rw [if_pos (by decide)] at hF
      rw [hF]
      exact hb r
    rw [if_neg (by rw [decide_eq_false h40]; decide)] at hF
    by_cases hD : isD c = true
    · rw [if_pos hD] at hF
      obtain ⟨t, r', e1, e2, e3, ha, hr⟩ := tw_split isD c r hD
      rw [e2, e3] at hF
      rw [hF, e1, toks_run (k := .fig) (by decide) (c :: t) r' (by simp) (fun x hx => kd_fig.mpr (ha x hx)) (fun c' r'' e y => by rw [kd_fig, hr c' r'' e] at y; cases y)]
      rw [wk_fac h0 h5 (fun y => h40 (List.cons.inj y).1), ← num_gf ha]
      cases numOf (tx (c :: t)) with
      | none => rfl
      | some n => rfl
    rw [if_neg hD] at hF
    by_cases hL : isL c = true
    · obtain ⟨t, r', e1, e2, e3, ha, hr⟩ := tw_split isL c r hL
      rw [e2, e3] at hF
      rw [hF, e1, toks_run (k := .ltr) (by decide) (c :: t) r' (by simp) (fun x hx => kd_ltr.mpr (ha x hx)) (fun c' r'' e y => by rw [kd_ltr, hr c' r'' e] at y; cases y)]
      rw [wk_fac h0 h5 (fun y => h40 (List.cons.inj y).1), ← nm_gf ha]
      cases isNm (tx (c :: t)) with
      | false => rfl
      | true => rfl
    · have hk : kd c = .oth := by
        unfold kd
        rw [if_neg hD, if_neg hL]
      rw [List.takeWhile_cons, if_neg hL, nm_nil, if_neg (by decide)] at hF
      rw [hF, toks_new hk (.inl rfl), wk_fac h0 h5 (fun y => h40 (List.cons.inj y).1)]
      rfl
theorem fits_loop {d : Int} {f : List Nat → Res} {p : Nat → Bool} (h0 : 0 ≤ d) (h5 : d ≤ 5) (hf : Fits d f) (hs : Shr f) (hp : ∀ c, p c = true → c = 43 ∨ c = 45 ∨ c = 42) : ∀ (m : Nat) (e : Ex) (r : List Nat), r.length ≤ m → wk (toks r) d false = aft d (loopF f p m e r)
  | m, e, [], _ => by rw [loopF]
  | 0, e, c :: r, h => by rw [List.length_cons] at h; omega
  | m + 1, e, c :: r, h => by
    rw [loopF]
    cases hc : p c with
    | false => rw [if_neg (by decide)]
    | true =>
      rw [if_pos rfl]
      have h1 := hp c hc
      rw [toks_new (kd_oth (by omega)) (.inl rfl), wk_sign h0 h5 h1, hf r]
      cases hr : f r with
      | none => rfl
      | some er =>
        obtain ⟨e2, r2⟩ := er
        rw [List.length_cons] at h
        exact fits_loop h0 h5 hf hs hp m _ r2 (by have := hs _ _ _ hr; omega)
theorem fits_head {d : Int} {f : List Nat → Res} {p : Nat → Bool} (h0 : 0 ≤ d) (h5 : d ≤ 5) (hf : Fits d f) (hs : Shr f) (hp : ∀ c, p c = true → c = 43 ∨ c = 45 ∨ c = 42) : Fits d (headF f p) := by
  intro r
  unfold headF
  rw [hf r]
  cases hr : f r with
  | none => rfl
  | some er =>
    obtain ⟨e2, r2⟩ := er
    exact fits_loop h0 h5 hf hs hp r2.length e2 r2 (Nat.le_refl _)
def Stps (f : List Nat → Res) (p : Nat → Bool) : Prop := ∀ r e r', f r = some (e, r') → stands r' p = false
theorem loop_stps {f : List Nat → Res} {p : Nat → Bool} (hs : Shr f) : ∀ (m : Nat) (e : Ex) (r : List Nat) (e' : Ex) (r' : List Nat), r.length ≤ m → loopF f p m e r = some (e', r') → stands r' p = false
  | m, e, [], e', r', _, q => by
    rw [loopF] at q
    cases q
    rfl
  | 0, e, c :: r, _, _, h, _ => by rw [List.length_cons] at h; omega
  | m + 1, e, c :: r, e', r', h, q => by
    rw [loopF] at q
    cases hc : p c with
    | false =>
      rw [hc, if_neg (by decide)] at q
      cases q
      exact hc
    | true =>
      rw [hc, if_pos rfl] at q
      cases hr : f r with
      | none => rw [hr] at q; cases q
      | some er =>
        obtain ⟨e2, r2⟩ := er
        rw [hr] at q
        rw [List.length_cons] at h
        exact loop_stps hs m _ r2 e' r' (by have := hs _ _ _ hr; omega) q
theorem loop_stps2 {f : List Nat → Res} {p g : Nat → Bool} (hg : Stps f g) : ∀ (m : Nat) (e : Ex) (r : List Nat) (e' : Ex) (r' : List Nat), stands r g = false → loopF f p m e r = some (e', r') → stands r' g = false
  | m, e, [], e', r', _, q => by
    rw [loopF] at q
    cases q
    rfl
  | 0, e, c :: r, e', r', h, q => by
    rw [loopF] at q
    cases q
    exact h
  | m + 1, e, c :: r, e', r', h, q => by
    rw [loopF] at q
    cases hc : p c with
    | false =>
      rw [hc, if_neg (by decide)] at q
      cases q
      exact h
    | true =>
      rw [hc, if_pos rfl] at q
      cases hr : f r with
      | none => rw [hr] at q; cases q
      | some er =>
        obtain ⟨e2, r2⟩ := er
        rw [hr] at q
        exact loop_stps2 hg m _ r2 e' r' (hg _ _ _ hr) q
theorem head_stps {f : List Nat → Res} {p : Nat → Bool} (hs : Shr f) : Stps (headF f p) p := by
  intro r e r' q
  unfold headF at q
  cases hr : f r with
  | none => rw [hr] at q; cases q
  | some er =>
    obtain ⟨e2, r2⟩ := er
    rw [hr] at q
    exact loop_stps hs _ _ _ _ _ (Nat.le_refl _) q
theorem head_stps2 {f : List Nat → Res} {p g : Nat → Bool} (hg : Stps f g) : Stps (headF f p) g := by
  intro r e r' q
  unfold headF at q
  cases hr : f r with
  | none => rw [hr] at q; cases q
  | some er =>
    obtain ⟨e2, r2⟩ := er
    rw [hr] at q
    exact loop_stps2 hg _ _ _ _ _ (hg _ _ _ hr) q
theorem terms_stop {n : Nat} {r : List Nat} {e : Ex} {c : Nat} {r' : List Nat} (h : termsF (brkF n) r = some (e, c :: r')) : c ≠ 42 ∧ c ≠ 43 ∧ c ≠ 45 := by
  have sF := shr_factor (shr_brk n)
  have h1 : amg "+-" c = false := head_stps (shr_head sF) _ _ _ h
  have h2 : amg "*" c = false := head_stps2 (head_stps sF) _ _ _ h
  rw [amg_pm] at h1
  rw [amg_st] at h2
  have h1 := of_decide_eq_false h1
  have h2 := of_decide_eq_false h2
  omega
theorem fits_terms : ∀ n : Nat, n ≤ 5 → Fits (5 - (n : Int)) (termsF (brkF n)) := by
  intro n
  induction n with
  | zero =>
    intro _
    have hb : ∀ r, wk (toks (40 :: r)) (5 - ((0 : Nat) : Int)) true = aft (5 - ((0 : Nat) : Int)) (brkF 0 (40 :: r)) := fun r => by
      rw [toks_new (kd_oth (.inl rfl)) (.inl rfl)]
      exact wk_open5
    have sF := shr_factor (shr_brk 0)
    exact fits_head (by decide) (by decide) (fits_head (by decide) (by decide) (fits_factor (by decide) (by decide) hb) sF (fun c hc => by rw [amg_st] at hc; have := of_decide_eq_true hc; omega)) (shr_head sF) (fun c hc => by rw [amg_pm] at hc; have := of_decide_eq_true hc; omega)
  | succ n ih =>
    intro hn
    have ih := ih (by omega)
    have hb : ∀ r, wk (toks (40 :: r)) (5 - ((n + 1 : Nat) : Int)) true = aft (5 - ((n + 1 : Nat) : Int)) (brkF (n + 1) (40 :: r)) := fun r => by
      rw [toks_new (kd_oth (.inl rfl)) (.inl rfl), wk_open (by omega) (by omega), show (5 - ((n + 1 : Nat) : Int) + 1) = 5 - (n : Int) by omega, ih r]
      have hB : brkF (n + 1) (40 :: r) = match termsF (brkF n) r with | some (e, r2) => if stands r2 (amg ")") = true then some (e, r2.drop 1) else none | none => none := rfl
      rw [hB]
      cases ht : termsF (brkF n) r with
      | none => rfl
      | some er =>
        obtain ⟨e, r2⟩ := er
        cases r2 with
        | nil =>
          show (decide (5 - (n : Int) = 0) && !false) = false
          rw [decide_eq_false (by omega)]
          rfl
        | cons c r3 =>
          obtain ⟨n1, n2, n3⟩ := terms_stop ht
          show wk (toks (c :: r3)) (5 - (n : Int)) false = aft _ (if amg ")" c = true then some (e, r3) else none)
          rw [amg_cl]
          by_cases h41 : c = 41
          · subst h41
            rw [if_pos (by decide), toks_new (kd_oth (.inr (.inl rfl))) (.inl rfl), wk_shut (by omega) (by omega), show (5 - (n : Int) - 1) = 5 - ((n + 1 : Nat) : Int) by omega]
          · rw [if_neg (by rw [decide_eq_false h41]; decide)]
            obtain ⟨t, ps, e'⟩ := toks_head c r3
            rw [e', wk_bad h41 n2 n3 n1]
    have sF := shr_factor (shr_brk (n + 1))
    exact fits_head (by omega) (by omega) (fits_head (by omega) (by omega) (fits_factor (by omega) (by omega) hb) sF (fun c hc => by rw [amg_st] at hc; have := of_decide_eq_true hc; omega)) (shr_head sF) (fun c hc => by rw [amg_pm] at hc; have := of_decide_eq_true hc; omega)
def goodF (l : List Nat) : Bool := wk (toks l) 0 true && decide (l.length ≤ 60)
theorem expr_good (l : List Nat) : (exprF l).isNone = !goodF l := by
  have hE : exprF l = if 60 < l.length then none else match termsF (brkF 5) l with | some (e, []) => some e | _ => none := rfl
  unfold goodF
  by_cases h60 : 60 < l.length
  · rw [hE, if_pos h60, decide_eq_false (by omega), Bool.and_false]
    rfl
  rw [hE, if_neg h60, decide_eq_true (by omega), Bool.and_true]
  have h := fits_terms 5 (by decide) l
  rw [show (5 - ((5 : Nat) : Int)) = 0 by decide] at h
  rw [h]
  cases ht : termsF (brkF 5) l with
  | none => rfl
  | some er =>
    obtain ⟨e, r2⟩ := er
    cases r2 with
    | nil => rfl
    | cons c r3 =>
      obtain ⟨n1, n2, n3⟩ := terms_stop ht
      show true = !wk (toks (c :: r3)) 0 false
      by_cases h41 : c = 41
      · subst h41
        rw [toks_new (kd_oth (.inr (.inl rfl))) (.inl rfl), wk_shut0]
        rfl
      · obtain ⟨t, ps, e'⟩ := toks_head c r3
        rw [e', wk_bad h41 n2 n3 n1]
        rfl

/-! ### numbers and signs on two heaps -/
abbrev SS := List (List Nat)
def app2 (c : List Nat) (a b : Int) : Int := if c = [43] then a + b else if c = [45] then a - b else a * b
def Ex.val (ρ : Str → Int) : Ex → Int
  | .num n => n
  | .box x => ρ x
  | .op c l r => app2 [c] (l.val ρ) (r.val ρ)
def two {α : Type} (N : List Int) (f : Int → Int → List Int → Option α) : Option α := match N with | o :: n :: r => f o n r | _ => none
def red (p : List Nat) : SS → List Int → Option (SS × List Int)
  | [], N => some ([], N)
  | g :: S, N => if g ≠ [40] ∧ (p ≠ [42] ∨ g = [42]) then two N (fun o n r => red p S (app2 g n o :: r)) else some (g :: S, N)
def lv (ρ : Str → Int) : Pt → Option Int
  | (.ltr, t) => some (ρ (tx t))
  | (.fig, t) => PySem.intText? (tx t)
  | (.oth, _) => none
def shift (t : List Nat) (x : SS × List Int) : SS × List Int := if t ≠ [41] then (t :: x.1, x.2) else (x.1.tail, x.2)
def stp1 (ρ : Str → Int) (p : Pt) (S : SS) (N : List Int) : Option (SS × List Int) :=
  if p.2 = [40] then some ([40] :: S, N) else if p.1 ≠ .oth then (lv ρ p).map (fun v => (S, v :: N)) else (red p.2 S N).map (shift p.2)
def outL (ρ : Str → Int) : List Pt → SS → List Int → Option (List Int)
  | [], _, N => some N
  | p :: ps, S, N => (stp1 ρ p S N).bind fun x => outL ρ ps x.1 x.2
abbrev shut : Pt := (.oth, [41])
def out (ρ : Str → Int) (ps : List Pt) (S : SS) (N : List Int) : Option (List Int) := outL ρ (ps ++ [shut]) S N
section
variable {ρ : Str → Int}
theorem out_cons (p : Pt) (ps : List Pt) (S : SS) (N : List Int) : out ρ (p :: ps) S N = (stp1 ρ p S N).bind fun x => out ρ ps x.1 x.2 := rfl
theorem out_open (r : List Nat) (S : SS) (N : List Int) : out ρ (toks (40 :: r)) S N = out ρ (toks r) ([40] :: S) N := by
  rw [toks_new (kd_oth (.inl rfl)) (.inl rfl), out_cons]
  rfl
theorem out_sign {c : Nat} {r : List Nat} {S S1 : SS} {N N1 : List Int} (hc : c = 42 ∨ c = 43 ∨ c = 45) (h : red [c] S1 N1 = some (S, N)) : out ρ (toks (c :: r)) S1 N1 = out ρ (toks r) ([c] :: S) N := by
  rw [toks_new (kd_oth (by omega)) (.inl rfl), out_cons]
  have e : stp1 ρ (.oth, [c]) S1 N1 = some ([c] :: S, N) := by
    unfold stp1
    rw [if_neg (by rcases hc with rfl | rfl | rfl <;> decide), if_neg (fun y => y rfl), h]
    show some (shift [c] (S, N)) = _
    unfold shift
    rw [if_pos (by rcases hc with rfl | rfl | rfl <;> decide)]
  rw [e]
  rfl
theorem out_shut {r : List Nat} {S S1 : SS} {N N1 : List Int} (h : red [41] S1 N1 = some ([40] :: S, N)) : out ρ (toks (41 :: r)) S1 N1 = out ρ (toks r) S N := by
  rw [toks_new (kd_oth (.inr (.inl rfl))) (.inl rfl), out_cons]
  have e : stp1 ρ (.oth, [41]) S1 N1 = some (S, N) := by
    unfold stp1
    rw [if_neg (by decide), if_neg (by decide), h]
    rfl
  rw [e]
  rfl
theorem out_end {S1 : SS} {N N1 : List Int} (h : red [41] S1 N1 = some ([], N)) : out ρ [] S1 N1 = some N := by
  show (stp1 ρ (.oth, [41]) S1 N1).bind _ = _
  have e : stp1 ρ (.oth, [41]) S1 N1 = some ([], N) := by
    unfold stp1
    rw [if_neg (by decide), if_neg (by decide), h]
    rfl
  rw [e]
  rfl
theorem out_leaf {k : Kd} {t : List Nat} {ps : List Pt} {S : SS} {N : List Int} {v : Int} (h1 : t ≠ [40]) (h2 : k ≠ .oth) (h : lv ρ (k, t) = some v) : out ρ ((k, t) :: ps) S N = out ρ ps S (v :: N) := by
  rw [out_cons]
  have e : stp1 ρ (k, t) S N = some (S, v :: N) := by
    unfold stp1
    rw [if_neg h1, if_pos h2, h]
    rfl
  rw [e]
  rfl
def TopN (S : SS) : Prop := ∀ g S', S = g :: S' → g ≠ [42]
def Top0 (S : SS) : Prop := ∀ g S', S = g :: S' → g = [40]
theorem Top0.n {S : SS} (h : Top0 S) : TopN S := fun g S' e => by
  rw [h g S' e]
  decide
def PM (v : Int) (S : SS) (N : List Int) (S1 : SS) (N1 : List Int) : Prop := (S1 = S ∧ N1 = v :: N) ∨ ∃ v1 v2, S1 = [42] :: S ∧ N1 = v2 :: v1 :: N ∧ v = v1 * v2
def PA2 (v : Int) (S : SS) (N : List Int) (S1 : SS) (N1 : List Int) : Prop := PM v S N S1 N1 ∨ ∃ (c : Nat) (v1 v2 : Int), (c = 43 ∨ c = 45) ∧ PM v2 ([c] :: S) (v1 :: N) S1 N1 ∧ v = app2 [c] v1 v2
theorem red_topN {S : SS} {N : List Int} (h : TopN S) : red [42] S N = some (S, N) := by
  cases S with
  | nil => rfl
  | cons g S =>
    rw [red, if_neg]
    rintro ⟨_, y | y⟩
    · exact y rfl
    · exact h g S rfl y
theorem red_top0 {p : List Nat} {S : SS} {N : List Int} (h : Top0 S) : red p S N = some (S, N) := by
  cases S with
  | nil => rfl
  | cons g S =>
    rw [red, if_neg]
    rintro ⟨y, _⟩
    exact y (h g S rfl)
theorem red_PM42 {v : Int} {S S1 : SS} {N N1 : List Int} (hS : TopN S) (h : PM v S N S1 N1) : red [42] S1 N1 = some (S, v :: N) := by
  rcases h with ⟨rfl, rfl⟩ | ⟨v1, v2, rfl, rfl, rfl⟩
  · exact red_topN hS
  · rw [red, if_pos ⟨by decide, .inr rfl⟩]
    exact red_topN hS
theorem red_PM {p : List Nat} {v : Int} {S S1 : SS} {N N1 : List Int} (hp : p ≠ [42]) (h : PM v S N S1 N1) : red p S1 N1 = red p S (v :: N) := by
  rcases h with ⟨rfl, rfl⟩ | ⟨v1, v2, rfl, rfl, rfl⟩
  · rfl
  · rw [red, if_pos ⟨by decide, .inl hp⟩]
    rfl
theorem red_PA {p : List Nat} {v : Int} {S S1 : SS} {N N1 : List Int} (hp : p ≠ [42]) (hS : Top0 S) (h : PA2 v S N S1 N1) : red p S1 N1 = some (S, v :: N) := by
  rcases h with h | ⟨c, v1, v2, hc, h, rfl⟩
  · rw [red_PM hp h]
    exact red_top0 hS
  · rw [red_PM hp h, red, if_pos ⟨by rcases hc with rfl | rfl <;> decide, .inl hp⟩]
    exact red_top0 hS
def Ev (ρ : Str → Int) (f : List Nat → Res) : Prop := ∀ r e r', f r = some (e, r') → ∀ S N, out ρ (toks r) S N = out ρ (toks r') S (e.val ρ :: N)
def EvM (ρ : Str → Int) (f : List Nat → Res) : Prop := ∀ r e r', f r = some (e, r') → ∀ S N, TopN S → ∃ S2 N2, PM (e.val ρ) S N S2 N2 ∧ out ρ (toks r) S N = out ρ (toks r') S2 N2
def EvA (ρ : Str → Int) (f : List Nat → Res) : Prop := ∀ r e r', f r = some (e, r') → ∀ S N, Top0 S → ∃ S2 N2, PA2 (e.val ρ) S N S2 N2 ∧ out ρ (toks r) S N = out ρ (toks r') S2 N2
theorem loop_M {f : List Nat → Res} (hf : Ev ρ f) {S : SS} {N : List Int} (hS : TopN S) : ∀ (m : Nat) (e : Ex) (r : List Nat) (e' : Ex) (r' : List Nat), loopF f (amg "*") m e r = some (e', r') → ∀ S1 N1, PM (e.val ρ) S N S1 N1 → ∃ S2 N2, PM (e'.val ρ) S N S2 N2 ∧ out ρ (toks r) S1 N1 = out ρ (toks r') S2 N2
  | m, e, [], e', r', q, S1, N1, h => by
    rw [loopF] at q
    cases q
    exact ⟨S1, N1, h, rfl⟩
  | 0, e, c :: r, e', r', q, S1, N1, h => by
    rw [loopF] at q
    cases q
    exact ⟨S1, N1, h, rfl⟩
  | m + 1, e, c :: r, e', r', q, S1, N1, h => by
    rw [loopF] at q
    cases hc : amg "*" c with
    | false =>
      rw [hc, if_neg (by decide)] at q
      cases q
      exact ⟨S1, N1, h, rfl⟩
    | true =>
      rw [hc, if_pos rfl] at q
      rw [amg_st] at hc
      have hc := of_decide_eq_true hc
      subst hc
      cases hr : f r with
      | none => rw [hr] at q; cases q
      | some er =>
        obtain ⟨e2, r2⟩ := er
        rw [hr] at q
        obtain ⟨S2, N2, h2, o2⟩ := loop_M hf hS m _ r2 e' r' q ([42] :: S) (e2.val ρ :: e.val ρ :: N) (.inr ⟨_, _, rfl, rfl, rfl⟩)
        refine ⟨S2, N2, h2, ?_⟩
        rw [out_sign (.inl rfl) (red_PM42 hS h), hf _ _ _ hr]
        exact o2
theorem head_M {f : List Nat → Res} (hf : Ev ρ f) : EvM ρ (headF f (amg "*")) := by
  intro r e r' q S N hS
  unfold headF at q
  cases hr : f r with
  | none => rw [hr] at q; cases q
  | some er =>
    obtain ⟨e2, r2⟩ := er
    rw [hr] at q
    obtain ⟨S2, N2, h2, o2⟩ := loop_M hf hS _ _ r2 e r' q S (e2.val ρ :: N) (.inl ⟨rfl, rfl⟩)
    exact ⟨S2, N2, h2, by rw [hf _ _ _ hr]; exact o2⟩
theorem loop_A {f : List Nat → Res} (hf : EvM ρ f) {S : SS} {N : List Int} (hS : Top0 S) : ∀ (m : Nat) (e : Ex) (r : List Nat) (e' : Ex) (r' : List Nat), loopF f (amg "+-") m e r = some (e', r') → ∀ S1 N1, PA2 (e.val ρ) S N S1 N1 → ∃ S2 N2, PA2 (e'.val ρ) S N S2 N2 ∧ out ρ (toks r) S1 N1 = out ρ (toks r') S2 N2
  | m, e, [], e', r', q, S1, N1, h => by
    rw [loopF] at q
    cases q
    exact ⟨S1, N1, h, rfl⟩
  | 0, e, c :: r, e', r', q, S1, N1, h => by
    rw [loopF] at q
    cases q
    exact ⟨S1, N1, h, rfl⟩
  | m + 1, e, c :: r, e', r', q, S1, N1, h => by
    rw [loopF] at q
    cases hc : amg "+-" c with
    | false =>
      rw [hc, if_neg (by decide)] at q
      cases q
      exact ⟨S1, N1, h, rfl⟩
    | true =>
      rw [hc, if_pos rfl] at q
      rw [amg_pm] at hc
      have hc := of_decide_eq_true hc
      cases hr : f r with
      | none => rw [hr] at q; cases q
      | some er =>
        obtain ⟨e2, r2⟩ := er
        rw [hr] at q
        obtain ⟨S3, N3, h3, o3⟩ := hf _ _ _ hr ([c] :: S) (e.val ρ :: N) (fun g S' y => by
          rw [← (List.cons.inj y).1]
          rcases hc with rfl | rfl <;> decide)
        obtain ⟨S2, N2, h2, o2⟩ := loop_A hf hS m _ r2 e' r' q S3 N3 (.inr ⟨c, _, _, hc, h3, rfl⟩)
        refine ⟨S2, N2, h2, ?_⟩
        rw [out_sign (.inr hc) (red_PA (by rcases hc with rfl | rfl <;> decide) hS h), o3]
        exact o2
theorem head_A {f : List Nat → Res} (hf : EvM ρ f) : EvA ρ (headF f (amg "+-")) := by
  intro r e r' q S N hS
  unfold headF at q
  cases hr : f r with
  | none => rw [hr] at q; cases q
  | some er =>
    obtain ⟨e2, r2⟩ := er
    rw [hr] at q
    obtain ⟨S3, N3, h3, o3⟩ := hf _ _ _ hr S N hS.n
    obtain ⟨S2, N2, h2, o2⟩ := loop_A hf hS _ _ r2 e r' q S3 N3 (.inl h3)
    exact ⟨S2, N2, h2, by rw [o3]; exact o2⟩
theorem num_text {z : Str} {n : Int} (h : numOf z = some n) : PySem.intText? z = some n := by
  unfold numOf at h
  split at h
  · exact h
  · cases h
theorem ev_factor {brk : List Nat → Res} (hb : ∀ r e r', brk (40 :: r) = some (e, r') → ∀ S N, out ρ (toks (40 :: r)) S N = out ρ (toks r') S (e.val ρ :: N)) : Ev ρ (factorF brk) := by
  intro r e r' q S N
  cases r with
  | nil =>
    have q : (if isNm (tx []) = true then _ else none) = some (e, r') := q
    rw [nm_nil, if_neg (by decide)] at q
    cases q
  | cons c r =>
    have hF : factorF brk (c :: r) = if amg "(" c = true then brk (c :: r)
      else if amg fgs c = true then (match numOf (tx ((c :: r).takeWhile (amg fgs))) with | some n => some (.num n, (c :: r).dropWhile (amg fgs)) | none => none)
      else if isNm (tx ((c :: r).takeWhile (amg abc))) = true then some (.box (tx ((c :: r).takeWhile (amg abc))), (c :: r).dropWhile (amg abc)) else none := rfl
    rw [fg_fun, ab_fun, amg_op] at hF
    rw [hF] at q
    by_cases h40 : c = 40
    · subst h40
      rw [if_pos (by decide)] at q
      exact hb r e r' q S N
    rw [if_neg (by rw [decide_eq_false h40]; decide)] at q
    by_cases hD : isD c = true
    · rw [if_pos hD] at q
      obtain ⟨t, r2, e1, e2, e3, ha, hr⟩ := tw_split isD c r hD
      rw [e2, e3] at q
      cases hn : numOf (tx (c :: t)) with
      | none => rw [hn] at q; cases q
      | some n =>
        rw [hn] at q
        cases q
        rw [e1, toks_run (k := .fig) (by decide) (c :: t) _ (by simp) (fun x hx => kd_fig.mpr (ha x hx)) (fun c' r'' e y => by rw [kd_fig, hr c' r'' e] at y; cases y)]
        exact out_leaf (fun y => h40 (List.cons.inj y).1) (by decide) (num_text hn)
    rw [if_neg hD] at q
    by_cases hL : isL c = true
    · obtain ⟨t, r2, e1, e2, e3, ha, hr⟩ := tw_split isL c r hL
      rw [e2, e3] at q
      split at q
      · cases q
        rw [e1, toks_run (k := .ltr) (by decide) (c :: t) _ (by simp) (fun x hx => kd_ltr.mpr (ha x hx)) (fun c' r'' e y => by rw [kd_ltr, hr c' r'' e] at y; cases y)]
        exact out_leaf (fun y => h40 (List.cons.inj y).1) (by decide) rfl
      · cases q
    · rw [List.takeWhile_cons, if_neg hL, nm_nil, if_neg (by decide)] at q
      cases q
theorem ev_terms : ∀ n : Nat, EvA ρ (termsF (brkF n)) := by
  intro n
  induction n with
  | zero => exact head_A (head_M (ev_factor fun r e r' q => by cases q))
  | succ n ih =>
    refine head_A (head_M (ev_factor fun r e r' q S N => ?_))
    have hB : brkF (n + 1) (40 :: r) = match termsF (brkF n) r with | some (e, r2) => if stands r2 (amg ")") = true then some (e, r2.drop 1) else none | none => none := rfl
    rw [hB] at q
    cases ht : termsF (brkF n) r with
    | none => rw [ht] at q; cases q
    | some er =>
      obtain ⟨e2, r2⟩ := er
      rw [ht] at q
      cases r2 with
      | nil => cases q
      | cons c r3 =>
        have q : (if amg ")" c = true then some (e2, r3) else none) = some (e, r') := q
        rw [amg_cl] at q
        by_cases h41 : c = 41
        · subst h41
          rw [if_pos (by decide)] at q
          cases q
          obtain ⟨S2, N2, h2, o2⟩ := ih _ _ _ ht ([40] :: S) N (fun g S' y => (List.cons.inj y).1.symm)
          rw [out_open, o2]
          exact out_shut (red_PA (by decide) (fun g S' y => (List.cons.inj y).1.symm) h2)
        · rw [if_neg (by rw [decide_eq_false h41]; decide)] at q
          cases q
theorem out_expr {l : List Nat} {e : Ex} (h : exprF l = some e) : out ρ (toks l) [] [] = some [e.val ρ] := by
  unfold exprF at h
  split at h
  · cases h
  cases ht : termsF (brkF 5) l with
  | none => rw [ht] at h; cases h
  | some er =>
    obtain ⟨e2, r2⟩ := er
    rw [ht] at h
    cases r2 with
    | cons c r => cases h
    | nil =>
      cases h
      obtain ⟨S2, N2, h2, o2⟩ := ev_terms (ρ := ρ) 5 _ _ _ ht [] [] (fun g S' y => by cases y)
      rw [o2]
      exact out_end (red_PA (by decide) (fun g S' y => by cases y) h2)
end
/-! ### the size of what is read -/
def nm3 : List Str := ["a", "bb", "c"]
def Ex.fin : Ex → Prop
  | .num n => n.natAbs < 2 ^ 11
  | .box x => x ∈ nm3
  | .op _ l r => l.fin ∧ r.fin
def Nc (r : List Nat) : Prop := ∀ p ∈ toks r, p.1 = .ltr → tx p.2 ∈ nm3
theorem Nc.tail {c : Nat} {r : List Nat} (h : Nc (c :: r)) (hc : kd c = .oth) : Nc r := fun p hp => h p (by rw [toks_new hc (.inl rfl)]; exact List.mem_cons_of_mem _ hp)
def Szf (f : List Nat → Res) : Prop := ∀ r e r', f r = some (e, r') → Nc r → 2 * e.lvs + r'.length ≤ r.length + 1 ∧ e.fin ∧ Nc r'
theorem dig_lt : ∀ (l : List Nat) (a : Nat), PySem.NumText.AllDigits l → l.foldl (fun acc c => acc * 10 + (c - 48)) a < (a + 1) * 10 ^ l.length
  | [], a, _ => by simp
  | c :: l, a, h => by
    have hc := h c List.mem_cons_self
    have ih := dig_lt l (a * 10 + (c - 48)) fun x hx => h x (List.mem_cons_of_mem _ hx)
    rw [List.foldl_cons, List.length_cons, Nat.pow_succ]
    have h2 : (a * 10 + (c - 48) + 1) * 10 ^ l.length ≤ ((a + 1) * 10) * 10 ^ l.length := Nat.mul_le_mul_right _ (by omega)
    rw [Nat.mul_comm (10 ^ l.length) 10, ← Nat.mul_assoc]
    omega
theorem num_fin {z : Str} {n : Int} (h : numOf z = some n) : n.natAbs < 2 ^ 11 := by
  unfold numOf at h
  split at h
  · rename_i hg
    obtain ⟨h1, h2, h3⟩ := fg_digits hg.1
    have key : ∀ l : List Nat, PySem.NumText.AllDigits l → l.length ≤ 3 → PySem.NumText.digitsVal l < 2 ^ 11 := fun l hl h3 => by
      have a1 := dig_lt l 0 hl
      have a2 := Nat.pow_le_pow_right (n := 10) (by decide) h3
      have a3 : PySem.NumText.digitsVal l < (0 + 1) * 10 ^ l.length := a1
      omega
    unfold figOf at h1 h2 h3
    by_cases hs : Txt.startswith z "-" = true
    · rw [if_pos hs] at h1 h2 h3
      have hz := starts_neg hs
      have hl : z.length ≤ 4 := by
        have := congrArg List.length hz
        rw [cs_len, List.length_cons, cs_len] at this
        omega
      have := PySem.intText_neg hz h1 h2 (by omega)
      rw [this] at h
      cases h
      have := key _ h1 (by rw [cs_len]; exact h3)
      omega
    · rw [if_neg hs] at h1 h2 h3
      have := PySem.intText_digits h1 h2 (by omega)
      rw [this] at h
      cases h
      have := key _ h1 (by rw [cs_len]; exact h3)
      exact this
  · cases h
theorem sz_factor {brk : List Nat → Res} (hb : ∀ r e r', brk (40 :: r) = some (e, r') → Nc (40 :: r) → 2 * e.lvs + r'.length ≤ (40 :: r).length + 1 ∧ e.fin ∧ Nc r') : Szf (factorF brk) := by
  intro r e r' q hN
  cases r with
  | nil =>
    have q : (if isNm (tx []) = true then _ else none) = some (e, r') := q
    rw [nm_nil, if_neg (by decide)] at q
    cases q
  | cons c r =>
    have hF : factorF brk (c :: r) = if amg "(" c = true then brk (c :: r)
      else if amg fgs c = true then (match numOf (tx ((c :: r).takeWhile (amg fgs))) with | some n => some (.num n, (c :: r).dropWhile (amg fgs)) | none => none)
      else if isNm (tx ((c :: r).takeWhile (amg abc))) = true then some (.box (tx ((c :: r).takeWhile (amg abc))), (c :: r).dropWhile (amg abc)) else none := rfl
    rw [fg_fun, ab_fun, amg_op] at hF
    rw [hF] at q
    by_cases h40 : c = 40
    · subst h40
      rw [if_pos (by decide)] at q
      exact hb r e r' q hN
    rw [if_neg (by rw [decide_eq_false h40]; decide)] at q
    by_cases hD : isD c = true
    · rw [if_pos hD] at q
      obtain ⟨t, r2, e1, e2, e3, ha, hr⟩ := tw_split isD c r hD
      rw [e2, e3] at q
      cases hn : numOf (tx (c :: t)) with
      | none => rw [hn] at q; cases q
      | some n =>
        rw [hn] at q
        cases q
        have et := toks_run (k := .fig) (by decide) (c :: t) r' (by simp) (fun x hx => kd_fig.mpr (ha x hx)) (fun c' r'' e y => by rw [kd_fig, hr c' r'' e] at y; cases y)
        rw [e1] at hN ⊢
        refine ⟨?_, num_fin hn, fun p hp => hN p (by rw [et]; exact List.mem_cons_of_mem _ hp)⟩
        rw [List.length_append, List.length_cons]
        show 2 * 1 + r'.length ≤ _
        omega
    rw [if_neg hD] at q
    by_cases hL : isL c = true
    · obtain ⟨t, r2, e1, e2, e3, ha, hr⟩ := tw_split isL c r hL
      rw [e2, e3] at q
      split at q
      · cases q
        have et := toks_run (k := .ltr) (by decide) (c :: t) r' (by simp) (fun x hx => kd_ltr.mpr (ha x hx)) (fun c' r'' e y => by rw [kd_ltr, hr c' r'' e] at y; cases y)
        rw [e1] at hN ⊢
        refine ⟨?_, hN (.ltr, c :: t) (by rw [et]; exact List.mem_cons_self) rfl, fun p hp => hN p (by rw [et]; exact List.mem_cons_of_mem _ hp)⟩
        rw [List.length_append, List.length_cons]
        show 2 * 1 + r'.length ≤ _
        omega
      · cases q
    · rw [List.takeWhile_cons, if_neg hL, nm_nil, if_neg (by decide)] at q
      cases q
theorem sz_loop {f : List Nat → Res} {p : Nat → Bool} (hf : Szf f) (hp : ∀ c, p c = true → c = 43 ∨ c = 45 ∨ c = 42) : ∀ (m : Nat) (e : Ex) (r : List Nat) (e' : Ex) (r' : List Nat), loopF f p m e r = some (e', r') → e.fin → Nc r → 2 * e'.lvs + r'.length ≤ 2 * e.lvs + r.length ∧ e'.fin ∧ Nc r'
  | m, e, [], e', r', q, h1, h2 => by
    rw [loopF] at q
    cases q
    exact ⟨Nat.le_refl _, h1, h2⟩
  | 0, e, c :: r, e', r', q, h1, h2 => by
    rw [loopF] at q
    cases q
    exact ⟨Nat.le_refl _, h1, h2⟩
  | m + 1, e, c :: r, e', r', q, h1, h2 => by
    rw [loopF] at q
    cases hc : p c with
    | false =>
      rw [hc, if_neg (by decide)] at q
      cases q
      exact ⟨Nat.le_refl _, h1, h2⟩
    | true =>
      rw [hc, if_pos rfl] at q
      cases hr : f r with
      | none => rw [hr] at q; cases q
      | some er =>
        obtain ⟨e2, r2⟩ := er
        rw [hr] at q
        have hc := hp c hc
        obtain ⟨g1, g2, g3⟩ := hf _ _ _ hr (h2.tail (kd_oth (by omega)))
        obtain ⟨k1, k2, k3⟩ := sz_loop hf hp m _ r2 e' r' q ⟨h1, g2⟩ g3
        refine ⟨?_, k2, k3⟩
        have k1 : 2 * e'.lvs + r'.length ≤ 2 * (e.lvs + e2.lvs) + r2.length := k1
        rw [List.length_cons]
        omega
theorem sz_head {f : List Nat → Res} {p : Nat → Bool} (hf : Szf f) (hp : ∀ c, p c = true → c = 43 ∨ c = 45 ∨ c = 42) : Szf (headF f p) := by
  intro r e r' q hN
  unfold headF at q
  cases hr : f r with
  | none => rw [hr] at q; cases q
  | some er =>
    obtain ⟨e2, r2⟩ := er
    rw [hr] at q
    obtain ⟨g1, g2, g3⟩ := hf _ _ _ hr hN
    obtain ⟨k1, k2, k3⟩ := sz_loop hf hp _ _ r2 e r' q g2 g3
    exact ⟨by omega, k2, k3⟩
theorem st3 {c : Nat} (hc : amg "*" c = true) : c = 43 ∨ c = 45 ∨ c = 42 := by
  rw [amg_st] at hc
  have := of_decide_eq_true hc
  omega
theorem pm3 {c : Nat} (hc : amg "+-" c = true) : c = 43 ∨ c = 45 ∨ c = 42 := by
  rw [amg_pm] at hc
  have := of_decide_eq_true hc
  omega
theorem sz_terms : ∀ n : Nat, Szf (termsF (brkF n)) := by
  intro n
  induction n with
  | zero => exact sz_head (sz_head (sz_factor fun r e r' q => by cases q) fun c => st3) fun c => pm3
  | succ n ih =>
    refine sz_head (sz_head (sz_factor fun r e r' q hN => ?_) fun c => st3) fun c => pm3
    have hB : brkF (n + 1) (40 :: r) = match termsF (brkF n) r with | some (e, r2) => if stands r2 (amg ")") = true then some (e, r2.drop 1) else none | none => none := rfl
    rw [hB] at q
    cases ht : termsF (brkF n) r with
    | none => rw [ht] at q; cases q
    | some er =>
      obtain ⟨e2, r2⟩ := er
      rw [ht] at q
      obtain ⟨g1, g2, g3⟩ := ih _ _ _ ht (hN.tail (kd_oth (.inl rfl)))
      cases r2 with
      | nil => cases q
      | cons c r3 =>
        have q : (if amg ")" c = true then some (e2, r3) else none) = some (e, r') := q
        rw [amg_cl] at q
        by_cases h41 : c = 41
        · subst h41
          rw [if_pos (by decide)] at q
          cases q
          rw [List.length_cons] at g1
          exact ⟨by rw [List.length_cons]; omega, g2, g3.tail (kd_oth (.inr (.inl rfl)))⟩
        · rw [if_neg (by rw [decide_eq_false h41]; decide)] at q
          cases q
theorem sz_expr {l : List Nat} {e : Ex} (h : exprF l = some e) (hN : Nc l) : e.lvs ≤ 30 ∧ e.fin := by
  unfold exprF at h
  split at h
  · cases h
  rename_i h60
  cases ht : termsF (brkF 5) l with
  | none => rw [ht] at h; cases h
  | some er =>
    obtain ⟨e2, r2⟩ := er
    rw [ht] at h
    cases r2 with
    | cons c r => cases h
    | nil =>
      cases h
      obtain ⟨g1, g2, _⟩ := sz_terms 5 _ _ _ ht hN
      rw [List.length_nil] at g1
      exact ⟨by omega, g2⟩
theorem hgt_lvs : ∀ e : Ex, e.hgt + 1 ≤ e.lvs
  | .num _ => Nat.le_refl _
  | .box _ => Nat.le_refl _
  | .op _ l r => by
    have h1 := hgt_lvs l
    have h2 := hgt_lvs r
    show max l.hgt r.hgt + 1 + 1 ≤ l.lvs + r.lvs
    omega
theorem app2_sm {c : List Nat} {a b : Int} {j k : Nat} (hj : 1 ≤ j) (hk : 1 ≤ k) (ha : a.natAbs < 2 ^ (11 * j)) (hb : b.natAbs < 2 ^ (11 * k)) : (app2 c a b).natAbs < 2 ^ (11 * (j + k)) := by
  have e : 2 ^ (11 * (j + k)) = 2 ^ (11 * j) * 2 ^ (11 * k) := by rw [Nat.mul_add, Nat.pow_add]
  have m1 : 2 ≤ 2 ^ (11 * j) := Nat.le_trans (by decide : 2 ≤ 2 ^ 11) (Nat.pow_le_pow_right (by decide) (by omega))
  have m2 : 2 ≤ 2 ^ (11 * k) := Nat.le_trans (by decide : 2 ≤ 2 ^ 11) (Nat.pow_le_pow_right (by decide) (by omega))
  have h : 2 ^ (11 * j) + 2 ^ (11 * k) ≤ 2 ^ (11 * j) * 2 ^ (11 * k) := by
    generalize 2 ^ (11 * j) = x at m1 ⊢
    generalize 2 ^ (11 * k) = y at m2 ⊢
    obtain ⟨x, rfl⟩ : ∃ u, x = u + 2 := ⟨x - 2, by omega⟩
    obtain ⟨y, rfl⟩ : ∃ u, y = u + 2 := ⟨y - 2, by omega⟩
    have e2 : (x + 2) * (y + 2) = x * y + 2 * x + 2 * y + 4 := by
      rw [Nat.add_mul, Nat.mul_add, Nat.mul_add]
      omega
    rw [e2]
    omega
  rw [e]
  unfold app2
  split
  · omega
  · split
    · omega
    · rw [Int.natAbs_mul]
      exact Nat.mul_lt_mul'' ha hb
theorem val_sm {ρ : Str → Int} (hρ : ∀ x ∈ nm3, (ρ x).natAbs < 2 ^ 11) : ∀ e : Ex, e.fin → (e.val ρ).natAbs < 2 ^ (11 * e.lvs)
  | .num n, h => h
  | .box x, h => hρ x h
  | .op c l r, h => app2_sm (Nat.le_trans (Nat.le_add_left _ _) (hgt_lvs l)) (Nat.le_trans (Nat.le_add_left _ _) (hgt_lvs r)) (val_sm hρ l h.1) (val_sm hρ r h.2)
theorem sm_of {a : Int} {k : Nat} (h : a.natAbs < 2 ^ (11 * k)) (hk : k ≤ 80) : a.natAbs < 2 ^ 1000 := Nat.lt_of_lt_of_le h (Nat.pow_le_pow_right (by decide) (by omega))

def spStir : Sp := fun vs H Q _ => ∃ cell k : Int, vs = [.int cell, .int k] ∧ 0 ≤ k ∧ ∀ n : Int, 0 ≤ n → n < 268435456 → Q (.int n) H
theorem p228 : CPow 2 28 := ⟨by decide, by decide, by decide⟩
theorem fin1 (a : Int) : 0 ≤ a % 2 ^ (28 : Int).toNat ∧ a % 2 ^ (28 : Int).toNat < 268435456 := by
  have e : (2 : Int) ^ (28 : Int).toNat = 268435456 := by decide
  rw [e]
  omega
theorem fin2 (a : Int) : 0 ≤ a % 2147483587 / 8 ∧ a % 2147483587 / 8 < 268435456 := by omega
section
variable {P : Program} {w : World} {K : PySem.W.Frag} {mg : Str → Option Value} {base : Heap}
theorem scStir : FnScope ["cell", "k", "number"] ["cell", "k"] (defScope sStir) := ⟨rfl, rfl, rfl, by decide +kernel, rfl, by decide +kernel, by decide +kernel⟩
theorem ok_stir (h : Has K mg "_law_stir" sStir ["cell", "k"]) : Cal P w K mg base 1 "_law_stir" ["cell", "k"] spStir := by
  refine h.cal scStir (fun vs H Q E h => ?_) (fun f cdv A outer s H vs Q E hr h => ?_)
  · obtain ⟨cell, k, rfl, _⟩ := h
    rfl
  obtain ⟨cell, k, rfl, hk, q⟩ := h
  refine ⟨_, pss_cons (ps_if (pt_cmpR op_ge (pv 0) (pe_op op_pow pe_int pe_int) (nomark _))
      (pss_one (ps_ret (pe_op op_mod (pe_op op_shr (pe_op op_sub (pv 0) (pe_op op_pow pe_int pe_int)) (pe_op op_mul pe_int (pv 1))) (pe_op op_pow pe_int pe_int)))) pss_nil)
    (pss_cons (ps_set (i := 2) scStir.nd rfl (Or.inl rfl) (pe_op op_mod (pe_op op_mul (pe_op op_add (pe_op op_add (pv 0) (pe_op op_mul pe_int (pv 1))) pe_int) pe_int) pe_int))
    (pss_cons (ps_set (i := 2) scStir.nd rfl (Or.inl rfl) (pe_op op_mod (pe_op op_mul (pv 2) (pv 2)) pe_int))
    (pss_one (ps_ret (pe_op op_fdiv (pe_op op_mod (pe_op op_mul (pv 2) pe_int) pe_int) pe_int))))), ?_⟩
  refine ⟨_, rfl, _, _, rfl, rfl, p1018, _, _, rfl, rfl, _, rfl, ?_⟩
  refine ite_d (fun _ => ?_) (fun _ => ?_)
  · refine ⟨_, rfl, _, _, rfl, rfl, p1018, _, _, rfl, rfl, _, rfl, _, _, rfl, rfl, cm (by decide) (by decide), _, _, rfl, rfl, (show (0 : Int) ≤ 28 * k by omega), _, _, rfl, rfl, p228, _, _, rfl, rfl, (by decide : (0 : Int) < 2 ^ (28 : Int).toNat), ?_⟩
    exact q _ (fin1 _).1 (fin1 _).2
  · refine ⟨_, rfl, _, rfl, _, _, rfl, rfl, cm (by decide) (by decide), _, _, rfl, rfl, _, _, rfl, rfl, _, _, rfl, rfl, cmr (by decide) (by decide), _, _, rfl, rfl, (by decide : (0 : Int) < 2147483647), ?_⟩
    refine ⟨_, rfl, _, rfl, _, _, rfl, rfl, cm (by omega) (by omega), _, _, rfl, rfl, (by decide : (0 : Int) < 2147483629), ?_⟩
    refine ⟨_, rfl, _, _, rfl, rfl, cm (by omega) (by omega), _, _, rfl, rfl, (by decide : (0 : Int) < 2147483587), _, _, rfl, rfl, ⟨by decide, by decide⟩, ?_⟩
    exact q _ (fin2 _).1 (fin2 _).2
end

def ValsAt (H : Hp) (d : Addr) (ρ : Str → Int) : Prop := ∃ kvs, H d = some (.dK kvs) ∧ ∀ x : Str, valV kvs (Sum.inr x : Key) = if x ∈ nm3 then some (.int (ρ x)) else none
theorem ValsAt.same {H H' : Hp} {d : Addr} {ρ : Str → Int} (h : ValsAt H d ρ) (s : Same H H') : ValsAt H' d ρ := by
  obtain ⟨kvs, h1, h2⟩ := h
  exact ⟨kvs, s _ _ h1, h2⟩
theorem ValsAt.get {H : Hp} {d : Addr} {ρ : Str → Int} (h : ValsAt H d ρ) (x : Str) : DGet H d (.str x) (if x ∈ nm3 then some (.int (ρ x)) else none) := by
  obtain ⟨kvs, h1, h2⟩ := h
  rw [← h2 x]
  exact DGet.k (k := Sum.inr x) h1
def Small (ρ : Str → Int) : Prop := ∀ x ∈ nm3, (ρ x).natAbs < 2 ^ 11
theorem tx_eq {t : List Nat} {y : Str} {l : List Nat} (h : cs y = l) : (V.str (tx t) = V.str y) ↔ t = l := by
  constructor
  · intro e
    have e := congrArg cs (V.str.inj e)
    rw [cs_tx, h] at e
    exact e
  · intro e
    rw [e]
    exact congrArg V.str (cs_inj (by rw [cs_tx, h]))
theorem one_eq {c : Nat} {y : Str} {k : Nat} (h : cs y = [k]) : (V.str ⟨#[c]⟩ = V.str y) ↔ c = k := by
  have := tx_eq (t := [c]) h
  rw [show (V.str ⟨#[c]⟩ = V.str y) ↔ [c] = [k] from this]
  simp
theorem one_ne {c : Nat} {y : Str} (h : y.length ≠ 1) : ¬ V.str ⟨#[c]⟩ = V.str y := fun e => by
  have e := V.str.inj e
  exact h (by rw [← e]; rfl)
def spWorth (n : Nat) : Sp := fun vs H Q _ => ∃ (v : V) (d : Addr) (e : Ex) (ρ : Str → Int), vs = [v, .ref d] ∧ TreeAt H e v ∧ ValsAt H d ρ ∧ Small ρ ∧ e.fin ∧ e.lvs ≤ 30 ∧ e.hgt + 1 ≤ n ∧ Q (.int (e.val ρ)) H
abbrev nV (N : List Int) : List V := N.reverse.map V.int
abbrev tV (t : List Nat) : V := .str (tx t)
abbrev sV (S : SS) : List V := S.reverse.map tV
theorem nV_cons (n : Int) (N : List Int) : nV (n :: N) = nV N ++ [.int n] := by simp [nV]
theorem sV_cons (g : List Nat) (S : SS) : sV (g :: S) = sV S ++ [tV g] := by simp [sV]
theorem last_at {α : Type} (xs : List α) (y : α) : (xs ++ [y])[(xs ++ [y]).length - 1]? = some y := by
  rw [List.length_append, List.length_singleton, Nat.add_sub_cancel, List.getElem?_append_right (Nat.le_refl _), Nat.sub_self]
  rfl
def RB2 (a b : Addr) (H H' : Hp) : Prop := ∀ x o, H x = some o → x ≠ a → x ≠ b → H' x = some o
theorem RB2.refl {a b : Addr} {H : Hp} : RB2 a b H H := fun _ _ e _ _ => e
theorem RB2.trans {a b : Addr} {H H1 H2 : Hp} (h : RB2 a b H H1) (g : RB2 a b H1 H2) : RB2 a b H H2 := fun x o e n1 n2 => g x o (h x o e n1 n2) n1 n2
theorem RB2.same {a b : Addr} {H H1 : Hp} (h : Same H H1) : RB2 a b H H1 := fun x o e _ _ => h x o e
theorem RB2.left {a b : Addr} {H : Hp} {o : HO} : RB2 a b H (upd H a o) := fun x o e n _ => by rw [upd_ne n]; exact e
theorem RB2.right {a b : Addr} {H : Hp} {o : HO} : RB2 a b H (upd H b o) := fun x o e _ n => by rw [upd_ne n]; exact e
def Wt : Nat → List Int → Prop
  | _, [] => True
  | k, n :: N => ∃ w, 1 ≤ w ∧ w ≤ k ∧ n.natAbs < 2 ^ (11 * w) ∧ Wt (k - w) N
theorem Wt.more : ∀ {N : List Int} {j k : Nat}, Wt j N → j ≤ k → Wt k N
  | [], _, _, _, _ => True.intro
  | _ :: _, _, _, ⟨w, h1, h2, h3, h4⟩, hk => ⟨w, h1, by omega, h3, h4.more (by omega)⟩
theorem Wt.leaf {N : List Int} {k : Nat} {v : Int} (h : Wt k N) (hv : v.natAbs < 2 ^ 11) : Wt (k + 1) (v :: N) := ⟨1, by omega, by omega, hv, h⟩
theorem Wt.app {g : List Nat} {o n : Int} {r : List Int} {k : Nat} (h : Wt k (o :: n :: r)) : Wt k (app2 g n o :: r) := by
  obtain ⟨w1, a1, a2, a3, w2, b1, b2, b3, b4⟩ := h
  refine ⟨w2 + w1, by omega, by omega, app2_sm b1 a1 b3 a3, ?_⟩
  rw [show k - (w2 + w1) = k - w1 - w2 by omega]
  exact b4
theorem Wt.bits {o n : Int} {r : List Int} {k : Nat} (h : Wt k (o :: n :: r)) (hk : k ≤ 80) : o.natAbs < 2 ^ 1000 ∧ n.natAbs < 2 ^ 1000 := by
  obtain ⟨w1, a1, a2, a3, w2, b1, b2, b3, b4⟩ := h
  exact ⟨sm_of a3 (by omega), sm_of b3 (by omega)⟩
def spReckon : Sp := fun vs H Q _ => ∃ (nl sl : Addr) (g : List Nat) (S : SS) (o n : Int) (r : List Int), vs = [.ref nl, .ref sl] ∧ nl ≠ sl ∧ H nl = some (.lst (nV (o :: n :: r))) ∧ H sl = some (.lst (sV (g :: S))) ∧ (g = [43] ∨ g = [45] ∨ g = [42]) ∧ o.natAbs < 2 ^ 1000 ∧ n.natAbs < 2 ^ 1000 ∧ r.length ≤ 1000 ∧
  ∀ H', H' nl = some (.lst (nV (app2 g n o :: r))) → H' sl = some (.lst (sV S)) → RB2 nl sl H H' → Q .non H'
section
variable {P : Program} {w : World} {K : PySem.W.Frag} {mg : Str → Option Value} {base : Heap}
theorem scWorth : FnScope ["e", "values", "left", "right"] ["e", "values"] (defScope sPWorth) := ⟨rfl, rfl, rfl, by decide +kernel, rfl, by decide +kernel, by decide +kernel⟩
theorem ok_worth {n : Nat} (h : Has K mg "worth" sPWorth ["e", "values"]) (cW : Cal P w K mg base (n + 1) "worth" ["e", "values"] (spWorth n)) : Cal P w K mg base (n + 2) "worth" ["e", "values"] (spWorth (n + 1)) := by
  refine h.cal scWorth (fun vs H Q E h => ?_) (fun f cdv A outer s H vs Q E hr h => ?_)
  · obtain ⟨v, d, e, ρ, rfl, _⟩ := h
    rfl
  obtain ⟨v, d, e, ρ, rfl, T, D, sm, fn, lv, hh, q⟩ := h
  have hu : _ + 1 < PySem.cLine := Nat.lt_of_le_of_lt (Nat.add_le_add_left (by decide : 1 ≤ 64) _) hr.units
  refine ⟨_, pss_cons (ps_if (pt_cmpR op_eq (pe_ix ix_tup (pv 0) pe_int (fun _ _ => rfl)) pe_str (nomark _)) (pss_one (ps_ret (pe_ix ix_tup (pv 0) pe_int (fun _ _ => rfl)))) pss_nil)
    (pss_cons (ps_if (pt_cmpR op_eq (pe_ix ix_tup (pv 0) pe_int (fun _ _ => rfl)) pe_str (nomark _)) (pss_one (ps_ret (pe_dget hu (pv 1) (pe_ix ix_tup (pv 0) pe_int (fun _ _ => rfl)) (fun _ _ => rfl)))) pss_nil)
    (pss_cons (ps_set (i := 2) scWorth.nd rfl (Or.inl rfl) (pe_cal cW hr rfl (pa_cons (pe_ix ix_tup (pv 0) pe_int (fun _ _ => rfl)) (pa_cons (pv 1) pa_nil))))
    (pss_cons (ps_set (i := 3) scWorth.nd rfl (Or.inl rfl) (pe_cal cW hr rfl (pa_cons (pe_ix ix_tup (pv 0) pe_int (fun _ _ => rfl)) (pa_cons (pv 1) pa_nil))))
    (pss_cons (ps_if (pt_cmpR op_eq (pe_ix ix_tup (pv 0) pe_int (fun _ _ => rfl)) pe_str (nomark _)) (pss_one (ps_ret (pe_op op_add (pv 2) (pv 3)))) pss_nil)
    (pss_cons (ps_if (pt_cmpR op_eq (pe_ix ix_tup (pv 0) pe_int (fun _ _ => rfl)) pe_str (nomark _)) (pss_one (ps_ret (pe_op op_sub (pv 2) (pv 3)))) pss_nil)
    (pss_one (ps_ret (pe_op op_mulB (pv 2) (pv 3))))))))), ?_⟩
  cases e with
  | num m =>
    obtain ⟨p, rfl, hp⟩ := T
    refine ⟨_, rfl, p, _, _, _, rfl, rfl, SqT.of hp, rfl, rfl, _, rfl, ite_t rfl ?_⟩
    exact ⟨_, rfl, p, _, _, _, rfl, rfl, SqT.of hp, rfl, q⟩
  | box x =>
    obtain ⟨p, rfl, hp⟩ := T
    refine ⟨_, rfl, p, _, _, _, rfl, rfl, SqT.of hp, rfl, rfl, _, rfl, ite_f (by decide +kernel) ?_⟩
    refine ⟨_, rfl, p, _, _, _, rfl, rfl, SqT.of hp, rfl, rfl, _, rfl, ite_t rfl ?_⟩
    have hl := D.get x
    rw [if_pos (show x ∈ nm3 from fn)] at hl
    exact ⟨_, rfl, _, rfl, p, _, _, _, rfl, rfl, SqT.of hp, rfl, d, _, rfl, hl, q⟩
  | op c l r =>
    obtain ⟨p, vl, vr, rfl, hp, Tl, Tr⟩ := T
    have hh : max l.hgt r.hgt + 1 + 1 ≤ n + 1 := hh
    have lv : l.lvs + r.lvs ≤ 30 := lv
    have b1 := sm_of (val_sm sm l fn.1) (by omega)
    have b2 := sm_of (val_sm sm r fn.2) (by omega)
    refine ⟨_, rfl, p, _, _, _, rfl, rfl, SqT.of hp, rfl, rfl, _, rfl, ite_f (one_ne (by decide +kernel)) ?_⟩
    refine ⟨_, rfl, p, _, _, _, rfl, rfl, SqT.of hp, rfl, rfl, _, rfl, ite_f (one_ne (by decide +kernel)) ?_⟩
    refine ⟨_, rfl, p, _, _, _, rfl, rfl, SqT.of hp, rfl, _, rfl, vl, d, l, ρ, rfl, Tl, D, sm, fn.1, by omega, by omega, ?_⟩
    refine ⟨_, rfl, p, _, _, _, rfl, rfl, SqT.of hp, rfl, _, rfl, vr, d, r, ρ, rfl, Tr, D, sm, fn.2, by omega, by omega, ?_⟩
    have q : Q (.int (app2 [c] (l.val ρ) (r.val ρ))) H := q
    unfold app2 at q
    refine ⟨_, rfl, p, _, _, _, rfl, rfl, SqT.of hp, rfl, rfl, _, rfl, ite_d (fun e => ?_) (fun e => ?_)⟩
    · have e := (one_eq (k := 43) (by decide +kernel)).mp e
      rw [if_pos (by rw [e])] at q
      exact ⟨_, rfl, _, rfl, _, _, rfl, rfl, q⟩
    have e : ¬ [c] = [43] := fun y => e ((one_eq (k := 43) (by decide +kernel)).mpr (List.cons.inj y).1)
    rw [if_neg e] at q
    refine ⟨_, rfl, p, _, _, _, rfl, rfl, SqT.of hp, rfl, rfl, _, rfl, ite_d (fun e => ?_) (fun e => ?_)⟩
    · have e := (one_eq (k := 45) (by decide +kernel)).mp e
      rw [if_pos (by rw [e])] at q
      exact ⟨_, rfl, _, rfl, _, _, rfl, rfl, q⟩
    have e : ¬ [c] = [45] := fun y => e ((one_eq (k := 45) (by decide +kernel)).mpr (List.cons.inj y).1)
    rw [if_neg e] at q
    exact ⟨_, rfl, _, rfl, _, _, rfl, rfl, ⟨b1, b2⟩, q⟩
theorem all_worth (h : Has K mg "worth" sPWorth ["e", "values"]) : ∀ n : Nat, Cal P w K mg base (n + 1) "worth" ["e", "values"] (spWorth n)
  | 0 => h.cal (k := 0) scWorth (fun vs H Q E h => by obtain ⟨v, d, e, ρ, rfl, _⟩ := h; rfl) fun f cdv A outer s H vs Q E hr h => by
      obtain ⟨v, d, e, ρ, _, _, _, _, _, _, h1, _⟩ := h
      omega
  | n + 1 => ok_worth h (all_worth h n)
theorem scReckon : FnScope ["numbers", "signs", "sign", "other", "one"] ["numbers", "signs"] (defScope sReckon) := ⟨rfl, rfl, rfl, by decide +kernel, rfl, by decide +kernel, by decide +kernel⟩
theorem ok_reckon (h : Has K mg "_law_reckon" sReckon ["numbers", "signs"]) : Cal P w K mg base 1 "_law_reckon" ["numbers", "signs"] spReckon := by
  refine h.cal scReckon (fun vs H Q E h => ?_) (fun f cdv A outer s H vs Q E hr h => ?_)
  · obtain ⟨nl, sl, g, S, o, n, r, rfl, _⟩ := h
    rfl
  obtain ⟨nl, sl, g, S, o, n, r, rfl, hne, hN, hS, hg, ho, hn, hrl, q⟩ := h
  have hu : _ + 1 < PySem.cLine := Nat.lt_of_le_of_lt (Nat.add_le_add_left (by decide : 1 ≤ 64) _) hr.units
  refine ⟨_, (pss_cons (ps_set (i := 2) scReckon.nd rfl (Or.inl rfl) (pe_bm0 PySem.F.plainAttrs_list PySem.F.slot_list_pop PySem.F.type_list_pop mt_pop (pv 1)))
    (pss_cons (ps_set (i := 3) scReckon.nd rfl (Or.inl rfl) (pe_bm0 PySem.F.plainAttrs_list PySem.F.slot_list_pop PySem.F.type_list_pop mt_pop (pv 0)))
    (pss_cons (ps_set (i := 4) scReckon.nd rfl (Or.inl rfl) (pe_bm0 PySem.F.plainAttrs_list PySem.F.slot_list_pop PySem.F.type_list_pop mt_pop (pv 0)))
    (pss_one (ps_expr (pe_bm PySem.F.plainAttrs_list PySem.F.slot_list_append PySem.F.type_list_append mt_append (pv 0) (pa_cons (pe_dget hu (pe_disp (pps_cons pe_str (pe_op op_add (pv 4) (pv 3)) (pps_cons pe_str (pe_op op_sub (pv 4) (pv 3)) (pps_cons pe_str (pe_op op_mulB (pv 4) (pv 3)) pps_nil))) rfl rfl (fun z => nomatch z) (by show 3 ≤ 15; decide)) (pv 2) (fun _ _ => rfl)) pa_nil))))))), ?_⟩
  rw [sV_cons] at hS
  rw [nV_cons] at hN
  refine ⟨_, rfl, .inl ⟨rfl, _, SqL.of hS⟩, sl, _, _, rfl, rfl, hS, last_at _ _, ?_⟩
  rw [List.dropLast_concat]
  have hN1 : upd H sl (.lst (sV S)) nl = some (.lst (nV (n :: r) ++ [.int o])) := by rw [upd_ne hne]; exact hN
  have hS1 : upd H sl (.lst (sV S)) sl = some (.lst (sV S)) := upd_same
  have B1 : RB2 nl sl H (upd H sl (.lst (sV S))) := RB2.right
  change tSeq _ _ _ _ (upd H sl (.lst (sV S)))
  generalize upd H sl (.lst (sV S)) = H1 at *
  refine ⟨_, rfl, .inl ⟨rfl, _, SqL.of hN1⟩, nl, _, _, rfl, rfl, hN1, last_at _ _, ?_⟩
  rw [List.dropLast_concat]
  have hN2 : upd H1 nl (.lst (nV (n :: r))) nl = some (.lst (nV r ++ [.int n])) := by rw [upd_same, nV_cons]
  have hS2 : upd H1 nl (.lst (nV (n :: r))) sl = some (.lst (sV S)) := by rw [upd_ne (Ne.symm hne)]; exact hS1
  have B2 : RB2 nl sl H (upd H1 nl (.lst (nV (n :: r)))) := B1.trans RB2.left
  change tSeq _ _ _ _ (upd H1 nl (.lst (nV (n :: r))))
  generalize upd H1 nl (.lst (nV (n :: r))) = H2 at *
  refine ⟨_, rfl, .inl ⟨rfl, _, SqL.of hN2⟩, nl, _, _, rfl, rfl, hN2, last_at _ _, ?_⟩
  rw [List.dropLast_concat]
  have hN3 : upd H2 nl (.lst (nV r)) nl = some (.lst (nV r)) := upd_same
  have hS3 : upd H2 nl (.lst (nV r)) sl = some (.lst (sV S)) := by rw [upd_ne (Ne.symm hne)]; exact hS2
  have B3 : RB2 nl sl H (upd H2 nl (.lst (nV r))) := B2.trans RB2.left
  generalize upd H2 nl (.lst (nV r)) = H3 at *
  refine ⟨_, rfl, .inl ⟨rfl, _, SqL.of hN3⟩, fun p hp => ⟨_, rfl, _, rfl, _, _, rfl, rfl, _, rfl, _, rfl, _, _, rfl, rfl, _, rfl, _, rfl, _, _, rfl, rfl, ⟨hn, ho⟩, upd_same, [(Sum.inr "+", .int (n + o)), (Sum.inr "-", .int (n - o)), (Sum.inr "*", .int (n * o))], rfl, (by show 3 ≤ 15; decide), ?_⟩⟩
  have nep : ∀ x ob, H3 x = some ob → upd (upd H3 p (.dK [])) p (.dK (mergeK [] [(Sum.inr "+", .int (n + o)), (Sum.inr "-", .int (n - o)), (Sum.inr "*", .int (n * o))])) x = some ob := fun x ob e => by
    rw [upd_ne (ne_of_none e hp), upd_ne (ne_of_none e hp)]
    exact e
  have dg : upd (upd H3 p (.dK [])) p (.dK (mergeK [] [(Sum.inr "+", .int (n + o)), (Sum.inr "-", .int (n - o)), (Sum.inr "*", .int (n * o))])) p = some (.dK (mergeK [] [(Sum.inr "+", .int (n + o)), (Sum.inr "-", .int (n - o)), (Sum.inr "*", .int (n * o))])) := upd_same
  generalize upd (upd H3 p (.dK [])) p (.dK (mergeK [] [(Sum.inr "+", .int (n + o)), (Sum.inr "-", .int (n - o)), (Sum.inr "*", .int (n * o))])) = H4 at nep dg ⊢
  have look : ∀ x : Str, valV (mergeK [] [((Sum.inr "+" : Key), V.int (n + o)), (Sum.inr "-", .int (n - o)), (Sum.inr "*", .int (n * o))]) (Sum.inr x : Key) = if x = "*" then some (.int (n * o)) else if x = "-" then some (.int (n - o)) else if x = "+" then some (.int (n + o)) else none := fun x => by
    show valV (putK (putK (putK ([] : List (Key × V)) (Sum.inr "+") (.int (n + o))) (Sum.inr "-") (.int (n - o))) (Sum.inr "*") (.int (n * o))) (Sum.inr x) = _
    rw [valV_put, valV_put, valV_put]
    have e : ∀ y : Str, ((Sum.inr x : Key) = Sum.inr y) = (x = y) := fun y => by simp
    simp only [e]
    rfl
  have val : valV (mergeK [] [((Sum.inr "+" : Key), V.int (n + o)), (Sum.inr "-", .int (n - o)), (Sum.inr "*", .int (n * o))]) (Sum.inr (tx g) : Key) = some (.int (app2 g n o)) := by
    rw [look]
    have eq : ∀ (y : Str) (l : List Nat), cs y = l → ((tx g = y) ↔ g = l) := fun y l hy => by
      rw [← tx_eq (t := g) hy]
      exact ⟨fun z => congrArg V.str z, V.str.inj⟩
    unfold app2
    rcases hg with rfl | rfl | rfl
    · rw [if_neg (by rw [eq "*" [42] (by decide +kernel)]; decide), if_neg (by rw [eq "-" [45] (by decide +kernel)]; decide), if_pos ((eq "+" [43] (by decide +kernel)).mpr rfl), if_pos rfl]
    · rw [if_neg (by rw [eq "*" [42] (by decide +kernel)]; decide), if_pos ((eq "-" [45] (by decide +kernel)).mpr rfl), if_neg (by decide), if_pos rfl]
    · rw [if_pos ((eq "*" [42] (by decide +kernel)).mpr rfl), if_neg (by decide), if_neg (by decide)]
  refine ⟨_, rfl, p, _, rfl, val ▸ DGet.k (k := Sum.inr (tx g)) dg, nl, _, _, rfl, rfl, nep _ _ hN3, ?_, q _ ?_ ?_ ?_⟩
  · refine small1000 ?_
    rw [List.length_map, List.length_reverse]
    exact hrl
  · rw [upd_same, nV_cons]
  · rw [upd_ne (Ne.symm hne)]
    exact nep _ _ hS3
  · exact (B3.trans (fun x ob e _ _ => nep x ob e)).trans RB2.left
end

def Nice (p : Pt) : Prop := p.2.length ≤ 7 ∧ p.2 ≠ [] ∧ ((p.1 = .ltr ∧ tx p.2 ∈ nm3) ∨ (p.1 = .fig ∧ (∀ c ∈ p.2, isD c = true) ∧ ∃ m, PySem.intText? (tx p.2) = some m ∧ m.natAbs < 2 ^ 11) ∨ (p.1 = .oth ∧ (p.2 = [40] ∨ p.2 = [41] ∨ p.2 = [42] ∨ p.2 = [43] ∨ p.2 = [45])))
abbrev pV (p : Pt) : V := .str (tx p.2)
def spDue : Sp := fun vs H Q _ => ∃ (pl d : Addr) (ps : List Pt) (ρ : Str → Int) (v : Int), vs = [.ref pl, .ref d] ∧ H pl = some (.lst (ps.map pV)) ∧ ps.length ≤ 60 ∧ (∀ p ∈ ps, Nice p) ∧ ValsAt H d ρ ∧ Small ρ ∧ out ρ ps [] [] = some [v] ∧ ∀ H', Same H H' → Q (.int v) H'
theorem nm3_dig {t : List Nat} (h : ∀ c ∈ t, isD c = true) (h0 : t ≠ []) : ¬ tx t ∈ nm3 := fun hm => by
  cases t with
  | nil => exact h0 rfl
  | cons c t =>
    have hc := h c List.mem_cons_self
    have key : ∀ (y : Str) (l : List Nat) (k : Nat) (r : List Nat), cs y = l → l = k :: r → isD k = false → tx (c :: t) ≠ y := fun y l k r hy hl hk e => by
      have e := congrArg cs e
      rw [cs_tx, hy, hl] at e
      rw [(List.cons.inj e).1, hk] at hc
      cases hc
    unfold nm3 at hm
    rw [List.mem_cons, List.mem_cons, List.mem_singleton] at hm
    rcases hm with e | e | e
    · exact key "a" [97] 97 [] (by decide +kernel) rfl rfl e
    · exact key "bb" [98, 98] 98 [98] (by decide +kernel) rfl rfl e
    · exact key "c" [99] 99 [] (by decide +kernel) rfl rfl e
theorem in4 (t : List Nat) : inV (.str (tx t)) [.str "+", .str "-", .str "*", .str ")"] = decide (t = [43] ∨ t = [45] ∨ t = [42] ∨ t = [41]) := by
  have h := inV_strs (tx t) ["+", "-", "*", ")"]
  rw [show inV (.str (tx t)) [.str "+", .str "-", .str "*", .str ")"] = decide (tx t ∈ (["+", "-", "*", ")"] : List Str)) from h, Bool.eq_iff_iff, decide_eq_true_iff, decide_eq_true_iff]
  have e : ∀ (y : Str) (l : List Nat), cs y = l → (tx t = y ↔ t = l) := fun y l hy => by
    rw [← tx_eq (t := t) hy]
    exact ⟨fun z => congrArg V.str z, V.str.inj⟩
  rw [List.mem_cons, List.mem_cons, List.mem_cons, List.mem_singleton, e "+" [43] (by decide +kernel), e "-" [45] (by decide +kernel), e "*" [42] (by decide +kernel), e ")" [41] (by decide +kernel)]
/-- what stands while the heaps are worked on -/
structure Two (H1 : Hp) (nl sl : Addr) (S : SS) (N : List Int) (k : Nat) (H : Hp) : Prop where
  ne : nl ≠ sl
  hn : H nl = some (.lst (nV N))
  hs : H sl = some (.lst (sV S))
  wt : Wt k N
  ls : S.length ≤ k
  ln : N.length ≤ k
  bt : RB2 nl sl H1 H
  sg : ∀ g ∈ S, g = [40] ∨ g = [42] ∨ g = [43] ∨ g = [45]
theorem Two.new {H1 H : Hp} {nl sl : Addr} {S : SS} {N : List Int} {k : Nat} {p : Addr} {o : HO} (h : Two H1 nl sl S N k H) (hp : H p = none) : Two H1 nl sl S N k (upd H p o) :=
  ⟨h.ne, Same.new hp o _ _ h.hn, Same.new hp o _ _ h.hs, h.wt, h.ls, h.ln, h.bt.trans (RB2.same (Same.new hp o)), h.sg⟩
theorem Two.pushN {H1 H : Hp} {nl sl : Addr} {S : SS} {N : List Int} {k : Nat} {v : Int} (h : Two H1 nl sl S N k H) (hv : v.natAbs < 2 ^ 11) : Two H1 nl sl S (v :: N) (k + 1) (upd H nl (.lst (nV N ++ [.int v]))) :=
  ⟨h.ne, by rw [upd_same, nV_cons], by rw [upd_ne (Ne.symm h.ne)]; exact h.hs, h.wt.leaf hv, Nat.le_succ_of_le h.ls, Nat.succ_le_succ h.ln, h.bt.trans RB2.left, h.sg⟩
theorem Two.pushS {H1 H : Hp} {nl sl : Addr} {S : SS} {N : List Int} {k : Nat} {g : List Nat} (h : Two H1 nl sl S N k H) (hg : g = [40] ∨ g = [42] ∨ g = [43] ∨ g = [45]) : Two H1 nl sl (g :: S) N (k + 1) (upd H sl (.lst (sV S ++ [tV g]))) :=
  ⟨h.ne, by rw [upd_ne h.ne]; exact h.hn, by rw [upd_same, sV_cons], h.wt.more (Nat.le_succ _), Nat.succ_le_succ h.ls, Nat.le_succ_of_le h.ln, h.bt.trans RB2.right, fun x hx => by
    rcases List.mem_cons.mp hx with rfl | hx
    · exact hg
    · exact h.sg x hx⟩
theorem Two.up {H1 H : Hp} {nl sl : Addr} {S : SS} {N : List Int} {k : Nat} (h : Two H1 nl sl S N k H) : Two H1 nl sl S N (k + 1) H :=
  ⟨h.ne, h.hn, h.hs, h.wt.more (Nat.le_succ _), Nat.le_succ_of_le h.ls, Nat.le_succ_of_le h.ln, h.bt, h.sg⟩
theorem Two.popS {H1 H : Hp} {nl sl : Addr} {S : SS} {N : List Int} {k : Nat} {g : List Nat} (h : Two H1 nl sl (g :: S) N k H) : Two H1 nl sl S N k (upd H sl (.lst (sV S))) :=
  ⟨h.ne, by rw [upd_ne h.ne]; exact h.hn, upd_same, h.wt, Nat.le_of_succ_le h.ls, h.ln, h.bt.trans RB2.right, fun x hx => h.sg x (List.mem_cons_of_mem _ hx)⟩
section
variable {P : Program} {w : World} {K : PySem.W.Frag} {mg : Str → Option Value} {base : Heap}
theorem scDue : FnScope ["parts", "values", "numbers", "signs", "part"] ["parts", "values"] (defScope sDue) := ⟨rfl, rfl, rfl, by decide +kernel, rfl, by decide +kernel, by decide +kernel⟩
theorem ok_due (h : Has K mg "_law_due" sDue ["parts", "values"]) (B : Blt mg) (cR : Cal P w K mg base 1 "_law_reckon" ["numbers", "signs"] spReckon) : Cal P w K mg base 2 "_law_due" ["parts", "values"] spDue := by
  refine h.cal scDue (fun vs H Q E h => ?_) (fun f cdv A outer s H vs Q E hr h => ?_)
  · obtain ⟨pl, d, ps, ρ, v, rfl, _⟩ := h
    rfl
  obtain ⟨pl, d, ps, ρ, v, rfl, hP, h60, hNi, D, sm, ho, q⟩ := h
  have hu := hr.units0
  have hu1 : _ + 1 < PySem.cLine := Nat.lt_of_le_of_lt (Nat.add_le_add_left (by decide : 1 ≤ 64) _) hr.units
  refine ⟨_, (pss_cons (ps_set (i := 2) scDue.nd rfl (Or.inl rfl) (pe_lst pa_nil))
    (pss_cons (ps_set (i := 3) scDue.nd rfl (Or.inl rfl) (pe_lst pa_nil))
    (pss_cons (ps_for PassesOwn.never rfl (pi_list (pe_op op_cat (pv 0) (pe_lst (pa_cons pe_str pa_nil)))) (pg_name (i := 4) scDue.nd rfl (Or.inl rfl))
      (pss_one (ps_if (pt_cmpR op_eq (pv 4) pe_str (nomark _)) (pss_one (ps_expr (pe_bm PySem.F.plainAttrs_list PySem.F.slot_list_append PySem.F.type_list_append mt_append (pv 3) (pa_cons (pv 4) pa_nil))))
      (pss_one (ps_if (pt_cmp (pc_din hu1 (pv 4) (pv 1))) (pss_one (ps_expr (pe_bm PySem.F.plainAttrs_list PySem.F.slot_list_append PySem.F.type_list_append mt_append (pv 2) (pa_cons (pe_dget hu1 (pv 1) (pv 4) (fun _ _ => rfl)) pa_nil))))
      (pss_one (ps_if (pt_cmpR op_notIn_seq (pv 4) (pe_lst (pa_cons pe_str (pa_cons pe_str (pa_cons pe_str (pa_cons pe_str pa_nil))))) (by with_unfolding_all rfl)) (pss_one (ps_expr (pe_bm PySem.F.plainAttrs_list PySem.F.slot_list_append PySem.F.type_list_append mt_append (pv 2) (pa_cons (pe_callTy call_int_text rfl B.int bt_int (pa_cons (pv 4) pa_nil)) pa_nil))))
        (pss_cons (ps_while PassesOwn.never (PW.pt (pw_and (pt_cmpR (op_neN hu) (pv 3) (pe_lst pa_nil) (nomark _)) (pw_and (pt_cmpR op_ne (pe_ix ix_list (pv 3) (pe_un un_neg pe_int) (fun _ _ => rfl)) pe_str (nomark _)) (pw_and1 (PW.pt (pw_or (pt_cmpR op_ne (pv 4) pe_str (nomark _)) (pw_or1 (pt_cmpR op_eq (pe_ix ix_list (pv 3) (pe_un un_neg pe_int) (fun _ _ => rfl)) pe_str (nomark _))))))))) (pss_one (ps_expr (pe_cal cR hr rfl (pa_cons (pv 2) (pa_cons (pv 3) pa_nil))))))
        (pss_one (ps_if (pt_cmpR op_ne (pv 4) pe_str (nomark _)) (pss_one (ps_expr (pe_bm PySem.F.plainAttrs_list PySem.F.slot_list_append PySem.F.type_list_append mt_append (pv 3) (pa_cons (pv 4) pa_nil))))
          (pss_one (ps_if (pt_cmpR (op_neN hu) (pv 3) (pe_lst pa_nil) (nomark _)) (pss_one (ps_expr (pe_bm0 PySem.F.plainAttrs_list PySem.F.slot_list_pop PySem.F.type_list_pop mt_pop (pv 3)))) pss_nil))))))))))))
    (pss_one (ps_ret (pe_ix ix_list (pv 2) pe_int (fun _ _ => rfl))))))), ?_⟩
  refine ⟨(by show 0 ≤ sizeLine; decide), fun nl hnl => ⟨(by show 0 ≤ sizeLine; decide), fun sl hsl => ⟨_, rfl, (by show 1 ≤ sizeLine; decide), fun tl htl => ?_⟩⟩⟩
  have nes : nl ≠ sl := fun e => by
    rw [e] at hsl
    rw [upd_same] at hsl
    cases hsl
  have sA := Same.new hnl (.lst [])
  have sB := Same.new hsl (.lst [])
  have sC := Same.new htl (.lst [.str ")"])
  refine ⟨pl, tl, _, _, rfl, rfl, sC _ _ (sB _ _ (sA _ _ hP)), upd_same, ?_, fun cl hcl => ?_⟩
  · rw [List.length_map]
    exact Nat.le_of_lt (small1000 (by show ps.length + 1 ≤ 1000; omega))
  have eL : ps.map pV ++ [.str ")"] = (ps ++ [shut]).map pV := by
    rw [List.map_append]
    congr 1
  rw [eL]
  have sD := Same.new hcl (.lst ((ps ++ [shut]).map pV))
  have hn0 := sD _ _ (sC _ _ (sB _ _ (upd_same (H := H) (a := nl) (o := .lst []))))
  have hs0 := sD _ _ (sC _ _ (upd_same (H := upd H nl (.lst [])) (a := sl) (o := .lst [])))
  have hc0 := upd_same (H := upd (upd (upd H nl (.lst [])) sl (.lst [])) tl (.lst [.str ")"])) (a := cl) (o := .lst ((ps ++ [shut]).map pV))
  have sH : Same H (upd (upd (upd (upd H nl (.lst [])) sl (.lst [])) tl (.lst [.str ")"])) cl (.lst ((ps ++ [shut]).map pV))) := sA.trans (sB.trans (sC.trans sD))
  have ncn : cl ≠ nl := fun e => by
    have := hcl
    rw [e] at this
    rw [(sC _ _ (sB _ _ (upd_same (H := H) (a := nl) (o := .lst []))))] at this
    cases this
  have ncs : cl ≠ sl := fun e => by
    have := hcl
    rw [e] at this
    rw [(sC _ _ (upd_same (H := upd H nl (.lst [])) (a := sl) (o := .lst [])))] at this
    cases this
  generalize upd (upd (upd (upd H nl (.lst [])) sl (.lst [])) tl (.lst [.str ")"])) cl (.lst ((ps ++ [shut]).map pV)) = H1 at *
  have same2 : ∀ H2, RB2 nl sl H1 H2 → Same H H2 := fun H2 b x o e => b x o (sH _ _ e) (fun y => by rw [y, hnl] at e; cases e) (fun y => by
    rw [y] at e
    have := sA _ _ e
    rw [hsl] at this
    cases this)
  refine ⟨cl, rfl, ⟨_, SqL.of hc0⟩, for_list (K := K) (a := cl) (xs := (ps ++ [shut]).map pV) (fun i σ H2 => ∃ (S : SS) (N : List Int) (s4 : Option V), σ = [some (.ref pl), some (.ref d), some (.ref nl), some (.ref sl), s4] ∧ Two H1 nl sl S N i H2 ∧ outL ρ ((ps ++ [shut]).drop i) S N = some [v])
    ⟨[], [], none, rfl, ⟨nes, hn0, hs0, True.intro, Nat.le_refl _, Nat.le_refl _, RB2.refl, fun g hg => by cases hg⟩, ho⟩ (fun i σ H2 _ ⟨_, _, _, _, t2, _⟩ => SqL.of (t2.bt _ _ hc0 ncn ncs)) ?_ ?_⟩
  · rintro i y σ H2 hy ⟨S, N, s4, rfl, T2, hw⟩
    have hi : i < (ps ++ [shut]).length := by
      have := (List.getElem?_eq_some_iff.mp hy).1
      rwa [List.length_map] at this
    have hi60 : i ≤ 60 := by
      rw [List.length_append, List.length_singleton] at hi
      omega
    obtain ⟨⟨k, t⟩, hk⟩ : ∃ p, (ps ++ [shut])[i]? = some p := ⟨_, List.getElem?_eq_getElem hi⟩
    rw [List.getElem?_map, hk] at hy
    cases hy
    have ed : (ps ++ [shut]).drop i = (k, t) :: (ps ++ [shut]).drop (i + 1) := by
      rw [List.drop_eq_getElem_cons hi]
      congr 1
      exact Option.some.inj ((List.getElem?_eq_getElem hi).symm.trans hk)
    rw [ed, outL] at hw
    have ni : Nice (k, t) := by
      rcases List.mem_append.mp (List.mem_of_getElem? hk) with hm | hm
      · exact hNi _ hm
      · cases List.mem_singleton.mp hm
        exact ⟨by decide, by decide, .inr (.inr ⟨rfl, .inr (.inl rfl)⟩)⟩
    generalize (ps ++ [shut]).drop (i + 1) = rest at hw
    have hN2 := T2.hn
    have hS2 := T2.hs
    have D2 := D.same (same2 _ T2.bt)
    have lN : (nV N).length < sizeLine := small1000 (by rw [List.length_map, List.length_reverse]; have := T2.ln; omega)
    have lS : (sV S).length < sizeLine := small1000 (by rw [List.length_map, List.length_reverse]; have := T2.ls; omega)
    refine ⟨_, rfl, rfl, _, rfl, ?_⟩
    by_cases h40 : t = [40]
    · refine iteB (decide_eq_true ((tx_eq (by decide +kernel)).mpr h40)) ?_
      have e : stp1 ρ (k, t) S N = some ([40] :: S, N) := by
        unfold stp1
        rw [if_pos h40]
      rw [e] at hw
      refine ⟨_, rfl, .inl ⟨rfl, _, SqL.of hS2⟩, _, rfl, sl, _, _, rfl, rfl, hS2, lS, [40] :: S, N, _, rfl, ?_, hw⟩
      rw [h40]
      exact T2.pushS (.inl rfl)
    refine iteC (decide_eq_false (fun y => h40 ((tx_eq (by decide +kernel)).mp y))) ?_
    have e : stp1 ρ (k, t) S N = if k ≠ .oth then (lv ρ (k, t)).map (fun v => (S, v :: N)) else (red t S N).map (shift t) := by
      unfold stp1
      rw [if_neg h40]
    rw [e] at hw
    have nin : tx t ∉ nm3 → DGet H2 d (.str (tx t)) none := fun hx => by
      have := D2.get (tx t)
      rwa [if_neg hx] at this
    rcases ni.2.2 with ⟨rfl, hm⟩ | ⟨rfl, hd, m, hm, hm2⟩ | ⟨rfl, hs⟩
    · have g := D2.get (tx t)
      rw [if_pos hm] at g
      rw [if_pos (by decide)] at hw
      have hw : outL ρ rest S (ρ (tx t) :: N) = some [v] := hw
      refine ⟨_, rfl, _, rfl, d, _, rfl, g, _, rfl, iteT ⟨_, rfl, .inl ⟨rfl, _, SqL.of hN2⟩, _, rfl, _, rfl, d, _, rfl, g, nl, _, _, rfl, rfl, hN2, lN, S, _, _, rfl, T2.pushN (sm _ hm), hw⟩⟩
    · rw [if_pos (by decide), show lv ρ (.fig, t) = some m from hm] at hw
      have hw : outL ρ rest S (m :: N) = some [v] := hw
      have n4 : ¬ (t = [43] ∨ t = [45] ∨ t = [42] ∨ t = [41]) := by
        rintro (y | y | y | y) <;> · rw [y] at hd
                                     exact absurd (hd _ List.mem_cons_self) (by decide)
      refine ⟨_, rfl, _, rfl, d, _, rfl, nin (nm3_dig hd ni.2.1), _, rfl, iteF ⟨_, rfl, (by show 4 ≤ sizeLine; decide), fun e0 he0 => ⟨e0, _, rfl, .inl (SqL.of upd_same), rfl, rfl, _, rfl, ?_⟩⟩⟩
      have T3 := T2.new (o := .lst [.str "+", .str "-", .str "*", .str ")"]) he0
      refine iteB (by show (!inV (.str (tx t)) [.str "+", .str "-", .str "*", .str ")"]) = true; rw [in4, decide_eq_false n4]; rfl) ?_
      have l7 : (tx t).length ≤ 640 := by
        rw [← cs_len, cs_tx]
        have : t.length ≤ 7 := ni.1
        omega
      exact ⟨_, rfl, .inl ⟨rfl, _, SqL.of T3.hn⟩, _, rfl, tx t, m, rfl, l7, hm, nl, _, _, rfl, rfl, T3.hn, lN, S, _, _, rfl, T3.pushN hm2, hw⟩
    · rw [if_neg (fun y => y rfl)] at hw
      have hs : t = [41] ∨ t = [42] ∨ t = [43] ∨ t = [45] := by
        rcases hs with y | y | y | y | y
        · exact absurd y h40
        · exact .inl y
        · exact .inr (.inl y)
        · exact .inr (.inr (.inl y))
        · exact .inr (.inr (.inr y))
      have h4 : t = [43] ∨ t = [45] ∨ t = [42] ∨ t = [41] := by
        rcases hs with y | y | y | y
        · exact .inr (.inr (.inr y))
        · exact .inr (.inr (.inl y))
        · exact .inl y
        · exact .inr (.inl y)
      have nl3 : tx t ∉ nm3 := by
        rcases hs with y | y | y | y <;> rw [y] <;> decide +kernel
      refine ⟨_, rfl, _, rfl, d, _, rfl, nin nl3, _, rfl, iteF ⟨_, rfl, (by show 4 ≤ sizeLine; decide), fun e0 he0 => ⟨e0, _, rfl, .inl (SqL.of upd_same), rfl, rfl, _, rfl, ?_⟩⟩⟩
      have T3 := T2.new (o := .lst [.str "+", .str "-", .str "*", .str ")"]) he0
      refine iteC (by show (!inV (.str (tx t)) [.str "+", .str "-", .str "*", .str ")"]) = false; rw [in4, decide_eq_true h4]; rfl) ?_
      generalize upd H2 e0 (.lst [.str "+", .str "-", .str "*", .str ")"]) = H3 at T3 ⊢
      refine seq_cut (fun σ' H' => ∃ (S' : SS) (N' : List Int), σ' = [some (.ref pl), some (.ref d), some (.ref nl), some (.ref sl), some (.str (tx t))] ∧ Two H1 nl sl S' N' i H' ∧ red t S N = some (S', N')) (fun R' hR' => ?_) ?_
      · have hsome : ∃ x, red t S N = some x := by
          cases hr : red t S N with
          | none => rw [hr] at hw; cases hw
          | some x => exact ⟨x, rfl⟩
        refine ⟨fun m σ H4 => ∃ (S' : SS) (N' : List Int), m = S'.length ∧ σ = [some (.ref pl), some (.ref d), some (.ref nl), some (.ref sl), some (.str (tx t))] ∧ Two H1 nl sl S' N' i H4 ∧ red t S N = red t S' N', ⟨_, S, N, rfl, rfl, T3, rfl⟩, ?_⟩
        rintro m σ H4 ⟨S', N', rfl, rfl, T4, er⟩
        refine ⟨_, rfl, (by show 0 ≤ sizeLine; decide), fun e1 he1 => ⟨sl, e1, _, rfl, rfl, SqL.of (Same.new he1 _ _ _ T4.hs), SqL.of upd_same, _, rfl, ?_⟩⟩
        have T5 := T4.new (o := .lst []) he1
        generalize upd H4 e1 (.lst []) = H5 at T5 ⊢
        cases S' with
        | nil => exact iteF (iteF (hR' _ _ ⟨[], N', rfl, T5, er⟩))
        | cons g S2 =>
          have hs5 := T5.hs
          rw [sV_cons] at hs5
          have sg := T5.sg g List.mem_cons_self
          have hne : (!(sV (g :: S2)).isEmpty) = true := by rw [sV_cons]; simp
          have go : g ≠ [40] → (t ≠ [42] ∨ g = [42]) → ∃ N0 : St → Hp → Prop, (∀ σ' H', N0 σ' H' → ∃ m', m' < (g :: S2).length ∧ ∃ (S' : SS) (N' : List Int), m' = S'.length ∧ σ' = [some (.ref pl), some (.ref d), some (.ref nl), some (.ref sl), some (.str (tx t))] ∧ Two H1 nl sl S' N' i H' ∧ red t S N = red t S' N') ∧
              spReckon [.ref nl, .ref sl] H5 (fun _ H' => N0 [some (.ref pl), some (.ref d), some (.ref nl), some (.ref sl), some (.str (tx t))] H') (fun _ _ _ => False) := fun g1 g2 => by
            rw [red, if_pos ⟨g1, g2⟩] at er
            have hsg : g = [43] ∨ g = [45] ∨ g = [42] := by
              rcases sg with y | y | y | y
              · exact absurd y g1
              · exact .inr (.inr y)
              · exact .inl y
              · exact .inr (.inl y)
            match N', T5, er with
            | [], T5, er =>
              obtain ⟨x, hx⟩ := hsome
              rw [hx] at er
              cases er
            | [o], T5, er =>
              obtain ⟨x, hx⟩ := hsome
              rw [hx] at er
              cases er
            | o :: n :: r, T5, er =>
              have er : red t S N = red t S2 (app2 g n o :: r) := er
              obtain ⟨b1, b2⟩ := T5.wt.bits (by omega)
              have ln := T5.ln
              rw [List.length_cons, List.length_cons] at ln
              have ls := T5.ls
              rw [List.length_cons] at ls
              refine ⟨_, fun σ' H' z => z, nl, sl, g, S2, o, n, r, rfl, T5.ne, T5.hn, T5.hs, hsg, b1, b2, by omega, fun H6 a1 a2 a3 => ⟨S2.length, by rw [List.length_cons]; omega, S2, _, rfl, rfl, ⟨T5.ne, a1, a2, T5.wt.app, by omega, by rw [List.length_cons]; omega, T5.bt.trans a3, fun x hx => T5.sg x (List.mem_cons_of_mem _ hx)⟩, er⟩⟩
          refine iteB hne ⟨_, rfl, _, rfl, sl, _, _, _, rfl, rfl, SqL.of hs5, atI_last _ _, rfl, _, rfl, ?_⟩
          by_cases g1 : g = [40]
          · refine iteC (by show (!decide (V.str (tx g) = V.str "(")) = false; rw [decide_eq_true ((tx_eq (by decide +kernel)).mpr g1)]; rfl) (iteF (hR' _ _ ⟨g :: S2, N', rfl, T5, ?_⟩))
            rw [er, red, if_neg (fun y => y.1 g1)]
          refine iteB (by show (!decide (V.str (tx g) = V.str "(")) = true; rw [decide_eq_false (fun y => g1 ((tx_eq (by decide +kernel)).mp y))]; rfl) ⟨_, rfl, rfl, _, rfl, ?_⟩
          by_cases h42 : t = [42]
          · refine iteC (by show (!decide (V.str (tx t) = V.str "*")) = false; rw [decide_eq_true ((tx_eq (by decide +kernel)).mpr h42)]; rfl) ⟨_, rfl, _, rfl, sl, _, _, _, rfl, rfl, SqL.of hs5, atI_last _ _, rfl, _, rfl, ?_⟩
            by_cases g2 : g = [42]
            · refine iteB (decide_eq_true ((tx_eq (by decide +kernel)).mpr g2)) ?_
              obtain ⟨N0, n1, n2⟩ := go g1 (.inr g2)
              exact ⟨N0, n1, _, rfl, _, rfl, n2⟩
            · refine iteC (decide_eq_false (fun y => g2 ((tx_eq (by decide +kernel)).mp y))) (hR' _ _ ⟨g :: S2, N', rfl, T5, ?_⟩)
              rw [er, red, if_neg]
              rintro ⟨_, y | y⟩
              · exact y h42
              · exact g2 y
          · refine iteB (by show (!decide (V.str (tx t) = V.str "*")) = true; rw [decide_eq_false (fun y => h42 ((tx_eq (by decide +kernel)).mp y))]; rfl) (iteT ?_)
            obtain ⟨N0, n1, n2⟩ := go g1 (.inl h42)
            exact ⟨N0, n1, _, rfl, _, rfl, n2⟩
      rintro σ' H4 ⟨S', N', rfl, T4, er⟩
      rw [er] at hw
      have lS' : (sV S').length < sizeLine := small1000 (by rw [List.length_map, List.length_reverse]; have := T4.ls; omega)
      refine ⟨_, rfl, rfl, _, rfl, ?_⟩
      by_cases h41 : t = [41]
      · refine iteC (by show (!decide (V.str (tx t) = V.str ")")) = false; rw [decide_eq_true ((tx_eq (by decide +kernel)).mpr h41)]; rfl) ?_
        have hw : outL ρ rest S'.tail N' = some [v] := by
          have : shift t (S', N') = (S'.tail, N') := by
            unfold shift
            rw [if_neg (fun y => y h41)]
          rw [show (some (S', N')).map (shift t) = some (shift t (S', N')) from rfl, this] at hw
          exact hw
        refine ⟨_, rfl, (by show 0 ≤ sizeLine; decide), fun e1 he1 => ⟨sl, e1, _, rfl, rfl, SqL.of (Same.new he1 _ _ _ T4.hs), SqL.of upd_same, _, rfl, ?_⟩⟩
        have T5 := T4.new (o := .lst []) he1
        generalize upd H4 e1 (.lst []) = H5 at T5 ⊢
        cases S' with
        | nil => exact iteF ⟨[], N', _, rfl, T5.up, hw⟩
        | cons g S2 =>
          have hne : (!(sV (g :: S2)).isEmpty) = true := by rw [sV_cons]; simp
          have hs5 := T5.hs
          rw [sV_cons] at hs5
          refine iteB hne ⟨_, rfl, .inl ⟨rfl, _, SqL.of T5.hs⟩, sl, _, _, rfl, rfl, hs5, last_at _ _, S2, N', _, rfl, ?_, hw⟩
          rw [List.dropLast_concat]
          exact T5.popS.up
      · refine iteB (by show (!decide (V.str (tx t) = V.str ")")) = true; rw [decide_eq_false (fun y => h41 ((tx_eq (by decide +kernel)).mp y))]; rfl) ?_
        have hw : outL ρ rest (t :: S') N' = some [v] := by
          have : shift t (S', N') = (t :: S', N') := by
            unfold shift
            rw [if_pos h41]
          rw [show (some (S', N')).map (shift t) = some (shift t (S', N')) from rfl, this] at hw
          exact hw
        refine ⟨_, rfl, .inl ⟨rfl, _, SqL.of T4.hs⟩, _, rfl, sl, _, _, rfl, rfl, T4.hs, lS', t :: S', N', _, rfl, T4.pushS ?_, hw⟩
        rcases hs with y | y | y | y
        · exact absurd y h41
        · exact .inr (.inl y)
        · exact .inr (.inr (.inl y))
        · exact .inr (.inr (.inr y))
  · rintro σ H2 ⟨S, N, s4, rfl, T2, hw⟩
    rw [List.length_map, List.drop_length] at hw
    cases hw
    exact ⟨_, rfl, nl, _, _, _, rfl, rfl, SqL.of T2.hn, rfl, q _ (same2 _ T2.bt)⟩
end

/-! ### how the parts are drawn -/
def ws : List Pt → Int → Bool → Option (Int × Bool)
  | [], d, u => some (d, u)
  | (k, t) :: ps, d, u =>
    if u = true then
      (if t = [40] then (if d + 1 < 0 ∨ 5 < d + 1 then none else ws ps (d + 1) true)
      else if gf k t = true then (if d < 0 ∨ 5 < d then none else ws ps d false) else none)
    else if t = [41] then (if d - 1 < 0 ∨ 5 < d - 1 then none else ws ps (d - 1) false)
    else if t = [43] ∨ t = [45] ∨ t = [42] then (if d < 0 ∨ 5 < d then none else ws ps d true)
    else none
def wend (x : Option (Int × Bool)) : Bool := match x with | some (d, u) => decide (d = 0) && !u | none => false
theorem wk_ws : ∀ (ps : List Pt) (d : Int) (u : Bool), wk ps d u = wend (ws ps d u)
  | [], d, u => rfl
  | (k, t) :: ps, d, u => by
    rw [wk, ws]
    split
    · split
      · split
        · rfl
        · exact wk_ws ps _ _
      · split
        · split
          · rfl
          · exact wk_ws ps _ _
        · rfl
    · split
      · split
        · rfl
        · exact wk_ws ps _ _
      · split
        · split
          · rfl
          · exact wk_ws ps _ _
        · rfl
theorem ws_app : ∀ (ps qs : List Pt) (d : Int) (u : Bool), ws (ps ++ qs) d u = (ws ps d u).bind fun x => ws qs x.1 x.2
  | [], qs, d, u => rfl
  | (k, t) :: ps, qs, d, u => by
    rw [List.cons_append, ws, ws]
    split
    · split
      · split
        · rfl
        · exact ws_app ps qs _ _
      · split
        · split
          · rfl
          · exact ws_app ps qs _ _
        · rfl
    · split
      · split
        · rfl
        · exact ws_app ps qs _ _
      · split
        · split
          · rfl
          · exact ws_app ps qs _ _
        · rfl
theorem snc_oth {c : Nat} (hc : kd c = .oth) (ps : List Pt) : snc ps c = ps ++ [(.oth, [c])] := by
  rcases List.eq_nil_or_concat ps with e | ⟨ps', p, e⟩
  · subst e
    show [(kd c, [c])] = _
    rw [hc]
    rfl
  · rw [List.concat_eq_append] at e
    subst e
    obtain ⟨k, t⟩ := p
    rw [snc_last, if_neg (fun y => y.2 (by rw [← y.1]; exact hc)), hc]
def LastO (ps : List Pt) : Prop := ∀ ps' p, ps = ps' ++ [p] → p.1 = .oth
theorem toks_run2 {k : Kd} (hk : k ≠ .oth) {l : List Nat} : ∀ (t t1 : List Nat), toks (l ++ t1) = toks l ++ [(k, t1)] → (∀ c ∈ t, kd c = k) → toks (l ++ (t1 ++ t)) = toks l ++ [(k, t1 ++ t)]
  | [], t1, h, _ => by
    rw [List.append_nil]
    exact h
  | c :: t, t1, h, ha => by
    have e := toks_snoc c (l ++ t1)
    rw [h, snc_last, if_pos ⟨ha c List.mem_cons_self, hk⟩, List.append_assoc] at e
    have := toks_run2 hk t (t1 ++ [c]) e (fun x hx => ha x (List.mem_cons_of_mem _ hx))
    rw [List.append_assoc] at this
    exact this
theorem toks_leaf {k : Kd} (hk : k ≠ .oth) {l t : List Nat} (h0 : t ≠ []) (ha : ∀ c ∈ t, kd c = k) (hl : LastO (toks l)) : toks (l ++ t) = toks l ++ [(k, t)] := by
  cases t with
  | nil => exact absurd rfl h0
  | cons c t =>
    have hc := ha c List.mem_cons_self
    have e := toks_snoc c l
    have e1 : toks (l ++ [c]) = toks l ++ [(k, [c])] := by
      rw [e]
      rcases List.eq_nil_or_concat (toks l) with y | ⟨ps', p, y⟩
      · rw [y]
        show [(kd c, [c])] = _
        rw [hc]
        rfl
      · rw [List.concat_eq_append] at y
        have := hl ps' p y
        obtain ⟨k2, t2⟩ := p
        rw [y, snc_last, if_neg (fun z => z.2 this), hc]
    exact toks_run2 hk t [c] e1 (fun x hx => ha x (List.mem_cons_of_mem _ hx))
def flat (ps : List Pt) : List Nat := (ps.map (·.2)).flatten
theorem flat_snoc (ps : List Pt) (p : Pt) : flat (ps ++ [p]) = flat ps ++ p.2 := by
  unfold flat
  simp
structure Gen (ps : List Pt) (d : Int) (u : Bool) : Prop where
  w : ws ps 0 true = some (d, u)
  t : toks (flat ps) = ps
  l : u = true → LastO ps
  n : ∀ p ∈ ps, Nice p
  d0 : 0 ≤ d
  d5 : d ≤ 5
theorem Gen.nil : Gen [] 0 true := ⟨rfl, rfl, (fun _ ps' p e => by simp at e), (fun p hp => by cases hp), by decide, by decide⟩
theorem last_snoc {ps ps' : List Pt} {p q : Pt} (h : ps ++ [p] = ps' ++ [q]) (hp : p.1 = .oth) : q.1 = .oth := by
  have := (List.append_inj' h rfl).2
  cases this
  exact hp
theorem nice_snoc {ps : List Pt} {p : Pt} (h : ∀ p ∈ ps, Nice p) (hp : Nice p) : ∀ q ∈ ps ++ [p], Nice q := fun q hq => by
  rcases List.mem_append.mp hq with hq | hq
  · exact h q hq
  · cases List.mem_singleton.mp hq
    exact hp
theorem nice_oth {c : Nat} (h : c = 40 ∨ c = 41 ∨ c = 42 ∨ c = 43 ∨ c = 45) : Nice (.oth, [c]) := by
  refine ⟨(by show 1 ≤ 7; decide), by simp, .inr (.inr ⟨rfl, ?_⟩)⟩
  rcases h with rfl | rfl | rfl | rfl | rfl
  · exact .inl rfl
  · exact .inr (.inl rfl)
  · exact .inr (.inr (.inl rfl))
  · exact .inr (.inr (.inr (.inl rfl)))
  · exact .inr (.inr (.inr (.inr rfl)))
theorem Gen.opn {ps : List Pt} {d : Int} (g : Gen ps d true) (h : d < 5) : Gen (ps ++ [(.oth, [40])]) (d + 1) true := by
  have d0 := g.d0
  refine ⟨?_, ?_, fun _ ps' p e => last_snoc e rfl, nice_snoc g.n (nice_oth (.inl rfl)), by omega, by omega⟩
  · rw [ws_app, g.w]
    show ws [(.oth, [40])] d true = _
    rw [ws, if_pos rfl, if_pos rfl, if_neg (by omega)]
    rfl
  · rw [flat_snoc, toks_snoc, g.t, snc_oth (kd_oth (.inl rfl))]
theorem Gen.leaf {ps : List Pt} {d : Int} {k : Kd} {t : List Nat} (g : Gen ps d true) (hk : k ≠ .oth) (h0 : t ≠ []) (h40 : t ≠ [40]) (ha : ∀ c ∈ t, kd c = k) (hg : gf k t = true) (hn : Nice (k, t)) : Gen (ps ++ [(k, t)]) d false := by
  have d0 := g.d0
  have d5 := g.d5
  refine ⟨?_, ?_, (fun e => by cases e), nice_snoc g.n hn, g.d0, g.d5⟩
  · rw [ws_app, g.w]
    show ws [(k, t)] d true = _
    rw [ws, if_pos rfl, if_neg h40, if_pos hg, if_neg (by omega)]
    rfl
  · rw [flat_snoc, toks_leaf hk h0 ha (by rw [g.t]; exact g.l rfl), g.t]
theorem Gen.sht {ps : List Pt} {d : Int} (g : Gen ps d false) (h : 0 < d) : Gen (ps ++ [shut]) (d - 1) false := by
  have d5 := g.d5
  refine ⟨?_, ?_, (fun e => by cases e), nice_snoc g.n (nice_oth (.inr (.inl rfl))), by omega, by omega⟩
  · rw [ws_app, g.w]
    show ws [(.oth, [41])] d false = _
    rw [ws, if_neg (by decide), if_pos rfl, if_neg (by omega)]
    rfl
  · rw [flat_snoc, toks_snoc, g.t, snc_oth (kd_oth (.inr (.inl rfl)))]
theorem Gen.sgn {ps : List Pt} {d : Int} {c : Nat} (g : Gen ps d false) (hc : c = 42 ∨ c = 43 ∨ c = 45) : Gen (ps ++ [(.oth, [c])]) d true := by
  have d0 := g.d0
  have d5 := g.d5
  refine ⟨?_, ?_, fun _ ps' p e => last_snoc e rfl, nice_snoc g.n (nice_oth (by omega)), g.d0, g.d5⟩
  · rw [ws_app, g.w]
    show ws [(.oth, [c])] d false = _
    rw [ws, if_neg (by decide), if_neg (by rcases hc with rfl | rfl | rfl <;> decide), if_pos (by rcases hc with rfl | rfl | rfl <;> decide), if_neg (by omega)]
    rfl
  · rw [flat_snoc, toks_snoc, g.t, snc_oth (kd_oth (by omega))]
theorem Gen.shuts : ∀ (n : Nat) {ps : List Pt}, Gen ps (n : Int) false → Gen (ps ++ List.replicate n shut) 0 false
  | 0, ps, g => by
    rw [List.replicate_zero, List.append_nil]
    exact g
  | n + 1, ps, g => by
    have g2 := g.sht (by omega)
    rw [show ((n + 1 : Nat) : Int) - 1 = (n : Int) by omega] at g2
    have g3 := Gen.shuts n g2
    rw [List.append_assoc] at g3
    exact g3
theorem flat_len : ∀ (ps : List Pt), (∀ p ∈ ps, Nice p) → ps.length ≤ (flat ps).length ∧ (flat ps).length ≤ 7 * ps.length
  | [], _ => ⟨Nat.le_refl _, Nat.le_refl _⟩
  | p :: ps, h => by
    obtain ⟨h1, h2⟩ := flat_len ps fun q hq => h q (List.mem_cons_of_mem _ hq)
    obtain ⟨n1, n2, _⟩ := h p List.mem_cons_self
    have e : (flat (p :: ps)).length = p.2.length + (flat ps).length := by
      unfold flat
      rw [List.map_cons, List.flatten_cons, List.length_append]
    have n3 : 1 ≤ p.2.length := Nat.pos_of_ne_zero fun z => n2 (List.eq_nil_of_length_eq_zero z)
    rw [e, List.length_cons]
    omega
/-- one of the leaves -/
def LeafOk (x : Str) : Prop := ∃ k t, x = tx t ∧ k ≠ .oth ∧ t ≠ [] ∧ t ≠ [40] ∧ (∀ c ∈ t, kd c = k) ∧ gf k t = true ∧ Nice (k, t)
theorem leaf_n {n : Int} (h0 : 0 ≤ n) (h1 : n < 1000) : LeafOk (Str.ofString (toString n)) := by
  obtain ⟨g1, g2⟩ := leaf_num h0 h1
  generalize Str.ofString (toString n) = z at g1 g2
  rcases g1 with ⟨m, e, t0, ha, hn⟩ | ⟨x, e, _⟩
  · cases e
    have ha : ∀ c ∈ cs z, isD c = true := fun c hc => by rw [← amg_fg]; exact ha c hc
    have t40 : cs z ≠ [40] := fun y => by
      rw [y] at ha
      exact absurd (ha 40 List.mem_cons_self) (by decide)
    have hg : gf .fig (cs z) = true := by
      cases hz : cs z with
      | nil => exact absurd hz t0
      | cons c t =>
        rw [← num_gf (by rw [← hz]; exact ha), ← hz, hn]
        rfl
    refine ⟨.fig, cs z, cs_inj (cs_tx _).symm, by decide, t0, t40, fun c hc => kd_fig.mpr (ha c hc), hg, ?_, t0, .inr (.inl ⟨rfl, ha, n, num_text hn, num_fin hn⟩)⟩
    show (cs z).length ≤ 7
    rw [cs_len]
    exact g2
  · cases e
theorem leaf_nm {x : Str} (h : x ∈ nm3) : LeafOk x := by
  have key : nm3.all (fun x => (cs x).all isL && (gf .ltr (cs x) && (decide ((cs x).length ≤ 7) && !(cs x).isEmpty))) = true := by decide +kernel
  have hm := List.all_eq_true.mp key x h
  rw [Bool.and_eq_true, Bool.and_eq_true, Bool.and_eq_true] at hm
  obtain ⟨a1, a2, a3, a4⟩ := hm
  have t0 : cs x ≠ [] := fun e => by
    rw [e] at a4
    cases a4
  have ex : x = tx (cs x) := cs_inj (cs_tx _).symm
  have hl : ∀ c ∈ cs x, isL c = true := fun c hc => List.all_eq_true.mp a1 c hc
  refine ⟨.ltr, cs x, ex, by decide, t0, fun e => ?_, fun c hc => kd_ltr.mpr (hl c hc), a2, of_decide_eq_true a3, t0, .inl ⟨rfl, by rw [← ex]; exact h⟩⟩
  rw [e] at hl
  exact absurd (hl 40 List.mem_cons_self) (by decide)
theorem leaf7 {a b : Int} (a0 : 0 ≤ a) (a1 : a < 1000) (b0 : 0 ≤ b) (b1 : b < 1000) (m : Int) : ∃ x : Str, atI ([.str (Str.ofString (toString a)), .str (Str.ofString (toString b)), .str "a", .str "bb", .str "c", .str "a", .str "bb"] : List V) (m % 7) = some (.str x) ∧ LeafOk x := by
  have h : m % 7 = 0 ∨ m % 7 = 1 ∨ m % 7 = 2 ∨ m % 7 = 3 ∨ m % 7 = 4 ∨ m % 7 = 5 ∨ m % 7 = 6 := by omega
  have nA : LeafOk "a" := leaf_nm (List.mem_cons_self)
  have nB : LeafOk "bb" := leaf_nm (List.mem_cons_of_mem _ List.mem_cons_self)
  have nC : LeafOk "c" := leaf_nm (List.mem_cons_of_mem _ (List.mem_cons_of_mem _ List.mem_cons_self))
  rcases h with e | e | e | e | e | e | e <;> rw [e]
  · exact ⟨_, rfl, leaf_n a0 a1⟩
  · exact ⟨_, rfl, leaf_n b0 b1⟩
  · exact ⟨_, rfl, nA⟩
  · exact ⟨_, rfl, nB⟩
  · exact ⟨_, rfl, nC⟩
  · exact ⟨_, rfl, nA⟩
  · exact ⟨_, rfl, nB⟩
theorem at3 (m : Int) : ∃ (c : Nat), atI (("+-*" : Str).cps.toList) (m % 3) = some c ∧ (c = 42 ∨ c = 43 ∨ c = 45) := by
  have h : m % 3 = 0 ∨ m % 3 = 1 ∨ m % 3 = 2 := by omega
  rcases h with e | e | e <;> rw [e]
  · exact ⟨43, by decide +kernel, by decide⟩
  · exact ⟨45, by decide +kernel, by decide⟩
  · exact ⟨42, by decide +kernel, by decide⟩
theorem cut_last (xs : List V) (y : V) : cutV (xs ++ [y]) none (some (-1)) = xs := by
  unfold cutV
  rw [HT.sIx_none]
  have e : HT.sIx (xs ++ [y]).length (xs ++ [y]).length (some (-1)) = xs.length := by
    show (if (-1 : Int) < 0 then ((-1 : Int) + ((xs ++ [y]).length : Int)).toNat else min (-1 : Int).toNat (xs ++ [y]).length) = xs.length
    rw [if_pos (by decide), List.length_append, List.length_singleton]
    omega
  rw [e, List.drop_zero, Nat.sub_zero, List.take_left]
theorem rep_shut (n : Nat) : (List.replicate n [V.str ")"]).flatten = (List.replicate n shut).map pV := by
  have e : V.str ")" = pV shut := ((tx_eq (t := [41]) (y := ")") (l := [41]) (by decide +kernel)).mpr rfl).symm
  rw [e]
  induction n with
  | zero => rfl
  | succ n ih => rw [List.replicate_succ, List.flatten_cons, ih]; rfl
def spParts : Sp := fun vs H Q _ => ∃ cell : Int, vs = [.int cell] ∧ ∀ (l : Addr) (H' : Hp) (ps : List Pt), Same H H' → H' l = some (.lst (ps.map pV)) → Gen ps 0 false → ps.length ≤ 200 → Q (.ref l) H'
section
variable {P : Program} {w : World} {K : PySem.W.Frag} {mg : Str → Option Value} {base : Heap}
theorem scParts : FnScope ["cell", "parts", "deep", "k", "number", "leaf"] ["cell"] (defScope sParts) := ⟨rfl, rfl, rfl, by decide +kernel, rfl, by decide +kernel, by decide +kernel⟩
theorem v40 : V.str "(" = pV (.oth, [40]) := ((tx_eq (t := [40]) (y := "(") (l := [40]) (by decide +kernel)).mpr rfl).symm
theorem v41 : V.str ")" = pV shut := ((tx_eq (t := [41]) (y := ")") (l := [41]) (by decide +kernel)).mpr rfl).symm
theorem map_snoc (ps : List Pt) (p : Pt) : ps.map pV ++ [pV p] = (ps ++ [p]).map pV := by rw [List.map_append]; rfl
theorem sameP {H H2 : Hp} {pl : Addr} {o : HO} (hpl : H pl = none) (s : Same H H2) : Same H (upd H2 pl o) := fun b ob e => by
  rw [upd_ne (ne_of_none e hpl)]
  exact s _ _ e
theorem ok_parts (h : Has K mg "_law_parts" sParts ["cell"]) (B : Blt mg) (cS : Cal P w K mg base 1 "_law_stir" ["cell", "k"] spStir) : Cal P w K mg base 2 "_law_parts" ["cell"] spParts := by
  refine h.cal scParts (fun vs H Q E h => ?_) (fun f cdv A outer s H vs Q E hr h => ?_)
  · obtain ⟨cell, rfl, _⟩ := h
    rfl
  obtain ⟨cell, rfl, q⟩ := h
  refine ⟨_, (pss_cons (ps_set (i := 1) scParts.nd rfl (Or.inl rfl) (pe_lst pa_nil))
    (pss_cons (ps_set (i := 2) scParts.nd rfl (Or.inl rfl) pe_int)
    (pss_cons (ps_for PassesOwn.never rfl (pi_range1 rfl B.range (pa_cons (pe_op op_add pe_int (pe_op op_mod (pe_cal cS hr rfl (pa_cons (pv 0) (pa_cons pe_int pa_nil))) pe_int)) pa_nil)) (pg_name (i := 3) scParts.nd rfl (Or.inl rfl)) (pss_cons (ps_set (i := 4) scParts.nd rfl (Or.inl rfl) (pe_cal cS hr rfl (pa_cons (pv 0) (pa_cons (pe_op op_add pe_int (pv 3)) pa_nil))))
    (pss_cons (ps_while PassesOwn.never (PW.pt (pw_and (pt_cmpR op_eq (pe_op op_mod (pv 4) pe_int) pe_int (nomark _)) (pw_and (pt_cmpR op_gt (pv 4) pe_int (nomark _)) (pw_and1 (pt_cmpR op_lt (pv 2) pe_int (nomark _)))))) (pss_cons (ps_expr (pe_bm PySem.F.plainAttrs_list PySem.F.slot_list_append PySem.F.type_list_append mt_append (pv 1) (pa_cons pe_str pa_nil)))
    (pss_cons (ps_set (i := 2) scParts.nd rfl (Or.inl rfl) (pe_op op_add (pv 2) pe_int))
    (pss_one (ps_set (i := 4) scParts.nd rfl (Or.inl rfl) (pe_op op_fdiv (pv 4) pe_int))))))
    (pss_cons (ps_set (i := 5) scParts.nd rfl (Or.inl rfl) (pe_ix ix_list (pe_lst (pa_cons (pe_callTy call_str_text rfl B.str bt_str (pa_cons (pe_op op_mod (pe_op op_fdiv (pv 4) pe_int) pe_int) pa_nil)) (pa_cons (pe_callTy call_str_text rfl B.str bt_str (pa_cons (pe_op op_mod (pe_op op_fdiv (pv 4) pe_int) pe_int) pa_nil)) (pa_cons pe_str (pa_cons pe_str (pa_cons pe_str (pa_cons pe_str (pa_cons pe_str pa_nil)))))))) (pe_op op_mod (pv 4) pe_int) (fun _ _ => rfl)))
    (pss_cons (ps_expr (pe_bm PySem.F.plainAttrs_list PySem.F.slot_list_append PySem.F.type_list_append mt_append (pv 1) (pa_cons (pv 5) pa_nil)))
    (pss_cons (ps_set (i := 4) scParts.nd rfl (Or.inl rfl) (pe_op op_fdiv (pv 4) pe_int))
    (pss_cons (ps_while PassesOwn.never (PW.pt (pw_and (pt_cmpR op_eq (pe_op op_mod (pv 4) pe_int) pe_int (nomark _)) (pw_and (pt_cmpR op_gt (pv 4) pe_int (nomark _)) (pw_and1 (pt_cmpR op_gt (pv 2) pe_int (nomark _)))))) (pss_cons (ps_expr (pe_bm PySem.F.plainAttrs_list PySem.F.slot_list_append PySem.F.type_list_append mt_append (pv 1) (pa_cons pe_str pa_nil)))
    (pss_cons (ps_set (i := 2) scParts.nd rfl (Or.inl rfl) (pe_op op_sub (pv 2) pe_int))
    (pss_one (ps_set (i := 4) scParts.nd rfl (Or.inl rfl) (pe_op op_fdiv (pv 4) pe_int))))))
    (pss_one (ps_expr (pe_bm PySem.F.plainAttrs_list PySem.F.slot_list_append PySem.F.type_list_append mt_append (pv 1) (pa_cons (pe_ix ix_str pe_str (pe_op op_mod (pv 4) pe_int) (fun _ _ => rfl)) pa_nil)))))))))))
    (pss_one (ps_ret (pe_op op_cat (pe_slice sl_list (pv 1) po_none (po_some (pe_un un_neg pe_int))) (pe_op op_rep (pe_lst (pa_cons pe_str pa_nil)) (pv 2)))))))), ?_⟩
  refine ⟨(by show 0 ≤ sizeLine; decide), fun pl hpl => ?_⟩
  refine ⟨_, rfl, cell, 0, rfl, by decide, fun m0 _ _ => ⟨_, _, rfl, rfl, (by show (0 : Int) < 10; decide), _, _, rfl, rfl, 1 + m0 % 10, rfl, by omega, by omega, ?_⟩⟩
  have hm1 : 1 ≤ (1 + m0 % 10).toNat := by omega
  have hm10 : (1 + m0 % 10).toNat ≤ 10 := by omega
  refine for_range (lo := 0) (n := (1 + m0 % 10).toNat) (fun i σ H2 => ∃ (ps : List Pt) (d : Int) (s3 s4 s5 : Option V), σ = [some (.int cell), some (.ref pl), some (.int d), s3, s4, s5] ∧ Same H H2 ∧ H2 pl = some (.lst (ps.map pV)) ∧ ps.length ≤ 12 * i ∧ Gen ps d true ∧ (1 ≤ i → ∃ ps' p, ps = ps' ++ [p] ∧ Gen ps' d false))
    ⟨[], 0, none, none, none, rfl, Same.new hpl _, upd_same, Nat.le_refl _, Gen.nil, fun y => absurd y (by decide)⟩ ?_ ?_
  · rintro i σ H2 hi ⟨ps, d, s3, s4, s5, rfl, s2, h2, hl, g, _⟩
    have hi10 : i ≤ 9 := by omega
    refine ⟨_, rfl, _, rfl, _, _, rfl, rfl, cell, 1 + (0 + (i : Int)), rfl, by omega, fun m m0' m1 => ?_⟩
    refine gset (seq_cut (fun σ' H' => ∃ (ps : List Pt) (d n : Int), σ' = [some (.int cell), some (.ref pl), some (.int d), some (.int (0 + (i : Int))), some (.int n), s5] ∧ Same H H' ∧ H' pl = some (.lst (ps.map pV)) ∧ ps.length ≤ 12 * i + 5 ∧ Gen ps d true ∧ 0 ≤ n) (fun R' hR' => ?_) ?_)
    · refine ⟨fun mm σ H3 => ∃ (ps : List Pt) (d n : Int), mm = (5 - d).toNat ∧ σ = [some (.int cell), some (.ref pl), some (.int d), some (.int (0 + (i : Int))), some (.int n), s5] ∧ Same H H3 ∧ H3 pl = some (.lst (ps.map pV)) ∧ ps.length ≤ 12 * i + d.toNat ∧ Gen ps d true ∧ 0 ≤ n, ⟨_, ps, d, m, rfl, rfl, s2, h2, by omega, g, m0'⟩, ?_⟩
      rintro mm σ H3 ⟨ps, d, n, rfl, rfl, s3', h3, hl3, g3, n0⟩
      have d0 := g3.d0
      have d5 := g3.d5
      have fin : R' [some (.int cell), some (.ref pl), some (.int d), some (.int (0 + (i : Int))), some (.int n), s5] H3 := hR' _ _ ⟨ps, d, n, rfl, s3', h3, by omega, g3, n0⟩
      refine ⟨_, rfl, _, _, rfl, rfl, (by show (0 : Int) < 4; decide), rfl, _, rfl, ite_d (fun _ => ?_) (fun _ => iteF fin)⟩
      refine ⟨_, rfl, _, _, rfl, rfl, _, rfl, ite_d (fun n1 => ?_) (fun _ => iteF fin)⟩
      refine ⟨_, rfl, _, _, rfl, rfl, _, rfl, ite_d (fun hd => ?_) (fun _ => fin)⟩
      refine ⟨_, fun σ' H' z => z, ?_⟩
      refine ⟨_, rfl, .inl ⟨rfl, _, SqL.of h3⟩, pl, _, _, rfl, rfl, h3, small1000 (by rw [List.length_map]; omega), ?_⟩
      refine ⟨_, rfl, _, _, rfl, rfl, _, rfl, _, _, rfl, rfl, ⟨by decide, by decide⟩, ?_⟩
      refine ⟨(5 - (d + 1)).toNat, by omega, ps ++ [(.oth, [40])], d + 1, n / 4, rfl, rfl, sameP hpl s3', ?_, ?_, g3.opn hd, by omega⟩
      · rw [upd_same, v40, map_snoc]
      · rw [List.length_append, List.length_singleton]
        omega
    rintro σ' H3 ⟨ps, d, n, rfl, s3', h3, hl3, g3, n0⟩
    have d0 := g3.d0
    have d5 := g3.d5
    obtain ⟨x, hx, k, t, rfl, hk, t0, t40, ha, hg, hn⟩ := leaf7 (a := n / 8 % 12) (b := n / 8 % 1000) (by omega) (by omega) (by omega) (by omega) n
    refine ⟨_, rfl, _, _, rfl, rfl, ⟨by decide, by decide⟩, _, _, rfl, rfl, (by show (0 : Int) < 12; decide), .inr ⟨_, rfl, by omega, by omega, ?_⟩⟩
    refine ⟨_, rfl, _, _, rfl, rfl, ⟨by decide, by decide⟩, _, _, rfl, rfl, (by show (0 : Int) < 1000; decide), .inr ⟨_, rfl, by omega, by omega, (by show 7 ≤ sizeLine; decide), fun lp hlp => ?_⟩⟩
    refine ⟨_, rfl, _, _, rfl, rfl, (by show (0 : Int) < 7; decide), lp, _, _, _, rfl, rfl, SqL.of upd_same, hx, ?_⟩
    have h4 := Same.new hlp (.lst [.str (Str.ofString (toString (n / 8 % 12))), .str (Str.ofString (toString (n / 8 % 1000))), .str "a", .str "bb", .str "c", .str "a", .str "bb"]) _ _ h3
    have s4' := s3'.trans (Same.new hlp (.lst [.str (Str.ofString (toString (n / 8 % 12))), .str (Str.ofString (toString (n / 8 % 1000))), .str "a", .str "bb", .str "c", .str "a", .str "bb"]))
    refine ⟨_, rfl, .inl ⟨rfl, _, SqL.of h4⟩, _, rfl, pl, _, _, rfl, rfl, h4, small1000 (by rw [List.length_map]; omega), ?_⟩
    refine ⟨_, rfl, _, _, rfl, rfl, ⟨by decide, by decide⟩, ?_⟩
    have g4 := g3.leaf hk t0 t40 ha hg hn
    have s5' : Same H (upd (upd H3 lp (.lst [.str (Str.ofString (toString (n / 8 % 12))), .str (Str.ofString (toString (n / 8 % 1000))), .str "a", .str "bb", .str "c", .str "a", .str "bb"])) pl (.lst (ps.map pV ++ [.str (tx t)]))) := sameP hpl s4'
    have h5 : upd (upd H3 lp (.lst [.str (Str.ofString (toString (n / 8 % 12))), .str (Str.ofString (toString (n / 8 % 1000))), .str "a", .str "bb", .str "c", .str "a", .str "bb"])) pl (.lst (ps.map pV ++ [.str (tx t)])) pl = some (.lst ((ps ++ [(k, t)]).map pV)) := by
      rw [upd_same, List.map_append]
      rfl
    have hl5 : (ps ++ [(k, t)]).length ≤ 12 * i + 6 := by
      rw [List.length_append, List.length_singleton]
      omega
    generalize upd (upd H3 lp (.lst [.str (Str.ofString (toString (n / 8 % 12))), .str (Str.ofString (toString (n / 8 % 1000))), .str "a", .str "bb", .str "c", .str "a", .str "bb"])) pl (.lst (ps.map pV ++ [.str (tx t)])) = H5 at s5' h5 ⊢
    generalize ps ++ [(k, t)] = ps1 at g4 h5 hl5
    refine gset (seq_cut (fun σ' H' => ∃ (ps : List Pt) (d n : Int) , σ' = [some (.int cell), some (.ref pl), some (.int d), some (.int (0 + (i : Int))), some (.int n), some (.str (tx t))] ∧ Same H H' ∧ H' pl = some (.lst (ps.map pV)) ∧ ps.length ≤ 12 * i + 11 ∧ Gen ps d false ∧ 0 ≤ n) (fun R' hR' => ?_) ?_)
    · refine ⟨fun mm σ H3 => ∃ (ps : List Pt) (d n : Int), mm = d.toNat ∧ σ = [some (.int cell), some (.ref pl), some (.int d), some (.int (0 + (i : Int))), some (.int n), some (.str (tx t))] ∧ Same H H3 ∧ H3 pl = some (.lst (ps.map pV)) ∧ ps.length + d.toNat ≤ 12 * i + 11 ∧ Gen ps d false ∧ 0 ≤ n, ⟨_, ps1, d, n / 56, rfl, rfl, s5', h5, by omega, g4, by omega⟩, ?_⟩
      rintro mm σ H6 ⟨ps, d, n, rfl, rfl, s3', h3, hl3, g3, n0⟩
      have d0 := g3.d0
      have d5 := g3.d5
      have fin : R' [some (.int cell), some (.ref pl), some (.int d), some (.int (0 + (i : Int))), some (.int n), some (.str (tx t))] H6 := hR' _ _ ⟨ps, d, n, rfl, s3', h3, by omega, g3, n0⟩
      refine ⟨_, rfl, _, _, rfl, rfl, (by show (0 : Int) < 3; decide), rfl, _, rfl, ite_d (fun _ => ?_) (fun _ => iteF fin)⟩
      refine ⟨_, rfl, _, _, rfl, rfl, _, rfl, ite_d (fun n1 => ?_) (fun _ => iteF fin)⟩
      refine ⟨_, rfl, _, _, rfl, rfl, _, rfl, ite_d (fun hd => ?_) (fun _ => fin)⟩
      refine ⟨_, fun σ' H' z => z, ?_⟩
      refine ⟨_, rfl, .inl ⟨rfl, _, SqL.of h3⟩, pl, _, _, rfl, rfl, h3, small1000 (by rw [List.length_map]; omega), ?_⟩
      refine ⟨_, rfl, _, _, rfl, rfl, _, rfl, _, _, rfl, rfl, ⟨by decide, by decide⟩, ?_⟩
      refine ⟨(d - 1).toNat, by omega, ps ++ [shut], d - 1, n / 3, rfl, rfl, sameP hpl s3', ?_, ?_, g3.sht hd, by omega⟩
      · rw [upd_same, v41, map_snoc]
      · rw [List.length_append, List.length_singleton]
        omega
    rintro σ' H6 ⟨ps, d, n, rfl, s6, h6, hl6, g6, n0⟩
    obtain ⟨c, hc, kc⟩ := at3 n
    refine ⟨_, rfl, .inl ⟨rfl, _, SqL.of h6⟩, _, rfl, _, _, rfl, rfl, (by show (0 : Int) < 3; decide), _, _, c, rfl, rfl, (by decide +kernel), hc, pl, _, _, rfl, rfl, h6, small1000 (by rw [List.length_map]; omega), ?_⟩
    refine ⟨ps ++ [(.oth, [c])], d, _, _, _, rfl, sameP hpl s6, ?_, ?_, g6.sgn kc, fun _ => ⟨ps, _, rfl, g6⟩⟩
    · rw [upd_same, List.map_append]
      rfl
    · rw [List.length_append, List.length_singleton]
      omega
  · rintro σ H2 ⟨ps, d, s3, s4, s5, rfl, s2, h2, hl, g, hx⟩
    obtain ⟨ps', p, rfl, g'⟩ := hx hm1
    have d0 := g'.d0
    have d5 := g'.d5
    rw [List.length_append, List.length_singleton] at hl
    refine ⟨_, rfl, _, rfl, _, rfl, pl, _, rfl, SqL.of h2, fun a ha => ?_⟩
    have ec : cutV ((ps' ++ [p]).map pV) none (some (-1)) = ps'.map pV := by
      rw [List.map_append]
      exact cut_last _ _
    rw [ec]
    refine ⟨(by show 1 ≤ sizeLine; decide), fun b hb => ⟨_, rfl, b, d, _, rfl, rfl, upd_same, by omega, by omega, ?_, fun c hc => ?_⟩⟩
    · show 1 * d.toNat ≤ sizeLine
      exact Nat.le_of_lt (small1000 (by omega))
    rw [rep_shut]
    refine ⟨a, c, _, _, rfl, rfl, Same.new hc _ _ _ (Same.new hb _ _ _ upd_same), upd_same, ?_, fun r hr' => q r _ (ps' ++ List.replicate d.toNat shut) ?_ ?_ ?_ ?_⟩
    · rw [List.length_map, List.length_map, List.length_replicate]
      exact Nat.le_of_lt (small1000 (by omega))
    · exact s2.trans ((Same.new ha _).trans ((Same.new hb _).trans ((Same.new hc _).trans (Same.new hr' _))))
    · rw [upd_same, List.map_append]
    · refine Gen.shuts d.toNat ?_
      rw [show ((d.toNat : Nat) : Int) = d by omega]
      exact g'
    · rw [List.length_append, List.length_replicate]
      omega
end

theorem cs_join (sep : Str) : ∀ (y : Str) (r : List Str), cs (Txt.join sep (y :: r)) = cs y ++ r.flatMap fun z => cs sep ++ cs z := by
  intro y r
  show cs (Builtin.Str.glued sep (y :: r)) = _
  rw [StrLaws.glued_eq_join]
  induction r generalizing y with
  | nil => simp [Str.join]
  | cons z r ih =>
    show cs (y ++ sep ++ Str.join sep (z :: r)) = _
    rw [show cs (y ++ sep ++ Str.join sep (z :: r)) = cs y ++ cs sep ++ cs (Str.join sep (z :: r)) from by
      show ((y.cps ++ sep.cps) ++ (Str.join sep (z :: r)).cps).toList = _
      rw [Array.toList_append, Array.toList_append]
      rfl, ih z, List.flatMap_cons]
    simp only [List.append_assoc]
theorem cs_glue (ys : List Str) : cs (Txt.join "" ys) = (ys.map cs).flatten := by
  cases ys with
  | nil => rfl
  | cons y r =>
    rw [cs_join, List.map_cons, List.flatten_cons]
    refine congrArg (fun u => cs y ++ u) ?_
    induction r with
    | nil => rfl
    | cons z r ih =>
      rw [List.flatMap_cons, List.map_cons, List.flatten_cons, ih]
      first | done | rfl
theorem glue_flat (ps : List Pt) : cs (Txt.join "" (ps.map fun p => tx p.2)) = flat ps := by
  rw [cs_glue, List.map_map]
  first | done | rfl
theorem sum_len (ps : List Pt) : ((ps.map fun p => tx p.2).map (·.length)).sum = (flat ps).length := by
  induction ps with
  | nil => rfl
  | cons p ps ih =>
    rw [List.map_cons, List.map_cons, List.sum_cons, ih]
    show (tx p.2).length + _ = (p.2 ++ flat ps).length
    rw [List.length_append, ← cs_len, cs_tx]
def rho (a b c : Int) (x : Str) : Int := if x = "a" then a else if x = "bb" then b else c
theorem rho_vals {H : Hp} {d : Addr} {a b c : Int} (h : H d = some (.dK (mergeK [] [((Sum.inr "a" : Key), V.int a), (Sum.inr "bb", .int b), (Sum.inr "c", .int c)]))) : ValsAt H d (rho a b c) := by
  refine ⟨_, h, fun x => ?_⟩
  show valV (putK (putK (putK ([] : List (Key × V)) (Sum.inr "a") (.int a)) (Sum.inr "bb") (.int b)) (Sum.inr "c") (.int c)) (Sum.inr x) = _
  rw [valV_put, valV_put, valV_put]
  have e : ∀ y : Str, ((Sum.inr x : Key) = Sum.inr y) = (x = y) := fun y => by simp
  simp only [e]
  have n1 : ("c" : Str) ≠ "a" := by decide +kernel
  have n2 : ("c" : Str) ≠ "bb" := by decide +kernel
  have n3 : ("bb" : Str) ≠ "a" := by decide +kernel
  unfold rho nm3
  simp only [List.mem_cons, List.not_mem_nil, or_false]
  by_cases h1 : x = "c"
  · rw [if_pos h1, if_pos (.inr (.inr h1)), if_neg (by rw [h1]; exact n1), if_neg (by rw [h1]; exact n2)]
  rw [if_neg h1]
  by_cases h2 : x = "bb"
  · rw [if_pos h2, if_pos (.inr (.inl h2)), if_neg (by rw [h2]; exact n3), if_pos h2]
  rw [if_neg h2]
  by_cases h3 : x = "a"
  · rw [if_pos h3, if_pos (.inl h3), if_pos h3]
  rw [if_neg h3, if_neg]
  · rfl
  · rintro (y | y | y)
    · exact h3 y
    · exact h2 y
    · exact h1 y
def spLaw (K : PySem.W.Frag) : Sp := fun vs H Q _ => ∃ (a : Addr) (ns : List Int), vs = [.ref a] ∧ SqL K H a (ns.map V.int) ∧ ns.length ≤ 63 ∧ ∀ H', Q (.bl true) H'
theorem never {X : Cx} {P : Program} {w : World} : Passes (CXR P w) X (fun _ _ _ => False) := fun _ _ _ _ _ _ _ h => by
  obtain ⟨_, _, _, _, _, _, _, _, z⟩ := h
  exact z.elim
section
variable {P : Program} {w : World} {K : PySem.W.Frag} {mg : Str → Option Value} {base : Heap} {NR : Addr}
theorem scLaw : FnScope ["script", "cell", "parts", "word", "far", "values"] ["script"] (defScope sLaw) := ⟨rfl, rfl, rfl, by decide +kernel, rfl, by decide +kernel, by decide +kernel⟩
theorem ok_law {e : Addr} {ed : FuncData} (F : Fun K "law" "law" sLaw e ed) (B : Blt mg) (cS : Cal P w K mg base 1 "_law_stir" ["cell", "k"] spStir) (cP : Cal P w K mg base 2 "_law_parts" ["cell"] spParts) (cW : Cal P w K mg base 31 "worth" ["e", "values"] (spWorth 30)) (cE : CalR P w K mg base 27 "expression" ["word"] (spExpr NR)) (cD : Cal P w K mg base 2 "_law_due" ["parts", "values"] spDue) : FnOk P w K mg base CX0 32 e ed ["script"] (spLaw K) := by
  refine F.ok scLaw (fun vs H Q E h => ?_) (fun cdv A outer s H vs Q E hr h => ?_)
  · obtain ⟨a, ns, rfl, _⟩ := h
    rfl
  obtain ⟨a, ns, rfl, hS, h63, q⟩ := h
  have hr1 : Room 1 _ := hr.mono (by decide)
  have hr2 : Room 2 _ := hr.mono (by decide)
  have hr27 : Room 27 _ := hr.mono (by decide)
  refine ⟨_, (pss_cons (ps_for PassesOwn.never rfl (pi_list (pe_slice sl_list (pv 0) po_none (po_some pe_int))) (pg_name (i := 1) scLaw.nd rfl (Or.inl rfl)) (pss_cons (ps_set (i := 2) scLaw.nd rfl (Or.inl rfl) (pe_cal cP hr2 rfl (pa_cons (pv 1) pa_nil)))
    (pss_cons (ps_set (i := 3) scLaw.nd rfl (Or.inl rfl) (pe_bm PySem.F.plainAttrs_str PySem.F.slot_str_join PySem.F.type_str_join mt_join pe_str (pa_cons (pv 2) pa_nil)))
    (pss_cons (ps_set (i := 4) scLaw.nd rfl (Or.inl rfl) (pe_cal cS hr1 rfl (pa_cons (pv 1) (pa_cons pe_int pa_nil))))
    (pss_cons (ps_set (i := 5) scLaw.nd rfl (Or.inl rfl) (pe_disp (pps_cons pe_str (pe_op op_sub (pe_op op_mod (pv 4) pe_int) pe_int) (pps_cons pe_str (pe_op op_sub (pe_op op_mod (pe_op op_fdiv (pv 4) pe_int) pe_int) pe_int) (pps_cons pe_str (pe_op op_mod (pe_op op_fdiv (pv 4) pe_int) pe_int) pps_nil))) rfl rfl (fun z => nomatch z) (by show 3 ≤ 15; decide)))
    (pss_one (ps_if (PW.pt (pw_and (pt_cmpR op_le (pe_callB call_len_str rfl B.len bt_len (pa_cons (pv 3) pa_nil)) pe_int (nomark _)) (pw_and1 (pt_cmpR op_ne (pe_cal cW hr rfl (pa_cons (pe_calR cE hr27 never rfl (pa_cons (pv 3) pa_nil)) (pa_cons (pv 5) pa_nil))) (pe_cal cD hr2 rfl (pa_cons (pv 2) (pa_cons (pv 5) pa_nil))) (nomark _))))) (pss_one (ps_ret pe_bl)) pss_nil)))))))
    (pss_one (ps_ret pe_bl))), ?_⟩
  refine ⟨_, rfl, _, rfl, a, _, rfl, hS, fun p hp => ?_⟩
  refine ⟨p, rfl, ⟨_, SqL.of upd_same⟩, for_list (K := K) (a := p) (xs := cutV (ns.map V.int) none (some 63)) (fun i σ H2 => ∃ c1 c2 c3 c4 c5 : Option V, σ = [some (.ref a), c1, c2, c3, c4, c5] ∧ Same (upd H p (.lst (cutV (ns.map V.int) none (some 63)))) H2)
    ⟨none, none, none, none, none, rfl, Same.refl _⟩ (fun i σ H2 _ ⟨_, _, _, _, _, _, s2⟩ => SqL.of (s2 _ _ upd_same)) ?_ ?_⟩
  · rintro i y σ H2 hi ⟨c1, c2, c3, c4, c5, rfl, s2⟩
    obtain ⟨cell, rfl⟩ : ∃ z, y = V.int z := by
      have hm : y ∈ ns.map V.int := List.mem_of_mem_drop (List.mem_of_mem_take (List.mem_of_getElem? hi))
      obtain ⟨z, _, e⟩ := List.mem_map.mp hm
      exact ⟨z, e.symm⟩
    refine ⟨_, rfl, cell, rfl, fun l H3 ps s3 h3 g3 l3 => ?_⟩
    obtain ⟨f1, f2⟩ := flat_len ps g3.n
    have em : ps.map pV = (ps.map fun p => tx p.2).map V.str := by rw [List.map_map]; rfl
    have h3' := h3
    rw [em] at h3'
    refine ⟨rfl, _, rfl, "", l, ps.map (fun p => tx p.2), rfl, rfl, SqL.of h3', ?_, ?_⟩
    · rw [sum_len, List.length_map]
      have : ("" : Str).length = 0 := by decide +kernel
      rw [this]
      omega
    have ew := glue_flat ps
    generalize Txt.join "" (ps.map fun p => tx p.2) = z at ew ⊢
    have lz : z.length = (flat ps).length := by rw [← cs_len, ew]
    refine ⟨_, rfl, cell, 40, rfl, by decide, fun far f0 f1' => ?_⟩
    refine fun dd hdd => ⟨_, rfl, _, _, rfl, rfl, (by show (0 : Int) < 41; decide), _, _, rfl, rfl, _, rfl, _, _, rfl, rfl, ⟨by decide, by decide⟩, _, _, rfl, rfl, (by show (0 : Int) < 2001; decide), _, _, rfl, rfl, _, rfl, _, _, rfl, rfl, ⟨by decide, by decide⟩, _, _, rfl, rfl, (by show (0 : Int) < 200; decide), upd_same, [(Sum.inr "a", .int (far % 41 - 20)), (Sum.inr "bb", .int (far / 41 % 2001 - 1000)), (Sum.inr "c", .int (far / 100000 % 200))], rfl, (by show 3 ≤ 15; decide), ?_⟩
    have s4 : Same H3 (upd (upd H3 dd (.dK [])) dd (.dK (mergeK [] [(Sum.inr "a", .int (far % 41 - 20)), (Sum.inr "bb", .int (far / 41 % 2001 - 1000)), (Sum.inr "c", .int (far / 100000 % 200))]))) := fun x ob e => by
      rw [upd_ne (ne_of_none e hdd), upd_ne (ne_of_none e hdd)]
      exact e
    have D := rho_vals (H := upd (upd H3 dd (.dK [])) dd (.dK (mergeK [] [(Sum.inr "a", .int (far % 41 - 20)), (Sum.inr "bb", .int (far / 41 % 2001 - 1000)), (Sum.inr "c", .int (far / 100000 % 200))]))) (d := dd) upd_same
    have sm : Small (rho (far % 41 - 20) (far / 41 % 2001 - 1000) (far / 100000 % 200)) := fun x _ => by
      unfold rho
      split
      · omega
      · split <;> omega
    generalize rho (far % 41 - 20) (far / 41 % 2001 - 1000) (far / 100000 % 200) = ρ at D sm
    generalize upd (upd H3 dd (.dK [])) dd (.dK (mergeK [] [(Sum.inr "a", .int (far % 41 - 20)), (Sum.inr "bb", .int (far / 41 % 2001 - 1000)), (Sum.inr "c", .int (far / 100000 % 200))])) = H4 at s4 D ⊢
    have sAll := s2.trans (s3.trans s4)
    have hlz : z.length ≤ 1000000 := by omega
    refine ⟨_, rfl, z, rfl, Nat.le_of_lt (smallM hlz), _, _, rfl, rfl, _, rfl, ?_⟩
    by_cases h60 : z.length ≤ 60
    · have et : toks (cs z) = ps := by rw [ew]; exact g3.t
      have hsome : ∃ ex, exprF (cs z) = some ex := by
        have hg := expr_good (cs z)
        have : goodF (cs z) = true := by
          unfold goodF
          rw [et, wk_ws, g3.w, cs_len, decide_eq_true h60]
          rfl
        rw [this] at hg
        cases hx : exprF (cs z) with
        | none => rw [hx] at hg; cases hg
        | some ex => exact ⟨ex, rfl⟩
      obtain ⟨ex, hex⟩ := hsome
      have hNc : Nc (cs z) := fun p hp hk => by
        rw [et] at hp
        rcases (g3.n p hp).2.2 with ⟨_, h⟩ | ⟨h, _⟩ | ⟨h, _⟩
        · exact h
        · rw [hk] at h; cases h
        · rw [hk] at h; cases h
      obtain ⟨e1, e2⟩ := sz_expr hex hNc
      have e3 := hgt_lvs ex
      have ho := out_expr (ρ := ρ) hex
      rw [et] at ho
      refine iteB (decide_eq_true (by show (z.length : Int) ≤ 60; omega)) ⟨_, rfl, z, rfl, hlz, fun e4 v4 H5 he4 s5 t5 => ?_, fun hn => by rw [hex] at hn; cases hn⟩
      cases hex.symm.trans he4
      refine ⟨_, rfl, v4, dd, ex, ρ, rfl, t5, D.same s5, sm, e2, e1, by omega, _, rfl, _, rfl, l, dd, ps, ρ, _, rfl, s5 _ _ (s4 _ _ h3), by omega, g3.n, D.same s5, sm, ho, fun H6 s6 => ⟨rfl, _, rfl, iteC ?_ ?_⟩⟩
      · show (!decide (V.int (ex.val ρ) = V.int (ex.val ρ))) = false
        rw [decide_eq_true rfl]
        rfl
      · exact ⟨_, _, _, _, _, rfl, sAll.trans (s5.trans s6)⟩
    · exact iteC (decide_eq_false (by show ¬ (z.length : Int) ≤ 60; omega)) (iteF ⟨_, _, _, _, _, rfl, sAll⟩)
  · rintro σ H2 _
    exact q H2
end

/-! ### the program's top -/
theorem ln1 {α : Type} {us : List α} (h : us.length = 1) : ∃ a0, us = [a0] := match us, h with | [a0], _ => ⟨a0, rfl⟩
theorem ln2 {α : Type} {us : List α} (h : us.length = 2) : ∃ a0 a1, us = [a0, a1] := match us, h with | [a0, a1], _ => ⟨a0, a1, rfl⟩
theorem all_mk {l : PySem.W.OpenLaw} {w : World} {K : PySem.W.Frag} {h : Heap} {mg : Str → Option Value} {fa f1 f2 f3 f4 f5 f6 f7 f8 f9 f10 f11 f12 f13 f14 f15 : Addr} (X : K.In h) (G : h.Ns mainGlobals mg) (hfa : mg "law" = some (.ref fa))
    {od1 an1 od2 an2 od3 an3 od4 an4 od5 an5 od6 an6 od7 an7 od8 an8 od9 an9 od10 an10 od11 an11 od12 an12 od13 an13 od14 an14 od15 an15 : Option Addr} {sl1 sl2 sl3 sl4 sl5 sl6 sl7 sl8 sl9 sl10 sl11 sl12 sl13 sl14 sl15 : Array (Option Value)} {oc1 kV1 dc1 pm1 cd1 ct1 oc2 kV2 dc2 pm2 cd2 ct2 oc3 kV3 dc3 pm3 cd3 ct3 oc4 kV4 dc4 pm4 cd4 ct4 oc5 kV5 dc5 pm5 cd5 ct5 oc6 kV6 dc6 pm6 cd6 ct6 oc7 kV7 dc7 pm7 cd7 ct7 oc8 kV8 dc8 pm8 cd8 ct8 oc9 kV9 dc9 pm9 cd9 ct9 oc10 kV10 dc10 pm10 cd10 ct10 oc11 kV11 dc11 pm11 cd11 ct11 oc12 kV12 dc12 pm12 cd12 ct12 oc13 kV13 dc13 pm13 cd13 ct13 oc14 kV14 dc14 pm14 cd14 ct14 oc15 kV15 dc15 pm15 cd15 ct15 : Value} {gr1 : Addr} {go1 : Option Addr} {gn1 : Nat} {gs1 : Array (Option Value)} {gk1_0 gk1_1 gk1_2 gk1_3 gk1_4 gk1_5 gk1_6 gk1_7 gk1_8 : Tok} {hk1 : Tok} {hk2 : Tok} {hk3 : Tok} {hk4 : Tok} {xc1 : Addr} {tk1 : Tok} {tk2 : Tok} {C1 : Addr} {mf1_1 : Addr} {mod1_1 man1_1 : Option Addr} {msl1_1 : Array (Option Value)} {moc1_1 mkV1_1 mdc1_1 mpm1_1 mcd1_1 mct1_1 : Value} {mf1_2 : Addr} {mod1_2 man1_2 : Option Addr} {msl1_2 : Array (Option Value)} {moc1_2 mkV1_2 mdc1_2 mpm1_2 mcd1_2 mct1_2 : Value} {mf1_3 : Addr} {mod1_3 man1_3 : Option Addr} {msl1_3 : Array (Option Value)} {moc1_3 mkV1_3 mdc1_3 mpm1_3 mcd1_3 mct1_3 : Value} {mf1_4 : Addr} {mod1_4 man1_4 : Option Addr} {msl1_4 : Array (Option Value)} {moc1_4 mkV1_4 mdc1_4 mpm1_4 mcd1_4 mct1_4 : Value}
    (a1 : PySem.W.nsIn K mainGlobals "all_among" = some (some (.ref f1))) (l1 : K.lookup f1 = some ⟨oc1, od1, .func (PySem.W.fnOf "all_among" "all_among" (defArgs sPAllAmong) (defBody sPAllAmong) (defScope sPAllAmong) .none kV1 dc1 pm1 an1 cd1 ct1), sl1⟩) (c1 : PySem.W.codeIn K cd1 "all_among" = true) (k1 : PySem.W.keepIn K (.ref f1) = true)
    (a2 : PySem.W.nsIn K mainGlobals "is_name" = some (some (.ref f2))) (l2 : K.lookup f2 = some ⟨oc2, od2, .func (PySem.W.fnOf "is_name" "is_name" (defArgs sPIsName) (defBody sPIsName) (defScope sPIsName) .none kV2 dc2 pm2 an2 cd2 ct2), sl2⟩) (c2 : PySem.W.codeIn K cd2 "is_name" = true) (k2 : PySem.W.keepIn K (.ref f2) = true)
    (a3 : PySem.W.nsIn K mainGlobals "are_figures" = some (some (.ref f3))) (l3 : K.lookup f3 = some ⟨oc3, od3, .func (PySem.W.fnOf "are_figures" "are_figures" (defArgs sPAreFigures) (defBody sPAreFigures) (defScope sPAreFigures) .none kV3 dc3 pm3 an3 cd3 ct3), sl3⟩) (c3 : PySem.W.codeIn K cd3 "are_figures" = true) (k3 : PySem.W.keepIn K (.ref f3) = true)
    (a4 : PySem.W.nsIn K mainGlobals "number_of" = some (some (.ref f4))) (l4 : K.lookup f4 = some ⟨oc4, od4, .func (PySem.W.fnOf "number_of" "number_of" (defArgs sPNumberOf) (defBody sPNumberOf) (defScope sPNumberOf) .none kV4 dc4 pm4 an4 cd4 ct4), sl4⟩) (c4 : PySem.W.codeIn K cd4 "number_of" = true) (k4 : PySem.W.keepIn K (.ref f4) = true)
    (a5 : PySem.W.nsIn K mainGlobals "expression" = some (some (.ref f5))) (l5 : K.lookup f5 = some ⟨oc5, od5, .func (PySem.W.fnOf "expression" "expression" (defArgs sPExpression) (defBody sPExpression) (defScope sPExpression) .none kV5 dc5 pm5 an5 cd5 ct5), sl5⟩) (c5 : PySem.W.codeIn K cd5 "expression" = true) (k5 : PySem.W.keepIn K (.ref f5) = true)
    (a6 : PySem.W.nsIn K mainGlobals "terms" = some (some (.ref f6))) (l6 : K.lookup f6 = some ⟨oc6, od6, .func (PySem.W.fnOf "terms" "terms" (defArgs sPTerms) (defBody sPTerms) (defScope sPTerms) .none kV6 dc6 pm6 an6 cd6 ct6), sl6⟩) (c6 : PySem.W.codeIn K cd6 "terms" = true) (k6 : PySem.W.keepIn K (.ref f6) = true)
    (a7 : PySem.W.nsIn K mainGlobals "factors" = some (some (.ref f7))) (l7 : K.lookup f7 = some ⟨oc7, od7, .func (PySem.W.fnOf "factors" "factors" (defArgs sPFactors) (defBody sPFactors) (defScope sPFactors) .none kV7 dc7 pm7 an7 cd7 ct7), sl7⟩) (c7 : PySem.W.codeIn K cd7 "factors" = true) (k7 : PySem.W.keepIn K (.ref f7) = true)
    (a8 : PySem.W.nsIn K mainGlobals "factor" = some (some (.ref f8))) (l8 : K.lookup f8 = some ⟨oc8, od8, .func (PySem.W.fnOf "factor" "factor" (defArgs sPFactor) (defBody sPFactor) (defScope sPFactor) .none kV8 dc8 pm8 an8 cd8 ct8), sl8⟩) (c8 : PySem.W.codeIn K cd8 "factor" = true) (k8 : PySem.W.keepIn K (.ref f8) = true)
    (a9 : PySem.W.nsIn K mainGlobals "bracketed" = some (some (.ref f9))) (l9 : K.lookup f9 = some ⟨oc9, od9, .func (PySem.W.fnOf "bracketed" "bracketed" (defArgs sPBracketed) (defBody sPBracketed) (defScope sPBracketed) .none kV9 dc9 pm9 an9 cd9 ct9), sl9⟩) (c9 : PySem.W.codeIn K cd9 "bracketed" = true) (k9 : PySem.W.keepIn K (.ref f9) = true)
    (a10 : PySem.W.nsIn K mainGlobals "worth" = some (some (.ref f10))) (l10 : K.lookup f10 = some ⟨oc10, od10, .func (PySem.W.fnOf "worth" "worth" (defArgs sPWorth) (defBody sPWorth) (defScope sPWorth) .none kV10 dc10 pm10 an10 cd10 ct10), sl10⟩) (c10 : PySem.W.codeIn K cd10 "worth" = true) (k10 : PySem.W.keepIn K (.ref f10) = true)
    (a11 : PySem.W.nsIn K mainGlobals "_law_stir" = some (some (.ref f11))) (l11 : K.lookup f11 = some ⟨oc11, od11, .func (PySem.W.fnOf "_law_stir" "_law_stir" (defArgs sStir) (defBody sStir) (defScope sStir) .none kV11 dc11 pm11 an11 cd11 ct11), sl11⟩) (c11 : PySem.W.codeIn K cd11 "_law_stir" = true) (k11 : PySem.W.keepIn K (.ref f11) = true)
    (a12 : PySem.W.nsIn K mainGlobals "_law_parts" = some (some (.ref f12))) (l12 : K.lookup f12 = some ⟨oc12, od12, .func (PySem.W.fnOf "_law_parts" "_law_parts" (defArgs sParts) (defBody sParts) (defScope sParts) .none kV12 dc12 pm12 an12 cd12 ct12), sl12⟩) (c12 : PySem.W.codeIn K cd12 "_law_parts" = true) (k12 : PySem.W.keepIn K (.ref f12) = true)
    (a13 : PySem.W.nsIn K mainGlobals "_law_reckon" = some (some (.ref f13))) (l13 : K.lookup f13 = some ⟨oc13, od13, .func (PySem.W.fnOf "_law_reckon" "_law_reckon" (defArgs sReckon) (defBody sReckon) (defScope sReckon) .none kV13 dc13 pm13 an13 cd13 ct13), sl13⟩) (c13 : PySem.W.codeIn K cd13 "_law_reckon" = true) (k13 : PySem.W.keepIn K (.ref f13) = true)
    (a14 : PySem.W.nsIn K mainGlobals "_law_due" = some (some (.ref f14))) (l14 : K.lookup f14 = some ⟨oc14, od14, .func (PySem.W.fnOf "_law_due" "_law_due" (defArgs sDue) (defBody sDue) (defScope sDue) .none kV14 dc14 pm14 an14 cd14 ct14), sl14⟩) (c14 : PySem.W.codeIn K cd14 "_law_due" = true) (k14 : PySem.W.keepIn K (.ref f14) = true)
    (a15 : PySem.W.nsIn K mainGlobals "law" = some (some (.ref f15))) (l15 : K.lookup f15 = some ⟨oc15, od15, .func (PySem.W.fnOf "law" "law" (defArgs sLaw) (defBody sLaw) (defScope sLaw) .none kV15 dc15 pm15 an15 cd15 ct15), sl15⟩) (c15 : PySem.W.codeIn K cd15 "law" = true) (k15 : PySem.W.keepIn K (.ref f15) = true)
    (g1 : PySem.W.nsIn K mainGlobals "TAKEN" = some (some (.ref gr1))) (gl1 : K.lookup gr1 = some ⟨.type "tuple", go1, .seq #[.str "box" gk1_0, .str "mark" gk1_1, .str "ask" gk1_2, .str "put" gk1_3, .str "go" gk1_4, .str "if" gk1_5, .str "stop" gk1_6, .str "in" gk1_7, .str "not" gk1_8] gn1, gs1⟩)
    (i1 : PySem.W.nsIn K mainGlobals "MOST_LETTERS" = some (some (.int 8 hk1)))
    (i2 : PySem.W.nsIn K mainGlobals "MOST_FIGURES" = some (some (.int 3 hk2)))
    (i3 : PySem.W.nsIn K mainGlobals "MOST_SIGNS" = some (some (.int 60 hk3)))
    (i4 : PySem.W.nsIn K mainGlobals "MOST_BRACKETS" = some (some (.int 5 hk4)))
    (t1 : PySem.W.nsIn K mainGlobals "LETTERS" = some (some (.str "abcdefghijklmnopqrstuvwxyz" tk1)))
    (t2 : PySem.W.nsIn K mainGlobals "FIGURES" = some (some (.str "0123456789" tk2)))
    (ca1 : PySem.W.nsIn K mainGlobals "Reading" = some (some (.ref C1))) (pg1 : PySem.W.plainGet K C1 Str.empty = true) (hd1 : PySem.W.hasDictIn K C1 = true) (po1 : PySem.W.plainOver K C1 = true) (sa1 : PySem.W.findIn K (.ref C1) "__setattr__" = some (some (.builtin "object.__setattr__"))) (mk1 : PySem.W.makesIn K C1 = true) (kc1 : PySem.W.keepIn K (.ref C1) = true)
    (na1_1 : PySem.W.findIn K (.ref C1) "word" = some none)
    (na1_2 : PySem.W.findIn K (.ref C1) "place" = some none)
    (ma1_1 : PySem.W.findIn K (.ref C1) "__init__" = some (some (.ref mf1_1))) (mi1_1 : PySem.W.isFn K (.ref mf1_1) = true) (ml1_1 : K.lookup mf1_1 = some ⟨moc1_1, mod1_1, .func (PySem.W.fnOf "__init__" "Reading.__init__" (defArgs sMInit) (defBody sMInit) (defScope sMInit) .none mkV1_1 mdc1_1 mpm1_1 man1_1 mcd1_1 mct1_1), msl1_1⟩) (mc1_1 : PySem.W.codeIn K mcd1_1 "Reading.__init__" = true) (mk1_1 : PySem.W.keepIn K (.ref mf1_1) = true)
    (ma1_2 : PySem.W.findIn K (.ref C1) "stands_at" = some (some (.ref mf1_2))) (mi1_2 : PySem.W.isFn K (.ref mf1_2) = true) (ml1_2 : K.lookup mf1_2 = some ⟨moc1_2, mod1_2, .func (PySem.W.fnOf "stands_at" "Reading.stands_at" (defArgs sMStandsAt) (defBody sMStandsAt) (defScope sMStandsAt) .none mkV1_2 mdc1_2 mpm1_2 man1_2 mcd1_2 mct1_2), msl1_2⟩) (mc1_2 : PySem.W.codeIn K mcd1_2 "Reading.stands_at" = true) (mk1_2 : PySem.W.keepIn K (.ref mf1_2) = true)
    (ma1_3 : PySem.W.findIn K (.ref C1) "take" = some (some (.ref mf1_3))) (mi1_3 : PySem.W.isFn K (.ref mf1_3) = true) (ml1_3 : K.lookup mf1_3 = some ⟨moc1_3, mod1_3, .func (PySem.W.fnOf "take" "Reading.take" (defArgs sMTake) (defBody sMTake) (defScope sMTake) .none mkV1_3 mdc1_3 mpm1_3 man1_3 mcd1_3 mct1_3), msl1_3⟩) (mc1_3 : PySem.W.codeIn K mcd1_3 "Reading.take" = true) (mk1_3 : PySem.W.keepIn K (.ref mf1_3) = true)
    (ma1_4 : PySem.W.findIn K (.ref C1) "take_all" = some (some (.ref mf1_4))) (mi1_4 : PySem.W.isFn K (.ref mf1_4) = true) (ml1_4 : K.lookup mf1_4 = some ⟨moc1_4, mod1_4, .func (PySem.W.fnOf "take_all" "Reading.take_all" (defArgs sMTakeAll) (defBody sMTakeAll) (defScope sMTakeAll) .none mkV1_4 mdc1_4 mpm1_4 man1_4 mcd1_4 mct1_4), msl1_4⟩) (mc1_4 : PySem.W.codeIn K mcd1_4 "Reading.take_all" = true) (mk1_4 : PySem.W.keepIn K (.ref mf1_4) = true)
    (x1 : PySem.W.nsIn K mainGlobals "NoRow" = some (some (.ref xc1))) (y1 : PySem.W.excIn K xc1 [.type "ValueError", .type "Exception", .type "BaseException", .type "object"] "ValueError.__new__" = true)
    (z1 : PySem.W.nsIn K mainGlobals "ValueError" = some none) (z2 : PySem.W.nsIn K mainGlobals "all" = some none) (z3 : PySem.W.nsIn K mainGlobals "int" = some none) (z4 : PySem.W.nsIn K mainGlobals "len" = some none) (z5 : PySem.W.nsIn K mainGlobals "range" = some none) (z6 : PySem.W.nsIn K mainGlobals "str" = some none) :
    ∃ fd : FuncData, (∀ (s : Shared) (v : Value), BindsTo s fd ⟨[v], []⟩ [("script", v)]) ∧ ∀ base : Heap, K.In base → base.Ns mainGlobals mg → FnOk l.prog w K mg base CX0 32 fa fd ["script"] (spLaw K) := by
  have e := hfa.symm.trans (PySem.W.mg_of X G a15)
  cases e
  have h_all_among : Has K mg "all_among" sPAllAmong ["word", "signs"] := Has.mk X G a1 l1 c1 k1 fun _ _ _ _ _ _ us hl => by obtain ⟨_, _, rfl⟩ := ln2 hl; rfl
  have h_is_name : Has K mg "is_name" sPIsName ["word"] := Has.mk X G a2 l2 c2 k2 fun _ _ _ _ _ _ us hl => by obtain ⟨_, rfl⟩ := ln1 hl; rfl
  have h_are_figures : Has K mg "are_figures" sPAreFigures ["word"] := Has.mk X G a3 l3 c3 k3 fun _ _ _ _ _ _ us hl => by obtain ⟨_, rfl⟩ := ln1 hl; rfl
  have h_number_of : Has K mg "number_of" sPNumberOf ["word"] := Has.mk X G a4 l4 c4 k4 fun _ _ _ _ _ _ us hl => by obtain ⟨_, rfl⟩ := ln1 hl; rfl
  have h_expression : Has K mg "expression" sPExpression ["word"] := Has.mk X G a5 l5 c5 k5 fun _ _ _ _ _ _ us hl => by obtain ⟨_, rfl⟩ := ln1 hl; rfl
  have h_terms : Has K mg "terms" sPTerms ["reading", "depth"] := Has.mk X G a6 l6 c6 k6 fun _ _ _ _ _ _ us hl => by obtain ⟨_, _, rfl⟩ := ln2 hl; rfl
  have h_factors : Has K mg "factors" sPFactors ["reading", "depth"] := Has.mk X G a7 l7 c7 k7 fun _ _ _ _ _ _ us hl => by obtain ⟨_, _, rfl⟩ := ln2 hl; rfl
  have h_factor : Has K mg "factor" sPFactor ["reading", "depth"] := Has.mk X G a8 l8 c8 k8 fun _ _ _ _ _ _ us hl => by obtain ⟨_, _, rfl⟩ := ln2 hl; rfl
  have h_bracketed : Has K mg "bracketed" sPBracketed ["reading", "depth"] := Has.mk X G a9 l9 c9 k9 fun _ _ _ _ _ _ us hl => by obtain ⟨_, _, rfl⟩ := ln2 hl; rfl
  have h_worth : Has K mg "worth" sPWorth ["e", "values"] := Has.mk X G a10 l10 c10 k10 fun _ _ _ _ _ _ us hl => by obtain ⟨_, _, rfl⟩ := ln2 hl; rfl
  have h__law_stir : Has K mg "_law_stir" sStir ["cell", "k"] := Has.mk X G a11 l11 c11 k11 fun _ _ _ _ _ _ us hl => by obtain ⟨_, _, rfl⟩ := ln2 hl; rfl
  have h__law_parts : Has K mg "_law_parts" sParts ["cell"] := Has.mk X G a12 l12 c12 k12 fun _ _ _ _ _ _ us hl => by obtain ⟨_, rfl⟩ := ln1 hl; rfl
  have h__law_reckon : Has K mg "_law_reckon" sReckon ["numbers", "signs"] := Has.mk X G a13 l13 c13 k13 fun _ _ _ _ _ _ us hl => by obtain ⟨_, _, rfl⟩ := ln2 hl; rfl
  have h__law_due : Has K mg "_law_due" sDue ["parts", "values"] := Has.mk X G a14 l14 c14 k14 fun _ _ _ _ _ _ us hl => by obtain ⟨_, _, rfl⟩ := ln2 hl; rfl
  have cl_Reading : Cls K C1 := ⟨pg1, hd1, po1, sa1⟩
  have F_Reading___init__ := fun_mk (st := sMInit) ml1_1 mc1_1 mk1_1
  have b_Reading___init__ := F_Reading___init__.binds (ps := ["self", "word"]) fun _ _ _ _ _ _ us hl => by obtain ⟨_, _, rfl⟩ := ln2 hl; rfl
  have mk_Reading : Mk K C1 mf1_1 := ⟨mk1, ma1_1, mi1_1, kc1⟩
  have F_Reading_stands_at := fun_mk (st := sMStandsAt) ml1_2 mc1_2 mk1_2
  have b_Reading_stands_at := F_Reading_stands_at.binds (ps := ["self", "signs"]) fun _ _ _ _ _ _ us hl => by obtain ⟨_, _, rfl⟩ := ln2 hl; rfl
  have hm_Reading_stands_at : HasM K C1 "stands_at" "Reading.stands_at" sMStandsAt ["self", "signs"] := ⟨mf1_2, _, F_Reading_stands_at, b_Reading_stands_at, ⟨ma1_2, mi1_2, mk1_2⟩⟩
  have F_Reading_take := fun_mk (st := sMTake) ml1_3 mc1_3 mk1_3
  have b_Reading_take := F_Reading_take.binds (ps := ["self"]) fun _ _ _ _ _ _ us hl => by obtain ⟨_, rfl⟩ := ln1 hl; rfl
  have hm_Reading_take : HasM K C1 "take" "Reading.take" sMTake ["self"] := ⟨mf1_3, _, F_Reading_take, b_Reading_take, ⟨ma1_3, mi1_3, mk1_3⟩⟩
  have F_Reading_take_all := fun_mk (st := sMTakeAll) ml1_4 mc1_4 mk1_4
  have b_Reading_take_all := F_Reading_take_all.binds (ps := ["self", "signs"]) fun _ _ _ _ _ _ us hl => by obtain ⟨_, _, rfl⟩ := ln2 hl; rfl
  have hm_Reading_take_all : HasM K C1 "take_all" "Reading.take_all" sMTakeAll ["self", "signs"] := ⟨mf1_4, _, F_Reading_take_all, b_Reading_take_all, ⟨ma1_4, mi1_4, mk1_4⟩⟩
  have mg_Reading := PySem.W.mg_of X G ca1
  have F := fun_mk (st := sLaw) l15 c15 k15
  have B : Blt mg := ⟨PySem.W.mg_none_of X G z1, PySem.W.mg_none_of X G z2, PySem.W.mg_none_of X G z3, PySem.W.mg_none_of X G z4, PySem.W.mg_none_of X G z5, PySem.W.mg_none_of X G z6⟩
  have ex_NoRow : Exc K mg "NoRow" xc1 [.type "ValueError", .type "Exception", .type "BaseException", .type "object"] "ValueError.__new__" := ⟨PySem.W.mg_of X G x1, y1⟩
  have gl : Glb K mg := ⟨⟨gr1, PySem.W.mg_of X G g1, fun H => .inr ⟨_, _, _, gl1, rfl, rfl, (by show 9 ≤ sizeLine; decide), Paired.cons ⟨_, rfl⟩ (Paired.cons ⟨_, rfl⟩ (Paired.cons ⟨_, rfl⟩ (Paired.cons ⟨_, rfl⟩ (Paired.cons ⟨_, rfl⟩ (Paired.cons ⟨_, rfl⟩ (Paired.cons ⟨_, rfl⟩ (Paired.cons ⟨_, rfl⟩ (Paired.cons ⟨_, rfl⟩ (Paired.nil)))))))))⟩⟩, ⟨_, PySem.W.mg_of X G t1⟩, ⟨_, PySem.W.mg_of X G t2⟩, ⟨_, PySem.W.mg_of X G i1⟩, ⟨_, PySem.W.mg_of X G i2⟩, ⟨_, PySem.W.mg_of X G i3⟩, ⟨_, PySem.W.mg_of X G i4⟩⟩
  refine ⟨PySem.W.fnOf "law" "law" (defArgs sLaw) (defBody sLaw) (defScope sLaw) .none kV15 dc15 pm15 an15 cd15 ct15, fun s v => .of_eq rfl, fun base _ _ => ?_⟩
  have T : TxR K mg C1 := ⟨cl_Reading, na1_1, na1_2, mg_Reading⟩
  have FB := PySem.F.excBase_ValueError
  have cA := ok_among (P := l.prog) (w := w) (base := base) h_all_among B
  have cI := ok_isName h_is_name B gl cA
  have cNo := ok_number h_number_of B (ok_figures h_are_figures B gl cA) ex_NoRow FB
  have cSt := ok_stands (P := l.prog) (w := w) (base := base) hm_Reading_stands_at B T
  have cTk := ok_take (P := l.prog) (w := w) (base := base) hm_Reading_take T
  have cTa := ok_takeAll hm_Reading_take_all T cSt
  have cL := ok_levels h_bracketed h_terms h_factors h_factor B gl T ex_NoRow FB cSt cTk cTa cNo cI 5 (by decide)
  have cE := ok_expression h_expression B gl T ex_NoRow FB mk_Reading b_Reading___init__ (ok_rinit F_Reading___init__ T) cL
  have cS := ok_stir (P := l.prog) (w := w) (base := base) h__law_stir
  exact ok_law F B cS (ok_parts h__law_parts B cS) (all_worth h_worth 30) cE (ok_due h__law_due B (ok_reckon h__law_reckon))
theorem walk {l : PySem.W.OpenLaw} {q : Program} {loose : List Str} {XP : (Str → Option Value) → Heap → Prop} {YP : World → Heap → Prop} {d : DefRec} {K : Params → PySem.W.Frag} (hn : l.most = some 63) (hdf : d.params.defaults = [])
    (hY : ∀ (w : World) (h : Heap), YP w h → (K w.params).In h)
    (F : ∀ (w : World) (mg : Str → Option Value) (fa : Addr) (h : Heap), (K w.params).In h → h.Ns mainGlobals mg → mg d.name = some (.ref fa) →
      ∃ fd : FuncData, (∀ (s : Shared) (u : Value), BindsTo s fd ⟨[u], []⟩ [("script", u)]) ∧ ∀ base : Heap, (K w.params).In base → base.Ns mainGlobals mg → FnOk l.prog w (K w.params) mg base CX0 32 fa fd ["script"] (spLaw (K w.params))) :
    PySem.W.WalkO q loose XP YP l.row.toRowW d [] (fun f vs => PySem.call f vs) :=
  L2.walk_of (n := 63) (k := 32) (x := "script") (CX := fun _ => CX0) (sp := fun w => spLaw (K w.params)) hn (by decide) hdf ⟨rfl, by decide, by decide⟩ hY F (fun _ _ a ns hl _ hS => ⟨a, ns, rfl, hS, hl, fun _ => rfl⟩) fun _ _ _ _ _ z => z
end K05
open PySem PySem.W PyProof.Rows
set_option maxRecDepth 100000 in
set_option maxHeartbeats 0 in
theorem PySem.Challenge.cw_sayswho_k05_whole_words_worth_holds : PySem.Challenge.rw_sayswho_k05_whole_words_worth.Holds := by
  w_on; o_law; k_head; (case hw => w_witness2)
  k_fill
  refine K05.walk (l := PySem.Challenge.rw_sayswho_k05_whole_words_worth) rfl rfl (fun w h Y => PySem.W.kIn_of Y) ?F
  case F =>
    intro w mg fa h KX G hmg
    refine' K05.all_mk KX G hmg ?a1 ?l1 ?c1 ?k1 ?a2 ?l2 ?c2 ?k2 ?a3 ?l3 ?c3 ?k3 ?a4 ?l4 ?c4 ?k4 ?a5 ?l5 ?c5 ?k5 ?a6 ?l6 ?c6 ?k6 ?a7 ?l7 ?c7 ?k7 ?a8 ?l8 ?c8 ?k8 ?a9 ?l9 ?c9 ?k9 ?a10 ?l10 ?c10 ?k10 ?a11 ?l11 ?c11 ?k11 ?a12 ?l12 ?c12 ?k12 ?a13 ?l13 ?c13 ?k13 ?a14 ?l14 ?c14 ?k14 ?a15 ?l15 ?c15 ?k15 ?g1 ?gl1 ?i1 ?i2 ?i3 ?i4 ?t1 ?t2 ?ca1 ?pg1 ?hd1 ?po1 ?sa1 ?mk1 ?kc1 ?na1_1 ?na1_2 ?ma1_1 ?mi1_1 ?ml1_1 ?mc1_1 ?mk1_1 ?ma1_2 ?mi1_2 ?ml1_2 ?mc1_2 ?mk1_2 ?ma1_3 ?mi1_3 ?ml1_3 ?mc1_3 ?mk1_3 ?ma1_4 ?mi1_4 ?ml1_4 ?mc1_4 ?mk1_4  ?x1 ?y1 ?z1 ?z2 ?z3 ?z4 ?z5 ?z6
    (case a1 => k_is); (case l1 => k_is); (case c1 => k_is); (case k1 => k_is)
    (case a2 => k_is); (case l2 => k_is); (case c2 => k_is); (case k2 => k_is)
    (case a3 => k_is); (case l3 => k_is); (case c3 => k_is); (case k3 => k_is)
    (case a4 => k_is); (case l4 => k_is); (case c4 => k_is); (case k4 => k_is)
    (case a5 => k_is); (case l5 => k_is); (case c5 => k_is); (case k5 => k_is)
    (case a6 => k_is); (case l6 => k_is); (case c6 => k_is); (case k6 => k_is)
    (case a7 => k_is); (case l7 => k_is); (case c7 => k_is); (case k7 => k_is)
    (case a8 => k_is); (case l8 => k_is); (case c8 => k_is); (case k8 => k_is)
    (case a9 => k_is); (case l9 => k_is); (case c9 => k_is); (case k9 => k_is)
    (case a10 => k_is); (case l10 => k_is); (case c10 => k_is); (case k10 => k_is)
    (case a11 => k_is); (case l11 => k_is); (case c11 => k_is); (case k11 => k_is)
    (case a12 => k_is); (case l12 => k_is); (case c12 => k_is); (case k12 => k_is)
    (case a13 => k_is); (case l13 => k_is); (case c13 => k_is); (case k13 => k_is)
    (case a14 => k_is); (case l14 => k_is); (case c14 => k_is); (case k14 => k_is)
    (case a15 => k_is); (case l15 => k_is); (case c15 => k_is); (case k15 => k_is)
    (case g1 => k_is); (case gl1 => k_is)
    (case i1 => k_is)
    (case i2 => k_is)
    (case i3 => k_is)
    (case i4 => k_is)
    (case t1 => k_is); (case t2 => k_is); (case ca1 => k_is); (case pg1 => k_is); (case hd1 => k_is); (case po1 => k_is); (case sa1 => k_is); (case mk1 => k_is); (case kc1 => k_is); (case na1_1 => k_is); (case na1_2 => k_is); (case ma1_1 => k_is); (case mi1_1 => k_is); (case ml1_1 => k_is); (case mc1_1 => k_is); (case mk1_1 => k_is); (case ma1_2 => k_is); (case mi1_2 => k_is); (case ml1_2 => k_is); (case mc1_2 => k_is); (case mk1_2 => k_is); (case ma1_3 => k_is); (case mi1_3 => k_is); (case ml1_3 => k_is); (case mc1_3 => k_is); (case mk1_3 => k_is); (case ma1_4 => k_is); (case mi1_4 => k_is); (case ml1_4 => k_is); (case mc1_4 => k_is); (case mk1_4 => k_is)
    (case x1 => k_is); (case y1 => k_exc)
    (case z1 => k_is); (case z2 => k_is); (case z3 => k_is); (case z4 => k_is); (case z5 => k_is); (case z6 => k_is)
#print axioms PySem.Challenge.cw_sayswho_k05_whole_words_worth_holds

