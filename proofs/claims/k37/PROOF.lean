import PyProof.Rows.All
import Wide.All
import OpenK.AllK
import Wide.FinOn
import Lean
import PyProof.EqAt
import PyProof.EqKinds
import PyProof.TupleCall
import PySem.Challenge.RW_sayswho_k37_whole_reasons_of_what_was_le

set_option Elab.async false
set_option linter.all false
set_option maxRecDepth 100000
/-! THE HAND LAYER, for ints, bools, texts, own classes, LISTS and tuples (index, slices, in, append, pop ..), calls, loops. Paste it whole ahead of your own text; what your proof does not reach may be deleted. -/
namespace L2
open PySem PySem.Spec PyProof.Rows

/-- a key: an int or a str -/
abbrev Key := Sum Int Str
def keyIs : Key → Value → Bool
  | .inl k, v => Value.isInt k v
  | .inr x, v => Value.isStrOf x v
def keyH (w : World) : Key → Int
  | .inl k => hashInt k
  | .inr x => hashStr w x
theorem keyIs_shape : ∀ {k : Key} {v : Value}, keyIs k v = true → (∃ i t, k = Sum.inl i ∧ v = Value.int i t) ∨ (∃ x t, k = Sum.inr x ∧ v = Value.str x t)
  | .inl i, v, h => by
    obtain ⟨t, e⟩ := Value.isInt_shape (k := i) (v := v) h
    exact .inl ⟨i, t, rfl, e⟩
  | .inr x, v, h => by
    obtain ⟨t, e⟩ := Value.isStrOf_shape (x := x) (v := v) h
    exact .inr ⟨x, t, rfl, e⟩
theorem keyIs_int (i : Int) (t : Tok) : keyIs (.inl i) (.int i t) = true := by simp [keyIs, Value.isInt]
theorem keyIs_str (x : Str) (t : Tok) : keyIs (.inr x) (.str x t) = true := by simp [keyIs, Value.isStrOf]
theorem key_ll (a b : Int) : decide ((Sum.inl a : Key) = Sum.inl b) = (a == b) := by
  by_cases e : a = b
  · subst e; simp
  · have h : ¬ (Sum.inl a : Key) = Sum.inl b := fun q => e (Sum.inl.inj q)
    rw [decide_eq_false h]
    exact (beq_eq_false_iff_ne.mpr e).symm
theorem key_rr (a b : Str) : decide ((Sum.inr a : Key) = Sum.inr b) = decide (a = b) := by
  by_cases e : a = b
  · subst e; simp
  · have h : ¬ (Sum.inr a : Key) = Sum.inr b := fun q => e (Sum.inr.inj q)
    rw [decide_eq_false h, decide_eq_false e]
theorem key_lr (a : Int) (b : Str) : decide ((Sum.inl a : Key) = Sum.inr b) = false := decide_eq_false (fun q => nomatch q)
theorem key_rl (a : Str) (b : Int) : decide ((Sum.inr a : Key) = Sum.inl b) = false := decide_eq_false (fun q => nomatch q)

def mixKind (prog : Program) (w : World) : PySem.KeyKind prog w Key where
  is := keyIs
  hash := keyH w
  inj := fun v a b ha hb => by
    rcases keyIs_shape ha with ⟨i, t, rfl, rfl⟩ | ⟨x, t, rfl, rfl⟩
    · rcases keyIs_shape hb with ⟨j, u, rfl, e⟩ | ⟨y, u, rfl, e⟩
      · injection e with e1 _; rw [e1]
      · exact nomatch e
    · rcases keyIs_shape hb with ⟨j, u, rfl, e⟩ | ⟨y, u, rfl, e⟩
      · exact nomatch e
      · injection e with e1 _; rw [e1]
  byValue := fun k v h => by
    rcases keyIs_shape h with ⟨i, t, rfl, rfl⟩ | ⟨x, t, rfl, rfl⟩ <;> rfl
  pyHash := fun hv h => by
    rcases keyIs_shape hv with ⟨i, t, rfl, rfl⟩ | ⟨x, t, rfl, rfl⟩
    · exact wpAny_pyHash_int h
    · exact wpAny_pyHash_str h
  eqBool := fun hu hv h => by
    rcases keyIs_shape hu with ⟨i, t, rfl, rfl⟩ | ⟨x, t, rfl, rfl⟩
    · rcases keyIs_shape hv with ⟨j, u, rfl, rfl⟩ | ⟨y, u, rfl, rfl⟩
      · rw [key_ll] at h; exact wpAny_eqBool_int h
      · rw [key_lr] at h; exact SeqAt.EqAt.int_str i t y u _ _ _ _ h
    · rcases keyIs_shape hv with ⟨j, u, rfl, rfl⟩ | ⟨y, u, rfl, rfl⟩
      · rw [key_rl] at h; exact SeqAt.EqAt.str_int x t j u _ _ _ _ h
      · rw [key_rr] at h; exact wpAny_eqBool_str h
  «strs» := fun k x t v h => by
    rcases keyIs_shape h with ⟨i, u, rfl, e⟩ | ⟨y, u, rfl, e⟩
    · exact nomatch e
    · injection e with e1 _
      subst e1
      cases v <;> rfl

theorem mixKind_int (prog : Program) (w : World) (i : Int) (t : Tok) : (mixKind prog w).is (.inl i) (.int i t) = true := keyIs_int i t
theorem mixKind_str (prog : Program) (w : World) (x : Str) (t : Tok) : (mixKind prog w).is (.inr x) (.str x t) = true := keyIs_str x t
end L2

namespace L2
open PySem PySem.Spec PyProof.Rows

/-- a value, without the heap -/
inductive V where
  | non | bl (b : Bool) | int (i : Int) | str (x : Str) | byt (b : Array UInt8) | flt (b : UInt64) | ref (a : Addr) | ty (n : String)
  deriving DecidableEq

def RelV : V → Value → Prop
  | .non, u => u = Value.none
  | .bl b, u => u = Value.bool b
  | .int i, u => ∃ t, u = Value.int i t
  | .str x, u => ∃ t, u = Value.str x t
  | .byt b, u => ∃ t, u = Value.bytes b t
  | .flt b, u => ∃ t, u = Value.float b t
  | .ref a, u => u = Value.ref a
  | .ty n, u => u = Value.type n

abbrev Vals : List V → List Value → Prop := Paired RelV
theorem Vals.length {xs : List V} {us : List Value} (r : Vals xs us) : xs.length = us.length := Paired.length r
theorem Vals.get : ∀ {xs : List V} {us : List Value} {i : Nat} {x : V}, Vals xs us → xs[i]? = some x → ∃ u, us[i]? = some u ∧ RelV x u
  | _, _, _, _, .nil, e => by simp at e
  | _, _, 0, _, .cons r _, e => by simp at e; subst e; exact ⟨_, rfl, r⟩
  | _, _, i + 1, x, .cons _ t, e => by
    obtain ⟨u, h1, h2⟩ := Vals.get (i := i) (x := x) t (by simpa using e)
    exact ⟨u, by simpa using h1, h2⟩
theorem Vals.set {x : V} {u : Value} (r : RelV x u) : ∀ {xs : List V} {us : List Value} (i : Nat), Vals xs us → Vals (xs.set i x) (us.set i u)
  | _, _, _, .nil => .nil
  | _, _, 0, .cons _ t => .cons r t
  | _, _, i + 1, .cons q t => .cons q (Vals.set r i t)
theorem Vals.append : ∀ {xs ys : List V} {us ws : List Value}, Vals xs us → Vals ys ws → Vals (xs ++ ys) (us ++ ws)
  | _, _, _, _, .nil, s => s
  | _, _, _, _, .cons r t, s => .cons r (Vals.append t s)
theorem Vals.take : ∀ {xs : List V} {us : List Value} (n : Nat), Vals xs us → Vals (xs.take n) (us.take n)
  | _, _, 0, _ => .nil
  | _, _, _ + 1, .nil => .nil
  | _, _, n + 1, .cons r t => .cons r (Vals.take n t)
theorem Vals.drop : ∀ {xs : List V} {us : List Value} (n : Nat), Vals xs us → Vals (xs.drop n) (us.drop n)
  | _, _, 0, r => r
  | _, _, _ + 1, .nil => .nil
  | _, _, n + 1, .cons _ t => Vals.drop n t

def RelO : Option V → Option Value → Prop
  | some v, some u => RelV v u
  | none, none => True
  | _, _ => False
def KV {κ : Type} : List (κ × V) → List (κ × Value) → Prop := Paired fun (p : κ × V) (q : κ × Value) => p.1 = q.1 ∧ RelV p.2 q.2

/-- a key of a dict (00_mix): an int or a text -/
def kV : Key → V
  | .inl i => .int i
  | .inr x => .str x

/-- what stands at a tracked address -/
inductive HO where
  /-- a list -/
  | lst (xs : List V)
  /-- a tuple (never changes) -/
  | tup (xs : List V)
  /-- a dict whose keys are ints and texts; one whose keys are tuples of ints and texts (the empty one is both) -/
  | dK (kvs : List (Key × V)) | dT (kvs : List (List Key × V))
  /-- a set of ints: its members, its size -/
  | set (S : Int → Bool) (n : Nat)
  /-- an instance of the class at C, its dict at dx, its attributes -/
  | ins (C dx : Addr) (fs : List (Str × V))
  /-- the dict of the instance at x -/
  | own (x : Addr)
  /-- the dict of an exception -/
  | xd (fs : List (Str × V))
  /-- a bound method, f of x -/
  | met (f x : Addr)
  /-- a range object lo, lo + 1, .. below hi -/
  | rng (lo hi : Int)
  /-- a thing that is known to the object (the script; a dict while a loop walks it): read, never written while it is so -/
  | frz (o : Obj) (u : HO)
  /-- a code object's table -/
  | tbl (ps : Array Value)
  /-- any other thing, by what is true of its one object (a def of one's own: SetO a S n := HO.ext fun h => ..) -/
  | ext (φ : Heap → Prop)

abbrev Hp := Addr → Option HO
def upd (H : Hp) (a : Addr) (o : HO) : Hp := fun b => if b = a then some o else H b
theorem upd_same {H : Hp} {a : Addr} {o : HO} : upd H a o a = some o := by unfold upd; rw [if_pos rfl]
theorem upd_ne {H : Hp} {a b : Addr} {o : HO} (h : b ≠ a) : upd H a o b = H b := by unfold upd; rw [if_neg h]
theorem upd_upd {H : Hp} {a : Addr} {o u : HO} : upd (upd H a o) a u = upd H a u := by
  funext b; unfold upd; split <;> rfl
/-- two objects of different content stand apart -/
theorem ne_of {H : Hp} {a b : Addr} {o u : HO} (h : H a = some o) (h' : H b = some u) (d : o ≠ u) : a ≠ b := by
  intro e; subst e; rw [h] at h'; exact d (Option.some.inj h')
theorem ne_of_none {H : Hp} {a b : Addr} {o : HO} (h : H a = some o) (h' : H b = none) : a ≠ b := by
  intro e; subst e; rw [h] at h'; cases h'

section
variable (P : Program) (w : World)
def ObjOk (H : Hp) (h : Heap) (a : Addr) : HO → Prop
  | .lst xs => xs.length ≤ sizeLine ∧ ∃ (its : List Value) (n : Nat), Vals xs its ∧ h.get? a = some { cls := .type "list", data := .seq its.toArray n }
  | .tup xs => xs.length ≤ sizeLine ∧ ∃ its : List Value, Vals xs its ∧ IsTup h a its.toArray
  | .dK kvs => kvs.length ≤ sizeLine ∧ (a == sysModules) = false ∧ ∃ vs, KV kvs vs ∧ h.DictOf (mixKind P w) a vs
  | .dT kvs => kvs.length ≤ sizeLine ∧ (a == sysModules) = false ∧ ∃ xs : List (List Key × Addr × Value),
      Paired (fun (p : List Key × V) (q : List Key × Addr × Value) => p.1 = q.1 ∧ H q.2.1 = some (.tup (p.1.map kV)) ∧ RelV p.2 q.2.2) kvs xs ∧
      ∃ o es ep, h.get? a = some o ∧ o.ExactDict ∧ o.data = .dict es ep ∧ es.toList = xs.map (entryOfKey (tupleKind (mixKind P w))) ∧ (xs.map (·.1)).Nodup
  | .set S n => h.SetOf (intKind P w) a S n
  | .ins C dx fs => H dx = some (.own a) ∧ fs.length ≤ 1000 ∧ dx ≠ a ∧ h.get? a = some (PySem.W.instObj C dx) ∧
      ∃ mA, h.Ns1 dx mA ∧ (∀ f, RelO (fs.lookup f) (mA f)) ∧ PySem.Within mA (fs.map (·.1))
  | .own _ => ∃ o, h.get? a = some o
  | .xd fs => ∃ mA, h.Ns1 a mA ∧ ∀ f, RelO (fs.lookup f) (mA f)
  | .rng lo hi => ∃ t u v, h.get? a = some { cls := .type "range", data := .fields #[.int lo t, .int hi u, .int 1 v] }
  | .frz o u => h.get? a = some o ∧ ObjOk H h a u
  | .tbl ps => h.get? a = some { cls := .none, data := .fields ps }
  | .met f x => h.get? a = some (PySem.W.methodObj (.ref f) (.ref x))
  | .ext φ => φ h ∧ (∃ o, h.get? a = some o) ∧ ∀ h1 h2 : Heap, φ h1 → (∀ o, h1.get? a = some o → h2.get? a = some o) → φ h2
/-- the abstract heap is held -/
def HOk (H : Hp) (h : Heap) : Prop := ∀ a o, H a = some o → ObjOk P w H h a o
end

section
variable {P : Program} {w : World} {H H' : Hp} {h h' : Heap} {a : Addr} {o : HO}
theorem ObjOk.lt (x : ObjOk P w H h a o) : a < h.objs.size := by
  cases o with
  | lst xs => obtain ⟨_, _, _, _, e⟩ := x; exact Heap.lt_size e
  | tup xs => obtain ⟨_, _, _, p⟩ := x; exact p.lt
  | dK kvs => obtain ⟨_, _, _, _, o, _, _, e, _⟩ := x; exact Heap.lt_size e
  | dT kvs => obtain ⟨_, _, _, _, o, _, _, e, _⟩ := x; exact Heap.lt_size e
  | set S n => obtain ⟨o, _, _, _, e, _⟩ := x; exact Heap.lt_size e
  | ins C dx fs => obtain ⟨_, _, _, e, _⟩ := x; exact Heap.lt_size e
  | own y => obtain ⟨_, e⟩ := x; exact Heap.lt_size e
  | xd fs => obtain ⟨_, ⟨_, _, _, e, _⟩, _⟩ := x; exact Heap.lt_size e
  | rng lo hi => obtain ⟨_, _, _, e⟩ := x; exact Heap.lt_size e
  | frz ob u => obtain ⟨e, _⟩ := x; exact Heap.lt_size e
  | tbl ps => exact Heap.lt_size (show h.get? a = some _ from x)
  | met f y => exact Heap.lt_size (show h.get? a = some _ from x)
  | ext φ => obtain ⟨_, ⟨_, e⟩, _⟩ := x; exact Heap.lt_size e
theorem Paired.mapP {α β : Type} {F G : α → β → Prop} : ∀ {l₁ : List α} {l₂ : List β}, Paired F l₁ l₂ → (∀ a b, F a b → G a b) → Paired G l₁ l₂
  | _, _, .nil, _ => .nil
  | _, _, .cons r t, f => .cons (f _ _ r) (Paired.mapP t f)
/-- what an object's description leans on: its own object, its own dict, the tuples -/
theorem ObjOk.stay (x : ObjOk P w H h a o) (k : ∀ b u, (b = a ∨ H b = some (.own a)) → h.get? b = some u → h'.get? b = some u)
    (ho : ∀ b, H b = some (.own a) → H' b = some (.own a)) (ht : ∀ b xs, H b = some (.tup xs) → H' b = some (.tup xs)) : ObjOk P w H' h' a o := by
  induction o with
  | lst xs => obtain ⟨z, its, n, r, e⟩ := x; exact ⟨z, its, n, r, k _ _ (.inl rfl) e⟩
  | tup xs => obtain ⟨z, its, r, ob, e, c⟩ := x; exact ⟨z, its, r, ob, k _ _ (.inl rfl) e, c⟩
  | dK kvs => obtain ⟨z, y, vs, r, ob, es, ep, e, c⟩ := x; exact ⟨z, y, vs, r, ob, es, ep, k _ _ (.inl rfl) e, c⟩
  | dT kvs =>
    obtain ⟨z, y, xs, r, ob, es, ep, e, c⟩ := x
    exact ⟨z, y, xs, Paired.mapP r fun p q z => ⟨z.1, ht _ _ z.2.1, z.2.2⟩, ob, es, ep, k _ _ (.inl rfl) e, c⟩
  | set S n => obtain ⟨ob, es, ep, t, e, c⟩ := x; exact ⟨ob, es, ep, t, k _ _ (.inl rfl) e, c⟩
  | ins C dx fs =>
    obtain ⟨d, z, ne, e, mA, ⟨od, es, ep, e2, c⟩, r⟩ := x
    exact ⟨ho _ d, z, ne, k _ _ (.inl rfl) e, mA, ⟨od, es, ep, k _ _ (.inr d) e2, c⟩, r⟩
  | own y => obtain ⟨ob, e⟩ := x; exact ⟨ob, k _ _ (.inl rfl) e⟩
  | xd fs => obtain ⟨mA, ⟨od, es, ep, e, c⟩, r⟩ := x; exact ⟨mA, ⟨od, es, ep, k _ _ (.inl rfl) e, c⟩, r⟩
  | rng lo hi => obtain ⟨t, u, v, e⟩ := x; exact ⟨t, u, v, k _ _ (.inl rfl) e⟩
  | frz ob u ih => obtain ⟨e, q⟩ := x; exact ⟨k _ _ (.inl rfl) e, ih q⟩
  | tbl ps =>
    have e : h.get? a = some { cls := .none, data := .fields ps } := x
    show h'.get? a = some { cls := .none, data := .fields ps }
    exact k a _ (.inl rfl) e
  | met f y =>
    have e : h.get? a = some (PySem.W.methodObj (.ref f) (.ref y)) := x
    show h'.get? a = some (PySem.W.methodObj (.ref f) (.ref y))
    exact k a _ (.inl rfl) e
  | ext φ => obtain ⟨p, ⟨o, e⟩, st⟩ := x; exact ⟨st _ _ p fun o q => k _ _ (.inl rfl) q, ⟨o, k _ _ (.inl rfl) e⟩, st⟩
theorem HOk.lt (x : HOk P w H h) (e : H a = some o) : a < h.objs.size := (x a o e).lt
theorem HOk.fresh (x : HOk P w H h) (e : h.objs.size ≤ a) : H a = none := by
  cases q : H a with
  | none => rfl
  | some u => exact absurd (Nat.lt_of_lt_of_le (x.lt q) e) (Nat.lt_irrefl _)
/-- every object of the heap is kept -/
theorem HOk.kept (x : HOk P w H h) (k : ∀ b u, h.get? b = some u → h'.get? b = some u) : HOk P w H h' := fun a o e =>
  (x a o e).stay (fun b u _ q => k b u q) (fun _ q => q) fun _ _ q => q
/-- a new object is laid and tracked -/
theorem HOk.laid (x : HOk P w H h) (k : ∀ b u, h.get? b = some u → h'.get? b = some u) (hp : h.objs.size ≤ a) (new : ObjOk P w (upd H a o) h' a o) : HOk P w (upd H a o) h' := fun b u e => by
  have hn := x.fresh hp
  by_cases hb : b = a
  · subst hb; rw [upd_same] at e; cases e; exact new
  · rw [upd_ne hb] at e
    exact (x b u e).stay (fun c v _ q => k c v q) (fun c q => by rw [upd_ne (ne_of_none q hn)]; exact q) fun c xs q => by rw [upd_ne (ne_of_none q hn)]; exact q
end

/-- what may be read as u: it is u, or a known u -/
def Rd (H : Hp) (a : Addr) (u : HO) : Prop := H a = some u ∨ ∃ o, H a = some (.frz o u)
theorem Rd.ok {P : Program} {w : World} {H : Hp} {h : Heap} {a : Addr} {u : HO} (r : Rd H a u) (x : HOk P w H h) : ObjOk P w H h a u := by
  rcases r with r | ⟨o, r⟩
  · exact x a u r
  · obtain ⟨_, q⟩ := x a _ r
    exact q
/-- what may be written -/
def Mut : Option HO → Prop
  | some (.lst _) => True
  | some (.dK _) => True
  | some (.dT _) => True
  | some (.set _ _) => True
  | some (.ins _ _ _) => True
  | some (.ext _) => True
  | _ => False
section
variable {P : Program} {w : World} {H : Hp} {h h' : Heap} {x e : Addr} {o' : HO}
/-- the object at e is changed: x itself, or the dict of the instance x -/
theorem HOk.write (ok : HOk P w H h) (mu : Mut (H x)) (he : e = x ∨ H e = some (.own x)) (k : ∀ b u, b ≠ e → h.get? b = some u → h'.get? b = some u) (heo : ∃ u, h'.get? e = some u)
    (new : ObjOk P w (upd H x o') h' x o') : HOk P w (upd H x o') h' := fun b u q => by
  have nown : ∀ c y, H c = some (.own y) → c ≠ x := fun c y r z => by subst z; rw [r] at mu; exact mu
  have ntup : ∀ c xs, H c = some (.tup xs) → c ≠ x := fun c xs r z => by subst z; rw [r] at mu; exact mu
  by_cases hb : b = x
  · subst hb; rw [upd_same] at q; cases q; exact new
  · rw [upd_ne hb] at q
    by_cases hbe : b = e
    · have q' : H b = some (.own x) := by
        rcases he with z | z
        · exact absurd (hbe.trans z) hb
        · rw [hbe]; exact z
      rw [q] at q'; cases q'
      obtain ⟨v, hv⟩ := heo
      exact ⟨v, by rw [hbe]; exact hv⟩
    · refine (ok b u q).stay (fun c v hc r => k c v ?_ r) (fun c r => by rw [upd_ne (nown c b r)]; exact r) fun c xs r => by rw [upd_ne (ntup c xs r)]; exact r
      rcases hc with rfl | hc
      · exact hbe
      · rintro rfl
        rcases he with z | z
        · exact nown c b hc z
        · rw [hc] at z; cases z; exact hb rfl
end

/-! ### kept unless tracked; of the frames at fs (the callers') the slots may change (an exception that passes writes there); of the records at ex (iterators) nothing is said -/
structure Un (fs ex : List Addr) (H H' : Hp) (h h' : Heap) : Prop where
  keep : ∀ b o, h.get? b = some o → H b = none → b ∉ fs → b ∉ ex → h'.get? b = some o
  slot : ∀ b o, h.get? b = some o → H b = none → b ∈ fs → b ∉ ex → ∃ sl, h'.get? b = some { o with slots := sl }
  free : ∀ b o, h.get? b = some o → H b = none → b ∉ ex → H' b = none
  there : ∀ b o, h.get? b = some o → b ∉ ex → ∃ o', h'.get? b = some o'
  tups : ∀ b xs, H b = some (.tup xs) → H' b = some (.tup xs)
  frzs : ∀ b o u, H b = some (.frz o u) → H' b = some (.frz o u)
  tbls : ∀ b ps, H b = some (.tbl ps) → ∃ more, H' b = some (.tbl (ps ++ more))
section
variable {fs fs' ex ex' : List Addr} {H H1 H2 : Hp} {h h1 h2 h' : Heap} {a x e : Addr} {o : HO}
theorem Un.any (u : Un fs ex H H1 h h1) {b : Addr} {ob : Obj} (q : h.get? b = some ob) (n : H b = none) (hx : b ∉ ex) : ∃ sl, h1.get? b = some { ob with slots := sl } := by
  by_cases hb : b ∈ fs
  · exact u.slot b ob q n hb hx
  · exact ⟨ob.slots, u.keep b ob q n hb hx⟩
theorem Un.kept (k : ∀ b u, h.get? b = some u → h'.get? b = some u) : Un fs ex H H h h' :=
  ⟨fun b ob q _ _ _ => k b ob q, fun b ob q _ _ _ => ⟨ob.slots, k b ob q⟩, fun _ _ _ n _ => n, fun b ob q _ => ⟨ob, k b ob q⟩, fun _ _ q => q, fun _ _ _ q => q, fun _ ps q => ⟨#[], by rw [q]; simp⟩⟩
theorem Un.refl : Un fs ex H H h h := Un.kept fun _ _ q => q
theorem Un.laid (k : ∀ b u, h.get? b = some u → h'.get? b = some u) (hp : h.objs.size ≤ a) (hn : H a = none) : Un fs ex H (upd H a o) h h' where
  keep := fun b u q _ _ _ => k b u q
  slot := fun b u q _ _ _ => ⟨u.slots, k b u q⟩
  free := fun b u q n _ => by rw [upd_ne (Nat.ne_of_lt (Nat.lt_of_lt_of_le (Heap.lt_size q) hp))]; exact n
  there := fun b u q _ => ⟨u, k b u q⟩
  tups := fun b xs q => by rw [upd_ne (ne_of_none q hn)]; exact q
  frzs := fun b u xs q => by rw [upd_ne (ne_of_none q hn)]; exact q
  tbls := fun b ps q => ⟨#[], by rw [upd_ne (ne_of_none q hn), q]; simp⟩
theorem Un.write (mu : Mut (H x)) (he : e = x ∨ H e = some (.own x)) (k : ∀ b u, b ≠ e → h.get? b = some u → h'.get? b = some u) (heo : ∃ u, h'.get? e = some u) : Un fs ex H (upd H x o) h h' := by
  have hx : ∀ b, H b = none → b ≠ x := fun b n z => by subst z; rw [n] at mu; exact mu
  have hb : ∀ b, H b = none → b ≠ e := fun b n z => by
    subst z
    rcases he with r | r
    · exact hx b n r
    · rw [n] at r; cases r
  have hm : ∀ b u, H b = some u → ¬ Mut (some u) → b ≠ x := fun b u q nm z => by subst z; rw [q] at mu; exact nm mu
  refine ⟨fun b u q n _ _ => k b u (hb b n) q, fun b u q n _ _ => ⟨u.slots, k b u (hb b n) q⟩, fun b u q n _ => by rw [upd_ne (hx b n)]; exact n, fun b u q _ => ?_,
    fun b xs q => by rw [upd_ne (hm b _ q fun z => z)]; exact q, fun b u xs q => by rw [upd_ne (hm b _ q fun z => z)]; exact q, fun b ps q => ⟨#[], by rw [upd_ne (hm b _ q fun z => z), q]; simp⟩⟩
  by_cases hbe : b = e
  · subst hbe; exact heo
  · exact ⟨u, k b u hbe q⟩
end

/-! ### the heap without what is tracked -/
def trk (h : Heap) (H : Hp) : List Addr := (List.range h.objs.size).filter fun a => (H a).isSome
def hidT (h : Heap) (H : Hp) : Heap := PySem.W.hideAll h (trk h H)
theorem hidT_size (h : Heap) (H : Hp) : (hidT h H).objs.size = h.objs.size := PySem.W.hideAll_size _ _
theorem hidT_get {h : Heap} {H : Hp} {b : Addr} {o : Obj} (e : h.get? b = some o) (n : H b = none) : (hidT h H).get? b = some o :=
  PySem.W.hideAll_get _ e fun hm => by
    have q : (H b).isSome = true := (List.mem_filter.mp hm).2
    rw [n] at q; simp at q
theorem of_hidT {h : Heap} {H : Hp} {b : Addr} {o : Obj} (e : (hidT h H).get? b = some o) : h.get? b = some o ∧ H b = none := by
  have e' : h.get? b = some o := PySem.W.of_hideAll (trk h H) e
  refine ⟨e', ?_⟩
  cases q : H b with
  | none => rfl
  | some x =>
    have hm : b ∈ trk h H := List.mem_filter.mpr ⟨List.mem_range.mpr (Heap.lt_size e'), by simp [q]⟩
    have z : (hidT h H).get? b = none := PySem.W.hideAll_none (trk h H) hm
    rw [z] at e; cases e

/-! ### OpenK's ledger, filled with every new object but one -/
end L2

namespace L2
open PySem PySem.Spec PyProof.Rows

/-- the module's facts, over the base: the heap at the law's entry without what is tracked there -/
structure Mod (K : PySem.W.Frag) (mg : Str → Option Value) (base : Heap) : Prop where
  kin : K.In base
  glob : base.Ns mainGlobals mg
  blt : ∃ mb, base.Ns builtinsNs mb ∧ ∀ x : Str, x ≠ "__name__" → mb x = bootBuiltins x
  nolimit : base.NoLimit

/-- the context: a def's body (or a comprehension's block) running. base: fixed through the whole law; s₀, H₀: the entry; outer: the frames whose slots others may change (a def's callers); stack: all frames that run;
   ex: iterators that were made ahead of the entry and are walked here (a comprehension's); fn: the names whose cells were made at the entry (a def: all; a comprehension's block: its own); calm: not within an except suite; pn: pins that every state bears; xe: what is wanted of an exception that leaves the code -/
structure Cx where
  prog : Program
  w : World
  K : PySem.W.Frag
  mg : Str → Option Value
  base : Heap
  A : Around
  N : List Str
  s₀ : Shared
  H₀ : Hp
  env : Env
  outer : List Env
  stack : List Env
  ex : List Addr
  fn : Str → Bool
  calm : Bool
  pn : List (Addr × Obj)
  xe : Value → Shared → Prop
/-- the callers' frames -/
def frs (l : List Env) : List Addr := l.filterMap (·.frame)
abbrev Cx.fs (X : Cx) : List Addr := frs X.outer

def Vis (sc : Scope) (x : Str) : Prop := sc.names.lookup x = some .local ∨ sc.names.lookup x = some .cell ∨ sc.names.lookup x = some .free
def Loc (sc : Scope) (x : Str) : Prop := sc.names.lookup x = some .local ∨ sc.names.lookup x = some .cell
def Look (env : Env) (h : Heap) (m : Str → Option Value) (x : Str) (u : Value) : Prop :=
  (env.kindOf x = some .local ∧ m x = some u) ∨ ((env.kindOf x = some .cell ∨ env.kindOf x = some .free) ∧ ∃ c, env.cells.lookup x = some c ∧ h.IsCell c (some u))

structure Cx.Ok (X : Cx) : Prop where
  mod : Mod X.K X.mg X.base
  kind : X.env.scope.kind = .function
  glob : X.env.globals = mainGlobals
  blt : X.env.builtins = builtinsNs
  above : X.s₀.heap.objs.size ≤ X.env.locals
  inj : ∀ x y c, X.env.cells.lookup x = some c → X.env.cells.lookup y = some c → x = y
  has : ∀ x, (X.env.kindOf x = some .cell ∨ X.env.kindOf x = some .free) → ∃ c, X.env.cells.lookup x = some c
  cab : ∀ x c, X.fn x = true → X.env.cells.lookup x = some c → X.s₀.heap.objs.size ≤ c
  hd : X.calm = true → X.A.handled = none
  frames : X.A.frames = some X.stack
  stk : X.stack = X.outer ∨ (X.stack = X.env :: X.outer ∧ X.env.frame = some X.env.locals)
  exf : ∀ b ∈ X.ex, b ≠ X.env.locals ∧ ∀ x c, X.env.cells.lookup x = some c → c ≠ b
  bs : ∀ b o, X.base.get? b = some o → X.s₀.heap.get? b = some o ∧ X.H₀ b = none
  bsz : X.base.objs.size ≤ X.s₀.heap.objs.size
  noex : ∀ b o, X.base.get? b = some o → b ∉ X.ex
  exfs : ∀ b ∈ X.ex, b ∉ X.fs
  funs : X.s₀.heap.FunFrames X.base X.outer
  frf : ∀ b ∈ X.fs, X.H₀ b = none

structure Inv (X : Cx) (pins : List (Addr × Obj)) (σ : List (Option V)) (H : Hp) (s : Shared) : Prop where
  ok : X.Ok
  os : s.os = X.s₀.os
  bare : AllBare s.gens
  base : Un X.fs X.ex X.H₀ H X.s₀.heap s.heap
  loc : ∃ m, s.heap.Ns X.env.locals m ∧ ∀ (i : Nat) (x : Str) (v : V), X.N[i]? = some x → σ[i]? = some (some v) → Vis X.env.scope x → ∃ u, RelV v u ∧ Look X.env s.heap m x u
  cell : ∀ x c, X.env.cells.lookup x = some c → ∃ v, s.heap.IsCell c v
  free : H X.env.locals = none
  freeC : ∀ x c, X.env.cells.lookup x = some c → H c = none
  pin : ∀ p ∈ X.pn ++ pins, s.heap.get? p.1 = some p.2 ∧ H p.1 = none ∧ p.1 ≠ X.env.locals ∧ p.1 ∉ X.fs ∧ ∀ v, p.2.data ≠ .cell v
  hok : HOk X.prog X.w H s.heap
  len : σ.length = X.N.length

section
variable {X : Cx} {pins : List (Addr × Obj)} {σ : List (Option V)} {H H' : Hp} {s : Shared} {h' : Heap}

theorem Cx.Ok.nofr (ok : X.Ok) {b : Addr} {o : Obj} (e : X.base.get? b = some o) : b ∉ X.fs := fun hb => by
  have := (ok.funs.mem hb).1
  rw [e] at this; cases this
theorem Inv.bs (I : Inv X pins σ H s) : ∀ b o, X.base.get? b = some o → s.heap.get? b = some o ∧ H b = none := fun b o e =>
  ⟨I.base.keep b o (I.ok.bs b o e).1 (I.ok.bs b o e).2 (I.ok.nofr e) (I.ok.noex b o e), I.base.free b o (I.ok.bs b o e).1 (I.ok.bs b o e).2 (I.ok.noex b o e)⟩
theorem Inv.bk (I : Inv X pins σ H s) : ∀ b o, X.base.get? b = some o → s.heap.get? b = some o := fun b o e => (I.bs b o e).1
theorem Inv.mod (I : Inv X pins σ H s) : Mod X.K X.mg X.base := I.ok.mod
theorem Inv.kIn (I : Inv X pins σ H s) : X.K.In s.heap := I.ok.mod.kin.keeps I.bk
theorem Inv.lt (I : Inv X pins σ H s) : X.env.locals < s.heap.objs.size := let ⟨_, hn, _⟩ := I.loc; hn.lt
theorem Inv.sz (I : Inv X pins σ H s) : X.s₀.heap.objs.size ≤ s.heap.objs.size := Nat.le_trans I.ok.above (Nat.le_of_lt I.lt)
theorem Inv.nofs (I : Inv X pins σ H s) {a : Addr} (h : s.heap.objs.size ≤ a) : a ∉ X.fs := fun hb => by
  obtain ⟨_, o, ho, _⟩ := I.ok.funs.mem hb
  exact absurd (Nat.lt_of_lt_of_le (Heap.lt_size ho) (Nat.le_trans I.sz h)) (Nat.lt_irrefl _)
theorem Inv.cne (I : Inv X pins σ H s) : ∀ x c, X.env.cells.lookup x = some c → c ≠ X.env.locals := fun x c e z => by
  obtain ⟨v, o, ho, hd⟩ := I.cell x c e
  obtain ⟨m, ⟨o', es, ep, ho', hd', _⟩, _⟩ := I.loc
  rw [z, ho'] at ho; cases ho; rw [hd'] at hd; cases hd
theorem Inv.funs (I : Inv X pins σ H s) : s.heap.FunFrames X.base X.outer := by
  have all : ∀ (l : List Env), (∀ b ∈ frs l, b ∈ X.fs) → X.s₀.heap.FunFrames X.base l → s.heap.FunFrames X.base l := by
    intro l
    induction l with
    | nil => intro _ _; trivial
    | cons env r ih =>
      intro hs hl
      obtain ⟨hk, ⟨L, o, hf, hn, ho, hd⟩, hr⟩ := hl
      have hL : L ∈ X.fs := hs L (by unfold frs; rw [List.filterMap_cons, hf]; exact List.mem_cons_self)
      obtain ⟨sl, e⟩ := I.base.slot L o ho (I.ok.frf L hL) hL fun z => I.ok.exfs L z hL
      exact ⟨hk, ⟨L, _, hf, hn, e, hd⟩, ih (fun b hb => hs b (by unfold frs; rw [List.filterMap_cons, hf]; exact List.mem_cons_of_mem _ hb)) hr⟩
  exact all X.outer (fun _ hb => hb) I.ok.funs

/-- the frames that run, for a call -/
theorem Inv.stack (I : Inv X pins σ H s) : s.heap.FunFrames X.base X.stack := by
  rcases I.ok.stk with e | ⟨e, hf⟩
  · rw [e]; exact I.funs
  · rw [e]
    obtain ⟨m, hn, _⟩ := I.loc
    refine .cons (by rw [I.ok.kind]; decide) hf hn ?_ I.funs
    exact Heap.get?_none_of_le (Nat.le_trans I.ok.bsz I.ok.above)
theorem Inv.stkSub (I : Inv X pins σ H s) : ∀ b ∈ frs X.stack, b ∈ X.env.locals :: X.fs := fun b hb => by
  rcases I.ok.stk with e | ⟨e, hf⟩
  · rw [e] at hb; exact List.mem_cons_of_mem _ hb
  · rw [e] at hb
    unfold frs at hb
    rw [List.filterMap_cons, hf] at hb
    exact hb
theorem Inv.stkFree (I : Inv X pins σ H s) : ∀ b ∈ frs X.stack, H b = none := fun b hb => by
  rcases List.mem_cons.mp (I.stkSub b hb) with e | hb
  · rw [e]; exact I.free
  · obtain ⟨_, o, ho, _⟩ := I.ok.funs.mem hb
    exact I.base.free b o ho (I.ok.frf b hb) fun z => I.ok.exfs b z hb

/-- THE STEP: the untracked objects but the frame and the records at ch are kept (the callers' frames up to slots), the frame's map is kept, the new abstract heap is held -/
theorem Inv.step {g' : Array GenState} {t' : Nat} {d' : Drawn} {ch : List Addr} (I : Inv X pins σ H s)
    (hch : ∀ b ∈ ch, (b ∈ X.ex ∨ X.s₀.heap.objs.size ≤ b) ∧ b ≠ X.env.locals ∧ (∀ x c, X.env.cells.lookup x = some c → c ≠ b) ∧ ∀ p ∈ X.pn ++ pins, p.1 ≠ b)
    (keep : ∀ b o, b ≠ X.env.locals → b ∉ X.fs → b ∉ ch → s.heap.get? b = some o → H b = none → h'.get? b = some o)
    (slot : ∀ b o, b ≠ X.env.locals → b ∈ X.fs → b ∉ ch → s.heap.get? b = some o → H b = none → ∃ sl, h'.get? b = some { o with slots := sl }) (free : ∀ b o, b ∉ ch → s.heap.get? b = some o → H b = none → H' b = none)
    (there : ∀ b o, b ∉ ch → s.heap.get? b = some o → ∃ o', h'.get? b = some o')
    (tups : ∀ b xs, H b = some (.tup xs) → H' b = some (.tup xs)) (frzs : ∀ b o u, H b = some (.frz o u) → H' b = some (.frz o u)) (tbls : ∀ b ps, H b = some (.tbl ps) → ∃ more, H' b = some (.tbl (ps ++ more)))
    (ns : ∀ m, s.heap.Ns X.env.locals m → h'.Ns X.env.locals m) (hok : HOk X.prog X.w H' h') (hg : AllBare g') :
    Inv X pins σ H' { s with heap := h', gens := g', drawn := d', toks := t' } := by
  have neL : ∀ b o, X.s₀.heap.get? b = some o → b ≠ X.env.locals := fun b o e => Nat.ne_of_lt (Nat.lt_of_lt_of_le (Heap.lt_size e) I.ok.above)
  have neC : ∀ b o, X.s₀.heap.get? b = some o → b ∉ X.ex → b ∉ ch := fun b o e hx hb => by
    rcases (hch b hb).1 with z | z
    · exact hx z
    · exact absurd (Nat.lt_of_lt_of_le (Heap.lt_size e) z) (Nat.lt_irrefl _)
  have cellK : ∀ x c, X.env.cells.lookup x = some c → ∀ v, s.heap.IsCell c v → h'.IsCell c v := fun x c e v ⟨o, ho, hd⟩ => by
    have nch : c ∉ ch := fun z => (hch c z).2.2.1 x c e rfl
    by_cases hc : c ∈ X.fs
    · obtain ⟨sl, q⟩ := slot c o (I.cne x c e) hc nch ho (I.freeC x c e)
      exact ⟨_, q, hd⟩
    · exact ⟨o, keep c o (I.cne x c e) hc nch ho (I.freeC x c e), hd⟩
  refine ⟨I.ok, I.os, hg, ⟨fun b o e n hb hx => ?_, fun b o e n hb hx => ?_, fun b o e n hx => ?_, fun b o e hx => ?_, fun b xs e => tups b xs (I.base.tups b xs e), fun b o xs e => frzs b o xs (I.base.frzs b o xs e), fun b ps e => ?_⟩, ?_, fun x c e => ?_, ?_, fun x c e => ?_, fun p hp => ?_, hok, I.len⟩
  · exact keep b o (neL b o e) hb (neC b o e hx) (I.base.keep b o e n hb hx) (I.base.free b o e n hx)
  · obtain ⟨sl, e1⟩ := I.base.slot b o e n hb hx
    obtain ⟨sl', e2⟩ := slot b _ (neL b o e) hb (neC b o e hx) e1 (I.base.free b o e n hx)
    exact ⟨sl', e2⟩
  · obtain ⟨o', e1⟩ := I.base.there b o e hx
    exact free b o' (neC b o e hx) e1 (I.base.free b o e n hx)
  · obtain ⟨o', e1⟩ := I.base.there b o e hx
    exact there b o' (neC b o e hx) e1
  · obtain ⟨m1, e1⟩ := I.base.tbls b ps e
    obtain ⟨m2, e2⟩ := tbls b _ e1
    exact ⟨m1 ++ m2, by rw [e2, Array.append_assoc]⟩
  · obtain ⟨m, hn, hl⟩ := I.loc
    refine ⟨m, ns m hn, fun i x v e1 e2 e3 => ?_⟩
    obtain ⟨u, r, l⟩ := hl i x v e1 e2 e3
    refine ⟨u, r, ?_⟩
    rcases l with l | ⟨k, c, e, z⟩
    · exact .inl l
    · exact .inr ⟨k, c, e, cellK x c e _ z⟩
  · obtain ⟨v, z⟩ := I.cell x c e
    exact ⟨v, cellK x c e v z⟩
  · obtain ⟨m, ⟨o, _, _, ho, _⟩, _⟩ := I.loc
    exact free _ o (fun z => (hch _ z).2.1 rfl) ho I.free
  · obtain ⟨v, o, ho, hd⟩ := I.cell x c e
    exact free c o (fun z => (hch c z).2.2.1 x c e rfl) ho (I.freeC x c e)
  · obtain ⟨e, n, ne, nf, d⟩ := I.pin p hp
    have nch : p.1 ∉ ch := fun z => (hch p.1 z).2.2.2 p hp rfl
    exact ⟨keep p.1 p.2 ne nf nch e n, free p.1 p.2 nch e n, ne, nf, d⟩
/-- .. where the frame's own object is kept too -/
theorem Inv.un {t' : Nat} (I : Inv X pins σ H s) (u : Un X.fs [] H H' s.heap h') (hok : HOk X.prog X.w H' h') : Inv X pins σ H' { s with heap := h', toks := t' } := by
  obtain ⟨m, ⟨o, es, ep, ho, r⟩, _⟩ := id I.loc
  obtain ⟨sl, hL⟩ := u.any ho I.free (by simp)
  exact I.step (g' := s.gens) (d' := s.drawn) (ch := []) (fun _ z => nomatch z) (fun b o _ hb _ e n => u.keep b o e n hb (by simp)) (fun b o _ hb _ e n => u.slot b o e n hb (by simp)) (fun b o _ e n => u.free b o e n (by simp)) (fun b o _ e => u.there b o e (by simp)) u.tups u.frzs u.tbls (fun m' hm => by
    obtain ⟨o', es', ep', ho', r'⟩ := hm
    rw [ho] at ho'; cases ho'
    exact ⟨_, es', ep', hL, r'⟩) hok I.bare
/-- behind a call (or a comprehension's block): the slots of this frame may have changed too, the records at ch may have turned -/
theorem Inv.call {g' : Array GenState} {t' : Nat} {d' : Drawn} {ch : List Addr} (I : Inv X pins σ H s) (u : Un (frs X.stack) ch H H' s.heap h') (hok : HOk X.prog X.w H' h') (hg : AllBare g')
    (hch : ∀ b ∈ ch, (b ∈ X.ex ∨ X.s₀.heap.objs.size ≤ b) ∧ b ≠ X.env.locals ∧ (∀ x c, X.env.cells.lookup x = some c → c ≠ b) ∧ ∀ p ∈ X.pn ++ pins, p.1 ≠ b) :
    Inv X pins σ H' { s with heap := h', gens := g', drawn := d', toks := t' } := by
  obtain ⟨m, ⟨o, es, ep, ho, r⟩, _⟩ := id I.loc
  obtain ⟨sl, hL⟩ := u.any ho I.free fun z => (hch _ z).2.1 rfl
  exact I.step (ch := ch) hch (fun b o hL hb hc e n => u.keep b o e n (fun z => (List.mem_cons.mp (I.stkSub b z)).elim hL hb) hc) (fun b o _ _ hc e n => u.any e n hc) (fun b o hc e n => u.free b o e n hc) (fun b o hc e => u.there b o e hc) u.tups u.frzs u.tbls (fun m' hm => by
    obtain ⟨o', es', ep', ho', r'⟩ := hm
    rw [ho] at ho'; cases ho'
    exact ⟨_, es', ep', hL, r'⟩) hok hg
/-- an untracked record of ours (an iterator) has turned -/
theorem Inv.turned {t' : Nat} {it : Addr} (I : Inv X pins σ H s) (k : ∀ b o, b ≠ it → s.heap.get? b = some o → h'.get? b = some o) (hn : H it = none) (hL : it ≠ X.env.locals)
    (h1 : it ∈ X.ex ∨ X.s₀.heap.objs.size ≤ it) (h2 : ∀ x c, X.env.cells.lookup x = some c → c ≠ it) (h3 : ∀ p ∈ X.pn ++ pins, p.1 ≠ it) : Inv X pins σ H { s with heap := h', toks := t' } := by
  have nit : ∀ b u, H b = some u → b ≠ it := fun b u e z => by rw [z, hn] at e; cases e
  refine I.step (g' := s.gens) (d' := s.drawn) (ch := [it]) (fun b hb => ?_) (fun b o _ _ hc e _ => k b o (fun z => hc (by simp [z])) e) (fun b o _ _ hc e _ => ⟨o.slots, k b o (fun z => hc (by simp [z])) e⟩) (fun _ _ _ _ n => n)
    (fun b o hc e => ⟨o, k b o (fun z => hc (by simp [z])) e⟩) (fun _ _ e => e) (fun _ _ _ e => e) (fun b ps e => ⟨#[], by rw [e]; simp⟩) (fun m hm => ?_) (fun b u e => ?_) I.bare
  · have e : b = it := by simpa using hb
    subst e
    exact ⟨h1, hL, h2, h3⟩
  · obtain ⟨o, es, ep, ho, r⟩ := hm
    exact ⟨o, es, ep, k _ o (Ne.symm hL) ho, r⟩
  · refine (I.hok b u e).stay (fun c v hc q => k c v ?_ q) (fun _ q => q) fun _ _ q => q
    rcases hc with z | z
    · rw [z]; exact nit b u e
    · exact nit c _ z
theorem Inv.tok (I : Inv X pins σ H s) (t : Nat) : Inv X pins σ H { s with toks := t } := I.un (h' := s.heap) (t' := t) Un.refl I.hok
/-- all objects kept -/
theorem Inv.kept {t' : Nat} (I : Inv X pins σ H s) (k : ∀ b u, s.heap.get? b = some u → h'.get? b = some u) : Inv X pins σ H { s with heap := h', toks := t' } := I.un (Un.kept k) (I.hok.kept k)
/-- a new object laid and tracked -/
theorem Inv.laid {a : Addr} {o : HO} {t' : Nat} (I : Inv X pins σ H s) (k : ∀ b u, s.heap.get? b = some u → h'.get? b = some u) (hp : s.heap.objs.size ≤ a) (new : ObjOk X.prog X.w (upd H a o) h' a o) :
    Inv X pins σ (upd H a o) { s with heap := h', toks := t' } := I.un (Un.laid k hp (I.hok.fresh hp)) (I.hok.laid k hp new)
/-- an object written -/
theorem Inv.write {x e : Addr} {o : HO} {t' : Nat} (I : Inv X pins σ H s) (mu : Mut (H x)) (he : e = x ∨ H e = some (.own x)) (k : ∀ b u, b ≠ e → s.heap.get? b = some u → h'.get? b = some u) (heo : ∃ u, h'.get? e = some u)
    (new : ObjOk X.prog X.w (upd H x o) h' x o) : Inv X pins σ (upd H x o) { s with heap := h', toks := t' } := I.un (Un.write mu he k heo) (I.hok.write mu he k heo new)
theorem Inv.pins_of {pins' : List (Addr × Obj)} (I : Inv X pins σ H s) (h : ∀ p ∈ pins', s.heap.get? p.1 = some p.2 ∧ H p.1 = none ∧ p.1 ≠ X.env.locals ∧ p.1 ∉ X.fs ∧ ∀ v, p.2.data ≠ .cell v) : Inv X pins' σ H s :=
  ⟨I.ok, I.os, I.bare, I.base, I.loc, I.cell, I.free, I.freeC, fun p hp => (List.mem_append.mp hp).elim (fun z => I.pin p (List.mem_append_left _ z)) (h p), I.hok, I.len⟩

theorem nodup_ix {N : List Str} (hN : N.Nodup) {i j : Nat} {x : Str} (a : N[i]? = some x) (b : N[j]? = some x) : i = j := by
  obtain ⟨h1, e1⟩ := List.getElem?_eq_some_iff.mp a
  obtain ⟨h2, e2⟩ := List.getElem?_eq_some_iff.mp b
  exact (List.getElem_inj hN).mp (e1.trans e2.symm)

/-- a name is stored; what changed -/
theorem store_ok2 {M : Model} {A : Around} {E : Value → Shared → Prop} {i : Nat} {x : Str} {v : V} {u : Value} {Q : Unit → Shared → Prop} (I : Inv X pins σ H s) (hN : X.N.Nodup) (hi : X.N[i]? = some x) (hx : Loc X.env.scope x) (r : RelV v u)
    (h : ∀ s', Inv X pins (σ.set i (some v)) H s' → (∃ a, Heap.SameBut a s.heap s'.heap ∧ (a = X.env.locals ∨ X.env.cells.lookup x = some a)) → Q () s') (hf : X.fn x = true ∨ X.env.scope.names.lookup x = some .local := by first | exact .inl rfl | exact .inr rfl | assumption) : wpAny M A (storeName X.env x u) Q E s := by
  obtain ⟨m, hn, hl⟩ := id I.loc
  have hcls : (X.env.scope.kind == .class || (X.env.scope.kind == .module && X.env.locals != X.env.globals)) = false := by rw [I.ok.kind]; rfl
  have hiσ : i < σ.length := by rw [I.len]; exact (List.getElem?_eq_some_iff.mp hi).1
  have cne := I.cne
  have tracked : ∀ {a : Addr} {h' : Heap}, (∃ o, s.heap.get? a = some o ∧ H a = none) → Heap.SameBut a s.heap h' → HOk X.prog X.w H h' := fun {a h'} ha hs b ob e => by
    obtain ⟨_, _, hfree⟩ := ha
    refine (I.hok b ob e).stay (fun c w' hc q => (hs.2 c ?_).trans q) (fun _ q => q) fun _ _ q => q
    rintro rfl
    rcases hc with rfl | hc
    · rw [hfree] at e; cases e
    · rw [hfree] at hc; cases hc
  rcases hx with hk | hk
  · refine wpAny_storeName_local hk hn (fun h' hn' hs => ?_) hcls
    obtain ⟨oL, _, _, hoL, _⟩ := id hn
    refine h _ ⟨I.ok, I.os, I.bare, ⟨fun b o e n hb hx => ?_, fun b o e n hb hx => ?_, I.base.free, fun b o e hx => ?_, I.base.tups, I.base.frzs, I.base.tbls⟩, ⟨_, hn', fun j y v' e1 e2 e3 => ?_⟩, fun y c e => ?_, I.free, I.freeC, fun p hp => ?_, tracked ⟨oL, hoL, I.free⟩ hs, by simpa using I.len⟩ ⟨_, hs, .inl rfl⟩
    · exact (hs.2 b (Nat.ne_of_lt (Nat.lt_of_lt_of_le (Heap.lt_size e) I.ok.above))).trans (I.base.keep b o e n hb hx)
    · obtain ⟨sl, e1⟩ := I.base.slot b o e n hb hx
      exact ⟨sl, (hs.2 b (Nat.ne_of_lt (Nat.lt_of_lt_of_le (Heap.lt_size e) I.ok.above))).trans e1⟩
    · obtain ⟨o', e1⟩ := I.base.there b o e hx
      exact ⟨o', (hs.2 b (Nat.ne_of_lt (Nat.lt_of_lt_of_le (Heap.lt_size e) I.ok.above))).trans e1⟩
    · by_cases hj : j = i
      · subst hj
        rw [hi] at e1; cases e1
        rw [List.getElem?_set_self hiσ] at e2
        cases e2
        exact ⟨u, r, .inl ⟨hk, by simp⟩⟩
      · rw [List.getElem?_set_ne (Ne.symm hj)] at e2
        obtain ⟨u', r', q⟩ := hl j y v' e1 e2 e3
        refine ⟨u', r', ?_⟩
        rcases q with ⟨k, e⟩ | ⟨k, c, e, z⟩
        · refine .inl ⟨k, ?_⟩
          have : y ≠ x := fun e => hj (nodup_ix hN e1 (e ▸ hi))
          simp [this, e]
        · exact .inr ⟨k, c, e, z.sameBut hs (cne y c e)⟩
    · obtain ⟨w', z⟩ := I.cell y c e
      exact ⟨w', z.sameBut hs (cne y c e)⟩
    · obtain ⟨e, n, ne, nf, d⟩ := I.pin p hp
      exact ⟨(hs.2 p.1 ne).trans e, n, ne, nf, d⟩
  · have hfn : X.fn x = true := by
      rcases hf with z | z
      · exact z
      · rw [z] at hk; cases hk
    obtain ⟨c, hc⟩ := I.ok.has x (.inl hk)
    obtain ⟨w', z⟩ := I.cell x c hc
    refine wpAny_storeName_cell I.ok.kind hk hc z (fun h' hc' hs => ?_)
    obtain ⟨oc, hoc, hocd⟩ := id z
    refine h { s with heap := h' } ⟨I.ok, I.os, I.bare, ⟨fun b o e n hb hx => ?_, fun b o e n hb hx => ?_, I.base.free, fun b o e hx => ?_, I.base.tups, I.base.frzs, I.base.tbls⟩, ⟨m, hn.sameBut hs (Ne.symm (cne x c hc)), fun j y v' e1 e2 e3 => ?_⟩, fun y c' e => ?_, I.free, I.freeC, fun p hp => ?_, tracked ⟨oc, hoc, I.freeC x c hc⟩ hs, by simpa using I.len⟩ ⟨c, hs, .inr hc⟩
    · exact (hs.2 b (Nat.ne_of_lt (Nat.lt_of_lt_of_le (Heap.lt_size e) (I.ok.cab x c hfn hc)))).trans (I.base.keep b o e n hb hx)
    · obtain ⟨sl, e1⟩ := I.base.slot b o e n hb hx
      exact ⟨sl, (hs.2 b (Nat.ne_of_lt (Nat.lt_of_lt_of_le (Heap.lt_size e) (I.ok.cab x c hfn hc)))).trans e1⟩
    · obtain ⟨o', e1⟩ := I.base.there b o e hx
      exact ⟨o', (hs.2 b (Nat.ne_of_lt (Nat.lt_of_lt_of_le (Heap.lt_size e) (I.ok.cab x c hfn hc)))).trans e1⟩
    · by_cases hj : j = i
      · subst hj
        rw [hi] at e1; cases e1
        rw [List.getElem?_set_self hiσ] at e2
        cases e2
        exact ⟨u, r, .inr ⟨.inl hk, c, hc, hc'⟩⟩
      · rw [List.getElem?_set_ne (Ne.symm hj)] at e2
        obtain ⟨u', r', q⟩ := hl j y v' e1 e2 e3
        refine ⟨u', r', ?_⟩
        rcases q with q | ⟨k, c', e, z'⟩
        · exact .inl q
        · refine .inr ⟨k, c', e, z'.sameBut hs ?_⟩
          rintro rfl
          exact hj (nodup_ix hN e1 (I.ok.inj _ _ _ e hc ▸ hi))
    · by_cases hcc : c' = c
      · subst hcc; exact ⟨_, hc'⟩
      · obtain ⟨w2, z2⟩ := I.cell y c' e
        exact ⟨w2, z2.sameBut hs hcc⟩
    · obtain ⟨e, n, ne, nf, d⟩ := I.pin p hp
      refine ⟨(hs.2 p.1 ?_).trans e, n, ne, nf, d⟩
      intro q
      rw [q, hoc] at e
      have q' : oc = p.2 := Option.some.inj e
      exact d w' (by rw [← q']; exact hocd)
theorem store_ok {M : Model} {A : Around} {E : Value → Shared → Prop} {i : Nat} {x : Str} {v : V} {u : Value} {Q : Unit → Shared → Prop} (I : Inv X pins σ H s) (hN : X.N.Nodup) (hi : X.N[i]? = some x) (hx : Loc X.env.scope x) (r : RelV v u)
    (h : ∀ s', Inv X pins (σ.set i (some v)) H s' → Q () s') (hf : X.fn x = true ∨ X.env.scope.names.lookup x = some .local := by first | exact .inl rfl | exact .inr rfl | assumption) : wpAny M A (storeName X.env x u) Q E s :=
  store_ok2 I hN hi hx r (fun s' I' _ => h s' I') hf
/-- behind a call or a block, the state as it is -/
theorem Inv.call' {s' : Shared} {ch : List Addr} (I : Inv X pins σ H s) (ho : s'.os = s.os) (u : Un (frs X.stack) ch H H' s.heap s'.heap) (hok : HOk X.prog X.w H' s'.heap) (hg : AllBare s'.gens)
    (hch : ∀ b ∈ ch, (b ∈ X.ex ∨ X.s₀.heap.objs.size ≤ b) ∧ b ≠ X.env.locals ∧ (∀ x c, X.env.cells.lookup x = some c → c ≠ b) ∧ ∀ p ∈ X.pn ++ pins, p.1 ≠ b) : Inv X pins σ H' s' := by
  obtain ⟨h', g', d', t', o'⟩ := s'
  have e : o' = s.os := ho
  subst e
  exact I.call (g' := g') (t' := t') (d' := d') u hok hg hch
end

/-! ### the judgements -/
/-- an exception: its class, its own dict's address (where it has one), the abstract heap behind it -/
abbrev XK := Value → Option Addr → Hp → Prop
abbrev St := List (Option V)
abbrev VK := V → Hp → Prop
/-- an expression's reading; a test's; an argument list's -/
abbrev TE := St → Hp → VK → Prop
abbrev TT := St → Hp → (Bool → Hp → Prop) → Prop
abbrev TA := St → Hp → (List V → Hp → Prop) → Prop
/-- what is wanted behind a statement -/
structure Ends where
  nx : St → Hp → Prop
  rt : VK
  bk : St → Hp → Prop := fun _ _ => False
  ct : St → Hp → Prop := fun _ _ => False
abbrev TS := Ends → St → Hp → Prop

def EP (X : Cx) (pins : List (Addr × Obj)) (σ : St) (Q : VK) (u : Value) (s' : Shared) : Prop := ∃ v H', Inv X pins σ H' s' ∧ RelV v u ∧ Q v H'
def TP (X : Cx) (pins : List (Addr × Obj)) (σ : St) (Q : Bool → Hp → Prop) (b : Bool) (s' : Shared) : Prop := ∃ H', Inv X pins σ H' s' ∧ Q b H'
def AP (X : Cx) (pins : List (Addr × Obj)) (σ : St) (Q : List V → Hp → Prop) (us : List Value) (s' : Shared) : Prop := ∃ vs H', Inv X pins σ H' s' ∧ Vals vs us ∧ Q vs H'
def SP (X : Cx) (pins : List (Addr × Obj)) (D : Ends) (f : Flow) (s' : Shared) : Prop :=
  match f with
  | .next => ∃ σ' H', Inv X pins σ' H' s' ∧ D.nx σ' H'
  | .brk => ∃ σ' H', Inv X pins σ' H' s' ∧ D.bk σ' H'
  | .cont => ∃ σ' H', Inv X pins σ' H' s' ∧ D.ct σ' H'
  | .ret u => ∃ v σ' H', Inv X pins σ' H' s' ∧ RelV v u ∧ D.rt v H'

def PE (X : Cx) (e : Expr) (t : TE) : Prop :=
  ∀ (pins : List (Addr × Obj)) (s : Shared) (σ : St) (H : Hp) (Q : VK), Inv X pins σ H s → t σ H Q → wpAny (model X.prog X.w) X.A (eval e X.env) (EP X pins σ Q) X.xe s
def PT (X : Cx) (e : Expr) (t : TT) : Prop :=
  ∀ (pins : List (Addr × Obj)) (s : Shared) (σ : St) (H : Hp) (Q : Bool → Hp → Prop), Inv X pins σ H s → t σ H Q → wpAny (model X.prog X.w) X.A (isTrue e X.env (eval e X.env)) (TP X pins σ Q) X.xe s
/-- a test whatever its 'whole' is (and, or) -/
def PW (X : Cx) (e : Expr) (t : TT) : Prop :=
  ∀ (whole : Sem Value) (pins : List (Addr × Obj)) (s : Shared) (σ : St) (H : Hp) (Q : Bool → Hp → Prop), Inv X pins σ H s → t σ H Q → wpAny (model X.prog X.w) X.A (isTrue e X.env whole) (TP X pins σ Q) X.xe s
theorem PW.pt {X : Cx} {e : Expr} {t : TT} (h : PW X e t) : PT X e t := h _
/-- an argument list (no star), from the left -/
def PA (X : Cx) (es : List Expr) (t : TA) : Prop :=
  ∀ (pos : Pos) (pins : List (Addr × Obj)) (s : Shared) (σ : St) (H : Hp) (Q : List V → Hp → Prop), Inv X pins σ H s → t σ H Q → wpAny (model X.prog X.w) X.A (spliced (backTo pos (starEach es X.env))) (AP X pins σ Q) X.xe s
def PS (X : Cx) (st : Stmt) (t : TS) : Prop :=
  ∀ (pins : List (Addr × Obj)) (s : Shared) (σ : St) (H : Hp) (D : Ends), Inv X pins σ H s → t D σ H → wpAny (model X.prog X.w) X.A (exec st X.env) (SP X pins D) X.xe s
def PSs (X : Cx) (st : List Stmt) (t : TS) : Prop :=
  ∀ (pins : List (Addr × Obj)) (s : Shared) (σ : St) (H : Hp) (D : Ends), Inv X pins σ H s → t D σ H → wpAny (model X.prog X.w) X.A (execs st X.env) (SP X pins D) X.xe s
/-- weaken the end -/
theorem thn {α : Type} {t : Sem α} {Q Q' : α → Shared → Prop} {M : Model} {A : Around} {E : Value → Shared → Prop} {s : Shared} (h : wpAny M A t Q E s) (hQ : ∀ a s, Q a s → Q' a s) : wpAny M A t Q' E s := wpAny_mono h hQ fun _ _ x => x
end L2

namespace L2
open PySem PySem.Spec PyProof.Rows
section
variable {X : Cx}

/-- two expressions in a row -/
theorem bin {a b : Expr} {ta tb : TE} (ha : PE X a ta) (hb : PE X b tb) {pins : List (Addr × Obj)} {s : Shared} {σ : St} {H : Hp} {R : V → V → Hp → Prop} (I : Inv X pins σ H s) (h : ta σ H fun x H1 => tb σ H1 fun y H2 => R x y H2)
    {α : Type} {Q : α → Shared → Prop} {f : Value → Value → Sem α}
    (hf : ∀ v u s2 x y H2, Inv X pins σ H2 s2 → RelV x v → RelV y u → R x y H2 → wpAny (model X.prog X.w) X.A (f v u) Q X.xe s2) :
    wpAny (model X.prog X.w) X.A (eval a X.env) (fun v s₁ => wpAny (model X.prog X.w) X.A (eval b X.env) (fun u s₂ => wpAny (model X.prog X.w) X.A (f v u) Q X.xe s₂) X.xe s₁) X.xe s := by
  refine thn (ha pins s σ H _ I h) fun v s1 hh => ?_
  obtain ⟨x, H1, I1, r1, q1⟩ := hh
  refine thn (hb pins s1 σ H1 _ I1 q1) fun u s2 hh => ?_
  obtain ⟨y, H2, I2, r2, q2⟩ := hh
  exact hf v u s2 x y H2 I2 r1 r2 q2

/-! ### names and constants -/
def tVar (i : Nat) : TE := fun σ H Q => ∃ v, σ[i]? = some (some v) ∧ Q v H
def tC (v : V) : TE := fun _ H Q => Q v H
theorem pe_var {i : Nat} {x : Str} {pos : Pos} (hN : X.N[i]? = some x) (hv : Vis X.env.scope x) (hd : (x == ("__debug__" : Str)) = false := by decide) (hcd : (x == ("__classdict__" : Str)) = false := by decide) : PE X (.Name x pos) (tVar i) := by
  intro pins s σ H Q I h
  obtain ⟨v, e, h⟩ := h
  obtain ⟨m, hn, hl⟩ := I.loc
  obtain ⟨u, r, l⟩ := hl i x v hN e hv
  have fin : EP X pins σ Q u s := ⟨v, H, I, r, h⟩
  rcases l with ⟨hk, hm⟩ | ⟨hk, c, hc, hcell⟩
  · exact wpAny_Name (wpAny_loadName_local I.ok.kind hk hn hm fin) hd
  · rcases hk with hk | hk
    · exact wpAny_Name (wpAny_loadName_cell I.ok.kind hk hc hcell fin) hd
    · exact wpAny_Name (wpAny_loadName_free I.ok.kind hk hc hcell fin hcd) hd
theorem pe_int {i j pos} : PE X (.Constant (.int i) j pos) (tC (.int i)) := fun _ _ _ H _ I h => wpAny_Constant_int ⟨.int i, H, I.tok _, ⟨_, rfl⟩, h⟩
theorem pe_bl {b j pos} : PE X (.Constant (.bool b) j pos) (tC (.bl b)) := fun _ _ _ H _ I h => Constant_bool ⟨.bl b, H, I, rfl, h⟩
theorem pe_non {j pos} : PE X (.Constant .none j pos) (tC .non) := fun _ _ _ H _ I h => Constant_none ⟨.non, H, I, rfl, h⟩
theorem pe_str {x j pos} : PE X (.Constant (.str x) j pos) (tC (.str x)) := fun _ _ _ H _ I h => Calls.Constant_str ⟨.str x, H, I.tok _, ⟨_, rfl⟩, h⟩

/-- a global name of the def -/
def Gl (X : Cx) (x : Str) : Prop := X.env.kindOf x = some .globalImplicit
theorem ld_glob {E : Value → Shared → Prop} {pins : List (Addr × Obj)} {s : Shared} {σ : St} {H : Hp} {x : Str} {u : Value} {pos : Pos} {Q : Value → Shared → Prop} (I : Inv X pins σ H s) (hg : Gl X x) (hm : X.mg x = some u) (h : Q u s)
    (hd : (x == ("__debug__" : Str)) = false := by decide) : wpAny (model X.prog X.w) X.A (eval (.Name x pos) X.env) Q E s :=
  Calls.Name_function_global I.ok.kind hg (Calls.loadGlobal_global (by rw [I.ok.glob]; exact I.mod.glob.keeps I.bk) hm h) hd
theorem ld_blt {E : Value → Shared → Prop} {pins : List (Addr × Obj)} {s : Shared} {σ : St} {H : Hp} {x : Str} {u : Value} {pos : Pos} {Q : Value → Shared → Prop} (I : Inv X pins σ H s) (hg : Gl X x) (hm : X.mg x = none) (hv : bootBuiltins x = some u) (h : Q u s)
    (hn : x ≠ "__name__" := by decide) (hd : (x == ("__debug__" : Str)) = false := by decide) : wpAny (model X.prog X.w) X.A (eval (.Name x pos) X.env) Q E s := by
  obtain ⟨mb, h1, h2⟩ := I.mod.blt
  exact Calls.Name_function_global I.ok.kind hg (Calls.loadGlobal_builtin (by rw [I.ok.glob]; exact I.mod.glob.keeps I.bk) hm (by rw [I.ok.blt]; exact h1.keeps I.bk) ((h2 x hn).trans hv) h) hd
/-- a module's constant, a class, a function, as a value -/
theorem pe_glob {x : Str} {v : V} {u : Value} {pos : Pos} (hg : Gl X x) (hm : X.mg x = some u) (r : RelV v u) (hd : (x == ("__debug__" : Str)) = false := by decide) : PE X (.Name x pos) (tC v) :=
  fun _ _ _ H _ I h => ld_glob I hg hm ⟨v, H, I, r, h⟩ hd
theorem pe_bltn {x : Str} {v : V} {u : Value} {pos : Pos} (hg : Gl X x) (hm : X.mg x = none) (hv : bootBuiltins x = some u) (r : RelV v u) (hn : x ≠ "__name__" := by decide) (hd : (x == ("__debug__" : Str)) = false := by decide) : PE X (.Name x pos) (tC v) :=
  fun _ _ _ H _ I h => ld_blt I hg hm hv ⟨v, H, I, r, h⟩ hn hd

/-! ### arithmetic -/
variable {a b : Expr} {ta tb : TE} {pos : Pos}

/-! ### comparisons -/
def PC (X : Cx) (op : CmpOp) (a b : Expr) (t : TE) : Prop :=
  ∀ (pins : List (Addr × Obj)) (s : Shared) (σ : St) (H : Hp) (Q : VK), Inv X pins σ H s → t σ H Q →
    wpAny (model X.prog X.w) X.A (eval a X.env) (fun v s₁ => wpAny (model X.prog X.w) X.A (eval b X.env) (fun u s₂ => wpAny (model X.prog X.w) X.A (compareOp op v u) (EP X pins σ Q) X.xe s₂) X.xe s₁) X.xe s
theorem nobehind (b : Expr) {op : CmpOp} (h : op ≠ .In) (h2 : op ≠ .NotIn) : behindInMarks op b = false := by
  have e1 : (op == CmpOp.In) = false := by cases op <;> first | rfl | exact absurd rfl h
  have e2 : (op == CmpOp.NotIn) = false := by cases op <;> first | rfl | exact absurd rfl h2
  cases b <;> simp [behindInMarks, e1, e2]
/-- is None -/
def tIsN (ta : TE) : TE := fun σ H Q => ta σ H fun x H1 => Q (.bl (decide (x = .non))) H1
def tNotN (ta : TE) : TE := fun σ H Q => ta σ H fun x H1 => Q (.bl (!decide (x = .non))) H1
theorem RelV.none_iff {x : V} {v : Value} (r : RelV x v) : (v == Value.none) = decide (x = .non) := by
  cases x with
  | non => cases r; rfl
  | bl _ => cases r; rfl
  | int _ => obtain ⟨t, rfl⟩ := r; rfl
  | str _ => obtain ⟨t, rfl⟩ := r; rfl
  | byt _ => obtain ⟨t, rfl⟩ := r; rfl
  | flt _ => obtain ⟨t, rfl⟩ := r; rfl
  | ref _ => cases r; rfl
  | ty _ => cases r; rfl
theorem pc_isN {j pos'} (ha : PE X a ta) : PC X .Is a (.Constant .none j pos') (tIsN ta) := by
  intro pins s σ H Q I h
  refine thn (ha pins s σ H _ I h) fun v s1 hh => ?_
  obtain ⟨x, H1, I1, r1, q1⟩ := hh
  exact Constant_none (is_none_gen ⟨.bl _, H1, I1, by rw [r1.none_iff]; rfl, q1⟩)
theorem pc_notN {j pos'} (ha : PE X a ta) : PC X .IsNot a (.Constant .none j pos') (tNotN ta) := by
  intro pins s σ H Q I h
  refine thn (ha pins s σ H _ I h) fun v s1 hh => ?_
  obtain ⟨x, H1, I1, r1, q1⟩ := hh
  exact Constant_none (isnot_none_gen ⟨.bl _, H1, I1, by rw [r1.none_iff]; rfl, q1⟩)
/-- a comparison as a value, as a test -/
def tB (t : TE) : TT := fun σ H Q => t σ H fun x H1 => ∃ c, x = .bl c ∧ Q c H1
theorem pe_cmp {op : CmpOp} {t : TE} (h : PC X op a b t) (h1 : behindInMarks op b = false := by first | exact nobehind _ (by decide) (by decide) | rfl) : PE X (.Compare a [op] [b] pos) t := fun pins s σ H Q I hw => wpAny_Compare1 (h pins s σ H Q I hw) h1
theorem pt_cmp {op : CmpOp} {t : TE} (h : PC X op a b t) (h1 : behindInMarks op b = false := by first | exact nobehind _ (by decide) (by decide) | rfl) : PT X (.Compare a [op] [b] pos) (tB t) := by
  intro pins s σ H Q I hw
  refine wpAny_isTrue_Compare1 (thn (h pins s σ H _ I hw) fun v s1 h1 => thn h1 fun u s2 h2 => thn h2 fun c s3 hh => ?_) h1
  obtain ⟨x, H1, I1, r1, q1⟩ := hh
  obtain ⟨d, rfl, q⟩ := q1
  cases r1
  exact wpAny_truthy_bool ⟨H1, I1, q⟩
/-- an expression whose value is a bool, as a test -/
theorem pt_val {e : Expr} {t : TE} (h : PE X e t) (he : ∀ whole, isTrue e X.env whole = (do let v ← whole; standAt e.pos; holding [v] (truthy v)) := by intro _; rfl) : PT X e (tB t) := by
  intro pins s σ H Q I hw
  refine isTrue_plain (thn (h pins s σ H _ I hw) fun v s1 hh => ?_) (he _)
  obtain ⟨x, H1, I1, r1, q1⟩ := hh
  obtain ⟨d, rfl, q⟩ := q1
  cases r1
  exact wpAny_truthy_bool ⟨H1, I1, q⟩

/-! ### and, or, not -/
variable {tA tB' : TT} {rest : List Expr}
def tAnd (t u : TT) : TT := fun σ H Q => t σ H fun c H1 => if c = true then u σ H1 Q else Q false H1
def tOr (t u : TT) : TT := fun σ H Q => t σ H fun c H1 => if c = true then Q true H1 else u σ H1 Q
def tNot (t : TT) : TT := fun σ H Q => t σ H fun c H1 => Q (!c) H1
theorem pw_and1 (ha : PT X a tA) : PW X (.BoolOp .And [a] pos) tA := by
  intro wh pins s σ H Q I h
  refine isTrue_and (thn (ha pins s σ H Q I h) fun c s1 e => ?_)
  cases c with
  | true => exact isTrue_and_nil e
  | false => exact e
theorem pw_or1 (ha : PT X a tA) : PW X (.BoolOp .Or [a] pos) tA := by
  intro wh pins s σ H Q I h
  refine isTrue_or (thn (ha pins s σ H Q I h) fun c s1 e => ?_)
  cases c with
  | false => exact isTrue_or_nil e
  | true => exact e
theorem pw_and (ha : PT X a tA) (hb : PW X (.BoolOp .And (b :: rest) pos) tB') : PW X (.BoolOp .And (a :: b :: rest) pos) (tAnd tA tB') := by
  intro wh pins s σ H Q I h
  refine isTrue_and (thn (ha pins s σ H _ I h) fun c s1 hh => ?_)
  obtain ⟨H1, I1, q1⟩ := hh
  cases c with
  | true => exact hb wh pins s1 σ H1 Q I1 q1
  | false => exact ⟨H1, I1, q1⟩
theorem pw_or (ha : PT X a tA) (hb : PW X (.BoolOp .Or (b :: rest) pos) tB') : PW X (.BoolOp .Or (a :: b :: rest) pos) (tOr tA tB') := by
  intro wh pins s σ H Q I h
  refine isTrue_or (thn (ha pins s σ H _ I h) fun c s1 hh => ?_)
  obtain ⟨H1, I1, q1⟩ := hh
  cases c with
  | true => exact ⟨H1, I1, q1⟩
  | false => exact hb wh pins s1 σ H1 Q I1 q1
theorem pt_not (ha : PT X a tA) : PT X (.UnaryOp .Not a pos) (tNot tA) := by
  intro pins s σ H Q I h
  exact isTrue_not (ha pins s σ H (fun c H1 => Q (!c) H1) I h)
/-- .. as values (bools) -/
def tAndV (ta tb : TE) : TE := fun σ H Q => ta σ H fun x H1 => ∃ c, x = .bl c ∧ if c = true then tb σ H1 Q else Q (.bl false) H1
def tOrV (ta tb : TE) : TE := fun σ H Q => ta σ H fun x H1 => ∃ c, x = .bl c ∧ if c = true then Q (.bl true) H1 else tb σ H1 Q
def tNotV (ta : TE) : TE := fun σ H Q => ta σ H fun x H1 => ∃ c, x = .bl c ∧ Q (.bl (!c)) H1
theorem pe_one {op} {t : TE} (h : PE X a t) : PE X (.BoolOp op [a] pos) t := fun pins s σ H Q I hw => BoolOp_one (h pins s σ H Q I hw)
theorem pe_and (ha : PE X a ta) (hb : PE X (.BoolOp .And (b :: rest) pos) tb) : PE X (.BoolOp .And (a :: b :: rest) pos) (tAndV ta tb) := by
  intro pins s σ H Q I h
  refine BoolOp_and (thn (ha pins s σ H _ I h) fun v s1 hh => ?_)
  obtain ⟨x, H1, I1, r1, q1⟩ := hh
  obtain ⟨c, rfl, q1⟩ := q1
  cases r1
  refine wpAny_truthy_bool ?_
  cases c with
  | true => exact hb pins s1 σ H1 Q I1 q1
  | false => exact ⟨.bl false, H1, I1, rfl, q1⟩
theorem pe_or (ha : PE X a ta) (hb : PE X (.BoolOp .Or (b :: rest) pos) tb) : PE X (.BoolOp .Or (a :: b :: rest) pos) (tOrV ta tb) := by
  intro pins s σ H Q I h
  refine BoolOp_or (thn (ha pins s σ H _ I h) fun v s1 hh => ?_)
  obtain ⟨x, H1, I1, r1, q1⟩ := hh
  obtain ⟨c, rfl, q1⟩ := q1
  cases r1
  refine wpAny_truthy_bool ?_
  cases c with
  | false => exact hb pins s1 σ H1 Q I1 q1
  | true => exact ⟨.bl true, H1, I1, rfl, q1⟩
theorem pe_not (ha : PE X a ta) : PE X (.UnaryOp .Not a pos) (tNotV ta) := by
  intro pins s σ H Q I h
  refine UnaryOp_ (thn (ha pins s σ H _ I h) fun v s1 hh => ?_)
  obtain ⟨x, H1, I1, r1, q1⟩ := hh
  obtain ⟨c, rfl, q1⟩ := q1
  cases r1
  exact not_of (wpAny_truthy_bool ⟨.bl (!c), H1, I1, rfl, q1⟩)
/-- a if t else b -/
def tIf (t : TT) (ta tb : TE) : TE := fun σ H Q => t σ H fun c H1 => if c = true then ta σ H1 Q else tb σ H1 Q
theorem pe_ifExp {c : Expr} (hc : PT X c tA) (ha : PE X a ta) (hb : PE X b tb) : PE X (.IfExp c a b pos) (tIf tA ta tb) := by
  intro pins s σ H Q I h
  refine wpAny_IfExp (thn (hc pins s σ H _ I h) fun d s1 hh => ?_)
  obtain ⟨H1, I1, q1⟩ := hh
  cases d with
  | true => exact ha pins s1 σ H1 Q I1 q1
  | false => exact hb pins s1 σ H1 Q I1 q1
end
end L2

namespace L2
open PySem PySem.Spec PyProof.Rows

/-! ### a list, a tuple that is read: tracked, frozen, or an object of the module -/
def SqL (K : PySem.W.Frag) (H : Hp) (a : Addr) (xs : List V) : Prop :=
  Rd H a (.lst xs) ∨
    ∃ (o : Obj) (its : Array Value) (n : Nat), K.lookup a = some o ∧ o.cls = .type "list" ∧ o.dict = none ∧ o.data = .seq its n ∧ its.size ≤ sizeLine ∧ Vals xs its.toList
def SqT (K : PySem.W.Frag) (H : Hp) (a : Addr) (xs : List V) : Prop :=
  Rd H a (.tup xs) ∨
    ∃ (o : Obj) (its : Array Value) (n : Nat), K.lookup a = some o ∧ o.cls = .type "tuple" ∧ o.data = .seq its n ∧ its.size ≤ sizeLine ∧ Vals xs its.toList
def absV : Value → Option V
  | .none => some .non
  | .bool b => some (.bl b)
  | .int i _ => some (.int i)
  | .str x _ => some (.str x)
  | .bytes b _ => some (.byt b)
  | .float b _ => some (.flt b)
  | .ref a => some (.ref a)
  | .type n => some (.ty n)
  | _ => none
theorem RelV.abs {x : V} {u : Value} (r : RelV x u) : absV u = some x := by
  cases x with
  | non => cases r; rfl
  | bl _ => cases r; rfl
  | int _ => obtain ⟨t, rfl⟩ := r; rfl
  | str _ => obtain ⟨t, rfl⟩ := r; rfl
  | byt _ => obtain ⟨t, rfl⟩ := r; rfl
  | flt _ => obtain ⟨t, rfl⟩ := r; rfl
  | ref _ => cases r; rfl
  | ty _ => cases r; rfl
theorem RelV.inj {x y : V} {u : Value} (r : RelV x u) (q : RelV y u) : x = y := Option.some.inj (r.abs.symm.trans q.abs)
theorem Vals.inj : ∀ {xs ys : List V} {us : List Value}, Vals xs us → Vals ys us → xs = ys
  | _, _, _, .nil, .nil => rfl
  | _, _, _, .cons r t, .cons r' t' => by rw [r.inj r', Vals.inj t t']
section
variable {X : Cx} {pins : List (Addr × Obj)} {σ : St} {H : Hp} {s : Shared} {a : Addr} {xs ys : List V}
theorem SqL.of {K : PySem.W.Frag} (h : H a = some (.lst xs)) : SqL K H a xs := .inl (.inl h)
theorem SqT.of {K : PySem.W.Frag} (h : H a = some (.tup xs)) : SqT K H a xs := .inl (.inl h)
theorem Inv.list (I : Inv X pins σ H s) (h : SqL X.K H a xs) : ∃ its : List Value, Vals xs its ∧ PlainL s.heap a its.toArray ∧ xs.length ≤ sizeLine := by
  rcases h with h | ⟨o, its, n, hk, hc, hd, hs, hz, r⟩
  · obtain ⟨z, its, n, r, e⟩ := h.ok I.hok
    exact ⟨its, r, ⟨_, n, e, rfl, rfl, rfl⟩, z⟩
  · refine ⟨its.toList, r, ⟨o, n, I.kIn a o hk, hc, hd, by simpa using hs⟩, ?_⟩
    have e := r.length
    simp only [Array.length_toList] at e
    omega
theorem Inv.tuple (I : Inv X pins σ H s) (h : SqT X.K H a xs) : ∃ its : List Value, Vals xs its ∧ IsTup s.heap a its.toArray ∧ xs.length ≤ sizeLine := by
  rcases h with h | ⟨o, its, n, hk, hc, hs, hz, r⟩
  · obtain ⟨z, its, r, p⟩ := h.ok I.hok
    exact ⟨its, r, p, z⟩
  · refine ⟨its.toList, r, ⟨o, I.kIn a o hk, hc, n, by simpa using hs⟩, ?_⟩
    have e := r.length
    simp only [Array.length_toList] at e
    omega
theorem Inv.list_inj (I : Inv X pins σ H s) (h : SqL X.K H a xs) (h' : SqL X.K H a ys) : xs = ys := by
  obtain ⟨its, r, ⟨o, n, e, _, _, d⟩, _⟩ := I.list h
  obtain ⟨its', r', ⟨o', n', e', _, _, d'⟩, _⟩ := I.list h'
  rw [e] at e'; cases e'
  rw [d] at d'
  injection d' with d1 _
  have : its = its' := by simpa using congrArg Array.toList d1
  subst this
  exact r.inj r'
theorem Inv.tuple_inj (I : Inv X pins σ H s) (h : SqT X.K H a xs) (h' : SqT X.K H a ys) : xs = ys := by
  obtain ⟨its, r, ⟨o, e, _, n, d⟩, _⟩ := I.tuple h
  obtain ⟨its', r', ⟨o', e', _, n', d'⟩, _⟩ := I.tuple h'
  rw [e] at e'; cases e'
  rw [d] at d'
  injection d' with d1 _
  have : its = its' := by simpa using congrArg Array.toList d1
  subst this
  exact r.inj r'
end

/-! ### another wish about exceptions -/
abbrev Cx.wish (X : Cx) (E : Value → Shared → Prop) : Cx := { X with xe := E }
/-- no exception leaves -/
abbrev Cx.nox (X : Cx) : Cx := X.wish fun _ _ => False
theorem Cx.Ok.wish {X : Cx} (ok : X.Ok) (E : Value → Shared → Prop) : (X.wish E).Ok :=
  ⟨ok.mod, ok.kind, ok.glob, ok.blt, ok.above, ok.inj, ok.has, ok.cab, ok.hd, ok.frames, ok.stk, ok.exf, ok.bs, ok.bsz, ok.noex, ok.exfs, ok.funs, ok.frf⟩
theorem Cx.Ok.unwish {X : Cx} {E : Value → Shared → Prop} (ok : (X.wish E).Ok) : X.Ok :=
  ⟨ok.mod, ok.kind, ok.glob, ok.blt, ok.above, ok.inj, ok.has, ok.cab, ok.hd, ok.frames, ok.stk, ok.exf, ok.bs, ok.bsz, ok.noex, ok.exfs, ok.funs, ok.frf⟩
section
variable {X : Cx} {pins : List (Addr × Obj)} {σ : St} {H : Hp} {s : Shared} {E : Value → Shared → Prop}
theorem Inv.wish (I : Inv X pins σ H s) (E : Value → Shared → Prop) : Inv (X.wish E) pins σ H s := ⟨I.ok.wish E, I.os, I.bare, I.base, I.loc, I.cell, I.free, I.freeC, I.pin, I.hok, I.len⟩
theorem Inv.unwish (I : Inv (X.wish E) pins σ H s) : Inv X pins σ H s := ⟨I.ok.unwish, I.os, I.bare, I.base, I.loc, I.cell, I.free, I.freeC, I.pin, I.hok, I.len⟩
theorem SP.unwish {D : Ends} {f : Flow} {s' : Shared} (h : SP (X.wish E) pins D f s') : SP X pins D f s' := by
  cases f with
  | next => obtain ⟨σ', H', I, q⟩ := h; exact ⟨σ', H', I.unwish, q⟩
  | brk => obtain ⟨σ', H', I, q⟩ := h; exact ⟨σ', H', I.unwish, q⟩
  | cont => obtain ⟨σ', H', I, q⟩ := h; exact ⟨σ', H', I.unwish, q⟩
  | ret u => obtain ⟨v, σ', H', I, r, q⟩ := h; exact ⟨v, σ', H', I.unwish, r, q⟩
theorem PSs.nox {st : List Stmt} {t : TS} (h : PSs X.nox st t) : PSs X st t := fun pins s σ H D I hw =>
  wpAny_mono (h pins s σ H D (I.wish _) hw) (fun _ _ q => q.unwish) fun _ _ z => False.elim z
end

/-! ### blocks and small statements -/
section
variable {X : Cx} {st : Stmt} {rest : List Stmt} {t u : TS} {e : Expr} {te : TE} {pos : Pos}
def tNext : TS := fun D σ H => D.nx σ H
def tSeq (t u : TS) : TS := fun D σ H => t { D with nx := u D } σ H
theorem pss_nil : PSs X [] tNext := fun _ _ σ H _ I h => wpAny_execs_nil ⟨σ, H, I, h⟩
theorem pss_cons (h1 : PS X st t) (h2 : PSs X rest u) : PSs X (st :: rest) (tSeq t u) := by
  intro pins s σ H D I h
  refine wpAny_execs_cons (thn (h1 pins s σ H { D with nx := u D } I h) fun f s1 q => ?_)
  cases f with
  | next =>
    obtain ⟨σ', H', I', q⟩ := q
    exact h2 pins s1 σ' H' D I' q
  | ret v => exact q
  | brk => exact q
  | cont => exact q
theorem pss_one (h1 : PS X st t) : PSs X [st] t := by
  intro pins s σ H D I h
  refine wpAny_execs_cons (thn (h1 pins s σ H D I h) fun f s1 q => ?_)
  cases f with
  | next => exact wpAny_execs_nil q
  | ret v => exact q
  | brk => exact q
  | cont => exact q
/-- in a def's body nothing is shown -/
theorem Inv.quiet {pins : List (Addr × Obj)} {σ : St} {H : Hp} {s : Shared} (I : Inv X pins σ H s) : interactive X.env = false := by simp [interactive, I.ok.kind]
/-- an expression whose value is dropped -/
def tDrop (te : TE) : TS := fun D σ H => te σ H fun _ H1 => D.nx σ H1
theorem ps_expr (he : PE X e te) (hs : swapsWith e none pos.line X.env = pure false := by rfl) : PS X (.Expr e pos) (tDrop te) := by
  intro pins s σ H D I h
  exact wpAny_Expr_any (thn (he pins s σ H _ I h) fun v s1 ⟨x, H1, I1, r1, q1⟩ => ⟨σ, H1, I1, q1⟩) I.quiet hs
def tRet (te : TE) : TS := fun D σ H => te σ H D.rt
theorem ps_ret (he : PE X e te) : PS X (.Return (some e) pos) (tRet te) := by
  intro pins s σ H D I h
  exact wpAny_Return_some (thn (he pins s σ H _ I h) fun v s1 ⟨x, H1, I1, r1, q1⟩ => ⟨x, σ, H1, I1, r1, q1⟩)
def tIfS (c : TT) (t u : TS) : TS := fun D σ H => c σ H fun b H1 => if b = true then t D σ H1 else u D σ H1
theorem ps_if {c : Expr} {a b : List Stmt} {tc : TT} (hc : PT X c tc) (ha : PSs X a t) (hb : PSs X b u) : PS X (.If c a b pos) (tIfS tc t u) := by
  intro pins s σ H D I h
  refine wpAny_If (thn (hc pins s σ H _ I h) fun d s1 hh => ?_)
  obtain ⟨H1, I1, q1⟩ := hh
  cases d with
  | true => exact ha pins s1 σ H1 D I1 q1
  | false => exact hb pins s1 σ H1 D I1 q1
end

/-! ### targets -/
abbrev TG := V → St → Hp → (St → Hp → Prop) → Prop
abbrev TGs := List V → St → Hp → (St → Hp → Prop) → Prop
def PG (X : Cx) (target : Expr) (t : TG) : Prop :=
  ∀ (pins : List (Addr × Obj)) (s : Shared) (σ : St) (H : Hp) (v : V) (u : Value) (Q : St → Hp → Prop), Inv X pins σ H s → RelV v u → t v σ H Q →
    wpAny (model X.prog X.w) X.A (assign target X.env u) (fun _ s' => ∃ σ' H', Inv X pins σ' H' s' ∧ Q σ' H') X.xe s
/-- several targets, one after another -/
def PGs (X : Cx) (ts : List Expr) (t : TGs) : Prop :=
  ∀ (pins : List (Addr × Obj)) (s : Shared) (σ : St) (H : Hp) (vs : List V) (us : List Value) (Q : St → Hp → Prop), Inv X pins σ H s → Vals vs us → t vs σ H Q →
    wpAny (model X.prog X.w) X.A (assignInOrder ((assignEach ts X.env).map (·.2)) us) (fun _ s' => ∃ σ' H', Inv X pins σ' H' s' ∧ Q σ' H') X.xe s
/-- o[i] = v, by values -/
abbrev TSet := V → V → V → Hp → (Hp → Prop) → Prop
def PSet (X : Cx) (t : TSet) : Prop :=
  ∀ (pins : List (Addr × Obj)) (s : Shared) (σ : St) (H : Hp) (o i v : V) (ov iv u : Value) (Q : Hp → Prop), Inv X pins σ H s → RelV o ov → RelV i iv → RelV v u → t o i v H Q →
    wpAny (model X.prog X.w) X.A (setItem ov iv u) (fun _ s' => ∃ H', Inv X pins σ H' s' ∧ Q H') X.xe s
section
variable {X : Cx} {pos : Pos}
def gName (i : Nat) : TG := fun v σ H Q => Q (σ.set i (some v)) H
theorem pg_name {i : Nat} {x : Str} (hN : X.N.Nodup) (hi : X.N[i]? = some x) (hx : Loc X.env.scope x) (hf : X.fn x = true ∨ X.env.scope.names.lookup x = some .local := by first | exact .inl rfl | exact .inr rfl | assumption) : PG X (.Name x pos) (gName i) := by
  intro pins s σ H v u Q I r h
  exact wpAny_assign_Name (store_ok I hN hi hx r (fun s' I' => ⟨_, H, I', h⟩) hf)
def gNil : TGs := fun vs σ H Q => vs = [] ∧ Q σ H
def gCons (t : TG) (u : TGs) : TGs := fun vs σ H Q => ∃ v r, vs = v :: r ∧ t v σ H fun σ' H' => u r σ' H' Q
theorem pgs_nil : PGs X [] gNil := by
  intro pins s σ H vs us Q I r h
  obtain ⟨e, h⟩ := h
  subst e
  cases r
  exact assignInOrder_nil ⟨σ, H, I, h⟩
theorem pgs_cons {e : Expr} {es : List Expr} {t : TG} {u : TGs} (h1 : PG X e t) (h2 : PGs X es u)
    (hs : (assignEach (e :: es) X.env).map (·.2) = assign e X.env :: (assignEach es X.env).map (·.2) := by rfl) : PGs X (e :: es) (gCons t u) := by
  intro pins s σ H vs us Q I r h
  obtain ⟨v, vr, e1, h⟩ := h
  subst e1
  cases r with
  | cons r rr =>
    rw [hs]
    refine assignInOrder_cons (thn (h1 pins s σ H _ _ _ I r h) fun _ s1 hh => ?_)
    obtain ⟨σ1, H1, I1, q1⟩ := hh
    exact h2 pins s1 σ1 H1 _ _ Q I1 rr q1
/-- (a, b, ..) = a tuple of that length -/
def gTup (K : PySem.W.Frag) (n : Nat) (t : TGs) : TG := fun v σ H Q => ∃ a xs, v = .ref a ∧ SqT K H a xs ∧ xs.length = n ∧ t xs σ H Q
theorem pg_tup {es : List Expr} {k : Nat} {t : TGs} {n : Nat} (hc : X.calm = true) (h : PGs X es t)
    (hn : (assignEach es X.env).length = n := by rfl) (hst : (assignEach es X.env).findIdx? (·.1) = none := by rfl) : PG X (.Tuple es k pos) (gTup X.K n t) := by
  intro pins s σ H v u Q I r hw
  obtain ⟨a, xs, e1, hq, hl, hw⟩ := hw
  subst e1
  cases r
  obtain ⟨its, rv, ht, hz⟩ := I.tuple hq
  refine assign_Tuple_tuple (I.ok.hd hc) ht (by simp [hn, ← hl, rv.length]) hst fun h' hx => ?_
  have I1 : Inv X pins σ H { s with heap := h' } := I.kept (t' := s.toks) fun b o e => hx b o (Nat.ne_of_lt (Heap.lt_size e)) e
  exact h pins _ σ H xs _ Q I1 (by simpa using rv) hw
/-- o[i] = .. -/
def gSub (to ti : TE) (t : TSet) : TG := fun v σ H Q => to σ H fun o H1 => ti σ H1 fun i H2 => t o i v H2 fun H3 => Q σ H3
theorem pg_sub {o i : Expr} {to ti : TE} {t : TSet} (ho : PE X o to) (hi : PE X i ti) (hs : PSet X t)
    (ha : ∀ v, assign (.Subscript o i pos) X.env v = (do
      let ov ← holding [v] (eval o X.env)
      let iv ← holding [v, ov] (eval i X.env)
      standAt pos
      holding [v, ov, iv] (setItem ov iv v)
      release [v, ov, iv] []) := by intro _; rfl) : PG X (.Subscript o i pos) (gSub to ti t) := by
  intro pins s σ H v u Q I r h
  rw [ha]
  refine wpAny_bind (wpAny_holding (thn (ho pins s σ H _ I h) fun ov s1 hh => ?_))
  obtain ⟨x, H1, I1, r1, q1⟩ := hh
  refine wpAny_bind (wpAny_holding (thn (hi pins s1 σ H1 _ I1 q1) fun iv s2 hh => ?_))
  obtain ⟨y, H2, I2, r2, q2⟩ := hh
  refine wpAny_bind (wpAny_standAt (wpAny_bind (wpAny_holding (thn (hs pins s2 σ H2 x y v ov iv u _ I2 r1 r2 r q2) fun _ s3 hh => ?_))))
  obtain ⟨H3, I3, q3⟩ := hh
  exact wpAny_release ⟨σ, H3, I3, q3⟩
/-- target = value -/
def tAsg (te : TE) (g : TG) : TS := fun D σ H => te σ H fun x H1 => g x σ H1 D.nx
theorem ps_asg {tg e : Expr} {te : TE} {g : TG} (he : PE X e te) (hg : PG X tg g) (hs : swapsWithSole [tg] e pos.line X.env = pure false := by rfl) (hw : swappedStores [tg] e X.env = pure none := by rfl)
    (h1 : (assignEach [tg] X.env).map (·.2) = [assign tg X.env] := by rfl) : PS X (.Assign [tg] e pos) (tAsg te g) := by
  intro pins s σ H D I h
  refine wpAny_Assign_stores (thn (he pins s σ H _ I h) fun v s1 hh => ?_) hs hw
  obtain ⟨x, H1, I1, r1, q1⟩ := hh
  rw [h1]
  exact thn (hg pins s1 σ H1 x v _ I1 r1 q1) fun _ s2 q => q
/-- name = value -/
theorem ps_set {i : Nat} {x : Str} {e : Expr} {te : TE} {pos' : Pos} (hN : X.N.Nodup) (hi : X.N[i]? = some x) (hx : Loc X.env.scope x) (he : PE X e te) (hs : swapsWith e (some (.Name x pos')) pos.line X.env = pure false := by rfl) (hf : X.fn x = true ∨ X.env.scope.names.lookup x = some .local := by first | exact .inl rfl | exact .inr rfl | assumption) :
    PS X (.Assign [.Name x pos'] e pos) (tAsg te (gName i)) := by
  intro pins s σ H D I h
  refine wpAny_Assign_Name (thn (he pins s σ H _ I h) fun v s1 hh => ?_) hs
  obtain ⟨y, H1, I1, r1, q1⟩ := hh
  exact store_ok I1 hN hi hx r1 (fun s2 I2 => ⟨_, H1, I2, q1⟩) hf
end

/-! ### while -/
section
variable {X : Cx} {pos : Pos}
end

/-! ### what a loop or a comprehension walks -/
/-- at turn i: it yields x (the heap may grow), or it stops -/
structure It where
  go : Nat → Hp → Prop
  yld : Nat → Hp → V → Hp → Prop
  stop : Nat → Hp → Prop
/-- the iterator's own objects may turn: they are not the frame's, not pinned, younger than the entry (or a comprehension's own) -/
def FpOk (X : Cx) (pins : List (Addr × Obj)) (H : Hp) (b : Addr) : Prop :=
  H b = none ∧ b ≠ X.env.locals ∧ b ∉ X.fs ∧ (b ∈ X.ex ∨ X.s₀.heap.objs.size ≤ b) ∧ (∀ x c, X.env.cells.lookup x = some c → c ≠ b) ∧ ∀ p ∈ X.pn ++ pins, p.1 ≠ b
theorem Inv.fpOk {X : Cx} {pins : List (Addr × Obj)} {σ : St} {H H' : Hp} {s : Shared} {b : Addr} (I : Inv X pins σ H s) (hb : s.heap.objs.size ≤ b) (hn : H' b = none) : FpOk X pins H' b := by
  refine ⟨hn, Nat.ne_of_gt (Nat.lt_of_lt_of_le I.lt hb), I.nofs hb, .inr (Nat.le_trans I.sz hb), fun x c e z => ?_, fun p hp z => ?_⟩
  · obtain ⟨v, q⟩ := I.cell x c e
    exact absurd (Nat.lt_of_lt_of_le q.lt (by rw [z]; exact hb)) (Nat.lt_irrefl _)
  · exact absurd (Nat.lt_of_lt_of_le (Heap.lt_size (I.pin p hp).1) (by rw [z]; exact hb)) (Nat.lt_irrefl _)
structure Turn (P : Program) (w : World) (K : PySem.W.Frag) (tg : Expr) (J : It) (fp : List Addr) (it : Addr) (tn : Nat → Heap → Prop) : Prop where
  mem : it ∈ fp
  obj : ∀ i h, tn i h → ∀ b ∈ fp, ∃ o, h.get? b = some o ∧ ∀ v, o.data ≠ .cell v
  keep : ∀ i h h', tn i h → (∀ b ∈ fp, ∀ o, h.get? b = some o → h'.get? b = some o) → tn i h'
  item : ∀ (X : Cx), X.prog = P → X.w = w → X.K = K → X.calm = true → ∀ (i : Nat) (pins : List (Addr × Obj)) (s : Shared) (σ : St) (H : Hp) (E : Value → Shared → Prop), Inv X pins σ H s → (∀ b ∈ fp, FpOk X pins H b) → tn i s.heap → J.go i H →
    wpAny (model P w) X.A (pyNext (.ref it)) (fun r s1 => ∃ u, r = some u ∧
      wpAny (model P w) X.A (letOwnedTupleGo tg (.ref it) u) (fun _ s2 => ∃ x H', Inv X pins σ H' s2 ∧ RelV x u ∧ J.yld i H x H' ∧ tn (i + 1) s2.heap ∧ ∀ b ∈ fp, H' b = none) E s1) E s
  done : ∀ (X : Cx), X.prog = P → X.w = w → X.K = K → X.calm = true → ∀ (i : Nat) (pins : List (Addr × Obj)) (s : Shared) (σ : St) (H : Hp) (E : Value → Shared → Prop), Inv X pins σ H s → (∀ b ∈ fp, FpOk X pins H b) → tn i s.heap → J.stop i H →
    wpAny (model P w) X.A (pyNext (.ref it)) (fun r s1 => r = none ∧ Inv X pins σ H s1) E s
  self : ∀ (A : Around) (i : Nat) (s : Shared) (Q : Value → Shared → Prop) (E : Value → Shared → Prop), tn i s.heap → Q (.ref it) s → wpAny (model P w) A (pyIter (.ref it)) Q E s
abbrev TI := St → Hp → (It → Hp → Prop) → Prop
/-- an iterator has come -/
def PIE (X : Cx) (pins : List (Addr × Obj)) (σ : St) (tg : Expr) (R : It → Hp → Prop) (itv : Value) (s2 : Shared) : Prop :=
  ∃ (it : Addr) (fp : List Addr) (tn : Nat → Heap → Prop) (J : It) (H' : Hp), itv = .ref it ∧ Inv X pins σ H' s2 ∧ Turn X.prog X.w X.K tg J fp it tn ∧ tn 0 s2.heap ∧ (∀ b ∈ fp, FpOk X pins H' b) ∧ R J H'
def PI (X : Cx) (tg iter : Expr) (wi : TI) : Prop :=
  ∀ (pins : List (Addr × Obj)) (s : Shared) (σ : St) (H : Hp) (R : It → Hp → Prop), Inv X pins σ H s → wi σ H R →
    wpAny (model X.prog X.w) X.A (eval iter X.env) (fun v s1 => wpAny (model X.prog X.w) X.A (pyIter v) (PIE X pins σ tg R) X.xe s1) X.xe s

/-- the step ahead of the store is nothing for an iterator that keeps no tuple -/
theorem go_of {M : Model} {A : Around} {E : Value → Shared → Prop} {s : Shared} {tg : Expr} {it : Addr} {u : Value} {o : Obj} {n : String} {vs : Array Value} {Q : Unit → Shared → Prop} (ho : s.heap.get? it = some o) (hc : o.cls = .type n) (hd : o.data = .fields vs)
    (hn : ["enumerate", "zip", "dict_itemiterator", "dict_reverseitemiterator", "odict_iterator", "itertools.zip_longest", "itertools.pairwise"].contains n = false) (hQ : Q () s) : wpAny M A (letOwnedTupleGo tg (.ref it) u) Q E s := by
  unfold letOwnedTupleGo
  cases tg <;> first
    | exact wpAny_pure hQ
    | (cases u <;> first
        | exact wpAny_pure hQ
        | (refine wpAny_bind (wpAny_load ho ?_)
           rw [hc, hd]
           show wpAny M A (if (["enumerate", "zip", "dict_itemiterator", "dict_reverseitemiterator", "odict_iterator", "itertools.zip_longest", "itertools.pairwise"].contains n && vs[0]? == some (rawInt _)) = true then _ else _) Q E s
           rw [if_neg (by intro h; rw [hn, Bool.false_and] at h; cases h)]
           exact wpAny_pure hQ))

/-- the list at a, as it stands at each turn (a loop may append to it) -/
def Itl (K : PySem.W.Frag) (a : Addr) : It :=
  ⟨fun i H => ∃ xs x, SqL K H a xs ∧ xs[i]? = some x, fun i H x H' => H' = H ∧ ∀ xs, SqL K H a xs → xs[i]? = some x, fun i H => ∃ xs, SqL K H a xs ∧ xs.length ≤ i⟩
def Itt (K : PySem.W.Frag) (a : Addr) : It :=
  ⟨fun i H => ∃ xs x, SqT K H a xs ∧ xs[i]? = some x, fun i H x H' => H' = H ∧ ∀ xs, SqT K H a xs → xs[i]? = some x, fun i H => ∃ xs, SqT K H a xs ∧ xs.length ≤ i⟩
/-- lo, lo + 1, .. (n of them) -/
def Itr (lo : Int) (n : Nat) : It := ⟨fun i _ => i < n, fun i H x H' => H' = H ∧ x = .int (lo + i), fun i _ => n ≤ i⟩
theorem turn_list {P : Program} {w : World} {K : PySem.W.Frag} {tg : Expr} (a it : Addr) : Turn P w K tg (Itl K a) [it] it (fun i h => h.IsListIter it a i) where
  mem := by simp
  obj := fun i h st b hb => by
    have e : b = it := by simpa using hb
    subst e
    obtain ⟨o, e, c, d⟩ := st
    exact ⟨o, e, fun v z => by rw [d] at z; cases z⟩
  keep := fun i h h' st k => st.at fun o e => k it (by simp) o e
  item := by
    intro X hP hw hK hc i pins s σ H E I hf st hg
    subst hP hw hK
    obtain ⟨xs, x, hq, hx⟩ := hg
    obtain ⟨its, rv, p, hz⟩ := I.list hq
    obtain ⟨u, hu, ru⟩ := rv.get hx
    obtain ⟨f0, f1, f2, f3, f4, f5⟩ := hf it (by simp)
    refine wpAny_pyNext_list_item st p.isList (x := u) (by simpa using hu) fun h' st' sb => ?_
    have I1 : Inv X pins σ H { s with heap := h' } := I.turned (t' := s.toks) (fun b o hb e => (sb.2 b hb).trans e) f0 f1 f3 f4 f5
    obtain ⟨o, e, c, d⟩ := id st'
    exact ⟨u, rfl, go_of (s := { s with heap := h' }) e c d (by decide) ⟨x, H, I1, ru, ⟨rfl, fun ys hy => by rw [I.list_inj hy hq]; exact hx⟩, st', fun b hb => (hf b hb).1⟩⟩
  done := by
    intro X hP hw hK hc i pins s σ H E I hf st hg
    subst hP hw hK
    obtain ⟨xs, hq, hx⟩ := hg
    obtain ⟨its, rv, p, hz⟩ := I.list hq
    obtain ⟨f0, f1, f2, f3, f4, f5⟩ := hf it (by simp)
    have hl := rv.length
    exact wpAny_pyNext_list_end (I.ok.hd hc) st p.isList (by simp; omega) fun h' eb => ⟨rfl, I.turned (t' := s.toks) (fun b o hb e => eb b o hb e) f0 f1 f3 f4 f5⟩
  self := fun _ _ _ _ _ st h => wpAny_pyIter_listiter st h
theorem turn_tuple {P : Program} {w : World} {K : PySem.W.Frag} {tg : Expr} (a it : Addr) : Turn P w K tg (Itt K a) [it] it (fun i h => h.IsTupleIter it a i) where
  mem := by simp
  obj := fun i h st b hb => by
    have e : b = it := by simpa using hb
    subst e
    obtain ⟨o, e, c, d⟩ := st
    exact ⟨o, e, fun v z => by rw [d] at z; cases z⟩
  keep := fun i h h' st k => st.at fun o e => k it (by simp) o e
  item := by
    intro X hP hw hK hc i pins s σ H E I hf st hg
    subst hP hw hK
    obtain ⟨xs, x, hq, hx⟩ := hg
    obtain ⟨its, rv, p, hz⟩ := I.tuple hq
    obtain ⟨u, hu, ru⟩ := rv.get hx
    obtain ⟨f0, f1, f2, f3, f4, f5⟩ := hf it (by simp)
    refine wpAny_pyNext_tuple_item st (show s.heap.IsTuple a its.toArray from p) (x := u) (by simpa using hu) fun h' st' sb => ?_
    have I1 : Inv X pins σ H { s with heap := h' } := I.turned (t' := s.toks) (fun b o hb e => (sb.2 b hb).trans e) f0 f1 f3 f4 f5
    obtain ⟨o, e, c, d⟩ := id st'
    exact ⟨u, rfl, go_of (s := { s with heap := h' }) e c d (by decide) ⟨x, H, I1, ru, ⟨rfl, fun ys hy => by rw [I.tuple_inj hy hq]; exact hx⟩, st', fun b hb => (hf b hb).1⟩⟩
  done := by
    intro X hP hw hK hc i pins s σ H E I hf st hg
    subst hP hw hK
    obtain ⟨xs, hq, hx⟩ := hg
    obtain ⟨its, rv, p, hz⟩ := I.tuple hq
    obtain ⟨f0, f1, f2, f3, f4, f5⟩ := hf it (by simp)
    have hl := rv.length
    exact wpAny_pyNext_tuple_end (I.ok.hd hc) st (show s.heap.IsTuple a its.toArray from p) (by simp; omega) fun h' eb => ⟨rfl, I.turned (t' := s.toks) (fun b o hb e => eb b o hb e) f0 f1 f3 f4 f5⟩
  self := fun _ _ _ _ _ st h => wpAny_pyIter_tupleiter st h
theorem turn_range {P : Program} {w : World} {K : PySem.W.Frag} {tg : Expr} (it : Addr) (lo : Int) (n : Nat) : Turn P w K tg (Itr lo n) [it] it (fun i h => IsRangeIter h it (lo + (i : Nat) * 1) ((n : Int) - (i : Nat)) 1) where
  mem := by simp
  obj := fun i h st b hb => by
    have e : b = it := by simpa using hb
    subst e
    exact ⟨_, st, fun v z => by
      have z' : Data.fields _ = Data.cell v := z
      cases z'⟩
  keep := fun i h h' st k => k it (by simp) _ st
  item := by
    intro X hP hw hK hc i pins s σ H E I hf st hg
    subst hP hw hK
    obtain ⟨f0, f1, f2, f3, f4, f5⟩ := hf it (by simp)
    have W := Walks.range (prog := X.prog) (w := X.w) (I.ok.hd hc) it lo 1 n
    refine W.item i s _ _ hg st fun v h' tk hv st' kk => ?_
    obtain ⟨t, rfl⟩ := hv
    have I1 : Inv X pins σ H { s with heap := h', toks := tk } := I.turned (fun b o hb e => kk b o (by simpa using hb) e) f0 f1 f3 f4 f5
    refine ⟨_, rfl, go_of (s := { s with heap := h', toks := tk }) (n := "range_iterator") st' rfl rfl (by decide) ⟨.int (lo + i), H, I1, ⟨t, ?_⟩, ⟨rfl, rfl⟩, st', fun b hb => (hf b hb).1⟩⟩
    rw [Int.mul_one]
  done := by
    intro X hP hw hK hc i pins s σ H E I hf st hg
    subst hP hw hK
    obtain ⟨f0, f1, f2, f3, f4, f5⟩ := hf it (by simp)
    exact wpAny_pyNext_range_end (I.ok.hd hc) st (by have : n ≤ i := hg; omega) fun h' eb => ⟨rfl, I.turned (t' := s.toks) (fun b o hb e => eb b o hb e) f0 f1 f3 f4 f5⟩
  self := fun _ _ _ _ _ st h => wpAny_pyIter_rangeiter st h
end L2

namespace L2
open PySem PySem.Spec PyProof.Rows
section
variable {X : Cx} {tg : Expr}
def iList (K : PySem.W.Frag) (tl : TE) : TI := fun σ H R => tl σ H fun x H1 => ∃ a, x = .ref a ∧ (∃ xs, SqL K H1 a xs) ∧ R (Itl K a) H1
def iTup (K : PySem.W.Frag) (tl : TE) : TI := fun σ H R => tl σ H fun x H1 => ∃ a, x = .ref a ∧ (∃ xs, SqT K H1 a xs) ∧ R (Itt K a) H1
theorem pi_list {l : Expr} {tl : TE} (hl : PE X l tl) : PI X tg l (iList X.K tl) := by
  intro pins s σ H R I h
  refine thn (hl pins s σ H _ I h) fun v s1 hh => ?_
  obtain ⟨x, H1, I1, r1, q1⟩ := hh
  obtain ⟨a, e, ⟨xs, hq⟩, q⟩ := q1
  subst e
  cases r1
  obtain ⟨its, rv, p, hz⟩ := I1.list hq
  refine wpAny_pyIter_list p.isList ?_
  refine ⟨s1.heap.objs.size, [s1.heap.objs.size], _, _, H1, rfl, I1.kept (t' := s1.toks) fun b o e => Heap.get?_push_of_some _ e, turn_list a _, ⟨_, Heap.get?_push_size _ rfl, rfl, rfl⟩, fun b hb => ?_, q⟩
  have e : b = s1.heap.objs.size := by simpa using hb
  subst e
  exact I1.fpOk (Nat.le_refl _) (I1.hok.fresh (Nat.le_refl _))
theorem pi_tup {l : Expr} {tl : TE} (hl : PE X l tl) : PI X tg l (iTup X.K tl) := by
  intro pins s σ H R I h
  refine thn (hl pins s σ H _ I h) fun v s1 hh => ?_
  obtain ⟨x, H1, I1, r1, q1⟩ := hh
  obtain ⟨a, e, ⟨xs, hq⟩, q⟩ := q1
  subst e
  cases r1
  obtain ⟨its, rv, p, hz⟩ := I1.tuple hq
  refine wpAny_pyIter_tuple (show s1.heap.IsTuple a its.toArray from p) ?_
  refine ⟨s1.heap.objs.size, [s1.heap.objs.size], _, _, H1, rfl, I1.kept (t' := s1.toks) fun b o e => Heap.get?_push_of_some _ e, turn_tuple a _, ⟨_, Heap.get?_push_size _ rfl, rfl, rfl⟩, fun b hb => ?_, q⟩
  have e : b = s1.heap.objs.size := by simpa using hb
  subst e
  exact I1.fpOk (Nat.le_refl _) (I1.hok.fresh (Nat.le_refl _))
/-- a range object just made, walked -/
theorem range_it {pins : List (Addr × Obj)} {σ : St} {H : Hp} {s : Shared} {R : It → Hp → Prop} {E : Value → Shared → Prop} {lo hi : Int} {t u v : Tok} {tk : Nat} (I : Inv X pins σ H s) (h1 : -(2 ^ 62) ≤ lo) (h2 : lo < 2 ^ 62) (h3 : -(2 ^ 62) ≤ hi) (h4 : hi < 2 ^ 62)
    (q : R (Itr lo (hi - lo).toNat) H) : wpAny (model X.prog X.w) X.A (pyIter (.ref s.heap.objs.size)) (PIE X pins σ tg R) E { s with heap := s.heap.push { cls := .type "range", data := .fields #[.int lo t, .int hi u, .int 1 v] }, toks := tk } := by
  refine wpAny_pyIter_range (IsRange.new ..) (small_one h1 h2 h3 h4) ?_
  have I1 : Inv X pins σ H { s with heap := s.heap.push { cls := .type "range", data := .fields #[.int lo t, .int hi u, .int 1 v] }, toks := tk } := I.kept fun b o e => Heap.get?_push_of_some _ e
  refine ⟨(s.heap.push { cls := .type "range", data := .fields #[.int lo t, .int hi u, .int 1 v] }).objs.size, [(s.heap.push { cls := .type "range", data := .fields #[.int lo t, .int hi u, .int 1 v] }).objs.size], _, _, H, rfl,
    I1.kept (t' := tk) fun b o e => Heap.get?_push_of_some _ e, turn_range _ lo (hi - lo).toNat, ?_, fun b hb => ?_, q⟩
  · have e1 : lo + ((0 : Nat) : Int) * 1 = lo := by simp
    have e2 : (((hi - lo).toNat : Nat) : Int) - ((0 : Nat) : Int) = Builtin.Range.rangeSize lo hi 1 := by rw [rangeSize_one]; split <;> omega
    show IsRangeIter _ _ (lo + ((0 : Nat) : Int) * 1) ((((hi - lo).toNat : Nat) : Int) - ((0 : Nat) : Int)) 1
    rw [e1, e2]
    exact Heap.get?_push_size _ rfl
  · have e : b = (s.heap.push { cls := .type "range", data := .fields #[.int lo t, .int hi u, .int 1 v] }).objs.size := by simpa using hb
    subst e
    exact I1.fpOk (Nat.le_refl _) (I1.hok.fresh (Nat.le_refl _))
def iRng1 (ta : TA) : TI := fun σ H R => ta σ H fun vs H1 => ∃ j : Int, vs = [.int j] ∧ -(2 ^ 62) ≤ j ∧ j < 2 ^ 62 ∧ R (Itr 0 j.toNat) H1
def iRng2 (ta : TA) : TI := fun σ H R => ta σ H fun vs H1 => ∃ i j : Int, vs = [.int i, .int j] ∧ (-(2 ^ 62) ≤ i ∧ i < 2 ^ 62 ∧ -(2 ^ 62) ≤ j ∧ j < 2 ^ 62) ∧ R (Itr i (j - i).toNat) H1
theorem pi_range1 {a : Expr} {ta : TA} {p pos : Pos} (hg : Gl X "range") (hm : X.mg "range" = none) (ha : PA X [a] ta) (hs : starEach [a] X.env = [(false, eval a X.env)] := by rfl) : PI X tg (.Call (.Name "range" p) [a] [] pos) (iRng1 ta) := by
  intro pins s σ H R I h
  refine Call_ (ld_blt I hg hm boot_range (PyProof.Rows.callWith_type1 (thn (ha pos pins s σ H _ I h) fun us s1 hh => ?_) hs rfl))
  obtain ⟨vs, H1, I1, r1, q1⟩ := hh
  obtain ⟨j, e, q1, q2, q⟩ := q1
  subst e
  cases r1 with
  | cons r rr =>
    cases rr
    obtain ⟨t, rfl⟩ := r
    exact call_range_1 (range_it I1 (by omega) (by omega) q1 q2 (by simpa using q))
theorem pi_range2 {a b : Expr} {ta : TA} {p pos : Pos} (hg : Gl X "range") (hm : X.mg "range" = none) (ha : PA X [a, b] ta) (hs : starEach [a, b] X.env = [(false, eval a X.env), (false, eval b X.env)] := by rfl) (hs2 : starEach [b] X.env = [(false, eval b X.env)] := by rfl) :
    PI X tg (.Call (.Name "range" p) [a, b] [] pos) (iRng2 ta) := by
  intro pins s σ H R I h
  refine Call_ (ld_blt I hg hm boot_range (PyProof.Rows.callWith_type1 (thn (ha pos pins s σ H _ I h) fun us s1 hh => ?_) (by rw [hs, hs2]) (by rw [hs2]; rfl)))
  obtain ⟨vs, H1, I1, r1, q1⟩ := hh
  obtain ⟨i, j, e, ⟨q1, q2, q3, q4⟩, q⟩ := q1
  subst e
  cases r1 with
  | cons r rr =>
    cases rr with
    | cons r' rr =>
      cases rr
      obtain ⟨t, rfl⟩ := r
      obtain ⟨t', rfl⟩ := r'
      exact call_range_2 (range_it I1 q1 q2 q3 q4 q)

/-! ### for -/
/-- W: the invariant by the turn and a measure; N: what the body is to reach -/
def tFor (wi : TI) (g : TG) (tb : TS) : TS := fun D σ H => wi σ H fun J H1 => ∃ W : Nat → Nat → St → Hp → Prop, (∃ m, W 0 m σ H1) ∧ ∀ i m σ H, W i m σ H →
  (J.stop i H ∧ D.nx σ H) ∨ (J.go i H ∧ ∃ N : St → Hp → Prop, (∀ σ' H', N σ' H' → ∃ m', m' < m ∧ W (i + 1) m' σ' H') ∧ ∀ x H', J.yld i H x H' → g x σ H' fun σ2 H2 => tb { D with nx := N, ct := N, bk := D.nx } σ2 H2)
/-- the records at fp as they stand -/
def pinsAt (fp : List Addr) (h : Heap) : List (Addr × Obj) := fp.filterMap fun b => (h.get? b).map fun o => (b, o)
theorem mem_pinsAt {fp : List Addr} {h : Heap} {b : Addr} {o : Obj} (hb : b ∈ fp) (e : h.get? b = some o) : (b, o) ∈ pinsAt fp h := List.mem_filterMap.mpr ⟨b, hb, by rw [e]; rfl⟩
theorem of_pinsAt {fp : List Addr} {h : Heap} {p : Addr × Obj} (hp : p ∈ pinsAt fp h) : p.1 ∈ fp ∧ h.get? p.1 = some p.2 := by
  obtain ⟨b, hb, e⟩ := List.mem_filterMap.mp hp
  cases q : h.get? b with
  | none => rw [q] at e; cases e
  | some o =>
    rw [q] at e
    have e' : (b, o) = p := Option.some.inj e
    subst e'
    exact ⟨hb, q⟩
theorem Inv.pinned {pins : List (Addr × Obj)} {σ : St} {H : Hp} {s : Shared} {fp : List Addr} (I : Inv X pins σ H s) (hf : ∀ b ∈ fp, FpOk X pins H b) (ho : ∀ b ∈ fp, ∃ o, s.heap.get? b = some o ∧ ∀ v, o.data ≠ .cell v) : Inv X (pins ++ pinsAt fp s.heap) σ H s :=
  I.pins_of fun p hp => (List.mem_append.mp hp).elim (fun z => I.pin p (List.mem_append_right _ z)) fun z => by
    obtain ⟨hb, e⟩ := of_pinsAt z
    obtain ⟨f0, f1, f2, _⟩ := hf p.1 hb
    obtain ⟨o, e', d⟩ := ho p.1 hb
    rw [e] at e'; cases e'
    exact ⟨e, f0, f1, f2, d⟩
theorem Inv.unpinned {pins pl : List (Addr × Obj)} {σ : St} {H : Hp} {s : Shared} (I : Inv X (pins ++ pl) σ H s) : Inv X pins σ H s := I.pins_of fun p hp => I.pin p (List.mem_append_right _ (List.mem_append_left _ hp))
theorem ps_for {iter : Expr} {body : List Stmt} {wi : TI} {g : TG} {tb : TS} {pos : Pos} (hp : PassesOwn (model X.prog X.w) X.A X.env X.xe) (hc : X.calm = true) (hi : PI X tg iter wi) (hg : PG X tg g) (hb : PSs X body tb)
    (hs : ∀ x, foldedSetIterable iter X.env x = pure x := by intro _; rfl) : PS X (.For tg iter body [] pos) (tFor wi g tb) := by
  intro pins s σ H D I h
  refine wpAny_For (thn (hi pins s σ H _ I h) fun v s1 h1 => thn h1 fun itv s2 h2 => ?_) hs
  obtain ⟨it, fp, tn, J, H2, e, I2, T, st2, f2, W, ⟨m0, w0⟩, turn⟩ := h2
  subst e
  -- what stays true of the iterator's objects through the loop
  have stat : ∀ {H' : Hp}, (∀ b ∈ fp, H' b = none) → ∀ b ∈ fp, FpOk X pins H' b := fun hn b hb => ⟨hn b hb, (f2 b hb).2⟩
  refine codeAny_forLoop_any (fun n s' => ∃ i σ' H', Inv X pins σ' H' s' ∧ tn i s'.heap ∧ (∀ b ∈ fp, H' b = none) ∧ W i n σ' H') ?_ m0 ⟨0, σ, H2, I2, st2, fun b hb => (f2 b hb).1, w0⟩
  rintro n s3 ⟨i, σ3, H3, I3, st3, fr3, w3⟩
  rcases turn i n σ3 H3 w3 with ⟨stop, qn⟩ | ⟨go, N, hN, step⟩
  · refine wpAny_passesOwn hp (thn (T.done X rfl rfl rfl hc i pins s3 σ3 H3 X.xe I3 (stat fr3) st3 stop) fun r s4 hh => ?_)
    obtain ⟨hr, I4⟩ := hh
    subst hr
    exact wpAny_execs_nil ⟨σ3, H3, I4, qn⟩
  · refine wpAny_passesOwn hp (thn (T.item X rfl rfl rfl hc i pins s3 σ3 H3 X.xe I3 (stat fr3) st3 go) fun r s4 hh => ?_)
    obtain ⟨u, hr, h4⟩ := hh
    subst hr
    refine wpAny_passesOwn hp (thn h4 fun _ s5 hh => ?_)
    obtain ⟨x, H5, I5, r5, y5, st5, fr5⟩ := hh
    have I5' := I5.pinned (stat fr5) (T.obj _ _ st5)
    refine wpAny_passesOwn hp (thn (hg _ s5 σ3 H5 x u _ I5' r5 (step x H5 y5)) fun _ s6 hh => ?_)
    obtain ⟨σ6, H6, I6, q6⟩ := hh
    refine wpAny_passesOwn hp (thn (hb _ s6 σ6 H6 _ I6 q6) fun f s7 q7 => ?_)
    have again : ∀ {σ7 : St} {H7 : Hp}, Inv X (pins ++ pinsAt fp s5.heap) σ7 H7 s7 → N σ7 H7 → ∃ m, m < n ∧ ∃ i σ' H', Inv X pins σ' H' s7 ∧ tn i s7.heap ∧ (∀ b ∈ fp, H' b = none) ∧ W i m σ' H' := fun {σ7 H7} I7 n7 => by
      obtain ⟨m', hm, w7⟩ := hN σ7 H7 n7
      refine ⟨m', hm, i + 1, σ7, H7, I7.unpinned, T.keep _ _ _ st5 fun b hb o e => (I7.pin (b, o) (List.mem_append_right _ (List.mem_append_right _ (mem_pinsAt hb e)))).1, fun b hb => ?_, w7⟩
      obtain ⟨o, e, d⟩ := T.obj _ _ st5 b hb
      exact (I7.pin (b, o) (List.mem_append_right _ (List.mem_append_right _ (mem_pinsAt hb e)))).2.1
    cases f with
    | next => obtain ⟨σ7, H7, I7, n7⟩ := q7; exact again I7 n7
    | cont => obtain ⟨σ7, H7, I7, n7⟩ := q7; exact again I7 n7
    | brk => obtain ⟨σ7, H7, I7, q7⟩ := q7; exact ⟨σ7, H7, I7.unpinned, q7⟩
    | ret v => obtain ⟨x7, σ7, H7, I7, r7, q7⟩ := q7; exact ⟨x7, σ7, H7, I7.unpinned, r7, q7⟩
end

/-! ### the forms one uses -/
/-- over a list that the body leaves as it is -/
theorem for_list {K : PySem.W.Frag} {a : Addr} {xs : List V} {g : TG} {tb : TS} {D : Ends} {σ : St} {H : Hp} (Pv : Nat → St → Hp → Prop) (h0 : Pv 0 σ H) (hl : ∀ i σ H, i ≤ xs.length → Pv i σ H → SqL K H a xs)
    (hs : ∀ i x σ H, xs[i]? = some x → Pv i σ H → g x σ H fun σ2 H2 => tb { D with nx := Pv (i + 1), ct := Pv (i + 1), bk := D.nx } σ2 H2) (hd : ∀ σ H, Pv xs.length σ H → D.nx σ H) :
    ∃ W : Nat → Nat → St → Hp → Prop, (∃ m, W 0 m σ H) ∧ ∀ i m σ H, W i m σ H →
      ((Itl K a).stop i H ∧ D.nx σ H) ∨ ((Itl K a).go i H ∧ ∃ N : St → Hp → Prop, (∀ σ' H', N σ' H' → ∃ m', m' < m ∧ W (i + 1) m' σ' H') ∧ ∀ x H', (Itl K a).yld i H x H' → g x σ H' fun σ2 H2 => tb { D with nx := N, ct := N, bk := D.nx } σ2 H2) := by
  refine ⟨fun i m σ H => m = xs.length - i ∧ i ≤ xs.length ∧ Pv i σ H, ⟨xs.length, by simp, Nat.zero_le _, h0⟩, ?_⟩
  rintro i m σ H ⟨rfl, hi, p⟩
  have q := hl i σ H hi p
  by_cases hlt : i < xs.length
  · refine .inr ⟨⟨xs, xs[i], q, by simp [hlt]⟩, Pv (i + 1), fun σ' H' p' => ⟨xs.length - (i + 1), by omega, rfl, hlt, p'⟩, fun x H' y => ?_⟩
    obtain ⟨e, y⟩ := y
    subst e
    exact hs i x σ _ (y xs q) p
  · have e : i = xs.length := by omega
    subst e
    exact .inl ⟨⟨xs, q, Nat.le_refl _⟩, hd σ H p⟩
theorem for_tup {K : PySem.W.Frag} {a : Addr} {xs : List V} {g : TG} {tb : TS} {D : Ends} {σ : St} {H : Hp} (Pv : Nat → St → Hp → Prop) (h0 : Pv 0 σ H) (hl : ∀ i σ H, i ≤ xs.length → Pv i σ H → SqT K H a xs)
    (hs : ∀ i x σ H, xs[i]? = some x → Pv i σ H → g x σ H fun σ2 H2 => tb { D with nx := Pv (i + 1), ct := Pv (i + 1), bk := D.nx } σ2 H2) (hd : ∀ σ H, Pv xs.length σ H → D.nx σ H) :
    ∃ W : Nat → Nat → St → Hp → Prop, (∃ m, W 0 m σ H) ∧ ∀ i m σ H, W i m σ H →
      ((Itt K a).stop i H ∧ D.nx σ H) ∨ ((Itt K a).go i H ∧ ∃ N : St → Hp → Prop, (∀ σ' H', N σ' H' → ∃ m', m' < m ∧ W (i + 1) m' σ' H') ∧ ∀ x H', (Itt K a).yld i H x H' → g x σ H' fun σ2 H2 => tb { D with nx := N, ct := N, bk := D.nx } σ2 H2) := by
  refine ⟨fun i m σ H => m = xs.length - i ∧ i ≤ xs.length ∧ Pv i σ H, ⟨xs.length, by simp, Nat.zero_le _, h0⟩, ?_⟩
  rintro i m σ H ⟨rfl, hi, p⟩
  have q := hl i σ H hi p
  by_cases hlt : i < xs.length
  · refine .inr ⟨⟨xs, xs[i], q, by simp [hlt]⟩, Pv (i + 1), fun σ' H' p' => ⟨xs.length - (i + 1), by omega, rfl, hlt, p'⟩, fun x H' y => ?_⟩
    obtain ⟨e, y⟩ := y
    subst e
    exact hs i x σ _ (y xs q) p
  · have e : i = xs.length := by omega
    subst e
    exact .inl ⟨⟨xs, q, Nat.le_refl _⟩, hd σ H p⟩
theorem for_range {lo : Int} {n : Nat} {g : TG} {tb : TS} {D : Ends} {σ : St} {H : Hp} (Pv : Nat → St → Hp → Prop) (h0 : Pv 0 σ H)
    (hs : ∀ i σ H, i < n → Pv i σ H → g (.int (lo + i)) σ H fun σ2 H2 => tb { D with nx := Pv (i + 1), ct := Pv (i + 1), bk := D.nx } σ2 H2) (hd : ∀ σ H, Pv n σ H → D.nx σ H) :
    ∃ W : Nat → Nat → St → Hp → Prop, (∃ m, W 0 m σ H) ∧ ∀ i m σ H, W i m σ H →
      ((Itr lo n).stop i H ∧ D.nx σ H) ∨ ((Itr lo n).go i H ∧ ∃ N : St → Hp → Prop, (∀ σ' H', N σ' H' → ∃ m', m' < m ∧ W (i + 1) m' σ' H') ∧ ∀ x H', (Itr lo n).yld i H x H' → g x σ H' fun σ2 H2 => tb { D with nx := N, ct := N, bk := D.nx } σ2 H2) := by
  refine ⟨fun i m σ H => m = n - i ∧ i ≤ n ∧ Pv i σ H, ⟨n, by simp, Nat.zero_le _, h0⟩, ?_⟩
  rintro i m σ H ⟨rfl, hi, p⟩
  by_cases hlt : i < n
  · refine .inr ⟨hlt, Pv (i + 1), fun σ' H' p' => ⟨n - (i + 1), by omega, rfl, hlt, p'⟩, fun x H' y => ?_⟩
    obtain ⟨e, y⟩ := y
    subst e y
    exact hs i σ _ hlt p
  · have e : i = n := by omega
    subst e
    exact .inl ⟨Nat.le_refl _, hd σ H p⟩
end L2

namespace L2
open PySem PySem.Spec PyProof.Rows

abbrev R2 := V → V → Hp → VK → Prop
/-- a two-place operation on values: f is binaryOp op, inplaceOp op or compareOp op -/
def OpR (X : Cx) (f : Value → Value → Sem Value) (r : R2) : Prop :=
  ∀ (pins : List (Addr × Obj)) (s : Shared) (σ : St) (H : Hp) (x y : V) (v u : Value) (Q : VK), Inv X pins σ H s → RelV x v → RelV y u → r x y H Q →
    wpAny (model X.prog X.w) X.A (f v u) (EP X pins σ Q) X.xe s
/-- a one-place operation -/
def UnR (X : Cx) (f : Value → Sem Value) (r : V → Hp → VK → Prop) : Prop :=
  ∀ (pins : List (Addr × Obj)) (s : Shared) (σ : St) (H : Hp) (x : V) (v : Value) (Q : VK), Inv X pins σ H s → RelV x v → r x H Q →
    wpAny (model X.prog X.w) X.A (f v) (EP X pins σ Q) X.xe s
/-- a call of a value that is known (a builtin, a type) with values -/
def CallR (X : Cx) (f : Value) (r : List V → Hp → VK → Prop) : Prop :=
  ∀ (pins : List (Addr × Obj)) (s : Shared) (σ : St) (H : Hp) (xs : List V) (us : List Value) (Q : VK), Inv X pins σ H s → Vals xs us → r xs H Q →
    wpAny (model X.prog X.w) X.A (call f us) (EP X pins σ Q) X.xe s

def tOp (r : R2) (ta tb : TE) : TE := fun σ H Q => ta σ H fun x H1 => tb σ H1 fun y H2 => r x y H2 Q
def tUn (r : V → Hp → VK → Prop) (ta : TE) : TE := fun σ H Q => ta σ H fun x H1 => r x H1 Q
/-- ints in, under C, and a value out -/
def rI (C : Int → Int → Prop) (g : Int → Int → V) : R2 := fun x y H Q => ∃ i j, x = .int i ∧ y = .int j ∧ C i j ∧ Q (g i j) H
def rI0 (g : Int → Int → V) : R2 := fun x y H Q => ∃ i j, x = .int i ∧ y = .int j ∧ Q (g i j) H
def rU (g : Int → V) : V → Hp → VK → Prop := fun x H Q => ∃ i, x = .int i ∧ Q (g i) H

section
variable {X : Cx} {a b c : Expr} {ta tb tc : TE} {pos : Pos}

theorem binT (ha : PE X a ta) (hb : PE X b tb) {pins : List (Addr × Obj)} {s : Shared} {σ : St} {H : Hp} {R : V → V → Hp → Prop} (I : Inv X pins σ H s)
    (h : ta σ H fun x H1 => tb σ H1 fun y H2 => R x y H2) {Q : Value → Shared → Prop} {f : Value → Value → Sem Value}
    (hf : ∀ v u s2 x y H2, Inv X pins σ H2 s2 → RelV x v → RelV y u → R x y H2 → wpAny (model X.prog X.w) X.A (f v u) Q X.xe s2) :
    wpAny (model X.prog X.w) X.A (eval a X.env) (fun v s₁ => wpAny (model X.prog X.w) X.A (eval b X.env) (fun u s₂ => wpAny (model X.prog X.w) X.A (f v u) Q X.xe s₂) X.xe s₁) X.xe s := by
  refine thn (ha pins s σ H _ I h) fun v s1 hh => ?_
  obtain ⟨x, H1, I1, r1, q1⟩ := hh
  refine thn (hb pins s1 σ H1 _ I1 q1) fun u s2 hh => ?_
  obtain ⟨y, H2, I2, r2, q2⟩ := hh
  exact hf v u s2 x y H2 I2 r1 r2 q2

theorem pe_op {op : Operator} {r : R2} (ho : OpR X (binaryOp op) r) (ha : PE X a ta) (hb : PE X b tb) : PE X (.BinOp a op b pos) (tOp r ta tb) := by
  intro pins s σ H Q I h
  exact wpAny_BinOp (binT ha hb I h fun v u s2 x y H2 I2 rx ry q => ho pins s2 σ H2 x y v u Q I2 rx ry q)
theorem pe_un {op : UnaryOp} {r : V → Hp → VK → Prop} (ho : UnR X (unaryOp op) r) (ha : PE X a ta) : PE X (.UnaryOp op a pos) (tUn r ta) := by
  intro pins s σ H Q I h
  exact UnaryOp_ (thn (ha pins s σ H _ I h) fun v s1 ⟨x, H1, I1, r1, q1⟩ => ho pins s1 σ H1 x v Q I1 r1 q1)

/-! ### ints -/
theorem opI {f : Value → Value → Sem Value} {C : Int → Int → Prop} {g : Int → Int → Int}
    (rule : ∀ (i j : Int) (t u : Tok) (s : Shared) (Q : Value → Shared → Prop) (E : Value → Shared → Prop), C i j → Q (.int (g i j) s.toks) { s with toks := s.toks + 1 } → wpAny (model X.prog X.w) X.A (f (.int i t) (.int j u)) Q E s) :
    OpR X f (rI C fun i j => .int (g i j)) := by
  intro pins s σ H x y v u Q I rx ry h
  obtain ⟨i, j, rfl, rfl, hc, q⟩ := h
  obtain ⟨t, rfl⟩ := rx
  obtain ⟨t', rfl⟩ := ry
  exact rule i j t t' s _ _ hc ⟨.int (g i j), H, I.tok _, ⟨_, rfl⟩, q⟩
theorem opI0 {f : Value → Value → Sem Value} {g : Int → Int → Int}
    (rule : ∀ (i j : Int) (t u : Tok) (s : Shared) (Q : Value → Shared → Prop) (E : Value → Shared → Prop), Q (.int (g i j) s.toks) { s with toks := s.toks + 1 } → wpAny (model X.prog X.w) X.A (f (.int i t) (.int j u)) Q E s) :
    OpR X f (rI0 fun i j => .int (g i j)) := by
  intro pins s σ H x y v u Q I rx ry h
  obtain ⟨i, j, rfl, rfl, q⟩ := h
  obtain ⟨t, rfl⟩ := rx
  obtain ⟨t', rfl⟩ := ry
  exact rule i j t t' s _ _ ⟨.int (g i j), H, I.tok _, ⟨_, rfl⟩, q⟩
theorem opB0 {f : Value → Value → Sem Value} {g : Int → Int → Bool}
    (rule : ∀ (i j : Int) (t u : Tok) (s : Shared) (Q : Value → Shared → Prop) (E : Value → Shared → Prop), Q (.bool (g i j)) s → wpAny (model X.prog X.w) X.A (f (.int i t) (.int j u)) Q E s) :
    OpR X f (rI0 fun i j => .bl (g i j)) := by
  intro pins s σ H x y v u Q I rx ry h
  obtain ⟨i, j, rfl, rfl, q⟩ := h
  obtain ⟨t, rfl⟩ := rx
  obtain ⟨t', rfl⟩ := ry
  exact rule i j t t' s _ _ ⟨.bl (g i j), H, I, rfl, q⟩

def CDiv (i j : Int) : Prop := 0 < j ∧ j < 1073741824
def CPow (i j : Int) : Prop := 0 ≤ j ∧ j ≤ 1000000 ∧ i.natAbs < 2 ^ 64
def CMul (i j : Int) : Prop := (-(2 ^ 64) < i ∧ i < 2 ^ 64) ∨ (-(2 ^ 64) < j ∧ j < 2 ^ 64)
theorem CMul.ok {i j : Int} (h : CMul i j) : IntMulOk i j := by
  rcases h with ⟨h1, h2⟩ | ⟨h1, h2⟩
  · exact .of_left (intBits_le_64 h1 h2)
  · exact .of_right (intBits_le_64 h1 h2)

theorem op_add : OpR X (binaryOp .Add) (rI0 fun i j => .int (i + j)) := opI0 fun _ _ _ _ _ _ _ q => add_int q
theorem op_sub : OpR X (binaryOp .Sub) (rI0 fun i j => .int (i - j)) := opI0 fun _ _ _ _ _ _ _ q => sub_int q
theorem op_mul : OpR X (binaryOp .Mult) (rI CMul fun i j => .int (i * j)) := opI fun _ _ _ _ _ _ _ hc q => mul_int q hc.ok
/-- // by a positive divisor -/
theorem op_fdiv : OpR X (binaryOp .FloorDiv) (rI CDiv fun i j => .int (i / j)) := opI fun i j _ _ _ _ _ hc q => by
  have h1 : (0 : Int) < j := hc.1
  have h2 : j < 1073741824 := hc.2
  exact floordiv_int (by omega) (by rw [Int.fdiv_eq_ediv_of_nonneg i (by omega)]; exact q) (.inl (PyProof.noPylong_small (by omega)))
/-- % by a positive divisor of any size -/
theorem op_mod : OpR X (binaryOp .Mod) (rI (fun _ j => 0 < j) fun i j => .int (i % j)) := opI fun i j _ _ _ _ _ hc q => by
  have h1 : (0 : Int) < j := hc
  exact mod_int' (by omega) (by rw [Int.fmod_eq_emod_of_nonneg i (by omega)]; exact q)
theorem op_pow : OpR X (binaryOp .Pow) (rI CPow fun i j => .int (i ^ j.toNat)) := opI fun _ _ _ _ _ _ _ hc q => pow_int_small hc.1 hc.2.1 hc.2.2 q
theorem op_and : OpR X (binaryOp .BitAnd) (rI0 fun i j => .int (Builtin.bitAnd i j)) := opI0 fun _ _ _ _ _ _ _ q => and_int q


theorem unI {f : Value → Sem Value} {g : Int → Int}
    (rule : ∀ (i : Int) (t : Tok) (s : Shared) (Q : Value → Shared → Prop) (E : Value → Shared → Prop), Q (.int (g i) s.toks) { s with toks := s.toks + 1 } → wpAny (model X.prog X.w) X.A (f (.int i t)) Q E s) :
    UnR X f (rU fun i => .int (g i)) := by
  intro pins s σ H x v Q I rx h
  obtain ⟨i, rfl, q⟩ := h
  obtain ⟨t, rfl⟩ := rx
  exact rule i t s _ _ ⟨.int (g i), H, I.tok _, ⟨_, rfl⟩, q⟩
theorem un_neg : UnR X (unaryOp .USub) (rU fun i => .int (-i)) := unI fun _ _ _ _ _ q => neg_int q

/-! ### bools among ints: n += (a < b) -/
end

/-! ### comparisons -/
/-- the scalars that == tells apart as data does -/
def scal : V → V → Bool
  | .non, .non => true | .non, .int _ => true | .int _, .non => true | .non, .bl _ => true | .bl _, .non => true | .non, .str _ => true | .str _, .non => true
  | .int _, .int _ => true | .bl _, .bl _ => true | .str _, .str _ => true | .byt _, .byt _ => true
  | .int _, .str _ => true | .str _, .int _ => true | .bl _, .str _ => true | .str _, .bl _ => true
  | _, _ => false
def rEq : R2 := fun x y H Q => scal x y = true ∧ Q (.bl (decide (x = y))) H
def rNe : R2 := fun x y H Q => scal x y = true ∧ Q (.bl (!decide (x = y))) H

theorem dec_int {i j : Int} : decide (V.int i = V.int j) = (i == j) := by
  rw [Bool.eq_iff_iff]
  simp
theorem dec_bl {i j : Bool} : decide (V.bl i = V.bl j) = (i == j) := by
  rw [Bool.eq_iff_iff]
  simp
theorem dec_str {i j : Str} : decide (V.str i = V.str j) = (i == j) := by
  rw [Bool.eq_iff_iff]
  simp
theorem dec_byt {i j : Array UInt8} : decide (V.byt i = V.byt j) = (i.toList == j.toList) := by
  rw [Bool.eq_iff_iff]
  cases i
  cases j
  simp

section
variable {X : Cx} {a b c : Expr} {ta tb tc : TE} {pos : Pos}
theorem fin_bl {pins : List (Addr × Obj)} {σ : St} {H : Hp} {s : Shared} {Q : VK} {k k' : Bool} (I : Inv X pins σ H s) (q : Q (.bl k) H) (e : k = k') : EP X pins σ Q (.bool k') s := by
  subst e
  exact ⟨.bl k, H, I, rfl, q⟩
theorem op_eq : OpR X (compareOp .Eq) rEq := by
  intro pins s σ H x y v u Q I rx ry h
  obtain ⟨hs, q⟩ := h
  cases x with
  | non =>
    cases rx
    cases y with
    | non => cases ry; exact PySem.EqNone.eq_none_none (fin_bl I q (by simp))
    | bl j => cases ry; exact PySem.EqNone.eq_none_bool (fin_bl I q (by simp))
    | int j => obtain ⟨t', rfl⟩ := ry; exact PySem.EqNone.eq_none_int (fin_bl I q (by simp))
    | str j => obtain ⟨t', rfl⟩ := ry; exact PySem.EqNone.eq_none_str (fin_bl I q (by simp))
    | _ => exact absurd (show false = true from hs) Bool.false_ne_true
  | bl i =>
    cases rx
    cases y with
    | non => cases ry; exact PySem.EqNone.eq_bool_none (fin_bl I q (by simp))
    | bl j => cases ry; exact eq_bool (fin_bl I q dec_bl)
    | str j => obtain ⟨t', rfl⟩ := ry; exact PySem.EqMixed.eq_bool_str (fin_bl I q (by simp))
    | _ => exact absurd (show false = true from hs) Bool.false_ne_true
  | int i =>
    obtain ⟨t, rfl⟩ := rx
    cases y with
    | non => cases ry; exact PySem.EqNone.eq_int_none (fin_bl I q (by simp))
    | int j => obtain ⟨t', rfl⟩ := ry; exact eq_int (fin_bl I q dec_int)
    | str j => obtain ⟨t', rfl⟩ := ry; exact PySem.EqMixed.eq_int_str (fin_bl I q (by simp))
    | _ => exact absurd (show false = true from hs) Bool.false_ne_true
  | str i =>
    obtain ⟨t, rfl⟩ := rx
    cases y with
    | non => cases ry; exact PySem.EqNone.eq_str_none (fin_bl I q (by simp))
    | bl j => cases ry; exact PySem.EqMixed.eq_str_bool (fin_bl I q (by simp))
    | int j => obtain ⟨t', rfl⟩ := ry; exact PySem.EqMixed.eq_str_int (fin_bl I q (by simp))
    | str j => obtain ⟨t', rfl⟩ := ry; exact eq_str (fin_bl I q dec_str)
    | _ => exact absurd (show false = true from hs) Bool.false_ne_true
  | byt i =>
    obtain ⟨t, rfl⟩ := rx
    cases y with
    | byt j => obtain ⟨t', rfl⟩ := ry; exact PySem.W.eq_bytes (fin_bl I q dec_byt)
    | _ => exact absurd (show false = true from hs) Bool.false_ne_true
  | _ => cases y <;> exact absurd (show false = true from hs) Bool.false_ne_true
theorem op_ne : OpR X (compareOp .NotEq) rNe := by
  intro pins s σ H x y v u Q I rx ry h
  obtain ⟨hs, q⟩ := h
  cases x with
  | non =>
    cases rx
    cases y with
    | non => cases ry; exact PySem.EqNone.ne_none_none (fin_bl I q (by simp))
    | bl j => cases ry; exact PySem.EqNone.ne_none_bool (fin_bl I q (by simp))
    | int j => obtain ⟨t', rfl⟩ := ry; exact PySem.EqNone.ne_none_int (fin_bl I q (by simp))
    | str j => obtain ⟨t', rfl⟩ := ry; exact PySem.EqNone.ne_none_str (fin_bl I q (by simp))
    | _ => exact absurd (show false = true from hs) Bool.false_ne_true
  | bl i =>
    cases rx
    cases y with
    | non => cases ry; exact PySem.EqNone.ne_bool_none (fin_bl I q (by simp))
    | bl j => cases ry; exact ne_bool (fin_bl I q (congrArg not dec_bl))
    | str j => obtain ⟨t', rfl⟩ := ry; exact PySem.EqMixed.ne_bool_str (fin_bl I q (by simp))
    | _ => exact absurd (show false = true from hs) Bool.false_ne_true
  | int i =>
    obtain ⟨t, rfl⟩ := rx
    cases y with
    | non => cases ry; exact PySem.EqNone.ne_int_none (fin_bl I q (by simp))
    | int j => obtain ⟨t', rfl⟩ := ry; exact ne_int (fin_bl I q (congrArg not dec_int))
    | str j => obtain ⟨t', rfl⟩ := ry; exact PySem.EqMixed.ne_int_str (fin_bl I q (by simp))
    | _ => exact absurd (show false = true from hs) Bool.false_ne_true
  | str i =>
    obtain ⟨t, rfl⟩ := rx
    cases y with
    | non => cases ry; exact PySem.EqNone.ne_str_none (fin_bl I q (by simp))
    | bl j => cases ry; exact PySem.EqMixed.ne_str_bool (fin_bl I q (by simp))
    | int j => obtain ⟨t', rfl⟩ := ry; exact PySem.EqMixed.ne_str_int (fin_bl I q (by simp))
    | str j => obtain ⟨t', rfl⟩ := ry; exact ne_str (fin_bl I q (congrArg not dec_str))
    | _ => exact absurd (show false = true from hs) Bool.false_ne_true
  | byt i =>
    obtain ⟨t, rfl⟩ := rx
    cases y with
    | byt j => obtain ⟨t', rfl⟩ := ry; exact PySem.W.ne_bytes (fin_bl I q (congrArg not dec_byt))
    | _ => exact absurd (show false = true from hs) Bool.false_ne_true
  | _ => cases y <;> exact absurd (show false = true from hs) Bool.false_ne_true

theorem op_lt : OpR X (compareOp .Lt) (rI0 fun i j => .bl (decide (i < j))) := opB0 fun _ _ _ _ _ _ _ q => lt_int q
theorem op_le : OpR X (compareOp .LtE) (rI0 fun i j => .bl (decide (i ≤ j))) := opB0 fun _ _ _ _ _ _ _ q => le_int q
theorem op_gt : OpR X (compareOp .Gt) (rI0 fun i j => .bl (decide (j < i))) := opB0 fun _ _ _ _ _ _ _ q => gt_int q
theorem op_ge : OpR X (compareOp .GtE) (rI0 fun i j => .bl (decide (j ≤ i))) := opB0 fun _ _ _ _ _ _ _ q => ge_int q




theorem nomark (b : Expr) {op : CmpOp} (h : op ≠ .In := by decide) (h2 : op ≠ .NotIn := by decide) : behindInMarks op b = false := by
  have e1 : (op == CmpOp.In) = false := by cases op <;> first | rfl | exact absurd rfl h
  have e2 : (op == CmpOp.NotIn) = false := by cases op <;> first | rfl | exact absurd rfl h2
  cases b <;> simp [behindInMarks, e1, e2]
/-- a comparison as a value; hm: nomark b, or (for in, not in) by with_unfolding_all rfl -/
theorem pe_cmpR {op : CmpOp} {r : R2} (ho : OpR X (compareOp op) r) (ha : PE X a ta) (hb : PE X b tb) (hm : behindInMarks op b = false) : PE X (.Compare a [op] [b] pos) (tOp r ta tb) := by
  intro pins s σ H Q I h
  exact wpAny_Compare1 (binT ha hb I h fun v u s2 x y H2 I2 rx ry q => ho pins s2 σ H2 x y v u Q I2 rx ry q) hm
/-- a reading of a value as a test -/
def tTest (t : TE) : TT := fun σ H Q => t σ H fun x H' => ∃ k, x = .bl k ∧ Q k H'
theorem pt_cmpR {op : CmpOp} {r : R2} (ho : OpR X (compareOp op) r) (ha : PE X a ta) (hb : PE X b tb) (hm : behindInMarks op b = false) : PT X (.Compare a [op] [b] pos) (tTest (tOp r ta tb)) := by
  intro pins s σ H Q I h
  refine wpAny_isTrue_Compare1 (thn (ha pins s σ H _ I h) fun v s1 ⟨x, H1, I1, r1, q1⟩ => thn (hb pins s1 σ H1 _ I1 q1) fun u s2 ⟨y, H2, I2, r2, q2⟩ =>
    thn (ho pins s2 σ H2 x y v u _ I2 r1 r2 q2) fun c s3 ⟨z, H3, I3, r3, k, e, q3⟩ => ?_) hm
  subst e
  cases r3
  exact wpAny_truthy_bool ⟨H3, I3, q3⟩

/-! ### truth -/
theorem line63 : (sizeLine : Nat) < 2 ^ 63 := by rw [sizeLine_eq]; decide

/-! ### strs and bytes -/


/-! ### scalar builtins, by CallR -/
theorem vals1 {x : V} {us : List Value} (r : Vals [x] us) : ∃ u, us = [u] ∧ RelV x u := by
  cases r with
  | cons r1 r2 => cases r2; exact ⟨_, rfl, r1⟩
theorem vals2 {x y : V} {us : List Value} (r : Vals [x, y] us) : ∃ u w', us = [u, w'] ∧ RelV x u ∧ RelV y w' := by
  cases r with
  | cons r1 r2 =>
    cases r2 with
    | cons r3 r4 => cases r4; exact ⟨_, _, rfl, r1, r3⟩
theorem call_min2 (hc : X.calm = true) : CallR X (.builtin "min") (fun xs H Q => ∃ i j, xs = [.int i, .int j] ∧ Q (.int (if j < i then j else i)) H) := by
  intro pins s σ H xs us Q I r h
  obtain ⟨i, j, rfl, q⟩ := h
  obtain ⟨u, w', rfl, ⟨t, rfl⟩, ⟨t', rfl⟩⟩ := vals2 r
  refine min_two_ints (I.ok.hd hc) fun h' tk k => ⟨_, H, I.kept k, ?_, q⟩
  by_cases hj : j < i
  · rw [if_pos hj, if_pos hj]; exact ⟨_, rfl⟩
  · rw [if_neg hj, if_neg hj]; exact ⟨_, rfl⟩
theorem call_int1 : CallR X (.type "int") (fun xs H Q => (∃ i, xs = [.int i] ∧ Q (.int i) H) ∨ ∃ k, xs = [.bl k] ∧ Q (.int (if k then 1 else 0)) H) := by
  intro pins s σ H xs us Q I r h
  rcases h with ⟨i, rfl, q⟩ | ⟨k, rfl, q⟩
  · obtain ⟨u, rfl, t, rfl⟩ := vals1 r
    exact call_int_int ⟨.int i, H, I, ⟨_, rfl⟩, q⟩
  · obtain ⟨u, rfl, r1⟩ := vals1 r
    cases r1
    exact call_int_bool ⟨.int (if k then 1 else 0), H, I.tok _, ⟨_, rfl⟩, q⟩
end
end L2

namespace L2
open PySem PySem.Spec PyProof.Rows

/-! ### an instance, its attributes a map -/
structure ObjM (h : Heap) (x dx C : Addr) (mA : Str → Option Value) : Prop where
  obj : h.get? x = some (PySem.W.instObj C dx)
  ns : h.Ns1 dx mA
  ne : dx ≠ x

theorem lookIn_ns {h : Heap} {dx : Addr} {mA : Str → Option Value} (n : h.Ns1 dx mA) : ∃ od, h.get? dx = some od ∧ ∀ name, PySem.W.lookIn name od = some (mA name) := by
  obtain ⟨o, es, ep, ho, hd, hk, _, hm⟩ := n
  refine ⟨o, ho, fun name => ?_⟩
  have e := hm name
  unfold nsFind findBy at e
  rw [← Array.find?_toList] at e
  unfold PySem.W.lookIn
  rw [hd]
  dsimp only
  split
  · rename_i y q
    rw [q] at e
    exact congrArg some e
  · rename_i q
    rw [q] at e
    have a : es.toList.any (·.refKey) = false := by
      rw [List.any_eq_false]
      intro y hy
      obtain ⟨z, t, hkey⟩ := hk y (Array.mem_toList_iff.mp hy)
      simp [DictEntry.refKey, hkey]
    have a' : ¬ es.toList.any (·.refKey) = true := by rw [a]; exact Bool.false_ne_true
    rw [if_neg a']
    exact congrArg some e

theorem ObjM.look {h : Heap} {x dx C : Addr} {mA : Str → Option Value} (I : ObjM h x dx C mA) : ∃ od, PySem.W.InstAt h x (PySem.W.instObj C dx) C (some od) ∧ ∀ name, PySem.W.lookIn name od = some (mA name) :=
  let ⟨od, ho, hl⟩ := lookIn_ns I.ns
  ⟨od, ⟨I.obj, rfl, rfl, ho⟩, hl⟩

section
variable {prog : Program} {w : World} {A : Around} {E : Value → Shared → Prop} {s : Shared} {K : PySem.W.Frag} {x dx C f : Addr} {mA : Str → Option Value} {name : Str} {v : Value}





end

/-! ### the attributes as a list of pairs -/

theorem RelO.some_of {v : V} {o : Option Value} (r : RelO (some v) o) : ∃ u, o = some u ∧ RelV v u := by
  cases o with
  | none => exact (show False from r).elim
  | some u => exact ⟨u, rfl, r⟩

section
variable {P : Program} {w : World} {H H' : Hp} {h h' : Heap} {a C dx : Addr} {fs fs' : List (Str × V)}
theorem ins_get (hok : HOk P w H h) (e : H a = some (.ins C dx fs)) : ∃ mA, ObjM h a dx C mA ∧ (∀ f, RelO (fs.lookup f) (mA f)) ∧ PySem.Within mA (fs.map (·.1)) ∧ fs.length ≤ 1000 ∧ H dx = some (.own a) := by
  obtain ⟨d, z, ne, ob, mA, n, r, q⟩ := (show ObjOk P w H h a (.ins C dx fs) from hok a _ e)
  exact ⟨mA, ⟨ob, n, ne⟩, r, q, z, d⟩
end

/-! ### what of the text a class must have -/
structure Cls (K : PySem.W.Frag) (C : Addr) : Prop where
  pg : PySem.W.plainGet K C Str.empty = true
  hd : PySem.W.hasDictIn K C = true
  po : PySem.W.plainOver K C = true
  sa : PySem.W.findIn K (.ref C) "__setattr__" = some (some (.builtin "object.__setattr__"))
theorem Cls.get {K : PySem.W.Frag} {C : Addr} (c : Cls K C) (f : Str) : PySem.W.plainGet K C f = true := c.pg

section
variable {X : Cx} {pins : List (Addr × Obj)} {σ : St} {H : Hp} {s : Shared} {a C dx : Addr} {fs : List (Str × V)} {f : Str} {v : V} {A : Around} {E : Value → Shared → Prop}






end

/-! ### readings and rules -/

section
variable {X : Cx} {o e value : Expr} {f : Str} {pos pos' tpos : Pos} {ta tv : TE}

end

/-! ### isinstance -/
section
variable {X : Cx} {pins : List (Addr × Obj)} {σ : St} {H : Hp} {s : Shared} {A : Around} {E : Value → Shared → Prop} {Q : Value → Shared → Prop} {c : Value} {b : Bool}
/-- the type of a value, as the fragment's deciders take it; for an instance its class -/
inductive TyOf (K : PySem.W.Frag) (H : Hp) : V → Value → Prop where
  | non : TyOf K H .non (.type "NoneType")
  | bl (x : Bool) : TyOf K H (.bl x) (.type "bool")
  | int (i : Int) : TyOf K H (.int i) (.type "int")
  | str (x : Str) : TyOf K H (.str x) (.type "str")
  | flt (x : UInt64) : TyOf K H (.flt x) (.type "float")
  | lst {a : Addr} {xs : List V} (e : H a = some (.lst xs)) : TyOf K H (.ref a) (.type "list")
  | frz {a : Addr} {o : Obj} {xs : List V} (e : H a = some (.frz o (.lst xs))) : TyOf K H (.ref a) (.type "list")
  | tup {a : Addr} {xs : List V} (e : H a = some (.tup xs)) : TyOf K H (.ref a) (.type "tuple")
  | dK {a : Addr} {kvs : List (Key × V)} (e : H a = some (.dK kvs)) : TyOf K H (.ref a) (.type "dict")
  | dT {a : Addr} {kvs : List (List Key × V)} (e : H a = some (.dT kvs)) : TyOf K H (.ref a) (.type "dict")
  | ins {a C dx : Addr} {fs : List (Str × V)} (e : H a = some (.ins C dx fs)) (cl : Cls K C) (ha : PySem.W.findIn K (.ref C) "__class__" = some (some (.builtin "object.__class__")))
      (hn : PySem.W.specialIn K (.builtin "object.__class__") "__get__" = some (some (.builtin "getset_descriptor.__get__"))) (htk : PySem.W.takesIn K (.builtin "object.__class__") = some true)
      (hm : PySem.W.mroIn K C (.type "object") = some true) : TyOf K H (.ref a) (.ref C)
/-- isinstance(x, c) for one class c, a built-in or an own one: kitOne's answer -/
theorem isinst_ok {x : V} {u t : Value} (I : Inv X pins σ H s) (rx : RelV x u) (ty : TyOf X.K H x t) (e : PySem.W.kitOne X.K t c = some b) (h : ∀ tk, Q (.bool b) { s with toks := tk }) :
    wpAny (model X.prog X.w) A (call (.builtin "isinstance") [u, c]) Q E s := by
  cases ty with
  | non => cases (show u = Value.none from rx); exact PySem.W.kia_one PySem.W.kitx_none I.kIn True.intro e (fun z => nomatch z) h
  | bl y => cases (show u = Value.bool y from rx); exact PySem.W.kia_one PySem.W.kitx_bool I.kIn True.intro e (fun z => nomatch z) h
  | int i => obtain ⟨t, q⟩ := (show ∃ t, u = Value.int i t from rx); cases q; exact PySem.W.kia_one PySem.W.kitx_int I.kIn True.intro e (fun z => nomatch z) h
  | str y => obtain ⟨t, q⟩ := (show ∃ t, u = Value.str y t from rx); cases q; exact PySem.W.kia_one PySem.W.kitx_str I.kIn True.intro e (fun z => nomatch z) h
  | flt y => obtain ⟨t, q⟩ := (show ∃ t, u = Value.float y t from rx); cases q; exact PySem.W.kia_one PySem.W.kitx_float I.kIn True.intro e (fun z => nomatch z) h
  | @lst a xs ea =>
    cases (show u = Value.ref a from rx)
    obtain ⟨_, _, n, _, h1⟩ := (show ObjOk X.prog X.w H s.heap a (.lst xs) from I.hok a _ ea)
    exact PySem.W.kia_one PySem.W.kitx_list I.kIn ⟨_, h1, rfl⟩ e (fun z => nomatch z) h
  | @frz a ob xs ea =>
    cases (show u = Value.ref a from rx)
    obtain ⟨_, _, _, n, _, h1⟩ := (show ObjOk X.prog X.w H s.heap a (.frz ob (.lst xs)) from I.hok a _ ea)
    exact PySem.W.kia_one PySem.W.kitx_list I.kIn ⟨_, h1, rfl⟩ e (fun z => nomatch z) h
  | @tup a xs ea =>
    cases (show u = Value.ref a from rx)
    obtain ⟨_, _, _, p⟩ := (show ObjOk X.prog X.w H s.heap a (.tup xs) from I.hok a _ ea)
    obtain ⟨o, h1, h2, _⟩ := p
    exact PySem.W.kia_one PySem.W.kitx_tuple I.kIn ⟨o, h1, h2⟩ e (fun z => nomatch z) h
  | @dK a kvs ea =>
    cases (show u = Value.ref a from rx)
    obtain ⟨_, _, vs, _, p⟩ := (show ObjOk X.prog X.w H s.heap a (.dK kvs) from I.hok a _ ea)
    obtain ⟨o, es, ep, h1, h2, _⟩ := p
    exact PySem.W.kia_one PySem.W.kitx_dict I.kIn ⟨o, h1, h2.1⟩ e (fun z => nomatch z) h
  | @dT a kvs ea =>
    cases (show u = Value.ref a from rx)
    obtain ⟨_, _, xs, _, o, es, ep, h1, h2, _⟩ := (show ObjOk X.prog X.w H s.heap a (.dT kvs) from I.hok a _ ea)
    exact PySem.W.kia_one PySem.W.kitx_dict I.kIn ⟨o, h1, h2.1⟩ e (fun z => nomatch z) h
  | @ins a C dx fs ea cl ha hn htk hm =>
    cases (show u = Value.ref a from rx)
    obtain ⟨mA, O, _⟩ := ins_get I.hok ea
    obtain ⟨od, J, _⟩ := O.look
    exact PySem.W.kia_one (PySem.W.kitx_own (cl.get _) cl.hd ha hn htk hm) I.kIn J e (fun z => nomatch z) h
end
end L2

namespace L2
open PySem PySem.Spec PyProof.Rows

/-! ### room -/
structure Room (k : Nat) (A : Around) : Prop where
  hd : A.handled = none
  dp : A.depth + 3 * k + 5 < recursionLimit
  un : A.units + 16 * k + 200 < cLine
theorem Room.mono {j k : Nat} {A : Around} (r : Room k A) (h : j ≤ k) : Room j A := ⟨r.hd, by have := r.dp; omega, by have := r.un; omega⟩
theorem Room.deeper {k : Nat} {A : Around} (r : Room (k + 1) A) (env : Env) : Room k (A.deeper env) :=
  ⟨r.hd, by have := r.dp; show A.depth + 1 + 3 * k + 5 < _; omega, by have := r.un; show A.units + 3 + 16 * k + 200 < _; omega⟩
theorem Room.depth {k : Nat} {A : Around} (r : Room k A) : A.depth < recursionLimit := by have := r.dp; omega
theorem Room.units {k : Nat} {A : Around} (r : Room k A) : A.units + 64 < cLine := by have := r.un; omega

/-! ### argument lists and displays -/
def tNil : TA := fun _ H Q => Q [] H
def tCons (ta : TE) (tr : TA) : TA := fun σ H Q => ta σ H fun x H1 => tr σ H1 fun xs H2 => Q (x :: xs) H2
section
variable {X : Cx} {e : Expr} {es : List Expr} {te : TE} {t : TA} {pos : Pos}
theorem pa_nil : PA X [] tNil := fun _ _ _ _ H Q I h => Calls.spliced_nil ⟨[], H, I, .nil, h⟩
theorem pa_cons (ha : PE X e te) (hr : PA X es t) (hs : starEach (e :: es) X.env = (false, eval e X.env) :: starEach es X.env := by rfl) : PA X (e :: es) (tCons te t) := by
  intro pos pins s σ H Q I h
  rw [hs]
  show wpAny _ _ (spliced ((false, eval e X.env) :: backTo pos (starEach es X.env))) _ _ s
  refine Calls.spliced_cons (thn (ha pins s σ H _ I h) fun u s1 hh => ?_)
  obtain ⟨x, H1, I1, r1, q1⟩ := hh
  exact thn (hr pos pins s1 σ H1 _ I1 q1) fun us s2 ⟨xs, H2, I2, r2, q2⟩ => ⟨x :: xs, H2, I2, .cons r1 r2, q2⟩

/-- a tuple, a list of written items -/
def tTup (t : TA) : TE := fun σ H Q => t σ H fun xs H1 => xs.length ≤ sizeLine ∧ ∀ p, H1 p = none → Q (.ref p) (upd H1 p (.tup xs))
def tLst (t : TA) : TE := fun σ H Q => t σ H fun xs H1 => xs.length ≤ sizeLine ∧ ∀ p, H1 p = none → Q (.ref p) (upd H1 p (.lst xs))
theorem pe_tup {x1} (h : PA X es t) : PE X (.Tuple es x1 pos) (tTup t) := by
  intro pins s σ H Q I hq
  refine wpAny_Tuple_spliced (thn (h pos pins s σ H _ I hq) fun us s1 ⟨xs, H1, I1, r, z, q⟩ => ⟨by rw [← r.length]; exact z, ?_⟩)
  have hf : H1 s1.heap.objs.size = none := I1.hok.fresh (Nat.le_refl _)
  refine ⟨.ref s1.heap.objs.size, upd H1 s1.heap.objs.size (.tup xs), I1.laid (t' := s1.toks) (fun b u e => Heap.get?_push_of_some _ e) (Nat.le_refl _) ?_, rfl, q _ hf⟩
  exact ⟨z, us, r, ⟨_, Heap.get?_push_size _ rfl, rfl, _, rfl⟩⟩
theorem pe_lst (h : PA X es t) : PE X (.List es pos) (tLst t) := by
  intro pins s σ H Q I hq
  refine wpAny_List_spliced (thn (h pos pins s σ H _ I hq) fun us s1 ⟨xs, H1, I1, r, z, q⟩ => ⟨by rw [← r.length]; exact z, ?_⟩)
  have hf : H1 s1.heap.objs.size = none := I1.hok.fresh (Nat.le_refl _)
  refine ⟨.ref s1.heap.objs.size, upd H1 s1.heap.objs.size (.lst xs), I1.laid (t' := s1.toks) (fun b u e => Heap.get?_push_of_some _ e) (Nat.le_refl _) ?_, rfl, q _ hf⟩
  exact ⟨z, us, 0, r, Heap.get?_push_size _ rfl⟩
end

/-! ### what a def promises -/
/-- a def's promise: the bound arguments in the parameters' order, the heap, the wanted end, the wanted exception -/
abbrev Sp := List V → Hp → VK → XK → Prop
/-- how an exception lies behind a call (file 08 gives it): the callers' frames, abstract heap and state ahead of the call, the wish, the exception, the state -/
abbrev CXT := List Env → Hp → Shared → XK → Value → Shared → Prop

/-- the state at a call -/
structure Env0 (P : Program) (w : World) (K : PySem.W.Frag) (mg : Str → Option Value) (base : Heap) (A : Around) (outer : List Env) (s : Shared) (H : Hp) : Prop where
  frames : A.frames = some outer
  mod : Mod K mg base
  bs : ∀ b o, base.get? b = some o → s.heap.get? b = some o ∧ H b = none
  bsz : base.objs.size ≤ s.heap.objs.size
  funs : s.heap.FunFrames base outer
  frf : ∀ b ∈ frs outer, H b = none
  hok : HOk P w H s.heap
  bare : AllBare s.gens
/-- a call's end -/
def CE (outer : List Env) (P : Program) (w : World) (H : Hp) (s : Shared) (Q : VK) (u : Value) (s' : Shared) : Prop :=
  ∃ v H', s'.os = s.os ∧ AllBare s'.gens ∧ Un (frs outer) [] H H' s.heap s'.heap ∧ HOk P w H' s'.heap ∧ RelV v u ∧ Q v H'
def CR (CX : CXT) (outer : List Env) (P : Program) (w : World) (H : Hp) (s : Shared) (Q : VK) (E : XK) (r : Result) (s' : Shared) : Prop :=
  match r with
  | .ok (.ret u) => CE outer P w H s Q u s'
  | .ok _ => False
  | .error e => CX outer H s E e s'
structure FnOk (P : Program) (w : World) (K : PySem.W.Frag) (mg : Str → Option Value) (base : Heap) (CX : CXT) (k : Nat) (f : Addr) (fd : FuncData) (ps : List Str) (sp : Sp) : Prop where
  len : ∀ vs H Q E, sp vs H Q E → vs.length = ps.length
  run : ∀ (A : Around) (outer : List Env) (s : Shared) (H : Hp) (args : Args) (us : List Value) (vs : List V) (Q : VK) (E : XK), Room k A → Env0 P w K mg base A outer s H → BindsTo s fd args (ps.zip us) → Vals vs us → sp vs H Q E →
    codeAny (model P w) A (.call (.ref f) args) (CR CX outer P w H s Q E) s


section
variable {X : Cx} {pins : List (Addr × Obj)} {σ : St} {H : Hp} {s s' : Shared}
/-- from a body: what a callee wants -/
theorem Inv.env0 (I : Inv X pins σ H s) : Env0 X.prog X.w X.K X.mg X.base X.A X.stack s H :=
  ⟨I.ok.frames, I.ok.mod, I.bs, Nat.le_trans I.ok.bsz I.sz, I.stack, I.stkFree, I.hok, I.bare⟩
/-- behind a call -/
theorem Inv.after {Q : VK} {u : Value} (I : Inv X pins σ H s) (h : CE X.stack X.prog X.w H s Q u s') : EP X pins σ Q u s' := by
  obtain ⟨v, H', os, bare, un, hok, r, q⟩ := h
  obtain ⟨hh, g, d, t, os'⟩ := s'
  obtain rfl : os' = s.os := os
  exact ⟨v, H', I.call (h' := hh) (g' := g) (d' := d) (t' := t) (ch := []) un hok bare (fun b z => absurd z (by simp)), r, q⟩
end

/-! ### calls -/
/-- f(..): the written arguments, then the defaults dvs; E: what is wanted of an exception -/
def tCall (sp : Sp) (dvs : List V) (E : XK) (t : TA) : TE := fun σ H Q => t σ H fun vs H1 => sp (vs ++ dvs) H1 Q E

/-- how the parameters are bound: us the positional arguments, kw the keywords' values by name, ds the defaults that fill up -/
def Binds (K : PySem.W.Frag) (fd : FuncData) (ps : List Str) (ds : List Value) : Prop :=
  ∀ (s : Shared) (us : List Value), K.In s.heap → (us ++ ds).length = ps.length → BindsTo s fd ⟨us, []⟩ (ps.zip (us ++ ds))
/-- every parameter is given -/
theorem Binds.all {K : PySem.W.Frag} {fd : FuncData} {ps : List Str} (h : ∀ us : List Value, us.length = ps.length → bindArgs fd ⟨us, []⟩ = pure (ps.zip us)) : Binds K fd ps [] := fun s us _ hl => by
  rw [List.append_nil] at hl ⊢
  exact .of_eq (h us hl)

/-- an exception of a callee reaches what this body wants of exceptions -/
def Passes (CX : CXT) (X : Cx) (E : XK) : Prop := ∀ (pins : List (Addr × Obj)) (σ : St) (H : Hp) (s : Shared) (e : Value) (s' : Shared), Inv X pins σ H s → CX X.stack H s E e s' → X.xe e s'

section
variable {X : Cx} {CX : CXT} {k : Nat} {f C : Addr} {fd : FuncData} {ps : List Str} {sp : Sp} {dvs : List V} {ds : List Value} {E : XK} {x m : Str} {p pos apos : Pos} {e o : Expr} {es : List Expr} {ta : TE} {t : TA}

/-- the callee runs -/
theorem run_fn {pins : List (Addr × Obj)} {σ : St} {H : Hp} {s : Shared} {Q : VK} {us : List Value} {vs : List V} (F : FnOk X.prog X.w X.K X.mg X.base CX k f fd ps sp) (hr : Room k X.A) (hb : Binds X.K fd ps ds) (hd : Vals dvs ds) (hx : Passes CX X E)
    (I : Inv X pins σ H s) (r : Vals vs us) (h : sp (vs ++ dvs) H Q E) : wpAny (model X.prog X.w) X.A (call (.ref f) us) (EP X pins σ Q) X.xe s := by
  have r2 : Vals (vs ++ dvs) (us ++ ds) := r.append hd
  have hl : (us ++ ds).length = ps.length := by rw [← r2.length]; exact F.len _ _ _ _ h
  refine wpAny_call (codeAny_mono (F.run X.A X.stack s H ⟨us, []⟩ (us ++ ds) (vs ++ dvs) Q E hr I.env0 (hb s us I.kIn hl) r2 h) fun r s' hq => ?_)
  cases r with
  | error e => exact hx pins σ H s e s' I hq
  | ok fl =>
    cases fl with
    | ret u => exact I.after hq
    | next => exact False.elim hq
    | brk => exact False.elim hq
    | cont => exact False.elim hq

theorem pe_call (F : FnOk X.prog X.w X.K X.mg X.base CX k f fd ps sp) (hr : Room k X.A) (hg : Gl X x) (hm : X.mg x = some (.ref f)) (hk : PySem.W.keepIn X.K (.ref f) = true) (hb : Binds X.K fd ps ds) (hd : Vals dvs ds) (hx : Passes CX X E)
    (ha : PA X (e :: es) t) (hdb : (x == ("__debug__" : Str)) = false := by decide) (he : starEach (e :: es) X.env = (false, eval e X.env) :: starEach es X.env := by rfl) (hpl : (backTo pos (starEach es X.env)).any (·.1) = false := by rfl) :
    PE X (.Call (.Name x p) (e :: es) [] pos) (tCall sp dvs E t) := by
  intro pins s σ H Q I h
  refine wpAny_Call_Name_kw (ld_glob I hg hm ?_ hdb)
  refine PySem.W.callWith_K (h₀ := X.base) I.ok.mod.kin hk (thn (ha pos pins s σ H _ I h) fun us s1 ⟨vs, H1, I1, r, q⟩ => ⟨I1.kIn, ?_⟩) he hpl
  exact run_fn F hr hb hd hx I1 r q



end

/-! ### keywords -/
section
variable {X : Cx} {CX : CXT} {k : Nat} {f C : Addr} {fd : FuncData} {ps ks : List Str} {sp : Sp} {E : XK} {x m : Str} {p pos apos kpos : Pos} {e o : Expr} {es : List Expr} {kws : List Keyword} {te ta : TE} {t tk : TA} {nm : Option Str}

variable {g : List Value → List Value → List Value} {gV : List V → List V → List V}
end

/-! ### a def's body keeps its promise -/
/-- names: the parameters first -/
structure FnScope (N P : List Str) (sc : Scope) : Prop where
  kind : sc.kind = .function
  co : sc.isCoroutine = false
  gen : sc.isGenerator = false
  nd : N.Nodup
  pre : N.take P.length = P
  par : ∀ x ∈ P, sc.names.lookup x = some .local ∨ sc.names.lookup x = some .cell
  nofree : ∀ y ∈ sc.names, y.2 ≠ .free

theorem bindL_out {kindOf : Str → Option NameKind} {x : Str} : ∀ {binds : List (Str × Value)} {m : Str → Option Value}, (∀ v, (x, v) ∉ binds) → bindL kindOf binds m x = m x
  | [], _, _ => rfl
  | (n, v) :: r, m, h => by
    unfold bindL
    rw [bindL_out fun w hw => h w (List.mem_cons_of_mem _ hw)]
    split
    · have : x ≠ n := by rintro rfl; exact h v List.mem_cons_self
      simp [this]
    · rfl
theorem bindC_out {kindOf : Str → Option NameKind} {x : Str} : ∀ {binds : List (Str × Value)} {m : Str → Option Value}, (∀ v, (x, v) ∉ binds) → bindC kindOf binds m x = m x
  | [], _, _ => rfl
  | (n, v) :: r, m, h => by
    unfold bindC
    rw [bindC_out fun w hw => h w (List.mem_cons_of_mem _ hw)]
    split
    · rfl
    · have : x ≠ n := by rintro rfl; exact h v List.mem_cons_self
      simp [this]
theorem bindL_get {kindOf : Str → Option NameKind} {x : Str} {v : Value} : ∀ {P : List Str} {vs : List Value} {i : Nat} {m : Str → Option Value}, P.Nodup → P[i]? = some x → vs[i]? = some v → kindOf x = some .local →
    bindL kindOf (P.zip vs) m x = some v
  | [], _, _, _, _, h, _, _ => by simp at h
  | _ :: _, [], _, _, _, _, h, _ => by simp at h
  | p :: P, w :: vs, 0, m, nd, h1, h2, hk => by
    simp at h1 h2; subst h1; subst h2
    show bindL kindOf ((p, w) :: P.zip vs) m p = _
    unfold bindL
    rw [bindL_out fun v hv => (List.nodup_cons.mp nd).1 (List.of_mem_zip hv).1, if_pos hk]
    simp
  | p :: P, w :: vs, i + 1, m, nd, h1, h2, hk => by
    show bindL kindOf ((p, w) :: P.zip vs) m x = _
    unfold bindL
    exact bindL_get (i := i) (List.nodup_cons.mp nd).2 (by simpa using h1) (by simpa using h2) hk
theorem bindC_get {kindOf : Str → Option NameKind} {x : Str} {v : Value} : ∀ {P : List Str} {vs : List Value} {i : Nat} {m : Str → Option Value}, P.Nodup → P[i]? = some x → vs[i]? = some v → kindOf x ≠ some .local →
    bindC kindOf (P.zip vs) m x = some v
  | [], _, _, _, _, h, _, _ => by simp at h
  | _ :: _, [], _, _, _, _, h, _ => by simp at h
  | p :: P, w :: vs, 0, m, nd, h1, h2, hk => by
    simp at h1 h2; subst h1; subst h2
    show bindC kindOf ((p, w) :: P.zip vs) m p = _
    unfold bindC
    rw [bindC_out fun v hv => (List.nodup_cons.mp nd).1 (List.of_mem_zip hv).1, if_neg hk]
    simp
  | p :: P, w :: vs, i + 1, m, nd, h1, h2, hk => by
    show bindC kindOf ((p, w) :: P.zip vs) m x = _
    unfold bindC
    exact bindC_get (i := i) (List.nodup_cons.mp nd).2 (by simpa using h1) (by simpa using h2) hk

/-- the names' values at the entry -/
def start (N : List Str) (vs : List V) : St := vs.map some ++ List.replicate (N.length - vs.length) none

/-- the context of a def's body, at its entry; an exception leaves the frame, then lies as CX says -/
def cxOf (CX : CXT) (P : Program) (w : World) (K : PySem.W.Frag) (mg : Str → Option Value) (base : Heap) (N : List Str) (qual : Str) (scope : Scope) (f : Addr) (cd : Value) (A : Around) (outer : List Env) (s : Shared) (H : Hp) (E : XK) : Cx where
  prog := P
  w := w
  K := K
  mg := mg
  base := base
  A := A.deeper (envOfC qual scope s.heap.objs.size f cd)
  N := N
  s₀ := s
  H₀ := H
  env := envOfC qual scope s.heap.objs.size f cd
  outer := outer
  stack := envOfC qual scope s.heap.objs.size f cd :: outer
  ex := []
  calm := true
  fn := fun _ => true
  pn := []
  xe := fun e s' => wpAny (model P w) (A.deeper (envOfC qual scope s.heap.objs.size f cd)) (leaving (envOfC qual scope s.heap.objs.size f cd) e) (fun _ s'' => CX outer H s E e s'') (fun e' s'' => CX outer H s E e' s'') s'

theorem cell_has {sc : Scope} {n : Nat} {x : Str} (h : sc.names.lookup x = some .cell) : ∃ c, (cellsFrom n sc.names []).lookup x = some c := by
  have q := PySem.W.cellsFrom_some sc.names n [] (.inl h)
  exact Option.isSome_iff_exists.mp q

theorem inv_start {CX : CXT} {P : Program} {w : World} {K : PySem.W.Frag} {mg : Str → Option Value} {base : Heap} {N ps : List Str} {qual : Str} {scope : Scope} {f : Addr} {cd : Value} {A : Around} {outer : List Env} {s s1 : Shared} {H : Hp} {E : XK} {us : List Value} {vs : List V}
    (S : FnScope N ps scope) (hd : A.handled = none) (e0 : Env0 P w K mg base A outer s H) (hl : vs.length = ps.length) (r : Vals vs us)
    (x : InCallC s s.heap.objs.size (bindL (envOfC qual scope s.heap.objs.size f cd).kindOf (ps.zip us) fun _ => none) (cellsFrom (s.heap.objs.size + 1) scope.names []) (bindC (envOfC qual scope s.heap.objs.size f cd).kindOf (ps.zip us) fun _ => none) s1) :
    Inv (cxOf CX P w K mg base N qual scope f cd A outer s H E) [] (start N vs) H s1 := by
  have hpl : ps.length ≤ N.length := by have := congrArg List.length S.pre; rw [List.length_take] at this; omega
  obtain ⟨h1, tk, rfl, hk⟩ := x.done
  have noA : ∀ b : Addr, b ∉ (cxOf CX P w K mg base N qual scope f cd A outer s H E).ex := fun b z => absurd (show b ∈ ([] : List Addr) from z) (by simp)
  refine ⟨⟨e0.mod, S.kind, rfl, rfl, Nat.le_refl _, fun y z c h1 h2 => ?_, fun y hy => ?_, fun y c _ h => ?_, fun _ => hd, Around.frames_deeper e0.frames, .inr ⟨rfl, rfl⟩, fun b z => absurd z (noA b), e0.bs, e0.bsz, fun b _ _ => noA b, fun b z => absurd z (noA b), e0.funs, e0.frf⟩,
    rfl, e0.bare, Un.kept hk, ⟨_, x.toInCall.ns, fun i y v h1 h2 h3 => ?_⟩, fun y c h => ⟨_, x.cell y c h⟩, e0.hok.fresh (Nat.le_refl _), fun y c h => ?_, fun p hp => absurd (show p ∈ ([] : List (Addr × Obj)) from hp) (by simp), e0.hok.kept hk, ?_⟩
  · exact name_of_addr x.apart (PySem.mem_of_lookup h1) (PySem.mem_of_lookup h2)
  · have hy : scope.names.lookup y = some .cell ∨ scope.names.lookup y = some .free := hy
    rcases hy with hy | hy
    · exact cell_has hy
    · exact absurd rfl (S.nofree _ (PySem.mem_of_lookup hy))
  · exact Nat.le_of_lt (x.above y c (PySem.mem_of_lookup h))
  · have hi : i < vs.length := by
      unfold start at h2
      by_cases hi : i < vs.length
      · exact hi
      · rw [List.getElem?_append_right (by simpa using hi)] at h2
        rw [List.getElem?_replicate] at h2
        split at h2 <;> cases h2
    have ha : vs[i]? = some v := by
      unfold start at h2
      rw [List.getElem?_append_left (by simpa using hi), List.getElem?_map] at h2
      cases e : vs[i]? with
      | none => rw [e] at h2; cases h2
      | some a => rw [e] at h2; cases h2; rfl
    obtain ⟨u, hu, rv⟩ := r.get ha
    have hp : ps[i]? = some y := by
      rw [← S.pre, List.getElem?_take_of_lt (by omega)]; exact h1
    have ndP : ps.Nodup := by rw [← S.pre]; exact S.nd.sublist (List.take_sublist _ _)
    refine ⟨u, rv, ?_⟩
    rcases S.par y (List.mem_of_getElem? hp) with k | k
    · exact .inl ⟨k, bindL_get ndP hp hu k⟩
    · obtain ⟨c, e⟩ := cell_has (n := s.heap.objs.size + 1) k
      refine .inr ⟨.inl k, c, e, ?_⟩
      have q := x.cell y c e
      rw [bindC_get ndP hp hu (by show scope.names.lookup y ≠ _; rw [k]; decide)] at q
      exact q
  · exact e0.hok.fresh (Nat.le_of_lt (x.above y c (PySem.mem_of_lookup h)))
  · unfold start
    show _ = N.length
    rw [List.length_append, List.length_map, List.length_replicate]
    omega

/-- THE RULE: a def (or a method) of the text, by its body. The body's reading t is chosen for each entry; it is run at the parameters' values -/
theorem fn_of {CX : CXT} {P : Program} {w : World} {K : PySem.W.Frag} {mg : Str → Option Value} {base : Heap} {k : Nat} {f : Addr} {name qual : Str} {params : Arguments} {body : List Stmt} {scope : Scope} {dV kV doc pm cdv ct oc : Value} {an od : Option Addr}
    {osl : Array (Option Value)} {N ps : List Str} {sp : Sp} (lk : K.lookup f = some ⟨oc, od, .func (PySem.W.fnOf name qual params body scope dV kV doc pm an cdv ct), osl⟩) (hcd : PySem.W.codeIn K cdv qual = true) (S : FnScope N ps scope)
    (len : ∀ vs H Q E, sp vs H Q E → vs.length = ps.length)
    (hbody : ∀ (A : Around) (outer : List Env) (s : Shared) (H : Hp) (vs : List V) (Q : VK) (E : XK), Room k (A.deeper (envOfC qual scope s.heap.objs.size f cdv)) → sp vs H Q E →
      ∃ t, PSs (cxOf CX P w K mg base N qual scope f cdv A outer s H E) body t ∧ t { nx := fun _ H' => Q .non H', rt := Q } (start N vs) H) :
    FnOk P w K mg base CX (k + 1) f (PySem.W.fnOf name qual params body scope dV kV doc pm an cdv ct) ps sp := by
  refine ⟨len, fun A outer s H args us vs Q E hr e0 hb r hsp => ?_⟩
  have hl := len _ _ _ _ hsp
  have KX : K.In s.heap := e0.mod.kin.keeps fun b o e => (e0.bs b o e).1
  have lim : s.heap.NoLimit := e0.mod.nolimit.keeps fun b o e => (e0.bs b o e).1
  have hkind : ∀ y ∈ ps.zip us, scope.names.lookup y.1 = some .local ∨ (scope.names.lookup y.1 = some .cell ∧ ((cellsFrom (s.heap.objs.size + 1) scope.names []).lookup y.1).isSome = true) := fun ⟨n, v⟩ hy => by
    rcases S.par n (List.of_mem_zip hy).1 with q | q
    · exact .inl q
    · exact .inr ⟨q, PySem.W.cellsFrom_some _ _ _ (.inl q)⟩
  refine codeAny_call_function hr.depth (KX _ _ lk) rfl S.co S.gen rfl (PySem.W.codeRec_of KX hcd) (hb _ _ _ _ ?_)
  refine wpAny_newFunctionEnv_cells S.kind hkind fun env he s1 x => ?_
  subst he
  refine ⟨lim.keeps x.toInCall.keep, codeAny_func ?_⟩
  obtain ⟨t, ht, hq⟩ := hbody A outer s H vs Q E (hr.deeper _) hsp
  have I : Inv (cxOf CX P w K mg base N qual scope f cdv A outer s H E) [] (start N vs) H s1 := inv_start S hr.hd e0 hl r x
  refine wpAny_mono (ht [] s1 (start N vs) H _ I hq) (fun fl s' hs => ?_) fun e s' hs => hs
  have fin : ∀ {σ' : St} {H' : Hp} {v : V} {u : Value}, Inv (cxOf CX P w K mg base N qual scope f cdv A outer s H E) [] σ' H' s' → RelV v u → Q v H' → CE outer P w H s Q u s' :=
    fun {σ' H' v u} J rv q => ⟨v, H', J.os, J.bare, J.base, J.hok, rv, q⟩
  cases fl with
  | ret u =>
    obtain ⟨v, σ', H', J, rv, q⟩ := hs
    exact fin J rv q
  | next =>
    obtain ⟨σ', H', J, q⟩ := hs
    exact fin (v := V.non) (u := Value.none) J rfl q
  | brk =>
    obtain ⟨_, _, _, q⟩ := hs
    exact False.elim q
  | cont =>
    obtain ⟨_, _, _, q⟩ := hs
    exact False.elim q
end L2

namespace L2
open PySem PySem.Spec PyProof.Rows
section
variable {X : Cx} {x : Str} {p pos : Pos} {e : Expr} {es : List Expr} {t : TA} {id T : String} {r : List V → Hp → VK → Prop}

def tCB (r : List V → Hp → VK → Prop) (t : TA) : TE := fun σ H Q => t σ H fun vs H1 => r vs H1 Q
/-- f(e, ..), f a built-in function -/
theorem pe_callB (hc : CallR X (.builtin id) r) (hg : Gl X x) (hm : X.mg x = none) (hv : bootBuiltins x = some (.builtin id)) (ha : PA X (e :: es) t) (hn : x ≠ "__name__" := by decide) (hdb : (x == ("__debug__" : Str)) = false := by decide)
    (he : starEach (e :: es) X.env = (false, eval e X.env) :: starEach es X.env := by rfl) (hpl : (backTo pos (starEach es X.env)).any (·.1) = false := by rfl) : PE X (.Call (.Name x p) (e :: es) [] pos) (tCB r t) := by
  intro pins s σ H Q I h
  refine wpAny_Call_Name_kw (ld_blt I hg hm hv ?_ hn hdb)
  exact PyProof.Rows.callWith_builtin1 (thn (ha pos pins s σ H _ I h) fun us s1 ⟨vs, H1, I1, r1, q1⟩ => hc pins s1 σ H1 vs us Q I1 r1 q1) he hpl
/-- T(e, ..), T a built-in type -/
theorem pe_callTy (hc : CallR X (.type T) r) (hg : Gl X x) (hm : X.mg x = none) (hv : bootBuiltins x = some (.type T)) (ha : PA X (e :: es) t) (hn : x ≠ "__name__" := by decide) (hdb : (x == ("__debug__" : Str)) = false := by decide)
    (he : starEach (e :: es) X.env = (false, eval e X.env) :: starEach es X.env := by rfl) (hpl : (backTo pos (starEach es X.env)).any (·.1) = false := by rfl) : PE X (.Call (.Name x p) (e :: es) [] pos) (tCB r t) := by
  intro pins s σ H Q I h
  refine wpAny_Call_Name_kw (ld_blt I hg hm hv ?_ hn hdb)
  exact PyProof.Rows.callWith_type1 (thn (ha pos pins s σ H _ I h) fun us s1 ⟨vs, H1, I1, r1, q1⟩ => hc pins s1 σ H1 vs us Q I1 r1 q1) he hpl
end
end L2

namespace L2
open PySem PySem.Spec PyProof.Rows

/-! ### lists of pairs as tables -/
section
variable {κ : Type} [DecidableEq κ]
def valV (kvs : List (κ × V)) (k : κ) : Option V := (kvs.find? fun kv => decide (kv.1 = k)).map (·.2)
/-- in its place, or at the end -/
def putK (kvs : List (κ × V)) (k : κ) (v : V) : List (κ × V) :=
  if (kvs.any fun kv => decide (kv.1 = k)) = true then kvs.map (fun kv => if kv.1 = k then (kv.1, v) else kv) else kvs ++ [(k, v)]

theorem valV_pos {p : κ × V} {r : List (κ × V)} {k : κ} (e : p.1 = k) : valV (p :: r) k = some p.2 := by simp [valV, List.find?_cons, e]
theorem valV_neg {p : κ × V} {r : List (κ × V)} {k : κ} (e : ¬ p.1 = k) : valV (p :: r) k = valV r k := by simp [valV, List.find?_cons, e]
theorem valV_any (k : κ) : ∀ kvs : List (κ × V), (kvs.any fun kv => decide (kv.1 = k)) = (valV kvs k).isSome
  | [] => rfl
  | p :: r => by
    rw [List.any_cons]
    by_cases e : p.1 = k
    · simp only [valV_pos e, decide_eq_true e, Bool.true_or, Option.isSome_some]
    · rw [valV_neg e, decide_eq_false e, Bool.false_or]; exact valV_any k r
theorem valV_map (k j : κ) (y : V) : ∀ kvs : List (κ × V), valV (kvs.map fun kv => if kv.1 = k then (kv.1, y) else kv) j = (valV kvs j).map fun x => if j = k then y else x
  | [] => rfl
  | p :: r => by
    have ih := valV_map k j y r
    rw [List.map_cons]
    by_cases h : p.1 = k
    · rw [if_pos h]
      by_cases e : p.1 = j
      · rw [valV_pos (p := (p.1, y)) e, valV_pos e, Option.map_some, if_pos (e.symm.trans h)]
      · rw [valV_neg (p := (p.1, y)) e, valV_neg e, ih]
    · rw [if_neg h]
      by_cases e : p.1 = j
      · rw [valV_pos (p := p) e, valV_pos e, Option.map_some, if_neg (fun z => h (e.trans z))]
      · rw [valV_neg (p := p) e, valV_neg e, ih]
theorem valV_snoc (k j : κ) (y : V) : ∀ kvs : List (κ × V), valV kvs k = none → valV (kvs ++ [(k, y)]) j = if j = k then some y else valV kvs j
  | [], _ => by
    by_cases e : k = j
    · rw [if_pos e.symm]; exact valV_pos (p := (k, y)) e
    · rw [if_neg (fun z => e z.symm)]; exact valV_neg (p := (k, y)) e
  | p :: r, hn => by
    rw [List.cons_append]
    have hk : ¬ p.1 = k := fun z => by rw [valV_pos z] at hn; cases hn
    rw [valV_neg hk] at hn
    have ih := valV_snoc k j y r hn
    by_cases e : p.1 = j
    · rw [valV_pos e, valV_pos e, if_neg (fun z => hk (e.trans z))]
    · rw [valV_neg e, valV_neg e, ih]
theorem valV_put (kvs : List (κ × V)) (k j : κ) (y : V) : valV (putK kvs k y) j = if j = k then some y else valV kvs j := by
  unfold putK
  by_cases a : (kvs.any fun kv => decide (kv.1 = k)) = true
  · rw [if_pos a, valV_map]
    rw [valV_any] at a
    by_cases e : j = k
    · obtain ⟨x, hx⟩ := Option.isSome_iff_exists.mp a
      rw [if_pos e, e, hx, Option.map_some, if_pos rfl]
    · rw [if_neg e]
      cases valV kvs j with
      | none => rfl
      | some x => rw [Option.map_some, if_neg e]
  · rw [if_neg a]
    refine valV_snoc k j y kvs ?_
    rw [valV_any] at a
    cases q : valV kvs k with
    | none => rfl
    | some x => rw [q] at a; exact (a rfl).elim
theorem length_putK (kvs : List (κ × V)) (k : κ) (v : V) : (putK kvs k v).length ≤ kvs.length + 1 := by
  unfold putK
  split
  · rw [List.length_map]; omega
  · rw [List.length_append, List.length_cons, List.length_nil]; omega

theorem RelO.isSome_eq {o : Option V} {u : Option Value} (r : RelO o u) : o.isSome = u.isSome := by
  cases o with
  | none => cases u with
    | none => rfl
    | some _ => exact (show False from r).elim
  | some _ => cases u with
    | none => exact (show False from r).elim
    | some _ => rfl

/-- raw tables of the same keys -/
theorem KV.val {kvs : List (κ × V)} {vs : List (κ × Value)} (r : KV kvs vs) (k : κ) : RelO (valV kvs k) (valueAt vs k) := by
  unfold KV at r
  induction r with
  | nil => exact True.intro
  | @cons p q ps qs h t ih =>
    obtain ⟨h1, h2⟩ := h
    by_cases e : p.1 = k
    · have e' : q.1 = k := h1.symm.trans e
      have b : valueAt (q :: qs) k = some q.2 := by simp [valueAt, List.find?_cons, e']
      rw [valV_pos e, b]; exact h2
    · have e' : ¬ q.1 = k := fun z => e (h1.trans z)
      have b : valueAt (q :: qs) k = valueAt qs k := by simp [valueAt, List.find?_cons, e']
      rw [valV_neg e, b]; exact ih
theorem KV.any {kvs : List (κ × V)} {vs : List (κ × Value)} (r : KV kvs vs) (k : κ) : (kvs.any fun kv => decide (kv.1 = k)) = vs.any fun kv => decide (kv.1 = k) := by
  unfold KV at r
  induction r with
  | nil => rfl
  | cons h t ih => rw [List.any_cons, List.any_cons, ih, h.1]
theorem KV.repl {kvs : List (κ × V)} {vs : List (κ × Value)} (r : KV kvs vs) (k : κ) {y : V} {u : Value} (ry : RelV y u) :
    KV (kvs.map fun kv => if kv.1 = k then (kv.1, y) else kv) (vs.map fun kv => if kv.1 = k then (kv.1, u) else kv) := by
  unfold KV at r ⊢
  induction r with
  | nil => exact .nil
  | @cons p q ps qs h t ih =>
    rw [List.map_cons, List.map_cons]
    refine .cons ?_ ih
    obtain ⟨h1, h2⟩ := h
    by_cases e : p.1 = k
    · rw [if_pos e, if_pos (h1.symm.trans e)]; exact ⟨h1, ry⟩
    · rw [if_neg e, if_neg (fun z => e (h1.trans z))]; exact ⟨h1, h2⟩
theorem KV.put {kvs : List (κ × V)} {vs : List (κ × Value)} (r : KV kvs vs) (k : κ) {y : V} {u : Value} (ry : RelV y u) : KV (putK kvs k y) (stored vs k u) := by
  unfold putK stored
  rw [r.any k]
  by_cases e : (vs.any fun kv => decide (kv.1 = k)) = true
  · rw [if_pos e, if_pos e]; exact r.repl k ry
  · rw [if_neg e, if_neg e]; exact Paired.snoc r ⟨rfl, ry⟩
theorem KV.keys {kvs : List (κ × V)} {vs : List (κ × Value)} (r : KV kvs vs) : kvs.map (·.1) = vs.map (·.1) := by
  unfold KV at r
  induction r with
  | nil => rfl
  | cons h t ih => rw [List.map_cons, List.map_cons, ih, h.1]
theorem KV.length {kvs : List (κ × V)} {vs : List (κ × Value)} (r : KV kvs vs) : kvs.length = vs.length := Paired.length r
end


/-! ### a tracked dict, its keys ints and texts or tuples of these -/
theorem kV_is {P : Program} {w : World} {k : Key} {u : Value} (r : RelV (kV k) u) : (mixKind P w).is k u = true := by
  cases k with
  | inl i => obtain ⟨t, e⟩ := (show ∃ t, u = Value.int i t from r); subst e; exact mixKind_int P w i t
  | inr x => obtain ⟨t, e⟩ := (show ∃ t, u = Value.str x t from r); subst e; exact mixKind_str P w x t
theorem kV_inj {a b : Key} (e : kV a = kV b) : a = b := by
  cases a with
  | inl i => cases b with
    | inl j => have e' : V.int i = V.int j := e; injection e' with e'; rw [e']
    | inr y => exact nomatch (show V.int i = V.str y from e)
  | inr x => cases b with
    | inl j => exact nomatch (show V.str x = V.int j from e)
    | inr y => have e' : V.str x = V.str y := e; injection e' with e'; rw [e']
theorem kVs_inj : ∀ {a b : List Key}, a.map kV = b.map kV → a = b
  | [], [], _ => rfl
  | [], _ :: _, e => by simp at e
  | _ :: _, [], e => by simp at e
  | x :: xs, y :: ys, e => by
    rw [List.map_cons, List.map_cons] at e
    injection e with e1 e2
    rw [kV_inj e1, kVs_inj e2]
theorem items_are {P : Program} {w : World} : ∀ {ks : List Key} {us : List Value}, Vals (ks.map kV) us → ItemsAre (mixKind P w) ks us
  | [], _, r => by rw [List.map_nil] at r; cases r; exact .nil
  | k :: ks, _, r => by
    rw [List.map_cons] at r
    cases r with
    | cons h t => exact .cons (kV_is h) (items_are t)

/-- raw entries of a dict with tuple keys -/
abbrev KT (H : Hp) : List (List Key × V) → List (List Key × Addr × Value) → Prop := Paired fun p q => p.1 = q.1 ∧ H q.2.1 = some (.tup (p.1.map kV)) ∧ RelV p.2 q.2.2
theorem KT.val {H : Hp} {kvs : List (List Key × V)} {xs : List (List Key × Addr × Value)} (r : KT H kvs xs) (k : List Key) : RelO (valV kvs k) ((atKey xs k).map (·.2)) := by
  induction r with
  | nil => exact True.intro
  | @cons p q ps qs h t ih =>
    obtain ⟨h1, _, h2⟩ := h
    by_cases e : p.1 = k
    · have e' : q.1 = k := h1.symm.trans e
      have b : atKey (q :: qs) k = some q.2 := by simp [atKey, List.find?_cons, e']
      rw [valV_pos e, b]; exact h2
    · have e' : ¬ q.1 = k := fun z => e (h1.trans z)
      have b : atKey (q :: qs) k = atKey qs k := by simp [atKey, List.find?_cons, e']
      rw [valV_neg e, b]; exact ih
theorem KT.repl {H : Hp} {kvs : List (List Key × V)} {xs : List (List Key × Addr × Value)} (r : KT H kvs xs) (k : List Key) {y : V} {u : Value} (ry : RelV y u) :
    KT H (kvs.map fun kv => if kv.1 = k then (kv.1, y) else kv) (xs.map (putAt k u)) := by
  induction r with
  | nil => exact .nil
  | @cons p q ps qs h t ih =>
    rw [List.map_cons, List.map_cons]
    refine .cons ?_ ih
    obtain ⟨h1, h2, h3⟩ := h
    unfold putAt
    by_cases e : p.1 = k
    · rw [if_pos e, if_pos (h1.symm.trans e)]; exact ⟨h1, h2, ry⟩
    · rw [if_neg e, if_neg (fun z => e (h1.trans z))]; exact ⟨h1, h2, h3⟩
theorem KT.put {H : Hp} {kvs : List (List Key × V)} {xs : List (List Key × Addr × Value)} (r : KT H kvs xs) (k : List Key) {b : Addr} {y : V} {u : Value} (hb : H b = some (.tup (k.map kV))) (ry : RelV y u) :
    KT H (putK kvs k y) (storedH xs k b u) := by
  have e : (kvs.any fun kv => decide (kv.1 = k)) = (atKey xs k).isSome := by
    rw [valV_any, (r.val k).isSome_eq, Option.isSome_map]
  unfold putK storedH
  rw [e]
  by_cases q : (atKey xs k).isSome = true
  · rw [if_pos q, if_pos q]; exact r.repl k ry
  · rw [if_neg q, if_neg q]; exact Paired.snoc r ⟨rfl, hb, ry⟩
theorem KT.keeps {H H' : Hp} {kvs : List (List Key × V)} {xs : List (List Key × Addr × Value)} (r : KT H kvs xs) (ht : ∀ b ys, H b = some (.tup ys) → H' b = some (.tup ys)) : KT H' kvs xs :=
  Paired.mapP r fun _ _ z => ⟨z.1, ht _ _ z.2.1, z.2.2⟩

section
variable {P : Program} {w : World} {H : Hp} {h : Heap} {a : Addr}
theorem rd_of {u : HO} (ok : HOk P w H h) (e : Rd H a u) : ObjOk P w H h a u := e.ok ok
theorem dk_rd {kvs : List (Key × V)} (ok : HOk P w H h) (e : Rd H a (.dK kvs)) : kvs.length ≤ sizeLine ∧ (a == sysModules) = false ∧ ∃ vs, KV kvs vs ∧ h.DictOf (mixKind P w) a vs :=
  show ObjOk P w H h a (.dK kvs) from rd_of ok e
theorem dk_of {kvs : List (Key × V)} (ok : HOk P w H h) (e : H a = some (.dK kvs)) : kvs.length ≤ sizeLine ∧ (a == sysModules) = false ∧ ∃ vs, KV kvs vs ∧ h.DictOf (mixKind P w) a vs := dk_rd ok (.inl e)
/-- a tracked tuple of ints and texts is a key -/
theorem key_of {ks : List Key} (ok : HOk P w H h) (e : H a = some (.tup (ks.map kV))) : (tupleKind (mixKind P w)).is h ks a := by
  obtain ⟨_, its, r, o, h1, h2, n, h3⟩ := (show ObjOk P w H h a (.tup (ks.map kV)) from ok a _ e)
  exact ⟨o, its.toArray, n, h1, h2, h3, by simpa using items_are r⟩
theorem dt_rd {kvs : List (List Key × V)} (ok : HOk P w H h) (e : Rd H a (.dT kvs)) : kvs.length ≤ sizeLine ∧ (a == sysModules) = false ∧
    ∃ xs, KT H kvs xs ∧ h.DictOfH (tupleKind (mixKind P w)) a xs := by
  obtain ⟨z, y, xs, r, o, es, ep, h1, h2, h3, h4, h5⟩ := (show ObjOk P w H h a (.dT kvs) from rd_of ok e)
  refine ⟨z, y, xs, r, o, es, ep, h1, h2, h3, h4, fun x hx => ?_, h5⟩
  have all : ∀ {l : List (List Key × V)} {m : List (List Key × Addr × Value)}, KT H l m → ∀ x ∈ m, (tupleKind (mixKind P w)).is h x.1 x.2.1 := by
    intro l m q
    induction q with
    | nil => intro x hx; exact nomatch hx
    | @cons p q ps qs hq t ih =>
      intro x hx
      rcases List.mem_cons.mp hx with e | hx
      · subst e
        exact key_of ok (by rw [← hq.1]; exact hq.2.1)
      · exact ih x hx
  exact all r x hx
end

/-- what the dict at a holds at the key y -/
def DGet (H : Hp) (a : Addr) (y : V) (r : Option V) : Prop :=
  (∃ kvs k, Rd H a (.dK kvs) ∧ y = kV k ∧ r = valV kvs k) ∨ ∃ kvs k b, Rd H a (.dT kvs) ∧ y = .ref b ∧ H b = some (.tup (k.map kV)) ∧ r = valV kvs k
/-- the heap behind a[y] = v -/
def DPut (H : Hp) (a : Addr) (y v : V) (H' : Hp) : Prop :=
  (∃ kvs k, H a = some (.dK kvs) ∧ y = kV k ∧ kvs.length < sizeLine ∧ H' = upd H a (.dK (putK kvs k v))) ∨
  ∃ kvs k b, H a = some (.dT kvs) ∧ y = .ref b ∧ H b = some (.tup (k.map kV)) ∧ kvs.length < sizeLine ∧ H' = upd H a (.dT (putK kvs k v))


section
variable {X : Cx} {pins : List (Addr × Obj)} {σ : St} {H : Hp} {s : Shared} {a : Addr} {y v : V} {u r : Value} {o : Option V} {A : Around} {E : Value → Shared → Prop}

theorem Inv.big (I : Inv X pins σ H s) : sysModules < s.heap.objs.size := by
  have h : mainGlobals < s.heap.objs.size := (I.mod.glob.keeps I.bk).lt
  exact Nat.lt_trans (by decide) h

/-- d[y], there -/
theorem d_getItem {Q : Value → Shared → Prop} (hu : A.units + 1 < cLine) (I : Inv X pins σ H s) (g : DGet H a y (some v)) (ry : RelV y u) (h : ∀ w' s', Inv X pins σ H s' → RelV v w' → Q w' s') :
    wpAny (model X.prog X.w) A (getItem (.ref a) u) Q E s := by
  rcases g with ⟨kvs, k, e, ey, l⟩ | ⟨kvs, k, b, e, ey, eb, l⟩
  · subst ey
    obtain ⟨z, hd, vs, rel, dd⟩ := dk_rd I.hok e
    obtain ⟨w', hw, rw'⟩ := RelO.some_of (v := v) (o := valueAt vs k) (by rw [l]; exact rel.val k)
    exact wpAny_getItem_of (kV_is ry) dd.mapOf hw (h w' _ (I.tok _) rw')
  · subst ey
    cases (show u = Value.ref b from ry)
    obtain ⟨z, hd, xs, rel, dd⟩ := dt_rd I.hok e
    obtain ⟨w', hw, rw'⟩ := RelO.some_of (v := v) (o := (atKey xs k).map (·.2)) (by rw [l]; exact rel.val k)
    obtain ⟨p, hp, hp2⟩ := Option.map_eq_some_iff.mp hw
    refine wpAny_getItem_heap (tupleKind_room_in1 hu) (key_of I.hok eb) dd hp ?_
    rw [hp2]
    exact h w' _ (I.tok _) rw'
/-- a dict's object is replaced -/
theorem d_write {h' : Heap} {t' : Nat} {ob : HO} (I : Inv X pins σ H s) (mu : Mut (H a)) (hs : Heap.SameBut a s.heap h') (he : ∃ q, h'.get? a = some q) (new : ObjOk X.prog X.w (upd H a ob) h' a ob) :
    Inv X pins σ (upd H a ob) { s with heap := h', toks := t' } :=
  I.write (x := a) (e := a) mu (.inl rfl) (fun b q hb z => (hs.2 b hb).trans z) he new
theorem dk_new {P : Program} {w : World} {H' : Hp} {h' : Heap} {kvs : List (Key × V)} {vs : List (Key × Value)} (z : kvs.length ≤ sizeLine) (hd : (a == sysModules) = false) (rel : KV kvs vs) (dd : h'.DictOf (mixKind P w) a vs) :
    ObjOk P w H' h' a (.dK kvs) := ⟨z, hd, vs, rel, dd⟩
end

section
variable {X : Cx} {pins : List (Addr × Obj)} {σ : St} {H : Hp} {s : Shared} {a : Addr} {kvs : List (Key × V)} {k : Key} {u : Value} {A : Around} {E : Value → Shared → Prop}
end


/-! ### readings and rules -/
/-- the element of a subscription, not a slice -/
def NoSl (i : Expr) : Prop := ∀ ov iv, subscripted i false ov iv = operate [ov, iv] (getItem ov iv)
theorem subD_of {prog : Program} {w : World} {A : Around} {E : Value → Shared → Prop} {s : Shared} {env : Env} {value slice : Expr} {pos : Pos} {T id : String} {Q : Value → Shared → Prop}
    (hl : typeLookup (.type T) "__getitem__" = pure (some (.builtin id))) (hs : NoSl slice)
    (h : wpAny (model prog w) A (eval value env) (fun o s₁ => wpAny (model prog w) A (eval slice env) (fun i s₂ => s₂.TypeIs o T ∧ wpAny (model prog w) A (getItem o i) Q E s₂) E s₁) E s) :
    wpAny (model prog w) A (eval (.Subscript value slice pos) env) Q E s := by
  refine Subscript_ (wpAny_mono h (fun o s₁ h₁ => wpAny_mono h₁ (fun i s₂ h₂ => ?_) fun _ _ x => x) fun _ _ x => x)
  obtain ⟨hT, h₂⟩ := h₂
  unfold subscriptTail
  refine wpAny_bind ?_
  rw [getitemInPython_of_ne hT.not_modules]
  refine wpAny_bind (wpAny_specialOf hT hl ?_)
  have fin : wpAny (model prog w) A (subscripted slice false o i) (fun r s₃ => wpAny (model prog w) A (letTemporaryGo value o r >>= fun _ => pure r) Q E s₃) E s₂ := by
    rw [hs o i]
    exact wpAny_operating (wpAny_mono h₂ (fun r s₃ h₃ => wpAny_bind (wpAny_letTemporaryGo (wpAny_pure h₃))) fun _ _ x => x)
  first
    | exact wpAny_pure (wpAny_bind fin)
    | exact wpAny_bind (wpAny_pure (wpAny_bind fin))
    | exact wpAny_bind fin

theorem dict_typeIs {X : Cx} {pins : List (Addr × Obj)} {σ : St} {H : Hp} {s : Shared} {a : Addr} {y : V} {o : Option V} (I : Inv X pins σ H s) (g : DGet H a y o) : s.TypeIs (.ref a) "dict" := by
  rcases g with ⟨kvs, k, e, _, _⟩ | ⟨kvs, k, b, e, _, _, _⟩
  · obtain ⟨_, _, vs, _, dd⟩ := dk_rd I.hok e
    exact dd.typeIs
  · obtain ⟨_, _, xs, _, dd⟩ := dt_rd I.hok e
    exact dd.typeIs

/-- d[y] -/
def tDGet (td ty : TE) : TE := fun σ H Q => td σ H fun x H1 => ty σ H1 fun y H2 => ∃ a v, x = .ref a ∧ DGet H2 a y (some v) ∧ Q v H2

section
variable {X : Cx} {o i e value : Expr} {pos pos' tpos : Pos} {td ty tv : TE}
theorem pe_dget (hu : X.A.units + 1 < cLine) (ho : PE X o td) (hi : PE X i ty) (hs : NoSl i) : PE X (.Subscript o i pos) (tDGet td ty) := by
  intro pins s σ H Q I h
  refine subD_of PySem.F.slot_dict_getitem.lookup hs (thn (ho pins s σ H _ I h) fun u s1 ⟨x, H1, I1, rx, q1⟩ => thn (hi pins s1 σ H1 _ I1 q1) fun iv s2 ⟨y, H2, I2, ry, a, v, ex, g, q2⟩ => ?_)
  subst ex
  obtain rfl : u = Value.ref a := rx
  exact ⟨dict_typeIs I2 g, d_getItem hu I2 g ry fun w' s3 I3 rw' => ⟨v, H2, I3, rw', q2⟩⟩
end


/-! ### displays -/
theorem dk_empty {P : Program} {w : World} {H : Hp} (h : Heap) (hb : sysModules < h.objs.size) : ObjOk P w H (h.push { cls := .type "dict", data := .dict #[] }) h.objs.size (.dK []) :=
  ⟨Nat.zero_le _, beq_eq_false_iff_ne.mpr (Ne.symm (Nat.ne_of_lt hb)), [], .nil, Heap.DictOf.new h⟩
/-- {}, to be a dict of the kind that is wanted -/
def tDNewK : TE := fun _ H Q => ∀ p, H p = none → Q (.ref p) (upd H p (.dK []))
section
variable {X : Cx} {pos : Pos}
theorem pe_dnewK : PE X (.Dict [] [] pos) tDNewK := fun pins s σ H Q I h =>
  wpAny_Dict_empty ⟨.ref s.heap.objs.size, _, I.laid (a := s.heap.objs.size) (o := .dK []) (t' := s.toks) (fun _ _ q => Heap.get?_push_of_some _ q) (Nat.le_refl _) (dk_empty s.heap I.big), rfl, h _ (I.hok.fresh (Nat.le_refl _))⟩
end




/-! ### methods -/
structure M2 (X : Cx) (o : Expr) (m : Str) (apos : Pos) (e f : Expr) (cpos : Pos) : Prop where
  base : attributeBase o m X.env (eval o X.env) = eval o X.env
  few : ((backTo cpos (starEach [e, f] X.env)).all (fun x => !x.1) && (backToKw cpos (keywordEach [] X.env)).all (fun x => x.1.isSome)
    && decide (([e, f] : List Expr).length + ([] : List Keyword).length + (if ([] : List Keyword).isEmpty then 0 else 1) < 30)) = true
  line : (apos.endLine == cpos.line) = true
  trees : backTo cpos (starEach [e, f] X.env) = [(false, eval e X.env), (false, eval f X.env)]

/-- a is a dict, whatever its keys -/
def IsD (H : Hp) (a : Addr) : Prop := (∃ kvs, Rd H a (.dK kvs)) ∨ ∃ kvs, Rd H a (.dT kvs)
theorem isD_at {X : Cx} {pins : List (Addr × Obj)} {σ : St} {H : Hp} {s : Shared} {a : Addr} (I : Inv X pins σ H s) (d : IsD H a) :
    s.TypeIs (.ref a) "dict" ∧ (∀ b, Value.ref a = .ref b → ∃ ob, s.heap.get? b = some ob ∧ ob.dict = none) ∧ (a == sysModules) = false := by
  rcases d with ⟨kvs, e⟩ | ⟨kvs, e⟩
  · obtain ⟨_, hd, vs, _, dd⟩ := dk_rd I.hok e
    refine ⟨dd.typeIs, fun b q => ?_, hd⟩
    cases q
    obtain ⟨ob, _, _, h1, h2, _⟩ := dd
    exact ⟨ob, h1, h2.2.1⟩
  · obtain ⟨_, hd, xs, _, dd⟩ := dt_rd I.hok e
    refine ⟨dd.typeIs, fun b q => ?_, hd⟩
    cases q
    obtain ⟨ob, _, _, h1, h2, _⟩ := dd
    exact ⟨ob, h1, h2.2.1⟩

section
variable {X : Cx} {pins : List (Addr × Obj)} {σ : St} {H : Hp} {s : Shared} {a : Addr} {y d : V} {u r : Value} {o : Option V} {A : Around} {E : Value → Shared → Prop}
end

section
variable {X : Cx} {o e f : Expr} {apos cpos : Pos} {td ty tx : TE}
end

/-! ### dict(d): a copy -/
section
variable {X : Cx} {pins : List (Addr × Obj)} {σ : St} {H : Hp} {s : Shared} {a : Addr} {kvs : List (Key × V)} {A : Around} {E : Value → Shared → Prop}
end


section
variable {X : Cx} {pins : List (Addr × Obj)} {σ : St} {H : Hp} {s : Shared} {a : Addr} {y : V} {u : Value} {A : Around} {E : Value → Shared → Prop}
end
end L2

namespace HT
open PySem PyProof.Rows



section
open PySem.SeqAt
open PySem.AutoSeq1 (wpAny_loadPart')
open PySem.MeetsSeq PySem.MeetsSeq2 PySem.MeetsSeq3

end

section
variable {prog : Program} {w : World} {A : Around} {E : Value → Shared → Prop} {s : Shared}


/-- t + u, t not empty -/
theorem cat_tup {t b : Addr} {vs ws : List Value} {Q : Value → Shared → Prop} (ht : IsTup s.heap t vs.toArray) (hb : IsTup s.heap b ws.toArray) (hv : vs ≠ [])
    (h1 : ws = [] → Q (.ref t) s) (h2 : ws ≠ [] → Q (.ref s.heap.objs.size) { s with heap := s.heap.push { cls := .type "tuple", data := .seq (vs ++ ws).toArray } })
    (hsz : vs.length + ws.length ≤ sizeLine) : wpAny (model prog w) A (binaryOp .Add (.ref t) (.ref b)) Q E s := by
  obtain ⟨⟨cls, dd, data, sl⟩, ho, hc, n, hd⟩ := id ht
  obtain ⟨⟨cls2, dd2, data2, sl2⟩, ho2, hc2, n2, hd2⟩ := id hb
  simp only at hc hd hc2 hd2
  subst hc hd hc2 hd2
  have e : vs.toArray ++ ws.toArray = (vs ++ ws).toArray := by simp
  by_cases hw : ws = []
  · exact concat_meets ⟨_, ho, rfl⟩ ⟨_, ho2, rfl⟩ noFill_tuple_add seq_tuple_add PySem.F.slot_tuple_add PySem.F.entry_tuple_add (PySem.F.args_tuple_add_2 _ _)
      (tuple_addW1 t b vs.toArray ws.toArray n n2 dd dd2 sl sl2 (by simpa using hv) (by simp [hw])) ⟨ho, ho2, h1 hw⟩
  · refine concat_meets ⟨_, ho, rfl⟩ ⟨_, ho2, rfl⟩ noFill_tuple_add seq_tuple_add PySem.F.slot_tuple_add PySem.F.entry_tuple_add (PySem.F.args_tuple_add_2 _ _)
      (tuple_addW2 t b vs.toArray ws.toArray n n2 dd dd2 sl sl2 (by simpa using hv) (by simpa using hw) (by rw [List.size_toArray, List.size_toArray]; exact hsz)) ⟨ho, ho2, ?_⟩
    rw [e]
    exact h2 hw

/-! ### t[a:b], not the whole -/
/-- a slice's bound as a place among n (d where it is left out) -/
def sIx (n d : Nat) : Option Int → Nat
  | none => d
  | some v => if v < 0 then (v + (n : Int)).toNat else min v.toNat n
theorem sIx_le (n d : Nat) (hd : d ≤ n) (o : Option Int) : sIx n d o ≤ n := by
  cases o with
  | none => exact hd
  | some v =>
    show (if v < 0 then (v + (n : Int)).toNat else min v.toNat n) ≤ n
    by_cases hv : v < 0
    · rw [if_pos hv]; omega
    · rw [if_neg hv]; exact Nat.min_le_right _ _
theorem clip_eq (v : Int) (n d : Nat) : (if v < 0 then max (v + (n : Int)) 0 else min v (n : Int)) = ((sIx n d (some v) : Nat) : Int) := by
  show (if v < 0 then max (v + (n : Int)) 0 else min v (n : Int)) = (((if v < 0 then (v + (n : Int)).toNat else min v.toNat n) : Nat) : Int)
  by_cases hv : v < 0
  · simp only [if_pos hv]; omega
  · simp only [if_neg hv]; omega
theorem adjust_gen (lo hi : Option Int) (n : Nat) : Builtin.Slice.sliceAdjust lo hi 1 (n : Int) = (((sIx n 0 lo : Nat) : Int), ((sIx n n hi : Nat) : Int)) := by
  have h1 : ¬ ((1 : Int) < 0) := by omega
  unfold Builtin.Slice.sliceAdjust
  simp only [h1, if_false]
  refine Prod.ext ?_ ?_
  · cases lo with
    | none => rfl
    | some v => exact clip_eq v n 0
  · cases hi with
    | none => rfl
    | some v => exact clip_eq v n n
theorem places_gen (i j : Nat) : Builtin.Slice.slicePlaces (i : Int) (j : Int) 1 = j - i := by
  unfold Builtin.Slice.slicePlaces
  have h1 : (1 : Int) > 0 := by omega
  simp only [h1, if_true, Int.ediv_one]
  split <;> omega
theorem slicePart_ {v : Value} {o : Option Int} {Q : Option Int → Shared → Prop} (p : IsPart v o) (h : Q o s) : wpAny (model prog w) A (Builtin.Slice.slicePartIndex v) Q E s := by
  cases p with
  | none => exact slicePart_none h
  | int i t => exact slicePart_int h
theorem sliceApplied_gen {sl : Addr} {vl vu : Value} {lo hi : Option Int} {n : Nat} {Q : Int × Int × Nat → Shared → Prop} (hs : s.heap.IsSliceOf sl vl vu .none) (pl : IsPart vl lo) (pu : IsPart vu hi)
    (h : Q (((sIx n 0 lo : Nat) : Int), 1, sIx n n hi - sIx n 0 lo) s) : wpAny (model prog w) A (Builtin.Slice.sliceApplied (.ref sl) (pure (n : Int))) Q E s := by
  obtain ⟨os, hos, hcs, hds⟩ := id hs
  unfold Builtin.Slice.sliceApplied Builtin.Slice.sliceFields
  refine wpAny_bind (wpAny_bind (wpAny_field hos hds (x := vl) rfl (wpAny_bind (wpAny_field hos hds (x := vu) rfl (wpAny_bind (wpAny_field hos hds (x := .none) rfl (wpAny_pure ?_)))))))
  refine wpAny_bind (slicePart_none ?_)
  show wpAny _ _ (if ((1 : Int) == 0) = true then _ else _) _ _ s
  rw [if_neg (by decide)]
  refine wpAny_bind (slicePart_ pl (wpAny_bind (slicePart_ pu (wpAny_bind (wpAny_pure ?_)))))
  show wpAny _ _ (match Builtin.Slice.sliceAdjust lo hi 1 (n : Int) with | (lo, hi) => pure (lo, (1 : Int), Builtin.Slice.slicePlaces lo hi 1)) _ _ s
  rw [adjust_gen lo hi n]
  show wpAny _ _ (pure (((sIx n 0 lo : Nat) : Int), (1 : Int), Builtin.Slice.slicePlaces ((sIx n 0 lo : Nat) : Int) ((sIx n n hi : Nat) : Int) 1)) _ _ s
  rw [places_gen]
  exact wpAny_pure h
theorem pick_gen (xs : Array Value) (i k : Nat) : ((List.range k).filterMap fun (m : Nat) => xs[((i : Int) + (m : Int) * 1).toNat]?).toArray = ((xs.toList.drop i).take k).toArray := by
  have e : (fun (m : Nat) => xs[((i : Int) + (m : Int) * 1).toNat]?) = fun m => xs[i + m]? := by
    funext m
    have : ((i : Int) + (m : Int) * 1).toNat = i + m := by omega
    rw [this]
  rw [e]
  have := pick_run xs i k
  rw [List.filterMap_map] at this
  have e2 : ((fun x => xs[x]?) ∘ fun x => i + x) = fun m => xs[i + m]? := rfl
  rw [e2] at this
  rw [this]

theorem getItem_tuple_cut {t sl : Addr} {items : Array Value} {vl vu : Value} {lo hi : Option Int} {Q : Value → Shared → Prop} (ht : IsTup s.heap t items) (hs : s.heap.IsSliceOf sl vl vu .none) (pl : IsPart vl lo) (pu : IsPart vu hi)
    (hw : ¬ (sIx items.size 0 lo = 0 ∧ sIx items.size items.size hi = items.size))
    (h : Q (.ref s.heap.objs.size) { s with heap := s.heap.push { cls := .type "tuple", data := .seq ((items.toList.drop (sIx items.size 0 lo)).take (sIx items.size items.size hi - sIx items.size 0 lo)).toArray } })
    (hsz : items.size ≤ sizeLine) : wpAny (model prog w) A (getItem (.ref t) (.ref sl)) Q E s := by
  have htake : sizeOk (.seq ((items.toList.drop (sIx items.size 0 lo)).take (sIx items.size items.size hi - sIx items.size 0 lo)).toArray) := by
    show ((items.toList.drop (sIx items.size 0 lo)).take (sIx items.size items.size hi - sIx items.size 0 lo)).toArray.size ≤ sizeLine
    rw [List.size_toArray, List.length_take, List.length_drop, Array.length_toList]
    omega
  have hj : sIx items.size items.size hi ≤ items.size := sIx_le _ _ (Nat.le_refl _) hi
  obtain ⟨os, hos, hcs, hds⟩ := id hs
  have hTs : s.TypeIs (.ref sl) "slice" := ⟨os, hos, hcs⟩
  unfold getItem
  try with_reducible refine wpAny_holding ?_
  first | refine wpAny_bind (wpAny_pure ?_) | skip
  refine wpAny_bind (wpAny_sequenceKey ht.typeIs (by decide) ?_)
  refine wpAny_bind (wpAny_callSpecial?_slot (name := Str.ofString "__getitem__") ht.typeIs PyProof.Rows.slot_tuple_getitem
    (wpAny_call_entry PyProof.Rows.slot_tuple_getitem ht.typeIs entry_tuple_getitem ?_ (args_tuple_getitem _ _)))
  show wpAny _ _ (Builtin.Tuple.tupleItemsOf (.ref t) >>= _) _ _ s
  refine wpAny_bind (tupleItemsOf_ ht ?_)
  refine wpAny_bind (wpAny_typeOf hTs ?_)
  rw [if_pos (by decide)]
  refine wpAny_bind (sliceApplied_gen hs pl pu ?_)
  have hno : ¬ ((((sIx items.size 0 lo : Nat) : Int) == 0 && (1 : Int) == 1 && (sIx items.size items.size hi - sIx items.size 0 lo) == items.size) = true) := by
    intro q
    rw [Bool.and_eq_true, Bool.and_eq_true] at q
    have q1 : ((sIx items.size 0 lo : Nat) : Int) = 0 := eq_of_beq q.1.1
    have q2 : sIx items.size items.size hi - sIx items.size 0 lo = items.size := eq_of_beq q.2
    exact hw ⟨by omega, by omega⟩
  show wpAny _ _ (if (((sIx items.size 0 lo : Nat) : Int) == 0 && (1 : Int) == 1 && (sIx items.size items.size hi - sIx items.size 0 lo) == items.size) = true then _ else _) _ _ s
  rw [if_neg hno, pick_gen]
  first
    | exact wpAny_bind (m := Builtin.Tuple.tupleExact _) (wpAny_newObj_type (wpAny_pure ⟨_, rfl, wpAny_pure h⟩) htake)
    | exact wpAny_bind (m := Builtin.Tuple.tupleExact _) (wpAny_newObj_type (wpAny_bind (wpAny_pure (wpAny_pure ⟨_, rfl, wpAny_pure h⟩))) htake)
    | exact wpAny_bind (wpAny_bind (m := Builtin.Tuple.tupleExact _) (wpAny_newObj_type (wpAny_pure (wpAny_pure ⟨_, rfl, wpAny_pure h⟩)) htake))
    | exact wpAny_bind (wpAny_bind (m := Builtin.Tuple.tupleExact _) (wpAny_newObj_type (wpAny_pure ⟨_, rfl, wpAny_pure h⟩) htake))
end
end HT

namespace L2
open PySem PySem.Spec PyProof.Rows

/-! ### the parts of a slice -/
abbrev TO := St → Hp → (Option Int → Hp → Prop) → Prop
/-- a slice's part (left out, or an int) -/
def PO (X : Cx) (e : Option Expr) (t : TO) : Prop :=
  ∀ (pins : List (Addr × Obj)) (s : Shared) (σ : St) (H : Hp) (Q : Option Int → Hp → Prop), Inv X pins σ H s → t σ H Q →
    wpAny (model X.prog X.w) X.A (evalPart e X.env) (fun u s' => ∃ o H', Inv X pins σ H' s' ∧ IsPart u o ∧ Q o H') X.xe s
def tNoPart : TO := fun _ H Q => Q none H
def tPart (t : TE) : TO := fun σ H Q => t σ H fun x H1 => ∃ i, x = .int i ∧ Q (some i) H1


section
variable {X : Cx} {e : Expr} {te : TE} {lo hi : Option Expr} {tl th : TO} {pos p2 : Pos}

theorem po_none : PO X none tNoPart := by
  intro pins s σ H Q I h
  rw [evalPart_none]
  exact wpAny_pure ⟨none, H, I, .none, h⟩
theorem po_some (h : PE X e te) : PO X (some e) (tPart te) := by
  intro pins s σ H Q I hw
  rw [evalPart_some]
  refine thn (h pins s σ H _ I hw) fun u s1 hh => ?_
  obtain ⟨x, H1, I1, r1, q1⟩ := hh
  obtain ⟨i, rfl, q⟩ := q1
  obtain ⟨t, rfl⟩ := r1
  exact ⟨some i, H1, I1, .int i t, q⟩

/-- what a slice of a value is, by values: the slice object stands at sl -/
def SlR (X : Cx) (r : V → Option Int → Option Int → Hp → VK → Prop) : Prop :=
  ∀ (pins : List (Addr × Obj)) (s : Shared) (σ : St) (H : Hp) (x : V) (v vl vu : Value) (lo hi : Option Int) (sl : Addr) (Q : VK), Inv X pins σ H s → RelV x v → s.heap.IsSliceOf sl vl vu .none → IsPart vl lo → IsPart vu hi → r x lo hi H Q →
    ∃ T id, typeLookup (.type T) "__getitem__" = pure (some (.builtin id)) ∧ s.TypeIs v T ∧ wpAny (model X.prog X.w) X.A (getItem v (.ref sl)) (EP X pins σ Q) X.xe s
def tSl (r : V → Option Int → Option Int → Hp → VK → Prop) (te : TE) (tl th : TO) : TE := fun σ H Q => te σ H fun x H1 => tl σ H1 fun l H2 => th σ H2 fun u H3 => r x l u H3 Q
/-- a[lo:hi], any a -/
theorem pe_slice {r : V → Option Int → Option Int → Hp → VK → Prop} (hr : SlR X r) (he : PE X e te) (hl : PO X lo tl) (hu : PO X hi th) : PE X (.Subscript e (.Slice lo hi none p2) pos) (tSl r te tl th) := by
  intro pins s σ H Q I h
  refine Subscript_ (thn (he pins s σ H _ I h) fun v s1 hh => ?_)
  obtain ⟨x, H1, I1, r1, q1⟩ := hh
  refine wpAny_Slice (thn (hl pins s1 σ H1 _ I1 q1) fun vl s2 ⟨l, H2, I2, pl, q2⟩ => thn (hu pins s2 σ H2 _ I2 q2) fun vu s3 ⟨u, H3, I3, pu, q3⟩ => ?_)
  rw [evalPart_none]
  refine wpAny_pure ?_
  have I4 : Inv X pins σ H3 { s3 with heap := s3.heap.push { cls := .type "slice", data := .fields #[vl, vu, .none] } } := I3.kept (t' := s3.toks) fun b ob q => Heap.get?_push_of_some _ q
  obtain ⟨T, id, hT, ht, hg⟩ := hr pins { s3 with heap := s3.heap.push { cls := .type "slice", data := .fields #[vl, vu, .none] } } σ H3 x v vl vu l u s3.heap.objs.size Q I4 r1 (Heap.IsSliceOf.new ..) pl pu q3
  show wpAny (model X.prog X.w) X.A (subscriptTail e (.Slice lo hi none p2) v (.ref s3.heap.objs.size)) (EP X pins σ Q) X.xe { s3 with heap := s3.heap.push { cls := .type "slice", data := .fields #[vl, vu, .none] } }
  exact tail_any (ops := [.ref s3.heap.objs.size, v]) ht hT hg (by with_unfolding_all rfl)

/-- the items of xs[lo:hi] -/
def cutV (xs : List V) (lo hi : Option Int) : List V := (xs.drop (HT.sIx xs.length 0 lo)).take (HT.sIx xs.length xs.length hi - HT.sIx xs.length 0 lo)
theorem cutV_length (xs : List V) (lo hi : Option Int) : (cutV xs lo hi).length ≤ xs.length := by
  unfold cutV
  rw [List.length_take, List.length_drop]
  omega
/-- t[lo:hi], not the whole of it (the whole would be t itself) -/
def rSlT (K : PySem.W.Frag) : V → Option Int → Option Int → Hp → VK → Prop := fun x lo hi H Q => ∃ a xs, x = .ref a ∧ SqT K H a xs ∧
  ¬ (HT.sIx xs.length 0 lo = 0 ∧ HT.sIx xs.length xs.length hi = xs.length) ∧ ∀ p, H p = none → Q (.ref p) (upd H p (.tup (cutV xs lo hi)))
theorem sl_tup : SlR X (rSlT X.K) := by
  intro pins s σ H x v vl vu lo hi sl Q I rx hs pl pu h
  obtain ⟨a, xs, rfl, hx, hw, q⟩ := h
  cases rx
  obtain ⟨its, r, ht, hz⟩ := I.tuple hx
  have hlen : its.toArray.size = xs.length := by rw [List.size_toArray]; exact r.length.symm
  refine ⟨"tuple", _, PyProof.Rows.slot_tuple_getitem.lookup, ht.typeIs, ?_⟩
  refine HT.getItem_tuple_cut ht hs pl pu (by rw [hlen]; exact hw) ?_ (by rw [hlen]; exact hz)
  rw [hlen]
  refine ⟨.ref s.heap.objs.size, _, I.laid (t' := s.toks) (o := .tup (cutV xs lo hi)) (fun b ob q => Heap.get?_push_of_some _ q) (Nat.le_refl _) ?_, rfl, q _ (I.hok.fresh (Nat.le_refl _))⟩
  exact ⟨Nat.le_trans (cutV_length xs lo hi) hz, _, (r.drop (HT.sIx xs.length 0 lo)).take (HT.sIx xs.length xs.length hi - HT.sIx xs.length 0 lo), IsTup.new _ _⟩

/-! ### t < u, t + u -/
/-- t + u, t not empty: u empty gives t itself -/
def rCatT (K : PySem.W.Frag) : R2 := fun x y H Q => ∃ a b xs ys, x = .ref a ∧ y = .ref b ∧ SqT K H a xs ∧ SqT K H b ys ∧ xs ≠ [] ∧ xs.length + ys.length ≤ sizeLine ∧
  (ys = [] → Q (.ref a) H) ∧ (ys ≠ [] → ∀ p, H p = none → Q (.ref p) (upd H p (.tup (xs ++ ys))))
theorem Vals.nil_iff {xs : List V} {us : List Value} (r : Vals xs us) : us = [] ↔ xs = [] := by
  cases r with
  | nil => simp
  | cons _ _ => simp
theorem op_catT : OpR X (binaryOp .Add) (rCatT X.K) := by
  intro pins s σ H x y v u Q I rx ry h
  obtain ⟨a, b, xs, ys, rfl, rfl, ha, hb, hx, hz, q1, q2⟩ := h
  cases rx
  cases ry
  obtain ⟨its, r1, p1, _⟩ := I.tuple ha
  obtain ⟨its2, r2, p2, _⟩ := I.tuple hb
  refine HT.cat_tup p1 p2 (fun z => hx (r1.nil_iff.mp z)) (fun z => ⟨.ref a, H, I, rfl, q1 (r2.nil_iff.mp z)⟩) (fun z => ?_) (by rw [← r1.length, ← r2.length]; exact hz)
  refine ⟨.ref s.heap.objs.size, _, I.laid (t' := s.toks) (o := .tup (xs ++ ys)) (fun b ob q => Heap.get?_push_of_some _ q) (Nat.le_refl _) ?_, rfl, q2 (fun w => z (r2.nil_iff.mpr w)) _ (I.hok.fresh (Nat.le_refl _))⟩
  exact ⟨by rw [List.length_append]; exact hz, _, r1.append r2, IsTup.new _ _⟩
end
end L2

namespace L2
open PySem PySem.Spec PyProof.Rows

/-! ### places -/
/-- the place that an index of any sign means -/
def ixN (n : Nat) (i : Int) : Option Nat := if 0 ≤ i then (if i < n then some i.toNat else none) else if -(n : Int) ≤ i then some (i + n).toNat else none
def atI {α : Type} (xs : List α) (i : Int) : Option α := (ixN xs.length i).bind fun j => xs[j]?
theorem ixN_seq {n : Nat} {i : Int} {j : Nat} (h : ixN n i = some j) : seqIndex? i n = some j ∧ j < n ∧ -(n : Int) ≤ i ∧ i < n := by
  unfold ixN at h
  by_cases h0 : 0 ≤ i
  · rw [if_pos h0] at h
    by_cases h1 : i < n
    · rw [if_pos h1] at h
      have e : i.toNat = j := Option.some.inj h
      exact ⟨by rw [seqIndex_of h0 h1, e], by omega, by omega, h1⟩
    · rw [if_neg h1] at h; cases h
  · rw [if_neg h0] at h
    by_cases h1 : -(n : Int) ≤ i
    · rw [if_pos h1] at h
      have e : (i + n).toNat = j := Option.some.inj h
      exact ⟨by rw [seqIndex_neg (by omega) h1, e], by omega, h1, by omega⟩
    · rw [if_neg h1] at h; cases h
theorem atI_get {α : Type} {xs : List α} {i : Int} {v : α} (h : atI xs i = some v) : ∃ j, seqIndex? i xs.length = some j ∧ xs[j]? = some v ∧ j < xs.length ∧ -(xs.length : Int) ≤ i ∧ i < xs.length := by
  unfold atI at h
  cases e : ixN xs.length i with
  | none => rw [e] at h; cases h
  | some j =>
    rw [e] at h
    obtain ⟨h1, h2, h3, h4⟩ := ixN_seq e
    exact ⟨j, h1, h, h2, h3, h4⟩
theorem atI_nat {α : Type} {xs : List α} {j : Nat} {v : α} (h : xs[j]? = some v) : atI xs (j : Int) = some v := by
  have hj : j < xs.length := (List.getElem?_eq_some_iff.mp h).1
  have e : ixN xs.length (j : Int) = some j := by
    unfold ixN
    rw [if_pos (by omega), if_pos (by omega)]; simp
  unfold atI; rw [e]; exact h

/-! ### what may be subscripted -/
/-- what stands as an index of a plain subscript -/
def PlainIx (b : Expr) : Prop := ∀ o i, subscripted b false o i = operate [o, i] (getItem o i)
/-- a subscript by values -/
def IxR (X : Cx) (r : R2) : Prop :=
  ∀ (value slice : Expr) (pins : List (Addr × Obj)) (s : Shared) (σ : St) (H : Hp) (x y : V) (v u : Value) (Q : VK), Inv X pins σ H s → RelV x v → RelV y u → r x y H Q →
    subscripted slice false v u = operate [v, u] (getItem v u) → wpAny (model X.prog X.w) X.A (subscriptTail value slice v u) (EP X pins σ Q) X.xe s
/-- a call of a builtin's method by values: the receiver, the arguments -/
def MtR (X : Cx) (id : String) (r : V → List V → Hp → VK → Prop) : Prop :=
  ∀ (pins : List (Addr × Obj)) (s : Shared) (σ : St) (H : Hp) (x : V) (xs : List V) (v : Value) (us : List Value) (Q : VK), Inv X pins σ H s → RelV x v → Vals xs us → r x xs H Q →
    wpAny (model X.prog X.w) X.A (call (.builtin id) (v :: us)) (EP X pins σ Q) X.xe s
section
variable {X : Cx} {a b : Expr} {ta tb : TE} {pos : Pos}
/-- a[b] -/
theorem pe_ix {r : R2} (hr : IxR X r) (ha : PE X a ta) (hb : PE X b tb) (hs : PlainIx b) : PE X (.Subscript a b pos) (tOp r ta tb) := by
  intro pins s σ H Q I h
  exact Subscript_ (binT ha hb I h fun v u s2 x y H2 I2 rx ry q => hr a b pins s2 σ H2 x y v u Q I2 rx ry q (hs _ _))

def rIxL (K : PySem.W.Frag) : R2 := fun x y H Q => ∃ p xs i v, x = .ref p ∧ y = .int i ∧ SqL K H p xs ∧ atI xs i = some v ∧ Q v H
def rIxT (K : PySem.W.Frag) : R2 := fun x y H Q => ∃ p xs i v, x = .ref p ∧ y = .int i ∧ SqT K H p xs ∧ atI xs i = some v ∧ Q v H
theorem ix_list : IxR X (rIxL X.K) := by
  intro value slice pins s σ H x y v u Q I rx ry h hs
  obtain ⟨p, xs, i, z, rfl, rfl, hq, he, q⟩ := h
  cases rx
  obtain ⟨t, rfl⟩ := ry
  obtain ⟨its, r, pl, hz⟩ := I.list hq
  obtain ⟨j, h1, h2, h3, h4, h5⟩ := atI_get he
  obtain ⟨w, ew, rw'⟩ := r.get h2
  have hl := r.length
  have hn := line63
  have fin : EP X pins σ Q w s := ⟨z, H, I, rw', q⟩
  by_cases h0 : 0 ≤ i
  · have hj : i.toNat = j := by
      rw [seqIndex_of h0 h5] at h1
      exact Option.some.inj h1
    exact item_listR pl.isList h0 (by omega) (by rw [hj]; simpa using ew) fin hs
  · have hj : (i + (its.toArray.size : Int)).toNat = j := by
      rw [seqIndex_neg (by omega) h4] at h1
      rw [List.size_toArray, ← hl]
      exact Option.some.inj h1
    exact subscriptTail_builtinR (x := w) pl.isList.typeIs slot_list_getitem.lookup
      (wpAny_getItem_list_neg (Q := fun r s' => r = w ∧ EP X pins σ Q r s') pl.isList (by omega) (by rw [List.size_toArray] <;> omega) (by omega) (by rw [hj]; simpa using ew) ⟨rfl, fin⟩) hs
theorem ix_tup : IxR X (rIxT X.K) := by
  intro value slice pins s σ H x y v u Q I rx ry h hs
  obtain ⟨p, xs, i, z, rfl, rfl, hq, he, q⟩ := h
  cases rx
  obtain ⟨t, rfl⟩ := ry
  obtain ⟨its, r, pl, hz⟩ := I.tuple hq
  obtain ⟨j, h1, h2, h3, h4, h5⟩ := atI_get he
  obtain ⟨w, ew, rw'⟩ := r.get h2
  have hl := r.length
  have hn := line63
  have fin : EP X pins σ Q w s := ⟨z, H, I, rw', q⟩
  exact subscriptTail_builtinR (x := w) pl.typeIs slot_tuple_getitem.lookup
    (getItem_tuple (j := j) (Q := fun r s' => r = w ∧ EP X pins σ Q r s') pl (by omega) (by omega) (by rw [List.size_toArray, ← hl]; exact h1) (by simpa using ew) ⟨rfl, fin⟩) hs

/-! ### xs[i] = v, any sign -/
/-- the list's object behind a store -/
theorem mapSeq_set (its : List Value) (n j : Nat) (u : Value) : Obj.mapSeq (·.setIfInBounds j u) { cls := .type "list", data := .seq its.toArray n } = { cls := .type "list", data := .seq (its.set j u).toArray n } := by
  simp [Obj.mapSeq]
theorem Inv.lst {pins : List (Addr × Obj)} {σ : St} {H : Hp} {s : Shared} {p : Addr} {xs : List V} (I : Inv X pins σ H s) (h : H p = some (.lst xs)) :
    ∃ (its : List Value) (n : Nat), Vals xs its ∧ s.heap.get? p = some { cls := .type "list", data := .seq its.toArray n } ∧ xs.length ≤ sizeLine := by
  obtain ⟨z, its, n, r, e⟩ := I.hok p _ h
  exact ⟨its, n, r, e, z⟩
/-- the list at p is written by an update of its object -/
theorem Inv.lstUpd {pins : List (Addr × Obj)} {σ : St} {H : Hp} {s : Shared} {p : Addr} {xs ys : List V} {its its' : List Value} {n n' : Nat} {f : Obj → Obj} (I : Inv X pins σ H s) (h : H p = some (.lst xs))
    (ho : s.heap.get? p = some { cls := .type "list", data := .seq its.toArray n }) (hf : f { cls := .type "list", data := .seq its.toArray n } = { cls := .type "list", data := .seq its'.toArray n' }) (r : Vals ys its') (hz : ys.length ≤ sizeLine) (t : Nat) :
    Inv X pins σ (upd H p (.lst ys)) { s with heap := s.heap.update p f, toks := t } := by
  have e : (s.heap.update p f).get? p = some { cls := .type "list", data := .seq its'.toArray n' } := by
    rw [Heap.get?_update_self f ho (by rw [hf] <;> rfl), hf]
  refine I.write (x := p) (e := p) (by rw [h]; trivial) (.inl rfl) (fun b u hb q => (Heap.get?_update_other _ _ (Ne.symm hb)).trans q) ⟨_, e⟩ ?_
  exact ⟨hz, its', n', r, e⟩
def rSetL : V → V → V → Hp → (Hp → Prop) → Prop := fun o i v H Q => ∃ p xs k j, o = .ref p ∧ i = .int k ∧ H p = some (.lst xs) ∧ ixN xs.length k = some j ∧ Q (upd H p (.lst (xs.set j v)))
theorem set_list : PSet X rSetL := by
  intro pins s σ H o i v ov iv u Q I ro ri rv h
  obtain ⟨p, xs, k, j, rfl, rfl, hp, hj, q⟩ := h
  cases ro
  obtain ⟨t, rfl⟩ := ri
  obtain ⟨its, n, r, ho, hz⟩ := I.lst hp
  obtain ⟨h1, h2, h3, h4⟩ := ixN_seq hj
  have hl := r.length
  have hn := line63
  have I' : Inv X pins σ (upd H p (.lst (xs.set j v))) { s with heap := s.heap.update p (Obj.mapSeq (·.setIfInBounds j u)) } :=
    I.lstUpd hp ho (mapSeq_set its n j u) (r.set rv j) (by rw [List.length_set]; exact hz) s.toks
  by_cases h0 : 0 ≤ k
  · have hk : k.toNat = j := by
      rw [seqIndex_of h0 h4] at h1
      exact Option.some.inj h1
    exact PySem.W.ki_setAt ho h0 (by omega) (by rw [List.size_toArray, ← hl]; exact h4) (by rw [hk]; exact ⟨_, I', q⟩)
  · have hk : (k + (its.toArray.size : Int)).toNat = j := by
      rw [seqIndex_neg (by omega) h3] at h1
      rw [List.size_toArray, ← hl]
      exact Option.some.inj h1
    exact PySem.W.ki_setBack ho (by omega) (by rw [List.size_toArray, ← hl]; exact h3) (by omega) (by rw [hk]; exact ⟨_, I', q⟩)

/-! ### slices -/
theorem slice_bounds (lo hi : Option Int) (n : Nat) : (sliceBounds lo hi none n).1 = ((HT.sIx n 0 lo : Nat) : Int) ∧ (sliceBounds lo hi none n).2.1 = ((HT.sIx n n hi : Nat) : Int) ∧ (sliceBounds lo hi none n).2.2 = 1 := by
  refine ⟨?_, ?_, rfl⟩
  · cases lo with
    | none => simp [sliceBounds, HT.sIx]
    | some i =>
      simp only [sliceBounds, HT.sIx, Option.getD_none, show (1 : Int) > 0 by decide, if_true]
      by_cases h : i < 0
      · simp only [h, if_true] <;> omega
      · simp only [h, if_false] <;> omega
  · cases hi with
    | none => simp [sliceBounds, HT.sIx]
    | some i =>
      simp only [sliceBounds, HT.sIx, Option.getD_none, show (1 : Int) > 0 by decide, if_true]
      by_cases h : i < 0
      · simp only [h, if_true] <;> omega
      · simp only [h, if_false] <;> omega
theorem slicePick_cut (its : List Value) (lo hi : Option Int) : slicePick its.toArray lo hi none = ((its.drop (HT.sIx its.length 0 lo)).take (HT.sIx its.length its.length hi - HT.sIx its.length 0 lo)).toArray := by
  obtain ⟨h1, h2, h3⟩ := slice_bounds lo hi its.toArray.size
  unfold slicePick
  rw [h1, h2, h3]
  simp only [sliceRange_one, pick_run, List.size_toArray] <;> rfl
/-- xs[lo:hi] of a list: a new list -/
def rSlL (K : PySem.W.Frag) : V → Option Int → Option Int → Hp → VK → Prop := fun x lo hi H Q => ∃ a xs, x = .ref a ∧ SqL K H a xs ∧ ∀ p, H p = none → Q (.ref p) (upd H p (.lst (cutV xs lo hi)))
theorem sl_list : SlR X (rSlL X.K) := by
  intro pins s σ H x v vl vu lo hi sl Q I rx hs pl pu h
  obtain ⟨a, xs, rfl, hx, q⟩ := h
  cases rx
  obtain ⟨its, r, ht, hz⟩ := I.list hx
  have hlen := r.length
  refine ⟨"list", _, slot_list_getitem.lookup, ht.isList.typeIs, ?_⟩
  refine wpAny_getItem_list_slice ht.isList hs pl pu .none (by simp) ?_ (by rw [List.size_toArray] <;> omega)
  rw [slicePick_cut, ← hlen]
  refine ⟨.ref s.heap.objs.size, _, I.laid (t' := s.toks) (o := .lst (cutV xs lo hi)) (fun b ob q => Heap.get?_push_of_some _ q) (Nat.le_refl _) ?_, rfl, q _ (I.hok.fresh (Nat.le_refl _))⟩
  exact ⟨Nat.le_trans (cutV_length xs lo hi) hz, _, 0, (r.drop (HT.sIx xs.length 0 lo)).take (HT.sIx xs.length xs.length hi - HT.sIx xs.length 0 lo), Heap.get?_push_size _ rfl⟩

/-! ### in, not in: flat items -/
def flatV : V → Bool
  | .non => true
  | .bl _ => true
  | .int _ => true
  | .str _ => true
  | _ => false
/-- == of flat values -/
def eqV : V → V → Bool
  | .non, .non => true
  | .bl a, .bl b => a == b
  | .bl a, .int b => (if a then 1 else 0) == b
  | .int a, .bl b => a == (if b then 1 else 0)
  | .int a, .int b => a == b
  | .str a, .str b => a == b
  | _, _ => false
theorem eqAt_V {A : Around} {s : Shared} {y x : V} {u v : Value} (ry : RelV y u) (rx : RelV x v) (fy : flatV y = true) (fx : flatV x = true) : SeqAt.EqAt A s u v (eqV y x) := by
  cases y with
  | non =>
    cases ry
    cases x with
    | non => cases rx; exact SeqAt.EqAt.same _
    | bl b => cases rx; exact SeqAt.EqAt.none_bool b
    | int b => obtain ⟨t, rfl⟩ := rx; exact SeqAt.EqAt.none_int b t
    | str b => obtain ⟨t, rfl⟩ := rx; exact SeqAt.EqAt.none_str b t
    | _ => exact absurd (show false = true from fx) Bool.false_ne_true
  | bl a =>
    cases ry
    cases x with
    | non => cases rx; exact SeqAt.EqAt.bool_none a
    | bl b => cases rx; exact SeqAt.EqAt.bool_bool a b
    | int b => obtain ⟨t, rfl⟩ := rx; exact SeqAt.EqAt.bool_int a b t
    | str b => obtain ⟨t, rfl⟩ := rx; exact SeqAt.EqAt.bool_str a b t
    | _ => exact absurd (show false = true from fx) Bool.false_ne_true
  | int a =>
    obtain ⟨t', rfl⟩ := ry
    cases x with
    | non => cases rx; exact SeqAt.EqAt.int_none a t'
    | bl b => cases rx; exact SeqAt.EqAt.int_bool a t' b
    | int b => obtain ⟨t, rfl⟩ := rx; exact SeqAt.EqAt.int_int a t' b t
    | str b => obtain ⟨t, rfl⟩ := rx; exact SeqAt.EqAt.int_str a t' b t
    | _ => exact absurd (show false = true from fx) Bool.false_ne_true
  | str a =>
    obtain ⟨t', rfl⟩ := ry
    cases x with
    | non => cases rx; exact SeqAt.EqAt.str_none a t'
    | bl b => cases rx; exact SeqAt.EqAt.str_bool a t' b
    | int b => obtain ⟨t, rfl⟩ := rx; exact SeqAt.EqAt.str_int a t' b t
    | str b => obtain ⟨t, rfl⟩ := rx; exact SeqAt.EqAt.str_str a t' b t
    | _ => exact absurd (show false = true from fx) Bool.false_ne_true
  | _ => exact absurd (show false = true from fy) Bool.false_ne_true
/-- the items' answers, read off the values (a value's own answer does not lean on its token) -/
def eqU (x : V) (u : Value) : Bool := match u with
  | .none => eqV .non x
  | .bool b => eqV (.bl b) x
  | .int i _ => eqV (.int i) x
  | .str z _ => eqV (.str z) x
  | _ => false
theorem eqU_of {x y : V} {u : Value} (r : RelV y u) (f : flatV y = true) : eqU x u = eqV y x := by
  cases y with
  | non => cases r; rfl
  | bl b => cases r; rfl
  | int i => obtain ⟨t, rfl⟩ := r; rfl
  | str z => obtain ⟨t, rfl⟩ := r; rfl
  | _ => exact absurd (show false = true from f) Bool.false_ne_true
theorem any_eqU {x : V} : ∀ {xs : List V} {us : List Value}, Vals xs us → xs.all flatV = true → us.any (eqU x) = xs.any fun y => eqV y x
  | _, _, .nil, _ => rfl
  | y :: xs, u :: us, .cons r t, f => by
    rw [List.all_cons, Bool.and_eq_true] at f
    rw [List.any_cons, List.any_cons, eqU_of r f.1, any_eqU t f.2]
theorem mem_eqAt {A : Around} {s : Shared} {x : V} {v : Value} (rx : RelV x v) (fx : flatV x = true) : ∀ {xs : List V} {us : List Value}, Vals xs us → xs.all flatV = true → ∀ u ∈ us, SeqAt.EqAt A s u v (eqU x u)
  | _, _, .nil, _ => fun u hu => by cases hu
  | y :: xs, u :: us, .cons r t, f => fun u' hu => by
    rw [List.all_cons, Bool.and_eq_true] at f
    rcases List.mem_cons.mp hu with rfl | hu
    · rw [eqU_of r f.1]; exact eqAt_V r rx f.1 fx
    · exact mem_eqAt rx fx t f.2 u' hu
def inV (x : V) (xs : List V) : Bool := xs.any fun y => eqV y x
/-- x in a list or tuple of flat items -/
def rIn (K : PySem.W.Frag) (neg : Bool) : R2 := fun x y H Q => ∃ p xs, y = .ref p ∧ (SqL K H p xs ∨ SqT K H p xs) ∧ flatV x = true ∧ xs.all flatV = true ∧ Q (.bl (if neg then !inV x xs else inV x xs)) H
theorem op_in_seq : OpR X (compareOp .In) (rIn X.K false) := by
  intro pins s σ H x y v u Q I rx ry h
  obtain ⟨p, xs, rfl, hq, fx, fs, q⟩ := h
  cases ry
  rcases hq with hq | hq
  · obtain ⟨its, r, pl, hz⟩ := I.list hq
    refine SeqAt.in_listAt (eqU x) pl.isList (fun w hw => mem_eqAt rx fx r fs w (by simpa using hw)) ⟨.bl _, H, I, rfl, ?_⟩
    rw [show its.toArray.any (eqU x) = its.any (eqU x) by simp, any_eqU r fs]
    exact q
  · obtain ⟨its, r, pl, hz⟩ := I.tuple hq
    refine SeqAt.in_tupleAt (eqU x) pl (fun w hw => mem_eqAt rx fx r fs w (by simpa using hw)) ⟨.bl _, H, I, rfl, ?_⟩
    rw [show its.toArray.any (eqU x) = its.any (eqU x) by simp, any_eqU r fs]
    exact q

/-! ### len, list(x), tuple(x) of any list or tuple that is read -/
theorem call_len_seq : CallR X (.builtin "len") (fun xs H Q => ∃ p ys, xs = [.ref p] ∧ (SqL X.K H p ys ∨ SqT X.K H p ys) ∧ Q (.int ys.length) H) := by
  intro pins s σ H xs us Q I r h
  obtain ⟨p, ys, rfl, hq, q⟩ := h
  obtain ⟨u, rfl, rx⟩ := vals1 r
  cases rx
  have hn := line63
  rcases hq with hq | hq
  · obtain ⟨its, r', pl, hz⟩ := I.list hq
    have hlen := r'.length
    exact Calls.call_len_list pl.isList (by simp only [List.size_toArray] <;> omega) ⟨.int ys.length, H, I.tok _, ⟨s.toks + 1, by rw [List.size_toArray, hlen]⟩, q⟩
  · obtain ⟨its, r', pl, hz⟩ := I.tuple hq
    have hlen := r'.length
    exact len_tuple pl (by simp only [List.size_toArray] <;> omega) ⟨.int ys.length, H, I.tok _, ⟨s.toks + 1, by rw [List.size_toArray, hlen]⟩, q⟩
theorem call_list_of : CallR X (.type "list") (fun xs H Q => ∃ p ys, xs = [.ref p] ∧ (SqL X.K H p ys ∨ SqT X.K H p ys) ∧ ∀ l, H l = none → Q (.ref l) (upd H l (.lst ys))) := by
  intro pins s σ H xs us Q I r h
  obtain ⟨p, ys, rfl, hq, q⟩ := h
  obtain ⟨u, rfl, rx⟩ := vals1 r
  cases rx
  have fin : ∀ (its : List Value), Vals ys its → ys.length ≤ sizeLine → ∀ (h' : Heap) (c' : Nat), (∀ b o', s.heap.get? b = some o' → h'.get? b = some o') →
      h'.get? s.heap.objs.size = some { cls := .type "list", dict := none, data := .seq its.toArray c', slots := #[] } → EP X pins σ Q (.ref s.heap.objs.size) { s with heap := h' } := fun its r' hz h' c' kp e =>
    ⟨.ref s.heap.objs.size, _, I.laid (t' := s.toks) kp (Nat.le_refl _) (show ObjOk X.prog X.w _ h' _ (.lst ys) from ⟨hz, its, c', r', e⟩), rfl, q _ (I.hok.fresh (Nat.le_refl _))⟩
  rcases hq with hq | hq
  · obtain ⟨its, r', pl, hz⟩ := I.list hq
    have hlen := r'.length
    obtain ⟨o, ho, hc, n, hd⟩ := pl.isList
    exact call_list_seq p (.inl rfl) ho hc hd (fun h' c' kp e => fin its r' hz h' c' kp e) (by simp only [List.size_toArray] <;> omega)
  · obtain ⟨its, r', pl, hz⟩ := I.tuple hq
    have hlen := r'.length
    obtain ⟨o, ho, hc, n, hd⟩ := pl
    exact call_list_seq p (.inr rfl) ho hc hd (fun h' c' kp e => fin its r' hz h' c' kp e) (by simp only [List.size_toArray] <;> omega)
theorem call_tuple_of : CallR X (.type "tuple") (fun xs H Q => ∃ p ys, xs = [.ref p] ∧ ((SqL X.K H p ys ∧ ∀ l, H l = none → Q (.ref l) (upd H l (.tup ys))) ∨ (SqT X.K H p ys ∧ Q (.ref p) H))) := by
  intro pins s σ H xs us Q I r h
  obtain ⟨p, ys, rfl, h⟩ := h
  obtain ⟨u, rfl, rx⟩ := vals1 r
  cases rx
  rcases h with ⟨hq, q⟩ | ⟨hq, q⟩
  · obtain ⟨its, r', pl, hz⟩ := I.list hq
    have hlen := r'.length
    refine call_tuple_list pl.isList (fun h' kp => ?_) (by simp only [List.size_toArray] <;> omega)
    have I1 : Inv X pins σ H { s with heap := h' } := I.kept (t' := s.toks) kp
    have I2 : Inv X pins σ (upd H h'.objs.size (.tup ys)) { s with heap := h'.push { cls := .type "tuple", data := .seq its.toArray } } :=
      I1.laid (t' := s.toks) (fun b o e => Heap.get?_push_of_some _ e) (Nat.le_refl _) (show ObjOk X.prog X.w _ _ _ (.tup ys) from ⟨hz, its, r', IsTup.new _ _⟩)
    exact ⟨.ref h'.objs.size, _, I2, rfl, q _ (I1.hok.fresh (Nat.le_refl _))⟩
  · obtain ⟨its, r', pl, hz⟩ := I.tuple hq
    exact call_tuple_same pl ⟨.ref p, H, I, rfl, q⟩

/-! ### the call of a builtin's method: o.m(..) -/
/-- the value is of that builtin type -/
def tyV (K : PySem.W.Frag) (T : String) (x : V) (H : Hp) : Prop := match x with
  | .str _ => T = "str"
  | .int _ => T = "int"
  | .ref p => (T = "list" ∧ ∃ xs, SqL K H p xs) ∨ (T = "tuple" ∧ ∃ o, K.lookup p = some o ∧ o.cls = .type "tuple" ∧ o.dict = none) ∨
      (T = "dict" ∧ ((∃ kvs, H p = some (.dK kvs)) ∨ ∃ kvs, H p = some (.dT kvs))) ∨ (T = "set" ∧ ∃ S n, H p = some (.set S n))
  | _ => False
theorem tyV_is {pins : List (Addr × Obj)} {σ : St} {H : Hp} {s : Shared} {T : String} {x : V} {v : Value} (I : Inv X pins σ H s) (r : RelV x v) (ty : tyV X.K T x H) :
    s.TypeIs v T ∧ ∀ a, v = .ref a → ∃ ob, s.heap.get? a = some ob ∧ ob.dict = none := by
  cases x with
  | str z =>
    obtain ⟨t, rfl⟩ := r
    cases (show T = "str" from ty)
    exact ⟨typeIs_str s z t, fun _ e => nomatch e⟩
  | int i =>
    obtain ⟨t, rfl⟩ := r
    cases (show T = "int" from ty)
    exact ⟨typeIs_int s i t, fun _ e => nomatch e⟩
  | ref p =>
    cases r
    rcases ty with ⟨rfl, xs, hq⟩ | ⟨rfl, o, hk, hc, hd⟩ | ⟨rfl, hk⟩ | ⟨rfl, S, n, hk⟩
    · obtain ⟨its, _, pl, _⟩ := I.list hq
      refine ⟨pl.isList.typeIs, fun a e => ?_⟩
      cases e
      obtain ⟨o, n, e, c, hd, _⟩ := pl
      exact ⟨o, e, hd⟩
    · refine ⟨⟨o, I.kIn p o hk, hc⟩, fun a e => ?_⟩
      cases e
      exact ⟨o, I.kIn _ o hk, hd⟩
    · have z : ∃ o, s.heap.get? p = some o ∧ o.ExactDict := by
        rcases hk with ⟨kvs, hk⟩ | ⟨kvs, hk⟩
        · obtain ⟨_, _, _, _, o, _, _, e, ex, _⟩ := I.hok p _ hk
          exact ⟨o, e, ex⟩
        · obtain ⟨_, _, _, _, o, _, _, e, ex, _⟩ := I.hok p _ hk
          exact ⟨o, e, ex⟩
      obtain ⟨o, e, ex⟩ := z
      refine ⟨⟨o, e, ex.1⟩, fun a e2 => ?_⟩
      cases e2
      exact ⟨o, e, ex.2.1⟩
    · obtain ⟨o, _, _, _, e, ex, _⟩ := I.hok p _ hk
      refine ⟨⟨o, e, ex.1⟩, fun a e2 => ?_⟩
      cases e2
      exact ⟨o, e, ex.2.1⟩
  | _ => exact False.elim ty
def tBM (K : PySem.W.Frag) (T : String) (r : V → List V → Hp → VK → Prop) (to : TE) (t : TA) : TE := fun σ H Q => to σ H fun x H1 => tyV K T x H1 ∧ t σ H1 fun xs H2 => r x xs H2 Q
variable {o e : Expr} {es : List Expr} {to : TE} {t : TA} {name : Str} {apos cpos : Pos} {T id : String} {r : V → List V → Hp → VK → Prop}
theorem pe_bm (pa : PlainAttrs T) (slot : Slot T name id) (hty : typeOf (.builtin id) = pure (.type "method_descriptor")) (hm : MtR X id r) (ho : PE X o to) (ha : PA X (e :: es) t)
    (hbase : attributeBase o name X.env (eval o X.env) = eval o X.env := by rfl)
    (hfew : ((backTo cpos (starEach (e :: es) X.env)).all (fun x => !x.1) && (backToKw cpos (keywordEach [] X.env)).all (fun x => x.1.isSome)
      && decide ((e :: es).length + ([] : List Keyword).length + (if ([] : List Keyword).isEmpty then 0 else 1) < 30)) = true := by rfl)
    (hline : (apos.endLine == cpos.line) = true := by rfl) (hs : starEach (e :: es) X.env = (false, eval e X.env) :: starEach es X.env := by rfl) (hplain : (backTo cpos (starEach es X.env)).any (·.1) = false := by rfl) :
    PE X (.Call (.Attribute o name apos) (e :: es) [] cpos) (tBM X.K T r to t) := by
  intro pins s σ H Q I h
  refine wpAny_Call_method_late hbase hfew hline rfl (thn (ho pins s σ H _ I h) fun v s1 hh => ?_)
  obtain ⟨x, H1, I1, r1, ty, q1⟩ := hh
  obtain ⟨h1, h2⟩ := tyV_is I1 r1 ty
  refine ⟨T, id, pa, slot, hty, h1, h2, ?_⟩
  have hA := ha cpos pins s1 σ H1 _ I1 q1
  rw [hs] at hA ⊢
  refine Calls.callWith_builtin (by show (false || (backTo cpos (starEach es X.env)).any (·.1)) = false; rw [hplain] <;> rfl) (Calls.evalArgs_plain ?_)
  exact thn hA fun us s2 ⟨vs, H2, I2, r2, q2⟩ => hm pins s2 σ H2 x vs v us Q I2 r1 r2 q2
/- xs.append(e), list.index on a module's tuple .. are MtR facts of 06m -/
end
end L2

namespace L2
open PySem PySem.Spec PyProof.Rows

def MtM (X : Cx) (id : String) (r : V → List V → Hp → VK → Prop) : Prop :=
  ∀ (pins : List (Addr × Obj)) (s : Shared) (σ : St) (H : Hp) (x : V) (xs : List V) (v : Value) (us : List Value) (Q : VK), Inv X pins σ H s → RelV x v → Vals xs us → r x xs H Q →
    wpAny (model X.prog X.w) X.A (call (.builtin id) (v :: us)) (EP X pins σ Q) X.xe s

/-! ### lists of values -/
theorem Vals.one : ∀ {x : V} {us : List Value}, Vals [x] us → ∃ u, us = [u] ∧ RelV x u
  | _, _, .cons r .nil => ⟨_, rfl, r⟩
theorem Vals.reverse {xs : List V} {us : List Value} (h : Vals xs us) : Vals xs.reverse us.reverse := by
  induction h with
  | nil => exact .nil
  | cons r t ih => rw [List.reverse_cons, List.reverse_cons]; exact Vals.append ih (.cons r .nil)
theorem Vals.rep {xs : List V} {us : List Value} (h : Vals xs us) : ∀ k : Nat, Vals (List.replicate k xs).flatten (List.replicate k us).flatten
  | 0 => .nil
  | k + 1 => by
    rw [List.replicate_succ, List.replicate_succ, List.flatten_cons, List.flatten_cons]
    exact Vals.append h (Vals.rep h k)
theorem foldl_rep (its : List Value) : ∀ (k : Nat) (acc : List Value),
    List.foldl (fun x1 x2 => x1 ++ x2) acc.toArray (List.replicate k its.toArray) = (acc ++ (List.replicate k its).flatten).toArray
  | 0, acc => by simp
  | k + 1, acc => by
    have e : acc.toArray ++ its.toArray = (acc ++ its).toArray := by simp
    have e2 : (acc ++ its) ++ (List.replicate k its).flatten = acc ++ (List.replicate (k + 1) its).flatten := by
      rw [List.replicate_succ, List.flatten_cons, List.append_assoc]
    rw [← e2, ← foldl_rep its k (acc ++ its), ← e, List.replicate_succ, List.foldl_cons]

section
variable {X : Cx} {pins : List (Addr × Obj)} {σ : St} {H : Hp} {s : Shared} {l b : Addr} {xs ys zs : List V}

/-! ### the two steps: a tracked list is rewritten, a new list is laid -/
theorem Inv.lset {its its' : List Value} {n : Nat} {f : Array Value → Array Value} {t' : Nat} (I : Inv X pins σ H s) (hH : H l = some (.lst xs))
    (e : s.heap.get? l = some { cls := .type "list", data := .seq its.toArray n }) (hf : f its.toArray = its'.toArray) (hv : Vals ys its') (hz : ys.length ≤ sizeLine) :
    Inv X pins σ (upd H l (.lst ys)) { s with heap := s.heap.update l (Obj.mapSeq f), toks := t' } := by
  have q := PySem.IsL.update e f
  rw [hf] at q
  refine I.write (x := l) (e := l) (by rw [hH]; exact trivial) (.inl rfl) (fun b' u hb hu => (Heap.get?_update_other s.heap (Obj.mapSeq f) (Ne.symm hb)).trans hu) ⟨_, q⟩ ?_
  exact ⟨hz, its', _, hv, q⟩
theorem Inv.lnew {its : List Value} {t' : Nat} (I : Inv X pins σ H s) (hv : Vals ys its) (hz : ys.length ≤ sizeLine) :
    Inv X pins σ (upd H s.heap.objs.size (.lst ys)) { s with heap := s.heap.push { cls := .type "list", data := .seq its.toArray }, toks := t' } :=
  I.laid (fun _ _ q => Heap.get?_push_of_some _ q) (Nat.le_refl _) ⟨hz, its, 0, hv, Heap.get?_push_size _ rfl⟩
theorem Inv.fresh (I : Inv X pins σ H s) : H s.heap.objs.size = none := I.hok.fresh (Nat.le_refl _)
theorem Inv.lstM (I : Inv X pins σ H s) (hH : H l = some (.lst xs)) : xs.length ≤ sizeLine ∧ ∃ (its : List Value) (n : Nat), Vals xs its ∧ xs.length = its.length ∧ s.heap.get? l = some { cls := .type "list", data := .seq its.toArray n } := by
  obtain ⟨z, its, n, r, e⟩ := I.hok l _ hH
  exact ⟨z, its, n, r, r.length, e⟩

theorem notLongL {n : Nat} (h : n ≤ sizeLine) : Builtin.List.listTooLong n = false := by
  unfold Builtin.List.listTooLong
  exact decide_eq_false (by omega)
end

section
variable {X : Cx}

/-! ### methods -/
def rAppend : V → List V → Hp → VK → Prop := fun x vs H Q => ∃ l xs y, x = .ref l ∧ vs = [y] ∧ H l = some (.lst xs) ∧ xs.length < sizeLine ∧ Q .non (upd H l (.lst (xs ++ [y])))
theorem mt_append : MtM X "list.append" rAppend := by
  intro pins s σ H x vs v us Q I rx rv h
  obtain ⟨l, xs, y, rfl, rfl, hH, hz, q⟩ := h
  cases rx
  obtain ⟨u, rfl, ru⟩ := rv.one
  obtain ⟨z, its, n, r, hl, e⟩ := I.lstM hH
  refine call_meets F.slot_list_append ⟨_, e, rfl⟩ F.entry_list_append (F.args_list_append_2 _ _) (PySem.list_append l its.toArray n u (by rw [List.size_toArray]; omega)) ⟨e, ?_⟩
  refine ⟨.non, _, I.lset (its' := its ++ [u]) hH e (by simp) (r.append (.cons ru .nil)) ?_, rfl, q⟩
  rw [List.length_append, List.length_singleton]
  omega

def rExtend : V → List V → Hp → VK → Prop := fun x vs H Q => ∃ l b xs zs, x = .ref l ∧ vs = [.ref b] ∧ H l = some (.lst xs) ∧ H b = some (.lst zs) ∧ xs.length + zs.length ≤ sizeLine ∧ Q .non (upd H l (.lst (xs ++ zs)))
theorem mt_extend : MtM X "list.extend" rExtend := by
  intro pins s σ H x vs v us Q I rx rv h
  obtain ⟨l, b, xs, zs, rfl, rfl, hH, hB, hz, q⟩ := h
  cases rx
  obtain ⟨u, rfl, ru⟩ := rv.one
  cases ru
  obtain ⟨z, its, n, r, hl, e⟩ := I.lstM hH
  obtain ⟨z2, its2, n2, r2, hl2, e2⟩ := I.lstM hB
  have hsz : its.toArray.size + its2.toArray.size ≤ sizeLine := by rw [List.size_toArray, List.size_toArray]; omega
  have hlong : ¬ (!its.toArray.isEmpty && Builtin.List.listTooLong (its.toArray.size + its2.toArray.size)) = true := by
    rw [notLongL hsz, Bool.and_false]
    exact Bool.false_ne_true
  refine call_meets F.slot_list_extend ⟨_, e, rfl⟩ F.entry_list_extend (F.args_list_extend_2 _ _)
    (AutoSeq1.list_extend_list_list_0 l its.toArray n b its2.toArray n2 hlong (by rw [List.size_toArray]; omega) (by omega)) ⟨e, e2, ?_⟩
  refine ⟨.non, _, I.lset (its' := its ++ its2) hH e (by simp) (r.append r2) ?_, rfl, q⟩
  rw [List.length_append]
  omega





/-! ### list + list, list += list, list * int -/
def rCat : R2 := fun x y H Q => ∃ l b xs zs, x = .ref l ∧ y = .ref b ∧ H l = some (.lst xs) ∧ H b = some (.lst zs) ∧ xs.length + zs.length ≤ sizeLine ∧ ∀ p, H p = none → Q (.ref p) (upd H p (.lst (xs ++ zs)))
theorem op_cat : OpR X (binaryOp .Add) rCat := by
  intro pins s σ H x y v u Q I rx ry h
  obtain ⟨l, b, xs, zs, rfl, rfl, hH, hB, hz, q⟩ := h
  cases rx
  cases ry
  obtain ⟨z, its, n, r, hl, e⟩ := I.lstM hH
  obtain ⟨z2, its2, n2, r2, hl2, e2⟩ := I.lstM hB
  refine PySem.P.add_list e e2 ?_ (by rw [List.size_toArray, List.size_toArray]; omega)
  have ea : its.toArray ++ its2.toArray = (its ++ its2).toArray := by simp
  rw [ea]
  exact ⟨.ref _, _, I.lnew (t' := s.toks) (r.append r2) (by rw [List.length_append]; omega), rfl, q _ I.fresh⟩
/-- a list times an int (a negative one is nothing) -/
def rRep : R2 := fun x y H Q => ∃ l k xs, x = .ref l ∧ y = .int k ∧ H l = some (.lst xs) ∧ -(2 ^ 63) ≤ k ∧ k < 2 ^ 63 ∧ xs.length * k.toNat ≤ sizeLine ∧
  ∀ p, H p = none → Q (.ref p) (upd H p (.lst (List.replicate k.toNat xs).flatten))
theorem len_rep {α : Type} (xs : List α) (k : Nat) : (List.replicate k xs).flatten.length = k * xs.length := by
  induction k with
  | zero => simp
  | succ k ih => rw [List.replicate_succ, List.flatten_cons, List.length_append, ih, Nat.succ_mul, Nat.add_comm]
theorem op_rep : OpR X (binaryOp .Mult) rRep := by
  intro pins s σ H x y v u Q I rx ry h
  obtain ⟨l, k, xs, rfl, rfl, hH, h1, h2, hz, q⟩ := h
  cases rx
  obtain ⟨t, rfl⟩ := ry
  obtain ⟨z, its, n, r, hl, e⟩ := I.lstM hH
  have hlen : its.toArray.size * k.toNat ≤ sizeLine := by rw [List.size_toArray, ← hl]; exact hz
  have hcap : ¬ its.toArray.size * k.toNat > (2 ^ 63 - 1) / 8 := by
    have : (sizeLine : Nat) ≤ (2 ^ 63 - 1) / 8 := by decide
    omega
  have hfit : ¬ (!Builtin.List.listFitsIndex k) = true := by
    rw [fitsIndex_both h1 h2]
    exact Bool.false_ne_true
  have hlong : ¬ Builtin.List.listTooLong (its.toArray.size * k.toNat) = true := by
    rw [notLongL hlen]
    exact Bool.false_ne_true
  have hnew : List.foldl (fun x1 x2 => x1 ++ x2) #[] (List.replicate (if its.toArray.isEmpty = true then 0 else k.toNat) its.toArray) = (List.replicate k.toNat its).flatten.toArray := by
    have f0 : ∀ m : Nat, List.foldl (fun x1 x2 => x1 ++ x2) #[] (List.replicate m its.toArray) = (List.replicate m its).flatten.toArray := fun m => by
      have := foldl_rep its m []
      rw [List.nil_append] at this
      exact this
    rw [f0]
    cases its with
    | nil => simp
    | cons a r' => rw [if_neg (by simp)]
  refine wpAny_binaryOp_repeat_ref (T := "list") (U := "int") (by decide) ⟨_, e, rfl⟩ (fun s' => typeIs_int s' k t) noFill_list_mul F.fills_int_mul F.slot_int_rmul repeat_list F.slot_int_index.lookup
    (call_meets F.slot_int_rmul (typeIs_int s k t) F.entry_int_rmul (F.args_int_rmul_2 _ _) (int___rmul___int_list k t l its.toArray n)
      ⟨e, rfl, ⟨_, e, rfl⟩, call_meets F.slot_list_mul ⟨_, e, rfl⟩ F.entry_list_mul (F.args_list_mul_2 _ _) (AutoListH.list___mul___list_int_3 l its.toArray n k t hfit hcap hlong) ⟨e, ?_⟩⟩)
  rw [hnew]
  exact ⟨.ref _, _, I.lnew (t' := s.toks) (r.rep k.toNat) (by rw [len_rep, Nat.mul_comm]; exact hz), rfl, q _ I.fresh⟩

/-! ### del xs[i] -/
end

/-! ### xs[a:b] = ys -/
section
variable {prog : Program} {w : World} {A : Around} {E : Value → Shared → Prop} {s : Shared}
set_option maxRecDepth 100000 in
end

section
variable {X : Cx}
end
end L2

namespace Att
open PySem PySem.W PySem.Calls PyProof.Rows

/-! ### the script -/
theorem ints_of_wellAll {P : Params} {h : Heap} : ∀ (ns : List Int) (vs : List Value), WellAll P h vs (ns.map WData.int) → IntsAre vs ns := by
  intro ns
  induction ns with
  | nil =>
    intro vs w
    rw [List.map_nil] at w
    cases w
    exact .nil
  | cons n ns ih =>
    intro vs w
    rw [List.map_cons] at w
    cases w with
    | cons a b =>
      cases a
      exact .cons _ _ (ih _ b)

theorem script_of {l : OpenLaw} {n : Nat} (hn : l.most = some n) {P : Params} {h : Heap} {args : List WData} {vals : List Value}
    (hpre : l.row.toRowW.claim.pre args = true) (hwl : WellAll P h vals args) :
    ∃ a vs ns, vals = [Value.ref a] ∧ args = [WData.list (ns.map WData.int)] ∧ h.get? a = some { cls := .type "list", data := .seq vs.toArray } ∧ IntsAre vs ns ∧ ns.length ≤ n := by
  have hsh : WShape.hasAll [] args [.list .int] = true := (pre_splitW hpre).1
  have hc : l.pre.holds [] { args := args } = true := (pre_splitW hpre).2
  obtain ⟨d, r, rfl, h1, h2⟩ := hasAllW_cons hsh
  obtain rfl := hasAllW_nil h2
  obtain ⟨xs, rfl, h3⟩ := hasW_list h1
  obtain ⟨ns, rfl⟩ := items_int h3
  have hlen : ns.length ≤ n := by
    unfold OpenLaw.pre at hc
    have h4 : (WTm.not (.lt (.lit (.int (n : Int))) (.len (.arg 0)))).holds [] { args := [.list (ns.map .int)] } = true := by
      have h4 := (holds_andW hc).1
      rw [hn] at h4
      exact h4
    have h5 := condW_of h4 (w_not (w_lt w_lit (w_len_list (w_arg rfl))))
    rw [List.length_map] at h5
    refine Nat.le_of_not_lt fun q => ?_
    have q' : (n : Int) < ((ns.length : Nat) : Int) := by omega
    first
      | (rw [decide_eq_true q'] at h5; exact absurd h5 (by decide))
      | (simp at h5; omega)
  cases hwl with
  | cons w1 w2 =>
    cases w2
    cases w1 with
    | list ho hall => exact ⟨_, _, ns, rfl, rfl, ho, ints_of_wellAll ns _ hall, hlen⟩

theorem post_true (l : OpenLaw) (args : List WData) : l.row.toRowW.claim.post args (.bool true) args = true :=
  postW_of (r := l.row.toRowW) (X := (true == true))
    (show WShape.has [] (.bool true) .bool = true by first | rfl | decide | simp [WShape.has, WShape.arms, WShape.armsAll])
    (show (WTm.eq .res (.lit (.bool true))).value [] { args := args, res := some (.bool true), after := args } = some (.bool (true == true)) from w_eq_bool (w_res rfl) w_lit) rfl

/-! ### the attachment: holds_open's last premise (the goal 'hc' behind k_head) from a wpAny of the law's body -/

/-- the same from a codeAny of the CALL (for a layer whose function contracts speak of calls) -/
theorem attach_call {l : OpenLaw} {n : Nat} {q : Program} {loose : List Str} {XP : (Str → Option Value) → Heap → Prop} {YP : World → Heap → Prop} {d : DefRec}
    (hn : l.most = some n) (hdf : d.params.defaults = [])
    (call : ∀ (w : World) (s₀ s₁ : Shared) (mg mb : Str → Option Value) (fa : Addr) (o : Obj) (pm cd doc : Value) (a : Addr) (vs : List Value) (ns : List Int),
      Ground q loose [] XP w s₀ mg mb s₁.heap → YP w s₁.heap →
      s₁.heap.get? fa = some o → o.data = .func (docDef d.name d.params d.body d.scope pm cd doc) → s₁.heap.CodeRec cd d.name → mg d.name = some (.ref fa) →
      s₁.heap.get? a = some { cls := .type "list", data := .seq vs.toArray } → IntsAre vs ns → ns.length ≤ n → s₁.gens = #[] →
      codeAny (model l.prog w) callerA (.call (.ref fa) ⟨[.ref a], []⟩) (fun r s' => r = .ok (.ret (.bool true)) ∧ OldK s₁.heap s'.heap ∧ s'.os = s₁.os ∧ AllBare s'.gens) s₁) :
    WalkO q loose XP YP l.row.toRowW d [] (fun f vs => PySem.call f vs) := by
  intro w s₀ s₁ mg mb G Y fa o pm cd doc dV kV ho hd hcd hD hmg hg args vals as hpre hlay hrd hwl hlo
  obtain rfl : dV = .none := Dflts.none hD hdf
  obtain rfl : kV = .none := Dflts.noKw hD
  obtain ⟨a, vs, ns, rfl, rfl, hobj, hints, hlen⟩ := script_of hn hpre hwl
  refine enter_call (codeAny_mono (call w s₀ s₁ mg mb fa o pm cd doc a vs ns G Y ho (fd_plain hd) hcd hmg hobj hints hlen hg) fun r s' hq => ?_)
  obtain ⟨rfl, h2, h3, h4⟩ := hq
  exact ⟨.inl ⟨.bool true, .bool true, [], rfl, fun _ => rfl, .bool true, post_true l _, fun _ => ⟨List.Pairwise.nil, fun _ hm => (nomatch hm)⟩⟩, h2, h3, h4⟩


/-! ### rules over ANY heap (no ledger) from facts about the written part K: the library's own take a ledger (News) for what they write -/
section
variable {prog : Program} {w : World} {A : Around} {E : Value → Shared → Prop} {s : Shared} {K : Frag}





/-! the whole heap as the ledger: makes every rule that writes through a ledger a rule over any heap -/

end
end Att

namespace L2
open PySem PySem.Spec PyProof.Rows

theorem vals_ints : ∀ {vs : List Value} {ns : List Int}, IntsAre vs ns → Vals (ns.map V.int) vs
  | _, _, .nil => .nil
  | _, _, .cons n t h => .cons ⟨t, rfl⟩ (vals_ints h)

/-- nothing is tracked but the script, known to the object (or it is an object of the module) -/
def Only (H : Hp) : Prop := ∀ b, H b = none ∨ ∃ o xs, H b = some (.frz o (.lst xs))

/-- THE HEAD: the law's promise, at the heap behind the top. F, the promise of the law's def, may use that base is part of the heap (so K.In base, base.Ns mainGlobals mg stand in Mod) -/
theorem law_call {P : Program} {w : World} {K : PySem.W.Frag} {mg mb : Str → Option Value} {CX : CXT} {k : Nat} {fa a : Addr} {fd : FuncData} {x : Str} {sp : Sp} {s₁ : Shared} {vs : List Value} {ns : List Int}
    (KX : K.In s₁.heap) (hns : s₁.heap.Ns mainGlobals mg) (hb : s₁.heap.Ns builtinsNs mb) (hbb : ∀ x : Str, x ≠ "__name__" → mb x = bootBuiltins x) (hlim : s₁.heap.NoLimit) (hg : s₁.gens = #[])
    (ha : s₁.heap.get? a = some { cls := .type "list", data := .seq vs.toArray }) (hi : IntsAre vs ns) (hl : ns.length ≤ sizeLine) (hr : Room k callerA)
    (F : ∀ base : Heap, K.In base → base.Ns mainGlobals mg → FnOk P w K mg base CX k fa fd [x] sp) (hbind : ∀ (s : Shared) (u : Value), BindsTo s fd ⟨[u], []⟩ [(x, u)])
    (hsp : ∀ H : Hp, Only H → SqL K H a (ns.map V.int) → sp [.ref a] H (fun v _ => v = .bl true) fun _ _ _ => False)
    (hCX : ∀ H e s', CX [] H s₁ (fun _ _ _ => False) e s' → False) :
    codeAny (model P w) callerA (.call (.ref fa) ⟨[.ref a], []⟩) (fun r s' => r = .ok (.ret (.bool true)) ∧ OldK s₁.heap s'.heap ∧ s'.os = s₁.os ∧ AllBare s'.gens) s₁ := by
  have rv := vals_ints hi
  have lenV := hi.length
  -- from an abstract heap in which nothing but the script may be tracked
  have core : ∀ H : Hp, Only H → SqL K H a (ns.map V.int) → HOk P w H s₁.heap → (∀ b, H b ≠ none → b = a) → (H a ≠ none → K.lookup a = none) →
      codeAny (model P w) callerA (.call (.ref fa) ⟨[.ref a], []⟩) (fun r s' => r = .ok (.ret (.bool true)) ∧ OldK s₁.heap s'.heap ∧ s'.os = s₁.os ∧ AllBare s'.gens) s₁ := by
    intro H hO hS hok hA hK
    have base_of : ∀ {b : Addr} {o : Obj}, s₁.heap.get? b = some o → H b = none → (hidT s₁.heap H).get? b = some o := fun e n => hidT_get e n
    have noA : ∀ {b : Addr} {o : Obj} {es : Array DictEntry} {ep : Nat}, s₁.heap.get? b = some o → o.data = .dict es ep → H b = none := fun {b o es ep} e d => by
      cases q : H b with
      | none => rfl
      | some u =>
        have e' : b = a := hA b (by rw [q]; simp)
        subst e'
        rw [ha] at e; cases e
        have d' : Data.seq vs.toArray _ = Data.dict es ep := d
        cases d'
    have nsK : ∀ {b : Addr} {m : Str → Option Value}, s₁.heap.Ns b m → (hidT s₁.heap H).Ns b m := fun {b m} ⟨o, es, ep, e, d, r⟩ => ⟨o, es, ep, base_of e (noA e d), d, r⟩
    have hKb : K.In (hidT s₁.heap H) := fun b o e => base_of (KX b o e) (by
      cases q : H b with
      | none => rfl
      | some u =>
        have e' : b = a := hA b (by rw [q]; simp)
        subst e'
        rw [hK (by rw [q]; simp)] at e; cases e)
    have hM : Mod K mg (hidT s₁.heap H) := ⟨hKb, nsK hns, ⟨mb, nsK hb, hbb⟩, let ⟨mc, h1, h2⟩ := hlim; ⟨mc, nsK h1, h2⟩⟩
    have e0 : Env0 P w K mg (hidT s₁.heap H) callerA [] s₁ H := ⟨rfl, hM, fun b o e => of_hidT e, Nat.le_of_eq (hidT_size _ _), trivial, fun b hb => absurd (show b ∈ ([] : List Addr) from hb) (by simp), hok, .of_eq hg⟩
    refine codeAny_mono ((F _ hKb (nsK hns)).run callerA [] s₁ H ⟨[.ref a], []⟩ [.ref a] [.ref a] _ _ hr e0 (hbind s₁ (.ref a)) (.cons rfl .nil) (hsp H hO hS)) fun r s' h => ?_
    cases r with
    | error e => exact (hCX H e s' h).elim
    | ok fl =>
      cases fl with
      | next => exact False.elim h
      | brk => exact False.elim h
      | cont => exact False.elim h
      | ret u =>
        obtain ⟨v, H', os, bare, un, hok', r', q⟩ := h
        have q' : v = .bl true := q
        subst q'
        obtain rfl : u = Value.bool true := r'
        refine ⟨rfl, OldK.of_keep fun b o e => ?_, os, bare⟩
        cases q : H b with
        | none => exact un.keep b o e q (by intro z; exact absurd (show b ∈ ([] : List Addr) from z) (by simp)) (by simp)
        | some u =>
          rcases hO b with z | ⟨ob, xs, z⟩
          · rw [q] at z; cases z
          · have z2 := un.frzs b ob _ z
            obtain ⟨e1, _⟩ := hok b _ z
            obtain ⟨e2, _⟩ := hok' b _ z2
            rw [e] at e1; cases e1
            exact e2
  cases hk : K.lookup a with
  | some o =>
    -- the script is one of the module's own objects
    have e := KX a o hk
    rw [ha] at e
    cases e
    refine core (fun _ => none) (fun _ => .inl rfl) (.inr ⟨_, vs.toArray, _, hk, rfl, rfl, rfl, by rw [List.size_toArray, lenV]; exact hl, by simpa using rv⟩) (fun b u z => by have z' : (none : Option HO) = some u := z; cases z') (fun b z => absurd rfl z) fun z => absurd rfl z
  | none =>
    refine core (fun b => if b = a then some (.frz { cls := .type "list", data := .seq vs.toArray } (.lst (ns.map V.int))) else none) (fun b => ?_) (.inl (.inr ⟨{ cls := .type "list", data := .seq vs.toArray }, if_pos rfl⟩)) (fun b u z => ?_) (fun b z => ?_) fun _ => hk
    · by_cases hb : b = a
      · exact .inr ⟨_, _, if_pos hb⟩
      · exact .inl (if_neg hb)
    · by_cases hb : b = a
      · have z' := (if_pos hb).symm.trans z
        cases z'
        subst hb
        exact ⟨ha, by rw [List.length_map]; exact hl, vs, _, rv, ha⟩
      · have z' := (if_neg hb).symm.trans z
        cases z'
    · by_cases hb : b = a
      · exact hb
      · exact absurd (if_neg hb) z
end L2

namespace L2
open PySem PySem.Spec PyProof.Rows


/-- the goal that k_head leaves (case hc), from the law's promise. F gives the function object fd (K's own) once, then the promise over every base -/
theorem walk_of {l : PySem.W.OpenLaw} {n k : Nat} {q : Program} {loose : List Str} {XP : (Str → Option Value) → Heap → Prop} {YP : World → Heap → Prop} {d : DefRec} {K : Params → PySem.W.Frag} {CX : World → CXT} {sp : World → Sp} {x : Str}
    (hn : l.most = some n) (hn2 : n ≤ sizeLine) (hdf : d.params.defaults = []) (hr : Room k callerA)
    (hY : ∀ (w : World) (h : Heap), YP w h → (K w.params).In h)
    (F : ∀ (w : World) (mg : Str → Option Value) (fa : Addr) (h : Heap), (K w.params).In h → h.Ns mainGlobals mg → mg d.name = some (.ref fa) →
      ∃ fd : FuncData, (∀ (s : Shared) (u : Value), BindsTo s fd ⟨[u], []⟩ [(x, u)]) ∧
        ∀ base : Heap, (K w.params).In base → base.Ns mainGlobals mg → FnOk l.prog w (K w.params) mg base (CX w) k fa fd [x] (sp w))
    (hsp : ∀ (w : World) (H : Hp) (a : Addr) (ns : List Int), ns.length ≤ n → Only H → SqL (K w.params) H a (ns.map V.int) → sp w [.ref a] H (fun v _ => v = .bl true) fun _ _ _ => False)
    (hCX : ∀ (w : World) (H : Hp) (s : Shared) (e : Value) (s' : Shared), CX w [] H s (fun _ _ _ => False) e s' → False) :
    PySem.W.WalkO q loose XP YP l.row.toRowW d [] (fun f vs => PySem.call f vs) := by
  refine Att.attach_call hn hdf fun w s₀ s₁ mg mb fa o pm cd doc a vs ns G Y ho hd hcd hmg hobj hints hlen hg => ?_
  have KX := hY w _ Y
  obtain ⟨fd, hb, hF⟩ := F w mg fa _ KX G.T.g hmg
  exact law_call KX G.T.g G.T.b G.T.builtins G.T.nolimit hg hobj hints (Nat.le_trans hlen hn2) hr hF hb (fun H hO hS => hsp w H a ns hlen hO hS) fun H e s' => hCX w H s₁ e s'
end L2

/- THE LAST THEOREM (shape; LID, My.* are yours):
   My.Adr: a structure of the addresses that your layer names (classes, functions); My.Txt K t: a structure (Prop) of the equations over K;
   My.txt_mk : {K} {implicit addresses ..} (e1 : nsIn K mainGlobals "law" = some (some (.ref f))) (e2 : K.lookup f = some ⟨oc, od, .func (fnOf "law" "law" params body scope dV kV doc pm an cdv ct), sl⟩) (e3 : codeIn K cdv "law" = true) .. : ∃ t, My.Txt K t

set_option maxRecDepth 100000 in
set_option maxHeartbeats 0 in
theorem PySem.Challenge.cw_LID_holds : PySem.Challenge.rw_LID.Holds := by
  w_on; o_law; k_head; (case hw => w_witness2)
  k_fill
  refine L2.walk_of (l := PySem.Challenge.rw_LID) (n := 63) (k := 40) (x := "script") (CX := fun w => ..) (sp := fun _ => My.sp_law) rfl (by decide) rfl ⟨rfl, by decide, by decide⟩ (fun w h Y => PySem.W.kIn_of Y) ?F ?S ?C
  case F =>
    intro w mg fa h KX G hmg
    have T : ∃ t, My.Txt (L2.KOf KX) t := by
      dsimp only [L2.KOf]                          -- K must stand as «<heap const> w.params» for k_is
      refine' My.txt_mk ?e1 ?e2 ?e3 ..
      (case e1 => PySem.W.k_is)                    -- in the order: a name -> its address -> its object -> its parts
      (case e2 => PySem.W.k_is)
      ..
    obtain ⟨t, T⟩ := T
    have e0 := hmg.symm.trans (PySem.W.mg_of KX G T.law)
    cases e0                                       -- fa is the law's own address
    exact ⟨_, fun s u => .of_eq rfl, fun base kb nb => My.law_fn T kb nb⟩     -- if «.of_eq rfl» comes too early: refine' ⟨_, ?b, fun base kb nb => My.law_fn T kb nb⟩; exact fun s u => .of_eq rfl
  case S => exact fun w H a ns hl hO hS => ..
  case C => exact ..
(the tactic k_is has no namespace: write k_is) -/

/-! SHORT WORDS over the layer: a def of the text, its body, what a loop and a test want. -/
namespace L2
open PySem PySem.Spec PyProof.Rows

/-! ### the text by places -/
def defArgs (s : Stmt) : Arguments := match s with
  | .FunctionDef _ a _ _ _ _ _ _ _ _ => a
  | _ => { posonlyargs := [], args := [], vararg := none, kwonlyargs := [], kw_defaults := [], kwarg := none, defaults := [] }
def defBody (s : Stmt) : List Stmt := match s with
  | .FunctionDef _ _ b _ _ _ _ _ _ _ => b
  | _ => []
def defScope (s : Stmt) : Scope := match s with
  | .FunctionDef _ _ _ _ _ _ sc _ _ _ => sc
  | _ => { kind := .function, names := [], isGenerator := false, isCoroutine := false }

/-! ### no exception leaves a def -/
abbrev CX0 : CXT := fun _ _ _ _ _ _ => False
abbrev E0 : XK := fun _ _ _ => False
theorem pass0 {X : Cx} : Passes CX0 X E0 := fun _ _ _ _ _ _ _ h => h.elim

/-! ### a def (or method) of the text as it stands behind the top -/
structure Fun (K : PySem.W.Frag) (x qual : Str) (st : Stmt) (f : Addr) (fd : FuncData) : Prop where
  ex : ∃ (oc : Value) (od : Option Addr) (kV doc pm : Value) (an : Option Addr) (cdv ct : Value) (osl : Array (Option Value)),
    fd = PySem.W.fnOf x qual (defArgs st) (defBody st) (defScope st) .none kV doc pm an cdv ct ∧ K.lookup f = some ⟨oc, od, .func fd, osl⟩ ∧ PySem.W.codeIn K cdv qual = true
  kp : PySem.W.keepIn K (.ref f) = true
section
variable {P : Program} {w : World} {K : PySem.W.Frag} {mg : Str → Option Value} {base : Heap}
/-- THE RULE for a def: its body as a term of rules, and the reading of that term -/
theorem Fun.ok {x qual : Str} {st : Stmt} {f : Addr} {fd : FuncData} {N ps : List Str} {k : Nat} {sp : Sp} (F : Fun K x qual st f fd) (S : FnScope N ps (defScope st)) (len : ∀ vs H Q E, sp vs H Q E → vs.length = ps.length)
    (hbody : ∀ (cdv : Value) (A : Around) (outer : List Env) (s : Shared) (H : Hp) (vs : List V) (Q : VK) (E : XK), Room k (A.deeper (envOfC qual (defScope st) s.heap.objs.size f cdv)) → sp vs H Q E →
      ∃ t, PSs (cxOf CX0 P w K mg base N qual (defScope st) f cdv A outer s H E).nox (defBody st) t ∧ t { nx := fun _ H' => Q .non H', rt := Q } (start N vs) H) : FnOk P w K mg base CX0 (k + 1) f fd ps sp := by
  obtain ⟨oc, od, kV, doc, pm, an, cdv, ct, osl, rfl, lk, hcd⟩ := F.ex
  refine fn_of lk hcd S len fun A outer s H vs Q E hr hsp => ?_
  obtain ⟨t, h, q⟩ := hbody cdv A outer s H vs Q E hr hsp
  exact ⟨t, h.nox, q⟩
/-- how its arguments bind (no defaults): h is «fun _ _ _ _ _ _ us hl => match us, hl with | [_, _], _ => rfl», one _ a parameter -/
theorem Fun.binds {x qual : Str} {st : Stmt} {f : Addr} {fd : FuncData} {ps : List Str} (F : Fun K x qual st f fd)
    (h : ∀ (kV doc pm : Value) (an : Option Addr) (cdv ct : Value) (us : List Value), us.length = ps.length → bindArgs (PySem.W.fnOf x qual (defArgs st) (defBody st) (defScope st) .none kV doc pm an cdv ct) ⟨us, []⟩ = pure (ps.zip us)) : Binds K fd ps [] := by
  obtain ⟨oc, od, kV, doc, pm, an, cdv, ct, osl, rfl, lk, hcd⟩ := F.ex
  exact .all (h kV doc pm an cdv ct)
theorem fun_mk {x qual : Str} {st : Stmt} {f : Addr} {oc : Value} {od an : Option Addr} {osl : Array (Option Value)} {kV doc pm cdv ct : Value} (l : K.lookup f = some ⟨oc, od, .func (PySem.W.fnOf x qual (defArgs st) (defBody st) (defScope st) .none kV doc pm an cdv ct), osl⟩)
    (c : PySem.W.codeIn K cdv qual = true) (k : PySem.W.keepIn K (.ref f) = true) : Fun K x qual st f (PySem.W.fnOf x qual (defArgs st) (defBody st) (defScope st) .none kV doc pm an cdv ct) := ⟨⟨oc, od, kV, doc, pm, an, cdv, ct, osl, rfl, l, c⟩, k⟩
end
theorem small1000 {n : Nat} (h : n ≤ 1000) : n < sizeLine := Nat.lt_of_le_of_lt h (by decide)

/-! ### expressions in short: the name that stands in the i-th slot -/
section
variable {X : Cx}
theorem pv (i : Nat) {x : Str} {pos : Pos} (hN : X.N[i]? = some x := by rfl) (hv : Vis X.env.scope x := by first | exact Or.inl rfl | exact Or.inr (Or.inl rfl) | exact Or.inr (Or.inr rfl)) (hd : (x == ("__debug__" : Str)) = false := by decide)
    (hcd : (x == ("__classdict__" : Str)) = false := by decide) : PE X (.Name x pos) (tVar i) := pe_var hN hv hd hcd
end

/-! ### tests -/
theorem iteF {A B : Prop} (h : B) : if false = true then A else B := by
  rw [if_neg Bool.false_ne_true]
  exact h
theorem iteT {A B : Prop} (h : A) : if true = true then A else B := by
  rw [if_pos rfl]
  exact h
theorem iteNS {c A B : Prop} [Decidable c] (hc : c) (h : B) : if (!decide c) = true then A else B := by
  rw [decide_eq_true hc]
  exact iteF h

/-! ### heaps -/
/-- all that was tracked is as it was -/
def Same (H H' : Hp) : Prop := ∀ b o, H b = some o → H' b = some o
theorem Same.refl (H : Hp) : Same H H := fun _ _ h => h
theorem Same.trans {H H1 H2 : Hp} (a : Same H H1) (b : Same H1 H2) : Same H H2 := fun c o h => b c o (a c o h)
theorem Same.free {H H' : Hp} (e : Same H H') {l : Addr} (h : H' l = Option.none) : H l = Option.none := by
  cases q : H l with
  | none => rfl
  | some o =>
    rw [e l o q] at h
    cases h

end L2

namespace L2
open PySem PySem.Spec PyProof.Rows
section
variable {X : Cx}
end
/-! ### a dict's pairs: keys that differ -/
section
variable {κ : Type} [DecidableEq κ]
end
end L2


set_option maxHeartbeats 4400000
/-! MORE RULES over the hand layer (own work): sum, isinstance, dict(d), d != e of equal tables, products of many bits, a comprehension of ints -/
namespace L2
open PySem PySem.Spec PyProof.Rows
section
variable {X : Cx}
/-! ### products -/
/-! ### sum -/
/-! ### isinstance, a built-in type -/
theorem call_isinst : CallR X (.builtin "isinstance") (fun xs H Q => ∃ x n t b, xs = [x, .ty n] ∧ TyOf X.K H x t ∧ PySem.W.kitOne X.K t (.type n) = some b ∧ Q (.bl b) H) := by
  intro pins s σ H xs us Q I r h
  obtain ⟨x, n, t, b, rfl, ty, e, q⟩ := h
  obtain ⟨u, u', rfl, rx, ry⟩ := vals2 r
  obtain rfl : u' = Value.type n := ry
  exact isinst_ok I rx ty e fun tk => ⟨.bl b, H, I.tok tk, rfl, q⟩
/-! ### dict(d) -/
/-! ### d != e, both of the same pairs -/
end
/-! ### a new object at an address that holds none -/
/-! ### [elt for x in xs], xs a list of ints, elt an int and nothing made -/
theorem ite_t {c A B : Prop} [Decidable c] (hc : c) (h : A) : if decide c = true then A else B := by
  rw [if_pos (decide_eq_true hc)]; exact h
theorem ite_f {c A B : Prop} [Decidable c] (hc : ¬ c) (h : B) : if decide c = true then A else B := by
  rw [if_neg (by rw [decide_eq_false hc]; exact Bool.false_ne_true)]; exact h
theorem ite_d {c A B : Prop} [Decidable c] (h1 : c → A) (h2 : ¬ c → B) : if decide c = true then A else B := by
  by_cases h : c
  · exact ite_t h (h1 h)
  · exact ite_f h (h2 h)
theorem Same.new {H : Hp} {p : Addr} (h : H p = none) (o : HO) : Same H (upd H p o) := fun b u q => by rw [upd_ne (ne_of_none q h)]; exact q
end L2

/-! A COMPREHENSION over the hand layer (own work): [elt for target in iter if test], its element and test any code that raises nothing; the block is a context of its own -/
namespace L2
open PySem PySem.Spec PyProof.Rows
/-! ### its closure -/
def clOf (cells : List (Str × Addr)) : List (Str × NameKind) → List (Str × Addr) → List (Str × Addr)
  | [], acc => acc
  | (x, k) :: r, acc => if (k == .free) = true then clOf cells r ((x, (cells.lookup x).getD 0) :: acc) else clOf cells r acc
theorem clOf_lookup {cells : List (Str × Addr)} {x : Str} {c : Addr} : ∀ {names : List (Str × NameKind)} {acc : List (Str × Addr)}, (clOf cells names acc).lookup x = some c → acc.lookup x = some c ∨ ((cells.lookup x).getD 0 = c ∧ (x, NameKind.free) ∈ names)
  | [], acc, h => .inl h
  | (y, k) :: r, acc, h => by
    unfold clOf at h
    by_cases hk : (k == NameKind.free) = true
    · rw [if_pos hk] at h
      have ek : k = .free := by simpa using hk
      rcases clOf_lookup h with h | ⟨h, m⟩
      · rw [List.lookup_cons] at h
        cases hx : x == y with
        | true =>
          rw [hx] at h
          have e : x = y := by simpa using hx
          subst e
          exact .inr ⟨Option.some.inj h, by rw [ek]; exact List.mem_cons_self⟩
        | false =>
          rw [hx] at h
          exact .inl h
      · exact .inr ⟨h, List.mem_cons_of_mem _ m⟩
    · rw [if_neg hk] at h
      rcases clOf_lookup h with h | ⟨h, m⟩
      · exact .inl h
      · exact .inr ⟨h, List.mem_cons_of_mem _ m⟩
theorem clOf_has {cells : List (Str × Addr)} {x : Str} : ∀ {names : List (Str × NameKind)} {acc : List (Str × Addr)}, ((x, NameKind.free) ∈ names ∨ ∃ c, acc.lookup x = some c) → ∃ c, (clOf cells names acc).lookup x = some c
  | [], acc, h => by
    rcases h with h | h
    · cases h
    · exact h
  | (y, k) :: r, acc, h => by
    unfold clOf
    by_cases hk : (k == NameKind.free) = true
    · rw [if_pos hk]
      apply clOf_has
      by_cases hx : x = y
      · subst hx
        exact .inr ⟨(cells.lookup x).getD 0, by rw [List.lookup_cons, beq_self_eq_true]⟩
      · rcases h with h | ⟨c, h⟩
        · rcases List.mem_cons.mp h with e | h
          · cases e; exact absurd rfl hx
          · exact .inl h
        · refine .inr ⟨c, ?_⟩
          rw [List.lookup_cons]
          have : (x == y) = false := by simpa using hx
          rw [this]
          exact h
    · rw [if_neg hk]
      apply clOf_has
      rcases h with h | h
      · rcases List.mem_cons.mp h with e | h
        · cases e; exact absurd rfl hk
        · exact .inl h
      · exact .inr h
theorem closureFor_of {scope : Scope} {env : Env} (h : ∀ y ∈ scope.names, y.2 = .free → ∃ c, env.cells.lookup y.1 = some c) : closureFor scope env = pure (clOf env.cells scope.names []) := by
  have key : ∀ (names : List (Str × NameKind)) (cs : List (Str × Addr)), (∀ y ∈ names, y.2 = .free → ∃ c, env.cells.lookup y.1 = some c) →
      (forIn (m := Sem) names cs fun (x : Str × NameKind) (r : List (Str × Addr)) => (match x with
        | (name, kind) => if (kind == NameKind.free) = true then (do let a ← cellOf env name; pure (ForInStep.yield ((name, a) :: r))) else pure (ForInStep.yield r))) = pure (clOf env.cells names cs) := by
    intro names
    induction names with
    | nil => intro cs _; rfl
    | cons y r ih =>
      intro cs hy
      obtain ⟨x, k⟩ := y
      rw [List.forIn_cons]
      unfold clOf
      by_cases hk : (k == NameKind.free) = true
      · obtain ⟨c, hc⟩ := hy (x, k) List.mem_cons_self (by simpa using hk)
        have hc' : env.cells.lookup x = some c := hc
        have e1 : cellOf env x = pure c := by unfold cellOf; rw [hc']
        simp only [hk, if_true, e1, pure_bind, hc', Option.getD_some]
        exact ih _ fun z hz => hy z (List.mem_cons_of_mem _ hz)
      · simp only [if_neg hk, pure_bind]
        exact ih _ fun z hz => hy z (List.mem_cons_of_mem _ hz)
  have := key scope.names [] h
  simp only [closureFor]
  rw [this]
  rfl
theorem relabel_free {env : Env} : ∀ {names : List (Str × NameKind)} {x : Str}, names.lookup x = some .free →
    (names.map fun (n, k) => if (k == NameKind.free && env.scope.kind == .function && env.kindOf n == some .cell) then (n, NameKind.cell) else (n, k)).lookup x = some .cell ∨
    (names.map fun (n, k) => if (k == NameKind.free && env.scope.kind == .function && env.kindOf n == some .cell) then (n, NameKind.cell) else (n, k)).lookup x = some .free
  | [], _, h => by simp at h
  | (n, k) :: r, x, h => by
    have ih := @relabel_free env r x
    cases hx : x == n with
    | true =>
      rw [List.lookup_cons, hx] at h
      dsimp only at h
      cases h
      by_cases hc : (NameKind.free == NameKind.free && env.scope.kind == .function && env.kindOf n == some .cell) = true
      · left
        rw [List.map_cons]
        show List.lookup x ((if (NameKind.free == NameKind.free && env.scope.kind == .function && env.kindOf n == some .cell) = true then (n, NameKind.cell) else (n, NameKind.free)) :: _) = _
        rw [if_pos hc, List.lookup_cons, hx]
      · right
        rw [List.map_cons]
        show List.lookup x ((if (NameKind.free == NameKind.free && env.scope.kind == .function && env.kindOf n == some .cell) = true then (n, NameKind.cell) else (n, NameKind.free)) :: _) = _
        rw [if_neg hc, List.lookup_cons, hx]
    | false =>
      rw [List.lookup_cons, hx] at h
      dsimp only at h
      rw [List.map_cons]
      show List.lookup x ((if (k == NameKind.free && env.scope.kind == .function && env.kindOf n == some .cell) = true then (n, NameKind.cell) else (n, k)) :: _) = _ ∨
        List.lookup x ((if (k == NameKind.free && env.scope.kind == .function && env.kindOf n == some .cell) = true then (n, NameKind.cell) else (n, k)) :: _) = _
      by_cases hc :
        (k == NameKind.free && env.scope.kind == .function && env.kindOf n == some .cell) = true
      · rw [if_pos hc, List.lookup_cons, hx]; exact ih h
      · rw [if_neg hc, List.lookup_cons, hx]; exact ih h
theorem relabel_kind {env : Env} : ∀ {names : List (Str × NameKind)} {x : Str} {k : NameKind}, (names.map fun (n, k) => if (k == NameKind.free && env.scope.kind == .function && env.kindOf n == some .cell) then (n, NameKind.cell) else (n, k)).lookup x = some k →
    ∃ k', (x, k') ∈ names ∧ (k' = k ∨ k' = .free)
  | [], _, _, h => by simp at h
  | (n, k0) :: r, x, k, h => by
    have ih := @relabel_kind env r x k
    rw [List.map_cons] at h
    have h' : List.lookup x ((if (k0 == NameKind.free && env.scope.kind == .function && env.kindOf n == some .cell) = true then (n, NameKind.cell) else (n, k0)) :: (r.map fun (n, k) => if (k == NameKind.free && env.scope.kind == .function && env.kindOf n == some .cell) then (n, NameKind.cell) else (n, k))) = some k := h
    cases hx : x == n with
    | true =>
      have e : x = n := by simpa using hx
      subst e
      by_cases hc : (k0 == NameKind.free && env.scope.kind == .function && env.kindOf x == some .cell) = true
      · have ek : k0 = .free := by
          have := (Bool.and_eq_true_iff.mp (Bool.and_eq_true_iff.mp hc).1).1
          simpa using this
        exact ⟨k0, List.mem_cons_self, .inr ek⟩
      · rw [if_neg hc, List.lookup_cons, hx] at h'
        exact ⟨k0, List.mem_cons_self, .inl (Option.some.inj h')⟩
    | false =>
      have h2 : List.lookup x (r.map fun (n, k) => if (k == NameKind.free && env.scope.kind == .function && env.kindOf n == some .cell) then (n, NameKind.cell) else (n, k)) = some k := by
        by_cases hc : (k0 == NameKind.free && env.scope.kind == .function && env.kindOf n == some .cell) = true
        · rw [if_pos hc, List.lookup_cons, hx] at h'; exact h'
        · rw [if_neg hc, List.lookup_cons, hx] at h'; exact h'
      obtain ⟨k', m, e⟩ := ih h2
      exact ⟨k', List.mem_cons_of_mem _ m, e⟩
/-! ### the block's context -/
/-- what of the text a comprehension's scope must have: N its names, ix for each the outer slot (a free name) or none -/
structure CompScope (outer : Scope) (NX : List Str) (N : List Str) (ix : List (Option Nat)) (scope : Scope) : Prop where
  kind : scope.kind = .function
  nocell : ∀ y ∈ scope.names, y.2 ≠ .cell
  names : ∀ y ∈ scope.names, y.2 = .local → scope.names.lookup y.1 = some .local
  free : ∀ y ∈ scope.names, y.2 = .free → outer.names.lookup y.1 = some .cell ∨ outer.names.lookup y.1 = some .free
  len : ix.length = N.length
  frees : (N.zip ix).all (fun p => match p.2 with | none => true | some i => NX[i]? == some p.1 && scope.names.lookup p.1 == some .free) = true
def sgB (ix : List (Option Nat)) (σ : St) : St := ix.map fun o => match o with | none => none | some i => (σ[i]?).getD none
/-! ### the loop -/
/-- the tests of a clause -/
def PTs (X : Cx) (ifs : List Expr) (t : TT) : Prop :=
  ∀ (pins : List (Addr × Obj)) (s : Shared) (σ : St) (H : Hp) (Q : Bool → Hp → Prop), Inv X pins σ H s → t σ H Q →
    wpAny (model X.prog X.w) X.A (forIn ifs true fun c r => if r = true then do let ok ← isTrue c X.env (eval c X.env); pure (ForInStep.yield ok) else pure (ForInStep.yield r)) (TP X pins σ Q) X.xe s
def tTrue : TT := fun _ H Q => Q true H
theorem pts_nil {X : Cx} : PTs X [] tTrue := fun pins s σ H Q I h => wpAny_tests_nil ⟨H, I, h⟩
theorem pts_one {X : Cx} {c : Expr} {t : TT} (h : PT X c t) : PTs X [c] t := fun pins s σ H Q I hw => wpAny_tests_one (h pins s σ H Q I hw)
theorem compLoop_own {prog : Program} {w : World} {A : Around} {R : Result → Shared → Prop} {s : Shared} {elt target iter : Expr} {ifs : List Expr} {scope : Scope} {pos : Pos} {it acc : Value} {env : Env} (I : Nat → Shared → Prop)
    (turn : ∀ n s, I n s →
      wpAny (model prog w) A (pyNext it) (fun r s₁ => match r with
      | none => R (.ok .next) s₁
      | some v => wpAny (model prog w) A (letOwnedTupleGo target it v) (fun _ s₂ => wpAny (model prog w) A (assign target env v) (fun _ s₃ =>
          wpAny (model prog w) A (forIn ifs true fun c r => if r = true then do let ok ← isTrue c env (eval c env); pure (ForInStep.yield ok) else pure (ForInStep.yield r)) (fun ok s₄ =>
            if ok = true then wpAny (model prog w) A (eval elt env) (fun x s₅ =>
              wpAny (model prog w) A (call (.builtin "list.append") [acc, x]) (fun _ s₆ => ∃ m, m < n ∧ I m s₆) (fun _ _ => False) s₅) (fun _ _ => False) s₄
            else ∃ m, m < n ∧ I m s₄) (fun _ _ => False) s₃) (fun _ _ => False) s₂) (fun _ _ => False) s₁) (fun _ _ => False) s)
    (n : Nat) (h : I n s) : codeAny (model prog w) A (.compLoop (.ListComp elt [⟨target, iter, ifs, 0⟩] scope pos) 0 it acc env) R s := by
  refine codeAny_loop rfl I (fun n s hTurn => ?_) n h
  show wpAny _ A
    ((compTurn (.ListComp elt [⟨target, iter, ifs, 0⟩] scope pos) 0 it acc env).onRaise
      (fun x => do noteFrame x env; theTreesLotGoes x)) _ _ s
  refine wpAny_noted ?_
  rw [compTurn_list]
  have no : ∀ {E : Value → Shared → Prop} (x : Value) (s : Shared), False → E x s := fun _ _ f => f.elim
  refine wpAny_bind (wpAny_standAt (wpAny_bind (wpAny_mono (turn n s hTurn) (fun r s₁ h₁ => ?_) no)))
  cases r with
  | none => exact wpAny_pure h₁
  | some v =>
    refine wpAny_bind (wpAny_mono h₁ (fun _ s₂ h₂ => wpAny_bind (wpAny_mono h₂ (fun _ s₃ h₃ => wpAny_bind (wpAny_mono h₃ (fun ok s₄ h₄ => ?_) no)) no)) no)
    cases ok with
    | false => exact wpAny_pure ⟨rfl, h₄⟩
    | true => exact wpAny_bind (wpAny_bind (wpAny_mono h₄ (fun x s₅ h₅ => wpAny_bind (wpAny_mono h₅ (fun _ s₆ h₆ => wpAny_pure (wpAny_pure ⟨rfl, h₆⟩)) no)) no))
/-- W: the invariant by the turn, a measure and the items so far; D: the new list -/
def LcW (J : It) (D : Addr) (g : TG) (tt : TT) (te : TE) (Q : VK) (σ0 : St) (H0 : Hp) : Prop :=
  ∃ W : Nat → Nat → List V → St → Hp → Prop, (∃ m, W 0 m [] σ0 H0) ∧ ∀ i m ys σ' H', W i m ys σ' H' →
    ((J.stop i H' ∧ Q (.ref D) H') ∨ (J.go i H' ∧ ∃ N : List V → St → Hp → Prop, (∀ ys' σ2 H2, N ys' σ2 H2 → ∃ m', m' < m ∧ W (i + 1) m' ys' σ2 H2) ∧
      ∀ x H2, J.yld i H' x H2 → g x σ' H2 fun σ3 H3 => tt σ3 H3 fun b H4 => if b = true then te σ3 H4 fun y H5 => H5 D = some (.lst ys) ∧ ys.length < sizeLine ∧ N (ys ++ [y]) σ3 (upd H5 D (.lst (ys ++ [y]))) else N ys σ3 H4))
def tLc (ix : List (Option Nat)) (wi : TI) (g : TG) (tt : TT) (te : TE) : TE := fun σ H Q => wi σ H fun J H1 => ∀ D, H1 D = none → LcW J D g tt te Q (sgB ix σ) (upd H1 D (.lst []))
/-! ### the forms one uses -/
section
variable {K : PySem.W.Frag} {a D : Addr} {xs : List V} {g : TG} {tt : TT} {te : TE} {σ0 : St} {H0 : Hp} {Q : VK}
/-- over a list that the block leaves as it is -/
theorem lc_list (Pv : Nat → List V → St → Hp → Prop) (h0 : Pv 0 [] σ0 H0) (hl : ∀ i ys σ H, i ≤ xs.length → Pv i ys σ H → SqL K H a xs)
    (hs : ∀ i x ys σ H, xs[i]? = some x → Pv i ys σ H → g x σ H fun σ3 H3 => tt σ3 H3 fun b H4 => if b = true then te σ3 H4 fun y H5 => H5 D = some (.lst ys) ∧ ys.length < sizeLine ∧ Pv (i + 1) (ys ++ [y]) σ3 (upd H5 D (.lst (ys ++ [y]))) else Pv (i + 1) ys σ3 H4)
    (hd : ∀ ys σ H, Pv xs.length ys σ H → Q (.ref D) H) :
    LcW (Itl K a) D g tt te Q σ0 H0 := by
  refine ⟨fun i m ys σ H => m = xs.length - i ∧ i ≤ xs.length ∧ Pv i ys σ H, ⟨xs.length, by simp, Nat.zero_le _, h0⟩, ?_⟩
  rintro i m ys σ H ⟨rfl, hi, p⟩
  have q := hl i ys σ H hi p
  by_cases hlt : i < xs.length
  · refine .inr ⟨⟨xs, xs[i], q, by simp [hlt]⟩, fun ys' σ' H' => Pv (i + 1) ys' σ' H', fun ys' σ' H' p' => ⟨xs.length - (i + 1), by omega, rfl, hlt, p'⟩, fun x H' y => ?_⟩
    obtain ⟨e, y⟩ := y
    subst e
    exact hs i x ys σ _ (y xs q) p
  · have e : i = xs.length := by omega
    subst e
    exact .inl ⟨⟨xs, q, Nat.le_refl _⟩, hd ys σ H p⟩
theorem lc_range {lo : Int} {n : Nat} (Pv : Nat → List V → St → Hp → Prop) (h0 : Pv 0 [] σ0 H0)
    (hs : ∀ i ys σ H, i < n → Pv i ys σ H → g (.int (lo + i)) σ H fun σ3 H3 => tt σ3 H3 fun b H4 => if b = true then te σ3 H4 fun y H5 => H5 D = some (.lst ys) ∧ ys.length < sizeLine ∧ Pv (i + 1) (ys ++ [y]) σ3 (upd H5 D (.lst (ys ++ [y]))) else Pv (i + 1) ys σ3 H4)
    (hd : ∀ ys σ H, Pv n ys σ H → Q (.ref D) H) :
    LcW (Itr lo n) D g tt te Q σ0 H0 := by
  refine ⟨fun i m ys σ H => m = n - i ∧ i ≤ n ∧ Pv i ys σ H, ⟨n, by simp, Nat.zero_le _, h0⟩, ?_⟩
  rintro i m ys σ H ⟨rfl, hi, p⟩
  by_cases hlt : i < n
  · refine .inr ⟨hlt, fun ys' σ' H' => Pv (i + 1) ys' σ' H', fun ys' σ' H' p' => ⟨n - (i + 1), by omega, rfl, hlt, p'⟩, fun x H' y => ?_⟩
    obtain ⟨e, y⟩ := y
    subst e y
    exact hs i ys σ _ hlt p
  · have e : i = n := by omega
    subst e
    exact .inl ⟨Nat.le_refl _, hd ys σ H p⟩
end
end L2

/-! STILL MORE RULES over the hand layer (own work): // by any short divisor, t + u, == and != with [], slices and find of texts, count and index of lists, a def by its name -/
namespace L2
open PySem PySem.Spec PyProof.Rows
section
variable {X : Cx}
def CDivB (i j : Int) : Prop := 0 < j ∧ j.natAbs.log2 < 9000
theorem op_fdivB : OpR X (binaryOp .FloorDiv) (rI CDivB fun i j => .int (i / j)) := opI fun i j _ _ _ _ _ hc q => by
  have h1 : (0 : Int) < j := hc.1
  exact floordiv_int (by omega) (by rw [Int.fdiv_eq_ediv_of_nonneg i (by omega)]; exact q) (.inl (PyProof.noPylong_of_log2 hc.2))
/-! ### t + u, any of them empty -/
def rCatE : R2 := fun x y H Q => ∃ a b xs ys, x = .ref a ∧ y = .ref b ∧ H a = some (.tup xs) ∧ H b = some (.tup ys) ∧ xs.length + ys.length ≤ sizeLine ∧
  ∀ p H', Same H H' → H' p = some (.tup (xs ++ ys)) → Q (.ref p) H'
theorem op_catE : OpR X (binaryOp .Add) rCatE := by
  intro pins s σ H x y v u Q I rx ry h
  obtain ⟨a, b, xs, ys, rfl, rfl, ha, hb, hz, q⟩ := h
  by_cases hx : xs = []
  · cases rx
    cases ry
    subst hx
    obtain ⟨its, r1, p1, _⟩ := I.tuple (SqT.of ha)
    obtain ⟨its2, r2, p2, _⟩ := I.tuple (SqT.of hb)
    have e1 : its = [] := r1.nil_iff.mpr rfl
    subst e1
    obtain ⟨⟨cls, dd, data, sl⟩, ho, hc, n, hd⟩ := id p1
    obtain ⟨⟨cls2, dd2, data2, sl2⟩, ho2, hc2, n2, hd2⟩ := id p2
    simp only at hc hd hc2 hd2
    subst hc hd hc2 hd2
    exact concat_meets ⟨_, ho, rfl⟩ ⟨_, ho2, rfl⟩ noFill_tuple_add seq_tuple_add PySem.F.slot_tuple_add PySem.F.entry_tuple_add (PySem.F.args_tuple_add_2 _ _)
      (tuple_addW0 a b _ _ n n2 dd dd2 sl sl2 (by simp)) ⟨ho, ho2, ⟨.ref b, H, I, rfl, q b H (Same.refl H) (by simpa using hb)⟩⟩
  · refine op_catT pins s σ H (.ref a) (.ref b) v u Q I rx ry ⟨a, b, xs, ys, rfl, rfl, SqT.of ha, SqT.of hb, hx, hz, fun e => ?_, fun _ p hp => ?_⟩
    · subst e
      exact q a H (Same.refl H) (by simpa using ha)
    · exact q p _ (Same.new hp _) upd_same
/-! ### xs == [], xs != [] -/
def rEqN (K : PySem.W.Frag) (neg : Bool) : R2 := fun x y H Q => ∃ a b xs, x = .ref a ∧ y = .ref b ∧ SqL K H a xs ∧ SqL K H b [] ∧ Q (.bl (if neg then !xs.isEmpty else xs.isEmpty)) H
theorem op_neN (hu : X.A.units < cLine) : OpR X (compareOp .NotEq) (rEqN X.K true) := by
  intro pins s σ H x y v u Q I rx ry h
  obtain ⟨a, b, xs, rfl, rfl, ha, hb, q⟩ := h
  cases rx
  cases ry
  obtain ⟨its, r1, p1, _⟩ := I.list ha
  obtain ⟨its2, r2, p2, _⟩ := I.list hb
  have e2 : its2 = [] := (Vals.nil_iff r2).mpr rfl
  subst e2
  cases xs with
  | nil =>
    have e1 : its = [] := (Vals.nil_iff r1).mpr rfl
    subst e1
    exact SeqAt.RcNeAt.lists (e := fun _ => true) p1.isList p2.isList rfl hu (fun j h1 _ => absurd h1 (by simp)) _ _ _ _ ⟨.bl false, H, I, rfl, q⟩
  | cons x r =>
    have hl := r1.length
    exact SeqAt.RcNeAt.lists_lengths p1.isList p2.isList (by rw [List.size_toArray, List.size_toArray, ← hl]; simp) hu _ _ _ _ ⟨.bl true, H, I, rfl, q⟩
/-! ### texts -/
/-! ### count, index -/
end
/-! ### in a block: the text's part by its name (the readings may not speak of the block) -/
theorem ixl {X : Cx} (K : PySem.W.Frag) (h : X.K = K := by rfl) : IxR X (rIxL K) := by
  subst h
  exact ix_list
theorem ixt {X : Cx} (K : PySem.W.Frag) (h : X.K = K := by rfl) : IxR X (rIxT K) := by
  subst h
  exact ix_tup
/-! ### a def by its name -/
/-- the def x of the text keeps sp, with room k -/
def Cal (P : Program) (w : World) (K : PySem.W.Frag) (mg : Str → Option Value) (base : Heap) (k : Nat) (x : Str) (ps : List Str) (sp : Sp) : Prop :=
  ∃ (f : Addr) (fd : FuncData), FnOk P w K mg base CX0 k f fd ps sp ∧ Binds K fd ps [] ∧ PySem.W.keepIn K (.ref f) = true ∧ mg x = some (.ref f)
theorem pe_cal {X : Cx} {k : Nat} {x : Str} {ps : List Str} {sp : Sp} {p pos : Pos} {e : Expr} {es : List Expr} {t : TA} (c : Cal X.prog X.w X.K X.mg X.base k x ps sp) (hr : Room k X.A) (hg : Gl X x) (ha : PA X (e :: es) t)
    (hdb : (x == ("__debug__" : Str)) = false := by decide) (he : starEach (e :: es) X.env = (false, eval e X.env) :: starEach es X.env := by rfl) (hpl : (backTo pos (starEach es X.env)).any (·.1) = false := by rfl) :
    PE X (.Call (.Name x p) (e :: es) [] pos) (tCall sp [] E0 t) := by
  obtain ⟨f, fd, F, b, kp, m⟩ := c
  exact pe_call F hr hg m kp b .nil pass0 ha hdb he hpl
/-- the def x as it stands behind the top: its statement st, its parameters -/
def Has (K : PySem.W.Frag) (mg : Str → Option Value) (x : Str) (st : Stmt) (ps : List Str) : Prop := ∃ (f : Addr) (fd : FuncData), Fun K x x st f fd ∧ Binds K fd ps [] ∧ mg x = some (.ref f)
theorem Has.cal {P : Program} {w : World} {K : PySem.W.Frag} {mg : Str → Option Value} {base : Heap} {x : Str} {st : Stmt} {N ps : List Str} {k : Nat} {sp : Sp} (h : Has K mg x st ps) (S : FnScope N ps (defScope st)) (len : ∀ vs H Q E, sp vs H Q E → vs.length = ps.length)
    (hbody : ∀ (f : Addr) (cdv : Value) (A : Around) (outer : List Env) (s : Shared) (H : Hp) (vs : List V) (Q : VK) (E : XK), Room k (A.deeper (envOfC x (defScope st) s.heap.objs.size f cdv)) → sp vs H Q E →
      ∃ t, PSs (cxOf CX0 P w K mg base N x (defScope st) f cdv A outer s H E).nox (defBody st) t ∧ t { nx := fun _ H' => Q .non H', rt := Q } (start N vs) H) : Cal P w K mg base (k + 1) x ps sp := by
  obtain ⟨f, fd, F, b, m⟩ := h
  exact ⟨f, fd, F.ok S len fun cdv A outer s H vs Q E hr h => hbody f cdv A outer s H vs Q E hr h, b, F.kp, m⟩
/-- nothing can be asked -/
theorem Has.none {P : Program} {w : World} {K : PySem.W.Frag} {mg : Str → Option Value} {base : Heap} {x : Str} {st : Stmt} {ps : List Str} {k : Nat} {sp : Sp} (h : Has K mg x st ps) (no : ∀ vs H Q E, ¬ sp vs H Q E) : Cal P w K mg base k x ps sp := by
  obtain ⟨f, fd, F, b, m⟩ := h
  exact ⟨f, fd, ⟨fun vs H Q E h => absurd h (no vs H Q E), fun A outer s H args us vs Q E _ _ _ _ h => absurd h (no vs H Q E)⟩, b, F.kp, m⟩
theorem Has.mk {K : PySem.W.Frag} {h : Heap} {mg : Str → Option Value} {x : Str} {st : Stmt} {ps : List Str} {f : Addr} {oc : Value} {od an : Option Addr} {osl : Array (Option Value)} {kV doc pm cdv ct : Value} (X : K.In h) (G : h.Ns mainGlobals mg)
    (a : PySem.W.nsIn K mainGlobals x = some (some (.ref f))) (l : K.lookup f = some ⟨oc, od, .func (PySem.W.fnOf x x (defArgs st) (defBody st) (defScope st) .none kV doc pm an cdv ct), osl⟩) (c : PySem.W.codeIn K cdv x = true) (k : PySem.W.keepIn K (.ref f) = true)
    (hb : ∀ (kV doc pm : Value) (an : Option Addr) (cdv ct : Value) (us : List Value), us.length = ps.length → bindArgs (PySem.W.fnOf x x (defArgs st) (defBody st) (defScope st) .none kV doc pm an cdv ct) ⟨us, []⟩ = pure (ps.zip us)) : Has K mg x st ps :=
  ⟨f, _, fun_mk (st := st) l c k, (fun_mk (st := st) l c k).binds hb, PySem.W.mg_of X G a⟩
end L2

/-! RULES FOR PAIRS over the hand layer (own work): zip(xs, t) of a list and a tuple, dict(ps) of a list of pairs -/
namespace L2
open PySem PySem.Spec PyProof.Rows
/-! ### the next of a tuple's iterator, raised -/
section
variable {prog : Program} {w : World} {A : Around} {E : Value → Shared → Prop} {s : Shared}
/-! ### zip of a list and a tuple: one turn -/
/-! ### zip made -/
end
/-! ### records of ours have turned -/
theorem Inv.turnedL {X : Cx} {pins : List (Addr × Obj)} {σ : St} {H : Hp} {s : Shared} {h' : Heap} {t' : Nat} {fp : List Addr} (I : Inv X pins σ H s) (k : ∀ b o, b ∉ fp → s.heap.get? b = some o → h'.get? b = some o) (hf : ∀ b ∈ fp, FpOk X pins H b) : Inv X pins σ H { s with heap := h', toks := t' } := by
  have nit : ∀ b u, H b = some u → b ∉ fp := fun b u e z => by rw [(hf b z).1] at e; cases e
  refine I.step (g' := s.gens) (d' := s.drawn) (ch := fp) (fun b hb => ⟨(hf b hb).2.2.2.1, (hf b hb).2.1, (hf b hb).2.2.2.2.1, (hf b hb).2.2.2.2.2⟩) (fun b o _ _ hc e _ => k b o hc e) (fun b o _ _ hc e _ => ⟨o.slots, k b o hc e⟩) (fun _ _ _ _ n => n)
    (fun b o hc e => ⟨o, k b o hc e⟩) (fun _ _ e => e) (fun _ _ _ e => e) (fun b ps e => ⟨#[], by rw [e]; simp⟩) (fun m ⟨o, es, ep, ho, r⟩ => ⟨o, es, ep, k _ o (fun z => (hf _ z).2.1 rfl) ho, r⟩) (fun b u e => ?_) I.bare
  refine (I.hok b u e).stay (fun c v hc q => k c v ?_ q) (fun _ q => q) fun _ _ q => q
  rcases hc with z | z
  · rw [z]; exact nit b u e
  · exact nit c _ z
/-! ### for .., .. in zip(xs, t) -/
section
variable {K : PySem.W.Frag} {a b D : Addr} {xs ys : List V} {g : TG} {tt : TT} {te : TE} {σ0 : St} {H0 : Hp} {Q : VK}
end
/-! ### dict(ps), ps a list of pairs -/
section
variable {prog : Program} {w : World} {A : Around} {E : Value → Shared → Prop} {s : Shared} {KT : Type} [DecidableEq KT] {knd : KeyKind prog w KT}
end
/-- .., .. = t in a block: the text's part by its name -/
theorem pgt {X : Cx} (K : PySem.W.Frag) {es : List Expr} {k : Nat} {pos : Pos} {t : TGs} (n : Nat) (hc : X.calm = true) (h : PGs X es t) (hK : X.K = K := by rfl)
    (hn : (assignEach es X.env).length = n := by rfl) (hst : (assignEach es X.env).findIdx? (·.1) = none := by rfl) : PG X (.Tuple es k pos) (gTup K n t) := by
  subst hK
  exact pg_tup hc h hn hst
end L2

/-! RANGES BY STEPS over the hand layer (own work) -/
namespace L2
open PySem PySem.Spec PyProof.Rows
def Its (lo c : Int) (n : Nat) : It := ⟨fun i _ => i < n, fun i H x H' => H' = H ∧ x = .int (lo + (i : Nat) * c), fun i _ => n ≤ i⟩
theorem turn_steps {P : Program} {w : World} {K : PySem.W.Frag} {tg : Expr} (it : Addr) (lo c : Int) (n : Nat) : Turn P w K tg (Its lo c n) [it] it (fun i h => IsRangeIter h it (lo + (i : Nat) * c) ((n : Int) - (i : Nat)) c) where
  mem := by simp
  obj := fun i h st b hb => by
    have e : b = it := by simpa using hb
    subst e
    exact ⟨_, st, fun v z => by
      have z' : Data.fields _ = Data.cell v := z
      cases z'⟩
  keep := fun i h h' st k => k it (by simp) _ st
  item := by
    intro X hP hw hK hc i pins s σ H E I hf st hg
    subst hP hw hK
    obtain ⟨f0, f1, f2, f3, f4, f5⟩ := hf it (by simp)
    refine (Walks.range (prog := X.prog) (w := X.w) (I.ok.hd hc) it lo c n).item i s _ _ hg st fun v h' tk hv st' kk => ?_
    obtain ⟨t, rfl⟩ := hv
    have I1 : Inv X pins σ H { s with heap := h', toks := tk } := I.turned (fun b o hb e => kk b o (by simpa using hb) e) f0 f1 f3 f4 f5
    exact ⟨_, rfl, go_of (s := { s with heap := h', toks := tk }) (n := "range_iterator") st' rfl rfl (by decide) ⟨.int (lo + (i : Nat) * c), H, I1, ⟨t, rfl⟩, ⟨rfl, rfl⟩, st', fun b hb => (hf b hb).1⟩⟩
  done := by
    intro X hP hw hK hc i pins s σ H E I hf st hg
    subst hP hw hK
    obtain ⟨f0, f1, f2, f3, f4, f5⟩ := hf it (by simp)
    exact wpAny_pyNext_range_end (I.ok.hd hc) st (by have : n ≤ i := hg; omega) fun h' eb => ⟨rfl, I.turned (t' := s.toks) (fun b o hb e => eb b o hb e) f0 f1 f3 f4 f5⟩
  self := fun _ _ _ _ _ st h => wpAny_pyIter_rangeiter st h
end L2

/-! COMMON THINGS of the laws about sayings (own work): what stays, divisors, kinds, cuts, items -/
namespace L2
open PySem PySem.Spec PyProof.Rows
/-- all that was tracked but r is as it was -/
def But (r : Addr) (H H' : Hp) : Prop := ∀ b o, b ≠ r → H b = some o → H' b = some o
theorem But.trans {r : Addr} {H H1 H2 : Hp} (a : But r H H1) (b : But r H1 H2) : But r H H2 := fun c o n h => b c o n (a c o n h)
theorem But.of {r : Addr} {H H' : Hp} (a : Same H H') : But r H H' := fun c o _ h => a c o h
theorem But.upd {r : Addr} {H : Hp} (o : HO) : But r H (upd H r o) := fun c u n h => by rw [upd_ne n]; exact h
theorem But.new {r p : Addr} {H : Hp} (h : H p = none) (o : HO) : But r H (L2.upd H p o) := .of (Same.new h o)
/-- a divisor that is short enough -/
def Few (many : Int) : Prop := 0 < many ∧ many.natAbs.log2 < 9000
theorem few_of {m : Int} (h : 0 < m) (h2 : m < 1073741824) : Few m := ⟨h, by
  have : m.natAbs ≠ 0 := by omega
  have h30 : m.natAbs.log2 < 30 := (Nat.log2_lt this).mpr (by omega)
  omega⟩
theorem cm {a b : Int} (h : 0 ≤ a) (h2 : a < 10000000000) : CMul a b := .inl ⟨by omega, by omega⟩
theorem cmr {a b : Int} (h : 0 ≤ b) (h2 : b < 10000000000) : CMul a b := .inr ⟨by omega, by omega⟩
theorem cmw {a b : Int} (h : -10000000000 < a) (h2 : a < 10000000000) : CMul a b := .inl ⟨by omega, by omega⟩
theorem p1018 : CPow 10 18 := ⟨by decide, by decide, by decide⟩
theorem small {n : Nat} (h : n ≤ 1000) : n ≤ sizeLine := Nat.le_of_lt (small1000 h)
theorem sz {n : Nat} (h : n ≤ 8388608) : n < sizeLine := Nat.lt_of_le_of_lt h (by decide)
theorem sz' {n : Nat} (h : n ≤ 8388608) : n ≤ sizeLine := Nat.le_of_lt (sz h)
theorem at0 {v : V} {xs : List V} : atI (v :: xs) 0 = some v := atI_nat (j := 0) rfl
theorem kit_same (K : PySem.W.Frag) (T : String) : PySem.W.kitOne K (.type T) (.type T) = some true := by
  unfold PySem.W.kitOne
  rw [if_pos (by simp)]
theorem kit_ib (K : PySem.W.Frag) : PySem.W.kitOne K (.type "int") (.type "bool") = some false := by with_unfolding_all rfl
theorem seq_cut {t R : TS} {D : Ends} {σ : St} {H : Hp} (J : St → Hp → Prop) (h : ∀ R' : St → Hp → Prop, (∀ σ' H', J σ' H' → R' σ' H') → t { D with nx := R' } σ H) (hR : ∀ σ' H', J σ' H' → R D σ' H') : tSeq t R D σ H := h (R D) hR
theorem gset {i : Nat} {v : V} {σ : St} {H : Hp} {t R : TS} {D : Ends} {rt : VK} {bk ct : St → Hp → Prop} (h : tSeq t R D (σ.set i (some v)) H) : gName i v σ H (Ends.nx ⟨tSeq t R D, rt, bk, ct⟩) := h
theorem lc_yes {i : Nat} {v : V} {σ : St} {H : Hp} {P1 P2 : St → Hp → Prop} (h : P1 (σ.set i (some v)) H) : gName i v σ H (fun σ3 H3 => tTrue σ3 H3 fun b H4 => if b = true then P1 σ3 H4 else P2 σ3 H4) := by
  show if true = true then P1 (σ.set i (some v)) H else P2 (σ.set i (some v)) H
  exact iteT h
theorem But.none {r p : Addr} {H H' : Hp} (b : But r H H') (hr : p ≠ r) (h : H' p = none) : H p = none := by
  cases e : H p with
  | none => rfl
  | some o => rw [b p o hr e] at h; cases h
/-- a thing of its own was put -/
theorem But.put {r p : Addr} {H H' : Hp} {o : HO} (b : But r H H') (h : H p = .none) : But r H (L2.upd H' p o) := fun c u n e => by
  rw [upd_ne (ne_of_none e h)]
  exact b c u n e
/-- lists alike, item by item -/
def All2 {α β : Type} (R : α → β → Prop) (xs : List α) (ys : List β) : Prop := xs.length = ys.length ∧ ∀ (i : Nat) x y, xs[i]? = some x → ys[i]? = some y → R x y
theorem All2.nil {α β : Type} {R : α → β → Prop} : All2 R [] [] := ⟨rfl, fun i x y h => by simp at h⟩
theorem All2.mono {α β : Type} {R S : α → β → Prop} {xs : List α} {ys : List β} (h : All2 R xs ys) (f : ∀ x y, R x y → S x y) : All2 S xs ys := ⟨h.1, fun i x y a b => f x y (h.2 i x y a b)⟩
theorem All2.snoc {α β : Type} {R : α → β → Prop} {xs : List α} {ys : List β} {x : α} {y : β} (h : All2 R xs ys) (r : R x y) : All2 R (xs ++ [x]) (ys ++ [y]) := by
  have hl := h.1
  refine ⟨by simp [hl], fun i a b ha hb => ?_⟩
  by_cases hi : i < xs.length
  · rw [List.getElem?_append_left hi] at ha
    rw [List.getElem?_append_left (by omega)] at hb
    exact h.2 i a b ha hb
  · rw [List.getElem?_append_right (by omega)] at ha
    rw [List.getElem?_append_right (by omega)] at hb
    have hl2 := (List.getElem?_eq_some_iff.mp ha).1
    have e : i - xs.length = 0 := by simp at hl2; omega
    rw [e] at ha
    rw [show i - ys.length = 0 by omega] at hb
    cases ha
    cases hb
    exact r
theorem All2.get {α β : Type} {R : α → β → Prop} {xs : List α} {ys : List β} (h : All2 R xs ys) {i : Nat} (hi : i < ys.length) : ∃ x y, xs[i]? = some x ∧ ys[i]? = some y ∧ R x y := by
  have hx : i < xs.length := by rw [h.1]; exact hi
  exact ⟨xs[i], ys[i], List.getElem?_eq_getElem hx, List.getElem?_eq_getElem hi, h.2 i _ _ (List.getElem?_eq_getElem hx) (List.getElem?_eq_getElem hi)⟩
theorem All2.at {α β : Type} {R : α → β → Prop} {xs : List α} {ys : List β} (h : All2 R xs ys) {i : Nat} {x : α} (e : xs[i]? = some x) : ∃ y, ys[i]? = some y ∧ R x y := by
  have hi : i < ys.length := by rw [← h.1]; exact (List.getElem?_eq_some_iff.mp e).1
  exact ⟨ys[i], List.getElem?_eq_getElem hi, h.2 i x _ e (List.getElem?_eq_getElem hi)⟩
/-- a global tuple -/
def GT (K : PySem.W.Frag) (mg : Str → Option Value) (x : Str) (xs : List V) : Prop := ∃ a, mg x = some (.ref a) ∧ ∀ H : Hp, SqT K H a xs
def GI (mg : Str → Option Value) (x : Str) (n : Int) : Prop := ∃ t, mg x = some (.int n t)
end L2

/-! MORE RULES over the hand layer (own work): xs.insert(k, y), xs[::-1], all(bools), for k, x in enumerate(xs) -/
namespace L2
open PySem PySem.Spec PyProof.Rows
section
variable {X : Cx}
/-! ### insert -/
/-! ### xs[::-1] -/
def tRevL (K : PySem.W.Frag) (te ts : TE) : TE := fun σ H Q => te σ H fun x H1 => ts σ H1 fun y H2 => y = .int (-1) ∧ ∃ a xs, x = .ref a ∧ SqL K H2 a xs ∧ ∀ p, H2 p = none → Q (.ref p) (upd H2 p (.lst xs.reverse))
theorem pe_rev {e st : Expr} {te ts : TE} {p2 pos : Pos} (he : PE X e te) (hs : PE X st ts) : PE X (.Subscript e (.Slice none none (some st) p2) pos) (tRevL X.K te ts) := by
  intro pins s σ H Q I h
  refine Subscript_ (thn (he pins s σ H _ I h) fun v s1 hh => ?_)
  obtain ⟨x, H1, I1, r1, q1⟩ := hh
  refine wpAny_Slice ?_
  rw [evalPart_none]
  refine wpAny_pure ?_
  refine wpAny_pure ?_
  show wpAny _ _ (eval st X.env) _ _ _
  refine thn (hs pins s1 σ H1 _ I1 q1) fun vs s3 hh => ?_
  obtain ⟨y, H3, I3, ry, ey, a, xs, ex, hx, q3⟩ := hh
  subst ey ex
  obtain ⟨t, rfl⟩ := ry
  cases r1
  have I4 : Inv X pins σ H3 { s3 with heap := s3.heap.push { cls := .type "slice", data := .fields #[.none, .none, .int (-1) t] } } := I3.kept (t' := s3.toks) fun b ob q => Heap.get?_push_of_some _ q
  obtain ⟨its, r, ht, hz⟩ := I4.list hx
  refine tail_any (T := "list") (ops := [.ref a, .ref s3.heap.objs.size]) ht.isList.typeIs slot_list_getitem.lookup ?_ (by with_unfolding_all rfl)
  refine wpAny_getItem_list_slice ht.isList (Heap.IsSliceOf.new ..) .none .none (.int (-1) t) (by simp) ?_ (by rw [List.size_toArray, ← r.length]; exact hz)
  rw [PySem.W.krv_pick]
  refine ⟨.ref _, _, I4.laid (t' := s3.toks) (o := .lst xs.reverse) (fun b ob q => Heap.get?_push_of_some _ q) (Nat.le_refl _) ?_, rfl, q3 _ (I4.hok.fresh (Nat.le_refl _))⟩
  exact ⟨by rw [List.length_reverse]; exact hz, its.reverse, 0, r.reverse, by rw [List.toList_toArray]; exact Heap.get?_push_size _ rfl⟩
/-! ### all(bools) -/
theorem vals_bl {bs : List Bool} {its : List Value} (r : Vals (bs.map V.bl) its) {i : Nat} {v : Value} (h : its[i]? = some v) : ∃ b, bs[i]? = some b ∧ v = .bool b := by
  have hi : i < (bs.map V.bl).length := by rw [r.length]; exact (List.getElem?_eq_some_iff.mp h).1
  obtain ⟨u, hu, ru⟩ := r.get (i := i) (x := (bs.map V.bl)[i]) (List.getElem?_eq_getElem hi)
  rw [h] at hu
  cases hu
  have hb : i < bs.length := by rw [List.length_map] at hi; exact hi
  refine ⟨bs[i], List.getElem?_eq_getElem hb, ?_⟩
  rw [List.getElem_map] at ru
  exact ru
theorem all_range (bs : List Bool) : (List.range bs.length).all (fun i => bs.getD i true) = bs.all id := by
  induction bs with
  | nil => rfl
  | cons b r ih =>
    rw [List.length_cons, List.range_succ_eq_map, List.all_cons, List.all_cons, List.all_map]
    show (b && (List.range r.length).all fun i => (b :: r).getD (i + 1) true) = (b && r.all id)
    rw [← ih]
    rfl
theorem call_all (hc : X.calm = true) : CallR X (.builtin "all") (fun xs H Q => ∃ (p : Addr) (bs : List Bool), xs = [.ref p] ∧ SqL X.K H p (bs.map V.bl) ∧ Q (.bl (bs.all id)) H) := by
  intro pins s σ H xs us Q I r h
  obtain ⟨p, bs, rfl, hq, q⟩ := h
  obtain ⟨u, rfl, rx⟩ := vals1 r
  cases rx
  obtain ⟨its, r', pl, hz⟩ := I.list hq
  have hl := r'.length
  rw [List.length_map] at hl
  have hlt : p < s.heap.objs.size := by obtain ⟨o, n, e, _⟩ := pl; exact Heap.lt_size e
  have W := Walks.list (prog := X.prog) (w := X.w) (A := X.A.in1) (I.ok.hd hc) s.heap.objs.size p (Nat.ne_of_lt hlt) its.toArray
  refine call_all_walk (wpAny_pyIter_list pl.isList ?_)
  refine ⟨s.heap.objs.size, [s.heap.objs.size, p], [s.heap.objs.size], its.toArray.size, _, _, fun i => bs.getD i true, rfl, W, ?_, ?_, ?_⟩
  · exact ⟨⟨_, Heap.get?_push_size _ rfl, rfl, rfl⟩, pl.isList.push _⟩
  · intro i v s' Q' E' hP hQ
    have hv : its[i]? = some v := by simpa using hP
    obtain ⟨b, hb, rfl⟩ := vals_bl r' hv
    refine wpAny_truthy_bool ?_
    have hQ' : Q' (bs.getD i true) s' := hQ
    rw [List.getD_eq_getElem?_getD, hb] at hQ'
    exact hQ'
  · intro h' tk hk
    rw [List.size_toArray, ← hl, all_range]
    refine ⟨.bl _, H, I.kept (t' := tk) fun b o e => hk b o (fun z => ?_) (Heap.get?_push_of_some _ e), rfl, q⟩
    rw [List.mem_singleton.mp z] at e
    exact Nat.lt_irrefl _ (Heap.lt_size e)
end
/-! ### for k, x in enumerate(xs) -/
def Ite (a : Addr) : It :=
  ⟨fun i H => ∃ xs x, H a = some (.lst xs) ∧ xs[i]? = some x, fun i H v H' => ∃ T x, v = .ref T ∧ H T = none ∧ H' = upd H T (.tup [.int (i : Nat), x]) ∧ ∀ xs, H a = some (.lst xs) → xs[i]? = some x,
    fun i H => ∃ xs, H a = some (.lst xs) ∧ xs.length ≤ i⟩
def EnSt (e it a : Addr) (i : Nat) (h : Heap) : Prop := (∃ old, IsEnum h e it (i : Nat) old) ∧ h.IsListIter it a i
theorem turn_enum {P : Program} {w : World} {K : PySem.W.Frag} {es : List Expr} {kt : Nat} {tp : Pos} {e it a : Addr} (hne : e ≠ it) : Turn P w K (.Tuple es kt tp) (Ite a) [e, it] e (EnSt e it a) where
  mem := by simp
  obj := fun i h st c hc => by
    obtain ⟨⟨old, h1⟩, ⟨o4, h4, _, d4⟩⟩ := st
    simp only [List.mem_cons, List.not_mem_nil, or_false] at hc
    rcases hc with rfl | rfl
    · exact ⟨_, h1, fun v z => by cases z⟩
    · exact ⟨_, h4, fun v z => by rw [d4] at z; cases z⟩
  keep := fun i h h' st k => by
    obtain ⟨⟨old, h1⟩, ⟨o4, h4, r4⟩⟩ := st
    exact ⟨⟨old, k _ (by simp) _ h1⟩, ⟨o4, k _ (by simp) _ h4, r4⟩⟩
  item := by
    intro X hP hw hK hc i pins s σ H E I hf st hg
    subst hP hw hK
    obtain ⟨xs, x, hx, ex⟩ := hg
    obtain ⟨⟨old, h1⟩, h4⟩ := st
    obtain ⟨its, rv, p, _⟩ := I.list (SqL.of hx)
    obtain ⟨u, hu, ru⟩ := rv.get ex
    refine wpAny_pyNext_enum_item h1 h4 p.isList (x := u) (by simpa using hu) hne fun h' a1 a2 a3 a4 hk => ?_
    refine ⟨_, rfl, wpAny_letOwnedTupleGo_enum a1 fun h2' b1 hs => ?_⟩
    have hT : H s.heap.objs.size = none := I.hok.fresh (Nat.le_refl _)
    have I1 : Inv X pins σ (upd H s.heap.objs.size (.tup [.int (i : Nat), x])) { s with heap := s.heap.push { cls := .type "tuple", data := .seq #[.int i s.toks, u] } } :=
      I.laid (t' := s.toks) (fun c o e => Heap.get?_push_of_some _ e) (Nat.le_refl _) (show ObjOk X.prog X.w _ _ _ (.tup [.int (i : Nat), x]) from ⟨(by show 2 ≤ sizeLine; decide), [.int i s.toks, u], .cons ⟨_, rfl⟩ (.cons ru .nil), _, Heap.get?_push_size _ rfl, rfl, _, rfl⟩)
    have lt : ∀ c ∈ [e, it], c < s.heap.objs.size := fun c hc => by
      obtain ⟨o4, e4, _⟩ := h4
      simp only [List.mem_cons, List.not_mem_nil, or_false] at hc
      rcases hc with rfl | rfl
      · exact Heap.lt_size h1
      · exact Heap.lt_size e4
    have hf1 : ∀ c ∈ [e, it], FpOk X pins (upd H s.heap.objs.size (.tup [.int (i : Nat), x])) c := fun c hc => ⟨by rw [upd_ne (Nat.ne_of_lt (lt c hc))]; exact (hf c hc).1, (hf c hc).2⟩
    have kk : ∀ c o, c ∉ [e, it] → (s.heap.push { cls := .type "tuple", data := .seq #[.int i s.toks, u] }).get? c = some o → h2'.get? c = some o := fun c o nc eo => by
      simp only [List.mem_cons, List.not_mem_nil, or_false, not_or] at nc
      obtain ⟨n1, n2⟩ := nc
      rcases Heap.get?_push_cases eo with ⟨rfl, rfl⟩ | e'
      · exact (hs.2 _ n1).trans a3
      · exact (hs.2 _ n1).trans (hk c o n1 n2 e')
    have I2 := I1.turnedL (t' := s.toks + 1) (h' := h2') kk hf1
    refine ⟨.ref s.heap.objs.size, _, I2, rfl, ⟨_, x, rfl, hT, rfl, fun zs hz => ?_⟩, ⟨⟨u, ?_⟩, a2.extBut hs.extBut hne.symm⟩, fun c hc => (hf1 c hc).1⟩
    · rw [hx] at hz
      cases hz
      exact ex
    · simpa using b1
  done := by
    intro X hP hw hK hc i pins s σ H E I hf st hg
    subst hP hw hK
    obtain ⟨xs, hq, hx⟩ := hg
    obtain ⟨⟨old, h1⟩, h4⟩ := st
    obtain ⟨its, rv, p, hz⟩ := I.list (SqL.of hq)
    have hl := rv.length
    refine wpAny_pyNext_enum_end (I.ok.hd hc) h1 h4 p.isList (by simp; omega) fun h' hk => ⟨rfl, I.turnedL (t' := s.toks) (fp := [e, it]) (fun c o nc eo => ?_) hf⟩
    simp only [List.mem_cons, List.not_mem_nil, or_false, not_or] at nc
    exact hk c o nc.2 eo
  self := fun _ _ _ _ _ st h => by
    obtain ⟨⟨old, h1⟩, _⟩ := st
    exact wpAny_pyIter_enum h1 h
def iEnum (ta : TA) : TI := fun σ H R => ta σ H fun vs H1 => ∃ a, vs = [.ref a] ∧ (∃ xs, H1 a = some (.lst xs)) ∧ R (Ite a) H1
theorem bt_enum : bootBuiltins "enumerate" = some (.type "enumerate") := by decide +kernel
theorem pi_enum {X : Cx} {es : List Expr} {kt : Nat} {tp : Pos} {a : Expr} {ta : TA} {p pos : Pos} (hg : Gl X "enumerate") (hm : X.mg "enumerate" = none) (ha : PA X [a] ta) (hs : starEach [a] X.env = [(false, eval a X.env)] := by rfl) :
    PI X (.Tuple es kt tp) (.Call (.Name "enumerate" p) [a] [] pos) (iEnum ta) := by
  intro pins s σ H R I h
  refine Call_ (ld_blt I hg hm bt_enum (PyProof.Rows.callWith_type1 (thn (ha pos pins s σ H _ I h) fun us s1 hh => ?_) (by rw [hs]; rfl) (by rfl)))
  obtain ⟨vs, H1, I1, r1, q1⟩ := hh
  obtain ⟨x, e, ⟨xs, hx⟩, q⟩ := q1
  subst e
  obtain ⟨u, rfl, ru⟩ := vals1 r1
  cases ru
  obtain ⟨z, its, n, r, hl, e⟩ := I1.lstM hx
  refine call_enumerate_1 e fun h' g1 g2 gz hk => ?_
  refine wpAny_pyIter_enum g1 ?_
  refine ⟨s1.heap.objs.size + 1, [s1.heap.objs.size + 1, s1.heap.objs.size], _, _, H1, rfl, I1.kept (t' := s1.toks) hk, turn_enum (Nat.succ_ne_self _), ⟨⟨_, by simpa using g1⟩, g2⟩, fun c hc => ?_, q⟩
  have hle : s1.heap.objs.size ≤ c := by
    simp only [List.mem_cons, List.not_mem_nil, or_false] at hc
    rcases hc with e | e <;> rw [e]
    · exact Nat.le_add_right _ 1
    · exact Nat.le_refl _
  exact I1.fpOk hle (I1.hok.fresh hle)
theorem for_enum {a : Addr} {xs : List V} {g : TG} {tb : TS} {D : Ends} {σ : St} {H : Hp} (Pv : Nat → St → Hp → Prop) (h0 : Pv 0 σ H) (hl : ∀ i σ H, i ≤ xs.length → Pv i σ H → H a = some (.lst xs))
    (hs : ∀ i x σ H T, xs[i]? = some x → Pv i σ H → H T = none → g (.ref T) σ (upd H T (.tup [.int (i : Nat), x])) fun σ2 H2 => tb { D with nx := Pv (i + 1), ct := Pv (i + 1), bk := D.nx } σ2 H2) (hd : ∀ σ H, Pv xs.length σ H → D.nx σ H) :
    ∃ W : Nat → Nat → St → Hp → Prop, (∃ m, W 0 m σ H) ∧ ∀ i m σ H, W i m σ H →
      ((Ite a).stop i H ∧ D.nx σ H) ∨ ((Ite a).go i H ∧ ∃ N : St → Hp → Prop, (∀ σ' H', N σ' H' → ∃ m', m' < m ∧ W (i + 1) m' σ' H') ∧ ∀ x H', (Ite a).yld i H x H' → g x σ H' fun σ2 H2 => tb { D with nx := N, ct := N, bk := D.nx } σ2 H2) := by
  refine ⟨fun i m σ H => m = xs.length - i ∧ i ≤ xs.length ∧ Pv i σ H, ⟨xs.length, by simp, Nat.zero_le _, h0⟩, ?_⟩
  rintro i m σ H ⟨rfl, hi, p⟩
  have q := hl i σ H hi p
  by_cases hlt : i < xs.length
  · refine .inr ⟨⟨xs, xs[i], q, by simp [hlt]⟩, Pv (i + 1), fun σ' H' p' => ⟨xs.length - (i + 1), by omega, rfl, hlt, p'⟩, fun x H' y => ?_⟩
    obtain ⟨T, z, rfl, hT, rfl, y⟩ := y
    exact hs i z σ H T (y xs q) p hT
  · have e : i = xs.length := by omega
    subst e
    exact .inl ⟨⟨xs, q, Nat.le_refl _⟩, hd σ H p⟩
end L2

/-! == and != of tuples and lists over the hand layer (own work): things alike, down to what is the very same -/
namespace L2
open PySem PySem.Spec PyProof.Rows
/-- alike: the same, or tuples or lists of things alike -/
def Alk (H : Hp) : Nat → V → V → Prop
  | 0, _, _ => False
  | n + 1, x, y => (x = y ∧ (flatV x = true ∨ ∃ a, x = .ref a)) ∨
      ∃ a b xs ys, x = .ref a ∧ y = .ref b ∧ ((H a = some (.tup xs) ∧ H b = some (.tup ys)) ∨ (H a = some (.lst xs) ∧ H b = some (.lst ys))) ∧ xs.length = ys.length ∧ ys.length ≤ 8388608 ∧
        ∀ (i : Nat) (x y : V), xs[i]? = some x → ys[i]? = some y → Alk H n x y
theorem eqV_self {x : V} (h : flatV x = true) : eqV x x = true := by
  cases x <;> first | rfl | (cases h; done) | simp [eqV]
def Pl (x : V) : Prop := flatV x = true ∨ ∃ a, x = .ref a
theorem Alk.rfl' {H : Hp} (n : Nat) {x : V} (h : Pl x) : Alk H (n + 1) x x := .inl ⟨rfl, h⟩
theorem all_rangeT {n : Nat} {e : Nat → Bool} (h : ∀ j, j < n → e j = true) : (List.range n).all e = true := List.all_eq_true.mpr fun j hj => h j (List.mem_range.mp hj)
section
variable {X : Cx} {pins : List (Addr × Obj)} {σ : St} {H : Hp} {s : Shared}
theorem tup_at (I : Inv X pins σ H s) {a : Addr} {xs : List V} (h : H a = some (.tup xs)) : ∃ its : List Value, Vals xs its ∧ s.heap.IsTuple a its.toArray := by
  obtain ⟨its, r, pl, hz⟩ := I.tuple (SqT.of (K := X.K) h)
  exact ⟨its, r, pl⟩
theorem lst_at (I : Inv X pins σ H s) {a : Addr} {xs : List V} (h : H a = some (.lst xs)) : ∃ its : List Value, Vals xs its ∧ s.heap.IsList a its.toArray := by
  obtain ⟨its, r, pl, hz⟩ := I.list (SqL.of (K := X.K) h)
  exact ⟨its, r, pl.isList⟩
/-- the items, place by place -/
theorem items_at {xs ys : List V} {us ws : List Value} {A : Around} {R : V → V → Bool → Prop} (ru : Vals xs us) (rw' : Vals ys ws) {e : Nat → Bool} (h : ∀ (i : Nat) (x y : V) (u w : Value), xs[i]? = some x → ys[i]? = some y → RelV x u → RelV y w → SeqAt.EqAt A s u w (e i)) :
    ∀ j (h1 : j < us.toArray.size) (h2 : j < ws.toArray.size), SeqAt.EqAt A s us.toArray[j] ws.toArray[j] (e j) := fun j h1 h2 => by
  have l1 := ru.length
  have l2 := rw'.length
  have hj1 : j < xs.length := by simp at h1; omega
  have hj2 : j < ys.length := by simp at h2; omega
  obtain ⟨u, eu, r1⟩ := ru.get (i := j) (x := xs[j]) (List.getElem?_eq_getElem hj1)
  obtain ⟨w, ew, r2⟩ := rw'.get (i := j) (x := ys[j]) (List.getElem?_eq_getElem hj2)
  have e1 : us.toArray[j] = u := by
    have : us[j]? = some u := eu
    simp only [List.getElem_toArray]
    exact Option.some.inj ((List.getElem?_eq_getElem (by simpa using h1)).symm.trans this)
  have e2 : ws.toArray[j] = w := by
    have : ws[j]? = some w := ew
    simp only [List.getElem_toArray]
    exact Option.some.inj ((List.getElem?_eq_getElem (by simpa using h2)).symm.trans this)
  rw [e1, e2]
  exact h j _ _ u w (List.getElem?_eq_getElem hj1) (List.getElem?_eq_getElem hj2) r1 r2
theorem eqAt_alike (I : Inv X pins σ H s) : ∀ (n : Nat) (A : Around) (x y : V) (v u : Value), A.units + n < cLine → Alk H n x y → RelV x v → RelV y u → SeqAt.EqAt A s v u true
  | 0, _, _, _, _, _, _, h, _, _ => h.elim
  | n + 1, A, x, y, v, u, hu, h, rx, ry => by
    rcases h with ⟨rfl, hp⟩ | ⟨a, b, xs, ys, rfl, rfl, hab, hl, hz, hall⟩
    · rcases hp with hp | ⟨a, rfl⟩
      · have := eqAt_V (A := A) (s := s) rx ry hp hp
        rwa [eqV_self hp] at this
      · cases rx
        cases ry
        exact SeqAt.EqAt.same _
    · cases rx
      cases ry
      by_cases eab : a = b
      · subst eab
        exact SeqAt.EqAt.same _
      refine SeqAt.EqAt.of_refs eab ?_
      have hu1 : A.in1.units + n < cLine := by
        have : A.in1.units = A.units + 1 := rfl
        omega
      rcases hab with ⟨h1, h2⟩ | ⟨h1, h2⟩
      · obtain ⟨us, ru, pu⟩ := tup_at I h1
        obtain ⟨ws, rw', pw⟩ := tup_at I h2
        have l1 := ru.length
        have l2 := rw'.length
        have := SeqAt.RcAt.tuples (e := fun _ => true) pu pw (by omega) (items_at (R := fun _ _ _ => True) ru rw' fun i x y u w e1 e2 r1 r2 => eqAt_alike I n A.in1 x y u w hu1 (hall i x y e1 e2) r1 r2)
        rwa [show ((List.range (min us.toArray.size ws.toArray.size)).all (fun _ => true) && us.toArray.size == ws.toArray.size) = true from by
          rw [all_rangeT (fun _ _ => rfl), Bool.true_and]
          simp only [List.size_toArray, beq_iff_eq]
          omega] at this
      · obtain ⟨us, ru, pu⟩ := lst_at I h1
        obtain ⟨ws, rw', pw⟩ := lst_at I h2
        have l1 := ru.length
        have l2 := rw'.length
        have := SeqAt.RcAt.lists (e := fun _ => true) pu pw (by simp only [List.size_toArray]; omega) (by omega) (items_at (R := fun _ _ _ => True) ru rw' fun i x y u w e1 e2 r1 r2 => eqAt_alike I n A.in1 x y u w hu1 (hall i x y e1 e2) r1 r2)
        rwa [show (List.range us.toArray.size).all (fun _ => true) = true from all_rangeT (fun _ _ => rfl)] at this
end
section
variable {X : Cx}
/-- two tuples of flat things -/
def eqL (xs ys : List V) : Bool := (List.range (min xs.length ys.length)).all (fun j => eqV (xs.getD j .non) (ys.getD j .non)) && xs.length == ys.length
theorem op_eqT (hu : X.A.units + 64 < cLine) : OpR X (compareOp .Eq) (fun x y H Q => ∃ (a b : Addr) (xs ys : List V), x = .ref a ∧ y = .ref b ∧ H a = some (.tup xs) ∧ H b = some (.tup ys) ∧ xs.all flatV = true ∧ ys.all flatV = true ∧ Q (.bl (eqL xs ys)) H) := by
  intro pins s σ H x y v u Q I rx ry h
  obtain ⟨a, b, xs, ys, rfl, rfl, h1, h2, f1, f2, q⟩ := h
  cases rx
  cases ry
  obtain ⟨us, ru, pu⟩ := tup_at I h1
  obtain ⟨ws, rw', pw⟩ := tup_at I h2
  have l1 := ru.length
  have l2 := rw'.length
  refine SeqAt.eq_tupleAt (e := fun j => eqV (xs.getD j .non) (ys.getD j .non)) pu pw (by omega) (items_at (R := fun _ _ _ => True) ru rw' fun i x y u w e1 e2 r1 r2 => ?_) ?_
  · rw [List.getD_eq_getElem?_getD, List.getD_eq_getElem?_getD, e1, e2]
    exact eqAt_V r1 r2 (List.all_eq_true.mp f1 _ (List.mem_of_getElem? e1)) (List.all_eq_true.mp f2 _ (List.mem_of_getElem? e2))
  · refine ⟨.bl (eqL xs ys), H, I, ?_, q⟩
    show Value.bool _ = Value.bool _
    unfold eqL
    simp only [List.size_toArray]
    rw [← l1, ← l2]
end
end L2

/-! x is True, x is not False; == of lists of the very same things (own work) -/
namespace L2
open PySem PySem.Spec PyProof.Rows
section
variable {X : Cx}
theorem op_isnotB : OpR X (compareOp .IsNot) (fun x y H Q => ∃ a b, x = .bl a ∧ y = .bl b ∧ Q (.bl (!(a == b))) H) := by
  intro pins s σ H x y v u Q I rx ry h
  obtain ⟨a, b, rfl, rfl, q⟩ := h
  cases rx
  cases ry
  cases a <;> cases b <;> exact wpAny_pure ⟨.bl _, H, I, rfl, q⟩
theorem op_eqS (hu : X.A.units + 64 < cLine) : OpR X (compareOp .Eq) (fun x y H Q => ∃ (a b : Addr) (zs : List V), x = .ref a ∧ y = .ref b ∧ H a = some (.lst zs) ∧ H b = some (.lst zs) ∧ (∀ z ∈ zs, Pl z) ∧ Q (.bl true) H) := by
  intro pins s σ H x y v u Q I rx ry h
  obtain ⟨a, b, zs, rfl, rfl, h1, h2, hp, q⟩ := h
  cases rx
  cases ry
  obtain ⟨us, ru, pu⟩ := lst_at I h1
  obtain ⟨ws, rw', pw⟩ := lst_at I h2
  have l1 := ru.length
  have l2 := rw'.length
  have hu1 : X.A.in1.units + 1 < cLine := by
    have : X.A.in1.units = X.A.units + 1 := rfl
    omega
  refine SeqAt.eq_listAt (e := fun _ => true) pu pw (by simp only [List.size_toArray]; omega) (by omega) (items_at (R := fun _ _ _ => True) ru rw' fun i x y u w e1 e2 r1 r2 => ?_) ?_
  · rw [e1] at e2
    cases e2
    exact eqAt_alike I 1 X.A.in1 x x u w hu1 (Alk.rfl' 0 (hp x (List.mem_of_getElem? e1))) r1 r2
  · rw [show (List.range us.toArray.size).all (fun _ => true) = true from all_rangeT (fun _ _ => rfl)]
    exact ⟨.bl true, H, I, rfl, q⟩
end
end L2

/-! RANGES DOWNWARD over the hand layer: range(a, -1, -1) (own work) -/
namespace L2
open PySem PySem.Spec PyProof.Rows
theorem down_size {a : Int} (h : -1 ≤ a) : Builtin.Range.rangeSize a (-1) (-1) = a + 1 := by
  unfold Builtin.Range.rangeSize
  rw [if_neg (by decide)]
  by_cases e : a = -1
  · subst e
    rfl
  · rw [if_pos (by omega)]
    have : a - -1 - 1 = a := by omega
    rw [this, show -(-1 : Int) = 1 from rfl, Int.ediv_one]
theorem down_small {a : Int} (h : -1 ≤ a) (h2 : a < 100000) : Builtin.Range.small a (-1) (-1) = true := by
  unfold Builtin.Range.small
  rw [down_size h]
  simp only [Builtin.Range.rangeFitsLong, Bool.and_eq_true, Bool.or_eq_true, decide_eq_true_eq, beq_iff_eq]
  refine ⟨?_, ?_⟩ <;> first | omega | (constructor <;> omega) | exact .inr (by decide)
def iRngD (ta : TA) : TI := fun σ H R => ta σ H fun vs H1 => ∃ a : Int, vs = [.int a, .int (-1), .int (-1)] ∧ -1 ≤ a ∧ a < 100000 ∧ R (Its a (-1) (a + 1).toNat) H1
theorem pi_rangeD {X : Cx} {tg a b c : Expr} {ta : TA} {p pos : Pos} (hg : Gl X "range") (hm : X.mg "range" = none) (ha : PA X [a, b, c] ta) (hs : starEach [a, b, c] X.env = [(false, eval a X.env), (false, eval b X.env), (false, eval c X.env)] := by rfl)
    (hs2 : starEach [b, c] X.env = [(false, eval b X.env), (false, eval c X.env)] := by rfl) : PI X tg (.Call (.Name "range" p) [a, b, c] [] pos) (iRngD ta) := by
  intro pins s σ H R I h
  refine Call_ (ld_blt I hg hm boot_range (PyProof.Rows.callWith_type1 (thn (ha pos pins s σ H _ I h) fun us s1 hh => ?_) (by rw [hs, hs2]) (by rw [hs2]; rfl)))
  obtain ⟨vs, H1, I1, r1, q1⟩ := hh
  obtain ⟨j, e, h1, h2, q⟩ := q1
  subst e
  cases r1 with
  | cons r rr =>
    cases rr with
    | cons r' rr =>
      cases rr with
      | cons r'' rr =>
        cases rr
        obtain ⟨t, rfl⟩ := r
        obtain ⟨t', rfl⟩ := r'
        obtain ⟨t'', rfl⟩ := r''
        refine call_range_3 (by decide) ?_ (Or.inl (PyProof.noPylong_small (by decide)))
        refine wpAny_pyIter_range (IsRange.new ..) (down_small h1 h2) ?_
        have I2 : Inv X pins σ H1 { s1 with heap := s1.heap.push { cls := .type "range", data := .fields #[.int j t, .int (-1) t', .int (-1) t''] } } := I1.kept (t' := s1.toks) fun b o e => Heap.get?_push_of_some _ e
        refine ⟨_, [(s1.heap.push { cls := .type "range", data := .fields #[.int j t, .int (-1) t', .int (-1) t''] }).objs.size], _, _, H1, rfl, I2.kept (t' := s1.toks) fun b o e => Heap.get?_push_of_some _ e, turn_steps _ j (-1) (j + 1).toNat, ?_, fun b hb => ?_, q⟩
        · have e1 : j + ((0 : Nat) : Int) * (-1) = j := by omega
          have e2 : (((j + 1).toNat : Nat) : Int) - ((0 : Nat) : Int) = Builtin.Range.rangeSize j (-1) (-1) := by
            rw [down_size h1]
            omega
          show IsRangeIter _ _ (j + ((0 : Nat) : Int) * (-1)) ((((j + 1).toNat : Nat) : Int) - ((0 : Nat) : Int)) (-1)
          rw [e1, e2]
          exact Heap.get?_push_size _ rfl
        · have e : b = (s1.heap.push { cls := .type "range", data := .fields #[.int j t, .int (-1) t', .int (-1) t''] }).objs.size := by simpa using hb
          subst e
          exact I2.fpOk (Nat.le_refl _) (I2.hok.fresh (Nat.le_refl _))
/-- for k in range(n - 1, -1, -1) -/
theorem for_down {a : Int} {n : Nat} {g : TG} {tb : TS} {D : Ends} {σ : St} {H : Hp} (Pv : Nat → St → Hp → Prop) (ha : a + 1 = (n : Int)) (h0 : Pv n σ H)
    (hs : ∀ i σ H, i < n → Pv (i + 1) σ H → g (.int (i : Nat)) σ H fun σ2 H2 => tb { D with nx := Pv i, ct := Pv i, bk := D.nx } σ2 H2) (hd : ∀ σ H, Pv 0 σ H → D.nx σ H) :
    ∃ W : Nat → Nat → St → Hp → Prop, (∃ m, W 0 m σ H) ∧ ∀ i m σ H, W i m σ H →
      ((Its a (-1) (a + 1).toNat).stop i H ∧ D.nx σ H) ∨ ((Its a (-1) (a + 1).toNat).go i H ∧ ∃ N : St → Hp → Prop, (∀ σ' H', N σ' H' → ∃ m', m' < m ∧ W (i + 1) m' σ' H') ∧ ∀ x H', (Its a (-1) (a + 1).toNat).yld i H x H' → g x σ H' fun σ2 H2 => tb { D with nx := N, ct := N, bk := D.nx } σ2 H2) := by
  have en : (a + 1).toNat = n := by omega
  rw [en]
  refine ⟨fun i m σ H => m = n - i ∧ i ≤ n ∧ Pv (n - i) σ H, ⟨n, Nat.sub_zero n |>.symm, Nat.zero_le _, h0⟩, ?_⟩
  rintro i m σ H ⟨rfl, hi, p⟩
  by_cases hlt : i < n
  · refine .inr ⟨hlt, Pv (n - (i + 1)), fun σ' H' p' => ⟨n - (i + 1), by omega, rfl, hlt, p'⟩, fun x H' y => ?_⟩
    obtain ⟨rfl, rfl⟩ := y
    have e : a + (i : Nat) * (-1) = ((n - (i + 1) : Nat) : Int) := by omega
    rw [e]
    exact hs (n - (i + 1)) σ _ (by omega) (by rw [show n - (i + 1) + 1 = n - i from by omega]; exact p)
  · obtain rfl : i = n := by omega
    rw [Nat.sub_self] at p
    exact .inl ⟨Nat.le_refl _, hd σ H p⟩
end L2

/-! MORE RULES over the hand layer (own work): list(reversed(xs)), d.setdefault(k, x) -/
namespace L2
open PySem PySem.Spec PyProof.Rows
theorem lri_nolen : typeLookup (.type "list_reverseiterator") "__len__" = pure none := by rw [typeLookup_type, builtinLookup_eq_fast]; kernel_rfl
theorem lri_hint : typeLookup (.type "list_reverseiterator") "__length_hint__" = pure (some (.builtin "list_reverseiterator.__length_hint__")) := by rw [typeLookup_type, builtinLookup_eq_fast]; kernel_rfl
section
variable {prog : Program} {w : World} {A : Around} {E : Value → Shared → Prop} {s : Shared} {I l : Addr} {items : Array Value}
theorem extend_rev {R : Result → Shared → Prop} (hh : A.handled = none) (S : Addr) (res : Value) (c₀ : Nat) (hit : s.heap.IsRevIter I l ((items.size : Int) - 1)) (hl : s.heap.IsList l items) (hS : s.heap.get? S = some { cls := .type "list", data := .seq #[] c₀ })
    (hne : l ≠ I) (hSl : S ≠ l) (hSI : S ≠ I) (hn : items.size ≤ sizeLine)
    (hR : ∀ h' tk acc' c', (∀ b o, b ≠ S → b ≠ I → s.heap.get? b = some o → h'.get? b = some o) → h'.get? S = some { cls := .type "list", dict := none, data := .seq acc' c', slots := #[] } → ItemsOf (fun i v => items[items.size - 1 - i]? = some v) acc' items.size → R (.ok (.ret res)) { s with heap := h', toks := tk }) :
    wpAny (model prog w) A.in1 (Builtin.List.listExtendWith (.ref S) (.ref I) res) (fun fin s' => match fin with | .done f => R (.ok f) s' | .again c' => c'.quiet = true ∧ codeAny (model prog w) A c' R s') (fun e s' => R (.error e) s') s := by
  have W := (Walks.listRev (prog := prog) (w := w) (A := A.in1) hh I l hne items).toS
  have hT : s.TypeIs (.ref I) "list_reverseiterator" := hit.typeIs
  have hSf : S ∉ [I, l] := fun z => by
    simp only [List.mem_cons, List.not_mem_nil, or_false] at z
    rcases z with z | z
    · exact hSI z
    · exact hSl z
  unfold Builtin.List.listExtendWith
  refine wpAny_bind (wpAny_typeOf hT ?_)
  have h1 : Builtin.List.listSameRef (.ref S) (.ref I) = false := by unfold Builtin.List.listSameRef; exact beq_eq_false_iff_ne.mpr hSI
  rw [if_neg (by rw [h1]; decide)]
  refine wpAny_bind (wpAny_pyIter_revIter hit (wpAny_bind (wpAny_holding ?_)))
  unfold Builtin.List.listLengthHint
  refine wpAny_bind (wpAny_specialOf hT lri_nolen ?_)
  (show wpAny _ A.in1 (specialOf (Value.ref I) (Str.ofString "__length_hint__") >>= _) _ _ _; refine wpAny_bind (wpAny_specialOf hT lri_hint ?_))
  (generalize hid : ("list_reverseiterator.__length_hint__" : String) = id0; wp_delta; rw [show splitId id0 = some ("list_reverseiterator", "__length_hint__") from by subst hid; decide +kernel]; subst hid)
  refine wpAny_bind (wpAny_isInstance (b := true) hT (by rw [isSubtype_type]; kernel_rfl) (wpAny_pure ?_))
  rw [if_neg (by decide)]
  refine wpAny_pure ⟨plainId_quiet F.plain_extend_loop _, codeAny_extend_loopS W hn S hSf res items.size 0 _ _ _ rfl (Nat.zero_le _) ⟨Nat.zero_le _, ?_, hl⟩ hS (ItemsOf.nil _) fun s' acc' c' hm hS' hacc => ?_⟩
  · have e : (items.size : Int) - 1 - ((0 : Nat) : Int) = (items.size : Int) - 1 := by omega
    rw [e]
    exact hit
  · rw [Moved.eq_with hm]
    refine hR s'.heap s'.toks acc' c' (fun b o nS nI e => hm.heap b o (fun z => ?_) e) hS' hacc
    simp only [List.mem_cons, List.not_mem_nil, or_false] at z
    rcases z with z | z
    · exact nS z
    · exact nI z
theorem call_list_rev {Q : Value → Shared → Prop} (hh : A.handled = none) (hit : s.heap.IsRevIter I l ((items.size : Int) - 1)) (hl : s.heap.IsList l items) (hne : l ≠ I) (hn : items.size ≤ sizeLine)
    (hQ : ∀ h' tk acc' c', (∀ b o, b ≠ I → s.heap.get? b = some o → h'.get? b = some o) → h'.get? s.heap.objs.size = some { cls := .type "list", dict := none, data := .seq acc' c', slots := #[] } → ItemsOf (fun i v => items[items.size - 1 - i]? = some v) acc' items.size → Q (.ref s.heap.objs.size) { s with heap := h', toks := tk }) :
    wpAny (model prog w) A (call (.type "list") [.ref I]) Q E s := by
  have hIlt : I < s.heap.objs.size := by obtain ⟨o, ho, _⟩ := hit; exact Heap.lt_size ho
  have hllt : l < s.heap.objs.size := by obtain ⟨o, ho, _⟩ := hl; exact Heap.lt_size ho
  refine callType_codes (Q₁ := fun obj s₁ => obj = .ref s.heap.objs.size ∧ s₁ = { s with heap := s.heap.push { cls := .type "list", data := .seq #[] } }) F.called_list (F.typeCall_list_1 _) F.entry_list_init (code_list_new _ ⟨rfl, rfl⟩) fun obj s₁ h₁ => ?_
  obtain ⟨rfl, rfl⟩ := h₁
  have hS : (s.heap.push { cls := .type "list", data := .seq #[] }).get? s.heap.objs.size = some { cls := .type "list", data := .seq #[] } := Heap.get?_push_size _ rfl
  refine ⟨⟨_, hS, rfl⟩, F.args_list_init_2 _ _, ?_⟩
  generalize hH1 : s.heap.push { cls := .type "list", data := .seq #[] } = h1 at hS
  have old : ∀ b o, s.heap.get? b = some o → h1.get? b = some o := fun b o e => by rw [← hH1]; exact Heap.get?_push_of_some _ e
  (show wpAny _ A.in1.in1 (do let old ← Builtin.List.listItems (.ref s.heap.objs.size); Builtin.List.listUpdate (.ref s.heap.objs.size) (fun _ => #[]); letGo old.toList.reverse; Builtin.List.listExtendWith (.ref s.heap.objs.size) (.ref I) .none) _ _ _; refine wpAny_bind ?_)
  unfold Builtin.List.listItems
  refine wpAny_bind (wpAny_seqItems hS rfl (wpAny_pure ?_))
  (show wpAny _ A.in1.in1 (updateSeq s.heap.objs.size (fun _ => #[]) >>= fun _ => letGo (#[] : Array Value).toList.reverse >>= fun _ => Builtin.List.listExtendWith (.ref s.heap.objs.size) (.ref I) .none) _ _ _; refine wpAny_bind (wpAny_updateSeq hS rfl ?_))
  have hS₂ := Heap.get?_update_self (Obj.mapSeq (fun _ => (#[] : Array Value))) hS rfl
  have oth : ∀ b o, b ≠ s.heap.objs.size → h1.get? b = some o → (h1.update s.heap.objs.size (Obj.mapSeq (fun _ => (#[] : Array Value)))).get? b = some o := fun b o hb e => (Heap.get?_update_other _ _ (Ne.symm hb)).trans e
  refine wpAny_bind (wpAny_letGo (extend_rev (A := A.in1) hh _ .none _ (hit.at fun o e => oth I o (Nat.ne_of_lt hIlt) (old _ _ e)) (hl.at fun o e => oth l o (Nat.ne_of_lt hllt) (old _ _ e)) hS₂ hne (Ne.symm (Nat.ne_of_lt hllt)) (Ne.symm (Nat.ne_of_lt hIlt)) hn fun h' tk acc' c' hk hS' hacc => ⟨rfl, ?_⟩))
  exact hQ h' tk acc' c' (fun b o nI e => hk b o (Nat.ne_of_lt (Heap.lt_size e)) nI (oth b o (Nat.ne_of_lt (Heap.lt_size e)) (old _ _ e))) hS' hacc
end
theorem bt_reversed : bootBuiltins "reversed" = some (.type "reversed") := by decide +kernel
theorem bt_listT : bootBuiltins "list" = some (.type "list") := by decide +kernel
theorem rev_vals {xs : List V} {its : List Value} {acc : Array Value} (r : Vals xs its) (h : ItemsOf (fun i v => its.toArray[its.toArray.size - 1 - i]? = some v) acc its.toArray.size) : Vals xs.reverse acc.toList := by
  have e : acc.toList = its.reverse := by
    refine List.ext_getElem? fun i => ?_
    by_cases hi : i < its.length
    · have hz : i < acc.size := by rw [h.1, List.size_toArray]; exact hi
      have hv := h.2 i acc[i] (Array.getElem?_eq_getElem hz)
      rw [List.getElem?_reverse hi]
      rw [List.size_toArray] at hv
      have : its[its.length - 1 - i]? = some acc[i] := by simpa using hv
      rw [this]
      simp [hz]
    · have h1 : acc.toList.length ≤ i := by have := h.1; rw [List.size_toArray] at this; simp [this]; omega
      have h2 : its.reverse.length ≤ i := by rw [List.length_reverse]; omega
      rw [List.getElem?_eq_none h1, List.getElem?_eq_none h2]
  rw [e]
  exact r.reverse
def tListRev (K : PySem.W.Frag) (te : TE) : TE := fun σ H Q => te σ H fun x H1 => ∃ a xs, x = .ref a ∧ SqL K H1 a xs ∧ ∀ p, H1 p = none → Q (.ref p) (upd H1 p (.lst xs.reverse))
/-- list(reversed(xs)) -/
theorem pe_listrev {X : Cx} {e : Expr} {te : TE} {p1 p2 pos1 pos2 : Pos} (hc : X.calm = true) (hgl : Gl X "list") (hml : X.mg "list" = none) (hgr : Gl X "reversed") (hmr : X.mg "reversed" = none) (he : PE X e te)
    (h1 : starEach [Expr.Call (.Name "reversed" p2) [e] [] pos2] X.env = [(false, eval (.Call (.Name "reversed" p2) [e] [] pos2) X.env)] := by rfl) (h2 : starEach [e] X.env = [(false, eval e X.env)] := by rfl) :
    PE X (.Call (.Name "list" p1) [.Call (.Name "reversed" p2) [e] [] pos2] [] pos1) (tListRev X.K te) := by
  intro pins s σ H Q I h
  refine wpAny_Call_Name_kw (ld_blt I hgl hml bt_listT ?_)
  refine PyProof.Rows.callWith_type1 ?_ (by rw [h1]; rfl) (by rfl)
  rw [h1]
  (show wpAny _ _ (spliced [(false, eval (.Call (.Name "reversed" p2) [e] [] pos2) X.env)]) _ _ s; refine Calls.spliced_cons ?_)
  refine wpAny_Call_Name_kw (ld_blt I hgr hmr bt_reversed ?_)
  refine PyProof.Rows.callWith_type1 ?_ (by rw [h2]; rfl) (by rfl)
  rw [h2]
  (show wpAny _ _ (spliced [(false, eval e X.env)]) _ _ s; refine Calls.spliced_cons ?_)
  refine thn (he pins s σ H _ I h) fun u s1 ⟨x, H1, I1, r1, a, xs, ex, hq, q1⟩ => Calls.spliced_nil ?_
  subst ex
  cases r1
  obtain ⟨its, r, pl, hz⟩ := I1.list hq
  have hlt : a < s1.heap.objs.size := by obtain ⟨o, n, e', _⟩ := pl; exact Heap.lt_size e'
  refine call_reversed_list pl.isList (Calls.spliced_nil ?_)
  refine call_list_rev (s := { s1 with heap := s1.heap.push (revObj a ((its.toArray.size : Int) - 1)) }) (I1.ok.hd hc) ⟨_, Heap.get?_push_size _ rfl, rfl, rfl⟩ (pl.isList.push _) (Nat.ne_of_lt hlt) (by rw [List.size_toArray, ← r.length]; exact hz) fun h' tk acc' c' hk hS hacc => ?_
  have hsz : s1.heap.objs.size ≤ (s1.heap.push (revObj a ((its.toArray.size : Int) - 1))).objs.size := by unfold Heap.push; simp
  refine ⟨.ref _, _, I1.laid (t' := tk) (o := .lst xs.reverse) (fun b o e' => hk b o (Nat.ne_of_lt (Heap.lt_size e')) (Heap.get?_push_of_some _ e')) hsz ?_, rfl, q1 _ (I1.hok.fresh hsz)⟩
  exact ⟨by rw [List.length_reverse]; exact hz, acc'.toList, c', rev_vals r hacc, by simpa using hS⟩
/-! ### d.setdefault(k, x) -/
/-- the heap behind d.setdefault(y, v) -/
def DSd (H : Hp) (a : Addr) (y v : V) (Q : V → Hp → Prop) : Prop := ∃ o, DGet H a y o ∧ (∀ z, o = some z → Q z H) ∧ (o = none → ∃ H', DPut H a y v H' ∧ Q v H')
section
variable {prog : Program} {w : World} {κ : Type} [DecidableEq κ] {knd : HeapKind prog w κ} {A : Around} {E : Value → Shared → Prop} {s : Shared}
theorem sd_heap {d a : Addr} {xs : List (κ × Addr × Value)} {k : κ} {v : Value} {Q : Value → Shared → Prop} (hu : knd.room A) (hkey : knd.is s.heap k a) (hm : s.heap.DictOfH knd d xs)
    (hold : ∀ p, atKey xs k = some p → Q p.2 { s with toks := s.toks + knd.draws k })
    (hQ : atKey xs k = none → ∀ h', h'.DictOfH knd d (storedH xs k a v) → Heap.SameBut d s.heap h' → Q v { s with heap := h', toks := s.toks + knd.draws k }) (hsz : xs.length ≤ sizeLine) :
    wpAny (model prog w) A (dictSetDefault d (.ref a) v) Q E s := by
  obtain ⟨o, es, ep, ho, hc, hd, he, his, hn⟩ := hm
  unfold dictSetDefault
  try with_reducible refine wpAny_holding ?_
  refine wpAny_bind (knd.pyHash hu hkey (wpAny_bind (wpAny_dictFind_heap (s := { s with toks := s.toks + knd.draws k }) hu hkey ho hd he his hn ?_ ?_)))
  · intro hno
    have hnot : k ∉ xs.map (·.1) := not_mem_keys_of_get hno
    refine wpAny_bind (wpAny_rule (wpAny_bind (wpAny_updateDictKeys (hz := by have e := size_of_entries he; omega) (s := { s with toks := s.toks + knd.draws k }) ho hd (wpAny_pure (hQ (atKey_none_of_get hno) _ ⟨_, _, ep + 1, Heap.get?_update_self _ ho (Obj.isFreed_of_dict (Obj.data_mapDictKeys hd _)), hc.mapDictKeys _, Obj.data_mapDictKeys hd _, ?_, ?_, ?_⟩ (Heap.SameBut.update ..))))))
    · rw [storedH_new (atKey_none_of_get hno)]
      simp [he, entryOfKey]
    · rw [storedH_new (atKey_none_of_get hno)]
      intro x hx
      rcases List.mem_append.mp hx with hx | hx
      · exact knd.keeps (his x hx) ho hd (Heap.SameBut.update ..)
      · cases List.mem_singleton.mp hx
        exact knd.keeps hkey ho hd (Heap.SameBut.update ..)
    · rw [storedH_new (atKey_none_of_get hno), List.map_append, List.nodup_append]
      refine ⟨hn, by simp, fun x hx y hy e => ?_⟩
      cases List.mem_singleton.mp hy
      have e' : x = k := e
      exact hnot (e' ▸ hx)
  · intro j p hj
    refine wpAny_bind (wpAny_dictEntries (s := { s with toks := s.toks + knd.draws k }) ho hd ?_)
    rw [entry_at he j, hj]
    have hp := hold p (by rw [atKey_of_get hn hj])
    exact wpAny_bind (wpAny_rule (wpAny_pure hp))
theorem meetsH_sd (d a : Addr) (hd : (d == sysModules) = false) (v : Value) : MeetsIn prog w (Builtin.«dict.setdefault» ⟨[.ref d, .ref a, v], []⟩) (fun A R s => knd.room A.in1 ∧ ∃ k xs, knd.is s.heap k a ∧ s.heap.DictOfH knd d xs ∧ xs.length ≤ sizeLine ∧
      (∀ p, atKey xs k = some p → R (.ok (.ret p.2)) { s with toks := s.toks + knd.draws k }) ∧
      (atKey xs k = none → ∀ h', h'.DictOfH knd d (storedH xs k a v) → Heap.SameBut d s.heap h' → R (.ok (.ret v)) { s with heap := h', toks := s.toks + knd.draws k })) :=
  .of_wp fun A R s ⟨hu, k, xs, hkey, hm, hz, h1, h2⟩ => by
    unfold Builtin.«dict.setdefault»
    refine wpAny_bind ?_
    unfold Builtin.Dict.keyAndDefault
    (refine wpAny_bind (wpAny_notOrdered_dict hm.typeIs ?_); show wpAny _ _ (pure (d, Value.ref a, some v)) _ _ s; refine wpAny_pure ?_)
    (show wpAny _ _ (if (d == sysModules) = true then _ else (dictSetDefault d (.ref a) v >>= _)) _ _ s; rw [if_neg (by rw [hd]; exact Bool.false_ne_true)])
    exact wpAny_bind (sd_heap (hsz := hz) hu hkey hm (fun p hp => wpAny_pure ⟨p.2, rfl, h1 p hp⟩) fun hn h' hm' hs' => wpAny_pure ⟨v, rfl, h2 hn h' hm' hs'⟩)
end
section
variable {X : Cx} {pins : List (Addr × Obj)} {σ : St} {H : Hp} {s : Shared} {a : Addr} {y v : V} {u r : Value} {A : Around} {E : Value → Shared → Prop}
theorem d_sd {Q : Value → Shared → Prop} {R : V → Hp → Prop} (hu : A.units + 1 < cLine) (I : Inv X pins σ H s) (g : DSd H a y v R) (ry : RelV y u) (rv : RelV v r) (h : ∀ z H' w' s', Inv X pins σ H' s' → RelV z w' → R z H' → Q w' s') :
    wpAny (model X.prog X.w) A (call (.builtin "dict.setdefault") [.ref a, u, r]) Q E s := by
  obtain ⟨o, g, g1, g2⟩ := g
  rcases g with ⟨kvs, k, e, ey, l⟩ | ⟨kvs, k, b, e, ey, eb, l⟩
  · subst ey
    obtain ⟨z, hd, vs, rel, dd⟩ := dk_rd I.hok e
    have hz : vs.length ≤ sizeLine := by rw [← rel.length]; exact z
    refine call_meetsIn PySem.F.slot_dict_setdefault dd.typeIs PySem.F.entry_dict_setdefault (PySem.F.args_dict_setdefault_3 _ _ _) (kt_meets_setdefault (mixKind X.prog X.w) a (kV_is ry) hd r) ⟨vs, dd, hz, fun w' hw => ?_, fun hn h' dd' hs => ?_⟩
    · have q := rel.val k
      rw [hw, ← l] at q
      cases o with
      | none => exact q.elim
      | some zz => exact h zz H w' _ (I.tok _) q (g1 zz rfl)
    · have q := rel.val k
      rw [hn, ← l] at q
      cases o with
      | some zz => exact q.elim
      | none =>
        obtain ⟨H', gp, gq⟩ := g2 rfl
        rcases gp with ⟨kvs', k', e', ey', l', eH⟩ | ⟨kvs', k', b', e', ey', _⟩
        · rcases e with e | ⟨_, e⟩
          · rw [e] at e'
            cases e'
            cases kV_inj ey'
            subst eH
            have hl : (putK kvs k v).length ≤ sizeLine := by have := length_putK kvs k v; omega
            have he : ∃ q, h'.get? a = some q := let ⟨q, _, _, hq, _⟩ := dd'; ⟨q, hq⟩
            exact h v _ r _ (d_write (t' := s.toks + 1) I (by rw [e]; exact True.intro) hs he (dk_new hl hd (rel.put k rv) dd')) rv gq
          · rw [e] at e'
            cases e'
        · cases k <;> cases ey'
  · subst ey
    cases (show u = Value.ref b from ry)
    obtain ⟨z, hd, xs, rel, dd⟩ := dt_rd I.hok e
    have hz : xs.length ≤ sizeLine := by rw [← Paired.length rel]; exact z
    refine call_meetsIn PySem.F.slot_dict_setdefault dd.typeIs PySem.F.entry_dict_setdefault (PySem.F.args_dict_setdefault_3 _ _ _) (meetsH_sd (knd := tupleKind (mixKind X.prog X.w)) a b hd r) ⟨tupleKind_room_in1 hu, k, xs, key_of I.hok eb, dd, hz, fun p hp => ?_, fun hn h' dd' hs => ?_⟩
    · have q := rel.val k
      rw [hp, ← l] at q
      cases o with
      | none => exact q.elim
      | some zz => exact h zz H p.2 _ (I.tok _) q (g1 zz rfl)
    · have q := rel.val k
      rw [hn, ← l] at q
      cases o with
      | some zz => exact q.elim
      | none =>
        obtain ⟨H', gp, gq⟩ := g2 rfl
        rcases gp with ⟨kvs', k', e', ey', _⟩ | ⟨kvs', k', b', e', ey', eb', l', eH⟩
        · cases k' <;> cases ey'
        · rcases e with e | ⟨_, e⟩
          · rw [e] at e'
            cases e'
            cases ey'
            rw [eb] at eb'
            have : k = k' := by
              have := Option.some.inj eb'
              injection this with e1
              exact kVs_inj e1
            subst this
            subst eH
            have hl : (putK kvs k v).length ≤ sizeLine := by have := length_putK kvs k v; omega
            obtain ⟨q, es, ep, hq, h2, h3, h4, _, h5⟩ := dd'
            refine h v _ r _ (d_write (ob := .dT (putK kvs k v)) (t' := s.toks + (tupleKind (mixKind X.prog X.w)).draws k) I (by rw [e]; exact True.intro) hs ⟨q, hq⟩ ⟨hl, hd, _, (rel.put k eb rv).keeps fun c ys ec => ?_, q, es, ep, hq, h2, h3, h4, h5⟩) rv gq
            rw [upd_ne (ne_of ec e (fun z => nomatch z))]
            exact ec
          · rw [e] at e'
            cases e'
end
def tDSd (td ty tx : TE) : TE := fun σ H Q => td σ H fun x H1 => ∃ a, x = .ref a ∧ IsD H1 a ∧ ty σ H1 fun y H2 => tx σ H2 fun z H3 => DSd H3 a y z Q
theorem pe_dsd {X : Cx} {o e f : Expr} {apos cpos : Pos} {td ty tx : TE} (hu : X.A.units + 1 < cLine) (ho : PE X o td) (he : PE X e ty) (hf : PE X f tx) (m : M2 X o "setdefault" apos e f cpos) : PE X (.Call (.Attribute o "setdefault" apos) [e, f] [] cpos) (tDSd td ty tx) := by
  intro pins s σ H Q I h
  refine wpAny_Call_method m.base m.few m.line PySem.F.plainAttrs_dict PySem.F.slot_dict_setdefault PySem.F.type_dict_setdefault (thn (ho pins s σ H _ I h) fun u s1 hh => ?_)
  obtain ⟨x, H1, I1, rx, a, ex, d, q1⟩ := hh
  subst ex
  cases rx
  obtain ⟨t1, t2, _⟩ := isD_at I1 d
  refine ⟨t1, t2, ?_⟩
  rw [m.trees]
  refine Calls.callWith_builtin rfl (Calls.evalArgs_plain (Calls.spliced_cons (thn (he pins s1 σ H1 _ I1 q1) fun iv s2 ⟨y, H2, I2, ry, q2⟩ => Calls.spliced_cons (thn (hf pins s2 σ H2 _ I2 q2) fun fv s3 ⟨z, H3, I3, rz, q3⟩ => Calls.spliced_nil ?_))))
  exact d_sd hu I3 q3 ry rz fun z' H' w' s4 I4 rw' qq => ⟨z', H', I4, rw', qq⟩
end L2

/-! MORE RULES over the hand layer (own work): list(d), d a dict of ints and texts -/
namespace L2
open PySem PySem.Spec PyProof.Rows
theorem key_rel {k : Key} {v : Value} (h : keyIs k v = true) : RelV (kV k) v := by
  cases k with
  | inl i =>
    cases v with
    | int j t =>
      have e : j = i := by simpa [keyIs, Value.isInt] using h
      exact ⟨t, by rw [e]⟩
    | _ => cases h
  | inr x =>
    cases v with
    | str y t =>
      have e : y = x := by simpa [keyIs, Value.isStrOf] using h
      exact ⟨t, by rw [e]⟩
    | _ => cases h
theorem vals_of : ∀ {xs : List V} {us : List Value}, xs.length = us.length → (∀ (i : Nat) (x : V) (u : Value), xs[i]? = some x → us[i]? = some u → RelV x u) → Vals xs us
  | [], [], _, _ => .nil
  | [], _ :: _, h, _ => nomatch h
  | _ :: _, [], h, _ => nomatch h
  | x :: xs, u :: us, h, r => .cons (r 0 x u rfl rfl) (vals_of (Nat.succ.inj h) fun i y w e1 e2 => r (i + 1) y w e1 e2)
/-- list(d) -/
theorem call_list_dk {X : Cx} (hc : X.calm = true) : CallR X (.type "list") (fun xs H Q => ∃ a kvs, xs = [.ref a] ∧ H a = some (.dK kvs) ∧ ∀ p, H p = none → Q (.ref p) (upd H p (.lst (kvs.map fun kv => kV kv.1)))) := by
  intro pins s σ H xs us Q I r h
  obtain ⟨a, kvs, rfl, hd, q⟩ := h
  obtain ⟨u, rfl, rx⟩ := vals1 r
  cases rx
  obtain ⟨z, hs, vs, rel, dd⟩ := dk_of I.hok hd
  obtain ⟨ep, da⟩ := dd.dictAt
  have hl := rel.length
  refine PySem.W.kdl_call (PySem.W.kdl_dict (knd := mixKind X.prog X.w) (kvs := vs) (ep := ep) hs) (I.ok.hd hc) da (by rw [← hl]; exact z) fun h' tk acc' c' hk hS hacc => ?_
  refine ⟨.ref _, _, I.laid (t' := tk) (o := .lst (kvs.map fun kv => kV kv.1)) hk (Nat.le_refl _) ?_, rfl, q _ (I.hok.fresh (Nat.le_refl _))⟩
  refine ⟨by rw [List.length_map]; exact z, acc'.toList, c', vals_of ?_ fun i x w e1 e2 => ?_, by simpa using hS⟩
  · have e1 : acc'.toList.length = acc'.size := by simp
    have e2 := hacc.1
    rw [List.length_map]
    omega
  · rw [List.getElem?_map] at e1
    obtain ⟨kv, hkv, rfl⟩ := Option.map_eq_some_iff.mp e1
    obtain ⟨k, y, hv, hi⟩ := hacc.2 i w (by rw [← Array.getElem?_toList]; exact e2)
    have ek := congrArg (fun l : List Key => l[i]?) rel.keys
    simp only [List.getElem?_map, hkv, hv, Option.map_some] at ek
    rw [Option.some.inj ek]
    exact key_rel hi
/-! a tuple in a list of tuples -/
section
variable {X : Cx} {pins : List (Addr × Obj)} {σ : St} {H : Hp} {s : Shared}
theorem eqL_self {xs : List V} (f : xs.all flatV = true) : eqL xs xs = true := by
  unfold eqL
  rw [Bool.and_eq_true, List.all_eq_true]
  refine ⟨fun j hj => ?_, beq_self_eq_true _⟩
  have hj' : j < xs.length := by simpa using List.mem_range.mp hj
  rw [List.getD_eq_getElem?_getD, List.getElem?_eq_getElem hj']
  exact eqV_self (List.all_eq_true.mp f _ (List.getElem_mem hj'))
def eqR (H : Hp) (xs : List V) (y : V) : Bool := match y with
  | .ref r => match H r with
    | some (.tup ys) => eqL ys xs
    | _ => false
  | _ => false
def eqRU (H : Hp) (xs : List V) (u : Value) : Bool := match u with
  | .ref r => eqR H xs (.ref r)
  | _ => false
/-- references to tuples of flat things -/
def TupRefs (H : Hp) (zs : List V) : Prop := ∀ z ∈ zs, ∃ r ys, z = .ref r ∧ H r = some (.tup ys) ∧ ys.all flatV = true
theorem eqAt_T {A : Around} (I : Inv X pins σ H s) (hu : A.units + 1 < cLine) {a b : Addr} {xs ys : List V} (h1 : H a = some (.tup xs)) (h2 : H b = some (.tup ys)) (f1 : xs.all flatV = true) (f2 : ys.all flatV = true) : SeqAt.EqAt A s (.ref a) (.ref b) (eqL xs ys) := by
  by_cases eab : a = b
  · subst eab
    rw [h1] at h2
    cases h2
    rw [eqL_self f1]
    exact SeqAt.EqAt.same _
  refine SeqAt.EqAt.of_refs eab ?_
  obtain ⟨us, ru, pu⟩ := tup_at I h1
  obtain ⟨ws, rw', pw⟩ := tup_at I h2
  have l1 := ru.length
  have l2 := rw'.length
  have := SeqAt.RcAt.tuples (A := A) (e := fun j => eqV (xs.getD j .non) (ys.getD j .non)) pu pw (by omega) (items_at (R := fun _ _ _ => True) ru rw' fun i x y u w e1 e2 r1 r2 => by
    rw [List.getD_eq_getElem?_getD, List.getD_eq_getElem?_getD, e1, e2]
    exact eqAt_V r1 r2 (List.all_eq_true.mp f1 _ (List.mem_of_getElem? e1)) (List.all_eq_true.mp f2 _ (List.mem_of_getElem? e2)))
  rwa [show ((List.range (min us.toArray.size ws.toArray.size)).all (fun j => eqV (xs.getD j .non) (ys.getD j .non)) && us.toArray.size == ws.toArray.size) = eqL xs ys from by
    unfold eqL
    simp only [List.size_toArray]
    rw [← l1, ← l2]] at this
theorem any_eqRU {xs : List V} : ∀ {zs : List V} {us : List Value}, Vals zs us → TupRefs H zs → us.any (eqRU H xs) = zs.any (eqR H xs)
  | _, _, .nil, _ => rfl
  | z :: zs, u :: us, .cons r t, f => by
    obtain ⟨p, ys, rfl, hp, _⟩ := f z List.mem_cons_self
    cases r
    rw [List.any_cons, List.any_cons, any_eqRU t fun y hy => f y (List.mem_cons_of_mem _ hy)]
    rfl
theorem mem_eqRU {A : Around} (I : Inv X pins σ H s) (hu : A.units + 1 < cLine) {a : Addr} {xs : List V} (h1 : H a = some (.tup xs)) (f1 : xs.all flatV = true) : ∀ {zs : List V} {us : List Value}, Vals zs us → TupRefs H zs → ∀ u ∈ us, SeqAt.EqAt A s u (.ref a) (eqRU H xs u)
  | _, _, .nil, _ => fun u hu => by cases hu
  | z :: zs, u :: us, .cons r t, f => fun u' hu' => by
    rcases List.mem_cons.mp hu' with rfl | hu'
    · obtain ⟨p, ys, rfl, hp, fy⟩ := f z List.mem_cons_self
      cases r
      have := eqAt_T (A := A) I hu hp h1 fy f1
      rwa [show eqL ys xs = eqRU H xs (.ref p) from by unfold eqRU eqR; simp only [hp]] at this
    · exact mem_eqRU I hu h1 f1 t (fun y hy => f y (List.mem_cons_of_mem _ hy)) u' hu'
def rInT (neg : Bool) : R2 := fun x y H Q => ∃ a b xs zs, x = .ref a ∧ y = .ref b ∧ H a = some (.tup xs) ∧ xs.all flatV = true ∧ H b = some (.lst zs) ∧ TupRefs H zs ∧ Q (.bl (if neg then !(zs.any (eqR H xs)) else zs.any (eqR H xs))) H
theorem op_inT (hu : X.A.units + 64 < cLine) : OpR X (compareOp .In) (rInT false) := by
  intro pins s σ H x y v u Q I rx ry h
  obtain ⟨a, b, xs, zs, rfl, rfl, h1, f1, h2, f2, q⟩ := h
  cases rx
  cases ry
  obtain ⟨us, ru, pu⟩ := lst_at I h2
  have hu1 : X.A.in1.units + 1 < cLine := by
    have : X.A.in1.units = X.A.units + 1 := rfl
    omega
  refine SeqAt.in_listAt (eqRU H xs) pu (fun w hw => mem_eqRU I hu1 h1 f1 ru f2 w (by simpa using hw)) ⟨.bl _, H, I, rfl, ?_⟩
  rw [show us.toArray.any (eqRU H xs) = us.any (eqRU H xs) by simp, any_eqRU ru f2]
  exact q
theorem op_notInT (hu : X.A.units + 64 < cLine) : OpR X (compareOp .NotIn) (rInT true) := by
  intro pins s σ H x y v u Q I rx ry h
  obtain ⟨a, b, xs, zs, rfl, rfl, h1, f1, h2, f2, q⟩ := h
  cases rx
  cases ry
  obtain ⟨us, ru, pu⟩ := lst_at I h2
  have hu1 : X.A.in1.units + 1 < cLine := by
    have : X.A.in1.units = X.A.units + 1 := rfl
    omega
  refine SeqAt.notIn_listAt (eqRU H xs) pu (fun w hw => mem_eqRU I hu1 h1 f1 ru f2 w (by simpa using hw)) ⟨.bl _, H, I, rfl, ?_⟩
  rw [show us.toArray.any (eqRU H xs) = us.any (eqRU H xs) by simp, any_eqRU ru f2]
  exact q
end
end L2

/-! A COMPREHENSION whose own names are held in cells (own work): one within another that speaks of the outer's name -/
namespace L2
open PySem PySem.Spec PyProof.Rows
structure CompScopeC (outer : Scope) (NX : List Str) (N : List Str) (ix : List (Option Nat)) (scope : Scope) : Prop where
  kind : scope.kind = .function
  cells : ∀ y ∈ scope.names, y.2 = .cell → scope.names.lookup y.1 = some .cell
  names : ∀ y ∈ scope.names, y.2 = .local → scope.names.lookup y.1 = some .local
  free : ∀ y ∈ scope.names, y.2 = .free → outer.names.lookup y.1 = some .cell ∨ outer.names.lookup y.1 = some .free
  len : ix.length = N.length
  frees : (N.zip ix).all (fun p => match p.2 with | none => true | some i => NX[i]? == some p.1 && scope.names.lookup p.1 == some .free) = true
def bcells (X : Cx) (scope : Scope) (C : Addr) : List (Str × Addr) := cellsFrom (C + 1) scope.names (clOf X.env.cells scope.names [])
def Cx.blkC (X : Cx) (N : List Str) (scope : Scope) (C : Addr) (s₀ : Shared) (H₀ : Hp) (ex : List Addr) : Cx :=
  { X with N := N, env := compEnvC scope (bcells X scope C) C X.env, s₀ := s₀, H₀ := H₀, outer := X.stack, stack := X.stack, ex := ex, fn := fun x => scope.names.lookup x == some .cell, pn := [], xe := fun _ _ => False }
theorem cellsFrom_app : ∀ (names : List (Str × NameKind)) (n : Nat) (acc : List (Str × Addr)), cellsFrom n names acc = cellsFrom n names [] ++ acc
  | [], _, _ => rfl
  | (x, k) :: r, n, acc => by
    unfold cellsFrom
    split
    · rw [cellsFrom_app r (n + 1) ((x, n) :: acc), cellsFrom_app r (n + 1) [(x, n)], List.append_assoc]
      rfl
    · exact cellsFrom_app r n acc
theorem lookup_app {α : Type} {x : Str} : ∀ (l m : List (Str × α)), (l ++ m).lookup x = (l.lookup x).or (m.lookup x)
  | [], m => by simp
  | (y, v) :: r, m => by
    rw [List.cons_append, List.lookup_cons, List.lookup_cons]
    cases x == y with
    | true => rfl
    | false => exact lookup_app r m
theorem cellsFrom_mem {x : Str} {c : Addr} : ∀ {names : List (Str × NameKind)} {n : Nat}, (x, c) ∈ cellsFrom n names [] → (x, NameKind.cell) ∈ names
  | [], n, h => nomatch h
  | (y, k) :: r, n, h => by
    unfold cellsFrom at h
    split at h
    · rename_i hk
      rw [cellsFrom_app] at h
      rcases List.mem_append.mp h with z | z
      · exact List.mem_cons_of_mem _ (cellsFrom_mem z)
      · have e := List.mem_singleton.mp z
        cases e
        have ek : k = .cell := by simpa using hk
        rw [ek]
        exact List.mem_cons_self
    · exact List.mem_cons_of_mem _ (cellsFrom_mem h)
theorem cellsFrom_has {x : Str} : ∀ {names : List (Str × NameKind)} {n : Nat} {acc : List (Str × Addr)}, ((x, NameKind.cell) ∈ names ∨ ∃ c, acc.lookup x = some c) → ∃ c, (cellsFrom n names acc).lookup x = some c
  | [], n, acc, h => h.elim (fun z => nomatch z) id
  | (y, k) :: r, n, acc, h => by
    unfold cellsFrom
    split
    · rename_i hk
      apply cellsFrom_has
      by_cases hx : x = y
      · subst hx
        exact .inr ⟨n, by rw [List.lookup_cons, beq_self_eq_true]⟩
      · rcases h with h | ⟨c, h⟩
        · rcases List.mem_cons.mp h with e | h
          · cases e; exact absurd rfl hx
          · exact .inl h
        · refine .inr ⟨c, ?_⟩
          rw [List.lookup_cons]
          have : (x == y) = false := by simpa using hx
          rw [this]
          exact h
    · rename_i hk
      apply cellsFrom_has
      rcases h with h | h
      · rcases List.mem_cons.mp h with e | h
        · cases e; exact absurd rfl hk
        · exact .inl h
      · exact .inr h
section
variable {X : Cx} {scope : Scope} {C : Addr} {x : Str} {c : Addr}
theorem bcells_cases (h : (bcells X scope C).lookup x = some c) : (cellsFrom (C + 1) scope.names []).lookup x = some c ∨ ((cellsFrom (C + 1) scope.names []).lookup x = none ∧ (clOf X.env.cells scope.names []).lookup x = some c) := by
  unfold bcells at h
  rw [cellsFrom_app, lookup_app] at h
  cases e : (cellsFrom (C + 1) scope.names []).lookup x with
  | some d => rw [e] at h; exact .inl h
  | none => rw [e] at h; exact .inr ⟨rfl, h⟩
theorem bcells_own (h : (cellsFrom (C + 1) scope.names []).lookup x = some c) : (bcells X scope C).lookup x = some c := by
  unfold bcells
  rw [cellsFrom_app, lookup_app, h]
  rfl
theorem bcells_cl (hn : ¬ (x, NameKind.cell) ∈ scope.names) (h : (clOf X.env.cells scope.names []).lookup x = some c) : (bcells X scope C).lookup x = some c := by
  unfold bcells
  rw [cellsFrom_app, lookup_app]
  cases e : (cellsFrom (C + 1) scope.names []).lookup x with
  | some d => exact absurd (cellsFrom_mem (PySem.mem_of_lookup e)) hn
  | none => exact h
theorem bcells_has (h : (x, NameKind.free) ∈ scope.names ∨ (x, NameKind.cell) ∈ scope.names) : ∃ c, (bcells X scope C).lookup x = some c := by
  unfold bcells
  rcases h with h | h
  · exact cellsFrom_has (.inr (clOf_has (.inl h)))
  · exact cellsFrom_has (.inl h)
end
theorem cell_of_clC {X : Cx} {pins : List (Addr × Obj)} {σ : St} {H : Hp} {s : Shared} {NX N : List Str} {ix : List (Option Nat)} {scope : Scope} (I : Inv X pins σ H s) (S : CompScopeC X.env.scope NX N ix scope) {x : Str} {c : Addr}
    (h : (clOf X.env.cells scope.names []).lookup x = some c) : X.env.cells.lookup x = some c := by
  rcases clOf_lookup h with h | ⟨h, m⟩
  · cases h
  · have hk := S.free (x, .free) m rfl
    obtain ⟨c', e⟩ := I.ok.has x hk
    rw [e] at h
    rw [e]
    exact congrArg some h
section
variable {M : Model} {A : Around} {E : Value → Shared → Prop} {s : Shared}
theorem nfe_blk {scope : Scope} {globals : Addr} {closure : List (Str × Addr)} {qual : Str} {func : Option Addr} {code : Value} {outer : Env} {builtins : Addr} {Q : Env → Shared → Prop}
    (hQ : Q (newEnv scope s.heap.objs.size globals (cellsFrom (s.heap.objs.size + 1) scope.names closure) qual func code (some outer) builtins) { s with heap := pushCells (s.heap.push { cls := .type "dict", data := .dict #[] }) scope.names }) :
    wpAny M A (newFunctionEnv scope globals closure [] qual func code (some outer) builtins) Q E s := by
  simp only [newFunctionEnv, Option.isSome_some, if_true]
  refine wpAny_bind (wpAny_alloc ?_)
  refine wpAny_bind (wpAny_layCells _ (fun name kind cells => by cases hkc : kind == NameKind.cell <;> simp [hkc]) _ _ _ _ ?_)
  rw [show ({ s with heap := s.heap.push { cls := .type "dict", data := .dict #[] } } : Shared).heap.objs.size = s.heap.objs.size + 1 from Heap.size_push ..]
  simp only [List.forIn_nil]
  exact wpAny_bind (wpAny_pure (wpAny_pure hQ))
end
theorem inv_blkC {X : Cx} {pins : List (Addr × Obj)} {σ : St} {H : Hp} {s₃ : Shared} {N : List Str} {ix : List (Option Nat)} {scope : Scope} {fp : List Addr} {h₁ : Heap} {t : Nat} (I : Inv X pins σ H s₃) (S : CompScopeC X.env.scope X.N N ix scope)
    (hf : ∀ b ∈ fp, FpOk X pins H b) (hlt : ∀ b ∈ fp, b < s₃.heap.objs.size) (hns : ∃ m, h₁.Ns s₃.heap.objs.size m) (hh₁ : h₁ = pushCells (s₃.heap.push { cls := .type "dict", data := .dict #[] }) scope.names) :
    Inv (X.blkC N scope s₃.heap.objs.size s₃ H fp) [] (sgB ix σ) H { s₃ with heap := h₁, toks := t } := by
  have hk : ∀ b o, s₃.heap.get? b = some o → h₁.get? b = some o := fun b o e => by rw [hh₁]; exact pushCells_keeps _ _ b o (Heap.get?_push_of_some _ e)
  have own : CellsOk h₁ (s₃.heap.objs.size + 1) (cellsFrom (s₃.heap.objs.size + 1) scope.names []) := by
    have := cellsFrom_ok scope.names (s₃.heap.push { cls := .type "dict", data := .dict #[] }) (s₃.heap.objs.size + 1) [] ⟨fun _ _ hm => (nomatch hm), List.Pairwise.nil⟩ (by rw [Heap.size_push]; exact Nat.le_refl _)
    rw [Heap.size_push] at this
    rw [hh₁]
    exact this
  have nofr : ∀ b ∈ fp, b ∉ frs X.stack := fun b hb z => by
    rcases List.mem_cons.mp (I.stkSub b z) with e | e
    · exact (hf b hb).2.1 e
    · exact (hf b hb).2.2.1 e
  have clc : ∀ {x : Str} {c : Addr}, (clOf X.env.cells scope.names []).lookup x = some c → X.env.cells.lookup x = some c := fun h => cell_of_clC I S h
  have cas : ∀ {x : Str} {c : Addr}, (bcells X scope s₃.heap.objs.size).lookup x = some c → ((x, c) ∈ cellsFrom (s₃.heap.objs.size + 1) scope.names [] ∧ h₁.IsCell c none ∧ s₃.heap.objs.size < c) ∨ (X.env.cells.lookup x = some c ∧ c < s₃.heap.objs.size) := fun {x c} h => by
    rcases bcells_cases h with h | ⟨_, h⟩
    · have hm := PySem.mem_of_lookup h
      exact .inl ⟨hm, (own.empty _ _ hm).1, (own.empty _ _ hm).2⟩
    · have h' := clc h
      obtain ⟨v, o, ho, _⟩ := I.cell x c h'
      exact .inr ⟨h', Heap.lt_size ho⟩
  have ok : (X.blkC N scope s₃.heap.objs.size s₃ H fp).Ok := by
    refine ⟨I.ok.mod, S.kind, I.ok.glob, I.ok.blt, Nat.le_refl _, fun x y c h1 h2 => ?_, fun x hx => ?_, fun x c z h => ?_, I.ok.hd, I.ok.frames, .inl rfl, fun b hb => ⟨Nat.ne_of_lt (hlt b hb), fun x c h => ?_⟩,
      I.bs, Nat.le_trans I.ok.bsz I.sz, fun b o e hb => ?_, nofr, I.stack, I.stkFree⟩
    · rcases cas h1 with ⟨m1, _, l1⟩ | ⟨m1, l1⟩ <;> rcases cas h2 with ⟨m2, _, l2⟩ | ⟨m2, l2⟩
      · exact name_of_addr own.apart m1 m2
      · exact absurd (Nat.lt_trans l1 l2) (Nat.lt_irrefl _)
      · exact absurd (Nat.lt_trans l2 l1) (Nat.lt_irrefl _)
      · exact I.ok.inj x y c m1 m2
    · have hm : (x, NameKind.free) ∈ scope.names ∨ (x, NameKind.cell) ∈ scope.names := by
        rcases hx with hx | hx
        · obtain ⟨k', m, e⟩ := relabel_kind (env := X.env) (show (relabel scope X.env).names.lookup x = some .cell from hx)
          rcases e with e | e
          · rw [e] at m; exact .inr m
          · rw [e] at m; exact .inl m
        · obtain ⟨k', m, e⟩ := relabel_kind (env := X.env) (show (relabel scope X.env).names.lookup x = some .free from hx)
          rcases e with e | e <;> (rw [e] at m; exact .inl m)
      exact bcells_has hm
    · have z' : (scope.names.lookup x == some NameKind.cell) = true := z
      have hm : (x, NameKind.cell) ∈ scope.names := PySem.mem_of_lookup (by simpa using z')
      obtain ⟨c', hc'⟩ := cellsFrom_has (n := s₃.heap.objs.size + 1) (acc := []) (.inl hm)
      have e := bcells_own (X := X) hc'
      have : c' = c := Option.some.inj (e.symm.trans h)
      subst this
      exact Nat.le_of_lt ((own.empty _ _ (PySem.mem_of_lookup hc')).2)
    · rcases cas h with ⟨_, _, l⟩ | ⟨m, _⟩
      · exact Nat.ne_of_gt (Nat.lt_trans (hlt b hb) l)
      · exact (hf b hb).2.2.2.2.1 x c m
    · have h0 := (I.ok.bs b o e).1
      rcases (hf b hb).2.2.2.1 with z | z
      · exact I.ok.noex b o e z
      · exact absurd (Nat.lt_of_lt_of_le (Heap.lt_size h0) z) (Nat.lt_irrefl _)
  obtain ⟨m, hn⟩ := hns
  refine ⟨ok, rfl, I.bare, Un.kept hk, ⟨m, hn, fun j x v e1 e2 e3 => ?_⟩, fun x c h => ?_, I.hok.fresh (Nat.le_refl _), fun x c h => (cas h).elim (fun z => I.hok.fresh (Nat.le_of_lt z.2.2)) (fun z => I.freeC x c z.1), fun p hp => absurd (show p ∈ ([] : List (Addr × Obj)) from hp) (by simp), I.hok.kept hk, ?_⟩
  · have e1' : N[j]? = some x := e1
    have e2' : (sgB ix σ)[j]? = some (some v) := e2
    unfold sgB at e2'
    rw [List.getElem?_map] at e2'
    cases eo : ix[j]? with
    | none => rw [eo] at e2'; cases e2'
    | some o =>
      rw [eo] at e2'
      cases o with
      | none => cases e2'
      | some i =>
        have e4 : (σ[i]?).getD none = some v := Option.some.inj e2'
        have hz : (N.zip ix)[j]? = some (x, some i) := by
          rw [List.getElem?_zip_eq_some]; exact ⟨e1', eo⟩
        have ha := List.all_eq_true.mp S.frees _ (List.mem_of_getElem? hz)
        have ha' : (X.N[i]? == some x && scope.names.lookup x == some .free) = true := ha
        obtain ⟨h1, h2⟩ := Bool.and_eq_true_iff.mp ha'
        have hX : X.N[i]? = some x := by simpa using h1
        have hfr : scope.names.lookup x = some .free := by simpa using h2
        have hσ : σ[i]? = some (some v) := by
          cases q : σ[i]? with
          | none => rw [q] at e4; cases e4
          | some w => rw [q] at e4; exact congrArg some e4
        have hm : (x, NameKind.free) ∈ scope.names := PySem.mem_of_lookup hfr
        have hv := S.free _ hm rfl
        obtain ⟨mX, _, hl⟩ := I.loc
        obtain ⟨u, r, l⟩ := hl i x v hX hσ (.inr hv)
        refine ⟨u, r, .inr ⟨relabel_free (env := X.env) hfr, ?_⟩⟩
        rcases l with ⟨k, _⟩ | ⟨_, c, ec, z⟩
        · have k' : X.env.scope.names.lookup x = some .local := k
          rcases hv with hv | hv <;> (rw [hv] at k'; cases k')
        · obtain ⟨c', ec'⟩ := clOf_has (cells := X.env.cells) (acc := []) (.inl hm)
          have : c' = c := Option.some.inj ((clc ec').symm.trans ec)
          subst this
          obtain ⟨o, ho, hd⟩ := z
          refine ⟨c', bcells_cl (fun hm' => ?_) ec', o, hk _ _ ho, hd⟩
          have := S.cells _ hm' rfl
          rw [hfr] at this
          cases this
  · rcases cas h with ⟨_, z, _⟩ | ⟨z, _⟩
    · exact ⟨none, z⟩
    · obtain ⟨v, o, ho, hd⟩ := I.cell x c z
      exact ⟨v, o, hk _ _ ho, hd⟩
  · show (sgB ix σ).length = N.length
    unfold sgB
    rw [List.length_map, S.len]
/-- behind the block -/
theorem inv_unblkC {X : Cx} {pins : List (Addr × Obj)} {σ σ' : St} {H H' : Hp} {s₃ s' : Shared} {N : List Str} {scope : Scope} {fp : List Addr} {pins' : List (Addr × Obj)} {h' : Heap} (I : Inv X pins σ H s₃)
    (hf : ∀ b ∈ fp, FpOk X pins H b) (I' : Inv (X.blkC N scope s₃.heap.objs.size s₃ H fp) pins' σ' H' s') (hs : Heap.SameBut s₃.heap.objs.size s'.heap h') : Inv X pins σ H' { s' with heap := h' } := by
  have ne : ∀ b o, s₃.heap.get? b = some o → b ≠ s₃.heap.objs.size := fun b o e => Nat.ne_of_lt (Heap.lt_size e)
  have u : Un (frs X.stack) fp H H' s₃.heap s'.heap := I'.base
  have u' : Un (frs X.stack) fp H H' s₃.heap h' := by
    refine ⟨fun b o e n hb hx => (hs.2 b (ne b o e)).trans (u.keep b o e n hb hx), fun b o e n hb hx => ?_, u.free, fun b o e hx => ?_, u.tups, u.frzs, u.tbls⟩
    · obtain ⟨sl, q⟩ := u.slot b o e n hb hx
      exact ⟨sl, (hs.2 b (ne b o e)).trans q⟩
    · obtain ⟨o', q⟩ := u.there b o e hx
      exact ⟨o', (hs.2 b (ne b o e)).trans q⟩
  have nC : H' s₃.heap.objs.size = none := I'.free
  have hok : HOk X.prog X.w H' h' := fun b o e => by
    refine (I'.hok b o e).stay (fun c v hc q => (hs.2 c ?_).trans q) (fun _ q => q) fun _ _ q => q
    rcases hc with z | z
    · rw [z]; intro w; rw [w] at e; rw [nC] at e; cases e
    · intro w; rw [w] at z; rw [nC] at z; cases z
  exact I.call' (s' := { s' with heap := h' }) (ch := fp) I'.os u' hok I'.bare fun b hb => ⟨(hf b hb).2.2.2.1, (hf b hb).2.1, (hf b hb).2.2.2.2.1, (hf b hb).2.2.2.2.2⟩
theorem lc_genC {X : Cx} {elt tg iter : Expr} {ifs : List Expr} {scope : Scope} {pos ipos : Pos} {N : List Str} {ix : List (Option Nat)} {wi : TI} {g : TG} {tt : TT} {te : TE} (hc : X.calm = true) (S : CompScopeC X.env.scope X.N N ix scope) (hi : PI X tg iter wi)
    (hg : ∀ C s₀ H₀ ex, PG (X.blkC N scope C s₀ H₀ ex) tg g) (ht : ∀ C s₀ H₀ ex, PTs (X.blkC N scope C s₀ H₀ ex) ifs tt) (he : ∀ C s₀ H₀ ex, PE (X.blkC N scope C s₀ H₀ ex) elt te)
    (hs : ∀ x, foldedSetIterable iter X.env x = pure x) {pins : List (Addr × Obj)} {s : Shared} {σ : St} {H : Hp} {Q : VK} (I : Inv X pins σ H s) (h : tLc ix wi g tt te σ H Q) (use : Option (Value → Sem Unit)) (Qv : Value → Shared → Prop)
    (fin : ∀ {s₃ s6 : Shared} {H3 H6 : Hp} {σ6 : St} {fp : List Addr} {D : Addr}, Inv X pins σ H3 s₃ → (∀ b ∈ fp, FpOk X pins H3 b) → Inv (X.blkC N scope s₃.heap.objs.size s₃ H3 fp) [] σ6 H6 s6 → Q (.ref D) H6 →
      compPost (model X.prog X.w) X.A X.xe use Qv (.ref D) s₃.heap.objs.size (.ok .next) s6) :
    wpAny (model X.prog X.w) X.A (comprehension (.ListComp elt [⟨tg, iter, ifs, 0⟩] scope pos) scope X.env ipos (newList []) false (eval iter X.env) use) Qv X.xe s := by
  refine wpAny_comprehension_free (use := use) rfl hs (closureFor_of fun y hy e => I.ok.has y.1 (S.free y hy e)) S.kind S.names (thn (hi pins s σ H _ I h) fun xv s₁ h₁ => thn h₁ fun itv s₂ h₂ => ?_)
  obtain ⟨it, fp, tn, J, H2, e, I2, T, st2, f2, lc⟩ := h₂
  subst e
  obtain ⟨W, ⟨m0, w0⟩, turn⟩ := lc s₂.heap.objs.size (I2.hok.fresh (Nat.le_refl _))
  refine wpAny_newObj_type (nfe_blk ?_)
  have I3 : Inv X pins σ (upd H2 s₂.heap.objs.size (.lst [])) { s₂ with heap := s₂.heap.push { cls := .type "list", dict := none, data := .seq ([] : List Value).toArray } } :=
    I2.laid (t' := s₂.toks) (fun b u e => Heap.get?_push_of_some _ e) (Nat.le_refl _) (show ObjOk X.prog X.w _ _ _ (.lst []) from ⟨Nat.zero_le _, [], 0, .nil, Heap.get?_push_size _ rfl⟩)
  generalize hs3 : ({ s₂ with heap := s₂.heap.push { cls := .type "list", dict := none, data := .seq ([] : List Value).toArray } } : Shared) = s₃ at I3 ⊢
  obtain ⟨h₁, hh₁⟩ : ∃ h₁, h₁ = pushCells (s₃.heap.push { cls := .type "dict", data := .dict #[] }) scope.names := ⟨_, rfl⟩
  rw [← hh₁]
  have old : ∀ b o, s₃.heap.get? b = some o → h₁.get? b = some o := fun b o e => by rw [hh₁]; exact pushCells_keeps _ _ b o (Heap.get?_push_of_some _ e)
  have hns₁ : h₁.Ns s₃.heap.objs.size (fun _ => none) := by rw [hh₁]; exact (Heap.Ns.new s₃.heap (.type "dict")).keeps (pushCells_keeps _ _)
  have old2 : ∀ b o, s₂.heap.get? b = some o → s₃.heap.get? b = some o := fun b o e => by rw [← hs3]; exact Heap.get?_push_of_some _ e
  have sz : s₃.heap.objs.size = s₂.heap.objs.size + 1 := by rw [← hs3]; exact Heap.size_push ..
  have hlt2 : ∀ b ∈ fp, b < s₂.heap.objs.size := fun b hb => by
    obtain ⟨o, e, _⟩ := T.obj 0 _ st2 b hb
    exact Heap.lt_size e
  have hlt : ∀ b ∈ fp, b < s₃.heap.objs.size := fun b hb => by rw [sz]; exact Nat.lt_succ_of_lt (hlt2 b hb)
  have f3 : ∀ b ∈ fp, FpOk X pins (upd H2 s₂.heap.objs.size (.lst [])) b := fun b hb => ⟨by rw [upd_ne (Nat.ne_of_lt (hlt2 b hb))]; exact (f2 b hb).1, (f2 b hb).2⟩
  have I4 : Inv (X.blkC N scope s₃.heap.objs.size s₃ (upd H2 s₂.heap.objs.size (.lst [])) fp) [] (sgB ix σ) (upd H2 s₂.heap.objs.size (.lst [])) { s₃ with heap := h₁, toks := s₃.toks } :=
    inv_blkC I3 S f3 hlt ⟨_, hns₁⟩ hh₁
  have st4 : tn 0 h₁ := T.keep _ _ _ st2 fun b hb o e => old b o (old2 b o e)
  have fixed : ∀ b ∈ fp, b ≠ s₃.heap.objs.size ∧ b ∉ frs X.stack ∧ ∀ x c, (bcells X scope s₃.heap.objs.size).lookup x = some c → c ≠ b := fun b hb =>
    ⟨Nat.ne_of_lt (hlt b hb), I4.ok.exfs b hb, fun x c h => (I4.ok.exf b hb).2 x c h⟩
  have stat : ∀ {H' : Hp}, (∀ b ∈ fp, H' b = none) → ∀ b ∈ fp, FpOk (X.blkC N scope s₃.heap.objs.size s₃ (upd H2 s₂.heap.objs.size (.lst [])) fp) [] H' b := fun hn b hb =>
    ⟨hn b hb, (fixed b hb).1, (fixed b hb).2.1, .inl hb, (fixed b hb).2.2, fun p hp => absurd (show p ∈ ([] : List (Addr × Obj)) from hp) (by simp)⟩
  have loop : codeAny (model X.prog X.w) X.A (.compLoop (.ListComp elt [⟨tg, iter, ifs, 0⟩] scope pos) 0 (.ref it) (.ref s₂.heap.objs.size) (compEnvC scope (bcells X scope s₃.heap.objs.size) s₃.heap.objs.size X.env))
      (compPost (model X.prog X.w) X.A X.xe use Qv (.ref s₂.heap.objs.size) s₃.heap.objs.size) { s₃ with heap := h₁, toks := s₃.toks } := by
    refine compLoop_own (fun n s' => ∃ i ys σ' H', Inv (X.blkC N scope s₃.heap.objs.size s₃ (upd H2 s₂.heap.objs.size (.lst [])) fp) [] σ' H' s' ∧ tn i s'.heap ∧ (∀ b ∈ fp, H' b = none) ∧ W i n ys σ' H') ?_ m0 ⟨0, [], sgB ix σ, _, I4, st4, fun b hb => (f3 b hb).1, w0⟩
    rintro n s5 ⟨i, ys, σ5, H5, I5, st5, fr5, w5⟩
    rcases turn i n ys σ5 H5 w5 with ⟨stop, qn⟩ | ⟨go, Nn, hN, step⟩
    · refine thn (T.done (X.blkC N scope s₃.heap.objs.size s₃ (upd H2 s₂.heap.objs.size (.lst [])) fp) rfl rfl rfl hc i [] s5 σ5 H5 _ I5 (stat fr5) st5 stop) fun r s6 hh => ?_
      obtain ⟨hr, I6⟩ := hh
      subst hr
      exact fin I3 f3 I6 qn
    · refine thn (T.item (X.blkC N scope s₃.heap.objs.size s₃ (upd H2 s₂.heap.objs.size (.lst [])) fp) rfl rfl rfl hc i [] s5 σ5 H5 _ I5 (stat fr5) st5 go) fun r s6 hh => ?_
      obtain ⟨u, hr, h6⟩ := hh
      subst hr
      refine thn h6 fun _ s7 hh => ?_
      obtain ⟨x, H7, I7, r7, y7, st7, fr7⟩ := hh
      have I7' := I7.pinned (stat fr7) (T.obj _ _ st7)
      have again : ∀ {ys' : List V} {σ8 : St} {H8 : Hp} {s8 : Shared}, Inv (X.blkC N scope s₃.heap.objs.size s₃ (upd H2 s₂.heap.objs.size (.lst [])) fp) ([] ++ pinsAt fp s7.heap) σ8 H8 s8 → Nn ys' σ8 H8 →
          ∃ m, m < n ∧ ∃ i ys σ' H', Inv (X.blkC N scope s₃.heap.objs.size s₃ (upd H2 s₂.heap.objs.size (.lst [])) fp) [] σ' H' s8 ∧ tn i s8.heap ∧ (∀ b ∈ fp, H' b = none) ∧ W i m ys σ' H' := fun {ys' σ8 H8 s8} I8 n8 => by
        obtain ⟨m', hm, w8⟩ := hN ys' σ8 H8 n8
        refine ⟨m', hm, i + 1, ys', σ8, H8, I8.unpinned, T.keep _ _ _ st7 fun b hb o e => (I8.pin (b, o) (List.mem_append_right _ (List.mem_append_right _ (mem_pinsAt hb e)))).1, fun b hb => ?_, w8⟩
        obtain ⟨o, e, d⟩ := T.obj _ _ st7 b hb
        exact (I8.pin (b, o) (List.mem_append_right _ (List.mem_append_right _ (mem_pinsAt hb e)))).2.1
      refine thn (hg _ _ _ _ _ s7 σ5 H7 x u _ I7' r7 (step x H7 y7)) fun _ s8 hh => ?_
      obtain ⟨σ8, H8, I8, q8⟩ := hh
      refine thn (ht _ _ _ _ _ s8 σ8 H8 _ I8 q8) fun b s9 hh => ?_
      obtain ⟨H9, I9, q9⟩ := hh
      cases b with
      | false => exact again I9 q9
      | true =>
        refine thn (he _ _ _ _ _ s9 σ8 H9 _ I9 q9) fun v s10 hh => ?_
        obtain ⟨y, H10, I10, r10, hD, hz, n10⟩ := hh
        refine thn (mt_append _ s10 σ8 H10 (.ref s₂.heap.objs.size) [y] (.ref s₂.heap.objs.size) [v] (fun _ H11 => Nn (ys ++ [y]) σ8 H11) I10 rfl (.cons r10 .nil) ⟨_, ys, y, rfl, rfl, hD, hz, n10⟩) fun _ s11 hh => ?_
        obtain ⟨_, H11, I11, _, n11⟩ := hh
        exact again I11 n11
  refine codeAny_compStart_list loop ?_
  exact T.self X.A 0 _ _ _ st4 loop
/-- [elt for target in iter if test] as a value; osc, NX: the scope and the names of the def around it -/
theorem pe_lcC {X : Cx} (osc : Scope) (NX : List Str) {elt tg iter : Expr} {ifs : List Expr} {scope : Scope} {pos : Pos} {N : List Str} {ix : List (Option Nat)} {wi : TI} {g : TG} {tt : TT} {te : TE} (hc : X.calm = true) (S : CompScopeC osc NX N ix scope) (hi : PI X tg iter wi)
    (hg : ∀ C s₀ H₀ ex, PG (X.blkC N scope C s₀ H₀ ex) tg g) (ht : ∀ C s₀ H₀ ex, PTs (X.blkC N scope C s₀ H₀ ex) ifs tt) (he : ∀ C s₀ H₀ ex, PE (X.blkC N scope C s₀ H₀ ex) elt te)
    (ho : X.env.scope = osc := by rfl) (hN : X.N = NX := by rfl) (hs : ∀ x, foldedSetIterable iter X.env x = pure x := by intro _; rfl) : PE X (.ListComp elt [⟨tg, iter, ifs, 0⟩] scope pos) (tLc ix wi g tt te) := by
  intro pins s σ H Q I h
  subst ho hN
  rw [eval_ListComp]
  refine lc_genC hc S hi hg ht he hs I h none (EP X pins σ Q) fun {s₃ s6 H3 H6 σ6 fp D} I3 f3 I6 qn => ?_
  obtain ⟨m, hn, _⟩ := I6.loc
  exact ⟨m, hn, fun h' hs' => ⟨.ref D, H6, inv_unblkC I3 f3 I6 hs', rfl, qn⟩⟩
/-- name = [elt for target in iter if test]: the name is stored ahead of the block's end -/
theorem ps_lcC {X : Cx} (osc : Scope) (NX : List Str) {i : Nat} {y : Str} {py spos : Pos} {elt tg iter : Expr} {ifs : List Expr} {scope : Scope} {pos : Pos} {N : List Str} {ix : List (Option Nat)} {wi : TI} {g : TG} {tt : TT} {te : TE} (hc : X.calm = true) (hnd : X.N.Nodup) (hy : X.N[i]? = some y) (hl : Loc X.env.scope y)
    (S : CompScopeC osc NX N ix scope) (hi : PI X tg iter wi)
    (hg : ∀ C s₀ H₀ ex, PG (X.blkC N scope C s₀ H₀ ex) tg g) (ht : ∀ C s₀ H₀ ex, PTs (X.blkC N scope C s₀ H₀ ex) ifs tt) (he : ∀ C s₀ H₀ ex, PE (X.blkC N scope C s₀ H₀ ex) elt te)
    (ho : X.env.scope = osc := by rfl) (hN : X.N = NX := by rfl) (hs : ∀ x, foldedSetIterable iter X.env x = pure x := by intro _; rfl)
    (hsw : swapsWith (.ListComp elt [⟨tg, iter, ifs, 0⟩] scope pos) (some (.Name y py)) spos.line X.env = pure true := by rfl)
    (hf : X.fn y = true ∨ X.env.scope.names.lookup y = some .local := by first | exact .inl rfl | exact .inr rfl | assumption) :
    PS X (.Assign [.Name y py] (.ListComp elt [⟨tg, iter, ifs, 0⟩] scope pos) spos) (tAsg (tLc ix wi g tt te) (gName i)) := by
  intro pins s σ H D I h
  subst ho hN
  rw [exec_Assign_Name_used
    _ _ _ _ hsw]
  refine wpAny_bind
    (wpAny_standAt (wpAny_bind ?_))
  show wpAny _ X.A (do let _ ← comprehension (.ListComp elt [⟨tg, iter, ifs, 0⟩] scope pos) scope X.env _ (newList []) false (eval iter X.env) (some (assign (.Name y py) X.env))) _ _ s
  refine wpAny_bind (wpAny_mono (lc_genC hc S hi hg ht he hs I h (some (assign (.Name y py) X.env)) (fun _ s' => SP X pins D .next s') fun {s₃ s6 H3 H6 σ6 fp Dn} I3 f3 I6 qn => ?_) (fun _ s' hq => wpAny_pure (wpAny_pure hq)) fun _ _ e => e)
  obtain ⟨m, hn, _⟩ := I6.loc
  have I7 : Inv X pins σ H6 s6 := inv_unblkC I3 f3 I6 (Heap.SameBut.refl ..)
  show wpAny _ X.A (assign (.Name y py) X.env (.ref Dn)) _ _ s6
  refine wpAny_assign_Name (store_ok2 I7 hnd hy hl (show RelV (.ref Dn) (.ref Dn) from rfl) (fun s8 I8 ch => ?_) hf)
  obtain ⟨a, hsb, ha⟩ := ch
  have lt3 : ∀ x c, X.env.cells.lookup x = some c → c ≠ s₃.heap.objs.size := fun x c e z => by
    obtain ⟨v, o, ho, _⟩ := I3.cell x c e
    exact absurd (Heap.lt_size ho) (by rw [z]; exact Nat.lt_irrefl _)
  have nL : X.env.locals ≠ s₃.heap.objs.size := Nat.ne_of_lt I3.lt
  have nCa : s₃.heap.objs.size ≠ a := by
    rcases ha with e | e
    · rw [e]; exact nL.symm
    · exact (lt3 y a e).symm
  have nC : H6 s₃.heap.objs.size = none := I6.free
  refine ⟨m, hn.sameBut hsb nCa, fun h' hs' => ⟨_, H6, I8.turned (t' := s8.toks) (it := s₃.heap.objs.size) (fun b o hb e => (hs'.2 b hb).trans e) nC nL.symm (.inr I3.sz) lt3 (fun p hp z => ?_), qn⟩⟩
  have e := (I3.pin p hp).1
  rw [z] at e
  exact Nat.lt_irrefl _ (Heap.lt_size e)
/-! rules read within a block, K told by name -/
theorem pil {X : Cx} (K : PySem.W.Frag) {tg l : Expr} {tl : TE} (hl : PE X l tl) (h : X.K = K := by rfl) : PI X tg l (iList K tl) := by
  subst h
  exact pi_list hl
theorem callAll {X : Cx} (K : PySem.W.Frag) (hc : X.calm = true) (h : X.K = K := by rfl) : CallR X (.builtin "all") (fun xs H Q => ∃ (p : Addr) (bs : List Bool), xs = [.ref p] ∧ SqL K H p (bs.map V.bl) ∧ Q (.bl (bs.all id)) H) := by
  subst h
  exact call_all hc
end L2

namespace K37
open PySem L2
def top (i : Nat) : Stmt := PySem.Challenge.pw_sayswho_k37_whole_reasons_of_what_was_le.main.body.getD i (.Pass ⟨0, 0, 0, 0⟩)
abbrev sPWithNumber : Stmt := top 6
abbrev sPRests : Stmt := top 7
abbrev sPEithers : Stmt := top 8
abbrev sPRisingPairs : Stmt := top 9
abbrev sPUnlikePairs : Stmt := top 10
abbrev sPWithPair : Stmt := top 11
abbrev sPWithPairAndNumber : Stmt := top 12
abbrev sPGaps : Stmt := top 13
abbrev sPWithThree : Stmt := top 14
abbrev sPSayings : Stmt := top 15
abbrev sPIsSoOfOne : Stmt := top 16
abbrev sPIsSoOfTwo : Stmt := top 17
abbrev sPIsSo : Stmt := top 18
abbrev sPLengthened : Stmt := top 21
abbrev sPAllValues : Stmt := top 22
abbrev sPAreSo : Stmt := top 23
abbrev sPFollows : Stmt := top 24
abbrev sPBitsOf : Stmt := top 25
abbrev sPSoBits : Stmt := top 26
abbrev sPBitsAhead : Stmt := top 27
abbrev sPThinned : Stmt := top 28
abbrev sPFirstPlaces : Stmt := top 29
abbrev sPFirstEnough : Stmt := top 30
abbrev sPReason : Stmt := top 31
abbrev sNext : Stmt := top 33
abbrev sCells : Stmt := top 34
abbrev sBoxes : Stmt := top 35
abbrev sValues : Stmt := top 36
abbrev sSo : Stmt := top 37
abbrev sAll : Stmt := top 38
abbrev sAlike : Stmt := top 39
abbrev sHeld : Stmt := top 40
abbrev sWithin : Stmt := top 41
abbrev sBits : Stmt := top 42
abbrev sEnough : Stmt := top 43
abbrev sGoodReason : Stmt := top 44
abbrev sCase : Stmt := top 45
abbrev sAlone : Stmt := top 46
abbrev sLaw : Stmt := top 47
/-- the built-ins' names are free -/
structure Blt (mg : Str → Option Value) : Prop where
  all : mg "all" = none
  bool : mg "bool" = none
  enumerate : mg "enumerate" = none
  int : mg "int" = none
  isinstance : mg "isinstance" = none
  len : mg "len" = none
  list : mg "list" = none
  min : mg "min" = none
  range : mg "range" = none
  reversed : mg "reversed" = none
  str : mg "str" = none
  tuple : mg "tuple" = none
theorem bt_all : bootBuiltins "all" = some (.builtin "all") := by decide +kernel
theorem bt_bool : bootBuiltins "bool" = some (.type "bool") := by decide +kernel
theorem bt_int : bootBuiltins "int" = some (.type "int") := by decide +kernel
theorem bt_isinstance : bootBuiltins "isinstance" = some (.builtin "isinstance") := by decide +kernel
theorem bt_len : bootBuiltins "len" = some (.builtin "len") := by decide +kernel
theorem bt_list : bootBuiltins "list" = some (.type "list") := by decide +kernel
theorem bt_min : bootBuiltins "min" = some (.builtin "min") := by decide +kernel
theorem bt_str : bootBuiltins "str" = some (.type "str") := by decide +kernel
theorem bt_tuple : bootBuiltins "tuple" = some (.type "tuple") := by decide +kernel
structure Glb (K : PySem.W.Frag) (mg : Str → Option Value) : Prop where
  LEAST_DIVISOR : GI mg "LEAST_DIVISOR" 2
  MOST_DIVISOR : GI mg "MOST_DIVISOR" 6
  WIDEST_GAP : GI mg "WIDEST_GAP" 20
  WIDEST_SUM : GI mg "WIDEST_SUM" 40
  OF_ONE_BOX : GT K mg "OF_ONE_BOX" [.str "is", .str "from", .str "to", .str "rest", .str "either", .str "never"]
  MOST_REASONS : GI mg "MOST_REASONS" 3

local macro_rules | `(tactic| wtm_at "h") => `(tactic| first | assumption | exact upd_same)
local macro_rules | `(tactic| wtm_at "c") => `(tactic| first | exact p1018 | exact cmr (by decide) (by decide) | exact cm (by decide) (by decide) | exact cm (by omega) (by omega) | exact ⟨by decide, by decide⟩ | (dsimp only; omega) | omega | assumption)
local macro_rules | `(tactic| wtm_at "s") => `(tactic| first | refine ⟨_, rfl, ?_⟩ | refine ⟨_, _, rfl, rfl, ?_⟩ | refine ⟨rfl, ?_⟩ | refine ⟨_, _, _, _, rfl, rfl, SqT.of (by wtm_at "h"), rfl, ?_⟩ | refine ⟨_, _, _, _, rfl, rfl, SqL.of (by wtm_at "h"), rfl, ?_⟩ | refine And.intro (by wtm_at "c") ?_)
local macro_rules | `(tactic| wtm_at "ss") => `(tactic| repeat wtm_at "s")
/-! ### what is drawn -/
def PotAt (H : Hp) (r : Addr) : Prop := ∃ c k : Int, H r = some (.lst [.int c, .int k])
theorem PotAt.mono {H H' : Hp} {r : Addr} (h : PotAt H r) (e : Same H H') : PotAt H' r := by
  obtain ⟨a, b, h1⟩ := h
  exact ⟨a, b, e _ _ h1⟩
theorem PotAt.new {H : Hp} {r p : Addr} (h : PotAt H r) (hp : H p = none) (o : HO) : PotAt (upd H p o) r := h.mono (Same.new hp o)
theorem PotAt.up {H : Hp} {r p : Addr} {o : HO} (h : PotAt H r) (hp : r ≠ p) : PotAt (upd H p o) r := by
  obtain ⟨a, b, h1⟩ := h
  exact ⟨a, b, by rw [upd_ne hp]; exact h1⟩
theorem PotAt.ne {H : Hp} {r p : Addr} {o : HO} (h : PotAt H r) (hp : H p = some o) (ho : ∀ a b : Int, o ≠ .lst [.int a, .int b]) : p ≠ r := fun z => by
  obtain ⟨a, b, h1⟩ := h
  rw [z, h1] at hp
  cases hp
  exact ho a b rfl
theorem PotAt.ne_tup {H : Hp} {r p : Addr} {xs : List V} (h : PotAt H r) (hp : H p = some (.tup xs)) : p ≠ r := h.ne hp fun _ _ z => nomatch z
theorem PotAt.nn {H : Hp} {r p : Addr} (h : PotAt H r) (hp : H p = none) : p ≠ r := fun z => by
  obtain ⟨a, b, h1⟩ := h
  rw [z, h1] at hp
  cases hp
def spNext : Sp := fun vs H Q _ => ∃ (r : Addr) (many : Int), vs = [.ref r, .int many] ∧ PotAt H r ∧ Few many ∧ ∀ (n : Int) (H' : Hp), 0 ≤ n → n < many → But r H H' → PotAt H' r → Q (.int n) H'
def spCells (K : PySem.W.Frag) : Sp := fun vs H Q _ => ∃ (a : Addr) (ns : List Int), vs = [.ref a] ∧ SqL K H a (ns.map V.int) ∧ ns.length ≤ 63 ∧ ∀ (p : Addr) (ms : List Int), H p = none → 0 < ms.length → ms.length ≤ 63 → Q (.ref p) (upd H p (.lst (ms.map V.int)))
section
variable {P : Program} {w : World} {K : PySem.W.Frag} {mg : Str → Option Value} {base : Heap}
theorem scNext : FnScope ["pot", "many", "cell", "stir"] ["pot", "many"] (defScope sNext) := ⟨rfl, rfl, rfl, by decide +kernel, rfl, by decide +kernel, by decide +kernel⟩
theorem ok_next (h : Has K mg "_law_next" sNext ["pot", "many"]) : Cal P w K mg base 1 "_law_next" ["pot", "many"] spNext := by
  refine h.cal scNext (fun vs H Q E h => ?_) (fun f cdv A outer s H vs Q E hr h => ?_)
  · obtain ⟨r, m, rfl, _⟩ := h
    rfl
  obtain ⟨r, many, rfl, ⟨c, k, hR⟩, hm, q⟩ := h
  refine ⟨_, (pss_cons (ps_asg (pe_op op_add (pe_ix ix_list (pv 0) pe_int (fun _ _ => rfl)) pe_int) (pg_sub (pv 0) pe_int set_list))
    (pss_cons (ps_set (i := 2) scNext.nd rfl (Or.inl rfl) (pe_ix ix_list (pv 0) pe_int (fun _ _ => rfl)))
    (pss_cons (ps_if (pt_cmpR op_ge (pv 2) (pe_op op_pow pe_int pe_int) (nomark _)) (pss_cons (ps_asg (pe_op op_fdivB (pv 2) (pv 1)) (pg_sub (pv 0) pe_int set_list))
    (pss_one (ps_ret (pe_op op_mod (pv 2) (pv 1))))) pss_nil)
    (pss_cons (ps_set (i := 3) scNext.nd rfl (Or.inl rfl) (pe_op op_mod (pe_op op_add (pe_op op_add (pe_op op_mul (pv 2) pe_int) (pe_op op_mul (pe_ix ix_list (pv 0) pe_int (fun _ _ => rfl)) pe_int)) pe_int) pe_int))
    (pss_cons (ps_set (i := 3) scNext.nd rfl (Or.inl rfl) (pe_op op_mod (pe_op op_mul (pv 3) (pv 3)) pe_int))
    (pss_one (ps_ret (pe_op op_mod (pe_op op_fdiv (pe_op op_mod (pe_op op_add (pe_op op_mul (pv 3) pe_int) (pe_op op_mul (pe_ix ix_list (pv 0) pe_int (fun _ _ => rfl)) pe_int)) pe_int) pe_int) (pv 1))))))))), ?_⟩
  wtm_at "ss"
  refine ⟨r, _, _, _, rfl, rfl, hR, rfl, ?_⟩
  have hR2 : (upd H r (.lst [.int c, .int (k + 1)])) r = some (.lst [.int c, .int (k + 1)]) := upd_same
  refine ⟨_, rfl, r, _, _, _, rfl, rfl, SqL.of hR2, rfl, ?_⟩
  wtm_at "ss"
  refine ite_d (fun _ => ?_) (fun _ => ?_)
  · refine ⟨_, rfl, _, rfl, _, _, rfl, rfl, hm, ?_⟩
    refine ⟨_, rfl, r, _, _, _, rfl, rfl, hR2, rfl, ?_⟩
    refine ⟨_, rfl, _, rfl, _, _, rfl, rfl, hm.1, ?_⟩
    exact q _ _ (Int.emod_nonneg _ (by have := hm.1; omega)) (Int.emod_lt_of_pos _ hm.1) (by rw [upd_upd]; exact But.upd _) ⟨c / many, k + 1, upd_same⟩
  · wtm_at "ss"
    refine ⟨hm.1, ?_⟩
    exact q _ _ (Int.emod_nonneg _ (by have := hm.1; omega)) (Int.emod_lt_of_pos _ hm.1) (But.upd _) ⟨c, k + 1, hR2⟩
theorem scCells : FnScope ["script"] ["script"] (defScope sCells) := ⟨rfl, rfl, rfl, by decide +kernel, rfl, by decide +kernel, by decide +kernel⟩
theorem ok_cells (h : Has K mg "_law_cells" sCells ["script"]) (B : Blt mg) : Cal P w K mg base 1 "_law_cells" ["script"] (spCells K) := by
  refine h.cal scCells (fun vs H Q E h => ?_) (fun f cdv A outer s H vs Q E hr h => ?_)
  · obtain ⟨a, ns, rfl, _⟩ := h
    rfl
  obtain ⟨a, ns, rfl, hS, h63, q⟩ := h
  refine ⟨_, (pss_cons (ps_if (pt_cmpR op_eq (pe_callB call_len_seq rfl B.len bt_len (pa_cons (pv 0) pa_nil)) pe_int (nomark _)) (pss_one (ps_ret (pe_lst (pa_cons pe_int pa_nil)))) pss_nil)
    (pss_one (ps_ret (pe_slice sl_list (pv 0) po_none (po_some pe_int))))), ?_⟩
  refine ⟨_, rfl, a, _, rfl, .inl hS, rfl, _, rfl, ?_⟩
  refine ite_d (fun _ => ?_) (fun c => ?_)
  · exact ⟨(by show 1 ≤ sizeLine; decide), fun p hp => q p [0] hp (by decide) (by decide)⟩
  · refine ⟨_, rfl, _, rfl, a, _, rfl, hS, fun p hp => ?_⟩
    have hne : ns.length ≠ 0 := fun z => c (by rw [List.length_map, z]; rfl)
    have e1 : HT.sIx (ns.map V.int).length 0 (none : Option Int) = 0 := rfl
    have e2 : HT.sIx (ns.map V.int).length (ns.map V.int).length (some 63) = (ns.map V.int).length := by
      rw [List.length_map]
      show (if (63 : Int) < 0 then ((63 : Int) + (ns.length : Int)).toNat else Nat.min (63 : Int).toNat ns.length) = ns.length
      rw [if_neg (by decide)]
      exact Nat.min_eq_right h63
    have e : cutV (ns.map V.int) none (some 63) = ns.map V.int := by
      unfold cutV
      rw [e1, e2, List.drop_zero]
      exact List.take_of_length_le (by omega)
    rw [e]
    exact q p ns hp (by omega) h63
end

/-! ### boxes -/
structure Box where
  nm : Str
  lo : Int
  hi : Int
  fst : Int
def Box.tup (b : Box) : List V := [.str b.nm, .int b.lo, .int b.hi, .int b.fst]
structure Box.Ok (b : Box) : Prop where
  fl : b.lo ≤ b.fst
  fh : b.fst ≤ b.hi
  lo : -99 ≤ b.lo
  hi : b.hi ≤ 99
  w : b.hi - b.lo < 20
def Box.size (b : Box) : Nat := (b.hi - b.lo + 1).toNat
def vol : List Box → Nat
  | [] => 1
  | b :: r => b.size * vol r
theorem vol_app (ys : List Box) : ∀ xs : List Box, vol (xs ++ ys) = vol xs * vol ys
  | [] => by simp [vol]
  | c :: r => by
    show c.size * vol (r ++ ys) = c.size * vol r * vol ys
    rw [vol_app ys r, Nat.mul_assoc]
theorem vol_rev : ∀ xs : List Box, vol xs.reverse = vol xs
  | [] => rfl
  | c :: r => by
    rw [List.reverse_cons, vol_app, vol_rev r]
    show vol r * (c.size * 1) = c.size * vol r
    rw [Nat.mul_one, Nat.mul_comm]
def BoxAt (H : Hp) (v : V) (b : Box) : Prop := ∃ p, v = .ref p ∧ H p = some (.tup b.tup)
structure BoxesAt (H : Hp) (pb : Addr) (us : List V) (bs : List Box) : Prop where
  at_ : H pb = some (.lst us)
  each : All2 (BoxAt H) us bs
theorem BoxAt.same {H H' : Hp} {v : V} {b : Box} (h : BoxAt H v b) (s : Same H H') : BoxAt H' v b := by
  obtain ⟨p, rfl, hp⟩ := h
  exact ⟨p, rfl, s _ _ hp⟩
theorem BoxesAt.same {H H' : Hp} {pb : Addr} {us : List V} {bs : List Box} (h : BoxesAt H pb us bs) (s : Same H H') : BoxesAt H' pb us bs := ⟨s _ _ h.at_, h.each.mono fun _ _ z => z.same s⟩
theorem BoxAt.but {H H' : Hp} {r : Addr} {v : V} {b : Box} (h : BoxAt H v b) (P : PotAt H r) (s : But r H H') : BoxAt H' v b := by
  obtain ⟨p, rfl, hp⟩ := h
  exact ⟨p, rfl, s _ _ (P.ne_tup hp) hp⟩
theorem BoxesAt.but {H H' : Hp} {r pb : Addr} {us : List V} {bs : List Box} (h : BoxesAt H pb us bs) (P : PotAt H r) (n : pb ≠ r) (s : But r H H') : BoxesAt H' pb us bs := ⟨s _ _ n h.at_, h.each.mono fun _ _ z => z.but P s⟩
theorem All2.rev {α β : Type} {R : α → β → Prop} {xs : List α} {ys : List β} (h : All2 R xs ys) : All2 R xs.reverse ys.reverse := by
  have hl := h.1
  refine ⟨by simp [hl], fun i x y e1 e2 => ?_⟩
  have h1 : i < xs.length := by have := (List.getElem?_eq_some_iff.mp e1).1; rwa [List.length_reverse] at this
  rw [List.getElem?_reverse h1] at e1
  rw [List.getElem?_reverse (by omega)] at e2
  rw [← hl] at e2
  exact h.2 _ x y e1 e2
/-- what the boxes that were drawn are -/
structure Drawn (zs : List Str) (most : Int) (bs : List Box) : Prop where
  l1 : 1 ≤ bs.length
  l4 : bs.length ≤ 4
  ok : ∀ b ∈ bs, b.Ok
  vol : (vol bs : Int) ≤ most
  nms : bs.map Box.nm = zs.take bs.length ∨ bs.map Box.nm = (zs.take bs.length).reverse
def spBoxes : Sp := fun vs H Q _ => ∃ (r pn : Addr) (most : Int) (zs : List Str), vs = [.ref r, .int most, .ref pn] ∧ PotAt H r ∧ 1 ≤ most ∧ most ≤ 400 ∧ H pn = some (.lst (zs.map V.str)) ∧ pn ≠ r ∧ 4 ≤ zs.length ∧
  ∀ (pb : Addr) (us : List V) (bs : List Box) (H' : Hp), H pb = none → pb ≠ r → But r H H' → PotAt H' r → BoxesAt H' pb us bs → Drawn zs most bs → Q (.ref pb) H'
section
variable {P : Program} {w : World} {K : PySem.W.Frag} {mg : Str → Option Value} {base : Heap}
theorem vol_ge1 : ∀ {bs : List Box}, (∀ b ∈ bs, b.Ok) → 1 ≤ vol bs
  | [], _ => Nat.le_refl 1
  | b :: t, h => by
    have hb := h b List.mem_cons_self
    have h1 : 1 ≤ b.size := by unfold Box.size; have := hb.fl; have := hb.fh; omega
    exact Nat.mul_le_mul h1 (vol_ge1 fun c hc => h c (List.mem_cons_of_mem _ hc))
theorem mo_small {bs : List Box} {mo most : Int} (h : ∀ b ∈ bs, b.Ok) (h1 : 1 ≤ mo) (h2 : (vol bs : Int) * mo ≤ most) (h3 : most ≤ 400) : mo < 1073741824 := by
  have hv := vol_ge1 h
  have : (1 : Int) * mo ≤ (vol bs : Int) * mo := Int.mul_le_mul_of_nonneg_right (by omega) (by omega)
  omega
theorem box_ok {z : Str} {low wide fs : Int} (f0 : 0 ≤ fs) (f1 : fs < wide) (l0 : -99 ≤ low) (l1 : low + wide - 1 ≤ 99) (w : wide ≤ 20) : Box.Ok ⟨z, low, low + wide - 1, low + fs⟩ :=
  ⟨(show low ≤ low + fs by omega), (show low + fs ≤ low + wide - 1 by omega), l0, l1, (show low + wide - 1 - low < 20 by omega)⟩
theorem min_ok {mo cap : Int} (h1 : 1 ≤ mo) (c0 : 0 < cap) (c1 : cap ≤ 20) : ∃ mn : Int, (if mo < cap then mo else cap) = mn ∧ 1 ≤ mn ∧ mn ≤ 20 ∧ mn ≤ mo := by
  by_cases h : mo < cap
  · exact ⟨mo, if_pos h, h1, Int.le_of_lt (Int.lt_of_lt_of_le h c1), Int.le_refl _⟩
  · exact ⟨cap, if_neg h, c0, c1, Int.not_lt.mp h⟩
theorem at3c {z : Int} (h0 : 0 ≤ z) (h1 : z < 3) : ∃ k : Int, atI ([.int 20, .int 4, .int 3] : List V) z = some (.int k) ∧ 0 < k ∧ k ≤ 20 := by
  have h : z = 0 ∨ z = 1 ∨ z = 2 := by omega
  rcases h with rfl | rfl | rfl
  · exact ⟨20, rfl, by decide, by decide⟩
  · exact ⟨4, rfl, by decide, by decide⟩
  · exact ⟨3, rfl, by decide, by decide⟩
theorem scBoxes : FnScope ["pot", "most", "names", "many", "cap", "near", "boxes", "k", "wide", "low"] ["pot", "most", "names"] (defScope sBoxes) := ⟨rfl, rfl, rfl, by decide +kernel, rfl, by decide +kernel, by decide +kernel⟩
theorem ok_boxes (h : Has K mg "_law_boxes" sBoxes ["pot", "most", "names"]) (B : Blt mg) (cN : Cal P w K mg base 1 "_law_next" ["pot", "many"] spNext) : Cal P w K mg base 2 "_law_boxes" ["pot", "most", "names"] spBoxes := by
  refine h.cal scBoxes (fun vs H Q E h => ?_) (fun f cdv A outer s H vs Q E hr h => ?_)
  · obtain ⟨r, pn, m, zs, rfl, _⟩ := h
    rfl
  obtain ⟨r, pn, most, zs, rfl, hR, m1, m4, hn, nnr, z4, q⟩ := h
  refine ⟨_, (pss_cons (ps_set (i := 3) scBoxes.nd rfl (Or.inl rfl) (pe_op op_add pe_int (pe_cal cN hr rfl (pa_cons (pv 0) (pa_cons pe_int pa_nil)))))
    (pss_cons (ps_set (i := 4) scBoxes.nd rfl (Or.inl rfl) (pe_ix ix_list (pe_lst (pa_cons pe_int (pa_cons pe_int (pa_cons pe_int pa_nil)))) (pe_cal cN hr rfl (pa_cons (pv 0) (pa_cons pe_int pa_nil))) (fun _ _ => rfl)))
    (pss_cons (ps_set (i := 5) scBoxes.nd rfl (Or.inl rfl) (pe_cal cN hr rfl (pa_cons (pv 0) (pa_cons pe_int pa_nil))))
    (pss_cons (ps_set (i := 6) scBoxes.nd rfl (Or.inl rfl) (pe_lst pa_nil))
    (pss_cons (ps_for PassesOwn.never rfl (pi_range1 rfl B.range (pa_cons (pv 3) pa_nil)) (pg_name (i := 7) scBoxes.nd rfl (Or.inl rfl)) (pss_cons (ps_set (i := 8) scBoxes.nd rfl (Or.inl rfl) (pe_op op_add pe_int (pe_cal cN hr rfl (pa_cons (pv 0) (pa_cons (pe_callB (call_min2 rfl) rfl B.min bt_min (pa_cons (pv 4) (pa_cons (pv 1) pa_nil))) pa_nil)))))
    (pss_cons (ps_set (i := 1) scBoxes.nd rfl (Or.inl rfl) (pe_op op_fdiv (pv 1) (pv 8)))
    (pss_cons (ps_set (i := 9) scBoxes.nd rfl (Or.inl rfl) (pe_op op_sub (pe_cal cN hr rfl (pa_cons (pv 0) (pa_cons pe_int pa_nil))) pe_int))
    (pss_cons (ps_if (pt_cmpR op_eq (pv 5) pe_int (nomark _)) (pss_one (ps_set (i := 9) scBoxes.nd rfl (Or.inl rfl) (pe_op op_sub (pe_cal cN hr rfl (pa_cons (pv 0) (pa_cons (pe_op op_sub pe_int (pv 8)) pa_nil))) pe_int))) pss_nil)
    (pss_one (ps_expr (pe_bm PySem.F.plainAttrs_list PySem.F.slot_list_append PySem.F.type_list_append mt_append (pv 6) (pa_cons (pe_tup (pa_cons (pe_ix ix_list (pv 2) (pv 7) (fun _ _ => rfl)) (pa_cons (pv 9) (pa_cons (pe_op op_sub (pe_op op_add (pv 9) (pv 8)) pe_int) (pa_cons (pe_op op_add (pv 9) (pe_cal cN hr rfl (pa_cons (pv 0) (pa_cons (pv 8) pa_nil)))) pa_nil))))) pa_nil)))))))))
    (pss_cons (ps_if (pt_cmpR op_eq (pe_cal cN hr rfl (pa_cons (pv 0) (pa_cons pe_int pa_nil))) pe_int (nomark _)) (pss_one (ps_ret (pe_rev (pv 6) (pe_un un_neg pe_int)))) pss_nil)
    (pss_one (ps_ret (pv 6))))))))), ?_⟩
  wtm_at "ss"
  refine ⟨r, 4, rfl, hR, few_of (by decide) (by decide), fun m H1 m0 m1' b1 P1 => ?_⟩
  wtm_at "ss"
  refine ⟨(by show 3 ≤ sizeLine; decide), fun l hl => ?_⟩
  wtm_at "ss"
  have nlr : l ≠ r := P1.nn hl
  have P1' := P1.new hl (.lst [.int 20, .int 4, .int 3])
  have b1' := b1.trans (.new hl (.lst [.int 20, .int 4, .int 3]))
  have hl1 : upd H1 l (.lst [.int 20, .int 4, .int 3]) l = some (.lst [.int 20, .int 4, .int 3]) := upd_same
  generalize upd H1 l (.lst [.int 20, .int 4, .int 3]) = H1' at *
  refine ⟨r, 3, rfl, P1', few_of (by decide) (by decide), fun z H2 z0 z1 b2 P2 => ?_⟩
  obtain ⟨cap, hcap, c0, c1⟩ := at3c z0 z1
  refine ⟨l, _, _, _, rfl, rfl, SqL.of (b2 _ _ nlr hl1), hcap, ?_⟩
  wtm_at "ss"
  refine ⟨r, 4, rfl, P2, few_of (by decide) (by decide), fun near H3 _ _ b3 P3 => ?_⟩
  wtm_at "ss"
  refine ⟨(by show 0 ≤ sizeLine; decide), fun pb hpb => ?_⟩
  have npr : pb ≠ r := P3.nn hpb
  have b3' := b1'.trans (b2.trans b3)
  have hpbH : H pb = none := But.none b3' npr hpb
  wtm_at "ss"
  refine for_range (lo := 0) (n := (1 + m).toNat) (fun i σ H4 => ∃ (us : List V) (bs : List Box) (mo : Int) (c7 c8 c9 : Option V), σ = [some (.ref r), some (.int mo), some (.ref pn), some (.int (1 + m)), some (.int cap), some (.int near), some (.ref pb), c7, c8, c9] ∧
      us.length = i ∧ 1 ≤ mo ∧ (vol bs : Int) * mo ≤ most ∧ bs.map Box.nm = zs.take i ∧ (∀ b ∈ bs, b.Ok) ∧ BoxesAt H4 pb us bs ∧ But r H H4 ∧ PotAt H4 r)
    ⟨[], [], most, none, none, none, rfl, rfl, m1, (Int.le_of_eq (Int.one_mul most)), rfl, (fun b hb => nomatch hb), ⟨upd_same, All2.nil⟩, b3'.trans (.new hpb _), P3.new hpb _⟩ ?_ ?_
  · rintro i σ H4 hi ⟨us, bs, mo, c7, c8, c9, rfl, hus, mo1, hvol, hnm, hok, X4, b4, P4⟩
    have e0 : (0 + (i : Int)) = (i : Int) := by omega
    rw [e0]
    wtm_at "ss"
    refine ⟨_, _, rfl, ?_⟩
    obtain ⟨mn, hmn, mn1, mn2, mn3⟩ : ∃ mn : Int, (if mo < cap then mo else cap) = mn ∧ 1 ≤ mn ∧ mn ≤ 20 ∧ mn ≤ mo := min_ok mo1 c0 c1
    rw [hmn]
    refine ⟨r, mn, rfl, P4, few_of (by omega) (by omega), fun wd H5 wd0 wd1 b5 P5 => ?_⟩
    have X5 := X4.but P4 npr b5
    refine ⟨_, _, rfl, rfl, ?_⟩
    dsimp only
    generalize hw : 1 + wd = wide
    have hmo : mo < 1073741824 := mo_small hok mo1 hvol m4
    refine ⟨_, rfl, _, rfl, _, _, rfl, rfl, ⟨(show (0 : Int) < wide by omega), (show wide < 1073741824 by omega)⟩, ?_⟩
    wtm_at "ss"
    refine ⟨r, 9, rfl, P5, few_of (by decide) (by decide), fun lw H6 lw0 lw1 b6 P6 => ?_⟩
    have X6 := X5.but P5 npr b6
    have b46 := b4.trans (b5.trans b6)
    have hwp : 0 < wide := by omega
    have mo1' : 1 ≤ mo / wide := (Int.le_ediv_iff_mul_le hwp).mpr (by rw [Int.one_mul]; omega)
    refine ⟨_, _, rfl, rfl, gset (seq_cut (fun σ' H' => ∃ low : Int, σ' = [some (.ref r), some (.int (mo / wide)), some (.ref pn), some (.int (1 + m)), some (.int cap), some (.int near), some (.ref pb), some (.int i), some (.int wide), some (.int low)] ∧ -99 ≤ low ∧ low + wide - 1 ≤ 99 ∧ BoxesAt H' pb us bs ∧ But r H H' ∧ PotAt H' r) (fun R' hR' => ?_) ?_)⟩
    · wtm_at "ss"
      refine ite_d (fun _ => ?_) (fun _ => ?_)
      · wtm_at "ss"
        refine ⟨r, 200 - wide, rfl, P6, few_of (by omega) (by omega), fun l2 H7 l20 l21 b7 P7 => ?_⟩
        wtm_at "ss"
        exact hR' _ _ ⟨l2 - 99, rfl, by omega, by omega, X6.but P6 npr b7, b46.trans b7, P7⟩
      · exact hR' _ _ ⟨lw - 6, rfl, by omega, by omega, X6, b46, P6⟩
    rintro σ7 H7 ⟨low, rfl, lo1, lo2, X7, b7, P7⟩
    refine ⟨_, rfl, .inl ⟨rfl, _, SqL.of X7.at_⟩, ?_⟩
    have hi4 : i < zs.length := by omega
    refine ⟨_, rfl, _, rfl, pn, _, _, _, rfl, rfl, SqL.of (b7 _ _ nnr hn), atI_nat (j := i) (v := .str zs[i]) (by rw [List.getElem?_map, List.getElem?_eq_getElem hi4]; rfl), ?_⟩
    wtm_at "ss"
    refine ⟨r, wide, rfl, P7, few_of (by omega) (by omega), fun fs H8 fs0 fs1 b8 P8 => ?_⟩
    have X8 := X7.but P7 npr b8
    wtm_at "ss"
    refine ⟨(by show 4 ≤ sizeLine; decide), fun pt hpt => ?_⟩
    have s9 := Same.new hpt (.tup [.str zs[i], .int low, .int (low + wide - 1), .int (low + fs)])
    have X9 := X8.same s9
    refine ⟨pb, us, _, rfl, rfl, X9.at_, small1000 (by omega), ?_⟩
    have b9 := (b7.trans b8).trans (But.of s9)
    have P9 := P8.mono s9
    have t9 : (upd H8 pt (.tup [.str zs[i], .int low, .int (low + wide - 1), .int (low + fs)])) pt = some (.tup [.str zs[i], .int low, .int (low + wide - 1), .int (low + fs)]) := upd_same
    generalize (upd H8 pt (.tup [.str zs[i], .int low, .int (low + wide - 1), .int (low + fs)])) = H9 at *
    have stay : ∀ v b, BoxAt H9 v b → BoxAt (upd H9 pb (.lst (us ++ [.ref pt]))) v b := fun v b ⟨p, e, hp⟩ => ⟨p, e, by rw [upd_ne (ne_of hp X9.at_ (fun z => nomatch z))]; exact hp⟩
    have hbl : bs.length = i := by rw [← X9.each.1, hus]
    refine ⟨us ++ [.ref pt], bs ++ [⟨zs[i], low, low + wide - 1, low + fs⟩], mo / wide, _, _, _, rfl, by rw [List.length_append, hus]; rfl, mo1', ?_, ?_, ?_, ⟨upd_same, (X9.each.mono stay).snoc (stay (.ref pt) ⟨zs[i], low, low + wide - 1, low + fs⟩ ⟨pt, rfl, t9⟩)⟩, b9.put hpbH, P9.up npr.symm⟩
    · rw [vol_app]
      show ((vol bs * (Box.size ⟨zs[i], low, low + wide - 1, low + fs⟩ * 1) : Nat) : Int) * (mo / wide) ≤ most
      have es : Box.size ⟨zs[i], low, low + wide - 1, low + fs⟩ = wide.toNat := by
        show (low + wide - 1 - low + 1).toNat = _
        congr 1
        omega
      rw [es, Nat.mul_one, Int.natCast_mul, Int.mul_assoc, show ((wide.toNat : Nat) : Int) = wide by omega]
      exact Int.le_trans (Int.mul_le_mul_of_nonneg_left (Int.mul_ediv_self_le (by omega)) (by omega)) hvol
    · rw [List.map_append, hnm, List.take_add_one, List.getElem?_eq_getElem hi4]
      rfl
    · intro b hb
      rcases List.mem_append.mp hb with hb | hb
      · exact hok b hb
      · rw [List.mem_singleton.mp hb]
        exact box_ok fs0 fs1 lo1 lo2 (by omega)
  rintro σ H4 ⟨us, bs, mo, c7, c8, c9, rfl, hus, mo1, hvol, hnm, hok, X4, b4, P4⟩
  have hbl : bs.length = (1 + m).toNat := by rw [← X4.each.1, hus]
  have hv : (vol bs : Int) ≤ most := Int.le_trans (by have := Int.mul_le_mul_of_nonneg_left mo1 (show (0 : Int) ≤ (vol bs : Int) by omega); omega) hvol
  wtm_at "ss"
  refine ⟨r, 2, rfl, P4, few_of (by decide) (by decide), fun c H5 _ _ b5 P5 => ?_⟩
  have X5 := X4.but P4 npr b5
  wtm_at "ss"
  refine ite_d (fun _ => ?_) (fun _ => ?_)
  · refine ⟨_, rfl, _, rfl, rfl, pb, us, rfl, SqL.of X5.at_, fun p2 hp2 => ?_⟩
    have s6 := Same.new hp2 (.lst us.reverse)
    refine q p2 us.reverse bs.reverse _ (But.none (b4.trans b5) (P5.nn hp2) hp2) (P5.nn hp2) ((b4.trans b5).trans (.of s6)) (P5.mono s6) ⟨upd_same, All2.rev (X5.same s6).each⟩ ⟨by rw [List.length_reverse]; omega, by rw [List.length_reverse]; omega, fun b hb => hok b (List.mem_reverse.mp hb), by rw [vol_rev]; exact hv, .inr ?_⟩
    rw [List.map_reverse, hnm, List.length_reverse, hbl]
  · refine ⟨_, rfl, ?_⟩
    exact q pb us bs _ hpbH npr (b4.trans b5) P5 X5 ⟨by omega, by omega, hok, hv, .inl (by rw [hnm, hbl])⟩
/-! ### values within the bounds -/
def Within (bs : List Box) (ns : List Int) : Prop := All2 (fun (b : Box) n => b.lo ≤ n ∧ n ≤ b.hi) bs ns
theorem Within.sm {bs : List Box} {ns : List Int} (h : Within bs ns) (ok : ∀ b ∈ bs, b.Ok) : ∀ n ∈ ns, -1000 < n ∧ n < 1000 := fun n hn => by
  obtain ⟨i, hi, e⟩ := List.getElem_of_mem hn
  obtain ⟨b, n', hb, hn', h1, h2⟩ := h.get hi
  rw [List.getElem?_eq_getElem hi, e] at hn'
  cases hn'
  have := ok b (List.mem_of_getElem? hb)
  have := this.lo
  have := (ok b (List.mem_of_getElem? hb)).hi
  constructor <;> omega
def spValues : Sp := fun vs H Q _ => ∃ (r pb : Addr) (us : List V) (bs : List Box), vs = [.ref r, .ref pb] ∧ PotAt H r ∧ pb ≠ r ∧ BoxesAt H pb us bs ∧ (∀ b ∈ bs, b.Ok) ∧ bs.length ≤ 4 ∧
  ∀ (p : Addr) (ns : List Int) (H' : Hp), H p = none → But r H H' → PotAt H' r → H' p = some (.tup (ns.map V.int)) → Within bs ns → Q (.ref p) H'
theorem scValues : FnScope ["pot", "boxes"] ["pot", "boxes"] (defScope sValues) := ⟨rfl, rfl, rfl, by decide +kernel, rfl, by decide +kernel, by decide +kernel⟩
theorem ok_values (h : Has K mg "_law_values" sValues ["pot", "boxes"]) (B : Blt mg) (cN : Cal P w K mg base 1 "_law_next" ["pot", "many"] spNext) : Cal P w K mg base 2 "_law_values" ["pot", "boxes"] spValues := by
  refine h.cal scValues (fun vs H Q E h => ?_) (fun f cdv A outer s H vs Q E hr h => ?_)
  · obtain ⟨r, pb, us, bs, rfl, _⟩ := h
    rfl
  obtain ⟨r, pb, us, bs, rfl, hR, npr, X, hok, hl4, q⟩ := h
  have nd5 : (["name", "low", "high", "first", "pot"] : List Str).Nodup := by decide +kernel
  refine ⟨_, (pss_one (ps_ret (pe_callTy call_tuple_of rfl B.tuple bt_tuple (pa_cons (pe_lcC (defScope sValues) ["pot", "boxes"] (N := ["name", "low", "high", "first", "pot"]) (ix := [none, none, none, none, some 0]) rfl ⟨rfl, by decide +kernel, by decide +kernel, by decide +kernel, rfl, by decide +kernel⟩ (pi_list (pv 1)) (fun _ _ _ _ => pgt K 4 rfl (pgs_cons (pg_name (i := 0) nd5 rfl (Or.inl rfl)) (pgs_cons (pg_name (i := 1) nd5 rfl (Or.inl rfl)) (pgs_cons (pg_name (i := 2) nd5 rfl (Or.inl rfl)) (pgs_cons (pg_name (i := 3) nd5 rfl (Or.inl rfl)) pgs_nil))))) (fun _ _ _ _ => pts_nil) (fun _ _ _ _ => (pe_op op_add (pv 1) (pe_cal cN hr rfl (pa_cons (pv 4) (pa_cons (pe_op op_add (pe_op op_sub (pv 2) (pv 1)) pe_int) pa_nil)))))) pa_nil)))), ?_⟩
  refine ⟨_, rfl, pb, rfl, ⟨us, SqL.of X.at_⟩, fun D hD => ?_⟩
  have nDr : D ≠ r := hR.nn hD
  refine lc_list (K := K) (a := pb) (xs := us) (fun i ys σ H2 => ∃ (ns : List Int) (c0 c1 c2 c3 : Option V), σ = [c0, c1, c2, c3, some (.ref r)] ∧ ys = ns.map V.int ∧ Within (bs.take i) ns ∧ H2 D = some (.lst ys) ∧ BoxesAt H2 pb us bs ∧ But r H H2 ∧ PotAt H2 r)
    ⟨[], none, none, none, none, rfl, rfl, All2.nil, upd_same, X.same (Same.new hD _), .new hD _, hR.new hD _⟩ (fun i ys σ H2 _ hh => by obtain ⟨_, _, _, _, _, _, _, _, _, X2, _, _⟩ := hh; exact SqL.of X2.at_) ?_ ?_
  · rintro i x ys σ H2 hi ⟨ns, c0, c1, c2, c3, rfl, rfl, hw, hD2, X2, b2, P2⟩
    obtain ⟨b, hb, p, rfl, hp⟩ := X2.each.at hi
    have bok := hok b (List.mem_of_getElem? hb)
    have h1 := bok.fl
    have h2 := bok.fh
    have h3 := bok.w
    refine ⟨p, _, rfl, SqT.of hp, rfl, _, _, rfl, _, _, rfl, _, _, rfl, _, _, rfl, rfl, ?_⟩
    refine ⟨_, rfl, _, rfl, _, rfl, _, rfl, _, _, rfl, rfl, _, _, rfl, rfl, r, b.hi - b.lo + 1, rfl, P2, few_of (by omega) (by omega), fun n H3 n0 n1 b3 P3 => ?_⟩
    have X3 := X2.but P2 npr b3
    have hlen : ns.length ≤ 4 := by rw [← hw.1, List.length_take]; omega
    refine ⟨_, _, rfl, rfl, b3 _ _ nDr hD2, small1000 (by rw [List.length_map]; omega), ns ++ [b.lo + n], _, _, _, _, rfl, by rw [List.map_append]; rfl, ?_, upd_same, ?_, (b2.trans b3).put hD, P3.up nDr.symm⟩
    · rw [List.take_add_one, hb]
      exact hw.snoc ⟨by omega, by omega⟩
    · refine ⟨?_, X3.each.mono fun v b ⟨p, e, hp⟩ => ⟨p, e, by rw [upd_ne (ne_of hp (b3 _ _ nDr hD2) (fun z => nomatch z))]; exact hp⟩⟩
      rw [upd_ne (ne_of_none X.at_ hD)]
      exact X3.at_
  rintro ys σ H2 ⟨ns, c0, c1, c2, c3, rfl, rfl, hw, hD2, X2, b2, P2⟩
  rw [X2.each.1, List.take_length] at hw
  refine ⟨D, _, rfl, .inl ⟨SqL.of hD2, fun p hp => ?_⟩⟩
  exact q p ns _ (But.none b2 (P2.nn hp) hp) (b2.trans (.new hp _)) (P2.new hp _) upd_same hw
end

/-! ### sayings -/
inductive Say where
  | is_ (a : Nat) (n : Int) | frm (a : Nat) (n : Int) | to_ (a : Nat) (n : Int) | rest (a : Nat) (m r : Int) | eith (a : Nat) (n k : Int) | nev (a : Nat) (n : Int)
  | same (a b : Nat) | below (a b : Nat) | most (a b : Nat) | gap (a b : Nat) (n : Int) | sum (a b : Nat) (n : Int) | adds (a b c : Nat) | times (a b c : Nat)
  deriving DecidableEq
def Say.tup : Say → List V
  | .is_ a n => [.str "is", .int a, .int n]
  | .frm a n => [.str "from", .int a, .int n]
  | .to_ a n => [.str "to", .int a, .int n]
  | .rest a m r => [.str "rest", .int a, .int m, .int r]
  | .eith a n k => [.str "either", .int a, .int n, .int k]
  | .nev a n => [.str "never", .int a, .int n]
  | .same a b => [.str "same", .int a, .int b]
  | .below a b => [.str "below", .int a, .int b]
  | .most a b => [.str "most", .int a, .int b]
  | .gap a b n => [.str "gap", .int a, .int b, .int n]
  | .sum a b n => [.str "sum", .int a, .int b, .int n]
  | .adds a b c => [.str "adds", .int a, .int b, .int c]
  | .times a b c => [.str "times", .int a, .int b, .int c]
/-- of one box that holds x -/
def Say.so1 (x : Int) : Say → Bool
  | .is_ _ n => x == n
  | .frm _ n => decide (n ≤ x)
  | .to_ _ n => decide (x ≤ n)
  | .rest _ m r => (x - r) % m == 0
  | .eith _ n k => x == n || x == k
  | .nev _ n => !(x == n)
  | _ => false
/-- of two boxes that hold x and y -/
def Say.so2 (x y : Int) : Say → Bool
  | .same _ _ => x == y
  | .below _ _ => decide (x < y)
  | .most _ _ => decide (x ≤ y)
  | .gap _ _ n => x - y == n
  | .sum _ _ n => x + y == n
  | _ => false
def Say.fst : Say → Nat
  | .is_ a _ | .frm a _ | .to_ a _ | .rest a _ _ | .eith a _ _ | .nev a _ | .same a _ | .below a _ | .most a _ | .gap a _ _ | .sum a _ _ | .adds a _ _ | .times a _ _ => a
def Say.so (vs : List Int) (s : Say) : Bool := match s with
  | .adds a b c => vs.getD a 0 + vs.getD b 0 == vs.getD c 0
  | .times a b c => vs.getD a 0 * vs.getD b 0 == vs.getD c 0
  | .same a b | .below a b | .most a b | .gap a b _ | .sum a b _ => s.so2 (vs.getD a 0) (vs.getD b 0)
  | .is_ a _ | .frm a _ | .to_ a _ | .rest a _ _ | .eith a _ _ | .nev a _ => s.so1 (vs.getD a 0)
def Say.one : Say → Bool
  | .is_ _ _ | .frm _ _ | .to_ _ _ | .rest _ _ _ | .eith _ _ _ | .nev _ _ => true
  | _ => false
/-- its places are places of many boxes -/
def Say.In (many : Nat) : Say → Prop
  | .is_ a _ | .frm a _ | .to_ a _ | .eith a _ _ | .nev a _ => a < many
  | .rest a m _ => a < many ∧ 0 < m
  | .same a b | .below a b | .most a b | .gap a b _ | .sum a b _ => a < many ∧ b < many
  | .adds a b c | .times a b c => a < many ∧ b < many ∧ c < many
theorem iteB {b : Bool} {A B : Prop} (h : b = true) (a : A) : if b = true then A else B := by rw [if_pos h]; exact a
theorem iteC {b : Bool} {A B : Prop} (h : b = false) (a : B) : if b = true then A else B := by rw [if_neg (by rw [h]; decide)]; exact a
theorem bl_eq {Q : VK} {H : Hp} {b c : Bool} (q : Q (.bl c) H) (e : b = c) : Q (.bl b) H := e ▸ q
theorem val_at {ns : List Int} {a : Nat} (h : a < ns.length) : atI (ns.map V.int) ((a : Nat) : Int) = some (.int (ns.getD a 0)) := by
  refine atI_nat ?_
  rw [List.getElem?_map, List.getElem?_eq_getElem h, List.getD_eq_getElem?_getD, List.getElem?_eq_getElem h]
  rfl
def spIsOne : Sp := fun vs H Q _ => ∃ (p : Addr) (s : Say) (x : Int), vs = [.ref p, .int x] ∧ H p = some (.tup s.tup) ∧ s.one = true ∧ s.In (s.fst + 1) ∧ Q (.bl (s.so1 x)) H
def spIsTwo : Sp := fun vs H Q _ => ∃ (p : Addr) (s : Say) (x y : Int), vs = [.ref p, .int x, .int y] ∧ H p = some (.tup s.tup) ∧ (match s with | .same _ _ | .below _ _ | .most _ _ | .gap _ _ _ | .sum _ _ _ => True | _ => False) ∧ Q (.bl (s.so2 x y)) H
def spIsSo : Sp := fun vs H Q _ => ∃ (p q : Addr) (s : Say) (ns : List Int), vs = [.ref p, .ref q] ∧ H p = some (.tup s.tup) ∧ H q = some (.tup (ns.map V.int)) ∧ s.In ns.length ∧ (∀ n ∈ ns, -1000 < n ∧ n < 1000) ∧ Q (.bl (s.so ns)) H
theorem getD_mem {ns : List Int} {a : Nat} (h : a < ns.length) : ns.getD a 0 ∈ ns := by
  rw [List.getD_eq_getElem?_getD, List.getElem?_eq_getElem h]
  exact List.getElem_mem h
section
variable {P : Program} {w : World} {K : PySem.W.Frag} {mg : Str → Option Value} {base : Heap}
theorem scIsOne : FnScope ["saying", "a", "form"] ["saying", "a"] (defScope sPIsSoOfOne) := ⟨rfl, rfl, rfl, by decide +kernel, rfl, by decide +kernel, by decide +kernel⟩
theorem ok_isOne (h : Has K mg "is_so_of_one" sPIsSoOfOne ["saying", "a"]) : Cal P w K mg base 1 "is_so_of_one" ["saying", "a"] spIsOne := by
  refine h.cal scIsOne (fun vs H Q E h => ?_) (fun f cdv A outer s H vs Q E hr h => ?_)
  · obtain ⟨p, s, x, rfl, _⟩ := h
    rfl
  obtain ⟨p, s, x, rfl, hp, h1, hi, q⟩ := h
  refine ⟨_, (pss_cons (ps_set (i := 2) scIsOne.nd rfl (Or.inl rfl) (pe_ix ix_tup (pv 0) pe_int (fun _ _ => rfl)))
    (pss_cons (ps_if (pt_cmpR op_eq (pv 2) pe_str (nomark _)) (pss_one (ps_ret (pe_cmpR op_eq (pv 1) (pe_ix ix_tup (pv 0) pe_int (fun _ _ => rfl)) (nomark _)))) pss_nil)
    (pss_cons (ps_if (pt_cmpR op_eq (pv 2) pe_str (nomark _)) (pss_one (ps_ret (pe_cmpR op_ge (pv 1) (pe_ix ix_tup (pv 0) pe_int (fun _ _ => rfl)) (nomark _)))) pss_nil)
    (pss_cons (ps_if (pt_cmpR op_eq (pv 2) pe_str (nomark _)) (pss_one (ps_ret (pe_cmpR op_le (pv 1) (pe_ix ix_tup (pv 0) pe_int (fun _ _ => rfl)) (nomark _)))) pss_nil)
    (pss_cons (ps_if (pt_cmpR op_eq (pv 2) pe_str (nomark _)) (pss_one (ps_ret (pe_cmpR op_eq (pe_op op_mod (pe_op op_sub (pv 1) (pe_ix ix_tup (pv 0) pe_int (fun _ _ => rfl))) (pe_ix ix_tup (pv 0) pe_int (fun _ _ => rfl))) pe_int (nomark _)))) pss_nil)
    (pss_cons (ps_if (pt_cmpR op_eq (pv 2) pe_str (nomark _)) (pss_one (ps_ret (pe_or (pe_cmpR op_eq (pv 1) (pe_ix ix_tup (pv 0) pe_int (fun _ _ => rfl)) (nomark _)) (pe_one (pe_cmpR op_eq (pv 1) (pe_ix ix_tup (pv 0) pe_int (fun _ _ => rfl)) (nomark _)))))) pss_nil)
    (pss_one (ps_ret (pe_cmpR op_ne (pv 1) (pe_ix ix_tup (pv 0) pe_int (fun _ _ => rfl)) (nomark _)))))))))), ?_⟩
  cases s with
  | is_ a n =>
    wtm_at "ss"
    exact bl_eq q dec_int
  | frm a n =>
    wtm_at "ss"
    exact q
  | to_ a n =>
    wtm_at "ss"
    exact q
  | rest a m r =>
    have hm : 0 < m := hi.2
    wtm_at "ss"
    exact bl_eq q dec_int
  | eith a n k =>
    wtm_at "ss"
    refine ite_d (fun c => ?_) (fun c => ?_)
    · refine bl_eq q ?_
      show true = (x == n || x == k)
      simp [V.int.inj c]
    · wtm_at "ss"
      refine bl_eq q ?_
      rw [dec_int]
      show _ = (x == n || x == k)
      have : (x == n) = false := by
        rw [beq_eq_false_iff_ne]
        intro z
        exact c (by rw [z])
      rw [this, Bool.false_or]
  | nev a n =>
    wtm_at "ss"
    exact bl_eq q (by rw [dec_int]; rfl)
  | _ => exact absurd h1 Bool.false_ne_true
theorem scIsTwo : FnScope ["saying", "a", "b", "form"] ["saying", "a", "b"] (defScope sPIsSoOfTwo) := ⟨rfl, rfl, rfl, by decide +kernel, rfl, by decide +kernel, by decide +kernel⟩
theorem ok_isTwo (h : Has K mg "is_so_of_two" sPIsSoOfTwo ["saying", "a", "b"]) : Cal P w K mg base 1 "is_so_of_two" ["saying", "a", "b"] spIsTwo := by
  refine h.cal scIsTwo (fun vs H Q E h => ?_) (fun f cdv A outer s H vs Q E hr h => ?_)
  · obtain ⟨p, s, x, y, rfl, _⟩ := h
    rfl
  obtain ⟨p, s, x, y, rfl, hp, h2, q⟩ := h
  refine ⟨_, (pss_cons (ps_set (i := 3) scIsTwo.nd rfl (Or.inl rfl) (pe_ix ix_tup (pv 0) pe_int (fun _ _ => rfl)))
    (pss_cons (ps_if (pt_cmpR op_eq (pv 3) pe_str (nomark _)) (pss_one (ps_ret (pe_cmpR op_eq (pv 1) (pv 2) (nomark _)))) pss_nil)
    (pss_cons (ps_if (pt_cmpR op_eq (pv 3) pe_str (nomark _)) (pss_one (ps_ret (pe_cmpR op_lt (pv 1) (pv 2) (nomark _)))) pss_nil)
    (pss_cons (ps_if (pt_cmpR op_eq (pv 3) pe_str (nomark _)) (pss_one (ps_ret (pe_cmpR op_le (pv 1) (pv 2) (nomark _)))) pss_nil)
    (pss_cons (ps_if (pt_cmpR op_eq (pv 3) pe_str (nomark _)) (pss_one (ps_ret (pe_cmpR op_eq (pe_op op_sub (pv 1) (pv 2)) (pe_ix ix_tup (pv 0) pe_int (fun _ _ => rfl)) (nomark _)))) pss_nil)
    (pss_one (ps_ret (pe_cmpR op_eq (pe_op op_add (pv 1) (pv 2)) (pe_ix ix_tup (pv 0) pe_int (fun _ _ => rfl)) (nomark _))))))))), ?_⟩
  cases s with
  | same a b =>
    wtm_at "ss"
    exact bl_eq q dec_int
  | below a b =>
    wtm_at "ss"
    exact q
  | most a b =>
    wtm_at "ss"
    exact q
  | gap a b n =>
    wtm_at "ss"
    exact bl_eq q dec_int
  | sum a b n =>
    wtm_at "ss"
    exact bl_eq q dec_int
  | _ => exact h2.elim
theorem scIsSo : FnScope ["saying", "values", "form", "a", "b"] ["saying", "values"] (defScope sPIsSo) := ⟨rfl, rfl, rfl, by decide +kernel, rfl, by decide +kernel, by decide +kernel⟩
theorem ok_isSo (h : Has K mg "is_so" sPIsSo ["saying", "values"]) (g : Glb K mg) (c1 : Cal P w K mg base 1 "is_so_of_one" ["saying", "a"] spIsOne) (c2 : Cal P w K mg base 1 "is_so_of_two" ["saying", "a", "b"] spIsTwo) : Cal P w K mg base 2 "is_so" ["saying", "values"] spIsSo := by
  refine h.cal scIsSo (fun vs H Q E h => ?_) (fun f cdv A outer s H vs Q E hr h => ?_)
  · obtain ⟨p, q, s, ns, rfl, _⟩ := h
    rfl
  obtain ⟨p, q, s, ns, rfl, hp, hq, hi, hb, k⟩ := h
  obtain ⟨ga, gm, gS⟩ := g.OF_ONE_BOX
  refine ⟨_, (pss_cons (ps_set (i := 2) scIsSo.nd rfl (Or.inl rfl) (pe_ix ix_tup (pv 0) pe_int (fun _ _ => rfl)))
    (pss_cons (ps_set (i := 3) scIsSo.nd rfl (Or.inl rfl) (pe_ix ix_tup (pv 1) (pe_ix ix_tup (pv 0) pe_int (fun _ _ => rfl)) (fun _ _ => rfl)))
    (pss_cons (ps_if (pt_cmpR op_in_seq (pv 2) (pe_glob (v := .ref ga) rfl gm rfl) (by with_unfolding_all rfl)) (pss_one (ps_ret (pe_cal c1 hr rfl (pa_cons (pv 0) (pa_cons (pv 3) pa_nil))))) pss_nil)
    (pss_cons (ps_set (i := 4) scIsSo.nd rfl (Or.inl rfl) (pe_ix ix_tup (pv 1) (pe_ix ix_tup (pv 0) pe_int (fun _ _ => rfl)) (fun _ _ => rfl)))
    (pss_cons (ps_if (pt_cmpR op_eq (pv 2) pe_str (nomark _)) (pss_one (ps_ret (pe_cmpR op_eq (pe_op op_add (pv 3) (pv 4)) (pe_ix ix_tup (pv 1) (pe_ix ix_tup (pv 0) pe_int (fun _ _ => rfl)) (fun _ _ => rfl)) (nomark _)))) pss_nil)
    (pss_cons (ps_if (pt_cmpR op_eq (pv 2) pe_str (nomark _)) (pss_one (ps_ret (pe_cmpR op_eq (pe_op op_mul (pv 3) (pv 4)) (pe_ix ix_tup (pv 1) (pe_ix ix_tup (pv 0) pe_int (fun _ _ => rfl)) (fun _ _ => rfl)) (nomark _)))) pss_nil)
    (pss_one (ps_ret (pe_cal c2 hr rfl (pa_cons (pv 0) (pa_cons (pv 3) (pa_cons (pv 4) pa_nil)))))))))))), ?_⟩
  cases s with
  | is_ a n =>
    have ha : a < ns.length := hi
    wtm_at "ss"
    refine ⟨q, _, _, _, rfl, rfl, SqT.of hq, val_at ha, ?_⟩
    refine ⟨_, rfl, ga, _, rfl, .inr (gS _), rfl, rfl, _, rfl, ?_⟩
    exact ⟨_, rfl, _, rfl, p, _, _, rfl, hp, rfl, Nat.lt_succ_self _, k⟩
  | frm a n =>
    have ha : a < ns.length := hi
    wtm_at "ss"
    refine ⟨q, _, _, _, rfl, rfl, SqT.of hq, val_at ha, ?_⟩
    refine ⟨_, rfl, ga, _, rfl, .inr (gS _), rfl, rfl, _, rfl, ?_⟩
    exact ⟨_, rfl, _, rfl, p, _, _, rfl, hp, rfl, Nat.lt_succ_self _, k⟩
  | to_ a n =>
    have ha : a < ns.length := hi
    wtm_at "ss"
    refine ⟨q, _, _, _, rfl, rfl, SqT.of hq, val_at ha, ?_⟩
    refine ⟨_, rfl, ga, _, rfl, .inr (gS _), rfl, rfl, _, rfl, ?_⟩
    exact ⟨_, rfl, _, rfl, p, _, _, rfl, hp, rfl, Nat.lt_succ_self _, k⟩
  | rest a m r =>
    have ha : a < ns.length := hi.1
    wtm_at "ss"
    refine ⟨q, _, _, _, rfl, rfl, SqT.of hq, val_at ha, ?_⟩
    refine ⟨_, rfl, ga, _, rfl, .inr (gS _), rfl, rfl, _, rfl, ?_⟩
    exact ⟨_, rfl, _, rfl, p, _, _, rfl, hp, rfl, ⟨Nat.lt_succ_self _, hi.2⟩, k⟩
  | eith a n m =>
    have ha : a < ns.length := hi
    wtm_at "ss"
    refine ⟨q, _, _, _, rfl, rfl, SqT.of hq, val_at ha, ?_⟩
    refine ⟨_, rfl, ga, _, rfl, .inr (gS _), rfl, rfl, _, rfl, ?_⟩
    exact ⟨_, rfl, _, rfl, p, _, _, rfl, hp, rfl, Nat.lt_succ_self _, k⟩
  | nev a n =>
    have ha : a < ns.length := hi
    wtm_at "ss"
    refine ⟨q, _, _, _, rfl, rfl, SqT.of hq, val_at ha, ?_⟩
    refine ⟨_, rfl, ga, _, rfl, .inr (gS _), rfl, rfl, _, rfl, ?_⟩
    exact ⟨_, rfl, _, rfl, p, _, _, rfl, hp, rfl, Nat.lt_succ_self _, k⟩
  | same a b =>
    have ha : a < ns.length := hi.1
    have hb' : b < ns.length := hi.2
    wtm_at "ss"
    refine ⟨q, _, _, _, rfl, rfl, SqT.of hq, val_at ha, ?_⟩
    refine ⟨_, rfl, ga, _, rfl, .inr (gS _), rfl, rfl, _, rfl, ?_⟩
    wtm_at "ss"
    refine ⟨q, _, _, _, rfl, rfl, SqT.of hq, val_at hb', ?_⟩
    wtm_at "ss"
    exact ⟨p, _, _, _, rfl, hp, trivial, k⟩
  | below a b =>
    have ha : a < ns.length := hi.1
    have hb' : b < ns.length := hi.2
    wtm_at "ss"
    refine ⟨q, _, _, _, rfl, rfl, SqT.of hq, val_at ha, ?_⟩
    refine ⟨_, rfl, ga, _, rfl, .inr (gS _), rfl, rfl, _, rfl, ?_⟩
    wtm_at "ss"
    refine ⟨q, _, _, _, rfl, rfl, SqT.of hq, val_at hb', ?_⟩
    wtm_at "ss"
    exact ⟨p, _, _, _, rfl, hp, trivial, k⟩
  | most a b =>
    have ha : a < ns.length := hi.1
    have hb' : b < ns.length := hi.2
    wtm_at "ss"
    refine ⟨q, _, _, _, rfl, rfl, SqT.of hq, val_at ha, ?_⟩
    refine ⟨_, rfl, ga, _, rfl, .inr (gS _), rfl, rfl, _, rfl, ?_⟩
    wtm_at "ss"
    refine ⟨q, _, _, _, rfl, rfl, SqT.of hq, val_at hb', ?_⟩
    wtm_at "ss"
    exact ⟨p, _, _, _, rfl, hp, trivial, k⟩
  | gap a b n =>
    have ha : a < ns.length := hi.1
    have hb' : b < ns.length := hi.2
    wtm_at "ss"
    refine ⟨q, _, _, _, rfl, rfl, SqT.of hq, val_at ha, ?_⟩
    refine ⟨_, rfl, ga, _, rfl, .inr (gS _), rfl, rfl, _, rfl, ?_⟩
    wtm_at "ss"
    refine ⟨q, _, _, _, rfl, rfl, SqT.of hq, val_at hb', ?_⟩
    wtm_at "ss"
    exact ⟨p, _, _, _, rfl, hp, trivial, k⟩
  | sum a b n =>
    have ha : a < ns.length := hi.1
    have hb' : b < ns.length := hi.2
    wtm_at "ss"
    refine ⟨q, _, _, _, rfl, rfl, SqT.of hq, val_at ha, ?_⟩
    refine ⟨_, rfl, ga, _, rfl, .inr (gS _), rfl, rfl, _, rfl, ?_⟩
    wtm_at "ss"
    refine ⟨q, _, _, _, rfl, rfl, SqT.of hq, val_at hb', ?_⟩
    wtm_at "ss"
    exact ⟨p, _, _, _, rfl, hp, trivial, k⟩
  | adds a b c =>
    have ha : a < ns.length := hi.1
    have hb' : b < ns.length := hi.2.1
    have hc : c < ns.length := hi.2.2
    wtm_at "ss"
    refine ⟨q, _, _, _, rfl, rfl, SqT.of hq, val_at ha, ?_⟩
    refine ⟨_, rfl, ga, _, rfl, .inr (gS _), rfl, rfl, _, rfl, ?_⟩
    wtm_at "ss"
    refine ⟨q, _, _, _, rfl, rfl, SqT.of hq, val_at hb', ?_⟩
    wtm_at "ss"
    refine ⟨q, _, _, _, rfl, rfl, SqT.of hq, val_at hc, ?_⟩
    wtm_at "ss"
    exact bl_eq k dec_int
  | times a b c =>
    have ha : a < ns.length := hi.1
    have hb' : b < ns.length := hi.2.1
    have hc : c < ns.length := hi.2.2
    wtm_at "ss"
    refine ⟨q, _, _, _, rfl, rfl, SqT.of hq, val_at ha, ?_⟩
    refine ⟨_, rfl, ga, _, rfl, .inr (gS _), rfl, rfl, _, rfl, ?_⟩
    wtm_at "ss"
    refine ⟨q, _, _, _, rfl, rfl, SqT.of hq, val_at hb', ?_⟩
    wtm_at "ss"
    have hb1 := hb _ (getD_mem ha)
    refine ⟨cmw (by omega) (by omega), ?_⟩
    wtm_at "ss"
    refine ⟨q, _, _, _, rfl, rfl, SqT.of hq, val_at hc, ?_⟩
    wtm_at "ss"
    exact bl_eq k dec_int
end

/-! ### all values within the bounds -/
def rng (b : Box) : List Int := (List.range b.size).map fun k => b.lo + (k : Nat)
def longer (vs : List (List Int)) (b : Box) : List (List Int) := vs.flatMap fun v => (rng b).map fun n => v ++ [n]
def allv (bs : List Box) : List (List Int) := bs.foldl longer [[]]
theorem rng_len (b : Box) : (rng b).length = b.size := by unfold rng; rw [List.length_map, List.length_range]
theorem longer_len (b : Box) : ∀ vs : List (List Int), (longer vs b).length = vs.length * b.size
  | [] => by simp [longer]
  | v :: r => by
    have := longer_len b r
    unfold longer at this ⊢
    rw [List.flatMap_cons, List.length_append, this, List.length_map, rng_len, List.length_cons, Nat.succ_mul]
    omega
theorem fold_len : ∀ (bs : List Box) (acc : List (List Int)), (bs.foldl longer acc).length = acc.length * vol bs
  | [], acc => by simp [vol]
  | b :: r, acc => by
    rw [List.foldl_cons, fold_len r, longer_len]
    show acc.length * b.size * vol r = acc.length * (b.size * vol r)
    rw [Nat.mul_assoc]
theorem vol_pos : ∀ {bs : List Box}, (∀ b ∈ bs, b.Ok) → 1 ≤ vol bs
  | [], _ => Nat.le_refl 1
  | b :: t, h => by
    have hb := h b List.mem_cons_self
    have h1 : 1 ≤ b.size := by unfold Box.size; have := hb.fl; have := hb.fh; omega
    exact Nat.mul_le_mul h1 (vol_pos fun c hc => h c (List.mem_cons_of_mem _ hc))
theorem vol_take {bs : List Box} (ok : ∀ b ∈ bs, b.Ok) (i : Nat) : vol (bs.take i) ≤ vol bs := by
  have e : vol bs = vol (bs.take i) * vol (bs.drop i) := by rw [← vol_app, List.take_append_drop]
  have h := vol_pos (bs := bs.drop i) fun b hb => ok b (List.mem_of_mem_drop hb)
  have := Nat.mul_le_mul_left (vol (bs.take i)) h
  omega
theorem rng_mem {b : Box} {n : Int} (ok : b.Ok) : n ∈ rng b ↔ b.lo ≤ n ∧ n ≤ b.hi := by
  unfold rng
  rw [List.mem_map]
  constructor
  · rintro ⟨k, hk, rfl⟩
    have := List.mem_range.mp hk
    unfold Box.size at this
    constructor <;> omega
  · rintro ⟨h1, h2⟩
    refine ⟨(n - b.lo).toNat, List.mem_range.mpr ?_, by omega⟩
    unfold Box.size
    omega
theorem fold_mem : ∀ {bs pre : List Box} {acc : List (List Int)} {v : List Int}, (∀ b ∈ bs, b.Ok) → (∀ v ∈ acc, Within pre v) → v ∈ bs.foldl longer acc → Within (pre ++ bs) v
  | [], pre, acc, v, _, ha, h => by rw [List.append_nil]; exact ha v h
  | b :: r, pre, acc, v, ok, ha, h => by
    rw [List.foldl_cons] at h
    have := fold_mem (bs := r) (pre := pre ++ [b]) (acc := longer acc b) (v := v) (fun c hc => ok c (List.mem_cons_of_mem _ hc)) (fun u hu => ?_) h
    · rwa [List.append_assoc] at this
    · obtain ⟨w, hw, hu⟩ := List.mem_flatMap.mp hu
      obtain ⟨n, hn, rfl⟩ := List.mem_map.mp hu
      exact (ha w hw).snoc ((rng_mem (ok b List.mem_cons_self)).mp hn)
theorem allv_mem {bs : List Box} {v : List Int} (ok : ∀ b ∈ bs, b.Ok) (h : v ∈ allv bs) : Within bs v := by
  have := fold_mem (bs := bs) (pre := []) (acc := [[]]) (v := v) ok (fun u hu => by rw [List.mem_singleton.mp hu]; exact All2.nil) h
  simpa using this
/-- values, sayings as they stand -/
def ValAt (H : Hp) (v : V) (ns : List Int) : Prop := ∃ p, v = .ref p ∧ H p = some (.tup (ns.map V.int))
def SayAt (H : Hp) (v : V) (s : Say) : Prop := ∃ p, v = .ref p ∧ H p = some (.tup s.tup)
structure ValsAt (H : Hp) (pl : Addr) (us : List V) (vs : List (List Int)) : Prop where
  at_ : H pl = some (.lst us)
  each : All2 (ValAt H) us vs
structure SaysAt (H : Hp) (pl : Addr) (us : List V) (os : List Say) : Prop where
  at_ : H pl = some (.lst us)
  each : All2 (SayAt H) us os
theorem ValAt.same {H H' : Hp} {v : V} {b : List Int} (h : ValAt H v b) (s : Same H H') : ValAt H' v b := by
  obtain ⟨p, rfl, hp⟩ := h
  exact ⟨p, rfl, s _ _ hp⟩
theorem SayAt.same {H H' : Hp} {v : V} {b : Say} (h : SayAt H v b) (s : Same H H') : SayAt H' v b := by
  obtain ⟨p, rfl, hp⟩ := h
  exact ⟨p, rfl, s _ _ hp⟩
theorem SayAt.but {H H' : Hp} {r : Addr} {v : V} {b : Say} (h : SayAt H v b) (P : PotAt H r) (s : But r H H') : SayAt H' v b := by
  obtain ⟨p, rfl, hp⟩ := h
  exact ⟨p, rfl, s _ _ (P.ne_tup hp) hp⟩
theorem SayAt.put {H : Hp} {l : Addr} {xs ys : List V} {v : V} {b : Say} (h : SayAt H v b) (hl : H l = some (.lst xs)) : SayAt (upd H l (.lst ys)) v b := by
  obtain ⟨p, rfl, hp⟩ := h
  exact ⟨p, rfl, by rw [upd_ne (ne_of hp hl (fun z => nomatch z))]; exact hp⟩
theorem ValAt.put {H : Hp} {l : Addr} {xs ys : List V} {v : V} {b : List Int} (h : ValAt H v b) (hl : H l = some (.lst xs)) : ValAt (upd H l (.lst ys)) v b := by
  obtain ⟨p, rfl, hp⟩ := h
  exact ⟨p, rfl, by rw [upd_ne (ne_of hp hl (fun z => nomatch z))]; exact hp⟩
theorem BoxAt.put {H : Hp} {l : Addr} {xs ys : List V} {v : V} {b : Box} (h : BoxAt H v b) (hl : H l = some (.lst xs)) : BoxAt (upd H l (.lst ys)) v b := by
  obtain ⟨p, rfl, hp⟩ := h
  exact ⟨p, rfl, by rw [upd_ne (ne_of hp hl (fun z => nomatch z))]; exact hp⟩
theorem ValsAt.same {H H' : Hp} {pl : Addr} {us : List V} {vs : List (List Int)} (h : ValsAt H pl us vs) (s : Same H H') : ValsAt H' pl us vs := ⟨s _ _ h.at_, h.each.mono fun _ _ z => z.same s⟩
theorem SaysAt.same {H H' : Hp} {pl : Addr} {us : List V} {vs : List Say} (h : SaysAt H pl us vs) (s : Same H H') : SaysAt H' pl us vs := ⟨s _ _ h.at_, h.each.mono fun _ _ z => z.same s⟩
theorem SaysAt.but {H H' : Hp} {r pl : Addr} {us : List V} {vs : List Say} (h : SaysAt H pl us vs) (P : PotAt H r) (n : pl ≠ r) (s : But r H H') : SaysAt H' pl us vs := ⟨s _ _ n h.at_, h.each.mono fun _ _ z => z.but P s⟩
theorem all2_app {α β : Type} {R : α → β → Prop} {xs us : List α} {ys vs : List β} (h : All2 R xs ys) (g : All2 R us vs) : All2 R (xs ++ us) (ys ++ vs) := by
  have hl := h.1
  have gl := g.1
  refine ⟨by simp [hl, gl], fun i a b ha hb => ?_⟩
  by_cases hi : i < xs.length
  · rw [List.getElem?_append_left hi] at ha
    rw [List.getElem?_append_left (by omega)] at hb
    exact h.2 i a b ha hb
  · rw [List.getElem?_append_right (by omega)] at ha
    rw [List.getElem?_append_right (by omega), ← hl] at hb
    exact g.2 _ a b ha hb
def spLengthened : Sp := fun vs H Q _ => ∃ (pl pbx : Addr) (us : List V) (vl : List (List Int)) (b : Box), vs = [.ref pl, .ref pbx] ∧ ValsAt H pl us vl ∧ H pbx = some (.tup b.tup) ∧ b.Ok ∧ vl.length * b.size ≤ 400 ∧ (∀ v ∈ vl, v.length ≤ 1000) ∧
  ∀ (p : Addr) (us' : List V) (H' : Hp), H p = none → Same H H' → ValsAt H' p us' (longer vl b) → Q (.ref p) H'
section
variable {P : Program} {w : World} {K : PySem.W.Frag} {mg : Str → Option Value} {base : Heap}
theorem scLengthened : FnScope ["some", "box", "told", "values"] ["some", "box"] (defScope sPLengthened) := ⟨rfl, rfl, rfl, by decide +kernel, rfl, by decide +kernel, by decide +kernel⟩
theorem ok_lengthened (h : Has K mg "lengthened" sPLengthened ["some", "box"]) (B : Blt mg) : Cal P w K mg base 1 "lengthened" ["some", "box"] spLengthened := by
  refine h.cal scLengthened (fun vs H Q E h => ?_) (fun f cdv A outer s H vs Q E hr h => ?_)
  · obtain ⟨pl, pbx, us, vl, b, rfl, _⟩ := h
    rfl
  obtain ⟨pl, pbx, us, vl, b, rfl, X, hb, bok, h400, hvl4, q⟩ := h
  refine ⟨_, (pss_cons (ps_set (i := 2) scLengthened.nd rfl (Or.inl rfl) (pe_lst pa_nil))
    (pss_cons (ps_for PassesOwn.never rfl (pi_list (pv 0)) (pg_name (i := 3) scLengthened.nd rfl (Or.inr rfl)) (pss_one (ps_expr (pe_bm PySem.F.plainAttrs_list PySem.F.slot_list_extend PySem.F.type_list_extend mt_extend (pv 2) (pa_cons (pe_lcC (defScope sPLengthened) ["some", "box", "told", "values"] (N := ["n", "values"]) (ix := [none, some 3]) rfl ⟨rfl, by decide +kernel, by decide +kernel, by decide +kernel, rfl, by decide +kernel⟩ (pi_range2 rfl B.range (pa_cons (pe_ix ix_tup (pv 1) pe_int (fun _ _ => rfl)) (pa_cons (pe_op op_add (pe_ix ix_tup (pv 1) pe_int (fun _ _ => rfl)) pe_int) pa_nil))) (fun _ _ _ _ => pg_name (i := 0) (show (["n", "values"] : List Str).Nodup by decide +kernel) rfl (Or.inl rfl)) (fun _ _ _ _ => pts_nil) (fun _ _ _ _ => (pe_op op_catE (pv 1) (pe_tup (pa_cons (pv 0) pa_nil))))) pa_nil)))))
    (pss_one (ps_ret (pv 2))))), ?_⟩
  refine ⟨(by show 0 ≤ sizeLine; decide), fun p hp => ?_⟩
  have hb1 := bok.fl
  have hb2 := bok.fh
  have hb3 := bok.lo
  have hb4 := bok.hi
  refine ⟨_, rfl, pl, rfl, ⟨us, SqL.of (Same.new hp _ _ _ X.at_)⟩, for_list (K := K) (a := pl) (xs := us) (fun i σ H2 => ∃ (us' : List V) (c3 : Option V), σ = [some (.ref pl), some (.ref pbx), some (.ref p), c3] ∧ ValsAt H2 p us' (longer (vl.take i) b) ∧ Same H H2)
    ⟨[], none, rfl, ⟨upd_same, All2.nil⟩, Same.new hp _⟩ (fun i σ H2 _ hh => by obtain ⟨_, _, _, _, s2⟩ := hh; exact SqL.of (s2 _ _ X.at_)) ?_ ?_⟩
  · rintro i x σ H2 hi ⟨us', c3, rfl, X2, s2⟩
    obtain ⟨v, hv, pq, rfl, hpq⟩ := X.each.at hi
    have hvl : vl.length * b.size = (longer vl b).length := (longer_len b vl).symm
    have hlt : us'.length + b.size ≤ 400 := by
      rw [X2.each.1, longer_len, ← Nat.succ_mul]
      refine Nat.le_trans (Nat.mul_le_mul_right _ ?_) h400
      have := (List.getElem?_eq_some_iff.mp hv).1
      rw [List.length_take]
      omega
    refine ⟨_, rfl, .inl ⟨rfl, _, SqL.of X2.at_⟩, ?_⟩
    refine ⟨_, rfl, pbx, _, _, _, rfl, rfl, SqT.of (s2 _ _ hb), rfl, _, rfl, pbx, _, _, _, rfl, rfl, SqT.of (s2 _ _ hb), rfl, _, _, rfl, rfl, _, _, rfl, ⟨by omega, by omega, by omega, by omega⟩, fun D hD => ?_⟩
    have hDH : H D = none := by
      cases e : H D with
      | none => rfl
      | some o => rw [s2 _ _ e] at hD; cases hD
    refine lc_range (lo := b.lo) (n := (b.hi + 1 - b.lo).toNat) (fun j ys σ H3 => ∃ c0 : Option V, σ = [c0, some (.ref pq)] ∧ H3 D = some (.lst ys) ∧ All2 (ValAt H3) ys (((rng b).take j).map fun n => v ++ [n]) ∧ Same H2 H3)
      ⟨none, rfl, upd_same, All2.nil, Same.new hD _⟩ ?_ ?_
    · rintro j ys σ H3 hj ⟨c0, rfl, hD3, A3, s3⟩
      have hj' : j < b.size := by unfold Box.size; omega
      have hyl : ys.length ≤ 400 := by
        rw [A3.1, List.length_map, List.length_take, rng_len]
        omega
      refine lc_yes ⟨_, rfl, _, rfl, (by show 1 ≤ sizeLine; decide), fun pt hpt => ?_⟩
      have s4 := Same.new hpt (.tup [.int (b.lo + (j : Int))])
      have s24 := s3.trans s4
      have hvb : v.length ≤ 1000 := hvl4 v (List.mem_of_getElem? hv)
      refine ⟨pq, pt, v.map V.int, [.int (b.lo + (j : Int))], rfl, rfl, s24 _ _ (s2 _ _ hpq), upd_same, ?_, fun p5 H5 s5 h5 => ?_⟩
      · rw [List.length_map]
        exact sz' (by simp; omega)
      have s35 := s4.trans s5
      have hD5 := s35 _ _ hD3
      refine ⟨hD5, small1000 (by omega), _, rfl, upd_same, ?_, fun c o e => ?_⟩
      · have hr : (rng b)[j]? = some (b.lo + (j : Int)) := by
          unfold rng
          rw [List.getElem?_map, List.getElem?_range hj']
          rfl
        rw [List.take_add_one, hr, List.map_append]
        refine ((A3.mono fun _ _ z => (z.same s35).put hD5)).snoc (ValAt.put ⟨p5, rfl, ?_⟩ hD5)
        rw [h5, List.map_append]
        rfl
      · rw [upd_ne (ne_of_none e hD)]
        exact s35 _ _ (s3 _ _ e)
    rintro ys σ H3 ⟨c0, rfl, hD3, A3, s3⟩
    have ej : (b.hi + 1 - b.lo).toNat = b.size := by unfold Box.size; congr 1; omega
    rw [ej, List.take_of_length_le (by rw [rng_len]; exact Nat.le_refl _)] at A3
    have X3 := X2.same s3
    have hyl : ys.length = b.size := by rw [A3.1, List.length_map, rng_len]
    refine ⟨p, D, us', ys, rfl, rfl, X3.at_, hD3, small (by omega), ?_⟩
    refine ⟨us' ++ ys, _, rfl, ⟨upd_same, ?_⟩, fun c o e => ?_⟩
    · rw [List.take_add_one, hv]
      unfold longer
      rw [List.flatMap_append]
      refine all2_app (X3.each.mono fun _ _ z => z.put X3.at_) ?_
      rw [show (Option.toList (some v)) = [v] from rfl, List.flatMap_cons, List.flatMap_nil, List.append_nil]
      exact A3.mono fun _ _ z => z.put X3.at_
    · rw [upd_ne (ne_of_none e hp)]
      exact s3 _ _ (s2 _ _ e)
  · rintro σ H2 ⟨us', c3, rfl, X2, s2⟩
    rw [X.each.1, List.take_length] at X2
    exact ⟨_, rfl, q p us' H2 hp s2 X2⟩
end

/-! ### all_values, are_so, follows -/
def spAllValues : Sp := fun vs H Q _ => ∃ (pp pb : Addr) (pw : V) (us : List V) (bs : List Box), vs = [.ref pp] ∧ H pp = some (.tup [.ref pb, pw]) ∧ BoxesAt H pb us bs ∧ (∀ b ∈ bs, b.Ok) ∧ bs.length ≤ 4 ∧ vol bs ≤ 400 ∧
  ∀ (p : Addr) (us' : List V) (H' : Hp), H p = none → Same H H' → ValsAt H' p us' (allv bs) → Q (.ref p) H'
def spAreSo : Sp := fun vs H Q _ => ∃ (po q : Addr) (us : List V) (os : List Say) (ns : List Int), vs = [.ref po, .ref q] ∧ SaysAt H po us os ∧ H q = some (.tup (ns.map V.int)) ∧ (∀ o ∈ os, o.In ns.length) ∧ (∀ n ∈ ns, -1000 < n ∧ n < 1000) ∧ Q (.bl (os.all fun o => o.so ns)) H
def fol (bs : List Box) (s : Say) (os : List Say) : Bool := (allv bs).all fun v => s.so v || !(os.all fun o => o.so v)
def spFollows : Sp := fun vs H Q _ => ∃ (pp pb ps po : Addr) (pw : V) (us uo : List V) (bs : List Box) (s : Say) (os : List Say), vs = [.ref pp, .ref ps, .ref po] ∧ H pp = some (.tup [.ref pb, pw]) ∧ BoxesAt H pb us bs ∧ (∀ b ∈ bs, b.Ok) ∧ bs.length ≤ 4 ∧ vol bs ≤ 400 ∧ H ps = some (.tup s.tup) ∧ s.In bs.length ∧ SaysAt H po uo os ∧ (∀ o ∈ os, o.In bs.length) ∧
  ∀ H' : Hp, Same H H' → Q (.bl (fol bs s os)) H'
theorem Same.free {H H' : Hp} {p : Addr} (s : Same H H') (h : H' p = none) : H p = none := by
  cases e : H p with
  | none => rfl
  | some o => rw [s _ _ e] at h; cases h
section
variable {P : Program} {w : World} {K : PySem.W.Frag} {mg : Str → Option Value} {base : Heap}
theorem fold_short {bs : List Box} (ok : ∀ b ∈ bs, b.Ok) (h4 : bs.length ≤ 4) (i : Nat) : ∀ v ∈ (bs.take i).foldl longer [[]], v.length ≤ 1000 := fun v hv => by
  have := fold_mem (bs := bs.take i) (pre := []) (acc := [[]]) (v := v) (fun b hb => ok b (List.mem_of_mem_take hb)) (fun u hu => by rw [List.mem_singleton.mp hu]; exact All2.nil) hv
  have := this.1
  rw [List.nil_append, List.length_take] at this
  omega
theorem fold_succ {bs : List Box} {b : Box} {i : Nat} (h : bs[i]? = some b) : (bs.take (i + 1)).foldl longer [[]] = longer ((bs.take i).foldl longer [[]]) b := by
  rw [List.take_add_one, h, List.foldl_append]
  rfl
theorem fold_400 {bs : List Box} {b : Box} {i : Nat} (ok : ∀ b ∈ bs, b.Ok) (h : bs[i]? = some b) (hv : vol bs ≤ 400) : ((bs.take i).foldl longer [[]]).length * b.size ≤ 400 := by
  have h1 := vol_take ok (i + 1)
  have e : vol (bs.take (i + 1)) = ((bs.take i).foldl longer [[]]).length * b.size := by
    rw [fold_len, List.take_add_one, h, vol_app]
    show vol (bs.take i) * (b.size * 1) = 1 * vol (bs.take i) * b.size
    rw [Nat.mul_one, Nat.one_mul]
  omega
theorem scAllValues : FnScope ["program", "told", "box"] ["program"] (defScope sPAllValues) := ⟨rfl, rfl, rfl, by decide +kernel, rfl, by decide +kernel, by decide +kernel⟩
theorem ok_allValues (h : Has K mg "all_values" sPAllValues ["program"]) (cL : Cal P w K mg base 1 "lengthened" ["some", "box"] spLengthened) : Cal P w K mg base 2 "all_values" ["program"] spAllValues := by
  refine h.cal scAllValues (fun vs H Q E h => ?_) (fun f cdv A outer s H vs Q E hr h => ?_)
  · obtain ⟨pp, pb, pw, us, bs, rfl, _⟩ := h
    rfl
  obtain ⟨pp, pb, pw, us, bs, rfl, hp, X, ok, h4, hv, q⟩ := h
  refine ⟨_, (pss_cons (ps_set (i := 1) scAllValues.nd rfl (Or.inl rfl) (pe_lst (pa_cons (pe_tup pa_nil) pa_nil)))
    (pss_cons (ps_for PassesOwn.never rfl (pi_list (pe_ix ix_tup (pv 0) pe_int (fun _ _ => rfl))) (pg_name (i := 2) scAllValues.nd rfl (Or.inl rfl)) (pss_one (ps_set (i := 1) scAllValues.nd rfl (Or.inl rfl) (pe_cal cL hr rfl (pa_cons (pv 1) (pa_cons (pv 2) pa_nil))))))
    (pss_one (ps_ret (pv 1))))), ?_⟩
  refine ⟨(by show 0 ≤ sizeLine; decide), fun pt hpt => ?_⟩
  have s1 := Same.new hpt (.tup [])
  refine ⟨(by show 1 ≤ sizeLine; decide), fun pl hpl => ?_⟩
  have s2 := Same.new hpl (.lst [.ref pt])
  have s12 := s1.trans s2
  refine ⟨_, rfl, pp, _, _, _, rfl, rfl, SqT.of (s12 _ _ hp), rfl, pb, rfl, ⟨us, SqL.of (s12 _ _ X.at_)⟩, for_list (K := K) (a := pb) (xs := us) (fun i σ H2 => ∃ (p : Addr) (us' : List V) (c2 : Option V), σ = [some (.ref pp), some (.ref p), c2] ∧ H p = none ∧ ValsAt H2 p us' ((bs.take i).foldl longer [[]]) ∧ Same H H2)
    ⟨pl, [.ref pt], none, rfl, Same.free s1 hpl, ⟨upd_same, ⟨rfl, fun i x y e1 e2 => ?_⟩⟩, s12⟩ (fun i σ H2 _ hh => by obtain ⟨_, _, _, _, _, _, s2⟩ := hh; exact SqL.of (s2 _ _ X.at_)) ?_ ?_⟩
  · rcases i with _ | i
    · cases e1
      cases e2
      exact ⟨pt, rfl, s2 _ _ upd_same⟩
    · simp at e1
  · rintro i x σ H2 hi ⟨p, us', c2, rfl, hpf, X2, s2⟩
    obtain ⟨b, hb, pq, rfl, hpq⟩ := X.each.at hi
    refine ⟨_, rfl, _, rfl, p, pq, us', _, b, rfl, X2, s2 _ _ hpq, ok b (List.mem_of_getElem? hb), fold_400 ok hb hv, fold_short ok h4 i, fun p3 us3 H3 hp3 s3 X3 => ?_⟩
    exact ⟨p3, us3, _, rfl, Same.free s2 hp3, by rw [fold_succ hb]; exact X3, s2.trans s3⟩
  · rintro σ H2 ⟨p, us', c2, rfl, hpf, X2, s2⟩
    rw [X.each.1, List.take_length] at X2
    exact ⟨_, rfl, q p us' H2 hpf s2 X2⟩
theorem scAreSo : FnScope ["some", "values", "saying"] ["some", "values"] (defScope sPAreSo) := ⟨rfl, rfl, rfl, by decide +kernel, rfl, by decide +kernel, by decide +kernel⟩
theorem all_false {α : Type} {f : α → Bool} {xs : List α} {x : α} (h : x ∈ xs) (e : f x = false) : xs.all f = false := by
  rw [List.all_eq_false]
  exact ⟨x, h, by rw [e]; exact Bool.false_ne_true⟩
theorem all_true {α : Type} {f : α → Bool} {xs : List α} (h : ∀ x ∈ xs, f x = true) : xs.all f = true := List.all_eq_true.mpr h
theorem ok_areSo (h : Has K mg "are_so" sPAreSo ["some", "values"]) (cI : Cal P w K mg base 2 "is_so" ["saying", "values"] spIsSo) : Cal P w K mg base 3 "are_so" ["some", "values"] spAreSo := by
  refine h.cal scAreSo (fun vs H Q E h => ?_) (fun f cdv A outer s H vs Q E hr h => ?_)
  · obtain ⟨po, pq, us, os, ns, rfl, _⟩ := h
    rfl
  obtain ⟨po, pq, us, os, ns, rfl, X, hq, hin, hb, q⟩ := h
  refine ⟨_, (pss_cons (ps_for PassesOwn.never rfl (pi_list (pv 0)) (pg_name (i := 2) scAreSo.nd rfl (Or.inl rfl)) (pss_one (ps_if (pt_not (pt_val (pe_cal cI hr rfl (pa_cons (pv 2) (pa_cons (pv 1) pa_nil))))) (pss_one (ps_ret pe_bl)) pss_nil)))
    (pss_one (ps_ret pe_bl))), ?_⟩
  refine ⟨_, rfl, po, rfl, ⟨us, SqL.of X.at_⟩, for_list (K := K) (a := po) (xs := us) (fun i σ H2 => (∃ c2 : Option V, σ = [some (.ref po), some (.ref pq), c2]) ∧ H2 = H ∧ ∀ o ∈ os.take i, o.so ns = true)
    ⟨⟨none, rfl⟩, rfl, (fun o ho => nomatch ho)⟩ (fun i σ H2 _ hh => by obtain ⟨_, e, _⟩ := hh; rw [e]; exact SqL.of X.at_) ?_ ?_⟩
  · rintro i x σ H2 hi ⟨⟨c2, rfl⟩, rfl, hall⟩
    obtain ⟨o, ho, p, rfl, hp⟩ := X.each.at hi
    have hm := List.mem_of_getElem? ho
    refine ⟨_, rfl, _, rfl, p, pq, o, ns, rfl, hp, hq, hin o hm, hb, _, rfl, ?_⟩
    cases e : o.so ns with
    | false =>
      refine iteT ?_
      have q' := q
      rw [all_false hm e] at q'
      exact q'
    | true =>
      refine iteF ?_
      refine ⟨⟨_, rfl⟩, rfl, fun o' ho' => ?_⟩
      rw [List.take_add_one, ho] at ho'
      rcases List.mem_append.mp ho' with z | z
      · exact hall o' z
      · rw [List.mem_singleton.mp z]
        exact e
  · rintro σ H2 ⟨⟨c2, rfl⟩, rfl, hall⟩
    rw [X.each.1, List.take_length] at hall
    rw [all_true hall] at q
    exact q
theorem scFollows : FnScope ["program", "saying", "others", "values"] ["program", "saying", "others"] (defScope sPFollows) := ⟨rfl, rfl, rfl, by decide +kernel, rfl, by decide +kernel, by decide +kernel⟩
theorem ok_follows (h : Has K mg "follows" sPFollows ["program", "saying", "others"]) (cV : Cal P w K mg base 2 "all_values" ["program"] spAllValues) (cI : Cal P w K mg base 2 "is_so" ["saying", "values"] spIsSo) (cA : Cal P w K mg base 3 "are_so" ["some", "values"] spAreSo) : Cal P w K mg base 4 "follows" ["program", "saying", "others"] spFollows := by
  refine h.cal scFollows (fun vs H Q E h => ?_) (fun f cdv A outer s H vs Q E hr h => ?_)
  · obtain ⟨pp, pb, ps, po, pw, us, uo, bs, s, os, rfl, _⟩ := h
    rfl
  obtain ⟨pp, pb, ps, po, pw, us, uo, bs, s, os, rfl, hp, X, ok, h4, hv, hs, sin, Y, oin, q⟩ := h
  have hr2 : Room 2 _ := hr.mono (by decide)
  refine ⟨_, (pss_cons (ps_for PassesOwn.never rfl (pi_list (pe_cal cV hr2 rfl (pa_cons (pv 0) pa_nil))) (pg_name (i := 3) scFollows.nd rfl (Or.inl rfl)) (pss_one (ps_if (PW.pt (pw_and (pt_not (pt_val (pe_cal cI hr2 rfl (pa_cons (pv 1) (pa_cons (pv 3) pa_nil))))) (pw_and1 (pt_val (pe_cal cA hr rfl (pa_cons (pv 2) (pa_cons (pv 3) pa_nil))))))) (pss_one (ps_ret pe_bl)) pss_nil)))
    (pss_one (ps_ret pe_bl))), ?_⟩
  refine ⟨_, rfl, pp, pb, pw, us, bs, rfl, hp, X, ok, h4, hv, fun pl ul H1 hpl s1 L1 => ?_⟩
  refine ⟨pl, rfl, ⟨ul, SqL.of L1.at_⟩, for_list (K := K) (a := pl) (xs := ul) (fun i σ H2 => (∃ c3 : Option V, σ = [some (.ref pp), some (.ref ps), some (.ref po), c3]) ∧ H2 = H1 ∧ ∀ v ∈ (allv bs).take i, (s.so v || !(os.all fun o => o.so v)) = true)
    ⟨⟨none, rfl⟩, rfl, (fun o ho => nomatch ho)⟩ (fun i σ H2 _ hh => by obtain ⟨_, e, _⟩ := hh; rw [e]; exact SqL.of L1.at_) ?_ ?_⟩
  · rintro i x σ H2 hi ⟨⟨c2, rfl⟩, rfl, hall⟩
    obtain ⟨v, hvi, p, rfl, hpv⟩ := L1.each.at hi
    have hm := List.mem_of_getElem? hvi
    have W := allv_mem ok hm
    have wl := W.1
    have wsm := W.sm ok
    have next : (s.so v || !(os.all fun o => o.so v)) = true → (∃ c3 : Option V, ([some (.ref pp), some (.ref ps), some (.ref po), some (.ref p)] : St) = [some (.ref pp), some (.ref ps), some (.ref po), c3]) ∧ H2 = H2 ∧ ∀ v ∈ (allv bs).take (i + 1), (s.so v || !(os.all fun o => o.so v)) = true := fun e =>
      ⟨⟨_, rfl⟩, rfl, fun v' hv' => by
        rw [List.take_add_one, hvi] at hv'
        rcases List.mem_append.mp hv' with z | z
        · exact hall v' z
        · rw [List.mem_singleton.mp z]
          exact e⟩
    refine ⟨_, rfl, _, rfl, ps, p, s, v, rfl, s1 _ _ hs, hpv, by rw [← wl]; exact sin, wsm, _, rfl, ?_⟩
    cases e : s.so v with
    | true => exact iteF (iteF (next (by rw [e]; rfl)))
    | false =>
      refine iteT ?_
      refine ⟨_, rfl, _, rfl, po, p, uo, os, v, rfl, Y.same s1, hpv, fun o ho => by rw [← wl]; exact oin o ho, wsm, _, rfl, ?_⟩
      cases e2 : os.all fun o => o.so v with
      | true =>
        refine iteT ?_
        have q' := q H2 s1
        unfold fol at q'
        rw [all_false hm (by rw [e, e2]; rfl)] at q'
        exact q'
      | false => exact iteF (next (by rw [e, e2]; rfl))
  · rintro σ H2 ⟨⟨c2, rfl⟩, rfl, hall⟩
    rw [L1.each.1, List.take_length] at hall
    have q' := q H2 s1
    unfold fol at q'
    rw [all_true hall] at q'
    exact q'
end

/-! ### whether a saying is so, by the law -/
def spSo : Sp := fun vs H Q _ => ∃ (p q : Addr) (s : Say) (ns : List Int), vs = [.ref p, .ref q] ∧ H p = some (.tup s.tup) ∧ H q = some (.tup (ns.map V.int)) ∧ s.In ns.length ∧ (∀ n ∈ ns, -1000 < n ∧ n < 1000) ∧ ∀ H', Same H H' → Q (.bl (s.so ns)) H'
section
variable {P : Program} {w : World} {K : PySem.W.Frag} {mg : Str → Option Value} {base : Heap}
theorem bl_or {A B : Prop} {b : Bool} (h1 : b = true → A) (h2 : b = false → B) : if b = true then A else B := by
  cases b with
  | true => exact iteT (h1 rfl)
  | false => exact iteF (h2 rfl)
theorem bl_dec' {Q : VK} {H : Hp} {b : Bool} {p : Prop} [Decidable p] (q : Q (.bl b) H) (e : p ↔ b = true) : Q (.bl (decide p)) H := by
  have : decide p = b := by
    cases b with
    | true => exact decide_eq_true (e.mpr rfl)
    | false => exact decide_eq_false fun z => absurd (e.mp z) Bool.false_ne_true
  rw [this]
  exact q
theorem scSo : FnScope ["s", "v", "one", "other"] ["s", "v"] (defScope sSo) := ⟨rfl, rfl, rfl, by decide +kernel, rfl, by decide +kernel, by decide +kernel⟩
theorem ok_so (h : Has K mg "_law_so" sSo ["s", "v"]) (B : Blt mg) : Cal P w K mg base 1 "_law_so" ["s", "v"] spSo := by
  refine h.cal scSo (fun vs H Q E h => ?_) (fun f cdv A outer s H vs Q E hr h => ?_)
  · obtain ⟨p, q, s, ns, rfl, _⟩ := h
    rfl
  obtain ⟨p, q, s, ns, rfl, hp, hq, hi, hb, k⟩ := h
  refine ⟨_, (pss_cons (ps_set (i := 2) scSo.nd rfl (Or.inl rfl) (pe_ix ix_tup (pv 1) (pe_ix ix_tup (pv 0) pe_int (fun _ _ => rfl)) (fun _ _ => rfl)))
    (pss_cons (ps_if (pt_cmpR op_in_seq (pe_ix ix_tup (pv 0) pe_int (fun _ _ => rfl)) (pe_tup (pa_cons pe_str (pa_cons pe_str pa_nil))) (by with_unfolding_all rfl)) (pss_one (ps_ret (pe_cmpR op_eq (pe_cmpR op_eq (pv 2) (pe_ix ix_tup (pv 0) pe_int (fun _ _ => rfl)) (nomark _)) (pe_cmpR op_eq (pe_ix ix_tup (pv 0) pe_int (fun _ _ => rfl)) pe_str (nomark _)) (nomark _)))) pss_nil)
    (pss_cons (ps_if (pt_cmpR op_in_seq (pe_ix ix_tup (pv 0) pe_int (fun _ _ => rfl)) (pe_tup (pa_cons pe_str (pa_cons pe_str pa_nil))) (by with_unfolding_all rfl)) (pss_one (ps_ret (pe_ix ix_list (pe_lst (pa_cons (pe_cmpR op_ge (pv 2) (pe_ix ix_tup (pv 0) pe_int (fun _ _ => rfl)) (nomark _)) (pa_cons (pe_cmpR op_le (pv 2) (pe_ix ix_tup (pv 0) pe_int (fun _ _ => rfl)) (nomark _)) pa_nil))) (pe_callTy call_int1 rfl B.int bt_int (pa_cons (pe_cmpR op_eq (pe_ix ix_tup (pv 0) pe_int (fun _ _ => rfl)) pe_str (nomark _)) pa_nil)) (fun _ _ => rfl)))) pss_nil)
    (pss_cons (ps_if (pt_cmpR op_eq (pe_ix ix_tup (pv 0) pe_int (fun _ _ => rfl)) pe_str (nomark _)) (pss_one (ps_ret (pe_cmpR op_eq (pe_op op_mod (pe_op op_sub (pv 2) (pe_ix ix_tup (pv 0) pe_int (fun _ _ => rfl))) (pe_ix ix_tup (pv 0) pe_int (fun _ _ => rfl))) pe_int (nomark _)))) pss_nil)
    (pss_cons (ps_if (pt_cmpR op_eq (pe_ix ix_tup (pv 0) pe_int (fun _ _ => rfl)) pe_str (nomark _)) (pss_one (ps_ret (pe_cmpR op_in_seq (pv 2) (pe_tup (pa_cons (pe_ix ix_tup (pv 0) pe_int (fun _ _ => rfl)) (pa_cons (pe_ix ix_tup (pv 0) pe_int (fun _ _ => rfl)) pa_nil))) (by with_unfolding_all rfl)))) pss_nil)
    (pss_cons (ps_set (i := 3) scSo.nd rfl (Or.inl rfl) (pe_ix ix_tup (pv 1) (pe_ix ix_tup (pv 0) pe_int (fun _ _ => rfl)) (fun _ _ => rfl)))
    (pss_cons (ps_if (pt_cmpR op_eq (pe_ix ix_tup (pv 0) pe_int (fun _ _ => rfl)) pe_str (nomark _)) (pss_one (ps_ret (pe_cmpR op_eq (pv 2) (pv 3) (nomark _)))) pss_nil)
    (pss_cons (ps_if (pt_cmpR op_in_seq (pe_ix ix_tup (pv 0) pe_int (fun _ _ => rfl)) (pe_tup (pa_cons pe_str (pa_cons pe_str pa_nil))) (by with_unfolding_all rfl)) (pss_one (ps_ret (pe_or (pe_cmpR op_lt (pv 2) (pv 3) (nomark _)) (pe_one (pe_and (pe_cmpR op_eq (pe_ix ix_tup (pv 0) pe_int (fun _ _ => rfl)) pe_str (nomark _)) (pe_one (pe_cmpR op_eq (pv 2) (pv 3) (nomark _)))))))) pss_nil)
    (pss_cons (ps_if (pt_cmpR op_eq (pe_ix ix_tup (pv 0) pe_int (fun _ _ => rfl)) pe_str (nomark _)) (pss_one (ps_ret (pe_cmpR op_eq (pv 2) (pe_op op_add (pv 3) (pe_ix ix_tup (pv 0) pe_int (fun _ _ => rfl))) (nomark _)))) pss_nil)
    (pss_cons (ps_if (pt_cmpR op_eq (pe_ix ix_tup (pv 0) pe_int (fun _ _ => rfl)) pe_str (nomark _)) (pss_one (ps_ret (pe_cmpR op_eq (pv 2) (pe_op op_sub (pe_ix ix_tup (pv 0) pe_int (fun _ _ => rfl)) (pv 3)) (nomark _)))) pss_nil)
    (pss_cons (ps_if (pt_cmpR op_eq (pe_ix ix_tup (pv 0) pe_int (fun _ _ => rfl)) pe_str (nomark _)) (pss_one (ps_ret (pe_cmpR op_eq (pe_op op_add (pv 2) (pv 3)) (pe_ix ix_tup (pv 1) (pe_ix ix_tup (pv 0) pe_int (fun _ _ => rfl)) (fun _ _ => rfl)) (nomark _)))) pss_nil)
    (pss_one (ps_ret (pe_cmpR op_eq (pe_op op_mul (pv 2) (pv 3)) (pe_ix ix_tup (pv 1) (pe_ix ix_tup (pv 0) pe_int (fun _ _ => rfl)) (fun _ _ => rfl)) (nomark _))))))))))))))), ?_⟩
  have s0 : Same H H := Same.refl _
  have hq0 := hq
  cases s with
  | is_ a n =>
    have ha : a < ns.length := hi
    wtm_at "ss"
    refine ⟨q, _, _, _, rfl, rfl, SqT.of hq0, val_at ha, ?_⟩
    wtm_at "ss"
    refine ⟨(by show 2 ≤ sizeLine; decide), fun t1 ht1 => ?_⟩
    have s1 : Same H _ := s0.trans (Same.new ht1 (.tup [.str "is", .str "never"]))
    have hp1 := s1 _ _ hp
    have hq1 := s1 _ _ hq
    have u1 : (upd H t1 (.tup [.str "is", .str "never"])) t1 = some (.tup [.str "is", .str "never"]) := upd_same
    generalize upd H t1 (.tup [.str "is", .str "never"]) = H1 at *
    refine ⟨t1, _, rfl, .inr (SqT.of u1), rfl, rfl, ?_⟩
    wtm_at "ss"
    refine bl_eq (k _ s1) ?_
    rw [dec_bl, dec_int]
    show _ = (ns.getD a 0 == n)
    generalize (ns.getD a 0 == n) = b
    cases b <;> decide +kernel
  | frm a n =>
    have ha : a < ns.length := hi
    wtm_at "ss"
    refine ⟨q, _, _, _, rfl, rfl, SqT.of hq0, val_at ha, ?_⟩
    wtm_at "ss"
    refine ⟨(by show 2 ≤ sizeLine; decide), fun t1 ht1 => ?_⟩
    have s1 : Same H _ := s0.trans (Same.new ht1 (.tup [.str "is", .str "never"]))
    have hp1 := s1 _ _ hp
    have hq1 := s1 _ _ hq
    have u1 : (upd H t1 (.tup [.str "is", .str "never"])) t1 = some (.tup [.str "is", .str "never"]) := upd_same
    generalize upd H t1 (.tup [.str "is", .str "never"]) = H1 at *
    refine ⟨t1, _, rfl, .inr (SqT.of u1), rfl, rfl, ?_⟩
    wtm_at "ss"
    refine ⟨(by show 2 ≤ sizeLine; decide), fun t2 ht2 => ?_⟩
    have s2 : Same H _ := s1.trans (Same.new ht2 (.tup [.str "from", .str "to"]))
    have hp2 := s2 _ _ hp
    have hq2 := s2 _ _ hq
    have u2 : (upd H1 t2 (.tup [.str "from", .str "to"])) t2 = some (.tup [.str "from", .str "to"]) := upd_same
    generalize upd H1 t2 (.tup [.str "from", .str "to"]) = H2 at *
    refine ⟨t2, _, rfl, .inr (SqT.of u2), rfl, rfl, ?_⟩
    wtm_at "ss"
    refine ⟨(by show 2 ≤ sizeLine; decide), fun l hl => ?_⟩
    have s3 : Same H _ := s2.trans (Same.new hl (.lst [.bl (decide (n ≤ ns.getD a 0)), .bl (decide (ns.getD a 0 ≤ n))]))
    have hp3 := s3 _ _ hp
    have u3 : (upd H2 l (.lst [.bl (decide (n ≤ ns.getD a 0)), .bl (decide (ns.getD a 0 ≤ n))])) l = some (.lst [.bl (decide (n ≤ ns.getD a 0)), .bl (decide (ns.getD a 0 ≤ n))]) := upd_same
    generalize upd H2 l (.lst [.bl (decide (n ≤ ns.getD a 0)), .bl (decide (ns.getD a 0 ≤ n))]) = H3 at *
    wtm_at "ss"
    refine .inr ⟨_, rfl, ?_⟩
    refine ⟨l, _, _, _, rfl, rfl, SqL.of u3, rfl, ?_⟩
    exact k _ s3
  | to_ a n =>
    have ha : a < ns.length := hi
    wtm_at "ss"
    refine ⟨q, _, _, _, rfl, rfl, SqT.of hq0, val_at ha, ?_⟩
    wtm_at "ss"
    refine ⟨(by show 2 ≤ sizeLine; decide), fun t1 ht1 => ?_⟩
    have s1 : Same H _ := s0.trans (Same.new ht1 (.tup [.str "is", .str "never"]))
    have hp1 := s1 _ _ hp
    have hq1 := s1 _ _ hq
    have u1 : (upd H t1 (.tup [.str "is", .str "never"])) t1 = some (.tup [.str "is", .str "never"]) := upd_same
    generalize upd H t1 (.tup [.str "is", .str "never"]) = H1 at *
    refine ⟨t1, _, rfl, .inr (SqT.of u1), rfl, rfl, ?_⟩
    wtm_at "ss"
    refine ⟨(by show 2 ≤ sizeLine; decide), fun t2 ht2 => ?_⟩
    have s2 : Same H _ := s1.trans (Same.new ht2 (.tup [.str "from", .str "to"]))
    have hp2 := s2 _ _ hp
    have hq2 := s2 _ _ hq
    have u2 : (upd H1 t2 (.tup [.str "from", .str "to"])) t2 = some (.tup [.str "from", .str "to"]) := upd_same
    generalize upd H1 t2 (.tup [.str "from", .str "to"]) = H2 at *
    refine ⟨t2, _, rfl, .inr (SqT.of u2), rfl, rfl, ?_⟩
    wtm_at "ss"
    refine ⟨(by show 2 ≤ sizeLine; decide), fun l hl => ?_⟩
    have s3 : Same H _ := s2.trans (Same.new hl (.lst [.bl (decide (n ≤ ns.getD a 0)), .bl (decide (ns.getD a 0 ≤ n))]))
    have hp3 := s3 _ _ hp
    have u3 : (upd H2 l (.lst [.bl (decide (n ≤ ns.getD a 0)), .bl (decide (ns.getD a 0 ≤ n))])) l = some (.lst [.bl (decide (n ≤ ns.getD a 0)), .bl (decide (ns.getD a 0 ≤ n))]) := upd_same
    generalize upd H2 l (.lst [.bl (decide (n ≤ ns.getD a 0)), .bl (decide (ns.getD a 0 ≤ n))]) = H3 at *
    wtm_at "ss"
    refine .inr ⟨_, rfl, ?_⟩
    refine ⟨l, _, _, _, rfl, rfl, SqL.of u3, rfl, ?_⟩
    exact k _ s3
  | rest a m r =>
    have ha : a < ns.length := hi.1
    have hm : 0 < m := hi.2
    wtm_at "ss"
    refine ⟨q, _, _, _, rfl, rfl, SqT.of hq0, val_at ha, ?_⟩
    wtm_at "ss"
    refine ⟨(by show 2 ≤ sizeLine; decide), fun t1 ht1 => ?_⟩
    have s1 : Same H _ := s0.trans (Same.new ht1 (.tup [.str "is", .str "never"]))
    have hp1 := s1 _ _ hp
    have hq1 := s1 _ _ hq
    have u1 : (upd H t1 (.tup [.str "is", .str "never"])) t1 = some (.tup [.str "is", .str "never"]) := upd_same
    generalize upd H t1 (.tup [.str "is", .str "never"]) = H1 at *
    refine ⟨t1, _, rfl, .inr (SqT.of u1), rfl, rfl, ?_⟩
    wtm_at "ss"
    refine ⟨(by show 2 ≤ sizeLine; decide), fun t2 ht2 => ?_⟩
    have s2 : Same H _ := s1.trans (Same.new ht2 (.tup [.str "from", .str "to"]))
    have hp2 := s2 _ _ hp
    have hq2 := s2 _ _ hq
    have u2 : (upd H1 t2 (.tup [.str "from", .str "to"])) t2 = some (.tup [.str "from", .str "to"]) := upd_same
    generalize upd H1 t2 (.tup [.str "from", .str "to"]) = H2 at *
    refine ⟨t2, _, rfl, .inr (SqT.of u2), rfl, rfl, ?_⟩
    wtm_at "ss"
    exact bl_eq (k _ s2) dec_int
  | eith a n m =>
    have ha : a < ns.length := hi
    wtm_at "ss"
    refine ⟨q, _, _, _, rfl, rfl, SqT.of hq0, val_at ha, ?_⟩
    wtm_at "ss"
    refine ⟨(by show 2 ≤ sizeLine; decide), fun t1 ht1 => ?_⟩
    have s1 : Same H _ := s0.trans (Same.new ht1 (.tup [.str "is", .str "never"]))
    have hp1 := s1 _ _ hp
    have hq1 := s1 _ _ hq
    have u1 : (upd H t1 (.tup [.str "is", .str "never"])) t1 = some (.tup [.str "is", .str "never"]) := upd_same
    generalize upd H t1 (.tup [.str "is", .str "never"]) = H1 at *
    refine ⟨t1, _, rfl, .inr (SqT.of u1), rfl, rfl, ?_⟩
    wtm_at "ss"
    refine ⟨(by show 2 ≤ sizeLine; decide), fun t2 ht2 => ?_⟩
    have s2 : Same H _ := s1.trans (Same.new ht2 (.tup [.str "from", .str "to"]))
    have hp2 := s2 _ _ hp
    have hq2 := s2 _ _ hq
    have u2 : (upd H1 t2 (.tup [.str "from", .str "to"])) t2 = some (.tup [.str "from", .str "to"]) := upd_same
    generalize upd H1 t2 (.tup [.str "from", .str "to"]) = H2 at *
    refine ⟨t2, _, rfl, .inr (SqT.of u2), rfl, rfl, ?_⟩
    wtm_at "ss"
    refine ⟨(by show 2 ≤ sizeLine; decide), fun t3 ht3 => ?_⟩
    refine ⟨t3, _, rfl, .inr (SqT.of upd_same), rfl, rfl, ?_⟩
    refine bl_eq (k _ (s2.trans (Same.new ht3 _))) ?_
    show ((n == ns.getD a 0) || ((m == ns.getD a 0) || false)) = (ns.getD a 0 == n || ns.getD a 0 == m)
    rw [Bool.or_false, BEq.comm (a := n), BEq.comm (a := m)]
  | nev a n =>
    have ha : a < ns.length := hi
    wtm_at "ss"
    refine ⟨q, _, _, _, rfl, rfl, SqT.of hq0, val_at ha, ?_⟩
    wtm_at "ss"
    refine ⟨(by show 2 ≤ sizeLine; decide), fun t1 ht1 => ?_⟩
    have s1 : Same H _ := s0.trans (Same.new ht1 (.tup [.str "is", .str "never"]))
    have hp1 := s1 _ _ hp
    have hq1 := s1 _ _ hq
    have u1 : (upd H t1 (.tup [.str "is", .str "never"])) t1 = some (.tup [.str "is", .str "never"]) := upd_same
    generalize upd H t1 (.tup [.str "is", .str "never"]) = H1 at *
    refine ⟨t1, _, rfl, .inr (SqT.of u1), rfl, rfl, ?_⟩
    wtm_at "ss"
    refine bl_eq (k _ s1) ?_
    rw [dec_bl, dec_int]
    show _ = !(ns.getD a 0 == n)
    generalize (ns.getD a 0 == n) = b
    cases b <;> decide +kernel
  | same a b =>
    have ha : a < ns.length := hi.1
    wtm_at "ss"
    refine ⟨q, _, _, _, rfl, rfl, SqT.of hq0, val_at ha, ?_⟩
    wtm_at "ss"
    refine ⟨(by show 2 ≤ sizeLine; decide), fun t1 ht1 => ?_⟩
    have s1 : Same H _ := s0.trans (Same.new ht1 (.tup [.str "is", .str "never"]))
    have hp1 := s1 _ _ hp
    have hq1 := s1 _ _ hq
    have u1 : (upd H t1 (.tup [.str "is", .str "never"])) t1 = some (.tup [.str "is", .str "never"]) := upd_same
    generalize upd H t1 (.tup [.str "is", .str "never"]) = H1 at *
    refine ⟨t1, _, rfl, .inr (SqT.of u1), rfl, rfl, ?_⟩
    wtm_at "ss"
    refine ⟨(by show 2 ≤ sizeLine; decide), fun t2 ht2 => ?_⟩
    have s2 : Same H _ := s1.trans (Same.new ht2 (.tup [.str "from", .str "to"]))
    have hp2 := s2 _ _ hp
    have hq2 := s2 _ _ hq
    have u2 : (upd H1 t2 (.tup [.str "from", .str "to"])) t2 = some (.tup [.str "from", .str "to"]) := upd_same
    generalize upd H1 t2 (.tup [.str "from", .str "to"]) = H2 at *
    refine ⟨t2, _, rfl, .inr (SqT.of u2), rfl, rfl, ?_⟩
    wtm_at "ss"
    refine ⟨q, _, _, _, rfl, rfl, SqT.of hq2, val_at hi.2, ?_⟩
    wtm_at "ss"
    exact bl_eq (k _ s2) dec_int
  | below a b =>
    have ha : a < ns.length := hi.1
    wtm_at "ss"
    refine ⟨q, _, _, _, rfl, rfl, SqT.of hq0, val_at ha, ?_⟩
    wtm_at "ss"
    refine ⟨(by show 2 ≤ sizeLine; decide), fun t1 ht1 => ?_⟩
    have s1 : Same H _ := s0.trans (Same.new ht1 (.tup [.str "is", .str "never"]))
    have hp1 := s1 _ _ hp
    have hq1 := s1 _ _ hq
    have u1 : (upd H t1 (.tup [.str "is", .str "never"])) t1 = some (.tup [.str "is", .str "never"]) := upd_same
    generalize upd H t1 (.tup [.str "is", .str "never"]) = H1 at *
    refine ⟨t1, _, rfl, .inr (SqT.of u1), rfl, rfl, ?_⟩
    wtm_at "ss"
    refine ⟨(by show 2 ≤ sizeLine; decide), fun t2 ht2 => ?_⟩
    have s2 : Same H _ := s1.trans (Same.new ht2 (.tup [.str "from", .str "to"]))
    have hp2 := s2 _ _ hp
    have hq2 := s2 _ _ hq
    have u2 : (upd H1 t2 (.tup [.str "from", .str "to"])) t2 = some (.tup [.str "from", .str "to"]) := upd_same
    generalize upd H1 t2 (.tup [.str "from", .str "to"]) = H2 at *
    refine ⟨t2, _, rfl, .inr (SqT.of u2), rfl, rfl, ?_⟩
    wtm_at "ss"
    refine ⟨q, _, _, _, rfl, rfl, SqT.of hq2, val_at hi.2, ?_⟩
    wtm_at "ss"
    refine ⟨(by show 2 ≤ sizeLine; decide), fun t3 ht3 => ?_⟩
    have s3 : Same H _ := s2.trans (Same.new ht3 (.tup [.str "below", .str "most"]))
    have hp3 := s3 _ _ hp
    have hq3 := s3 _ _ hq
    have u3 : (upd H2 t3 (.tup [.str "below", .str "most"])) t3 = some (.tup [.str "below", .str "most"]) := upd_same
    generalize upd H2 t3 (.tup [.str "below", .str "most"]) = H3 at *
    refine ⟨t3, _, rfl, .inr (SqT.of u3), rfl, rfl, ?_⟩
    wtm_at "ss"
    refine bl_or (fun c => ?_) (fun c => ?_)
    · refine bl_eq (k _ s3) ?_
      show true = decide (ns.getD a 0 < ns.getD b 0)
      rw [c]
    · wtm_at "ss"
      refine bl_eq (k _ s3) ?_
      show false = decide (ns.getD a 0 < ns.getD b 0)
      rw [c]
  | most a b =>
    have ha : a < ns.length := hi.1
    wtm_at "ss"
    refine ⟨q, _, _, _, rfl, rfl, SqT.of hq0, val_at ha, ?_⟩
    wtm_at "ss"
    refine ⟨(by show 2 ≤ sizeLine; decide), fun t1 ht1 => ?_⟩
    have s1 : Same H _ := s0.trans (Same.new ht1 (.tup [.str "is", .str "never"]))
    have hp1 := s1 _ _ hp
    have hq1 := s1 _ _ hq
    have u1 : (upd H t1 (.tup [.str "is", .str "never"])) t1 = some (.tup [.str "is", .str "never"]) := upd_same
    generalize upd H t1 (.tup [.str "is", .str "never"]) = H1 at *
    refine ⟨t1, _, rfl, .inr (SqT.of u1), rfl, rfl, ?_⟩
    wtm_at "ss"
    refine ⟨(by show 2 ≤ sizeLine; decide), fun t2 ht2 => ?_⟩
    have s2 : Same H _ := s1.trans (Same.new ht2 (.tup [.str "from", .str "to"]))
    have hp2 := s2 _ _ hp
    have hq2 := s2 _ _ hq
    have u2 : (upd H1 t2 (.tup [.str "from", .str "to"])) t2 = some (.tup [.str "from", .str "to"]) := upd_same
    generalize upd H1 t2 (.tup [.str "from", .str "to"]) = H2 at *
    refine ⟨t2, _, rfl, .inr (SqT.of u2), rfl, rfl, ?_⟩
    wtm_at "ss"
    refine ⟨q, _, _, _, rfl, rfl, SqT.of hq2, val_at hi.2, ?_⟩
    wtm_at "ss"
    refine ⟨(by show 2 ≤ sizeLine; decide), fun t3 ht3 => ?_⟩
    have s3 : Same H _ := s2.trans (Same.new ht3 (.tup [.str "below", .str "most"]))
    have hp3 := s3 _ _ hp
    have hq3 := s3 _ _ hq
    have u3 : (upd H2 t3 (.tup [.str "below", .str "most"])) t3 = some (.tup [.str "below", .str "most"]) := upd_same
    generalize upd H2 t3 (.tup [.str "below", .str "most"]) = H3 at *
    refine ⟨t3, _, rfl, .inr (SqT.of u3), rfl, rfl, ?_⟩
    wtm_at "ss"
    refine bl_or (fun c => ?_) (fun c => ?_)
    · refine bl_eq (k _ s3) ?_
      show true = decide (ns.getD a 0 ≤ ns.getD b 0)
      have := of_decide_eq_true c
      exact (decide_eq_true (by omega)).symm
    · wtm_at "ss"
      refine bl_eq (k _ s3) ?_
      have := of_decide_eq_false c
      show decide (V.int (ns.getD a 0) = V.int (ns.getD b 0)) = decide (ns.getD a 0 ≤ ns.getD b 0)
      rw [decide_eq_decide]
      exact ⟨fun z => by have := V.int.inj z; omega, fun z => by congr 1; omega⟩
  | gap a b n =>
    have ha : a < ns.length := hi.1
    wtm_at "ss"
    refine ⟨q, _, _, _, rfl, rfl, SqT.of hq0, val_at ha, ?_⟩
    wtm_at "ss"
    refine ⟨(by show 2 ≤ sizeLine; decide), fun t1 ht1 => ?_⟩
    have s1 : Same H _ := s0.trans (Same.new ht1 (.tup [.str "is", .str "never"]))
    have hp1 := s1 _ _ hp
    have hq1 := s1 _ _ hq
    have u1 : (upd H t1 (.tup [.str "is", .str "never"])) t1 = some (.tup [.str "is", .str "never"]) := upd_same
    generalize upd H t1 (.tup [.str "is", .str "never"]) = H1 at *
    refine ⟨t1, _, rfl, .inr (SqT.of u1), rfl, rfl, ?_⟩
    wtm_at "ss"
    refine ⟨(by show 2 ≤ sizeLine; decide), fun t2 ht2 => ?_⟩
    have s2 : Same H _ := s1.trans (Same.new ht2 (.tup [.str "from", .str "to"]))
    have hp2 := s2 _ _ hp
    have hq2 := s2 _ _ hq
    have u2 : (upd H1 t2 (.tup [.str "from", .str "to"])) t2 = some (.tup [.str "from", .str "to"]) := upd_same
    generalize upd H1 t2 (.tup [.str "from", .str "to"]) = H2 at *
    refine ⟨t2, _, rfl, .inr (SqT.of u2), rfl, rfl, ?_⟩
    wtm_at "ss"
    refine ⟨q, _, _, _, rfl, rfl, SqT.of hq2, val_at hi.2, ?_⟩
    wtm_at "ss"
    refine ⟨(by show 2 ≤ sizeLine; decide), fun t3 ht3 => ?_⟩
    have s3 : Same H _ := s2.trans (Same.new ht3 (.tup [.str "below", .str "most"]))
    have hp3 := s3 _ _ hp
    have hq3 := s3 _ _ hq
    have u3 : (upd H2 t3 (.tup [.str "below", .str "most"])) t3 = some (.tup [.str "below", .str "most"]) := upd_same
    generalize upd H2 t3 (.tup [.str "below", .str "most"]) = H3 at *
    refine ⟨t3, _, rfl, .inr (SqT.of u3), rfl, rfl, ?_⟩
    wtm_at "ss"
    refine bl_dec' (k _ s3) ?_
    show _ ↔ (ns.getD a 0 - ns.getD b 0 == n) = true
    rw [beq_iff_eq]
    exact ⟨fun z => by have := V.int.inj z; omega, fun z => by congr 1; omega⟩
  | sum a b n =>
    have ha : a < ns.length := hi.1
    wtm_at "ss"
    refine ⟨q, _, _, _, rfl, rfl, SqT.of hq0, val_at ha, ?_⟩
    wtm_at "ss"
    refine ⟨(by show 2 ≤ sizeLine; decide), fun t1 ht1 => ?_⟩
    have s1 : Same H _ := s0.trans (Same.new ht1 (.tup [.str "is", .str "never"]))
    have hp1 := s1 _ _ hp
    have hq1 := s1 _ _ hq
    have u1 : (upd H t1 (.tup [.str "is", .str "never"])) t1 = some (.tup [.str "is", .str "never"]) := upd_same
    generalize upd H t1 (.tup [.str "is", .str "never"]) = H1 at *
    refine ⟨t1, _, rfl, .inr (SqT.of u1), rfl, rfl, ?_⟩
    wtm_at "ss"
    refine ⟨(by show 2 ≤ sizeLine; decide), fun t2 ht2 => ?_⟩
    have s2 : Same H _ := s1.trans (Same.new ht2 (.tup [.str "from", .str "to"]))
    have hp2 := s2 _ _ hp
    have hq2 := s2 _ _ hq
    have u2 : (upd H1 t2 (.tup [.str "from", .str "to"])) t2 = some (.tup [.str "from", .str "to"]) := upd_same
    generalize upd H1 t2 (.tup [.str "from", .str "to"]) = H2 at *
    refine ⟨t2, _, rfl, .inr (SqT.of u2), rfl, rfl, ?_⟩
    wtm_at "ss"
    refine ⟨q, _, _, _, rfl, rfl, SqT.of hq2, val_at hi.2, ?_⟩
    wtm_at "ss"
    refine ⟨(by show 2 ≤ sizeLine; decide), fun t3 ht3 => ?_⟩
    have s3 : Same H _ := s2.trans (Same.new ht3 (.tup [.str "below", .str "most"]))
    have hp3 := s3 _ _ hp
    have hq3 := s3 _ _ hq
    have u3 : (upd H2 t3 (.tup [.str "below", .str "most"])) t3 = some (.tup [.str "below", .str "most"]) := upd_same
    generalize upd H2 t3 (.tup [.str "below", .str "most"]) = H3 at *
    refine ⟨t3, _, rfl, .inr (SqT.of u3), rfl, rfl, ?_⟩
    wtm_at "ss"
    refine bl_dec' (k _ s3) ?_
    show _ ↔ (ns.getD a 0 + ns.getD b 0 == n) = true
    rw [beq_iff_eq]
    exact ⟨fun z => by have := V.int.inj z; omega, fun z => by congr 1; omega⟩
  | adds a b c =>
    have ha : a < ns.length := hi.1
    wtm_at "ss"
    refine ⟨q, _, _, _, rfl, rfl, SqT.of hq0, val_at ha, ?_⟩
    wtm_at "ss"
    refine ⟨(by show 2 ≤ sizeLine; decide), fun t1 ht1 => ?_⟩
    have s1 : Same H _ := s0.trans (Same.new ht1 (.tup [.str "is", .str "never"]))
    have hp1 := s1 _ _ hp
    have hq1 := s1 _ _ hq
    have u1 : (upd H t1 (.tup [.str "is", .str "never"])) t1 = some (.tup [.str "is", .str "never"]) := upd_same
    generalize upd H t1 (.tup [.str "is", .str "never"]) = H1 at *
    refine ⟨t1, _, rfl, .inr (SqT.of u1), rfl, rfl, ?_⟩
    wtm_at "ss"
    refine ⟨(by show 2 ≤ sizeLine; decide), fun t2 ht2 => ?_⟩
    have s2 : Same H _ := s1.trans (Same.new ht2 (.tup [.str "from", .str "to"]))
    have hp2 := s2 _ _ hp
    have hq2 := s2 _ _ hq
    have u2 : (upd H1 t2 (.tup [.str "from", .str "to"])) t2 = some (.tup [.str "from", .str "to"]) := upd_same
    generalize upd H1 t2 (.tup [.str "from", .str "to"]) = H2 at *
    refine ⟨t2, _, rfl, .inr (SqT.of u2), rfl, rfl, ?_⟩
    wtm_at "ss"
    refine ⟨q, _, _, _, rfl, rfl, SqT.of hq2, val_at hi.2.1, ?_⟩
    wtm_at "ss"
    refine ⟨(by show 2 ≤ sizeLine; decide), fun t3 ht3 => ?_⟩
    have s3 : Same H _ := s2.trans (Same.new ht3 (.tup [.str "below", .str "most"]))
    have hp3 := s3 _ _ hp
    have hq3 := s3 _ _ hq
    have u3 : (upd H2 t3 (.tup [.str "below", .str "most"])) t3 = some (.tup [.str "below", .str "most"]) := upd_same
    generalize upd H2 t3 (.tup [.str "below", .str "most"]) = H3 at *
    refine ⟨t3, _, rfl, .inr (SqT.of u3), rfl, rfl, ?_⟩
    wtm_at "ss"
    refine ⟨q, _, _, _, rfl, rfl, SqT.of hq3, val_at hi.2.2, ?_⟩
    wtm_at "ss"
    exact bl_eq (k _ s3) dec_int
  | times a b c =>
    have ha : a < ns.length := hi.1
    have hb1 := hb _ (getD_mem hi.1)
    wtm_at "ss"
    refine ⟨q, _, _, _, rfl, rfl, SqT.of hq0, val_at ha, ?_⟩
    wtm_at "ss"
    refine ⟨(by show 2 ≤ sizeLine; decide), fun t1 ht1 => ?_⟩
    have s1 : Same H _ := s0.trans (Same.new ht1 (.tup [.str "is", .str "never"]))
    have hp1 := s1 _ _ hp
    have hq1 := s1 _ _ hq
    have u1 : (upd H t1 (.tup [.str "is", .str "never"])) t1 = some (.tup [.str "is", .str "never"]) := upd_same
    generalize upd H t1 (.tup [.str "is", .str "never"]) = H1 at *
    refine ⟨t1, _, rfl, .inr (SqT.of u1), rfl, rfl, ?_⟩
    wtm_at "ss"
    refine ⟨(by show 2 ≤ sizeLine; decide), fun t2 ht2 => ?_⟩
    have s2 : Same H _ := s1.trans (Same.new ht2 (.tup [.str "from", .str "to"]))
    have hp2 := s2 _ _ hp
    have hq2 := s2 _ _ hq
    have u2 : (upd H1 t2 (.tup [.str "from", .str "to"])) t2 = some (.tup [.str "from", .str "to"]) := upd_same
    generalize upd H1 t2 (.tup [.str "from", .str "to"]) = H2 at *
    refine ⟨t2, _, rfl, .inr (SqT.of u2), rfl, rfl, ?_⟩
    wtm_at "ss"
    refine ⟨q, _, _, _, rfl, rfl, SqT.of hq2, val_at hi.2.1, ?_⟩
    wtm_at "ss"
    refine ⟨(by show 2 ≤ sizeLine; decide), fun t3 ht3 => ?_⟩
    have s3 : Same H _ := s2.trans (Same.new ht3 (.tup [.str "below", .str "most"]))
    have hp3 := s3 _ _ hp
    have hq3 := s3 _ _ hq
    have u3 : (upd H2 t3 (.tup [.str "below", .str "most"])) t3 = some (.tup [.str "below", .str "most"]) := upd_same
    generalize upd H2 t3 (.tup [.str "below", .str "most"]) = H3 at *
    refine ⟨t3, _, rfl, .inr (SqT.of u3), rfl, rfl, ?_⟩
    wtm_at "ss"
    refine ⟨cmw (by omega) (by omega), ?_⟩
    wtm_at "ss"
    refine ⟨q, _, _, _, rfl, rfl, SqT.of hq3, val_at hi.2.2, ?_⟩
    wtm_at "ss"
    exact bl_eq (k _ s3) dec_int
end

/-! ### truths as figures of two -/
/-- the number whose figures by two are the truths -/
def bw (bs : List Bool) : Nat := bs.foldl (fun n b => n * 2 + if b then 1 else 0) 0
theorem bw_snoc (bs : List Bool) (b : Bool) : bw (bs ++ [b]) = bw bs * 2 + if b then 1 else 0 := by
  unfold bw
  rw [List.foldl_append]
  rfl
def rowOf (vs : List (List Int)) (s : Say) : Nat := bw (vs.map fun v => s.so v)
theorem and_nat (a b : Nat) : Builtin.bitAnd (a : Int) (b : Int) = ((a &&& b : Nat) : Int) := by
  unfold Builtin.bitAnd
  rw [decide_eq_true (show (0 : Int) ≤ (a : Int) by omega), decide_eq_true (show (0 : Int) ≤ (b : Int) by omega)]
  rfl
def spBitsOf : Sp := fun vs H Q _ => ∃ (p : Addr) (ts : List Bool), vs = [.ref p] ∧ H p = some (.lst (ts.map V.bl)) ∧ Q (.int (bw ts : Nat)) H
def spSoBits : Sp := fun vs H Q _ => ∃ (ps pe : Addr) (s : Say) (us : List V) (vl : List (List Int)) (many : Nat), vs = [.ref ps, .ref pe] ∧ H ps = some (.tup s.tup) ∧ ValsAt H pe us vl ∧ vl.length ≤ 400 ∧ s.In many ∧ (∀ v ∈ vl, v.length = many ∧ ∀ n ∈ v, -1000 < n ∧ n < 1000) ∧
  ∀ H', Same H H' → Q (.int (rowOf vl s : Nat)) H'
section
variable {P : Program} {w : World} {K : PySem.W.Frag} {mg : Str → Option Value} {base : Heap}
theorem scBitsOf : FnScope ["truths", "bits", "truth"] ["truths"] (defScope sPBitsOf) := ⟨rfl, rfl, rfl, by decide +kernel, rfl, by decide +kernel, by decide +kernel⟩
theorem ok_bitsOf (h : Has K mg "bits_of" sPBitsOf ["truths"]) : Cal P w K mg base 1 "bits_of" ["truths"] spBitsOf := by
  refine h.cal scBitsOf (fun vs H Q E h => ?_) (fun f cdv A outer s H vs Q E hr h => ?_)
  · obtain ⟨p, ts, rfl, _⟩ := h
    rfl
  obtain ⟨p, ts, rfl, hp, q⟩ := h
  refine ⟨_, (pss_cons (ps_set (i := 1) scBitsOf.nd rfl (Or.inl rfl) pe_int)
    (pss_cons (ps_for PassesOwn.never rfl (pi_list (pv 0)) (pg_name (i := 2) scBitsOf.nd rfl (Or.inl rfl)) (pss_one (ps_set (i := 1) scBitsOf.nd rfl (Or.inl rfl) (pe_op op_add (pe_op op_mul (pv 1) pe_int) (pe_ifExp (pt_val (pv 2)) pe_int pe_int)))))
    (pss_one (ps_ret (pv 1))))), ?_⟩
  refine ⟨_, rfl, p, rfl, ⟨_, SqL.of hp⟩, for_list (K := K) (a := p) (xs := ts.map V.bl) (fun i σ H' => (∃ c : Option V, σ = [some (.ref p), some (.int (bw (ts.take i) : Nat)), c]) ∧ H' = H)
    ⟨⟨none, rfl⟩, rfl⟩ (fun i σ H' _ hh => by obtain ⟨_, e⟩ := hh; rw [e]; exact SqL.of hp) ?_ ?_⟩
  · rintro i x σ H' hi ⟨⟨c, rfl⟩, e⟩
    rw [e]
    rw [List.getElem?_map] at hi
    obtain ⟨b, hb, rfl⟩ := Option.map_eq_some_iff.mp hi
    have hs : bw (ts.take (i + 1)) = bw (ts.take i) * 2 + if b then 1 else 0 := by
      rw [List.take_add_one, hb]
      exact bw_snoc _ _
    refine ⟨_, rfl, _, _, rfl, rfl, .inr ⟨by decide, by decide⟩, _, rfl, b, rfl, ?_⟩
    cases b with
    | true => exact iteT ⟨_, _, rfl, rfl, ⟨_, by rw [hs]; rfl⟩, rfl⟩
    | false => exact iteF ⟨_, _, rfl, rfl, ⟨_, by rw [hs]; rfl⟩, rfl⟩
  · rintro σ H' ⟨⟨c, rfl⟩, e⟩
    rw [e, List.length_map, List.take_length]
    exact ⟨_, rfl, q⟩
theorem scSoBits : FnScope ["saying", "every"] ["saying", "every"] (defScope sPSoBits) := ⟨rfl, rfl, rfl, by decide +kernel, rfl, by decide +kernel, by decide +kernel⟩
theorem ok_soBits (h : Has K mg "so_bits" sPSoBits ["saying", "every"]) (cI : Cal P w K mg base 2 "is_so" ["saying", "values"] spIsSo) (cB : Cal P w K mg base 1 "bits_of" ["truths"] spBitsOf) : Cal P w K mg base 3 "so_bits" ["saying", "every"] spSoBits := by
  refine h.cal scSoBits (fun vs H Q E h => ?_) (fun f cdv A outer s H vs Q E hr h => ?_)
  · obtain ⟨ps, pe, s, us, vl, many, rfl, _⟩ := h
    rfl
  obtain ⟨ps, pe, s, us, vl, many, rfl, hs, X, l4, sin, ok, q⟩ := h
  have hr2 : Room 2 _ := hr
  have hr1 : Room 1 _ := hr.mono (by decide)
  refine ⟨_, (pss_one (ps_ret (pe_cal cB hr1 rfl (pa_cons (pe_lcC (defScope sPSoBits) ["saying", "every"] (N := ["values", "saying"]) (ix := [none, some 0]) rfl ⟨rfl, by decide +kernel, by decide +kernel, by decide +kernel, rfl, by decide +kernel⟩ (pi_list (pv 1)) (fun _ _ _ _ => pg_name (i := 0) (show (["values", "saying"] : List Str).Nodup by decide +kernel) rfl (Or.inl rfl)) (fun _ _ _ _ => pts_nil) (fun _ _ _ _ => (pe_cal cI hr2 rfl (pa_cons (pv 1) (pa_cons (pv 0) pa_nil))))) pa_nil)))), ?_⟩
  refine ⟨_, rfl, pe, rfl, ⟨_, SqL.of X.at_⟩, fun D hD => ?_⟩
  refine lc_list (K := K) (a := pe) (xs := us) (fun i ys σ H' => ∃ c0 : Option V, σ = [c0, some (.ref ps)] ∧ ys = ((vl.take i).map fun v => s.so v).map V.bl ∧ H' D = some (.lst ys) ∧ Same H H')
    ⟨none, rfl, rfl, upd_same, Same.new hD _⟩ (fun i ys σ H' _ hh => by obtain ⟨_, _, _, _, e⟩ := hh; exact SqL.of (e _ _ X.at_)) ?_ ?_
  · rintro i x ys σ H' hi ⟨c0, rfl, rfl, hD', e'⟩
    obtain ⟨v, hv, p, rfl, hp⟩ := X.each.at hi
    have vok := ok v (List.mem_of_getElem? hv)
    have hil := (List.getElem?_eq_some_iff.mp hv).1
    refine lc_yes ⟨_, rfl, _, rfl, ps, p, s, v, rfl, e' _ _ hs, e' _ _ hp, by rw [vok.1]; exact sin, vok.2, ?_⟩
    refine ⟨hD', small1000 (by rw [List.length_map, List.length_map, List.length_take]; omega), _, rfl, ?_, upd_same, fun c u z => ?_⟩
    · rw [List.take_add_one, hv, List.map_append, List.map_append]
      rfl
    · rw [upd_ne (ne_of_none z hD)]
      exact e' _ _ z
  · rintro ys σ H' ⟨c0, rfl, rfl, hD', e'⟩
    rw [X.each.1, List.take_length] at hD'
    exact ⟨D, _, rfl, hD', q H' e'⟩
end

/-! ### what all ahead have in common; the law's own figures; how many looks -/
def ahd (full : Nat) (rows : List Nat) (i : Nat) : Nat := (rows.take i).foldl (fun a b => a &&& b) full
theorem ahd_succ {full : Nat} {rows : List Nat} {i r : Nat} (h : rows[i]? = some r) : ahd full rows (i + 1) = ahd full rows i &&& r := by
  unfold ahd
  rw [List.take_add_one, h, List.foldl_append]
  rfl
def nums (ns : List Nat) : List V := ns.map fun n => V.int (n : Nat)
def spAhead : Sp := fun vs H Q _ => ∃ (pr : Addr) (full : Nat) (rows : List Nat), vs = [.ref pr, .int (full : Nat)] ∧ H pr = some (.lst (nums rows)) ∧ rows.length ≤ 10000 ∧
  ∀ (p : Addr) (H' : Hp), H p = none → Same H H' → H' p = some (.lst (nums ((List.range rows.length).map (ahd full rows)))) → Q (.ref p) H'
section
variable {P : Program} {w : World} {K : PySem.W.Frag} {mg : Str → Option Value} {base : Heap}
theorem scAhead : FnScope ["some_bits", "full", "told", "common", "bits"] ["some_bits", "full"] (defScope sPBitsAhead) := ⟨rfl, rfl, rfl, by decide +kernel, rfl, by decide +kernel, by decide +kernel⟩
theorem ok_ahead (h : Has K mg "bits_ahead" sPBitsAhead ["some_bits", "full"]) : Cal P w K mg base 1 "bits_ahead" ["some_bits", "full"] spAhead := by
  refine h.cal scAhead (fun vs H Q E h => ?_) (fun f cdv A outer s H vs Q E hr h => ?_)
  · obtain ⟨pr, full, rows, rfl, _⟩ := h
    rfl
  obtain ⟨pr, full, rows, rfl, hr0, l, q⟩ := h
  refine ⟨_, (pss_cons (ps_set (i := 2) scAhead.nd rfl (Or.inl rfl) (pe_lst pa_nil))
    (pss_cons (ps_set (i := 3) scAhead.nd rfl (Or.inl rfl) (pv 1))
    (pss_cons (ps_for PassesOwn.never rfl (pi_list (pv 0)) (pg_name (i := 4) scAhead.nd rfl (Or.inl rfl)) (pss_cons (ps_expr (pe_bm PySem.F.plainAttrs_list PySem.F.slot_list_append PySem.F.type_list_append mt_append (pv 2) (pa_cons (pv 3) pa_nil)))
    (pss_one (ps_set (i := 3) scAhead.nd rfl (Or.inl rfl) (pe_op op_and (pv 3) (pv 4))))))
    (pss_one (ps_ret (pv 2)))))), ?_⟩
  refine ⟨(by show 0 ≤ sizeLine; decide), fun p hp => ?_⟩
  refine ⟨_, rfl, _, rfl, pr, rfl, ⟨_, SqL.of (Same.new hp _ _ _ hr0)⟩, for_list (K := K) (a := pr) (xs := nums rows) (fun i σ H' => (∃ c : Option V, σ = [some (.ref pr), some (.int (full : Nat)), some (.ref p), some (.int (ahd full rows i : Nat)), c]) ∧ Same H H' ∧ H' p = some (.lst (nums ((List.range i).map (ahd full rows)))))
    ⟨⟨none, rfl⟩, Same.new hp _, upd_same⟩ (fun i σ H' _ hh => by obtain ⟨_, e, _⟩ := hh; exact SqL.of (e _ _ hr0)) ?_ ?_⟩
  · rintro i x σ H' hi ⟨⟨c, rfl⟩, e, hp'⟩
    unfold nums at hi
    rw [List.getElem?_map] at hi
    obtain ⟨b, hb, rfl⟩ := Option.map_eq_some_iff.mp hi
    have hil := (List.getElem?_eq_some_iff.mp hb).1
    refine ⟨_, rfl, .inl ⟨rfl, _, SqL.of hp'⟩, _, rfl, p, _, _, rfl, rfl, hp', sz (by unfold nums; rw [List.length_map, List.length_map, List.length_range]; omega), ?_⟩
    refine ⟨_, rfl, _, rfl, _, _, rfl, rfl, ⟨some (.int (b : Nat)), ?_⟩, fun c u z => ?_, ?_⟩
    · rw [ahd_succ hb, ← and_nat]
      rfl
    · rw [upd_ne (ne_of_none z hp)]
      exact e _ _ z
    · rw [upd_same, List.range_succ, List.map_append]
      unfold nums
      rw [List.map_append]
      rfl
  · rintro σ H' ⟨⟨c, rfl⟩, e, hp'⟩
    rw [show (nums rows).length = rows.length from List.length_map ..] at hp'
    exact ⟨_, rfl, q p H' hp e hp'⟩
def spBits : Sp := fun vs H Q _ => ∃ (ps pe : Addr) (s : Say) (us : List V) (vl : List (List Int)) (many : Nat), vs = [.ref ps, .ref pe] ∧ H ps = some (.tup s.tup) ∧ ValsAt H pe us vl ∧ s.In many ∧ (∀ v ∈ vl, v.length = many ∧ ∀ n ∈ v, -1000 < n ∧ n < 1000) ∧
  ∀ H', Same H H' → Q (.int (rowOf vl s : Nat)) H'
theorem scBits : FnScope ["s", "values", "bits", "v"] ["s", "values"] (defScope sBits) := ⟨rfl, rfl, rfl, by decide +kernel, rfl, by decide +kernel, by decide +kernel⟩
theorem ok_bits (h : Has K mg "_law_bits" sBits ["s", "values"]) (B : Blt mg) (cS : Cal P w K mg base 1 "_law_so" ["s", "v"] spSo) : Cal P w K mg base 2 "_law_bits" ["s", "values"] spBits := by
  refine h.cal scBits (fun vs H Q E h => ?_) (fun f cdv A outer s H vs Q E hr h => ?_)
  · obtain ⟨ps, pe, s, us, vl, many, rfl, _⟩ := h
    rfl
  obtain ⟨ps, pe, s, us, vl, many, rfl, hs, X, sin, ok, q⟩ := h
  refine ⟨_, (pss_cons (ps_set (i := 2) scBits.nd rfl (Or.inl rfl) pe_int)
    (pss_cons (ps_for PassesOwn.never rfl (pi_list (pv 1)) (pg_name (i := 3) scBits.nd rfl (Or.inl rfl)) (pss_one (ps_set (i := 2) scBits.nd rfl (Or.inl rfl) (pe_op op_add (pe_op op_mul pe_int (pv 2)) (pe_callTy call_int1 rfl B.int bt_int (pa_cons (pe_cal cS hr rfl (pa_cons (pv 0) (pa_cons (pv 3) pa_nil))) pa_nil))))))
    (pss_one (ps_ret (pv 2))))), ?_⟩
  refine ⟨_, rfl, pe, rfl, ⟨_, SqL.of X.at_⟩, for_list (K := K) (a := pe) (xs := us) (fun i σ H' => (∃ c : Option V, σ = [some (.ref ps), some (.ref pe), some (.int (rowOf (vl.take i) s : Nat)), c]) ∧ Same H H')
    ⟨⟨none, rfl⟩, Same.refl _⟩ (fun i σ H' _ hh => by obtain ⟨_, e⟩ := hh; exact SqL.of (e _ _ X.at_)) ?_ ?_⟩
  · rintro i x σ H' hi ⟨⟨c, rfl⟩, e⟩
    obtain ⟨v, hv, p, rfl, hp⟩ := X.each.at hi
    have vok := ok v (List.mem_of_getElem? hv)
    have hsn : ((rowOf (vl.take (i + 1)) s : Nat) : Int) = 2 * (rowOf (vl.take i) s : Nat) + if s.so v then 1 else 0 := by
      unfold rowOf
      rw [List.take_add_one, hv, List.map_append]
      show ((bw (_ ++ [s.so v]) : Nat) : Int) = _
      rw [bw_snoc]
      cases s.so v
      · show ((bw _ * 2 + 0 : Nat) : Int) = 2 * ((bw _ : Nat) : Int) + 0
        omega
      · show ((bw _ * 2 + 1 : Nat) : Int) = 2 * ((bw _ : Nat) : Int) + 1
        omega
    refine ⟨_, rfl, _, _, rfl, rfl, .inl ⟨by decide, by decide⟩, _, rfl, _, rfl, ps, p, s, v, rfl, e _ _ hs, e _ _ hp, by rw [vok.1]; exact sin, vok.2, fun H'' e' => ?_⟩
    exact .inr ⟨_, rfl, _, _, rfl, rfl, ⟨_, by rw [hsn]; rfl⟩, e.trans e'⟩
  · rintro σ H' ⟨⟨c, rfl⟩, e⟩
    rw [X.each.1, List.take_length]
    exact ⟨_, rfl, q H' e⟩
end

/-! ### reasons -/
/-- unlike ones, where each comes first -/
def fk (rs : List Nat) : List Nat := rs.foldl (fun acc r => if r ∈ acc then acc else acc ++ [r]) []
def fidx (rs : List Nat) (n : Nat) : Option Nat := rs.findIdx? fun r => decide (r = n)
theorem fk_snoc (rs : List Nat) (r : Nat) : fk (rs ++ [r]) = if r ∈ fk rs then fk rs else fk rs ++ [r] := by
  unfold fk
  rw [List.foldl_append]
  rfl
theorem fk_in : ∀ (rs acc : List Nat) (n : Nat), n ∈ rs.foldl (fun acc r => if r ∈ acc then acc else acc ++ [r]) acc ↔ n ∈ acc ∨ n ∈ rs
  | [], acc, n => by simp
  | r :: t, acc, n => by
    rw [List.foldl_cons, fk_in t, List.mem_cons]
    by_cases h : r ∈ acc
    · rw [if_pos h]
      constructor
      · rintro (z | z)
        · exact .inl z
        · exact .inr (.inr z)
      · rintro (z | z | z)
        · exact .inl z
        · exact .inl (z ▸ h)
        · exact .inr z
    · rw [if_neg h, List.mem_append, List.mem_singleton]
      constructor
      · rintro ((z | z) | z)
        · exact .inl z
        · exact .inr (.inl z)
        · exact .inr (.inr z)
      · rintro (z | z | z)
        · exact .inl (.inl z)
        · exact .inl (.inr z)
        · exact .inr z
theorem fk_mem {rs : List Nat} {n : Nat} : n ∈ fk rs ↔ n ∈ rs := by
  unfold fk
  rw [fk_in]
  simp
theorem fk_le : ∀ (rs acc : List Nat), (rs.foldl (fun acc r => if r ∈ acc then acc else acc ++ [r]) acc).length ≤ acc.length + rs.length
  | [], acc => by simp
  | r :: t, acc => by
    rw [List.foldl_cons]
    have h := fk_le t (if r ∈ acc then acc else acc ++ [r])
    have h2 : (if r ∈ acc then acc else acc ++ [r]).length ≤ acc.length + 1 := by split <;> simp
    rw [List.length_cons]
    omega
theorem fk_len (rs : List Nat) : (fk rs).length ≤ rs.length := by
  have h := fk_le rs []
  rw [List.length_nil, Nat.zero_add] at h
  exact h
theorem fidx_snoc (rs : List Nat) (r n : Nat) : fidx (rs ++ [r]) n = (fidx rs n).or (if r = n then some rs.length else none) := by
  unfold fidx
  rw [List.findIdx?_append]
  congr 1
  by_cases e : r = n
  · rw [if_pos e]; simp [e]
  · rw [if_neg e]; simp [e]
theorem fidx_some {rs : List Nat} {n : Nat} (h : n ∈ rs) : ∃ j, fidx rs n = some j ∧ rs[j]? = some n := by
  cases e : fidx rs n with
  | none =>
    unfold fidx at e
    rw [List.findIdx?_eq_none_iff] at e
    have := e n h
    simp at this
  | some j =>
    refine ⟨j, rfl, ?_⟩
    unfold fidx at e
    rw [List.findIdx?_eq_some_iff_getElem] at e
    obtain ⟨hj, h1, _⟩ := e
    rw [List.getElem?_eq_getElem hj, of_decide_eq_true h1]
theorem fidx_none {rs : List Nat} {n : Nat} : fidx rs n = none ↔ ¬ n ∈ rs := by
  constructor
  · intro h z
    obtain ⟨j, e, _⟩ := fidx_some z
    rw [h] at e
    cases e
  · intro h
    unfold fidx
    rw [List.findIdx?_eq_none_iff]
    intro x hx
    exact decide_eq_false (fun z => h (z ▸ hx))
/-- the first c of them, in their order, that leave nothing of w -/
def fe : List Nat → Nat → Nat → Option (List Nat)
  | [], c, w => if c = 0 then (if w = 0 then some [] else none) else none
  | b :: r, c, w => if c = 0 then (if w = 0 then some [] else none) else
    match fe r (c - 1) (w &&& b) with
    | some m => some (b :: m)
    | none => fe r c w
theorem fe_zero (bits : List Nat) (w : Nat) : fe bits 0 w = if w = 0 then some [] else none := by cases bits <;> rfl
theorem fe_cons (b : Nat) (r : List Nat) (c w : Nat) : fe (b :: r) (c + 1) w = match fe r c (w &&& b) with | some m => some (b :: m) | none => fe r (c + 1) w := rfl
theorem fe_mem : ∀ {bits : List Nat} {c w : Nat} {m : List Nat}, fe bits c w = some m → m.Sublist bits ∧ m.length = c
  | bits, 0, w, m, h => by
    rw [fe_zero] at h
    split at h
    · cases h
      exact ⟨List.nil_sublist _, rfl⟩
    · cases h
  | [], c + 1, w, m, h => nomatch h
  | b :: r, c + 1, w, m, h => by
    rw [fe_cons] at h
    cases e : fe r c (w &&& b) with
    | some m' =>
      rw [e] at h
      cases h
      obtain ⟨h1, h2⟩ := fe_mem e
      exact ⟨h1.cons₂ b, by rw [List.length_cons, h2]⟩
    | none =>
      rw [e] at h
      obtain ⟨h1, h2⟩ := fe_mem (bits := r) h
      exact ⟨h1.cons b, h2⟩
def wrongOf (vl : List (List Int)) (s : Say) : Nat := bw (vl.map fun v => !s.so v)
def wrows (vl : List (List Int)) (s : Say) (os : List Say) : List Nat := os.map fun o => wrongOf vl s &&& rowOf vl o
def rsn (vl : List (List Int)) (s : Say) (os : List Say) : Option (List Nat) := (List.range 4).findSome? fun c => fe (fk (wrows vl s os)) c (wrongOf vl s)
def spFirst : Sp := fun vs H Q _ => ∃ (p : Addr) (rs : List Nat), vs = [.ref p] ∧ H p = some (.lst (nums rs)) ∧ rs.length ≤ 10000 ∧
  ∀ (d : Addr) (kvs : List (Key × V)) (H' : Hp), H d = none → Same H H' → H' d = some (.dK kvs) → kvs.map (·.1) = (fk rs).map (fun n => (Sum.inl ((n : Nat) : Int) : Key)) → (∀ n : Nat, valV kvs (.inl (n : Int)) = (fidx rs n).map fun j => V.int (j : Nat)) → Q (.ref d) H'
def spEnough (c : Nat) : Sp := fun vs H Q _ => ∃ (p : Addr) (w st : Nat) (bits : List Nat), vs = [.int (w : Nat), .ref p, .int (st : Nat), .int (c : Nat)] ∧ H p = some (.lst (nums bits)) ∧ bits.length ≤ 10000 ∧ st ≤ bits.length ∧
  (fe (bits.drop st) c w = none → ∀ H', Same H H' → Q .non H') ∧ (∀ m, fe (bits.drop st) c w = some m → ∀ (p' : Addr) (H' : Hp), H p' = none → Same H H' → H' p' = some (.lst (nums m)) → Q (.ref p') H')
def spEnoughs (n : Nat) : Sp := fun vs H Q E => ∃ c, c ≤ n ∧ spEnough c vs H Q E
def spReason : Sp := fun vs H Q _ => ∃ (pp pb ps po : Addr) (pw : V) (us uo : List V) (bs : List Box) (s : Say) (os : List Say), vs = [.ref pp, .ref ps, .ref po] ∧ H pp = some (.tup [.ref pb, pw]) ∧ BoxesAt H pb us bs ∧ (∀ b ∈ bs, b.Ok) ∧ bs.length ≤ 4 ∧ vol bs ≤ 400 ∧ H ps = some (.tup s.tup) ∧ s.In bs.length ∧ SaysAt H po uo os ∧ (∀ o ∈ os, o.In bs.length) ∧ os.length ≤ 10000 ∧
  (rsn (allv bs) s os = none → ∀ H', Same H H' → Q .non H') ∧ (∀ m, rsn (allv bs) s os = some m → ∀ (p : Addr) (H' : Hp), H p = none → Same H H' → H' p = some (.lst (m.map fun b => uo.getD ((fidx (wrows (allv bs) s os) b).getD 0) .non)) → Q (.ref p) H')
section
variable {P : Program} {w : World} {K : PySem.W.Frag} {mg : Str → Option Value} {base : Heap}
theorem nums_ix {ns : List Nat} {i n : Nat} (h : ns[i]? = some n) : atI (nums ns) ((i : Nat) : Int) = some (.int (n : Nat)) := by
  refine atI_nat ?_
  unfold nums
  rw [List.getElem?_map, h]
  rfl
theorem scFirst : FnScope ["some_bits", "places", "place", "bits"] ["some_bits"] (defScope sPFirstPlaces) := ⟨rfl, rfl, rfl, by decide +kernel, rfl, by decide +kernel, by decide +kernel⟩
theorem ok_first (h : Has K mg "first_places" sPFirstPlaces ["some_bits"]) (B : Blt mg) : Cal P w K mg base 1 "first_places" ["some_bits"] spFirst := by
  refine h.cal scFirst (fun vs H Q E h => ?_) (fun f cdv A outer s H vs Q E hr h => ?_)
  · obtain ⟨p, rs, rfl, _⟩ := h
    rfl
  obtain ⟨p, rs, rfl, hp, l, q⟩ := h
  have hu1 := hr.units
  have hu2 := Nat.lt_of_le_of_lt (Nat.add_le_add_left (show 1 ≤ 64 by decide) _) hu1
  refine ⟨_, (pss_cons (ps_set (i := 1) scFirst.nd rfl (Or.inl rfl) pe_dnewK)
    (pss_cons (ps_for PassesOwn.never rfl (pi_enum rfl B.enumerate (pa_cons (pv 0) pa_nil)) (pg_tup rfl (pgs_cons (pg_name (i := 2) scFirst.nd rfl (Or.inl rfl)) (pgs_cons (pg_name (i := 3) scFirst.nd rfl (Or.inl rfl)) pgs_nil))) (pss_one (ps_expr (pe_dsd hu2 (pv 1) (pv 3) (pv 2) ⟨rfl, rfl, rfl, rfl⟩))))
    (pss_one (ps_ret (pv 1))))), ?_⟩
  intro d hd
  have nl : (nums rs).length = rs.length := List.length_map ..
  refine ⟨_, rfl, p, rfl, ⟨_, Same.new hd _ _ _ hp⟩, for_enum (a := p) (xs := nums rs) (fun i σ H' => ∃ (kvs : List (Key × V)) (c2 c3 : Option V), σ = [some (.ref p), some (.ref d), c2, c3] ∧ H' d = some (.dK kvs) ∧ kvs.length ≤ i ∧ kvs.map (·.1) = (fk (rs.take i)).map (fun n => (Sum.inl ((n : Nat) : Int) : Key)) ∧ (∀ n : Nat, valV kvs (.inl (n : Int)) = (fidx (rs.take i) n).map fun j => V.int (j : Nat)) ∧ Same H H')
    ⟨[], none, none, rfl, upd_same, Nat.le_refl _, rfl, (fun k => rfl), Same.new hd _⟩ (fun i σ H' _ hh => by obtain ⟨_, _, _, _, _, _, _, _, e⟩ := hh; exact e _ _ hp) ?_ ?_⟩
  · rintro i x σ H' T hi ⟨kvs, c2, c3, rfl, hd', hk, hkeys, hval, e'⟩ hT
    unfold nums at hi
    rw [List.getElem?_map] at hi
    obtain ⟨b, hb, rfl⟩ := Option.map_eq_some_iff.mp hi
    have hil := (List.getElem?_eq_some_iff.mp hb).1
    have tl : (rs.take i).length = i := by rw [List.length_take]; omega
    have sT := Same.new hT (.tup [.int (i : Nat), .int (b : Nat)])
    have hdT := sT _ _ hd'
    have eT := e'.trans sT
    refine ⟨T, _, rfl, SqT.of upd_same, rfl, _, _, rfl, _, _, rfl, rfl, ?_⟩
    generalize upd H' T (.tup [.int (i : Nat), .int (b : Nat)]) = H2 at *
    have tk : rs.take (i + 1) = rs.take i ++ [b] := by rw [List.take_add_one, hb]; rfl
    refine ⟨_, rfl, d, rfl, .inl ⟨_, .inl hdT⟩, _, rfl, _, rfl, valV kvs (.inl (b : Int)), .inl ⟨kvs, .inl (b : Int), .inl hdT, rfl, rfl⟩, fun z ez => ?_, fun en => ⟨_, .inl ⟨kvs, .inl (b : Int), hdT, rfl, sz (by omega), rfl⟩, ?_⟩⟩
    · have hin : b ∈ fk (rs.take i) := by
        rw [fk_mem]
        refine Classical.byContradiction fun z => ?_
        rw [hval b, fidx_none.mpr z] at ez
        cases ez
      refine ⟨kvs, _, _, rfl, hdT, by omega, ?_, fun n => ?_, eT⟩
      · rw [tk, fk_snoc, if_pos hin]
        exact hkeys
      · rw [tk, fidx_snoc, hval n, tl]
        by_cases e : b = n
        · obtain ⟨j, ej, _⟩ := fidx_some (fk_mem.mp hin)
          rw [← e, ej]
          rfl
        · rw [if_neg e, Option.or_none]
    · have hno : ¬ b ∈ rs.take i := by
        rw [← fidx_none]
        rw [hval b] at en
        cases hf : fidx (rs.take i) b with
        | none => rfl
        | some j => rw [hf] at en; cases en
      have hpk : putK kvs (.inl (b : Int)) (.int (i : Nat)) = kvs ++ [(.inl (b : Int), .int (i : Nat))] := by
        unfold putK
        rw [valV_any, en]
        rfl
      refine ⟨putK kvs (.inl (b : Int)) (.int (i : Nat)), _, _, rfl, upd_same, by rw [hpk, List.length_append, List.length_singleton]; omega, ?_, fun n => ?_, fun c u z => ?_⟩
      · rw [hpk, tk, fk_snoc, if_neg (fun z => hno (fk_mem.mp z)), List.map_append, List.map_append, hkeys]
        rfl
      · rw [valV_put, tk, fidx_snoc, tl]
        by_cases e : n = b
        · rw [if_pos (by rw [e]), e, if_pos rfl, fidx_none.mpr hno]
          rfl
        · rw [if_neg (fun z => e (by injection z with z; omega)), if_neg (fun z => e z.symm), Option.or_none]
          exact hval n
      · rw [upd_ne (ne_of_none z hd)]
        exact eT _ _ z
  · rintro σ H' ⟨kvs, c2, c3, rfl, hd', hk, hkeys, hval, e'⟩
    rw [nl, List.take_length] at hkeys hval
    exact ⟨_, rfl, q d kvs H' hd e' hd' hkeys hval⟩
theorem scEnough : FnScope ["wrong", "some_bits", "start", "count", "k", "more"] ["wrong", "some_bits", "start", "count"] (defScope sPFirstEnough) := ⟨rfl, rfl, rfl, by decide +kernel, rfl, by decide +kernel, by decide +kernel⟩
theorem ok_enough1 (h : Has K mg "first_enough" sPFirstEnough ["wrong", "some_bits", "start", "count"]) (B : Blt mg) (n k : Nat) (spR : Sp) (hR : ∀ c, c + 1 ≤ n → ∀ vs H Q E, spEnough c vs H Q E → spR vs H Q E) (cR : Cal P w K mg base k "first_enough" ["wrong", "some_bits", "start", "count"] spR) : Cal P w K mg base (k + 1) "first_enough" ["wrong", "some_bits", "start", "count"] (spEnoughs n) := by
  refine h.cal scEnough (fun vs H Q E h => ?_) (fun f cdv A outer s H vs Q E hr h => ?_)
  · obtain ⟨c, _, p, w', st, bits, rfl, _⟩ := h
    rfl
  obtain ⟨c, cn, p, w', st, bits, rfl, hp, bl, stl, qn, qs⟩ := h
  refine ⟨_, (pss_cons (ps_if (pt_cmpR op_eq (pv 3) pe_int (nomark _)) (pss_one (ps_ret (pe_ifExp (pt_cmpR op_eq (pv 0) pe_int (nomark _)) (pe_lst pa_nil) pe_non))) pss_nil)
    (pss_cons (ps_for PassesOwn.never rfl (pi_range2 rfl B.range (pa_cons (pv 2) (pa_cons (pe_callB call_len_seq rfl B.len bt_len (pa_cons (pv 1) pa_nil)) pa_nil))) (pg_name (i := 4) scEnough.nd rfl (Or.inl rfl)) (pss_cons (ps_set (i := 5) scEnough.nd rfl (Or.inl rfl) (pe_cal cR hr rfl (pa_cons (pe_op op_and (pv 0) (pe_ix ix_list (pv 1) (pv 4) (fun _ _ => rfl))) (pa_cons (pv 1) (pa_cons (pe_op op_add (pv 4) pe_int) (pa_cons (pe_op op_sub (pv 3) pe_int) pa_nil))))))
    (pss_one (ps_if (pt_cmp (pc_notN (pv 5))) (pss_one (ps_ret (pe_op op_cat (pe_lst (pa_cons (pe_ix ix_list (pv 1) (pv 4) (fun _ _ => rfl)) pa_nil)) (pv 5)))) pss_nil))))
    (pss_one (ps_ret pe_non)))), ?_⟩
  refine ⟨_, rfl, rfl, _, rfl, ?_⟩
  cases c with
  | zero =>
    rw [fe_zero] at qn qs
    refine iteB (decide_eq_true rfl) ?_
    refine ⟨_, rfl, rfl, _, rfl, ?_⟩
    by_cases hw : w' = 0
    · rw [if_pos hw] at qs
      refine iteB (decide_eq_true (by rw [hw]; rfl)) ?_
      exact ⟨(by show 0 ≤ sizeLine; decide), fun pl hpl => qs [] rfl pl _ hpl (Same.new hpl _) upd_same⟩
    · rw [if_neg hw] at qn
      refine iteC (decide_eq_false (fun z => hw (by have := V.int.inj z; omega))) ?_
      exact qn rfl H (Same.refl _)
  | succ c =>
    refine iteC (decide_eq_false (fun z => by have := V.int.inj z; omega)) ?_
    have nl : (nums bits).length = bits.length := List.length_map ..
    refine ⟨_, rfl, _, rfl, p, _, rfl, .inl (SqL.of hp), _, _, rfl, ⟨by omega, by omega, by omega, by omega⟩, ?_⟩
    refine for_range (lo := (st : Int)) (n := (((nums bits).length : Int) - (st : Int)).toNat) (fun i σ H' => (∃ c4 c5 : Option V, σ = [some (.int (w' : Nat)), some (.ref p), some (.int (st : Nat)), some (.int ((c + 1 : Nat) : Int)), c4, c5]) ∧ Same H H' ∧ fe (bits.drop (st + i)) (c + 1) w' = fe (bits.drop st) (c + 1) w')
      ⟨⟨none, none, rfl⟩, Same.refl _, rfl⟩ ?_ ?_
    · rintro i σ H' hi ⟨⟨c4, c5, rfl⟩, e', hfe⟩
      have hk : st + i < bits.length := by omega
      obtain ⟨b, hb⟩ : ∃ b, bits[st + i]? = some b := ⟨_, List.getElem?_eq_getElem hk⟩
      have hdr : bits.drop (st + i) = b :: bits.drop (st + i + 1) := by
        rw [List.drop_eq_getElem_cons hk]
        congr 1
        rw [List.getElem?_eq_getElem hk] at hb
        exact Option.some.inj hb
      have ei : (st : Int) + (i : Int) = ((st + i : Nat) : Int) := by omega
      rw [ei]
      rw [hdr, fe_cons] at hfe
      have hp' := e' _ _ hp
      refine ⟨_, rfl, _, rfl, _, rfl, p, _, _, _, rfl, rfl, SqL.of hp', nums_ix hb, _, _, rfl, rfl, ?_⟩
      dsimp only
      rw [and_nat]
      refine ⟨_, rfl, _, rfl, _, _, rfl, rfl, _, rfl, _, _, rfl, rfl, ?_⟩
      have e1 : ((st + i : Nat) : Int) + 1 = ((st + i + 1 : Nat) : Int) := by omega
      have e2 : ((c + 1 : Nat) : Int) - 1 = ((c : Nat) : Int) := by omega
      dsimp only
      rw [e1, e2]
      refine hR c cn _ _ _ _ ⟨p, w' &&& b, st + i + 1, bits, rfl, hp', bl, hk, fun en H2 s2 => ?_, fun m em p' H2 hp2 s2 h2 => ?_⟩
      · rw [en] at hfe
        refine ⟨_, rfl, _, rfl, iteC ?_ ?_⟩
        · rw [decide_eq_true rfl]
          rfl
        · exact ⟨⟨_, _, rfl⟩, e'.trans s2, hfe⟩
      · rw [em] at hfe
        refine ⟨_, rfl, _, rfl, iteB ?_ ?_⟩
        · rw [decide_eq_false (fun z => nomatch z)]
          rfl
        · refine ⟨_, rfl, _, rfl, p, _, _, _, rfl, rfl, SqL.of (s2 _ _ hp'), nums_ix hb, (by show 1 ≤ sizeLine; decide), fun pl hpl => ?_⟩
          have s3 := Same.new hpl (.lst [.int (b : Nat)])
          have hm := (fe_mem em).2
          have hml : (nums m).length ≤ 10000 := by
            have h3 := (fe_mem em).1.length_le
            have : (nums m).length = m.length := List.length_map ..
            rw [List.length_drop] at h3
            omega
          refine ⟨_, rfl, pl, p', _, _, rfl, rfl, upd_same, s3 _ _ h2, sz' (by rw [List.length_singleton]; omega), fun pr hpr => ?_⟩
          have s13 := (e'.trans s2).trans s3
          exact qs (b :: m) hfe.symm pr _ (Same.free s13 hpr) (s13.trans (Same.new hpr _)) upd_same
    · rintro σ H' ⟨⟨c4, c5, rfl⟩, e', hfe⟩
      have : st + (((nums bits).length : Int) - (st : Int)).toNat = bits.length := by omega
      rw [this, List.drop_length] at hfe
      exact qn hfe.symm H' e'
theorem all_enough (h : Has K mg "first_enough" sPFirstEnough ["wrong", "some_bits", "start", "count"]) (B : Blt mg) : ∀ n : Nat, Cal P w K mg base (n + 1) "first_enough" ["wrong", "some_bits", "start", "count"] (spEnoughs n)
  | 0 => ok_enough1 h B 0 0 (fun _ _ _ _ => False) (fun c e => absurd e (Nat.not_succ_le_zero _)) (h.none fun _ _ _ _ z => z)
  | n + 1 => ok_enough1 h B (n + 1) (n + 1) (spEnoughs n) (fun c e vs H Q E z => ⟨c, Nat.le_of_succ_le_succ e, z⟩) (all_enough h B n)
end

/-! ### the reason told -/
section
variable {P : Program} {w : World} {K : PySem.W.Frag} {mg : Str → Option Value} {base : Heap}
theorem rsn_none {vl : List (List Int)} {s : Say} {os : List Say} (h : ∀ c, c < 4 → fe (fk (wrows vl s os)) c (wrongOf vl s) = none) : rsn vl s os = none := by
  unfold rsn
  rw [List.findSome?_eq_none_iff]
  intro c hc
  exact h c (List.mem_range.mp hc)
theorem rsn_some {vl : List (List Int)} {s : Say} {os : List Say} {i : Nat} {m : List Nat} (hi : i < 4) (h : ∀ c, c < i → fe (fk (wrows vl s os)) c (wrongOf vl s) = none) (e : fe (fk (wrows vl s os)) i (wrongOf vl s) = some m) : rsn vl s os = some m := by
  have h4 : i = 0 ∨ i = 1 ∨ i = 2 ∨ i = 3 := by omega
  unfold rsn
  rcases h4 with rfl | rfl | rfl | rfl
  · simp [List.range_succ, e]
  · simp [List.range_succ, e, h 0 (by decide)]
  · simp [List.range_succ, e, h 0 (by decide), h 1 (by decide)]
  · simp [List.range_succ, e, h 0 (by decide), h 1 (by decide), h 2 (by decide)]
theorem wrows_get {vl : List (List Int)} {s : Say} {os : List Say} {b : Nat} (h : b ∈ wrows vl s os) : ∃ j, fidx (wrows vl s os) b = some j ∧ j < os.length ∧ (wrows vl s os)[j]? = some b := by
  obtain ⟨j, e, hj⟩ := fidx_some h
  refine ⟨j, e, ?_, hj⟩
  have := (List.getElem?_eq_some_iff.mp hj).1
  unfold wrows at this
  rwa [List.length_map] at this
theorem scReason : FnScope ["program", "saying", "others", "every", "wrong", "places", "count", "enough"] ["program", "saying", "others"] (defScope sPReason) := ⟨rfl, rfl, rfl, by decide +kernel, rfl, by decide +kernel, by decide +kernel⟩
theorem ok_reason (h : Has K mg "reason" sPReason ["program", "saying", "others"]) (B : Blt mg) (gl : Glb K mg) (cV : Cal P w K mg base 2 "all_values" ["program"] spAllValues) (cI : Cal P w K mg base 2 "is_so" ["saying", "values"] spIsSo) (cB : Cal P w K mg base 1 "bits_of" ["truths"] spBitsOf) (cS : Cal P w K mg base 3 "so_bits" ["saying", "every"] spSoBits) (cF : Cal P w K mg base 1 "first_places" ["some_bits"] spFirst)
    (cE3 : Cal P w K mg base 4 "first_enough" ["wrong", "some_bits", "start", "count"] (spEnoughs 3)) : Cal P w K mg base 5 "reason" ["program", "saying", "others"] spReason := by
  refine h.cal scReason (fun vs H Q E h => ?_) (fun f cdv A outer s H vs Q E hr h => ?_)
  · obtain ⟨pp, pb, ps, po, pw, us, uo, bs, s, os, rfl, _⟩ := h
    rfl
  obtain ⟨pp, pb, ps, po, pw, us, uo, bs, s, os, rfl, hp, X, ok, h4, hv, hs, sin, Y, oin, ol, qn, qs⟩ := h
  have hr4 : Room 4 _ := hr
  have hr3 : Room 3 _ := hr.mono (by decide)
  have hr2 : Room 2 _ := hr.mono (by decide)
  have hr1 : Room 1 _ := hr.mono (by decide)
  have hu1 := hr1.units
  have hu2 := Nat.lt_of_le_of_lt (Nat.add_le_add_left (show 1 ≤ 64 by decide) _) hu1
  obtain ⟨tk3, hm3⟩ := gl.MOST_REASONS
  refine ⟨_, (pss_cons (ps_set (i := 3) scReason.nd rfl (Or.inr rfl) (pe_cal cV hr2 rfl (pa_cons (pv 0) pa_nil)))
    (pss_cons (ps_set (i := 4) scReason.nd rfl (Or.inr rfl) (pe_cal cB hr1 rfl (pa_cons (pe_lcC (defScope sPReason) ["program", "saying", "others", "every", "wrong", "places", "count", "enough"] (N := ["values", "saying"]) (ix := [none, some 1]) rfl ⟨rfl, by decide +kernel, by decide +kernel, by decide +kernel, rfl, by decide +kernel⟩ (pi_list (pv 3)) (fun _ _ _ _ => pg_name (i := 0) (show (["values", "saying"] : List Str).Nodup by decide +kernel) rfl (Or.inl rfl)) (fun _ _ _ _ => pts_nil) (fun _ _ _ _ => (pe_not (pe_cal cI hr2 rfl (pa_cons (pv 1) (pa_cons (pv 0) pa_nil)))))) pa_nil)))
    (pss_cons (ps_set (i := 5) scReason.nd rfl (Or.inr rfl) (pe_cal cF hr1 rfl (pa_cons (pe_lcC (defScope sPReason) ["program", "saying", "others", "every", "wrong", "places", "count", "enough"] (N := ["other", "wrong", "every"]) (ix := [none, some 4, some 3]) rfl ⟨rfl, by decide +kernel, by decide +kernel, by decide +kernel, rfl, by decide +kernel⟩ (pi_list (pv 2)) (fun _ _ _ _ => pg_name (i := 0) (show (["other", "wrong", "every"] : List Str).Nodup by decide +kernel) rfl (Or.inl rfl)) (fun _ _ _ _ => pts_nil) (fun _ _ _ _ => (pe_op op_and (pv 1) (pe_cal cS hr3 rfl (pa_cons (pv 0) (pa_cons (pv 2) pa_nil)))))) pa_nil)))
    (pss_cons (ps_for PassesOwn.never rfl (pi_range1 rfl B.range (pa_cons (pe_op op_add (pe_glob (v := .int 3) rfl hm3 ⟨_, rfl⟩) pe_int) pa_nil)) (pg_name (i := 6) scReason.nd rfl (Or.inl rfl)) (pss_cons (ps_set (i := 7) scReason.nd rfl (Or.inl rfl) (pe_cal cE3 hr4 rfl (pa_cons (pv 4) (pa_cons (pe_callTy (call_list_dk rfl) rfl B.list bt_list (pa_cons (pv 5) pa_nil)) (pa_cons pe_int (pa_cons (pv 6) pa_nil))))))
    (pss_one (ps_if (pt_cmp (pc_notN (pv 7))) (pss_one (ps_ret (pe_lcC (defScope sPReason) ["program", "saying", "others", "every", "wrong", "places", "count", "enough"] (N := ["bits", "others", "places"]) (ix := [none, some 2, some 5]) rfl ⟨rfl, by decide +kernel, by decide +kernel, by decide +kernel, rfl, by decide +kernel⟩ (pi_list (pv 7)) (fun _ _ _ _ => pg_name (i := 0) (show (["bits", "others", "places"] : List Str).Nodup by decide +kernel) rfl (Or.inl rfl)) (fun _ _ _ _ => pts_nil) (fun _ _ _ _ => (pe_ix (ixl K) (pv 1) (pe_dget hu2 (pv 2) (pv 0) (fun _ _ => rfl)) (fun _ _ => rfl)))))) pss_nil))))
    (pss_one (ps_ret pe_non)))))), ?_⟩
  refine ⟨_, rfl, pp, pb, pw, us, bs, rfl, hp, X, ok, h4, hv, fun pl ul H1 hpl s1 L1 => ?_⟩
  have v400 : (allv bs).length ≤ 400 := by
    unfold allv
    rw [fold_len]
    simpa using hv
  have hvm : ∀ v ∈ allv bs, v.length = bs.length ∧ ∀ n ∈ v, -1000 < n ∧ n < 1000 := fun v hm => by
    have W := allv_mem ok hm
    exact ⟨W.1.symm, W.sm ok⟩
  -- what is wrong
  refine ⟨_, rfl, pl, rfl, ⟨_, SqL.of L1.at_⟩, fun D hD => ?_⟩
  refine lc_list (K := K) (a := pl) (xs := ul) (fun i ys σ H' => ∃ c0 : Option V, σ = [c0, some (.ref ps)] ∧ ys = (((allv bs).take i).map fun v => !s.so v).map V.bl ∧ H' D = some (.lst ys) ∧ Same H1 H')
    ⟨none, rfl, rfl, upd_same, Same.new hD _⟩ (fun i ys σ H' _ hh => by obtain ⟨_, _, _, _, e⟩ := hh; exact SqL.of (e _ _ L1.at_)) ?_ ?_
  · rintro i x ys σ H' hi ⟨c0, rfl, rfl, hD', e'⟩
    obtain ⟨v, hvi, p, rfl, hpv⟩ := L1.each.at hi
    have vok := hvm v (List.mem_of_getElem? hvi)
    have hil := (List.getElem?_eq_some_iff.mp hvi).1
    refine lc_yes ⟨_, rfl, _, rfl, ps, p, s, v, rfl, e' _ _ (s1 _ _ hs), e' _ _ hpv, by rw [vok.1]; exact sin, vok.2, _, rfl, ?_⟩
    refine ⟨hD', sz (by rw [List.length_map, List.length_map, List.length_take]; omega), _, rfl, ?_, upd_same, fun c u z => ?_⟩
    · rw [List.take_add_one, hvi, List.map_append, List.map_append]
      rfl
    · rw [upd_ne (ne_of_none z hD)]
      exact e' _ _ z
  rintro ys σ H2 ⟨c0, rfl, rfl, hD2, s2⟩
  rw [L1.each.1, List.take_length] at hD2
  refine ⟨D, _, rfl, hD2, ?_⟩
  have s02 := s1.trans s2
  have L2 := L1.same s2
  -- what is left of it by each
  refine ⟨_, rfl, po, rfl, ⟨_, SqL.of (s02 _ _ Y.at_)⟩, fun D2 hDb => ?_⟩
  refine lc_list (K := K) (a := po) (xs := uo) (fun i ys σ H' => ∃ c0 : Option V, σ = [c0, some (.int (wrongOf (allv bs) s : Nat)), some (.ref pl)] ∧ ys = nums (wrows (allv bs) s (os.take i)) ∧ H' D2 = some (.lst ys) ∧ Same H2 H')
    ⟨none, rfl, rfl, upd_same, Same.new hDb _⟩ (fun i ys σ H' _ hh => by obtain ⟨_, _, _, _, e⟩ := hh; exact SqL.of (e _ _ (s02 _ _ Y.at_))) ?_ ?_
  · rintro i x ys σ H' hi ⟨c0, rfl, rfl, hD', e'⟩
    obtain ⟨o, ho, p, rfl, hpo⟩ := Y.each.at hi
    have hil := (List.getElem?_eq_some_iff.mp ho).1
    refine lc_yes ⟨_, rfl, _, rfl, _, rfl, p, pl, o, ul, allv bs, bs.length, rfl, e' _ _ (s02 _ _ hpo), L2.same e', v400, oin o (List.mem_of_getElem? ho), hvm, fun H5 s5 => ?_⟩
    refine ⟨_, _, rfl, rfl, ?_⟩
    dsimp only
    rw [and_nat]
    refine ⟨s5 _ _ hD', sz (by unfold nums wrows; rw [List.length_map, List.length_map, List.length_take]; omega), _, rfl, ?_, upd_same, fun c u z => ?_⟩
    · rw [List.take_add_one, ho]
      unfold nums wrows
      rw [List.map_append, List.map_append]
      rfl
    · rw [upd_ne (ne_of_none z hDb)]
      exact s5 _ _ (e' _ _ z)
  rintro ys σ H3 ⟨c0, rfl, rfl, hD3, s3⟩
  rw [Y.each.1, List.take_length] at hD3
  have wl : (wrows (allv bs) s os).length = os.length := List.length_map ..
  refine ⟨D2, _, rfl, hD3, by omega, fun d kvs H4 hd s4 d4 hkeys hval => ?_⟩
  have s04 := (s02.trans s3).trans s4
  have kl : kvs.length ≤ os.length := by
    have h1 := congrArg List.length hkeys
    rw [List.length_map, List.length_map] at h1
    have h2 := fk_len (wrows (allv bs) s os)
    omega
  have hkl : kvs.map (fun kv => kV kv.1) = nums (fk (wrows (allv bs) s os)) := by
    have h1 := congrArg (List.map kV) hkeys
    rw [List.map_map, List.map_map] at h1
    exact h1
  have fkl := fk_len (wrows (allv bs) s os)
  -- the counts
  refine ⟨_, _, rfl, rfl, _, rfl, by decide, by decide, for_range (lo := 0) (n := ((3 : Int) + 1).toNat) (fun i σ H' => (∃ c6 c7 : Option V, σ = [some (.ref pp), some (.ref ps), some (.ref po), some (.ref pl), some (.int (wrongOf (allv bs) s : Nat)), some (.ref d), c6, c7]) ∧ Same H4 H' ∧ ∀ c, c < i → fe (fk (wrows (allv bs) s os)) c (wrongOf (allv bs) s) = none)
    ⟨⟨none, none, rfl⟩, Same.refl _, (fun c hc => absurd hc (Nat.not_lt_zero _))⟩ ?_ ?_⟩
  · rintro i σ H' hi ⟨⟨c6, c7, rfl⟩, e', hno⟩
    have hi4 : i < 4 := hi
    have ei : (0 + (i : Int)) = ((i : Nat) : Int) := by omega
    rw [ei]
    refine ⟨_, rfl, _, rfl, d, kvs, rfl, e' _ _ d4, fun pk hpk => ?_⟩
    have s5 := Same.new hpk (.lst (kvs.map fun kv => kV kv.1))
    have k5 : upd H' pk (.lst (kvs.map fun kv => kV kv.1)) pk = some (.lst (nums (fk (wrows (allv bs) s os)))) := by
      rw [upd_same, hkl]
    generalize upd H' pk (.lst (kvs.map fun kv => kV kv.1)) = H5 at *
    refine ⟨_, rfl, i, Nat.le_of_lt_succ hi4, pk, wrongOf (allv bs) s, 0, fk (wrows (allv bs) s os), rfl, k5, by omega, Nat.zero_le _, fun en H6 s6 => ?_, fun m em p' H6 hp' s6 h6 => ?_⟩
    · rw [List.drop_zero] at en
      refine ⟨_, rfl, _, rfl, iteC ?_ ?_⟩
      · rw [decide_eq_true rfl]
        rfl
      · refine ⟨⟨_, _, rfl⟩, (e'.trans s5).trans s6, fun c hc => ?_⟩
        rcases Nat.lt_or_ge c i with z | z
        · exact hno c z
        · obtain rfl : c = i := by omega
          exact en
    · rw [List.drop_zero] at em
      have hrs := rsn_some hi4 hno em
      have hsub := (fe_mem em).1
      have hml := hsub.length_le
      refine ⟨_, rfl, _, rfl, iteB ?_ ?_⟩
      · rw [decide_eq_false (fun z => nomatch z)]
        rfl
      refine ⟨_, rfl, p', rfl, ⟨_, SqL.of h6⟩, fun D4 hD4 => ?_⟩
      have s46 := (e'.trans s5).trans s6
      have s06 := s04.trans s46
      refine lc_list (K := K) (a := p') (xs := nums m) (fun j ys σ H' => ∃ c0 : Option V, σ = [c0, some (.ref po), some (.ref d)] ∧ ys = (m.take j).map (fun b => uo.getD ((fidx (wrows (allv bs) s os) b).getD 0) .non) ∧ H' D4 = some (.lst ys) ∧ Same H6 H')
        ⟨none, rfl, rfl, upd_same, Same.new hD4 _⟩ (fun j ys σ H' _ hh => by obtain ⟨_, _, _, _, e⟩ := hh; exact SqL.of (e _ _ h6)) ?_ ?_
      · rintro j x ys σ H7 hj ⟨c0, rfl, rfl, hD7, e7⟩
        unfold nums at hj
        rw [List.getElem?_map] at hj
        obtain ⟨b, hb, rfl⟩ := Option.map_eq_some_iff.mp hj
        have hjl := (List.getElem?_eq_some_iff.mp hb).1
        have hbm := fk_mem.mp (hsub.subset (List.mem_of_getElem? hb))
        obtain ⟨n, en, nl, _⟩ := wrows_get hbm
        have ul' := Y.each.1
        have hu : uo[n]? = some (uo.getD n .non) := by
          rw [List.getD_eq_getElem?_getD, List.getElem?_eq_getElem (by omega)]
          rfl
        have hvb : valV kvs (.inl ((b : Nat) : Int)) = some (.int (n : Nat)) := by rw [hval b, en]; rfl
        refine lc_yes ⟨_, rfl, _, rfl, _, rfl, d, _, rfl, .inl ⟨kvs, .inl ((b : Nat) : Int), .inl (e7 _ _ (s46 _ _ d4)), rfl, hvb.symm⟩, po, _, _, _, rfl, rfl, SqL.of (e7 _ _ (s06 _ _ Y.at_)), atI_nat hu, ?_⟩
        refine ⟨hD7, sz (by rw [List.length_map, List.length_take]; omega), _, rfl, ?_, upd_same, fun c u z => ?_⟩
        · rw [List.take_add_one, hb, List.map_append]
          show _ = _ ++ [uo.getD ((fidx (wrows (allv bs) s os) b).getD 0) .non]
          rw [en]
          rfl
        · rw [upd_ne (ne_of_none z hD4)]
          exact e7 _ _ z
      · rintro ys σ H7 ⟨c0, rfl, rfl, hD7, e7⟩
        have nl : (nums m).length = m.length := List.length_map ..
        rw [nl, List.take_length] at hD7
        exact qs m hrs D4 H7 (Same.free s06 hD4) (s06.trans e7) hD7
  · rintro σ H' ⟨⟨c6, c7, rfl⟩, e', hno⟩
    exact qn (rsn_none hno) H' (s04.trans e')
end

/-! ### bits and first choices, further -/
def ands (w : Nat) (m : List Nat) : Nat := m.foldl (fun a b => a &&& b) w
theorem ands_cons (w b : Nat) (m : List Nat) : ands w (b :: m) = ands (w &&& b) m := rfl
theorem fe_sound : ∀ {bits : List Nat} {c w : Nat} {m : List Nat}, fe bits c w = some m → ands w m = 0
  | bits, 0, w, m, h => by
    rw [fe_zero] at h
    split at h
    · cases h
      assumption
    · cases h
  | [], c + 1, w, m, h => nomatch h
  | b :: r, c + 1, w, m, h => by
    rw [fe_cons] at h
    cases e : fe r c (w &&& b) with
    | some m' =>
      rw [e] at h
      cases h
      rw [ands_cons]
      exact fe_sound e
    | none =>
      rw [e] at h
      exact fe_sound (bits := r) h
theorem fe_whole : ∀ {bits : List Nat} {c w : Nat} {m : List Nat}, fe bits c w = none → m.Sublist bits → m.length = c → ands w m ≠ 0
  | bits, 0, w, m, h, hs, hl => by
    rw [fe_zero] at h
    cases m with
    | nil =>
      intro z
      have : w = 0 := z
      rw [if_pos this] at h
      cases h
    | cons _ _ => cases hl
  | [], c + 1, w, m, h, hs, hl => by
    cases hs
    cases hl
  | b :: r, c + 1, w, m, h, hs, hl => by
    rw [fe_cons] at h
    cases e : fe r c (w &&& b) with
    | some m' =>
      rw [e] at h
      cases h
    | none =>
      rw [e] at h
      cases hs with
      | cons _ hs => exact fe_whole (bits := r) h hs hl
      | cons_cons _ hs =>
        rw [ands_cons]
        exact fe_whole e hs (Nat.succ.inj hl)
theorem ands_bit (k : Nat) : ∀ (m : List Nat) (w : Nat), (ands w m).testBit k = (w.testBit k && m.all fun b => b.testBit k)
  | [], w => by
    show w.testBit k = _
    rw [List.all_nil, Bool.and_true]
  | b :: m, w => by
    rw [ands_cons, ands_bit k m, Nat.testBit_and, List.all_cons, Bool.and_assoc]
theorem zero_of_bits {n : Nat} (h : ∀ k, n.testBit k = false) : n = 0 := Nat.eq_of_testBit_eq fun k => by rw [h k, Nat.zero_testBit]
theorem bit_tail (n : Nat) (b : Bool) (k : Nat) : (n * 2 + if b then 1 else 0).testBit (k + 1) = n.testBit k := by
  rw [Nat.testBit_succ]
  congr 1
  cases b <;> simp <;> omega
theorem bit_head (n : Nat) (b : Bool) : (n * 2 + if b then 1 else 0).testBit 0 = b := by
  rw [Nat.testBit_zero]
  cases b <;> simp <;> omega
theorem bw_pos' : ∀ {l : List (List Int)} {v : List Int}, v ∈ l → ∃ k, ∀ f : List Int → Bool, (bw (l.reverse.map f)).testBit k = f v
  | x :: l, v, h => by
    rcases List.mem_cons.mp h with rfl | h
    · refine ⟨0, fun f => ?_⟩
      rw [List.reverse_cons, List.map_append]
      show (bw (l.reverse.map f ++ [f v])).testBit 0 = f v
      rw [bw_snoc, bit_head]
    · obtain ⟨k, hk⟩ := bw_pos' h
      refine ⟨k + 1, fun f => ?_⟩
      rw [List.reverse_cons, List.map_append]
      show (bw (l.reverse.map f ++ [f x])).testBit (k + 1) = f v
      rw [bw_snoc, bit_tail]
      exact hk f
theorem bw_pos {vl : List (List Int)} {v : List Int} (h : v ∈ vl) : ∃ k, ∀ f : List Int → Bool, (bw (vl.map f)).testBit k = f v := by
  have := bw_pos' (l := vl.reverse) (v := v) (List.mem_reverse.mpr h)
  rwa [List.reverse_reverse] at this
theorem bw_any' : ∀ (l : List (List Int)) (k : Nat), (∀ f : List Int → Bool, (bw (l.reverse.map f)).testBit k = false) ∨ ∃ v ∈ l, ∀ f : List Int → Bool, (bw (l.reverse.map f)).testBit k = f v
  | [], k => .inl fun f => Nat.zero_testBit k
  | x :: l, 0 => .inr ⟨x, List.mem_cons_self, fun f => by
      rw [List.reverse_cons, List.map_append]
      show (bw (l.reverse.map f ++ [f x])).testBit 0 = f x
      rw [bw_snoc, bit_head]⟩
  | x :: l, k + 1 => by
    have e : ∀ f : List Int → Bool, (bw ((x :: l).reverse.map f)).testBit (k + 1) = (bw (l.reverse.map f)).testBit k := fun f => by
      rw [List.reverse_cons, List.map_append]
      show (bw (l.reverse.map f ++ [f x])).testBit (k + 1) = _
      rw [bw_snoc, bit_tail]
    rcases bw_any' l k with h | ⟨v, hv, h⟩
    · exact .inl fun f => by rw [e]; exact h f
    · exact .inr ⟨v, List.mem_cons_of_mem _ hv, fun f => by rw [e]; exact h f⟩
theorem bw_any (vl : List (List Int)) (k : Nat) : (∀ f : List Int → Bool, (bw (vl.map f)).testBit k = false) ∨ ∃ v ∈ vl, ∀ f : List Int → Bool, (bw (vl.map f)).testBit k = f v := by
  have := bw_any' vl.reverse k
  rw [List.reverse_reverse] at this
  rcases this with h | ⟨v, hv, h⟩
  · exact .inl h
  · exact .inr ⟨v, List.mem_reverse.mp hv, h⟩

/-! ### first choices, place by place -/
theorem and_rc (a b c : Nat) : a &&& b &&& c = a &&& c &&& b := by rw [Nat.and_assoc, Nat.and_comm b c, ← Nat.and_assoc]
def fp : List (Nat × Nat) → Nat → Nat → Option (List (Nat × Nat))
  | [], c, w => if c = 0 then (if w = 0 then some [] else none) else none
  | b :: r, c, w => if c = 0 then (if w = 0 then some [] else none) else
    match fp r (c - 1) (w &&& b.2) with
    | some m => some (b :: m)
    | none => fp r c w
theorem fp_zero (l : List (Nat × Nat)) (w : Nat) : fp l 0 w = if w = 0 then some [] else none := by cases l <;> rfl
theorem fp_cons (b : Nat × Nat) (r : List (Nat × Nat)) (c w : Nat) : fp (b :: r) (c + 1) w = match fp r c (w &&& b.2) with | some m => some (b :: m) | none => fp r (c + 1) w := rfl
theorem fp_fe : ∀ (l : List (Nat × Nat)) (c w : Nat), (fp l c w).map (List.map Prod.snd) = fe (l.map Prod.snd) c w
  | l, 0, w => by
    rw [fp_zero, fe_zero]
    split <;> rfl
  | [], c + 1, w => rfl
  | b :: r, c + 1, w => by
    rw [fp_cons, List.map_cons, fe_cons, ← fp_fe r c]
    cases fp r c (w &&& b.2) with
    | some m => rfl
    | none => exact fp_fe r (c + 1) w
theorem fp_none {l : List (Nat × Nat)} {c w : Nat} (h : fe (l.map Prod.snd) c w = none) : fp l c w = none := by
  have := fp_fe l c w
  rw [h] at this
  cases e : fp l c w with
  | none => rfl
  | some m => rw [e] at this; cases this
theorem fe_none {l : List (Nat × Nat)} {c w : Nat} (h : fp l c w = none) : fe (l.map Prod.snd) c w = none := by
  rw [← fp_fe, h]
  rfl
theorem fp_mem : ∀ {l : List (Nat × Nat)} {c w : Nat} {m : List (Nat × Nat)}, fp l c w = some m → ∀ b ∈ m, b ∈ l
  | l, 0, w, m, h => by
    rw [fp_zero] at h
    split at h
    · cases h
      exact fun b hb => nomatch hb
    · cases h
  | [], c + 1, w, m, h => nomatch h
  | x :: r, c + 1, w, m, h => by
    rw [fp_cons] at h
    cases e : fp r c (w &&& x.2) with
    | some m' =>
      rw [e] at h
      cases h
      intro b hb
      rcases List.mem_cons.mp hb with rfl | hb
      · exact List.mem_cons_self
      · exact List.mem_cons_of_mem _ (fp_mem e b hb)
    | none =>
      rw [e] at h
      intro b hb
      exact List.mem_cons_of_mem _ (fp_mem (l := r) h b hb)
theorem fe_sub {l l' : List Nat} {c w : Nat} (h : l'.Sublist l) (e : fe l c w = none) : fe l' c w = none := by
  cases e' : fe l' c w with
  | none => rfl
  | some m => exact absurd (fe_sound e') (fe_whole e ((fe_mem e').1.trans h) (fe_mem e').2)
theorem fe_tail {b : Nat} {r : List Nat} {c w : Nat} (h : fe (b :: r) c w = none) : fe r c w = none := fe_sub (List.sublist_cons_self b r) h
theorem fe_first {b : Nat} {r : List Nat} {c w : Nat} (h : fe (b :: r) (c + 1) w = none) : fe r c (w &&& b) = none := by
  rw [fe_cons] at h
  cases e : fe r c (w &&& b) with
  | none => rfl
  | some m => rw [e] at h; cases h
theorem fp_skip (x : Nat × Nat) (suf : List (Nat × Nat)) : ∀ (pre : List (Nat × Nat)) (c w : Nat), fe ((pre ++ suf).map Prod.snd) c (w &&& x.2) = none → fp (pre ++ x :: suf) (c + 1) w = fp (pre ++ suf) (c + 1) w
  | [], c, w, h => by
    rw [List.nil_append, List.nil_append, fp_cons, fp_none (l := suf) h]
  | q :: pre, c, w, h => by
    rw [List.cons_append, List.cons_append, fp_cons, fp_cons]
    have h2 : fe ((pre ++ suf).map Prod.snd) c (w &&& x.2) = none := fe_tail h
    rw [fp_skip x suf pre c w h2]
    cases c with
    | zero => rw [fp_zero, fp_zero]
    | succ c =>
      have h1 : fe ((pre ++ suf).map Prod.snd) c (w &&& q.2 &&& x.2) = none := by
        have := fe_first h
        rwa [and_rc] at this
      rw [fp_skip x suf pre c (w &&& q.2) h1]
theorem sub_mid (pre suf : List (Nat × Nat)) (x : Nat × Nat) : ((pre ++ suf).map Prod.snd).Sublist ((pre ++ x :: suf).map Prod.snd) :=
  (List.Sublist.append (List.Sublist.refl pre) (List.sublist_cons_self x suf)).map _
theorem fp_dup (x : Nat × Nat) (suf : List (Nat × Nat)) : ∀ (pre : List (Nat × Nat)) (c w : Nat), (∃ y ∈ pre, y.2 = x.2) → (∀ c', c' < c → fe ((pre ++ x :: suf).map Prod.snd) c' w = none) → fp (pre ++ x :: suf) c w = fp (pre ++ suf) c w
  | [], _, _, ⟨y, hy, _⟩, _ => nomatch hy
  | p :: pre, 0, w, _, _ => by rw [fp_zero, fp_zero]
  | p :: pre, c + 1, w, ⟨y, hy, e⟩, h => by
    have hi : ∀ c', c' < c → fe ((pre ++ x :: suf).map Prod.snd) c' (w &&& p.2) = none := fun c' hc => fe_first (h (c' + 1) (by omega))
    have hii : ∀ c', c' < c + 1 → fe ((pre ++ x :: suf).map Prod.snd) c' w = none := fun c' hc => fe_tail (h c' hc)
    rw [List.cons_append, List.cons_append, fp_cons, fp_cons]
    rcases List.mem_cons.mp hy with rfl | hy
    · have e1 : fp (pre ++ x :: suf) c (w &&& y.2) = fp (pre ++ suf) c (w &&& y.2) := by
        cases c with
        | zero => rw [fp_zero, fp_zero]
        | succ c =>
          refine fp_skip x suf pre c _ ?_
          rw [← e, Nat.and_assoc, Nat.and_self]
          exact fe_sub (sub_mid pre suf x) (hi c (by omega))
      rw [e1]
      cases e2 : fp (pre ++ suf) c (w &&& y.2) with
      | some m => rfl
      | none =>
        refine fp_skip x suf pre c w ?_
        rw [← e]
        exact fe_none e2
    · rw [fp_dup x suf pre c (w &&& p.2) ⟨y, hy, e⟩ hi, fp_dup x suf pre (c + 1) w ⟨y, hy, e⟩ hii]
def fkP1 (acc : List (Nat × Nat)) (b : Nat × Nat) : List (Nat × Nat) := if b.2 ∈ acc.map Prod.snd then acc else acc ++ [b]
def fkP (l : List (Nat × Nat)) : List (Nat × Nat) := l.foldl fkP1 []
theorem fkP_snoc (l : List (Nat × Nat)) (b : Nat × Nat) : fkP (l ++ [b]) = fkP1 (fkP l) b := by
  unfold fkP
  rw [List.foldl_append]
  rfl
theorem fkP_snd' : ∀ (l : List (Nat × Nat)), (fkP l.reverse).map Prod.snd = fk (l.reverse.map Prod.snd)
  | [] => rfl
  | b :: l => by
    rw [List.reverse_cons, fkP_snoc, List.map_append]
    show _ = fk (l.reverse.map Prod.snd ++ [b.2])
    rw [fk_snoc, ← fkP_snd' l]
    unfold fkP1
    split
    · rfl
    · rw [List.map_append]
      rfl
theorem fkP_snd (l : List (Nat × Nat)) : (fkP l).map Prod.snd = fk (l.map Prod.snd) := by
  have := fkP_snd' l.reverse
  rwa [List.reverse_reverse] at this
theorem fp_all' {c w : Nat} : ∀ (suf pre : List (Nat × Nat)), (∀ c', c' < c → fe ((fkP pre ++ suf).map Prod.snd) c' w = none) → fp (fkP pre ++ suf) c w = fp (fkP (pre ++ suf)) c w
  | [], pre, _ => by rw [List.append_nil, List.append_nil]
  | b :: suf, pre, h => by
    have e : pre ++ b :: suf = (pre ++ [b]) ++ suf := by rw [List.append_assoc]; rfl
    rw [e]
    by_cases hb : b.2 ∈ (fkP pre).map Prod.snd
    · have e1 : fkP (pre ++ [b]) = fkP pre := by rw [fkP_snoc]; exact if_pos hb
      obtain ⟨y, hy, ey⟩ := List.mem_map.mp hb
      rw [fp_dup b suf (fkP pre) c w ⟨y, hy, ey⟩ h, ← fp_all' suf (pre ++ [b]) (by rw [e1]; exact fun c' hc => fe_sub (sub_mid _ _ _) (h c' hc)), e1]
    · have e1 : fkP (pre ++ [b]) = fkP pre ++ [b] := by rw [fkP_snoc]; exact if_neg hb
      rw [← fp_all' suf (pre ++ [b]) (by rw [e1, List.append_assoc]; exact h), e1, List.append_assoc]
      rfl
theorem fp_all {l : List (Nat × Nat)} {c w : Nat} (h : ∀ c', c' < c → fe (l.map Prod.snd) c' w = none) : fp l c w = fp (fkP l) c w := by
  have := fp_all' (c := c) (w := w) l [] h
  exact this
theorem fk_sub' : ∀ (rs : List Nat), (fk rs.reverse).Sublist rs.reverse
  | [] => List.Sublist.refl _
  | r :: rs => by
    rw [List.reverse_cons, fk_snoc]
    split
    · exact (fk_sub' rs).trans (List.sublist_append_left _ _)
    · exact (fk_sub' rs).append (List.Sublist.refl _)
theorem fk_sub (rs : List Nat) : (fk rs).Sublist rs := by
  have := fk_sub' rs.reverse
  rwa [List.reverse_reverse] at this
/-! ### places -/
def enr (R : Nat → Nat) : Nat → Nat → List (Nat × Nat)
  | 0, _ => []
  | n + 1, st => (st, R st) :: enr R n (st + 1)
theorem enr_snoc (R : Nat → Nat) : ∀ n st, enr R (n + 1) st = enr R n st ++ [(st + n, R (st + n))]
  | 0, st => rfl
  | n + 1, st => by
    have := enr_snoc R n (st + 1)
    show (st, R st) :: enr R (n + 1) (st + 1) = (st, R st) :: enr R n (st + 1) ++ _
    rw [this, Nat.add_right_comm st 1 n]
    rfl
theorem enr_fidx (R : Nat → Nat) : ∀ n, (enr R n 0).map Prod.snd = (List.range n).map R ∧ ∀ b ∈ fkP (enr R n 0), fidx ((List.range n).map R) b.2 = some b.1
  | 0 => ⟨rfl, fun b hb => nomatch hb⟩
  | n + 1 => by
    obtain ⟨h1, h2⟩ := enr_fidx R n
    rw [enr_snoc, Nat.zero_add, List.range_succ, List.map_append, List.map_append, h1]
    refine ⟨rfl, fun b hb => ?_⟩
    rw [fkP_snoc] at hb
    show fidx ((List.range n).map R ++ [R n]) b.2 = some b.1
    rw [fidx_snoc, List.length_map, List.length_range]
    unfold fkP1 at hb
    split at hb
    · rw [h2 b hb]
      rfl
    · rename_i hn
      rcases List.mem_append.mp hb with z | z
      · rw [h2 b z]
        rfl
      · rw [List.mem_singleton.mp z]
        have hn' : ¬ R n ∈ (List.range n).map R := fun y => hn (by rw [fkP_snd, h1]; exact fk_mem.mpr y)
        rw [fidx_none.mpr hn', if_pos rfl]
        rfl
/-! ### all choices -/
def cmb : Nat → Nat → Nat → List (List Nat)
  | 0, _, c => if c = 0 then [[]] else []
  | n + 1, st, c => if c = 0 then [[]] else (cmb n (st + 1) (c - 1)).map (st :: ·) ++ cmb n (st + 1) c
theorem cmb_zero (n st : Nat) : cmb n st 0 = [[]] := by cases n <;> rfl
theorem cmb_succ (n st c : Nat) : cmb (n + 1) st (c + 1) = (cmb n (st + 1) c).map (st :: ·) ++ cmb n (st + 1) (c + 1) := rfl
theorem find_cmb (R : Nat → Nat) : ∀ (n st c w : Nat), (cmb n st c).find? (fun ch => decide (ands w (ch.map R) = 0)) = (fp (enr R n st) c w).map (List.map Prod.fst)
  | n, st, 0, w => by
    rw [cmb_zero, fp_zero]
    show (match decide (w = 0) with | true => some [] | false => none) = _
    by_cases h : w = 0
    · rw [if_pos h, decide_eq_true h]; rfl
    · rw [if_neg h, decide_eq_false h]; rfl
  | 0, st, c + 1, w => rfl
  | n + 1, st, c + 1, w => by
    rw [cmb_succ, List.find?_append, List.find?_map]
    show Option.or (Option.map (fun ch => st :: ch) ((cmb n (st + 1) c).find? (fun ch => decide (ands (w &&& R st) (ch.map R) = 0)))) _ = _
    rw [find_cmb R n (st + 1) c, find_cmb R n (st + 1) (c + 1)]
    show _ = (fp ((st, R st) :: enr R n (st + 1)) (c + 1) w).map _
    rw [fp_cons]
    cases fp (enr R n (st + 1)) c (w &&& R st) with
    | some m => rfl
    | none => rfl
def pr2 (n i : Nat) : List (List Nat) := (List.range' (i + 1) (n - (i + 1))).map fun j => [i, j]
def pr3 (n i j : Nat) : List (List Nat) := (List.range' (j + 1) (n - (j + 1))).map fun k => [i, j, k]
def tr3 (n i : Nat) : List (List Nat) := (List.range' (i + 1) (n - (i + 1))).flatMap (pr3 n i)
def chs (n : Nat) : List (List Nat) := [[]] ++ ((List.range' 0 n).map fun i => [i]) ++ (List.range' 0 n).flatMap (pr2 n) ++ (List.range' 0 n).flatMap (tr3 n)
theorem cmb_1 : ∀ m st, cmb m st 1 = (List.range' st m).map fun i => [i]
  | 0, st => rfl
  | m + 1, st => by
    rw [cmb_succ, cmb_zero, cmb_1 m, List.range'_succ]
    rfl
theorem cmb_2 (n : Nat) : ∀ m st, st + m = n → cmb m st 2 = (List.range' st m).flatMap (pr2 n)
  | 0, st, _ => rfl
  | m + 1, st, h => by
    rw [cmb_succ, cmb_1 m, cmb_2 n m (st + 1) (by omega), List.range'_succ, List.flatMap_cons]
    congr 1
    unfold pr2
    rw [List.map_map, show n - (st + 1) = m by omega]
    rfl
theorem map_flat {α β : Type} (f : α → List β) (g : β → β) : ∀ l : List α, (l.flatMap f).map g = l.flatMap fun x => (f x).map g
  | [] => rfl
  | x :: l => by rw [List.flatMap_cons, List.map_append, map_flat f g l, List.flatMap_cons]
theorem cmb_3 (n : Nat) : ∀ m st, st + m = n → cmb m st 3 = (List.range' st m).flatMap (tr3 n)
  | 0, st, _ => rfl
  | m + 1, st, h => by
    rw [cmb_succ, cmb_2 n m (st + 1) (by omega), cmb_3 n m (st + 1) (by omega), List.range'_succ, List.flatMap_cons]
    congr 1
    unfold tr3
    rw [map_flat, show n - (st + 1) = m by omega]
    congr 1
    funext j
    unfold pr2 pr3
    rw [List.map_map]
    rfl
theorem chs_cmb (n : Nat) : chs n = cmb n 0 0 ++ cmb n 0 1 ++ cmb n 0 2 ++ cmb n 0 3 := by
  unfold chs
  rw [cmb_zero, cmb_1, cmb_2 n n 0 (Nat.zero_add n), cmb_3 n n 0 (Nat.zero_add n)]
theorem ands_mask (W : Nat) (R : Nat → Nat) : ∀ (ch : List Nat) (w : Nat), w &&& W = w → ands w (ch.map fun i => W &&& R i) = ands w (ch.map R)
  | [], _, _ => rfl
  | i :: ch, w, h => by
    rw [List.map_cons, List.map_cons, ands_cons, ands_cons, ← Nat.and_assoc, h]
    refine ands_mask W R ch _ ?_
    rw [and_rc, h]
/-- the reason is the first of all choices -/
theorem rsn_due {vl : List (List Int)} {s : Say} {os : List Say} (R : Nat → Nat) (hR : (List.range os.length).map R = os.map (rowOf vl)) :
    ((chs os.length).find? (fun ch => decide (ands (wrongOf vl s) (ch.map R) = 0)) = none → rsn vl s os = none) ∧
    ∀ ch, (chs os.length).find? (fun ch => decide (ands (wrongOf vl s) (ch.map R) = 0)) = some ch → ∃ m, rsn vl s os = some m ∧ m.map (fun b => (fidx (wrows vl s os) b).getD 0) = ch ∧ ∀ i ∈ ch, i < os.length := by
  obtain ⟨W, hW⟩ : ∃ W, W = wrongOf vl s := ⟨_, rfl⟩
  obtain ⟨n, hn⟩ : ∃ n, n = os.length := ⟨_, rfl⟩
  obtain ⟨l, hl⟩ : ∃ l, l = enr (fun i => W &&& R i) n 0 := ⟨_, rfl⟩
  obtain ⟨e1, e2⟩ := enr_fidx (fun i => W &&& R i) n
  have hrows : wrows vl s os = (List.range n).map fun i => W &&& R i := by
    unfold wrows
    rw [← hW, hn, show (os.map fun o => W &&& rowOf vl o) = (os.map (rowOf vl)).map (W &&& ·) by rw [List.map_map]; rfl, ← hR, List.map_map]
    rfl
  rw [← hl] at e1 e2
  rw [← hrows] at e1 e2
  have hf : (chs n).find? (fun ch => decide (ands W (ch.map R) = 0)) = ((((fp l 0 W).map (List.map Prod.fst)).or ((fp l 1 W).map (List.map Prod.fst))).or ((fp l 2 W).map (List.map Prod.fst))).or ((fp l 3 W).map (List.map Prod.fst)) := by
    rw [show (fun ch : List Nat => decide (ands W (ch.map R) = 0)) = fun ch => decide (ands W (ch.map fun i => W &&& R i) = 0) from funext fun ch => by rw [ands_mask W R ch W (Nat.and_self W)], chs_cmb, List.find?_append, List.find?_append, List.find?_append, find_cmb, find_cmb, find_cmb, find_cmb, ← hl]
  rw [← hn, ← hW, hf]
  have sub := fk_sub (wrows vl s os)
  have no : ∀ c, fp l c W = none → fe (fk (wrows vl s os)) c (wrongOf vl s) = none := fun c h => by
    rw [← hW]
    refine fe_sub sub ?_
    rw [← e1]
    exact fe_none h
  have yes : ∀ c mm, c < 4 → (∀ c', c' < c → fp l c' W = none) → fp l c W = some mm → rsn vl s os = some (mm.map Prod.snd) ∧ (mm.map Prod.snd).map (fun b => (fidx (wrows vl s os) b).getD 0) = mm.map Prod.fst ∧ ∀ i ∈ mm.map Prod.fst, i < n := fun c mm hc hs h => by
    have ha := fp_all (l := l) (c := c) (w := W) fun c' hc' => fe_none (hs c' hc')
    have hm : fp (fkP l) c W = some mm := by rw [← ha]; exact h
    have hb : ∀ b ∈ mm, fidx (wrows vl s os) b.2 = some b.1 := fun b hb => e2 b (fp_mem hm b hb)
    refine ⟨rsn_some hc (fun c' hc' => no c' (hs c' hc')) ?_, ?_, fun i hi => ?_⟩
    · rw [← hW, ← e1, ← fkP_snd, ← fp_fe, hm]
      rfl
    · rw [List.map_map]
      refine List.map_congr_left fun b hb' => ?_
      show (fidx (wrows vl s os) b.2).getD 0 = b.1
      rw [hb b hb']
      rfl
    · obtain ⟨b, hb', rfl⟩ := List.mem_map.mp hi
      have := hb b hb'
      unfold fidx at this
      have hlt := (List.findIdx?_eq_some_iff_getElem.mp this).1
      rw [hrows, List.length_map, List.length_range] at hlt
      exact hlt
  cases h0 : fp l 0 W with
  | some mm =>
    refine ⟨fun z => (nomatch z), fun ch hch => ?_⟩
    cases hch
    exact ⟨_, yes 0 mm (by decide) (fun c' hc' => absurd hc' (Nat.not_lt_zero _)) h0⟩
  | none =>
    cases h1 : fp l 1 W with
    | some mm =>
      refine ⟨fun z => (nomatch z), fun ch hch => ?_⟩
      cases hch
      refine ⟨_, yes 1 mm (by decide) (fun c' hc' => ?_) h1⟩
      rw [show c' = 0 by omega]
      exact h0
    | none =>
      cases h2 : fp l 2 W with
      | some mm =>
        refine ⟨fun z => (nomatch z), fun ch hch => ?_⟩
        cases hch
        refine ⟨_, yes 2 mm (by decide) (fun c' hc' => ?_) h2⟩
        have : c' = 0 ∨ c' = 1 := by omega
        rcases this with rfl | rfl
        · exact h0
        · exact h1
      | none =>
        cases h3 : fp l 3 W with
        | some mm =>
          refine ⟨fun z => (nomatch z), fun ch hch => ?_⟩
          cases hch
          refine ⟨_, yes 3 mm (by decide) (fun c' hc' => ?_) h3⟩
          have : c' = 0 ∨ c' = 1 ∨ c' = 2 := by omega
          rcases this with rfl | rfl | rfl
          · exact h0
          · exact h1
          · exact h2
        | none =>
          refine ⟨fun _ => rsn_none fun c hc => no c ?_, fun ch hch => (nomatch hch)⟩
          have : c = 0 ∨ c = 1 ∨ c = 2 ∨ c = 3 := by omega
          rcases this with rfl | rfl | rfl | rfl
          · exact h0
          · exact h1
          · exact h2
          · exact h3

/-! ### thinned -/
/-- a place is looked at: what is kept so far (from behind), what all of it has in common -/
def thS (full : Nat) (rows : List Nat) (a : List Nat × Nat) (p : Nat) : List Nat × Nat := if (ahd full rows p &&& a.2) &&& rows.getD p 0 = ahd full rows p &&& a.2 then a else (a.1 ++ [p], a.2 &&& rows.getD p 0)
def thK (full : Nat) (rows : List Nat) (i : Nat) : List Nat × Nat := ((List.range rows.length).drop i).reverse.foldl (thS full rows) ([], full)
def fullOf (vl : List (List Int)) : Nat := bw (List.replicate vl.length true)
def keptAt (vl : List (List Int)) (os : List Say) : List Nat := (thK (fullOf vl) (os.map (rowOf vl)) 0).1.reverse
section
variable {full : Nat} {rows : List Nat}
theorem thK_end : thK full rows rows.length = ([], full) := by
  unfold thK
  rw [List.drop_of_length_le (by rw [List.length_range]; exact Nat.le_refl _)]
  rfl
theorem thK_succ {i : Nat} (h : i < rows.length) : thK full rows i = thS full rows (thK full rows (i + 1)) i := by
  unfold thK
  rw [List.drop_eq_getElem_cons (by rw [List.length_range]; exact h), List.getElem_range, List.reverse_cons, List.foldl_append]
  rfl
theorem thS_cases (a : List Nat × Nat) (p : Nat) : thS full rows a p = a ∨ thS full rows a p = (a.1 ++ [p], a.2 &&& rows.getD p 0) := by
  unfold thS
  split
  · exact .inl rfl
  · exact .inr rfl
/-- what is kept is behind i, falls, and is no longer than what is looked at -/
theorem thK_ok : ∀ {k i : Nat}, i + k = rows.length → (∀ p ∈ (thK full rows i).1, i ≤ p ∧ p < rows.length) ∧ (thK full rows i).1.Pairwise (· > ·) ∧ (thK full rows i).1.length ≤ k
  | 0, i, h => by
    obtain rfl : i = rows.length := by omega
    rw [thK_end]
    exact ⟨(fun p hp => nomatch hp), .nil, Nat.le_refl _⟩
  | k + 1, i, h => by
    obtain ⟨h1, h2, h3⟩ := thK_ok (k := k) (i := i + 1) (by omega)
    rw [thK_succ (by omega)]
    rcases thS_cases (full := full) (rows := rows) (thK full rows (i + 1)) i with e | e
    · rw [e]
      exact ⟨fun p hp => ⟨by have := (h1 p hp).1; omega, (h1 p hp).2⟩, h2, by omega⟩
    · rw [e]
      refine ⟨fun p hp => ?_, ?_, by simp; omega⟩
      · rcases List.mem_append.mp hp with z | z
        · exact ⟨by have := (h1 p z).1; omega, (h1 p z).2⟩
        · rw [List.mem_singleton.mp z]
          exact ⟨Nat.le_refl _, by omega⟩
      · rw [List.pairwise_append]
        refine ⟨h2, List.pairwise_singleton .., fun x hx y hy => ?_⟩
        rw [List.mem_singleton.mp hy]
        have := (h1 x hx).1
        omega
/-- whether a place is kept is settled when it is looked at -/
theorem thK_iff : ∀ {i p : Nat}, p < rows.length → i ≤ p → (p ∈ (thK full rows i).1 ↔ (ahd full rows p &&& (thK full rows (p + 1)).2) &&& rows.getD p 0 ≠ ahd full rows p &&& (thK full rows (p + 1)).2) := by
  intro i p hp hi
  obtain ⟨d, rfl⟩ : ∃ d, p = i + d := ⟨p - i, by omega⟩
  induction d generalizing i with
  | zero =>
    rw [Nat.add_zero] at hp ⊢
    have h := (thK_ok (full := full) (rows := rows) (k := rows.length - (i + 1)) (i := i + 1) (by omega)).1
    rw [thK_succ hp]
    unfold thS
    split
    · rename_i e
      exact ⟨fun z => by have := (h i z).1; omega, fun z => absurd e z⟩
    · rename_i e
      exact ⟨fun _ => e, fun _ => List.mem_append_right _ (List.mem_singleton.mpr rfl)⟩
  | succ d ih =>
    have e : i + (d + 1) = i + 1 + d := by omega
    rw [e] at hp ⊢
    rw [← ih (i := i + 1) hp (by omega), thK_succ (by omega)]
    rcases thS_cases (full := full) (rows := rows) (thK full rows (i + 1)) i with q | q
    · rw [q]
    · rw [q]
      constructor
      · intro z
        rcases List.mem_append.mp z with z | z
        · exact z
        · have := List.mem_singleton.mp z
          omega
      · exact fun z => List.mem_append_left _ z
end
theorem flat_true (n : Nat) : (List.replicate n [V.bl true]).flatten = (List.replicate n true).map V.bl := by
  induction n with
  | zero => rfl
  | succ n ih => rw [List.replicate_succ, List.replicate_succ, List.flatten_cons, ih]; rfl
theorem vals_400 {bs : List Box} (ok : ∀ b ∈ bs, b.Ok) (hv : vol bs ≤ 400) : (allv bs).length ≤ 400 := by
  unfold allv
  rw [fold_len]
  simpa using hv
def spThinned : Sp := fun vs H Q _ => ∃ (pp pb po : Addr) (pw : V) (us uo : List V) (bs : List Box) (os : List Say), vs = [.ref pp, .ref po] ∧ H pp = some (.tup [.ref pb, pw]) ∧ BoxesAt H pb us bs ∧ (∀ b ∈ bs, b.Ok) ∧ bs.length ≤ 4 ∧ vol bs ≤ 400 ∧ SaysAt H po uo os ∧ (∀ o ∈ os, o.In bs.length) ∧ os.length ≤ 10000 ∧
  ∀ (p : Addr) (H' : Hp), H p = none → Same H H' → H' p = some (.lst ((keptAt (allv bs) os).map fun i => uo.getD i .non)) → Q (.ref p) H'
section
variable {P : Program} {w : World} {K : PySem.W.Frag} {mg : Str → Option Value} {base : Heap}
theorem scThinned : FnScope ["program", "some", "every", "full", "some_bits", "ahead", "behind", "left", "place", "beside"] ["program", "some"] (defScope sPThinned) := ⟨rfl, rfl, rfl, by decide +kernel, rfl, by decide +kernel, by decide +kernel⟩
theorem nums_at {ns : List Nat} {i n : Nat} (h : ns[i]? = some n) : atI (nums ns) ((i : Nat) : Int) = some (.int (n : Nat)) := by
  refine atI_nat ?_
  unfold nums
  rw [List.getElem?_map, h]
  rfl
theorem bne_nat {a b : Nat} : (!decide (V.int ((a : Nat) : Int) = V.int ((b : Nat) : Int))) = !decide (a = b) := by
  congr 1
  rw [Bool.eq_iff_iff, decide_eq_true_iff, decide_eq_true_iff]
  constructor
  · intro h
    have := V.int.inj h
    omega
  · rintro rfl
    rfl
theorem ok_thinned (h : Has K mg "thinned" sPThinned ["program", "some"]) (B : Blt mg) (cV : Cal P w K mg base 2 "all_values" ["program"] spAllValues) (cB : Cal P w K mg base 1 "bits_of" ["truths"] spBitsOf) (cS : Cal P w K mg base 3 "so_bits" ["saying", "every"] spSoBits) (cA : Cal P w K mg base 1 "bits_ahead" ["some_bits", "full"] spAhead) : Cal P w K mg base 4 "thinned" ["program", "some"] spThinned := by
  refine h.cal scThinned (fun vs H Q E h => ?_) (fun f cdv A outer s H vs Q E hr h => ?_)
  · obtain ⟨pp, pb, po, pw, us, uo, bs, os, rfl, _⟩ := h
    rfl
  obtain ⟨pp, pb, po, pw, us, uo, bs, os, rfl, hp, X, ok, h4, hv, Y, oin, ol, q⟩ := h
  have hr3 : Room 3 _ := hr
  have hr2 : Room 2 _ := hr.mono (by decide)
  have hr1 : Room 1 _ := hr.mono (by decide)
  refine ⟨_, (pss_cons (ps_set (i := 2) scThinned.nd rfl (Or.inr rfl) (pe_cal cV hr2 rfl (pa_cons (pv 0) pa_nil)))
    (pss_cons (ps_set (i := 3) scThinned.nd rfl (Or.inl rfl) (pe_cal cB hr1 rfl (pa_cons (pe_op op_rep (pe_lst (pa_cons pe_bl pa_nil)) (pe_callB call_len_seq rfl B.len bt_len (pa_cons (pv 2) pa_nil))) pa_nil)))
    (pss_cons (ps_lcC (i := 4) (defScope sPThinned) ["program", "some", "every", "full", "some_bits", "ahead", "behind", "left", "place", "beside"] (N := ["saying", "every"]) (ix := [none, some 2]) rfl scThinned.nd rfl (Or.inl rfl) ⟨rfl, by decide +kernel, by decide +kernel, by decide +kernel, rfl, by decide +kernel⟩ (pi_list (pv 1)) (fun _ _ _ _ => pg_name (i := 0) (show (["saying", "every"] : List Str).Nodup by decide +kernel) rfl (Or.inl rfl)) (fun _ _ _ _ => pts_nil) (fun _ _ _ _ => (pe_cal cS hr3 rfl (pa_cons (pv 0) (pa_cons (pv 1) pa_nil)))))
    (pss_cons (ps_set (i := 5) scThinned.nd rfl (Or.inl rfl) (pe_cal cA hr1 rfl (pa_cons (pv 4) (pa_cons (pv 3) pa_nil))))
    (pss_cons (ps_set (i := 6) scThinned.nd rfl (Or.inl rfl) (pv 3))
    (pss_cons (ps_set (i := 7) scThinned.nd rfl (Or.inl rfl) (pe_lst pa_nil))
    (pss_cons (ps_for PassesOwn.never rfl (pi_rangeD rfl B.range (pa_cons (pe_op op_sub (pe_callB call_len_seq rfl B.len bt_len (pa_cons (pv 1) pa_nil)) pe_int) (pa_cons (pe_un un_neg pe_int) (pa_cons (pe_un un_neg pe_int) pa_nil)))) (pg_name (i := 8) scThinned.nd rfl (Or.inl rfl)) (pss_cons (ps_set (i := 9) scThinned.nd rfl (Or.inl rfl) (pe_op op_and (pe_ix ix_list (pv 5) (pv 8) (fun _ _ => rfl)) (pv 6)))
    (pss_one (ps_if (pt_cmpR op_ne (pe_op op_and (pv 9) (pe_ix ix_list (pv 4) (pv 8) (fun _ _ => rfl))) (pv 9) (nomark _)) (pss_cons (ps_expr (pe_bm PySem.F.plainAttrs_list PySem.F.slot_list_append PySem.F.type_list_append mt_append (pv 7) (pa_cons (pe_ix ix_list (pv 1) (pv 8) (fun _ _ => rfl)) pa_nil)))
    (pss_one (ps_set (i := 6) scThinned.nd rfl (Or.inl rfl) (pe_op op_and (pv 6) (pe_ix ix_list (pv 4) (pv 8) (fun _ _ => rfl)))))) pss_nil))))
    (pss_one (ps_ret (pe_listrev rfl rfl B.list rfl B.reversed (pv 7))))))))))), ?_⟩
  refine ⟨_, rfl, pp, pb, pw, us, bs, rfl, hp, X, ok, h4, hv, fun pl ul H1 hpl s1 L1 => ?_⟩
  have v400 := vals_400 ok hv
  have ull := L1.each.1
  have hvm : ∀ v ∈ allv bs, v.length = bs.length ∧ ∀ n ∈ v, -1000 < n ∧ n < 1000 := fun v hm => by
    have W := allv_mem ok hm
    exact ⟨W.1.symm, W.sm ok⟩
  -- all truths
  refine ⟨(by show 1 ≤ sizeLine; decide), fun pt hpt => ?_⟩
  have s2 := Same.new hpt (.lst [.bl true])
  have t2 : upd H1 pt (.lst [.bl true]) pt = some (.lst [.bl true]) := upd_same
  generalize upd H1 pt (.lst [.bl true]) = H2 at *
  refine ⟨_, rfl, pl, ul, rfl, .inl (SqL.of (s2 _ _ L1.at_)), pt, _, _, rfl, rfl, t2, by omega, by omega, ?_, fun pr hpr => ?_⟩
  · rw [List.length_singleton, Nat.one_mul]
    exact sz' (by omega)
  have s3 := Same.new hpr (.lst ((List.replicate (allv bs).length true).map V.bl))
  have et : (List.replicate ((ul.length : Int)).toNat [V.bl true]).flatten = (List.replicate (allv bs).length true).map V.bl := by
    rw [Int.toNat_natCast, ull, flat_true]
  rw [et]
  refine ⟨pr, _, rfl, upd_same, ?_⟩
  have s13 := (s1.trans s2).trans s3
  have L3 := (L1.same s2).same s3
  generalize upd H2 pr (.lst ((List.replicate (allv bs).length true).map V.bl)) = H3 at *
  clear s2 s3 t2 hpr hpt et
  -- the rows
  refine ⟨_, rfl, po, rfl, ⟨_, SqL.of (s13 _ _ Y.at_)⟩, fun D hD => ?_⟩
  refine lc_list (K := K) (a := po) (xs := uo) (fun i ys σ H' => ∃ c0 : Option V, σ = [c0, some (.ref pl)] ∧ ys = nums ((os.take i).map (rowOf (allv bs))) ∧ H' D = some (.lst ys) ∧ Same H3 H')
    ⟨none, rfl, rfl, upd_same, Same.new hD _⟩ (fun i ys σ H' _ hh => by obtain ⟨_, _, _, _, e⟩ := hh; exact SqL.of (e _ _ (s13 _ _ Y.at_))) ?_ ?_
  · rintro i x ys σ H' hi ⟨c0, rfl, rfl, hD', e'⟩
    obtain ⟨o, ho, p, rfl, hpo⟩ := Y.each.at hi
    have hil := (List.getElem?_eq_some_iff.mp ho).1
    refine lc_yes ⟨_, rfl, _, rfl, p, pl, o, ul, allv bs, bs.length, rfl, e' _ _ (s13 _ _ hpo), L3.same e', v400, oin o (List.mem_of_getElem? ho), hvm, fun H5 s5 => ?_⟩
    refine ⟨s5 _ _ hD', sz (by unfold nums; rw [List.length_map, List.length_map, List.length_take]; omega), _, rfl, ?_, upd_same, fun c u z => ?_⟩
    · rw [List.take_add_one, ho, List.map_append]
      unfold nums
      rw [List.map_append]
      rfl
    · rw [upd_ne (ne_of_none z hD)]
      exact s5 _ _ (e' _ _ z)
  rintro ys σ H4 ⟨c0, rfl, rfl, hD4, s4⟩
  rw [Y.each.1, List.take_length] at hD4
  obtain ⟨rows, hrows⟩ : ∃ rows, rows = os.map (rowOf (allv bs)) := ⟨_, rfl⟩
  obtain ⟨full, hfull⟩ : ∃ full, full = fullOf (allv bs) := ⟨_, rfl⟩
  have rl : rows.length = os.length := by rw [hrows, List.length_map]
  have ul' : uo.length = os.length := Y.each.1
  unfold keptAt at q
  rw [← hrows] at hD4 q
  rw [← hfull] at q
  have s14 := s13.trans s4
  show tSeq _ _ _ [some (.ref pp), some (.ref po), some (.ref pl), some (.int (fullOf (allv bs) : Nat)), some (.ref D), none, none, none, none, none] H4
  rw [← hfull]
  refine ⟨_, rfl, _, rfl, D, full, rows, rfl, hD4, by omega, fun pa H5 hpa s5 A5 => ?_⟩
  refine ⟨_, rfl, ?_⟩
  refine ⟨(by show 0 ≤ sizeLine; decide), fun pf hpf => ?_⟩
  have s6 := Same.new hpf (.lst [])
  have A6 := s6 _ _ A5
  have D6 := s6 _ _ (s5 _ _ hD4)
  have Y6 := s6 _ _ (s5 _ _ (s14 _ _ Y.at_))
  have f6 : upd H5 pf (.lst []) pf = some (.lst []) := upd_same
  have s16 := (s14.trans s5).trans s6
  have hpfH : H pf = none := Same.free (s14.trans s5) hpf
  have nfa := ne_of_none A5 hpf
  have nfD := ne_of_none (s5 _ _ hD4) hpf
  have nfo := ne_of_none (s5 _ _ (s14 _ _ Y.at_)) hpf
  generalize upd H5 pf (.lst []) = H6 at *
  refine ⟨_, rfl, po, _, rfl, .inl (SqL.of Y6), _, _, rfl, rfl, _, rfl, _, rfl, _, rfl, by omega, by omega, for_down (n := os.length) (fun i σ H' => ∃ c8 c9 : Option V, σ = [some (.ref pp), some (.ref po), some (.ref pl), some (.int (full : Nat)), some (.ref D), some (.ref pa), some (.int ((thK full rows i).2 : Nat)), some (.ref pf), c8, c9] ∧ i ≤ os.length ∧
      (∀ c u, c ≠ pf → H6 c = some u → H' c = some u) ∧ H' pf = some (.lst ((thK full rows i).1.map fun i => uo.getD i .non))) ?_ ⟨none, none, ?_, Nat.le_refl _, (fun c u _ e => e), ?_⟩ ?_ ?_⟩
  · rw [ul']
    omega
  · rw [← rl, thK_end]
    rfl
  · rw [← rl, thK_end]
    exact f6
  · rintro i σ H' hi ⟨c8, c9, rfl, _, e', hf'⟩
    have hir : i < rows.length := by omega
    obtain ⟨r, hrr⟩ : ∃ r, rows[i]? = some r := ⟨_, List.getElem?_eq_getElem hir⟩
    have hgd : rows.getD i 0 = r := by rw [List.getD_eq_getElem?_getD, hrr]; rfl
    have ha : ((List.range rows.length).map (ahd full rows))[i]? = some (ahd full rows i) := by
      rw [List.getElem?_map, List.getElem?_range hir]
      rfl
    have hu : uo[i]? = some (uo.getD i .non) := by
      rw [List.getD_eq_getElem?_getD, List.getElem?_eq_getElem (by omega)]
      rfl
    have hlen := (thK_ok (full := full) (rows := rows) (k := rows.length - (i + 1)) (i := i + 1) (by omega)).2.2
    have hsu := thK_succ (full := full) hir
    unfold thS at hsu
    rw [hgd] at hsu
    refine ⟨_, rfl, _, rfl, pa, _, _, _, rfl, rfl, SqL.of (e' _ _ (nfa) A6), nums_at ha, _, rfl, _, _, rfl, rfl, ?_⟩
    dsimp only
    rw [and_nat]
    refine ⟨_, rfl, _, rfl, _, rfl, D, _, _, _, rfl, rfl, SqL.of (e' _ _ (nfD) D6), nums_at hrr, _, _, rfl, rfl, ?_⟩
    dsimp only
    rw [and_nat]
    refine ⟨_, rfl, rfl, _, rfl, ?_⟩
    rw [bne_nat]
    by_cases c : ahd full rows i &&& (thK full rows (i + 1)).2 &&& r = ahd full rows i &&& (thK full rows (i + 1)).2
    · rw [if_pos c] at hsu
      rw [decide_eq_true c]
      refine iteF ⟨_, _, by rw [hsu]; rfl, Nat.le_of_lt hi, e', ?_⟩
      rw [hsu]
      exact hf'
    · rw [if_neg c] at hsu
      rw [decide_eq_false c]
      refine iteT ?_
      refine ⟨_, rfl, .inl ⟨rfl, _, SqL.of hf'⟩, _, rfl, _, rfl, po, _, _, _, rfl, rfl, SqL.of (e' _ _ (nfo) Y6), atI_nat hu, pf, _, _, rfl, rfl, hf', sz (by rw [List.length_map]; omega), ?_⟩
      refine ⟨_, rfl, _, rfl, _, rfl, D, _, _, _, rfl, rfl, SqL.of ?_, nums_at hrr, _, _, rfl, rfl, ?_⟩
      · rw [upd_ne nfD]
        exact e' _ _ nfD D6
      dsimp only
      rw [and_nat]
      refine ⟨_, _, by rw [hsu]; rfl, Nat.le_of_lt hi, fun c u nc e => ?_, ?_⟩
      · rw [upd_ne nc]
        exact e' _ _ nc e
      · rw [hsu, upd_same, List.map_append]
        rfl
  · rintro σ H' ⟨c8, c9, rfl, _, e', hf'⟩
    refine ⟨_, rfl, pf, _, rfl, SqL.of hf', fun p hp => ?_⟩
    have s17 : Same H H' := fun c u z => e' _ _ (fun y => by rw [y, hpfH] at z; cases z) (s16 _ _ z)
    refine q p _ (Same.free s17 hp) (s17.trans (Same.new hp _)) ?_
    rw [upd_same, List.map_reverse]
end

/-! ### thinned is enough, and none of it is spare -/
section
variable {full : Nat} {rows : List Nat}
theorem getD_of {i r : Nat} (h : rows[i]? = some r) : rows.getD i 0 = r := by rw [List.getD_eq_getElem?_getD, h]; rfl
theorem ahd_bit (k : Nat) : ∀ i, i ≤ rows.length → (ahd full rows i).testBit k = (full.testBit k && (rows.take i).all fun r => r.testBit k)
  | 0, _ => by
    show full.testBit k = _
    rw [List.take_zero, List.all_nil, Bool.and_true]
  | i + 1, h => by
    have hi : i < rows.length := by omega
    rw [ahd_succ (List.getElem?_eq_getElem hi), Nat.testBit_and, ahd_bit k i (by omega), List.take_add_one, List.getElem?_eq_getElem hi, List.all_append]
    show _ = (full.testBit k && ((rows.take i).all (fun r => r.testBit k) && ([rows[i]].all fun r => r.testBit k)))
    rw [List.all_cons, List.all_nil, Bool.and_true, Bool.and_assoc]
theorem thK_bit (k : Nat) : ∀ {d i : Nat}, i + d = rows.length → (thK full rows i).2.testBit k = (full.testBit k && (thK full rows i).1.all fun q => (rows.getD q 0).testBit k)
  | 0, i, h => by
    obtain rfl : i = rows.length := by omega
    rw [thK_end]
    show full.testBit k = _
    rw [List.all_nil, Bool.and_true]
  | d + 1, i, h => by
    have ih := thK_bit k (d := d) (i := i + 1) (by omega)
    rw [thK_succ (by omega)]
    rcases thS_cases (full := full) (rows := rows) (thK full rows (i + 1)) i with e | e
    · rw [e]
      exact ih
    · rw [e]
      show ((thK full rows (i + 1)).2 &&& rows.getD i 0).testBit k = (full.testBit k && (((thK full rows (i + 1)).1 ++ [i]).all fun q => (rows.getD q 0).testBit k))
      rw [Nat.testBit_and, ih, List.all_append, List.all_cons, List.all_nil, Bool.and_true, Bool.and_assoc]
/-- what is ahead and what is kept behind have the same in common, wherever one looks -/
theorem thK_step {i : Nat} (h : i < rows.length) : ahd full rows i &&& (thK full rows i).2 = ahd full rows (i + 1) &&& (thK full rows (i + 1)).2 := by
  rw [thK_succ h, ahd_succ (List.getElem?_eq_getElem h)]
  have hg := getD_of (List.getElem?_eq_getElem h)
  unfold thS
  rw [hg]
  split
  · rename_i e
    rw [← e, Nat.and_assoc, Nat.and_comm _ rows[i], ← Nat.and_assoc]
  · show ahd full rows i &&& ((thK full rows (i + 1)).2 &&& rows[i]) = _
    rw [Nat.and_comm (thK full rows (i + 1)).2, ← Nat.and_assoc]
theorem thK_all : ∀ {d i : Nat}, i + d = rows.length → ahd full rows i &&& (thK full rows i).2 = ahd full rows rows.length &&& full
  | 0, i, h => by
    obtain rfl : i = rows.length := by omega
    rw [thK_end]
  | d + 1, i, h => by
    rw [thK_step (by omega)]
    exact thK_all (d := d) (by omega)
/-- what is kept behind a place is kept -/
theorem thK_mono {p q : Nat} (hq : p < q) (hr : q < rows.length) : q ∈ (thK full rows 0).1 ↔ q ∈ (thK full rows (p + 1)).1 := by
  rw [thK_iff hr (Nat.zero_le _), thK_iff hr (by omega)]
end
section
variable {vl : List (List Int)} {os : List Say}
theorem full_bit {k : Nat} : (fullOf vl).testBit k = true ↔ ∃ v ∈ vl, ∀ f : List Int → Bool, (bw (vl.map f)).testBit k = f v := by
  have e : fullOf vl = bw (vl.map fun _ => true) := by
    unfold fullOf
    congr 1
    induction vl with
    | nil => rfl
    | cons a l ih => rw [List.length_cons, List.replicate_succ, ih]; rfl
  rw [e]
  constructor
  · intro h
    rcases bw_any vl k with z | z
    · rw [z fun _ => true] at h
      cases h
    · exact z
  · rintro ⟨v, _, h⟩
    exact h fun _ => true
theorem row_getD {i : Nat} {o : Say} (h : os[i]? = some o) : (os.map (rowOf vl)).getD i 0 = rowOf vl o := getD_of (by rw [List.getElem?_map, h]; rfl)
theorem kept_mem {i : Nat} : i ∈ keptAt vl os ↔ i ∈ (thK (fullOf vl) (os.map (rowOf vl)) 0).1 := by
  unfold keptAt
  exact List.mem_reverse
theorem kept_lt' {i : Nat} (h : i ∈ keptAt vl os) : i < os.length := by
  have := (thK_ok (full := fullOf vl) (rows := os.map (rowOf vl)) (k := (os.map (rowOf vl)).length) (i := 0) (Nat.zero_add _)).1 i (kept_mem.mp h)
  rw [List.length_map] at this
  exact this.2
theorem kept_sorted : (keptAt vl os).Pairwise (· < ·) := by
  unfold keptAt
  rw [List.pairwise_reverse]
  exact (thK_ok (full := fullOf vl) (rows := os.map (rowOf vl)) (k := (os.map (rowOf vl)).length) (i := 0) (Nat.zero_add _)).2.1
theorem kept_enough {v : List Int} (hv : v ∈ vl) (h : ∀ i ∈ keptAt vl os, ∀ o, os[i]? = some o → o.so v = true) : ∀ o ∈ os, o.so v = true := by
  obtain ⟨k, hk⟩ := bw_pos hv
  have hf : (fullOf vl).testBit k = true := full_bit.mpr ⟨v, hv, hk⟩
  have hrow : ∀ o, (rowOf vl o).testBit k = o.so v := fun o => hk fun v => o.so v
  have e : Nat.testBit _ k = Nat.testBit _ k := congrArg (fun n => Nat.testBit n k) (thK_all (full := fullOf vl) (rows := os.map (rowOf vl)) (d := (os.map (rowOf vl)).length) (i := 0) (Nat.zero_add _))
  rw [Nat.testBit_and, Nat.testBit_and, ahd_bit k 0 (Nat.zero_le _), thK_bit k (d := (os.map (rowOf vl)).length) (i := 0) (Nat.zero_add _), ahd_bit k _ (Nat.le_refl _), hf, List.take_zero, List.all_nil, List.take_length, Bool.true_and, Bool.true_and, Bool.true_and, Bool.and_true, Bool.true_and] at e
  have hl : ((thK (fullOf vl) (os.map (rowOf vl)) 0).1.all fun q => ((os.map (rowOf vl)).getD q 0).testBit k) = true := by
    rw [List.all_eq_true]
    intro q hq
    have hq' := kept_mem.mpr hq
    have hlt := kept_lt' hq'
    rw [row_getD (List.getElem?_eq_getElem hlt), hrow]
    exact h q hq' _ (List.getElem?_eq_getElem hlt)
  rw [hl] at e
  have e' := e.symm
  rw [List.all_eq_true] at e'
  intro o ho
  rw [← hrow]
  exact e' _ (List.mem_map.mpr ⟨o, ho, rfl⟩)
/-- each that is kept has values at which it alone is not so -/
theorem kept_alone {p : Nat} {o : Say} (hp : p ∈ keptAt vl os) (ho : os[p]? = some o) : ∃ v ∈ vl, o.so v = false ∧ ∀ q ∈ keptAt vl os, q ≠ p → ∀ o', os[q]? = some o' → o'.so v = true := by
  have hlt := kept_lt' hp
  have hlt' : p < (os.map (rowOf vl)).length := by rw [List.length_map]; exact hlt
  have hn := (thK_iff (full := fullOf vl) hlt' (Nat.zero_le _)).mp (kept_mem.mp hp)
  rw [row_getD ho] at hn
  have hb : ∃ k, (ahd (fullOf vl) (os.map (rowOf vl)) p &&& (thK (fullOf vl) (os.map (rowOf vl)) (p + 1)).2).testBit k = true ∧ (rowOf vl o).testBit k = false := by
    apply Classical.byContradiction
    intro hc
    apply hn
    refine Nat.eq_of_testBit_eq fun k => ?_
    rw [Nat.testBit_and]
    cases e1 : (ahd (fullOf vl) (os.map (rowOf vl)) p &&& (thK (fullOf vl) (os.map (rowOf vl)) (p + 1)).2).testBit k with
    | false => rfl
    | true =>
      cases e2 : (rowOf vl o).testBit k with
      | true => rfl
      | false => exact absurd ⟨k, e1, e2⟩ hc
  obtain ⟨k, h1, h2⟩ := hb
  rw [Nat.testBit_and, Bool.and_eq_true, ahd_bit k p (Nat.le_of_lt hlt'), thK_bit k (d := (os.map (rowOf vl)).length - (p + 1)) (i := p + 1) (by omega), Bool.and_eq_true, Bool.and_eq_true, List.all_eq_true, List.all_eq_true] at h1
  obtain ⟨⟨hf, ha⟩, _, hk⟩ := h1
  obtain ⟨v, hv, hbv⟩ := full_bit.mp hf
  have hrow : ∀ o, (rowOf vl o).testBit k = o.so v := fun o => hbv fun v => o.so v
  refine ⟨v, hv, by rw [← hrow]; exact h2, fun q hq hne o' ho' => ?_⟩
  rcases Nat.lt_or_ge q p with z | z
  · rw [← hrow]
    refine ha _ ?_
    rw [List.mem_take_iff_getElem]
    have hql := kept_lt' hq
    refine ⟨q, by rw [List.length_map]; omega, ?_⟩
    rw [List.getElem_map]
    have := List.getElem?_eq_getElem (l := os) hql
    rw [ho'] at this
    rw [← Option.some.inj this]
  · have hql : q < (os.map (rowOf vl)).length := by rw [List.length_map]; exact kept_lt' hq
    have := hk q ((thK_mono (by omega) hql).mp (kept_mem.mp hq))
    rw [row_getD ho', hrow] at this
    exact this
end
/-- each has values at which it alone is not so -/
def Alone (vl : List (List Int)) (ls : List Say) : Prop := ∀ (i : Nat) (o : Say), ls[i]? = some o → ∃ v ∈ vl, o.so v = false ∧ ∀ (j : Nat) (o' : Say), j ≠ i → ls[j]? = some o' → o'.so v = true
def lsOf (vl : List (List Int)) (os : List Say) : List Say := (keptAt vl os).map fun i => os.getD i (.same 0 0)
theorem os_getD {os : List Say} {i : Nat} (h : i < os.length) : os[i]? = some (os.getD i (.same 0 0)) := by
  rw [List.getD_eq_getElem?_getD, List.getElem?_eq_getElem h]
  rfl
theorem ls_alone {vl : List (List Int)} {os : List Say} : Alone vl (lsOf vl os) := fun i o h => by
  unfold lsOf at h
  rw [List.getElem?_map] at h
  obtain ⟨p, hp, rfl⟩ := Option.map_eq_some_iff.mp h
  have hpm := List.mem_of_getElem? hp
  obtain ⟨v, hv, h1, h2⟩ := kept_alone hpm (os_getD (kept_lt' hpm))
  refine ⟨v, hv, h1, fun j o' hj h' => ?_⟩
  unfold lsOf at h'
  rw [List.getElem?_map] at h'
  obtain ⟨q, hq, rfl⟩ := Option.map_eq_some_iff.mp h'
  have hqm := List.mem_of_getElem? hq
  refine h2 q hqm (fun e => hj ?_) _ (os_getD (kept_lt' hqm))
  subst e
  have nd : (keptAt vl os).Nodup := (kept_sorted (vl := vl) (os := os)).imp fun z => Nat.ne_of_lt z
  have hi := (List.getElem?_eq_some_iff.mp hp)
  have hj' := (List.getElem?_eq_some_iff.mp hq)
  obtain ⟨a1, a2⟩ := hi
  obtain ⟨b1, b2⟩ := hj'
  exact (List.getElem_inj nd).mp (b2.trans a2.symm)
theorem ls_enough {vl : List (List Int)} {os : List Say} {v : List Int} (hv : v ∈ vl) (h : ∀ o ∈ lsOf vl os, o.so v = true) : ∀ o ∈ os, o.so v = true := by
  refine kept_enough hv fun i hi o ho => ?_
  refine h o ?_
  unfold lsOf
  refine List.mem_map.mpr ⟨i, hi, ?_⟩
  rw [List.getD_eq_getElem?_getD, ho]
  rfl
theorem sub_of {d : Say} : ∀ (os : List Say) (off : Nat) (ix : List Nat), ix.Pairwise (· < ·) → (∀ i ∈ ix, off ≤ i ∧ i < off + os.length) → (ix.map fun i => os.getD (i - off) d).Sublist os
  | [], off, ix, _, h => by
    cases ix with
    | nil => exact List.Sublist.refl _
    | cons i t => have := h i List.mem_cons_self; simp at this; omega
  | o :: os, off, [], _, _ => List.nil_sublist _
  | o :: os, off, i :: t, hp, h => by
    rw [List.pairwise_cons] at hp
    have hi := h i List.mem_cons_self
    have conv : ∀ (s : List Nat), (∀ j ∈ s, off + 1 ≤ j ∧ j < off + 1 + os.length) → (s.map fun j => (o :: os).getD (j - off) d) = s.map fun j => os.getD (j - (off + 1)) d := fun s hs => by
      refine List.map_congr_left fun j hj => ?_
      have := (hs j hj).1
      rw [show j - off = (j - (off + 1)) + 1 by omega]
      rfl
    by_cases e : i = off
    · subst e
      have ht : ∀ j ∈ t, i + 1 ≤ j ∧ j < i + 1 + os.length := fun j hj => by
        have h1 := hp.1 j hj
        have h2 := h j (List.mem_cons_of_mem _ hj)
        rw [List.length_cons] at h2
        omega
      rw [List.map_cons, conv t ht, Nat.sub_self]
      exact List.Sublist.cons_cons o (sub_of os (i + 1) t hp.2 ht)
    · have ht : ∀ j ∈ i :: t, off + 1 ≤ j ∧ j < off + 1 + os.length := fun j hj => by
        have h2 := h j hj
        rw [List.length_cons] at h2
        rcases List.mem_cons.mp hj with z | z
        · omega
        · have := hp.1 j z
          omega
      rw [conv (i :: t) ht]
      exact List.Sublist.cons o (sub_of os (off + 1) (i :: t) (List.pairwise_cons.mpr hp) ht)
theorem ls_sub (vl : List (List Int)) (os : List Say) : (lsOf vl os).Sublist os := by
  have := sub_of (d := .same 0 0) os 0 (keptAt vl os) kept_sorted fun i hi => ⟨Nat.zero_le _, by rw [Nat.zero_add]; exact kept_lt' hi⟩
  exact this

/-! ### reasons of what was left out -/
def en : Nat → List Nat → Nat → Bool
  | 0, _, w => w == 0
  | m + 1, rows, w => w == 0 || (List.range rows.length).any fun k => en m (rows.drop (k + 1)) (w &&& rows.getD k 0)
theorem cons_sub {b : Nat} {l : List Nat} : ∀ {rows : List Nat}, (b :: l).Sublist rows → ∃ k, rows[k]? = some b ∧ l.Sublist (rows.drop (k + 1))
  | [], h => by cases h
  | r :: rows, h => by
    cases h with
    | cons _ h =>
      obtain ⟨k, h1, h2⟩ := cons_sub h
      exact ⟨k + 1, h1, h2⟩
    | cons_cons _ h => exact ⟨0, rfl, h⟩
theorem en_iff : ∀ (m : Nat) (rows : List Nat) (w : Nat), en m rows w = true ↔ ∃ l : List Nat, l.Sublist rows ∧ l.length ≤ m ∧ ands w l = 0
  | 0, rows, w => by
    show (w == 0) = true ↔ _
    rw [beq_iff_eq]
    constructor
    · intro h
      exact ⟨[], List.nil_sublist _, Nat.le_refl _, h⟩
    · rintro ⟨l, _, hl, h⟩
      have : l = [] := List.eq_nil_of_length_eq_zero (by omega)
      subst this
      exact h
  | m + 1, rows, w => by
    show (w == 0 || (List.range rows.length).any fun k => en m (rows.drop (k + 1)) (w &&& rows.getD k 0)) = true ↔ _
    rw [Bool.or_eq_true, beq_iff_eq, List.any_eq_true]
    constructor
    · rintro (h | ⟨k, hk, h⟩)
      · exact ⟨[], List.nil_sublist _, Nat.zero_le _, h⟩
      · have hk' := List.mem_range.mp hk
        obtain ⟨l, h1, h2, h3⟩ := (en_iff m _ _).mp h
        refine ⟨rows.getD k 0 :: l, ?_, by rw [List.length_cons]; omega, h3⟩
        have e : rows.drop k = rows.getD k 0 :: rows.drop (k + 1) := by
          rw [List.drop_eq_getElem_cons hk', getD_of (List.getElem?_eq_getElem hk')]
        refine List.Sublist.trans ?_ (List.drop_sublist k rows)
        rw [e]
        exact List.Sublist.cons_cons _ h1
    · rintro ⟨l, h1, h2, h3⟩
      cases l with
      | nil => exact .inl h3
      | cons b l =>
        obtain ⟨k, hk, hs⟩ := cons_sub h1
        have hkl := (List.getElem?_eq_some_iff.mp hk).1
        refine .inr ⟨k, List.mem_range.mpr hkl, (en_iff m _ _).mpr ⟨l, hs, by rw [List.length_cons] at h2; omega, ?_⟩⟩
        rw [getD_of hk]
        exact h3
theorem cmb_none {R : Nat → Nat} {n c W : Nat} (h : (cmb n 0 c).find? (fun ch => decide (ands W (ch.map R) = 0)) = none) : ∀ l : List Nat, l.Sublist ((List.range n).map R) → l.length = c → ands W l ≠ 0 := fun l hl hc => by
  rw [find_cmb] at h
  have hf : fp (enr R n 0) c W = none := by
    cases e : fp (enr R n 0) c W with
    | none => rfl
    | some m => rw [e] at h; cases h
  have := fe_none hf
  rw [(enr_fidx R n).1] at this
  exact fe_whole this hl hc
theorem chs_none {n : Nat} {p : List Nat → Bool} (h : (chs n).find? p = none) : ∀ c, c ≤ 3 → (cmb n 0 c).find? p = none := fun c hc => by
  rw [List.find?_eq_none] at h ⊢
  intro x hx
  refine h x ?_
  rw [chs_cmb, List.mem_append, List.mem_append, List.mem_append]
  have : c = 0 ∨ c = 1 ∨ c = 2 ∨ c = 3 := by omega
  rcases this with rfl | rfl | rfl | rfl
  · exact .inl (.inl (.inl hx))
  · exact .inl (.inl (.inr hx))
  · exact .inl (.inr hx)
  · exact .inr hx
theorem cmb_len : ∀ (n st c : Nat) (ch : List Nat), ch ∈ cmb n st c → ch.length = c ∧ (∀ i ∈ ch, st ≤ i ∧ i < st + n) ∧ ch.Pairwise (· < ·)
  | n, st, 0, ch, h => by
    rw [cmb_zero] at h
    rw [List.mem_singleton.mp h]
    exact ⟨rfl, (fun i hi => nomatch hi), List.Pairwise.nil⟩
  | 0, st, c + 1, ch, h => nomatch h
  | n + 1, st, c + 1, ch, h => by
    rw [cmb_succ] at h
    rcases List.mem_append.mp h with z | z
    · obtain ⟨t, ht, rfl⟩ := List.mem_map.mp z
      obtain ⟨h1, h2, h3⟩ := cmb_len n (st + 1) c t ht
      refine ⟨by rw [List.length_cons, h1], fun i hi => ?_, List.pairwise_cons.mpr ⟨fun j hj => (h2 j hj).1, h3⟩⟩
      rcases List.mem_cons.mp hi with rfl | hi
      · omega
      · have := h2 i hi
        omega
    · obtain ⟨h1, h2, h3⟩ := cmb_len n (st + 1) (c + 1) ch z
      refine ⟨h1, fun i hi => ?_, h3⟩
      have := h2 i hi
      omega
theorem find_app {α : Type} {p : α → Bool} {l m : List α} {x : α} (h : (l ++ m).find? p = some x) : l.find? p = some x ∨ (l.find? p = none ∧ m.find? p = some x) := by
  rw [List.find?_append] at h
  cases e : l.find? p with
  | some y => rw [e] at h; exact .inl h
  | none => rw [e] at h; exact .inr ⟨rfl, h⟩
/-- the first of all choices: none of fewer -/
theorem chs_first {n : Nat} {p : List Nat → Bool} {ch : List Nat} (h : (chs n).find? p = some ch) : ch.length ≤ 3 ∧ (∀ i ∈ ch, i < n) ∧ ch.Pairwise (· < ·) ∧ p ch = true ∧ ∀ c, c < ch.length → (cmb n 0 c).find? p = none := by
  have hp := List.find?_some h
  rw [chs_cmb] at h
  have key : ∀ c, (cmb n 0 c).find? p = some ch → ch.length = c ∧ (∀ i ∈ ch, i < n) ∧ ch.Pairwise (· < ·) := fun c hc => by
    obtain ⟨h1, h2, h3⟩ := cmb_len n 0 c ch (List.mem_of_find?_eq_some hc)
    exact ⟨h1, fun i hi => by have := (h2 i hi).2; omega, h3⟩
  rcases find_app h with h | ⟨n3, h⟩
  · rcases find_app h with h | ⟨n2, h⟩
    · rcases find_app h with h | ⟨n1, h⟩
      · obtain ⟨a, b, c⟩ := key 0 h
        exact ⟨by omega, b, c, hp, fun c hc => by omega⟩
      · obtain ⟨a, b, c⟩ := key 1 h
        refine ⟨by omega, b, c, hp, fun c hc => ?_⟩
        obtain rfl : c = 0 := by omega
        exact n1
    · obtain ⟨a, b, c⟩ := key 2 h
      refine ⟨by omega, b, c, hp, fun c hc => ?_⟩
      rw [List.find?_append, Option.or_eq_none_iff] at n2
      have : c = 0 ∨ c = 1 := by omega
      rcases this with rfl | rfl
      · exact n2.1
      · exact n2.2
  · obtain ⟨a, b, c⟩ := key 3 h
    refine ⟨by omega, b, c, hp, fun c hc => ?_⟩
    rw [List.find?_append, List.find?_append, Option.or_eq_none_iff, Option.or_eq_none_iff] at n3
    have : c = 0 ∨ c = 1 ∨ c = 2 := by omega
    rcases this with rfl | rfl | rfl
    · exact n3.1.1
    · exact n3.1.2
    · exact n3.2
def rat (vl : List (List Int)) (os : List Say) (i : Nat) : Nat := (os.map (rowOf vl)).getD i 0
theorem rat_map (vl : List (List Int)) (os : List Say) : (List.range os.length).map (rat vl os) = os.map (rowOf vl) := by
  refine List.ext_getElem? fun i => ?_
  by_cases h : i < os.length
  · rw [List.getElem?_map, List.getElem?_range h]
    unfold rat
    have h' : i < (os.map (rowOf vl)).length := by rw [List.length_map]; exact h
    rw [List.getElem?_eq_getElem h']
    show some ((os.map (rowOf vl)).getD i 0) = some _
    rw [List.getD_eq_getElem?_getD, List.getElem?_eq_getElem h']
    rfl
  · rw [List.getElem?_eq_none (by rw [List.length_map, List.length_range]; omega), List.getElem?_eq_none (by rw [List.length_map]; omega)]
theorem rat_of {vl : List (List Int)} {os : List Say} {i : Nat} {o : Say} (h : os[i]? = some o) : rat vl os i = rowOf vl o := row_getD h
/-- what a reason told must be -/
inductive Why (vl : List (List Int)) (s : Say) (ls : List Say) : Option (List Nat) → Prop where
  | no : en 3 (ls.map (rowOf vl)) (wrongOf vl s) = false → Why vl s ls none
  | yes (m ch : List Nat) : m.map (fun b => (fidx (wrows vl s ls) b).getD 0) = ch → (∀ i ∈ ch, i < ls.length) → ch.length ≤ 3 → ch.Pairwise (· < ·) → (∀ c, c < ch.length → en c (ls.map (rowOf vl)) (wrongOf vl s) = false) → ands (wrongOf vl s) (ch.map (rat vl ls)) = 0 → Why vl s ls (some m)
theorem why_of (vl : List (List Int)) (s : Say) (ls : List Say) : Why vl s ls (rsn vl s ls) := by
  obtain ⟨dn, ds⟩ := rsn_due (vl := vl) (s := s) (os := ls) (rat vl ls) (rat_map vl ls)
  have none_ : ∀ c, (∀ k, k ≤ c → (cmb ls.length 0 k).find? (fun ch => decide (ands (wrongOf vl s) (ch.map (rat vl ls)) = 0)) = none) → en c (ls.map (rowOf vl)) (wrongOf vl s) = false := fun c h => by
    rw [← Bool.not_eq_true, en_iff]
    rintro ⟨l, h1, h2, h3⟩
    rw [← rat_map vl ls] at h1
    exact cmb_none (h l.length h2) l h1 rfl h3
  cases e : (chs ls.length).find? (fun ch => decide (ands (wrongOf vl s) (ch.map (rat vl ls)) = 0)) with
  | none =>
    rw [dn e]
    exact .no (none_ 3 fun k hk => chs_none e k hk)
  | some ch =>
    obtain ⟨m, hm, hch, hlt⟩ := ds ch e
    obtain ⟨h1, h2, h3, h4, h5⟩ := chs_first e
    rw [hm]
    refine .yes m ch hch hlt h1 h3 (fun c hc => none_ c fun k hk => h5 k (by omega)) ?_
    simpa using h4
theorem fol_left {bs : List Box} {s : Say} {os : List Say} (hs : s ∈ os) : fol bs s (lsOf (allv bs) os) = true := by
  refine all_true fun v hv => ?_
  cases e : s.so v with
  | true => rfl
  | false =>
    rw [Bool.false_or, Bool.not_eq_true', ← Bool.not_eq_true, List.all_eq_true]
    intro z
    have := ls_enough hv z s hs
    rw [e] at this
    cases this
theorem alone_ne {vl : List (List Int)} {ls : List Say} (h : Alone vl ls) {i : Nat} {o : Say} (ho : ls[i]? = some o) : ∃ k, (wrongOf vl o).testBit k = true ∧ ∀ j o', j ≠ i → ls[j]? = some o' → (rowOf vl o').testBit k = true := by
  obtain ⟨v, hv, h1, h2⟩ := h i o ho
  obtain ⟨k, hk⟩ := bw_pos hv
  refine ⟨k, ?_, fun j o' hj ho' => ?_⟩
  · have := hk fun v => !o.so v
    show (bw (vl.map fun v => !o.so v)).testBit k = true
    rw [this, h1]
    rfl
  · have := hk fun v => o'.so v
    show (bw (vl.map fun v => o'.so v)).testBit k = true
    rw [this]
    exact h2 j o' hj ho'
/-- without one of them nothing tells it -/
theorem alone_fol {bs : List Box} {ls qs : List Say} (h : Alone (allv bs) ls) {i : Nat} {o : Say} (ho : ls[i]? = some o) (hq : ∀ x ∈ qs, ∃ j, j ≠ i ∧ ls[j]? = some x) : fol bs o qs = false := by
  obtain ⟨v, hv, h1, h2⟩ := h i o ho
  refine all_false hv ?_
  rw [h1, all_true fun x hx => ?_]
  · rfl
  · obtain ⟨j, hj, hx'⟩ := hq x hx
    exact h2 j x hj hx'
theorem alone_rsn {vl : List (List Int)} {ls qs : List Say} (h : Alone vl ls) {i : Nat} {o : Say} (ho : ls[i]? = some o) (hq : ∀ x ∈ qs, ∃ j, j ≠ i ∧ ls[j]? = some x) : rsn vl o qs = none := by
  obtain ⟨k, h1, h2⟩ := alone_ne h ho
  refine rsn_none fun c _ => ?_
  cases e : fe (fk (wrows vl o qs)) c (wrongOf vl o) with
  | none => rfl
  | some m =>
    exfalso
    have hz := fe_sound e
    have hb := ands_bit k m (wrongOf vl o)
    rw [hz, Nat.zero_testBit, h1, Bool.true_and] at hb
    have hall : (m.all fun b => b.testBit k) = true := by
      rw [List.all_eq_true]
      intro b hb'
      obtain ⟨x, hx, rfl⟩ := List.mem_map.mp (fk_mem.mp ((fe_mem e).1.subset hb'))
      obtain ⟨j, hj, hx'⟩ := hq x hx
      rw [Nat.testBit_and, h1, h2 j x hj hx']
      rfl
    rw [hall] at hb
    cases hb
/-- of one that is left, it alone is the reason -/
theorem why_in {vl : List (List Int)} {ls : List Say} {s : Say} (h : Alone vl ls) (hs : s ∈ ls) : ∃ m j, rsn vl s ls = some m ∧ m.map (fun b => (fidx (wrows vl s ls) b).getD 0) = [j] ∧ ls[j]? = some s := by
  obtain ⟨i, hi, ei⟩ := List.getElem_of_mem hs
  have hi' : ls[i]? = some s := by rw [List.getElem?_eq_getElem hi, ei]
  obtain ⟨k, h1, h2⟩ := alone_ne h hi'
  have hself : ands (wrongOf vl s) [rowOf vl s] = 0 := by
    refine zero_of_bits fun k => ?_
    rw [ands_bit, List.all_cons, List.all_nil, Bool.and_true]
    rcases bw_any vl k with z | ⟨v, _, z⟩
    · rw [show (wrongOf vl s).testBit k = false from z fun v => !s.so v]
      rfl
    · rw [show (wrongOf vl s).testBit k = !s.so v from z fun v => !s.so v, show (rowOf vl s).testBit k = s.so v from z fun v => s.so v]
      cases s.so v <;> rfl
  have hen : en 1 (ls.map (rowOf vl)) (wrongOf vl s) = true := (en_iff 1 _ _).mpr ⟨[rowOf vl s], by rw [List.singleton_sublist]; exact List.mem_map.mpr ⟨s, hs, rfl⟩, Nat.le_refl _, hself⟩
  have hen3 : en 3 (ls.map (rowOf vl)) (wrongOf vl s) = true := (en_iff 3 _ _).mpr ⟨[rowOf vl s], by rw [List.singleton_sublist]; exact List.mem_map.mpr ⟨s, hs, rfl⟩, (by show 1 ≤ 3; decide), hself⟩
  have hw := why_of vl s ls
  generalize hr : rsn vl s ls = r at hw
  cases hw with
  | no z => rw [hen3] at z; cases z
  | yes m ch hch hlt h3 hpw hmin hP =>
    have hl1 : ch.length = 1 := by
      rcases Nat.lt_or_ge 1 ch.length with z | z
      · have := hmin 1 z
        rw [hen] at this
        cases this
      · rcases Nat.lt_or_ge 0 ch.length with y | y
        · omega
        · exfalso
          have e0 : ch = [] := List.eq_nil_of_length_eq_zero (by omega)
          rw [e0] at hP
          have hP' : wrongOf vl s = 0 := hP
          rw [hP', Nat.zero_testBit] at h1
          cases h1
    obtain ⟨j, rfl⟩ : ∃ j, ch = [j] := by
      match ch, hl1 with
      | [j], _ => exact ⟨j, rfl⟩
    have hjl := hlt j (List.mem_singleton.mpr rfl)
    have hj := List.getElem?_eq_getElem hjl
    refine ⟨m, j, rfl, hch, ?_⟩
    by_cases e : j = i
    · rw [e]; exact hi'
    · exfalso
      have hP' : ands (wrongOf vl s) [rat vl ls j] = 0 := hP
      have hb := ands_bit k [rat vl ls j] (wrongOf vl s)
      rw [hP', Nat.zero_testBit, h1, List.all_cons, List.all_nil, rat_of hj, h2 j _ e hj] at hb
      cases hb

/-! ### lists of tuples that are made anew -/
structure TsAt {α : Type} (tp : α → List V) (H : Hp) (D : Addr) (us : List V) (xs : List α) : Prop where
  at_ : H D = some (.lst us)
  each : All2 (fun v x => ∃ q, v = .ref q ∧ H q = some (.tup (tp x))) us xs
section
variable {α : Type} {tp : α → List V} {H H' : Hp} {D E : Addr} {us ys : List V} {xs zs : List α}
theorem TsAt.nil : TsAt tp (upd H D (.lst [])) D [] [] := ⟨upd_same, All2.nil⟩
theorem TsAt.same (h : TsAt tp H D us xs) (s : Same H H') : TsAt tp H' D us xs := ⟨s _ _ h.at_, h.each.mono fun _ _ ⟨q, e, hq⟩ => ⟨q, e, s _ _ hq⟩⟩
theorem TsAt.each_put {o : List V} (h : TsAt tp H E ys zs) (hD : H D = some (.lst us)) : All2 (fun v x => ∃ q, v = .ref q ∧ (upd H D (.lst o)) q = some (.tup (tp x))) ys zs :=
  h.each.mono fun _ _ ⟨q, e, hq⟩ => ⟨q, e, by rw [upd_ne (ne_of hq hD (fun z => nomatch z))]; exact hq⟩
theorem TsAt.push {t : Addr} {x : α} (h : TsAt tp H D us xs) (ht : H t = none) : TsAt tp (upd (upd H t (.tup (tp x))) D (.lst (us ++ [.ref t]))) D (us ++ [.ref t]) (xs ++ [x]) := by
  have s := Same.new ht (.tup (tp x))
  have h1 := h.same s
  refine ⟨upd_same, (h1.each_put h1.at_).snoc ⟨t, rfl, ?_⟩⟩
  rw [upd_ne (ne_of_none h.at_ ht).symm]
  exact upd_same
theorem TsAt.ext (h : TsAt tp H D us xs) (g : TsAt tp H E ys zs) : TsAt tp (upd H D (.lst (us ++ ys))) D (us ++ ys) (xs ++ zs) := ⟨upd_same, all2_app (h.each_put h.at_) (g.each_put h.at_)⟩
theorem TsAt.says {os : List Say} (h : TsAt Say.tup H D us os) : SaysAt H D us os := ⟨h.at_, h.each⟩
end
def ir (lo : Int) (n : Nat) : List Int := (List.range n).map fun i => lo + ((i : Nat) : Int)
theorem ir_len (lo : Int) (n : Nat) : (ir lo n).length = n := by unfold ir; rw [List.length_map, List.length_range]
theorem ir_succ (lo : Int) (n : Nat) : ir lo (n + 1) = ir lo n ++ [lo + ((n : Nat) : Int)] := by
  unfold ir
  rw [List.range_succ, List.map_append]
  rfl
theorem ir_mem {lo : Int} {n : Nat} {k : Int} : k ∈ ir lo n ↔ lo ≤ k ∧ k < lo + n := by
  unfold ir
  rw [List.mem_map]
  constructor
  · rintro ⟨i, hi, rfl⟩
    have := List.mem_range.mp hi
    omega
  · rintro ⟨h1, h2⟩
    exact ⟨(k - lo).toNat, List.mem_range.mpr (by omega), by omega⟩
theorem tt_yes {σ : St} {H : Hp} {P1 P2 : Hp → Prop} (h : P1 H) : tTrue σ H (fun b H4 => if b = true then P1 H4 else P2 H4) := by
  show if true = true then P1 H else P2 H
  exact iteT h
/-- [tuple for k in range(..) if ..] -/
theorem lcr_ts {α : Type} (tp : α → List V) {lo : Int} {n : Nat} {D : Addr} {H1 : Hp} {tt : TT} {te : TE} {rest : St} {Q : VK} (g : Int → Option α) (hD : H1 D = none) (hn : n ≤ 1000)
    (hs : ∀ (k : Int) (H : Hp) (K1 : VK) (K2 : Hp → Prop), lo ≤ k → k < lo + n → Same H1 H → (match g k with | some x => ∀ p, H p = none → K1 (.ref p) (upd H p (.tup (tp x))) | none => K2 H) → tt (some (.int k) :: rest) H fun b H4 => if b = true then te (some (.int k) :: rest) H4 K1 else K2 H4)
    (hd : ∀ (ys : List V) (H' : Hp), TsAt tp H' D ys ((ir lo n).filterMap g) → Same H1 H' → Q (.ref D) H') : LcW (Itr lo n) D (gName 0) tt te Q (none :: rest) (upd H1 D (.lst [])) := by
  refine lc_range (fun i ys σ H' => (∃ c0 : Option V, σ = c0 :: rest) ∧ TsAt tp H' D ys ((ir lo i).filterMap g) ∧ Same H1 H' ∧ ys.length ≤ i) ⟨⟨none, rfl⟩, TsAt.nil, Same.new hD _, Nat.le_refl _⟩ ?_ ?_
  · rintro i ys σ H' hi ⟨⟨c0, rfl⟩, T, e', hl⟩
    show tt (some (.int (lo + (i : Int))) :: rest) H' _
    refine hs (lo + (i : Int)) H' _ (fun H4 => (∃ c0 : Option V, (some (V.int (lo + (i : Int))) :: rest) = c0 :: rest) ∧ TsAt tp H4 D ys ((ir lo (i + 1)).filterMap g) ∧ Same H1 H4 ∧ ys.length ≤ i + 1) (by omega) (by omega) e' ?_
    have es : (ir lo (i + 1)).filterMap g = (ir lo i).filterMap g ++ (match g (lo + (i : Int)) with | some x => [x] | none => []) := by
      rw [ir_succ, List.filterMap_append]
      congr 1
      cases hg' : g (lo + (i : Int)) <;> simp [List.filterMap_cons, hg']
    cases hg : g (lo + (i : Int)) with
    | some x =>
      rw [hg] at es
      intro p hp
      have s2 := Same.new hp (.tup (tp x))
      refine ⟨s2 _ _ T.at_, small1000 (by omega), ⟨_, rfl⟩, ?_, fun c u z => ?_, by rw [List.length_append, List.length_singleton]; omega⟩
      · rw [es]
        exact T.push hp
      · rw [upd_ne (ne_of_none z hD)]
        exact s2 _ _ (e' _ _ z)
    | none =>
      rw [hg, List.append_nil] at es
      exact ⟨⟨_, rfl⟩, by rw [es]; exact T, e', by omega⟩
  · rintro ys σ H' ⟨_, T, e', _⟩
    exact hd ys H' T e'

/-! ### the sayings, form by form -/
/-- for each box, by its place -/
def fl {α : Type} (F : Nat → List α) (n : Nat) : List α := (List.range n).flatMap F
theorem fl_succ {α : Type} (F : Nat → List α) (n : Nat) : fl F (n + 1) = fl F n ++ F n := by
  unfold fl
  rw [List.range_succ, List.flatMap_append]
  simp
def wnumF (mk : Nat → Int → Say) (ab be : Int) (bs : List Box) (i : Nat) : List Say := (bs[i]?).elim [] fun b => (ir (b.lo + ab) (b.hi - be + 1 - (b.lo + ab)).toNat).map (mk i)
def wnum (mk : Nat → Int → Say) (ab be : Int) (bs : List Box) : List Say := fl (wnumF mk ab be bs) bs.length
def restF (i : Nat) : List Say := (ir 2 5).flatMap fun m => (ir 0 m.toNat).map fun r => Say.rest i m r
def restL (bs : List Box) : List Say := fl restF bs.length
def eithF (bs : List Box) (i : Nat) : List Say := (bs[i]?).elim [] fun b => (ir b.lo (b.hi - b.lo).toNat).flatMap fun n => (ir (n + 1) (b.hi + 1 - (n + 1)).toNat).map fun k => Say.eith i n k
def eithL (bs : List Box) : List Say := fl (eithF bs) bs.length
def ptup (x : Nat × Nat) : List V := [.int (x.1 : Nat), .int (x.2 : Nat)]
def riseF (n a : Nat) : List (Nat × Nat) := (ir ((a : Int) + 1) ((n : Int) - ((a : Int) + 1)).toNat).map fun b => (a, b.toNat)
def rise (n : Nat) : List (Nat × Nat) := fl (riseF n) n
def unlF (n a : Nat) : List (Nat × Nat) := (ir 0 n).filterMap fun b => if b = (a : Int) then none else some (a, b.toNat)
def unl (n : Nat) : List (Nat × Nat) := fl (unlF n) n
def spWithNumber : Sp := fun vs H Q _ => ∃ (f : Str) (mk : Nat → Int → Say) (pb : Addr) (ab be : Int) (us : List V) (bs : List Box), vs = [.str f, .ref pb, .int ab, .int be] ∧ (∀ i n, (mk i n).tup = [.str f, .int (i : Nat), .int n]) ∧ BoxesAt H pb us bs ∧ (∀ b ∈ bs, b.Ok) ∧ bs.length ≤ 4 ∧ 0 ≤ ab ∧ ab ≤ 1 ∧ 0 ≤ be ∧ be ≤ 1 ∧
  ∀ (p : Addr) (us' : List V) (H' : Hp), H p = none → Same H H' → SaysAt H' p us' (wnum mk ab be bs) → us'.length ≤ 80 → Q (.ref p) H'
def spBx (L : List Box → List Say) (n : Nat) : Sp := fun vs H Q _ => ∃ (pb : Addr) (us : List V) (bs : List Box), vs = [.ref pb] ∧ BoxesAt H pb us bs ∧ (∀ b ∈ bs, b.Ok) ∧ bs.length ≤ 4 ∧
  ∀ (p : Addr) (us' : List V) (H' : Hp), H p = none → Same H H' → SaysAt H' p us' (L bs) → us'.length ≤ n → Q (.ref p) H'
def spPrs (L : Nat → List (Nat × Nat)) : Sp := fun vs H Q _ => ∃ (pb : Addr) (us : List V), vs = [.ref pb] ∧ H pb = some (.lst us) ∧ us.length ≤ 4 ∧
  ∀ (p : Addr) (us' : List V) (H' : Hp), H p = none → Same H H' → TsAt ptup H' p us' (L us.length) → us'.length ≤ 16 → Q (.ref p) H'
section
variable {P : Program} {w : World} {K : PySem.W.Frag} {mg : Str → Option Value} {base : Heap}
theorem scWithNumber : FnScope ["form", "boxes", "above", "below", "told", "place", "box", "n"] ["form", "boxes", "above", "below"] (defScope sPWithNumber) := ⟨rfl, rfl, rfl, by decide +kernel, rfl, by decide +kernel, by decide +kernel⟩
theorem ok_withNumber (h : Has K mg "with_number" sPWithNumber ["form", "boxes", "above", "below"]) (B : Blt mg) : Cal P w K mg base 1 "with_number" ["form", "boxes", "above", "below"] spWithNumber := by
  refine h.cal scWithNumber (fun vs H Q E h => ?_) (fun f cdv A outer s H vs Q E hr h => ?_)
  · obtain ⟨f, mk, pb, ab, be, us, bs, rfl, _⟩ := h
    rfl
  obtain ⟨fm, mk, pb, ab, be, us, bs, rfl, hmk, X, ok, l4, a0, a1, e0, e1, q⟩ := h
  refine ⟨_, (pss_cons (ps_set (i := 4) scWithNumber.nd rfl (Or.inl rfl) (pe_lst pa_nil))
    (pss_cons (ps_for PassesOwn.never rfl (pi_enum rfl B.enumerate (pa_cons (pv 1) pa_nil)) (pg_tup rfl (pgs_cons (pg_name (i := 5) scWithNumber.nd rfl (Or.inl rfl)) (pgs_cons (pg_name (i := 6) scWithNumber.nd rfl (Or.inl rfl)) pgs_nil))) (pss_one (ps_for PassesOwn.never rfl (pi_range2 rfl B.range (pa_cons (pe_op op_add (pe_ix ix_tup (pv 6) pe_int (fun _ _ => rfl)) (pv 2)) (pa_cons (pe_op op_add (pe_op op_sub (pe_ix ix_tup (pv 6) pe_int (fun _ _ => rfl)) (pv 3)) pe_int) pa_nil))) (pg_name (i := 7) scWithNumber.nd rfl (Or.inl rfl)) (pss_one (ps_expr (pe_bm PySem.F.plainAttrs_list PySem.F.slot_list_append PySem.F.type_list_append mt_append (pv 4) (pa_cons (pe_tup (pa_cons (pv 0) (pa_cons (pv 5) (pa_cons (pv 7) pa_nil)))) pa_nil)))))))
    (pss_one (ps_ret (pv 4))))), ?_⟩
  refine ⟨(by show 0 ≤ sizeLine; decide), fun pt hpt => ?_⟩
  have ul := X.each.1
  refine ⟨_, rfl, pb, rfl, ⟨_, Same.new hpt _ _ _ X.at_⟩, for_enum (a := pb) (xs := us) (fun i σ H' => ∃ (ts : List V) (c5 c6 c7 : Option V), σ = [some (.str fm), some (.ref pb), some (.int ab), some (.int be), some (.ref pt), c5, c6, c7] ∧ TsAt Say.tup H' pt ts (fl (wnumF mk ab be bs) i) ∧ ts.length ≤ 20 * i ∧ Same H H')
    ⟨[], none, none, none, rfl, TsAt.nil, Nat.le_refl _, Same.new hpt _⟩ (fun i σ H' _ hh => by obtain ⟨_, _, _, _, _, _, _, e⟩ := hh; exact e _ _ X.at_) ?_ ?_⟩
  · rintro i x σ H' T hi ⟨ts, c5, c6, c7, rfl, T1, tl, e'⟩ hT
    obtain ⟨b, hb, p, rfl, hp⟩ := X.each.at hi
    have bok := ok b (List.mem_of_getElem? hb)
    have k1 := bok.fl
    have k2 := bok.fh
    have k3 := bok.lo
    have k4 := bok.hi
    have k5 := bok.w
    have il : i < 4 := by have := (List.getElem?_eq_some_iff.mp hb).1; omega
    have sT := Same.new hT (.tup [.int (i : Nat), .ref p])
    have T2 := T1.same sT
    have eT := e'.trans sT
    refine ⟨T, _, rfl, SqT.of upd_same, rfl, _, _, rfl, _, _, rfl, rfl, ?_⟩
    generalize upd H' T (.tup [.int (i : Nat), .ref p]) = H2 at *
    refine ⟨_, rfl, p, _, _, _, rfl, rfl, SqT.of (eT _ _ hp), rfl, _, rfl, _, _, rfl, rfl, _, rfl, p, _, _, _, rfl, rfl, SqT.of (eT _ _ hp), rfl, _, rfl, _, _, rfl, rfl, _, _, rfl, rfl, _, _, rfl, ⟨by omega, by omega, by omega, by omega⟩, ?_⟩
    refine for_range (lo := b.lo + ab) (n := (b.hi - be + 1 - (b.lo + ab)).toNat) (fun j σ H3 => ∃ (ts : List V) (c7 : Option V), σ = [some (.str fm), some (.ref pb), some (.int ab), some (.int be), some (.ref pt), some (.int (i : Nat)), some (.ref p), c7] ∧ TsAt Say.tup H3 pt ts (fl (wnumF mk ab be bs) i ++ (ir (b.lo + ab) j).map (mk i)) ∧ ts.length ≤ 20 * i + j ∧ Same H H3)
      ⟨ts, c7, rfl, by rw [show (ir (b.lo + ab) 0).map (mk i) = [] from rfl, List.append_nil]; exact T2, tl, eT⟩ ?_ ?_
    · rintro j σ H3 hj ⟨ts, c7, rfl, T3, tl3, e3⟩
      refine ⟨_, rfl, .inl ⟨rfl, _, SqL.of T3.at_⟩, _, rfl, _, rfl, _, rfl, (by show 3 ≤ sizeLine; decide), fun t ht => ?_⟩
      have s4 := Same.new ht (.tup [.str fm, .int (i : Nat), .int (b.lo + ab + (j : Int))])
      refine ⟨pt, _, _, rfl, rfl, s4 _ _ T3.at_, small1000 (by omega), ?_⟩
      refine ⟨ts ++ [.ref t], _, rfl, ?_, by rw [List.length_append, List.length_singleton]; omega, fun c u z => ?_⟩
      · rw [ir_succ, List.map_append, ← List.append_assoc]
        have := T3.push (x := mk i (b.lo + ab + (j : Int))) ht
        rw [hmk] at this
        exact this
      · rw [upd_ne (ne_of_none z hpt)]
        exact s4 _ _ (e3 _ _ z)
    · rintro σ H3 ⟨ts, c7, rfl, T3, tl3, e3⟩
      refine ⟨ts, _, _, _, rfl, ?_, by omega, e3⟩
      rw [fl_succ]
      have : wnumF mk ab be bs i = (ir (b.lo + ab) (b.hi - be + 1 - (b.lo + ab)).toNat).map (mk i) := by
        unfold wnumF
        rw [hb]
        rfl
      rw [this]
      exact T3
  · rintro σ H' ⟨ts, c5, c6, c7, rfl, T1, tl, e'⟩
    rw [ul] at T1 tl
    exact ⟨_, rfl, q pt ts H' hpt e' T1.says (by omega)⟩
theorem scRests : FnScope ["boxes", "told", "place", "m"] ["boxes"] (defScope sPRests) := ⟨rfl, rfl, rfl, by decide +kernel, rfl, by decide +kernel, by decide +kernel⟩
theorem ok_rests (h : Has K mg "rests" sPRests ["boxes"]) (B : Blt mg) (gl : Glb K mg) : Cal P w K mg base 1 "rests" ["boxes"] (spBx restL 120) := by
  refine h.cal scRests (fun vs H Q E h => ?_) (fun f cdv A outer s H vs Q E hr h => ?_)
  · obtain ⟨pb, us, bs, rfl, _⟩ := h
    rfl
  obtain ⟨pb, us, bs, rfl, X, ok, l4, q⟩ := h
  obtain ⟨tk1, hm1⟩ := gl.LEAST_DIVISOR
  obtain ⟨tk2, hm2⟩ := gl.MOST_DIVISOR
  refine ⟨_, (pss_cons (ps_set (i := 1) scRests.nd rfl (Or.inl rfl) (pe_lst pa_nil))
    (pss_cons (ps_for PassesOwn.never rfl (pi_range1 rfl B.range (pa_cons (pe_callB call_len_seq rfl B.len bt_len (pa_cons (pv 0) pa_nil)) pa_nil)) (pg_name (i := 2) scRests.nd rfl (Or.inr rfl)) (pss_one (ps_for PassesOwn.never rfl (pi_range2 rfl B.range (pa_cons (pe_glob (v := .int 2) rfl hm1 ⟨_, rfl⟩) (pa_cons (pe_op op_add (pe_glob (v := .int 6) rfl hm2 ⟨_, rfl⟩) pe_int) pa_nil))) (pg_name (i := 3) scRests.nd rfl (Or.inr rfl)) (pss_one (ps_expr (pe_bm PySem.F.plainAttrs_list PySem.F.slot_list_extend PySem.F.type_list_extend mt_extend (pv 1) (pa_cons (pe_lcC (defScope sPRests) ["boxes", "told", "place", "m"] (N := ["r", "place", "m"]) (ix := [none, some 2, some 3]) rfl ⟨rfl, by decide +kernel, by decide +kernel, by decide +kernel, rfl, by decide +kernel⟩ (pi_range1 rfl B.range (pa_cons (pv 3) pa_nil)) (fun _ _ _ _ => pg_name (i := 0) (show (["r", "place", "m"] : List Str).Nodup by decide +kernel) rfl (Or.inl rfl)) (fun _ _ _ _ => pts_nil) (fun _ _ _ _ => (pe_tup (pa_cons pe_str (pa_cons (pv 1) (pa_cons (pv 2) (pa_cons (pv 0) pa_nil))))))) pa_nil)))))))
    (pss_one (ps_ret (pv 1))))), ?_⟩
  refine ⟨(by show 0 ≤ sizeLine; decide), fun pt hpt => ?_⟩
  have ul := X.each.1
  refine ⟨_, rfl, pb, _, rfl, .inl (SqL.of (Same.new hpt _ _ _ X.at_)), _, rfl, by omega, by omega, ?_⟩
  refine for_range (lo := 0) (n := ((us.length : Nat) : Int).toNat) (fun i σ H' => ∃ (ts : List V) (c2 c3 : Option V), σ = [some (.ref pb), some (.ref pt), c2, c3] ∧ TsAt Say.tup H' pt ts (fl restF i) ∧ ts.length ≤ 30 * i ∧ Same H H')
    ⟨[], none, none, rfl, TsAt.nil, Nat.le_refl _, Same.new hpt _⟩ ?_ ?_
  · rintro i σ H' hi ⟨ts, c2, c3, rfl, T1, tl, e'⟩
    have e0 : (0 + (i : Int)) = ((i : Nat) : Int) := by omega
    rw [e0]
    have il : i < 4 := by omega
    refine ⟨_, _, rfl, rfl, _, _, rfl, ⟨by decide, by decide, by decide, by decide⟩, ?_⟩
    refine for_range (lo := 2) (n := ((6 : Int) + 1 - 2).toNat) (fun j σ H3 => ∃ (ts : List V) (c3 : Option V), σ = [some (.ref pb), some (.ref pt), some (.int (i : Nat)), c3] ∧ TsAt Say.tup H3 pt ts (fl restF i ++ (ir 2 j).flatMap fun m => (ir 0 m.toNat).map fun r => Say.rest i m r) ∧ ts.length ≤ 30 * i + 6 * j ∧ Same H H3)
      ⟨ts, c3, rfl, by rw [show ((ir 2 0).flatMap fun m => (ir 0 m.toNat).map fun r => Say.rest i m r) = [] from rfl, List.append_nil]; exact T1, tl, e'⟩ ?_ ?_
    · rintro j σ H3 hj ⟨ts, c3, rfl, T3, tl3, e3⟩
      have hj5 : j < 5 := hj
      refine ⟨_, rfl, .inl ⟨rfl, _, SqL.of T3.at_⟩, _, rfl, _, rfl, by omega, by omega, fun D hD => ?_⟩
      refine lcr_ts Say.tup (fun r => some (Say.rest i (2 + (j : Int)) r)) hD (by omega) (fun k H4 K1 K2 _ _ _ z => ?_) fun ys H4 T4 e4 => ?_
      · exact tt_yes ⟨_, rfl, _, rfl, _, rfl, (by show 4 ≤ sizeLine; decide), z⟩
      rw [show (fun r => some (Say.rest i (2 + (j : Int)) r)) = some ∘ (fun r => Say.rest i (2 + (j : Int)) r) from rfl, List.filterMap_eq_map] at T4
      have T5 := T3.same e4
      have yl : ys.length ≤ 6 := by
        rw [T4.each.1, List.length_map, ir_len]
        omega
      refine ⟨pt, D, ts, ys, rfl, rfl, T5.at_, T4.at_, small (by omega), ?_⟩
      refine ⟨ts ++ ys, _, rfl, ?_, by rw [List.length_append]; omega, fun c u z => ?_⟩
      · rw [ir_succ, List.flatMap_append, ← List.append_assoc]
        simpa using T5.ext T4
      · rw [upd_ne (ne_of_none z hpt)]
        exact e4 _ _ (e3 _ _ z)
    · rintro σ H3 ⟨ts, c3, rfl, T3, tl3, e3⟩
      refine ⟨ts, _, _, rfl, ?_, ?_, e3⟩
      · rw [fl_succ]
        exact T3
      · have : ((6 : Int) + 1 - 2).toNat = 5 := rfl
        rw [this] at tl3
        omega
  · rintro σ H' ⟨ts, c2, c3, rfl, T1, tl, e'⟩
    have e : ((us.length : Nat) : Int).toNat = bs.length := by omega
    rw [e] at T1 tl
    exact ⟨_, rfl, q pt ts H' hpt e' T1.says (by omega)⟩
theorem scEithers : FnScope ["boxes", "told", "place", "box", "n"] ["boxes"] (defScope sPEithers) := ⟨rfl, rfl, rfl, by decide +kernel, rfl, by decide +kernel, by decide +kernel⟩
theorem ok_eithers (h : Has K mg "eithers" sPEithers ["boxes"]) (B : Blt mg) : Cal P w K mg base 1 "eithers" ["boxes"] (spBx eithL 1600) := by
  refine h.cal scEithers (fun vs H Q E h => ?_) (fun f cdv A outer s H vs Q E hr h => ?_)
  · obtain ⟨pb, us, bs, rfl, _⟩ := h
    rfl
  obtain ⟨pb, us, bs, rfl, X, ok, l4, q⟩ := h
  refine ⟨_, (pss_cons (ps_set (i := 1) scEithers.nd rfl (Or.inl rfl) (pe_lst pa_nil))
    (pss_cons (ps_for PassesOwn.never rfl (pi_enum rfl B.enumerate (pa_cons (pv 0) pa_nil)) (pg_tup rfl (pgs_cons (pg_name (i := 2) scEithers.nd rfl (Or.inr rfl)) (pgs_cons (pg_name (i := 3) scEithers.nd rfl (Or.inl rfl)) pgs_nil))) (pss_one (ps_for PassesOwn.never rfl (pi_range2 rfl B.range (pa_cons (pe_ix ix_tup (pv 3) pe_int (fun _ _ => rfl)) (pa_cons (pe_ix ix_tup (pv 3) pe_int (fun _ _ => rfl)) pa_nil))) (pg_name (i := 4) scEithers.nd rfl (Or.inr rfl)) (pss_one (ps_expr (pe_bm PySem.F.plainAttrs_list PySem.F.slot_list_extend PySem.F.type_list_extend mt_extend (pv 1) (pa_cons (pe_lcC (defScope sPEithers) ["boxes", "told", "place", "box", "n"] (N := ["k", "place", "n"]) (ix := [none, some 2, some 4]) rfl ⟨rfl, by decide +kernel, by decide +kernel, by decide +kernel, rfl, by decide +kernel⟩ (pi_range2 rfl B.range (pa_cons (pe_op op_add (pv 4) pe_int) (pa_cons (pe_op op_add (pe_ix ix_tup (pv 3) pe_int (fun _ _ => rfl)) pe_int) pa_nil))) (fun _ _ _ _ => pg_name (i := 0) (show (["k", "place", "n"] : List Str).Nodup by decide +kernel) rfl (Or.inl rfl)) (fun _ _ _ _ => pts_nil) (fun _ _ _ _ => (pe_tup (pa_cons pe_str (pa_cons (pv 1) (pa_cons (pv 2) (pa_cons (pv 0) pa_nil))))))) pa_nil)))))))
    (pss_one (ps_ret (pv 1))))), ?_⟩
  refine ⟨(by show 0 ≤ sizeLine; decide), fun pt hpt => ?_⟩
  have ul := X.each.1
  refine ⟨_, rfl, pb, rfl, ⟨_, Same.new hpt _ _ _ X.at_⟩, for_enum (a := pb) (xs := us) (fun i σ H' => ∃ (ts : List V) (c2 c3 c4 : Option V), σ = [some (.ref pb), some (.ref pt), c2, c3, c4] ∧ TsAt Say.tup H' pt ts (fl (eithF bs) i) ∧ ts.length ≤ 400 * i ∧ Same H H')
    ⟨[], none, none, none, rfl, TsAt.nil, Nat.le_refl _, Same.new hpt _⟩ (fun i σ H' _ hh => by obtain ⟨_, _, _, _, _, _, _, e⟩ := hh; exact e _ _ X.at_) ?_ ?_⟩
  · rintro i x σ H' T hi ⟨ts, c2, c3, c4, rfl, T1, tl, e'⟩ hT
    obtain ⟨b, hb, p, rfl, hp⟩ := X.each.at hi
    have bok := ok b (List.mem_of_getElem? hb)
    have k1 := bok.fl
    have k2 := bok.fh
    have k3 := bok.lo
    have k4 := bok.hi
    have k5 := bok.w
    have il : i < 4 := by have := (List.getElem?_eq_some_iff.mp hb).1; omega
    have sT := Same.new hT (.tup [.int (i : Nat), .ref p])
    have T2 := T1.same sT
    have eT := e'.trans sT
    refine ⟨T, _, rfl, SqT.of upd_same, rfl, _, _, rfl, _, _, rfl, rfl, ?_⟩
    generalize upd H' T (.tup [.int (i : Nat), .ref p]) = H2 at *
    refine ⟨_, rfl, p, _, _, _, rfl, rfl, SqT.of (eT _ _ hp), rfl, _, rfl, p, _, _, _, rfl, rfl, SqT.of (eT _ _ hp), rfl, _, _, rfl, ⟨by omega, by omega, by omega, by omega⟩, ?_⟩
    refine for_range (lo := b.lo) (n := (b.hi - b.lo).toNat) (fun j σ H3 => ∃ (ts : List V) (c4 : Option V), σ = [some (.ref pb), some (.ref pt), some (.int (i : Nat)), some (.ref p), c4] ∧ TsAt Say.tup H3 pt ts (fl (eithF bs) i ++ (ir b.lo j).flatMap fun n => (ir (n + 1) (b.hi + 1 - (n + 1)).toNat).map fun k => Say.eith i n k) ∧ ts.length ≤ 400 * i + 20 * j ∧ Same H H3)
      ⟨ts, c4, rfl, by rw [show ((ir b.lo 0).flatMap fun n => (ir (n + 1) (b.hi + 1 - (n + 1)).toNat).map fun k => Say.eith i n k) = [] from rfl, List.append_nil]; exact T2, tl, eT⟩ ?_ ?_
    · rintro j σ H3 hj ⟨ts, c4, rfl, T3, tl3, e3⟩
      refine ⟨_, rfl, .inl ⟨rfl, _, SqL.of T3.at_⟩, _, rfl, _, _, rfl, rfl, _, rfl, p, _, _, _, rfl, rfl, SqT.of (e3 _ _ hp), rfl, _, _, rfl, rfl, _, _, rfl, ⟨by omega, by omega, by omega, by omega⟩, fun D hD => ?_⟩
      refine lcr_ts Say.tup (lo := b.lo + (j : Int) + 1) (n := (b.hi + 1 - (b.lo + (j : Int) + 1)).toNat) (fun k => some (Say.eith i (b.lo + (j : Int)) k)) hD (by omega) (fun k H4 K1 K2 _ _ _ z => ?_) fun ys H4 T4 e4 => ?_
      · exact tt_yes ⟨_, rfl, _, rfl, _, rfl, (by show 4 ≤ sizeLine; decide), z⟩
      rw [show (fun k => some (Say.eith i (b.lo + (j : Int)) k)) = some ∘ (fun k => Say.eith i (b.lo + (j : Int)) k) from rfl, List.filterMap_eq_map] at T4
      have T5 := T3.same e4
      have yl : ys.length ≤ 20 := by
        rw [T4.each.1, List.length_map, ir_len]
        omega
      refine ⟨pt, D, ts, ys, rfl, rfl, T5.at_, T4.at_, sz' (by omega), ?_⟩
      refine ⟨ts ++ ys, _, rfl, ?_, by rw [List.length_append]; omega, fun c u z => ?_⟩
      · rw [ir_succ, List.flatMap_append, ← List.append_assoc]
        simpa using T5.ext T4
      · rw [upd_ne (ne_of_none z hpt)]
        exact e4 _ _ (e3 _ _ z)
    · rintro σ H3 ⟨ts, c4, rfl, T3, tl3, e3⟩
      refine ⟨ts, _, _, _, rfl, ?_, by omega, e3⟩
      rw [fl_succ]
      have : eithF bs i = (ir b.lo (b.hi - b.lo).toNat).flatMap fun n => (ir (n + 1) (b.hi + 1 - (n + 1)).toNat).map fun k => Say.eith i n k := by
        unfold eithF
        rw [hb]
        rfl
      rw [this]
      exact T3
  · rintro σ H' ⟨ts, c2, c3, c4, rfl, T1, tl, e'⟩
    rw [ul] at T1 tl
    exact ⟨_, rfl, q pt ts H' hpt e' T1.says (by omega)⟩
theorem scRising : FnScope ["boxes", "pairs", "a"] ["boxes"] (defScope sPRisingPairs) := ⟨rfl, rfl, rfl, by decide +kernel, rfl, by decide +kernel, by decide +kernel⟩
theorem ok_rising (h : Has K mg "rising_pairs" sPRisingPairs ["boxes"]) (B : Blt mg) : Cal P w K mg base 1 "rising_pairs" ["boxes"] (spPrs rise) := by
  refine h.cal scRising (fun vs H Q E h => ?_) (fun f cdv A outer s H vs Q E hr h => ?_)
  · obtain ⟨pb, us, rfl, _⟩ := h
    rfl
  obtain ⟨pb, us, rfl, X, l4, q⟩ := h
  refine ⟨_, (pss_cons (ps_set (i := 1) scRising.nd rfl (Or.inl rfl) (pe_lst pa_nil))
    (pss_cons (ps_for PassesOwn.never rfl (pi_range1 rfl B.range (pa_cons (pe_callB call_len_seq rfl B.len bt_len (pa_cons (pv 0) pa_nil)) pa_nil)) (pg_name (i := 2) scRising.nd rfl (Or.inr rfl)) (pss_one (ps_expr (pe_bm PySem.F.plainAttrs_list PySem.F.slot_list_extend PySem.F.type_list_extend mt_extend (pv 1) (pa_cons (pe_lcC (defScope sPRisingPairs) ["boxes", "pairs", "a"] (N := ["b", "a"]) (ix := [none, some 2]) rfl ⟨rfl, by decide +kernel, by decide +kernel, by decide +kernel, rfl, by decide +kernel⟩ (pi_range2 rfl B.range (pa_cons (pe_op op_add (pv 2) pe_int) (pa_cons (pe_callB call_len_seq rfl B.len bt_len (pa_cons (pv 0) pa_nil)) pa_nil))) (fun _ _ _ _ => pg_name (i := 0) (show (["b", "a"] : List Str).Nodup by decide +kernel) rfl (Or.inl rfl)) (fun _ _ _ _ => pts_nil) (fun _ _ _ _ => (pe_tup (pa_cons (pv 1) (pa_cons (pv 0) pa_nil))))) pa_nil)))))
    (pss_one (ps_ret (pv 1))))), ?_⟩
  refine ⟨(by show 0 ≤ sizeLine; decide), fun pt hpt => ?_⟩
  refine ⟨_, rfl, pb, _, rfl, .inl (SqL.of (Same.new hpt _ _ _ X)), _, rfl, by omega, by omega, ?_⟩
  refine for_range (lo := 0) (n := ((us.length : Nat) : Int).toNat) (fun i σ H' => ∃ (ts : List V) (c2 : Option V), σ = [some (.ref pb), some (.ref pt), c2] ∧ TsAt ptup H' pt ts (fl (riseF us.length) i) ∧ ts.length ≤ 4 * i ∧ Same H H')
    ⟨[], none, rfl, TsAt.nil, Nat.le_refl _, Same.new hpt _⟩ ?_ ?_
  · rintro i σ H' hi ⟨ts, c2, rfl, T1, tl, e'⟩
    have e0 : (0 + (i : Int)) = ((i : Nat) : Int) := by omega
    rw [e0]
    refine ⟨_, rfl, .inl ⟨rfl, _, SqL.of T1.at_⟩, _, rfl, _, _, rfl, rfl, _, rfl, pb, _, rfl, .inl (SqL.of (e' _ _ X)), _, _, rfl, ⟨by omega, by omega, by omega, by omega⟩, fun D hD => ?_⟩
    refine lcr_ts ptup (lo := (i : Int) + 1) (n := ((us.length : Int) - ((i : Int) + 1)).toNat) (fun b => some (i, b.toNat)) hD (by omega) (fun k H4 K1 K2 k0 k1 _ z => ?_) fun ys H4 T4 e4 => ?_
    · have z' : ∀ p, H4 p = none → K1 (.ref p) (upd H4 p (.tup (ptup (i, k.toNat)))) := z
      have ek : ptup (i, k.toNat) = [.int (i : Nat), .int k] := by
        unfold ptup
        rw [show (((i, k.toNat).2 : Nat) : Int) = k from by show ((k.toNat : Nat) : Int) = k; omega]
      rw [ek] at z'
      exact tt_yes ⟨_, rfl, _, rfl, (by show 2 ≤ sizeLine; decide), z'⟩
    rw [show (fun b : Int => some (i, b.toNat)) = some ∘ (fun b : Int => (i, b.toNat)) from rfl, List.filterMap_eq_map] at T4
    have T5 := T1.same e4
    have yl : ys.length ≤ 4 := by
      rw [T4.each.1, List.length_map, ir_len]
      omega
    refine ⟨pt, D, ts, ys, rfl, rfl, T5.at_, T4.at_, small (by omega), ?_⟩
    refine ⟨ts ++ ys, _, rfl, ?_, by rw [List.length_append]; omega, fun c u z => ?_⟩
    · rw [fl_succ]
      exact T5.ext T4
    · rw [upd_ne (ne_of_none z hpt)]
      exact e4 _ _ (e' _ _ z)
  · rintro σ H' ⟨ts, c2, rfl, T1, tl, e'⟩
    rw [Int.toNat_natCast] at T1 tl
    exact ⟨_, rfl, q pt ts H' hpt e' T1 (by omega)⟩
theorem scUnlike : FnScope ["boxes", "pairs", "a"] ["boxes"] (defScope sPUnlikePairs) := ⟨rfl, rfl, rfl, by decide +kernel, rfl, by decide +kernel, by decide +kernel⟩
theorem ok_unlike (h : Has K mg "unlike_pairs" sPUnlikePairs ["boxes"]) (B : Blt mg) : Cal P w K mg base 1 "unlike_pairs" ["boxes"] (spPrs unl) := by
  refine h.cal scUnlike (fun vs H Q E h => ?_) (fun f cdv A outer s H vs Q E hr h => ?_)
  · obtain ⟨pb, us, rfl, _⟩ := h
    rfl
  obtain ⟨pb, us, rfl, X, l4, q⟩ := h
  refine ⟨_, (pss_cons (ps_set (i := 1) scUnlike.nd rfl (Or.inl rfl) (pe_lst pa_nil))
    (pss_cons (ps_for PassesOwn.never rfl (pi_range1 rfl B.range (pa_cons (pe_callB call_len_seq rfl B.len bt_len (pa_cons (pv 0) pa_nil)) pa_nil)) (pg_name (i := 2) scUnlike.nd rfl (Or.inr rfl)) (pss_one (ps_expr (pe_bm PySem.F.plainAttrs_list PySem.F.slot_list_extend PySem.F.type_list_extend mt_extend (pv 1) (pa_cons (pe_lcC (defScope sPUnlikePairs) ["boxes", "pairs", "a"] (N := ["b", "a"]) (ix := [none, some 2]) rfl ⟨rfl, by decide +kernel, by decide +kernel, by decide +kernel, rfl, by decide +kernel⟩ (pi_range1 rfl B.range (pa_cons (pe_callB call_len_seq rfl B.len bt_len (pa_cons (pv 0) pa_nil)) pa_nil)) (fun _ _ _ _ => pg_name (i := 0) (show (["b", "a"] : List Str).Nodup by decide +kernel) rfl (Or.inl rfl)) (fun _ _ _ _ => (pts_one (pt_cmpR op_ne (pv 0) (pv 1) (nomark _)))) (fun _ _ _ _ => (pe_tup (pa_cons (pv 1) (pa_cons (pv 0) pa_nil))))) pa_nil)))))
    (pss_one (ps_ret (pv 1))))), ?_⟩
  refine ⟨(by show 0 ≤ sizeLine; decide), fun pt hpt => ?_⟩
  refine ⟨_, rfl, pb, _, rfl, .inl (SqL.of (Same.new hpt _ _ _ X)), _, rfl, by omega, by omega, ?_⟩
  refine for_range (lo := 0) (n := ((us.length : Nat) : Int).toNat) (fun i σ H' => ∃ (ts : List V) (c2 : Option V), σ = [some (.ref pb), some (.ref pt), c2] ∧ TsAt ptup H' pt ts (fl (unlF us.length) i) ∧ ts.length ≤ 4 * i ∧ Same H H')
    ⟨[], none, rfl, TsAt.nil, Nat.le_refl _, Same.new hpt _⟩ ?_ ?_
  · rintro i σ H' hi ⟨ts, c2, rfl, T1, tl, e'⟩
    have e0 : (0 + (i : Int)) = ((i : Nat) : Int) := by omega
    rw [e0]
    refine ⟨_, rfl, .inl ⟨rfl, _, SqL.of T1.at_⟩, _, rfl, pb, _, rfl, .inl (SqL.of (e' _ _ X)), _, rfl, by omega, by omega, fun D hD => ?_⟩
    refine lcr_ts ptup (lo := 0) (n := ((us.length : Nat) : Int).toNat) (fun b => if b = (i : Int) then none else some (i, b.toNat)) hD (by omega) (fun k H4 K1 K2 k0 k1 _ z => ?_) fun ys H4 T4 e4 => ?_
    · refine ⟨_, rfl, _, rfl, rfl, _, rfl, ?_⟩
      by_cases ek : k = (i : Int)
      · rw [if_pos ek] at z
        exact iteNS (by rw [ek]) z
      · rw [if_neg ek] at z
        have z' : ∀ p, H4 p = none → K1 (.ref p) (upd H4 p (.tup (ptup (i, k.toNat)))) := z
        have ek2 : ptup (i, k.toNat) = [.int (i : Nat), .int k] := by
          unfold ptup
          rw [show (((i, k.toNat).2 : Nat) : Int) = k from by show ((k.toNat : Nat) : Int) = k; omega]
        rw [ek2] at z'
        refine iteB (by rw [decide_eq_false (fun y => ek (by injection y))]; rfl) ?_
        exact ⟨_, rfl, _, rfl, (by show 2 ≤ sizeLine; decide), z'⟩
    have T5 := T1.same e4
    have yl : ys.length ≤ 4 := by
      rw [T4.each.1]
      refine Nat.le_trans (List.length_filterMap_le _ _) ?_
      rw [ir_len]
      omega
    refine ⟨pt, D, ts, ys, rfl, rfl, T5.at_, T4.at_, small (by omega), ?_⟩
    refine ⟨ts ++ ys, _, rfl, ?_, by rw [List.length_append]; omega, fun c u z => ?_⟩
    · rw [fl_succ]
      rw [Int.toNat_natCast] at T4
      exact T5.ext T4
    · rw [upd_ne (ne_of_none z hpt)]
      exact e4 _ _ (e' _ _ z)
  · rintro σ H' ⟨ts, c2, rfl, T1, tl, e'⟩
    rw [Int.toNat_natCast] at T1 tl
    exact ⟨_, rfl, q pt ts H' hpt e' T1 (by omega)⟩
end

/-! ### sayings of pairs and of three; all of them -/
def wpn (mk : Nat → Nat → Int → Say) (w : Int) (prs : List (Nat × Nat)) : List Say := prs.flatMap fun x => (ir (-w) (w + 1 - -w).toNat).map (mk x.1 x.2)
def Say.nz : Say → Bool
  | .gap _ _ n => !decide (n = 0)
  | _ => true
def gapL (n : Nat) : List Say := (wpn Say.gap 20 (rise n)).filter Say.nz
def w3 (mk : Nat → Nat → Nat → Say) (n : Nat) (prs : List (Nat × Nat)) : List Say := prs.flatMap fun x => (ir 0 n).filterMap fun c => if c = (x.1 : Int) ∨ c = (x.2 : Int) then none else some (mk x.1 x.2 c.toNat)
def prL (mk : Nat → Nat → Say) (prs : List (Nat × Nat)) : List Say := prs.map fun x => mk x.1 x.2
def sayl (bs : List Box) : List Say := wnum .is_ 0 0 bs ++ wnum .frm 1 0 bs ++ wnum .to_ 0 1 bs ++ restL bs ++ eithL bs ++ wnum .nev 0 0 bs ++ prL .same (rise bs.length) ++ prL .below (unl bs.length) ++ prL .most (unl bs.length) ++ gapL bs.length ++ wpn .sum 40 (rise bs.length) ++ w3 .adds bs.length (rise bs.length) ++ w3 .times bs.length (rise bs.length)
def spWithPair : Sp := fun vs H Q _ => ∃ (f : Str) (mk : Nat → Nat → Say) (pp : Addr) (up : List V) (prs : List (Nat × Nat)), vs = [.str f, .ref pp] ∧ (∀ a b, (mk a b).tup = [.str f, .int (a : Nat), .int (b : Nat)]) ∧ TsAt ptup H pp up prs ∧ up.length ≤ 16 ∧
  ∀ (p : Addr) (us' : List V) (H' : Hp), H p = none → Same H H' → SaysAt H' p us' (prL mk prs) → us'.length ≤ 16 → Q (.ref p) H'
def spWpn : Sp := fun vs H Q _ => ∃ (f : Str) (mk : Nat → Nat → Int → Say) (pb : Addr) (w : Int) (us : List V), vs = [.str f, .ref pb, .int w] ∧ (∀ a b n, (mk a b n).tup = [.str f, .int (a : Nat), .int (b : Nat), .int n]) ∧ H pb = some (.lst us) ∧ us.length ≤ 4 ∧ 0 ≤ w ∧ w ≤ 40 ∧
  ∀ (p : Addr) (us' : List V) (H' : Hp), H p = none → Same H H' → SaysAt H' p us' (wpn mk w (rise us.length)) → us'.length ≤ 1600 → Q (.ref p) H'
def spGaps : Sp := fun vs H Q _ => ∃ (pb : Addr) (us : List V), vs = [.ref pb] ∧ H pb = some (.lst us) ∧ us.length ≤ 4 ∧
  ∀ (p : Addr) (us' : List V) (H' : Hp), H p = none → Same H H' → SaysAt H' p us' (gapL us.length) → us'.length ≤ 1600 → Q (.ref p) H'
def spThree : Sp := fun vs H Q _ => ∃ (f : Str) (mk : Nat → Nat → Nat → Say) (pb : Addr) (us : List V), vs = [.str f, .ref pb] ∧ (∀ a b c, (mk a b c).tup = [.str f, .int (a : Nat), .int (b : Nat), .int (c : Nat)]) ∧ H pb = some (.lst us) ∧ us.length ≤ 4 ∧
  ∀ (p : Addr) (us' : List V) (H' : Hp), H p = none → Same H H' → SaysAt H' p us' (w3 mk us.length (rise us.length)) → us'.length ≤ 64 → Q (.ref p) H'
def spSayings : Sp := fun vs H Q _ => ∃ (pp pb : Addr) (pw : V) (us : List V) (bs : List Box), vs = [.ref pp] ∧ H pp = some (.tup [.ref pb, pw]) ∧ BoxesAt H pb us bs ∧ (∀ b ∈ bs, b.Ok) ∧ bs.length ≤ 4 ∧
  ∀ (p : Addr) (us' : List V) (H' : Hp), H p = none → Same H H' → SaysAt H' p us' (sayl bs) → us'.length ≤ 6000 → Q (.ref p) H'
theorem SaysAt.cat {H : Hp} {l b p : Addr} {xs zs : List V} {os qs : List Say} (h : SaysAt H l xs os) (g : SaysAt H b zs qs) (hp : H p = none) : SaysAt (upd H p (.lst (xs ++ zs))) p (xs ++ zs) (os ++ qs) :=
  ⟨upd_same, all2_app ((h.same (Same.new hp _)).each) ((g.same (Same.new hp _)).each)⟩
section
variable {P : Program} {w : World} {K : PySem.W.Frag} {mg : Str → Option Value} {base : Heap}
theorem scWithPair : FnScope ["form", "pairs"] ["form", "pairs"] (defScope sPWithPair) := ⟨rfl, rfl, rfl, by decide +kernel, rfl, by decide +kernel, by decide +kernel⟩
theorem ok_withPair (h : Has K mg "with_pair" sPWithPair ["form", "pairs"]) : Cal P w K mg base 1 "with_pair" ["form", "pairs"] spWithPair := by
  refine h.cal scWithPair (fun vs H Q E h => ?_) (fun f cdv A outer s H vs Q E hr h => ?_)
  · obtain ⟨f, mk, pp, up, prs, rfl, _⟩ := h
    rfl
  obtain ⟨fm, mk, pp, up, prs, rfl, hmk, X, l16, q⟩ := h
  have nd3 : (["a", "b", "form"] : List Str).Nodup := by decide +kernel
  refine ⟨_, (pss_one (ps_ret (pe_lcC (defScope sPWithPair) ["form", "pairs"] (N := ["a", "b", "form"]) (ix := [none, none, some 0]) rfl ⟨rfl, by decide +kernel, by decide +kernel, by decide +kernel, rfl, by decide +kernel⟩ (pi_list (pv 1)) (fun _ _ _ _ => pgt K 2 rfl (pgs_cons (pg_name (i := 0) nd3 rfl (Or.inl rfl)) (pgs_cons (pg_name (i := 1) nd3 rfl (Or.inl rfl)) pgs_nil))) (fun _ _ _ _ => pts_nil) (fun _ _ _ _ => (pe_tup (pa_cons (pv 2) (pa_cons (pv 0) (pa_cons (pv 1) pa_nil)))))))), ?_⟩
  refine ⟨_, rfl, pp, rfl, ⟨_, SqL.of X.at_⟩, fun D hD => ?_⟩
  refine lc_list (K := K) (a := pp) (xs := up) (fun i ys σ H' => (∃ c0 c1 : Option V, σ = [c0, c1, some (.str fm)]) ∧ TsAt Say.tup H' D ys (prL mk (prs.take i)) ∧ Same H H' ∧ ys.length ≤ i)
    ⟨⟨none, none, rfl⟩, TsAt.nil, Same.new hD _, Nat.le_refl _⟩ (fun i ys σ H' _ hh => by obtain ⟨_, _, e, _⟩ := hh; exact SqL.of (e _ _ X.at_)) ?_ ?_
  · rintro i x ys σ H' hi ⟨⟨c0, c1, rfl⟩, T1, e', hl⟩
    obtain ⟨x, hx, p, rfl, hp⟩ := X.each.at hi
    have hil := (List.getElem?_eq_some_iff.mp hi).1
    refine ⟨p, _, rfl, SqT.of (e' _ _ hp), rfl, _, _, rfl, _, _, rfl, rfl, ?_⟩
    refine ⟨_, rfl, _, rfl, _, rfl, (by show 3 ≤ sizeLine; decide), fun t ht => ?_⟩
    have s4 := Same.new ht (.tup [.str fm, .int (x.1 : Nat), .int (x.2 : Nat)])
    refine ⟨s4 _ _ T1.at_, small1000 (by omega), ⟨_, _, rfl⟩, ?_, fun c u z => ?_, by rw [List.length_append, List.length_singleton]; omega⟩
    · unfold prL
      rw [List.take_add_one, hx, List.map_append]
      have := T1.push (x := mk x.1 x.2) ht
      rw [hmk] at this
      exact this
    · rw [upd_ne (ne_of_none z hD)]
      exact s4 _ _ (e' _ _ z)
  · rintro ys σ H' ⟨_, T1, e', hl⟩
    rw [X.each.1, List.take_length] at T1
    exact q D ys H' hD e' T1.says (by omega)
theorem scWpn : FnScope ["form", "boxes", "widest", "told", "a", "b"] ["form", "boxes", "widest"] (defScope sPWithPairAndNumber) := ⟨rfl, rfl, rfl, by decide +kernel, rfl, by decide +kernel, by decide +kernel⟩
theorem ok_wpn (h : Has K mg "with_pair_and_number" sPWithPairAndNumber ["form", "boxes", "widest"]) (B : Blt mg) (cR : Cal P w K mg base 1 "rising_pairs" ["boxes"] (spPrs rise)) : Cal P w K mg base 2 "with_pair_and_number" ["form", "boxes", "widest"] spWpn := by
  refine h.cal scWpn (fun vs H Q E h => ?_) (fun f cdv A outer s H vs Q E hr h => ?_)
  · obtain ⟨f, mk, pb, w', us, rfl, _⟩ := h
    rfl
  obtain ⟨fm, mk, pb, w', us, rfl, hmk, X, l4, w0, w40, q⟩ := h
  refine ⟨_, (pss_cons (ps_set (i := 3) scWpn.nd rfl (Or.inl rfl) (pe_lst pa_nil))
    (pss_cons (ps_for PassesOwn.never rfl (pi_list (pe_cal cR hr rfl (pa_cons (pv 1) pa_nil))) (pg_tup rfl (pgs_cons (pg_name (i := 4) scWpn.nd rfl (Or.inr rfl)) (pgs_cons (pg_name (i := 5) scWpn.nd rfl (Or.inr rfl)) pgs_nil))) (pss_one (ps_expr (pe_bm PySem.F.plainAttrs_list PySem.F.slot_list_extend PySem.F.type_list_extend mt_extend (pv 3) (pa_cons (pe_lcC (defScope sPWithPairAndNumber) ["form", "boxes", "widest", "told", "a", "b"] (N := ["n", "form", "a", "b"]) (ix := [none, some 0, some 4, some 5]) rfl ⟨rfl, by decide +kernel, by decide +kernel, by decide +kernel, rfl, by decide +kernel⟩ (pi_range2 rfl B.range (pa_cons (pe_un un_neg (pv 2)) (pa_cons (pe_op op_add (pv 2) pe_int) pa_nil))) (fun _ _ _ _ => pg_name (i := 0) (show (["n", "form", "a", "b"] : List Str).Nodup by decide +kernel) rfl (Or.inl rfl)) (fun _ _ _ _ => pts_nil) (fun _ _ _ _ => (pe_tup (pa_cons (pv 1) (pa_cons (pv 2) (pa_cons (pv 3) (pa_cons (pv 0) pa_nil))))))) pa_nil)))))
    (pss_one (ps_ret (pv 3))))), ?_⟩
  refine ⟨(by show 0 ≤ sizeLine; decide), fun pt hpt => ?_⟩
  have s1 := Same.new hpt (.lst [])
  have T0 : TsAt Say.tup (upd H pt (.lst [])) pt [] [] := TsAt.nil
  generalize upd H pt (.lst []) = H1 at *
  refine ⟨_, rfl, pb, us, rfl, s1 _ _ X, l4, fun pr ur H2 hpr s2 R2 r16 => ?_⟩
  have s12 := s1.trans s2
  refine ⟨pr, rfl, ⟨_, SqL.of R2.at_⟩, for_list (K := K) (a := pr) (xs := ur) (fun i σ H' => ∃ (ts : List V) (c4 c5 : Option V), σ = [some (.str fm), some (.ref pb), some (.int w'), some (.ref pt), c4, c5] ∧ TsAt Say.tup H' pt ts (wpn mk w' ((rise us.length).take i)) ∧ ts.length ≤ 100 * i ∧ Same H H' ∧ TsAt ptup H' pr ur (rise us.length))
    ⟨[], none, none, rfl, T0.same s2, Nat.le_refl _, s12, R2⟩ (fun i σ H' _ hh => by obtain ⟨_, _, _, _, _, _, _, R⟩ := hh; exact SqL.of R.at_) ?_ ?_⟩
  · rintro i x σ H' hi ⟨ts, c4, c5, rfl, T1, tl, e', R1⟩
    obtain ⟨x, hx, p, rfl, hp⟩ := R1.each.at hi
    have hil := (List.getElem?_eq_some_iff.mp hi).1
    refine ⟨p, _, rfl, SqT.of hp, rfl, _, _, rfl, _, _, rfl, rfl, ?_⟩
    refine ⟨_, rfl, .inl ⟨rfl, _, SqL.of T1.at_⟩, _, rfl, _, rfl, _, rfl, _, _, rfl, rfl, _, _, rfl, ⟨by omega, by omega, by omega, by omega⟩, fun D hD => ?_⟩
    refine lcr_ts Say.tup (lo := -w') (n := (w' + 1 - -w').toNat) (fun n => some (mk x.1 x.2 n)) hD (by omega) (fun k H4 K1 K2 _ _ _ z => ?_) fun ys H4 T4 e4 => ?_
    · have z' : ∀ p, H4 p = none → K1 (.ref p) (upd H4 p (.tup (mk x.1 x.2 k).tup)) := z
      rw [hmk] at z'
      exact tt_yes ⟨_, rfl, _, rfl, _, rfl, _, rfl, (by show 4 ≤ sizeLine; decide), z'⟩
    rw [show (fun n => some (mk x.1 x.2 n)) = some ∘ (fun n => mk x.1 x.2 n) from rfl, List.filterMap_eq_map] at T4
    have T5 := T1.same e4
    have R5 := R1.same e4
    have ntr : pt ≠ pr := fun z => by
      have h1 := T1.at_
      have hc := ne_of_none (H := H1) (a := pt) (b := pr) T0.at_ hpr
      exact hc z
    have yl : ys.length ≤ 81 := by
      rw [T4.each.1, List.length_map, ir_len]
      omega
    refine ⟨pt, D, ts, ys, rfl, rfl, T5.at_, T4.at_, sz' (by omega), ?_⟩
    refine ⟨ts ++ ys, _, _, rfl, ?_, by rw [List.length_append]; omega, fun c u z => ?_, ⟨?_, R5.each_put T5.at_⟩⟩
    · unfold wpn
      rw [List.take_add_one, hx, List.flatMap_append]
      have := T5.ext T4
      simpa [wpn] using this
    · rw [upd_ne (ne_of_none z hpt)]
      exact e4 _ _ (e' _ _ z)
    · rw [upd_ne ntr.symm]
      exact R5.at_
  · rintro σ H' ⟨ts, c4, c5, rfl, T1, tl, e', R1⟩
    rw [R1.each.1, List.take_length] at T1
    refine ⟨_, rfl, q pt ts H' hpt e' T1.says ?_⟩
    omega
theorem scGaps : FnScope ["boxes"] ["boxes"] (defScope sPGaps) := ⟨rfl, rfl, rfl, by decide +kernel, rfl, by decide +kernel, by decide +kernel⟩
theorem ok_gaps (h : Has K mg "gaps" sPGaps ["boxes"]) (gl : Glb K mg) (cW : Cal P w K mg base 2 "with_pair_and_number" ["form", "boxes", "widest"] spWpn) : Cal P w K mg base 3 "gaps" ["boxes"] spGaps := by
  refine h.cal scGaps (fun vs H Q E h => ?_) (fun f cdv A outer s H vs Q E hr h => ?_)
  · obtain ⟨pb, us, rfl, _⟩ := h
    rfl
  obtain ⟨pb, us, rfl, X, l4, q⟩ := h
  obtain ⟨tk1, hm1⟩ := gl.WIDEST_GAP
  refine ⟨_, (pss_one (ps_ret (pe_lcC (defScope sPGaps) ["boxes"] (N := ["saying"]) (ix := [none]) rfl ⟨rfl, by decide +kernel, by decide +kernel, by decide +kernel, rfl, by decide +kernel⟩ (pi_list (pe_cal cW hr rfl (pa_cons pe_str (pa_cons (pv 0) (pa_cons (pe_glob (v := .int 20) rfl hm1 ⟨_, rfl⟩) pa_nil))))) (fun _ _ _ _ => pg_name (i := 0) (show (["saying"] : List Str).Nodup by decide +kernel) rfl (Or.inl rfl)) (fun _ _ _ _ => (pts_one (pt_cmpR op_ne (pe_ix (ixt K) (pv 0) pe_int (fun _ _ => rfl)) pe_int (nomark _)))) (fun _ _ _ _ => (pv 0))))), ?_⟩
  refine ⟨_, rfl, "gap", Say.gap, pb, 20, us, rfl, (fun a b n => rfl), X, l4, by decide, by decide, fun pw uw H1 hpw s1 W1 wl => ?_⟩
  refine ⟨pw, rfl, ⟨_, SqL.of W1.at_⟩, fun D hD => ?_⟩
  refine lc_list (K := K) (a := pw) (xs := uw) (fun i ys σ H' => (∃ c0 : Option V, σ = [c0]) ∧ SaysAt H' D ys (((wpn Say.gap 20 (rise us.length)).take i).filter Say.nz) ∧ Same H1 H' ∧ ys.length ≤ i)
    ⟨⟨none, rfl⟩, ⟨upd_same, All2.nil⟩, Same.new hD _, Nat.le_refl _⟩ (fun i ys σ H' _ hh => by obtain ⟨_, _, e, _⟩ := hh; exact SqL.of (e _ _ W1.at_)) ?_ ?_
  · rintro i x ys σ H' hi ⟨⟨c0, rfl⟩, T1, e', hl⟩
    obtain ⟨o, ho, p, rfl, hp⟩ := W1.each.at hi
    have hil := (List.getElem?_eq_some_iff.mp hi).1
    obtain ⟨a, b, n, rfl⟩ : ∃ a b n, o = Say.gap a b n := by
      have hm := List.mem_of_getElem? ho
      unfold wpn at hm
      obtain ⟨x, _, hm2⟩ := List.mem_flatMap.mp hm
      obtain ⟨n, _, e⟩ := List.mem_map.mp hm2
      exact ⟨_, _, n, e.symm⟩
    have tk : (wpn Say.gap 20 (rise us.length)).take (i + 1) = (wpn Say.gap 20 (rise us.length)).take i ++ [Say.gap a b n] := by rw [List.take_add_one, ho]; rfl
    refine ⟨_, rfl, p, _, _, _, rfl, rfl, SqT.of (e' _ _ hp), rfl, rfl, _, rfl, ?_⟩
    by_cases en : n = 0
    · refine iteNS (by rw [en]) ⟨⟨_, rfl⟩, ?_, e', by omega⟩
      rw [tk, List.filter_append]
      have : [Say.gap a b n].filter Say.nz = [] := by simp [Say.nz, en]
      rw [this, List.append_nil]
      exact T1
    · refine iteB (by rw [decide_eq_false (fun y => en (by injection y))]; rfl) ?_
      refine ⟨_, rfl, T1.at_, sz (by omega), ⟨_, rfl⟩, ?_, fun c u z => ?_, by rw [List.length_append, List.length_singleton]; omega⟩
      · rw [tk, List.filter_append]
        have : [Say.gap a b n].filter Say.nz = [Say.gap a b n] := by simp [Say.nz, en]
        rw [this]
        exact ⟨upd_same, (T1.each.mono fun _ _ z => z.put T1.at_).snoc (SayAt.put ⟨p, rfl, e' _ _ hp⟩ T1.at_)⟩
      · rw [upd_ne (ne_of_none z hD)]
        exact e' _ _ z
  · rintro ys σ H' ⟨_, T1, e', hl⟩
    rw [W1.each.1, List.take_length] at T1
    exact q D ys H' (Same.free s1 hD) (s1.trans e') T1 (by omega)
theorem scThree : FnScope ["form", "boxes", "told", "a", "b"] ["form", "boxes"] (defScope sPWithThree) := ⟨rfl, rfl, rfl, by decide +kernel, rfl, by decide +kernel, by decide +kernel⟩
theorem ok_three (h : Has K mg "with_three" sPWithThree ["form", "boxes"]) (B : Blt mg) (cR : Cal P w K mg base 1 "rising_pairs" ["boxes"] (spPrs rise)) : Cal P w K mg base 2 "with_three" ["form", "boxes"] spThree := by
  refine h.cal scThree (fun vs H Q E h => ?_) (fun f cdv A outer s H vs Q E hr h => ?_)
  · obtain ⟨f, mk, pb, us, rfl, _⟩ := h
    rfl
  obtain ⟨fm, mk, pb, us, rfl, hmk, X, l4, q⟩ := h
  refine ⟨_, (pss_cons (ps_set (i := 2) scThree.nd rfl (Or.inl rfl) (pe_lst pa_nil))
    (pss_cons (ps_for PassesOwn.never rfl (pi_list (pe_cal cR hr rfl (pa_cons (pv 1) pa_nil))) (pg_tup rfl (pgs_cons (pg_name (i := 3) scThree.nd rfl (Or.inr rfl)) (pgs_cons (pg_name (i := 4) scThree.nd rfl (Or.inr rfl)) pgs_nil))) (pss_one (ps_expr (pe_bm PySem.F.plainAttrs_list PySem.F.slot_list_extend PySem.F.type_list_extend mt_extend (pv 2) (pa_cons (pe_lcC (defScope sPWithThree) ["form", "boxes", "told", "a", "b"] (N := ["c", "form", "a", "b"]) (ix := [none, some 0, some 3, some 4]) rfl ⟨rfl, by decide +kernel, by decide +kernel, by decide +kernel, rfl, by decide +kernel⟩ (pi_range1 rfl B.range (pa_cons (pe_callB call_len_seq rfl B.len bt_len (pa_cons (pv 1) pa_nil)) pa_nil)) (fun _ _ _ _ => pg_name (i := 0) (show (["c", "form", "a", "b"] : List Str).Nodup by decide +kernel) rfl (Or.inl rfl)) (fun _ _ _ _ => (pts_one (PW.pt (pw_and (pt_cmpR op_ne (pv 0) (pv 2) (nomark _)) (pw_and1 (pt_cmpR op_ne (pv 0) (pv 3) (nomark _))))))) (fun _ _ _ _ => (pe_tup (pa_cons (pv 1) (pa_cons (pv 2) (pa_cons (pv 3) (pa_cons (pv 0) pa_nil))))))) pa_nil)))))
    (pss_one (ps_ret (pv 2))))), ?_⟩
  refine ⟨(by show 0 ≤ sizeLine; decide), fun pt hpt => ?_⟩
  have s1 := Same.new hpt (.lst [])
  have T0 : TsAt Say.tup (upd H pt (.lst [])) pt [] [] := TsAt.nil
  generalize upd H pt (.lst []) = H1 at *
  refine ⟨_, rfl, pb, us, rfl, s1 _ _ X, l4, fun pr ur H2 hpr s2 R2 r16 => ?_⟩
  have s12 := s1.trans s2
  have ntr : pt ≠ pr := ne_of_none T0.at_ hpr
  refine ⟨pr, rfl, ⟨_, SqL.of R2.at_⟩, for_list (K := K) (a := pr) (xs := ur) (fun i σ H' => ∃ (ts : List V) (c3 c4 : Option V), σ = [some (.str fm), some (.ref pb), some (.ref pt), c3, c4] ∧ TsAt Say.tup H' pt ts (w3 mk us.length ((rise us.length).take i)) ∧ ts.length ≤ 4 * i ∧ Same H H' ∧ TsAt ptup H' pr ur (rise us.length))
    ⟨[], none, none, rfl, T0.same s2, Nat.le_refl _, s12, R2⟩ (fun i σ H' _ hh => by obtain ⟨_, _, _, _, _, _, _, R⟩ := hh; exact SqL.of R.at_) ?_ ?_⟩
  · rintro i x σ H' hi ⟨ts, c3, c4, rfl, T1, tl, e', R1⟩
    obtain ⟨x, hx, p, rfl, hp⟩ := R1.each.at hi
    have hil := (List.getElem?_eq_some_iff.mp hi).1
    refine ⟨p, _, rfl, SqT.of hp, rfl, _, _, rfl, _, _, rfl, rfl, ?_⟩
    refine ⟨_, rfl, .inl ⟨rfl, _, SqL.of T1.at_⟩, _, rfl, pb, _, rfl, .inl (SqL.of (e' _ _ X)), _, rfl, by omega, by omega, fun D hD => ?_⟩
    refine lcr_ts Say.tup (lo := 0) (n := ((us.length : Nat) : Int).toNat) (fun c => if c = (x.1 : Int) ∨ c = (x.2 : Int) then none else some (mk x.1 x.2 c.toNat)) hD (by omega) (fun k H4 K1 K2 k0 k1 _ z => ?_) fun ys H4 T4 e4 => ?_
    · refine ⟨_, rfl, _, rfl, rfl, _, rfl, ?_⟩
      by_cases ea : k = (x.1 : Int)
      · rw [if_pos (.inl ea)] at z
        exact iteNS (by rw [ea]) (iteF z)
      · refine iteB (by rw [decide_eq_false (fun y => ea (by injection y))]; rfl) ?_
        refine ⟨_, rfl, _, rfl, rfl, _, rfl, ?_⟩
        by_cases eb : k = (x.2 : Int)
        · rw [if_pos (.inr eb)] at z
          exact iteNS (by rw [eb]) z
        · rw [if_neg (fun y => y.elim ea eb)] at z
          have z' : ∀ p, H4 p = none → K1 (.ref p) (upd H4 p (.tup (mk x.1 x.2 k.toNat).tup)) := z
          rw [hmk, show ((k.toNat : Nat) : Int) = k from by omega] at z'
          refine iteB (by rw [decide_eq_false (fun y => eb (by injection y))]; rfl) ?_
          exact ⟨_, rfl, _, rfl, _, rfl, _, rfl, (by show 4 ≤ sizeLine; decide), z'⟩
    have T5 := T1.same e4
    have R5 := R1.same e4
    have yl : ys.length ≤ 4 := by
      rw [T4.each.1]
      refine Nat.le_trans (List.length_filterMap_le _ _) ?_
      rw [ir_len]
      omega
    refine ⟨pt, D, ts, ys, rfl, rfl, T5.at_, T4.at_, small (by omega), ?_⟩
    refine ⟨ts ++ ys, _, _, rfl, ?_, by rw [List.length_append]; omega, fun c u z => ?_, ⟨?_, R5.each_put T5.at_⟩⟩
    · rw [Int.toNat_natCast] at T4
      unfold w3
      rw [List.take_add_one, hx, List.flatMap_append]
      have := T5.ext T4
      simpa [w3] using this
    · rw [upd_ne (ne_of_none z hpt)]
      exact e4 _ _ (e' _ _ z)
    · rw [upd_ne ntr.symm]
      exact R5.at_
  · rintro σ H' ⟨ts, c3, c4, rfl, T1, tl, e', R1⟩
    rw [R1.each.1, List.take_length] at T1
    exact ⟨_, rfl, q pt ts H' hpt e' T1.says (by omega)⟩
end

/-! ### all sayings -/
section
variable {P : Program} {w : World} {K : PySem.W.Frag} {mg : Str → Option Value} {base : Heap}
theorem scSayings : FnScope ["program", "boxes"] ["program"] (defScope sPSayings) := ⟨rfl, rfl, rfl, by decide +kernel, rfl, by decide +kernel, by decide +kernel⟩
theorem ok_sayings (h : Has K mg "sayings" sPSayings ["program"]) (gl : Glb K mg) (cN : Cal P w K mg base 1 "with_number" ["form", "boxes", "above", "below"] spWithNumber) (cR : Cal P w K mg base 1 "rests" ["boxes"] (spBx restL 120)) (cE : Cal P w K mg base 1 "eithers" ["boxes"] (spBx eithL 1600)) (cP : Cal P w K mg base 1 "with_pair" ["form", "pairs"] spWithPair) (cI : Cal P w K mg base 1 "rising_pairs" ["boxes"] (spPrs rise)) (cU : Cal P w K mg base 1 "unlike_pairs" ["boxes"] (spPrs unl)) (cG : Cal P w K mg base 3 "gaps" ["boxes"] spGaps) (cW : Cal P w K mg base 2 "with_pair_and_number" ["form", "boxes", "widest"] spWpn) (cT : Cal P w K mg base 2 "with_three" ["form", "boxes"] spThree) : Cal P w K mg base 4 "sayings" ["program"] spSayings := by
  refine h.cal scSayings (fun vs H Q E h => ?_) (fun f cdv A outer s H vs Q E hr h => ?_)
  · obtain ⟨pp, pb, pw, us, bs, rfl, _⟩ := h
    rfl
  obtain ⟨pp, pb, pw, us, bs, rfl, hpp, X, ok, l4, q⟩ := h
  obtain ⟨tk1, hm1⟩ := gl.WIDEST_SUM
  have hr3 : Room 3 _ := hr
  have hr2 : Room 2 _ := hr.mono (by decide)
  have hr1 : Room 1 _ := hr.mono (by decide)
  have ul : us.length = bs.length := X.each.1
  have l4' : us.length ≤ 4 := by omega
  refine ⟨_, (@pss_cons _ _ _ _ _ (@ps_set _ _ 1 _ _ _ _ scSayings.nd rfl (Or.inl rfl) (@pe_ix _ _ _ _ _ _ _ ix_tup (pv 0) pe_int (fun _ _ => rfl)) rfl (Or.inl rfl)) (@pss_one _ _ _ (@ps_ret _ _ _ _ (@pe_op _ _ _ _ _ _ _ _ op_cat (@pe_op _ _ _ _ _ _ _ _ op_cat (@pe_op _ _ _ _ _ _ _ _ op_cat (@pe_op _ _ _ _ _ _ _ _ op_cat (@pe_op _ _ _ _ _ _ _ _ op_cat (@pe_op _ _ _ _ _ _ _ _ op_cat (@pe_op _ _ _ _ _ _ _ _ op_cat (@pe_op _ _ _ _ _ _ _ _ op_cat (@pe_op _ _ _ _ _ _ _ _ op_cat (@pe_op _ _ _ _ _ _ _ _ op_cat (@pe_op _ _ _ _ _ _ _ _ op_cat (@pe_op _ _ _ _ _ _ _ _ op_cat (pe_cal cN hr1 rfl (@pa_cons _ _ _ _ _ pe_str (@pa_cons _ _ _ _ _ (pv 1) (@pa_cons _ _ _ _ _ pe_int (@pa_cons _ _ _ _ _ pe_int pa_nil rfl) rfl) rfl) rfl)) (pe_cal cN hr1 rfl (@pa_cons _ _ _ _ _ pe_str (@pa_cons _ _ _ _ _ (pv 1) (@pa_cons _ _ _ _ _ pe_int (@pa_cons _ _ _ _ _ pe_int pa_nil rfl) rfl) rfl) rfl))) (pe_cal cN hr1 rfl (@pa_cons _ _ _ _ _ pe_str (@pa_cons _ _ _ _ _ (pv 1) (@pa_cons _ _ _ _ _ pe_int (@pa_cons _ _ _ _ _ pe_int pa_nil rfl) rfl) rfl) rfl))) (pe_cal cR hr1 rfl (@pa_cons _ _ _ _ _ (pv 1) pa_nil rfl))) (pe_cal cE hr1 rfl (@pa_cons _ _ _ _ _ (pv 1) pa_nil rfl))) (pe_cal cN hr1 rfl (@pa_cons _ _ _ _ _ pe_str (@pa_cons _ _ _ _ _ (pv 1) (@pa_cons _ _ _ _ _ pe_int (@pa_cons _ _ _ _ _ pe_int pa_nil rfl) rfl) rfl) rfl))) (pe_cal cP hr1 rfl (@pa_cons _ _ _ _ _ pe_str (@pa_cons _ _ _ _ _ (pe_cal cI hr1 rfl (@pa_cons _ _ _ _ _ (pv 1) pa_nil rfl)) pa_nil rfl) rfl))) (pe_cal cP hr1 rfl (@pa_cons _ _ _ _ _ pe_str (@pa_cons _ _ _ _ _ (pe_cal cU hr1 rfl (@pa_cons _ _ _ _ _ (pv 1) pa_nil rfl)) pa_nil rfl) rfl))) (pe_cal cP hr1 rfl (@pa_cons _ _ _ _ _ pe_str (@pa_cons _ _ _ _ _ (pe_cal cU hr1 rfl (@pa_cons _ _ _ _ _ (pv 1) pa_nil rfl)) pa_nil rfl) rfl))) (pe_cal cG hr3 rfl (@pa_cons _ _ _ _ _ (pv 1) pa_nil rfl))) (pe_cal cW hr2 rfl (@pa_cons _ _ _ _ _ pe_str (@pa_cons _ _ _ _ _ (pv 1) (@pa_cons _ _ _ _ _ (pe_glob (v := .int 40) rfl hm1 ⟨_, rfl⟩) pa_nil rfl) rfl) rfl))) (pe_cal cT hr2 rfl (@pa_cons _ _ _ _ _ pe_str (@pa_cons _ _ _ _ _ (pv 1) pa_nil rfl) rfl))) (pe_cal cT hr2 rfl (@pa_cons _ _ _ _ _ pe_str (@pa_cons _ _ _ _ _ (pv 1) pa_nil rfl) rfl)))))), ?_⟩
  refine ⟨_, rfl, pp, _, _, _, rfl, rfl, SqT.of hpp, rfl, ?_⟩
  refine ⟨_, rfl, "is", Say.is_, pb, 0, 0, us, bs, rfl, (fun i n => rfl), X, ok, l4, by decide, by decide, by decide, by decide, fun p1 u1 H1 _ s1 S1 n1 => ?_⟩
  refine ⟨_, rfl, "from", Say.frm, pb, 1, 0, us, bs, rfl, (fun i n => rfl), X.same s1, ok, l4, by decide, by decide, by decide, by decide, fun p2 u2 H2 _ s2 S2 n2 => ?_⟩
  refine ⟨p1, p2, u1, u2, rfl, rfl, (S1.same s2).at_, S2.at_, sz' (by omega), fun c1 hc1 => ?_⟩
  have C1 := (S1.same s2).cat S2 hc1
  have t1 := (s1.trans s2).trans (Same.new hc1 (.lst (u1 ++ u2)))
  have m1 : (u1 ++ u2).length ≤ 200 := by rw [List.length_append]; omega
  generalize upd H2 c1 (.lst (u1 ++ u2)) = G1 at *
  refine ⟨_, rfl, "to", Say.to_, pb, 0, 1, us, bs, rfl, (fun i n => rfl), X.same t1, ok, l4, by decide, by decide, by decide, by decide, fun p3 u3 H3 _ s3 S3 n3 => ?_⟩
  refine ⟨c1, p3, _, u3, rfl, rfl, (C1.same s3).at_, S3.at_, sz' (by omega), fun c2 hc2 => ?_⟩
  have C2 := (C1.same s3).cat S3 hc2
  have t2 := (t1.trans s3).trans (Same.new hc2 (.lst (u1 ++ u2 ++ u3)))
  have m2 : (u1 ++ u2 ++ u3).length ≤ 400 := by rw [List.length_append]; omega
  generalize upd H3 c2 (.lst (u1 ++ u2 ++ u3)) = G2 at *
  generalize u1 ++ u2 ++ u3 = v2 at *
  refine ⟨_, rfl, pb, us, bs, rfl, X.same t2, ok, l4, fun p4 u4 H4 _ s4 S4 n4 => ?_⟩
  refine ⟨c2, p4, _, u4, rfl, rfl, (C2.same s4).at_, S4.at_, sz' (by omega), fun c3 hc3 => ?_⟩
  have C3 := (C2.same s4).cat S4 hc3
  have t3 := (t2.trans s4).trans (Same.new hc3 (.lst (v2 ++ u4)))
  have m3 : (v2 ++ u4).length ≤ 600 := by rw [List.length_append]; omega
  generalize upd H4 c3 (.lst (v2 ++ u4)) = G3 at *
  generalize v2 ++ u4 = v3 at *
  refine ⟨_, rfl, pb, us, bs, rfl, X.same t3, ok, l4, fun p5 u5 H5 _ s5 S5 n5 => ?_⟩
  refine ⟨c3, p5, _, u5, rfl, rfl, (C3.same s5).at_, S5.at_, sz' (by omega), fun c4 hc4 => ?_⟩
  have C4 := (C3.same s5).cat S5 hc4
  have t4 := (t3.trans s5).trans (Same.new hc4 (.lst (v3 ++ u5)))
  have m4 : (v3 ++ u5).length ≤ 2200 := by rw [List.length_append]; omega
  generalize upd H5 c4 (.lst (v3 ++ u5)) = G4 at *
  generalize v3 ++ u5 = v4 at *
  refine ⟨_, rfl, "never", Say.nev, pb, 0, 0, us, bs, rfl, (fun i n => rfl), X.same t4, ok, l4, by decide, by decide, by decide, by decide, fun p6 u6 H6 _ s6 S6 n6 => ?_⟩
  refine ⟨c4, p6, _, u6, rfl, rfl, (C4.same s6).at_, S6.at_, sz' (by omega), fun c5 hc5 => ?_⟩
  have C5 := (C4.same s6).cat S6 hc5
  have t5 := (t4.trans s6).trans (Same.new hc5 (.lst (v4 ++ u6)))
  have m5 : (v4 ++ u6).length ≤ 2300 := by rw [List.length_append]; omega
  generalize upd H6 c5 (.lst (v4 ++ u6)) = G5 at *
  generalize v4 ++ u6 = v5 at *
  refine ⟨_, rfl, pb, us, rfl, t5 _ _ X.at_, l4', fun r7 w7 J7 _ i7 R7 r16 => ?_⟩
  refine ⟨"same", Say.same, r7, w7, rise us.length, rfl, (fun a b => rfl), R7, r16, fun p7 u7 H7 _ s7 S7 n7 => ?_⟩
  have C5' := (C5.same i7).same s7
  refine ⟨c5, p7, _, u7, rfl, rfl, C5'.at_, S7.at_, sz' (by omega), fun c6 hc6 => ?_⟩
  have C6 := C5'.cat S7 hc6
  have t6 := ((t5.trans i7).trans s7).trans (Same.new hc6 (.lst (v5 ++ u7)))
  have m6 : (v5 ++ u7).length ≤ 2400 := by rw [List.length_append]; omega
  generalize upd H7 c6 (.lst (v5 ++ u7)) = G6 at *
  generalize v5 ++ u7 = v6 at *
  refine ⟨_, rfl, pb, us, rfl, t6 _ _ X.at_, l4', fun r8 w8 J8 _ i8 R8 r16 => ?_⟩
  refine ⟨"below", Say.below, r8, w8, unl us.length, rfl, (fun a b => rfl), R8, r16, fun p8 u8 H8 _ s8 S8 n8 => ?_⟩
  have C6' := (C6.same i8).same s8
  refine ⟨c6, p8, _, u8, rfl, rfl, C6'.at_, S8.at_, sz' (by omega), fun c7 hc7 => ?_⟩
  have C7 := C6'.cat S8 hc7
  have t7 := ((t6.trans i8).trans s8).trans (Same.new hc7 (.lst (v6 ++ u8)))
  have m7 : (v6 ++ u8).length ≤ 2500 := by rw [List.length_append]; omega
  generalize upd H8 c7 (.lst (v6 ++ u8)) = G7 at *
  generalize v6 ++ u8 = v7 at *
  refine ⟨_, rfl, pb, us, rfl, t7 _ _ X.at_, l4', fun r9 w9 J9 _ i9 R9 r16 => ?_⟩
  refine ⟨"most", Say.most, r9, w9, unl us.length, rfl, (fun a b => rfl), R9, r16, fun p9 u9 H9 _ s9 S9 n9 => ?_⟩
  have C7' := (C7.same i9).same s9
  refine ⟨c7, p9, _, u9, rfl, rfl, C7'.at_, S9.at_, sz' (by omega), fun c8 hc8 => ?_⟩
  have C8 := C7'.cat S9 hc8
  have t8 := ((t7.trans i9).trans s9).trans (Same.new hc8 (.lst (v7 ++ u9)))
  have m8 : (v7 ++ u9).length ≤ 2600 := by rw [List.length_append]; omega
  generalize upd H9 c8 (.lst (v7 ++ u9)) = G8 at *
  generalize v7 ++ u9 = v8 at *
  refine ⟨_, rfl, pb, us, rfl, t8 _ _ X.at_, l4', fun pA uA HA _ sA SA nA => ?_⟩
  refine ⟨c8, pA, _, uA, rfl, rfl, (C8.same sA).at_, SA.at_, sz' (by omega), fun c9 hc9 => ?_⟩
  have C9 := (C8.same sA).cat SA hc9
  have t9 := (t8.trans sA).trans (Same.new hc9 (.lst (v8 ++ uA)))
  have m9 : (v8 ++ uA).length ≤ 4200 := by rw [List.length_append]; omega
  generalize upd HA c9 (.lst (v8 ++ uA)) = G9 at *
  generalize v8 ++ uA = v9 at *
  refine ⟨_, rfl, "sum", Say.sum, pb, 40, us, rfl, (fun a b n => rfl), t9 _ _ X.at_, l4', by decide, by decide, fun pB uB HB _ sB SB nB => ?_⟩
  refine ⟨c9, pB, _, uB, rfl, rfl, (C9.same sB).at_, SB.at_, sz' (by omega), fun cA hcA => ?_⟩
  have CA := (C9.same sB).cat SB hcA
  have tA := (t9.trans sB).trans (Same.new hcA (.lst (v9 ++ uB)))
  have mA : (v9 ++ uB).length ≤ 5800 := by rw [List.length_append]; omega
  generalize upd HB cA (.lst (v9 ++ uB)) = GA at *
  generalize v9 ++ uB = vA at *
  refine ⟨_, rfl, "adds", Say.adds, pb, us, rfl, (fun a b c => rfl), tA _ _ X.at_, l4', fun pC uC HC _ sC SC nC => ?_⟩
  refine ⟨cA, pC, _, uC, rfl, rfl, (CA.same sC).at_, SC.at_, sz' (by omega), fun cB hcB => ?_⟩
  have CB := (CA.same sC).cat SC hcB
  have tB := (tA.trans sC).trans (Same.new hcB (.lst (vA ++ uC)))
  have mB : (vA ++ uC).length ≤ 5900 := by rw [List.length_append]; omega
  generalize upd HC cB (.lst (vA ++ uC)) = GB at *
  generalize vA ++ uC = vB at *
  refine ⟨_, rfl, "times", Say.times, pb, us, rfl, (fun a b c => rfl), tB _ _ X.at_, l4', fun pD uD HD hpD sD SD nD => ?_⟩
  refine ⟨cB, pD, _, uD, rfl, rfl, (CB.same sD).at_, SD.at_, sz' (by omega), fun cC hcC => ?_⟩
  have CC := (CB.same sD).cat SD hcC
  have tC := tB.trans sD
  rw [ul] at CC
  refine q cC _ _ (Same.free tC hcC) (tC.trans (Same.new hcC _)) CC ?_
  rw [List.length_append]
  omega
end

/-! ### sayings as keys; alike -/
def Say.head : Say → Str
  | .is_ _ _ => "is" | .frm _ _ => "from" | .to_ _ _ => "to" | .rest _ _ _ => "rest" | .eith _ _ _ => "either" | .nev _ _ => "never" | .same _ _ => "same" | .below _ _ => "below" | .most _ _ => "most" | .gap _ _ _ => "gap" | .sum _ _ _ => "sum" | .adds _ _ _ => "adds" | .times _ _ _ => "times"
def Say.figs : Say → List Int
  | .is_ a n | .frm a n | .to_ a n | .nev a n => [a, n]
  | .rest a m r => [a, m, r]
  | .eith a n k => [a, n, k]
  | .same a b | .below a b | .most a b => [a, b]
  | .gap a b n | .sum a b n => [a, b, n]
  | .adds a b c | .times a b c => [a, b, c]
theorem Say.tup_eq (s : Say) : s.tup = .str s.head :: s.figs.map V.int := by cases s <;> rfl
def Say.key (s : Say) : List Key := .inr s.head :: s.figs.map Sum.inl
theorem Say.tup_key (s : Say) : s.tup = s.key.map kV := by cases s <;> rfl
def unkey (f : Str) (ns : List Int) : Option Say := match ns with
  | [a, n] => if f = "is" then some (.is_ a.toNat n) else if f = "from" then some (.frm a.toNat n) else if f = "to" then some (.to_ a.toNat n) else if f = "never" then some (.nev a.toNat n) else if f = "same" then some (.same a.toNat n.toNat) else if f = "below" then some (.below a.toNat n.toNat) else some (.most a.toNat n.toNat)
  | [a, n, k] => if f = "rest" then some (.rest a.toNat n k) else if f = "either" then some (.eith a.toNat n k) else if f = "gap" then some (.gap a.toNat n.toNat k) else if f = "sum" then some (.sum a.toNat n.toNat k) else if f = "adds" then some (.adds a.toNat n.toNat k.toNat) else some (.times a.toNat n.toNat k.toNat)
  | _ => none
theorem unkey_of (s : Say) : unkey s.head s.figs = some s := by
  cases s <;> rfl
theorem inl_inj : ∀ {ns ms : List Int}, (ns.map Sum.inl : List Key) = ms.map Sum.inl → ns = ms
  | [], [], _ => rfl
  | [], _ :: _, h => nomatch h
  | _ :: _, [], h => nomatch h
  | n :: r, m :: t, h => by
    rw [List.map_cons, List.map_cons] at h
    injection h with h1 h2
    injection h1 with h1
    rw [h1, inl_inj h2]
theorem Say.key_inj {s t : Say} (h : s.key = t.key) : s = t := by
  unfold Say.key at h
  injection h with h1 h2
  injection h1 with h1
  have h3 := inl_inj h2
  have e := unkey_of s
  rw [h1, h3, unkey_of t] at e
  exact (Option.some.inj e).symm
theorem eqV_key (a b : Key) : eqV (kV a) (kV b) = decide (a = b) := by
  rw [Bool.eq_iff_iff, decide_eq_true_iff]
  cases a with
  | inl i => cases b with
    | inl j =>
      show (i == j) = true ↔ _
      rw [beq_iff_eq]
      exact ⟨fun z => by rw [z], fun z => by injection z⟩
    | inr y => exact ⟨(fun z => nomatch z), (fun z => nomatch z)⟩
  | inr x => cases b with
    | inl j => exact ⟨(fun z => nomatch z), (fun z => nomatch z)⟩
    | inr y =>
      show (x == y) = true ↔ _
      rw [beq_iff_eq]
      exact ⟨fun z => by rw [z], fun z => by injection z⟩
theorem eqL_keys {ks ls : List Key} : eqL (ks.map kV) (ls.map kV) = decide (ks = ls) := by
  rw [Bool.eq_iff_iff, decide_eq_true_iff]
  unfold eqL
  rw [Bool.and_eq_true, List.all_eq_true, beq_iff_eq, List.length_map, List.length_map]
  have at' : ∀ (xs : List Key) (i : Nat) (h : i < xs.length), (xs.map kV).getD i .non = kV xs[i] := fun xs i h => by
    rw [List.getD_eq_getElem?_getD, List.getElem?_map, List.getElem?_eq_getElem h]
    rfl
  constructor
  · rintro ⟨h, hl⟩
    refine List.ext_getElem hl fun i h1 h2 => ?_
    have := h i (List.mem_range.mpr (by omega))
    rw [at' ks i h1, at' ls i h2, eqV_key] at this
    exact of_decide_eq_true this
  · rintro rfl
    refine ⟨fun i hi => ?_, rfl⟩
    have hi' : i < ks.length := by have := List.mem_range.mp hi; omega
    rw [at' ks i hi', eqV_key]
    exact decide_eq_true rfl
theorem eqL_say (s t : Say) : eqL s.tup t.tup = decide (s = t) := by
  rw [s.tup_key, t.tup_key, eqL_keys, Bool.eq_iff_iff, decide_eq_true_iff, decide_eq_true_iff]
  exact ⟨Say.key_inj, fun e => by rw [e]⟩
theorem flat_keys (ks : List Key) : (ks.map kV).all flatV = true := by
  rw [List.all_map, List.all_eq_true]
  intro k _
  cases k <;> rfl
theorem flat_say (s : Say) : s.tup.all flatV = true := by rw [s.tup_key]; exact flat_keys _
theorem ite_ntk {c A B : Prop} [Decidable c] (hc : ¬ c) (h : A) : if (!decide c) = true then A else B := by
  rw [if_pos (by rw [decide_eq_false hc]; rfl)]
  exact h
theorem cut_tail {x : V} {xs : List V} : cutV (x :: xs) (some 1) none = xs := by
  unfold cutV
  have h1 : HT.sIx (x :: xs).length 0 (some 1) = 1 := by
    show (if (1 : Int) < 0 then ((1 : Int) + ((x :: xs).length : Int)).toNat else Nat.min (1 : Int).toNat (x :: xs).length) = 1
    rw [if_neg (by decide)]
    exact Nat.min_eq_left (by simp)
  have h2 : HT.sIx (x :: xs).length (x :: xs).length (none : Option Int) = (x :: xs).length := rfl
  rw [h1, h2]
  show (xs.take ((xs.length + 1) - 1)) = xs
  rw [Nat.add_sub_cancel, List.take_length]
def spAlike : Sp := fun vs H Q _ => ∃ (p q : Addr) (s t : Say), vs = [.ref p, .ref q] ∧ H p = some (.tup s.tup) ∧ H q = some (.tup t.tup) ∧ ∀ H', Same H H' → Q (.bl (decide (s = t))) H'
section
variable {P : Program} {w : World} {K : PySem.W.Frag} {mg : Str → Option Value} {base : Heap}
theorem scAlike : FnScope ["told", "due", "n"] ["told", "due"] (defScope sAlike) := ⟨rfl, rfl, rfl, by decide +kernel, rfl, by decide +kernel, by decide +kernel⟩
theorem ok_alike (h : Has K mg "_law_alike" sAlike ["told", "due"]) (B : Blt mg) : Cal P w K mg base 1 "_law_alike" ["told", "due"] spAlike := by
  refine h.cal scAlike (fun vs H Q E h => ?_) (fun f cdv A outer s H vs Q E hr h => ?_)
  · obtain ⟨p, p', s, t, rfl, _⟩ := h
    rfl
  obtain ⟨p, p', s, t, rfl, hp, hp', q⟩ := h
  refine ⟨_, (pss_cons (ps_if (PW.pt (pw_or (pt_not (pt_val (pe_callB call_isinst rfl B.isinstance bt_isinstance (pa_cons (pv 0) (pa_cons (pe_bltn (v := .ty "tuple") rfl B.tuple bt_tuple rfl) pa_nil))))) (pw_or (pt_cmpR op_ne (pe_callB call_len_seq rfl B.len bt_len (pa_cons (pv 0) pa_nil)) (pe_callB call_len_seq rfl B.len bt_len (pa_cons (pv 1) pa_nil)) (nomark _)) (pw_or1 (pt_not (pt_val (pe_callB call_isinst rfl B.isinstance bt_isinstance (pa_cons (pe_ix ix_tup (pv 0) pe_int (fun _ _ => rfl)) (pa_cons (pe_bltn (v := .ty "str") rfl B.str bt_str rfl) pa_nil))))))))) (pss_one (ps_ret pe_bl)) pss_nil)
    (pss_cons (ps_for PassesOwn.never rfl (pi_tup (pe_slice sl_tup (pv 0) (po_some pe_int) po_none)) (pg_name (i := 2) scAlike.nd rfl (Or.inl rfl)) (pss_one (ps_if (PW.pt (pw_or (pt_not (pt_val (pe_callB call_isinst rfl B.isinstance bt_isinstance (pa_cons (pv 2) (pa_cons (pe_bltn (v := .ty "int") rfl B.int bt_int rfl) pa_nil))))) (pw_or1 (pt_val (pe_callB call_isinst rfl B.isinstance bt_isinstance (pa_cons (pv 2) (pa_cons (pe_bltn (v := .ty "bool") rfl B.bool bt_bool rfl) pa_nil))))))) (pss_one (ps_ret pe_bl)) pss_nil)))
    (pss_one (ps_ret (pe_cmpR (op_eqT hr.units) (pv 0) (pv 1) (nomark _)))))), ?_⟩
  refine ⟨_, rfl, _, _, _, _, rfl, .tup hp, kit_same K "tuple", _, rfl, iteF ?_⟩
  refine ⟨_, rfl, p, _, rfl, .inr (SqT.of hp), _, rfl, p', _, rfl, .inr (SqT.of hp'), rfl, _, rfl, ?_⟩
  by_cases hl : s.tup.length = t.tup.length
  · refine iteNS (by rw [hl]) ?_
    have hp2 := hp
    rw [s.tup_eq] at hp2
    refine ⟨_, rfl, p, _, _, _, rfl, rfl, SqT.of hp2, at0, _, _, _, _, rfl, .str _, kit_same K "str", _, rfl, iteF ?_⟩
    refine ⟨_, rfl, _, rfl, p, _, rfl, SqT.of hp2, ?_, fun pc hpc => ?_⟩
    · rintro ⟨z, _⟩
      have : (if (1 : Int) < 0 then ((1 : Int) + ((V.str s.head :: s.figs.map V.int).length : Int)).toNat else Nat.min (1 : Int).toNat (V.str s.head :: s.figs.map V.int).length) = 0 := z
      rw [if_neg (by decide)] at this
      have e2 : Nat.min (1 : Int).toNat (V.str s.head :: s.figs.map V.int).length = 1 := Nat.min_eq_left (by simp)
      omega
    rw [cut_tail]
    have s1 := Same.new hpc (.tup (s.figs.map V.int))
    have c1 : upd H pc (.tup (s.figs.map V.int)) pc = some (.tup (s.figs.map V.int)) := upd_same
    generalize upd H pc (.tup (s.figs.map V.int)) = H1 at *
    refine ⟨pc, rfl, ⟨_, SqT.of c1⟩, for_tup (K := K) (a := pc) (xs := s.figs.map V.int) (fun i σ H' => (∃ c : Option V, σ = [some (.ref p), some (.ref p'), c]) ∧ H' = H1)
      ⟨⟨none, rfl⟩, rfl⟩ (fun i σ H' _ hh => by obtain ⟨_, e⟩ := hh; rw [e]; exact SqT.of c1) ?_ ?_⟩
    · rintro i x σ H' hi ⟨⟨c, rfl⟩, rfl⟩
      obtain ⟨n, _, rfl⟩ := List.mem_map.mp (List.mem_of_getElem? hi)
      refine ⟨_, rfl, _, _, _, _, rfl, .int _, kit_same K "int", _, rfl, iteF ?_⟩
      refine ⟨_, rfl, _, _, _, _, rfl, .int _, kit_ib K, _, rfl, iteF ?_⟩
      exact ⟨⟨_, rfl⟩, rfl⟩
    · rintro σ H' ⟨⟨c, rfl⟩, rfl⟩
      refine ⟨_, rfl, _, rfl, p, p', _, _, rfl, rfl, s1 _ _ hp, s1 _ _ hp', flat_say s, flat_say t, ?_⟩
      exact bl_eq (q _ s1) (eqL_say s t)
  · refine ite_ntk (fun z => hl (by have := V.int.inj z; omega)) (iteT ?_)
    have q' := q H (Same.refl _)
    rw [decide_eq_false (fun z => hl (by rw [z]))] at q'
    exact q'
end

/-! ### all sayings have their places; what is held; within; enough; none spare -/
theorem fl_mem {α : Type} {F : Nat → List α} {n : Nat} {x : α} (h : x ∈ fl F n) : ∃ i, i < n ∧ x ∈ F i := by
  obtain ⟨i, hi, hx⟩ := List.mem_flatMap.mp h
  exact ⟨i, List.mem_range.mp hi, hx⟩
theorem wnum_mem {mk : Nat → Int → Say} {ab be : Int} {bs : List Box} {o : Say} (h : o ∈ wnum mk ab be bs) : ∃ i n, i < bs.length ∧ o = mk i n := by
  obtain ⟨i, hi, hx⟩ := fl_mem h
  unfold wnumF at hx
  rw [List.getElem?_eq_getElem hi] at hx
  obtain ⟨n, _, rfl⟩ := List.mem_map.mp hx
  exact ⟨i, n, hi, rfl⟩
theorem rise_mem {n : Nat} {x : Nat × Nat} (h : x ∈ rise n) : x.1 < n ∧ x.2 < n := by
  obtain ⟨i, hi, hx⟩ := fl_mem h
  obtain ⟨b, hb, rfl⟩ := List.mem_map.mp hx
  have := ir_mem.mp hb
  exact ⟨hi, by show b.toNat < n; omega⟩
theorem unl_mem {n : Nat} {x : Nat × Nat} (h : x ∈ unl n) : x.1 < n ∧ x.2 < n := by
  obtain ⟨i, hi, hx⟩ := fl_mem h
  obtain ⟨b, hb, e⟩ := List.mem_filterMap.mp hx
  have := ir_mem.mp hb
  split at e
  · cases e
  · cases e
    exact ⟨hi, by show b.toNat < n; omega⟩
theorem wpn_mem {mk : Nat → Nat → Int → Say} {w : Int} {prs : List (Nat × Nat)} {o : Say} (h : o ∈ wpn mk w prs) : ∃ x n, x ∈ prs ∧ o = mk x.1 x.2 n := by
  obtain ⟨x, hx, ho⟩ := List.mem_flatMap.mp h
  obtain ⟨n, _, rfl⟩ := List.mem_map.mp ho
  exact ⟨x, n, hx, rfl⟩
theorem w3_mem {mk : Nat → Nat → Nat → Say} {n : Nat} {prs : List (Nat × Nat)} {o : Say} (h : o ∈ w3 mk n prs) : ∃ x c, x ∈ prs ∧ c < n ∧ o = mk x.1 x.2 c := by
  obtain ⟨x, hx, ho⟩ := List.mem_flatMap.mp h
  obtain ⟨c, hc, e⟩ := List.mem_filterMap.mp ho
  have := ir_mem.mp hc
  split at e
  · cases e
  · cases e
    exact ⟨x, c.toNat, hx, by omega, rfl⟩
theorem sayl_in {bs : List Box} {o : Say} (h : o ∈ sayl bs) : o.In bs.length := by
  unfold sayl at h
  rcases List.mem_append.mp h with h | h
  rcases List.mem_append.mp h with h | h
  rcases List.mem_append.mp h with h | h
  rcases List.mem_append.mp h with h | h
  rcases List.mem_append.mp h with h | h
  rcases List.mem_append.mp h with h | h
  rcases List.mem_append.mp h with h | h
  rcases List.mem_append.mp h with h | h
  rcases List.mem_append.mp h with h | h
  rcases List.mem_append.mp h with h | h
  rcases List.mem_append.mp h with h | h
  rcases List.mem_append.mp h with h | h
  · obtain ⟨i, n, hi, rfl⟩ := wnum_mem h
    exact hi
  · obtain ⟨i, n, hi, rfl⟩ := wnum_mem h
    exact hi
  · obtain ⟨i, n, hi, rfl⟩ := wnum_mem h
    exact hi
  · obtain ⟨i, hi, hx⟩ := fl_mem h
    obtain ⟨m, hm, hr⟩ := List.mem_flatMap.mp hx
    obtain ⟨r, _, rfl⟩ := List.mem_map.mp hr
    have := ir_mem.mp hm
    exact ⟨hi, by omega⟩
  · obtain ⟨i, hi, hx⟩ := fl_mem h
    unfold eithF at hx
    rw [List.getElem?_eq_getElem hi] at hx
    obtain ⟨m, hm, hr⟩ := List.mem_flatMap.mp hx
    obtain ⟨r, _, rfl⟩ := List.mem_map.mp hr
    exact hi
  · obtain ⟨i, n, hi, rfl⟩ := wnum_mem h
    exact hi
  · obtain ⟨x, hx, rfl⟩ := List.mem_map.mp h
    exact rise_mem hx
  · obtain ⟨x, hx, rfl⟩ := List.mem_map.mp h
    exact unl_mem hx
  · obtain ⟨x, hx, rfl⟩ := List.mem_map.mp h
    exact unl_mem hx
  · obtain ⟨x, n, hx, rfl⟩ := wpn_mem (List.mem_filter.mp h).1
    exact rise_mem hx
  · obtain ⟨x, n, hx, rfl⟩ := wpn_mem h
    exact rise_mem hx
  · obtain ⟨x, c, hx, hc, rfl⟩ := w3_mem h
    exact ⟨(rise_mem hx).1, (rise_mem hx).2, hc⟩
  · obtain ⟨x, c, hx, hc, rfl⟩ := w3_mem h
    exact ⟨(rise_mem hx).1, (rise_mem hx).2, hc⟩
/-- what stays but for the pots -/
def RB (rs : List Addr) (H H' : Hp) : Prop := ∀ c u, c ∉ rs → H c = some u → H' c = some u
theorem RB.same {rs : List Addr} {H H1 H2 : Hp} (b : RB rs H H1) (e : Same H1 H2) : RB rs H H2 := fun c u n h => e _ _ (b c u n h)
theorem RB.but {rs : List Addr} {H H1 H2 : Hp} {r : Addr} (b : RB rs H H1) (hr : r ∈ rs) (e : But r H1 H2) : RB rs H H2 := fun c u n h => e _ _ (fun z => n (z ▸ hr)) (b c u n h)
theorem RB.put {rs : List Addr} {H H1 : Hp} {D : Addr} {o : HO} (b : RB rs H H1) (hD : H D = none) : RB rs H (upd H1 D o) := fun c u n h => by
  rw [upd_ne (ne_of_none h hD)]
  exact b c u n h
section
variable {K : PySem.W.Frag} {po pz D : Addr} {uo : List V} {os : List Say} {vl : List (List Int)} {ns : List Int} {s : Say} {H : Hp} {Q : VK}
/-- [so(s, v) for v in values] -/
theorem vos_lc {us : List V} (X : ValsAt H po us vl) (hs : H pz = some (.tup s.tup)) (oin : ∀ v ∈ vl, s.In v.length ∧ ∀ n ∈ v, -1000 < n ∧ n < 1000) (hl : vl.length ≤ 10000) (hD : H D = none)
    (q : ∀ H', Same H H' → H' D = some (.lst ((vl.map fun v => s.so v).map V.bl)) → Q (.ref D) H') : LcW (Itl K po) D (gName 0) tTrue (tCall spSo [] E0 (tCons (tVar 1) (tCons (tVar 0) tNil))) Q [none, some (.ref pz)] (upd H D (.lst [])) := by
  have hlu := X.each.1
  refine lc_list (K := K) (a := po) (xs := us) (fun i ys σ H' => ∃ (c0 : Option V), σ = [c0, some (.ref pz)] ∧ ys = ((vl.take i).map fun v => s.so v).map V.bl ∧ H' D = some (.lst ys) ∧ Same H H')
    ⟨none, rfl, rfl, upd_same, Same.new hD _⟩ (fun i ys σ H' _ hh => by obtain ⟨_, _, _, _, e⟩ := hh; exact SqL.of (e _ _ X.at_)) ?_ ?_
  · rintro i x ys σ H' hi ⟨c0, rfl, rfl, hD', e'⟩
    obtain ⟨v, hv, p, rfl, hp⟩ := X.each.at hi
    have hil := (List.getElem?_eq_some_iff.mp hv).1
    have vo := oin v (List.mem_of_getElem? hv)
    refine lc_yes ⟨_, rfl, _, rfl, pz, p, s, v, rfl, e' _ _ hs, e' _ _ hp, vo.1, vo.2, fun H'' e'' => ?_⟩
    refine ⟨e'' _ _ hD', sz (by rw [List.length_map, List.length_map, List.length_take]; omega), _, rfl, ?_, upd_same, fun c u z => ?_⟩
    · rw [List.take_add_one, hv, List.map_append, List.map_append]
      rfl
    · rw [upd_ne (ne_of_none z hD)]
      exact e'' _ _ (e' _ _ z)
  rintro ys σ H' ⟨c0, rfl, rfl, hD', e'⟩
  rw [hlu, List.take_length] at hD'
  exact q H' e' hD'
end
def spHeld : Sp := fun vs H Q _ => ∃ (pt pb pp : Addr) (ut ub : List V) (rs : List Addr) (ts : List Say) (bs : List Box), vs = [.ref pt, .ref pb, .ref pp] ∧ SaysAt H pt ut ts ∧ ut.length ≤ 6000 ∧ (∀ t ∈ ts, t.In bs.length) ∧ pt ∉ rs ∧ BoxesAt H pb ub bs ∧ pb ∉ rs ∧ (∀ b ∈ bs, b.Ok) ∧ bs.length ≤ 4 ∧ H pp = some (.lst (rs.map V.ref)) ∧ pp ∉ rs ∧ rs.length ≤ 64 ∧ (∀ r ∈ rs, PotAt H r) ∧
  ∀ (p : Addr) (us : List V) (os : List Say) (H' : Hp), H p = none → RB rs H H' → (∀ r ∈ rs, PotAt H' r) → SaysAt H' p us os → (∀ o ∈ os, o ∈ ts) → os.length ≤ 6000 → Q (.ref p) H'
theorem vals_refs {H : Hp} {po : Addr} {us : List V} {vl : List (List Int)} (Y : ValsAt H po us vl) : TupRefs H us := fun z hz => by
  obtain ⟨i, hi, e⟩ := List.getElem_of_mem hz
  obtain ⟨o, _, p, e', hp⟩ := Y.each.at (i := i) (x := z) (by rw [List.getElem?_eq_getElem hi, e])
  refine ⟨p, _, e', hp, ?_⟩
  rw [List.all_map, List.all_eq_true]
  intro k _
  rfl
section
variable {P : Program} {w : World} {K : PySem.W.Frag} {mg : Str → Option Value} {base : Heap}
theorem nxs {σ : St} {H : Hp} {t R : TS} {D : Ends} {rt : VK} {bk ct : St → Hp → Prop} (h : tSeq t R D σ H) : Ends.nx ⟨tSeq t R D, rt, bk, ct⟩ σ H := h
def oscHeld : Scope := { kind := .function, names := [(".0", .local), ("s", .cell), ("all", .globalImplicit), ("shown", .cell)], isGenerator := false, isCoroutine := false, more := [] }
theorem scHeld : FnScope ["told", "boxes", "pots", "shown", "pot", "v"] ["told", "boxes", "pots"] (defScope sHeld) := ⟨rfl, rfl, rfl, by decide +kernel, rfl, by decide +kernel, by decide +kernel⟩
theorem ok_held (h : Has K mg "_law_held" sHeld ["told", "boxes", "pots"]) (B : Blt mg) (cV : Cal P w K mg base 2 "_law_values" ["pot", "boxes"] spValues) (cS : Cal P w K mg base 1 "_law_so" ["s", "v"] spSo) : Cal P w K mg base 3 "_law_held" ["told", "boxes", "pots"] spHeld := by
  refine h.cal scHeld (fun vs H Q E h => ?_) (fun f cdv A outer s H vs Q E hr h => ?_)
  · obtain ⟨pt, pb, pp, ut, ub, rs, ts, bs, rfl, _⟩ := h
    rfl
  obtain ⟨pt, pb, pp, ut, ub, rs, ts, bs, rfl, Y, l6, tin, ntr, X, nbr, ok, l4, hpp, npr, rl, hP, q⟩ := h
  have hr2 : Room 2 _ := hr
  have hr1 : Room 1 _ := hr.mono (by decide)
  have ndS : (["s", "shown"] : List Str).Nodup := by decide +kernel
  have ndV : (["v", "s"] : List Str).Nodup := by decide +kernel
  refine ⟨_, (pss_cons (ps_set (i := 3) scHeld.nd rfl (Or.inr rfl) (pe_lst pa_nil))
    (pss_cons (ps_for PassesOwn.never rfl (pi_list (pv 2)) (pg_name (i := 4) scHeld.nd rfl (Or.inl rfl)) (pss_cons (ps_set (i := 5) scHeld.nd rfl (Or.inl rfl) (pe_cal cV hr2 rfl (pa_cons (pv 4) (pa_cons (pv 1) pa_nil))))
    (pss_one (ps_if (pt_cmpR (op_notInT hr1.units) (pv 5) (pv 3) (by with_unfolding_all rfl)) (pss_one (ps_expr (pe_bm PySem.F.plainAttrs_list PySem.F.slot_list_append PySem.F.type_list_append mt_append (pv 3) (pa_cons (pv 5) pa_nil)))) pss_nil))))
    (pss_one (ps_ret (pe_lcC (defScope sHeld) ["told", "boxes", "pots", "shown", "pot", "v"] (N := ["s", "shown"]) (ix := [none, some 3]) rfl ⟨rfl, by decide +kernel, by decide +kernel, by decide +kernel, rfl, by decide +kernel⟩ (pi_list (pv 0)) (fun _ _ _ _ => pg_name (i := 0) ndS rfl (Or.inr rfl)) (fun _ _ _ _ => (pts_one (pt_val (pe_callB (callAll K rfl) rfl B.all bt_all (pa_cons (pe_lcC oscHeld ["s", "shown"] (N := ["v", "s"]) (ix := [none, some 0]) rfl ⟨rfl, by decide +kernel, by decide +kernel, by decide +kernel, rfl, by decide +kernel⟩ (pil K (pv 1)) (fun _ _ _ _ => pg_name (i := 0) ndV rfl (Or.inl rfl)) (fun _ _ _ _ => pts_nil) (fun _ _ _ _ => (pe_cal cS hr1 rfl (pa_cons (pv 1) (pa_cons (pv 0) pa_nil))))) pa_nil))))) (fun _ _ _ _ => (pv 0))))))), ?_⟩
  refine ⟨(by show 0 ≤ sizeLine; decide), fun D hD => ?_⟩
  have nDr : D ∉ rs := fun z => (hP D z).nn hD rfl
  have nDb : D ≠ pb := (ne_of_none X.at_ hD).symm
  have nDt : D ≠ pt := (ne_of_none Y.at_ hD).symm
  have nDp : pp ≠ D := ne_of_none hpp hD
  have e0 := Same.new hD (.lst [])
  refine ⟨_, rfl, pp, rfl, ⟨_, SqL.of (e0 _ _ hpp)⟩, for_list (K := K) (a := pp) (xs := rs.map V.ref) (fun i σ H' => ∃ (c4 c5 : Option V) (us : List V) (vs : List (List Int)), σ = [some (.ref pt), some (.ref pb), some (.ref pp), some (.ref D), c4, c5] ∧ ValsAt H' D us vs ∧ (∀ v ∈ vs, Within bs v) ∧ vs.length ≤ i ∧ RB rs H H' ∧ (∀ r ∈ rs, PotAt H' r) ∧ BoxesAt H' pb ub bs ∧ SaysAt H' pt ut ts)
    ⟨none, none, [], [], rfl, ⟨upd_same, All2.nil⟩, (fun v hv => nomatch hv), Nat.le_refl _, fun c u _ z => e0 _ _ z, fun r hr => (hP r hr).mono e0, X.same e0, Y.same e0⟩ (fun i σ H' _ hh => by obtain ⟨_, _, _, _, _, _, _, _, b, _⟩ := hh; exact SqL.of (b _ _ npr hpp)) ?_ ?_⟩
  · rintro i x σ H' hi ⟨c4, c5, us, vs, rfl, V1, vw, vl, b1, P1, X1, Y1⟩
    obtain ⟨r, hr', rfl⟩ := List.mem_map.mp (List.mem_of_getElem? hi)
    have hil := (List.getElem?_eq_some_iff.mp hi).1
    rw [List.length_map] at hil
    have nbr' : pb ≠ r := fun z => nbr (z ▸ hr')
    refine ⟨_, rfl, _, rfl, r, pb, ub, bs, rfl, P1 r hr', nbr', X1, ok, l4, fun p ns H2 hp b2 P2 v2 W => ?_⟩
    have V2 : ValsAt H2 D us vs := ⟨b2 _ _ (fun (z : D = r) => nDr (by rw [z]; exact hr')) V1.at_, V1.each.mono fun _ _ ⟨q, e, hq⟩ => ⟨q, e, b2 _ _ ((P1 r hr').ne_tup hq) hq⟩⟩
    have X2 := X1.but (P1 r hr') nbr' b2
    have Y2 := Y1.but (P1 r hr') (fun (z : pt = r) => ntr (by rw [z]; exact hr')) b2
    have PP : ∀ a ∈ rs, PotAt H2 a := fun a ha => by
      by_cases e : a = r
      · rw [e]; exact P2
      · obtain ⟨x, y, h⟩ := P1 a ha
        exact ⟨x, y, b2 _ _ e h⟩
    have b12 := b1.but hr' b2
    have hvl := V2.each.1
    refine ⟨_, rfl, _, rfl, p, D, _, us, rfl, rfl, v2, ?_, V2.at_, vals_refs V2, _, rfl, ?_⟩
    · rw [List.all_map, List.all_eq_true]
      intro k _
      rfl
    refine bl_or (fun _ => ?_) (fun _ => ⟨_, _, us, vs, rfl, V2, vw, by omega, b12, PP, X2, Y2⟩)
    refine ⟨_, rfl, .inl ⟨rfl, _, SqL.of V2.at_⟩, _, rfl, D, _, _, rfl, rfl, V2.at_, sz (by omega), ?_⟩
    refine ⟨_, _, us ++ [.ref p], vs ++ [ns], rfl, ⟨upd_same, (V2.each.mono fun _ _ z => z.put V2.at_).snoc (ValAt.put ⟨p, rfl, v2⟩ V2.at_)⟩, fun v hv => ?_, by rw [List.length_append, List.length_singleton]; omega, b12.put hD, fun a ha => (PP a ha).up (fun z => nDr (z ▸ ha)), ⟨by rw [upd_ne nDb.symm]; exact X2.at_, X2.each.mono fun _ _ z => z.put V2.at_⟩, ⟨by rw [upd_ne nDt.symm]; exact Y2.at_, Y2.each.mono fun _ _ z => z.put V2.at_⟩⟩
    rcases List.mem_append.mp hv with z | z
    · exact vw v z
    · rw [List.mem_singleton.mp z]
      exact W
  rintro σ H1 ⟨c4, c5, us, vs, rfl, V1, vw, vl, b1, P1, X1, Y1⟩
  rw [List.length_map] at vl
  refine ⟨_, rfl, pt, rfl, ⟨_, SqL.of Y1.at_⟩, fun E hE => ?_⟩
  have hlt := Y1.each.1
  have nEr : E ∉ rs := fun z => (P1 E z).nn hE rfl
  have fE : H E = none := by
    cases e : H E with
    | none => rfl
    | some o => rw [b1 E o nEr e] at hE; cases hE
  refine lc_list (K := K) (a := pt) (xs := ut) (fun i ys σ H' => ∃ (c0 : Option V) (os : List Say), σ = [c0, some (.ref D)] ∧ SaysAt H' E ys os ∧ (∀ o ∈ os, o ∈ ts) ∧ os.length ≤ i ∧ Same H1 H')
    ⟨none, [], rfl, ⟨upd_same, All2.nil⟩, (fun o ho => nomatch ho), Nat.le_refl _, Same.new hE _⟩ (fun i ys σ H' _ hh => by obtain ⟨_, _, _, _, _, _, e⟩ := hh; exact SqL.of (e _ _ Y1.at_)) ?_ ?_
  · rintro i x ys σ H' hi ⟨c0, os, rfl, YE, om, ol, e'⟩
    obtain ⟨o, ho, p, rfl, hp⟩ := Y1.each.at hi
    have hil := (List.getElem?_eq_some_iff.mp ho).1
    have oin := tin o (List.mem_of_getElem? ho)
    have V' := V1.same e'
    refine ⟨_, rfl, D, rfl, ⟨_, SqL.of V'.at_⟩, fun G hG => ?_⟩
    refine vos_lc V' (e' _ _ hp) (fun v hv => ⟨by rw [← (vw v hv).1]; exact oin, (vw v hv).sm ok⟩) (by omega) hG fun H2 e2 g2 => ?_
    refine ⟨G, _, rfl, SqL.of g2, ?_⟩
    have YE2 := YE.same e2
    have hlE := YE2.each.1
    refine ⟨_, rfl, bl_or (fun _ => ?_) (fun _ => ⟨_, os, rfl, YE2, om, by omega, e'.trans e2⟩)⟩
    refine ⟨_, rfl, YE2.at_, sz (by omega), _, os ++ [o], rfl, ⟨upd_same, (YE2.each.mono fun _ _ z => z.put YE2.at_).snoc (SayAt.put ⟨p, rfl, e2 _ _ (e' _ _ hp)⟩ YE2.at_)⟩, fun x hx => ?_, by rw [List.length_append, List.length_singleton]; omega, fun c u z => ?_⟩
    · rcases List.mem_append.mp hx with z | z
      · exact om x z
      · rw [List.mem_singleton.mp z]
        exact List.mem_of_getElem? ho
    · rw [upd_ne (ne_of_none z hE)]
      exact e2 _ _ (e' _ _ z)
  rintro ys σ H2 ⟨c0, os, rfl, YE, om, ol, e2⟩
  exact q E ys os H2 fE (b1.same e2) (fun r hr => (P1 r hr).mono e2) YE om (by omega)
def spWithin : Sp := fun vs H Q _ => ∃ (pl po : Addr) (ul uo : List V) (ls os : List Say), vs = [.ref pl, .ref po] ∧ SaysAt H pl ul ls ∧ SaysAt H po uo os ∧ ls.Sublist os ∧ ∀ H', Same H H' → Q (.bl true) H'
theorem scWithin : FnScope ["left", "some", "at", "s"] ["left", "some"] (defScope sWithin) := ⟨rfl, rfl, rfl, by decide +kernel, rfl, by decide +kernel, by decide +kernel⟩
theorem sub_same {l : Say} {ls os : List Say} (h : (l :: ls).Sublist (l :: os)) : ls.Sublist os := by
  cases h with
  | cons _ h => exact (List.sublist_cons_self l ls).trans h
  | cons_cons _ h => exact h
theorem sub_other {l s : Say} {ls os : List Say} (h : (l :: ls).Sublist (s :: os)) (hn : l ≠ s) : (l :: ls).Sublist os := by
  cases h with
  | cons _ h => exact h
  | cons_cons _ h => exact absurd rfl hn
theorem ok_within (h : Has K mg "_law_within" sWithin ["left", "some"]) (B : Blt mg) (cA : Cal P w K mg base 1 "_law_alike" ["told", "due"] spAlike) : Cal P w K mg base 2 "_law_within" ["left", "some"] spWithin := by
  refine h.cal scWithin (fun vs H Q E h => ?_) (fun f cdv A outer s H vs Q E hr h => ?_)
  · obtain ⟨pl, po, ul, uo, ls, os, rfl, _⟩ := h
    rfl
  obtain ⟨pl, po, ul, uo, ls, os, rfl, L, Y, hsub, q⟩ := h
  refine ⟨_, (pss_cons (ps_set (i := 2) scWithin.nd rfl (Or.inl rfl) pe_int)
    (pss_cons (ps_for PassesOwn.never rfl (pi_list (pv 1)) (pg_name (i := 3) scWithin.nd rfl (Or.inl rfl)) (pss_one (ps_if (PW.pt (pw_and (pt_cmpR op_lt (pv 2) (pe_callB call_len_seq rfl B.len bt_len (pa_cons (pv 0) pa_nil)) (nomark _)) (pw_and1 (pt_val (pe_cal cA hr rfl (pa_cons (pe_ix ix_list (pv 0) (pv 2) (fun _ _ => rfl)) (pa_cons (pv 3) pa_nil))))))) (pss_one (ps_set (i := 2) scWithin.nd rfl (Or.inl rfl) (pe_op op_add (pv 2) pe_int))) pss_nil)))
    (pss_one (ps_ret (pe_cmpR op_eq (pv 2) (pe_callB call_len_seq rfl B.len bt_len (pa_cons (pv 0) pa_nil)) (nomark _)))))), ?_⟩
  have hll := L.each.1
  have hlo := Y.each.1
  refine ⟨_, rfl, po, rfl, ⟨_, SqL.of Y.at_⟩, for_list (K := K) (a := po) (xs := uo) (fun i σ H' => ∃ (c3 : Option V) (at' : Nat), σ = [some (.ref pl), some (.ref po), some (.int (at' : Nat)), c3] ∧ at' ≤ ls.length ∧ (ls.drop at').Sublist (os.drop i) ∧ Same H H')
    ⟨none, 0, rfl, Nat.zero_le _, by rw [List.drop_zero, List.drop_zero]; exact hsub, Same.refl _⟩ (fun i σ H' _ hh => by obtain ⟨_, _, _, _, _, e⟩ := hh; exact SqL.of (e _ _ Y.at_)) ?_ ?_⟩
  · rintro i x σ H' hi ⟨c3, at', rfl, hat, hsb, e⟩
    obtain ⟨o, ho, p, rfl, hp⟩ := Y.each.at hi
    have hil := (List.getElem?_eq_some_iff.mp ho).1
    have eo : os.drop i = o :: os.drop (i + 1) := by
      rw [List.drop_eq_getElem_cons hil]
      have := List.getElem?_eq_getElem hil
      rw [ho] at this
      rw [← Option.some.inj this]
    rw [eo] at hsb
    refine ⟨_, rfl, _, rfl, pl, _, rfl, .inl (SqL.of (e _ _ L.at_)), _, _, rfl, rfl, _, rfl, ?_⟩
    refine ite_d (fun c => ?_) (fun c => ?_)
    · have hlt : at' < ls.length := by
        have : ((at' : Nat) : Int) < ((ul.length : Nat) : Int) := c
        omega
      have hlu : at' < ul.length := by omega
      obtain ⟨l, hl, p2, e2, hp2⟩ := L.each.at (List.getElem?_eq_getElem hlu)
      have hau : ul[at']? = some (.ref p2) := by rw [List.getElem?_eq_getElem hlu, e2]
      have el : ls.drop at' = l :: ls.drop (at' + 1) := by
        rw [List.drop_eq_getElem_cons hlt]
        have := List.getElem?_eq_getElem hlt
        rw [hl] at this
        rw [← Option.some.inj this]
      rw [el] at hsb
      refine ⟨_, rfl, _, rfl, pl, _, _, _, rfl, rfl, SqL.of (e _ _ L.at_), atI_nat hau, _, rfl, ?_⟩
      refine ⟨p2, p, l, o, rfl, e _ _ hp2, e _ _ hp, fun H2 e2' => ?_⟩
      refine ⟨_, rfl, ite_d (fun d => ?_) (fun d => ?_)⟩
      · subst d
        refine ⟨_, rfl, _, _, rfl, rfl, some (.ref p), at' + 1, rfl, hlt, sub_same hsb, e.trans e2'⟩
      · exact ⟨_, at', rfl, hat, by rw [el]; exact sub_other hsb d, e.trans e2'⟩
    · have hge : ls.length ≤ at' := by
        have : ¬ ((at' : Nat) : Int) < ((ul.length : Nat) : Int) := c
        omega
      refine ⟨_, at', rfl, hat, ?_, e⟩
      rw [List.drop_of_length_le hge]
      exact List.nil_sublist _
  · rintro σ H' ⟨c3, at', rfl, hat, hsb, e⟩
    rw [hlo, List.drop_length] at hsb
    have h0 := List.sublist_nil.mp hsb
    have hge : ls.length ≤ at' := by
      have := congrArg List.length h0
      rw [List.length_drop, List.length_nil] at this
      omega
    refine ⟨_, rfl, _, rfl, pl, _, rfl, .inl (SqL.of (e _ _ L.at_)), rfl, ?_⟩
    refine bl_eq (q H' e) (decide_eq_true ?_)
    rw [hll, show at' = ls.length by omega]
end

/-! ### enough, by trying; a good reason; a case; alone -/
theorem cutL_to {xs : List V} {k : Nat} (h : k ≤ xs.length) : cutV xs none (some ((k : Nat) : Int)) = xs.take k := by
  unfold cutV
  have h1 : HT.sIx xs.length 0 (none : Option Int) = 0 := rfl
  have h2 : HT.sIx xs.length xs.length (some ((k : Nat) : Int)) = k := by
    show (if ((k : Nat) : Int) < 0 then (((k : Nat) : Int) + (xs.length : Int)).toNat else Nat.min ((k : Nat) : Int).toNat xs.length) = k
    rw [if_neg (by omega), Int.toNat_natCast]
    exact Nat.min_eq_left h
  rw [h1, h2, List.drop_zero]
  rfl
theorem cutL_off {xs : List V} {k : Nat} (h : k < xs.length) : cutV xs (some ((k : Nat) + 1 : Int)) none = xs.drop (k + 1) := by
  unfold cutV
  have h1 : HT.sIx xs.length 0 (some ((k : Nat) + 1 : Int)) = k + 1 := by
    show (if ((k : Nat) + 1 : Int) < 0 then (((k : Nat) + 1 : Int) + (xs.length : Int)).toNat else Nat.min ((k : Nat) + 1 : Int).toNat xs.length) = k + 1
    rw [if_neg (by omega), show ((k : Nat) + 1 : Int).toNat = k + 1 by omega]
    exact Nat.min_eq_left (by omega)
  have h2 : HT.sIx xs.length xs.length (none : Option Int) = xs.length := rfl
  rw [h1, h2]
  exact List.take_of_length_le (by rw [List.length_drop]; omega)
theorem All2.take {α β : Type} {R : α → β → Prop} {xs : List α} {ys : List β} (k : Nat) (h : All2 R xs ys) : All2 R (xs.take k) (ys.take k) := by
  refine ⟨by rw [List.length_take, List.length_take, h.1], fun i x y e1 e2 => ?_⟩
  rw [List.getElem?_take] at e1 e2
  split at e1
  · rename_i hk
    rw [if_pos hk] at e2
    exact h.2 i x y e1 e2
  · cases e1
theorem All2.drop {α β : Type} {R : α → β → Prop} {xs : List α} {ys : List β} (k : Nat) (h : All2 R xs ys) : All2 R (xs.drop k) (ys.drop k) := by
  refine ⟨by rw [List.length_drop, List.length_drop, h.1], fun i x y e1 e2 => ?_⟩
  rw [List.getElem?_drop] at e1 e2
  exact h.2 _ x y e1 e2
theorem says_part {H : Hp} {uo : List V} {os : List Say} {ch : List Nat} {p : Addr} (Y : All2 (SayAt H) uo os) (hlt : ∀ i ∈ ch, i < os.length) (hp : H p = some (.lst (ch.map fun i => uo.getD i .non))) : SaysAt H p (ch.map fun i => uo.getD i .non) (ch.map fun i => os.getD i (.same 0 0)) := by
  refine ⟨hp, by rw [List.length_map, List.length_map], fun k u o e1 e2 => ?_⟩
  rw [List.getElem?_map] at e1 e2
  obtain ⟨i, hi, rfl⟩ := Option.map_eq_some_iff.mp e1
  rw [hi] at e2
  have e2' : os.getD i (.same 0 0) = o := Option.some.inj e2
  have hil := hlt i (List.mem_of_getElem? hi)
  have hiu : i < uo.length := by rw [Y.1]; exact hil
  refine Y.2 i _ _ ?_ ?_
  · rw [List.getD_eq_getElem?_getD, List.getElem?_eq_getElem hiu]
    rfl
  · rw [← e2', List.getD_eq_getElem?_getD, List.getElem?_eq_getElem hil]
    rfl
def ValsIn (many : Nat) (vl : List (List Int)) : Prop := ∀ v ∈ vl, v.length = many ∧ ∀ n ∈ v, -1000 < n ∧ n < 1000
def spEn (m : Nat) : Sp := fun vs H Q _ => ∃ (p : Addr) (w : Nat) (rows : List Nat), vs = [.int (w : Nat), .ref p, .int (m : Nat)] ∧ H p = some (.lst (nums rows)) ∧ rows.length ≤ 10000 ∧ ∀ H', Same H H' → Q (.bl (en m rows w)) H'
def spEns (n : Nat) : Sp := fun vs H Q E => ∃ m, m ≤ n ∧ spEn m vs H Q E
section
variable {P : Program} {w : World} {K : PySem.W.Frag} {mg : Str → Option Value} {base : Heap}
theorem scEn : FnScope ["wrong", "rows", "many", "k"] ["wrong", "rows", "many"] (defScope sEnough) := ⟨rfl, rfl, rfl, by decide +kernel, rfl, by decide +kernel, by decide +kernel⟩
theorem ok_en1 (h : Has K mg "_law_enough" sEnough ["wrong", "rows", "many"]) (B : Blt mg) (n k : Nat) (spR : Sp) (hR : ∀ c, c + 1 ≤ n → ∀ vs H Q E, spEn c vs H Q E → spR vs H Q E) (cR : Cal P w K mg base k "_law_enough" ["wrong", "rows", "many"] spR) : Cal P w K mg base (k + 1) "_law_enough" ["wrong", "rows", "many"] (spEns n) := by
  refine h.cal scEn (fun vs H Q E h => ?_) (fun f cdv A outer s H vs Q E hr h => ?_)
  · obtain ⟨m, _, p, w', rows, rfl, _⟩ := h
    rfl
  obtain ⟨m, mn, p, w', rows, rfl, hp, rl, q⟩ := h
  refine ⟨_, (pss_cons (ps_if (PW.pt (pw_or (pt_cmpR op_eq (pv 0) pe_int (nomark _)) (pw_or1 (pt_cmpR op_eq (pv 2) pe_int (nomark _))))) (pss_one (ps_ret (pe_cmpR op_eq (pv 0) pe_int (nomark _)))) pss_nil)
    (pss_cons (ps_for PassesOwn.never rfl (pi_range1 rfl B.range (pa_cons (pe_callB call_len_seq rfl B.len bt_len (pa_cons (pv 1) pa_nil)) pa_nil)) (pg_name (i := 3) scEn.nd rfl (Or.inl rfl)) (pss_one (ps_if (pt_val (pe_cal cR hr rfl (pa_cons (pe_op op_and (pv 0) (pe_ix ix_list (pv 1) (pv 3) (fun _ _ => rfl))) (pa_cons (pe_slice sl_list (pv 1) (po_some (pe_op op_add (pv 3) pe_int)) po_none) (pa_cons (pe_op op_sub (pv 2) pe_int) pa_nil))))) (pss_one (ps_ret pe_bl)) pss_nil)))
    (pss_one (ps_ret pe_bl)))), ?_⟩
  have zero : w' = 0 → en m rows w' = true := fun z => (en_iff m rows w').mpr ⟨[], List.nil_sublist _, Nat.zero_le _, z⟩
  refine ⟨_, rfl, rfl, _, rfl, ?_⟩
  refine ite_d (fun c => ?_) (fun c => ?_)
  · have hw : w' = 0 := by
      have := V.int.inj c
      omega
    refine ⟨_, rfl, rfl, ?_⟩
    exact bl_eq (q H (Same.refl _)) (by rw [zero hw, decide_eq_true c])
  have hw : w' ≠ 0 := fun z => c (by rw [z]; rfl)
  refine ⟨_, rfl, rfl, _, rfl, ?_⟩
  cases m with
  | zero =>
    refine iteB (decide_eq_true rfl) ?_
    refine ⟨_, rfl, rfl, ?_⟩
    refine bl_eq (q H (Same.refl _)) ?_
    rw [decide_eq_false c]
    show false = (w' == 0)
    rw [eq_comm, beq_eq_false_iff_ne]
    exact hw
  | succ m =>
    refine iteC (decide_eq_false (fun z => by have := V.int.inj z; omega)) ?_
    have nl : (nums rows).length = rows.length := List.length_map ..
    refine ⟨_, rfl, p, _, rfl, .inl (SqL.of hp), _, rfl, by omega, by omega, ?_⟩
    refine for_range (lo := 0) (n := (((nums rows).length : Nat) : Int).toNat) (fun i σ H' => (∃ c3 : Option V, σ = [some (.int (w' : Nat)), some (.ref p), some (.int ((m + 1 : Nat) : Int)), c3]) ∧ Same H H' ∧ ∀ k, k < i → en m (rows.drop (k + 1)) (w' &&& rows.getD k 0) = false)
      ⟨⟨none, rfl⟩, Same.refl _, fun k hk => absurd hk (Nat.not_lt_zero _)⟩ ?_ ?_
    · rintro i σ H' hi ⟨⟨c3, rfl⟩, e', hno⟩
      have hk : i < rows.length := by omega
      have hb := List.getElem?_eq_getElem hk
      rw [show (0 : Int) + ((i : Nat) : Int) = ((i : Nat) : Int) from Int.zero_add _]
      have hp' := e' _ _ hp
      refine ⟨_, rfl, _, rfl, _, rfl, p, _, _, _, rfl, rfl, SqL.of hp', nums_ix hb, _, _, rfl, rfl, ?_⟩
      dsimp only
      rw [and_nat]
      refine ⟨_, rfl, _, rfl, _, _, rfl, rfl, _, rfl, p, _, rfl, SqL.of hp', fun p1 hp1 => ?_⟩
      rw [cutL_off (by rw [nl]; exact hk)]
      have e1 := Same.new hp1 (.lst ((nums rows).drop (i + 1)))
      have h1 : upd H' p1 (.lst ((nums rows).drop (i + 1))) p1 = some (.lst (nums (rows.drop (i + 1)))) := by
        rw [upd_same]
        unfold nums
        rw [List.map_drop]
      generalize upd H' p1 (.lst ((nums rows).drop (i + 1))) = H1 at *
      refine ⟨_, rfl, _, _, rfl, rfl, ?_⟩
      have e2 : ((m + 1 : Nat) : Int) - 1 = ((m : Nat) : Int) := by omega
      dsimp only
      rw [e2]
      refine hR m mn _ _ _ _ ⟨p1, w' &&& rows[i], rows.drop (i + 1), rfl, h1, by rw [List.length_drop]; omega, fun H2 s2 => ?_⟩
      have hg := getD_of hb
      refine ⟨_, rfl, bl_or (fun cc => ?_) (fun cc => ?_)⟩
      · refine bl_eq (q H2 ((e'.trans e1).trans s2)) ?_
        show true = (w' == 0 || (List.range rows.length).any fun k => en m (rows.drop (k + 1)) (w' &&& rows.getD k 0))
        symm
        rw [Bool.or_eq_true]
        refine .inr (List.any_eq_true.mpr ⟨i, List.mem_range.mpr hk, ?_⟩)
        rw [hg]
        exact cc
      · refine ⟨⟨_, rfl⟩, (e'.trans e1).trans s2, fun k hk' => ?_⟩
        rcases Nat.lt_or_ge k i with z | z
        · exact hno k z
        · obtain rfl : k = i := by omega
          rw [hg]
          exact cc
    · rintro σ H' ⟨⟨c3, rfl⟩, e', hno⟩
      refine bl_eq (q H' e') ?_
      symm
      show (w' == 0 || (List.range rows.length).any fun k => en m (rows.drop (k + 1)) (w' &&& rows.getD k 0)) = false
      rw [Bool.or_eq_false_iff, beq_eq_false_iff_ne]
      refine ⟨hw, ?_⟩
      rw [← Bool.not_eq_true, List.any_eq_true]
      rintro ⟨k, hk, z⟩
      rw [hno k (by have := List.mem_range.mp hk; omega)] at z
      cases z
theorem all_en (h : Has K mg "_law_enough" sEnough ["wrong", "rows", "many"]) (B : Blt mg) : ∀ n : Nat, Cal P w K mg base (n + 1) "_law_enough" ["wrong", "rows", "many"] (spEns n)
  | 0 => ok_en1 h B 0 0 (fun _ _ _ _ => False) (fun c e => absurd e (Nat.not_succ_le_zero _)) (h.none fun _ _ _ _ z => z)
  | n + 1 => ok_en1 h B (n + 1) (n + 1) (spEns n) (fun c e vs H Q E z => ⟨c, Nat.le_of_succ_le_succ e, z⟩) (all_en h B n)
/-- what stands for the program, the list, the values -/
structure Cs (g1 g4 g5 pl pz : Addr) (ub ul uz : List V) (bs : List Box) (ls : List Say) (H : Hp) : Prop where
  G : H g5 = some (.tup [.ref g1, .ref g4])
  B : BoxesAt H g1 ub bs
  L : SaysAt H pl ul ls
  vv : ValsAt H pz uz (allv bs)
theorem Cs.same {g1 g4 g5 pl pz : Addr} {ub ul uz : List V} {bs : List Box} {ls : List Say} {H H' : Hp} (C : Cs g1 g4 g5 pl pz ub ul uz bs ls H) (e : Same H H') : Cs g1 g4 g5 pl pz ub ul uz bs ls H' := ⟨e _ _ C.G, C.B.same e, C.L.same e, C.vv.same e⟩
structure CsOk (bs : List Box) (ls : List Say) : Prop where
  ok : ∀ b ∈ bs, b.Ok
  l4 : bs.length ≤ 4
  vol : vol bs ≤ 400
  lin : ∀ o ∈ ls, o.In bs.length
  ll : ls.length ≤ 6000
  al : Alone (allv bs) ls
theorem CsOk.vok {bs : List Box} {ls : List Say} (C : CsOk bs ls) : ValsIn bs.length (allv bs) := fun v hm => by
  have W' := allv_mem C.ok hm
  exact ⟨W'.1.symm, W'.sm C.ok⟩
def spAlone : Sp := fun vs H Q _ => ∃ (g1 g4 g5 pl pz : Addr) (ub ul uz : List V) (bs : List Box) (ls : List Say) (a : Nat), vs = [.ref g5, .int (a : Nat), .ref pl] ∧ Cs g1 g4 g5 pl pz ub ul uz bs ls H ∧ CsOk bs ls ∧ a < ls.length ∧ ∀ H', Same H H' → Q (.bl true) H'
theorem scAlone : FnScope ["program", "at", "left", "others"] ["program", "at", "left"] (defScope sAlone) := ⟨rfl, rfl, rfl, by decide +kernel, rfl, by decide +kernel, by decide +kernel⟩
theorem ok_alone (h : Has K mg "_law_alone" sAlone ["program", "at", "left"]) (B : Blt mg) (cF : Cal P w K mg base 4 "follows" ["program", "saying", "others"] spFollows) (cR : Cal P w K mg base 5 "reason" ["program", "saying", "others"] spReason) : Cal P w K mg base 6 "_law_alone" ["program", "at", "left"] spAlone := by
  refine h.cal scAlone (fun vs H Q E h => ?_) (fun f cdv A outer s H vs Q E hr h => ?_)
  · obtain ⟨g1, g4, g5, pl, pz, ub, ul, uz, bs, ls, a, rfl, _⟩ := h
    rfl
  obtain ⟨g1, g4, g5, pl, pz, ub, ul, uz, bs, ls, a, rfl, C, O, ha, q⟩ := h
  have hr5 : Room 5 _ := hr
  have hr4 : Room 4 _ := hr.mono (by decide)
  refine ⟨_, (pss_cons (ps_set (i := 3) scAlone.nd rfl (Or.inl rfl) (pe_op op_cat (pe_slice sl_list (pv 2) po_none (po_some (pv 1))) (pe_slice sl_list (pv 2) (po_some (pe_op op_add (pv 1) pe_int)) po_none)))
    (pss_cons (ps_if (pt_cmpR op_isnotB (pe_cal cF hr4 rfl (pa_cons (pv 0) (pa_cons (pe_ix ix_list (pv 2) (pv 1) (fun _ _ => rfl)) (pa_cons (pe_callTy call_list_of rfl B.list bt_list (pa_cons (pv 3) pa_nil)) pa_nil)))) pe_bl (nomark _)) (pss_one (ps_ret pe_bl)) pss_nil)
    (pss_one (ps_ret (pe_cmp (pc_isN (pe_cal cR hr5 rfl (pa_cons (pv 0) (pa_cons (pe_ix ix_list (pv 2) (pv 1) (fun _ _ => rfl)) (pa_cons (pe_callTy call_list_of rfl B.list bt_list (pa_cons (pv 3) pa_nil)) pa_nil)))))))))), ?_⟩
  have hll := C.L.each.1
  have hau : a < ul.length := by omega
  have oll := O.ll
  refine ⟨_, rfl, _, rfl, _, rfl, pl, _, rfl, SqL.of C.L.at_, fun p1 hp1 => ?_⟩
  rw [cutL_to (Nat.le_of_lt hau)]
  have e1 := Same.new hp1 (.lst (ul.take a))
  refine ⟨_, rfl, _, rfl, _, _, rfl, rfl, _, rfl, pl, _, rfl, SqL.of (e1 _ _ C.L.at_), fun p2 hp2 => ?_⟩
  rw [cutL_off hau]
  have e2 := Same.new hp2 (.lst (ul.drop (a + 1)))
  have t1 := e2 _ _ (upd_same (H := H) (a := p1) (o := .lst (ul.take a)))
  refine ⟨p1, p2, _, _, rfl, rfl, t1, upd_same, sz' (by rw [List.length_take, List.length_drop]; omega), fun p3 hp3 => ?_⟩
  have e3 := Same.new hp3 (.lst (ul.take a ++ ul.drop (a + 1)))
  have e13 := (e1.trans e2).trans e3
  have O3 : SaysAt (upd (upd (upd H p1 (.lst (ul.take a))) p2 (.lst (ul.drop (a + 1)))) p3 (.lst (ul.take a ++ ul.drop (a + 1)))) p3 (ul.take a ++ ul.drop (a + 1)) (ls.take a ++ ls.drop (a + 1)) :=
    ⟨upd_same, all2_app (All2.take a ((C.L.same e13).each)) (All2.drop (a + 1) ((C.L.same e13).each))⟩
  have C3 := C.same e13
  generalize (upd (upd (upd H p1 (.lst (ul.take a))) p2 (.lst (ul.drop (a + 1)))) p3 (.lst (ul.take a ++ ul.drop (a + 1)))) = H3 at *
  obtain ⟨qs, hqs⟩ : ∃ qs, qs = ls.take a ++ ls.drop (a + 1) := ⟨_, rfl⟩
  obtain ⟨uq, huq⟩ : ∃ uq, uq = ul.take a ++ ul.drop (a + 1) := ⟨_, rfl⟩
  rw [← hqs, ← huq] at O3
  have qj : ∀ o ∈ qs, ∃ j, j ≠ a ∧ ls[j]? = some o := fun o ho => by
    rw [hqs] at ho
    rcases List.mem_append.mp ho with z | z
    · obtain ⟨j, hj, e⟩ := List.mem_take_iff_getElem.mp z
      exact ⟨j, by omega, by rw [List.getElem?_eq_getElem (by omega), e]⟩
    · obtain ⟨j, hj, e⟩ := List.mem_drop_iff_getElem.mp z
      exact ⟨a + 1 + j, by omega, by rw [List.getElem?_eq_getElem (by omega), e]⟩
  have qin : ∀ o ∈ qs, o.In bs.length := fun o ho => by
    obtain ⟨j, _, hj⟩ := qj o ho
    exact O.lin o (List.mem_of_getElem? hj)
  have ql : qs.length ≤ 10000 := by
    rw [hqs, List.length_append, List.length_take, List.length_drop]
    omega
  obtain ⟨o, ho, p, ep, hp⟩ := C3.L.each.at (List.getElem?_eq_getElem hau)
  have hau' : ul[a]? = some (.ref p) := by rw [List.getElem?_eq_getElem hau, ep]
  have oin := O.lin o (List.mem_of_getElem? ho)
  -- it doesn't follow
  refine ⟨_, rfl, _, rfl, _, rfl, pl, _, _, _, rfl, rfl, SqL.of C3.L.at_, atI_nat hau', ?_⟩
  refine ⟨_, rfl, p3, uq, rfl, .inl (SqL.of O3.at_), fun g6 hg6 => ?_⟩
  have e6 := Same.new hg6 (.lst uq)
  have h6 : upd H3 g6 (.lst uq) g6 = some (.lst uq) := upd_same
  have C6 := C3.same e6
  have O6 := O3.same e6
  generalize upd H3 g6 (.lst uq) = H6 at *
  refine ⟨g5, g1, p, g6, .ref g4, ub, uq, bs, o, qs, rfl, C6.G, C6.B, O.ok, O.l4, O.vol, e6 _ _ hp, oin, ⟨h6, O6.each⟩, qin, fun H7 e7 => ?_⟩
  rw [alone_fol O.al ho qj]
  refine ⟨_, _, rfl, rfl, _, rfl, iteF ?_⟩
  have C7 := C6.same e7
  have O7 := O6.same e7
  have hp7 := e7 _ _ (e6 _ _ hp)
  -- nor is there a reason
  refine ⟨_, rfl, _, rfl, _, rfl, pl, _, _, _, rfl, rfl, SqL.of C7.L.at_, atI_nat hau', ?_⟩
  refine ⟨_, rfl, p3, uq, rfl, .inl (SqL.of O7.at_), fun g8 hg8 => ?_⟩
  have e8 := Same.new hg8 (.lst uq)
  have h8 : upd H7 g8 (.lst uq) g8 = some (.lst uq) := upd_same
  have C8 := C7.same e8
  have O8 := O7.same e8
  generalize upd H7 g8 (.lst uq) = H8 at *
  have hn := alone_rsn O.al ho qj
  refine ⟨g5, g1, p, g8, .ref g4, ub, uq, bs, o, qs, rfl, C8.G, C8.B, O.ok, O.l4, O.vol, e8 _ _ hp7, oin, ⟨h8, O8.each⟩, qin, by omega, fun _ H9 e9 => ?_, fun m hm => ?_⟩
  · refine bl_eq (q H9 ((((e13.trans e6).trans e7).trans e8).trans e9)) (decide_eq_true rfl)
  · rw [hn] at hm
    cases hm
end

/-! ### a good reason; a case -/
def spGR : Sp := fun vs H Q _ => ∃ (y : V) (ps pl pz : Addr) (s : Say) (ul uz : List V) (bs : List Box) (ls : List Say), vs = [y, .ref ps, .ref pl, .ref pz] ∧ H ps = some (.tup s.tup) ∧ s.In bs.length ∧ SaysAt H pl ul ls ∧ ValsAt H pz uz (allv bs) ∧ (∀ o ∈ ls, o.In bs.length) ∧ ValsIn bs.length (allv bs) ∧ ls.length ≤ 6000 ∧
  ((y = .non ∧ en 3 (ls.map (rowOf (allv bs))) (wrongOf (allv bs) s) = false) ∨ ∃ (pw : Addr) (uw : List V) (ws : List Say), y = .ref pw ∧ SaysAt H pw uw ws ∧ ws.length ≤ 3 ∧ ws.Sublist ls ∧ (∀ c, c < ws.length → en c (ls.map (rowOf (allv bs))) (wrongOf (allv bs) s) = false) ∧ ands (wrongOf (allv bs) s) (ws.map (rowOf (allv bs))) = 0) ∧ ∀ H', Same H H' → Q (.bl true) H'
theorem ands_snoc (w b : Nat) (m : List Nat) : ands w (m ++ [b]) = ands w m &&& b := by
  unfold ands
  rw [List.foldl_append]
  rfl
def spCase : Sp := fun vs H Q _ => ∃ (g1 g4 g5 ps pl pz : Addr) (ub ul uz : List V) (bs : List Box) (os : List Say) (s : Say), vs = [.ref g5, .ref ps, .ref pl, .ref pz] ∧ H ps = some (.tup s.tup) ∧ s.In bs.length ∧ s ∈ os ∧ Cs g1 g4 g5 pl pz ub ul uz bs (lsOf (allv bs) os) H ∧ CsOk bs (lsOf (allv bs) os) ∧ ∀ H', Same H H' → Q (.bl true) H'
theorem says_refs {H : Hp} {po : Addr} {uo : List V} {os : List Say} (Y : SaysAt H po uo os) : TupRefs H uo := fun z hz => by
  obtain ⟨i, hi, e⟩ := List.getElem_of_mem hz
  obtain ⟨o, _, p, e', hp⟩ := Y.each.at (i := i) (x := z) (by rw [List.getElem?_eq_getElem hi, e])
  exact ⟨p, _, e', hp, flat_say o⟩
theorem any_says {H : Hp} (s : Say) : ∀ {uo : List V} {os : List Say}, All2 (SayAt H) uo os → uo.any (eqR H s.tup) = decide (s ∈ os)
  | [], [], _ => rfl
  | [], _ :: _, h => nomatch h.1
  | _ :: _, [], h => nomatch h.1
  | u :: uo, o :: os, h => by
    obtain ⟨p, rfl, hp⟩ := h.2 0 u o rfl rfl
    have t : All2 (SayAt H) uo os := ⟨Nat.succ.inj h.1, fun i x y e1 e2 => h.2 (i + 1) x y e1 e2⟩
    rw [List.any_cons, any_says s t, show eqR H s.tup (.ref p) = eqL o.tup s.tup from by unfold eqR; simp only [hp], eqL_say, Bool.eq_iff_iff, Bool.or_eq_true, decide_eq_true_iff, decide_eq_true_iff, decide_eq_true_iff, List.mem_cons]
    exact ⟨fun z => z.elim (fun y => .inl y.symm) .inr, fun z => z.elim (fun y => .inl y.symm) .inr⟩
section
variable {P : Program} {w : World} {K : PySem.W.Frag} {mg : Str → Option Value} {base : Heap}
theorem scGR : FnScope ["why", "s", "left", "values", "wrong", "v", "rows", "one"] ["why", "s", "left", "values"] (defScope sGoodReason) := ⟨rfl, rfl, rfl, by decide +kernel, rfl, by decide +kernel, by decide +kernel⟩
theorem ok_gr (h : Has K mg "_law_good_reason" sGoodReason ["why", "s", "left", "values"]) (B : Blt mg) (cS : Cal P w K mg base 1 "_law_so" ["s", "v"] spSo) (cT : Cal P w K mg base 2 "_law_bits" ["s", "values"] spBits) (cE : Cal P w K mg base 4 "_law_enough" ["wrong", "rows", "many"] (spEns 3)) (cW : Cal P w K mg base 2 "_law_within" ["left", "some"] spWithin) : Cal P w K mg base 5 "_law_good_reason" ["why", "s", "left", "values"] spGR := by
  refine h.cal scGR (fun vs H Q E h => ?_) (fun f cdv A outer s H vs Q E hr h => ?_)
  · obtain ⟨y, ps, pl, pz, s, ul, uz, bs, ls, rfl, _⟩ := h
    rfl
  obtain ⟨y, ps, pl, pz, s, ul, uz, bs, ls, rfl, hs, sin, L, X, lin, vok, ll, hy, q⟩ := h
  have hr4 : Room 4 _ := hr
  have hr2 : Room 2 _ := hr.mono (by decide)
  have hr1 : Room 1 _ := hr.mono (by decide)
  have hu0 := Nat.lt_of_le_of_lt (Nat.le_add_right _ 64) hr1.units
  refine ⟨_, (pss_cons (ps_set (i := 4) scGR.nd rfl (Or.inl rfl) pe_int)
    (pss_cons (ps_for PassesOwn.never rfl (pi_list (pv 3)) (pg_name (i := 5) scGR.nd rfl (Or.inl rfl)) (pss_one (ps_set (i := 4) scGR.nd rfl (Or.inl rfl) (pe_op op_add (pe_op op_mul pe_int (pv 4)) (pe_callTy call_int1 rfl B.int bt_int (pa_cons (pe_not (pe_cal cS hr1 rfl (pa_cons (pv 1) (pa_cons (pv 5) pa_nil)))) pa_nil))))))
    (pss_cons (ps_lcC (i := 6) (defScope sGoodReason) ["why", "s", "left", "values", "wrong", "v", "rows", "one"] (N := ["one", "values"]) (ix := [none, some 3]) rfl scGR.nd rfl (Or.inl rfl) ⟨rfl, by decide +kernel, by decide +kernel, by decide +kernel, rfl, by decide +kernel⟩ (pi_list (pv 2)) (fun _ _ _ _ => pg_name (i := 0) (show (["one", "values"] : List Str).Nodup by decide +kernel) rfl (Or.inl rfl)) (fun _ _ _ _ => pts_nil) (fun _ _ _ _ => (pe_cal cT hr2 rfl (pa_cons (pv 0) (pa_cons (pv 1) pa_nil)))))
    (pss_cons (ps_if (pt_cmp (pc_isN (pv 0))) (pss_one (ps_ret (pe_not (pe_cal cE hr4 rfl (pa_cons (pv 4) (pa_cons (pv 6) (pa_cons pe_int pa_nil))))))) pss_nil)
    (pss_cons (ps_if (PW.pt (pw_or (pt_not (pt_val (pe_callB call_isinst rfl B.isinstance bt_isinstance (pa_cons (pv 0) (pa_cons (pe_bltn (v := .ty "list") rfl B.list bt_list rfl) pa_nil))))) (pw_or (pt_cmpR op_gt (pe_callB call_len_seq rfl B.len bt_len (pa_cons (pv 0) pa_nil)) pe_int (nomark _)) (pw_or1 (pt_not (pt_val (pe_cal cW hr2 rfl (pa_cons (pv 0) (pa_cons (pv 2) pa_nil))))))))) (pss_one (ps_ret pe_bl)) pss_nil)
    (pss_cons (ps_if (PW.pt (pw_and (pt_cmpR (op_neN hu0) (pv 0) (pe_lst pa_nil) (nomark _)) (pw_and1 (pt_val (pe_cal cE hr4 rfl (pa_cons (pv 4) (pa_cons (pv 6) (pa_cons (pe_op op_sub (pe_callB call_len_seq rfl B.len bt_len (pa_cons (pv 0) pa_nil)) pe_int) pa_nil)))))))) (pss_one (ps_ret pe_bl)) pss_nil)
    (pss_cons (ps_for PassesOwn.never rfl (pi_list (pv 0)) (pg_name (i := 7) scGR.nd rfl (Or.inl rfl)) (pss_one (ps_set (i := 4) scGR.nd rfl (Or.inl rfl) (pe_op op_and (pv 4) (pe_cal cT hr2 rfl (pa_cons (pv 7) (pa_cons (pv 3) pa_nil)))))))
    (pss_one (ps_ret (pe_cmpR op_eq (pv 4) pe_int (nomark _))))))))))), ?_⟩
  refine ⟨_, rfl, pz, rfl, ⟨_, SqL.of X.at_⟩, for_list (K := K) (a := pz) (xs := uz) (fun i σ H' => (∃ c : Option V, σ = [some y, some (.ref ps), some (.ref pl), some (.ref pz), some (.int (wrongOf ((allv bs).take i) s : Nat)), c, none, none]) ∧ Same H H')
    ⟨⟨none, rfl⟩, Same.refl _⟩ (fun i σ H' _ hh => by obtain ⟨_, e⟩ := hh; exact SqL.of (e _ _ X.at_)) ?_ ?_⟩
  · rintro i x σ H' hi ⟨⟨c, rfl⟩, e⟩
    obtain ⟨v, hv, p, rfl, hp⟩ := X.each.at hi
    have vo := vok v (List.mem_of_getElem? hv)
    have hsn : ((wrongOf ((allv bs).take (i + 1)) s : Nat) : Int) = 2 * (wrongOf ((allv bs).take i) s : Nat) + if (!s.so v) then 1 else 0 := by
      unfold wrongOf
      rw [List.take_add_one, hv, List.map_append]
      show ((bw (_ ++ [!s.so v]) : Nat) : Int) = _
      rw [bw_snoc]
      cases (!s.so v)
      · show ((bw _ * 2 + 0 : Nat) : Int) = 2 * ((bw _ : Nat) : Int) + 0
        omega
      · show ((bw _ * 2 + 1 : Nat) : Int) = 2 * ((bw _ : Nat) : Int) + 1
        omega
    refine ⟨_, rfl, _, _, rfl, rfl, .inl ⟨by decide, by decide⟩, _, rfl, _, rfl, ps, p, s, v, rfl, e _ _ hs, e _ _ hp, by rw [vo.1]; exact sin, vo.2, fun H'' e' => ?_⟩
    exact ⟨_, rfl, .inr ⟨_, rfl, _, _, rfl, rfl, ⟨_, by rw [hsn]; rfl⟩, e.trans e'⟩⟩
  rintro σ H1 ⟨⟨c5, rfl⟩, e1⟩
  rw [X.each.1, List.take_length]
  obtain ⟨W, hW⟩ : ∃ W, W = wrongOf (allv bs) s := ⟨_, rfl⟩
  rw [← hW] at hy ⊢
  have L1 := L.same e1
  have X1 := X.same e1
  have hll := L1.each.1
  refine ⟨_, rfl, pl, rfl, ⟨_, SqL.of L1.at_⟩, fun pr hpr => ?_⟩
  refine lc_list (K := K) (a := pl) (xs := ul) (fun i ys σ H' => ∃ (c0 : Option V), σ = [c0, some (.ref pz)] ∧ ys = nums ((ls.take i).map (rowOf (allv bs))) ∧ H' pr = some (.lst ys) ∧ Same H1 H')
    ⟨none, rfl, rfl, upd_same, Same.new hpr _⟩ (fun i ys σ H' _ hh => by obtain ⟨_, _, _, _, e⟩ := hh; exact SqL.of (e _ _ L1.at_)) ?_ ?_
  · rintro i x ys σ H' hi ⟨c0, rfl, rfl, hr', e'⟩
    obtain ⟨o, ho, p, rfl, hp⟩ := L1.each.at hi
    have hil := (List.getElem?_eq_some_iff.mp ho).1
    refine lc_yes ⟨_, rfl, _, rfl, p, pz, o, uz, allv bs, bs.length, rfl, e' _ _ hp, X1.same e', lin o (List.mem_of_getElem? ho), vok, fun H'' e'' => ?_⟩
    refine ⟨e'' _ _ hr', sz (by unfold nums; rw [List.length_map, List.length_map, List.length_take]; omega), _, rfl, ?_, upd_same, fun c u z => ?_⟩
    · unfold nums
      rw [List.take_add_one, ho, List.map_append, List.map_append]
      rfl
    · rw [upd_ne (ne_of_none z hpr)]
      exact e'' _ _ (e' _ _ z)
  rintro ys σ H2 ⟨c2, rfl, rfl, r2, e2⟩
  rw [hll, List.take_length] at r2
  have e12 := e1.trans e2
  have rl : (ls.map (rowOf (allv bs))).length ≤ 10000 := by rw [List.length_map]; omega
  rcases hy with ⟨rfl, hen⟩ | ⟨pw, uw, ws, rfl, Y, w3, wsub, wen, wz⟩
  · refine ⟨_, rfl, _, rfl, iteB (decide_eq_true rfl) ?_⟩
    refine ⟨_, rfl, _, rfl, 3, Nat.le_refl _, pr, W, _, rfl, r2, rl, fun H3 e3 => ?_⟩
    refine ⟨_, rfl, ?_⟩
    rw [hen]
    exact q H3 (e12.trans e3)
  have hwl := Y.each.1
  have Y2 := Y.same e12
  refine ⟨_, rfl, _, rfl, iteC (decide_eq_false (fun z => nomatch z)) ?_⟩
  refine ⟨_, rfl, _, _, _, _, rfl, .lst Y2.at_, kit_same K "list", _, rfl, iteF ?_⟩
  refine ⟨_, rfl, pw, _, rfl, .inl (SqL.of Y2.at_), _, _, rfl, rfl, _, rfl, ?_⟩
  refine ite_d (fun c => ?_) (fun c => ?_)
  · exfalso
    have : (3 : Int) < ((uw.length : Nat) : Int) := c
    omega
  refine ⟨_, rfl, _, rfl, pw, pl, uw, ul, ws, ls, rfl, Y2, L1.same e2, wsub, fun H3 e3 => ?_⟩
  refine ⟨_, rfl, iteF ?_⟩
  have e13 := e12.trans e3
  refine nxs (seq_cut (fun σ' H' => σ' = [some (.ref pw), some (.ref ps), some (.ref pl), some (.ref pz), some (.int (W : Nat)), c5, some (.ref pr), none] ∧ Same H H') (fun R' hR' => ?_) ?_)
  · have Y3 := Y.same e13
    refine ⟨_, rfl, (by show 0 ≤ sizeLine; decide), fun pe hpe => ?_⟩
    have e4 := Same.new hpe (.lst [])
    have Y4 := Y3.same e4
    have h4 : upd H3 pe (.lst []) pe = some (.lst []) := upd_same
    have e14 := e13.trans e4
    generalize upd H3 pe (.lst []) = H4 at *
    refine ⟨pw, pe, _, rfl, rfl, SqL.of Y4.at_, SqL.of h4, _, rfl, ?_⟩
    cases hz : uw.isEmpty with
    | true => exact iteF (hR' _ _ ⟨rfl, e14⟩)
    | false =>
      have hul1 : 1 ≤ uw.length := by
        cases uw with
        | nil => cases hz
        | cons a b => simp
      refine iteT ?_
      refine ⟨_, rfl, _, rfl, _, rfl, pw, _, rfl, .inl (SqL.of Y4.at_), _, _, rfl, rfl, ?_⟩
      have em : ((uw.length : Nat) : Int) - 1 = ((ws.length - 1 : Nat) : Int) := by omega
      dsimp only
      rw [em]
      refine ⟨ws.length - 1, by omega, pr, W, _, rfl, (e3.trans e4) _ _ r2, rl, fun H5 e5 => ?_⟩
      rw [wen (ws.length - 1) (by omega)]
      exact ⟨_, rfl, iteF (hR' _ _ ⟨rfl, e14.trans e5⟩)⟩
  rintro σ4 H4 ⟨rfl, e4⟩
  have Y4 := Y.same e4
  have X4 := X.same e4
  refine ⟨_, rfl, pw, rfl, ⟨_, SqL.of Y4.at_⟩, for_list (K := K) (a := pw) (xs := uw) (fun i σ H' => (∃ c7 : Option V, σ = [some (.ref pw), some (.ref ps), some (.ref pl), some (.ref pz), some (.int (ands W ((ws.take i).map (rowOf (allv bs))) : Nat)), c5, some (.ref pr), c7]) ∧ Same H4 H')
    ⟨⟨none, rfl⟩, Same.refl _⟩ (fun i σ H' _ hh => by obtain ⟨_, e⟩ := hh; exact SqL.of (e _ _ Y4.at_)) ?_ ?_⟩
  · rintro i x σ H' hi ⟨⟨c7, rfl⟩, e'⟩
    obtain ⟨o, ho, p, rfl, hp⟩ := Y4.each.at hi
    have oin : o.In bs.length := lin o (wsub.subset (List.mem_of_getElem? ho))
    refine ⟨_, rfl, _, rfl, _, rfl, p, pz, o, uz, allv bs, bs.length, rfl, e' _ _ hp, X4.same e', oin, vok, fun H5 e5 => ?_⟩
    refine ⟨_, _, rfl, rfl, ⟨some (.ref p), ?_⟩, e'.trans e5⟩
    rw [List.take_add_one, ho, List.map_append]
    show _ = [_, _, _, _, some (V.int (ands W ((ws.take i).map (rowOf (allv bs)) ++ [rowOf (allv bs) o]) : Nat)), _, _, _]
    rw [ands_snoc, ← and_nat]
    rfl
  rintro σ H5 ⟨⟨c7, rfl⟩, e5⟩
  rw [hwl, List.take_length, wz]
  exact ⟨_, rfl, rfl, bl_eq (q H5 (e4.trans e5)) (decide_eq_true rfl)⟩
theorem scCase : FnScope ["program", "s", "left", "values", "why"] ["program", "s", "left", "values"] (defScope sCase) := ⟨rfl, rfl, rfl, by decide +kernel, rfl, by decide +kernel, by decide +kernel⟩
theorem ok_case (h : Has K mg "_law_case" sCase ["program", "s", "left", "values"]) (B : Blt mg) (cF : Cal P w K mg base 4 "follows" ["program", "saying", "others"] spFollows) (cR : Cal P w K mg base 5 "reason" ["program", "saying", "others"] spReason) (cA : Cal P w K mg base 1 "_law_alike" ["told", "due"] spAlike) (cG : Cal P w K mg base 5 "_law_good_reason" ["why", "s", "left", "values"] spGR) : Cal P w K mg base 6 "_law_case" ["program", "s", "left", "values"] spCase := by
  refine h.cal scCase (fun vs H Q E h => ?_) (fun f cdv A outer s H vs Q E hr h => ?_)
  · obtain ⟨g1, g4, g5, ps, pl, pz, ub, ul, uz, bs, os, s, rfl, _⟩ := h
    rfl
  obtain ⟨g1, g4, g5, ps, pl, pz, ub, ul, uz, bs, os, s, rfl, hs, sin, smem, C, O, q⟩ := h
  have hr5 : Room 5 _ := hr
  have hr4 : Room 4 _ := hr.mono (by decide)
  have hr1 : Room 1 _ := hr.mono (by decide)
  refine ⟨_, (pss_cons (ps_if (pt_cmpR op_isnotB (pe_cal cF hr4 rfl (pa_cons (pv 0) (pa_cons (pv 1) (pa_cons (pe_callTy call_list_of rfl B.list bt_list (pa_cons (pv 2) pa_nil)) pa_nil)))) pe_bl (nomark _)) (pss_one (ps_ret pe_bl)) pss_nil)
    (pss_cons (ps_set (i := 4) scCase.nd rfl (Or.inl rfl) (pe_cal cR hr5 rfl (pa_cons (pv 0) (pa_cons (pv 1) (pa_cons (pe_callTy call_list_of rfl B.list bt_list (pa_cons (pv 2) pa_nil)) pa_nil)))))
    (pss_cons (ps_if (pt_cmpR (op_inT hr1.units) (pv 1) (pv 2) (by with_unfolding_all rfl)) (pss_one (ps_ret (pe_and (pe_callB call_isinst rfl B.isinstance bt_isinstance (pa_cons (pv 4) (pa_cons (pe_bltn (v := .ty "list") rfl B.list bt_list rfl) pa_nil))) (pe_and (pe_cmpR op_eq (pe_callB call_len_seq rfl B.len bt_len (pa_cons (pv 4) pa_nil)) pe_int (nomark _)) (pe_one (pe_cal cA hr1 rfl (pa_cons (pe_ix ix_list (pv 4) pe_int (fun _ _ => rfl)) (pa_cons (pv 1) pa_nil)))))))) pss_nil)
    (pss_one (ps_ret (pe_cal cG hr5 rfl (pa_cons (pv 4) (pa_cons (pv 1) (pa_cons (pv 2) (pa_cons (pv 3) pa_nil)))))))))), ?_⟩
  have lll := O.ll
  refine ⟨_, rfl, _, rfl, _, rfl, pl, ul, rfl, .inl (SqL.of C.L.at_), fun g6 hg6 => ?_⟩
  have e6 := Same.new hg6 (.lst ul)
  have h6 : upd H g6 (.lst ul) g6 = some (.lst ul) := upd_same
  have C6 := C.same e6
  generalize upd H g6 (.lst ul) = H6 at *
  refine ⟨g5, g1, ps, g6, .ref g4, ub, ul, bs, s, _, rfl, C6.G, C6.B, O.ok, O.l4, O.vol, e6 _ _ hs, sin, ⟨h6, C6.L.each⟩, O.lin, fun H7 e7 => ?_⟩
  rw [fol_left smem]
  refine ⟨_, _, rfl, rfl, _, rfl, iteF ?_⟩
  have C7 := C6.same e7
  have e67 := e6.trans e7
  refine ⟨_, rfl, _, rfl, _, rfl, pl, ul, rfl, .inl (SqL.of C7.L.at_), fun g8 hg8 => ?_⟩
  have e8 := Same.new hg8 (.lst ul)
  have h8 : upd H7 g8 (.lst ul) g8 = some (.lst ul) := upd_same
  have C8 := C7.same e8
  have e68 := e67.trans e8
  generalize upd H7 g8 (.lst ul) = H8 at *
  have hll := C8.L.each.1
  obtain ⟨ls, hls⟩ : ∃ ls, ls = lsOf (allv bs) os := ⟨_, rfl⟩
  rw [← hls] at C8 O lll hll
  refine ⟨g5, g1, ps, g8, .ref g4, ub, ul, bs, s, ls, rfl, C8.G, C8.B, O.ok, O.l4, O.vol, e68 _ _ hs, sin, ⟨h8, C8.L.each⟩, O.lin, by omega, fun hn H9 e9 => ?_, fun m hm pw H9 hpw e9 w9 => ?_⟩
  · have C9 := C8.same e9
    have hs9 := (e68.trans e9) _ _ hs
    refine ⟨_, rfl, _, rfl, ps, pl, _, ul, rfl, rfl, hs9, flat_say s, C9.L.at_, says_refs C9.L, _, rfl, ?_⟩
    rw [if_neg Bool.false_ne_true, any_says s C9.L.each]
    by_cases hin : s ∈ ls
    · obtain ⟨m, j, hm, _⟩ := why_in O.al hin
      rw [hn] at hm
      cases hm
    · rw [decide_eq_false hin]
      refine iteF ?_
      have hw := why_of (allv bs) s ls
      rw [hn] at hw
      cases hw with
      | no hen =>
        exact ⟨_, rfl, _, rfl, _, rfl, _, rfl, .non, ps, pl, pz, s, ul, uz, bs, ls, rfl, hs9, sin, C9.L, C9.vv, O.lin, O.vok, lll, .inl ⟨rfl, hen⟩, fun H10 e10 => q H10 ((e68.trans e9).trans e10)⟩
  · have C9 := C8.same e9
    have hs9 := (e68.trans e9) _ _ hs
    refine ⟨_, rfl, _, rfl, ps, pl, _, ul, rfl, rfl, hs9, flat_say s, C9.L.at_, says_refs C9.L, _, rfl, ?_⟩
    rw [if_neg Bool.false_ne_true, any_says s C9.L.each]
    have et : ∀ ch, m.map (fun b => (fidx (wrows (allv bs) s ls) b).getD 0) = ch → (m.map fun b => ul.getD ((fidx (wrows (allv bs) s ls) b).getD 0) .non) = ch.map fun i => ul.getD i .non := fun ch hch => by
      rw [← hch, List.map_map]
      rfl
    by_cases hin : s ∈ ls
    · obtain ⟨m', j, hm', hj, hjs⟩ := why_in O.al hin
      rw [hm] at hm'
      cases hm'
      rw [et _ hj] at w9
      have hjl := (List.getElem?_eq_some_iff.mp hjs).1
      have hju : j < ul.length := by omega
      obtain ⟨o, ho, p, ep, hp⟩ := C9.L.each.at (List.getElem?_eq_getElem hju)
      rw [hjs] at ho
      cases ho
      have hge : ul.getD j .non = .ref p := by rw [List.getD_eq_getElem?_getD, List.getElem?_eq_getElem hju]; exact ep
      have w9' : H9 pw = some (.lst [.ref p]) := by
        rw [w9, List.map_cons, hge]
        rfl
      rw [decide_eq_true hin]
      refine iteT ?_
      refine ⟨_, rfl, _, _, _, _, rfl, .lst w9', kit_same K "list", _, rfl, iteB rfl ?_⟩
      refine ⟨_, rfl, pw, _, rfl, .inl (SqL.of w9'), rfl, _, rfl, iteB (decide_eq_true rfl) ?_⟩
      refine ⟨_, rfl, pw, _, _, _, rfl, rfl, SqL.of w9', rfl, _, rfl, p, ps, s, s, rfl, hp, hs9, fun H10 e10 => ?_⟩
      rw [decide_eq_true rfl]
      exact q H10 ((e68.trans e9).trans e10)
    · rw [decide_eq_false hin]
      refine iteF ?_
      have hw := why_of (allv bs) s ls
      rw [hm] at hw
      cases hw with
      | yes _ ch hch hlt h3 hpw' hmin hP =>
        rw [et ch hch] at w9
        have hsub : (ch.map fun i => ls.getD i (.same 0 0)).Sublist ls := sub_of (d := .same 0 0) ls 0 ch hpw' fun i hi => ⟨Nat.zero_le _, by rw [Nat.zero_add]; exact hlt i hi⟩
        refine ⟨_, rfl, _, rfl, _, rfl, _, rfl, .ref pw, ps, pl, pz, s, ul, uz, bs, ls, rfl, hs9, sin, C9.L, C9.vv, O.lin, O.vok, lll, .inr ⟨pw, _, ch.map fun i => ls.getD i (.same 0 0), rfl, says_part C9.L.each hlt w9, by rw [List.length_map]; exact h3, hsub, fun c hc => hmin c (by rw [List.length_map] at hc; exact hc), ?_⟩, fun H10 e10 => q H10 ((e68.trans e9).trans e10)⟩
        refine Eq.trans ?_ hP
        rw [List.map_map]
        congr 1
        refine List.map_congr_left fun i hi => ?_
        show rowOf (allv bs) (ls.getD i (.same 0 0)) = rat (allv bs) ls i
        rw [rat_of (os_getD (hlt i hi))]
end

/-! ### all values, by the law -/
def spAll : Sp := fun vs H Q _ => ∃ (pb : Addr) (us : List V) (bs : List Box), vs = [.ref pb] ∧ BoxesAt H pb us bs ∧ (∀ b ∈ bs, b.Ok) ∧ bs.length ≤ 4 ∧ vol bs ≤ 400 ∧
  ∀ (p : Addr) (us' : List V) (H' : Hp), H p = none → Same H H' → ValsAt H' p us' (allv bs) → Q (.ref p) H'
section
variable {P : Program} {w : World} {K : PySem.W.Frag} {mg : Str → Option Value} {base : Heap}
theorem scAll : FnScope ["boxes", "found", "name", "low", "high", "first", "longer", "v"] ["boxes"] (defScope sAll) := ⟨rfl, rfl, rfl, by decide +kernel, rfl, by decide +kernel, by decide +kernel⟩
theorem ok_all (h : Has K mg "_law_all" sAll ["boxes"]) (B : Blt mg) : Cal P w K mg base 1 "_law_all" ["boxes"] spAll := by
  refine h.cal scAll (fun vs H Q E h => ?_) (fun f cdv A outer s H vs Q E hr h => ?_)
  · obtain ⟨pb, us, bs, rfl, _⟩ := h
    rfl
  obtain ⟨pb, us, bs, rfl, X, ok, h4, hv400, q⟩ := h
  refine ⟨_, (pss_cons (ps_set (i := 1) scAll.nd rfl (Or.inl rfl) (pe_lst (pa_cons (pe_tup pa_nil) pa_nil)))
    (pss_cons (ps_for PassesOwn.never rfl (pi_list (pv 0)) (pg_tup rfl (pgs_cons (pg_name (i := 2) scAll.nd rfl (Or.inl rfl)) (pgs_cons (pg_name (i := 3) scAll.nd rfl (Or.inl rfl)) (pgs_cons (pg_name (i := 4) scAll.nd rfl (Or.inl rfl)) (pgs_cons (pg_name (i := 5) scAll.nd rfl (Or.inl rfl)) pgs_nil))))) (pss_cons (ps_set (i := 6) scAll.nd rfl (Or.inl rfl) (pe_lst pa_nil))
    (pss_cons (ps_for PassesOwn.never rfl (pi_list (pv 1)) (pg_name (i := 7) scAll.nd rfl (Or.inr rfl)) (pss_one (ps_expr (pe_bm PySem.F.plainAttrs_list PySem.F.slot_list_extend PySem.F.type_list_extend mt_extend (pv 6) (pa_cons (pe_lcC (defScope sAll) ["boxes", "found", "name", "low", "high", "first", "longer", "v"] (N := ["n", "v"]) (ix := [none, some 7]) rfl ⟨rfl, by decide +kernel, by decide +kernel, by decide +kernel, rfl, by decide +kernel⟩ (pi_range2 rfl B.range (pa_cons (pv 3) (pa_cons (pe_op op_add (pv 4) pe_int) pa_nil))) (fun _ _ _ _ => pg_name (i := 0) (show (["n", "v"] : List Str).Nodup by decide +kernel) rfl (Or.inl rfl)) (fun _ _ _ _ => pts_nil) (fun _ _ _ _ => (pe_op op_catE (pv 1) (pe_tup (pa_cons (pv 0) pa_nil))))) pa_nil)))))
    (pss_one (ps_set (i := 1) scAll.nd rfl (Or.inl rfl) (pv 6))))))
    (pss_one (ps_ret (pv 1))))), ?_⟩
  refine ⟨(by show 0 ≤ sizeLine; decide), fun pt hpt => ?_⟩
  have s1 := Same.new hpt (.tup [])
  refine ⟨(by show 1 ≤ sizeLine; decide), fun pl hpl => ?_⟩
  have s2 := Same.new hpl (.lst [.ref pt])
  have s12 := s1.trans s2
  refine ⟨_, rfl, pb, rfl, ⟨us, SqL.of (s12 _ _ X.at_)⟩, for_list (K := K) (a := pb) (xs := us) (fun i σ H2 => ∃ (p : Addr) (us' : List V) (c2 c3 c4 c5 c6 c7 : Option V), σ = [some (.ref pb), some (.ref p), c2, c3, c4, c5, c6, c7] ∧ H p = none ∧ ValsAt H2 p us' ((bs.take i).foldl longer [[]]) ∧ Same H H2)
    ⟨pl, [.ref pt], none, none, none, none, none, none, rfl, Same.free s1 hpl, ⟨upd_same, ⟨rfl, fun i x y e1 e2 => ?_⟩⟩, s12⟩ (fun i σ H2 _ hh => by obtain ⟨_, _, _, _, _, _, _, _, _, _, _, s2⟩ := hh; exact SqL.of (s2 _ _ X.at_)) ?_ ?_⟩
  · rcases i with _ | i
    · cases e1
      cases e2
      exact ⟨pt, rfl, s2 _ _ upd_same⟩
    · simp at e1
  · rintro i x σ H2 hi ⟨pf, us', c2, c3, c4, c5, c6, c7, rfl, hpf, X2, s2⟩
    obtain ⟨b, hb, pq, rfl, hpq⟩ := X.each.at hi
    have bok := ok b (List.mem_of_getElem? hb)
    have hb1 := bok.fl
    have hb2 := bok.fh
    have hb3 := bok.lo
    have hb4 := bok.hi
    have h400 := fold_400 ok hb hv400
    have hvl4 := fold_short ok h4 i
    rw [fold_succ hb]
    generalize (bs.take i).foldl longer [[]] = vl at *
    refine ⟨pq, _, rfl, SqT.of (s2 _ _ hpq), rfl, _, _, rfl, _, _, rfl, _, _, rfl, _, _, rfl, rfl, ?_⟩
    refine ⟨(by show 0 ≤ sizeLine; decide), fun p hp => ?_⟩
    have hpH : H p = none := Same.free s2 hp
    refine ⟨_, rfl, pf, rfl, ⟨us', SqL.of (Same.new hp _ _ _ X2.at_)⟩, for_list (K := K) (a := pf) (xs := us') (fun j σ H3 => ∃ (ul : List V) (c7 : Option V), σ = [some (.ref pb), some (.ref pf), some (.str b.nm), some (.int b.lo), some (.int b.hi), some (.int b.fst), some (.ref p), c7] ∧ ValsAt H3 p ul (longer (vl.take j) b) ∧ Same H2 H3)
      ⟨[], c7, rfl, ⟨upd_same, All2.nil⟩, Same.new hp _⟩ (fun j σ H3 _ hh => by obtain ⟨_, _, _, _, s3⟩ := hh; exact SqL.of (s3 _ _ X2.at_)) ?_ ?_⟩
    · rintro j x σ H3 hj ⟨ul, c7, rfl, X3, s3⟩
      obtain ⟨v, hv, pq2, rfl, hpq2⟩ := X2.each.at hj
      have hlt : ul.length + b.size ≤ 400 := by
        rw [X3.each.1, longer_len, ← Nat.succ_mul]
        refine Nat.le_trans (Nat.mul_le_mul_right _ ?_) h400
        have := (List.getElem?_eq_some_iff.mp hv).1
        rw [List.length_take]
        omega
      refine ⟨_, rfl, .inl ⟨rfl, _, SqL.of X3.at_⟩, ?_⟩
      refine ⟨_, rfl, _, rfl, _, _, rfl, rfl, _, _, rfl, ⟨by omega, by omega, by omega, by omega⟩, fun D hD => ?_⟩
      refine lc_range (lo := b.lo) (n := (b.hi + 1 - b.lo).toNat) (fun k ys σ H4 => ∃ c0 : Option V, σ = [c0, some (.ref pq2)] ∧ H4 D = some (.lst ys) ∧ All2 (ValAt H4) ys (((rng b).take k).map fun n => v ++ [n]) ∧ Same H3 H4)
        ⟨none, rfl, upd_same, All2.nil, Same.new hD _⟩ ?_ ?_
      · rintro k ys σ H4 hk ⟨c0, rfl, hD4, A4, s4⟩
        have hk' : k < b.size := by unfold Box.size; omega
        have hyl : ys.length ≤ 400 := by
          rw [A4.1, List.length_map, List.length_take, rng_len]
          omega
        refine lc_yes ⟨_, rfl, _, rfl, (by show 1 ≤ sizeLine; decide), fun pt hpt => ?_⟩
        have s5 := Same.new hpt (.tup [.int (b.lo + (k : Int))])
        have s35 := s4.trans s5
        have hvb : v.length ≤ 1000 := hvl4 v (List.mem_of_getElem? hv)
        refine ⟨pq2, pt, v.map V.int, [.int (b.lo + (k : Int))], rfl, rfl, s35 _ _ (s3 _ _ hpq2), upd_same, ?_, fun p6 H6 s6 h6 => ?_⟩
        · rw [List.length_map]
          exact sz' (by simp; omega)
        have s46 := s5.trans s6
        have hD6 := s46 _ _ hD4
        refine ⟨hD6, small1000 (by omega), _, rfl, upd_same, ?_, fun c o e => ?_⟩
        · have hr : (rng b)[k]? = some (b.lo + (k : Int)) := by
            unfold rng
            rw [List.getElem?_map, List.getElem?_range hk']
            rfl
          rw [List.take_add_one, hr, List.map_append]
          refine ((A4.mono fun _ _ z => (z.same s46).put hD6)).snoc (ValAt.put ⟨p6, rfl, ?_⟩ hD6)
          rw [h6, List.map_append]
          rfl
        · rw [upd_ne (ne_of_none e hD)]
          exact s46 _ _ (s4 _ _ e)
      rintro ys σ H4 ⟨c0, rfl, hD4, A4, s4⟩
      have ej : (b.hi + 1 - b.lo).toNat = b.size := by unfold Box.size; congr 1; omega
      rw [ej, List.take_of_length_le (by rw [rng_len]; exact Nat.le_refl _)] at A4
      have X4 := X3.same s4
      have hyl : ys.length = b.size := by rw [A4.1, List.length_map, rng_len]
      refine ⟨p, D, ul, ys, rfl, rfl, X4.at_, hD4, small (by omega), ?_⟩
      refine ⟨ul ++ ys, _, rfl, ⟨upd_same, ?_⟩, fun c o e => ?_⟩
      · rw [List.take_add_one, hv]
        unfold longer
        rw [List.flatMap_append]
        refine all2_app (X4.each.mono fun _ _ z => z.put X4.at_) ?_
        rw [show (Option.toList (some v)) = [v] from rfl, List.flatMap_cons, List.flatMap_nil, List.append_nil]
        exact A4.mono fun _ _ z => z.put X4.at_
      · rw [upd_ne (ne_of_none e hp)]
        exact s4 _ _ (s3 _ _ e)
    · rintro σ H3 ⟨ul, c7, rfl, X3, s3⟩
      rw [X2.each.1, List.take_length] at X3
      exact ⟨_, rfl, p, ul, _, _, _, _, _, _, rfl, hpH, X3, s2.trans s3⟩
  · rintro σ H2 ⟨p, us', c2, c3, c4, c5, c6, c7, rfl, hpf, X2, s2⟩
    rw [X.each.1, List.take_length] at X2
    exact ⟨_, rfl, q p us' H2 hpf s2 X2⟩
end

/-! ### law -/
def spLaw (K : PySem.W.Frag) : Sp := fun vs H Q _ => ∃ (a : Addr) (ns : List Int), vs = [.ref a] ∧ SqL K H a (ns.map V.int) ∧ ns.length ≤ 63 ∧ ∀ H', Q (.bl true) H'
theorem cut_mem' {xs : List V} {lo hi : Option Int} {x : V} (h : x ∈ cutV xs lo hi) : x ∈ xs := List.mem_of_mem_drop (List.mem_of_mem_take h)
/-- all that stands -/
structure Al (rs : List Addr) (pp pb g1 g4 g5 po pl pz : Addr) (ub uo ul uz : List V) (bs : List Box) (os : List Say) (H : Hp) : Prop where
  P : ∀ a ∈ rs, PotAt H a
  pots : H pp = some (.lst (rs.map V.ref))
  X : BoxesAt H pb ub bs
  Y : SaysAt H po uo os
  C : Cs g1 g4 g5 pl pz ub ul uz bs (lsOf (allv bs) os) H
  np : pp ∉ rs
  nb : pb ∉ rs
  n1 : g1 ∉ rs
  no : po ∉ rs
  nl : pl ∉ rs
  nz : pz ∉ rs
section
variable {rs : List Addr} {pp pb g1 g4 g5 po pl pz : Addr} {ub uo ul uz : List V} {bs : List Box} {os : List Say} {H H' : Hp}
theorem Al.same (A : Al rs pp pb g1 g4 g5 po pl pz ub uo ul uz bs os H) (e : Same H H') : Al rs pp pb g1 g4 g5 po pl pz ub uo ul uz bs os H' :=
  ⟨fun a ha => (A.P a ha).mono e, e _ _ A.pots, A.X.same e, A.Y.same e, A.C.same e, A.np, A.nb, A.n1, A.no, A.nl, A.nz⟩
theorem Al.but {c : Addr} (A : Al rs pp pb g1 g4 g5 po pl pz ub uo ul uz bs os H) (hc : c ∈ rs) (b : But c H H') (P' : PotAt H' c) : Al rs pp pb g1 g4 g5 po pl pz ub uo ul uz bs os H' := by
  have ne : ∀ {x : Addr}, x ∉ rs → x ≠ c := fun {x} h z => h (by rw [z]; exact hc)
  have Pc := A.P c hc
  refine ⟨fun a ha => ?_, b _ _ (ne A.np) A.pots, A.X.but Pc (ne A.nb) b, A.Y.but Pc (ne A.no) b, ⟨b _ _ (Pc.ne_tup A.C.G) A.C.G, A.C.B.but Pc (ne A.n1) b, A.C.L.but Pc (ne A.nl) b, ⟨b _ _ (ne A.nz) A.C.vv.at_, A.C.vv.each.mono fun _ _ ⟨p, e, hp⟩ => ⟨p, e, b _ _ (Pc.ne_tup hp) hp⟩⟩⟩, A.np, A.nb, A.n1, A.no, A.nl, A.nz⟩
  by_cases e : a = c
  · rw [e]; exact P'
  · obtain ⟨x, y, h⟩ := A.P a ha
    exact ⟨x, y, b _ _ e h⟩
end
section
variable {P : Program} {w : World} {K : PySem.W.Frag} {mg : Str → Option Value} {base : Heap}
theorem gfor {i : Nat} {v : V} {σ : St} {H : Hp} {t R : TS} {D : Ends} (h : tSeq t R D (σ.set i (some v)) H) : gName i v σ H (fun σ2 H2 => tSeq t R D σ2 H2) := h
theorem scLaw : FnScope ["script", "cells", "pot", "boxes", "program", "pots", "some", "left", "values", "one", "s"] ["script"] (defScope sLaw) := ⟨rfl, rfl, rfl, by decide +kernel, rfl, by decide +kernel, by decide +kernel⟩
theorem ok_law {e : Addr} {ed : FuncData} (F : Fun K "law" "law" sLaw e ed) (B : Blt mg) (cC : Cal P w K mg base 1 "_law_cells" ["script"] (spCells K)) (cN : Cal P w K mg base 1 "_law_next" ["pot", "many"] spNext) (cB : Cal P w K mg base 2 "_law_boxes" ["pot", "most", "names"] spBoxes) (cG : Cal P w K mg base 4 "sayings" ["program"] spSayings) (cH : Cal P w K mg base 3 "_law_held" ["told", "boxes", "pots"] spHeld) (cT : Cal P w K mg base 4 "thinned" ["program", "some"] spThinned) (cW : Cal P w K mg base 2 "_law_within" ["left", "some"] spWithin) (cA : Cal P w K mg base 1 "_law_all" ["boxes"] spAll) (cK : Cal P w K mg base 6 "_law_case" ["program", "s", "left", "values"] spCase) (cL : Cal P w K mg base 6 "_law_alone" ["program", "at", "left"] spAlone) : FnOk P w K mg base CX0 7 e ed ["script"] (spLaw K) := by
  refine F.ok scLaw (fun vs H Q E h => ?_) (fun cdv A outer s H vs Q E hr h => ?_)
  · obtain ⟨a, ns, rfl, _⟩ := h
    rfl
  obtain ⟨a0, ns0, rfl, hS, h63, q⟩ := h
  have hr6 : Room 6 _ := hr
  have hr4 : Room 4 _ := hr.mono (by decide)
  have hr3 : Room 3 _ := hr.mono (by decide)
  have hr2 : Room 2 _ := hr.mono (by decide)
  have hr1 : Room 1 _ := hr.mono (by decide)
  have hu0 := Nat.lt_of_le_of_lt (Nat.le_add_right _ 64) hr1.units
  refine ⟨_, (pss_cons (ps_set (i := 1) scLaw.nd rfl (Or.inl rfl) (pe_cal cC hr1 rfl (pa_cons (pv 0) pa_nil)))
    (pss_cons (ps_set (i := 2) scLaw.nd rfl (Or.inl rfl) (pe_lst (pa_cons (pe_ix ix_list (pv 1) pe_int (fun _ _ => rfl)) (pa_cons pe_int pa_nil))))
    (pss_cons (ps_set (i := 3) scLaw.nd rfl (Or.inl rfl) (pe_cal cB hr2 rfl (pa_cons (pv 2) (pa_cons pe_int (pa_cons (pe_lst (pa_cons pe_str (pa_cons pe_str (pa_cons pe_str (pa_cons pe_str pa_nil))))) pa_nil)))))
    (pss_cons (ps_set (i := 4) scLaw.nd rfl (Or.inl rfl) (pe_tup (pa_cons (pe_callTy call_list_of rfl B.list bt_list (pa_cons (pv 3) pa_nil)) (pa_cons (pe_lst (pa_cons (pe_tup (pa_cons pe_str (pa_cons pe_str pa_nil))) (pa_cons (pe_tup (pa_cons pe_str (pa_cons pe_int pa_nil))) pa_nil))) pa_nil))))
    (pss_cons (ps_set (i := 5) scLaw.nd rfl (Or.inl rfl) (pe_op op_cat (pe_lst (pa_cons (pv 2) pa_nil)) (pe_lcC (defScope sLaw) ["script", "cells", "pot", "boxes", "program", "pots", "some", "left", "values", "one", "s"] (N := ["cell"]) (ix := [none]) rfl ⟨rfl, by decide +kernel, by decide +kernel, by decide +kernel, rfl, by decide +kernel⟩ (pi_list (pe_slice sl_list (pv 1) (po_some pe_int) po_none)) (fun _ _ _ _ => pg_name (i := 0) (show (["cell"] : List Str).Nodup by decide +kernel) rfl (Or.inl rfl)) (fun _ _ _ _ => pts_nil) (fun _ _ _ _ => (pe_lst (pa_cons (pv 0) (pa_cons pe_int pa_nil)))))))
    (pss_cons (ps_set (i := 6) scLaw.nd rfl (Or.inl rfl) (pe_cal cH hr3 rfl (pa_cons (pe_cal cG hr4 rfl (pa_cons (pv 4) pa_nil)) (pa_cons (pv 3) (pa_cons (pv 5) pa_nil)))))
    (pss_cons (ps_set (i := 7) scLaw.nd rfl (Or.inl rfl) (pe_cal cT hr4 rfl (pa_cons (pv 4) (pa_cons (pe_callTy call_list_of rfl B.list bt_list (pa_cons (pv 6) pa_nil)) pa_nil))))
    (pss_cons (ps_if (PW.pt (pw_or (pt_not (pt_val (pe_callB call_isinst rfl B.isinstance bt_isinstance (pa_cons (pv 7) (pa_cons (pe_bltn (v := .ty "list") rfl B.list bt_list rfl) pa_nil))))) (pw_or1 (pt_not (pt_val (pe_cal cW hr2 rfl (pa_cons (pv 7) (pa_cons (pv 6) pa_nil)))))))) (pss_one (ps_ret pe_bl)) pss_nil)
    (pss_cons (ps_set (i := 8) scLaw.nd rfl (Or.inl rfl) (pe_cal cA hr1 rfl (pa_cons (pv 3) pa_nil)))
    (pss_cons (ps_for PassesOwn.never rfl (pi_list (pv 5)) (pg_name (i := 9) scLaw.nd rfl (Or.inl rfl)) (pss_cons (ps_if (pt_cmpR (op_neN hu0) (pv 6) (pe_lst pa_nil) (nomark _)) (pss_cons (ps_set (i := 10) scLaw.nd rfl (Or.inl rfl) (pe_ix ix_list (pv 6) (pe_cal cN hr1 rfl (pa_cons (pv 9) (pa_cons (pe_callB call_len_seq rfl B.len bt_len (pa_cons (pv 6) pa_nil)) pa_nil))) (fun _ _ => rfl)))
    (pss_one (ps_if (pt_not (pt_val (pe_cal cK hr6 rfl (pa_cons (pv 4) (pa_cons (pv 10) (pa_cons (pv 7) (pa_cons (pv 8) pa_nil))))))) (pss_one (ps_ret pe_bl)) pss_nil))) pss_nil)
    (pss_one (ps_if (PW.pt (pw_and (pt_cmpR (op_neN hu0) (pv 7) (pe_lst pa_nil) (nomark _)) (pw_and1 (pt_not (pt_val (pe_cal cL hr6 rfl (pa_cons (pv 4) (pa_cons (pe_cal cN hr1 rfl (pa_cons (pv 9) (pa_cons (pe_callB call_len_seq rfl B.len bt_len (pa_cons (pv 7) pa_nil)) pa_nil))) (pa_cons (pv 7) pa_nil))))))))) (pss_one (ps_ret pe_bl)) pss_nil))))
    (pss_one (ps_ret (pe_cmpR (op_eqS hr1.units) (pe_ix ix_tup (pv 4) pe_int (fun _ _ => rfl)) (pv 3) (nomark _)))))))))))))), ?_⟩
  refine ⟨_, rfl, a0, ns0, rfl, hS, h63, fun pc ms hpc m0 m63 => ?_⟩
  obtain ⟨m, mt, rfl⟩ : ∃ m mt, ms = m :: mt := by
    cases ms with
    | nil => cases m0
    | cons m t => exact ⟨m, t, rfl⟩
  have c0 : upd H pc (.lst ((m :: mt).map V.int)) pc = some (.lst ((m :: mt).map V.int)) := upd_same
  generalize upd H pc (.lst ((m :: mt).map V.int)) = H0 at *
  refine ⟨_, rfl, pc, _, _, _, rfl, rfl, SqL.of c0, at0, ?_⟩
  refine ⟨(by show 2 ≤ sizeLine; decide), fun r hr0 => ?_⟩
  have P1 : PotAt (upd H0 r (.lst [.int m, .int 0])) r := ⟨_, _, upd_same⟩
  have c1 := Same.new hr0 (.lst [.int m, .int 0]) _ _ c0
  have ncr : pc ≠ r := ne_of_none c0 hr0
  generalize upd H0 r (.lst [.int m, .int 0]) = H1 at *
  refine ⟨_, rfl, ?_⟩
  refine ⟨(by show 4 ≤ sizeLine; decide), fun pn hpn => ?_⟩
  have nnr : pn ≠ r := P1.nn hpn
  have P4 := P1.new hpn (.lst [.str "a", .str "bb", .str "rest", .str "low"])
  have c4 := Same.new hpn (.lst [.str "a", .str "bb", .str "rest", .str "low"]) _ _ c1
  have n4 : upd H1 pn (.lst [.str "a", .str "bb", .str "rest", .str "low"]) pn = some (.lst ((["a", "bb", "rest", "low"] : List Str).map V.str)) := upd_same
  generalize upd H1 pn (.lst [.str "a", .str "bb", .str "rest", .str "low"]) = H4 at *
  refine ⟨r, pn, 8, ["a", "bb", "rest", "low"], rfl, P4, by decide, by decide, n4, nnr, (Nat.le_refl 4), fun pb ub bs H5 hpb nbr b5 P5 X5 dr => ?_⟩
  have ok := dr.ok
  have l1 := dr.l1
  have l4 := dr.l4
  have hvol : vol bs ≤ 400 := by have := dr.vol; omega
  have c5 := b5 _ _ ncr c4
  clear b5 c4 c1 c0 P4 P1 hr0 hpc hpn hpb n4 nnr dr
  -- the program
  refine ⟨_, rfl, pb, ub, rfl, .inl (SqL.of X5.at_), fun g1 hg1 => ?_⟩
  have e1 := Same.new hg1 (.lst ub)
  refine ⟨(by show 2 ≤ sizeLine; decide), fun g2 hg2 => ?_⟩
  have e2 := Same.new hg2 (.tup [.str "mark", .str "m"])
  refine ⟨(by show 2 ≤ sizeLine; decide), fun g3 hg3 => ?_⟩
  have e3 := Same.new hg3 (.tup [.str "ask", .int 0])
  refine ⟨(by show 2 ≤ sizeLine; decide), fun g4 hg4 => ?_⟩
  have e4 := Same.new hg4 (.lst [.ref g2, .ref g3])
  refine ⟨(by show 2 ≤ sizeLine; decide), fun g5 hg5 => ?_⟩
  have e5 := Same.new hg5 (.tup [.ref g1, .ref g4])
  have e25 := ((e2.trans e3).trans e4).trans e5
  have e15 := e1.trans e25
  have t1 := e25 _ _ (upd_same (H := H5) (a := g1) (o := .lst ub))
  have t5 : (upd (upd (upd (upd (upd H5 g1 (.lst ub)) g2 (.tup [.str "mark", .str "m"])) g3 (.tup [.str "ask", .int 0])) g4 (.lst [.ref g2, .ref g3])) g5 (.tup [.ref g1, .ref g4])) g5 = some (.tup [.ref g1, .ref g4]) := upd_same
  have ng1 : g1 ≠ r := P5.nn hg1
  have X6 := X5.same e15
  have P6 := P5.mono e15
  have c6 := e15 _ _ c5
  clear e1 e2 e3 e4 e5 e25 e15 hg1 hg2 hg3 hg4 hg5 X5 P5 c5
  generalize (upd (upd (upd (upd (upd H5 g1 (.lst ub)) g2 (.tup [.str "mark", .str "m"])) g3 (.tup [.str "ask", .int 0])) g4 (.lst [.ref g2, .ref g3])) g5 (.tup [.ref g1, .ref g4])) = H6 at *
  have B6 : BoxesAt H6 g1 ub bs := ⟨t1, X6.each⟩
  -- the pots
  refine ⟨_, rfl, (by show 1 ≤ sizeLine; decide), fun q1 hq1 => ?_⟩
  have e8 := Same.new hq1 (.lst [.ref r])
  have q8 : upd H6 q1 (.lst [.ref r]) q1 = some (.lst [.ref r]) := upd_same
  have c8 := e8 _ _ c6
  generalize upd H6 q1 (.lst [.ref r]) = H11 at *
  refine ⟨_, rfl, _, rfl, pc, _, rfl, SqL.of c8, fun ps hps => ?_⟩
  have e9 := Same.new hps (.lst (cutV ((m :: mt).map V.int) (some 1) none))
  have s9 : upd H11 ps (.lst (cutV ((m :: mt).map V.int) (some 1) none)) ps = some (.lst (cutV ((m :: mt).map V.int) (some 1) none)) := upd_same
  have q9 := e9 _ _ q8
  have e89 := e8.trans e9
  have cml : ∀ x ∈ cutV ((m :: mt).map V.int) (some 1) none, ∃ z, x = V.int z := fun x hx => by
    obtain ⟨z, _, e⟩ := List.mem_map.mp (cut_mem' hx)
    exact ⟨z, e.symm⟩
  have cll := cutV_length ((m :: mt).map V.int) (some 1) none
  rw [List.length_map] at cll
  generalize upd H11 ps (.lst (cutV ((m :: mt).map V.int) (some 1) none)) = H12 at *
  generalize cutV ((m :: mt).map V.int) (some 1) none = cs at *
  refine ⟨ps, rfl, ⟨_, SqL.of s9⟩, fun D hD => ?_⟩
  refine lc_list (K := K) (a := ps) (xs := cs) (fun i ys σ H' => ∃ (as : List Addr) (c0 : Option V), σ = [c0] ∧ ys = as.map V.ref ∧ H' D = some (.lst ys) ∧ Same H12 H' ∧ (∀ c ∈ as, PotAt H' c ∧ H12 c = none ∧ c ≠ D) ∧ as.length ≤ i)
    ⟨[], none, rfl, rfl, upd_same, Same.new hD _, (fun c hc => nomatch hc), Nat.le_refl _⟩ (fun i ys σ H' _ hh => by obtain ⟨_, _, _, _, _, s, _, _⟩ := hh; exact SqL.of (s _ _ s9)) ?_ ?_
  · rintro i x ys σ H' hi ⟨as, c0, rfl, rfl, hD', s', hA, hl⟩
    obtain ⟨z, rfl⟩ := cml x (List.mem_of_getElem? hi)
    have hil := (List.getElem?_eq_some_iff.mp hi).1
    refine lc_yes ⟨_, rfl, (by show 2 ≤ sizeLine; decide), fun t ht => ?_⟩
    have e' := Same.new ht (.lst [.int z, .int 50])
    have ntD : t ≠ D := (ne_of_none hD' ht).symm
    refine ⟨e' _ _ hD', small1000 (by rw [List.length_map]; omega), as ++ [t], _, rfl, by rw [List.map_append]; rfl, upd_same, fun c u e => ?_, fun c hc => ?_, by rw [List.length_append, List.length_singleton]; omega⟩
    · rw [upd_ne (ne_of_none e hD)]
      exact e' _ _ (s' _ _ e)
    · rcases List.mem_append.mp hc with z | z
      · obtain ⟨h1, h2, h3⟩ := hA c z
        exact ⟨(h1.mono e').up h3, h2, h3⟩
      · rw [List.mem_singleton.mp z]
        exact ⟨PotAt.up ⟨_, _, upd_same⟩ ntD, Same.free s' ht, ntD⟩
  rintro ys σ H13 ⟨as, c0, rfl, rfl, hD', s', hA, hl⟩
  have q13 := s' _ _ q9
  refine ⟨q1, D, _, _, rfl, rfl, q13, hD', sz' (by rw [List.length_map, List.length_singleton]; omega), fun pp hpp => ?_⟩
  have e11 := Same.new hpp (.lst ([.ref r] ++ as.map V.ref))
  have p11 : upd H13 pp (.lst ([.ref r] ++ as.map V.ref)) pp = some (.lst ((r :: as).map V.ref)) := upd_same
  have s'' := (e89.trans s').trans e11
  have old : ∀ {c : Addr} {u : HO}, H6 c = some u → c ≠ r → c ∉ r :: as := fun {c u} hc hcr z => by
    rcases List.mem_cons.mp z with z | z
    · exact hcr z
    · exact ne_of_none (e89 _ _ hc) (hA c z).2.1 rfl
  have PP : ∀ c ∈ r :: as, PotAt (upd H13 pp (.lst ([.ref r] ++ as.map V.ref))) c := fun c hc => by
    rcases List.mem_cons.mp hc with rfl | hc
    · exact P6.mono s''
    · exact (hA c hc).1.mono e11
  have rin : r ∈ r :: as := List.mem_cons_self
  have rsl : (r :: as).length ≤ 64 := by rw [List.length_cons]; omega
  have nppr : pp ∉ r :: as := fun z => by
    obtain ⟨x, y, h⟩ := PP pp z
    rw [p11] at h
    have h' := Option.some.inj h
    simp at h'
  have n1 := old X6.at_ nbr
  have n2 := old B6.at_ ng1
  have n5 : g5 ∉ r :: as := old t5 (P6.ne_tup t5)
  have X14 := X6.same s''
  have B14 := B6.same s''
  have t14 := s'' _ _ t5
  generalize upd H13 pp (.lst ([.ref r] ++ as.map V.ref)) = H14 at *
  clear q13 hD' s' hA e11 hD q9 s9 hl e89 e9 e8 q8 c8 hq1 hps hpp cml cll X6 B6 t5 P6 c6 s'' old t1
  generalize r :: as = rs at *
  -- all sayings
  refine ⟨_, rfl, g5, g1, .ref g4, ub, bs, rfl, t14, B14, ok, l4, fun pt ut H7 hpt e7 T7 tl => ?_⟩
  have n3 : pt ∉ rs := fun z => (PP pt z).nn hpt rfl
  have PP7 : ∀ c ∈ rs, PotAt H7 c := fun c hc => (PP c hc).mono e7
  have X7 := X14.same e7
  have B7 := B14.same e7
  have t7 := e7 _ _ t14
  have p7 := e7 _ _ p11
  clear e7 hpt X14 B14 t14 p11 PP
  refine ⟨_, rfl, _, rfl, pt, pb, pp, ut, ub, rs, sayl bs, bs, rfl, T7, tl, fun t ht => sayl_in ht, n3, X7, n1, ok, l4, p7, nppr, rsl, PP7, fun po uo os H15 hpo rb PQ Y15 om ol => ?_⟩
  have oin : ∀ o ∈ os, o.In bs.length := fun o ho => sayl_in (om o ho)
  have npor : po ∉ rs := fun z => (PP7 po z).nn hpo rfl
  have tupS : ∀ {c : Addr} {xs : List V}, H7 c = some (.tup xs) → H15 c = some (.tup xs) := fun {c xs} hc => rb _ _ (fun z => (PP7 c z).ne_tup hc rfl) hc
  have X15 : BoxesAt H15 pb ub bs := ⟨rb _ _ n1 X7.at_, X7.each.mono fun _ _ ⟨p, e, hp⟩ => ⟨p, e, tupS hp⟩⟩
  have B15 : BoxesAt H15 g1 ub bs := ⟨rb _ _ n2 B7.at_, B7.each.mono fun _ _ ⟨p, e, hp⟩ => ⟨p, e, tupS hp⟩⟩
  have G15 := tupS t7
  have p15 := rb _ _ nppr p7
  clear tupS rb X7 B7 T7 t7 p7 PP7 hpo om
  have hlo := Y15.each.1
  -- thinned
  refine ⟨_, rfl, _, rfl, po, uo, rfl, .inl (SqL.of Y15.at_), fun ph hph => ?_⟩
  have e19 := Same.new hph (.lst uo)
  have h19 : upd H15 ph (.lst uo) ph = some (.lst uo) := upd_same
  have Y19 := Y15.same e19
  generalize hH19 : upd H15 ph (.lst uo) = H19 at *
  refine ⟨g5, g1, ph, .ref g4, ub, uo, bs, os, rfl, e19 _ _ G15, B15.same e19, ok, l4, hvol, ⟨h19, Y19.each⟩, oin, by omega, fun pl H20 hpl e20 l20 => ?_⟩
  have e120 := e19.trans e20
  have Y20 := Y15.same e120
  have Z20 : SaysAt H20 pl ((keptAt (allv bs) os).map fun i => uo.getD i .non) (lsOf (allv bs) os) := says_part Y20.each (fun i hi => kept_lt' hi) l20
  obtain ⟨ul, hul⟩ : ∃ ul, ul = (keptAt (allv bs) os).map fun i => uo.getD i .non := ⟨_, rfl⟩
  rw [← hul] at Z20
  have lin : ∀ o ∈ lsOf (allv bs) os, o.In bs.length := fun o ho => oin o ((ls_sub (allv bs) os).subset ho)
  have lsl : (lsOf (allv bs) os).length ≤ 6000 := Nat.le_trans (ls_sub (allv bs) os).length_le ol
  have nlr : pl ∉ rs := fun z => ((PQ pl z).mono e19).nn hpl rfl
  refine ⟨_, rfl, _, _, _, _, rfl, .lst Z20.at_, kit_same K "list", _, rfl, iteF ?_⟩
  refine ⟨_, rfl, _, rfl, pl, po, ul, uo, _, os, rfl, Z20, Y20, ls_sub (allv bs) os, fun H21 e21 => ?_⟩
  refine ⟨_, rfl, iteF ?_⟩
  have e121 := e120.trans e21
  refine ⟨_, rfl, pb, ub, bs, rfl, X15.same e121, ok, l4, hvol, fun pz uz H22 hpz e22 V22 => ?_⟩
  have e122 := e121.trans e22
  have nzr : pz ∉ rs := fun z => ((PQ pz z).mono e121).nn hpz rfl
  have A22 : Al rs pp pb g1 g4 g5 po pl pz ub uo ul uz bs os H22 := ⟨fun a ha => (PQ a ha).mono e122, e122 _ _ p15, X15.same e122, Y15.same e122, ⟨e122 _ _ G15, B15.same e122, Z20.same (e21.trans e22), V22⟩, nppr, n1, n2, npor, nlr, nzr⟩
  have O : CsOk bs (lsOf (allv bs) os) := ⟨ok, l4, hvol, lin, lsl, ls_alone⟩
  clear e122 e121 e120 e22 e21 e20 e19 hpz hpl Z20 l20 Y20 Y19 h19 hH19 hph X15 B15 G15 p15 PQ Y15 V22
  -- the cases
  refine ⟨_, rfl, pp, rfl, ⟨_, SqL.of A22.pots⟩, for_list (K := K) (a := pp) (xs := rs.map V.ref) (fun i σ H' => (∃ c9 c10 : Option V, σ = [some (.ref a0), some (.ref pc), some (.ref r), some (.ref pb), some (.ref g5), some (.ref pp), some (.ref po), some (.ref pl), some (.ref pz), c9, c10]) ∧ Al rs pp pb g1 g4 g5 po pl pz ub uo ul uz bs os H')
    ⟨⟨none, none, rfl⟩, A22⟩ (fun i σ H' _ hh => by obtain ⟨_, A'⟩ := hh; exact SqL.of A'.pots) ?_ ?_⟩
  · rintro i x σ H' hi ⟨⟨c9, c10, rfl⟩, A1⟩
    obtain ⟨c, hc, rfl⟩ := List.mem_map.mp (List.mem_of_getElem? hi)
    have hll := A1.C.L.each.1
    refine gfor (seq_cut (fun σ' H2 => (∃ c10 : Option V, σ' = [some (.ref a0), some (.ref pc), some (.ref r), some (.ref pb), some (.ref g5), some (.ref pp), some (.ref po), some (.ref pl), some (.ref pz), some (.ref c), c10]) ∧ Al rs pp pb g1 g4 g5 po pl pz ub uo ul uz bs os H2) (fun R' hR' => ?_) ?_)
    · refine ⟨_, rfl, (by show 0 ≤ sizeLine; decide), fun pe hpe => ?_⟩
      have A2 := A1.same (Same.new hpe (.lst []))
      have h2 : upd H' pe (.lst []) pe = some (.lst []) := upd_same
      generalize upd H' pe (.lst []) = H2 at *
      refine ⟨po, pe, _, rfl, rfl, SqL.of A2.Y.at_, SqL.of h2, _, rfl, ?_⟩
      cases hz : uo.isEmpty with
      | true => exact iteF (hR' _ _ ⟨⟨_, rfl⟩, A2⟩)
      | false =>
        have hul1 : 1 ≤ uo.length := by
          cases uo with
          | nil => cases hz
          | cons a b => simp
        refine iteT ?_
        refine ⟨_, rfl, _, rfl, _, rfl, po, _, rfl, .inl (SqL.of A2.Y.at_), c, (uo.length : Int), rfl, A2.P c hc, few_of (by omega) (by omega), fun z H3 z0 z1 b3 P3 => ?_⟩
        obtain ⟨j, rfl⟩ := Int.eq_ofNat_of_zero_le z0
        have A3 := A2.but hc b3 P3
        obtain ⟨u, s, hu, hs, p, rfl, hp⟩ := A3.Y.each.get (i := j) (by omega)
        have hsm := List.mem_of_getElem? hs
        refine ⟨po, _, _, _, rfl, rfl, SqL.of A3.Y.at_, atI_nat hu, ?_⟩
        refine ⟨_, rfl, _, rfl, _, rfl, _, rfl, g1, g4, g5, p, pl, pz, ub, ul, uz, bs, os, s, rfl, hp, oin s hsm, hsm, A3.C, O, fun H4 e4 => ?_⟩
        exact ⟨_, rfl, iteF (hR' _ _ ⟨⟨_, rfl⟩, A3.same e4⟩)⟩
    rintro σ2 H2 ⟨⟨c10', rfl⟩, A2⟩
    refine ⟨_, rfl, (by show 0 ≤ sizeLine; decide), fun pe hpe => ?_⟩
    have A3 := A2.same (Same.new hpe (.lst []))
    have h3 : upd H2 pe (.lst []) pe = some (.lst []) := upd_same
    generalize upd H2 pe (.lst []) = H3 at *
    refine ⟨pl, pe, _, rfl, rfl, SqL.of A3.C.L.at_, SqL.of h3, _, rfl, ?_⟩
    cases hz : ul.isEmpty with
    | true => exact iteF ⟨⟨_, _, rfl⟩, A3⟩
    | false =>
      have hul1 : 1 ≤ ul.length := by
        cases ul with
        | nil => cases hz
        | cons a b => simp
      refine iteT ?_
      refine ⟨_, rfl, _, rfl, _, rfl, pl, _, rfl, .inl (SqL.of A3.C.L.at_), c, (ul.length : Int), rfl, A3.P c hc, few_of (by omega) (by omega), fun z H4 z0 z1 b4 P4 => ?_⟩
      obtain ⟨j, rfl⟩ := Int.eq_ofNat_of_zero_le z0
      have A4 := A3.but hc b4 P4
      refine ⟨_, rfl, g1, g4, g5, pl, pz, ub, ul, uz, bs, _, j, rfl, A4.C, O, by omega, fun H5 e5 => ?_⟩
      exact ⟨_, rfl, iteF ⟨⟨_, _, rfl⟩, A4.same e5⟩⟩
  rintro σ H3 ⟨⟨c9, c10, rfl⟩, A3⟩
  have refb : ∀ u ∈ ub, Pl u := fun u hu => by
    obtain ⟨i, hi, e⟩ := List.getElem_of_mem hu
    obtain ⟨o, _, p, e', _⟩ := A3.X.each.at (i := i) (x := u) (by rw [List.getElem?_eq_getElem hi, e])
    exact .inr ⟨p, e'⟩
  exact ⟨_, rfl, g5, _, _, _, rfl, rfl, SqT.of A3.C.G, rfl, _, rfl, g1, pb, ub, rfl, rfl, A3.C.B.at_, A3.X.at_, refb, q _⟩
end

/-! ### the program's top -/
theorem ln1 {α : Type} {us : List α} (h : us.length = 1) : ∃ a0, us = [a0] := match us, h with | [a0], _ => ⟨a0, rfl⟩
theorem ln2 {α : Type} {us : List α} (h : us.length = 2) : ∃ a0 a1, us = [a0, a1] := match us, h with | [a0, a1], _ => ⟨a0, a1, rfl⟩
theorem ln3 {α : Type} {us : List α} (h : us.length = 3) : ∃ a0 a1 a2, us = [a0, a1, a2] := match us, h with | [a0, a1, a2], _ => ⟨a0, a1, a2, rfl⟩
theorem ln4 {α : Type} {us : List α} (h : us.length = 4) : ∃ a0 a1 a2 a3, us = [a0, a1, a2, a3] := match us, h with | [a0, a1, a2, a3], _ => ⟨a0, a1, a2, a3, rfl⟩
theorem all_mk {l : PySem.W.OpenLaw} {w : World} {K : PySem.W.Frag} {h : Heap} {mg : Str → Option Value} {fa f1 f2 f3 f4 f5 f6 f7 f8 f9 f10 f11 f12 f13 f14 f15 f16 f17 f18 f19 f20 f21 f22 f23 f24 f25 f26 f27 f28 f29 f30 f31 f32 f33 f34 f35 f36 f37 f38 f39 : Addr} (X : K.In h) (G : h.Ns mainGlobals mg) (hfa : mg "law" = some (.ref fa))
    {od1 an1 od2 an2 od3 an3 od4 an4 od5 an5 od6 an6 od7 an7 od8 an8 od9 an9 od10 an10 od11 an11 od12 an12 od13 an13 od14 an14 od15 an15 od16 an16 od17 an17 od18 an18 od19 an19 od20 an20 od21 an21 od22 an22 od23 an23 od24 an24 od25 an25 od26 an26 od27 an27 od28 an28 od29 an29 od30 an30 od31 an31 od32 an32 od33 an33 od34 an34 od35 an35 od36 an36 od37 an37 od38 an38 od39 an39 : Option Addr} {sl1 sl2 sl3 sl4 sl5 sl6 sl7 sl8 sl9 sl10 sl11 sl12 sl13 sl14 sl15 sl16 sl17 sl18 sl19 sl20 sl21 sl22 sl23 sl24 sl25 sl26 sl27 sl28 sl29 sl30 sl31 sl32 sl33 sl34 sl35 sl36 sl37 sl38 sl39 : Array (Option Value)} {oc1 kV1 dc1 pm1 cd1 ct1 oc2 kV2 dc2 pm2 cd2 ct2 oc3 kV3 dc3 pm3 cd3 ct3 oc4 kV4 dc4 pm4 cd4 ct4 oc5 kV5 dc5 pm5 cd5 ct5 oc6 kV6 dc6 pm6 cd6 ct6 oc7 kV7 dc7 pm7 cd7 ct7 oc8 kV8 dc8 pm8 cd8 ct8 oc9 kV9 dc9 pm9 cd9 ct9 oc10 kV10 dc10 pm10 cd10 ct10 oc11 kV11 dc11 pm11 cd11 ct11 oc12 kV12 dc12 pm12 cd12 ct12 oc13 kV13 dc13 pm13 cd13 ct13 oc14 kV14 dc14 pm14 cd14 ct14 oc15 kV15 dc15 pm15 cd15 ct15 oc16 kV16 dc16 pm16 cd16 ct16 oc17 kV17 dc17 pm17 cd17 ct17 oc18 kV18 dc18 pm18 cd18 ct18 oc19 kV19 dc19 pm19 cd19 ct19 oc20 kV20 dc20 pm20 cd20 ct20 oc21 kV21 dc21 pm21 cd21 ct21 oc22 kV22 dc22 pm22 cd22 ct22 oc23 kV23 dc23 pm23 cd23 ct23 oc24 kV24 dc24 pm24 cd24 ct24 oc25 kV25 dc25 pm25 cd25 ct25 oc26 kV26 dc26 pm26 cd26 ct26 oc27 kV27 dc27 pm27 cd27 ct27 oc28 kV28 dc28 pm28 cd28 ct28 oc29 kV29 dc29 pm29 cd29 ct29 oc30 kV30 dc30 pm30 cd30 ct30 oc31 kV31 dc31 pm31 cd31 ct31 oc32 kV32 dc32 pm32 cd32 ct32 oc33 kV33 dc33 pm33 cd33 ct33 oc34 kV34 dc34 pm34 cd34 ct34 oc35 kV35 dc35 pm35 cd35 ct35 oc36 kV36 dc36 pm36 cd36 ct36 oc37 kV37 dc37 pm37 cd37 ct37 oc38 kV38 dc38 pm38 cd38 ct38 oc39 kV39 dc39 pm39 cd39 ct39 : Value} {gr1 : Addr} {go1 : Option Addr} {gn1 : Nat} {gs1 : Array (Option Value)} {gk1_0 gk1_1 gk1_2 gk1_3 gk1_4 gk1_5 : Tok} {hk1 : Tok} {hk2 : Tok} {hk3 : Tok} {hk4 : Tok} {hk5 : Tok}
    (a1 : PySem.W.nsIn K mainGlobals "with_number" = some (some (.ref f1))) (l1 : K.lookup f1 = some ⟨oc1, od1, .func (PySem.W.fnOf "with_number" "with_number" (defArgs sPWithNumber) (defBody sPWithNumber) (defScope sPWithNumber) .none kV1 dc1 pm1 an1 cd1 ct1), sl1⟩) (c1 : PySem.W.codeIn K cd1 "with_number" = true) (k1 : PySem.W.keepIn K (.ref f1) = true)
    (a2 : PySem.W.nsIn K mainGlobals "rests" = some (some (.ref f2))) (l2 : K.lookup f2 = some ⟨oc2, od2, .func (PySem.W.fnOf "rests" "rests" (defArgs sPRests) (defBody sPRests) (defScope sPRests) .none kV2 dc2 pm2 an2 cd2 ct2), sl2⟩) (c2 : PySem.W.codeIn K cd2 "rests" = true) (k2 : PySem.W.keepIn K (.ref f2) = true)
    (a3 : PySem.W.nsIn K mainGlobals "eithers" = some (some (.ref f3))) (l3 : K.lookup f3 = some ⟨oc3, od3, .func (PySem.W.fnOf "eithers" "eithers" (defArgs sPEithers) (defBody sPEithers) (defScope sPEithers) .none kV3 dc3 pm3 an3 cd3 ct3), sl3⟩) (c3 : PySem.W.codeIn K cd3 "eithers" = true) (k3 : PySem.W.keepIn K (.ref f3) = true)
    (a4 : PySem.W.nsIn K mainGlobals "rising_pairs" = some (some (.ref f4))) (l4 : K.lookup f4 = some ⟨oc4, od4, .func (PySem.W.fnOf "rising_pairs" "rising_pairs" (defArgs sPRisingPairs) (defBody sPRisingPairs) (defScope sPRisingPairs) .none kV4 dc4 pm4 an4 cd4 ct4), sl4⟩) (c4 : PySem.W.codeIn K cd4 "rising_pairs" = true) (k4 : PySem.W.keepIn K (.ref f4) = true)
    (a5 : PySem.W.nsIn K mainGlobals "unlike_pairs" = some (some (.ref f5))) (l5 : K.lookup f5 = some ⟨oc5, od5, .func (PySem.W.fnOf "unlike_pairs" "unlike_pairs" (defArgs sPUnlikePairs) (defBody sPUnlikePairs) (defScope sPUnlikePairs) .none kV5 dc5 pm5 an5 cd5 ct5), sl5⟩) (c5 : PySem.W.codeIn K cd5 "unlike_pairs" = true) (k5 : PySem.W.keepIn K (.ref f5) = true)
    (a6 : PySem.W.nsIn K mainGlobals "with_pair" = some (some (.ref f6))) (l6 : K.lookup f6 = some ⟨oc6, od6, .func (PySem.W.fnOf "with_pair" "with_pair" (defArgs sPWithPair) (defBody sPWithPair) (defScope sPWithPair) .none kV6 dc6 pm6 an6 cd6 ct6), sl6⟩) (c6 : PySem.W.codeIn K cd6 "with_pair" = true) (k6 : PySem.W.keepIn K (.ref f6) = true)
    (a7 : PySem.W.nsIn K mainGlobals "with_pair_and_number" = some (some (.ref f7))) (l7 : K.lookup f7 = some ⟨oc7, od7, .func (PySem.W.fnOf "with_pair_and_number" "with_pair_and_number" (defArgs sPWithPairAndNumber) (defBody sPWithPairAndNumber) (defScope sPWithPairAndNumber) .none kV7 dc7 pm7 an7 cd7 ct7), sl7⟩) (c7 : PySem.W.codeIn K cd7 "with_pair_and_number" = true) (k7 : PySem.W.keepIn K (.ref f7) = true)
    (a8 : PySem.W.nsIn K mainGlobals "gaps" = some (some (.ref f8))) (l8 : K.lookup f8 = some ⟨oc8, od8, .func (PySem.W.fnOf "gaps" "gaps" (defArgs sPGaps) (defBody sPGaps) (defScope sPGaps) .none kV8 dc8 pm8 an8 cd8 ct8), sl8⟩) (c8 : PySem.W.codeIn K cd8 "gaps" = true) (k8 : PySem.W.keepIn K (.ref f8) = true)
    (a9 : PySem.W.nsIn K mainGlobals "with_three" = some (some (.ref f9))) (l9 : K.lookup f9 = some ⟨oc9, od9, .func (PySem.W.fnOf "with_three" "with_three" (defArgs sPWithThree) (defBody sPWithThree) (defScope sPWithThree) .none kV9 dc9 pm9 an9 cd9 ct9), sl9⟩) (c9 : PySem.W.codeIn K cd9 "with_three" = true) (k9 : PySem.W.keepIn K (.ref f9) = true)
    (a10 : PySem.W.nsIn K mainGlobals "sayings" = some (some (.ref f10))) (l10 : K.lookup f10 = some ⟨oc10, od10, .func (PySem.W.fnOf "sayings" "sayings" (defArgs sPSayings) (defBody sPSayings) (defScope sPSayings) .none kV10 dc10 pm10 an10 cd10 ct10), sl10⟩) (c10 : PySem.W.codeIn K cd10 "sayings" = true) (k10 : PySem.W.keepIn K (.ref f10) = true)
    (a11 : PySem.W.nsIn K mainGlobals "is_so_of_one" = some (some (.ref f11))) (l11 : K.lookup f11 = some ⟨oc11, od11, .func (PySem.W.fnOf "is_so_of_one" "is_so_of_one" (defArgs sPIsSoOfOne) (defBody sPIsSoOfOne) (defScope sPIsSoOfOne) .none kV11 dc11 pm11 an11 cd11 ct11), sl11⟩) (c11 : PySem.W.codeIn K cd11 "is_so_of_one" = true) (k11 : PySem.W.keepIn K (.ref f11) = true)
    (a12 : PySem.W.nsIn K mainGlobals "is_so_of_two" = some (some (.ref f12))) (l12 : K.lookup f12 = some ⟨oc12, od12, .func (PySem.W.fnOf "is_so_of_two" "is_so_of_two" (defArgs sPIsSoOfTwo) (defBody sPIsSoOfTwo) (defScope sPIsSoOfTwo) .none kV12 dc12 pm12 an12 cd12 ct12), sl12⟩) (c12 : PySem.W.codeIn K cd12 "is_so_of_two" = true) (k12 : PySem.W.keepIn K (.ref f12) = true)
    (a13 : PySem.W.nsIn K mainGlobals "is_so" = some (some (.ref f13))) (l13 : K.lookup f13 = some ⟨oc13, od13, .func (PySem.W.fnOf "is_so" "is_so" (defArgs sPIsSo) (defBody sPIsSo) (defScope sPIsSo) .none kV13 dc13 pm13 an13 cd13 ct13), sl13⟩) (c13 : PySem.W.codeIn K cd13 "is_so" = true) (k13 : PySem.W.keepIn K (.ref f13) = true)
    (a14 : PySem.W.nsIn K mainGlobals "lengthened" = some (some (.ref f14))) (l14 : K.lookup f14 = some ⟨oc14, od14, .func (PySem.W.fnOf "lengthened" "lengthened" (defArgs sPLengthened) (defBody sPLengthened) (defScope sPLengthened) .none kV14 dc14 pm14 an14 cd14 ct14), sl14⟩) (c14 : PySem.W.codeIn K cd14 "lengthened" = true) (k14 : PySem.W.keepIn K (.ref f14) = true)
    (a15 : PySem.W.nsIn K mainGlobals "all_values" = some (some (.ref f15))) (l15 : K.lookup f15 = some ⟨oc15, od15, .func (PySem.W.fnOf "all_values" "all_values" (defArgs sPAllValues) (defBody sPAllValues) (defScope sPAllValues) .none kV15 dc15 pm15 an15 cd15 ct15), sl15⟩) (c15 : PySem.W.codeIn K cd15 "all_values" = true) (k15 : PySem.W.keepIn K (.ref f15) = true)
    (a16 : PySem.W.nsIn K mainGlobals "are_so" = some (some (.ref f16))) (l16 : K.lookup f16 = some ⟨oc16, od16, .func (PySem.W.fnOf "are_so" "are_so" (defArgs sPAreSo) (defBody sPAreSo) (defScope sPAreSo) .none kV16 dc16 pm16 an16 cd16 ct16), sl16⟩) (c16 : PySem.W.codeIn K cd16 "are_so" = true) (k16 : PySem.W.keepIn K (.ref f16) = true)
    (a17 : PySem.W.nsIn K mainGlobals "follows" = some (some (.ref f17))) (l17 : K.lookup f17 = some ⟨oc17, od17, .func (PySem.W.fnOf "follows" "follows" (defArgs sPFollows) (defBody sPFollows) (defScope sPFollows) .none kV17 dc17 pm17 an17 cd17 ct17), sl17⟩) (c17 : PySem.W.codeIn K cd17 "follows" = true) (k17 : PySem.W.keepIn K (.ref f17) = true)
    (a18 : PySem.W.nsIn K mainGlobals "bits_of" = some (some (.ref f18))) (l18 : K.lookup f18 = some ⟨oc18, od18, .func (PySem.W.fnOf "bits_of" "bits_of" (defArgs sPBitsOf) (defBody sPBitsOf) (defScope sPBitsOf) .none kV18 dc18 pm18 an18 cd18 ct18), sl18⟩) (c18 : PySem.W.codeIn K cd18 "bits_of" = true) (k18 : PySem.W.keepIn K (.ref f18) = true)
    (a19 : PySem.W.nsIn K mainGlobals "so_bits" = some (some (.ref f19))) (l19 : K.lookup f19 = some ⟨oc19, od19, .func (PySem.W.fnOf "so_bits" "so_bits" (defArgs sPSoBits) (defBody sPSoBits) (defScope sPSoBits) .none kV19 dc19 pm19 an19 cd19 ct19), sl19⟩) (c19 : PySem.W.codeIn K cd19 "so_bits" = true) (k19 : PySem.W.keepIn K (.ref f19) = true)
    (a20 : PySem.W.nsIn K mainGlobals "bits_ahead" = some (some (.ref f20))) (l20 : K.lookup f20 = some ⟨oc20, od20, .func (PySem.W.fnOf "bits_ahead" "bits_ahead" (defArgs sPBitsAhead) (defBody sPBitsAhead) (defScope sPBitsAhead) .none kV20 dc20 pm20 an20 cd20 ct20), sl20⟩) (c20 : PySem.W.codeIn K cd20 "bits_ahead" = true) (k20 : PySem.W.keepIn K (.ref f20) = true)
    (a21 : PySem.W.nsIn K mainGlobals "thinned" = some (some (.ref f21))) (l21 : K.lookup f21 = some ⟨oc21, od21, .func (PySem.W.fnOf "thinned" "thinned" (defArgs sPThinned) (defBody sPThinned) (defScope sPThinned) .none kV21 dc21 pm21 an21 cd21 ct21), sl21⟩) (c21 : PySem.W.codeIn K cd21 "thinned" = true) (k21 : PySem.W.keepIn K (.ref f21) = true)
    (a22 : PySem.W.nsIn K mainGlobals "first_places" = some (some (.ref f22))) (l22 : K.lookup f22 = some ⟨oc22, od22, .func (PySem.W.fnOf "first_places" "first_places" (defArgs sPFirstPlaces) (defBody sPFirstPlaces) (defScope sPFirstPlaces) .none kV22 dc22 pm22 an22 cd22 ct22), sl22⟩) (c22 : PySem.W.codeIn K cd22 "first_places" = true) (k22 : PySem.W.keepIn K (.ref f22) = true)
    (a23 : PySem.W.nsIn K mainGlobals "first_enough" = some (some (.ref f23))) (l23 : K.lookup f23 = some ⟨oc23, od23, .func (PySem.W.fnOf "first_enough" "first_enough" (defArgs sPFirstEnough) (defBody sPFirstEnough) (defScope sPFirstEnough) .none kV23 dc23 pm23 an23 cd23 ct23), sl23⟩) (c23 : PySem.W.codeIn K cd23 "first_enough" = true) (k23 : PySem.W.keepIn K (.ref f23) = true)
    (a24 : PySem.W.nsIn K mainGlobals "reason" = some (some (.ref f24))) (l24 : K.lookup f24 = some ⟨oc24, od24, .func (PySem.W.fnOf "reason" "reason" (defArgs sPReason) (defBody sPReason) (defScope sPReason) .none kV24 dc24 pm24 an24 cd24 ct24), sl24⟩) (c24 : PySem.W.codeIn K cd24 "reason" = true) (k24 : PySem.W.keepIn K (.ref f24) = true)
    (a25 : PySem.W.nsIn K mainGlobals "_law_next" = some (some (.ref f25))) (l25 : K.lookup f25 = some ⟨oc25, od25, .func (PySem.W.fnOf "_law_next" "_law_next" (defArgs sNext) (defBody sNext) (defScope sNext) .none kV25 dc25 pm25 an25 cd25 ct25), sl25⟩) (c25 : PySem.W.codeIn K cd25 "_law_next" = true) (k25 : PySem.W.keepIn K (.ref f25) = true)
    (a26 : PySem.W.nsIn K mainGlobals "_law_cells" = some (some (.ref f26))) (l26 : K.lookup f26 = some ⟨oc26, od26, .func (PySem.W.fnOf "_law_cells" "_law_cells" (defArgs sCells) (defBody sCells) (defScope sCells) .none kV26 dc26 pm26 an26 cd26 ct26), sl26⟩) (c26 : PySem.W.codeIn K cd26 "_law_cells" = true) (k26 : PySem.W.keepIn K (.ref f26) = true)
    (a27 : PySem.W.nsIn K mainGlobals "_law_boxes" = some (some (.ref f27))) (l27 : K.lookup f27 = some ⟨oc27, od27, .func (PySem.W.fnOf "_law_boxes" "_law_boxes" (defArgs sBoxes) (defBody sBoxes) (defScope sBoxes) .none kV27 dc27 pm27 an27 cd27 ct27), sl27⟩) (c27 : PySem.W.codeIn K cd27 "_law_boxes" = true) (k27 : PySem.W.keepIn K (.ref f27) = true)
    (a28 : PySem.W.nsIn K mainGlobals "_law_values" = some (some (.ref f28))) (l28 : K.lookup f28 = some ⟨oc28, od28, .func (PySem.W.fnOf "_law_values" "_law_values" (defArgs sValues) (defBody sValues) (defScope sValues) .none kV28 dc28 pm28 an28 cd28 ct28), sl28⟩) (c28 : PySem.W.codeIn K cd28 "_law_values" = true) (k28 : PySem.W.keepIn K (.ref f28) = true)
    (a29 : PySem.W.nsIn K mainGlobals "_law_so" = some (some (.ref f29))) (l29 : K.lookup f29 = some ⟨oc29, od29, .func (PySem.W.fnOf "_law_so" "_law_so" (defArgs sSo) (defBody sSo) (defScope sSo) .none kV29 dc29 pm29 an29 cd29 ct29), sl29⟩) (c29 : PySem.W.codeIn K cd29 "_law_so" = true) (k29 : PySem.W.keepIn K (.ref f29) = true)
    (a30 : PySem.W.nsIn K mainGlobals "_law_all" = some (some (.ref f30))) (l30 : K.lookup f30 = some ⟨oc30, od30, .func (PySem.W.fnOf "_law_all" "_law_all" (defArgs sAll) (defBody sAll) (defScope sAll) .none kV30 dc30 pm30 an30 cd30 ct30), sl30⟩) (c30 : PySem.W.codeIn K cd30 "_law_all" = true) (k30 : PySem.W.keepIn K (.ref f30) = true)
    (a31 : PySem.W.nsIn K mainGlobals "_law_alike" = some (some (.ref f31))) (l31 : K.lookup f31 = some ⟨oc31, od31, .func (PySem.W.fnOf "_law_alike" "_law_alike" (defArgs sAlike) (defBody sAlike) (defScope sAlike) .none kV31 dc31 pm31 an31 cd31 ct31), sl31⟩) (c31 : PySem.W.codeIn K cd31 "_law_alike" = true) (k31 : PySem.W.keepIn K (.ref f31) = true)
    (a32 : PySem.W.nsIn K mainGlobals "_law_held" = some (some (.ref f32))) (l32 : K.lookup f32 = some ⟨oc32, od32, .func (PySem.W.fnOf "_law_held" "_law_held" (defArgs sHeld) (defBody sHeld) (defScope sHeld) .none kV32 dc32 pm32 an32 cd32 ct32), sl32⟩) (c32 : PySem.W.codeIn K cd32 "_law_held" = true) (k32 : PySem.W.keepIn K (.ref f32) = true)
    (a33 : PySem.W.nsIn K mainGlobals "_law_within" = some (some (.ref f33))) (l33 : K.lookup f33 = some ⟨oc33, od33, .func (PySem.W.fnOf "_law_within" "_law_within" (defArgs sWithin) (defBody sWithin) (defScope sWithin) .none kV33 dc33 pm33 an33 cd33 ct33), sl33⟩) (c33 : PySem.W.codeIn K cd33 "_law_within" = true) (k33 : PySem.W.keepIn K (.ref f33) = true)
    (a34 : PySem.W.nsIn K mainGlobals "_law_bits" = some (some (.ref f34))) (l34 : K.lookup f34 = some ⟨oc34, od34, .func (PySem.W.fnOf "_law_bits" "_law_bits" (defArgs sBits) (defBody sBits) (defScope sBits) .none kV34 dc34 pm34 an34 cd34 ct34), sl34⟩) (c34 : PySem.W.codeIn K cd34 "_law_bits" = true) (k34 : PySem.W.keepIn K (.ref f34) = true)
    (a35 : PySem.W.nsIn K mainGlobals "_law_enough" = some (some (.ref f35))) (l35 : K.lookup f35 = some ⟨oc35, od35, .func (PySem.W.fnOf "_law_enough" "_law_enough" (defArgs sEnough) (defBody sEnough) (defScope sEnough) .none kV35 dc35 pm35 an35 cd35 ct35), sl35⟩) (c35 : PySem.W.codeIn K cd35 "_law_enough" = true) (k35 : PySem.W.keepIn K (.ref f35) = true)
    (a36 : PySem.W.nsIn K mainGlobals "_law_good_reason" = some (some (.ref f36))) (l36 : K.lookup f36 = some ⟨oc36, od36, .func (PySem.W.fnOf "_law_good_reason" "_law_good_reason" (defArgs sGoodReason) (defBody sGoodReason) (defScope sGoodReason) .none kV36 dc36 pm36 an36 cd36 ct36), sl36⟩) (c36 : PySem.W.codeIn K cd36 "_law_good_reason" = true) (k36 : PySem.W.keepIn K (.ref f36) = true)
    (a37 : PySem.W.nsIn K mainGlobals "_law_case" = some (some (.ref f37))) (l37 : K.lookup f37 = some ⟨oc37, od37, .func (PySem.W.fnOf "_law_case" "_law_case" (defArgs sCase) (defBody sCase) (defScope sCase) .none kV37 dc37 pm37 an37 cd37 ct37), sl37⟩) (c37 : PySem.W.codeIn K cd37 "_law_case" = true) (k37 : PySem.W.keepIn K (.ref f37) = true)
    (a38 : PySem.W.nsIn K mainGlobals "_law_alone" = some (some (.ref f38))) (l38 : K.lookup f38 = some ⟨oc38, od38, .func (PySem.W.fnOf "_law_alone" "_law_alone" (defArgs sAlone) (defBody sAlone) (defScope sAlone) .none kV38 dc38 pm38 an38 cd38 ct38), sl38⟩) (c38 : PySem.W.codeIn K cd38 "_law_alone" = true) (k38 : PySem.W.keepIn K (.ref f38) = true)
    (a39 : PySem.W.nsIn K mainGlobals "law" = some (some (.ref f39))) (l39 : K.lookup f39 = some ⟨oc39, od39, .func (PySem.W.fnOf "law" "law" (defArgs sLaw) (defBody sLaw) (defScope sLaw) .none kV39 dc39 pm39 an39 cd39 ct39), sl39⟩) (c39 : PySem.W.codeIn K cd39 "law" = true) (k39 : PySem.W.keepIn K (.ref f39) = true)
    (g1 : PySem.W.nsIn K mainGlobals "OF_ONE_BOX" = some (some (.ref gr1))) (gl1 : K.lookup gr1 = some ⟨.type "tuple", go1, .seq #[.str "is" gk1_0, .str "from" gk1_1, .str "to" gk1_2, .str "rest" gk1_3, .str "either" gk1_4, .str "never" gk1_5] gn1, gs1⟩)
    (i1 : PySem.W.nsIn K mainGlobals "LEAST_DIVISOR" = some (some (.int 2 hk1)))
    (i2 : PySem.W.nsIn K mainGlobals "MOST_DIVISOR" = some (some (.int 6 hk2)))
    (i3 : PySem.W.nsIn K mainGlobals "WIDEST_GAP" = some (some (.int 20 hk3)))
    (i4 : PySem.W.nsIn K mainGlobals "WIDEST_SUM" = some (some (.int 40 hk4)))
    (i5 : PySem.W.nsIn K mainGlobals "MOST_REASONS" = some (some (.int 3 hk5)))
    (z1 : PySem.W.nsIn K mainGlobals "all" = some none) (z2 : PySem.W.nsIn K mainGlobals "bool" = some none) (z3 : PySem.W.nsIn K mainGlobals "enumerate" = some none) (z4 : PySem.W.nsIn K mainGlobals "int" = some none) (z5 : PySem.W.nsIn K mainGlobals "isinstance" = some none) (z6 : PySem.W.nsIn K mainGlobals "len" = some none) (z7 : PySem.W.nsIn K mainGlobals "list" = some none) (z8 : PySem.W.nsIn K mainGlobals "min" = some none) (z9 : PySem.W.nsIn K mainGlobals "range" = some none) (z10 : PySem.W.nsIn K mainGlobals "reversed" = some none) (z11 : PySem.W.nsIn K mainGlobals "str" = some none) (z12 : PySem.W.nsIn K mainGlobals "tuple" = some none) :
    ∃ fd : FuncData, (∀ (s : Shared) (v : Value), BindsTo s fd ⟨[v], []⟩ [("script", v)]) ∧ ∀ base : Heap, K.In base → base.Ns mainGlobals mg → FnOk l.prog w K mg base CX0 7 fa fd ["script"] (spLaw K) := by
  have e := hfa.symm.trans (PySem.W.mg_of X G a39)
  cases e
  have h_with_number : Has K mg "with_number" sPWithNumber ["form", "boxes", "above", "below"] := Has.mk X G a1 l1 c1 k1 fun _ _ _ _ _ _ us hl => by obtain ⟨_, _, _, _, rfl⟩ := ln4 hl; rfl
  have h_rests : Has K mg "rests" sPRests ["boxes"] := Has.mk X G a2 l2 c2 k2 fun _ _ _ _ _ _ us hl => by obtain ⟨_, rfl⟩ := ln1 hl; rfl
  have h_eithers : Has K mg "eithers" sPEithers ["boxes"] := Has.mk X G a3 l3 c3 k3 fun _ _ _ _ _ _ us hl => by obtain ⟨_, rfl⟩ := ln1 hl; rfl
  have h_rising_pairs : Has K mg "rising_pairs" sPRisingPairs ["boxes"] := Has.mk X G a4 l4 c4 k4 fun _ _ _ _ _ _ us hl => by obtain ⟨_, rfl⟩ := ln1 hl; rfl
  have h_unlike_pairs : Has K mg "unlike_pairs" sPUnlikePairs ["boxes"] := Has.mk X G a5 l5 c5 k5 fun _ _ _ _ _ _ us hl => by obtain ⟨_, rfl⟩ := ln1 hl; rfl
  have h_with_pair : Has K mg "with_pair" sPWithPair ["form", "pairs"] := Has.mk X G a6 l6 c6 k6 fun _ _ _ _ _ _ us hl => by obtain ⟨_, _, rfl⟩ := ln2 hl; rfl
  have h_with_pair_and_number : Has K mg "with_pair_and_number" sPWithPairAndNumber ["form", "boxes", "widest"] := Has.mk X G a7 l7 c7 k7 fun _ _ _ _ _ _ us hl => by obtain ⟨_, _, _, rfl⟩ := ln3 hl; rfl
  have h_gaps : Has K mg "gaps" sPGaps ["boxes"] := Has.mk X G a8 l8 c8 k8 fun _ _ _ _ _ _ us hl => by obtain ⟨_, rfl⟩ := ln1 hl; rfl
  have h_with_three : Has K mg "with_three" sPWithThree ["form", "boxes"] := Has.mk X G a9 l9 c9 k9 fun _ _ _ _ _ _ us hl => by obtain ⟨_, _, rfl⟩ := ln2 hl; rfl
  have h_sayings : Has K mg "sayings" sPSayings ["program"] := Has.mk X G a10 l10 c10 k10 fun _ _ _ _ _ _ us hl => by obtain ⟨_, rfl⟩ := ln1 hl; rfl
  have h_is_so_of_one : Has K mg "is_so_of_one" sPIsSoOfOne ["saying", "a"] := Has.mk X G a11 l11 c11 k11 fun _ _ _ _ _ _ us hl => by obtain ⟨_, _, rfl⟩ := ln2 hl; rfl
  have h_is_so_of_two : Has K mg "is_so_of_two" sPIsSoOfTwo ["saying", "a", "b"] := Has.mk X G a12 l12 c12 k12 fun _ _ _ _ _ _ us hl => by obtain ⟨_, _, _, rfl⟩ := ln3 hl; rfl
  have h_is_so : Has K mg "is_so" sPIsSo ["saying", "values"] := Has.mk X G a13 l13 c13 k13 fun _ _ _ _ _ _ us hl => by obtain ⟨_, _, rfl⟩ := ln2 hl; rfl
  have h_lengthened : Has K mg "lengthened" sPLengthened ["some", "box"] := Has.mk X G a14 l14 c14 k14 fun _ _ _ _ _ _ us hl => by obtain ⟨_, _, rfl⟩ := ln2 hl; rfl
  have h_all_values : Has K mg "all_values" sPAllValues ["program"] := Has.mk X G a15 l15 c15 k15 fun _ _ _ _ _ _ us hl => by obtain ⟨_, rfl⟩ := ln1 hl; rfl
  have h_are_so : Has K mg "are_so" sPAreSo ["some", "values"] := Has.mk X G a16 l16 c16 k16 fun _ _ _ _ _ _ us hl => by obtain ⟨_, _, rfl⟩ := ln2 hl; rfl
  have h_follows : Has K mg "follows" sPFollows ["program", "saying", "others"] := Has.mk X G a17 l17 c17 k17 fun _ _ _ _ _ _ us hl => by obtain ⟨_, _, _, rfl⟩ := ln3 hl; rfl
  have h_bits_of : Has K mg "bits_of" sPBitsOf ["truths"] := Has.mk X G a18 l18 c18 k18 fun _ _ _ _ _ _ us hl => by obtain ⟨_, rfl⟩ := ln1 hl; rfl
  have h_so_bits : Has K mg "so_bits" sPSoBits ["saying", "every"] := Has.mk X G a19 l19 c19 k19 fun _ _ _ _ _ _ us hl => by obtain ⟨_, _, rfl⟩ := ln2 hl; rfl
  have h_bits_ahead : Has K mg "bits_ahead" sPBitsAhead ["some_bits", "full"] := Has.mk X G a20 l20 c20 k20 fun _ _ _ _ _ _ us hl => by obtain ⟨_, _, rfl⟩ := ln2 hl; rfl
  have h_thinned : Has K mg "thinned" sPThinned ["program", "some"] := Has.mk X G a21 l21 c21 k21 fun _ _ _ _ _ _ us hl => by obtain ⟨_, _, rfl⟩ := ln2 hl; rfl
  have h_first_places : Has K mg "first_places" sPFirstPlaces ["some_bits"] := Has.mk X G a22 l22 c22 k22 fun _ _ _ _ _ _ us hl => by obtain ⟨_, rfl⟩ := ln1 hl; rfl
  have h_first_enough : Has K mg "first_enough" sPFirstEnough ["wrong", "some_bits", "start", "count"] := Has.mk X G a23 l23 c23 k23 fun _ _ _ _ _ _ us hl => by obtain ⟨_, _, _, _, rfl⟩ := ln4 hl; rfl
  have h_reason : Has K mg "reason" sPReason ["program", "saying", "others"] := Has.mk X G a24 l24 c24 k24 fun _ _ _ _ _ _ us hl => by obtain ⟨_, _, _, rfl⟩ := ln3 hl; rfl
  have h__law_next : Has K mg "_law_next" sNext ["pot", "many"] := Has.mk X G a25 l25 c25 k25 fun _ _ _ _ _ _ us hl => by obtain ⟨_, _, rfl⟩ := ln2 hl; rfl
  have h__law_cells : Has K mg "_law_cells" sCells ["script"] := Has.mk X G a26 l26 c26 k26 fun _ _ _ _ _ _ us hl => by obtain ⟨_, rfl⟩ := ln1 hl; rfl
  have h__law_boxes : Has K mg "_law_boxes" sBoxes ["pot", "most", "names"] := Has.mk X G a27 l27 c27 k27 fun _ _ _ _ _ _ us hl => by obtain ⟨_, _, _, rfl⟩ := ln3 hl; rfl
  have h__law_values : Has K mg "_law_values" sValues ["pot", "boxes"] := Has.mk X G a28 l28 c28 k28 fun _ _ _ _ _ _ us hl => by obtain ⟨_, _, rfl⟩ := ln2 hl; rfl
  have h__law_so : Has K mg "_law_so" sSo ["s", "v"] := Has.mk X G a29 l29 c29 k29 fun _ _ _ _ _ _ us hl => by obtain ⟨_, _, rfl⟩ := ln2 hl; rfl
  have h__law_all : Has K mg "_law_all" sAll ["boxes"] := Has.mk X G a30 l30 c30 k30 fun _ _ _ _ _ _ us hl => by obtain ⟨_, rfl⟩ := ln1 hl; rfl
  have h__law_alike : Has K mg "_law_alike" sAlike ["told", "due"] := Has.mk X G a31 l31 c31 k31 fun _ _ _ _ _ _ us hl => by obtain ⟨_, _, rfl⟩ := ln2 hl; rfl
  have h__law_held : Has K mg "_law_held" sHeld ["told", "boxes", "pots"] := Has.mk X G a32 l32 c32 k32 fun _ _ _ _ _ _ us hl => by obtain ⟨_, _, _, rfl⟩ := ln3 hl; rfl
  have h__law_within : Has K mg "_law_within" sWithin ["left", "some"] := Has.mk X G a33 l33 c33 k33 fun _ _ _ _ _ _ us hl => by obtain ⟨_, _, rfl⟩ := ln2 hl; rfl
  have h__law_bits : Has K mg "_law_bits" sBits ["s", "values"] := Has.mk X G a34 l34 c34 k34 fun _ _ _ _ _ _ us hl => by obtain ⟨_, _, rfl⟩ := ln2 hl; rfl
  have h__law_enough : Has K mg "_law_enough" sEnough ["wrong", "rows", "many"] := Has.mk X G a35 l35 c35 k35 fun _ _ _ _ _ _ us hl => by obtain ⟨_, _, _, rfl⟩ := ln3 hl; rfl
  have h__law_good_reason : Has K mg "_law_good_reason" sGoodReason ["why", "s", "left", "values"] := Has.mk X G a36 l36 c36 k36 fun _ _ _ _ _ _ us hl => by obtain ⟨_, _, _, _, rfl⟩ := ln4 hl; rfl
  have h__law_case : Has K mg "_law_case" sCase ["program", "s", "left", "values"] := Has.mk X G a37 l37 c37 k37 fun _ _ _ _ _ _ us hl => by obtain ⟨_, _, _, _, rfl⟩ := ln4 hl; rfl
  have h__law_alone : Has K mg "_law_alone" sAlone ["program", "at", "left"] := Has.mk X G a38 l38 c38 k38 fun _ _ _ _ _ _ us hl => by obtain ⟨_, _, _, rfl⟩ := ln3 hl; rfl
  have F := fun_mk (st := sLaw) l39 c39 k39
  have B : Blt mg := ⟨PySem.W.mg_none_of X G z1, PySem.W.mg_none_of X G z2, PySem.W.mg_none_of X G z3, PySem.W.mg_none_of X G z4, PySem.W.mg_none_of X G z5, PySem.W.mg_none_of X G z6, PySem.W.mg_none_of X G z7, PySem.W.mg_none_of X G z8, PySem.W.mg_none_of X G z9, PySem.W.mg_none_of X G z10, PySem.W.mg_none_of X G z11, PySem.W.mg_none_of X G z12⟩
  have gl : Glb K mg := ⟨⟨_, PySem.W.mg_of X G i1⟩, ⟨_, PySem.W.mg_of X G i2⟩, ⟨_, PySem.W.mg_of X G i3⟩, ⟨_, PySem.W.mg_of X G i4⟩, ⟨gr1, PySem.W.mg_of X G g1, fun H => .inr ⟨_, _, _, gl1, rfl, rfl, (by show 6 ≤ sizeLine; decide), Paired.cons ⟨_, rfl⟩ (Paired.cons ⟨_, rfl⟩ (Paired.cons ⟨_, rfl⟩ (Paired.cons ⟨_, rfl⟩ (Paired.cons ⟨_, rfl⟩ (Paired.cons ⟨_, rfl⟩ (Paired.nil))))))⟩⟩, ⟨_, PySem.W.mg_of X G i5⟩⟩
  refine ⟨PySem.W.fnOf "law" "law" (defArgs sLaw) (defBody sLaw) (defScope sLaw) .none kV39 dc39 pm39 an39 cd39 ct39, fun s v => .of_eq rfl, fun base _ _ => ?_⟩
  have cN := ok_next (P := l.prog) (w := w) (base := base) h__law_next
  have cI := ok_isSo h_is_so gl (ok_isOne (P := l.prog) (w := w) (base := base) h_is_so_of_one) (ok_isTwo h_is_so_of_two)
  have cS := ok_so (P := l.prog) (w := w) (base := base) h__law_so B
  have cB := ok_bitsOf (P := l.prog) (w := w) (base := base) h_bits_of
  have cV := ok_allValues h_all_values (ok_lengthened (P := l.prog) (w := w) (base := base) h_lengthened B)
  have cSb := ok_soBits h_so_bits cI cB
  have cT := ok_thinned h_thinned B cV cB cSb (ok_ahead h_bits_ahead)
  have cRi := ok_rising (P := l.prog) (w := w) (base := base) h_rising_pairs B
  have cWp := ok_wpn h_with_pair_and_number B cRi
  have cG := ok_sayings h_sayings gl (ok_withNumber h_with_number B) (ok_rests h_rests B gl) (ok_eithers h_eithers B) (ok_withPair h_with_pair) cRi (ok_unlike h_unlike_pairs B) (ok_gaps h_gaps gl cWp) cWp (ok_three h_with_three B cRi)
  have cF := ok_follows h_follows cV cI (ok_areSo h_are_so cI)
  have cR := ok_reason h_reason B gl cV cI cB cSb (ok_first h_first_places B) (all_enough h_first_enough B 3)
  have cAl := ok_alike (P := l.prog) (w := w) (base := base) h__law_alike B
  have cW := ok_within h__law_within B cAl
  have cK := ok_case h__law_case B cF cR cAl (ok_gr h__law_good_reason B cS (ok_bits h__law_bits B cS) (all_en h__law_enough B 3) cW)
  exact ok_law F B (ok_cells h__law_cells B) cN (ok_boxes h__law_boxes B cN) cG (ok_held h__law_held B (ok_values h__law_values B cN) cS) cT cW (ok_all h__law_all B) cK (ok_alone h__law_alone B cF cR)
theorem walk {l : PySem.W.OpenLaw} {q : Program} {loose : List Str} {XP : (Str → Option Value) → Heap → Prop} {YP : World → Heap → Prop} {d : DefRec} {K : Params → PySem.W.Frag} (hn : l.most = some 63) (hdf : d.params.defaults = [])
    (hY : ∀ (w : World) (h : Heap), YP w h → (K w.params).In h)
    (F : ∀ (w : World) (mg : Str → Option Value) (fa : Addr) (h : Heap), (K w.params).In h → h.Ns mainGlobals mg → mg d.name = some (.ref fa) →
      ∃ fd : FuncData, (∀ (s : Shared) (u : Value), BindsTo s fd ⟨[u], []⟩ [("script", u)]) ∧ ∀ base : Heap, (K w.params).In base → base.Ns mainGlobals mg → FnOk l.prog w (K w.params) mg base CX0 7 fa fd ["script"] (spLaw (K w.params))) :
    PySem.W.WalkO q loose XP YP l.row.toRowW d [] (fun f vs => PySem.call f vs) :=
  L2.walk_of (n := 63) (k := 7) (x := "script") (CX := fun _ => CX0) (sp := fun w => spLaw (K w.params)) hn (by decide) hdf ⟨rfl, by decide, by decide⟩ hY F (fun _ _ a ns hl _ hS => ⟨a, ns, rfl, hS, hl, fun _ => rfl⟩) fun _ _ _ _ _ z => z
end K37
open PySem PySem.W PyProof.Rows
set_option maxRecDepth 100000 in
set_option maxHeartbeats 0 in
theorem PySem.Challenge.cw_sayswho_k37_whole_reasons_of_what_was_le_holds : PySem.Challenge.rw_sayswho_k37_whole_reasons_of_what_was_le.Holds := by
  w_on; o_law; k_head; (case hw => w_witness2)
  k_fill
  refine K37.walk (l := PySem.Challenge.rw_sayswho_k37_whole_reasons_of_what_was_le) rfl rfl (fun w h Y => PySem.W.kIn_of Y) ?F
  case F =>
    intro w mg fa h KX G hmg
    refine' K37.all_mk KX G hmg ?a1 ?l1 ?c1 ?k1 ?a2 ?l2 ?c2 ?k2 ?a3 ?l3 ?c3 ?k3 ?a4 ?l4 ?c4 ?k4 ?a5 ?l5 ?c5 ?k5 ?a6 ?l6 ?c6 ?k6 ?a7 ?l7 ?c7 ?k7 ?a8 ?l8 ?c8 ?k8 ?a9 ?l9 ?c9 ?k9 ?a10 ?l10 ?c10 ?k10 ?a11 ?l11 ?c11 ?k11 ?a12 ?l12 ?c12 ?k12 ?a13 ?l13 ?c13 ?k13 ?a14 ?l14 ?c14 ?k14 ?a15 ?l15 ?c15 ?k15 ?a16 ?l16 ?c16 ?k16 ?a17 ?l17 ?c17 ?k17 ?a18 ?l18 ?c18 ?k18 ?a19 ?l19 ?c19 ?k19 ?a20 ?l20 ?c20 ?k20 ?a21 ?l21 ?c21 ?k21 ?a22 ?l22 ?c22 ?k22 ?a23 ?l23 ?c23 ?k23 ?a24 ?l24 ?c24 ?k24 ?a25 ?l25 ?c25 ?k25 ?a26 ?l26 ?c26 ?k26 ?a27 ?l27 ?c27 ?k27 ?a28 ?l28 ?c28 ?k28 ?a29 ?l29 ?c29 ?k29 ?a30 ?l30 ?c30 ?k30 ?a31 ?l31 ?c31 ?k31 ?a32 ?l32 ?c32 ?k32 ?a33 ?l33 ?c33 ?k33 ?a34 ?l34 ?c34 ?k34 ?a35 ?l35 ?c35 ?k35 ?a36 ?l36 ?c36 ?k36 ?a37 ?l37 ?c37 ?k37 ?a38 ?l38 ?c38 ?k38 ?a39 ?l39 ?c39 ?k39 ?g1 ?gl1 ?i1 ?i2 ?i3 ?i4 ?i5 ?z1 ?z2 ?z3 ?z4 ?z5 ?z6 ?z7 ?z8 ?z9 ?z10 ?z11 ?z12
    (case a1 => k_is); (case l1 => k_is); (case c1 => k_is); (case k1 => k_is)
    (case a2 => k_is); (case l2 => k_is); (case c2 => k_is); (case k2 => k_is)
    (case a3 => k_is); (case l3 => k_is); (case c3 => k_is); (case k3 => k_is)
    (case a4 => k_is); (case l4 => k_is); (case c4 => k_is); (case k4 => k_is)
    (case a5 => k_is); (case l5 => k_is); (case c5 => k_is); (case k5 => k_is)
    (case a6 => k_is); (case l6 => k_is); (case c6 => k_is); (case k6 => k_is)
    (case a7 => k_is); (case l7 => k_is); (case c7 => k_is); (case k7 => k_is)
    (case a8 => k_is); (case l8 => k_is); (case c8 => k_is); (case k8 => k_is)
    (case a9 => k_is); (case l9 => k_is); (case c9 => k_is); (case k9 => k_is)
    (case a10 => k_is); (case l10 => k_is); (case c10 => k_is); (case k10 => k_is)
    (case a11 => k_is); (case l11 => k_is); (case c11 => k_is); (case k11 => k_is)
    (case a12 => k_is); (case l12 => k_is); (case c12 => k_is); (case k12 => k_is)
    (case a13 => k_is); (case l13 => k_is); (case c13 => k_is); (case k13 => k_is)
    (case a14 => k_is); (case l14 => k_is); (case c14 => k_is); (case k14 => k_is)
    (case a15 => k_is); (case l15 => k_is); (case c15 => k_is); (case k15 => k_is)
    (case a16 => k_is); (case l16 => k_is); (case c16 => k_is); (case k16 => k_is)
    (case a17 => k_is); (case l17 => k_is); (case c17 => k_is); (case k17 => k_is)
    (case a18 => k_is); (case l18 => k_is); (case c18 => k_is); (case k18 => k_is)
    (case a19 => k_is); (case l19 => k_is); (case c19 => k_is); (case k19 => k_is)
    (case a20 => k_is); (case l20 => k_is); (case c20 => k_is); (case k20 => k_is)
    (case a21 => k_is); (case l21 => k_is); (case c21 => k_is); (case k21 => k_is)
    (case a22 => k_is); (case l22 => k_is); (case c22 => k_is); (case k22 => k_is)
    (case a23 => k_is); (case l23 => k_is); (case c23 => k_is); (case k23 => k_is)
    (case a24 => k_is); (case l24 => k_is); (case c24 => k_is); (case k24 => k_is)
    (case a25 => k_is); (case l25 => k_is); (case c25 => k_is); (case k25 => k_is)
    (case a26 => k_is); (case l26 => k_is); (case c26 => k_is); (case k26 => k_is)
    (case a27 => k_is); (case l27 => k_is); (case c27 => k_is); (case k27 => k_is)
    (case a28 => k_is); (case l28 => k_is); (case c28 => k_is); (case k28 => k_is)
    (case a29 => k_is); (case l29 => k_is); (case c29 => k_is); (case k29 => k_is)
    (case a30 => k_is); (case l30 => k_is); (case c30 => k_is); (case k30 => k_is)
    (case a31 => k_is); (case l31 => k_is); (case c31 => k_is); (case k31 => k_is)
    (case a32 => k_is); (case l32 => k_is); (case c32 => k_is); (case k32 => k_is)
    (case a33 => k_is); (case l33 => k_is); (case c33 => k_is); (case k33 => k_is)
    (case a34 => k_is); (case l34 => k_is); (case c34 => k_is); (case k34 => k_is)
    (case a35 => k_is); (case l35 => k_is); (case c35 => k_is); (case k35 => k_is)
    (case a36 => k_is); (case l36 => k_is); (case c36 => k_is); (case k36 => k_is)
    (case a37 => k_is); (case l37 => k_is); (case c37 => k_is); (case k37 => k_is)
    (case a38 => k_is); (case l38 => k_is); (case c38 => k_is); (case k38 => k_is)
    (case a39 => k_is); (case l39 => k_is); (case c39 => k_is); (case k39 => k_is)
    (case g1 => k_is); (case gl1 => k_is)
    (case i1 => k_is)
    (case i2 => k_is)
    (case i3 => k_is)
    (case i4 => k_is)
    (case i5 => k_is)
    (case z1 => k_is); (case z2 => k_is); (case z3 => k_is); (case z4 => k_is); (case z5 => k_is); (case z6 => k_is); (case z7 => k_is); (case z8 => k_is); (case z9 => k_is); (case z10 => k_is); (case z11 => k_is); (case z12 => k_is)
#print axioms PySem.Challenge.cw_sayswho_k37_whole_reasons_of_what_was_le_holds

