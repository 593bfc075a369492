import PyProof.Rows.All
import Wide.All
import OpenK.AllK
import Wide.FinOn
import Lean
import PyProof.EqAt
import PyProof.EqKinds
import PyProof.TupleCall
import PyProof.NeKinds
import OpenK.KTop
import PySem.Challenge.RW_ticketroom_k06_plain_story
set_option Elab.async false
set_option linter.all false
set_option maxRecDepth 100000
/-! THE HAND LAYER, for ints, bools, texts, own classes, LISTS and tuples (index, slices, in, append, pop ..), calls, loops. Paste it whole ahead of your own text; what your proof does not reach may be deleted. -/
namespace L2
open PySem PySem.Spec PyProof.Rows

/-- a key: an int or a str -/
abbrev Key := Sum Int Str
def keyIs : Key → Value → Bool
  | .inl k, v => Value.isInt k v
  | .inr x, v => Value.isStrOf x v
def keyH (w : World) : Key → Int
  | .inl k => hashInt k
  | .inr x => hashStr w x
theorem keyIs_shape : ∀ {k : Key} {v : Value}, keyIs k v = true → (∃ i t, k = Sum.inl i ∧ v = Value.int i t) ∨ (∃ x t, k = Sum.inr x ∧ v = Value.str x t)
  | .inl i, v, h => by
    obtain ⟨t, e⟩ := Value.isInt_shape (k := i) (v := v) h
    exact .inl ⟨i, t, rfl, e⟩
  | .inr x, v, h => by
    obtain ⟨t, e⟩ := Value.isStrOf_shape (x := x) (v := v) h
    exact .inr ⟨x, t, rfl, e⟩
theorem keyIs_int (i : Int) (t : Tok) : keyIs (.inl i) (.int i t) = true := by simp [keyIs, Value.isInt]
theorem keyIs_str (x : Str) (t : Tok) : keyIs (.inr x) (.str x t) = true := by simp [keyIs, Value.isStrOf]
theorem key_ll (a b : Int) : decide ((Sum.inl a : Key) = Sum.inl b) = (a == b) := by
  by_cases e : a = b
  · subst e; simp
  · have h : ¬ (Sum.inl a : Key) = Sum.inl b := fun q => e (Sum.inl.inj q)
    rw [decide_eq_false h]
    exact (beq_eq_false_iff_ne.mpr e).symm
theorem key_rr (a b : Str) : decide ((Sum.inr a : Key) = Sum.inr b) = decide (a = b) := by
  by_cases e : a = b
  · subst e; simp
  · have h : ¬ (Sum.inr a : Key) = Sum.inr b := fun q => e (Sum.inr.inj q)
    rw [decide_eq_false h, decide_eq_false e]
theorem key_lr (a : Int) (b : Str) : decide ((Sum.inl a : Key) = Sum.inr b) = false := decide_eq_false (fun q => nomatch q)
theorem key_rl (a : Str) (b : Int) : decide ((Sum.inr a : Key) = Sum.inl b) = false := decide_eq_false (fun q => nomatch q)

def mixKind (prog : Program) (w : World) : PySem.KeyKind prog w Key where
  is := keyIs
  hash := keyH w
  inj := fun v a b ha hb => by
    rcases keyIs_shape ha with ⟨i, t, rfl, rfl⟩ | ⟨x, t, rfl, rfl⟩
    · rcases keyIs_shape hb with ⟨j, u, rfl, e⟩ | ⟨y, u, rfl, e⟩
      · injection e with e1 _; rw [e1]
      · exact nomatch e
    · rcases keyIs_shape hb with ⟨j, u, rfl, e⟩ | ⟨y, u, rfl, e⟩
      · exact nomatch e
      · injection e with e1 _; rw [e1]
  byValue := fun k v h => by
    rcases keyIs_shape h with ⟨i, t, rfl, rfl⟩ | ⟨x, t, rfl, rfl⟩ <;> rfl
  pyHash := fun hv h => by
    rcases keyIs_shape hv with ⟨i, t, rfl, rfl⟩ | ⟨x, t, rfl, rfl⟩
    · exact wpAny_pyHash_int h
    · exact wpAny_pyHash_str h
  eqBool := fun hu hv h => by
    rcases keyIs_shape hu with ⟨i, t, rfl, rfl⟩ | ⟨x, t, rfl, rfl⟩
    · rcases keyIs_shape hv with ⟨j, u, rfl, rfl⟩ | ⟨y, u, rfl, rfl⟩
      · rw [key_ll] at h; exact wpAny_eqBool_int h
      · rw [key_lr] at h; exact SeqAt.EqAt.int_str i t y u _ _ _ _ h
    · rcases keyIs_shape hv with ⟨j, u, rfl, rfl⟩ | ⟨y, u, rfl, rfl⟩
      · rw [key_rl] at h; exact SeqAt.EqAt.str_int x t j u _ _ _ _ h
      · rw [key_rr] at h; exact wpAny_eqBool_str h
  «strs» := fun k x t v h => by
    rcases keyIs_shape h with ⟨i, u, rfl, e⟩ | ⟨y, u, rfl, e⟩
    · exact nomatch e
    · injection e with e1 _
      subst e1
      cases v <;> rfl

theorem mixKind_int (prog : Program) (w : World) (i : Int) (t : Tok) : (mixKind prog w).is (.inl i) (.int i t) = true := keyIs_int i t
theorem mixKind_str (prog : Program) (w : World) (x : Str) (t : Tok) : (mixKind prog w).is (.inr x) (.str x t) = true := keyIs_str x t
end L2

namespace L2
open PySem PySem.Spec PyProof.Rows

/-- a value, without the heap -/
inductive V where
  | non | bl (b : Bool) | int (i : Int) | str (x : Str) | byt (b : Array UInt8) | flt (b : UInt64) | ref (a : Addr) | ty (n : String)
  deriving DecidableEq

def RelV : V → Value → Prop
  | .non, u => u = Value.none
  | .bl b, u => u = Value.bool b
  | .int i, u => ∃ t, u = Value.int i t
  | .str x, u => ∃ t, u = Value.str x t
  | .byt b, u => ∃ t, u = Value.bytes b t
  | .flt b, u => ∃ t, u = Value.float b t
  | .ref a, u => u = Value.ref a
  | .ty n, u => u = Value.type n

abbrev Vals : List V → List Value → Prop := Paired RelV
theorem Vals.length {xs : List V} {us : List Value} (r : Vals xs us) : xs.length = us.length := Paired.length r
theorem Vals.get : ∀ {xs : List V} {us : List Value} {i : Nat} {x : V}, Vals xs us → xs[i]? = some x → ∃ u, us[i]? = some u ∧ RelV x u
  | _, _, _, _, .nil, e => by simp at e
  | _, _, 0, _, .cons r _, e => by simp at e; subst e; exact ⟨_, rfl, r⟩
  | _, _, i + 1, x, .cons _ t, e => by
    obtain ⟨u, h1, h2⟩ := Vals.get (i := i) (x := x) t (by simpa using e)
    exact ⟨u, by simpa using h1, h2⟩
theorem Vals.set {x : V} {u : Value} (r : RelV x u) : ∀ {xs : List V} {us : List Value} (i : Nat), Vals xs us → Vals (xs.set i x) (us.set i u)
  | _, _, _, .nil => .nil
  | _, _, 0, .cons _ t => .cons r t
  | _, _, i + 1, .cons q t => .cons q (Vals.set r i t)
theorem Vals.append : ∀ {xs ys : List V} {us ws : List Value}, Vals xs us → Vals ys ws → Vals (xs ++ ys) (us ++ ws)
  | _, _, _, _, .nil, s => s
  | _, _, _, _, .cons r t, s => .cons r (Vals.append t s)
theorem Vals.take : ∀ {xs : List V} {us : List Value} (n : Nat), Vals xs us → Vals (xs.take n) (us.take n)
  | _, _, 0, _ => .nil
  | _, _, _ + 1, .nil => .nil
  | _, _, n + 1, .cons r t => .cons r (Vals.take n t)
theorem Vals.drop : ∀ {xs : List V} {us : List Value} (n : Nat), Vals xs us → Vals (xs.drop n) (us.drop n)
  | _, _, 0, r => r
  | _, _, _ + 1, .nil => .nil
  | _, _, n + 1, .cons _ t => Vals.drop n t
def RelO : Option V → Option Value → Prop
  | some v, some u => RelV v u
  | none, none => True
  | _, _ => False
def KV {κ : Type} : List (κ × V) → List (κ × Value) → Prop := Paired fun (p : κ × V) (q : κ × Value) => p.1 = q.1 ∧ RelV p.2 q.2

/-- a key of a dict (00_mix): an int or a text -/
def kV : Key → V
  | .inl i => .int i
  | .inr x => .str x

/-- what stands at a tracked address -/
inductive HO where
  /-- a list -/
  | lst (xs : List V)
  /-- a tuple (never changes) -/
  | tup (xs : List V)
  /-- a dict whose keys are ints and texts; one whose keys are tuples of ints and texts (the empty one is both) -/
  | dK (kvs : List (Key × V)) | dT (kvs : List (List Key × V))
  /-- a set of ints: its members, its size -/
  | set (S : Int → Bool) (n : Nat)
  /-- an instance of the class at C, its dict at dx, its attributes -/
  | ins (C dx : Addr) (fs : List (Str × V))
  /-- the dict of the instance at x -/
  | own (x : Addr)
  /-- the dict of an exception -/
  | xd (fs : List (Str × V))
  /-- a bound method, f of x -/
  | met (f x : Addr)
  /-- a range object lo, lo + 1, .. below hi -/
  | rng (lo hi : Int)
  /-- a thing that is known to the object (the script; a dict while a loop walks it): read, never written while it is so -/
  | frz (o : Obj) (u : HO)
  /-- a code object's table -/
  | tbl (ps : Array Value)
  /-- any other thing, by what is true of its one object (a def of one's own: SetO a S n := HO.ext fun h => ..) -/
  | ext (φ : Heap → Prop)

abbrev Hp := Addr → Option HO
def upd (H : Hp) (a : Addr) (o : HO) : Hp := fun b => if b = a then some o else H b
theorem upd_same {H : Hp} {a : Addr} {o : HO} : upd H a o a = some o := by unfold upd; rw [if_pos rfl]
theorem upd_ne {H : Hp} {a b : Addr} {o : HO} (h : b ≠ a) : upd H a o b = H b := by unfold upd; rw [if_neg h]
theorem upd_upd {H : Hp} {a : Addr} {o u : HO} : upd (upd H a o) a u = upd H a u := by
  funext b; unfold upd; split <;> rfl
/-- two objects of different content stand apart -/
theorem ne_of {H : Hp} {a b : Addr} {o u : HO} (h : H a = some o) (h' : H b = some u) (d : o ≠ u) : a ≠ b := by
  intro e; subst e; rw [h] at h'; exact d (Option.some.inj h')
theorem ne_of_none {H : Hp} {a b : Addr} {o : HO} (h : H a = some o) (h' : H b = none) : a ≠ b := by
  intro e; subst e; rw [h] at h'; cases h'

section
variable (P : Program) (w : World)
def ObjOk (H : Hp) (h : Heap) (a : Addr) : HO → Prop
  | .lst xs => xs.length ≤ sizeLine ∧ ∃ (its : List Value) (n : Nat), Vals xs its ∧ h.get? a = some { cls := .type "list", data := .seq its.toArray n }
  | .tup xs => xs.length ≤ sizeLine ∧ ∃ its : List Value, Vals xs its ∧ IsTup h a its.toArray
  | .dK kvs => kvs.length ≤ sizeLine ∧ (a == sysModules) = false ∧ ∃ vs, KV kvs vs ∧ h.DictOf (mixKind P w) a vs
  | .dT kvs => kvs.length ≤ sizeLine ∧ (a == sysModules) = false ∧ ∃ xs : List (List Key × Addr × Value),
      Paired (fun (p : List Key × V) (q : List Key × Addr × Value) => p.1 = q.1 ∧ H q.2.1 = some (.tup (p.1.map kV)) ∧ RelV p.2 q.2.2) kvs xs ∧
      ∃ o es ep, h.get? a = some o ∧ o.ExactDict ∧ o.data = .dict es ep ∧ es.toList = xs.map (entryOfKey (tupleKind (mixKind P w))) ∧ (xs.map (·.1)).Nodup
  | .set S n => h.SetOf (intKind P w) a S n
  | .ins C dx fs => H dx = some (.own a) ∧ fs.length ≤ 1000 ∧ dx ≠ a ∧ h.get? a = some (PySem.W.instObj C dx) ∧
      ∃ mA, h.Ns1 dx mA ∧ (∀ f, RelO (fs.lookup f) (mA f)) ∧ PySem.Within mA (fs.map (·.1))
  | .own _ => ∃ o, h.get? a = some o
  | .xd fs => ∃ mA, h.Ns1 a mA ∧ ∀ f, RelO (fs.lookup f) (mA f)
  | .rng lo hi => ∃ t u v, h.get? a = some { cls := .type "range", data := .fields #[.int lo t, .int hi u, .int 1 v] }
  | .frz o u => h.get? a = some o ∧ ObjOk H h a u
  | .tbl ps => h.get? a = some { cls := .none, data := .fields ps }
  | .met f x => h.get? a = some (PySem.W.methodObj (.ref f) (.ref x))
  | .ext φ => φ h ∧ (∃ o, h.get? a = some o) ∧ ∀ h1 h2 : Heap, φ h1 → (∀ o, h1.get? a = some o → h2.get? a = some o) → φ h2
/-- the abstract heap is held -/
def HOk (H : Hp) (h : Heap) : Prop := ∀ a o, H a = some o → ObjOk P w H h a o
end

section
variable {P : Program} {w : World} {H H' : Hp} {h h' : Heap} {a : Addr} {o : HO}
theorem ObjOk.lt (x : ObjOk P w H h a o) : a < h.objs.size := by
  cases o with
  | lst xs => obtain ⟨_, _, _, _, e⟩ := x; exact Heap.lt_size e
  | tup xs => obtain ⟨_, _, _, p⟩ := x; exact p.lt
  | dK kvs => obtain ⟨_, _, _, _, o, _, _, e, _⟩ := x; exact Heap.lt_size e
  | dT kvs => obtain ⟨_, _, _, _, o, _, _, e, _⟩ := x; exact Heap.lt_size e
  | set S n => obtain ⟨o, _, _, _, e, _⟩ := x; exact Heap.lt_size e
  | ins C dx fs => obtain ⟨_, _, _, e, _⟩ := x; exact Heap.lt_size e
  | own y => obtain ⟨_, e⟩ := x; exact Heap.lt_size e
  | xd fs => obtain ⟨_, ⟨_, _, _, e, _⟩, _⟩ := x; exact Heap.lt_size e
  | rng lo hi => obtain ⟨_, _, _, e⟩ := x; exact Heap.lt_size e
  | frz ob u => obtain ⟨e, _⟩ := x; exact Heap.lt_size e
  | tbl ps => exact Heap.lt_size (show h.get? a = some _ from x)
  | met f y => exact Heap.lt_size (show h.get? a = some _ from x)
  | ext φ => obtain ⟨_, ⟨_, e⟩, _⟩ := x; exact Heap.lt_size e
theorem Paired.mapP {α β : Type} {F G : α → β → Prop} : ∀ {l₁ : List α} {l₂ : List β}, Paired F l₁ l₂ → (∀ a b, F a b → G a b) → Paired G l₁ l₂
  | _, _, .nil, _ => .nil
  | _, _, .cons r t, f => .cons (f _ _ r) (Paired.mapP t f)
/-- what an object's description leans on: its own object, its own dict, the tuples -/
theorem ObjOk.stay (x : ObjOk P w H h a o) (k : ∀ b u, (b = a ∨ H b = some (.own a)) → h.get? b = some u → h'.get? b = some u)
    (ho : ∀ b, H b = some (.own a) → H' b = some (.own a)) (ht : ∀ b xs, H b = some (.tup xs) → H' b = some (.tup xs)) : ObjOk P w H' h' a o := by
  induction o with
  | lst xs => obtain ⟨z, its, n, r, e⟩ := x; exact ⟨z, its, n, r, k _ _ (.inl rfl) e⟩
  | tup xs => obtain ⟨z, its, r, ob, e, c⟩ := x; exact ⟨z, its, r, ob, k _ _ (.inl rfl) e, c⟩
  | dK kvs => obtain ⟨z, y, vs, r, ob, es, ep, e, c⟩ := x; exact ⟨z, y, vs, r, ob, es, ep, k _ _ (.inl rfl) e, c⟩
  | dT kvs =>
    obtain ⟨z, y, xs, r, ob, es, ep, e, c⟩ := x
    exact ⟨z, y, xs, Paired.mapP r fun p q z => ⟨z.1, ht _ _ z.2.1, z.2.2⟩, ob, es, ep, k _ _ (.inl rfl) e, c⟩
  | set S n => obtain ⟨ob, es, ep, t, e, c⟩ := x; exact ⟨ob, es, ep, t, k _ _ (.inl rfl) e, c⟩
  | ins C dx fs =>
    obtain ⟨d, z, ne, e, mA, ⟨od, es, ep, e2, c⟩, r⟩ := x
    exact ⟨ho _ d, z, ne, k _ _ (.inl rfl) e, mA, ⟨od, es, ep, k _ _ (.inr d) e2, c⟩, r⟩
  | own y => obtain ⟨ob, e⟩ := x; exact ⟨ob, k _ _ (.inl rfl) e⟩
  | xd fs => obtain ⟨mA, ⟨od, es, ep, e, c⟩, r⟩ := x; exact ⟨mA, ⟨od, es, ep, k _ _ (.inl rfl) e, c⟩, r⟩
  | rng lo hi => obtain ⟨t, u, v, e⟩ := x; exact ⟨t, u, v, k _ _ (.inl rfl) e⟩
  | frz ob u ih => obtain ⟨e, q⟩ := x; exact ⟨k _ _ (.inl rfl) e, ih q⟩
  | tbl ps =>
    have e : h.get? a = some { cls := .none, data := .fields ps } := x
    show h'.get? a = some { cls := .none, data := .fields ps }
    exact k a _ (.inl rfl) e
  | met f y =>
    have e : h.get? a = some (PySem.W.methodObj (.ref f) (.ref y)) := x
    show h'.get? a = some (PySem.W.methodObj (.ref f) (.ref y))
    exact k a _ (.inl rfl) e
  | ext φ => obtain ⟨p, ⟨o, e⟩, st⟩ := x; exact ⟨st _ _ p fun o q => k _ _ (.inl rfl) q, ⟨o, k _ _ (.inl rfl) e⟩, st⟩
theorem HOk.lt (x : HOk P w H h) (e : H a = some o) : a < h.objs.size := (x a o e).lt
theorem HOk.fresh (x : HOk P w H h) (e : h.objs.size ≤ a) : H a = none := by
  cases q : H a with
  | none => rfl
  | some u => exact absurd (Nat.lt_of_lt_of_le (x.lt q) e) (Nat.lt_irrefl _)
/-- every object of the heap is kept -/
theorem HOk.kept (x : HOk P w H h) (k : ∀ b u, h.get? b = some u → h'.get? b = some u) : HOk P w H h' := fun a o e =>
  (x a o e).stay (fun b u _ q => k b u q) (fun _ q => q) fun _ _ q => q
/-- a new object is laid and tracked -/
theorem HOk.laid (x : HOk P w H h) (k : ∀ b u, h.get? b = some u → h'.get? b = some u) (hp : h.objs.size ≤ a) (new : ObjOk P w (upd H a o) h' a o) : HOk P w (upd H a o) h' := fun b u e => by
  have hn := x.fresh hp
  by_cases hb : b = a
  · subst hb; rw [upd_same] at e; cases e; exact new
  · rw [upd_ne hb] at e
    exact (x b u e).stay (fun c v _ q => k c v q) (fun c q => by rw [upd_ne (ne_of_none q hn)]; exact q) fun c xs q => by rw [upd_ne (ne_of_none q hn)]; exact q
end

/-- what may be read as u: it is u, or a known u -/
def Rd (H : Hp) (a : Addr) (u : HO) : Prop := H a = some u ∨ ∃ o, H a = some (.frz o u)
theorem Rd.of {H : Hp} {a : Addr} {u : HO} (h : H a = some u) : Rd H a u := .inl h
theorem Rd.ok {P : Program} {w : World} {H : Hp} {h : Heap} {a : Addr} {u : HO} (r : Rd H a u) (x : HOk P w H h) : ObjOk P w H h a u := by
  rcases r with r | ⟨o, r⟩
  · exact x a u r
  · obtain ⟨_, q⟩ := x a _ r
    exact q
/-- what may be written -/
def Mut : Option HO → Prop
  | some (.lst _) => True
  | some (.dK _) => True
  | some (.dT _) => True
  | some (.set _ _) => True
  | some (.ins _ _ _) => True
  | some (.ext _) => True
  | _ => False
section
variable {P : Program} {w : World} {H : Hp} {h h' : Heap} {x e : Addr} {o' : HO}
/-- the object at e is changed: x itself, or the dict of the instance x -/
theorem HOk.write (ok : HOk P w H h) (mu : Mut (H x)) (he : e = x ∨ H e = some (.own x)) (k : ∀ b u, b ≠ e → h.get? b = some u → h'.get? b = some u) (heo : ∃ u, h'.get? e = some u)
    (new : ObjOk P w (upd H x o') h' x o') : HOk P w (upd H x o') h' := fun b u q => by
  have nown : ∀ c y, H c = some (.own y) → c ≠ x := fun c y r z => by subst z; rw [r] at mu; exact mu
  have ntup : ∀ c xs, H c = some (.tup xs) → c ≠ x := fun c xs r z => by subst z; rw [r] at mu; exact mu
  by_cases hb : b = x
  · subst hb; rw [upd_same] at q; cases q; exact new
  · rw [upd_ne hb] at q
    by_cases hbe : b = e
    · have q' : H b = some (.own x) := by
        rcases he with z | z
        · exact absurd (hbe.trans z) hb
        · rw [hbe]; exact z
      rw [q] at q'; cases q'
      obtain ⟨v, hv⟩ := heo
      exact ⟨v, by rw [hbe]; exact hv⟩
    · refine (ok b u q).stay (fun c v hc r => k c v ?_ r) (fun c r => by rw [upd_ne (nown c b r)]; exact r) fun c xs r => by rw [upd_ne (ntup c xs r)]; exact r
      rcases hc with rfl | hc
      · exact hbe
      · rintro rfl
        rcases he with z | z
        · exact nown c b hc z
        · rw [hc] at z; cases z; exact hb rfl
end

/-! ### kept unless tracked; of the frames at fs (the callers') the slots may change (an exception that passes writes there); of the records at ex (iterators) nothing is said -/
structure Un (fs ex : List Addr) (H H' : Hp) (h h' : Heap) : Prop where
  keep : ∀ b o, h.get? b = some o → H b = none → b ∉ fs → b ∉ ex → h'.get? b = some o
  slot : ∀ b o, h.get? b = some o → H b = none → b ∈ fs → b ∉ ex → ∃ sl, h'.get? b = some { o with slots := sl }
  free : ∀ b o, h.get? b = some o → H b = none → b ∉ ex → H' b = none
  there : ∀ b o, h.get? b = some o → b ∉ ex → ∃ o', h'.get? b = some o'
  tups : ∀ b xs, H b = some (.tup xs) → H' b = some (.tup xs)
  frzs : ∀ b o u, H b = some (.frz o u) → H' b = some (.frz o u)
  tbls : ∀ b ps, H b = some (.tbl ps) → ∃ more, H' b = some (.tbl (ps ++ more))
section
variable {fs fs' ex ex' : List Addr} {H H1 H2 : Hp} {h h1 h2 h' : Heap} {a x e : Addr} {o : HO}
theorem Un.any (u : Un fs ex H H1 h h1) {b : Addr} {ob : Obj} (q : h.get? b = some ob) (n : H b = none) (hx : b ∉ ex) : ∃ sl, h1.get? b = some { ob with slots := sl } := by
  by_cases hb : b ∈ fs
  · exact u.slot b ob q n hb hx
  · exact ⟨ob.slots, u.keep b ob q n hb hx⟩
theorem Un.trans (a : Un fs ex H H1 h h1) (b : Un fs ex H1 H2 h1 h2) : Un fs ex H H2 h h2 where
  keep := fun c ob q n hc hx => b.keep c ob (a.keep c ob q n hc hx) (a.free c ob q n hx) hc hx
  slot := fun c ob q n hc hx => by
    obtain ⟨sl, e1⟩ := a.slot c ob q n hc hx
    obtain ⟨sl', e2⟩ := b.slot c _ e1 (a.free c ob q n hx) hc hx
    exact ⟨sl', e2⟩
  free := fun c ob q n hx => by
    obtain ⟨o', e1⟩ := a.there c ob q hx
    exact b.free c o' e1 (a.free c ob q n hx) hx
  there := fun c ob q hx => by
    obtain ⟨o', e1⟩ := a.there c ob q hx
    exact b.there c o' e1 hx
  tups := fun c xs q => b.tups c xs (a.tups c xs q)
  frzs := fun c ob xs q => b.frzs c ob xs (a.frzs c ob xs q)
  tbls := fun c ps q => by
    obtain ⟨m1, e1⟩ := a.tbls c ps q
    obtain ⟨m2, e2⟩ := b.tbls c _ e1
    exact ⟨m1 ++ m2, by rw [e2, Array.append_assoc]⟩
theorem Un.kept (k : ∀ b u, h.get? b = some u → h'.get? b = some u) : Un fs ex H H h h' :=
  ⟨fun b ob q _ _ _ => k b ob q, fun b ob q _ _ _ => ⟨ob.slots, k b ob q⟩, fun _ _ _ n _ => n, fun b ob q _ => ⟨ob, k b ob q⟩, fun _ _ q => q, fun _ _ _ q => q, fun _ ps q => ⟨#[], by rw [q]; simp⟩⟩
theorem Un.refl : Un fs ex H H h h := Un.kept fun _ _ q => q
theorem Un.laid (k : ∀ b u, h.get? b = some u → h'.get? b = some u) (hp : h.objs.size ≤ a) (hn : H a = none) : Un fs ex H (upd H a o) h h' where
  keep := fun b u q _ _ _ => k b u q
  slot := fun b u q _ _ _ => ⟨u.slots, k b u q⟩
  free := fun b u q n _ => by rw [upd_ne (Nat.ne_of_lt (Nat.lt_of_lt_of_le (Heap.lt_size q) hp))]; exact n
  there := fun b u q _ => ⟨u, k b u q⟩
  tups := fun b xs q => by rw [upd_ne (ne_of_none q hn)]; exact q
  frzs := fun b u xs q => by rw [upd_ne (ne_of_none q hn)]; exact q
  tbls := fun b ps q => ⟨#[], by rw [upd_ne (ne_of_none q hn), q]; simp⟩
theorem Un.write (mu : Mut (H x)) (he : e = x ∨ H e = some (.own x)) (k : ∀ b u, b ≠ e → h.get? b = some u → h'.get? b = some u) (heo : ∃ u, h'.get? e = some u) : Un fs ex H (upd H x o) h h' := by
  have hx : ∀ b, H b = none → b ≠ x := fun b n z => by subst z; rw [n] at mu; exact mu
  have hb : ∀ b, H b = none → b ≠ e := fun b n z => by
    subst z
    rcases he with r | r
    · exact hx b n r
    · rw [n] at r; cases r
  have hm : ∀ b u, H b = some u → ¬ Mut (some u) → b ≠ x := fun b u q nm z => by subst z; rw [q] at mu; exact nm mu
  refine ⟨fun b u q n _ _ => k b u (hb b n) q, fun b u q n _ _ => ⟨u.slots, k b u (hb b n) q⟩, fun b u q n _ => by rw [upd_ne (hx b n)]; exact n, fun b u q _ => ?_,
    fun b xs q => by rw [upd_ne (hm b _ q fun z => z)]; exact q, fun b u xs q => by rw [upd_ne (hm b _ q fun z => z)]; exact q, fun b ps q => ⟨#[], by rw [upd_ne (hm b _ q fun z => z), q]; simp⟩⟩
  by_cases hbe : b = e
  · subst hbe; exact heo
  · exact ⟨u, k b u hbe q⟩
end

/-! ### the heap without what is tracked -/
def trk (h : Heap) (H : Hp) : List Addr := (List.range h.objs.size).filter fun a => (H a).isSome
def hidT (h : Heap) (H : Hp) : Heap := PySem.W.hideAll h (trk h H)
theorem hidT_size (h : Heap) (H : Hp) : (hidT h H).objs.size = h.objs.size := PySem.W.hideAll_size _ _
theorem hidT_get {h : Heap} {H : Hp} {b : Addr} {o : Obj} (e : h.get? b = some o) (n : H b = none) : (hidT h H).get? b = some o :=
  PySem.W.hideAll_get _ e fun hm => by
    have q : (H b).isSome = true := (List.mem_filter.mp hm).2
    rw [n] at q; simp at q
theorem of_hidT {h : Heap} {H : Hp} {b : Addr} {o : Obj} (e : (hidT h H).get? b = some o) : h.get? b = some o ∧ H b = none := by
  have e' : h.get? b = some o := PySem.W.of_hideAll (trk h H) e
  refine ⟨e', ?_⟩
  cases q : H b with
  | none => rfl
  | some x =>
    have hm : b ∈ trk h H := List.mem_filter.mpr ⟨List.mem_range.mpr (Heap.lt_size e'), by simp [q]⟩
    have z : (hidT h H).get? b = none := PySem.W.hideAll_none (trk h H) hm
    rw [z] at e; cases e

/-! ### OpenK's ledger, filled with every new object but one -/
def allNews (g h : Heap) (L : Addr) : List (Addr × Obj) := (List.range h.objs.size).filterMap fun a => if a = L ∨ (g.get? a).isSome = true then none else (h.get? a).map fun o => (a, o)
def rest (g h : Heap) (L d : Addr) : List (Addr × Obj) := (allNews g h L).filter fun p => decide (p.1 ≠ d)
end L2

namespace L2
open PySem PySem.Spec PyProof.Rows

/-- the module's facts, over the base: the heap at the law's entry without what is tracked there -/
structure Mod (K : PySem.W.Frag) (mg : Str → Option Value) (base : Heap) : Prop where
  kin : K.In base
  glob : base.Ns mainGlobals mg
  blt : ∃ mb, base.Ns builtinsNs mb ∧ ∀ x : Str, x ≠ "__name__" → mb x = bootBuiltins x
  nolimit : base.NoLimit

/-- the context: a def's body (or a comprehension's block) running. base: fixed through the whole law; s₀, H₀: the entry; outer: the frames whose slots others may change (a def's callers); stack: all frames that run;
   ex: iterators that were made ahead of the entry and are walked here (a comprehension's); fn: the names whose cells were made at the entry (a def: all; a comprehension's block: its own); calm: not within an except suite; pn: pins that every state bears; xe: what is wanted of an exception that leaves the code -/
structure Cx where
  prog : Program
  w : World
  K : PySem.W.Frag
  mg : Str → Option Value
  base : Heap
  A : Around
  N : List Str
  s₀ : Shared
  H₀ : Hp
  env : Env
  outer : List Env
  stack : List Env
  ex : List Addr
  fn : Str → Bool
  calm : Bool
  pn : List (Addr × Obj)
  xe : Value → Shared → Prop
/-- the callers' frames -/
def frs (l : List Env) : List Addr := l.filterMap (·.frame)
abbrev Cx.fs (X : Cx) : List Addr := frs X.outer

def Vis (sc : Scope) (x : Str) : Prop := sc.names.lookup x = some .local ∨ sc.names.lookup x = some .cell ∨ sc.names.lookup x = some .free
def Loc (sc : Scope) (x : Str) : Prop := sc.names.lookup x = some .local ∨ sc.names.lookup x = some .cell
def Look (env : Env) (h : Heap) (m : Str → Option Value) (x : Str) (u : Value) : Prop :=
  (env.kindOf x = some .local ∧ m x = some u) ∨ ((env.kindOf x = some .cell ∨ env.kindOf x = some .free) ∧ ∃ c, env.cells.lookup x = some c ∧ h.IsCell c (some u))

structure Cx.Ok (X : Cx) : Prop where
  mod : Mod X.K X.mg X.base
  kind : X.env.scope.kind = .function
  glob : X.env.globals = mainGlobals
  blt : X.env.builtins = builtinsNs
  above : X.s₀.heap.objs.size ≤ X.env.locals
  inj : ∀ x y c, X.env.cells.lookup x = some c → X.env.cells.lookup y = some c → x = y
  has : ∀ x, (X.env.kindOf x = some .cell ∨ X.env.kindOf x = some .free) → ∃ c, X.env.cells.lookup x = some c
  cab : ∀ x c, X.fn x = true → X.env.cells.lookup x = some c → X.s₀.heap.objs.size ≤ c
  hd : X.calm = true → X.A.handled = none
  frames : X.A.frames = some X.stack
  stk : X.stack = X.outer ∨ (X.stack = X.env :: X.outer ∧ X.env.frame = some X.env.locals)
  exf : ∀ b ∈ X.ex, b ≠ X.env.locals ∧ ∀ x c, X.env.cells.lookup x = some c → c ≠ b
  bs : ∀ b o, X.base.get? b = some o → X.s₀.heap.get? b = some o ∧ X.H₀ b = none
  bsz : X.base.objs.size ≤ X.s₀.heap.objs.size
  noex : ∀ b o, X.base.get? b = some o → b ∉ X.ex
  exfs : ∀ b ∈ X.ex, b ∉ X.fs
  funs : X.s₀.heap.FunFrames X.base X.outer
  frf : ∀ b ∈ X.fs, X.H₀ b = none

structure Inv (X : Cx) (pins : List (Addr × Obj)) (σ : List (Option V)) (H : Hp) (s : Shared) : Prop where
  ok : X.Ok
  os : s.os = X.s₀.os
  bare : AllBare s.gens
  base : Un X.fs X.ex X.H₀ H X.s₀.heap s.heap
  loc : ∃ m, s.heap.Ns X.env.locals m ∧ ∀ (i : Nat) (x : Str) (v : V), X.N[i]? = some x → σ[i]? = some (some v) → Vis X.env.scope x → ∃ u, RelV v u ∧ Look X.env s.heap m x u
  cell : ∀ x c, X.env.cells.lookup x = some c → ∃ v, s.heap.IsCell c v
  free : H X.env.locals = none
  freeC : ∀ x c, X.env.cells.lookup x = some c → H c = none
  pin : ∀ p ∈ X.pn ++ pins, s.heap.get? p.1 = some p.2 ∧ H p.1 = none ∧ p.1 ≠ X.env.locals ∧ p.1 ∉ X.fs ∧ ∀ v, p.2.data ≠ .cell v
  hok : HOk X.prog X.w H s.heap
  len : σ.length = X.N.length

section
variable {X : Cx} {pins : List (Addr × Obj)} {σ : List (Option V)} {H H' : Hp} {s : Shared} {h' : Heap}

theorem Cx.Ok.nofr (ok : X.Ok) {b : Addr} {o : Obj} (e : X.base.get? b = some o) : b ∉ X.fs := fun hb => by
  have := (ok.funs.mem hb).1
  rw [e] at this; cases this
theorem Inv.bs (I : Inv X pins σ H s) : ∀ b o, X.base.get? b = some o → s.heap.get? b = some o ∧ H b = none := fun b o e =>
  ⟨I.base.keep b o (I.ok.bs b o e).1 (I.ok.bs b o e).2 (I.ok.nofr e) (I.ok.noex b o e), I.base.free b o (I.ok.bs b o e).1 (I.ok.bs b o e).2 (I.ok.noex b o e)⟩
theorem Inv.bk (I : Inv X pins σ H s) : ∀ b o, X.base.get? b = some o → s.heap.get? b = some o := fun b o e => (I.bs b o e).1
theorem Inv.mod (I : Inv X pins σ H s) : Mod X.K X.mg X.base := I.ok.mod
theorem Inv.kIn (I : Inv X pins σ H s) : X.K.In s.heap := I.ok.mod.kin.keeps I.bk
theorem Inv.lt (I : Inv X pins σ H s) : X.env.locals < s.heap.objs.size := let ⟨_, hn, _⟩ := I.loc; hn.lt
theorem Inv.sz (I : Inv X pins σ H s) : X.s₀.heap.objs.size ≤ s.heap.objs.size := Nat.le_trans I.ok.above (Nat.le_of_lt I.lt)
theorem Inv.nofs (I : Inv X pins σ H s) {a : Addr} (h : s.heap.objs.size ≤ a) : a ∉ X.fs := fun hb => by
  obtain ⟨_, o, ho, _⟩ := I.ok.funs.mem hb
  exact absurd (Nat.lt_of_lt_of_le (Heap.lt_size ho) (Nat.le_trans I.sz h)) (Nat.lt_irrefl _)
theorem Inv.cne (I : Inv X pins σ H s) : ∀ x c, X.env.cells.lookup x = some c → c ≠ X.env.locals := fun x c e z => by
  obtain ⟨v, o, ho, hd⟩ := I.cell x c e
  obtain ⟨m, ⟨o', es, ep, ho', hd', _⟩, _⟩ := I.loc
  rw [z, ho'] at ho; cases ho; rw [hd'] at hd; cases hd
theorem Inv.funs (I : Inv X pins σ H s) : s.heap.FunFrames X.base X.outer := by
  have all : ∀ (l : List Env), (∀ b ∈ frs l, b ∈ X.fs) → X.s₀.heap.FunFrames X.base l → s.heap.FunFrames X.base l := by
    intro l
    induction l with
    | nil => intro _ _; trivial
    | cons env r ih =>
      intro hs hl
      obtain ⟨hk, ⟨L, o, hf, hn, ho, hd⟩, hr⟩ := hl
      have hL : L ∈ X.fs := hs L (by unfold frs; rw [List.filterMap_cons, hf]; exact List.mem_cons_self)
      obtain ⟨sl, e⟩ := I.base.slot L o ho (I.ok.frf L hL) hL fun z => I.ok.exfs L z hL
      exact ⟨hk, ⟨L, _, hf, hn, e, hd⟩, ih (fun b hb => hs b (by unfold frs; rw [List.filterMap_cons, hf]; exact List.mem_cons_of_mem _ hb)) hr⟩
  exact all X.outer (fun _ hb => hb) I.ok.funs

/-- the frames that run, for a call -/
theorem Inv.stack (I : Inv X pins σ H s) : s.heap.FunFrames X.base X.stack := by
  rcases I.ok.stk with e | ⟨e, hf⟩
  · rw [e]; exact I.funs
  · rw [e]
    obtain ⟨m, hn, _⟩ := I.loc
    refine .cons (by rw [I.ok.kind]; decide) hf hn ?_ I.funs
    exact Heap.get?_none_of_le (Nat.le_trans I.ok.bsz I.ok.above)
theorem Inv.stkSub (I : Inv X pins σ H s) : ∀ b ∈ frs X.stack, b ∈ X.env.locals :: X.fs := fun b hb => by
  rcases I.ok.stk with e | ⟨e, hf⟩
  · rw [e] at hb; exact List.mem_cons_of_mem _ hb
  · rw [e] at hb
    unfold frs at hb
    rw [List.filterMap_cons, hf] at hb
    exact hb
theorem Inv.stkFree (I : Inv X pins σ H s) : ∀ b ∈ frs X.stack, H b = none := fun b hb => by
  rcases List.mem_cons.mp (I.stkSub b hb) with e | hb
  · rw [e]; exact I.free
  · obtain ⟨_, o, ho, _⟩ := I.ok.funs.mem hb
    exact I.base.free b o ho (I.ok.frf b hb) fun z => I.ok.exfs b z hb

/-- THE STEP: the untracked objects but the frame and the records at ch are kept (the callers' frames up to slots), the frame's map is kept, the new abstract heap is held -/
theorem Inv.step {g' : Array GenState} {t' : Nat} {d' : Drawn} {ch : List Addr} (I : Inv X pins σ H s)
    (hch : ∀ b ∈ ch, (b ∈ X.ex ∨ X.s₀.heap.objs.size ≤ b) ∧ b ≠ X.env.locals ∧ (∀ x c, X.env.cells.lookup x = some c → c ≠ b) ∧ ∀ p ∈ X.pn ++ pins, p.1 ≠ b)
    (keep : ∀ b o, b ≠ X.env.locals → b ∉ X.fs → b ∉ ch → s.heap.get? b = some o → H b = none → h'.get? b = some o)
    (slot : ∀ b o, b ≠ X.env.locals → b ∈ X.fs → b ∉ ch → s.heap.get? b = some o → H b = none → ∃ sl, h'.get? b = some { o with slots := sl }) (free : ∀ b o, b ∉ ch → s.heap.get? b = some o → H b = none → H' b = none)
    (there : ∀ b o, b ∉ ch → s.heap.get? b = some o → ∃ o', h'.get? b = some o')
    (tups : ∀ b xs, H b = some (.tup xs) → H' b = some (.tup xs)) (frzs : ∀ b o u, H b = some (.frz o u) → H' b = some (.frz o u)) (tbls : ∀ b ps, H b = some (.tbl ps) → ∃ more, H' b = some (.tbl (ps ++ more)))
    (ns : ∀ m, s.heap.Ns X.env.locals m → h'.Ns X.env.locals m) (hok : HOk X.prog X.w H' h') (hg : AllBare g') :
    Inv X pins σ H' { s with heap := h', gens := g', drawn := d', toks := t' } := by
  have neL : ∀ b o, X.s₀.heap.get? b = some o → b ≠ X.env.locals := fun b o e => Nat.ne_of_lt (Nat.lt_of_lt_of_le (Heap.lt_size e) I.ok.above)
  have neC : ∀ b o, X.s₀.heap.get? b = some o → b ∉ X.ex → b ∉ ch := fun b o e hx hb => by
    rcases (hch b hb).1 with z | z
    · exact hx z
    · exact absurd (Nat.lt_of_lt_of_le (Heap.lt_size e) z) (Nat.lt_irrefl _)
  have cellK : ∀ x c, X.env.cells.lookup x = some c → ∀ v, s.heap.IsCell c v → h'.IsCell c v := fun x c e v ⟨o, ho, hd⟩ => by
    have nch : c ∉ ch := fun z => (hch c z).2.2.1 x c e rfl
    by_cases hc : c ∈ X.fs
    · obtain ⟨sl, q⟩ := slot c o (I.cne x c e) hc nch ho (I.freeC x c e)
      exact ⟨_, q, hd⟩
    · exact ⟨o, keep c o (I.cne x c e) hc nch ho (I.freeC x c e), hd⟩
  refine ⟨I.ok, I.os, hg, ⟨fun b o e n hb hx => ?_, fun b o e n hb hx => ?_, fun b o e n hx => ?_, fun b o e hx => ?_, fun b xs e => tups b xs (I.base.tups b xs e), fun b o xs e => frzs b o xs (I.base.frzs b o xs e), fun b ps e => ?_⟩, ?_, fun x c e => ?_, ?_, fun x c e => ?_, fun p hp => ?_, hok, I.len⟩
  · exact keep b o (neL b o e) hb (neC b o e hx) (I.base.keep b o e n hb hx) (I.base.free b o e n hx)
  · obtain ⟨sl, e1⟩ := I.base.slot b o e n hb hx
    obtain ⟨sl', e2⟩ := slot b _ (neL b o e) hb (neC b o e hx) e1 (I.base.free b o e n hx)
    exact ⟨sl', e2⟩
  · obtain ⟨o', e1⟩ := I.base.there b o e hx
    exact free b o' (neC b o e hx) e1 (I.base.free b o e n hx)
  · obtain ⟨o', e1⟩ := I.base.there b o e hx
    exact there b o' (neC b o e hx) e1
  · obtain ⟨m1, e1⟩ := I.base.tbls b ps e
    obtain ⟨m2, e2⟩ := tbls b _ e1
    exact ⟨m1 ++ m2, by rw [e2, Array.append_assoc]⟩
  · obtain ⟨m, hn, hl⟩ := I.loc
    refine ⟨m, ns m hn, fun i x v e1 e2 e3 => ?_⟩
    obtain ⟨u, r, l⟩ := hl i x v e1 e2 e3
    refine ⟨u, r, ?_⟩
    rcases l with l | ⟨k, c, e, z⟩
    · exact .inl l
    · exact .inr ⟨k, c, e, cellK x c e _ z⟩
  · obtain ⟨v, z⟩ := I.cell x c e
    exact ⟨v, cellK x c e v z⟩
  · obtain ⟨m, ⟨o, _, _, ho, _⟩, _⟩ := I.loc
    exact free _ o (fun z => (hch _ z).2.1 rfl) ho I.free
  · obtain ⟨v, o, ho, hd⟩ := I.cell x c e
    exact free c o (fun z => (hch c z).2.2.1 x c e rfl) ho (I.freeC x c e)
  · obtain ⟨e, n, ne, nf, d⟩ := I.pin p hp
    have nch : p.1 ∉ ch := fun z => (hch p.1 z).2.2.2 p hp rfl
    exact ⟨keep p.1 p.2 ne nf nch e n, free p.1 p.2 nch e n, ne, nf, d⟩
/-- .. where the frame's own object is kept too -/
theorem Inv.un {t' : Nat} (I : Inv X pins σ H s) (u : Un X.fs [] H H' s.heap h') (hok : HOk X.prog X.w H' h') : Inv X pins σ H' { s with heap := h', toks := t' } := by
  obtain ⟨m, ⟨o, es, ep, ho, r⟩, _⟩ := id I.loc
  obtain ⟨sl, hL⟩ := u.any ho I.free (by simp)
  exact I.step (g' := s.gens) (d' := s.drawn) (ch := []) (fun _ z => nomatch z) (fun b o _ hb _ e n => u.keep b o e n hb (by simp)) (fun b o _ hb _ e n => u.slot b o e n hb (by simp)) (fun b o _ e n => u.free b o e n (by simp)) (fun b o _ e => u.there b o e (by simp)) u.tups u.frzs u.tbls (fun m' hm => by
    obtain ⟨o', es', ep', ho', r'⟩ := hm
    rw [ho] at ho'; cases ho'
    exact ⟨_, es', ep', hL, r'⟩) hok I.bare
/-- behind a call (or a comprehension's block): the slots of this frame may have changed too, the records at ch may have turned -/
theorem Inv.call {g' : Array GenState} {t' : Nat} {d' : Drawn} {ch : List Addr} (I : Inv X pins σ H s) (u : Un (frs X.stack) ch H H' s.heap h') (hok : HOk X.prog X.w H' h') (hg : AllBare g')
    (hch : ∀ b ∈ ch, (b ∈ X.ex ∨ X.s₀.heap.objs.size ≤ b) ∧ b ≠ X.env.locals ∧ (∀ x c, X.env.cells.lookup x = some c → c ≠ b) ∧ ∀ p ∈ X.pn ++ pins, p.1 ≠ b) :
    Inv X pins σ H' { s with heap := h', gens := g', drawn := d', toks := t' } := by
  obtain ⟨m, ⟨o, es, ep, ho, r⟩, _⟩ := id I.loc
  obtain ⟨sl, hL⟩ := u.any ho I.free fun z => (hch _ z).2.1 rfl
  exact I.step (ch := ch) hch (fun b o hL hb hc e n => u.keep b o e n (fun z => (List.mem_cons.mp (I.stkSub b z)).elim hL hb) hc) (fun b o _ _ hc e n => u.any e n hc) (fun b o hc e n => u.free b o e n hc) (fun b o hc e => u.there b o e hc) u.tups u.frzs u.tbls (fun m' hm => by
    obtain ⟨o', es', ep', ho', r'⟩ := hm
    rw [ho] at ho'; cases ho'
    exact ⟨_, es', ep', hL, r'⟩) hok hg
/-- an untracked record of ours (an iterator) has turned -/
theorem Inv.turned {t' : Nat} {it : Addr} (I : Inv X pins σ H s) (k : ∀ b o, b ≠ it → s.heap.get? b = some o → h'.get? b = some o) (hn : H it = none) (hL : it ≠ X.env.locals)
    (h1 : it ∈ X.ex ∨ X.s₀.heap.objs.size ≤ it) (h2 : ∀ x c, X.env.cells.lookup x = some c → c ≠ it) (h3 : ∀ p ∈ X.pn ++ pins, p.1 ≠ it) : Inv X pins σ H { s with heap := h', toks := t' } := by
  have nit : ∀ b u, H b = some u → b ≠ it := fun b u e z => by rw [z, hn] at e; cases e
  refine I.step (g' := s.gens) (d' := s.drawn) (ch := [it]) (fun b hb => ?_) (fun b o _ _ hc e _ => k b o (fun z => hc (by simp [z])) e) (fun b o _ _ hc e _ => ⟨o.slots, k b o (fun z => hc (by simp [z])) e⟩) (fun _ _ _ _ n => n)
    (fun b o hc e => ⟨o, k b o (fun z => hc (by simp [z])) e⟩) (fun _ _ e => e) (fun _ _ _ e => e) (fun b ps e => ⟨#[], by rw [e]; simp⟩) (fun m hm => ?_) (fun b u e => ?_) I.bare
  · have e : b = it := by simpa using hb
    subst e
    exact ⟨h1, hL, h2, h3⟩
  · obtain ⟨o, es, ep, ho, r⟩ := hm
    exact ⟨o, es, ep, k _ o (Ne.symm hL) ho, r⟩
  · refine (I.hok b u e).stay (fun c v hc q => k c v ?_ q) (fun _ q => q) fun _ _ q => q
    rcases hc with z | z
    · rw [z]; exact nit b u e
    · exact nit c _ z
theorem Inv.tok (I : Inv X pins σ H s) (t : Nat) : Inv X pins σ H { s with toks := t } := I.un (h' := s.heap) (t' := t) Un.refl I.hok
/-- all objects kept -/
theorem Inv.kept {t' : Nat} (I : Inv X pins σ H s) (k : ∀ b u, s.heap.get? b = some u → h'.get? b = some u) : Inv X pins σ H { s with heap := h', toks := t' } := I.un (Un.kept k) (I.hok.kept k)
/-- a new object laid and tracked -/
theorem Inv.laid {a : Addr} {o : HO} {t' : Nat} (I : Inv X pins σ H s) (k : ∀ b u, s.heap.get? b = some u → h'.get? b = some u) (hp : s.heap.objs.size ≤ a) (new : ObjOk X.prog X.w (upd H a o) h' a o) :
    Inv X pins σ (upd H a o) { s with heap := h', toks := t' } := I.un (Un.laid k hp (I.hok.fresh hp)) (I.hok.laid k hp new)
/-- an object written -/
theorem Inv.write {x e : Addr} {o : HO} {t' : Nat} (I : Inv X pins σ H s) (mu : Mut (H x)) (he : e = x ∨ H e = some (.own x)) (k : ∀ b u, b ≠ e → s.heap.get? b = some u → h'.get? b = some u) (heo : ∃ u, h'.get? e = some u)
    (new : ObjOk X.prog X.w (upd H x o) h' x o) : Inv X pins σ (upd H x o) { s with heap := h', toks := t' } := I.un (Un.write mu he k heo) (I.hok.write mu he k heo new)
theorem Inv.pins_of {pins' : List (Addr × Obj)} (I : Inv X pins σ H s) (h : ∀ p ∈ pins', s.heap.get? p.1 = some p.2 ∧ H p.1 = none ∧ p.1 ≠ X.env.locals ∧ p.1 ∉ X.fs ∧ ∀ v, p.2.data ≠ .cell v) : Inv X pins' σ H s :=
  ⟨I.ok, I.os, I.bare, I.base, I.loc, I.cell, I.free, I.freeC, fun p hp => (List.mem_append.mp hp).elim (fun z => I.pin p (List.mem_append_left _ z)) (h p), I.hok, I.len⟩

theorem nodup_ix {N : List Str} (hN : N.Nodup) {i j : Nat} {x : Str} (a : N[i]? = some x) (b : N[j]? = some x) : i = j := by
  obtain ⟨h1, e1⟩ := List.getElem?_eq_some_iff.mp a
  obtain ⟨h2, e2⟩ := List.getElem?_eq_some_iff.mp b
  exact (List.getElem_inj hN).mp (e1.trans e2.symm)

/-- a name is stored; what changed -/
theorem store_ok2 {M : Model} {A : Around} {E : Value → Shared → Prop} {i : Nat} {x : Str} {v : V} {u : Value} {Q : Unit → Shared → Prop} (I : Inv X pins σ H s) (hN : X.N.Nodup) (hi : X.N[i]? = some x) (hx : Loc X.env.scope x) (r : RelV v u)
    (h : ∀ s', Inv X pins (σ.set i (some v)) H s' → (∃ a, Heap.SameBut a s.heap s'.heap ∧ (a = X.env.locals ∨ X.env.cells.lookup x = some a)) → Q () s') (hf : X.fn x = true ∨ X.env.scope.names.lookup x = some .local := by first | exact .inl rfl | exact .inr rfl | assumption) : wpAny M A (storeName X.env x u) Q E s := by
  obtain ⟨m, hn, hl⟩ := id I.loc
  have hcls : (X.env.scope.kind == .class || (X.env.scope.kind == .module && X.env.locals != X.env.globals)) = false := by rw [I.ok.kind]; rfl
  have hiσ : i < σ.length := by rw [I.len]; exact (List.getElem?_eq_some_iff.mp hi).1
  have cne := I.cne
  have tracked : ∀ {a : Addr} {h' : Heap}, (∃ o, s.heap.get? a = some o ∧ H a = none) → Heap.SameBut a s.heap h' → HOk X.prog X.w H h' := fun {a h'} ha hs b ob e => by
    obtain ⟨_, _, hfree⟩ := ha
    refine (I.hok b ob e).stay (fun c w' hc q => (hs.2 c ?_).trans q) (fun _ q => q) fun _ _ q => q
    rintro rfl
    rcases hc with rfl | hc
    · rw [hfree] at e; cases e
    · rw [hfree] at hc; cases hc
  rcases hx with hk | hk
  · refine wpAny_storeName_local hk hn (fun h' hn' hs => ?_) hcls
    obtain ⟨oL, _, _, hoL, _⟩ := id hn
    refine h _ ⟨I.ok, I.os, I.bare, ⟨fun b o e n hb hx => ?_, fun b o e n hb hx => ?_, I.base.free, fun b o e hx => ?_, I.base.tups, I.base.frzs, I.base.tbls⟩, ⟨_, hn', fun j y v' e1 e2 e3 => ?_⟩, fun y c e => ?_, I.free, I.freeC, fun p hp => ?_, tracked ⟨oL, hoL, I.free⟩ hs, by simpa using I.len⟩ ⟨_, hs, .inl rfl⟩
    · exact (hs.2 b (Nat.ne_of_lt (Nat.lt_of_lt_of_le (Heap.lt_size e) I.ok.above))).trans (I.base.keep b o e n hb hx)
    · obtain ⟨sl, e1⟩ := I.base.slot b o e n hb hx
      exact ⟨sl, (hs.2 b (Nat.ne_of_lt (Nat.lt_of_lt_of_le (Heap.lt_size e) I.ok.above))).trans e1⟩
    · obtain ⟨o', e1⟩ := I.base.there b o e hx
      exact ⟨o', (hs.2 b (Nat.ne_of_lt (Nat.lt_of_lt_of_le (Heap.lt_size e) I.ok.above))).trans e1⟩
    · by_cases hj : j = i
      · subst hj
        rw [hi] at e1; cases e1
        rw [List.getElem?_set_self hiσ] at e2
        cases e2
        exact ⟨u, r, .inl ⟨hk, by simp⟩⟩
      · rw [List.getElem?_set_ne (Ne.symm hj)] at e2
        obtain ⟨u', r', q⟩ := hl j y v' e1 e2 e3
        refine ⟨u', r', ?_⟩
        rcases q with ⟨k, e⟩ | ⟨k, c, e, z⟩
        · refine .inl ⟨k, ?_⟩
          have : y ≠ x := fun e => hj (nodup_ix hN e1 (e ▸ hi))
          simp [this, e]
        · exact .inr ⟨k, c, e, z.sameBut hs (cne y c e)⟩
    · obtain ⟨w', z⟩ := I.cell y c e
      exact ⟨w', z.sameBut hs (cne y c e)⟩
    · obtain ⟨e, n, ne, nf, d⟩ := I.pin p hp
      exact ⟨(hs.2 p.1 ne).trans e, n, ne, nf, d⟩
  · have hfn : X.fn x = true := by
      rcases hf with z | z
      · exact z
      · rw [z] at hk; cases hk
    obtain ⟨c, hc⟩ := I.ok.has x (.inl hk)
    obtain ⟨w', z⟩ := I.cell x c hc
    refine wpAny_storeName_cell I.ok.kind hk hc z (fun h' hc' hs => ?_)
    obtain ⟨oc, hoc, hocd⟩ := id z
    refine h { s with heap := h' } ⟨I.ok, I.os, I.bare, ⟨fun b o e n hb hx => ?_, fun b o e n hb hx => ?_, I.base.free, fun b o e hx => ?_, I.base.tups, I.base.frzs, I.base.tbls⟩, ⟨m, hn.sameBut hs (Ne.symm (cne x c hc)), fun j y v' e1 e2 e3 => ?_⟩, fun y c' e => ?_, I.free, I.freeC, fun p hp => ?_, tracked ⟨oc, hoc, I.freeC x c hc⟩ hs, by simpa using I.len⟩ ⟨c, hs, .inr hc⟩
    · exact (hs.2 b (Nat.ne_of_lt (Nat.lt_of_lt_of_le (Heap.lt_size e) (I.ok.cab x c hfn hc)))).trans (I.base.keep b o e n hb hx)
    · obtain ⟨sl, e1⟩ := I.base.slot b o e n hb hx
      exact ⟨sl, (hs.2 b (Nat.ne_of_lt (Nat.lt_of_lt_of_le (Heap.lt_size e) (I.ok.cab x c hfn hc)))).trans e1⟩
    · obtain ⟨o', e1⟩ := I.base.there b o e hx
      exact ⟨o', (hs.2 b (Nat.ne_of_lt (Nat.lt_of_lt_of_le (Heap.lt_size e) (I.ok.cab x c hfn hc)))).trans e1⟩
    · by_cases hj : j = i
      · subst hj
        rw [hi] at e1; cases e1
        rw [List.getElem?_set_self hiσ] at e2
        cases e2
        exact ⟨u, r, .inr ⟨.inl hk, c, hc, hc'⟩⟩
      · rw [List.getElem?_set_ne (Ne.symm hj)] at e2
        obtain ⟨u', r', q⟩ := hl j y v' e1 e2 e3
        refine ⟨u', r', ?_⟩
        rcases q with q | ⟨k, c', e, z'⟩
        · exact .inl q
        · refine .inr ⟨k, c', e, z'.sameBut hs ?_⟩
          rintro rfl
          exact hj (nodup_ix hN e1 (I.ok.inj _ _ _ e hc ▸ hi))
    · by_cases hcc : c' = c
      · subst hcc; exact ⟨_, hc'⟩
      · obtain ⟨w2, z2⟩ := I.cell y c' e
        exact ⟨w2, z2.sameBut hs hcc⟩
    · obtain ⟨e, n, ne, nf, d⟩ := I.pin p hp
      refine ⟨(hs.2 p.1 ?_).trans e, n, ne, nf, d⟩
      intro q
      rw [q, hoc] at e
      have q' : oc = p.2 := Option.some.inj e
      exact d w' (by rw [← q']; exact hocd)
theorem store_ok {M : Model} {A : Around} {E : Value → Shared → Prop} {i : Nat} {x : Str} {v : V} {u : Value} {Q : Unit → Shared → Prop} (I : Inv X pins σ H s) (hN : X.N.Nodup) (hi : X.N[i]? = some x) (hx : Loc X.env.scope x) (r : RelV v u)
    (h : ∀ s', Inv X pins (σ.set i (some v)) H s' → Q () s') (hf : X.fn x = true ∨ X.env.scope.names.lookup x = some .local := by first | exact .inl rfl | exact .inr rfl | assumption) : wpAny M A (storeName X.env x u) Q E s :=
  store_ok2 I hN hi hx r (fun s' I' _ => h s' I') hf
end

/-! ### the judgements -/
/-- an exception: its class, its own dict's address (where it has one), the abstract heap behind it -/
abbrev XK := Value → Option Addr → Hp → Prop
abbrev St := List (Option V)
abbrev VK := V → Hp → Prop
/-- an expression's reading; a test's; an argument list's -/
abbrev TE := St → Hp → VK → Prop
abbrev TT := St → Hp → (Bool → Hp → Prop) → Prop
abbrev TA := St → Hp → (List V → Hp → Prop) → Prop
/-- what is wanted behind a statement -/
structure Ends where
  nx : St → Hp → Prop
  rt : VK
  bk : St → Hp → Prop := fun _ _ => False
  ct : St → Hp → Prop := fun _ _ => False
abbrev TS := Ends → St → Hp → Prop

def EP (X : Cx) (pins : List (Addr × Obj)) (σ : St) (Q : VK) (u : Value) (s' : Shared) : Prop := ∃ v H', Inv X pins σ H' s' ∧ RelV v u ∧ Q v H'
def TP (X : Cx) (pins : List (Addr × Obj)) (σ : St) (Q : Bool → Hp → Prop) (b : Bool) (s' : Shared) : Prop := ∃ H', Inv X pins σ H' s' ∧ Q b H'
def AP (X : Cx) (pins : List (Addr × Obj)) (σ : St) (Q : List V → Hp → Prop) (us : List Value) (s' : Shared) : Prop := ∃ vs H', Inv X pins σ H' s' ∧ Vals vs us ∧ Q vs H'
def SP (X : Cx) (pins : List (Addr × Obj)) (D : Ends) (f : Flow) (s' : Shared) : Prop :=
  match f with
  | .next => ∃ σ' H', Inv X pins σ' H' s' ∧ D.nx σ' H'
  | .brk => ∃ σ' H', Inv X pins σ' H' s' ∧ D.bk σ' H'
  | .cont => ∃ σ' H', Inv X pins σ' H' s' ∧ D.ct σ' H'
  | .ret u => ∃ v σ' H', Inv X pins σ' H' s' ∧ RelV v u ∧ D.rt v H'

def PE (X : Cx) (e : Expr) (t : TE) : Prop :=
  ∀ (pins : List (Addr × Obj)) (s : Shared) (σ : St) (H : Hp) (Q : VK), Inv X pins σ H s → t σ H Q → wpAny (model X.prog X.w) X.A (eval e X.env) (EP X pins σ Q) X.xe s
def PT (X : Cx) (e : Expr) (t : TT) : Prop :=
  ∀ (pins : List (Addr × Obj)) (s : Shared) (σ : St) (H : Hp) (Q : Bool → Hp → Prop), Inv X pins σ H s → t σ H Q → wpAny (model X.prog X.w) X.A (isTrue e X.env (eval e X.env)) (TP X pins σ Q) X.xe s
/-- a test whatever its 'whole' is (and, or) -/
def PW (X : Cx) (e : Expr) (t : TT) : Prop :=
  ∀ (whole : Sem Value) (pins : List (Addr × Obj)) (s : Shared) (σ : St) (H : Hp) (Q : Bool → Hp → Prop), Inv X pins σ H s → t σ H Q → wpAny (model X.prog X.w) X.A (isTrue e X.env whole) (TP X pins σ Q) X.xe s
theorem PW.pt {X : Cx} {e : Expr} {t : TT} (h : PW X e t) : PT X e t := h _
/-- an argument list (no star), from the left -/
def PA (X : Cx) (es : List Expr) (t : TA) : Prop :=
  ∀ (pos : Pos) (pins : List (Addr × Obj)) (s : Shared) (σ : St) (H : Hp) (Q : List V → Hp → Prop), Inv X pins σ H s → t σ H Q → wpAny (model X.prog X.w) X.A (spliced (backTo pos (starEach es X.env))) (AP X pins σ Q) X.xe s
def PS (X : Cx) (st : Stmt) (t : TS) : Prop :=
  ∀ (pins : List (Addr × Obj)) (s : Shared) (σ : St) (H : Hp) (D : Ends), Inv X pins σ H s → t D σ H → wpAny (model X.prog X.w) X.A (exec st X.env) (SP X pins D) X.xe s
def PSs (X : Cx) (st : List Stmt) (t : TS) : Prop :=
  ∀ (pins : List (Addr × Obj)) (s : Shared) (σ : St) (H : Hp) (D : Ends), Inv X pins σ H s → t D σ H → wpAny (model X.prog X.w) X.A (execs st X.env) (SP X pins D) X.xe s
/-- weaken the end -/
theorem thn {α : Type} {t : Sem α} {Q Q' : α → Shared → Prop} {M : Model} {A : Around} {E : Value → Shared → Prop} {s : Shared} (h : wpAny M A t Q E s) (hQ : ∀ a s, Q a s → Q' a s) : wpAny M A t Q' E s := wpAny_mono h hQ fun _ _ x => x
end L2

namespace L2
open PySem PySem.Spec PyProof.Rows
section
variable {X : Cx}

/-! ### names and constants -/
def tVar (i : Nat) : TE := fun σ H Q => ∃ v, σ[i]? = some (some v) ∧ Q v H
def tC (v : V) : TE := fun _ H Q => Q v H
theorem pe_var {i : Nat} {x : Str} {pos : Pos} (hN : X.N[i]? = some x) (hv : Vis X.env.scope x) (hd : (x == ("__debug__" : Str)) = false := by decide) (hcd : (x == ("__classdict__" : Str)) = false := by decide) : PE X (.Name x pos) (tVar i) := by
  intro pins s σ H Q I h
  obtain ⟨v, e, h⟩ := h
  obtain ⟨m, hn, hl⟩ := I.loc
  obtain ⟨u, r, l⟩ := hl i x v hN e hv
  have fin : EP X pins σ Q u s := ⟨v, H, I, r, h⟩
  rcases l with ⟨hk, hm⟩ | ⟨hk, c, hc, hcell⟩
  · exact wpAny_Name (wpAny_loadName_local I.ok.kind hk hn hm fin) hd
  · rcases hk with hk | hk
    · exact wpAny_Name (wpAny_loadName_cell I.ok.kind hk hc hcell fin) hd
    · exact wpAny_Name (wpAny_loadName_free I.ok.kind hk hc hcell fin hcd) hd
theorem pe_int {i j pos} : PE X (.Constant (.int i) j pos) (tC (.int i)) := fun _ _ _ H _ I h => wpAny_Constant_int ⟨.int i, H, I.tok _, ⟨_, rfl⟩, h⟩
theorem pe_bl {b j pos} : PE X (.Constant (.bool b) j pos) (tC (.bl b)) := fun _ _ _ H _ I h => Constant_bool ⟨.bl b, H, I, rfl, h⟩
theorem pe_non {j pos} : PE X (.Constant .none j pos) (tC .non) := fun _ _ _ H _ I h => Constant_none ⟨.non, H, I, rfl, h⟩
theorem pe_str {x j pos} : PE X (.Constant (.str x) j pos) (tC (.str x)) := fun _ _ _ H _ I h => Calls.Constant_str ⟨.str x, H, I.tok _, ⟨_, rfl⟩, h⟩

/-- a global name of the def -/
def Gl (X : Cx) (x : Str) : Prop := X.env.kindOf x = some .globalImplicit
theorem ld_glob {E : Value → Shared → Prop} {pins : List (Addr × Obj)} {s : Shared} {σ : St} {H : Hp} {x : Str} {u : Value} {pos : Pos} {Q : Value → Shared → Prop} (I : Inv X pins σ H s) (hg : Gl X x) (hm : X.mg x = some u) (h : Q u s)
    (hd : (x == ("__debug__" : Str)) = false := by decide) : wpAny (model X.prog X.w) X.A (eval (.Name x pos) X.env) Q E s :=
  Calls.Name_function_global I.ok.kind hg (Calls.loadGlobal_global (by rw [I.ok.glob]; exact I.mod.glob.keeps I.bk) hm h) hd
theorem ld_blt {E : Value → Shared → Prop} {pins : List (Addr × Obj)} {s : Shared} {σ : St} {H : Hp} {x : Str} {u : Value} {pos : Pos} {Q : Value → Shared → Prop} (I : Inv X pins σ H s) (hg : Gl X x) (hm : X.mg x = none) (hv : bootBuiltins x = some u) (h : Q u s)
    (hn : x ≠ "__name__" := by decide) (hd : (x == ("__debug__" : Str)) = false := by decide) : wpAny (model X.prog X.w) X.A (eval (.Name x pos) X.env) Q E s := by
  obtain ⟨mb, h1, h2⟩ := I.mod.blt
  exact Calls.Name_function_global I.ok.kind hg (Calls.loadGlobal_builtin (by rw [I.ok.glob]; exact I.mod.glob.keeps I.bk) hm (by rw [I.ok.blt]; exact h1.keeps I.bk) ((h2 x hn).trans hv) h) hd
/-- a module's constant, a class, a function, as a value -/
theorem pe_glob {x : Str} {v : V} {u : Value} {pos : Pos} (hg : Gl X x) (hm : X.mg x = some u) (r : RelV v u) (hd : (x == ("__debug__" : Str)) = false := by decide) : PE X (.Name x pos) (tC v) :=
  fun _ _ _ H _ I h => ld_glob I hg hm ⟨v, H, I, r, h⟩ hd
theorem pe_bltn {x : Str} {v : V} {u : Value} {pos : Pos} (hg : Gl X x) (hm : X.mg x = none) (hv : bootBuiltins x = some u) (r : RelV v u) (hn : x ≠ "__name__" := by decide) (hd : (x == ("__debug__" : Str)) = false := by decide) : PE X (.Name x pos) (tC v) :=
  fun _ _ _ H _ I h => ld_blt I hg hm hv ⟨v, H, I, r, h⟩ hn hd

/-! ### arithmetic -/
variable {a b : Expr} {ta tb : TE} {pos : Pos}
/-! ### comparisons -/
/-- a comparison as a value, as a test -/
def tB (t : TE) : TT := fun σ H Q => t σ H fun x H1 => ∃ c, x = .bl c ∧ Q c H1
/-- an expression whose value is a bool, as a test -/
theorem pt_val {e : Expr} {t : TE} (h : PE X e t) (he : ∀ whole, isTrue e X.env whole = (do let v ← whole; standAt e.pos; holding [v] (truthy v)) := by intro _; rfl) : PT X e (tB t) := by
  intro pins s σ H Q I hw
  refine isTrue_plain (thn (h pins s σ H _ I hw) fun v s1 ⟨x, H1, I1, r1, q1⟩ => ?_) (he _)
  obtain ⟨d, rfl, q⟩ := q1
  cases r1
  exact wpAny_truthy_bool ⟨H1, I1, q⟩

/-! ### and, or, not -/
variable {tA tB' : TT} {rest : List Expr}
def tAnd (t u : TT) : TT := fun σ H Q => t σ H fun c H1 => if c = true then u σ H1 Q else Q false H1
def tOr (t u : TT) : TT := fun σ H Q => t σ H fun c H1 => if c = true then Q true H1 else u σ H1 Q
def tNot (t : TT) : TT := fun σ H Q => t σ H fun c H1 => Q (!c) H1
theorem pw_and1 (ha : PT X a tA) : PW X (.BoolOp .And [a] pos) tA := by
  intro wh pins s σ H Q I h
  refine isTrue_and (thn (ha pins s σ H Q I h) fun c s1 e => ?_)
  cases c with
  | true => exact isTrue_and_nil e
  | false => exact e
theorem pw_or1 (ha : PT X a tA) : PW X (.BoolOp .Or [a] pos) tA := by
  intro wh pins s σ H Q I h
  refine isTrue_or (thn (ha pins s σ H Q I h) fun c s1 e => ?_)
  cases c with
  | false => exact isTrue_or_nil e
  | true => exact e
theorem pw_and (ha : PT X a tA) (hb : PW X (.BoolOp .And (b :: rest) pos) tB') : PW X (.BoolOp .And (a :: b :: rest) pos) (tAnd tA tB') := by
  intro wh pins s σ H Q I h
  refine isTrue_and (thn (ha pins s σ H _ I h) fun c s1 ⟨H1, I1, q1⟩ => ?_)
  cases c with
  | true => exact hb wh pins s1 σ H1 Q I1 q1
  | false => exact ⟨H1, I1, q1⟩
theorem pw_or (ha : PT X a tA) (hb : PW X (.BoolOp .Or (b :: rest) pos) tB') : PW X (.BoolOp .Or (a :: b :: rest) pos) (tOr tA tB') := by
  intro wh pins s σ H Q I h
  refine isTrue_or (thn (ha pins s σ H _ I h) fun c s1 ⟨H1, I1, q1⟩ => ?_)
  cases c with
  | true => exact ⟨H1, I1, q1⟩
  | false => exact hb wh pins s1 σ H1 Q I1 q1
theorem pt_not (ha : PT X a tA) : PT X (.UnaryOp .Not a pos) (tNot tA) := by
  intro pins s σ H Q I h
  exact isTrue_not (ha pins s σ H (fun c H1 => Q (!c) H1) I h)
/-- .. as values (bools) -/
def tAndV (ta tb : TE) : TE := fun σ H Q => ta σ H fun x H1 => ∃ c, x = .bl c ∧ if c = true then tb σ H1 Q else Q (.bl false) H1
def tOrV (ta tb : TE) : TE := fun σ H Q => ta σ H fun x H1 => ∃ c, x = .bl c ∧ if c = true then Q (.bl true) H1 else tb σ H1 Q
def tNotV (ta : TE) : TE := fun σ H Q => ta σ H fun x H1 => ∃ c, x = .bl c ∧ Q (.bl (!c)) H1
theorem pe_one {op} {t : TE} (h : PE X a t) : PE X (.BoolOp op [a] pos) t := fun pins s σ H Q I hw => BoolOp_one (h pins s σ H Q I hw)
theorem pe_and (ha : PE X a ta) (hb : PE X (.BoolOp .And (b :: rest) pos) tb) : PE X (.BoolOp .And (a :: b :: rest) pos) (tAndV ta tb) := by
  intro pins s σ H Q I h
  refine BoolOp_and (thn (ha pins s σ H _ I h) fun v s1 ⟨x, H1, I1, r1, q1⟩ => ?_)
  obtain ⟨c, rfl, q1⟩ := q1
  cases r1
  refine wpAny_truthy_bool ?_
  cases c with
  | true => exact hb pins s1 σ H1 Q I1 q1
  | false => exact ⟨.bl false, H1, I1, rfl, q1⟩
theorem pe_or (ha : PE X a ta) (hb : PE X (.BoolOp .Or (b :: rest) pos) tb) : PE X (.BoolOp .Or (a :: b :: rest) pos) (tOrV ta tb) := by
  intro pins s σ H Q I h
  refine BoolOp_or (thn (ha pins s σ H _ I h) fun v s1 ⟨x, H1, I1, r1, q1⟩ => ?_)
  obtain ⟨c, rfl, q1⟩ := q1
  cases r1
  refine wpAny_truthy_bool ?_
  cases c with
  | false => exact hb pins s1 σ H1 Q I1 q1
  | true => exact ⟨.bl true, H1, I1, rfl, q1⟩
theorem pe_not (ha : PE X a ta) : PE X (.UnaryOp .Not a pos) (tNotV ta) := by
  intro pins s σ H Q I h
  refine UnaryOp_ (thn (ha pins s σ H _ I h) fun v s1 ⟨x, H1, I1, r1, q1⟩ => ?_)
  obtain ⟨c, rfl, q1⟩ := q1
  cases r1
  exact not_of (wpAny_truthy_bool ⟨.bl (!c), H1, I1, rfl, q1⟩)
/-- a if t else b -/
def tIf (t : TT) (ta tb : TE) : TE := fun σ H Q => t σ H fun c H1 => if c = true then ta σ H1 Q else tb σ H1 Q
theorem pe_ifExp {c : Expr} (hc : PT X c tA) (ha : PE X a ta) (hb : PE X b tb) : PE X (.IfExp c a b pos) (tIf tA ta tb) := by
  intro pins s σ H Q I h
  refine wpAny_IfExp (thn (hc pins s σ H _ I h) fun d s1 ⟨H1, I1, q1⟩ => ?_)
  cases d with
  | true => exact ha pins s1 σ H1 Q I1 q1
  | false => exact hb pins s1 σ H1 Q I1 q1
end
end L2

namespace L2
open PySem PySem.Spec PyProof.Rows

/-! ### a list, a tuple that is read: tracked, frozen, or an object of the module -/
def SqL (K : PySem.W.Frag) (H : Hp) (a : Addr) (xs : List V) : Prop :=
  Rd H a (.lst xs) ∨
    ∃ (o : Obj) (its : Array Value) (n : Nat), K.lookup a = some o ∧ o.cls = .type "list" ∧ o.dict = none ∧ o.data = .seq its n ∧ its.size ≤ sizeLine ∧ Vals xs its.toList
def SqT (K : PySem.W.Frag) (H : Hp) (a : Addr) (xs : List V) : Prop :=
  Rd H a (.tup xs) ∨
    ∃ (o : Obj) (its : Array Value) (n : Nat), K.lookup a = some o ∧ o.cls = .type "tuple" ∧ o.data = .seq its n ∧ its.size ≤ sizeLine ∧ Vals xs its.toList
def absV : Value → Option V
  | .none => some .non
  | .bool b => some (.bl b)
  | .int i _ => some (.int i)
  | .str x _ => some (.str x)
  | .bytes b _ => some (.byt b)
  | .float b _ => some (.flt b)
  | .ref a => some (.ref a)
  | .type n => some (.ty n)
  | _ => none
theorem RelV.abs {x : V} {u : Value} (r : RelV x u) : absV u = some x := by
  cases x with
  | non => cases r; rfl
  | bl _ => cases r; rfl
  | int _ => obtain ⟨t, rfl⟩ := r; rfl
  | str _ => obtain ⟨t, rfl⟩ := r; rfl
  | byt _ => obtain ⟨t, rfl⟩ := r; rfl
  | flt _ => obtain ⟨t, rfl⟩ := r; rfl
  | ref _ => cases r; rfl
  | ty _ => cases r; rfl
theorem RelV.inj {x y : V} {u : Value} (r : RelV x u) (q : RelV y u) : x = y := Option.some.inj (r.abs.symm.trans q.abs)
theorem Vals.inj : ∀ {xs ys : List V} {us : List Value}, Vals xs us → Vals ys us → xs = ys
  | _, _, _, .nil, .nil => rfl
  | _, _, _, .cons r t, .cons r' t' => by rw [r.inj r', Vals.inj t t']
section
variable {X : Cx} {pins : List (Addr × Obj)} {σ : St} {H : Hp} {s : Shared} {a : Addr} {xs ys : List V}
theorem SqL.of {K : PySem.W.Frag} (h : H a = some (.lst xs)) : SqL K H a xs := .inl (.inl h)
theorem SqT.of {K : PySem.W.Frag} (h : H a = some (.tup xs)) : SqT K H a xs := .inl (.inl h)
theorem Inv.list (I : Inv X pins σ H s) (h : SqL X.K H a xs) : ∃ its : List Value, Vals xs its ∧ PlainL s.heap a its.toArray ∧ xs.length ≤ sizeLine := by
  rcases h with h | ⟨o, its, n, hk, hc, hd, hs, hz, r⟩
  · obtain ⟨z, its, n, r, e⟩ := h.ok I.hok
    exact ⟨its, r, ⟨_, n, e, rfl, rfl, rfl⟩, z⟩
  · refine ⟨its.toList, r, ⟨o, n, I.kIn a o hk, hc, hd, by simpa using hs⟩, ?_⟩
    have e := r.length
    simp only [Array.length_toList] at e
    omega
theorem Inv.tuple (I : Inv X pins σ H s) (h : SqT X.K H a xs) : ∃ its : List Value, Vals xs its ∧ IsTup s.heap a its.toArray ∧ xs.length ≤ sizeLine := by
  rcases h with h | ⟨o, its, n, hk, hc, hs, hz, r⟩
  · obtain ⟨z, its, r, p⟩ := h.ok I.hok
    exact ⟨its, r, p, z⟩
  · refine ⟨its.toList, r, ⟨o, I.kIn a o hk, hc, n, by simpa using hs⟩, ?_⟩
    have e := r.length
    simp only [Array.length_toList] at e
    omega
theorem Inv.list_inj (I : Inv X pins σ H s) (h : SqL X.K H a xs) (h' : SqL X.K H a ys) : xs = ys := by
  obtain ⟨its, r, ⟨o, n, e, _, _, d⟩, _⟩ := I.list h
  obtain ⟨its', r', ⟨o', n', e', _, _, d'⟩, _⟩ := I.list h'
  rw [e] at e'; cases e'
  rw [d] at d'
  injection d' with d1 _
  have : its = its' := by simpa using congrArg Array.toList d1
  subst this
  exact r.inj r'
theorem Inv.tuple_inj (I : Inv X pins σ H s) (h : SqT X.K H a xs) (h' : SqT X.K H a ys) : xs = ys := by
  obtain ⟨its, r, ⟨o, e, _, n, d⟩, _⟩ := I.tuple h
  obtain ⟨its', r', ⟨o', e', _, n', d'⟩, _⟩ := I.tuple h'
  rw [e] at e'; cases e'
  rw [d] at d'
  injection d' with d1 _
  have : its = its' := by simpa using congrArg Array.toList d1
  subst this
  exact r.inj r'
end

/-! ### another wish about exceptions -/
abbrev Cx.wish (X : Cx) (E : Value → Shared → Prop) : Cx := { X with xe := E }
/-- no exception leaves -/
abbrev Cx.nox (X : Cx) : Cx := X.wish fun _ _ => False
theorem Cx.Ok.wish {X : Cx} (ok : X.Ok) (E : Value → Shared → Prop) : (X.wish E).Ok :=
  ⟨ok.mod, ok.kind, ok.glob, ok.blt, ok.above, ok.inj, ok.has, ok.cab, ok.hd, ok.frames, ok.stk, ok.exf, ok.bs, ok.bsz, ok.noex, ok.exfs, ok.funs, ok.frf⟩
theorem Cx.Ok.unwish {X : Cx} {E : Value → Shared → Prop} (ok : (X.wish E).Ok) : X.Ok :=
  ⟨ok.mod, ok.kind, ok.glob, ok.blt, ok.above, ok.inj, ok.has, ok.cab, ok.hd, ok.frames, ok.stk, ok.exf, ok.bs, ok.bsz, ok.noex, ok.exfs, ok.funs, ok.frf⟩
section
variable {X : Cx} {pins : List (Addr × Obj)} {σ : St} {H : Hp} {s : Shared} {E : Value → Shared → Prop}
theorem Inv.wish (I : Inv X pins σ H s) (E : Value → Shared → Prop) : Inv (X.wish E) pins σ H s := ⟨I.ok.wish E, I.os, I.bare, I.base, I.loc, I.cell, I.free, I.freeC, I.pin, I.hok, I.len⟩
theorem Inv.unwish (I : Inv (X.wish E) pins σ H s) : Inv X pins σ H s := ⟨I.ok.unwish, I.os, I.bare, I.base, I.loc, I.cell, I.free, I.freeC, I.pin, I.hok, I.len⟩
theorem SP.unwish {D : Ends} {f : Flow} {s' : Shared} (h : SP (X.wish E) pins D f s') : SP X pins D f s' := by
  cases f with
  | next => obtain ⟨σ', H', I, q⟩ := h; exact ⟨σ', H', I.unwish, q⟩
  | brk => obtain ⟨σ', H', I, q⟩ := h; exact ⟨σ', H', I.unwish, q⟩
  | cont => obtain ⟨σ', H', I, q⟩ := h; exact ⟨σ', H', I.unwish, q⟩
  | ret u => obtain ⟨v, σ', H', I, r, q⟩ := h; exact ⟨v, σ', H', I.unwish, r, q⟩
theorem PSs.nox {st : List Stmt} {t : TS} (h : PSs X.nox st t) : PSs X st t := fun pins s σ H D I hw =>
  wpAny_mono (h pins s σ H D (I.wish _) hw) (fun _ _ q => q.unwish) fun _ _ z => False.elim z
end

/-! ### blocks and small statements -/
section
variable {X : Cx} {st : Stmt} {rest : List Stmt} {t u : TS} {e : Expr} {te : TE} {pos : Pos}
def tNext : TS := fun D σ H => D.nx σ H
def tSeq (t u : TS) : TS := fun D σ H => t { D with nx := u D } σ H
theorem pss_nil : PSs X [] tNext := fun _ _ σ H _ I h => wpAny_execs_nil ⟨σ, H, I, h⟩
theorem pss_cons (h1 : PS X st t) (h2 : PSs X rest u) : PSs X (st :: rest) (tSeq t u) := by
  intro pins s σ H D I h
  refine wpAny_execs_cons (thn (h1 pins s σ H { D with nx := u D } I h) fun f s1 q => ?_)
  cases f with
  | next =>
    obtain ⟨σ', H', I', q⟩ := q
    exact h2 pins s1 σ' H' D I' q
  | ret v => exact q
  | brk => exact q
  | cont => exact q
theorem pss_one (h1 : PS X st t) : PSs X [st] t := by
  intro pins s σ H D I h
  refine wpAny_execs_cons (thn (h1 pins s σ H D I h) fun f s1 q => ?_)
  cases f with
  | next => exact wpAny_execs_nil q
  | ret v => exact q
  | brk => exact q
  | cont => exact q
/-- in a def's body nothing is shown -/
theorem Inv.quiet {pins : List (Addr × Obj)} {σ : St} {H : Hp} {s : Shared} (I : Inv X pins σ H s) : interactive X.env = false := by simp [interactive, I.ok.kind]
/-- an expression whose value is dropped -/
def tDrop (te : TE) : TS := fun D σ H => te σ H fun _ H1 => D.nx σ H1
theorem ps_expr (he : PE X e te) (hs : swapsWith e none pos.line X.env = pure false := by rfl) : PS X (.Expr e pos) (tDrop te) := by
  intro pins s σ H D I h
  exact wpAny_Expr_any (thn (he pins s σ H _ I h) fun v s1 ⟨x, H1, I1, r1, q1⟩ => ⟨σ, H1, I1, q1⟩) I.quiet hs
def tRet (te : TE) : TS := fun D σ H => te σ H D.rt
theorem ps_ret (he : PE X e te) : PS X (.Return (some e) pos) (tRet te) := by
  intro pins s σ H D I h
  exact wpAny_Return_some (thn (he pins s σ H _ I h) fun v s1 ⟨x, H1, I1, r1, q1⟩ => ⟨x, σ, H1, I1, r1, q1⟩)
def tRetN : TS := fun D _ H => D.rt .non H
def tIfS (c : TT) (t u : TS) : TS := fun D σ H => c σ H fun b H1 => if b = true then t D σ H1 else u D σ H1
theorem ps_if {c : Expr} {a b : List Stmt} {tc : TT} (hc : PT X c tc) (ha : PSs X a t) (hb : PSs X b u) : PS X (.If c a b pos) (tIfS tc t u) := by
  intro pins s σ H D I h
  refine wpAny_If (thn (hc pins s σ H _ I h) fun d s1 ⟨H1, I1, q1⟩ => ?_)
  cases d with
  | true => exact ha pins s1 σ H1 D I1 q1
  | false => exact hb pins s1 σ H1 D I1 q1
end

/-! ### targets -/
abbrev TG := V → St → Hp → (St → Hp → Prop) → Prop
abbrev TGs := List V → St → Hp → (St → Hp → Prop) → Prop
def PG (X : Cx) (target : Expr) (t : TG) : Prop :=
  ∀ (pins : List (Addr × Obj)) (s : Shared) (σ : St) (H : Hp) (v : V) (u : Value) (Q : St → Hp → Prop), Inv X pins σ H s → RelV v u → t v σ H Q →
    wpAny (model X.prog X.w) X.A (assign target X.env u) (fun _ s' => ∃ σ' H', Inv X pins σ' H' s' ∧ Q σ' H') X.xe s
/-- several targets, one after another -/
def PGs (X : Cx) (ts : List Expr) (t : TGs) : Prop :=
  ∀ (pins : List (Addr × Obj)) (s : Shared) (σ : St) (H : Hp) (vs : List V) (us : List Value) (Q : St → Hp → Prop), Inv X pins σ H s → Vals vs us → t vs σ H Q →
    wpAny (model X.prog X.w) X.A (assignInOrder ((assignEach ts X.env).map (·.2)) us) (fun _ s' => ∃ σ' H', Inv X pins σ' H' s' ∧ Q σ' H') X.xe s
/-- o[i] = v, by values -/
abbrev TSet := V → V → V → Hp → (Hp → Prop) → Prop
def PSet (X : Cx) (t : TSet) : Prop :=
  ∀ (pins : List (Addr × Obj)) (s : Shared) (σ : St) (H : Hp) (o i v : V) (ov iv u : Value) (Q : Hp → Prop), Inv X pins σ H s → RelV o ov → RelV i iv → RelV v u → t o i v H Q →
    wpAny (model X.prog X.w) X.A (setItem ov iv u) (fun _ s' => ∃ H', Inv X pins σ H' s' ∧ Q H') X.xe s
section
variable {X : Cx} {pos : Pos}
def gName (i : Nat) : TG := fun v σ H Q => Q (σ.set i (some v)) H
theorem pg_name {i : Nat} {x : Str} (hN : X.N.Nodup) (hi : X.N[i]? = some x) (hx : Loc X.env.scope x) (hf : X.fn x = true ∨ X.env.scope.names.lookup x = some .local := by first | exact .inl rfl | exact .inr rfl | assumption) : PG X (.Name x pos) (gName i) := by
  intro pins s σ H v u Q I r h
  exact wpAny_assign_Name (store_ok I hN hi hx r (fun s' I' => ⟨_, H, I', h⟩) hf)
def gNil : TGs := fun vs σ H Q => vs = [] ∧ Q σ H
def gCons (t : TG) (u : TGs) : TGs := fun vs σ H Q => ∃ v r, vs = v :: r ∧ t v σ H fun σ' H' => u r σ' H' Q
theorem pgs_nil : PGs X [] gNil := by
  intro pins s σ H vs us Q I r h
  obtain ⟨e, h⟩ := h
  subst e
  cases r
  exact assignInOrder_nil ⟨σ, H, I, h⟩
theorem pgs_cons {e : Expr} {es : List Expr} {t : TG} {u : TGs} (h1 : PG X e t) (h2 : PGs X es u)
    (hs : (assignEach (e :: es) X.env).map (·.2) = assign e X.env :: (assignEach es X.env).map (·.2) := by rfl) : PGs X (e :: es) (gCons t u) := by
  intro pins s σ H vs us Q I r h
  obtain ⟨v, vr, e1, h⟩ := h
  subst e1
  cases r with
  | cons r rr =>
    rw [hs]
    refine assignInOrder_cons (thn (h1 pins s σ H _ _ _ I r h) fun _ s1 ⟨σ1, H1, I1, q1⟩ => ?_)
    exact h2 pins s1 σ1 H1 _ _ Q I1 rr q1
/-- (a, b, ..) = a tuple of that length -/
def gTup (K : PySem.W.Frag) (n : Nat) (t : TGs) : TG := fun v σ H Q => ∃ a xs, v = .ref a ∧ SqT K H a xs ∧ xs.length = n ∧ t xs σ H Q
theorem pg_tup {es : List Expr} {k : Nat} {t : TGs} {n : Nat} (hc : X.calm = true) (h : PGs X es t)
    (hn : (assignEach es X.env).length = n := by rfl) (hst : (assignEach es X.env).findIdx? (·.1) = none := by rfl) : PG X (.Tuple es k pos) (gTup X.K n t) := by
  intro pins s σ H v u Q I r hw
  obtain ⟨a, xs, e1, hq, hl, hw⟩ := hw
  subst e1
  cases r
  obtain ⟨its, rv, ht, hz⟩ := I.tuple hq
  refine assign_Tuple_tuple (I.ok.hd hc) ht (by simp [hn, ← hl, rv.length]) hst fun h' hx => ?_
  have I1 : Inv X pins σ H { s with heap := h' } := I.kept (t' := s.toks) fun b o e => hx b o (Nat.ne_of_lt (Heap.lt_size e)) e
  exact h pins _ σ H xs _ Q I1 (by simpa using rv) hw
/-- o[i] = .. -/
def gSub (to ti : TE) (t : TSet) : TG := fun v σ H Q => to σ H fun o H1 => ti σ H1 fun i H2 => t o i v H2 fun H3 => Q σ H3
theorem pg_sub {o i : Expr} {to ti : TE} {t : TSet} (ho : PE X o to) (hi : PE X i ti) (hs : PSet X t)
    (ha : ∀ v, assign (.Subscript o i pos) X.env v = (do
      let ov ← holding [v] (eval o X.env)
      let iv ← holding [v, ov] (eval i X.env)
      standAt pos
      holding [v, ov, iv] (setItem ov iv v)
      release [v, ov, iv] []) := by intro _; rfl) : PG X (.Subscript o i pos) (gSub to ti t) := by
  intro pins s σ H v u Q I r h
  rw [ha]
  refine wpAny_bind (wpAny_holding (thn (ho pins s σ H _ I h) fun ov s1 ⟨x, H1, I1, r1, q1⟩ => ?_))
  refine wpAny_bind (wpAny_holding (thn (hi pins s1 σ H1 _ I1 q1) fun iv s2 ⟨y, H2, I2, r2, q2⟩ => ?_))
  refine wpAny_bind (wpAny_standAt (wpAny_bind (wpAny_holding (thn (hs pins s2 σ H2 x y v ov iv u _ I2 r1 r2 r q2) fun _ s3 ⟨H3, I3, q3⟩ => ?_))))
  exact wpAny_release ⟨σ, H3, I3, q3⟩
/-- target = value -/
def tAsg (te : TE) (g : TG) : TS := fun D σ H => te σ H fun x H1 => g x σ H1 D.nx
theorem ps_asg {tg e : Expr} {te : TE} {g : TG} (he : PE X e te) (hg : PG X tg g) (hs : swapsWithSole [tg] e pos.line X.env = pure false := by rfl) (hw : swappedStores [tg] e X.env = pure none := by rfl)
    (h1 : (assignEach [tg] X.env).map (·.2) = [assign tg X.env] := by rfl) : PS X (.Assign [tg] e pos) (tAsg te g) := by
  intro pins s σ H D I h
  refine wpAny_Assign_stores (thn (he pins s σ H _ I h) fun v s1 ⟨x, H1, I1, r1, q1⟩ => ?_) hs hw
  rw [h1]
  exact thn (hg pins s1 σ H1 x v _ I1 r1 q1) fun _ s2 q => q
/-- name = value -/
theorem ps_set {i : Nat} {x : Str} {e : Expr} {te : TE} {pos' : Pos} (hN : X.N.Nodup) (hi : X.N[i]? = some x) (hx : Loc X.env.scope x) (he : PE X e te) (hs : swapsWith e (some (.Name x pos')) pos.line X.env = pure false := by rfl) (hf : X.fn x = true ∨ X.env.scope.names.lookup x = some .local := by first | exact .inl rfl | exact .inr rfl | assumption) :
    PS X (.Assign [.Name x pos'] e pos) (tAsg te (gName i)) := by
  intro pins s σ H D I h
  refine wpAny_Assign_Name (thn (he pins s σ H _ I h) fun v s1 ⟨y, H1, I1, r1, q1⟩ => ?_) hs
  exact store_ok I1 hN hi hx r1 (fun s2 I2 => ⟨_, H1, I2, q1⟩) hf
end

/-! ### while -/
section
variable {X : Cx} {pos : Pos}
/-- the invariant W with its measure -/
def tWhile (c : TT) (tb : TS) : TS := fun D σ H => ∃ W : Nat → St → Hp → Prop, (∃ m, W m σ H) ∧ ∀ m σ H, W m σ H →
  c σ H fun b H1 => if b = true then ∃ N : St → Hp → Prop, (∀ σ' H', N σ' H' → ∃ m', m' < m ∧ W m' σ' H') ∧ tb { D with nx := N, ct := N, bk := D.nx } σ H1 else D.nx σ H1
theorem ps_while {c : Expr} {body : List Stmt} {tc : TT} {tb : TS} (hp : PassesOwn (model X.prog X.w) X.A X.env X.xe) (hc : PT X c tc) (hb : PSs X body tb) : PS X (.While c body [] pos) (tWhile tc tb) := by
  intro pins s σ H D I h
  obtain ⟨W, ⟨m0, w0⟩, turn⟩ := h
  refine wpAny_While (codeAny_whileLoop (fun n s' => ∃ σ' H', Inv X pins σ' H' s' ∧ W n σ' H') ?_ m0 ⟨σ, H, I, w0⟩)
  rintro n s1 ⟨σ1, H1, I1, w1⟩
  refine wpAny_passesOwn hp (thn (hc pins s1 σ1 H1 _ I1 (turn n σ1 H1 w1)) fun b s2 ⟨H2, I2, q2⟩ => ?_)
  cases b with
  | true =>
    obtain ⟨N, hN, q2⟩ := q2
    rw [if_pos rfl]
    refine wpAny_passesOwn hp (thn (hb pins s2 σ1 H2 _ I2 q2) fun f s3 q3 => ?_)
    cases f with
    | next =>
      obtain ⟨σ3, H3, I3, n3⟩ := q3
      obtain ⟨m', hm, w3⟩ := hN σ3 H3 n3
      exact ⟨m', hm, σ3, H3, I3, w3⟩
    | cont =>
      obtain ⟨σ3, H3, I3, n3⟩ := q3
      obtain ⟨m', hm, w3⟩ := hN σ3 H3 n3
      exact ⟨m', hm, σ3, H3, I3, w3⟩
    | brk => exact q3
    | ret v => exact q3
  | false =>
    rw [if_neg Bool.false_ne_true]
    exact wpAny_execs_nil ⟨σ1, H2, I2, q2⟩
end

/-! ### what a loop or a comprehension walks -/
/-- at turn i: it yields x (the heap may grow), or it stops -/
structure It where
  go : Nat → Hp → Prop
  yld : Nat → Hp → V → Hp → Prop
  stop : Nat → Hp → Prop
/-- the iterator's own objects may turn: they are not the frame's, not pinned, younger than the entry (or a comprehension's own) -/
def FpOk (X : Cx) (pins : List (Addr × Obj)) (H : Hp) (b : Addr) : Prop :=
  H b = none ∧ b ≠ X.env.locals ∧ b ∉ X.fs ∧ (b ∈ X.ex ∨ X.s₀.heap.objs.size ≤ b) ∧ (∀ x c, X.env.cells.lookup x = some c → c ≠ b) ∧ ∀ p ∈ X.pn ++ pins, p.1 ≠ b
theorem Inv.fpOk {X : Cx} {pins : List (Addr × Obj)} {σ : St} {H H' : Hp} {s : Shared} {b : Addr} (I : Inv X pins σ H s) (hb : s.heap.objs.size ≤ b) (hn : H' b = none) : FpOk X pins H' b := by
  refine ⟨hn, Nat.ne_of_gt (Nat.lt_of_lt_of_le I.lt hb), I.nofs hb, .inr (Nat.le_trans I.sz hb), fun x c e z => ?_, fun p hp z => ?_⟩
  · obtain ⟨v, q⟩ := I.cell x c e
    exact absurd (Nat.lt_of_lt_of_le q.lt (by rw [z]; exact hb)) (Nat.lt_irrefl _)
  · exact absurd (Nat.lt_of_lt_of_le (Heap.lt_size (I.pin p hp).1) (by rw [z]; exact hb)) (Nat.lt_irrefl _)
structure Turn (P : Program) (w : World) (K : PySem.W.Frag) (tg : Expr) (J : It) (fp : List Addr) (it : Addr) (tn : Nat → Heap → Prop) : Prop where
  mem : it ∈ fp
  obj : ∀ i h, tn i h → ∀ b ∈ fp, ∃ o, h.get? b = some o ∧ ∀ v, o.data ≠ .cell v
  keep : ∀ i h h', tn i h → (∀ b ∈ fp, ∀ o, h.get? b = some o → h'.get? b = some o) → tn i h'
  item : ∀ (X : Cx), X.prog = P → X.w = w → X.K = K → X.calm = true → ∀ (i : Nat) (pins : List (Addr × Obj)) (s : Shared) (σ : St) (H : Hp) (E : Value → Shared → Prop), Inv X pins σ H s → (∀ b ∈ fp, FpOk X pins H b) → tn i s.heap → J.go i H →
    wpAny (model P w) X.A (pyNext (.ref it)) (fun r s1 => ∃ u, r = some u ∧
      wpAny (model P w) X.A (letOwnedTupleGo tg (.ref it) u) (fun _ s2 => ∃ x H', Inv X pins σ H' s2 ∧ RelV x u ∧ J.yld i H x H' ∧ tn (i + 1) s2.heap ∧ ∀ b ∈ fp, H' b = none) E s1) E s
  done : ∀ (X : Cx), X.prog = P → X.w = w → X.K = K → X.calm = true → ∀ (i : Nat) (pins : List (Addr × Obj)) (s : Shared) (σ : St) (H : Hp) (E : Value → Shared → Prop), Inv X pins σ H s → (∀ b ∈ fp, FpOk X pins H b) → tn i s.heap → J.stop i H →
    wpAny (model P w) X.A (pyNext (.ref it)) (fun r s1 => r = none ∧ Inv X pins σ H s1) E s
  self : ∀ (A : Around) (i : Nat) (s : Shared) (Q : Value → Shared → Prop) (E : Value → Shared → Prop), tn i s.heap → Q (.ref it) s → wpAny (model P w) A (pyIter (.ref it)) Q E s
abbrev TI := St → Hp → (It → Hp → Prop) → Prop
/-- an iterator has come -/
def PIE (X : Cx) (pins : List (Addr × Obj)) (σ : St) (tg : Expr) (R : It → Hp → Prop) (itv : Value) (s2 : Shared) : Prop :=
  ∃ (it : Addr) (fp : List Addr) (tn : Nat → Heap → Prop) (J : It) (H' : Hp), itv = .ref it ∧ Inv X pins σ H' s2 ∧ Turn X.prog X.w X.K tg J fp it tn ∧ tn 0 s2.heap ∧ (∀ b ∈ fp, FpOk X pins H' b) ∧ R J H'
def PI (X : Cx) (tg iter : Expr) (wi : TI) : Prop :=
  ∀ (pins : List (Addr × Obj)) (s : Shared) (σ : St) (H : Hp) (R : It → Hp → Prop), Inv X pins σ H s → wi σ H R →
    wpAny (model X.prog X.w) X.A (eval iter X.env) (fun v s1 => wpAny (model X.prog X.w) X.A (pyIter v) (PIE X pins σ tg R) X.xe s1) X.xe s

/-- the step ahead of the store is nothing for an iterator that keeps no tuple -/
theorem go_of {M : Model} {A : Around} {E : Value → Shared → Prop} {s : Shared} {tg : Expr} {it : Addr} {u : Value} {o : Obj} {n : String} {vs : Array Value} {Q : Unit → Shared → Prop} (ho : s.heap.get? it = some o) (hc : o.cls = .type n) (hd : o.data = .fields vs)
    (hn : ["enumerate", "zip", "dict_itemiterator", "dict_reverseitemiterator", "odict_iterator", "itertools.zip_longest", "itertools.pairwise"].contains n = false) (hQ : Q () s) : wpAny M A (letOwnedTupleGo tg (.ref it) u) Q E s := by
  unfold letOwnedTupleGo
  cases tg <;> first
    | exact wpAny_pure hQ
    | (cases u <;> first
        | exact wpAny_pure hQ
        | (refine wpAny_bind (wpAny_load ho ?_)
           rw [hc, hd]
           show wpAny M A (if (["enumerate", "zip", "dict_itemiterator", "dict_reverseitemiterator", "odict_iterator", "itertools.zip_longest", "itertools.pairwise"].contains n && vs[0]? == some (rawInt _)) = true then _ else _) Q E s
           rw [if_neg (by intro h; rw [hn, Bool.false_and] at h; cases h)]
           exact wpAny_pure hQ))

/-- the list at a, as it stands at each turn (a loop may append to it) -/
def Itl (K : PySem.W.Frag) (a : Addr) : It :=
  ⟨fun i H => ∃ xs x, SqL K H a xs ∧ xs[i]? = some x, fun i H x H' => H' = H ∧ ∀ xs, SqL K H a xs → xs[i]? = some x, fun i H => ∃ xs, SqL K H a xs ∧ xs.length ≤ i⟩
def Itt (K : PySem.W.Frag) (a : Addr) : It :=
  ⟨fun i H => ∃ xs x, SqT K H a xs ∧ xs[i]? = some x, fun i H x H' => H' = H ∧ ∀ xs, SqT K H a xs → xs[i]? = some x, fun i H => ∃ xs, SqT K H a xs ∧ xs.length ≤ i⟩
/-- lo, lo + 1, .. (n of them) -/
def Itr (lo : Int) (n : Nat) : It := ⟨fun i _ => i < n, fun i H x H' => H' = H ∧ x = .int (lo + i), fun i _ => n ≤ i⟩
theorem turn_list {P : Program} {w : World} {K : PySem.W.Frag} {tg : Expr} (a it : Addr) : Turn P w K tg (Itl K a) [it] it (fun i h => h.IsListIter it a i) where
  mem := by simp
  obj := fun i h st b hb => by
    have e : b = it := by simpa using hb
    subst e
    obtain ⟨o, e, c, d⟩ := st
    exact ⟨o, e, fun v z => by rw [d] at z; cases z⟩
  keep := fun i h h' st k => st.at fun o e => k it (by simp) o e
  item := by
    intro X hP hw hK hc i pins s σ H E I hf st hg
    subst hP hw hK
    obtain ⟨xs, x, hq, hx⟩ := hg
    obtain ⟨its, rv, p, hz⟩ := I.list hq
    obtain ⟨u, hu, ru⟩ := rv.get hx
    obtain ⟨f0, f1, f2, f3, f4, f5⟩ := hf it (by simp)
    refine wpAny_pyNext_list_item st p.isList (x := u) (by simpa using hu) fun h' st' sb => ?_
    have I1 : Inv X pins σ H { s with heap := h' } := I.turned (t' := s.toks) (fun b o hb e => (sb.2 b hb).trans e) f0 f1 f3 f4 f5
    obtain ⟨o, e, c, d⟩ := id st'
    exact ⟨u, rfl, go_of (s := { s with heap := h' }) e c d (by decide) ⟨x, H, I1, ru, ⟨rfl, fun ys hy => by rw [I.list_inj hy hq]; exact hx⟩, st', fun b hb => (hf b hb).1⟩⟩
  done := by
    intro X hP hw hK hc i pins s σ H E I hf st hg
    subst hP hw hK
    obtain ⟨xs, hq, hx⟩ := hg
    obtain ⟨its, rv, p, hz⟩ := I.list hq
    obtain ⟨f0, f1, f2, f3, f4, f5⟩ := hf it (by simp)
    have hl := rv.length
    exact wpAny_pyNext_list_end (I.ok.hd hc) st p.isList (by simp; omega) fun h' eb => ⟨rfl, I.turned (t' := s.toks) (fun b o hb e => eb b o hb e) f0 f1 f3 f4 f5⟩
  self := fun _ _ _ _ _ st h => wpAny_pyIter_listiter st h
theorem turn_tuple {P : Program} {w : World} {K : PySem.W.Frag} {tg : Expr} (a it : Addr) : Turn P w K tg (Itt K a) [it] it (fun i h => h.IsTupleIter it a i) where
  mem := by simp
  obj := fun i h st b hb => by
    have e : b = it := by simpa using hb
    subst e
    obtain ⟨o, e, c, d⟩ := st
    exact ⟨o, e, fun v z => by rw [d] at z; cases z⟩
  keep := fun i h h' st k => st.at fun o e => k it (by simp) o e
  item := by
    intro X hP hw hK hc i pins s σ H E I hf st hg
    subst hP hw hK
    obtain ⟨xs, x, hq, hx⟩ := hg
    obtain ⟨its, rv, p, hz⟩ := I.tuple hq
    obtain ⟨u, hu, ru⟩ := rv.get hx
    obtain ⟨f0, f1, f2, f3, f4, f5⟩ := hf it (by simp)
    refine wpAny_pyNext_tuple_item st (show s.heap.IsTuple a its.toArray from p) (x := u) (by simpa using hu) fun h' st' sb => ?_
    have I1 : Inv X pins σ H { s with heap := h' } := I.turned (t' := s.toks) (fun b o hb e => (sb.2 b hb).trans e) f0 f1 f3 f4 f5
    obtain ⟨o, e, c, d⟩ := id st'
    exact ⟨u, rfl, go_of (s := { s with heap := h' }) e c d (by decide) ⟨x, H, I1, ru, ⟨rfl, fun ys hy => by rw [I.tuple_inj hy hq]; exact hx⟩, st', fun b hb => (hf b hb).1⟩⟩
  done := by
    intro X hP hw hK hc i pins s σ H E I hf st hg
    subst hP hw hK
    obtain ⟨xs, hq, hx⟩ := hg
    obtain ⟨its, rv, p, hz⟩ := I.tuple hq
    obtain ⟨f0, f1, f2, f3, f4, f5⟩ := hf it (by simp)
    have hl := rv.length
    exact wpAny_pyNext_tuple_end (I.ok.hd hc) st (show s.heap.IsTuple a its.toArray from p) (by simp; omega) fun h' eb => ⟨rfl, I.turned (t' := s.toks) (fun b o hb e => eb b o hb e) f0 f1 f3 f4 f5⟩
  self := fun _ _ _ _ _ st h => wpAny_pyIter_tupleiter st h
theorem turn_range {P : Program} {w : World} {K : PySem.W.Frag} {tg : Expr} (it : Addr) (lo : Int) (n : Nat) : Turn P w K tg (Itr lo n) [it] it (fun i h => IsRangeIter h it (lo + (i : Nat) * 1) ((n : Int) - (i : Nat)) 1) where
  mem := by simp
  obj := fun i h st b hb => by
    have e : b = it := by simpa using hb
    subst e
    exact ⟨_, st, fun v z => by
      have z' : Data.fields _ = Data.cell v := z
      cases z'⟩
  keep := fun i h h' st k => k it (by simp) _ st
  item := by
    intro X hP hw hK hc i pins s σ H E I hf st hg
    subst hP hw hK
    obtain ⟨f0, f1, f2, f3, f4, f5⟩ := hf it (by simp)
    have W := Walks.range (prog := X.prog) (w := X.w) (I.ok.hd hc) it lo 1 n
    refine W.item i s _ _ hg st fun v h' tk hv st' kk => ?_
    obtain ⟨t, rfl⟩ := hv
    have I1 : Inv X pins σ H { s with heap := h', toks := tk } := I.turned (fun b o hb e => kk b o (by simpa using hb) e) f0 f1 f3 f4 f5
    refine ⟨_, rfl, go_of (s := { s with heap := h', toks := tk }) (n := "range_iterator") st' rfl rfl (by decide) ⟨.int (lo + i), H, I1, ⟨t, ?_⟩, ⟨rfl, rfl⟩, st', fun b hb => (hf b hb).1⟩⟩
    rw [Int.mul_one]
  done := by
    intro X hP hw hK hc i pins s σ H E I hf st hg
    subst hP hw hK
    obtain ⟨f0, f1, f2, f3, f4, f5⟩ := hf it (by simp)
    exact wpAny_pyNext_range_end (I.ok.hd hc) st (by have : n ≤ i := hg; omega) fun h' eb => ⟨rfl, I.turned (t' := s.toks) (fun b o hb e => eb b o hb e) f0 f1 f3 f4 f5⟩
  self := fun _ _ _ _ _ st h => wpAny_pyIter_rangeiter st h
end L2

namespace L2
open PySem PySem.Spec PyProof.Rows
section
variable {X : Cx} {tg : Expr}
def iList (K : PySem.W.Frag) (tl : TE) : TI := fun σ H R => tl σ H fun x H1 => ∃ a, x = .ref a ∧ (∃ xs, SqL K H1 a xs) ∧ R (Itl K a) H1
def iTup (K : PySem.W.Frag) (tl : TE) : TI := fun σ H R => tl σ H fun x H1 => ∃ a, x = .ref a ∧ (∃ xs, SqT K H1 a xs) ∧ R (Itt K a) H1
theorem pi_list {l : Expr} {tl : TE} (hl : PE X l tl) : PI X tg l (iList X.K tl) := by
  intro pins s σ H R I h
  refine thn (hl pins s σ H _ I h) fun v s1 ⟨x, H1, I1, r1, q1⟩ => ?_
  obtain ⟨a, e, ⟨xs, hq⟩, q⟩ := q1
  subst e
  cases r1
  obtain ⟨its, rv, p, hz⟩ := I1.list hq
  refine wpAny_pyIter_list p.isList ?_
  refine ⟨s1.heap.objs.size, [s1.heap.objs.size], _, _, H1, rfl, I1.kept (t' := s1.toks) fun b o e => Heap.get?_push_of_some _ e, turn_list a _, ⟨_, Heap.get?_push_size _ rfl, rfl, rfl⟩, fun b hb => ?_, q⟩
  have e : b = s1.heap.objs.size := by simpa using hb
  subst e
  exact I1.fpOk (Nat.le_refl _) (I1.hok.fresh (Nat.le_refl _))
theorem pi_tup {l : Expr} {tl : TE} (hl : PE X l tl) : PI X tg l (iTup X.K tl) := by
  intro pins s σ H R I h
  refine thn (hl pins s σ H _ I h) fun v s1 ⟨x, H1, I1, r1, q1⟩ => ?_
  obtain ⟨a, e, ⟨xs, hq⟩, q⟩ := q1
  subst e
  cases r1
  obtain ⟨its, rv, p, hz⟩ := I1.tuple hq
  refine wpAny_pyIter_tuple (show s1.heap.IsTuple a its.toArray from p) ?_
  refine ⟨s1.heap.objs.size, [s1.heap.objs.size], _, _, H1, rfl, I1.kept (t' := s1.toks) fun b o e => Heap.get?_push_of_some _ e, turn_tuple a _, ⟨_, Heap.get?_push_size _ rfl, rfl, rfl⟩, fun b hb => ?_, q⟩
  have e : b = s1.heap.objs.size := by simpa using hb
  subst e
  exact I1.fpOk (Nat.le_refl _) (I1.hok.fresh (Nat.le_refl _))
/-- a range object just made, walked -/
theorem range_it {pins : List (Addr × Obj)} {σ : St} {H : Hp} {s : Shared} {R : It → Hp → Prop} {E : Value → Shared → Prop} {lo hi : Int} {t u v : Tok} {tk : Nat} (I : Inv X pins σ H s) (h1 : -(2 ^ 62) ≤ lo) (h2 : lo < 2 ^ 62) (h3 : -(2 ^ 62) ≤ hi) (h4 : hi < 2 ^ 62)
    (q : R (Itr lo (hi - lo).toNat) H) : wpAny (model X.prog X.w) X.A (pyIter (.ref s.heap.objs.size)) (PIE X pins σ tg R) E { s with heap := s.heap.push { cls := .type "range", data := .fields #[.int lo t, .int hi u, .int 1 v] }, toks := tk } := by
  refine wpAny_pyIter_range (IsRange.new ..) (small_one h1 h2 h3 h4) ?_
  have I1 : Inv X pins σ H { s with heap := s.heap.push { cls := .type "range", data := .fields #[.int lo t, .int hi u, .int 1 v] }, toks := tk } := I.kept fun b o e => Heap.get?_push_of_some _ e
  refine ⟨(s.heap.push { cls := .type "range", data := .fields #[.int lo t, .int hi u, .int 1 v] }).objs.size, [(s.heap.push { cls := .type "range", data := .fields #[.int lo t, .int hi u, .int 1 v] }).objs.size], _, _, H, rfl,
    I1.kept (t' := tk) fun b o e => Heap.get?_push_of_some _ e, turn_range _ lo (hi - lo).toNat, ?_, fun b hb => ?_, q⟩
  · have e1 : lo + ((0 : Nat) : Int) * 1 = lo := by simp
    have e2 : (((hi - lo).toNat : Nat) : Int) - ((0 : Nat) : Int) = Builtin.Range.rangeSize lo hi 1 := by rw [rangeSize_one]; split <;> omega
    show IsRangeIter _ _ (lo + ((0 : Nat) : Int) * 1) ((((hi - lo).toNat : Nat) : Int) - ((0 : Nat) : Int)) 1
    rw [e1, e2]
    exact Heap.get?_push_size _ rfl
  · have e : b = (s.heap.push { cls := .type "range", data := .fields #[.int lo t, .int hi u, .int 1 v] }).objs.size := by simpa using hb
    subst e
    exact I1.fpOk (Nat.le_refl _) (I1.hok.fresh (Nat.le_refl _))
def iRng1 (ta : TA) : TI := fun σ H R => ta σ H fun vs H1 => ∃ j : Int, vs = [.int j] ∧ -(2 ^ 62) ≤ j ∧ j < 2 ^ 62 ∧ R (Itr 0 j.toNat) H1
theorem pi_range1 {a : Expr} {ta : TA} {p pos : Pos} (hg : Gl X "range") (hm : X.mg "range" = none) (ha : PA X [a] ta) (hs : starEach [a] X.env = [(false, eval a X.env)] := by rfl) : PI X tg (.Call (.Name "range" p) [a] [] pos) (iRng1 ta) := by
  intro pins s σ H R I h
  refine Call_ (ld_blt I hg hm boot_range (PyProof.Rows.callWith_type1 (thn (ha pos pins s σ H _ I h) fun us s1 ⟨vs, H1, I1, r1, q1⟩ => ?_) hs rfl))
  obtain ⟨j, e, q1, q2, q⟩ := q1
  subst e
  cases r1 with
  | cons r rr =>
    cases rr
    obtain ⟨t, rfl⟩ := r
    exact call_range_1 (range_it I1 (by omega) (by omega) q1 q2 (by simpa using q))
/-! ### for -/
/-- W: the invariant by the turn and a measure; N: what the body is to reach -/
def tFor (wi : TI) (g : TG) (tb : TS) : TS := fun D σ H => wi σ H fun J H1 => ∃ W : Nat → Nat → St → Hp → Prop, (∃ m, W 0 m σ H1) ∧ ∀ i m σ H, W i m σ H →
  (J.stop i H ∧ D.nx σ H) ∨ (J.go i H ∧ ∃ N : St → Hp → Prop, (∀ σ' H', N σ' H' → ∃ m', m' < m ∧ W (i + 1) m' σ' H') ∧ ∀ x H', J.yld i H x H' → g x σ H' fun σ2 H2 => tb { D with nx := N, ct := N, bk := D.nx } σ2 H2)
/-- the records at fp as they stand -/
def pinsAt (fp : List Addr) (h : Heap) : List (Addr × Obj) := fp.filterMap fun b => (h.get? b).map fun o => (b, o)
theorem mem_pinsAt {fp : List Addr} {h : Heap} {b : Addr} {o : Obj} (hb : b ∈ fp) (e : h.get? b = some o) : (b, o) ∈ pinsAt fp h := List.mem_filterMap.mpr ⟨b, hb, by rw [e]; rfl⟩
theorem of_pinsAt {fp : List Addr} {h : Heap} {p : Addr × Obj} (hp : p ∈ pinsAt fp h) : p.1 ∈ fp ∧ h.get? p.1 = some p.2 := by
  obtain ⟨b, hb, e⟩ := List.mem_filterMap.mp hp
  cases q : h.get? b with
  | none => rw [q] at e; cases e
  | some o =>
    rw [q] at e
    have e' : (b, o) = p := Option.some.inj e
    subst e'
    exact ⟨hb, q⟩
theorem Inv.pinned {pins : List (Addr × Obj)} {σ : St} {H : Hp} {s : Shared} {fp : List Addr} (I : Inv X pins σ H s) (hf : ∀ b ∈ fp, FpOk X pins H b) (ho : ∀ b ∈ fp, ∃ o, s.heap.get? b = some o ∧ ∀ v, o.data ≠ .cell v) : Inv X (pins ++ pinsAt fp s.heap) σ H s :=
  I.pins_of fun p hp => (List.mem_append.mp hp).elim (fun z => I.pin p (List.mem_append_right _ z)) fun z => by
    obtain ⟨hb, e⟩ := of_pinsAt z
    obtain ⟨f0, f1, f2, _⟩ := hf p.1 hb
    obtain ⟨o, e', d⟩ := ho p.1 hb
    rw [e] at e'; cases e'
    exact ⟨e, f0, f1, f2, d⟩
theorem Inv.unpinned {pins pl : List (Addr × Obj)} {σ : St} {H : Hp} {s : Shared} (I : Inv X (pins ++ pl) σ H s) : Inv X pins σ H s := I.pins_of fun p hp => I.pin p (List.mem_append_right _ (List.mem_append_left _ hp))
theorem ps_for {iter : Expr} {body : List Stmt} {wi : TI} {g : TG} {tb : TS} {pos : Pos} (hp : PassesOwn (model X.prog X.w) X.A X.env X.xe) (hc : X.calm = true) (hi : PI X tg iter wi) (hg : PG X tg g) (hb : PSs X body tb)
    (hs : ∀ x, foldedSetIterable iter X.env x = pure x := by intro _; rfl) : PS X (.For tg iter body [] pos) (tFor wi g tb) := by
  intro pins s σ H D I h
  refine wpAny_For (thn (hi pins s σ H _ I h) fun v s1 h1 => thn h1 fun itv s2 h2 => ?_) hs
  obtain ⟨it, fp, tn, J, H2, e, I2, T, st2, f2, W, ⟨m0, w0⟩, turn⟩ := h2
  subst e
  have stat : ∀ {H' : Hp}, (∀ b ∈ fp, H' b = none) → ∀ b ∈ fp, FpOk X pins H' b := fun hn b hb => ⟨hn b hb, (f2 b hb).2⟩
  refine codeAny_forLoop_any (fun n s' => ∃ i σ' H', Inv X pins σ' H' s' ∧ tn i s'.heap ∧ (∀ b ∈ fp, H' b = none) ∧ W i n σ' H') ?_ m0 ⟨0, σ, H2, I2, st2, fun b hb => (f2 b hb).1, w0⟩
  rintro n s3 ⟨i, σ3, H3, I3, st3, fr3, w3⟩
  rcases turn i n σ3 H3 w3 with ⟨stop, qn⟩ | ⟨go, N, hN, step⟩
  · refine wpAny_passesOwn hp (thn (T.done X rfl rfl rfl hc i pins s3 σ3 H3 X.xe I3 (stat fr3) st3 stop) fun r s4 ⟨hr, I4⟩ => ?_)
    subst hr
    exact wpAny_execs_nil ⟨σ3, H3, I4, qn⟩
  · refine wpAny_passesOwn hp (thn (T.item X rfl rfl rfl hc i pins s3 σ3 H3 X.xe I3 (stat fr3) st3 go) fun r s4 ⟨u, hr, h4⟩ => ?_)
    subst hr
    refine wpAny_passesOwn hp (thn h4 fun _ s5 ⟨x, H5, I5, r5, y5, st5, fr5⟩ => ?_)
    have I5' := I5.pinned (stat fr5) (T.obj _ _ st5)
    refine wpAny_passesOwn hp (thn (hg _ s5 σ3 H5 x u _ I5' r5 (step x H5 y5)) fun _ s6 ⟨σ6, H6, I6, q6⟩ => ?_)
    refine wpAny_passesOwn hp (thn (hb _ s6 σ6 H6 _ I6 q6) fun f s7 q7 => ?_)
    have again : ∀ {σ7 : St} {H7 : Hp}, Inv X (pins ++ pinsAt fp s5.heap) σ7 H7 s7 → N σ7 H7 → ∃ m, m < n ∧ ∃ i σ' H', Inv X pins σ' H' s7 ∧ tn i s7.heap ∧ (∀ b ∈ fp, H' b = none) ∧ W i m σ' H' := fun {σ7 H7} I7 n7 => by
      obtain ⟨m', hm, w7⟩ := hN σ7 H7 n7
      refine ⟨m', hm, i + 1, σ7, H7, I7.unpinned, T.keep _ _ _ st5 fun b hb o e => (I7.pin (b, o) (List.mem_append_right _ (List.mem_append_right _ (mem_pinsAt hb e)))).1, fun b hb => ?_, w7⟩
      obtain ⟨o, e, d⟩ := T.obj _ _ st5 b hb
      exact (I7.pin (b, o) (List.mem_append_right _ (List.mem_append_right _ (mem_pinsAt hb e)))).2.1
    cases f with
    | next => obtain ⟨σ7, H7, I7, n7⟩ := q7; exact again I7 n7
    | cont => obtain ⟨σ7, H7, I7, n7⟩ := q7; exact again I7 n7
    | brk => obtain ⟨σ7, H7, I7, q7⟩ := q7; exact ⟨σ7, H7, I7.unpinned, q7⟩
    | ret v => obtain ⟨x7, σ7, H7, I7, r7, q7⟩ := q7; exact ⟨x7, σ7, H7, I7.unpinned, r7, q7⟩
end

/-! ### the forms one uses -/
/-- over a list that the body leaves as it is -/
theorem for_list {K : PySem.W.Frag} {a : Addr} {xs : List V} {g : TG} {tb : TS} {D : Ends} {σ : St} {H : Hp} (Pv : Nat → St → Hp → Prop) (h0 : Pv 0 σ H) (hl : ∀ i σ H, i ≤ xs.length → Pv i σ H → SqL K H a xs)
    (hs : ∀ i x σ H, xs[i]? = some x → Pv i σ H → g x σ H fun σ2 H2 => tb { D with nx := Pv (i + 1), ct := Pv (i + 1), bk := D.nx } σ2 H2) (hd : ∀ σ H, Pv xs.length σ H → D.nx σ H) :
    ∃ W : Nat → Nat → St → Hp → Prop, (∃ m, W 0 m σ H) ∧ ∀ i m σ H, W i m σ H →
      ((Itl K a).stop i H ∧ D.nx σ H) ∨ ((Itl K a).go i H ∧ ∃ N : St → Hp → Prop, (∀ σ' H', N σ' H' → ∃ m', m' < m ∧ W (i + 1) m' σ' H') ∧ ∀ x H', (Itl K a).yld i H x H' → g x σ H' fun σ2 H2 => tb { D with nx := N, ct := N, bk := D.nx } σ2 H2) := by
  refine ⟨fun i m σ H => m = xs.length - i ∧ i ≤ xs.length ∧ Pv i σ H, ⟨xs.length, by simp, Nat.zero_le _, h0⟩, ?_⟩
  rintro i m σ H ⟨rfl, hi, p⟩
  have q := hl i σ H hi p
  by_cases hlt : i < xs.length
  · refine .inr ⟨⟨xs, xs[i], q, by simp [hlt]⟩, Pv (i + 1), fun σ' H' p' => ⟨xs.length - (i + 1), by omega, rfl, hlt, p'⟩, fun x H' y => ?_⟩
    obtain ⟨e, y⟩ := y
    subst e
    exact hs i x σ _ (y xs q) p
  · have e : i = xs.length := by omega
    subst e
    exact .inl ⟨⟨xs, q, Nat.le_refl _⟩, hd σ H p⟩
theorem for_tup {K : PySem.W.Frag} {a : Addr} {xs : List V} {g : TG} {tb : TS} {D : Ends} {σ : St} {H : Hp} (Pv : Nat → St → Hp → Prop) (h0 : Pv 0 σ H) (hl : ∀ i σ H, i ≤ xs.length → Pv i σ H → SqT K H a xs)
    (hs : ∀ i x σ H, xs[i]? = some x → Pv i σ H → g x σ H fun σ2 H2 => tb { D with nx := Pv (i + 1), ct := Pv (i + 1), bk := D.nx } σ2 H2) (hd : ∀ σ H, Pv xs.length σ H → D.nx σ H) :
    ∃ W : Nat → Nat → St → Hp → Prop, (∃ m, W 0 m σ H) ∧ ∀ i m σ H, W i m σ H →
      ((Itt K a).stop i H ∧ D.nx σ H) ∨ ((Itt K a).go i H ∧ ∃ N : St → Hp → Prop, (∀ σ' H', N σ' H' → ∃ m', m' < m ∧ W (i + 1) m' σ' H') ∧ ∀ x H', (Itt K a).yld i H x H' → g x σ H' fun σ2 H2 => tb { D with nx := N, ct := N, bk := D.nx } σ2 H2) := by
  refine ⟨fun i m σ H => m = xs.length - i ∧ i ≤ xs.length ∧ Pv i σ H, ⟨xs.length, by simp, Nat.zero_le _, h0⟩, ?_⟩
  rintro i m σ H ⟨rfl, hi, p⟩
  have q := hl i σ H hi p
  by_cases hlt : i < xs.length
  · refine .inr ⟨⟨xs, xs[i], q, by simp [hlt]⟩, Pv (i + 1), fun σ' H' p' => ⟨xs.length - (i + 1), by omega, rfl, hlt, p'⟩, fun x H' y => ?_⟩
    obtain ⟨e, y⟩ := y
    subst e
    exact hs i x σ _ (y xs q) p
  · have e : i = xs.length := by omega
    subst e
    exact .inl ⟨⟨xs, q, Nat.le_refl _⟩, hd σ H p⟩
theorem for_range {lo : Int} {n : Nat} {g : TG} {tb : TS} {D : Ends} {σ : St} {H : Hp} (Pv : Nat → St → Hp → Prop) (h0 : Pv 0 σ H)
    (hs : ∀ i σ H, i < n → Pv i σ H → g (.int (lo + i)) σ H fun σ2 H2 => tb { D with nx := Pv (i + 1), ct := Pv (i + 1), bk := D.nx } σ2 H2) (hd : ∀ σ H, Pv n σ H → D.nx σ H) :
    ∃ W : Nat → Nat → St → Hp → Prop, (∃ m, W 0 m σ H) ∧ ∀ i m σ H, W i m σ H →
      ((Itr lo n).stop i H ∧ D.nx σ H) ∨ ((Itr lo n).go i H ∧ ∃ N : St → Hp → Prop, (∀ σ' H', N σ' H' → ∃ m', m' < m ∧ W (i + 1) m' σ' H') ∧ ∀ x H', (Itr lo n).yld i H x H' → g x σ H' fun σ2 H2 => tb { D with nx := N, ct := N, bk := D.nx } σ2 H2) := by
  refine ⟨fun i m σ H => m = n - i ∧ i ≤ n ∧ Pv i σ H, ⟨n, by simp, Nat.zero_le _, h0⟩, ?_⟩
  rintro i m σ H ⟨rfl, hi, p⟩
  by_cases hlt : i < n
  · refine .inr ⟨hlt, Pv (i + 1), fun σ' H' p' => ⟨n - (i + 1), by omega, rfl, hlt, p'⟩, fun x H' y => ?_⟩
    obtain ⟨e, y⟩ := y
    subst e y
    exact hs i σ _ hlt p
  · have e : i = n := by omega
    subst e
    exact .inl ⟨Nat.le_refl _, hd σ H p⟩
end L2

namespace L2
open PySem PySem.Spec PyProof.Rows

abbrev R2 := V → V → Hp → VK → Prop
/-- a two-place operation on values: f is binaryOp op, inplaceOp op or compareOp op -/
def OpR (X : Cx) (f : Value → Value → Sem Value) (r : R2) : Prop :=
  ∀ (pins : List (Addr × Obj)) (s : Shared) (σ : St) (H : Hp) (x y : V) (v u : Value) (Q : VK), Inv X pins σ H s → RelV x v → RelV y u → r x y H Q →
    wpAny (model X.prog X.w) X.A (f v u) (EP X pins σ Q) X.xe s
/-- a call of a value that is known (a builtin, a type) with values -/
def CallR (X : Cx) (f : Value) (r : List V → Hp → VK → Prop) : Prop :=
  ∀ (pins : List (Addr × Obj)) (s : Shared) (σ : St) (H : Hp) (xs : List V) (us : List Value) (Q : VK), Inv X pins σ H s → Vals xs us → r xs H Q →
    wpAny (model X.prog X.w) X.A (call f us) (EP X pins σ Q) X.xe s
def tOp (r : R2) (ta tb : TE) : TE := fun σ H Q => ta σ H fun x H1 => tb σ H1 fun y H2 => r x y H2 Q
def tUn (r : V → Hp → VK → Prop) (ta : TE) : TE := fun σ H Q => ta σ H fun x H1 => r x H1 Q
/-- ints in, under C, and a value out -/
def rI (C : Int → Int → Prop) (g : Int → Int → V) : R2 := fun x y H Q => ∃ i j, x = .int i ∧ y = .int j ∧ C i j ∧ Q (g i j) H
def rI0 (g : Int → Int → V) : R2 := fun x y H Q => ∃ i j, x = .int i ∧ y = .int j ∧ Q (g i j) H
def rU (g : Int → V) : V → Hp → VK → Prop := fun x H Q => ∃ i, x = .int i ∧ Q (g i) H

section
variable {X : Cx} {a b c : Expr} {ta tb tc : TE} {pos : Pos}

theorem binT (ha : PE X a ta) (hb : PE X b tb) {pins : List (Addr × Obj)} {s : Shared} {σ : St} {H : Hp} {R : V → V → Hp → Prop} (I : Inv X pins σ H s)
    (h : ta σ H fun x H1 => tb σ H1 fun y H2 => R x y H2) {Q : Value → Shared → Prop} {f : Value → Value → Sem Value}
    (hf : ∀ v u s2 x y H2, Inv X pins σ H2 s2 → RelV x v → RelV y u → R x y H2 → wpAny (model X.prog X.w) X.A (f v u) Q X.xe s2) :
    wpAny (model X.prog X.w) X.A (eval a X.env) (fun v s₁ => wpAny (model X.prog X.w) X.A (eval b X.env) (fun u s₂ => wpAny (model X.prog X.w) X.A (f v u) Q X.xe s₂) X.xe s₁) X.xe s := by
  refine thn (ha pins s σ H _ I h) fun v s1 ⟨x, H1, I1, r1, q1⟩ => ?_
  refine thn (hb pins s1 σ H1 _ I1 q1) fun u s2 ⟨y, H2, I2, r2, q2⟩ => ?_
  exact hf v u s2 x y H2 I2 r1 r2 q2

theorem pe_op {op : Operator} {r : R2} (ho : OpR X (binaryOp op) r) (ha : PE X a ta) (hb : PE X b tb) : PE X (.BinOp a op b pos) (tOp r ta tb) := by
  intro pins s σ H Q I h
  exact wpAny_BinOp (binT ha hb I h fun v u s2 x y H2 I2 rx ry q => ho pins s2 σ H2 x y v u Q I2 rx ry q)
/-! ### ints -/
theorem opI {f : Value → Value → Sem Value} {C : Int → Int → Prop} {g : Int → Int → Int}
    (rule : ∀ (i j : Int) (t u : Tok) (s : Shared) (Q : Value → Shared → Prop) (E : Value → Shared → Prop), C i j → Q (.int (g i j) s.toks) { s with toks := s.toks + 1 } → wpAny (model X.prog X.w) X.A (f (.int i t) (.int j u)) Q E s) :
    OpR X f (rI C fun i j => .int (g i j)) := by
  intro pins s σ H x y v u Q I rx ry h
  obtain ⟨i, j, rfl, rfl, hc, q⟩ := h
  obtain ⟨t, rfl⟩ := rx
  obtain ⟨t', rfl⟩ := ry
  exact rule i j t t' s _ _ hc ⟨.int (g i j), H, I.tok _, ⟨_, rfl⟩, q⟩
theorem opI0 {f : Value → Value → Sem Value} {g : Int → Int → Int}
    (rule : ∀ (i j : Int) (t u : Tok) (s : Shared) (Q : Value → Shared → Prop) (E : Value → Shared → Prop), Q (.int (g i j) s.toks) { s with toks := s.toks + 1 } → wpAny (model X.prog X.w) X.A (f (.int i t) (.int j u)) Q E s) :
    OpR X f (rI0 fun i j => .int (g i j)) := by
  intro pins s σ H x y v u Q I rx ry h
  obtain ⟨i, j, rfl, rfl, q⟩ := h
  obtain ⟨t, rfl⟩ := rx
  obtain ⟨t', rfl⟩ := ry
  exact rule i j t t' s _ _ ⟨.int (g i j), H, I.tok _, ⟨_, rfl⟩, q⟩
theorem opB0 {f : Value → Value → Sem Value} {g : Int → Int → Bool}
    (rule : ∀ (i j : Int) (t u : Tok) (s : Shared) (Q : Value → Shared → Prop) (E : Value → Shared → Prop), Q (.bool (g i j)) s → wpAny (model X.prog X.w) X.A (f (.int i t) (.int j u)) Q E s) :
    OpR X f (rI0 fun i j => .bl (g i j)) := by
  intro pins s σ H x y v u Q I rx ry h
  obtain ⟨i, j, rfl, rfl, q⟩ := h
  obtain ⟨t, rfl⟩ := rx
  obtain ⟨t', rfl⟩ := ry
  exact rule i j t t' s _ _ ⟨.bl (g i j), H, I, rfl, q⟩

def CMul (i j : Int) : Prop := (-(2 ^ 64) < i ∧ i < 2 ^ 64) ∨ (-(2 ^ 64) < j ∧ j < 2 ^ 64)
theorem CMul.ok {i j : Int} (h : CMul i j) : IntMulOk i j := by
  rcases h with ⟨h1, h2⟩ | ⟨h1, h2⟩
  · exact .of_left (intBits_le_64 h1 h2)
  · exact .of_right (intBits_le_64 h1 h2)
theorem op_add : OpR X (binaryOp .Add) (rI0 fun i j => .int (i + j)) := opI0 fun _ _ _ _ _ _ _ q => add_int q
theorem op_sub : OpR X (binaryOp .Sub) (rI0 fun i j => .int (i - j)) := opI0 fun _ _ _ _ _ _ _ q => sub_int q
theorem op_mul : OpR X (binaryOp .Mult) (rI CMul fun i j => .int (i * j)) := opI fun _ _ _ _ _ _ _ hc q => mul_int q hc.ok
/-- % by a positive divisor of any size -/
theorem op_mod : OpR X (binaryOp .Mod) (rI (fun _ j => 0 < j) fun i j => .int (i % j)) := opI fun i j _ _ _ _ _ hc q => by
  have h1 : (0 : Int) < j := hc
  exact mod_int' (by omega) (by rw [Int.fmod_eq_emod_of_nonneg i (by omega)]; exact q)
/-! ### bools among ints: n += (a < b) -/
end

/-! ### comparisons -/
/-- the scalars that == tells apart as data does -/
def scal : V → V → Bool
  | .non, .non => true | .non, .int _ => true | .int _, .non => true | .non, .bl _ => true | .bl _, .non => true | .non, .str _ => true | .str _, .non => true
  | .int _, .int _ => true | .bl _, .bl _ => true | .str _, .str _ => true | .byt _, .byt _ => true
  | .int _, .str _ => true | .str _, .int _ => true | .bl _, .str _ => true | .str _, .bl _ => true
  | _, _ => false
def rEq : R2 := fun x y H Q => scal x y = true ∧ Q (.bl (decide (x = y))) H
def rNe : R2 := fun x y H Q => scal x y = true ∧ Q (.bl (!decide (x = y))) H

theorem dec_int {i j : Int} : decide (V.int i = V.int j) = (i == j) := by
  rw [Bool.eq_iff_iff]
  simp
theorem dec_bl {i j : Bool} : decide (V.bl i = V.bl j) = (i == j) := by
  rw [Bool.eq_iff_iff]
  simp
theorem dec_str {i j : Str} : decide (V.str i = V.str j) = (i == j) := by
  rw [Bool.eq_iff_iff]
  simp
theorem dec_byt {i j : Array UInt8} : decide (V.byt i = V.byt j) = (i.toList == j.toList) := by
  rw [Bool.eq_iff_iff]
  cases i
  cases j
  simp

section
variable {X : Cx} {a b c : Expr} {ta tb tc : TE} {pos : Pos}
theorem fin_bl {pins : List (Addr × Obj)} {σ : St} {H : Hp} {s : Shared} {Q : VK} {k k' : Bool} (I : Inv X pins σ H s) (q : Q (.bl k) H) (e : k = k') : EP X pins σ Q (.bool k') s := by
  subst e
  exact ⟨.bl k, H, I, rfl, q⟩
theorem op_eq : OpR X (compareOp .Eq) rEq := by
  intro pins s σ H x y v u Q I rx ry h
  obtain ⟨hs, q⟩ := h
  cases x with
  | non =>
    cases rx
    cases y with
    | non => cases ry; exact PySem.EqNone.eq_none_none (fin_bl I q (by simp))
    | bl j => cases ry; exact PySem.EqNone.eq_none_bool (fin_bl I q (by simp))
    | int j => obtain ⟨t', rfl⟩ := ry; exact PySem.EqNone.eq_none_int (fin_bl I q (by simp))
    | str j => obtain ⟨t', rfl⟩ := ry; exact PySem.EqNone.eq_none_str (fin_bl I q (by simp))
    | _ => exact absurd (show false = true from hs) Bool.false_ne_true
  | bl i =>
    cases rx
    cases y with
    | non => cases ry; exact PySem.EqNone.eq_bool_none (fin_bl I q (by simp))
    | bl j => cases ry; exact eq_bool (fin_bl I q dec_bl)
    | str j => obtain ⟨t', rfl⟩ := ry; exact PySem.EqMixed.eq_bool_str (fin_bl I q (by simp))
    | _ => exact absurd (show false = true from hs) Bool.false_ne_true
  | int i =>
    obtain ⟨t, rfl⟩ := rx
    cases y with
    | non => cases ry; exact PySem.EqNone.eq_int_none (fin_bl I q (by simp))
    | int j => obtain ⟨t', rfl⟩ := ry; exact eq_int (fin_bl I q dec_int)
    | str j => obtain ⟨t', rfl⟩ := ry; exact PySem.EqMixed.eq_int_str (fin_bl I q (by simp))
    | _ => exact absurd (show false = true from hs) Bool.false_ne_true
  | str i =>
    obtain ⟨t, rfl⟩ := rx
    cases y with
    | non => cases ry; exact PySem.EqNone.eq_str_none (fin_bl I q (by simp))
    | bl j => cases ry; exact PySem.EqMixed.eq_str_bool (fin_bl I q (by simp))
    | int j => obtain ⟨t', rfl⟩ := ry; exact PySem.EqMixed.eq_str_int (fin_bl I q (by simp))
    | str j => obtain ⟨t', rfl⟩ := ry; exact eq_str (fin_bl I q dec_str)
    | _ => exact absurd (show false = true from hs) Bool.false_ne_true
  | byt i =>
    obtain ⟨t, rfl⟩ := rx
    cases y with
    | byt j => obtain ⟨t', rfl⟩ := ry; exact PySem.W.eq_bytes (fin_bl I q dec_byt)
    | _ => exact absurd (show false = true from hs) Bool.false_ne_true
  | _ => cases y <;> exact absurd (show false = true from hs) Bool.false_ne_true
theorem op_ne : OpR X (compareOp .NotEq) rNe := by
  intro pins s σ H x y v u Q I rx ry h
  obtain ⟨hs, q⟩ := h
  cases x with
  | non =>
    cases rx
    cases y with
    | non => cases ry; exact PySem.EqNone.ne_none_none (fin_bl I q (by simp))
    | bl j => cases ry; exact PySem.EqNone.ne_none_bool (fin_bl I q (by simp))
    | int j => obtain ⟨t', rfl⟩ := ry; exact PySem.EqNone.ne_none_int (fin_bl I q (by simp))
    | str j => obtain ⟨t', rfl⟩ := ry; exact PySem.EqNone.ne_none_str (fin_bl I q (by simp))
    | _ => exact absurd (show false = true from hs) Bool.false_ne_true
  | bl i =>
    cases rx
    cases y with
    | non => cases ry; exact PySem.EqNone.ne_bool_none (fin_bl I q (by simp))
    | bl j => cases ry; exact ne_bool (fin_bl I q (congrArg not dec_bl))
    | str j => obtain ⟨t', rfl⟩ := ry; exact PySem.EqMixed.ne_bool_str (fin_bl I q (by simp))
    | _ => exact absurd (show false = true from hs) Bool.false_ne_true
  | int i =>
    obtain ⟨t, rfl⟩ := rx
    cases y with
    | non => cases ry; exact PySem.EqNone.ne_int_none (fin_bl I q (by simp))
    | int j => obtain ⟨t', rfl⟩ := ry; exact ne_int (fin_bl I q (congrArg not dec_int))
    | str j => obtain ⟨t', rfl⟩ := ry; exact PySem.EqMixed.ne_int_str (fin_bl I q (by simp))
    | _ => exact absurd (show false = true from hs) Bool.false_ne_true
  | str i =>
    obtain ⟨t, rfl⟩ := rx
    cases y with
    | non => cases ry; exact PySem.EqNone.ne_str_none (fin_bl I q (by simp))
    | bl j => cases ry; exact PySem.EqMixed.ne_str_bool (fin_bl I q (by simp))
    | int j => obtain ⟨t', rfl⟩ := ry; exact PySem.EqMixed.ne_str_int (fin_bl I q (by simp))
    | str j => obtain ⟨t', rfl⟩ := ry; exact ne_str (fin_bl I q (congrArg not dec_str))
    | _ => exact absurd (show false = true from hs) Bool.false_ne_true
  | byt i =>
    obtain ⟨t, rfl⟩ := rx
    cases y with
    | byt j => obtain ⟨t', rfl⟩ := ry; exact PySem.W.ne_bytes (fin_bl I q (congrArg not dec_byt))
    | _ => exact absurd (show false = true from hs) Bool.false_ne_true
  | _ => cases y <;> exact absurd (show false = true from hs) Bool.false_ne_true

theorem op_lt : OpR X (compareOp .Lt) (rI0 fun i j => .bl (decide (i < j))) := opB0 fun _ _ _ _ _ _ _ q => lt_int q
theorem op_le : OpR X (compareOp .LtE) (rI0 fun i j => .bl (decide (i ≤ j))) := opB0 fun _ _ _ _ _ _ _ q => le_int q
theorem op_gt : OpR X (compareOp .Gt) (rI0 fun i j => .bl (decide (j < i))) := opB0 fun _ _ _ _ _ _ _ q => gt_int q
theorem op_ge : OpR X (compareOp .GtE) (rI0 fun i j => .bl (decide (j ≤ i))) := opB0 fun _ _ _ _ _ _ _ q => ge_int q
/-- is None, is not None: the right side a value none -/
theorem op_isN : OpR X (compareOp .Is) (fun x y H Q => y = .non ∧ Q (.bl (decide (x = .non))) H) := by
  intro pins s σ H x y v u Q I rx ry h
  obtain ⟨rfl, q⟩ := h
  cases ry
  refine is_none_gen (fin_bl I q ?_)
  cases x <;> first
    | (cases rx; rfl)
    | (obtain ⟨t, rfl⟩ := rx; rfl)
theorem op_notN : OpR X (compareOp .IsNot) (fun x y H Q => y = .non ∧ Q (.bl (!decide (x = .non))) H) := by
  intro pins s σ H x y v u Q I rx ry h
  obtain ⟨rfl, q⟩ := h
  cases ry
  refine isnot_none_gen (fin_bl I q ?_)
  cases x <;> first
    | (cases rx; rfl)
    | (obtain ⟨t, rfl⟩ := rx; rfl)

theorem nomark (b : Expr) {op : CmpOp} (h : op ≠ .In := by decide) (h2 : op ≠ .NotIn := by decide) : behindInMarks op b = false := by
  have e1 : (op == CmpOp.In) = false := by cases op <;> first | rfl | exact absurd rfl h
  have e2 : (op == CmpOp.NotIn) = false := by cases op <;> first | rfl | exact absurd rfl h2
  cases b <;> simp [behindInMarks, e1, e2]
/-- a comparison as a value; hm: nomark b, or (for in, not in) by with_unfolding_all rfl -/
theorem pe_cmpR {op : CmpOp} {r : R2} (ho : OpR X (compareOp op) r) (ha : PE X a ta) (hb : PE X b tb) (hm : behindInMarks op b = false) : PE X (.Compare a [op] [b] pos) (tOp r ta tb) := by
  intro pins s σ H Q I h
  exact wpAny_Compare1 (binT ha hb I h fun v u s2 x y H2 I2 rx ry q => ho pins s2 σ H2 x y v u Q I2 rx ry q) hm
/-- a reading of a value as a test -/
def tTest (t : TE) : TT := fun σ H Q => t σ H fun x H' => ∃ k, x = .bl k ∧ Q k H'
theorem pt_cmpR {op : CmpOp} {r : R2} (ho : OpR X (compareOp op) r) (ha : PE X a ta) (hb : PE X b tb) (hm : behindInMarks op b = false) : PT X (.Compare a [op] [b] pos) (tTest (tOp r ta tb)) := by
  intro pins s σ H Q I h
  refine wpAny_isTrue_Compare1 (thn (ha pins s σ H _ I h) fun v s1 ⟨x, H1, I1, r1, q1⟩ => thn (hb pins s1 σ H1 _ I1 q1) fun u s2 ⟨y, H2, I2, r2, q2⟩ =>
    thn (ho pins s2 σ H2 x y v u _ I2 r1 r2 q2) fun c s3 ⟨z, H3, I3, r3, k, e, q3⟩ => ?_) hm
  subst e
  cases r3
  exact wpAny_truthy_bool ⟨H3, I3, q3⟩
/-! ### truth -/
theorem line63 : (sizeLine : Nat) < 2 ^ 63 := by rw [sizeLine_eq]; decide
/-! ### strs and bytes -/
/-! ### scalar builtins, by CallR -/
theorem vals1 {x : V} {us : List Value} (r : Vals [x] us) : ∃ u, us = [u] ∧ RelV x u := by
  cases r with
  | cons r1 r2 => cases r2; exact ⟨_, rfl, r1⟩
theorem vals2 {x y : V} {us : List Value} (r : Vals [x, y] us) : ∃ u w', us = [u, w'] ∧ RelV x u ∧ RelV y w' := by
  cases r with
  | cons r1 r2 =>
    cases r2 with
    | cons r3 r4 => cases r4; exact ⟨_, _, rfl, r1, r3⟩
theorem call_max2 (hc : X.calm = true) : CallR X (.builtin "max") (fun xs H Q => ∃ i j, xs = [.int i, .int j] ∧ Q (.int (if j > i then j else i)) H) := by
  intro pins s σ H xs us Q I r h
  obtain ⟨i, j, rfl, q⟩ := h
  obtain ⟨u, w', rfl, ⟨t, rfl⟩, ⟨t', rfl⟩⟩ := vals2 r
  refine max_two_ints (I.ok.hd hc) fun h' tk k => ⟨_, H, I.kept k, ?_, q⟩
  by_cases hj : j > i
  · rw [if_pos hj, if_pos hj]; exact ⟨_, rfl⟩
  · rw [if_neg hj, if_neg hj]; exact ⟨_, rfl⟩
theorem call_int1 : CallR X (.type "int") (fun xs H Q => (∃ i, xs = [.int i] ∧ Q (.int i) H) ∨ ∃ k, xs = [.bl k] ∧ Q (.int (if k then 1 else 0)) H) := by
  intro pins s σ H xs us Q I r h
  rcases h with ⟨i, rfl, q⟩ | ⟨k, rfl, q⟩
  · obtain ⟨u, rfl, t, rfl⟩ := vals1 r
    exact call_int_int ⟨.int i, H, I, ⟨_, rfl⟩, q⟩
  · obtain ⟨u, rfl, r1⟩ := vals1 r
    cases r1
    exact call_int_bool ⟨.int (if k then 1 else 0), H, I.tok _, ⟨_, rfl⟩, q⟩
end
end L2

namespace L2
open PySem PySem.Spec PyProof.Rows

/-! ### an instance, its attributes a map -/
structure ObjM (h : Heap) (x dx C : Addr) (mA : Str → Option Value) : Prop where
  obj : h.get? x = some (PySem.W.instObj C dx)
  ns : h.Ns1 dx mA
  ne : dx ≠ x

theorem lookIn_ns {h : Heap} {dx : Addr} {mA : Str → Option Value} (n : h.Ns1 dx mA) : ∃ od, h.get? dx = some od ∧ ∀ name, PySem.W.lookIn name od = some (mA name) := by
  obtain ⟨o, es, ep, ho, hd, hk, _, hm⟩ := n
  refine ⟨o, ho, fun name => ?_⟩
  have e := hm name
  unfold nsFind findBy at e
  rw [← Array.find?_toList] at e
  unfold PySem.W.lookIn
  rw [hd]
  dsimp only
  split
  · rename_i y q
    rw [q] at e
    exact congrArg some e
  · rename_i q
    rw [q] at e
    have a : es.toList.any (·.refKey) = false := by
      rw [List.any_eq_false]
      intro y hy
      obtain ⟨z, t, hkey⟩ := hk y (Array.mem_toList_iff.mp hy)
      simp [DictEntry.refKey, hkey]
    have a' : ¬ es.toList.any (·.refKey) = true := by rw [a]; exact Bool.false_ne_true
    rw [if_neg a']
    exact congrArg some e

theorem ObjM.look {h : Heap} {x dx C : Addr} {mA : Str → Option Value} (I : ObjM h x dx C mA) : ∃ od, PySem.W.InstAt h x (PySem.W.instObj C dx) C (some od) ∧ ∀ name, PySem.W.lookIn name od = some (mA name) :=
  let ⟨od, ho, hl⟩ := lookIn_ns I.ns
  ⟨od, ⟨I.obj, rfl, rfl, ho⟩, hl⟩

section
variable {prog : Program} {w : World} {A : Around} {E : Value → Shared → Prop} {s : Shared} {K : PySem.W.Frag} {x dx C f : Addr} {mA : Str → Option Value} {name : Str} {v : Value}

theorem get_map {expr : Bool} {Q : Value → Shared → Prop} (X : K.In s.heap) (I : ObjM s.heap x dx C mA) (hg : PySem.W.plainGet K C name = true) (hh : PySem.W.hasDictIn K C = true)
    (ha : PySem.W.findIn K (.ref C) name = some none) (hv : mA name = some v) (hv' : PySem.W.handedIn v = true) (h : Q v { s with toks := s.toks + 1 }) :
    wpAny (model prog w) A (getAttr (.ref x) name expr) Q E s := by
  obtain ⟨od, J, hl⟩ := I.look
  exact PySem.W.get_value X J (PySem.W.plainGet_of hg).1 (PySem.W.findObj_own hh ha rfl (by rw [hl, hv])) hv' h

theorem get_meth {pl : Sem Bool} {Q : Value × List Value → Shared → Prop} (X : K.In s.heap) (I : ObjM s.heap x dx C mA) (hg : PySem.W.plainGet K C name = true)
    (hf : PySem.W.findIn K (.ref C) name = some (some (.ref f))) (ht : PySem.W.isFn K (.ref f) = true) (hv : mA name = none) (h : Q (.ref f, [.ref x]) s) :
    wpAny (model prog w) A (getMethod (.ref x) name pl) Q E s := by
  obtain ⟨od, J, hl⟩ := I.look
  exact PySem.W.method_fn X J (PySem.W.plainGet_of hg).1 (PySem.W.plainGet_of hg).2 hf (beq_iff_eq.mp ht) (by show (PySem.W.lookIn name od).map (·.isSome) = some false; rw [hl, hv]; rfl) h

theorem set_map {ns : List Str} {Q : Unit → Shared → Prop} (X : K.In s.heap) (I : ObjM s.heap x dx C mA)
    (hs : PySem.W.findIn K (.ref C) "__setattr__" = some (some (.builtin "object.__setattr__"))) (hp : PySem.W.plainOver K C = true) (ht : PySem.W.takerIn K C name = some none) (hh : PySem.W.hasDictIn K C = true)
    (hw : PySem.Within mA ns) (hsz : ns.length ≤ sizeLine)
    (h : ∀ h', ObjM h' x dx C (fun y => if y = name then some v else mA y) → Heap.SameBut dx s.heap h' → Q () { s with heap := h', toks := s.toks + 2 }) :
    wpAny (model prog w) A (setAttr (.ref x) name v) Q E s := by
  obtain ⟨od, J, hl⟩ := I.look
  refine PySem.W.set_plain X J hs (PySem.W.osa_open (s := { s with toks := s.toks + 1 }) (r := none) X J hp ht fun b => ?_)
  obtain ⟨cd, hc, hd'⟩ := PySem.W.any_some hh
  have hx : s.heap.get? x = some ⟨.ref C, some dx, .plain, #[]⟩ := I.obj
  refine wpAny_bind (wpAny_pure (wpAny_bind (wpAny_bind (wpAny_loadPart hx (wpAny_bind (PySem.W.Looks.here (s := { s with toks := s.toks + 1 }) (PySem.W.looks_clsIn X hc) ?_))))))
  rw [hd']
  refine wpAny_pure (a := some dx) (wpAny_bind (wpAny_pure (wpAny_bind ?_)))
  refine wpAny_nsSet1 (s := { s with toks := s.toks + 1 }) I.ns fun h' hn2 hs2 => ?_
  obtain ⟨oD, esD, epD, hoD, hdD, hcD⟩ := hn2.count (PySem.Within.cons name v hw)
  refine wpAny_bind (wpAny_lookBehind hoD (by rw [hdD]; exact pastItsLine_dict (Nat.le_trans hcD (by rw [List.length_cons]; omega))) ?_)
  exact wpAny_pure (h _ ⟨(hs2.2 _ (Ne.symm I.ne)).trans I.obj, hn2, I.ne⟩ hs2)

/-- C(..): the dict at the heap's end, the instance behind it; then its __init__ -/
theorem make_map {R : Result → Shared → Prop} {vs : List Value} {kw : List (Str × Value)} (X : K.In s.heap) (hm : PySem.W.makesIn K C = true)
    (hi : PySem.W.findIn K (.ref C) "__init__" = some (some (.ref f))) (hf : PySem.W.typeIn K (.ref f) = some (.type "function"))
    (h : codeAny (model prog w) (A.under (.builtin "type.__call__" ⟨.ref C :: vs, kw⟩)) (.call (.ref f) ⟨.ref (s.heap.objs.size + 1) :: vs, kw⟩) (PySem.W.InitBack (s.heap.objs.size + 1) R)
      { s with heap := (s.heap.push PySem.W.emptyDict).push (PySem.W.instObj C s.heap.objs.size) }) :
    codeAny (model prog w) A (.call (.ref C) ⟨vs, kw⟩) R s := by
  obtain ⟨hh, g, d, t, os⟩ := s
  exact PySem.W.make_core (PySem.W.makes_of X hm) (PySem.W.looks_findIn X hi) (fun self => PySem.W.bind_fn X self hf) (.inl rfl) h
end

/-! ### the attributes as a list of pairs -/
def putF (f : Str) (v : V) : List (Str × V) → List (Str × V)
  | [] => [(f, v)]
  | (g, x) :: r => if g = f then (g, v) :: r else (g, x) :: putF f v r
theorem lookup_putF (f g : Str) (v : V) : ∀ fs : List (Str × V), (putF f v fs).lookup g = if g = f then some v else fs.lookup g
  | [] => by
    show List.lookup g [(f, v)] = _
    by_cases h : g = f
    · have hb : (g == f) = true := beq_iff_eq.mpr h
      simp only [List.lookup, hb, if_pos h]
    · have hb : (g == f) = false := beq_eq_false_iff_ne.mpr h
      simp only [List.lookup, hb, if_neg h]
  | (k, x) :: r => by
    have ih := lookup_putF f g v r
    rw [show putF f v ((k, x) :: r) = (if k = f then (k, v) :: r else (k, x) :: putF f v r) from rfl]
    by_cases hk : k = f
    · rw [if_pos hk]
      by_cases h : g = k
      · have hb : (g == k) = true := beq_iff_eq.mpr h
        simp only [List.lookup, hb, if_pos (h.trans hk)]
      · have hb : (g == k) = false := beq_eq_false_iff_ne.mpr h
        simp only [List.lookup, hb, if_neg (fun e : g = f => h (e.trans hk.symm))]
    · rw [if_neg hk]
      by_cases h : g = k
      · have hb : (g == k) = true := beq_iff_eq.mpr h
        simp only [List.lookup, hb, if_neg (fun e : g = f => hk (h.symm.trans e))]
      · have hb : (g == k) = false := beq_eq_false_iff_ne.mpr h
        simp only [List.lookup, hb]
        exact ih
theorem keys_putF (f : Str) (v : V) : ∀ fs : List (Str × V), f ∈ (putF f v fs).map (·.1) ∧ ∀ g, g ∈ fs.map (·.1) → g ∈ (putF f v fs).map (·.1)
  | [] => ⟨by simp [putF], fun g h => by simp at h⟩
  | (k, x) :: r => by
    obtain ⟨i1, i2⟩ := keys_putF f v r
    rw [show putF f v ((k, x) :: r) = (if k = f then (k, v) :: r else (k, x) :: putF f v r) from rfl]
    by_cases hk : k = f
    · rw [if_pos hk]
      subst hk
      exact ⟨by simp, fun g h => by simpa using h⟩
    · rw [if_neg hk]
      refine ⟨?_, fun g h => ?_⟩
      · rw [List.map_cons]
        exact List.mem_cons_of_mem _ i1
      · rw [List.map_cons] at h ⊢
        rcases List.mem_cons.mp h with e | e
        · exact List.mem_cons.mpr (.inl e)
        · exact List.mem_cons_of_mem _ (i2 g e)
theorem length_putF (f : Str) (v : V) : ∀ fs : List (Str × V), (putF f v fs).length ≤ fs.length + 1
  | [] => by simp [putF]
  | (k, x) :: r => by
    have ih := length_putF f v r
    rw [show putF f v ((k, x) :: r) = (if k = f then (k, v) :: r else (k, x) :: putF f v r) from rfl]
    by_cases hk : k = f
    · rw [if_pos hk, List.length_cons, List.length_cons]; omega
    · rw [if_neg hk, List.length_cons, List.length_cons]; omega

theorem RelO.some_of {v : V} {o : Option Value} (r : RelO (some v) o) : ∃ u, o = some u ∧ RelV v u := by
  cases o with
  | none => exact (show False from r).elim
  | some u => exact ⟨u, rfl, r⟩
theorem RelO.none_of {o : Option Value} (r : RelO none o) : o = none := by
  cases o with
  | none => rfl
  | some u => exact (show False from r).elim
theorem handed_of {v : V} {u : Value} (r : RelV v u) : PySem.W.handedIn u = true := by
  cases v with
  | non => cases (show u = Value.none from r); rfl
  | bl b => cases (show u = Value.bool b from r); rfl
  | int i => obtain ⟨t, e⟩ := (show ∃ t, u = Value.int i t from r); cases e; rfl
  | str x => obtain ⟨t, e⟩ := (show ∃ t, u = Value.str x t from r); cases e; rfl
  | byt b => obtain ⟨t, e⟩ := (show ∃ t, u = Value.bytes b t from r); cases e; rfl
  | flt b => obtain ⟨t, e⟩ := (show ∃ t, u = Value.float b t from r); cases e; rfl
  | ref a => cases (show u = Value.ref a from r); rfl
  | ty n => cases (show u = Value.type n from r); rfl

section
variable {P : Program} {w : World} {H H' : Hp} {h h' : Heap} {a C dx : Addr} {fs fs' : List (Str × V)}
theorem ins_get (hok : HOk P w H h) (e : H a = some (.ins C dx fs)) : ∃ mA, ObjM h a dx C mA ∧ (∀ f, RelO (fs.lookup f) (mA f)) ∧ PySem.Within mA (fs.map (·.1)) ∧ fs.length ≤ 1000 ∧ H dx = some (.own a) := by
  obtain ⟨d, z, ne, ob, mA, n, r, q⟩ := (show ObjOk P w H h a (.ins C dx fs) from hok a _ e)
  exact ⟨mA, ⟨ob, n, ne⟩, r, q, z, d⟩
end

/-! ### what of the text a class must have -/
structure Cls (K : PySem.W.Frag) (C : Addr) : Prop where
  pg : PySem.W.plainGet K C Str.empty = true
  hd : PySem.W.hasDictIn K C = true
  po : PySem.W.plainOver K C = true
  sa : PySem.W.findIn K (.ref C) "__setattr__" = some (some (.builtin "object.__setattr__"))
theorem Cls.get {K : PySem.W.Frag} {C : Addr} (c : Cls K C) (f : Str) : PySem.W.plainGet K C f = true := c.pg
/-- no class of it has the name -/
def NoAttr (K : PySem.W.Frag) (C : Addr) (f : Str) : Prop := PySem.W.findIn K (.ref C) f = some none
theorem NoAttr.taker {K : PySem.W.Frag} {C : Addr} {f : Str} (n : NoAttr K C f) : PySem.W.takerIn K C f = some none := by
  unfold PySem.W.takerIn
  rw [show PySem.W.findIn K (.ref C) f = some none from n]
  rfl
/-- a constant of the class -/
structure Con (K : PySem.W.Frag) (C : Addr) (f : Str) (v : V) (u : Value) : Prop where
  at_ : PySem.W.findIn K (.ref C) f = some (some u)
  rel : RelV v u
  get : PySem.W.specialIn K u "__get__" = some none
  cp : PySem.W.copiedNames.contains f = false
/-- a method: a plain def of the class or of one above it -/
structure Meth (K : PySem.W.Frag) (C : Addr) (m : Str) (f : Addr) : Prop where
  at_ : PySem.W.findIn K (.ref C) m = some (some (.ref f))
  fn : PySem.W.isFn K (.ref f) = true
  kp : PySem.W.keepIn K (.ref f) = true

section
variable {X : Cx} {pins : List (Addr × Obj)} {σ : St} {H : Hp} {s : Shared} {a C dx : Addr} {fs : List (Str × V)} {f : Str} {v : V} {A : Around} {E : Value → Shared → Prop}

theorem getattr_ok {b : Bool} {Q : Value → Shared → Prop} (I : Inv X pins σ H s) (e : H a = some (.ins C dx fs)) (c : Cls X.K C) (n : NoAttr X.K C f) (l : fs.lookup f = some v)
    (h : ∀ u s', Inv X pins σ H s' → RelV v u → Q u s') : wpAny (model X.prog X.w) A (getAttr (.ref a) f b) Q E s := by
  obtain ⟨mA, O, r, _, _, _⟩ := ins_get I.hok e
  obtain ⟨u, hu, ru⟩ := RelO.some_of (v := v) (o := mA f) (by rw [← l]; exact r f)
  exact get_map I.kIn O (c.get f) c.hd n hu (handed_of ru) (h u _ (I.tok _) ru)

theorem getmeth_ok {m : Str} {g : Addr} {pl : Sem Bool} {Q : Value × List Value → Shared → Prop} (I : Inv X pins σ H s) (e : H a = some (.ins C dx fs)) (c : Cls X.K C) (k : Meth X.K C m g) (l : fs.lookup m = none)
    (h : Q (.ref g, [.ref a]) s) : wpAny (model X.prog X.w) A (getMethod (.ref a) m pl) Q E s := by
  obtain ⟨mA, O, r, _, _, _⟩ := ins_get I.hok e
  have hn : mA m = none := RelO.none_of (by rw [← l]; exact r m)
  exact get_meth I.kIn O (c.get m) k.at_ k.fn hn h

theorem setattr_ok {y : V} {u : Value} {Q : Unit → Shared → Prop} (I : Inv X pins σ H s) (e : H a = some (.ins C dx fs)) (c : Cls X.K C) (n : NoAttr X.K C f) (hl : fs.length < 1000) (ry : RelV y u)
    (h : ∀ s', Inv X pins σ (upd H a (.ins C dx (putF f y fs))) s' → Q () s') : wpAny (model X.prog X.w) A (setAttr (.ref a) f u) Q E s := by
  obtain ⟨mA, O, r, wi, _, ho⟩ := ins_get I.hok e
  have hz : (fs.map (·.1)).length ≤ sizeLine := by rw [List.length_map, sizeLine_eq]; omega
  refine set_map I.kIn O c.sa c.po n.taker c.hd wi hz fun h' O' sb => h _ ?_
  have hd : ∃ o, h'.get? dx = some o := let ⟨o, _, _, e', _⟩ := O'.ns; ⟨o, e'⟩
  refine I.write (x := a) (e := dx) (by rw [e]; exact True.intro) (.inr ho) (fun b q hb z => (sb.2 b hb).trans z) hd ?_
  refine ⟨by rw [upd_ne O.ne]; exact ho, ?_, O.ne, O'.obj, _, O'.ns, fun g => ?_, fun g hg => ?_⟩
  · have := length_putF f y fs; omega
  · show RelO ((putF f y fs).lookup g) (if g = f then some u else mA g)
    rw [lookup_putF]
    by_cases q : g = f
    · rw [if_pos q, if_pos q]; exact ry
    · rw [if_neg q, if_neg q]; exact r g
  · by_cases q : g = f
    · rw [q]; exact (keys_putF f y fs).1
    · refine (keys_putF f y fs).2 g (wi g fun z => hg ?_)
      show (if g = f then some u else mA g) = none
      rw [if_neg q]; exact z

/-- a new instance, tracked, without attributes -/
theorem Inv.made (I : Inv X pins σ H s) : Inv X pins σ (upd (upd H s.heap.objs.size (.own (s.heap.objs.size + 1))) (s.heap.objs.size + 1) (.ins C s.heap.objs.size []))
    { s with heap := (s.heap.push PySem.W.emptyDict).push (PySem.W.instObj C s.heap.objs.size) } := by
  have e1 : (s.heap.push PySem.W.emptyDict).get? s.heap.objs.size = some PySem.W.emptyDict := Heap.get?_push_size s.heap rfl
  have e2 : ((s.heap.push PySem.W.emptyDict).push (PySem.W.instObj C s.heap.objs.size)).get? (s.heap.objs.size + 1) = some (PySem.W.instObj C s.heap.objs.size) := by
    have := Heap.get?_push_size (s.heap.push PySem.W.emptyDict) (o := PySem.W.instObj C s.heap.objs.size) rfl
    rwa [Heap.size_push] at this
  have e3 : (s.heap.push PySem.W.emptyDict).Ns s.heap.objs.size (fun _ => none) := ⟨PySem.W.emptyDict, #[], _, e1, rfl, (fun e he => absurd he (by simp)), fun _ => rfl⟩
  have I1 := I.laid (a := s.heap.objs.size) (o := .own (s.heap.objs.size + 1)) (h' := s.heap.push PySem.W.emptyDict) (t' := s.toks) (fun b u q => Heap.get?_push_of_some _ q) (Nat.le_refl _) ⟨_, e1⟩
  refine I1.laid (a := s.heap.objs.size + 1) (o := .ins C s.heap.objs.size []) (t' := s.toks) (fun b u q => Heap.get?_push_of_some _ q) (Nat.le_of_eq (Heap.size_push _ _)) ?_
  have ne : s.heap.objs.size ≠ s.heap.objs.size + 1 := Nat.ne_of_lt (Nat.lt_succ_self _)
  refine ⟨by rw [upd_ne ne, upd_same], Nat.zero_le _, ne, e2, fun _ => none, (Heap.Ns1.of_empty e3).at fun o q => Heap.get?_push_of_some _ q, fun _ => True.intro, fun y hy => absurd rfl hy⟩

/-- e.f where nothing but the object is asked: through attributeBase (super) and the last hold -/
theorem attr_of {prog : Program} {w : World} {env : Env} {e : Expr} {f : Str} {pos : Pos} {s : Shared} {Q : Value → Shared → Prop} (hb : attributeBase e f env (eval e env) = eval e env)
    (h : wpAny (model prog w) A (eval e env) (fun o s₁ => wpAny (model prog w) A (getAttr o f true) Q E s₁) E s) : wpAny (model prog w) A (eval (.Attribute e f pos) env) Q E s :=
  Attribute_any_ h (by rw [arm_eval_Attribute, hb])
end

/-! ### readings and rules -/
/-- e.f, an attribute of the instance -/
def tFld (K : PySem.W.Frag) (ta : TE) (f : Str) : TE := fun σ H Q => ta σ H fun x H1 => ∃ a C dx fs v, x = .ref a ∧ H1 a = some (.ins C dx fs) ∧ Cls K C ∧ NoAttr K C f ∧ fs.lookup f = some v ∧ Q v H1
/-- e.f = value -/
def sFld (K : PySem.W.Frag) (ta tv : TE) (f : Str) : TS := fun D σ H => tv σ H fun y H1 => ta σ H1 fun x H2 => ∃ a C dx fs, x = .ref a ∧ H2 a = some (.ins C dx fs) ∧ Cls K C ∧ NoAttr K C f ∧ fs.length < 1000 ∧
  D.nx σ (upd H2 a (.ins C dx (putF f y fs)))
/-- an augmented operator on two values -/
def InOp (X : Cx) (op : Operator) (rd : V → V → Hp → VK → Prop) : Prop :=
  ∀ (pins : List (Addr × Obj)) (s : Shared) (σ : St) (H : Hp) (x y : V) (u v : Value) (Q : VK), Inv X pins σ H s → RelV x u → RelV y v → rd x y H Q → wpAny (model X.prog X.w) X.A (inplaceOp op u v) (EP X pins σ Q) X.xe s
section
variable {X : Cx} {o e value : Expr} {f : Str} {pos pos' tpos : Pos} {ta tv : TE}
theorem pe_fld (he : PE X e ta) (hb : attributeBase e f X.env (eval e X.env) = eval e X.env) : PE X (.Attribute e f pos) (tFld X.K ta f) := by
  intro pins s σ H Q I h
  refine attr_of hb (thn (he pins s σ H _ I h) fun u s1 ⟨x, H1, I1, rx, a, C, dx, fs, v, ex, ea, c, n, l, q⟩ => ?_)
  subst ex
  obtain rfl : u = Value.ref a := rx
  exact getattr_ok I1 ea c n l fun u' s2 I2 ru => ⟨v, H1, I2, ru, q⟩
def rAdd : V → V → Hp → VK → Prop := fun x y H Q => ∃ i j, x = .int i ∧ y = .int j ∧ Q (.int (i + j)) H
theorem in_add : InOp X .Add rAdd := by
  rintro pins s σ H x y u v Q I rx ry ⟨i, j, rfl, rfl, q⟩
  obtain ⟨t, rfl⟩ := (show ∃ t, u = Value.int i t from rx)
  obtain ⟨t', rfl⟩ := (show ∃ t', v = Value.int j t' from ry)
  exact PyProof.Rows.iadd_int ⟨.int (i + j), H, I.tok _, ⟨_, rfl⟩, q⟩
end

/-! ### isinstance -/
section
variable {X : Cx} {pins : List (Addr × Obj)} {σ : St} {H : Hp} {s : Shared} {A : Around} {E : Value → Shared → Prop} {Q : Value → Shared → Prop} {c : Value} {b : Bool}
/-- the type of a value, as the fragment's deciders take it; for an instance its class -/
inductive TyOf (K : PySem.W.Frag) (H : Hp) : V → Value → Prop where
  | non : TyOf K H .non (.type "NoneType")
  | bl (x : Bool) : TyOf K H (.bl x) (.type "bool")
  | int (i : Int) : TyOf K H (.int i) (.type "int")
  | str (x : Str) : TyOf K H (.str x) (.type "str")
  | flt (x : UInt64) : TyOf K H (.flt x) (.type "float")
  | lst {a : Addr} {xs : List V} (e : H a = some (.lst xs)) : TyOf K H (.ref a) (.type "list")
  | frz {a : Addr} {o : Obj} {xs : List V} (e : H a = some (.frz o (.lst xs))) : TyOf K H (.ref a) (.type "list")
  | tup {a : Addr} {xs : List V} (e : H a = some (.tup xs)) : TyOf K H (.ref a) (.type "tuple")
  | dK {a : Addr} {kvs : List (Key × V)} (e : H a = some (.dK kvs)) : TyOf K H (.ref a) (.type "dict")
  | dT {a : Addr} {kvs : List (List Key × V)} (e : H a = some (.dT kvs)) : TyOf K H (.ref a) (.type "dict")
  | ins {a C dx : Addr} {fs : List (Str × V)} (e : H a = some (.ins C dx fs)) (cl : Cls K C) (ha : PySem.W.findIn K (.ref C) "__class__" = some (some (.builtin "object.__class__")))
      (hn : PySem.W.specialIn K (.builtin "object.__class__") "__get__" = some (some (.builtin "getset_descriptor.__get__"))) (htk : PySem.W.takesIn K (.builtin "object.__class__") = some true)
      (hm : PySem.W.mroIn K C (.type "object") = some true) : TyOf K H (.ref a) (.ref C)
/-- isinstance(x, c) for one class c, a built-in or an own one: kitOne's answer -/
theorem isinst_ok {x : V} {u t : Value} (I : Inv X pins σ H s) (rx : RelV x u) (ty : TyOf X.K H x t) (e : PySem.W.kitOne X.K t c = some b) (h : ∀ tk, Q (.bool b) { s with toks := tk }) :
    wpAny (model X.prog X.w) A (call (.builtin "isinstance") [u, c]) Q E s := by
  cases ty with
  | non => cases (show u = Value.none from rx); exact PySem.W.kia_one PySem.W.kitx_none I.kIn True.intro e (fun z => nomatch z) h
  | bl y => cases (show u = Value.bool y from rx); exact PySem.W.kia_one PySem.W.kitx_bool I.kIn True.intro e (fun z => nomatch z) h
  | int i => obtain ⟨t, q⟩ := (show ∃ t, u = Value.int i t from rx); cases q; exact PySem.W.kia_one PySem.W.kitx_int I.kIn True.intro e (fun z => nomatch z) h
  | str y => obtain ⟨t, q⟩ := (show ∃ t, u = Value.str y t from rx); cases q; exact PySem.W.kia_one PySem.W.kitx_str I.kIn True.intro e (fun z => nomatch z) h
  | flt y => obtain ⟨t, q⟩ := (show ∃ t, u = Value.float y t from rx); cases q; exact PySem.W.kia_one PySem.W.kitx_float I.kIn True.intro e (fun z => nomatch z) h
  | @lst a xs ea =>
    cases (show u = Value.ref a from rx)
    obtain ⟨_, _, n, _, h1⟩ := (show ObjOk X.prog X.w H s.heap a (.lst xs) from I.hok a _ ea)
    exact PySem.W.kia_one PySem.W.kitx_list I.kIn ⟨_, h1, rfl⟩ e (fun z => nomatch z) h
  | @frz a ob xs ea =>
    cases (show u = Value.ref a from rx)
    obtain ⟨_, _, _, n, _, h1⟩ := (show ObjOk X.prog X.w H s.heap a (.frz ob (.lst xs)) from I.hok a _ ea)
    exact PySem.W.kia_one PySem.W.kitx_list I.kIn ⟨_, h1, rfl⟩ e (fun z => nomatch z) h
  | @tup a xs ea =>
    cases (show u = Value.ref a from rx)
    obtain ⟨_, _, _, p⟩ := (show ObjOk X.prog X.w H s.heap a (.tup xs) from I.hok a _ ea)
    obtain ⟨o, h1, h2, _⟩ := p
    exact PySem.W.kia_one PySem.W.kitx_tuple I.kIn ⟨o, h1, h2⟩ e (fun z => nomatch z) h
  | @dK a kvs ea =>
    cases (show u = Value.ref a from rx)
    obtain ⟨_, _, vs, _, p⟩ := (show ObjOk X.prog X.w H s.heap a (.dK kvs) from I.hok a _ ea)
    obtain ⟨o, es, ep, h1, h2, _⟩ := p
    exact PySem.W.kia_one PySem.W.kitx_dict I.kIn ⟨o, h1, h2.1⟩ e (fun z => nomatch z) h
  | @dT a kvs ea =>
    cases (show u = Value.ref a from rx)
    obtain ⟨_, _, xs, _, o, es, ep, h1, h2, _⟩ := (show ObjOk X.prog X.w H s.heap a (.dT kvs) from I.hok a _ ea)
    exact PySem.W.kia_one PySem.W.kitx_dict I.kIn ⟨o, h1, h2.1⟩ e (fun z => nomatch z) h
  | @ins a C dx fs ea cl ha hn htk hm =>
    cases (show u = Value.ref a from rx)
    obtain ⟨mA, O, _⟩ := ins_get I.hok ea
    obtain ⟨od, J, _⟩ := O.look
    exact PySem.W.kia_one (PySem.W.kitx_own (cl.get _) cl.hd ha hn htk hm) I.kIn J e (fun z => nomatch z) h
end
end L2

namespace L2
open PySem PySem.Spec PyProof.Rows

/-! ### room -/
structure Room (k : Nat) (A : Around) : Prop where
  hd : A.handled = none
  dp : A.depth + 3 * k + 5 < recursionLimit
  un : A.units + 16 * k + 200 < cLine
theorem Room.mono {j k : Nat} {A : Around} (r : Room k A) (h : j ≤ k) : Room j A := ⟨r.hd, by have := r.dp; omega, by have := r.un; omega⟩
theorem Room.deeper {k : Nat} {A : Around} (r : Room (k + 1) A) (env : Env) : Room k (A.deeper env) :=
  ⟨r.hd, by have := r.dp; show A.depth + 1 + 3 * k + 5 < _; omega, by have := r.un; show A.units + 3 + 16 * k + 200 < _; omega⟩
theorem make_depth {A : Around} {C : Addr} {us : List Value} {kw : List (Str × Value)} : (A.under (.builtin "type.__call__" ⟨.ref C :: us, kw⟩)).depth = A.depth + 1 := by
  first | rfl | simp [Around.under, Code.weight, Code.isCreation, Code.isGuard, Code.isCaller, Code.frames, Code.isFrame, guardIds]
theorem make_units {A : Around} {C : Addr} {us : List Value} {kw : List (Str × Value)} : (A.under (.builtin "type.__call__" ⟨.ref C :: us, kw⟩)).units = A.units + 1 := by
  first | rfl | simp [Around.under, Code.cUnits, Code.frames, Code.isFrame]
theorem Room.make {k : Nat} {A : Around} (r : Room (k + 1) A) (C : Addr) (us : List Value) (kw : List (Str × Value)) : Room k (A.under (.builtin "type.__call__" ⟨.ref C :: us, kw⟩)) :=
  ⟨r.hd, by have := r.dp; rw [make_depth]; omega, by have := r.un; rw [make_units]; omega⟩
theorem Room.depth {k : Nat} {A : Around} (r : Room k A) : A.depth < recursionLimit := by have := r.dp; omega
theorem Room.units {k : Nat} {A : Around} (r : Room k A) : A.units + 64 < cLine := by have := r.un; omega
/-! ### argument lists and displays -/
def tNil : TA := fun _ H Q => Q [] H
def tCons (ta : TE) (tr : TA) : TA := fun σ H Q => ta σ H fun x H1 => tr σ H1 fun xs H2 => Q (x :: xs) H2
section
variable {X : Cx} {e : Expr} {es : List Expr} {te : TE} {t : TA} {pos : Pos}
theorem pa_nil : PA X [] tNil := fun _ _ _ _ H Q I h => Calls.spliced_nil ⟨[], H, I, .nil, h⟩
theorem pa_cons (ha : PE X e te) (hr : PA X es t) (hs : starEach (e :: es) X.env = (false, eval e X.env) :: starEach es X.env := by rfl) : PA X (e :: es) (tCons te t) := by
  intro pos pins s σ H Q I h
  rw [hs]
  show wpAny _ _ (spliced ((false, eval e X.env) :: backTo pos (starEach es X.env))) _ _ s
  refine Calls.spliced_cons (thn (ha pins s σ H _ I h) fun u s1 ⟨x, H1, I1, r1, q1⟩ => ?_)
  exact thn (hr pos pins s1 σ H1 _ I1 q1) fun us s2 ⟨xs, H2, I2, r2, q2⟩ => ⟨x :: xs, H2, I2, .cons r1 r2, q2⟩

/-- a tuple, a list of written items -/
def tTup (t : TA) : TE := fun σ H Q => t σ H fun xs H1 => xs.length ≤ sizeLine ∧ ∀ p, H1 p = none → Q (.ref p) (upd H1 p (.tup xs))
def tLst (t : TA) : TE := fun σ H Q => t σ H fun xs H1 => xs.length ≤ sizeLine ∧ ∀ p, H1 p = none → Q (.ref p) (upd H1 p (.lst xs))
theorem pe_tup {x1} (h : PA X es t) : PE X (.Tuple es x1 pos) (tTup t) := by
  intro pins s σ H Q I hq
  refine wpAny_Tuple_spliced (thn (h pos pins s σ H _ I hq) fun us s1 ⟨xs, H1, I1, r, z, q⟩ => ⟨by rw [← r.length]; exact z, ?_⟩)
  have hf : H1 s1.heap.objs.size = none := I1.hok.fresh (Nat.le_refl _)
  refine ⟨.ref s1.heap.objs.size, upd H1 s1.heap.objs.size (.tup xs), I1.laid (t' := s1.toks) (fun b u e => Heap.get?_push_of_some _ e) (Nat.le_refl _) ?_, rfl, q _ hf⟩
  exact ⟨z, us, r, ⟨_, Heap.get?_push_size _ rfl, rfl, _, rfl⟩⟩
theorem pe_lst (h : PA X es t) : PE X (.List es pos) (tLst t) := by
  intro pins s σ H Q I hq
  refine wpAny_List_spliced (thn (h pos pins s σ H _ I hq) fun us s1 ⟨xs, H1, I1, r, z, q⟩ => ⟨by rw [← r.length]; exact z, ?_⟩)
  have hf : H1 s1.heap.objs.size = none := I1.hok.fresh (Nat.le_refl _)
  refine ⟨.ref s1.heap.objs.size, upd H1 s1.heap.objs.size (.lst xs), I1.laid (t' := s1.toks) (fun b u e => Heap.get?_push_of_some _ e) (Nat.le_refl _) ?_, rfl, q _ hf⟩
  exact ⟨z, us, 0, r, Heap.get?_push_size _ rfl⟩
end

/-! ### what a def promises -/
/-- a def's promise: the bound arguments in the parameters' order, the heap, the wanted end, the wanted exception -/
abbrev Sp := List V → Hp → VK → XK → Prop
/-- how an exception lies behind a call (file 08 gives it): the callers' frames, abstract heap and state ahead of the call, the wish, the exception, the state -/
abbrev CXT := List Env → Hp → Shared → XK → Value → Shared → Prop

/-- the state at a call -/
structure Env0 (P : Program) (w : World) (K : PySem.W.Frag) (mg : Str → Option Value) (base : Heap) (A : Around) (outer : List Env) (s : Shared) (H : Hp) : Prop where
  frames : A.frames = some outer
  mod : Mod K mg base
  bs : ∀ b o, base.get? b = some o → s.heap.get? b = some o ∧ H b = none
  bsz : base.objs.size ≤ s.heap.objs.size
  funs : s.heap.FunFrames base outer
  frf : ∀ b ∈ frs outer, H b = none
  hok : HOk P w H s.heap
  bare : AllBare s.gens
/-- a call's end -/
def CE (outer : List Env) (P : Program) (w : World) (H : Hp) (s : Shared) (Q : VK) (u : Value) (s' : Shared) : Prop :=
  ∃ v H', s'.os = s.os ∧ AllBare s'.gens ∧ Un (frs outer) [] H H' s.heap s'.heap ∧ HOk P w H' s'.heap ∧ RelV v u ∧ Q v H'
def CR (CX : CXT) (outer : List Env) (P : Program) (w : World) (H : Hp) (s : Shared) (Q : VK) (E : XK) (r : Result) (s' : Shared) : Prop :=
  match r with
  | .ok (.ret u) => CE outer P w H s Q u s'
  | .ok _ => False
  | .error e => CX outer H s E e s'
structure FnOk (P : Program) (w : World) (K : PySem.W.Frag) (mg : Str → Option Value) (base : Heap) (CX : CXT) (k : Nat) (f : Addr) (fd : FuncData) (ps : List Str) (sp : Sp) : Prop where
  len : ∀ vs H Q E, sp vs H Q E → vs.length = ps.length
  run : ∀ (A : Around) (outer : List Env) (s : Shared) (H : Hp) (args : Args) (us : List Value) (vs : List V) (Q : VK) (E : XK), Room k A → Env0 P w K mg base A outer s H → BindsTo s fd args (ps.zip us) → Vals vs us → sp vs H Q E →
    codeAny (model P w) A (.call (.ref f) args) (CR CX outer P w H s Q E) s
theorem Env0.make {P : Program} {w : World} {K : PySem.W.Frag} {mg : Str → Option Value} {base : Heap} {A : Around} {outer : List Env} {s : Shared} {H : Hp} (e : Env0 P w K mg base A outer s H) (C : Addr) (us : List Value) (kw : List (Str × Value)) :
    Env0 P w K mg base (A.under (.builtin "type.__call__" ⟨.ref C :: us, kw⟩)) outer s H := ⟨by first | exact e.frames | (simpa [Around.under, Code.envs, Code.isFrame, pushEnvs] using e.frames), e.mod, e.bs, e.bsz, e.funs, e.frf, e.hok, e.bare⟩
section
variable {X : Cx} {pins : List (Addr × Obj)} {σ : St} {H : Hp} {s s' : Shared}
/-- from a body: what a callee wants -/
theorem Inv.env0 (I : Inv X pins σ H s) : Env0 X.prog X.w X.K X.mg X.base X.A X.stack s H :=
  ⟨I.ok.frames, I.ok.mod, I.bs, Nat.le_trans I.ok.bsz I.sz, I.stack, I.stkFree, I.hok, I.bare⟩
/-- behind a call -/
theorem Inv.after {Q : VK} {u : Value} (I : Inv X pins σ H s) (h : CE X.stack X.prog X.w H s Q u s') : EP X pins σ Q u s' := by
  obtain ⟨v, H', os, bare, un, hok, r, q⟩ := h
  obtain ⟨hh, g, d, t, os'⟩ := s'
  obtain rfl : os' = s.os := os
  exact ⟨v, H', I.call (h' := hh) (g' := g) (d' := d) (t' := t) (ch := []) un hok bare (fun b z => absurd z (by simp)), r, q⟩
end

/-! ### calls -/
/-- f(..): the written arguments, then the defaults dvs; E: what is wanted of an exception -/
def tCall (sp : Sp) (dvs : List V) (E : XK) (t : TA) : TE := fun σ H Q => t σ H fun vs H1 => sp (vs ++ dvs) H1 Q E
/-- o.m(..) of an instance of the class at C -/
def tMeth (C : Addr) (m : Str) (sp : Sp) (dvs : List V) (E : XK) (ta : TE) (t : TA) : TE := fun σ H Q => ta σ H fun x H1 => ∃ a dx fs, x = .ref a ∧ H1 a = some (.ins C dx fs) ∧ fs.lookup m = none ∧
  t σ H1 fun vs H2 => sp (x :: (vs ++ dvs)) H2 Q E
/-- C(..): a new instance and its dict, then __init__ -/
def tMake (C : Addr) (sp : Sp) (dvs : List V) (E : XK) (t : TA) : TE := fun σ H Q => t σ H fun vs H1 => ∀ x dx, H1 x = none → H1 dx = none → dx ≠ x →
  sp (.ref x :: (vs ++ dvs)) (upd (upd H1 dx (.own x)) x (.ins C dx [])) (fun v H2 => v = .non ∧ Q (.ref x) H2) E

/-- how the parameters are bound: us the positional arguments, kw the keywords' values by name, ds the defaults that fill up -/
def Binds (K : PySem.W.Frag) (fd : FuncData) (ps : List Str) (ds : List Value) : Prop :=
  ∀ (s : Shared) (us : List Value), K.In s.heap → (us ++ ds).length = ps.length → BindsTo s fd ⟨us, []⟩ (ps.zip (us ++ ds))
/-- every parameter is given -/
theorem Binds.all {K : PySem.W.Frag} {fd : FuncData} {ps : List Str} (h : ∀ us : List Value, us.length = ps.length → bindArgs fd ⟨us, []⟩ = pure (ps.zip us)) : Binds K fd ps [] := fun s us _ hl => by
  rw [List.append_nil] at hl ⊢
  exact .of_eq (h us hl)

/-- an exception of a callee reaches what this body wants of exceptions -/
def Passes (CX : CXT) (X : Cx) (E : XK) : Prop := ∀ (pins : List (Addr × Obj)) (σ : St) (H : Hp) (s : Shared) (e : Value) (s' : Shared), Inv X pins σ H s → CX X.stack H s E e s' → X.xe e s'

section
variable {X : Cx} {CX : CXT} {k : Nat} {f C : Addr} {fd : FuncData} {ps : List Str} {sp : Sp} {dvs : List V} {ds : List Value} {E : XK} {x m : Str} {p pos apos : Pos} {e o : Expr} {es : List Expr} {ta : TE} {t : TA}

/-- the callee runs -/
theorem run_fn {pins : List (Addr × Obj)} {σ : St} {H : Hp} {s : Shared} {Q : VK} {us : List Value} {vs : List V} (F : FnOk X.prog X.w X.K X.mg X.base CX k f fd ps sp) (hr : Room k X.A) (hb : Binds X.K fd ps ds) (hd : Vals dvs ds) (hx : Passes CX X E)
    (I : Inv X pins σ H s) (r : Vals vs us) (h : sp (vs ++ dvs) H Q E) : wpAny (model X.prog X.w) X.A (call (.ref f) us) (EP X pins σ Q) X.xe s := by
  have r2 : Vals (vs ++ dvs) (us ++ ds) := r.append hd
  have hl : (us ++ ds).length = ps.length := by rw [← r2.length]; exact F.len _ _ _ _ h
  refine wpAny_call (codeAny_mono (F.run X.A X.stack s H ⟨us, []⟩ (us ++ ds) (vs ++ dvs) Q E hr I.env0 (hb s us I.kIn hl) r2 h) fun r s' hq => ?_)
  cases r with
  | error e => exact hx pins σ H s e s' I hq
  | ok fl =>
    cases fl with
    | ret u => exact I.after hq
    | next => exact False.elim hq
    | brk => exact False.elim hq
    | cont => exact False.elim hq

theorem pe_call (F : FnOk X.prog X.w X.K X.mg X.base CX k f fd ps sp) (hr : Room k X.A) (hg : Gl X x) (hm : X.mg x = some (.ref f)) (hk : PySem.W.keepIn X.K (.ref f) = true) (hb : Binds X.K fd ps ds) (hd : Vals dvs ds) (hx : Passes CX X E)
    (ha : PA X (e :: es) t) (hdb : (x == ("__debug__" : Str)) = false := by decide) (he : starEach (e :: es) X.env = (false, eval e X.env) :: starEach es X.env := by rfl) (hpl : (backTo pos (starEach es X.env)).any (·.1) = false := by rfl) :
    PE X (.Call (.Name x p) (e :: es) [] pos) (tCall sp dvs E t) := by
  intro pins s σ H Q I h
  refine wpAny_Call_Name_kw (ld_glob I hg hm ?_ hdb)
  refine PySem.W.callWith_K (h₀ := X.base) I.ok.mod.kin hk (thn (ha pos pins s σ H _ I h) fun us s1 ⟨vs, H1, I1, r, q⟩ => ⟨I1.kIn, ?_⟩) he hpl
  exact run_fn F hr hb hd hx I1 r q
/-- o.m(e, ..) -/
theorem pe_meth {pl : Sem Bool} (he : PE X o ta) (c : Cls X.K C) (hm : Meth X.K C m f) (F : FnOk X.prog X.w X.K X.mg X.base CX k f fd ps sp) (hr : Room k X.A) (hb : Binds X.K fd ps ds) (hd : Vals dvs ds) (hx : Passes CX X E) (ha : PA X (e :: es) t)
    (hst : starEach (e :: es) X.env = (false, eval e X.env) :: starEach es X.env := by rfl) (hpl : (backTo pos (starEach es X.env)).any (·.1) = false := by rfl)
    (ht : eval (.Call (.Attribute o m apos) (e :: es) [] pos) X.env = (do
      let ov ← eval o X.env
      standAt apos.atName
      let (f, first) ← holding [ov] (getMethod ov m pl)
      callWith pos f first (backTo pos (starEach (e :: es) X.env)) (backToKw pos (keywordEach [] X.env))) := by rfl) :
    PE X (.Call (.Attribute o m apos) (e :: es) [] pos) (tMeth C m sp dvs E ta t) := by
  intro pins s σ H Q I h
  refine PySem.W.methodCall_KW (pl := pl) (thn (he pins s σ H _ I h) fun u s1 ⟨x, H1, I1, rx, a, dx, fs, ex, ea, l, q⟩ => ?_) ht
  subst ex
  obtain rfl : u = Value.ref a := rx
  refine getmeth_ok I1 ea c hm l ?_
  refine PySem.W.callWith_K (first := [.ref a]) (h₀ := X.base) I.ok.mod.kin hm.kp (thn (ha pos pins s1 σ H1 _ I1 q) fun us s2 ⟨vs, H2, I2, r, q2⟩ => ⟨I2.kIn, ?_⟩) hst hpl
  exact run_fn (us := .ref a :: us) (vs := .ref a :: vs) F hr hb hd hx I2 (.cons rfl r) q2
/-- o.m() -/
theorem pe_meth0 {pl : Sem Bool} (he : PE X o ta) (c : Cls X.K C) (hm : Meth X.K C m f) (F : FnOk X.prog X.w X.K X.mg X.base CX k f fd ps sp) (hr : Room k X.A) (hb : Binds X.K fd ps ds) (hd : Vals dvs ds) (hx : Passes CX X E)
    (ht : eval (.Call (.Attribute o m apos) [] [] pos) X.env = (do
      let ov ← eval o X.env
      standAt apos.atName
      let (f, first) ← holding [ov] (getMethod ov m pl)
      callWith pos f first (backTo pos (starEach [] X.env)) (backToKw pos (keywordEach [] X.env))) := by rfl) :
    PE X (.Call (.Attribute o m apos) [] [] pos) (tMeth C m sp dvs E ta tNil) := by
  intro pins s σ H Q I h
  refine PySem.W.methodCall_KW (pl := pl) (thn (he pins s σ H _ I h) fun u s1 ⟨x, H1, I1, rx, a, dx, fs, ex, ea, l, q⟩ => ?_) ht
  subst ex
  obtain rfl : u = Value.ref a := rx
  refine getmeth_ok I1 ea c hm l ?_
  exact PySem.W.callWith_K0 (first := [.ref a]) I1.kIn hm.kp (run_fn (us := [.ref a]) (vs := [.ref a]) F hr hb hd hx I1 (.cons rfl .nil) q)

/-- what a class must have to be made -/
structure Mk (K : PySem.W.Frag) (C f : Addr) : Prop where
  makes : PySem.W.makesIn K C = true
  init : PySem.W.findIn K (.ref C) "__init__" = some (some (.ref f))
  fn : PySem.W.isFn K (.ref f) = true
  kp : PySem.W.keepIn K (.ref C) = true

theorem run_make {pins : List (Addr × Obj)} {σ : St} {H : Hp} {s : Shared} {Q : VK} {us : List Value} {vs : List V} (M : Mk X.K C f) (F : FnOk X.prog X.w X.K X.mg X.base CX k f fd ps sp) (hr : Room (k + 1) X.A) (hb : Binds X.K fd ps ds) (hd : Vals dvs ds)
    (hx : Passes CX X E) (I : Inv X pins σ H s) (r : Vals vs us)
    (h : ∀ x dx, H x = none → H dx = none → dx ≠ x → sp (.ref x :: (vs ++ dvs)) (upd (upd H dx (.own x)) x (.ins C dx [])) (fun v H2 => v = .non ∧ Q (.ref x) H2) E) :
    wpAny (model X.prog X.w) X.A (call (.ref C) us) (EP X pins σ Q) X.xe s := by
  have hq := h (s.heap.objs.size + 1) s.heap.objs.size (I.hok.fresh (Nat.le_succ _)) (I.hok.fresh (Nat.le_refl _)) (Nat.ne_of_lt (Nat.lt_succ_self _))
  have I2 := Inv.made (C := C) I
  have r2 : Vals (V.ref (s.heap.objs.size + 1) :: (vs ++ dvs)) (Value.ref (s.heap.objs.size + 1) :: (us ++ ds)) := .cons rfl (r.append hd)
  have hl : (Value.ref (s.heap.objs.size + 1) :: us ++ ds).length = ps.length := by
    have e := r2.length
    rw [F.len _ _ _ _ hq] at e
    exact e.symm
  refine wpAny_call (make_map (f := f) I.kIn M.makes M.init (beq_iff_eq.mp M.fn) (codeAny_mono (F.run _ X.stack _ _ ⟨Value.ref (s.heap.objs.size + 1) :: us, []⟩ (Value.ref (s.heap.objs.size + 1) :: (us ++ ds)) _ _ E (hr.make C us [])
    (I2.env0.make C us []) (hb _ (Value.ref (s.heap.objs.size + 1) :: us) I2.kIn hl) r2 hq) fun r s' hq' => ?_))
  cases r with
  | error e => exact hx pins σ _ _ e s' I2 hq'
  | ok fl =>
    cases fl with
    | ret u =>
      obtain ⟨v, H', I3, rv, ev, q3⟩ := I2.after hq'
      subst ev
      exact ⟨rv, ⟨V.ref (s.heap.objs.size + 1), H', I3, rfl, q3⟩⟩
    | next => exact False.elim hq'
    | brk => exact False.elim hq'
    | cont => exact False.elim hq'
end

/-! ### keywords -/
section
variable {X : Cx} {CX : CXT} {k : Nat} {f C : Addr} {fd : FuncData} {ps ks : List Str} {sp : Sp} {E : XK} {x m : Str} {p pos apos kpos : Pos} {e o : Expr} {es : List Expr} {kws : List Keyword} {te ta : TE} {t tk : TA} {nm : Option Str}
/-- how a call with keywords binds: g puts the positional values us and the keywords' values ws (names ks) in the parameters' order, defaults among them -/
structure KBinds (K : PySem.W.Frag) (fd : FuncData) (ps ks : List Str) (g : List Value → List Value → List Value) (gV : List V → List V → List V) : Prop where
  to : ∀ (s : Shared) (us ws : List Value), K.In s.heap → (g us ws).length = ps.length → BindsTo s fd ⟨us, ks.zip ws⟩ (ps.zip (g us ws))
  rel : ∀ {vs : List V} {us : List Value} {zs : List V} {ws : List Value}, Vals vs us → Vals zs ws → Vals (gV vs zs) (g us ws)
variable {g : List Value → List Value → List Value} {gV : List V → List V → List V}
end

/-! ### a def's body keeps its promise -/
/-- names: the parameters first -/
structure FnScope (N P : List Str) (sc : Scope) : Prop where
  kind : sc.kind = .function
  co : sc.isCoroutine = false
  gen : sc.isGenerator = false
  nd : N.Nodup
  pre : N.take P.length = P
  par : ∀ x ∈ P, sc.names.lookup x = some .local ∨ sc.names.lookup x = some .cell
  nofree : ∀ y ∈ sc.names, y.2 ≠ .free

theorem bindL_out {kindOf : Str → Option NameKind} {x : Str} : ∀ {binds : List (Str × Value)} {m : Str → Option Value}, (∀ v, (x, v) ∉ binds) → bindL kindOf binds m x = m x
  | [], _, _ => rfl
  | (n, v) :: r, m, h => by
    unfold bindL
    rw [bindL_out fun w hw => h w (List.mem_cons_of_mem _ hw)]
    split
    · have : x ≠ n := by rintro rfl; exact h v List.mem_cons_self
      simp [this]
    · rfl
theorem bindC_out {kindOf : Str → Option NameKind} {x : Str} : ∀ {binds : List (Str × Value)} {m : Str → Option Value}, (∀ v, (x, v) ∉ binds) → bindC kindOf binds m x = m x
  | [], _, _ => rfl
  | (n, v) :: r, m, h => by
    unfold bindC
    rw [bindC_out fun w hw => h w (List.mem_cons_of_mem _ hw)]
    split
    · rfl
    · have : x ≠ n := by rintro rfl; exact h v List.mem_cons_self
      simp [this]
theorem bindL_get {kindOf : Str → Option NameKind} {x : Str} {v : Value} : ∀ {P : List Str} {vs : List Value} {i : Nat} {m : Str → Option Value}, P.Nodup → P[i]? = some x → vs[i]? = some v → kindOf x = some .local →
    bindL kindOf (P.zip vs) m x = some v
  | [], _, _, _, _, h, _, _ => by simp at h
  | _ :: _, [], _, _, _, _, h, _ => by simp at h
  | p :: P, w :: vs, 0, m, nd, h1, h2, hk => by
    simp at h1 h2; subst h1; subst h2
    show bindL kindOf ((p, w) :: P.zip vs) m p = _
    unfold bindL
    rw [bindL_out fun v hv => (List.nodup_cons.mp nd).1 (List.of_mem_zip hv).1, if_pos hk]
    simp
  | p :: P, w :: vs, i + 1, m, nd, h1, h2, hk => by
    show bindL kindOf ((p, w) :: P.zip vs) m x = _
    unfold bindL
    exact bindL_get (i := i) (List.nodup_cons.mp nd).2 (by simpa using h1) (by simpa using h2) hk
theorem bindC_get {kindOf : Str → Option NameKind} {x : Str} {v : Value} : ∀ {P : List Str} {vs : List Value} {i : Nat} {m : Str → Option Value}, P.Nodup → P[i]? = some x → vs[i]? = some v → kindOf x ≠ some .local →
    bindC kindOf (P.zip vs) m x = some v
  | [], _, _, _, _, h, _, _ => by simp at h
  | _ :: _, [], _, _, _, _, h, _ => by simp at h
  | p :: P, w :: vs, 0, m, nd, h1, h2, hk => by
    simp at h1 h2; subst h1; subst h2
    show bindC kindOf ((p, w) :: P.zip vs) m p = _
    unfold bindC
    rw [bindC_out fun v hv => (List.nodup_cons.mp nd).1 (List.of_mem_zip hv).1, if_neg hk]
    simp
  | p :: P, w :: vs, i + 1, m, nd, h1, h2, hk => by
    show bindC kindOf ((p, w) :: P.zip vs) m x = _
    unfold bindC
    exact bindC_get (i := i) (List.nodup_cons.mp nd).2 (by simpa using h1) (by simpa using h2) hk

/-- the names' values at the entry -/
def start (N : List Str) (vs : List V) : St := vs.map some ++ List.replicate (N.length - vs.length) none

/-- the context of a def's body, at its entry; an exception leaves the frame, then lies as CX says -/
def cxOf (CX : CXT) (P : Program) (w : World) (K : PySem.W.Frag) (mg : Str → Option Value) (base : Heap) (N : List Str) (qual : Str) (scope : Scope) (f : Addr) (cd : Value) (A : Around) (outer : List Env) (s : Shared) (H : Hp) (E : XK) : Cx where
  prog := P
  w := w
  K := K
  mg := mg
  base := base
  A := A.deeper (envOfC qual scope s.heap.objs.size f cd)
  N := N
  s₀ := s
  H₀ := H
  env := envOfC qual scope s.heap.objs.size f cd
  outer := outer
  stack := envOfC qual scope s.heap.objs.size f cd :: outer
  ex := []
  calm := true
  fn := fun _ => true
  pn := []
  xe := fun e s' => wpAny (model P w) (A.deeper (envOfC qual scope s.heap.objs.size f cd)) (leaving (envOfC qual scope s.heap.objs.size f cd) e) (fun _ s'' => CX outer H s E e s'') (fun e' s'' => CX outer H s E e' s'') s'

theorem cell_has {sc : Scope} {n : Nat} {x : Str} (h : sc.names.lookup x = some .cell) : ∃ c, (cellsFrom n sc.names []).lookup x = some c := by
  have q := PySem.W.cellsFrom_some sc.names n [] (.inl h)
  exact Option.isSome_iff_exists.mp q

theorem inv_start {CX : CXT} {P : Program} {w : World} {K : PySem.W.Frag} {mg : Str → Option Value} {base : Heap} {N ps : List Str} {qual : Str} {scope : Scope} {f : Addr} {cd : Value} {A : Around} {outer : List Env} {s s1 : Shared} {H : Hp} {E : XK} {us : List Value} {vs : List V}
    (S : FnScope N ps scope) (hd : A.handled = none) (e0 : Env0 P w K mg base A outer s H) (hl : vs.length = ps.length) (r : Vals vs us)
    (x : InCallC s s.heap.objs.size (bindL (envOfC qual scope s.heap.objs.size f cd).kindOf (ps.zip us) fun _ => none) (cellsFrom (s.heap.objs.size + 1) scope.names []) (bindC (envOfC qual scope s.heap.objs.size f cd).kindOf (ps.zip us) fun _ => none) s1) :
    Inv (cxOf CX P w K mg base N qual scope f cd A outer s H E) [] (start N vs) H s1 := by
  have hpl : ps.length ≤ N.length := by have := congrArg List.length S.pre; rw [List.length_take] at this; omega
  obtain ⟨h1, tk, rfl, hk⟩ := x.done
  have noA : ∀ b : Addr, b ∉ (cxOf CX P w K mg base N qual scope f cd A outer s H E).ex := fun b z => absurd (show b ∈ ([] : List Addr) from z) (by simp)
  refine ⟨⟨e0.mod, S.kind, rfl, rfl, Nat.le_refl _, fun y z c h1 h2 => ?_, fun y hy => ?_, fun y c _ h => ?_, fun _ => hd, Around.frames_deeper e0.frames, .inr ⟨rfl, rfl⟩, fun b z => absurd z (noA b), e0.bs, e0.bsz, fun b _ _ => noA b, fun b z => absurd z (noA b), e0.funs, e0.frf⟩,
    rfl, e0.bare, Un.kept hk, ⟨_, x.toInCall.ns, fun i y v h1 h2 h3 => ?_⟩, fun y c h => ⟨_, x.cell y c h⟩, e0.hok.fresh (Nat.le_refl _), fun y c h => ?_, fun p hp => absurd (show p ∈ ([] : List (Addr × Obj)) from hp) (by simp), e0.hok.kept hk, ?_⟩
  · exact name_of_addr x.apart (PySem.mem_of_lookup h1) (PySem.mem_of_lookup h2)
  · have hy : scope.names.lookup y = some .cell ∨ scope.names.lookup y = some .free := hy
    rcases hy with hy | hy
    · exact cell_has hy
    · exact absurd rfl (S.nofree _ (PySem.mem_of_lookup hy))
  · exact Nat.le_of_lt (x.above y c (PySem.mem_of_lookup h))
  · have hi : i < vs.length := by
      unfold start at h2
      by_cases hi : i < vs.length
      · exact hi
      · rw [List.getElem?_append_right (by simpa using hi)] at h2
        rw [List.getElem?_replicate] at h2
        split at h2 <;> cases h2
    have ha : vs[i]? = some v := by
      unfold start at h2
      rw [List.getElem?_append_left (by simpa using hi), List.getElem?_map] at h2
      cases e : vs[i]? with
      | none => rw [e] at h2; cases h2
      | some a => rw [e] at h2; cases h2; rfl
    obtain ⟨u, hu, rv⟩ := r.get ha
    have hp : ps[i]? = some y := by
      rw [← S.pre, List.getElem?_take_of_lt (by omega)]; exact h1
    have ndP : ps.Nodup := by rw [← S.pre]; exact S.nd.sublist (List.take_sublist _ _)
    refine ⟨u, rv, ?_⟩
    rcases S.par y (List.mem_of_getElem? hp) with k | k
    · exact .inl ⟨k, bindL_get ndP hp hu k⟩
    · obtain ⟨c, e⟩ := cell_has (n := s.heap.objs.size + 1) k
      refine .inr ⟨.inl k, c, e, ?_⟩
      have q := x.cell y c e
      rw [bindC_get ndP hp hu (by show scope.names.lookup y ≠ _; rw [k]; decide)] at q
      exact q
  · exact e0.hok.fresh (Nat.le_of_lt (x.above y c (PySem.mem_of_lookup h)))
  · unfold start
    show _ = N.length
    rw [List.length_append, List.length_map, List.length_replicate]
    omega

/-- THE RULE: a def (or a method) of the text, by its body. The body's reading t is chosen for each entry; it is run at the parameters' values -/
theorem fn_of {CX : CXT} {P : Program} {w : World} {K : PySem.W.Frag} {mg : Str → Option Value} {base : Heap} {k : Nat} {f : Addr} {name qual : Str} {params : Arguments} {body : List Stmt} {scope : Scope} {dV kV doc pm cdv ct oc : Value} {an od : Option Addr}
    {osl : Array (Option Value)} {N ps : List Str} {sp : Sp} (lk : K.lookup f = some ⟨oc, od, .func (PySem.W.fnOf name qual params body scope dV kV doc pm an cdv ct), osl⟩) (hcd : PySem.W.codeIn K cdv qual = true) (S : FnScope N ps scope)
    (len : ∀ vs H Q E, sp vs H Q E → vs.length = ps.length)
    (hbody : ∀ (A : Around) (outer : List Env) (s : Shared) (H : Hp) (vs : List V) (Q : VK) (E : XK), Room k (A.deeper (envOfC qual scope s.heap.objs.size f cdv)) → sp vs H Q E →
      ∃ t, PSs (cxOf CX P w K mg base N qual scope f cdv A outer s H E) body t ∧ t { nx := fun _ H' => Q .non H', rt := Q } (start N vs) H) :
    FnOk P w K mg base CX (k + 1) f (PySem.W.fnOf name qual params body scope dV kV doc pm an cdv ct) ps sp := by
  refine ⟨len, fun A outer s H args us vs Q E hr e0 hb r hsp => ?_⟩
  have hl := len _ _ _ _ hsp
  have KX : K.In s.heap := e0.mod.kin.keeps fun b o e => (e0.bs b o e).1
  have lim : s.heap.NoLimit := e0.mod.nolimit.keeps fun b o e => (e0.bs b o e).1
  have hkind : ∀ y ∈ ps.zip us, scope.names.lookup y.1 = some .local ∨ (scope.names.lookup y.1 = some .cell ∧ ((cellsFrom (s.heap.objs.size + 1) scope.names []).lookup y.1).isSome = true) := fun ⟨n, v⟩ hy => by
    rcases S.par n (List.of_mem_zip hy).1 with q | q
    · exact .inl q
    · exact .inr ⟨q, PySem.W.cellsFrom_some _ _ _ (.inl q)⟩
  refine codeAny_call_function hr.depth (KX _ _ lk) rfl S.co S.gen rfl (PySem.W.codeRec_of KX hcd) (hb _ _ _ _ ?_)
  refine wpAny_newFunctionEnv_cells S.kind hkind fun env he s1 x => ?_
  subst he
  refine ⟨lim.keeps x.toInCall.keep, codeAny_func ?_⟩
  obtain ⟨t, ht, hq⟩ := hbody A outer s H vs Q E (hr.deeper _) hsp
  have I : Inv (cxOf CX P w K mg base N qual scope f cdv A outer s H E) [] (start N vs) H s1 := inv_start S hr.hd e0 hl r x
  refine wpAny_mono (ht [] s1 (start N vs) H _ I hq) (fun fl s' hs => ?_) fun e s' hs => hs
  have fin : ∀ {σ' : St} {H' : Hp} {v : V} {u : Value}, Inv (cxOf CX P w K mg base N qual scope f cdv A outer s H E) [] σ' H' s' → RelV v u → Q v H' → CE outer P w H s Q u s' :=
    fun {σ' H' v u} J rv q => ⟨v, H', J.os, J.bare, J.base, J.hok, rv, q⟩
  cases fl with
  | ret u =>
    obtain ⟨v, σ', H', J, rv, q⟩ := hs
    exact fin J rv q
  | next =>
    obtain ⟨σ', H', J, q⟩ := hs
    exact fin (v := V.non) (u := Value.none) J rfl q
  | brk =>
    obtain ⟨_, _, _, q⟩ := hs
    exact False.elim q
  | cont =>
    obtain ⟨_, _, _, q⟩ := hs
    exact False.elim q
end L2

namespace L2
open PySem PySem.Spec PyProof.Rows
section
variable {X : Cx} {x : Str} {p pos : Pos} {e : Expr} {es : List Expr} {t : TA} {id T : String} {r : List V → Hp → VK → Prop}

def tCB (r : List V → Hp → VK → Prop) (t : TA) : TE := fun σ H Q => t σ H fun vs H1 => r vs H1 Q
/-- f(e, ..), f a built-in function -/
theorem pe_callB (hc : CallR X (.builtin id) r) (hg : Gl X x) (hm : X.mg x = none) (hv : bootBuiltins x = some (.builtin id)) (ha : PA X (e :: es) t) (hn : x ≠ "__name__" := by decide) (hdb : (x == ("__debug__" : Str)) = false := by decide)
    (he : starEach (e :: es) X.env = (false, eval e X.env) :: starEach es X.env := by rfl) (hpl : (backTo pos (starEach es X.env)).any (·.1) = false := by rfl) : PE X (.Call (.Name x p) (e :: es) [] pos) (tCB r t) := by
  intro pins s σ H Q I h
  refine wpAny_Call_Name_kw (ld_blt I hg hm hv ?_ hn hdb)
  exact PyProof.Rows.callWith_builtin1 (thn (ha pos pins s σ H _ I h) fun us s1 ⟨vs, H1, I1, r1, q1⟩ => hc pins s1 σ H1 vs us Q I1 r1 q1) he hpl
/-- T(e, ..), T a built-in type -/
theorem pe_callTy (hc : CallR X (.type T) r) (hg : Gl X x) (hm : X.mg x = none) (hv : bootBuiltins x = some (.type T)) (ha : PA X (e :: es) t) (hn : x ≠ "__name__" := by decide) (hdb : (x == ("__debug__" : Str)) = false := by decide)
    (he : starEach (e :: es) X.env = (false, eval e X.env) :: starEach es X.env := by rfl) (hpl : (backTo pos (starEach es X.env)).any (·.1) = false := by rfl) : PE X (.Call (.Name x p) (e :: es) [] pos) (tCB r t) := by
  intro pins s σ H Q I h
  refine wpAny_Call_Name_kw (ld_blt I hg hm hv ?_ hn hdb)
  exact PyProof.Rows.callWith_type1 (thn (ha pos pins s σ H _ I h) fun us s1 ⟨vs, H1, I1, r1, q1⟩ => hc pins s1 σ H1 vs us Q I1 r1 q1) he hpl
end
end L2

namespace HT
open PySem PyProof.Rows

/-- t < u of tuples of ints -/
def lexLt : List Int → List Int → Bool
  | [], [] => false
  | [], _ :: _ => true
  | _ :: _, [] => false
  | x :: xs, y :: ys => if x = y then lexLt xs ys else decide (x < y)
theorem lexLt_cons (x y : Int) (xs ys : List Int) : lexLt (x :: xs) (y :: ys) = if x = y then lexLt xs ys else decide (x < y) := rfl
theorem lexLt_nil_nil : lexLt [] [] = false := rfl
theorem lexLt_nil_cons (y : Int) (ys : List Int) : lexLt [] (y :: ys) = true := rfl
theorem lexLt_cons_nil (x : Int) (xs : List Int) : lexLt (x :: xs) [] = false := rfl

theorem eqAt_int (A : Around) (s : Shared) (a : Int) (t : Tok) (c : Int) (u : Tok) : ∃ e, SeqAt.EqAt A s (.int a t) (.int c u) e ∧ (e = true ↔ a = c) :=
  ⟨(a == c), SeqAt.EqAt.int_int a t c u, by simp⟩
theorem rcLt_int (A : Around) (s : Shared) (a : Int) (t : Tok) (c : Int) (u : Tok) (prog : Program) (w : World) (E : Value → Shared → Prop) (Q : Value → Shared → Prop) (h : Q (.bool (decide (a < c))) s) :
    wpAny (model prog w) A (richCompare .Lt (.int a t) (.int c u)) Q E s :=
  (PyProof.Rows.lt_int h : wpAny (model prog w) A (compareOp .Lt (.int a t) (.int c u)) Q E s)

section
open PySem.SeqAt
open PySem.AutoSeq1 (wpAny_loadPart')
open PySem.MeetsSeq PySem.MeetsSeq2 PySem.MeetsSeq3

theorem tuple_lt_ints (l b : Addr) (items items2 : Array Value) (n n2 : Nat) (dd dd2 : Option Addr) (sl sl2 : Array (Option Value)) (ns ms : List Int) (hi : IntsAre items.toList ns) (hj : IntsAre items2.toList ms) :
    Meets (Builtin.«tuple.__lt__» ⟨[.ref l, .ref b], []⟩)
      (fun _ R s => s.heap.get? l = some { cls := .type "tuple", dict := dd, data := .seq items n, slots := sl } ∧ s.heap.get? b = some { cls := .type "tuple", dict := dd2, data := .seq items2 n2, slots := sl2 } ∧
        R (.ok (.ret (.bool (lexLt ns ms)))) s) :=
  .of_wp fun prog w A R s h => by
    obtain ⟨hp, g, d, tk, os⟩ := s; obtain ⟨hl, hb, h⟩ := h
    have f2 := AutoSeq1.sub_tuple_tuple
    have z1 : items.size = ns.length := by rw [← hi.length]; simp
    have z2 : items2.size = ms.length := by rw [← hj.length]; simp
    wp_walk using wpAny_loadPart' hl, wpAny_loadPart' hb, wpAny_forIn_list _ (fun rest b s' => b.1 = none ∧ s' = ⟨hp, g, d, tk, os⟩ ∧ ∃ (vs ws : List Value) (ns' ms' : List Int), rest = vs.zip ws ∧
      IntsAre vs ns' ∧ IntsAre ws ms' ∧ ns'.length + items2.size = ms'.length + items.size ∧ R (.ok (.ret (.bool (lexLt ns' ms')))) ⟨hp, g, d, tk, os⟩) _
    case turn =>
      rintro ⟨y, x⟩ rest b s' ⟨hb', rfl, vs, ws, ns', ms', hz, hvi, hwi, hlen, hR⟩
      cases hvi with
      | nil => rw [List.zip_nil_left] at hz; cases hz
      | cons a t hvi' =>
        cases hwi with
        | nil => rw [List.zip_nil_right] at hz; cases hz
        | cons c u hwi' =>
          rw [List.zip_cons_cons] at hz
          injection hz with hyx hrest
          injection hyx with hy hx
          subst hy hx
          rw [lexLt_cons] at hR
          simp only [List.length_cons] at hlen
          obtain ⟨e, he, hiff⟩ := eqAt_int A.in1 ⟨hp, g, d, tk, os⟩ a t c u
          refine wpAny_bind (he prog w _ _ ?_)
          cases e with
          | true =>
            rw [if_pos (hiff.mp rfl)] at hR
            wp_walk
            exact ⟨rfl, rfl, _, _, _, _, hrest, hvi', hwi', by omega, hR⟩
          | false =>
            rw [if_neg (fun q => absurd (hiff.mpr q) Bool.false_ne_true)] at hR
            have hri := rcLt_int A.in1 ⟨hp, g, d, tk, os⟩ a t c u prog w
            wp_walk using hri
            exact ⟨_, rfl, by simpa using hR⟩
    case fin =>
      rintro ⟨b1, b2⟩ s' ⟨hb', rfl, vs, ws, ns', ms', hz, hvi, hwi, hlen, hR⟩
      simp only at hb'
      subst hb'
      have hv : lexLt ns' ms' = decide (items.size < items2.size) := by
        cases hvi with
        | nil =>
          cases hwi with
          | nil =>
            simp only [List.length_nil] at hlen
            rw [lexLt_nil_nil]
            exact (decide_eq_false (by omega)).symm
          | cons c u hw =>
            simp only [List.length_nil, List.length_cons] at hlen
            rw [lexLt_nil_cons]
            exact (decide_eq_true (by omega)).symm
        | cons a t hv =>
          cases hwi with
          | nil =>
            simp only [List.length_nil, List.length_cons] at hlen
            rw [lexLt_cons_nil]
            exact (decide_eq_false (by omega)).symm
          | cons c u hw =>
            rw [List.zip_cons_cons] at hz
            cases hz
      rw [hv] at hR
      wp_walk
      exact ⟨_, rfl, by simpa [Builtin.Tuple.tupleCompareSizes] using hR⟩
    case h =>
      exact ⟨rfl, rfl, items.toList, items2.toList, ns, ms, rfl, hi, hj, by omega, h⟩
end

section
variable {prog : Program} {w : World} {A : Around} {E : Value → Shared → Prop} {s : Shared}

theorem lt_tupInts {l b : Addr} {items items2 : Array Value} {ns ms : List Int} {Q : Value → Shared → Prop} (hl : IsTup s.heap l items) (hb : IsTup s.heap b items2) (hi : IntsAre items.toList ns) (hj : IntsAre items2.toList ms)
    (hu : A.units < cLine) (h : Q (.bool (lexLt ns ms)) s) : wpAny (model prog w) A (compareOp .Lt (.ref l) (.ref b)) Q E s := by
  obtain ⟨⟨cls, dd, data, sl⟩, ho, hc, n, hd⟩ := id hl
  obtain ⟨⟨cls2, dd2, data2, sl2⟩, ho2, hc2, n2, hd2⟩ := id hb
  simp only at hc hd hc2 hd2
  subst hc hd hc2 hd2
  exact richCompare_meets_room (op := .Lt) ⟨_, ho, rfl⟩ ⟨_, ho2, rfl⟩ PySem.F.slot_tuple_lt PySem.F.entry_tuple_lt (PySem.F.args_tuple_lt_2 _ _) (tuple_lt_ints l b items items2 n n2 dd dd2 sl sl2 ns ms hi hj)
    ⟨ho, ho2, show Value.bool (lexLt ns ms) ≠ Value.notImplemented ∧ Q (.bool (lexLt ns ms)) s from ⟨(fun x => nomatch x), h⟩⟩ hu

/-! ### t[a:b], not the whole -/
/-- a slice's bound as a place among n (d where it is left out) -/
def sIx (n d : Nat) : Option Int → Nat
  | none => d
  | some v => if v < 0 then (v + (n : Int)).toNat else min v.toNat n
theorem sIx_nat (n d k : Nat) : sIx n d (some (k : Int)) = min k n := by
  show (if (k : Int) < 0 then ((k : Int) + (n : Int)).toNat else min (k : Int).toNat n) = min k n
  rw [if_neg (by omega), Int.toNat_natCast]
end
end HT

namespace L2
open PySem PySem.Spec PyProof.Rows

/-! ### the parts of a slice -/
abbrev TO := St → Hp → (Option Int → Hp → Prop) → Prop
/-- a slice's part (left out, or an int) -/
def PO (X : Cx) (e : Option Expr) (t : TO) : Prop :=
  ∀ (pins : List (Addr × Obj)) (s : Shared) (σ : St) (H : Hp) (Q : Option Int → Hp → Prop), Inv X pins σ H s → t σ H Q →
    wpAny (model X.prog X.w) X.A (evalPart e X.env) (fun u s' => ∃ o H', Inv X pins σ H' s' ∧ IsPart u o ∧ Q o H') X.xe s
def tPart (t : TE) : TO := fun σ H Q => t σ H fun x H1 => ∃ i, x = .int i ∧ Q (some i) H1

theorem intsAre_of {ns : List Int} : ∀ {us : List Value}, Vals (ns.map V.int) us → IntsAre us ns := by
  induction ns with
  | nil => intro us r; rw [List.map_nil] at r; cases r; exact .nil
  | cons n ns ih =>
    intro us r
    rw [List.map_cons] at r
    cases r with
    | cons r1 r2 =>
      obtain ⟨t, e⟩ := r1
      subst e
      exact .cons n t (ih r2)

section
variable {X : Cx} {e : Expr} {te : TE} {lo hi : Option Expr} {tl th : TO} {pos p2 : Pos}

theorem po_some (h : PE X e te) : PO X (some e) (tPart te) := by
  intro pins s σ H Q I hw
  rw [evalPart_some]
  refine thn (h pins s σ H _ I hw) fun u s1 ⟨x, H1, I1, r1, q1⟩ => ?_
  obtain ⟨i, rfl, q⟩ := q1
  obtain ⟨t, rfl⟩ := r1
  exact ⟨some i, H1, I1, .int i t, q⟩

/-- what a slice of a value is, by values: the slice object stands at sl -/
def SlR (X : Cx) (r : V → Option Int → Option Int → Hp → VK → Prop) : Prop :=
  ∀ (pins : List (Addr × Obj)) (s : Shared) (σ : St) (H : Hp) (x : V) (v vl vu : Value) (lo hi : Option Int) (sl : Addr) (Q : VK), Inv X pins σ H s → RelV x v → s.heap.IsSliceOf sl vl vu .none → IsPart vl lo → IsPart vu hi → r x lo hi H Q →
    ∃ T id, typeLookup (.type T) "__getitem__" = pure (some (.builtin id)) ∧ s.TypeIs v T ∧ wpAny (model X.prog X.w) X.A (getItem v (.ref sl)) (EP X pins σ Q) X.xe s
def tSl (r : V → Option Int → Option Int → Hp → VK → Prop) (te : TE) (tl th : TO) : TE := fun σ H Q => te σ H fun x H1 => tl σ H1 fun l H2 => th σ H2 fun u H3 => r x l u H3 Q
/-- a[lo:hi], any a -/
theorem pe_slice {r : V → Option Int → Option Int → Hp → VK → Prop} (hr : SlR X r) (he : PE X e te) (hl : PO X lo tl) (hu : PO X hi th) : PE X (.Subscript e (.Slice lo hi none p2) pos) (tSl r te tl th) := by
  intro pins s σ H Q I h
  refine Subscript_ (thn (he pins s σ H _ I h) fun v s1 ⟨x, H1, I1, r1, q1⟩ => ?_)
  refine wpAny_Slice (thn (hl pins s1 σ H1 _ I1 q1) fun vl s2 ⟨l, H2, I2, pl, q2⟩ => thn (hu pins s2 σ H2 _ I2 q2) fun vu s3 ⟨u, H3, I3, pu, q3⟩ => ?_)
  rw [evalPart_none]
  refine wpAny_pure ?_
  have I4 : Inv X pins σ H3 { s3 with heap := s3.heap.push { cls := .type "slice", data := .fields #[vl, vu, .none] } } := I3.kept (t' := s3.toks) fun b ob q => Heap.get?_push_of_some _ q
  obtain ⟨T, id, hT, ht, hg⟩ := hr pins { s3 with heap := s3.heap.push { cls := .type "slice", data := .fields #[vl, vu, .none] } } σ H3 x v vl vu l u s3.heap.objs.size Q I4 r1 (Heap.IsSliceOf.new ..) pl pu q3
  show wpAny (model X.prog X.w) X.A (subscriptTail e (.Slice lo hi none p2) v (.ref s3.heap.objs.size)) (EP X pins σ Q) X.xe { s3 with heap := s3.heap.push { cls := .type "slice", data := .fields #[vl, vu, .none] } }
  exact tail_any (ops := [.ref s3.heap.objs.size, v]) ht hT hg (by with_unfolding_all rfl)

/-- the items of xs[lo:hi] -/
def cutV (xs : List V) (lo hi : Option Int) : List V := (xs.drop (HT.sIx xs.length 0 lo)).take (HT.sIx xs.length xs.length hi - HT.sIx xs.length 0 lo)
theorem cutV_length (xs : List V) (lo hi : Option Int) : (cutV xs lo hi).length ≤ xs.length := by
  unfold cutV
  rw [List.length_take, List.length_drop]
  omega
/-! ### t < u, t + u -/
def rLtT (K : PySem.W.Frag) : R2 := fun x y H Q => ∃ a b ns ms, x = .ref a ∧ y = .ref b ∧ SqT K H a (ns.map V.int) ∧ SqT K H b (ms.map V.int) ∧ Q (.bl (HT.lexLt ns ms)) H
theorem op_ltT (hu : X.A.units < cLine) : OpR X (compareOp .Lt) (rLtT X.K) := by
  intro pins s σ H x y v u Q I rx ry h
  obtain ⟨a, b, ns, ms, rfl, rfl, ha, hb, q⟩ := h
  cases rx
  cases ry
  obtain ⟨its, r1, p1, _⟩ := I.tuple ha
  obtain ⟨its2, r2, p2, _⟩ := I.tuple hb
  have i1 : IntsAre its.toArray.toList ns := intsAre_of r1
  have i2 : IntsAre its2.toArray.toList ms := intsAre_of r2
  exact HT.lt_tupInts p1 p2 i1 i2 hu ⟨.bl (HT.lexLt ns ms), H, I, rfl, q⟩
end
end L2

namespace L2
open PySem PySem.Spec PyProof.Rows

/-! ### places -/
/-- the place that an index of any sign means -/
def ixN (n : Nat) (i : Int) : Option Nat := if 0 ≤ i then (if i < n then some i.toNat else none) else if -(n : Int) ≤ i then some (i + n).toNat else none
def atI {α : Type} (xs : List α) (i : Int) : Option α := (ixN xs.length i).bind fun j => xs[j]?
theorem ixN_seq {n : Nat} {i : Int} {j : Nat} (h : ixN n i = some j) : seqIndex? i n = some j ∧ j < n ∧ -(n : Int) ≤ i ∧ i < n := by
  unfold ixN at h
  by_cases h0 : 0 ≤ i
  · rw [if_pos h0] at h
    by_cases h1 : i < n
    · rw [if_pos h1] at h
      have e : i.toNat = j := Option.some.inj h
      exact ⟨by rw [seqIndex_of h0 h1, e], by omega, by omega, h1⟩
    · rw [if_neg h1] at h; cases h
  · rw [if_neg h0] at h
    by_cases h1 : -(n : Int) ≤ i
    · rw [if_pos h1] at h
      have e : (i + n).toNat = j := Option.some.inj h
      exact ⟨by rw [seqIndex_neg (by omega) h1, e], by omega, h1, by omega⟩
    · rw [if_neg h1] at h; cases h
theorem atI_get {α : Type} {xs : List α} {i : Int} {v : α} (h : atI xs i = some v) : ∃ j, seqIndex? i xs.length = some j ∧ xs[j]? = some v ∧ j < xs.length ∧ -(xs.length : Int) ≤ i ∧ i < xs.length := by
  unfold atI at h
  cases e : ixN xs.length i with
  | none => rw [e] at h; cases h
  | some j =>
    rw [e] at h
    obtain ⟨h1, h2, h3, h4⟩ := ixN_seq e
    exact ⟨j, h1, h, h2, h3, h4⟩
/-! ### what may be subscripted -/
/-- what stands as an index of a plain subscript -/
def PlainIx (b : Expr) : Prop := ∀ o i, subscripted b false o i = operate [o, i] (getItem o i)
/-- a subscript by values -/
def IxR (X : Cx) (r : R2) : Prop :=
  ∀ (value slice : Expr) (pins : List (Addr × Obj)) (s : Shared) (σ : St) (H : Hp) (x y : V) (v u : Value) (Q : VK), Inv X pins σ H s → RelV x v → RelV y u → r x y H Q →
    subscripted slice false v u = operate [v, u] (getItem v u) → wpAny (model X.prog X.w) X.A (subscriptTail value slice v u) (EP X pins σ Q) X.xe s
/-- a call of a builtin's method by values: the receiver, the arguments -/
def MtR (X : Cx) (id : String) (r : V → List V → Hp → VK → Prop) : Prop :=
  ∀ (pins : List (Addr × Obj)) (s : Shared) (σ : St) (H : Hp) (x : V) (xs : List V) (v : Value) (us : List Value) (Q : VK), Inv X pins σ H s → RelV x v → Vals xs us → r x xs H Q →
    wpAny (model X.prog X.w) X.A (call (.builtin id) (v :: us)) (EP X pins σ Q) X.xe s
section
variable {X : Cx} {a b : Expr} {ta tb : TE} {pos : Pos}
theorem IxR.or {r r' : R2} (h : IxR X r) (h' : IxR X r') : IxR X (fun x y H Q => r x y H Q ∨ r' x y H Q) := by
  intro value slice pins s σ H x y v u Q I rx ry q hs
  rcases q with q | q
  · exact h value slice pins s σ H x y v u Q I rx ry q hs
  · exact h' value slice pins s σ H x y v u Q I rx ry q hs
/-- a[b] -/
theorem pe_ix {r : R2} (hr : IxR X r) (ha : PE X a ta) (hb : PE X b tb) (hs : PlainIx b) : PE X (.Subscript a b pos) (tOp r ta tb) := by
  intro pins s σ H Q I h
  exact Subscript_ (binT ha hb I h fun v u s2 x y H2 I2 rx ry q => hr a b pins s2 σ H2 x y v u Q I2 rx ry q (hs _ _))

def rIxL (K : PySem.W.Frag) : R2 := fun x y H Q => ∃ p xs i v, x = .ref p ∧ y = .int i ∧ SqL K H p xs ∧ atI xs i = some v ∧ Q v H
def rIxT (K : PySem.W.Frag) : R2 := fun x y H Q => ∃ p xs i v, x = .ref p ∧ y = .int i ∧ SqT K H p xs ∧ atI xs i = some v ∧ Q v H
def rIxS : R2 := fun x y H Q => ∃ z i c, x = .str z ∧ y = .int i ∧ z.length ≤ sizeLine ∧ atI z.cps.toList i = some c ∧ Q (.str ⟨#[c]⟩) H
theorem ix_list : IxR X (rIxL X.K) := by
  intro value slice pins s σ H x y v u Q I rx ry h hs
  obtain ⟨p, xs, i, z, rfl, rfl, hq, he, q⟩ := h
  cases rx
  obtain ⟨t, rfl⟩ := ry
  obtain ⟨its, r, pl, hz⟩ := I.list hq
  obtain ⟨j, h1, h2, h3, h4, h5⟩ := atI_get he
  obtain ⟨w, ew, rw'⟩ := r.get h2
  have hl := r.length
  have hn := line63
  have fin : EP X pins σ Q w s := ⟨z, H, I, rw', q⟩
  by_cases h0 : 0 ≤ i
  · have hj : i.toNat = j := by
      rw [seqIndex_of h0 h5] at h1
      exact Option.some.inj h1
    exact item_listR pl.isList h0 (by omega) (by rw [hj]; simpa using ew) fin hs
  · have hj : (i + (its.toArray.size : Int)).toNat = j := by
      rw [seqIndex_neg (by omega) h4] at h1
      rw [List.size_toArray, ← hl]
      exact Option.some.inj h1
    exact subscriptTail_builtinR (x := w) pl.isList.typeIs slot_list_getitem.lookup
      (wpAny_getItem_list_neg (Q := fun r s' => r = w ∧ EP X pins σ Q r s') pl.isList (by omega) (by rw [List.size_toArray] <;> omega) (by omega) (by rw [hj]; simpa using ew) ⟨rfl, fin⟩) hs
theorem ix_tup : IxR X (rIxT X.K) := by
  intro value slice pins s σ H x y v u Q I rx ry h hs
  obtain ⟨p, xs, i, z, rfl, rfl, hq, he, q⟩ := h
  cases rx
  obtain ⟨t, rfl⟩ := ry
  obtain ⟨its, r, pl, hz⟩ := I.tuple hq
  obtain ⟨j, h1, h2, h3, h4, h5⟩ := atI_get he
  obtain ⟨w, ew, rw'⟩ := r.get h2
  have hl := r.length
  have hn := line63
  have fin : EP X pins σ Q w s := ⟨z, H, I, rw', q⟩
  exact subscriptTail_builtinR (x := w) pl.typeIs slot_tuple_getitem.lookup
    (getItem_tuple (j := j) (Q := fun r s' => r = w ∧ EP X pins σ Q r s') pl (by omega) (by omega) (by rw [List.size_toArray, ← hl]; exact h1) (by simpa using ew) ⟨rfl, fin⟩) hs
theorem ix_str : IxR X rIxS := by
  intro value slice pins s σ H x y v u Q I rx ry h hs
  obtain ⟨z, i, c, rfl, rfl, hz, he, q⟩ := h
  obtain ⟨t, rfl⟩ := rx
  obtain ⟨t', rfl⟩ := ry
  obtain ⟨j, h1, h2, h3, h4, h5⟩ := atI_get he
  have hl : z.cps.toList.length = z.length := by simp [Str.length]
  rw [hl] at h1 h4 h5
  have hn := line63
  exact tail_any (typeIs_str s z t) slot_str_getitem.lookup (getItem_str (c := c) (by
    have e1 : decide (i < -(2 ^ 63 : Int)) = false := decide_eq_false (by omega)
    have e2 : decide (i ≥ 2 ^ 63) = false := decide_eq_false (by omega)
    rw [e1, e2, Bool.or_false]) (by rw [h1]; simpa using h2) ⟨.str ⟨#[c]⟩, H, I.tok _, ⟨_, rfl⟩, q⟩) hs
/-- list, tuple or str -/
def rIx (K : PySem.W.Frag) : R2 := fun x y H Q => rIxL K x y H Q ∨ rIxT K x y H Q ∨ rIxS x y H Q
theorem ix_seq : IxR X (rIx X.K) := ix_list.or (ix_tup.or ix_str)

/-! ### xs[i] = v, any sign -/
/-- the list's object behind a store -/
theorem mapSeq_set (its : List Value) (n j : Nat) (u : Value) : Obj.mapSeq (·.setIfInBounds j u) { cls := .type "list", data := .seq its.toArray n } = { cls := .type "list", data := .seq (its.set j u).toArray n } := by
  simp [Obj.mapSeq]
theorem Inv.lst {pins : List (Addr × Obj)} {σ : St} {H : Hp} {s : Shared} {p : Addr} {xs : List V} (I : Inv X pins σ H s) (h : H p = some (.lst xs)) :
    ∃ (its : List Value) (n : Nat), Vals xs its ∧ s.heap.get? p = some { cls := .type "list", data := .seq its.toArray n } ∧ xs.length ≤ sizeLine := by
  obtain ⟨z, its, n, r, e⟩ := I.hok p _ h
  exact ⟨its, n, r, e, z⟩
/-- the list at p is written by an update of its object -/
theorem Inv.lstUpd {pins : List (Addr × Obj)} {σ : St} {H : Hp} {s : Shared} {p : Addr} {xs ys : List V} {its its' : List Value} {n n' : Nat} {f : Obj → Obj} (I : Inv X pins σ H s) (h : H p = some (.lst xs))
    (ho : s.heap.get? p = some { cls := .type "list", data := .seq its.toArray n }) (hf : f { cls := .type "list", data := .seq its.toArray n } = { cls := .type "list", data := .seq its'.toArray n' }) (r : Vals ys its') (hz : ys.length ≤ sizeLine) (t : Nat) :
    Inv X pins σ (upd H p (.lst ys)) { s with heap := s.heap.update p f, toks := t } := by
  have e : (s.heap.update p f).get? p = some { cls := .type "list", data := .seq its'.toArray n' } := by
    rw [Heap.get?_update_self f ho (by rw [hf] <;> rfl), hf]
  refine I.write (x := p) (e := p) (by rw [h]; trivial) (.inl rfl) (fun b u hb q => (Heap.get?_update_other _ _ (Ne.symm hb)).trans q) ⟨_, e⟩ ?_
  exact ⟨hz, its', n', r, e⟩
def rSetL : V → V → V → Hp → (Hp → Prop) → Prop := fun o i v H Q => ∃ p xs k j, o = .ref p ∧ i = .int k ∧ H p = some (.lst xs) ∧ ixN xs.length k = some j ∧ Q (upd H p (.lst (xs.set j v)))
theorem set_list : PSet X rSetL := by
  intro pins s σ H o i v ov iv u Q I ro ri rv h
  obtain ⟨p, xs, k, j, rfl, rfl, hp, hj, q⟩ := h
  cases ro
  obtain ⟨t, rfl⟩ := ri
  obtain ⟨its, n, r, ho, hz⟩ := I.lst hp
  obtain ⟨h1, h2, h3, h4⟩ := ixN_seq hj
  have hl := r.length
  have hn := line63
  have I' : Inv X pins σ (upd H p (.lst (xs.set j v))) { s with heap := s.heap.update p (Obj.mapSeq (·.setIfInBounds j u)) } :=
    I.lstUpd hp ho (mapSeq_set its n j u) (r.set rv j) (by rw [List.length_set]; exact hz) s.toks
  by_cases h0 : 0 ≤ k
  · have hk : k.toNat = j := by
      rw [seqIndex_of h0 h4] at h1
      exact Option.some.inj h1
    exact PySem.W.ki_setAt ho h0 (by omega) (by rw [List.size_toArray, ← hl]; exact h4) (by rw [hk]; exact ⟨_, I', q⟩)
  · have hk : (k + (its.toArray.size : Int)).toNat = j := by
      rw [seqIndex_neg (by omega) h3] at h1
      rw [List.size_toArray, ← hl]
      exact Option.some.inj h1
    exact PySem.W.ki_setBack ho (by omega) (by rw [List.size_toArray, ← hl]; exact h3) (by omega) (by rw [hk]; exact ⟨_, I', q⟩)

/-! ### slices -/
theorem slice_bounds (lo hi : Option Int) (n : Nat) : (sliceBounds lo hi none n).1 = ((HT.sIx n 0 lo : Nat) : Int) ∧ (sliceBounds lo hi none n).2.1 = ((HT.sIx n n hi : Nat) : Int) ∧ (sliceBounds lo hi none n).2.2 = 1 := by
  refine ⟨?_, ?_, rfl⟩
  · cases lo with
    | none => simp [sliceBounds, HT.sIx]
    | some i =>
      simp only [sliceBounds, HT.sIx, Option.getD_none, show (1 : Int) > 0 by decide, if_true]
      by_cases h : i < 0
      · simp only [h, if_true] <;> omega
      · simp only [h, if_false] <;> omega
  · cases hi with
    | none => simp [sliceBounds, HT.sIx]
    | some i =>
      simp only [sliceBounds, HT.sIx, Option.getD_none, show (1 : Int) > 0 by decide, if_true]
      by_cases h : i < 0
      · simp only [h, if_true] <;> omega
      · simp only [h, if_false] <;> omega
theorem slicePick_cut (its : List Value) (lo hi : Option Int) : slicePick its.toArray lo hi none = ((its.drop (HT.sIx its.length 0 lo)).take (HT.sIx its.length its.length hi - HT.sIx its.length 0 lo)).toArray := by
  obtain ⟨h1, h2, h3⟩ := slice_bounds lo hi its.toArray.size
  unfold slicePick
  rw [h1, h2, h3]
  simp only [sliceRange_one, pick_run, List.size_toArray] <;> rfl
/-- xs[lo:hi] of a list: a new list -/
def rSlL (K : PySem.W.Frag) : V → Option Int → Option Int → Hp → VK → Prop := fun x lo hi H Q => ∃ a xs, x = .ref a ∧ SqL K H a xs ∧ ∀ p, H p = none → Q (.ref p) (upd H p (.lst (cutV xs lo hi)))
theorem sl_list : SlR X (rSlL X.K) := by
  intro pins s σ H x v vl vu lo hi sl Q I rx hs pl pu h
  obtain ⟨a, xs, rfl, hx, q⟩ := h
  cases rx
  obtain ⟨its, r, ht, hz⟩ := I.list hx
  have hlen := r.length
  refine ⟨"list", _, slot_list_getitem.lookup, ht.isList.typeIs, ?_⟩
  refine wpAny_getItem_list_slice ht.isList hs pl pu .none (by simp) ?_ (by rw [List.size_toArray] <;> omega)
  rw [slicePick_cut, ← hlen]
  refine ⟨.ref s.heap.objs.size, _, I.laid (t' := s.toks) (o := .lst (cutV xs lo hi)) (fun b ob q => Heap.get?_push_of_some _ q) (Nat.le_refl _) ?_, rfl, q _ (I.hok.fresh (Nat.le_refl _))⟩
  exact ⟨Nat.le_trans (cutV_length xs lo hi) hz, _, 0, (r.drop (HT.sIx xs.length 0 lo)).take (HT.sIx xs.length xs.length hi - HT.sIx xs.length 0 lo), Heap.get?_push_size _ rfl⟩

/-! ### in, not in: flat items -/
def flatV : V → Bool
  | .non => true
  | .bl _ => true
  | .int _ => true
  | .str _ => true
  | _ => false
/-- == of flat values -/
def eqV : V → V → Bool
  | .non, .non => true
  | .bl a, .bl b => a == b
  | .bl a, .int b => (if a then 1 else 0) == b
  | .int a, .bl b => a == (if b then 1 else 0)
  | .int a, .int b => a == b
  | .str a, .str b => a == b
  | _, _ => false
theorem eqAt_V {A : Around} {s : Shared} {y x : V} {u v : Value} (ry : RelV y u) (rx : RelV x v) (fy : flatV y = true) (fx : flatV x = true) : SeqAt.EqAt A s u v (eqV y x) := by
  cases y with
  | non =>
    cases ry
    cases x with
    | non => cases rx; exact SeqAt.EqAt.same _
    | bl b => cases rx; exact SeqAt.EqAt.none_bool b
    | int b => obtain ⟨t, rfl⟩ := rx; exact SeqAt.EqAt.none_int b t
    | str b => obtain ⟨t, rfl⟩ := rx; exact SeqAt.EqAt.none_str b t
    | _ => exact absurd (show false = true from fx) Bool.false_ne_true
  | bl a =>
    cases ry
    cases x with
    | non => cases rx; exact SeqAt.EqAt.bool_none a
    | bl b => cases rx; exact SeqAt.EqAt.bool_bool a b
    | int b => obtain ⟨t, rfl⟩ := rx; exact SeqAt.EqAt.bool_int a b t
    | str b => obtain ⟨t, rfl⟩ := rx; exact SeqAt.EqAt.bool_str a b t
    | _ => exact absurd (show false = true from fx) Bool.false_ne_true
  | int a =>
    obtain ⟨t', rfl⟩ := ry
    cases x with
    | non => cases rx; exact SeqAt.EqAt.int_none a t'
    | bl b => cases rx; exact SeqAt.EqAt.int_bool a t' b
    | int b => obtain ⟨t, rfl⟩ := rx; exact SeqAt.EqAt.int_int a t' b t
    | str b => obtain ⟨t, rfl⟩ := rx; exact SeqAt.EqAt.int_str a t' b t
    | _ => exact absurd (show false = true from fx) Bool.false_ne_true
  | str a =>
    obtain ⟨t', rfl⟩ := ry
    cases x with
    | non => cases rx; exact SeqAt.EqAt.str_none a t'
    | bl b => cases rx; exact SeqAt.EqAt.str_bool a t' b
    | int b => obtain ⟨t, rfl⟩ := rx; exact SeqAt.EqAt.str_int a t' b t
    | str b => obtain ⟨t, rfl⟩ := rx; exact SeqAt.EqAt.str_str a t' b t
    | _ => exact absurd (show false = true from fx) Bool.false_ne_true
  | _ => exact absurd (show false = true from fy) Bool.false_ne_true
/-- the items' answers, read off the values (a value's own answer does not lean on its token) -/
def eqU (x : V) (u : Value) : Bool := match u with
  | .none => eqV .non x
  | .bool b => eqV (.bl b) x
  | .int i _ => eqV (.int i) x
  | .str z _ => eqV (.str z) x
  | _ => false
theorem eqU_of {x y : V} {u : Value} (r : RelV y u) (f : flatV y = true) : eqU x u = eqV y x := by
  cases y with
  | non => cases r; rfl
  | bl b => cases r; rfl
  | int i => obtain ⟨t, rfl⟩ := r; rfl
  | str z => obtain ⟨t, rfl⟩ := r; rfl
  | _ => exact absurd (show false = true from f) Bool.false_ne_true
theorem any_eqU {x : V} : ∀ {xs : List V} {us : List Value}, Vals xs us → xs.all flatV = true → us.any (eqU x) = xs.any fun y => eqV y x
  | _, _, .nil, _ => rfl
  | y :: xs, u :: us, .cons r t, f => by
    rw [List.all_cons, Bool.and_eq_true] at f
    rw [List.any_cons, List.any_cons, eqU_of r f.1, any_eqU t f.2]
theorem mem_eqAt {A : Around} {s : Shared} {x : V} {v : Value} (rx : RelV x v) (fx : flatV x = true) : ∀ {xs : List V} {us : List Value}, Vals xs us → xs.all flatV = true → ∀ u ∈ us, SeqAt.EqAt A s u v (eqU x u)
  | _, _, .nil, _ => fun u hu => by cases hu
  | y :: xs, u :: us, .cons r t, f => fun u' hu => by
    rw [List.all_cons, Bool.and_eq_true] at f
    rcases List.mem_cons.mp hu with rfl | hu
    · rw [eqU_of r f.1]; exact eqAt_V r rx f.1 fx
    · exact mem_eqAt rx fx t f.2 u' hu
def inV (x : V) (xs : List V) : Bool := xs.any fun y => eqV y x
/-- x in a list or tuple of flat items -/
def rIn (K : PySem.W.Frag) (neg : Bool) : R2 := fun x y H Q => ∃ p xs, y = .ref p ∧ (SqL K H p xs ∨ SqT K H p xs) ∧ flatV x = true ∧ xs.all flatV = true ∧ Q (.bl (if neg then !inV x xs else inV x xs)) H
theorem op_in_seq : OpR X (compareOp .In) (rIn X.K false) := by
  intro pins s σ H x y v u Q I rx ry h
  obtain ⟨p, xs, rfl, hq, fx, fs, q⟩ := h
  cases ry
  rcases hq with hq | hq
  · obtain ⟨its, r, pl, hz⟩ := I.list hq
    refine SeqAt.in_listAt (eqU x) pl.isList (fun w hw => mem_eqAt rx fx r fs w (by simpa using hw)) ⟨.bl _, H, I, rfl, ?_⟩
    rw [show its.toArray.any (eqU x) = its.any (eqU x) by simp, any_eqU r fs]
    exact q
  · obtain ⟨its, r, pl, hz⟩ := I.tuple hq
    refine SeqAt.in_tupleAt (eqU x) pl (fun w hw => mem_eqAt rx fx r fs w (by simpa using hw)) ⟨.bl _, H, I, rfl, ?_⟩
    rw [show its.toArray.any (eqU x) = its.any (eqU x) by simp, any_eqU r fs]
    exact q
/-! ### len, list(x), tuple(x) of any list or tuple that is read -/
theorem call_len_seq : CallR X (.builtin "len") (fun xs H Q => ∃ p ys, xs = [.ref p] ∧ (SqL X.K H p ys ∨ SqT X.K H p ys) ∧ Q (.int ys.length) H) := by
  intro pins s σ H xs us Q I r h
  obtain ⟨p, ys, rfl, hq, q⟩ := h
  obtain ⟨u, rfl, rx⟩ := vals1 r
  cases rx
  have hn := line63
  rcases hq with hq | hq
  · obtain ⟨its, r', pl, hz⟩ := I.list hq
    have hlen := r'.length
    exact Calls.call_len_list pl.isList (by simp only [List.size_toArray] <;> omega) ⟨.int ys.length, H, I.tok _, ⟨s.toks + 1, by rw [List.size_toArray, hlen]⟩, q⟩
  · obtain ⟨its, r', pl, hz⟩ := I.tuple hq
    have hlen := r'.length
    exact len_tuple pl (by simp only [List.size_toArray] <;> omega) ⟨.int ys.length, H, I.tok _, ⟨s.toks + 1, by rw [List.size_toArray, hlen]⟩, q⟩
theorem call_list_of : CallR X (.type "list") (fun xs H Q => ∃ p ys, xs = [.ref p] ∧ (SqL X.K H p ys ∨ SqT X.K H p ys) ∧ ∀ l, H l = none → Q (.ref l) (upd H l (.lst ys))) := by
  intro pins s σ H xs us Q I r h
  obtain ⟨p, ys, rfl, hq, q⟩ := h
  obtain ⟨u, rfl, rx⟩ := vals1 r
  cases rx
  have fin : ∀ (its : List Value), Vals ys its → ys.length ≤ sizeLine → ∀ (h' : Heap) (c' : Nat), (∀ b o', s.heap.get? b = some o' → h'.get? b = some o') →
      h'.get? s.heap.objs.size = some { cls := .type "list", dict := none, data := .seq its.toArray c', slots := #[] } → EP X pins σ Q (.ref s.heap.objs.size) { s with heap := h' } := fun its r' hz h' c' kp e =>
    ⟨.ref s.heap.objs.size, _, I.laid (t' := s.toks) kp (Nat.le_refl _) (show ObjOk X.prog X.w _ h' _ (.lst ys) from ⟨hz, its, c', r', e⟩), rfl, q _ (I.hok.fresh (Nat.le_refl _))⟩
  rcases hq with hq | hq
  · obtain ⟨its, r', pl, hz⟩ := I.list hq
    have hlen := r'.length
    obtain ⟨o, ho, hc, n, hd⟩ := pl.isList
    exact call_list_seq p (.inl rfl) ho hc hd (fun h' c' kp e => fin its r' hz h' c' kp e) (by simp only [List.size_toArray] <;> omega)
  · obtain ⟨its, r', pl, hz⟩ := I.tuple hq
    have hlen := r'.length
    obtain ⟨o, ho, hc, n, hd⟩ := pl
    exact call_list_seq p (.inr rfl) ho hc hd (fun h' c' kp e => fin its r' hz h' c' kp e) (by simp only [List.size_toArray] <;> omega)
theorem call_tuple_of : CallR X (.type "tuple") (fun xs H Q => ∃ p ys, xs = [.ref p] ∧ ((SqL X.K H p ys ∧ ∀ l, H l = none → Q (.ref l) (upd H l (.tup ys))) ∨ (SqT X.K H p ys ∧ Q (.ref p) H))) := by
  intro pins s σ H xs us Q I r h
  obtain ⟨p, ys, rfl, h⟩ := h
  obtain ⟨u, rfl, rx⟩ := vals1 r
  cases rx
  rcases h with ⟨hq, q⟩ | ⟨hq, q⟩
  · obtain ⟨its, r', pl, hz⟩ := I.list hq
    have hlen := r'.length
    refine call_tuple_list pl.isList (fun h' kp => ?_) (by simp only [List.size_toArray] <;> omega)
    have I1 : Inv X pins σ H { s with heap := h' } := I.kept (t' := s.toks) kp
    have I2 : Inv X pins σ (upd H h'.objs.size (.tup ys)) { s with heap := h'.push { cls := .type "tuple", data := .seq its.toArray } } :=
      I1.laid (t' := s.toks) (fun b o e => Heap.get?_push_of_some _ e) (Nat.le_refl _) (show ObjOk X.prog X.w _ _ _ (.tup ys) from ⟨hz, its, r', IsTup.new _ _⟩)
    exact ⟨.ref h'.objs.size, _, I2, rfl, q _ (I1.hok.fresh (Nat.le_refl _))⟩
  · obtain ⟨its, r', pl, hz⟩ := I.tuple hq
    exact call_tuple_same pl ⟨.ref p, H, I, rfl, q⟩

/-! ### the call of a builtin's method: o.m(..) -/
/-- the value is of that builtin type -/
def tyV (K : PySem.W.Frag) (T : String) (x : V) (H : Hp) : Prop := match x with
  | .str _ => T = "str"
  | .int _ => T = "int"
  | .ref p => (T = "list" ∧ ∃ xs, SqL K H p xs) ∨ (T = "tuple" ∧ ∃ o, K.lookup p = some o ∧ o.cls = .type "tuple" ∧ o.dict = none) ∨
      (T = "dict" ∧ ((∃ kvs, H p = some (.dK kvs)) ∨ ∃ kvs, H p = some (.dT kvs))) ∨ (T = "set" ∧ ∃ S n, H p = some (.set S n))
  | _ => False
theorem tyV_is {pins : List (Addr × Obj)} {σ : St} {H : Hp} {s : Shared} {T : String} {x : V} {v : Value} (I : Inv X pins σ H s) (r : RelV x v) (ty : tyV X.K T x H) :
    s.TypeIs v T ∧ ∀ a, v = .ref a → ∃ ob, s.heap.get? a = some ob ∧ ob.dict = none := by
  cases x with
  | str z =>
    obtain ⟨t, rfl⟩ := r
    cases (show T = "str" from ty)
    exact ⟨typeIs_str s z t, fun _ e => nomatch e⟩
  | int i =>
    obtain ⟨t, rfl⟩ := r
    cases (show T = "int" from ty)
    exact ⟨typeIs_int s i t, fun _ e => nomatch e⟩
  | ref p =>
    cases r
    rcases ty with ⟨rfl, xs, hq⟩ | ⟨rfl, o, hk, hc, hd⟩ | ⟨rfl, hk⟩ | ⟨rfl, S, n, hk⟩
    · obtain ⟨its, _, pl, _⟩ := I.list hq
      refine ⟨pl.isList.typeIs, fun a e => ?_⟩
      cases e
      obtain ⟨o, n, e, c, hd, _⟩ := pl
      exact ⟨o, e, hd⟩
    · refine ⟨⟨o, I.kIn p o hk, hc⟩, fun a e => ?_⟩
      cases e
      exact ⟨o, I.kIn _ o hk, hd⟩
    · have z : ∃ o, s.heap.get? p = some o ∧ o.ExactDict := by
        rcases hk with ⟨kvs, hk⟩ | ⟨kvs, hk⟩
        · obtain ⟨_, _, _, _, o, _, _, e, ex, _⟩ := I.hok p _ hk
          exact ⟨o, e, ex⟩
        · obtain ⟨_, _, _, _, o, _, _, e, ex, _⟩ := I.hok p _ hk
          exact ⟨o, e, ex⟩
      obtain ⟨o, e, ex⟩ := z
      refine ⟨⟨o, e, ex.1⟩, fun a e2 => ?_⟩
      cases e2
      exact ⟨o, e, ex.2.1⟩
    · obtain ⟨o, _, _, _, e, ex, _⟩ := I.hok p _ hk
      refine ⟨⟨o, e, ex.1⟩, fun a e2 => ?_⟩
      cases e2
      exact ⟨o, e, ex.2.1⟩
  | _ => exact False.elim ty
def tBM (K : PySem.W.Frag) (T : String) (r : V → List V → Hp → VK → Prop) (to : TE) (t : TA) : TE := fun σ H Q => to σ H fun x H1 => tyV K T x H1 ∧ t σ H1 fun xs H2 => r x xs H2 Q
variable {o e : Expr} {es : List Expr} {to : TE} {t : TA} {name : Str} {apos cpos : Pos} {T id : String} {r : V → List V → Hp → VK → Prop}
theorem pe_bm (pa : PlainAttrs T) (slot : Slot T name id) (hty : typeOf (.builtin id) = pure (.type "method_descriptor")) (hm : MtR X id r) (ho : PE X o to) (ha : PA X (e :: es) t)
    (hbase : attributeBase o name X.env (eval o X.env) = eval o X.env := by rfl)
    (hfew : ((backTo cpos (starEach (e :: es) X.env)).all (fun x => !x.1) && (backToKw cpos (keywordEach [] X.env)).all (fun x => x.1.isSome)
      && decide ((e :: es).length + ([] : List Keyword).length + (if ([] : List Keyword).isEmpty then 0 else 1) < 30)) = true := by rfl)
    (hline : (apos.endLine == cpos.line) = true := by rfl) (hs : starEach (e :: es) X.env = (false, eval e X.env) :: starEach es X.env := by rfl) (hplain : (backTo cpos (starEach es X.env)).any (·.1) = false := by rfl) :
    PE X (.Call (.Attribute o name apos) (e :: es) [] cpos) (tBM X.K T r to t) := by
  intro pins s σ H Q I h
  refine wpAny_Call_method_late hbase hfew hline rfl (thn (ho pins s σ H _ I h) fun v s1 ⟨x, H1, I1, r1, ty, q1⟩ => ?_)
  obtain ⟨h1, h2⟩ := tyV_is I1 r1 ty
  refine ⟨T, id, pa, slot, hty, h1, h2, ?_⟩
  have hA := ha cpos pins s1 σ H1 _ I1 q1
  rw [hs] at hA ⊢
  refine Calls.callWith_builtin (by show (false || (backTo cpos (starEach es X.env)).any (·.1)) = false; rw [hplain] <;> rfl) (Calls.evalArgs_plain ?_)
  exact thn hA fun us s2 ⟨vs, H2, I2, r2, q2⟩ => hm pins s2 σ H2 x vs v us Q I2 r1 r2 q2
/- xs.append(e), list.index on a module's tuple .. are MtR facts of 06m -/
end
end L2

namespace L2
open PySem PySem.Spec PyProof.Rows

def MtM (X : Cx) (id : String) (r : V → List V → Hp → VK → Prop) : Prop :=
  ∀ (pins : List (Addr × Obj)) (s : Shared) (σ : St) (H : Hp) (x : V) (xs : List V) (v : Value) (us : List Value) (Q : VK), Inv X pins σ H s → RelV x v → Vals xs us → r x xs H Q →
    wpAny (model X.prog X.w) X.A (call (.builtin id) (v :: us)) (EP X pins σ Q) X.xe s

/-! ### lists of values -/
theorem Vals.one : ∀ {x : V} {us : List Value}, Vals [x] us → ∃ u, us = [u] ∧ RelV x u
  | _, _, .cons r .nil => ⟨_, rfl, r⟩
theorem Vals.two : ∀ {x y : V} {us : List Value}, Vals [x, y] us → ∃ u v, us = [u, v] ∧ RelV x u ∧ RelV y v
  | _, _, _, .cons r (.cons q .nil) => ⟨_, _, rfl, r, q⟩
theorem Vals.zero : ∀ {us : List Value}, Vals [] us → us = []
  | _, .nil => rfl
theorem Vals.rep {xs : List V} {us : List Value} (h : Vals xs us) : ∀ k : Nat, Vals (List.replicate k xs).flatten (List.replicate k us).flatten
  | 0 => .nil
  | k + 1 => by
    rw [List.replicate_succ, List.replicate_succ, List.flatten_cons, List.flatten_cons]
    exact Vals.append h (Vals.rep h k)
theorem foldl_rep (its : List Value) : ∀ (k : Nat) (acc : List Value),
    List.foldl (fun x1 x2 => x1 ++ x2) acc.toArray (List.replicate k its.toArray) = (acc ++ (List.replicate k its).flatten).toArray
  | 0, acc => by simp
  | k + 1, acc => by
    have e : acc.toArray ++ its.toArray = (acc ++ its).toArray := by simp
    have e2 : (acc ++ its) ++ (List.replicate k its).flatten = acc ++ (List.replicate (k + 1) its).flatten := by
      rw [List.replicate_succ, List.flatten_cons, List.append_assoc]
    rw [← e2, ← foldl_rep its k (acc ++ its), ← e, List.replicate_succ, List.foldl_cons]

section
variable {X : Cx} {pins : List (Addr × Obj)} {σ : St} {H : Hp} {s : Shared} {l b : Addr} {xs ys zs : List V}

/-! ### the two steps: a tracked list is rewritten, a new list is laid -/
theorem Inv.lset {its its' : List Value} {n : Nat} {f : Array Value → Array Value} {t' : Nat} (I : Inv X pins σ H s) (hH : H l = some (.lst xs))
    (e : s.heap.get? l = some { cls := .type "list", data := .seq its.toArray n }) (hf : f its.toArray = its'.toArray) (hv : Vals ys its') (hz : ys.length ≤ sizeLine) :
    Inv X pins σ (upd H l (.lst ys)) { s with heap := s.heap.update l (Obj.mapSeq f), toks := t' } := by
  have q := PySem.IsL.update e f
  rw [hf] at q
  refine I.write (x := l) (e := l) (by rw [hH]; exact trivial) (.inl rfl) (fun b' u hb hu => (Heap.get?_update_other s.heap (Obj.mapSeq f) (Ne.symm hb)).trans hu) ⟨_, q⟩ ?_
  exact ⟨hz, its', _, hv, q⟩
theorem Inv.lnew {its : List Value} {t' : Nat} (I : Inv X pins σ H s) (hv : Vals ys its) (hz : ys.length ≤ sizeLine) :
    Inv X pins σ (upd H s.heap.objs.size (.lst ys)) { s with heap := s.heap.push { cls := .type "list", data := .seq its.toArray }, toks := t' } :=
  I.laid (fun _ _ q => Heap.get?_push_of_some _ q) (Nat.le_refl _) ⟨hz, its, 0, hv, Heap.get?_push_size _ rfl⟩
theorem Inv.fresh (I : Inv X pins σ H s) : H s.heap.objs.size = none := I.hok.fresh (Nat.le_refl _)
theorem Inv.lstM (I : Inv X pins σ H s) (hH : H l = some (.lst xs)) : xs.length ≤ sizeLine ∧ ∃ (its : List Value) (n : Nat), Vals xs its ∧ xs.length = its.length ∧ s.heap.get? l = some { cls := .type "list", data := .seq its.toArray n } := by
  obtain ⟨z, its, n, r, e⟩ := I.hok l _ hH
  exact ⟨z, its, n, r, r.length, e⟩

theorem notLongL {n : Nat} (h : n ≤ sizeLine) : Builtin.List.listTooLong n = false := by
  unfold Builtin.List.listTooLong
  exact decide_eq_false (by omega)
end

section
variable {X : Cx}

/-! ### methods -/
def rAppend : V → List V → Hp → VK → Prop := fun x vs H Q => ∃ l xs y, x = .ref l ∧ vs = [y] ∧ H l = some (.lst xs) ∧ xs.length < sizeLine ∧ Q .non (upd H l (.lst (xs ++ [y])))
theorem mt_append : MtM X "list.append" rAppend := by
  intro pins s σ H x vs v us Q I rx rv h
  obtain ⟨l, xs, y, rfl, rfl, hH, hz, q⟩ := h
  cases rx
  obtain ⟨u, rfl, ru⟩ := rv.one
  obtain ⟨z, its, n, r, hl, e⟩ := I.lstM hH
  refine call_meets F.slot_list_append ⟨_, e, rfl⟩ F.entry_list_append (F.args_list_append_2 _ _) (PySem.list_append l its.toArray n u (by rw [List.size_toArray]; omega)) ⟨e, ?_⟩
  refine ⟨.non, _, I.lset (its' := its ++ [u]) hH e (by simp) (r.append (.cons ru .nil)) ?_, rfl, q⟩
  rw [List.length_append, List.length_singleton]
  omega

def rExtend : V → List V → Hp → VK → Prop := fun x vs H Q => ∃ l b xs zs, x = .ref l ∧ vs = [.ref b] ∧ H l = some (.lst xs) ∧ H b = some (.lst zs) ∧ xs.length + zs.length ≤ sizeLine ∧ Q .non (upd H l (.lst (xs ++ zs)))
theorem mt_extend : MtM X "list.extend" rExtend := by
  intro pins s σ H x vs v us Q I rx rv h
  obtain ⟨l, b, xs, zs, rfl, rfl, hH, hB, hz, q⟩ := h
  cases rx
  obtain ⟨u, rfl, ru⟩ := rv.one
  cases ru
  obtain ⟨z, its, n, r, hl, e⟩ := I.lstM hH
  obtain ⟨z2, its2, n2, r2, hl2, e2⟩ := I.lstM hB
  have hsz : its.toArray.size + its2.toArray.size ≤ sizeLine := by rw [List.size_toArray, List.size_toArray]; omega
  have hlong : ¬ (!its.toArray.isEmpty && Builtin.List.listTooLong (its.toArray.size + its2.toArray.size)) = true := by
    rw [notLongL hsz, Bool.and_false]
    exact Bool.false_ne_true
  refine call_meets F.slot_list_extend ⟨_, e, rfl⟩ F.entry_list_extend (F.args_list_extend_2 _ _)
    (AutoSeq1.list_extend_list_list_0 l its.toArray n b its2.toArray n2 hlong (by rw [List.size_toArray]; omega) (by omega)) ⟨e, e2, ?_⟩
  refine ⟨.non, _, I.lset (its' := its ++ its2) hH e (by simp) (r.append r2) ?_, rfl, q⟩
  rw [List.length_append]
  omega

/-! ### list + list, list += list, list * int -/
/-- a list times an int (a negative one is nothing) -/
def rRep : R2 := fun x y H Q => ∃ l k xs, x = .ref l ∧ y = .int k ∧ H l = some (.lst xs) ∧ -(2 ^ 63) ≤ k ∧ k < 2 ^ 63 ∧ xs.length * k.toNat ≤ sizeLine ∧
  ∀ p, H p = none → Q (.ref p) (upd H p (.lst (List.replicate k.toNat xs).flatten))
theorem len_rep {α : Type} (xs : List α) (k : Nat) : (List.replicate k xs).flatten.length = k * xs.length := by
  induction k with
  | zero => simp
  | succ k ih => rw [List.replicate_succ, List.flatten_cons, List.length_append, ih, Nat.succ_mul, Nat.add_comm]
theorem op_rep : OpR X (binaryOp .Mult) rRep := by
  intro pins s σ H x y v u Q I rx ry h
  obtain ⟨l, k, xs, rfl, rfl, hH, h1, h2, hz, q⟩ := h
  cases rx
  obtain ⟨t, rfl⟩ := ry
  obtain ⟨z, its, n, r, hl, e⟩ := I.lstM hH
  have hlen : its.toArray.size * k.toNat ≤ sizeLine := by rw [List.size_toArray, ← hl]; exact hz
  have hcap : ¬ its.toArray.size * k.toNat > (2 ^ 63 - 1) / 8 := by
    have : (sizeLine : Nat) ≤ (2 ^ 63 - 1) / 8 := by decide
    omega
  have hfit : ¬ (!Builtin.List.listFitsIndex k) = true := by
    rw [fitsIndex_both h1 h2]
    exact Bool.false_ne_true
  have hlong : ¬ Builtin.List.listTooLong (its.toArray.size * k.toNat) = true := by
    rw [notLongL hlen]
    exact Bool.false_ne_true
  have hnew : List.foldl (fun x1 x2 => x1 ++ x2) #[] (List.replicate (if its.toArray.isEmpty = true then 0 else k.toNat) its.toArray) = (List.replicate k.toNat its).flatten.toArray := by
    have f0 : ∀ m : Nat, List.foldl (fun x1 x2 => x1 ++ x2) #[] (List.replicate m its.toArray) = (List.replicate m its).flatten.toArray := fun m => by
      have := foldl_rep its m []
      rw [List.nil_append] at this
      exact this
    rw [f0]
    cases its with
    | nil => simp
    | cons a r' => rw [if_neg (by simp)]
  refine wpAny_binaryOp_repeat_ref (T := "list") (U := "int") (by decide) ⟨_, e, rfl⟩ (fun s' => typeIs_int s' k t) noFill_list_mul F.fills_int_mul F.slot_int_rmul repeat_list F.slot_int_index.lookup
    (call_meets F.slot_int_rmul (typeIs_int s k t) F.entry_int_rmul (F.args_int_rmul_2 _ _) (int___rmul___int_list k t l its.toArray n)
      ⟨e, rfl, ⟨_, e, rfl⟩, call_meets F.slot_list_mul ⟨_, e, rfl⟩ F.entry_list_mul (F.args_list_mul_2 _ _) (AutoListH.list___mul___list_int_3 l its.toArray n k t hfit hcap hlong) ⟨e, ?_⟩⟩)
  rw [hnew]
  exact ⟨.ref _, _, I.lnew (t' := s.toks) (r.rep k.toNat) (by rw [len_rep, Nat.mul_comm]; exact hz), rfl, q _ I.fresh⟩

/-! ### del xs[i] -/
end

/-! ### xs[a:b] = ys -/
section
variable {prog : Program} {w : World} {A : Around} {E : Value → Shared → Prop} {s : Shared}
end

section
variable {X : Cx}
end
end L2
namespace L2
open PySem PySem.Spec PyProof.Rows

/-! ### lists of pairs as tables -/
section
variable {κ : Type} [DecidableEq κ]
def valV (kvs : List (κ × V)) (k : κ) : Option V := (kvs.find? fun kv => decide (kv.1 = k)).map (·.2)
/-- in its place, or at the end -/
def putK (kvs : List (κ × V)) (k : κ) (v : V) : List (κ × V) :=
  if (kvs.any fun kv => decide (kv.1 = k)) = true then kvs.map (fun kv => if kv.1 = k then (kv.1, v) else kv) else kvs ++ [(k, v)]
theorem valV_pos {p : κ × V} {r : List (κ × V)} {k : κ} (e : p.1 = k) : valV (p :: r) k = some p.2 := by simp [valV, List.find?_cons, e]
theorem valV_neg {p : κ × V} {r : List (κ × V)} {k : κ} (e : ¬ p.1 = k) : valV (p :: r) k = valV r k := by simp [valV, List.find?_cons, e]
theorem valV_any (k : κ) : ∀ kvs : List (κ × V), (kvs.any fun kv => decide (kv.1 = k)) = (valV kvs k).isSome
  | [] => rfl
  | p :: r => by
    rw [List.any_cons]
    by_cases e : p.1 = k
    · simp only [valV_pos e, decide_eq_true e, Bool.true_or, Option.isSome_some]
    · rw [valV_neg e, decide_eq_false e, Bool.false_or]; exact valV_any k r
theorem valV_map (k j : κ) (y : V) : ∀ kvs : List (κ × V), valV (kvs.map fun kv => if kv.1 = k then (kv.1, y) else kv) j = (valV kvs j).map fun x => if j = k then y else x
  | [] => rfl
  | p :: r => by
    have ih := valV_map k j y r
    rw [List.map_cons]
    by_cases h : p.1 = k
    · rw [if_pos h]
      by_cases e : p.1 = j
      · rw [valV_pos (p := (p.1, y)) e, valV_pos e, Option.map_some, if_pos (e.symm.trans h)]
      · rw [valV_neg (p := (p.1, y)) e, valV_neg e, ih]
    · rw [if_neg h]
      by_cases e : p.1 = j
      · rw [valV_pos (p := p) e, valV_pos e, Option.map_some, if_neg (fun z => h (e.trans z))]
      · rw [valV_neg (p := p) e, valV_neg e, ih]
theorem valV_snoc (k j : κ) (y : V) : ∀ kvs : List (κ × V), valV kvs k = none → valV (kvs ++ [(k, y)]) j = if j = k then some y else valV kvs j
  | [], _ => by
    by_cases e : k = j
    · rw [if_pos e.symm]; exact valV_pos (p := (k, y)) e
    · rw [if_neg (fun z => e z.symm)]; exact valV_neg (p := (k, y)) e
  | p :: r, hn => by
    rw [List.cons_append]
    have hk : ¬ p.1 = k := fun z => by rw [valV_pos z] at hn; cases hn
    rw [valV_neg hk] at hn
    have ih := valV_snoc k j y r hn
    by_cases e : p.1 = j
    · rw [valV_pos e, valV_pos e, if_neg (fun z => hk (e.trans z))]
    · rw [valV_neg e, valV_neg e, ih]
theorem valV_put (kvs : List (κ × V)) (k j : κ) (y : V) : valV (putK kvs k y) j = if j = k then some y else valV kvs j := by
  unfold putK
  by_cases a : (kvs.any fun kv => decide (kv.1 = k)) = true
  · rw [if_pos a, valV_map]
    rw [valV_any] at a
    by_cases e : j = k
    · obtain ⟨x, hx⟩ := Option.isSome_iff_exists.mp a
      rw [if_pos e, e, hx, Option.map_some, if_pos rfl]
    · rw [if_neg e]
      cases valV kvs j with
      | none => rfl
      | some x => rw [Option.map_some, if_neg e]
  · rw [if_neg a]
    refine valV_snoc k j y kvs ?_
    rw [valV_any] at a
    cases q : valV kvs k with
    | none => rfl
    | some x => rw [q] at a; exact (a rfl).elim
theorem length_putK (kvs : List (κ × V)) (k : κ) (v : V) : (putK kvs k v).length ≤ kvs.length + 1 := by
  unfold putK
  split
  · rw [List.length_map]; omega
  · rw [List.length_append, List.length_cons, List.length_nil]; omega
theorem RelO.isSome_eq {o : Option V} {u : Option Value} (r : RelO o u) : o.isSome = u.isSome := by
  cases o with
  | none => cases u with
    | none => rfl
    | some _ => exact (show False from r).elim
  | some _ => cases u with
    | none => exact (show False from r).elim
    | some _ => rfl
theorem RelO.getD {o : Option V} {u : Option Value} {d : V} {d' : Value} (r : RelO o u) (rd : RelV d d') : RelV (o.getD d) (u.getD d') := by
  cases o with
  | none => cases u with
    | none => exact rd
    | some _ => exact (show False from r).elim
  | some _ => cases u with
    | none => exact (show False from r).elim
    | some _ => exact r

/-- raw tables of the same keys -/
theorem KV.val {kvs : List (κ × V)} {vs : List (κ × Value)} (r : KV kvs vs) (k : κ) : RelO (valV kvs k) (valueAt vs k) := by
  unfold KV at r
  induction r with
  | nil => exact True.intro
  | @cons p q ps qs h t ih =>
    obtain ⟨h1, h2⟩ := h
    by_cases e : p.1 = k
    · have e' : q.1 = k := h1.symm.trans e
      have b : valueAt (q :: qs) k = some q.2 := by simp [valueAt, List.find?_cons, e']
      rw [valV_pos e, b]; exact h2
    · have e' : ¬ q.1 = k := fun z => e (h1.trans z)
      have b : valueAt (q :: qs) k = valueAt qs k := by simp [valueAt, List.find?_cons, e']
      rw [valV_neg e, b]; exact ih
theorem KV.any {kvs : List (κ × V)} {vs : List (κ × Value)} (r : KV kvs vs) (k : κ) : (kvs.any fun kv => decide (kv.1 = k)) = vs.any fun kv => decide (kv.1 = k) := by
  unfold KV at r
  induction r with
  | nil => rfl
  | cons h t ih => rw [List.any_cons, List.any_cons, ih, h.1]
theorem KV.repl {kvs : List (κ × V)} {vs : List (κ × Value)} (r : KV kvs vs) (k : κ) {y : V} {u : Value} (ry : RelV y u) :
    KV (kvs.map fun kv => if kv.1 = k then (kv.1, y) else kv) (vs.map fun kv => if kv.1 = k then (kv.1, u) else kv) := by
  unfold KV at r ⊢
  induction r with
  | nil => exact .nil
  | @cons p q ps qs h t ih =>
    rw [List.map_cons, List.map_cons]
    refine .cons ?_ ih
    obtain ⟨h1, h2⟩ := h
    by_cases e : p.1 = k
    · rw [if_pos e, if_pos (h1.symm.trans e)]; exact ⟨h1, ry⟩
    · rw [if_neg e, if_neg (fun z => e (h1.trans z))]; exact ⟨h1, h2⟩
theorem KV.put {kvs : List (κ × V)} {vs : List (κ × Value)} (r : KV kvs vs) (k : κ) {y : V} {u : Value} (ry : RelV y u) : KV (putK kvs k y) (stored vs k u) := by
  unfold putK stored
  rw [r.any k]
  by_cases e : (vs.any fun kv => decide (kv.1 = k)) = true
  · rw [if_pos e, if_pos e]; exact r.repl k ry
  · rw [if_neg e, if_neg e]; exact Paired.snoc r ⟨rfl, ry⟩
theorem KV.length {kvs : List (κ × V)} {vs : List (κ × Value)} (r : KV kvs vs) : kvs.length = vs.length := Paired.length r
end


/-! ### a tracked dict, its keys ints and texts or tuples of these -/
theorem kV_is {P : Program} {w : World} {k : Key} {u : Value} (r : RelV (kV k) u) : (mixKind P w).is k u = true := by
  cases k with
  | inl i => obtain ⟨t, e⟩ := (show ∃ t, u = Value.int i t from r); subst e; exact mixKind_int P w i t
  | inr x => obtain ⟨t, e⟩ := (show ∃ t, u = Value.str x t from r); subst e; exact mixKind_str P w x t
theorem items_are {P : Program} {w : World} : ∀ {ks : List Key} {us : List Value}, Vals (ks.map kV) us → ItemsAre (mixKind P w) ks us
  | [], _, r => by rw [List.map_nil] at r; cases r; exact .nil
  | k :: ks, _, r => by
    rw [List.map_cons] at r
    cases r with
    | cons h t => exact .cons (kV_is h) (items_are t)

/-- raw entries of a dict with tuple keys -/
abbrev KT (H : Hp) : List (List Key × V) → List (List Key × Addr × Value) → Prop := Paired fun p q => p.1 = q.1 ∧ H q.2.1 = some (.tup (p.1.map kV)) ∧ RelV p.2 q.2.2
theorem KT.val {H : Hp} {kvs : List (List Key × V)} {xs : List (List Key × Addr × Value)} (r : KT H kvs xs) (k : List Key) : RelO (valV kvs k) ((atKey xs k).map (·.2)) := by
  induction r with
  | nil => exact True.intro
  | @cons p q ps qs h t ih =>
    obtain ⟨h1, _, h2⟩ := h
    by_cases e : p.1 = k
    · have e' : q.1 = k := h1.symm.trans e
      have b : atKey (q :: qs) k = some q.2 := by simp [atKey, List.find?_cons, e']
      rw [valV_pos e, b]; exact h2
    · have e' : ¬ q.1 = k := fun z => e (h1.trans z)
      have b : atKey (q :: qs) k = atKey qs k := by simp [atKey, List.find?_cons, e']
      rw [valV_neg e, b]; exact ih
theorem KT.repl {H : Hp} {kvs : List (List Key × V)} {xs : List (List Key × Addr × Value)} (r : KT H kvs xs) (k : List Key) {y : V} {u : Value} (ry : RelV y u) :
    KT H (kvs.map fun kv => if kv.1 = k then (kv.1, y) else kv) (xs.map (putAt k u)) := by
  induction r with
  | nil => exact .nil
  | @cons p q ps qs h t ih =>
    rw [List.map_cons, List.map_cons]
    refine .cons ?_ ih
    obtain ⟨h1, h2, h3⟩ := h
    unfold putAt
    by_cases e : p.1 = k
    · rw [if_pos e, if_pos (h1.symm.trans e)]; exact ⟨h1, h2, ry⟩
    · rw [if_neg e, if_neg (fun z => e (h1.trans z))]; exact ⟨h1, h2, h3⟩
theorem KT.put {H : Hp} {kvs : List (List Key × V)} {xs : List (List Key × Addr × Value)} (r : KT H kvs xs) (k : List Key) {b : Addr} {y : V} {u : Value} (hb : H b = some (.tup (k.map kV))) (ry : RelV y u) :
    KT H (putK kvs k y) (storedH xs k b u) := by
  have e : (kvs.any fun kv => decide (kv.1 = k)) = (atKey xs k).isSome := by
    rw [valV_any, (r.val k).isSome_eq, Option.isSome_map]
  unfold putK storedH
  rw [e]
  by_cases q : (atKey xs k).isSome = true
  · rw [if_pos q, if_pos q]; exact r.repl k ry
  · rw [if_neg q, if_neg q]; exact Paired.snoc r ⟨rfl, hb, ry⟩
theorem KT.keeps {H H' : Hp} {kvs : List (List Key × V)} {xs : List (List Key × Addr × Value)} (r : KT H kvs xs) (ht : ∀ b ys, H b = some (.tup ys) → H' b = some (.tup ys)) : KT H' kvs xs :=
  Paired.mapP r fun _ _ z => ⟨z.1, ht _ _ z.2.1, z.2.2⟩

section
variable {P : Program} {w : World} {H : Hp} {h : Heap} {a : Addr}
theorem rd_of {u : HO} (ok : HOk P w H h) (e : Rd H a u) : ObjOk P w H h a u := e.ok ok
theorem dk_rd {kvs : List (Key × V)} (ok : HOk P w H h) (e : Rd H a (.dK kvs)) : kvs.length ≤ sizeLine ∧ (a == sysModules) = false ∧ ∃ vs, KV kvs vs ∧ h.DictOf (mixKind P w) a vs :=
  show ObjOk P w H h a (.dK kvs) from rd_of ok e
theorem dk_of {kvs : List (Key × V)} (ok : HOk P w H h) (e : H a = some (.dK kvs)) : kvs.length ≤ sizeLine ∧ (a == sysModules) = false ∧ ∃ vs, KV kvs vs ∧ h.DictOf (mixKind P w) a vs := dk_rd ok (.inl e)
/-- a tracked tuple of ints and texts is a key -/
theorem key_of {ks : List Key} (ok : HOk P w H h) (e : H a = some (.tup (ks.map kV))) : (tupleKind (mixKind P w)).is h ks a := by
  obtain ⟨_, its, r, o, h1, h2, n, h3⟩ := (show ObjOk P w H h a (.tup (ks.map kV)) from ok a _ e)
  exact ⟨o, its.toArray, n, h1, h2, h3, by simpa using items_are r⟩
theorem dt_rd {kvs : List (List Key × V)} (ok : HOk P w H h) (e : Rd H a (.dT kvs)) : kvs.length ≤ sizeLine ∧ (a == sysModules) = false ∧
    ∃ xs, KT H kvs xs ∧ h.DictOfH (tupleKind (mixKind P w)) a xs := by
  obtain ⟨z, y, xs, r, o, es, ep, h1, h2, h3, h4, h5⟩ := (show ObjOk P w H h a (.dT kvs) from rd_of ok e)
  refine ⟨z, y, xs, r, o, es, ep, h1, h2, h3, h4, fun x hx => ?_, h5⟩
  have all : ∀ {l : List (List Key × V)} {m : List (List Key × Addr × Value)}, KT H l m → ∀ x ∈ m, (tupleKind (mixKind P w)).is h x.1 x.2.1 := by
    intro l m q
    induction q with
    | nil => intro x hx; exact nomatch hx
    | @cons p q ps qs hq t ih =>
      intro x hx
      rcases List.mem_cons.mp hx with e | hx
      · subst e
        exact key_of ok (by rw [← hq.1]; exact hq.2.1)
      · exact ih x hx
  exact all r x hx
theorem dt_of {kvs : List (List Key × V)} (ok : HOk P w H h) (e : H a = some (.dT kvs)) : kvs.length ≤ sizeLine ∧ (a == sysModules) = false ∧
    ∃ xs, KT H kvs xs ∧ h.DictOfH (tupleKind (mixKind P w)) a xs := dt_rd ok (.inl e)
end

/-- what the dict at a holds at the key y -/
def DGet (H : Hp) (a : Addr) (y : V) (r : Option V) : Prop :=
  (∃ kvs k, Rd H a (.dK kvs) ∧ y = kV k ∧ r = valV kvs k) ∨ ∃ kvs k b, Rd H a (.dT kvs) ∧ y = .ref b ∧ H b = some (.tup (k.map kV)) ∧ r = valV kvs k
/-- the heap behind a[y] = v -/
def DPut (H : Hp) (a : Addr) (y v : V) (H' : Hp) : Prop :=
  (∃ kvs k, H a = some (.dK kvs) ∧ y = kV k ∧ kvs.length < sizeLine ∧ H' = upd H a (.dK (putK kvs k v))) ∨
  ∃ kvs k b, H a = some (.dT kvs) ∧ y = .ref b ∧ H b = some (.tup (k.map kV)) ∧ kvs.length < sizeLine ∧ H' = upd H a (.dT (putK kvs k v))
theorem DGet.k {H : Hp} {a : Addr} {kvs : List (Key × V)} {k : Key} (e : H a = some (.dK kvs)) : DGet H a (kV k) (valV kvs k) := .inl ⟨kvs, k, .inl e, rfl, rfl⟩
theorem DGet.t {H : Hp} {a b : Addr} {kvs : List (List Key × V)} {k : List Key} (e : H a = some (.dT kvs)) (eb : H b = some (.tup (k.map kV))) : DGet H a (.ref b) (valV kvs k) := .inr ⟨kvs, k, b, .inl e, rfl, eb, rfl⟩
theorem DPut.k {H : Hp} {a : Addr} {kvs : List (Key × V)} {k : Key} {v : V} (e : H a = some (.dK kvs)) (hl : kvs.length < sizeLine) : DPut H a (kV k) v (upd H a (.dK (putK kvs k v))) := .inl ⟨kvs, k, e, rfl, hl, rfl⟩
theorem DPut.t {H : Hp} {a b : Addr} {kvs : List (List Key × V)} {k : List Key} {v : V} (e : H a = some (.dT kvs)) (eb : H b = some (.tup (k.map kV))) (hl : kvs.length < sizeLine) :
    DPut H a (.ref b) v (upd H a (.dT (putK kvs k v))) := .inr ⟨kvs, k, b, e, rfl, eb, hl, rfl⟩


section
variable {X : Cx} {pins : List (Addr × Obj)} {σ : St} {H : Hp} {s : Shared} {a : Addr} {y v : V} {u r : Value} {o : Option V} {A : Around} {E : Value → Shared → Prop}

theorem Inv.big (I : Inv X pins σ H s) : sysModules < s.heap.objs.size := by
  have h : mainGlobals < s.heap.objs.size := (I.mod.glob.keeps I.bk).lt
  exact Nat.lt_trans (by decide) h

/-- d[y], there -/
theorem d_getItem {Q : Value → Shared → Prop} (hu : A.units + 1 < cLine) (I : Inv X pins σ H s) (g : DGet H a y (some v)) (ry : RelV y u) (h : ∀ w' s', Inv X pins σ H s' → RelV v w' → Q w' s') :
    wpAny (model X.prog X.w) A (getItem (.ref a) u) Q E s := by
  rcases g with ⟨kvs, k, e, ey, l⟩ | ⟨kvs, k, b, e, ey, eb, l⟩
  · subst ey
    obtain ⟨z, hd, vs, rel, dd⟩ := dk_rd I.hok e
    obtain ⟨w', hw, rw'⟩ := RelO.some_of (v := v) (o := valueAt vs k) (by rw [l]; exact rel.val k)
    exact wpAny_getItem_of (kV_is ry) dd.mapOf hw (h w' _ (I.tok _) rw')
  · subst ey
    cases (show u = Value.ref b from ry)
    obtain ⟨z, hd, xs, rel, dd⟩ := dt_rd I.hok e
    obtain ⟨w', hw, rw'⟩ := RelO.some_of (v := v) (o := (atKey xs k).map (·.2)) (by rw [l]; exact rel.val k)
    obtain ⟨p, hp, hp2⟩ := Option.map_eq_some_iff.mp hw
    refine wpAny_getItem_heap (tupleKind_room_in1 hu) (key_of I.hok eb) dd hp ?_
    rw [hp2]
    exact h w' _ (I.tok _) rw'
/-- a dict's object is replaced -/
theorem d_write {h' : Heap} {t' : Nat} {ob : HO} (I : Inv X pins σ H s) (mu : Mut (H a)) (hs : Heap.SameBut a s.heap h') (he : ∃ q, h'.get? a = some q) (new : ObjOk X.prog X.w (upd H a ob) h' a ob) :
    Inv X pins σ (upd H a ob) { s with heap := h', toks := t' } :=
  I.write (x := a) (e := a) mu (.inl rfl) (fun b q hb z => (hs.2 b hb).trans z) he new
theorem dk_new {P : Program} {w : World} {H' : Hp} {h' : Heap} {kvs : List (Key × V)} {vs : List (Key × Value)} (z : kvs.length ≤ sizeLine) (hd : (a == sysModules) = false) (rel : KV kvs vs) (dd : h'.DictOf (mixKind P w) a vs) :
    ObjOk P w H' h' a (.dK kvs) := ⟨z, hd, vs, rel, dd⟩
/-- d[y] = v -/
theorem d_setItem {H' : Hp} {Q : Unit → Shared → Prop} (hu : A.units + 1 < cLine) (I : Inv X pins σ H s) (g : DPut H a y v H') (ry : RelV y u) (rv : RelV v r) (h : ∀ s', Inv X pins σ H' s' → Q () s') :
    wpAny (model X.prog X.w) A (setItem (.ref a) u r) Q E s := by
  rcases g with ⟨kvs, k, e, ey, l, eH⟩ | ⟨kvs, k, b, e, ey, eb, l, eH⟩
  · subst ey eH
    obtain ⟨z, hd, vs, rel, dd⟩ := dk_of I.hok e
    have hz : vs.length ≤ sizeLine := by rw [← rel.length]; exact z
    have hl : (putK kvs k v).length ≤ sizeLine := by have := length_putK kvs k v; omega
    refine wpAny_setItem_pairs (hsz := hz) (kV_is ry) dd fun h' dd' hs => h _ ?_
    have he : ∃ q, h'.get? a = some q := let ⟨q, _, _, hq, _⟩ := dd'; ⟨q, hq⟩
    exact d_write I (by rw [e]; exact True.intro) hs he (dk_new hl hd (rel.put k rv) dd')
  · subst ey eH
    cases (show u = Value.ref b from ry)
    obtain ⟨z, hd, xs, rel, dd⟩ := dt_of I.hok e
    have hz : xs.length ≤ sizeLine := by rw [← Paired.length rel]; exact z
    have hl : (putK kvs k v).length ≤ sizeLine := by have := length_putK kvs k v; omega
    refine wpAny_setItem_heap (hsz := hz) (tupleKind_room_in1 hu) (key_of I.hok eb) dd fun h' dd' hs => h _ ?_
    obtain ⟨q, es, ep, hq, h2, h3, h4, _, h5⟩ := dd'
    refine d_write I (by rw [e]; exact True.intro) hs ⟨q, hq⟩ ⟨hl, hd, _, (rel.put k eb rv).keeps fun c ys ec => ?_, q, es, ep, hq, h2, h3, h4, h5⟩
    rw [upd_ne (ne_of ec e (fun z => nomatch z))]
    exact ec
end

section
variable {X : Cx} {pins : List (Addr × Obj)} {σ : St} {H : Hp} {s : Shared} {a : Addr} {kvs : List (Key × V)} {k : Key} {u : Value} {A : Around} {E : Value → Shared → Prop}
end


/-! ### readings and rules -/
/-- the element of a subscription, not a slice -/
def NoSl (i : Expr) : Prop := ∀ ov iv, subscripted i false ov iv = operate [ov, iv] (getItem ov iv)
theorem subD_of {prog : Program} {w : World} {A : Around} {E : Value → Shared → Prop} {s : Shared} {env : Env} {value slice : Expr} {pos : Pos} {T id : String} {Q : Value → Shared → Prop}
    (hl : typeLookup (.type T) "__getitem__" = pure (some (.builtin id))) (hs : NoSl slice)
    (h : wpAny (model prog w) A (eval value env) (fun o s₁ => wpAny (model prog w) A (eval slice env) (fun i s₂ => s₂.TypeIs o T ∧ wpAny (model prog w) A (getItem o i) Q E s₂) E s₁) E s) :
    wpAny (model prog w) A (eval (.Subscript value slice pos) env) Q E s := by
  refine Subscript_ (wpAny_mono h (fun o s₁ h₁ => wpAny_mono h₁ (fun i s₂ h₂ => ?_) fun _ _ x => x) fun _ _ x => x)
  obtain ⟨hT, h₂⟩ := h₂
  unfold subscriptTail
  refine wpAny_bind ?_
  rw [getitemInPython_of_ne hT.not_modules]
  refine wpAny_bind (wpAny_specialOf hT hl ?_)
  have fin : wpAny (model prog w) A (subscripted slice false o i) (fun r s₃ => wpAny (model prog w) A (letTemporaryGo value o r >>= fun _ => pure r) Q E s₃) E s₂ := by
    rw [hs o i]
    exact wpAny_operating (wpAny_mono h₂ (fun r s₃ h₃ => wpAny_bind (wpAny_letTemporaryGo (wpAny_pure h₃))) fun _ _ x => x)
  first
    | exact wpAny_pure (wpAny_bind fin)
    | exact wpAny_bind (wpAny_pure (wpAny_bind fin))
    | exact wpAny_bind fin

theorem dict_typeIs {X : Cx} {pins : List (Addr × Obj)} {σ : St} {H : Hp} {s : Shared} {a : Addr} {y : V} {o : Option V} (I : Inv X pins σ H s) (g : DGet H a y o) : s.TypeIs (.ref a) "dict" := by
  rcases g with ⟨kvs, k, e, _, _⟩ | ⟨kvs, k, b, e, _, _, _⟩
  · obtain ⟨_, _, vs, _, dd⟩ := dk_rd I.hok e
    exact dd.typeIs
  · obtain ⟨_, _, xs, _, dd⟩ := dt_rd I.hok e
    exact dd.typeIs
/-- d[y] -/
def tDGet (td ty : TE) : TE := fun σ H Q => td σ H fun x H1 => ty σ H1 fun y H2 => ∃ a v, x = .ref a ∧ DGet H2 a y (some v) ∧ Q v H2
section
variable {X : Cx} {o i e value : Expr} {pos pos' tpos : Pos} {td ty tv : TE}
theorem pe_dget (hu : X.A.units + 1 < cLine) (ho : PE X o td) (hi : PE X i ty) (hs : NoSl i) : PE X (.Subscript o i pos) (tDGet td ty) := by
  intro pins s σ H Q I h
  refine subD_of PySem.F.slot_dict_getitem.lookup hs (thn (ho pins s σ H _ I h) fun u s1 ⟨x, H1, I1, rx, q1⟩ => thn (hi pins s1 σ H1 _ I1 q1) fun iv s2 ⟨y, H2, I2, ry, a, v, ex, g, q2⟩ => ?_)
  subst ex
  obtain rfl : u = Value.ref a := rx
  exact ⟨dict_typeIs I2 g, d_getItem hu I2 g ry fun w' s3 I3 rw' => ⟨v, H2, I3, rw', q2⟩⟩
end


/-! ### displays -/
theorem dk_empty {P : Program} {w : World} {H : Hp} (h : Heap) (hb : sysModules < h.objs.size) : ObjOk P w H (h.push { cls := .type "dict", data := .dict #[] }) h.objs.size (.dK []) :=
  ⟨Nat.zero_le _, beq_eq_false_iff_ne.mpr (Ne.symm (Nat.ne_of_lt hb)), [], .nil, Heap.DictOf.new h⟩
/-- {}, to be a dict of the kind that is wanted -/
def tDNewK : TE := fun _ H Q => ∀ p, H p = none → Q (.ref p) (upd H p (.dK []))
section
variable {X : Cx} {pos : Pos}
theorem pe_dnewK : PE X (.Dict [] [] pos) tDNewK := fun pins s σ H Q I h =>
  wpAny_Dict_empty ⟨.ref s.heap.objs.size, _, I.laid (a := s.heap.objs.size) (o := .dK []) (t' := s.toks) (fun _ _ q => Heap.get?_push_of_some _ q) (Nat.le_refl _) (dk_empty s.heap I.big), rfl, h _ (I.hok.fresh (Nat.le_refl _))⟩
end

/-- the pairs of a display, from the left -/
def tPairs : List (TE × TE) → St → Hp → (List (V × V) → Hp → Prop) → Prop
  | [], _, H, Q => Q [] H
  | (tk, tv) :: r, σ, H, Q => tk σ H fun x H1 => tv σ H1 fun y H2 => tPairs r σ H2 fun ps H3 => Q ((x, y) :: ps) H3
abbrev VV : List (V × V) → List (Value × Value) → Prop := Paired fun p q => RelV p.1 q.1 ∧ RelV p.2 q.2
def PPs (X : Cx) (pos : Pos) (keys : List (Option Expr)) (values : List Expr) (trs : List (TE × TE)) : Prop :=
  ∀ (pins : List (Addr × Obj)) (s : Shared) (σ : St) (H : Hp) (Q : List (V × V) → Hp → Prop), Inv X pins σ H s → tPairs trs σ H Q →
    wpAny (model X.prog X.w) X.A (evalPairs (pairTrees keys values X.env pos)) (fun vs s' => ∃ ps H', Inv X pins σ H' s' ∧ VV ps vs ∧ Q ps H') X.xe s
theorem pps_nil {X : Cx} {pos : Pos} : PPs X pos [] [] [] := fun pins s σ H Q I h => pairTrees_nil_walk ⟨[], H, I, .nil, h⟩
theorem pps_cons {X : Cx} {pos : Pos} {k v : Expr} {ks : List (Option Expr)} {vs : List Expr} {tk tv : TE} {trs : List (TE × TE)} (hk : PE X k tk) (hv : PE X v tv) (hr : PPs X pos ks vs trs) :
    PPs X pos (some k :: ks) (v :: vs) ((tk, tv) :: trs) := fun pins s σ H Q I h =>
  pairTrees_cons_walk (thn (hk pins s σ H _ I h) fun u s1 ⟨x, H1, I1, rx, q1⟩ => thn (hv pins s1 σ H1 _ I1 q1) fun w2 s2 ⟨y, H2, I2, ry, q2⟩ =>
    thn (hr pins s2 σ H2 _ I2 q2) fun ws s3 ⟨ps, H3, I3, rel, q3⟩ => ⟨(x, y) :: ps, H3, I3, .cons ⟨rx, ry⟩ rel, q3⟩)

def mergeK (kvs more : List (Key × V)) : List (Key × V) := more.foldl (fun acc kv => putK acc kv.1 kv.2) kvs
theorem KV.merge : ∀ {more : List (Key × V)} {rs : List (Key × Value)} {kvs : List (Key × V)} {vs : List (Key × Value)}, KV more rs → KV kvs vs → KV (mergeK kvs more) (merged vs rs) := by
  intro more rs kvs vs r
  unfold KV at r
  induction r generalizing kvs vs with
  | nil => intro q; exact q
  | @cons p q ps qs h t ih =>
    intro r0
    have e : KV (putK kvs p.1 p.2) (stored vs q.1 q.2) := by
      have := r0.put p.1 h.2
      rw [← h.1]; exact this
    exact ih e
theorem length_mergeK : ∀ (more kvs : List (Key × V)), (mergeK kvs more).length ≤ kvs.length + more.length
  | [], kvs => by show kvs.length ≤ kvs.length + 0; omega
  | p :: r, kvs => by
    have h1 := length_mergeK r (putK kvs p.1 p.2)
    have h2 := length_putK kvs p.1 p.2
    show (mergeK (putK kvs p.1 p.2) r).length ≤ _
    rw [List.length_cons]; omega
theorem carries_of {P : Program} {w : World} : ∀ {kvs : List (Key × V)} {ws : List (Value × Value)}, VV (kvs.map fun kv => (kV kv.1, kv.2)) ws → ∃ rs, Carries (mixKind P w) ws rs ∧ KV kvs rs
  | [], _, r => by rw [List.map_nil] at r; cases r; exact ⟨[], True.intro, .nil⟩
  | p :: kvs, _, r => by
    rw [List.map_cons] at r
    cases r with
    | @cons a b as bs h t =>
      obtain ⟨rs, c, q⟩ := carries_of (P := P) (w := w) t
      obtain ⟨b1, b2⟩ := b
      exact ⟨(p.1, b2) :: rs, ⟨kV_is h.1, rfl, c⟩, .cons ⟨rfl, h.2⟩ q⟩
/-- {k: v, ..} with keys ints and texts; the new dict stands empty while the pairs are made -/
def tDisp (trs : List (TE × TE)) : TE := fun σ H Q => ∀ p, H p = none → tPairs trs σ (upd H p (.dK [])) fun ps H2 => H2 p = some (.dK []) ∧ ∃ kvs : List (Key × V), ps = kvs.map (fun kv => (kV kv.1, kv.2)) ∧ kvs.length ≤ 15 ∧ Q (.ref p) (upd H2 p (.dK (mergeK [] kvs)))
theorem pe_disp {X : Cx} {pos : Pos} {keys : List (Option Expr)} {values : List Expr} {trs : List (TE × TE)} (h : PPs X pos keys values trs) (hall : keys.all (·.isSome) = true) (hl : keys.length = values.length) (h0 : keys ≠ [])
    (h15 : keys.length ≤ 15) : PE X (.Dict keys values pos) (tDisp trs) := by
  intro pins s σ H Q I q
  have hn := I.hok.fresh (Nat.le_refl s.heap.objs.size)
  have I1 := I.laid (a := s.heap.objs.size) (o := .dK []) (h' := s.heap.push { cls := .type "dict", data := .dict #[] }) (t' := s.toks) (fun _ _ q => Heap.get?_push_of_some _ q) (Nat.le_refl _) (dk_empty s.heap I.big)
  refine wpAny_Dict_walk (knd := mixKind X.prog X.w) hall hl h0 h15 (thn (h pins _ σ _ _ I1 (q _ hn)) fun ws s2 ⟨ps, H2, I2, rel, e, kvs, ep, lk, q2⟩ => ?_)
  subst ep
  obtain ⟨rs, c, rk⟩ := carries_of (P := X.prog) (w := X.w) rel
  obtain ⟨z, hd, vs0, r0, dd⟩ := dk_of I2.hok e
  cases r0
  refine ⟨rs, c, dd, fun h' dd' hs => ⟨.ref s.heap.objs.size, _, ?_, rfl, q2⟩⟩
  have hz : (mergeK [] kvs).length ≤ sizeLine := by
    have h1 := length_mergeK kvs []
    rw [List.length_nil] at h1
    rw [sizeLine_eq]; omega
  have he : ∃ q, h'.get? s.heap.objs.size = some q := let ⟨q, _, _, hq, _⟩ := dd'; ⟨q, hq⟩
  exact d_write I2 (by rw [e]; exact True.intro) hs he (dk_new hz hd (rk.merge .nil) dd')


/-! ### methods -/
/-- a method call o.m(e) of a built-in, with one argument: what must be seen of the text -/
structure M1 (X : Cx) (o : Expr) (m : Str) (apos : Pos) (e : Expr) (cpos : Pos) : Prop where
  base : attributeBase o m X.env (eval o X.env) = eval o X.env
  few : ((backTo cpos (starEach [e] X.env)).all (fun x => !x.1) && (backToKw cpos (keywordEach [] X.env)).all (fun x => x.1.isSome)
    && decide (([e] : List Expr).length + ([] : List Keyword).length + (if ([] : List Keyword).isEmpty then 0 else 1) < 30)) = true
  line : (apos.endLine == cpos.line) = true
  trees : backTo cpos (starEach [e] X.env) = [(false, eval e X.env)]
structure M2 (X : Cx) (o : Expr) (m : Str) (apos : Pos) (e f : Expr) (cpos : Pos) : Prop where
  base : attributeBase o m X.env (eval o X.env) = eval o X.env
  few : ((backTo cpos (starEach [e, f] X.env)).all (fun x => !x.1) && (backToKw cpos (keywordEach [] X.env)).all (fun x => x.1.isSome)
    && decide (([e, f] : List Expr).length + ([] : List Keyword).length + (if ([] : List Keyword).isEmpty then 0 else 1) < 30)) = true
  line : (apos.endLine == cpos.line) = true
  trees : backTo cpos (starEach [e, f] X.env) = [(false, eval e X.env), (false, eval f X.env)]

section
variable {X : Cx} {pins : List (Addr × Obj)} {σ : St} {H : Hp} {s : Shared} {a : Addr} {y d : V} {u r : Value} {o : Option V} {A : Around} {E : Value → Shared → Prop}
end

section
variable {X : Cx} {o e f : Expr} {apos cpos : Pos} {td ty tx : TE}
end

/-! ### dict(d): a copy -/
section
variable {X : Cx} {pins : List (Addr × Obj)} {σ : St} {H : Hp} {s : Shared} {a : Addr} {kvs : List (Key × V)} {A : Around} {E : Value → Shared → Prop}
end


section
variable {X : Cx} {pins : List (Addr × Obj)} {σ : St} {H : Hp} {s : Shared} {a : Addr} {y : V} {u : Value} {A : Around} {E : Value → Shared → Prop}
end
end L2
namespace Att
open PySem PySem.W PySem.Calls PyProof.Rows

/-! ### the script -/
theorem ints_of_wellAll {P : Params} {h : Heap} : ∀ (ns : List Int) (vs : List Value), WellAll P h vs (ns.map WData.int) → IntsAre vs ns := by
  intro ns
  induction ns with
  | nil =>
    intro vs w
    rw [List.map_nil] at w
    cases w
    exact .nil
  | cons n ns ih =>
    intro vs w
    rw [List.map_cons] at w
    cases w with
    | cons a b =>
      cases a
      exact .cons _ _ (ih _ b)

theorem script_of {l : OpenLaw} {n : Nat} (hn : l.most = some n) {P : Params} {h : Heap} {args : List WData} {vals : List Value}
    (hpre : l.row.toRowW.claim.pre args = true) (hwl : WellAll P h vals args) :
    ∃ a vs ns, vals = [Value.ref a] ∧ args = [WData.list (ns.map WData.int)] ∧ h.get? a = some { cls := .type "list", data := .seq vs.toArray } ∧ IntsAre vs ns ∧ ns.length ≤ n := by
  have hsh : WShape.hasAll [] args [.list .int] = true := (pre_splitW hpre).1
  have hc : l.pre.holds [] { args := args } = true := (pre_splitW hpre).2
  obtain ⟨d, r, rfl, h1, h2⟩ := hasAllW_cons hsh
  obtain rfl := hasAllW_nil h2
  obtain ⟨xs, rfl, h3⟩ := hasW_list h1
  obtain ⟨ns, rfl⟩ := items_int h3
  have hlen : ns.length ≤ n := by
    unfold OpenLaw.pre at hc
    have h4 : (WTm.not (.lt (.lit (.int (n : Int))) (.len (.arg 0)))).holds [] { args := [.list (ns.map .int)] } = true := by
      have h4 := (holds_andW hc).1
      rw [hn] at h4
      exact h4
    have h5 := condW_of h4 (w_not (w_lt w_lit (w_len_list (w_arg rfl))))
    rw [List.length_map] at h5
    refine Nat.le_of_not_lt fun q => ?_
    have q' : (n : Int) < ((ns.length : Nat) : Int) := by omega
    first
      | (rw [decide_eq_true q'] at h5; exact absurd h5 (by decide))
      | (simp at h5; omega)
  cases hwl with
  | cons w1 w2 =>
    cases w2
    cases w1 with
    | list ho hall => exact ⟨_, _, ns, rfl, rfl, ho, ints_of_wellAll ns _ hall, hlen⟩

theorem post_true (l : OpenLaw) (args : List WData) : l.row.toRowW.claim.post args (.bool true) args = true :=
  postW_of (r := l.row.toRowW) (X := (true == true))
    (show WShape.has [] (.bool true) .bool = true by first | rfl | decide | simp [WShape.has, WShape.arms, WShape.armsAll])
    (show (WTm.eq .res (.lit (.bool true))).value [] { args := args, res := some (.bool true), after := args } = some (.bool (true == true)) from w_eq_bool (w_res rfl) w_lit) rfl

/-! ### the attachment: holds_open's last premise (the goal 'hc' behind k_head) from a wpAny of the law's body -/
/-- the same from a codeAny of the CALL (for a layer whose function contracts speak of calls) -/
theorem attach_call {l : OpenLaw} {n : Nat} {q : Program} {loose : List Str} {XP : (Str → Option Value) → Heap → Prop} {YP : World → Heap → Prop} {d : DefRec}
    (hn : l.most = some n) (hdf : d.params.defaults = [])
    (call : ∀ (w : World) (s₀ s₁ : Shared) (mg mb : Str → Option Value) (fa : Addr) (o : Obj) (pm cd doc : Value) (a : Addr) (vs : List Value) (ns : List Int),
      Ground q loose [] XP w s₀ mg mb s₁.heap → YP w s₁.heap →
      s₁.heap.get? fa = some o → o.data = .func (docDef d.name d.params d.body d.scope pm cd doc) → s₁.heap.CodeRec cd d.name → mg d.name = some (.ref fa) →
      s₁.heap.get? a = some { cls := .type "list", data := .seq vs.toArray } → IntsAre vs ns → ns.length ≤ n → s₁.gens = #[] →
      codeAny (model l.prog w) callerA (.call (.ref fa) ⟨[.ref a], []⟩) (fun r s' => r = .ok (.ret (.bool true)) ∧ OldK s₁.heap s'.heap ∧ s'.os = s₁.os ∧ AllBare s'.gens) s₁) :
    WalkO q loose XP YP l.row.toRowW d [] (fun f vs => PySem.call f vs) := by
  intro w s₀ s₁ mg mb G Y fa o pm cd doc dV kV ho hd hcd hD hmg hg args vals as hpre hlay hrd hwl hlo
  obtain rfl : dV = .none := Dflts.none hD hdf
  obtain rfl : kV = .none := Dflts.noKw hD
  obtain ⟨a, vs, ns, rfl, rfl, hobj, hints, hlen⟩ := script_of hn hpre hwl
  refine enter_call (codeAny_mono (call w s₀ s₁ mg mb fa o pm cd doc a vs ns G Y ho (fd_plain hd) hcd hmg hobj hints hlen hg) fun r s' hq => ?_)
  obtain ⟨rfl, h2, h3, h4⟩ := hq
  exact ⟨.inl ⟨.bool true, .bool true, [], rfl, fun _ => rfl, .bool true, post_true l _, fun _ => ⟨List.Pairwise.nil, fun _ hm => (nomatch hm)⟩⟩, h2, h3, h4⟩

/-! ### rules over ANY heap (no ledger) from facts about the written part K: the library's own take a ledger (News) for what they write -/
section
variable {prog : Program} {w : World} {A : Around} {E : Value → Shared → Prop} {s : Shared} {K : Frag}

/-! the whole heap as the ledger: makes every rule that writes through a ledger a rule over any heap -/
def ledger (h : Heap) (L d : Addr) : List (Addr × Obj) := (List.range h.objs.size).filterMap fun a => if a = L ∨ a = d then none else (h.get? a).map fun o => (a, o)
end
end Att

namespace L2
open PySem PySem.Spec PyProof.Rows

theorem vals_ints : ∀ {vs : List Value} {ns : List Int}, IntsAre vs ns → Vals (ns.map V.int) vs
  | _, _, .nil => .nil
  | _, _, .cons n t h => .cons ⟨t, rfl⟩ (vals_ints h)

/-- nothing is tracked but the script, known to the object (or it is an object of the module) -/
def Only (H : Hp) : Prop := ∀ b, H b = none ∨ ∃ o xs, H b = some (.frz o (.lst xs))

/-- THE HEAD: the law's promise, at the heap behind the top. F, the promise of the law's def, may use that base is part of the heap (so K.In base, base.Ns mainGlobals mg stand in Mod) -/
theorem law_call {P : Program} {w : World} {K : PySem.W.Frag} {mg mb : Str → Option Value} {CX : CXT} {k : Nat} {fa a : Addr} {fd : FuncData} {x : Str} {sp : Sp} {s₁ : Shared} {vs : List Value} {ns : List Int}
    (KX : K.In s₁.heap) (hns : s₁.heap.Ns mainGlobals mg) (hb : s₁.heap.Ns builtinsNs mb) (hbb : ∀ x : Str, x ≠ "__name__" → mb x = bootBuiltins x) (hlim : s₁.heap.NoLimit) (hg : s₁.gens = #[])
    (ha : s₁.heap.get? a = some { cls := .type "list", data := .seq vs.toArray }) (hi : IntsAre vs ns) (hl : ns.length ≤ sizeLine) (hr : Room k callerA)
    (F : ∀ base : Heap, K.In base → base.Ns mainGlobals mg → FnOk P w K mg base CX k fa fd [x] sp) (hbind : ∀ (s : Shared) (u : Value), BindsTo s fd ⟨[u], []⟩ [(x, u)])
    (hsp : ∀ H : Hp, Only H → SqL K H a (ns.map V.int) → sp [.ref a] H (fun v _ => v = .bl true) fun _ _ _ => False)
    (hCX : ∀ H e s', CX [] H s₁ (fun _ _ _ => False) e s' → False) :
    codeAny (model P w) callerA (.call (.ref fa) ⟨[.ref a], []⟩) (fun r s' => r = .ok (.ret (.bool true)) ∧ OldK s₁.heap s'.heap ∧ s'.os = s₁.os ∧ AllBare s'.gens) s₁ := by
  have rv := vals_ints hi
  have lenV := hi.length
  have core : ∀ H : Hp, Only H → SqL K H a (ns.map V.int) → HOk P w H s₁.heap → (∀ b, H b ≠ none → b = a) → (H a ≠ none → K.lookup a = none) →
      codeAny (model P w) callerA (.call (.ref fa) ⟨[.ref a], []⟩) (fun r s' => r = .ok (.ret (.bool true)) ∧ OldK s₁.heap s'.heap ∧ s'.os = s₁.os ∧ AllBare s'.gens) s₁ := by
    intro H hO hS hok hA hK
    have base_of : ∀ {b : Addr} {o : Obj}, s₁.heap.get? b = some o → H b = none → (hidT s₁.heap H).get? b = some o := fun e n => hidT_get e n
    have noA : ∀ {b : Addr} {o : Obj} {es : Array DictEntry} {ep : Nat}, s₁.heap.get? b = some o → o.data = .dict es ep → H b = none := fun {b o es ep} e d => by
      cases q : H b with
      | none => rfl
      | some u =>
        have e' : b = a := hA b (by rw [q]; simp)
        subst e'
        rw [ha] at e; cases e
        have d' : Data.seq vs.toArray _ = Data.dict es ep := d
        cases d'
    have nsK : ∀ {b : Addr} {m : Str → Option Value}, s₁.heap.Ns b m → (hidT s₁.heap H).Ns b m := fun {b m} ⟨o, es, ep, e, d, r⟩ => ⟨o, es, ep, base_of e (noA e d), d, r⟩
    have hKb : K.In (hidT s₁.heap H) := fun b o e => base_of (KX b o e) (by
      cases q : H b with
      | none => rfl
      | some u =>
        have e' : b = a := hA b (by rw [q]; simp)
        subst e'
        rw [hK (by rw [q]; simp)] at e; cases e)
    have hM : Mod K mg (hidT s₁.heap H) := ⟨hKb, nsK hns, ⟨mb, nsK hb, hbb⟩, let ⟨mc, h1, h2⟩ := hlim; ⟨mc, nsK h1, h2⟩⟩
    have e0 : Env0 P w K mg (hidT s₁.heap H) callerA [] s₁ H := ⟨rfl, hM, fun b o e => of_hidT e, Nat.le_of_eq (hidT_size _ _), trivial, fun b hb => absurd (show b ∈ ([] : List Addr) from hb) (by simp), hok, .of_eq hg⟩
    refine codeAny_mono ((F _ hKb (nsK hns)).run callerA [] s₁ H ⟨[.ref a], []⟩ [.ref a] [.ref a] _ _ hr e0 (hbind s₁ (.ref a)) (.cons rfl .nil) (hsp H hO hS)) fun r s' h => ?_
    cases r with
    | error e => exact (hCX H e s' h).elim
    | ok fl =>
      cases fl with
      | next => exact False.elim h
      | brk => exact False.elim h
      | cont => exact False.elim h
      | ret u =>
        obtain ⟨v, H', os, bare, un, hok', r', q⟩ := h
        have q' : v = .bl true := q
        subst q'
        obtain rfl : u = Value.bool true := r'
        refine ⟨rfl, OldK.of_keep fun b o e => ?_, os, bare⟩
        cases q : H b with
        | none => exact un.keep b o e q (by intro z; exact absurd (show b ∈ ([] : List Addr) from z) (by simp)) (by simp)
        | some u =>
          rcases hO b with z | ⟨ob, xs, z⟩
          · rw [q] at z; cases z
          · have z2 := un.frzs b ob _ z
            obtain ⟨e1, _⟩ := hok b _ z
            obtain ⟨e2, _⟩ := hok' b _ z2
            rw [e] at e1; cases e1
            exact e2
  cases hk : K.lookup a with
  | some o =>
    have e := KX a o hk
    rw [ha] at e
    cases e
    refine core (fun _ => none) (fun _ => .inl rfl) (.inr ⟨_, vs.toArray, _, hk, rfl, rfl, rfl, by rw [List.size_toArray, lenV]; exact hl, by simpa using rv⟩) (fun b u z => by have z' : (none : Option HO) = some u := z; cases z') (fun b z => absurd rfl z) fun z => absurd rfl z
  | none =>
    refine core (fun b => if b = a then some (.frz { cls := .type "list", data := .seq vs.toArray } (.lst (ns.map V.int))) else none) (fun b => ?_) (.inl (.inr ⟨{ cls := .type "list", data := .seq vs.toArray }, if_pos rfl⟩)) (fun b u z => ?_) (fun b z => ?_) fun _ => hk
    · by_cases hb : b = a
      · exact .inr ⟨_, _, if_pos hb⟩
      · exact .inl (if_neg hb)
    · by_cases hb : b = a
      · have z' := (if_pos hb).symm.trans z
        cases z'
        subst hb
        exact ⟨ha, by rw [List.length_map]; exact hl, vs, _, rv, ha⟩
      · have z' := (if_neg hb).symm.trans z
        cases z'
    · by_cases hb : b = a
      · exact hb
      · exact absurd (if_neg hb) z
end L2

namespace L2
open PySem PySem.Spec PyProof.Rows

abbrev KOf {K : PySem.W.Frag} {h : Heap} (_ : K.In h) : PySem.W.Frag := K

/-- the goal that k_head leaves (case hc), from the law's promise. F gives the function object fd (K's own) once, then the promise over every base -/
theorem walk_of {l : PySem.W.OpenLaw} {n k : Nat} {q : Program} {loose : List Str} {XP : (Str → Option Value) → Heap → Prop} {YP : World → Heap → Prop} {d : DefRec} {K : Params → PySem.W.Frag} {CX : World → CXT} {sp : World → Sp} {x : Str}
    (hn : l.most = some n) (hn2 : n ≤ sizeLine) (hdf : d.params.defaults = []) (hr : Room k callerA)
    (hY : ∀ (w : World) (h : Heap), YP w h → (K w.params).In h)
    (F : ∀ (w : World) (mg : Str → Option Value) (fa : Addr) (h : Heap), (K w.params).In h → h.Ns mainGlobals mg → mg d.name = some (.ref fa) →
      ∃ fd : FuncData, (∀ (s : Shared) (u : Value), BindsTo s fd ⟨[u], []⟩ [(x, u)]) ∧
        ∀ base : Heap, (K w.params).In base → base.Ns mainGlobals mg → FnOk l.prog w (K w.params) mg base (CX w) k fa fd [x] (sp w))
    (hsp : ∀ (w : World) (H : Hp) (a : Addr) (ns : List Int), ns.length ≤ n → Only H → SqL (K w.params) H a (ns.map V.int) → sp w [.ref a] H (fun v _ => v = .bl true) fun _ _ _ => False)
    (hCX : ∀ (w : World) (H : Hp) (s : Shared) (e : Value) (s' : Shared), CX w [] H s (fun _ _ _ => False) e s' → False) :
    PySem.W.WalkO q loose XP YP l.row.toRowW d [] (fun f vs => PySem.call f vs) := by
  refine Att.attach_call hn hdf fun w s₀ s₁ mg mb fa o pm cd doc a vs ns G Y ho hd hcd hmg hobj hints hlen hg => ?_
  have KX := hY w _ Y
  obtain ⟨fd, hb, hF⟩ := F w mg fa _ KX G.T.g hmg
  exact law_call KX G.T.g G.T.b G.T.builtins G.T.nolimit hg hobj hints (Nat.le_trans hlen hn2) hr hF hb (fun H hO hS => hsp w H a ns hlen hO hS) fun H e s' => hCX w H s₁ e s'
end L2

/- THE LAST THEOREM (shape; LID, My.* are yours):
   My.Adr: a structure of the addresses that your layer names (classes, functions); My.Txt K t: a structure (Prop) of the equations over K;
   My.txt_mk : {K} {implicit addresses ..} (e1 : nsIn K mainGlobals "law" = some (some (.ref f))) (e2 : K.lookup f = some ⟨oc, od, .func (fnOf "law" "law" params body scope dV kV doc pm an cdv ct), sl⟩) (e3 : codeIn K cdv "law" = true) .. : ∃ t, My.Txt K t

set_option maxRecDepth 100000 in
set_option maxHeartbeats 0 in
theorem PySem.Challenge.cw_LID_holds : PySem.Challenge.rw_LID.Holds := by
  w_on; o_law; k_head; (case hw => w_witness2)
  k_fill
  refine L2.walk_of (l := PySem.Challenge.rw_LID) (n := 63) (k := 40) (x := "script") (CX := fun w => ..) (sp := fun _ => My.sp_law) rfl (by decide) rfl ⟨rfl, by decide, by decide⟩ (fun w h Y => PySem.W.kIn_of Y) ?F ?S ?C
  case F =>
    intro w mg fa h KX G hmg
    have T : ∃ t, My.Txt (L2.KOf KX) t := by
      dsimp only [L2.KOf]                          -- K must stand as «<heap const> w.params» for k_is
      refine' My.txt_mk ?e1 ?e2 ?e3 ..
      (case e1 => PySem.W.k_is)                    -- in the order: a name -> its address -> its object -> its parts
      (case e2 => PySem.W.k_is)
      ..
    obtain ⟨t, T⟩ := T
    have e0 := hmg.symm.trans (PySem.W.mg_of KX G T.law)
    cases e0                                       -- fa is the law's own address
    exact ⟨_, fun s u => .of_eq rfl, fun base kb nb => My.law_fn T kb nb⟩     -- if «.of_eq rfl» comes too early: refine' ⟨_, ?b, fun base kb nb => My.law_fn T kb nb⟩; exact fun s u => .of_eq rfl
  case S => exact fun w H a ns hl hO hS => ..
  case C => exact ..
(the tactic k_is has no namespace: write k_is) -/

/-! SHORT WORDS over the layer: a def of the text, its body, what a loop and a test want. -/
namespace L2
open PySem PySem.Spec PyProof.Rows

/-! ### the text by places -/
/-- the j-th statement of a class's body -/
def inClass (s : Stmt) (j : Nat) : Stmt := match s with
  | .ClassDef _ _ _ body _ _ _ _ _ _ _ => body.getD j (.Pass ⟨0, 0, 0, 0⟩)
  | _ => .Pass ⟨0, 0, 0, 0⟩
def defArgs (s : Stmt) : Arguments := match s with
  | .FunctionDef _ a _ _ _ _ _ _ _ _ => a
  | _ => { posonlyargs := [], args := [], vararg := none, kwonlyargs := [], kw_defaults := [], kwarg := none, defaults := [] }
def defBody (s : Stmt) : List Stmt := match s with
  | .FunctionDef _ _ b _ _ _ _ _ _ _ => b
  | _ => []
def defScope (s : Stmt) : Scope := match s with
  | .FunctionDef _ _ _ _ _ _ sc _ _ _ => sc
  | _ => { kind := .function, names := [], isGenerator := false, isCoroutine := false }

/-! ### no exception leaves a def -/
abbrev CX0 : CXT := fun _ _ _ _ _ _ => False
abbrev E0 : XK := fun _ _ _ => False
theorem pass0 {X : Cx} : Passes CX0 X E0 := fun _ _ _ _ _ _ _ h => h.elim

/-! ### a def (or method) of the text as it stands behind the top -/
structure Fun (K : PySem.W.Frag) (x qual : Str) (st : Stmt) (f : Addr) (fd : FuncData) : Prop where
  ex : ∃ (oc : Value) (od : Option Addr) (kV doc pm : Value) (an : Option Addr) (cdv ct : Value) (osl : Array (Option Value)),
    fd = PySem.W.fnOf x qual (defArgs st) (defBody st) (defScope st) .none kV doc pm an cdv ct ∧ K.lookup f = some ⟨oc, od, .func fd, osl⟩ ∧ PySem.W.codeIn K cdv qual = true
  kp : PySem.W.keepIn K (.ref f) = true
section
variable {P : Program} {w : World} {K : PySem.W.Frag} {mg : Str → Option Value} {base : Heap}
/-- THE RULE for a def: its body as a term of rules, and the reading of that term -/
theorem Fun.ok {x qual : Str} {st : Stmt} {f : Addr} {fd : FuncData} {N ps : List Str} {k : Nat} {sp : Sp} (F : Fun K x qual st f fd) (S : FnScope N ps (defScope st)) (len : ∀ vs H Q E, sp vs H Q E → vs.length = ps.length)
    (hbody : ∀ (cdv : Value) (A : Around) (outer : List Env) (s : Shared) (H : Hp) (vs : List V) (Q : VK) (E : XK), Room k (A.deeper (envOfC qual (defScope st) s.heap.objs.size f cdv)) → sp vs H Q E →
      ∃ t, PSs (cxOf CX0 P w K mg base N qual (defScope st) f cdv A outer s H E).nox (defBody st) t ∧ t { nx := fun _ H' => Q .non H', rt := Q } (start N vs) H) : FnOk P w K mg base CX0 (k + 1) f fd ps sp := by
  obtain ⟨oc, od, kV, doc, pm, an, cdv, ct, osl, rfl, lk, hcd⟩ := F.ex
  refine fn_of lk hcd S len fun A outer s H vs Q E hr hsp => ?_
  obtain ⟨t, h, q⟩ := hbody cdv A outer s H vs Q E hr hsp
  exact ⟨t, h.nox, q⟩
/-- how its arguments bind (no defaults): h is «fun _ _ _ _ _ _ us hl => match us, hl with | [_, _], _ => rfl», one _ a parameter -/
theorem Fun.binds {x qual : Str} {st : Stmt} {f : Addr} {fd : FuncData} {ps : List Str} (F : Fun K x qual st f fd)
    (h : ∀ (kV doc pm : Value) (an : Option Addr) (cdv ct : Value) (us : List Value), us.length = ps.length → bindArgs (PySem.W.fnOf x qual (defArgs st) (defBody st) (defScope st) .none kV doc pm an cdv ct) ⟨us, []⟩ = pure (ps.zip us)) : Binds K fd ps [] := by
  obtain ⟨oc, od, kV, doc, pm, an, cdv, ct, osl, rfl, lk, hcd⟩ := F.ex
  exact .all (h kV doc pm an cdv ct)
theorem fun_mk {x qual : Str} {st : Stmt} {f : Addr} {oc : Value} {od an : Option Addr} {osl : Array (Option Value)} {kV doc pm cdv ct : Value} (l : K.lookup f = some ⟨oc, od, .func (PySem.W.fnOf x qual (defArgs st) (defBody st) (defScope st) .none kV doc pm an cdv ct), osl⟩)
    (c : PySem.W.codeIn K cdv qual = true) (k : PySem.W.keepIn K (.ref f) = true) : Fun K x qual st f (PySem.W.fnOf x qual (defArgs st) (defBody st) (defScope st) .none kV doc pm an cdv ct) := ⟨⟨oc, od, kV, doc, pm, an, cdv, ct, osl, rfl, l, c⟩, k⟩
end
theorem hu_of {A : Around} {k : Nat} (hr : Room k A) : A.units + 1 < cLine := Nat.lt_of_le_of_lt (Nat.add_le_add_left (by decide : 1 ≤ 64) _) hr.units
/-! ### expressions in short: the name that stands in the i-th slot -/
section
variable {X : Cx}
theorem pv (i : Nat) {x : Str} {pos : Pos} (hN : X.N[i]? = some x := by rfl) (hv : Vis X.env.scope x := by first | exact Or.inl rfl | exact Or.inr (Or.inl rfl) | exact Or.inr (Or.inr rfl)) (hd : (x == ("__debug__" : Str)) = false := by decide)
    (hcd : (x == ("__classdict__" : Str)) = false := by decide) : PE X (.Name x pos) (tVar i) := pe_var hN hv hd hcd
end

/-! ### tests -/
theorem iteF {A B : Prop} (h : B) : if false = true then A else B := by
  rw [if_neg Bool.false_ne_true]
  exact h
theorem iteT {A B : Prop} (h : A) : if true = true then A else B := by
  rw [if_pos rfl]
  exact h
/-! ### heaps -/
/-- all that was tracked is as it was -/
def Same (H H' : Hp) : Prop := ∀ b o, H b = some o → H' b = some o
theorem Same.refl (H : Hp) : Same H H := fun _ _ h => h
theorem Same.trans {H H1 H2 : Hp} (a : Same H H1) (b : Same H1 H2) : Same H H2 := fun c o h => b c o (a c o h)
theorem Same.free {H H' : Hp} (e : Same H H') {l : Addr} (h : H' l = Option.none) : H l = Option.none := by
  cases q : H l with
  | none => rfl
  | some o =>
    rw [e l o q] at h
    cases h
theorem Same.seq {K : PySem.W.Frag} {H H' : Hp} {a : Addr} {xs : List V} (e : Same H H') (h : SqL K H a xs) : SqL K H' a xs := by
  rcases h with (h | ⟨o, h⟩) | h
  · exact .inl (.inl (e _ _ h))
  · exact .inl (.inr ⟨o, e _ _ h⟩)
  · exact .inr h

/-! ### a dict's pairs: keys that differ -/
section
variable {κ : Type} [DecidableEq κ]
end
end L2
/-! ### exceptions: own classes, raised in a def, caught by a caller -/
namespace L2
open PySem PySem.Spec PyProof.Rows

theorem ObjOk.got {P : Program} {w : World} {H : Hp} {h : Heap} {a : Addr} {o : HO} (x : ObjOk P w H h a o) : ∃ ob, h.get? a = some ob := by
  cases o with
  | lst xs => obtain ⟨_, _, _, _, e⟩ := x; exact ⟨_, e⟩
  | tup xs => obtain ⟨_, _, _, ob, e, _⟩ := x; exact ⟨_, e⟩
  | dK kvs => obtain ⟨_, _, _, _, o, _, _, e, _⟩ := x; exact ⟨_, e⟩
  | dT kvs => obtain ⟨_, _, _, _, o, _, _, e, _⟩ := x; exact ⟨_, e⟩
  | set S n => obtain ⟨o, _, _, _, e, _⟩ := x; exact ⟨_, e⟩
  | ins C dx fs => obtain ⟨_, _, _, e, _⟩ := x; exact ⟨_, e⟩
  | own y => exact x
  | xd fs => obtain ⟨_, ⟨_, _, _, e, _⟩, _⟩ := x; exact ⟨_, e⟩
  | rng lo hi => obtain ⟨_, _, _, e⟩ := x; exact ⟨_, e⟩
  | frz ob u => obtain ⟨e, _⟩ := x; exact ⟨_, e⟩
  | tbl ps => exact ⟨_, (show h.get? a = some _ from x)⟩
  | met f y => exact ⟨_, (show h.get? a = some _ from x)⟩
  | ext φ => obtain ⟨_, e, _⟩ := x; exact e

/-- an exception of the class c flies over the frames l: what was there at s, and what is tracked, stands -/
structure Fly (P : Program) (w : World) (l : List Env) (H₀ : Hp) (s : Shared) (c : Value) (H' : Hp) (e : Value) (s' : Shared) : Prop where
  ex : ∃ (ea : Addr) (a0 : Value) (B : Heap), e = .ref ea ∧ Heap.FlyingW B l ea c a0 s'.heap ∧
    ∀ b o, s'.heap.get? b = some o → b ∉ frs l → ((∃ o', s.heap.get? b = some o') ∨ H' b ≠ none) → B.get? b = some o
  os : s'.os = s.os
  bare : AllBare s'.gens
  un : Un (frs l) [] H₀ H' s.heap s'.heap
  hok : HOk P w H' s'.heap
/-- how an exception lies behind a call -/
def CXE (P : Program) (w : World) : CXT := fun outer H s E e s' => ∃ c H', Fly P w outer H s c H' e s' ∧ E c none H'

section
variable {P : Program} {w : World} {l : List Env} {H H' : Hp} {s s' : Shared} {h2 : Heap} {base : Heap}
/-- the frames' slots turn, all else that was there or is tracked stays -/
theorem Un.slots (hf : s.heap.FunFrames base l) (fr : ∀ b ∈ frs l, H b = none) (u : Un (frs l) [] H H' s.heap s'.heap) (hok : HOk P w H' s'.heap)
    (kp : ∀ b o, s'.heap.get? b = some o → b ∉ frs l → ((∃ o', s.heap.get? b = some o') ∨ H' b ≠ none) → h2.get? b = some o) (x4 : s'.heap.UpToSlots h2) :
    Un (frs l) [] H H' s.heap h2 ∧ HOk P w H' h2 := by
  have nofr : ∀ b, H' b ≠ none → b ∉ frs l := fun b hb hm => by
    obtain ⟨_, o, ho, _⟩ := hf.mem hm
    exact hb (u.free b o ho (fr b hm) (by simp))
  have slot : ∀ b o, s.heap.get? b = some o → b ∈ frs l → ∃ sl, h2.get? b = some { o with slots := sl } := fun b o q hm => by
    obtain ⟨sl, e⟩ := u.slot b o q (fr b hm) hm (by simp)
    obtain ⟨_, o2, ho2, hd⟩ := hf.mem hm
    rw [q] at ho2
    cases ho2
    obtain ⟨sl2, e2⟩ := x4 b _ e hd
    exact ⟨sl2, e2⟩
  refine ⟨⟨fun b o q n hb hx => kp b o (u.keep b o q n hb hx) hb (.inl ⟨o, q⟩), fun b o q n hb hx => slot b o q hb, u.free, fun b o q hx => ?_, u.tups, u.frzs, u.tbls⟩, fun a o q => ?_⟩
  · by_cases hm : b ∈ frs l
    · obtain ⟨sl, e⟩ := slot b o q hm
      exact ⟨_, e⟩
    · obtain ⟨o', e⟩ := u.there b o q hx
      exact ⟨o', kp b o' e hm (.inl ⟨o, q⟩)⟩
  · refine (hok a o q).stay (fun b u hb e => ?_) (fun _ z => z) fun _ _ z => z
    have ht : H' b ≠ none := by
      rcases hb with rfl | hb
      · rw [q]; exact fun z => nomatch z
      · rw [hb]; exact fun z => nomatch z
    exact kp b u e (nofr b ht) (.inr ht)
end

section
variable {X : Cx} {pins : List (Addr × Obj)} {σ : St} {H H' : Hp} {s s' : Shared} {c : Value} {e : Value} {E : Value → Shared → Prop}
theorem Inv.frameless (I : Inv X pins σ H s) (hst : X.stack = X.env :: X.outer) (hf : X.env.frame = some X.env.locals) {b : Addr} (hb : b ∉ X.fs) (h : (∃ o', X.s₀.heap.get? b = some o') ∨ H b ≠ none) : b ∉ frs X.stack := by
  intro hm
  rcases List.mem_cons.mp (I.stkSub b hm) with z | z
  · subst z
    rcases h with ⟨o', q⟩ | q
    · exact absurd (Nat.lt_of_lt_of_le (Heap.lt_size q) I.ok.above) (Nat.lt_irrefl _)
    · exact q I.free
  · exact hb z
/-- a call has ended in an exception: the body's state stands -/
theorem Fly.inv (I : Inv X pins σ H s) (F : Fly X.prog X.w X.stack H s c H' e s') : Inv X pins σ H' s' := by
  obtain ⟨hh, g, d, t, os'⟩ := s'
  obtain rfl : os' = s.os := F.os
  exact I.call (h' := hh) (g' := g) (d' := d) (t' := t) (ch := []) F.un F.hok F.bare (fun b z => absurd z (by simp))
/-- from the state s1 of the body (an exception in flight there), the frame's end: it flies over the callers -/
theorem Inv.landed {s1 : Shared} {h2 : Heap} {B : Heap} {ea : Addr} {a0 : Value} (I : Inv X pins σ H s1) (hex : X.ex = []) (hst : X.stack = X.env :: X.outer) (hf : X.env.frame = some X.env.locals)
    (cov : ∀ b o, s1.heap.get? b = some o → b ∉ frs X.stack → ((∃ o', X.s₀.heap.get? b = some o') ∨ H b ≠ none) → B.get? b = some o)
    (x1 : Heap.FlyingW B X.outer ea c a0 h2) (x4 : s1.heap.UpToSlots h2) : Fly X.prog X.w X.outer X.H₀ X.s₀ c H (.ref ea) { s1 with heap := h2 } := by
  have st := I.stack
  have kp : ∀ b o, s1.heap.get? b = some o → b ∉ frs X.stack → ((∃ o', X.s₀.heap.get? b = some o') ∨ H b ≠ none) → h2.get? b = some o := fun b o q n h => x1.1 b o (cov b o q n h)
  have U := I.base
  rw [hex] at U
  have fr : ∀ b ∈ frs X.outer, X.H₀ b = none := I.ok.frf
  have kp2 : ∀ b o, s1.heap.get? b = some o → b ∉ frs X.outer → ((∃ o', X.s₀.heap.get? b = some o') ∨ H b ≠ none) → h2.get? b = some o := fun b o q n h => kp b o q (I.frameless hst hf n h) h
  obtain ⟨u2, k2⟩ := Un.slots (s := X.s₀) (s' := s1) I.ok.funs fr U I.hok kp2 x4
  refine ⟨⟨ea, a0, B, rfl, x1, fun b o q n h => ?_⟩, I.os, I.bare, u2, k2⟩
  have nf := I.frameless hst hf n h
  obtain ⟨o3, q3⟩ : ∃ o3, s1.heap.get? b = some o3 := by
    rcases h with ⟨o', q'⟩ | h
    · exact U.there b o' q' (by simp)
    · cases hb : H b with
      | none => exact absurd hb h
      | some u => exact (I.hok b u hb).got
  have hB := cov b o3 q3 nf h
  have := x1.1 b o3 hB
  have q : h2.get? b = some o := q
  rw [q] at this
  cases this
  exact hB
theorem leave_fly {M : Model} (I : Inv X pins σ H s) (hex : X.ex = []) (hst : X.stack = X.env :: X.outer) (hf : X.env.frame = some X.env.locals) (F : Fly X.prog X.w X.stack H s c H' e s') :
    wpAny M X.A (leaving X.env e) (fun _ s'' => Fly X.prog X.w X.outer X.H₀ X.s₀ c H' e s'') E s' := by
  obtain ⟨ea, a0, B, rfl, fl, cov⟩ := F.ex
  have I' := F.inv I
  have hfr : X.A.frames = some (X.env :: X.outer) := by rw [I.ok.frames, hst]
  rw [hst] at fl
  refine wpAny_leaves_onW hfr hf fl fun h2 x1 x4 => ?_
  refine I'.landed hex hst hf (fun b o q n h => cov b o q n ?_) x1 x4
  rcases h with ⟨o', q'⟩ | h
  · left
    exact I.base.there b o' q' (by rw [hex]; simp)
  · exact .inr h
theorem leave_made {M : Model} {h' : Heap} {ea : Addr} {vs : List Value} (I : Inv X pins σ H s) (hex : X.ex = []) (hst : X.stack = X.env :: X.outer) (hf : X.env.frame = some X.env.locals) (hx : Heap.MadeExcOf s.heap h' ea c vs) :
    wpAny M X.A (leaving X.env (.ref ea)) (fun _ s'' => Fly X.prog X.w X.outer X.H₀ X.s₀ c H (.ref ea) s'') E { s with heap := h' } := by
  have hfr : X.A.frames = some (X.env :: X.outer) := by rw [I.ok.frames, hst]
  have hl : s.heap.FunFrames (PySem.W.hideAll s.heap (frs X.stack)) (X.env :: X.outer) := by
    have := PySem.W.funFrames_hide (as := frs X.stack) I.stack fun env he b hb => List.mem_filterMap.mpr ⟨env, he, hb⟩
    rw [hst] at this ⊢
    exact this
  refine wpAny_leaves_madeW hfr hf (fun b o q => PySem.W.of_hideAll _ q) hl hx fun h2 t x1 x2 x3 x4 => ?_
  have x4' : s.heap.UpToSlots h2 := (Heap.UpToSlots.of_keeps hx.keeps).trans x4
  exact I.landed hex hst hf (fun b o q n h => PySem.W.hideAll_get _ q n) x1 x4'
end

/-- a call's exception reaches what is wanted: R of the class, the names' values and the heap -/
def XPass (X : Cx) (R : Value → St → Hp → Prop) : Prop :=
  ∀ (pins : List (Addr × Obj)) (σ : St) (H : Hp) (s : Shared) (e : Value) (s' : Shared) (c : Value) (H' : Hp), Inv X pins σ H s → Fly X.prog X.w X.stack H s c H' e s' → R c σ H' → X.xe e s'
/-- what is wanted of exceptions in a body: R of the class, the names' values and the heap -/
structure XOk (X : Cx) (R : Value → St → Hp → Prop) : Prop where
  made : ∀ (pins : List (Addr × Obj)) (σ : St) (H : Hp) (s : Shared) (ea : Addr) (vs : List Value) (c : Value) (h' : Heap), Inv X pins σ H s → Heap.MadeExcOf s.heap h' ea c vs → R c σ H → X.xe (.ref ea) { s with heap := h' }
  pass : XPass X R
section
variable {P : Program} {w : World} {K : PySem.W.Frag} {mg : Str → Option Value} {base : Heap} {N ps : List Str} {qual : Str} {scope : Scope} {f : Addr} {cd : Value} {A : Around} {outer : List Env} {s : Shared} {H : Hp} {E : XK}
/-- in a def's body: it leaves the frame -/
theorem xok_fn : XOk (cxOf (CXE P w) P w K mg base N qual scope f cd A outer s H E) (fun c _ H' => E c none H') where
  made := fun pins σ H1 s1 ea vs c h' I hx r => wpAny_mono (leave_made (E := fun _ _ => False) I rfl rfl rfl hx) (fun _ s'' F => ⟨c, H1, F, r⟩) fun _ _ z => z.elim
  pass := fun pins σ H1 s1 e s' c H' I F r => wpAny_mono (leave_fly (E := fun _ _ => False) I rfl rfl rfl F) (fun _ s'' F => ⟨c, H', F, r⟩) fun _ _ z => z.elim
theorem own_fn : PassesOwn (model P w) (cxOf (CXE P w) P w K mg base N qual scope f cd A outer s H E).A (cxOf (CXE P w) P w K mg base N qual scope f cd A outer s H E).env (cxOf (CXE P w) P w K mg base N qual scope f cd A outer s H E).xe :=
  PassesOwn.leaving
end
section
variable {P : Program} {w : World} {K : PySem.W.Frag} {mg : Str → Option Value} {base : Heap}
/-- THE RULE for a def that may raise -/
theorem Fun.okX {x qual : Str} {st : Stmt} {f : Addr} {fd : FuncData} {N ps : List Str} {k : Nat} {sp : Sp} (F : Fun K x qual st f fd) (S : FnScope N ps (defScope st)) (len : ∀ vs H Q E, sp vs H Q E → vs.length = ps.length)
    (hbody : ∀ (cdv : Value) (A : Around) (outer : List Env) (s : Shared) (H : Hp) (vs : List V) (Q : VK) (E : XK), Room k (A.deeper (envOfC qual (defScope st) s.heap.objs.size f cdv)) → sp vs H Q E →
      ∃ t, PSs (cxOf (CXE P w) P w K mg base N qual (defScope st) f cdv A outer s H E) (defBody st) t ∧ t { nx := fun _ H' => Q .non H', rt := Q } (start N vs) H) : FnOk P w K mg base (CXE P w) (k + 1) f fd ps sp := by
  obtain ⟨oc, od, kV, doc, pm, an, cdv, ct, osl, rfl, lk, hcd⟩ := F.ex
  exact fn_of lk hcd S len fun A outer s H vs Q E hr hsp => hbody cdv A outer s H vs Q E hr hsp
end

section
variable {X : Cx} {k : Nat} {f C : Addr} {fd : FuncData} {ps : List Str} {sp : Sp} {dvs : List V} {ds : List Value} {R : Value → St → Hp → Prop} {x m : Str} {p pos apos np cpos : Pos} {e o : Expr} {es : List Expr} {ta : TE} {t : TA}
def tMethX (C : Addr) (m : Str) (sp : Sp) (dvs : List V) (R : Value → St → Hp → Prop) (ta : TE) (t : TA) : TE := fun σ H Q => ta σ H fun x H1 => ∃ a dx fs, x = .ref a ∧ H1 a = some (.ins C dx fs) ∧ fs.lookup m = none ∧
  t σ H1 fun vs H2 => sp (x :: (vs ++ dvs)) H2 Q fun c _ H' => R c σ H'
theorem run_fnX {pins : List (Addr × Obj)} {σ : St} {H : Hp} {s : Shared} {Q : VK} {us : List Value} {vs : List V} (F : FnOk X.prog X.w X.K X.mg X.base (CXE X.prog X.w) k f fd ps sp) (hr : Room k X.A) (hb : Binds X.K fd ps ds) (hd : Vals dvs ds) (hx : XPass X R)
    (I : Inv X pins σ H s) (r : Vals vs us) (h : sp (vs ++ dvs) H Q fun c _ H' => R c σ H') : wpAny (model X.prog X.w) X.A (call (.ref f) us) (EP X pins σ Q) X.xe s := by
  have r2 : Vals (vs ++ dvs) (us ++ ds) := r.append hd
  have hl : (us ++ ds).length = ps.length := by rw [← r2.length]; exact F.len _ _ _ _ h
  refine wpAny_call (codeAny_mono (F.run X.A X.stack s H ⟨us, []⟩ (us ++ ds) (vs ++ dvs) Q _ hr I.env0 (hb s us I.kIn hl) r2 h) fun r s' hq => ?_)
  cases r with
  | error e =>
    obtain ⟨c, H', F', q⟩ := hq
    exact hx pins σ H s e s' c H' I F' q
  | ok fl =>
    cases fl with
    | ret u => exact I.after hq
    | next => exact False.elim hq
    | brk => exact False.elim hq
    | cont => exact False.elim hq
theorem pe_methX {pl : Sem Bool} (he : PE X o ta) (c : Cls X.K C) (hm : Meth X.K C m f) (F : FnOk X.prog X.w X.K X.mg X.base (CXE X.prog X.w) k f fd ps sp) (hr : Room k X.A) (hb : Binds X.K fd ps ds) (hd : Vals dvs ds) (hx : XPass X R) (ha : PA X (e :: es) t)
    (hst : starEach (e :: es) X.env = (false, eval e X.env) :: starEach es X.env := by rfl) (hpl : (backTo pos (starEach es X.env)).any (·.1) = false := by rfl)
    (ht : eval (.Call (.Attribute o m apos) (e :: es) [] pos) X.env = (do
      let ov ← eval o X.env
      standAt apos.atName
      let (f, first) ← holding [ov] (getMethod ov m pl)
      callWith pos f first (backTo pos (starEach (e :: es) X.env)) (backToKw pos (keywordEach [] X.env))) := by rfl) :
    PE X (.Call (.Attribute o m apos) (e :: es) [] pos) (tMethX C m sp dvs R ta t) := by
  intro pins s σ H Q I h
  refine PySem.W.methodCall_KW (pl := pl) (thn (he pins s σ H _ I h) fun u s1 ⟨x, H1, I1, rx, a, dx, fs, ex, ea, l, q⟩ => ?_) ht
  subst ex
  obtain rfl : u = Value.ref a := rx
  refine getmeth_ok I1 ea c hm l ?_
  refine PySem.W.callWith_K (first := [.ref a]) (h₀ := X.base) I.ok.mod.kin hm.kp (thn (ha pos pins s1 σ H1 _ I1 q) fun us s2 ⟨vs, H2, I2, r, q2⟩ => ⟨I2.kIn, ?_⟩) hst hpl
  exact run_fnX (us := .ref a :: us) (vs := .ref a :: vs) F hr hb hd hx I2 (.cons rfl r) q2

/-! raise C(..) -/
structure XCls (K : PySem.W.Frag) (mg : Str → Option Value) (x : Str) (C : Addr) : Prop where
  bound : mg x = some (.ref C)
  exc : PySem.W.excIn K C [.type "ValueError", .type "Exception", .type "BaseException", .type "object"] "ValueError.__new__" = true
theorem XCls.own {K : PySem.W.Frag} {mg : Str → Option Value} {x : Str} {C : Addr} {h : Heap} (c : XCls K mg x C) (KX : K.In h) : OwnCls x C [.type "ValueError", .type "Exception", .type "BaseException", .type "object"] "ValueError.__new__" mg h := by
  refine ⟨c.bound, ?_⟩
  have q := c.exc
  unfold PySem.W.excIn at q
  split at q
  · rename_i dd cd sl ho
    split at q
    · rename_i C' bm k0 k1 k2 k3 n k5 hm hs
      simp only [Bool.and_eq_true, beq_iff_eq, Bool.not_eq_true'] at q
      obtain ⟨⟨⟨⟨⟨rfl, rfl⟩, hdel⟩, ht⟩, hok⟩, hni⟩ := q
      obtain ⟨nm, bs, mro, ns, qn, hd, sn, sub, ab, col, del⟩ := cd
      dsimp only at hm hdel hok hni
      subst hm hdel
      have hsl : sl = #[k0, k1, k2, k3, some (.builtin "ValueError.__new__"), k5] := by
        obtain ⟨l⟩ := sl
        simp only at hs
        rw [hs]
      subst hsl
      exact ⟨bm, ns, nm, qn, bs, hd, sn, sub, ab, col, dd, k0, k1, k2, k3, k5, _, KX _ _ ho, .of_isNs (PySem.W.isNs_of_in KX hok), PySem.W.nsMap_none_of_in KX hok hni, PySem.W.tail_of_in KX ht⟩
    · cases q
  · cases q
def tRaise (R : Value → St → Hp → Prop) (C : Addr) (t : TA) : TS := fun _ σ H => t σ H fun vs H1 => vs.length ≤ sizeLine ∧ R (.ref C) σ H1
theorem ps_raise (hx : XOk X R) (hc : X.calm = true) (hg : Gl X x) (c : XCls X.K X.mg x C) (ha : PA X (e :: es) t) (hdb : (x == ("__debug__" : Str)) = false := by decide)
    (he : starEach (e :: es) X.env = (false, eval e X.env) :: starEach es X.env := by rfl) (hpl : (backTo cpos (starEach (e :: es) X.env)).any (·.1) = false := by rfl) :
    PS X (.Raise (some (.Call (.Name x np) (e :: es) [] cpos)) none pos) (tRaise R C t) := by
  intro pins s σ H D I h
  obtain ⟨tl, N, nm, q, bs, hdct, sn, sub, ab, col, dd, k0, k1, k2, k3, k5, mN, hC, hN, hni, T⟩ := (c.own I.ok.mod.kin).obj
  refine wpAny_Raise_call_subT (C := C) (nm := nm) (q := q) (N := N) (bs := bs) (bm := tl) (hdct := hdct) (sn := sn) (sub := sub) (ab := ab) (col := col) (dd := dd) (k0 := k0) (k1 := k1) (k2 := k2) (k3 := k3) (k5 := k5)
    PySem.F.excBase_ValueError (mN := mN) (T.hasType PySem.F.excBase_ValueError.hasBase) (I.ok.hd hc) hpl hni (ld_glob I hg c.bound ⟨rfl, ?_⟩ hdb)
  have key : wpAny (model X.prog X.w) X.A (spliced (backTo cpos (starEach (e :: es) X.env))) (fun vs s₂ => vs.length ≤ sizeLine ∧ (∀ b o, X.base.get? b = some o → s₂.heap.get? b = some o) ∧ ∀ h' e, Heap.MadeExcOf s₂.heap h' e (.ref C) vs → X.xe (.ref e) { s₂ with heap := h' }) X.xe s :=
    thn (ha cpos pins s σ H _ I h) fun us s2 ⟨vs, H2, I2, r, hl, q⟩ => ⟨by rw [← r.length]; exact hl, I2.bk, fun h' ea hm => hx.made pins σ H2 s2 ea us (.ref C) h' I2 hm q⟩
  rw [he] at key ⊢
  exact Calls.evalArgs_plain (wpAny_mono key (fun vs s₂ h₂ => ⟨rfl, h₂.1, h₂.2.1 _ _ hC, hN.keeps h₂.2.1, T.keeps h₂.2.1, h₂.2.2⟩) fun _ _ y => y)
end
end L2
namespace L2
open PySem PySem.Spec PyProof.Rows
section
variable {M : Model} {A : Around} {E : Value → Shared → Prop}
variable {nm q nm' q' : Str} {C N C' N' : Addr} {bs bm bs' bm' : List Value} {hdct hdct' : Bool} {sn sn' : List Str} {sub sub' : List Value} {ab ab' : Bool} {col col' : Option Bool} {dd dd' : Option Addr} {k0 k1 k2 k3 k5 j0 j1 j2 j3 j5 : Option Value} {newId newId' : String}
/-- of two own exception classes: is the one's exception taken by the other? -/
theorem excMatches_own {h : Heap} {g : Array GenState} {d : Drawn} {t : Nat} {os : OsState} {e : Addr} {oe : Obj} {b : Bool} {Q : Bool → Shared → Prop}
    (hC : h.get? C = some (excClassObj nm q C N bs bm hdct sn sub ab col dd k0 k1 k2 k3 k5 newId)) (hC' : h.get? C' = some (excClassObj nm' q' C' N' bs' bm' hdct' sn' sub' ab' col' dd' j0 j1 j2 j3 j5 newId'))
    (he : h.get? e = some oe) (hcls : oe.cls = .ref C) (hbase : bm'.contains (.type "BaseException") = true) (hb : (Value.ref C :: bm).contains (.ref C') = b)
    (hq : Q b ⟨h, g, d, t, os⟩) : wpAny M A (excMatches (.ref e) (.ref C')) Q E ⟨h, g, d, t, os⟩ := by
  have hcB : (Value.ref C' :: bm').contains (.type "BaseException") = true := by rw [List.contains_cons, hbase, Bool.or_true]
  have f := tc_notTuple
  unfold excMatches
  repeat (first | (with_reducible refine wpAny_loadPart_at he ?_; rw [hcls]) | with_reducible refine wpAny_loadPart_at hC' ?_ | (with_reducible refine wpAny_isSubtype_exc hC' ?_; rw [hcB]) | (with_reducible refine wpAny_isSubtype_exc hC ?_; rw [hb]) | wp_step)
  all_goals (cases b <;> first | exact hq | (wp_walk; exact hq))
end

theorem XCls.obj {K : PySem.W.Frag} {mg : Str → Option Value} {x : Str} {C : Addr} {h : Heap} (c : PySem.W.excIn K C [.type "ValueError", .type "Exception", .type "BaseException", .type "object"] "ValueError.__new__" = true) (KX : K.In h) :
    ∃ bm N nm q bs hdct sn sub ab col dd k0 k1 k2 k3 k5, h.get? C = some (excClassObj nm q C N bs bm hdct sn sub ab col dd k0 k1 k2 k3 k5 "ValueError.__new__") ∧ bm.contains (.type "BaseException") = true ∧ ∀ v, PySem.W.mroIn K C v = some ((Value.ref C :: bm).contains v) := by
  have q := c
  unfold PySem.W.excIn at q
  split at q
  · rename_i dd cd sl ho
    split at q
    · rename_i C' bm k0 k1 k2 k3 n k5 hm hs
      simp only [Bool.and_eq_true, beq_iff_eq, Bool.not_eq_true'] at q
      obtain ⟨⟨⟨⟨⟨rfl, rfl⟩, hdel⟩, ht⟩, hok⟩, hni⟩ := q
      have hmro : ∀ v, PySem.W.mroIn K C' v = some ((Value.ref C' :: bm).contains v) := fun v => by
        unfold PySem.W.mroIn PySem.W.clsIn
        rw [ho]
        simp [hm]
      obtain ⟨nm, bs, mro, ns, qn, hd, sn, sub, ab, col, del⟩ := cd
      dsimp only at hm hdel hok hni
      subst hm hdel
      have hsl : sl = #[k0, k1, k2, k3, some (.builtin "ValueError.__new__"), k5] := by
        obtain ⟨l⟩ := sl
        simp only at hs
        rw [hs]
      subst hsl
      exact ⟨bm, ns, nm, qn, bs, hd, sn, sub, ab, col, dd, k0, k1, k2, k3, k5, KX _ _ ho, (PySem.W.tail_of_in KX ht).hasType (by decide), hmro⟩
    · cases q
  · cases q

/-- the context of an except suite, where nothing is raised -/
abbrev Cx.hdl (X : Cx) (e : Value) : Cx := { X with A := X.A.mark (some e), calm := false, xe := fun _ _ => False }
section
variable {X : Cx} {pins : List (Addr × Obj)} {σ : St} {H H0 : Hp} {s sc : Shared} {c e : Value}
theorem Inv.hdl (I : Inv X pins σ H s) (e : Value) : Inv (X.hdl e) pins σ H s := by
  obtain ⟨ok, os, bare, bs, loc, cell, free, freeC, pin, hok, len⟩ := I
  obtain ⟨o1, o2, o3, o4, o5, o6, o7, o8, o9, o10, o11, o12, o13, o14, o15, o16, o17, o18⟩ := ok
  exact ⟨⟨o1, o2, o3, o4, o5, o6, o7, o8, (fun z => nomatch z), o10, o11, o12, o13, o14, o15, o16, o17, o18⟩, os, bare, bs, loc, cell, free, freeC, pin, hok, len⟩
theorem Inv.unhdl {e : Value} (ok : X.Ok) (I : Inv (X.hdl e) pins σ H s) : Inv X pins σ H s := by
  obtain ⟨_, os, bare, bs, loc, cell, free, freeC, pin, hok, len⟩ := I
  exact ⟨ok, os, bare, bs, loc, cell, free, freeC, pin, hok, len⟩
/-- the exception's record turns on: it flies as before -/
theorem Fly.move {B : Heap} {ea : Addr} {a0 : Value} {l : List Env} {P : Program} {w : World} {base : Heap} (hf : sc.heap.FunFrames base l) (fr : ∀ b ∈ frs l, H0 b = none) (F : Fly P w l H0 sc c H (.ref ea) s)
    (cov : ∀ b o, s.heap.get? b = some o → b ∉ frs l → ((∃ o', sc.heap.get? b = some o') ∨ H b ≠ none) → B.get? b = some o) {h2 : Heap} (x1 : Heap.FlyingW B l ea c a0 h2) (x4 : s.heap.UpToSlots h2) : Fly P w l H0 sc c H (.ref ea) { s with heap := h2 } := by
  obtain ⟨u2, k2⟩ := Un.slots hf fr F.un F.hok (fun b o q n h => x1.1 b o (cov b o q n h)) x4
  refine ⟨⟨ea, a0, B, rfl, x1, fun b o q n h => ?_⟩, F.os, F.bare, u2, k2⟩
  obtain ⟨o3, q3⟩ : ∃ o3, s.heap.get? b = some o3 := by
    rcases h with ⟨o', q'⟩ | h
    · exact F.un.there b o' q' (by simp)
    · cases hb : H b with
      | none => exact absurd hb h
      | some u => exact (F.hok b u hb).got
  have hB := cov b o3 q3 n h
  have := x1.1 b o3 hB
  have q : h2.get? b = some o := q
  rw [q] at this
  cases this
  exact hB
end

/-- what the clauses do with an exception of the class c -/
def PH (X : Cx) (hs : List ExceptHandler) (th : Value → TS) : Prop :=
  ∀ (c e : Value) (pins : List (Addr × Obj)) (σ : St) (H0 H : Hp) (D : Ends) (sc s : Shared), Inv X pins σ H0 sc → Fly X.prog X.w X.stack H0 sc c H e s → th c D σ H → wpAny (model X.prog X.w) X.A (handleBy e X.env hs) (SP X pins D) X.xe s
/-- an own class with an own class's exception: its suite, or the next clause -/
def tHc (K : PySem.W.Frag) (C : Addr) (ts : TS) (rest : Value → TS) : Value → TS := fun c D σ H => ∃ C0 b, c = .ref C0 ∧ PySem.W.excIn K C0 [.type "ValueError", .type "Exception", .type "BaseException", .type "object"] "ValueError.__new__" = true ∧
  PySem.W.mroIn K C0 (.ref C) = some b ∧ if b = true then ts D σ H else rest c D σ H
def tHnil : Value → TS := fun _ _ _ _ => False
section
variable {X : Cx} {x : Str} {C : Addr} {np hpos pos : Pos} {b₀ : Stmt} {suite body : List Stmt} {rest hs : List ExceptHandler} {h₀ : ExceptHandler} {ts : TS} {tr : Value → TS}
theorem ph_nil : PH X [] tHnil := fun _ _ _ _ _ _ _ _ _ _ _ h => h.elim
theorem ph_own (hst : X.stack = X.env :: X.outer) (hf : X.env.frame = some X.env.locals) (hg : Gl X x) (c : XCls X.K X.mg x C) (hts : ∀ e, PSs (X.hdl e) (b₀ :: suite) ts) (hr : PH X rest tr) (hdb : (x == ("__debug__" : Str)) = false := by decide) :
    PH X (.ExceptHandler (some (.Name x np)) none (b₀ :: suite) hpos :: rest) (tHc X.K C ts tr) := by
  intro cv e pins σ H0 H D sc s I0 F h
  obtain ⟨ea, a0, B, rfl, fl, cov⟩ := id F.ex
  obtain ⟨C0, b, rfl, q0, hm, h⟩ := h
  have I := F.inv I0
  obtain ⟨bm, N, nm, q, bs, hdct, sn, sub, ab, col, dd, k0, k1, k2, k3, k5, hC0, _, hmro⟩ := XCls.obj (mg := X.mg) (x := x) q0 I.kIn
  obtain ⟨bm', N', nm', q', bs', hdct', sn', sub', ab', col', dd', j0, j1, j2, j3, j5, hC, hbase, _⟩ := XCls.obj (mg := X.mg) (x := x) c.exc I.kIn
  obtain ⟨ob, hob, hobc⟩ := fl.there
  have hb : (Value.ref C0 :: bm).contains (.ref C) = b := Option.some.inj ((hmro _).symm.trans hm)
  refine wpAny_handleBy_cons (codeAny_handlers_test (Calls.Name_function_global I.ok.kind hg (Calls.loadGlobal_global (by rw [I.ok.glob]; exact I.mod.glob.keeps I.bk) c.bound ?_) hdb)) (by intro q; cases q)
  obtain ⟨hp, gs, dr, tk, os⟩ := s
  refine excMatches_own hC0 hC hob hobc hbase hb ?_
  cases b with
  | false => exact hr _ _ pins σ H0 H D sc _ I0 F h
  | true =>
    refine codeAny_handlers_suite (lands_againW fl fun h6 fl6 sm6 => ?_)
    have F6 := F.move I0.stack I0.stkFree cov fl6 sm6
    have I6 := F6.inv I0
    refine wpAny_mono (hts (.ref ea) pins _ σ H D (I6.hdl _) h) (fun f s2 q2 => ?_) fun _ _ z => z.elim
    cases f with
    | next => obtain ⟨σ', H', J, q⟩ := q2; exact ⟨σ', H', J.unhdl I.ok, q⟩
    | brk => obtain ⟨σ', H', J, q⟩ := q2; exact ⟨σ', H', J.unhdl I.ok, q⟩
    | cont => obtain ⟨σ', H', J, q⟩ := q2; exact ⟨σ', H', J.unhdl I.ok, q⟩
    | ret u => obtain ⟨v, σ', H', J, r, q⟩ := q2; exact ⟨v, σ', H', J.unhdl I.ok, r, q⟩

/-- try: a call in the body may raise; the clauses take it -/
def tTry (tb : (Value → St → Hp → Prop) → TS) (th : Value → TS) : TS := fun D σ H => tb (fun c σ' H' => th c D σ' H') D σ H
/-- the context of a try's body: xe what is wanted of exceptions, pn the pins that are kept through it -/
abbrev Cx.tryd (X : Cx) (pn : List (Addr × Obj)) (xe : Value → Shared → Prop) : Cx := { X with pn := pn, xe := xe }
theorem Inv.tryd {pins : List (Addr × Obj)} {σ : St} {H : Hp} {s : Shared} (I : Inv X pins σ H s) (xe : Value → Shared → Prop) : Inv (X.tryd (X.pn ++ pins) xe) [] σ H s := by
  obtain ⟨ok, os, bare, bs, loc, cell, free, freeC, pin, hok, len⟩ := I
  obtain ⟨o1, o2, o3, o4, o5, o6, o7, o8, o9, o10, o11, o12, o13, o14, o15, o16, o17, o18⟩ := ok
  exact ⟨⟨o1, o2, o3, o4, o5, o6, o7, o8, o9, o10, o11, o12, o13, o14, o15, o16, o17, o18⟩, os, bare, bs, loc, cell, free, freeC, (fun p hp => pin p (by rwa [List.append_nil] at hp)), hok, len⟩
theorem Inv.untryd {pins pins' : List (Addr × Obj)} {σ : St} {H : Hp} {s : Shared} {xe : Value → Shared → Prop} (ok : X.Ok) (I : Inv (X.tryd (X.pn ++ pins) xe) pins' σ H s) : Inv X pins σ H s := by
  obtain ⟨_, os, bare, bs, loc, cell, free, freeC, pin, hok, len⟩ := I
  exact ⟨ok, os, bare, bs, loc, cell, free, freeC, (fun p hp => pin p (List.mem_append_left _ hp)), hok, len⟩
theorem ps_try (hst : X.stack = X.env :: X.outer) (hf : X.env.frame = some X.env.locals) (tb : (Value → St → Hp → Prop) → TS)
    (hb : ∀ (R : Value → St → Hp → Prop) (pn : List (Addr × Obj)) (xe : Value → Shared → Prop), XPass (X.tryd pn xe) R → PSs (X.tryd pn xe) body (tb R)) (hh : PH X (h₀ :: hs) tr) :
    PS X (.Try body (h₀ :: hs) [] [] pos) (tTry tb tr) := by
  intro pins s σ H D I h
  refine wpAny_Try_except (wpAny_mono (hb (fun c σ' H' => tr c D σ' H') (X.pn ++ pins) (fun e s1 => wpAny (model X.prog X.w) X.A (noteFrame e X.env) (fun _ s₂ => wpAny (model X.prog X.w) X.A (setFlight e none) (fun _ s₃ => wpAny (model X.prog X.w) X.A (handleBy e X.env (h₀ :: hs)) (SP X pins D) X.xe s₃) X.xe s₂) X.xe s1) ?_ [] s σ H D (I.tryd _) h) (fun f s1 q => ?_) fun _ _ z => z)
  · intro pins' σ1 H1 s1 e s1' c H' I1 F r
    have J : Inv X pins σ1 H1 s1 := I1.untryd I.ok
    have F : Fly X.prog X.w X.stack H1 s1 c H' e s1' := F
    obtain ⟨ea, a0, B, rfl, fl, cov⟩ := id F.ex
    have hfr : X.A.frames = some (X.env :: X.outer) := by rw [I.ok.frames, hst]
    have fl' := fl
    rw [hst] at fl'
    show wpAny (model X.prog X.w) X.A (noteFrame (.ref ea) X.env) _ X.xe s1'
    refine wpAny_looks_onW hfr hf fl' fun h4 held4 sm4 => ?_
    refine wpAny_landsW held4 fun h5 fl5 sm5 => ?_
    rw [← hst] at fl5
    have F5 := F.move J.stack J.stkFree cov fl5 (sm4.trans sm5)
    exact hh c (.ref ea) pins σ1 H1 H' D s1 _ J F5 r
  · cases f with
    | next => obtain ⟨σ', H', J, q⟩ := q; exact wpAny_execs_nil ⟨σ', H', J.untryd I.ok, q⟩
    | brk => obtain ⟨σ', H', J, q⟩ := q; exact ⟨σ', H', J.untryd I.ok, q⟩
    | cont => obtain ⟨σ', H', J, q⟩ := q; exact ⟨σ', H', J.untryd I.ok, q⟩
    | ret u => obtain ⟨v, σ', H', J, r, q⟩ := q; exact ⟨v, σ', H', J.untryd I.ok, r, q⟩
end
end L2
/-! ### list comprehensions -/
namespace L2
open PySem PySem.Spec PyProof.Rows

def clFrom (cells : List (Str × Addr)) : List (Str × NameKind) → List (Str × Addr) → List (Str × Addr)
  | [], acc => acc
  | (n, k) :: r, acc => clFrom cells r (if k == .free then (n, (cells.lookup n).getD 0) :: acc else acc)
theorem closureFor_eq {scope : Scope} {env : Env} (h : ∀ p ∈ scope.names, p.2 = .free → ∃ c, env.cells.lookup p.1 = some c) : closureFor scope env = pure (clFrom env.cells scope.names []) := by
  simp only [closureFor]
  have key : ∀ (l : List (Str × NameKind)) (acc : List (Str × Addr)), (∀ p ∈ l, p.2 = .free → ∃ c, env.cells.lookup p.1 = some c) →
      (forIn l acc fun x r => if (x.2 == NameKind.free) = true then (do let a ← cellOf env x.1; pure (ForInStep.yield ((x.1, a) :: r))) else pure (ForInStep.yield r) : Sem (List (Str × Addr))) = pure (clFrom env.cells l acc) := by
    intro l
    induction l with
    | nil => intro acc _; rfl
    | cons p r ih =>
      intro acc hl
      obtain ⟨n, k⟩ := p
      rw [List.forIn_cons]
      by_cases hk : k = .free
      · subst hk
        obtain ⟨c, hc⟩ := hl (n, .free) List.mem_cons_self rfl
        have hce : cellOf env n = pure c := by unfold cellOf; rw [hc]
        simp only [beq_self_eq_true, if_true, hce, pure_bind]
        rw [ih _ fun p hp => hl p (List.mem_cons_of_mem _ hp)]
        simp only [clFrom, beq_self_eq_true, if_true, hc, Option.getD_some]
      · have hb : (k == NameKind.free) = false := by simpa using hk
        simp only [hb, Bool.false_eq_true, if_false, pure_bind]
        rw [ih _ fun p hp => hl p (List.mem_cons_of_mem _ hp)]
        simp only [clFrom, hb, Bool.false_eq_true, if_false]
  have := key scope.names [] h
  simp only [bind_pure] at this ⊢
  exact this
theorem clFrom_mem {cells : List (Str × Addr)} {x : Str} {c : Addr} : ∀ {l : List (Str × NameKind)} {acc : List (Str × Addr)}, (x, c) ∈ clFrom cells l acc → (x, c) ∈ acc ∨ (x, NameKind.free) ∈ l ∧ c = (cells.lookup x).getD 0
  | [], acc, h => .inl h
  | (n, k) :: r, acc, h => by
    unfold clFrom at h
    rcases clFrom_mem h with g | ⟨h1, h2⟩
    · split at g
      · rename_i hk
        have hk : k = .free := by simpa using hk
        subst hk
        rcases List.mem_cons.mp g with g | g
        · cases g
          exact .inr ⟨List.mem_cons_self, rfl⟩
        · exact .inl g
      · exact .inl g
    · exact .inr ⟨List.mem_cons_of_mem _ h1, h2⟩
theorem clFrom_acc {cells : List (Str × Addr)} {p : Str × Addr} : ∀ {l : List (Str × NameKind)} {acc : List (Str × Addr)}, p ∈ acc → p ∈ clFrom cells l acc
  | [], _, h => h
  | (n, k) :: r, acc, h => by
    unfold clFrom
    refine clFrom_acc ?_
    split
    · exact List.mem_cons_of_mem _ h
    · exact h
theorem clFrom_has {cells : List (Str × Addr)} {x : Str} : ∀ {l : List (Str × NameKind)} {acc : List (Str × Addr)}, (x, NameKind.free) ∈ l → (x, (cells.lookup x).getD 0) ∈ clFrom cells l acc
  | (n, k) :: r, acc, h => by
    unfold clFrom
    rcases List.mem_cons.mp h with h | h
    · cases h
      refine clFrom_acc ?_
      simp
    · exact clFrom_has h
theorem lookup_of_mem {l : List (Str × Addr)} {x : Str} {c : Addr} (h : (x, c) ∈ l) : ∃ c', l.lookup x = some c' := by
  induction l with
  | nil => cases h
  | cons p r ih =>
    obtain ⟨n, d⟩ := p
    rw [List.lookup_cons]
    cases hb : x == n with
    | true => exact ⟨d, rfl⟩
    | false =>
      rcases List.mem_cons.mp h with h | h
      · cases h; simp at hb
      · exact ih h

/-- how a comprehension's names stand: N' its names, ix whence (none: its own) -/
structure CompSc (X : Cx) (scope : Scope) (N' : List Str) (ix : List (Option Nat)) : Prop where
  kind : scope.kind = .function
  nocell : ∀ y ∈ scope.names, y.2 ≠ .cell
  names : ∀ y ∈ scope.names, y.2 = .local → scope.names.lookup y.1 = some .local
  frees : ∀ y ∈ scope.names, y.2 = .free → scope.names.lookup y.1 = some .free ∧ (X.env.kindOf y.1 = some .cell ∨ X.env.kindOf y.1 = some .free)
  len : ix.length = N'.length
  cap : ∀ (i : Nat) (x : Str) (j : Nat), N'[i]? = some x → ix[i]? = some (some j) → X.N[j]? = some x ∧ scope.names.lookup x = some .free
def st0 (ix : List (Option Nat)) (σ : St) : St := ix.map fun o => o.bind fun j => (σ[j]?).bind id

abbrev Cx.comp (X : Cx) (scope : Scope) (N' : List Str) (C : Addr) (s : Shared) (H : Hp) (fp : List Addr) (pins : List (Addr × Obj)) : Cx :=
  { X with N := N', s₀ := s, H₀ := H, env := compEnvC scope (clFrom X.env.cells scope.names []) C X.env, outer := X.stack, stack := X.stack, ex := fp, fn := fun x => ((clFrom X.env.cells scope.names []).lookup x).isNone, pn := X.pn ++ pins, xe := fun _ _ => False }

theorem lookup_relabel_free {env : Env} : ∀ {names : List (Str × NameKind)} {x : Str} {k : NameKind}, names.lookup x = some k →
    (names.map fun (n, k) => if (k == NameKind.free && env.scope.kind == .function && env.kindOf n == some .cell) then (n, NameKind.cell) else (n, k)).lookup x = some (if (k == NameKind.free && env.scope.kind == .function && env.kindOf x == some .cell) then .cell else k)
  | [], _, _, h => by simp at h
  | (n, k) :: r, x, k', h => by
    have ih := @lookup_relabel_free env r x k'
    show List.lookup x ((if (k == NameKind.free && env.scope.kind == .function && env.kindOf n == some .cell) = true then (n, NameKind.cell) else (n, k)) :: _) = _
    cases hx : x == n with
    | true =>
      simp only [List.lookup_cons, hx] at h
      cases h
      have hxn : x = n := by simpa using hx
      subst hxn
      split <;> simp [List.lookup_cons]
    | false =>
      simp only [List.lookup_cons, hx] at h
      split <;> (simp only [List.lookup_cons, hx]; exact ih h)
theorem lookup_relabel_none {env : Env} : ∀ {names : List (Str × NameKind)} {x : Str}, names.lookup x = none →
    (names.map fun (n, k) => if (k == NameKind.free && env.scope.kind == .function && env.kindOf n == some .cell) then (n, NameKind.cell) else (n, k)).lookup x = none
  | [], _, _ => rfl
  | (n, k) :: r, x, h => by
    have ih := @lookup_relabel_none env r x
    show List.lookup x ((if (k == NameKind.free && env.scope.kind == .function && env.kindOf n == some .cell) = true then (n, NameKind.cell) else (n, k)) :: _) = _
    cases hx : x == n with
    | true => simp only [List.lookup_cons, hx] at h; cases h
    | false =>
      simp only [List.lookup_cons, hx] at h
      split <;> (simp only [List.lookup_cons, hx]; exact ih h)

section
variable {X : Cx} {scope : Scope} {N' : List Str} {ix : List (Option Nat)} {pins : List (Addr × Obj)} {σ : St} {H : Hp} {s : Shared}
theorem CompSc.cells (S : CompSc X scope N' ix) (I : Inv X pins σ H s) : ∀ p ∈ scope.names, p.2 = .free → ∃ c, X.env.cells.lookup p.1 = some c := fun p hp hk => I.ok.has p.1 (S.frees p hp hk).2
theorem CompSc.look (S : CompSc X scope N' ix) (I : Inv X pins σ H s) {x : Str} {c : Addr} (h : (clFrom X.env.cells scope.names []).lookup x = some c) : X.env.cells.lookup x = some c ∧ (x, NameKind.free) ∈ scope.names := by
  rcases clFrom_mem (PySem.mem_of_lookup h) with z | ⟨h1, h2⟩
  · cases z
  · obtain ⟨c', hc'⟩ := S.cells I (x, .free) h1 rfl
    rw [hc'] at h2
    rw [hc', h2]
    exact ⟨rfl, h1⟩
/-- which names are cells in the block -/
theorem CompSc.isFree (S : CompSc X scope N' ix) {C : Addr} {cl : List (Str × Addr)} {x : Str} (h : (compEnvC scope cl C X.env).kindOf x = some .cell ∨ (compEnvC scope cl C X.env).kindOf x = some .free) : (x, NameKind.free) ∈ scope.names := by
  have h : (relabel scope X.env).names.lookup x = some .cell ∨ (relabel scope X.env).names.lookup x = some .free := h
  cases hl : scope.names.lookup x with
  | none =>
    have := lookup_relabel_none (env := X.env) hl
    unfold relabel at h
    rw [this] at h
    rcases h with h | h <;> cases h
  | some k =>
    have := lookup_relabel_free (env := X.env) hl
    unfold relabel at h
    rw [this] at h
    have hm := PySem.mem_of_lookup hl
    by_cases hk : k = .free
    · rw [hk] at hm; exact hm
    · have hb : (k == NameKind.free) = false := by simpa using hk
      simp only [hb, Bool.false_and, Bool.false_eq_true, if_false] at h
      rcases h with h | h
      · cases h; exact absurd rfl (S.nocell _ hm)
      · cases h; exact hm

/-- the block's state at its start -/
theorem Inv.comp {fp : List Addr} {C acc : Addr} {h1 : Heap} {t1 : Nat} (S : CompSc X scope N' ix) (I : Inv X pins σ H s) (hc : X.calm = true) (f2 : ∀ b ∈ fp, FpOk X pins H b) (ho : ∀ b ∈ fp, ∃ o, s.heap.get? b = some o)
    (ha : acc = s.heap.objs.size) (hC : C = s.heap.objs.size + 1) (old : ∀ b o, s.heap.get? b = some o → h1.get? b = some o) (hns : h1.Ns C fun _ => none) (hacc : h1.get? acc = some { cls := .type "list", data := .seq ([] : List Value).toArray }) :
    Inv (X.comp scope N' C s H fp pins) [] (st0 ix σ) (upd H acc (.lst [])) { s with heap := h1, toks := t1 } := by
  have hfa : H acc = none := I.hok.fresh (by rw [ha]; exact Nat.le_refl _)
  have hfC : H C = none := I.hok.fresh (by rw [hC]; exact Nat.le_succ _)
  have ltC : ∀ b o, s.heap.get? b = some o → b < C ∧ b < acc := fun b o q => by
    have := Heap.lt_size q
    rw [hC, ha]
    exact ⟨Nat.lt_succ_of_lt this, this⟩
  have fpC : ∀ b ∈ fp, b < C ∧ b < acc := fun b hb => by
    obtain ⟨o, q⟩ := ho b hb
    exact ltC b o q
  have cellLt : ∀ x c, (clFrom X.env.cells scope.names []).lookup x = some c → c < C ∧ c < acc := fun x c h => by
    obtain ⟨v, o, q, _⟩ := I.cell x c (S.look I h).1
    exact ltC c o q
  have nfs : ∀ b ∈ fp, b ∉ frs X.stack := fun b hb hm => by
    obtain ⟨_, q1, q2, _⟩ := f2 b hb
    rcases List.mem_cons.mp (I.stkSub b hm) with z | z
    · exact q1 z
    · exact q2 z
  refine ⟨⟨I.ok.mod, S.kind, I.ok.glob, I.ok.blt, ?_, ?_, ?_, ?_, I.ok.hd, I.ok.frames, .inl rfl, ?_, ?_, ?_, ?_, nfs, I.stack, I.stkFree⟩, rfl, I.bare, ?_, ⟨_, hns, ?_⟩, ?_, ?_, ?_, ?_, ?_, ?_⟩
  · show s.heap.objs.size ≤ C
    rw [hC]; exact Nat.le_succ _
  · intro x y c h1 h2
    exact I.ok.inj x y c (S.look I h1).1 (S.look I h2).1
  · intro x hx
    exact lookup_of_mem (clFrom_has (S.isFree hx))
  · intro x c hfn hl
    have hfn : ((clFrom X.env.cells scope.names []).lookup x).isNone = true := hfn
    have hl : (clFrom X.env.cells scope.names []).lookup x = some c := hl
    rw [hl] at hfn
    cases hfn
  · intro b hb
    refine ⟨Nat.ne_of_lt (fpC b hb).1, fun x c hl => ?_⟩
    exact (f2 b hb).2.2.2.2.1 x c (S.look I hl).1
  · exact fun b o q => I.bs b o q
  · exact Nat.le_trans I.ok.bsz I.sz
  · intro b o q hb
    obtain ⟨_, _, _, q3, _⟩ := f2 b hb
    rcases q3 with z | z
    · exact I.ok.noex b o q z
    · exact absurd (Nat.lt_of_lt_of_le (Heap.lt_size (I.ok.bs b o q).1) z) (Nat.lt_irrefl _)
  · exact Un.laid old (by rw [ha]; exact Nat.le_refl _) hfa
  · intro i x v hN hσ hv
    have hN : N'[i]? = some x := hN
    unfold st0 at hσ
    rw [List.getElem?_map] at hσ
    cases hix : ix[i]? with
    | none => rw [hix] at hσ; cases hσ
    | some o =>
      rw [hix] at hσ
      cases o with
      | none => cases hσ
      | some j =>
        obtain ⟨hNj, hfree⟩ := S.cap i x j hN hix
        have hσj : σ[j]? = some (some v) := by
          have hσ : (σ[j]?).bind id = some v := Option.some.inj hσ
          cases hj : σ[j]? with
          | none => rw [hj] at hσ; cases hσ
          | some ov => rw [hj] at hσ; exact congrArg some hσ
        have hm := PySem.mem_of_lookup hfree
        have hk := (S.frees (x, .free) hm rfl).2
        obtain ⟨m0, hn0, hloc⟩ := I.loc
        obtain ⟨u, ru, lk⟩ := hloc j x v hNj hσj (by
          rcases hk with z | z
          · exact .inr (.inl z)
          · exact .inr (.inr z))
        refine ⟨u, ru, .inr ⟨?_, ?_⟩⟩
        · show (relabel scope X.env).names.lookup x = some .cell ∨ (relabel scope X.env).names.lookup x = some .free
          have := lookup_relabel_free (env := X.env) hfree
          unfold relabel
          rw [this]
          by_cases hz : (NameKind.free == NameKind.free && X.env.scope.kind == .function && X.env.kindOf x == some .cell) = true
          · rw [if_pos hz]; exact .inl rfl
          · rw [if_neg hz]; exact .inr rfl
        · rcases lk with ⟨z, _⟩ | ⟨_, c, hc, o, q, hd⟩
          · exfalso
            rcases hk with y | y
            · rw [y] at z; cases z
            · rw [y] at z; cases z
          · obtain ⟨c', hc'⟩ := lookup_of_mem (clFrom_has (cells := X.env.cells) (acc := []) hm)
            have e := (S.look I hc').1
            rw [hc] at e
            cases e
            exact ⟨c, hc', o, old _ _ q, hd⟩
  · intro x c hl
    obtain ⟨v, o, q, hd⟩ := I.cell x c (S.look I hl).1
    exact ⟨v, o, old _ _ q, hd⟩
  · show upd H acc (.lst []) C = none
    rw [upd_ne (by rw [hC, ha]; exact Nat.succ_ne_self _)]
    exact hfC
  · intro x c hl
    show upd H acc (.lst []) c = none
    rw [upd_ne (Nat.ne_of_lt (cellLt x c hl).2)]
    exact I.freeC x c (S.look I hl).1
  · intro p hp
    rw [List.append_nil] at hp
    obtain ⟨p1, p2, p3, p4, p5⟩ := I.pin p hp
    refine ⟨old _ _ p1, ?_, Nat.ne_of_lt (ltC _ _ p1).1, fun hm => ?_, p5⟩
    · rw [upd_ne (Nat.ne_of_lt (ltC _ _ p1).2)]; exact p2
    · rcases List.mem_cons.mp (I.stkSub _ hm) with z | z
      · exact p3 z
      · exact p4 z
  · exact I.hok.laid old (by rw [ha]; exact Nat.le_refl _) ⟨Nat.zero_le _, [], 0, .nil, hacc⟩
  · show (st0 ix σ).length = N'.length
    unfold st0
    rw [List.length_map]
    exact S.len
/-- behind the block: the def's state -/
theorem Inv.uncomp {fp : List Addr} {C : Addr} {σ' : St} {H' : Hp} {s' : Shared} {h2 : Heap} {t2 : Nat} (I : Inv X pins σ H s) (f2 : ∀ b ∈ fp, FpOk X pins H b) (hCs : s.heap.objs.size ≤ C) (J : Inv (X.comp scope N' C s H fp pins) [] σ' H' s')
    (sb : ∀ b o, b ≠ C → s'.heap.get? b = some o → h2.get? b = some o) : Inv X pins σ H' { s' with heap := h2, toks := t2 } := by
  have U : Un (frs X.stack) fp H H' s.heap s'.heap := J.base
  have neC : ∀ b o, s.heap.get? b = some o → b ≠ C := fun b o q z => absurd (Nat.lt_of_lt_of_le (Heap.lt_size q) hCs) (by rw [z]; exact Nat.lt_irrefl _)
  have U2 : Un (frs X.stack) fp H H' s.heap h2 := by
    refine ⟨fun b o q n hb hx => sb b o (neC b o q) (U.keep b o q n hb hx), fun b o q n hb hx => ?_, U.free, fun b o q hx => ?_, U.tups, U.frzs, U.tbls⟩
    · obtain ⟨sl, e⟩ := U.slot b o q n hb hx
      exact ⟨sl, sb b _ (neC b o q) e⟩
    · obtain ⟨o', e⟩ := U.there b o q hx
      exact ⟨o', sb b o' (neC b o q) e⟩
  have hk : HOk X.prog X.w H' h2 := fun a o q => (J.hok a o q).stay (fun b u hb e => sb b u (fun z => by
    have hfC : H' C = none := J.free
    rcases hb with y | y
    · rw [← y, z, hfC] at q; cases q
    · rw [z, hfC] at y; cases y) e) (fun _ z => z) fun _ _ z => z
  obtain ⟨hh, g, d, t, os'⟩ := s'
  obtain rfl : os' = s.os := J.os
  show Inv X pins σ H' { s with heap := h2, gens := g, drawn := d, toks := t2 }
  exact I.call (h' := h2) (g' := g) (d' := d) (t' := t2) (ch := fp) U2 hk J.bare fun b hb => by
    obtain ⟨q0, q1, q2, q3, q4, q5⟩ := f2 b hb
    exact ⟨q3, q1, q4, q5⟩
end

/-! the loop -/
section
variable {prog : Program} {w : World} {A : Around} {R : Result → Shared → Prop} {s : Shared}
theorem compLoop_any {elt target iter : Expr} {ifs : List Expr} {scope : Scope} {pos : Pos} {it acc : Value} {env : Env} (I : Nat → Shared → Prop)
    (turn : ∀ n s, I n s → wpAny (model prog w) A (pyNext it) (fun r s₁ => match r with
      | none => R (.ok .next) s₁
      | some v => wpAny (model prog w) A (letOwnedTupleGo target it v) (fun _ s₁' => wpAny (model prog w) A (assign target env v) (fun _ s₂ =>
          wpAny (model prog w) A (forIn ifs true fun c r => if r = true then do let ok ← isTrue c env (eval c env); pure (ForInStep.yield ok) else pure (ForInStep.yield r)) (fun ok s₃ =>
            if ok = true then wpAny (model prog w) A (eval elt env) (fun x s₄ =>
              wpAny (model prog w) A (call (.builtin "list.append") [acc, x]) (fun _ s₅ => ∃ m, m < n ∧ I m s₅) (fun _ _ => False) s₄) (fun _ _ => False) s₃
            else ∃ m, m < n ∧ I m s₃) (fun _ _ => False) s₂) (fun _ _ => False) s₁') (fun _ _ => False) s₁) (fun _ _ => False) s)
    (n : Nat) (h : I n s) :
    codeAny (model prog w) A (.compLoop (.ListComp elt [⟨target, iter, ifs, 0⟩] scope pos) 0 it acc env) R s := by
  refine codeAny_loop rfl I (fun n s hI => ?_) n h
  show wpAny _ A ((compTurn (.ListComp elt [⟨target, iter, ifs, 0⟩] scope pos) 0 it acc env).onRaise (fun x => do noteFrame x env; theTreesLotGoes x)) _ _ s
  refine wpAny_noted ?_
  rw [compTurn_list]
  refine wpAny_bind (wpAny_standAt (wpAny_bind (wpAny_mono (turn n s hI) (fun r s₁ h₁ => ?_) fun _ _ h' => h'.elim)))
  cases r with
  | none => exact wpAny_pure h₁
  | some v =>
    refine wpAny_bind (wpAny_mono h₁ (fun _ s₁' h₁' => ?_) fun _ _ h' => h'.elim)
    refine wpAny_bind (wpAny_mono h₁' (fun _ s₂ h₂ => wpAny_bind (wpAny_mono h₂ (fun ok s₃ h₃ => ?_) fun _ _ h' => h'.elim)) fun _ _ h' => h'.elim)
    cases ok with
    | false => exact wpAny_pure ⟨rfl, h₃⟩
    | true =>
      exact wpAny_bind (wpAny_bind (wpAny_mono h₃ (fun x s₄ h₄ => wpAny_bind (wpAny_mono h₄ (fun _ s₅ h₅ => wpAny_pure (wpAny_pure ⟨rfl, h₅⟩)) fun _ _ h' => h'.elim)) fun _ _ h' => h'.elim))
end

/-- the tests of a clause: none, or one -/
def PTs (X : Cx) : List Expr → TT → Prop
  | [], t => t = fun _ H Q => Q true H
  | [c], t => PT X c t
  | _, _ => False
def tTrue : TT := fun _ H Q => Q true H
theorem pts_nil {X : Cx} : PTs X [] tTrue := rfl
theorem pts_one {X : Cx} {c : Expr} {t : TT} (h : PT X c t) : PTs X [c] t := h

/-- [elt for tg in iter if c]: acc the new list -/
def tLC (wi : TI) (ix : List (Option Nat)) (g : TG) (tc : TT) (te : TE) : TE := fun σ H Q => wi σ H fun J H1 => ∀ acc, H1 acc = none → ∃ W : Nat → Nat → St → Hp → Prop, (∃ m, W 0 m (st0 ix σ) (upd H1 acc (.lst []))) ∧ ∀ i m σ2 H2, W i m σ2 H2 →
  (J.stop i H2 ∧ Q (.ref acc) H2) ∨ (J.go i H2 ∧ ∃ N : St → Hp → Prop, (∀ σ' H', N σ' H' → ∃ m', m' < m ∧ W (i + 1) m' σ' H') ∧ ∀ x H', J.yld i H2 x H' → g x σ2 H' fun σ3 H3 => tc σ3 H3 fun b H4 =>
    if b = true then te σ3 H4 fun y H5 => ∃ xs, H5 acc = some (.lst xs) ∧ xs.length < sizeLine ∧ N σ3 (upd H5 acc (.lst (xs ++ [y]))) else N σ3 H4)

section
variable {X : Cx} {scope : Scope} {N' : List Str} {ix : List (Option Nat)} {tg iter elt : Expr} {ifs : List Expr} {pos : Pos} {wi : TI} {g : TG} {tc : TT} {te : TE}
/-- the block runs -/
theorem comp_run {pins : List (Addr × Obj)} {σ : St} {H : Hp} {s : Shared} {Q : VK} {it : Addr} {fp : List Addr} {tn : Nat → Heap → Prop} {J : It} {E : Value → Shared → Prop} {RR : Value → Addr → Result → Shared → Prop}
    (S : CompSc X scope N' ix) (hc : X.calm = true) (hg : ∀ C s H fp pins, PG (X.comp scope N' C s H fp pins) tg g) (ht : ∀ C s H fp pins, PTs (X.comp scope N' C s H fp pins) ifs tc) (he : ∀ C s H fp pins, PE (X.comp scope N' C s H fp pins) elt te)
    (I : Inv X pins σ H s) (T : Turn X.prog X.w X.K tg J fp it tn) (st : tn 0 s.heap) (f2 : ∀ b ∈ fp, FpOk X pins H b)
    (hR : ∀ acc, H acc = none → ∃ W : Nat → Nat → St → Hp → Prop, (∃ m, W 0 m (st0 ix σ) (upd H acc (.lst []))) ∧ ∀ i m σ2 H2, W i m σ2 H2 →
      (J.stop i H2 ∧ Q (.ref acc) H2) ∨ (J.go i H2 ∧ ∃ N : St → Hp → Prop, (∀ σ' H', N σ' H' → ∃ m', m' < m ∧ W (i + 1) m' σ' H') ∧ ∀ x H', J.yld i H2 x H' → g x σ2 H' fun σ3 H3 => tc σ3 H3 fun b H4 =>
        if b = true then te σ3 H4 fun y H5 => ∃ xs, H5 acc = some (.lst xs) ∧ xs.length < sizeLine ∧ N σ3 (upd H5 acc (.lst (xs ++ [y]))) else N σ3 H4))
    (hRR : ∀ acc C σ' H' s', s.heap.objs.size ≤ C → Inv (X.comp scope N' C s H fp pins) [] σ' H' s' → Q (.ref acc) H' → RR (.ref acc) C (.ok .next) s') :
    wpAny (model X.prog X.w) X.A (newList []) (fun acc s₃ => wpAny (model X.prog X.w) X.A (newFunctionEnv scope X.env.globals (clFrom X.env.cells scope.names []) [] X.env.qual none .none (some X.env)) (fun cenv s₄ =>
      codeAny (model X.prog X.w) X.A (.compStart (.ListComp elt [⟨tg, iter, ifs, 0⟩] scope pos) 0 (.ref it) acc { cenv with scope := relabel scope X.env }) (RR acc cenv.locals) s₄) E s₃) E s := by
  refine wpAny_newObj_type (wpAny_newFunctionEnv S.nocell (by intro y hy; simp at hy) (fun h₁ hns₁ hsb₁ => ?_) S.kind)
  dsimp only at hns₁ hsb₁ ⊢
  generalize hH2 : s.heap.push { cls := .type "list", dict := none, data := .seq ([] : List Value).toArray } = H2 at hns₁ hsb₁ ⊢
  have hC : H2.objs.size = s.heap.objs.size + 1 := by rw [← hH2, Heap.size_push]
  have old : ∀ b o, s.heap.get? b = some o → h₁.get? b = some o := fun b o e => hsb₁.extBut b o (by have := Heap.lt_size e; rw [hC]; exact Nat.ne_of_lt (Nat.lt_succ_of_lt this)) (Heap.get?_push_of_some _ (hH2 ▸ Heap.get?_push_of_some _ e))
  have hacc : h₁.get? s.heap.objs.size = some { cls := .type "list", data := .seq ([] : List Value).toArray } := hsb₁.extBut _ _ (by rw [hC]; exact Nat.ne_of_lt (Nat.lt_succ_self _)) (Heap.get?_push_of_some _ (hH2 ▸ Heap.get?_push_size _ rfl))
  have hfa : H s.heap.objs.size = none := I.hok.fresh (Nat.le_refl _)
  have hobj := T.obj 0 s.heap st
  have I1 := Inv.comp (t1 := s.toks + ([] : List (Str × Value)).length) S I hc f2 (fun b hb => by obtain ⟨o, q, _⟩ := hobj b hb; exact ⟨o, q⟩) rfl hC old hns₁ hacc
  obtain ⟨W, ⟨m0, w0⟩, turn⟩ := hR s.heap.objs.size hfa
  have st1 : tn 0 h₁ := T.keep 0 s.heap h₁ st fun b _ o q => old b o q
  have fpX : ∀ {H' : Hp} {pl : List (Addr × Obj)}, (∀ b ∈ fp, H' b = none) → (∀ p ∈ pl, p.1 ∉ fp) → ∀ b ∈ fp, FpOk (X.comp scope N' H2.objs.size s H fp pins) pl H' b := by
    intro H' pl hn hpl b hb
    obtain ⟨q0, q1, q2, q3, q4, q5⟩ := f2 b hb
    obtain ⟨o, q, _⟩ := hobj b hb
    refine ⟨hn b hb, ?_, I1.ok.exfs b hb, .inl hb, fun x c hl => (I1.ok.exf b hb).2 x c hl, fun p hp => ?_⟩
    · exact (I1.ok.exf b hb).1
    · rcases List.mem_append.mp hp with hp | hp
      · exact q5 p hp
      · exact fun z => hpl p hp (by rw [z]; exact hb)
  have loop : codeAny (model X.prog X.w) X.A (.compLoop (.ListComp elt [⟨tg, iter, ifs, 0⟩] scope pos) 0 (.ref it) (.ref s.heap.objs.size) (compEnvC scope (clFrom X.env.cells scope.names []) H2.objs.size X.env))
      (RR (.ref s.heap.objs.size) H2.objs.size) { s with heap := h₁, toks := s.toks + ([] : List (Str × Value)).length } := by
    refine compLoop_any (fun n s' => ∃ i σ' H', Inv (X.comp scope N' H2.objs.size s H fp pins) [] σ' H' s' ∧ tn i s'.heap ∧ (∀ b ∈ fp, H' b = none) ∧ W i n σ' H') ?_ m0 ⟨0, st0 ix σ, _, I1, st1, fun b hb => ?_, w0⟩
    · rintro n s3 ⟨i, σ3, H3, I3, st3, fr3, w3⟩
      rcases turn i n σ3 H3 w3 with ⟨stop, qn⟩ | ⟨go, N, hN, step⟩
      · refine thn (T.done (X.comp scope N' H2.objs.size s H fp pins) rfl rfl rfl hc i [] s3 σ3 H3 _ I3 (fpX fr3 (fun p hp => by cases hp)) st3 stop) fun r s4 ⟨hr, I4⟩ => ?_
        subst hr
        exact hRR _ _ σ3 H3 s4 (by rw [hC]; exact Nat.le_succ _) I4 qn
      · refine thn (T.item (X.comp scope N' H2.objs.size s H fp pins) rfl rfl rfl hc i [] s3 σ3 H3 _ I3 (fpX fr3 (fun p hp => by cases hp)) st3 go) fun r s4 ⟨u, hr, h4⟩ => ?_
        subst hr
        refine thn h4 fun _ s5 ⟨x, H5, I5, r5, y5, st5, fr5⟩ => ?_
        have I5' := I5.pinned (fpX fr5 (fun p hp => by cases hp)) (T.obj _ _ st5)
        refine thn (hg _ _ _ _ _ _ s5 σ3 H5 x u _ I5' r5 (step x H5 y5)) fun _ s6 ⟨σ6, H6, I6, q6⟩ => ?_
        have again : ∀ {σ7 : St} {H7 : Hp} {s7 : Shared}, Inv (X.comp scope N' H2.objs.size s H fp pins) ([] ++ pinsAt fp s5.heap) σ7 H7 s7 → N σ7 H7 → ∃ m, m < n ∧ ∃ i σ' H', Inv (X.comp scope N' H2.objs.size s H fp pins) [] σ' H' s7 ∧ tn i s7.heap ∧ (∀ b ∈ fp, H' b = none) ∧ W i m σ' H' := fun {σ7 H7 s7} I7 n7 => by
          obtain ⟨m', hm, w7⟩ := hN σ7 H7 n7
          refine ⟨m', hm, i + 1, σ7, H7, I7.unpinned, T.keep _ _ _ st5 fun b hb o e => (I7.pin (b, o) (List.mem_append_right _ (List.mem_append_right _ (mem_pinsAt hb e)))).1, fun b hb => ?_, w7⟩
          obtain ⟨o, e, d⟩ := T.obj _ _ st5 b hb
          exact (I7.pin (b, o) (List.mem_append_right _ (List.mem_append_right _ (mem_pinsAt hb e)))).2.1
        have tests : wpAny (model X.prog X.w) X.A (forIn ifs true fun c r => if r = true then do let ok ← isTrue c (compEnvC scope (clFrom X.env.cells scope.names []) H2.objs.size X.env) (eval c (compEnvC scope (clFrom X.env.cells scope.names []) H2.objs.size X.env)); pure (ForInStep.yield ok) else pure (ForInStep.yield r))
            (TP (X.comp scope N' H2.objs.size s H fp pins) ([] ++ pinsAt fp s5.heap) σ6 fun b H4 => if b = true then te σ6 H4 fun y H5 => ∃ xs, H5 s.heap.objs.size = some (.lst xs) ∧ xs.length < sizeLine ∧ N σ6 (upd H5 s.heap.objs.size (.lst (xs ++ [y]))) else N σ6 H4) (fun _ _ => False) s6 := by
          have htt := ht H2.objs.size s H fp pins
          match ifs, htt with
          | [], htt =>
            have htt : tc = fun _ H Q => Q true H := htt
            subst htt
            exact wpAny_tests_nil ⟨H6, I6, q6⟩
          | [c], htt =>
            have htt : PT (X.comp scope N' H2.objs.size s H fp pins) c tc := htt
            exact wpAny_tests_one (htt _ s6 σ6 H6 _ I6 q6)
        refine thn tests fun ok s7 ⟨H7, I7, q7⟩ => ?_
        cases ok with
        | false => exact again I7 q7
        | true =>
          refine thn (he _ _ _ _ _ _ s7 σ6 H7 _ I7 q7) fun xv s8 ⟨y, H8, I8, r8, xs, hl8, hz8, n8⟩ => ?_
          refine thn (mt_append (X := X.comp scope N' H2.objs.size s H fp pins) _ s8 σ6 H8 (.ref s.heap.objs.size) [y] (.ref s.heap.objs.size) [xv] (fun _ H' => N σ6 H') I8 rfl (.cons r8 .nil) ⟨s.heap.objs.size, xs, y, rfl, rfl, hl8, hz8, n8⟩) fun _ s9 ⟨_, H9, I9, _, n9⟩ => ?_
          exact again I9 n9
    · rw [upd_ne]
      · exact (f2 b hb).1
      · obtain ⟨o, q, _⟩ := hobj b hb
        exact Nat.ne_of_lt (Heap.lt_size q)
  exact codeAny_compStart_list loop (T.self X.A 0 _ _ _ st1 loop)
theorem pe_lc (S : CompSc X scope N' ix) (hc : X.calm = true) (hi : PI X tg iter wi) (hg : ∀ C s H fp pins, PG (X.comp scope N' C s H fp pins) tg g) (ht : ∀ C s H fp pins, PTs (X.comp scope N' C s H fp pins) ifs tc) (he : ∀ C s H fp pins, PE (X.comp scope N' C s H fp pins) elt te)
    (hs : ∀ x, foldedSetIterable iter X.env x = pure x := by intro _; rfl) : PE X (.ListComp elt [⟨tg, iter, ifs, 0⟩] scope pos) (tLC wi ix g tc te) := by
  intro pins s σ H Q I h
  rw [eval_ListComp]
  refine wpAny_comprehension_free (use := none) rfl hs (closureFor_eq (S.cells I)) S.kind S.names (thn (hi pins s σ H _ I h) fun v s1 h1 => thn h1 fun itv s2 h2 => ?_)
  obtain ⟨it, fp, tn, J, H2, e, I2, T, st2, f2, hR⟩ := h2
  subst e
  refine comp_run (RR := fun acc C => compPost (model X.prog X.w) X.A X.xe none (EP X pins σ Q) acc C) S hc hg ht he I2 T st2 f2 hR ?_
  intro acc C σ' H' s' hCs J' q
  obtain ⟨m, hn, _⟩ := J'.loc
  have hn : s'.heap.Ns C m := hn
  refine ⟨m, hn, fun h' sb => ⟨.ref acc, H', ?_, rfl, q⟩⟩
  exact I2.uncomp f2 hCs J' (fun b o hb e => sb.extBut b o hb e)
/-- x = [elt for ..] -/
def tSetLC (i : Nat) (t : TE) : TS := fun D σ H => t σ H fun v H1 => D.nx (σ.set i (some v)) H1
theorem ps_setLC {i : Nat} {y : Str} {py spos : Pos} (S : CompSc X scope N' ix) (hc : X.calm = true) (hi : PI X tg iter wi) (hg : ∀ C s H fp pins, PG (X.comp scope N' C s H fp pins) tg g) (ht : ∀ C s H fp pins, PTs (X.comp scope N' C s H fp pins) ifs tc) (he : ∀ C s H fp pins, PE (X.comp scope N' C s H fp pins) elt te)
    (hy : PG X (.Name y py) (gName i)) (hsw : swapsWith (.ListComp elt [⟨tg, iter, ifs, 0⟩] scope pos) (some (.Name y py)) spos.line X.env = pure true)
    (hs : ∀ x, foldedSetIterable iter X.env x = pure x := by intro _; rfl) : PS X (.Assign [.Name y py] (.ListComp elt [⟨tg, iter, ifs, 0⟩] scope pos) spos) (tSetLC i (tLC wi ix g tc te)) := by
  intro pins s σ H D I h
  rw [exec_Assign_Name_used _ _ _ _ hsw]
  refine wpAny_bind (wpAny_standAt (wpAny_bind ?_))
  show wpAny _ X.A (do let _ ← comprehension (.ListComp elt [⟨tg, iter, ifs, 0⟩] scope pos) scope X.env _ (newList []) false (eval iter X.env) (some (assign (.Name y py) X.env))) _ _ s
  refine wpAny_bind (wpAny_mono (wpAny_comprehension_free (use := some (assign (.Name y py) X.env)) (Q := fun _ s' => SP X pins D .next s') rfl hs (closureFor_eq (S.cells I)) S.kind S.names
    (thn (hi pins s σ H _ I h) fun v s1 h1 => thn h1 fun itv s2 h2 => ?_)) (fun _ s' hq => wpAny_pure (wpAny_pure hq)) fun _ _ e => e)
  obtain ⟨it, fp, tn, J, H2, e, I2, T, st2, f2, hR⟩ := h2
  subst e
  refine comp_run (Q := fun v H1 => D.nx (σ.set i (some v)) H1) (RR := fun acc C => compPost (model X.prog X.w) X.A X.xe (some (assign (.Name y py) X.env)) (fun _ s' => SP X pins D .next s') acc C) S hc hg ht he I2 T st2 f2 hR ?_
  intro acc C σ' H' s' hCs J' q
  obtain ⟨m, hn, _⟩ := J'.loc
  have hn : s'.heap.Ns C m := hn
  obtain ⟨oC, es, ep, hoC, hdC, hk⟩ := id hn
  have I3 : Inv X pins σ H' s' := by
    have := I2.uncomp (h2 := s'.heap) (t2 := s'.toks) f2 hCs J' (fun b o hb e => e)
    exact this
  have hCfs : C ∉ X.fs := fun hm => by
    obtain ⟨_, o, ho, _⟩ := I2.funs.mem hm
    exact absurd (Nat.lt_of_lt_of_le (Heap.lt_size ho) hCs) (Nat.lt_irrefl _)
  have hCl : C ≠ X.env.locals := fun z => absurd (Nat.lt_of_lt_of_le I2.lt hCs) (by rw [z]; exact Nat.lt_irrefl _)
  have I4 : Inv X (pins ++ [(C, oC)]) σ H' s' := I3.pins_of fun p hp => by
    rcases List.mem_append.mp hp with hp | hp
    · exact I3.pin p (List.mem_append_right _ hp)
    · have hp : p = (C, oC) := by simpa using hp
      subst hp
      exact ⟨hoC, J'.free, hCl, hCfs, fun v z => by rw [hdC] at z; cases z⟩
  show wpAny _ X.A (assign (.Name y py) X.env (.ref acc)) _ _ s'
  refine thn (hy (pins ++ [(C, oC)]) s' σ H' (.ref acc) (.ref acc) _ I4 rfl q) fun _ s5 ⟨σ5, H5, I5, q5⟩ => ?_
  have hC5 : s5.heap.get? C = some oC := (I5.pin (C, oC) (by simp)).1
  have hfC5 : H5 C = none := (I5.pin (C, oC) (by simp)).2.1
  refine ⟨m, ⟨oC, es, ep, hC5, hdC, hk⟩, fun h' sb => ?_⟩
  have I6 : Inv X pins σ5 H5 s5 := I5.unpinned
  refine ⟨σ5, H5, ?_, q5⟩
  have nC : ∀ x c, X.env.cells.lookup x = some c → c ≠ C := fun x c hl z => by
    obtain ⟨v, o, qo, _⟩ := I2.cell x c hl
    exact absurd (Nat.lt_of_lt_of_le (Heap.lt_size qo) hCs) (by rw [z]; exact Nat.lt_irrefl _)
  exact I6.turned (t' := s5.toks) (it := C) (fun b o hb e => sb.extBut b o hb e) hfC5 hCl (.inr (Nat.le_trans I2.sz hCs)) nC fun p hp z => by
    have := (I2.pin p hp).1
    exact absurd (Nat.lt_of_lt_of_le (Heap.lt_size this) hCs) (by rw [z]; exact Nat.lt_irrefl _)
end
end L2
namespace L2
open PySem PySem.Spec PyProof.Rows
section
variable {ix : List (Option Nat)} {g : TG} {tc : TT} {te : TE} {Q : VK} {σ : St} {H : Hp} {acc : Addr}
theorem lc_list {K : PySem.W.Frag} {a : Addr} {xs : List V} (Pv : Nat → St → Hp → Prop) (h0 : Pv 0 (st0 ix σ) (upd H acc (.lst []))) (hl : ∀ i σ H, i ≤ xs.length → Pv i σ H → SqL K H a xs)
    (hs : ∀ i x σ H, xs[i]? = some x → Pv i σ H → g x σ H fun σ3 H3 => tc σ3 H3 fun b H4 => if b = true then te σ3 H4 fun y H5 => ∃ ys, H5 acc = some (.lst ys) ∧ ys.length < sizeLine ∧ Pv (i + 1) σ3 (upd H5 acc (.lst (ys ++ [y]))) else Pv (i + 1) σ3 H4)
    (hd : ∀ σ H, Pv xs.length σ H → Q (.ref acc) H) :
    ∃ W : Nat → Nat → St → Hp → Prop, (∃ m, W 0 m (st0 ix σ) (upd H acc (.lst []))) ∧ ∀ i m σ2 H2, W i m σ2 H2 →
      ((Itl K a).stop i H2 ∧ Q (.ref acc) H2) ∨ ((Itl K a).go i H2 ∧ ∃ N : St → Hp → Prop, (∀ σ' H', N σ' H' → ∃ m', m' < m ∧ W (i + 1) m' σ' H') ∧ ∀ x H', (Itl K a).yld i H2 x H' → g x σ2 H' fun σ3 H3 => tc σ3 H3 fun b H4 =>
        if b = true then te σ3 H4 fun y H5 => ∃ xs, H5 acc = some (.lst xs) ∧ xs.length < sizeLine ∧ N σ3 (upd H5 acc (.lst (xs ++ [y]))) else N σ3 H4) := by
  refine ⟨fun i m σ H => m = xs.length - i ∧ i ≤ xs.length ∧ Pv i σ H, ⟨xs.length, by simp, Nat.zero_le _, h0⟩, ?_⟩
  rintro i m σ H ⟨rfl, hi, p⟩
  have q := hl i σ H hi p
  by_cases hlt : i < xs.length
  · refine .inr ⟨⟨xs, xs[i], q, by simp [hlt]⟩, Pv (i + 1), fun σ' H' p' => ⟨xs.length - (i + 1), by omega, rfl, hlt, p'⟩, fun x H' y => ?_⟩
    obtain ⟨e, y⟩ := y
    subst e
    exact hs i x σ _ (y xs q) p
  · have e : i = xs.length := by omega
    subst e
    exact .inl ⟨⟨xs, q, Nat.le_refl _⟩, hd σ H p⟩
theorem lc_range {lo : Int} {n : Nat} (Pv : Nat → St → Hp → Prop) (h0 : Pv 0 (st0 ix σ) (upd H acc (.lst [])))
    (hs : ∀ i σ H, i < n → Pv i σ H → g (.int (lo + i)) σ H fun σ3 H3 => tc σ3 H3 fun b H4 => if b = true then te σ3 H4 fun y H5 => ∃ ys, H5 acc = some (.lst ys) ∧ ys.length < sizeLine ∧ Pv (i + 1) σ3 (upd H5 acc (.lst (ys ++ [y]))) else Pv (i + 1) σ3 H4)
    (hd : ∀ σ H, Pv n σ H → Q (.ref acc) H) :
    ∃ W : Nat → Nat → St → Hp → Prop, (∃ m, W 0 m (st0 ix σ) (upd H acc (.lst []))) ∧ ∀ i m σ2 H2, W i m σ2 H2 →
      ((Itr lo n).stop i H2 ∧ Q (.ref acc) H2) ∨ ((Itr lo n).go i H2 ∧ ∃ N : St → Hp → Prop, (∀ σ' H', N σ' H' → ∃ m', m' < m ∧ W (i + 1) m' σ' H') ∧ ∀ x H', (Itr lo n).yld i H2 x H' → g x σ2 H' fun σ3 H3 => tc σ3 H3 fun b H4 =>
        if b = true then te σ3 H4 fun y H5 => ∃ xs, H5 acc = some (.lst xs) ∧ xs.length < sizeLine ∧ N σ3 (upd H5 acc (.lst (xs ++ [y]))) else N σ3 H4) := by
  refine ⟨fun i m σ H => m = n - i ∧ i ≤ n ∧ Pv i σ H, ⟨n, by simp, Nat.zero_le _, h0⟩, ?_⟩
  rintro i m σ H ⟨rfl, hi, p⟩
  by_cases hlt : i < n
  · refine .inr ⟨hlt, Pv (i + 1), fun σ' H' p' => ⟨n - (i + 1), by omega, rfl, hlt, p'⟩, fun x H' y => ?_⟩
    obtain ⟨e, y⟩ := y
    subst e y
    exact hs i σ _ hlt p
  · have e : i = n := by omega
    subst e
    exact .inl ⟨Nat.le_refl _, hd σ H p⟩
end

/-! isinstance(x, T) -/
section
variable {X : Cx}
theorem call_isinst {T : String} : CallR X (.builtin "isinstance") (fun xs H Q => ∃ x t b, xs = [x, .ty T] ∧ TyOf X.K H x t ∧ PySem.W.kitOne X.K t (.type T) = some b ∧ Q (.bl b) H) := by
  intro pins s σ H xs us Q I r h
  obtain ⟨x, t, b, rfl, ty, e, q⟩ := h
  obtain ⟨u, v, rfl, ru, rv⟩ := Vals.two r
  cases (show v = Value.type T from rv)
  exact isinst_ok I ru ty e fun tk => ⟨.bl b, H, I.tok _, rfl, q⟩
end
end L2
namespace L2
open PySem PySem.Spec PyProof.Rows
/-! a def that stands under a value -/
section
variable {X : Cx} {fe e : Expr} {es : List Expr} {tf : TE} {t : TA} {pos : Pos}
/-- what is known of a def that may be called -/
structure Callee (X : Cx) (f : Addr) (sp : Sp) : Prop where
  ex : ∃ (k : Nat) (fd : FuncData) (ps : List Str), FnOk X.prog X.w X.K X.mg X.base CX0 k f fd ps sp ∧ Room k X.A ∧ Binds X.K fd ps [] ∧ PySem.W.keepIn X.K (.ref f) = true
def tCallV (X : Cx) (tf : TE) (t : TA) : TE := fun σ H Q => tf σ H fun x H1 => ∃ f sp, x = .ref f ∧ Callee X f sp ∧ t σ H1 fun vs H2 => sp vs H2 Q E0
theorem pe_callV (hf : PE X fe tf) (ha : PA X (e :: es) t)
    (hev : eval (.Call fe (e :: es) [] pos) X.env = (do callWith pos (← eval fe X.env) [] (backTo pos (starEach (e :: es) X.env)) (backToKw pos (keywordEach [] X.env))) := by rfl)
    (he : starEach (e :: es) X.env = (false, eval e X.env) :: starEach es X.env := by rfl) (hpl : (backTo pos (starEach es X.env)).any (·.1) = false := by rfl) : PE X (.Call fe (e :: es) [] pos) (tCallV X tf t) := by
  intro pins s σ H Q I h
  rw [hev]
  refine wpAny_bind (thn (hf pins s σ H _ I h) fun u s1 ⟨x, H1, I1, rx, f, sp, ex, c, q1⟩ => ?_)
  subst ex
  obtain rfl : u = Value.ref f := rx
  obtain ⟨k, fd, ps, F, hr, hb, hk⟩ := c.ex
  refine PySem.W.callWith_K (h₀ := X.base) I.ok.mod.kin hk (thn (ha pos pins s1 σ H1 _ I1 q1) fun us s2 ⟨vs, H2, I2, r, q2⟩ => ⟨I2.kIn, ?_⟩) he hpl
  exact run_fn (dvs := []) (ds := []) F hr hb .nil pass0 I2 r (by rw [List.append_nil]; exact q2)
end
end L2
/-! ### plain data: what a value stands for, equality -/
namespace L2
open PySem PySem.Spec PyProof.Rows

inductive Dat where
  | non | bl (b : Bool) | int (i : Int) | str (x : Str) | tup (l : List Dat) | lst (l : List Dat)

mutual
def DV (H : Hp) : V → Dat → Prop
  | v, .non => v = .non
  | v, .bl b => v = .bl b
  | v, .int i => v = .int i
  | v, .str x => v = .str x
  | v, .tup l => ∃ a xs, v = .ref a ∧ H a = some (.tup xs) ∧ DVs H xs l
  | v, .lst l => ∃ a xs, v = .ref a ∧ H a = some (.lst xs) ∧ DVs H xs l
def DVs (H : Hp) : List V → List Dat → Prop
  | [], [] => True
  | x :: xs, d :: ds => DV H x d ∧ DVs H xs ds
  | _, _ => False
end
mutual
def Dat.beq : Dat → Dat → Bool
  | .non, .non => true
  | .bl a, .bl b => a == b
  | .bl a, .int j => (if a then 1 else 0) == j
  | .int i, .bl b => i == (if b then 1 else 0)
  | .int i, .int j => i == j
  | .str x, .str y => x == y
  | .tup l, .tup m => Dat.beqs l m
  | .lst l, .lst m => Dat.beqs l m
  | _, _ => false
def Dat.beqs : List Dat → List Dat → Bool
  | [], [] => true
  | x :: l, y :: m => Dat.beq x y && Dat.beqs l m
  | _, _ => false
end
mutual
def Dat.dep : Dat → Nat
  | .tup l => Dat.deps l + 1
  | .lst l => Dat.deps l + 1
  | _ => 0
def Dat.deps : List Dat → Nat
  | [] => 0
  | x :: l => max x.dep (Dat.deps l)
end
theorem dep_mem {l : List Dat} {d : Dat} (h : d ∈ l) : d.dep ≤ Dat.deps l := by
  induction l with
  | nil => cases h
  | cons x r ih =>
    unfold Dat.deps
    rcases List.mem_cons.mp h with rfl | h
    · omega
    · have := ih h; omega
section
variable {H H' : Hp}
theorem DVs.length : ∀ {xs : List V} {l : List Dat}, DVs H xs l → xs.length = l.length
  | [], [], _ => rfl
  | _ :: _, _ :: _, h => by unfold DVs at h; rw [List.length_cons, List.length_cons, DVs.length h.2]
  | [], _ :: _, h => by unfold DVs at h; exact h.elim
  | _ :: _, [], h => by unfold DVs at h; exact h.elim
theorem DVs.get : ∀ {xs : List V} {l : List Dat} {i : Nat} {d : Dat}, DVs H xs l → l[i]? = some d → ∃ v, xs[i]? = some v ∧ DV H v d
  | [], [], _, _, _, e => by simp at e
  | x :: xs, y :: l, 0, d, h, e => by unfold DVs at h; simp at e; subst e; exact ⟨x, rfl, h.1⟩
  | x :: xs, y :: l, i + 1, d, h, e => by unfold DVs at h; exact DVs.get (i := i) h.2 (by simpa using e)
  | [], _ :: _, _, _, h, _ => by unfold DVs at h; exact h.elim
  | _ :: _, [], _, _, h, _ => by unfold DVs at h; exact h.elim
theorem DVs.append : ∀ {xs ys : List V} {l m : List Dat}, DVs H xs l → DVs H ys m → DVs H (xs ++ ys) (l ++ m)
  | [], _, [], _, _, k => k
  | x :: xs, _, y :: l, _, h, k => by
    unfold DVs at h
    show DVs H (x :: (xs ++ _)) (y :: (l ++ _))
    unfold DVs
    exact ⟨h.1, DVs.append h.2 k⟩
  | [], _, _ :: _, _, h, _ => by unfold DVs at h; exact h.elim
  | _ :: _, _, [], _, h, _ => by unfold DVs at h; exact h.elim
theorem DVs.one {v : V} {d : Dat} (h : DV H v d) : DVs H [v] [d] := by
  unfold DVs
  exact ⟨h, by unfold DVs; trivial⟩
theorem DVs.nil : DVs H [] [] := by unfold DVs; trivial
theorem DVs.cons {v : V} {d : Dat} {xs : List V} {l : List Dat} (h : DV H v d) (k : DVs H xs l) : DVs H (v :: xs) (d :: l) := by unfold DVs; exact ⟨h, k⟩
mutual
theorem DV.mono (e : ∀ b o, H b = some o → H' b = some o) : ∀ {v : V} {d : Dat}, DV H v d → DV H' v d
  | v, .non, h => by unfold DV at h ⊢; exact h
  | v, .bl b, h => by unfold DV at h ⊢; exact h
  | v, .int i, h => by unfold DV at h ⊢; exact h
  | v, .str x, h => by unfold DV at h ⊢; exact h
  | v, .tup l, h => by
    unfold DV at h ⊢
    obtain ⟨a, xs, h1, h2, h3⟩ := h
    exact ⟨a, xs, h1, e _ _ h2, DVs.mono e h3⟩
  | v, .lst l, h => by
    unfold DV at h ⊢
    obtain ⟨a, xs, h1, h2, h3⟩ := h
    exact ⟨a, xs, h1, e _ _ h2, DVs.mono e h3⟩
theorem DVs.mono (e : ∀ b o, H b = some o → H' b = some o) : ∀ {xs : List V} {l : List Dat}, DVs H xs l → DVs H' xs l
  | [], [], _ => by unfold DVs; trivial
  | x :: xs, d :: ds, h => by
    unfold DVs at h ⊢
    exact ⟨DV.mono e h.1, DVs.mono e h.2⟩
  | [], _ :: _, h => by unfold DVs at h; exact h.elim
  | _ :: _, [], h => by unfold DVs at h; exact h.elim
end
mutual
theorem DV.inj : ∀ {v : V} {d d' : Dat}, DV H v d → DV H v d' → d = d'
  | v, .non, d', h, k => by
    unfold DV at h; subst h
    cases d' <;> unfold DV at k <;> first | rfl | (cases k; done) | (obtain ⟨_, _, k, _⟩ := k; cases k)
  | v, .bl b, d', h, k => by
    unfold DV at h; subst h
    cases d' <;> unfold DV at k <;> first | (cases k; rfl) | (cases k; done) | (obtain ⟨_, _, k, _⟩ := k; cases k)
  | v, .int b, d', h, k => by
    unfold DV at h; subst h
    cases d' <;> unfold DV at k <;> first | (cases k; rfl) | (cases k; done) | (obtain ⟨_, _, k, _⟩ := k; cases k)
  | v, .str b, d', h, k => by
    unfold DV at h; subst h
    cases d' <;> unfold DV at k <;> first | (cases k; rfl) | (cases k; done) | (obtain ⟨_, _, k, _⟩ := k; cases k)
  | v, .tup l, d', h, k => by
    unfold DV at h
    obtain ⟨a, xs, rfl, h2, h3⟩ := h
    cases d' with
    | tup m =>
      unfold DV at k
      obtain ⟨a', ys, e, k2, k3⟩ := k
      cases e
      rw [h2] at k2
      cases k2
      rw [DVs.inj h3 k3]
    | lst m =>
      unfold DV at k
      obtain ⟨a', ys, e, k2, k3⟩ := k
      cases e
      rw [h2] at k2
      cases k2
    | _ => unfold DV at k; cases k
  | v, .lst l, d', h, k => by
    unfold DV at h
    obtain ⟨a, xs, rfl, h2, h3⟩ := h
    cases d' with
    | lst m =>
      unfold DV at k
      obtain ⟨a', ys, e, k2, k3⟩ := k
      cases e
      rw [h2] at k2
      cases k2
      rw [DVs.inj h3 k3]
    | tup m =>
      unfold DV at k
      obtain ⟨a', ys, e, k2, k3⟩ := k
      cases e
      rw [h2] at k2
      cases k2
    | _ => unfold DV at k; cases k
theorem DVs.inj : ∀ {xs : List V} {l m : List Dat}, DVs H xs l → DVs H xs m → l = m
  | [], [], [], _, _ => rfl
  | x :: xs, d :: ds, d' :: ds', h, k => by
    unfold DVs at h k
    rw [DV.inj h.1 k.1, DVs.inj h.2 k.2]
  | [], _ :: _, _, h, _ => by unfold DVs at h; exact h.elim
  | _ :: _, [], _, h, _ => by unfold DVs at h; exact h.elim
  | [], _, _ :: _, _, h => by unfold DVs at h; exact h.elim
  | _ :: _, _, [], _, h => by unfold DVs at h; exact h.elim
end
end
mutual
theorem Dat.beq_refl : ∀ d : Dat, Dat.beq d d = true
  | .non => by simp [Dat.beq]
  | .bl _ => by simp [Dat.beq]
  | .int _ => by simp [Dat.beq]
  | .str _ => by simp [Dat.beq]
  | .tup l => by unfold Dat.beq; exact Dat.beqs_refl l
  | .lst l => by unfold Dat.beq; exact Dat.beqs_refl l
theorem Dat.beqs_refl : ∀ l : List Dat, Dat.beqs l l = true
  | [] => by simp [Dat.beqs]
  | x :: l => by unfold Dat.beqs; rw [Dat.beq_refl x, Dat.beqs_refl l]; rfl
end
theorem beqs_all : ∀ {l m : List Dat}, (List.range (min l.length m.length)).all (fun j => Dat.beq (l.getD j .non) (m.getD j .non)) = true ∧ l.length = m.length ↔ Dat.beqs l m = true
  | [], [] => by simp [Dat.beqs]
  | [], _ :: _ => by simp [Dat.beqs]
  | _ :: _, [] => by simp [Dat.beqs]
  | x :: l, y :: m => by
    have ih := @beqs_all l m
    unfold Dat.beqs
    rw [Bool.and_eq_true, ← ih]
    simp only [List.length_cons, List.all_eq_true, List.mem_range]
    constructor
    · rintro ⟨h1, h2⟩
      refine ⟨?_, fun j hj => ?_, by omega⟩
      · simpa using h1 0 (by omega)
      · simpa using h1 (j + 1) (by omega)
    · rintro ⟨h1, h2, h3⟩
      refine ⟨fun j hj => ?_, by omega⟩
      cases j with
      | zero => simpa using h1
      | succ j => simpa using h2 j (by omega)

theorem beq_tup (l m : List Dat) : Dat.beq (.tup l) (.tup m) = Dat.beqs l m := by rw [Dat.beq]
theorem beq_lst (l m : List Dat) : Dat.beq (.lst l) (.lst m) = Dat.beqs l m := by rw [Dat.beq]
theorem Dat.size_mem {l : List Dat} {d : Dat} (h : d ∈ l) : sizeOf d < sizeOf l := List.sizeOf_lt_of_mem h
section
variable {P : Program} {w : World} {H : Hp} {s : Shared}
theorem in1_units (A : Around) : A.in1.units = A.units + 1 := rfl
theorem eqAt_D (ok : HOk P w H s.heap) : ∀ (d1 d2 : Dat) (A : Around) (v v' : V) (u u' : Value), A.units + d1.dep + d2.dep < cLine → DV H v d1 → DV H v' d2 → RelV v u → RelV v' u' → SeqAt.EqAt A s u u' (Dat.beq d1 d2)
  | .tup l, .tup m, A, v, v', u, u', hu, h1, h2, r1, r2 => by
    have h1' := h1
    have h2' := h2
    unfold DV at h1 h2
    obtain ⟨a, xs, rfl, q1, e1⟩ := h1
    obtain ⟨b, ys, rfl, q2, e2⟩ := h2
    cases (show u = Value.ref a from r1)
    cases (show u' = Value.ref b from r2)
    by_cases hab : a = b
    · subst hab
      rw [DV.inj h1' h2', Dat.beq_refl]
      exact SeqAt.EqAt.same _
    · obtain ⟨_, its, rv, p1⟩ := ok a _ q1
      obtain ⟨_, its2, rv2, p2⟩ := ok b _ q2
      unfold Dat.dep at hu
      refine SeqAt.EqAt.of_refs hab ?_
      have key := SeqAt.RcAt.tuples (A := A) (s := s) (e := fun j => Dat.beq (l.getD j .non) (m.getD j .non)) p1 p2 (by omega) fun j hj1 hj2 => ?_
      · have e : ((List.range (min its.toArray.size its2.toArray.size)).all (fun j => Dat.beq (l.getD j .non) (m.getD j .non)) && its.toArray.size == its2.toArray.size) = Dat.beq (.tup l) (.tup m) := by
          have n1 : its.toArray.size = l.length := by rw [List.size_toArray, ← rv.length, e1.length]
          have n2 : its2.toArray.size = m.length := by rw [List.size_toArray, ← rv2.length, e2.length]
          rw [n1, n2, beq_tup]
          rw [Bool.eq_iff_iff, Bool.and_eq_true, beq_iff_eq]
          exact beqs_all
        rw [← e]
        exact key
      · have n1 : j < l.length := by rw [← e1.length, rv.length]; simpa using hj1
        have n2 : j < m.length := by rw [← e2.length, rv2.length]; simpa using hj2
        obtain ⟨x, gx, dx⟩ := e1.get (i := j) (d := l[j]) (by simp [n1])
        obtain ⟨y, gy, dy⟩ := e2.get (i := j) (d := m[j]) (by simp [n2])
        obtain ⟨ux, gux, rx⟩ := rv.get gx
        obtain ⟨uy, guy, ry⟩ := rv2.get gy
        have ex : its.toArray[j] = ux := by
          have : its.toArray[j]? = some ux := by simpa using gux
          exact Option.some.inj ((Array.getElem?_eq_getElem hj1).symm.trans this)
        have ey : its2.toArray[j] = uy := by
          have : its2.toArray[j]? = some uy := by simpa using guy
          exact Option.some.inj ((Array.getElem?_eq_getElem hj2).symm.trans this)
        have d1 := dep_mem (List.getElem_mem n1)
        have d2 := dep_mem (List.getElem_mem n2)
        have gl : l.getD j .non = l[j] := by simp [List.getD, n1]
        have gm : m.getD j .non = m[j] := by simp [List.getD, n2]
        rw [ex, ey]
        show SeqAt.EqAt A.in1 s ux uy (Dat.beq (l.getD j .non) (m.getD j .non))
        rw [gl, gm]
        have := Dat.size_mem (List.getElem_mem n1)
        exact eqAt_D ok l[j] m[j] A.in1 x y ux uy (by rw [in1_units]; omega) dx dy rx ry
  | .lst l, .lst m, A, v, v', u, u', hu, h1, h2, r1, r2 => by
    have h1' := h1
    have h2' := h2
    unfold DV at h1 h2
    obtain ⟨a, xs, rfl, q1, e1⟩ := h1
    obtain ⟨b, ys, rfl, q2, e2⟩ := h2
    cases (show u = Value.ref a from r1)
    cases (show u' = Value.ref b from r2)
    by_cases hab : a = b
    · subst hab
      rw [DV.inj h1' h2', Dat.beq_refl]
      exact SeqAt.EqAt.same _
    · obtain ⟨_, its, n, rv, p1⟩ := ok a _ q1
      obtain ⟨_, its2, n', rv2, p2⟩ := ok b _ q2
      have L1 : s.heap.IsList a its.toArray := ⟨_, p1, rfl, n, rfl⟩
      have L2 : s.heap.IsList b its2.toArray := ⟨_, p2, rfl, n', rfl⟩
      unfold Dat.dep at hu
      refine SeqAt.EqAt.of_refs hab ?_
      have n1 : its.toArray.size = l.length := by rw [List.size_toArray, ← rv.length, e1.length]
      have n2 : its2.toArray.size = m.length := by rw [List.size_toArray, ← rv2.length, e2.length]
      by_cases hlen : l.length = m.length
      · have key := SeqAt.RcAt.lists (A := A) (s := s) (e := fun j => Dat.beq (l.getD j .non) (m.getD j .non)) L1 L2 (by rw [n1, n2, hlen]) (by omega) fun j hj1 hj2 => ?_
        · have e : ((List.range its.toArray.size).all (fun j => Dat.beq (l.getD j .non) (m.getD j .non))) = Dat.beq (.lst l) (.lst m) := by
            rw [n1, beq_lst]
            have := @beqs_all l m
            rw [← hlen, Nat.min_self] at this
            rw [Bool.eq_iff_iff, ← this]
            exact ⟨fun h => ⟨h, rfl⟩, fun h => h.1⟩
          rw [← e]
          exact key
        · have n1 : j < l.length := by rw [← e1.length, rv.length]; simpa using hj1
          have n2 : j < m.length := by rw [← e2.length, rv2.length]; simpa using hj2
          obtain ⟨x, gx, dx⟩ := e1.get (i := j) (d := l[j]) (by simp [n1])
          obtain ⟨y, gy, dy⟩ := e2.get (i := j) (d := m[j]) (by simp [n2])
          obtain ⟨ux, gux, rx⟩ := rv.get gx
          obtain ⟨uy, guy, ry⟩ := rv2.get gy
          have ex : its.toArray[j] = ux := by
            have : its.toArray[j]? = some ux := by simpa using gux
            exact Option.some.inj ((Array.getElem?_eq_getElem hj1).symm.trans this)
          have ey : its2.toArray[j] = uy := by
            have : its2.toArray[j]? = some uy := by simpa using guy
            exact Option.some.inj ((Array.getElem?_eq_getElem hj2).symm.trans this)
          have d1 := dep_mem (List.getElem_mem n1)
          have d2 := dep_mem (List.getElem_mem n2)
          have gl : l.getD j .non = l[j] := by simp [List.getD, n1]
          have gm : m.getD j .non = m[j] := by simp [List.getD, n2]
          rw [ex, ey]
          show SeqAt.EqAt A.in1 s ux uy (Dat.beq (l.getD j .non) (m.getD j .non))
          rw [gl, gm]
          have := Dat.size_mem (List.getElem_mem n1)
          exact eqAt_D ok l[j] m[j] A.in1 x y ux uy (by rw [in1_units]; omega) dx dy rx ry
      · have key := SeqAt.RcAt.lists_lengths (A := A) (s := s) L1 L2 (by rw [n1, n2]; simpa using hlen) (by omega)
        have e : Dat.beq (.lst l) (.lst m) = false := by
          rw [beq_lst]
          cases hb : Dat.beqs l m with
          | false => rfl
          | true => exact absurd (beqs_all.mpr hb).2 hlen
        rw [e]
        exact key
  | .non, .non, A, v, v', u, u', hu, h1, h2, r1, r2 => by
    unfold DV at h1; subst h1; cases r1
    unfold DV at h2; subst h2; cases r2
    rw [show Dat.beq (.non) (.non) = true from by rw [Dat.beq]]
    exact SeqAt.EqAt.same _
  | .non, .bl p2, A, v, v', u, u', hu, h1, h2, r1, r2 => by
    unfold DV at h1; subst h1; cases r1
    unfold DV at h2; subst h2; cases r2
    rw [show Dat.beq (.non) (.bl p2) = false from by simp [Dat.beq]]
    exact SeqAt.EqAt.none_bool p2
  | .non, .int p2, A, v, v', u, u', hu, h1, h2, r1, r2 => by
    unfold DV at h1; subst h1; cases r1
    unfold DV at h2; subst h2; obtain ⟨t2, rfl⟩ := r2
    rw [show Dat.beq (.non) (.int p2) = false from by simp [Dat.beq]]
    exact SeqAt.EqAt.none_int p2 t2
  | .non, .str p2, A, v, v', u, u', hu, h1, h2, r1, r2 => by
    unfold DV at h1; subst h1; cases r1
    unfold DV at h2; subst h2; obtain ⟨t2, rfl⟩ := r2
    rw [show Dat.beq (.non) (.str p2) = false from by simp [Dat.beq]]
    exact SeqAt.EqAt.none_str p2 t2
  | .non, .tup p2, A, v, v', u, u', hu, h1, h2, r1, r2 => by
    unfold DV at h1; subst h1; cases r1
    unfold DV at h2; obtain ⟨a2, xs2, rfl, q2, e2⟩ := h2; cases r2; obtain ⟨_, its2, _, P2⟩ := ok a2 _ q2
    rw [show Dat.beq (.non) (.tup p2) = false from by simp [Dat.beq]]
    exact SeqAt.EqAt.none_tuple P2 (by omega)
  | .non, .lst p2, A, v, v', u, u', hu, h1, h2, r1, r2 => by
    unfold DV at h1; subst h1; cases r1
    unfold DV at h2; obtain ⟨a2, xs2, rfl, q2, e2⟩ := h2; cases r2; obtain ⟨_, its2, nn2, _, P2⟩ := ok a2 _ q2; have P2 : s.heap.IsList a2 its2.toArray := ⟨_, P2, rfl, nn2, rfl⟩
    rw [show Dat.beq (.non) (.lst p2) = false from by simp [Dat.beq]]
    exact SeqAt.EqAt.none_list P2 (by omega)
  | .bl p1, .non, A, v, v', u, u', hu, h1, h2, r1, r2 => by
    unfold DV at h1; subst h1; cases r1
    unfold DV at h2; subst h2; cases r2
    rw [show Dat.beq (.bl p1) (.non) = false from by simp [Dat.beq]]
    exact SeqAt.EqAt.bool_none p1
  | .bl p1, .bl p2, A, v, v', u, u', hu, h1, h2, r1, r2 => by
    unfold DV at h1; subst h1; cases r1
    unfold DV at h2; subst h2; cases r2
    rw [show Dat.beq (.bl p1) (.bl p2) = (p1 == p2) from by rw [Dat.beq]]
    exact SeqAt.EqAt.bool_bool p1 p2
  | .bl p1, .int p2, A, v, v', u, u', hu, h1, h2, r1, r2 => by
    unfold DV at h1; subst h1; cases r1
    unfold DV at h2; subst h2; obtain ⟨t2, rfl⟩ := r2
    rw [show Dat.beq (.bl p1) (.int p2) = ((if p1 then 1 else 0) == p2) from by rw [Dat.beq]]
    exact SeqAt.EqAt.bool_int p1 p2 t2
  | .bl p1, .str p2, A, v, v', u, u', hu, h1, h2, r1, r2 => by
    unfold DV at h1; subst h1; cases r1
    unfold DV at h2; subst h2; obtain ⟨t2, rfl⟩ := r2
    rw [show Dat.beq (.bl p1) (.str p2) = false from by simp [Dat.beq]]
    exact SeqAt.EqAt.bool_str p1 p2 t2
  | .bl p1, .tup p2, A, v, v', u, u', hu, h1, h2, r1, r2 => by
    unfold DV at h1; subst h1; cases r1
    unfold DV at h2; obtain ⟨a2, xs2, rfl, q2, e2⟩ := h2; cases r2; obtain ⟨_, its2, _, P2⟩ := ok a2 _ q2
    rw [show Dat.beq (.bl p1) (.tup p2) = false from by simp [Dat.beq]]
    exact SeqAt.EqAt.bool_tuple p1 P2 (by omega)
  | .bl p1, .lst p2, A, v, v', u, u', hu, h1, h2, r1, r2 => by
    unfold DV at h1; subst h1; cases r1
    unfold DV at h2; obtain ⟨a2, xs2, rfl, q2, e2⟩ := h2; cases r2; obtain ⟨_, its2, nn2, _, P2⟩ := ok a2 _ q2; have P2 : s.heap.IsList a2 its2.toArray := ⟨_, P2, rfl, nn2, rfl⟩
    rw [show Dat.beq (.bl p1) (.lst p2) = false from by simp [Dat.beq]]
    exact SeqAt.EqAt.bool_list p1 P2 (by omega)
  | .int p1, .non, A, v, v', u, u', hu, h1, h2, r1, r2 => by
    unfold DV at h1; subst h1; obtain ⟨t1, rfl⟩ := r1
    unfold DV at h2; subst h2; cases r2
    rw [show Dat.beq (.int p1) (.non) = false from by simp [Dat.beq]]
    exact SeqAt.EqAt.int_none p1 t1
  | .int p1, .bl p2, A, v, v', u, u', hu, h1, h2, r1, r2 => by
    unfold DV at h1; subst h1; obtain ⟨t1, rfl⟩ := r1
    unfold DV at h2; subst h2; cases r2
    rw [show Dat.beq (.int p1) (.bl p2) = (p1 == (if p2 then 1 else 0)) from by rw [Dat.beq]]
    exact SeqAt.EqAt.int_bool p1 t1 p2
  | .int p1, .int p2, A, v, v', u, u', hu, h1, h2, r1, r2 => by
    unfold DV at h1; subst h1; obtain ⟨t1, rfl⟩ := r1
    unfold DV at h2; subst h2; obtain ⟨t2, rfl⟩ := r2
    rw [show Dat.beq (.int p1) (.int p2) = (p1 == p2) from by rw [Dat.beq]]
    exact SeqAt.EqAt.int_int p1 t1 p2 t2
  | .int p1, .str p2, A, v, v', u, u', hu, h1, h2, r1, r2 => by
    unfold DV at h1; subst h1; obtain ⟨t1, rfl⟩ := r1
    unfold DV at h2; subst h2; obtain ⟨t2, rfl⟩ := r2
    rw [show Dat.beq (.int p1) (.str p2) = false from by simp [Dat.beq]]
    exact SeqAt.EqAt.int_str p1 t1 p2 t2
  | .int p1, .tup p2, A, v, v', u, u', hu, h1, h2, r1, r2 => by
    unfold DV at h1; subst h1; obtain ⟨t1, rfl⟩ := r1
    unfold DV at h2; obtain ⟨a2, xs2, rfl, q2, e2⟩ := h2; cases r2; obtain ⟨_, its2, _, P2⟩ := ok a2 _ q2
    rw [show Dat.beq (.int p1) (.tup p2) = false from by simp [Dat.beq]]
    exact SeqAt.EqAt.int_tuple p1 t1 P2 (by omega)
  | .int p1, .lst p2, A, v, v', u, u', hu, h1, h2, r1, r2 => by
    unfold DV at h1; subst h1; obtain ⟨t1, rfl⟩ := r1
    unfold DV at h2; obtain ⟨a2, xs2, rfl, q2, e2⟩ := h2; cases r2; obtain ⟨_, its2, nn2, _, P2⟩ := ok a2 _ q2; have P2 : s.heap.IsList a2 its2.toArray := ⟨_, P2, rfl, nn2, rfl⟩
    rw [show Dat.beq (.int p1) (.lst p2) = false from by simp [Dat.beq]]
    exact SeqAt.EqAt.int_list p1 t1 P2 (by omega)
  | .str p1, .non, A, v, v', u, u', hu, h1, h2, r1, r2 => by
    unfold DV at h1; subst h1; obtain ⟨t1, rfl⟩ := r1
    unfold DV at h2; subst h2; cases r2
    rw [show Dat.beq (.str p1) (.non) = false from by simp [Dat.beq]]
    exact SeqAt.EqAt.str_none p1 t1
  | .str p1, .bl p2, A, v, v', u, u', hu, h1, h2, r1, r2 => by
    unfold DV at h1; subst h1; obtain ⟨t1, rfl⟩ := r1
    unfold DV at h2; subst h2; cases r2
    rw [show Dat.beq (.str p1) (.bl p2) = false from by simp [Dat.beq]]
    exact SeqAt.EqAt.str_bool p1 t1 p2
  | .str p1, .int p2, A, v, v', u, u', hu, h1, h2, r1, r2 => by
    unfold DV at h1; subst h1; obtain ⟨t1, rfl⟩ := r1
    unfold DV at h2; subst h2; obtain ⟨t2, rfl⟩ := r2
    rw [show Dat.beq (.str p1) (.int p2) = false from by simp [Dat.beq]]
    exact SeqAt.EqAt.str_int p1 t1 p2 t2
  | .str p1, .str p2, A, v, v', u, u', hu, h1, h2, r1, r2 => by
    unfold DV at h1; subst h1; obtain ⟨t1, rfl⟩ := r1
    unfold DV at h2; subst h2; obtain ⟨t2, rfl⟩ := r2
    rw [show Dat.beq (.str p1) (.str p2) = (p1 == p2) from by rw [Dat.beq]]
    exact SeqAt.EqAt.str_str p1 t1 p2 t2
  | .str p1, .tup p2, A, v, v', u, u', hu, h1, h2, r1, r2 => by
    unfold DV at h1; subst h1; obtain ⟨t1, rfl⟩ := r1
    unfold DV at h2; obtain ⟨a2, xs2, rfl, q2, e2⟩ := h2; cases r2; obtain ⟨_, its2, _, P2⟩ := ok a2 _ q2
    rw [show Dat.beq (.str p1) (.tup p2) = false from by simp [Dat.beq]]
    exact SeqAt.EqAt.str_tuple p1 t1 P2 (by omega)
  | .str p1, .lst p2, A, v, v', u, u', hu, h1, h2, r1, r2 => by
    unfold DV at h1; subst h1; obtain ⟨t1, rfl⟩ := r1
    unfold DV at h2; obtain ⟨a2, xs2, rfl, q2, e2⟩ := h2; cases r2; obtain ⟨_, its2, nn2, _, P2⟩ := ok a2 _ q2; have P2 : s.heap.IsList a2 its2.toArray := ⟨_, P2, rfl, nn2, rfl⟩
    rw [show Dat.beq (.str p1) (.lst p2) = false from by simp [Dat.beq]]
    exact SeqAt.EqAt.str_list p1 t1 P2 (by omega)
  | .tup p1, .non, A, v, v', u, u', hu, h1, h2, r1, r2 => by
    unfold DV at h1; obtain ⟨a1, xs1, rfl, q1, e1⟩ := h1; cases r1; obtain ⟨_, its1, _, P1⟩ := ok a1 _ q1
    unfold DV at h2; subst h2; cases r2
    rw [show Dat.beq (.tup p1) (.non) = false from by simp [Dat.beq]]
    exact SeqAt.EqAt.tuple_none P1 (by omega)
  | .tup p1, .bl p2, A, v, v', u, u', hu, h1, h2, r1, r2 => by
    unfold DV at h1; obtain ⟨a1, xs1, rfl, q1, e1⟩ := h1; cases r1; obtain ⟨_, its1, _, P1⟩ := ok a1 _ q1
    unfold DV at h2; subst h2; cases r2
    rw [show Dat.beq (.tup p1) (.bl p2) = false from by simp [Dat.beq]]
    exact SeqAt.EqAt.tuple_bool p2 P1 (by omega)
  | .tup p1, .int p2, A, v, v', u, u', hu, h1, h2, r1, r2 => by
    unfold DV at h1; obtain ⟨a1, xs1, rfl, q1, e1⟩ := h1; cases r1; obtain ⟨_, its1, _, P1⟩ := ok a1 _ q1
    unfold DV at h2; subst h2; obtain ⟨t2, rfl⟩ := r2
    rw [show Dat.beq (.tup p1) (.int p2) = false from by simp [Dat.beq]]
    exact SeqAt.EqAt.tuple_int p2 t2 P1 (by omega)
  | .tup p1, .str p2, A, v, v', u, u', hu, h1, h2, r1, r2 => by
    unfold DV at h1; obtain ⟨a1, xs1, rfl, q1, e1⟩ := h1; cases r1; obtain ⟨_, its1, _, P1⟩ := ok a1 _ q1
    unfold DV at h2; subst h2; obtain ⟨t2, rfl⟩ := r2
    rw [show Dat.beq (.tup p1) (.str p2) = false from by simp [Dat.beq]]
    exact SeqAt.EqAt.tuple_str p2 t2 P1 (by omega)
  | .tup p1, .lst p2, A, v, v', u, u', hu, h1, h2, r1, r2 => by
    unfold DV at h1; obtain ⟨a1, xs1, rfl, q1, e1⟩ := h1; cases r1; obtain ⟨_, its1, _, P1⟩ := ok a1 _ q1
    unfold DV at h2; obtain ⟨a2, xs2, rfl, q2, e2⟩ := h2; cases r2; obtain ⟨_, its2, nn2, _, P2⟩ := ok a2 _ q2; have P2 : s.heap.IsList a2 its2.toArray := ⟨_, P2, rfl, nn2, rfl⟩
    rw [show Dat.beq (.tup p1) (.lst p2) = false from by simp [Dat.beq]]
    exact SeqAt.EqAt.tuple_list P1 P2 (by omega)
  | .lst p1, .non, A, v, v', u, u', hu, h1, h2, r1, r2 => by
    unfold DV at h1; obtain ⟨a1, xs1, rfl, q1, e1⟩ := h1; cases r1; obtain ⟨_, its1, nn1, _, P1⟩ := ok a1 _ q1; have P1 : s.heap.IsList a1 its1.toArray := ⟨_, P1, rfl, nn1, rfl⟩
    unfold DV at h2; subst h2; cases r2
    rw [show Dat.beq (.lst p1) (.non) = false from by simp [Dat.beq]]
    exact SeqAt.EqAt.list_none P1 (by omega)
  | .lst p1, .bl p2, A, v, v', u, u', hu, h1, h2, r1, r2 => by
    unfold DV at h1; obtain ⟨a1, xs1, rfl, q1, e1⟩ := h1; cases r1; obtain ⟨_, its1, nn1, _, P1⟩ := ok a1 _ q1; have P1 : s.heap.IsList a1 its1.toArray := ⟨_, P1, rfl, nn1, rfl⟩
    unfold DV at h2; subst h2; cases r2
    rw [show Dat.beq (.lst p1) (.bl p2) = false from by simp [Dat.beq]]
    exact SeqAt.EqAt.list_bool p2 P1 (by omega)
  | .lst p1, .int p2, A, v, v', u, u', hu, h1, h2, r1, r2 => by
    unfold DV at h1; obtain ⟨a1, xs1, rfl, q1, e1⟩ := h1; cases r1; obtain ⟨_, its1, nn1, _, P1⟩ := ok a1 _ q1; have P1 : s.heap.IsList a1 its1.toArray := ⟨_, P1, rfl, nn1, rfl⟩
    unfold DV at h2; subst h2; obtain ⟨t2, rfl⟩ := r2
    rw [show Dat.beq (.lst p1) (.int p2) = false from by simp [Dat.beq]]
    exact SeqAt.EqAt.list_int p2 t2 P1 (by omega)
  | .lst p1, .str p2, A, v, v', u, u', hu, h1, h2, r1, r2 => by
    unfold DV at h1; obtain ⟨a1, xs1, rfl, q1, e1⟩ := h1; cases r1; obtain ⟨_, its1, nn1, _, P1⟩ := ok a1 _ q1; have P1 : s.heap.IsList a1 its1.toArray := ⟨_, P1, rfl, nn1, rfl⟩
    unfold DV at h2; subst h2; obtain ⟨t2, rfl⟩ := r2
    rw [show Dat.beq (.lst p1) (.str p2) = false from by simp [Dat.beq]]
    exact SeqAt.EqAt.list_str p2 t2 P1 (by omega)
  | .lst p1, .tup p2, A, v, v', u, u', hu, h1, h2, r1, r2 => by
    unfold DV at h1; obtain ⟨a1, xs1, rfl, q1, e1⟩ := h1; cases r1; obtain ⟨_, its1, nn1, _, P1⟩ := ok a1 _ q1; have P1 : s.heap.IsList a1 its1.toArray := ⟨_, P1, rfl, nn1, rfl⟩
    unfold DV at h2; obtain ⟨a2, xs2, rfl, q2, e2⟩ := h2; cases r2; obtain ⟨_, its2, _, P2⟩ := ok a2 _ q2
    rw [show Dat.beq (.lst p1) (.tup p2) = false from by simp [Dat.beq]]
    exact SeqAt.EqAt.list_tuple P1 P2 (by omega)
termination_by d1 => sizeOf d1
decreasing_by
  all_goals simp_wf
  all_goals omega
end
/-! == and != of data -/
section
variable {P : Program} {w : World} {H : Hp} {s : Shared}
/-- the items of two sequences, one by one -/
theorem items_D (ok : HOk P w H s.heap) {A : Around} {xs ys : List V} {l m : List Dat} {its its2 : List Value} (hu : A.units + Dat.deps l + Dat.deps m < cLine) (e1 : DVs H xs l) (e2 : DVs H ys m) (rv : Vals xs its) (rv2 : Vals ys its2) (j : Nat) (hj1 : j < its.toArray.size) (hj2 : j < its2.toArray.size) :
    SeqAt.EqAt A s its.toArray[j] its2.toArray[j] (Dat.beq (l.getD j .non) (m.getD j .non)) := by
  have n1 : j < l.length := by rw [← e1.length, rv.length]; simpa using hj1
  have n2 : j < m.length := by rw [← e2.length, rv2.length]; simpa using hj2
  obtain ⟨x, gx, dx⟩ := e1.get (i := j) (d := l[j]) (by simp [n1])
  obtain ⟨y, gy, dy⟩ := e2.get (i := j) (d := m[j]) (by simp [n2])
  obtain ⟨ux, gux, rx⟩ := rv.get gx
  obtain ⟨uy, guy, ry⟩ := rv2.get gy
  have ex : its.toArray[j] = ux := by
    have : its.toArray[j]? = some ux := by simpa using gux
    exact Option.some.inj ((Array.getElem?_eq_getElem hj1).symm.trans this)
  have ey : its2.toArray[j] = uy := by
    have : its2.toArray[j]? = some uy := by simpa using guy
    exact Option.some.inj ((Array.getElem?_eq_getElem hj2).symm.trans this)
  have d1 := dep_mem (List.getElem_mem n1)
  have d2 := dep_mem (List.getElem_mem n2)
  have gl : l.getD j .non = l[j] := by simp [List.getD, n1]
  have gm : m.getD j .non = m[j] := by simp [List.getD, n2]
  rw [ex, ey, gl, gm]
  exact eqAt_D ok l[j] m[j] A x y ux uy (by omega) dx dy rx ry
end
section
variable {X : Cx}
/-- two lists, or two tuples, of data -/
def rEqD (f : Bool → Bool) (X : Cx) : R2 := fun x y H Q => ∃ l m, ((DV H x (.lst l) ∧ DV H y (.lst m)) ∨ (DV H x (.tup l) ∧ DV H y (.tup m))) ∧ X.A.units + 1 + Dat.deps l + Dat.deps m < cLine ∧ Q (.bl (f (Dat.beqs l m))) H
theorem all_beqs {l m : List Dat} (h : l.length = m.length) : ((List.range l.length).all fun j => Dat.beq (l.getD j .non) (m.getD j .non)) = Dat.beqs l m := by
  have := @beqs_all l m
  rw [← h, Nat.min_self] at this
  rw [Bool.eq_iff_iff, ← this]
  exact ⟨fun h => ⟨h, rfl⟩, fun h => h.1⟩
theorem all_beqs2 {l m : List Dat} : ((List.range (min l.length m.length)).all (fun j => Dat.beq (l.getD j .non) (m.getD j .non)) && l.length == m.length) = Dat.beqs l m := by
  rw [Bool.eq_iff_iff, Bool.and_eq_true, beq_iff_eq]
  exact beqs_all
theorem beqs_len {l m : List Dat} (h : ¬ l.length = m.length) : Dat.beqs l m = false := by
  cases hb : Dat.beqs l m with
  | false => rfl
  | true => exact absurd (beqs_all.mpr hb).2 h
theorem op_eqD : OpR X (compareOp .Eq) (rEqD id X) := by
  intro pins s σ H x y v u Q I rx ry h
  obtain ⟨l, m, h, hu, q⟩ := h
  have ok := I.hok
  rcases h with ⟨h1, h2⟩ | ⟨h1, h2⟩
  all_goals unfold DV at h1 h2
  all_goals obtain ⟨a, xs, rfl, q1, e1⟩ := h1
  all_goals obtain ⟨b, ys, rfl, q2, e2⟩ := h2
  all_goals cases (show v = Value.ref a from rx)
  all_goals cases (show u = Value.ref b from ry)
  · obtain ⟨_, its, n, rv, p1⟩ := ok a _ q1
    obtain ⟨_, its2, n', rv2, p2⟩ := ok b _ q2
    have L1 : s.heap.IsList a its.toArray := ⟨_, p1, rfl, n, rfl⟩
    have L2 : s.heap.IsList b its2.toArray := ⟨_, p2, rfl, n', rfl⟩
    have n1 : its.toArray.size = l.length := by rw [List.size_toArray, ← rv.length, e1.length]
    have n2 : its2.toArray.size = m.length := by rw [List.size_toArray, ← rv2.length, e2.length]
    by_cases hlen : l.length = m.length
    · refine SeqAt.eq_listAt (e := fun j => Dat.beq (l.getD j .non) (m.getD j .non)) L1 L2 (by rw [n1, n2, hlen]) (by omega) (items_D ok (by rw [in1_units]; omega) e1 e2 rv rv2) ⟨.bl _, H, I, rfl, ?_⟩
      rw [n1, all_beqs hlen]
      exact q
    · refine SeqAt.eq_list_lengthsAt L1 L2 (by rw [n1, n2]; simpa using hlen) (by omega) ⟨.bl _, H, I, rfl, ?_⟩
      rw [← beqs_len hlen]
      exact q
  · obtain ⟨_, its, rv, p1⟩ := ok a _ q1
    obtain ⟨_, its2, rv2, p2⟩ := ok b _ q2
    have n1 : its.toArray.size = l.length := by rw [List.size_toArray, ← rv.length, e1.length]
    have n2 : its2.toArray.size = m.length := by rw [List.size_toArray, ← rv2.length, e2.length]
    refine SeqAt.eq_tupleAt (e := fun j => Dat.beq (l.getD j .non) (m.getD j .non)) p1 p2 (by omega) (items_D ok (by rw [in1_units]; omega) e1 e2 rv rv2) ⟨.bl _, H, I, rfl, ?_⟩
    rw [n1, n2, all_beqs2]
    exact q
theorem of_rcneL {prog : Program} {w : World} {A : Around} {s : Shared} {E : Value → Shared → Prop} {Q : Value → Shared → Prop} {a b : Value} {k : Bool} (h : SeqAt.RcNeAt A s a b k) (hq : Q (.bool k) s) : wpAny (model prog w) A (compareOp .NotEq a b) Q E s := h prog w E Q hq
theorem op_neD : OpR X (compareOp .NotEq) (rEqD (fun b => !b) X) := by
  intro pins s σ H x y v u Q I rx ry h
  obtain ⟨l, m, h, hu, q⟩ := h
  have ok := I.hok
  rcases h with ⟨h1, h2⟩ | ⟨h1, h2⟩
  all_goals unfold DV at h1 h2
  all_goals obtain ⟨a, xs, rfl, q1, e1⟩ := h1
  all_goals obtain ⟨b, ys, rfl, q2, e2⟩ := h2
  all_goals cases (show v = Value.ref a from rx)
  all_goals cases (show u = Value.ref b from ry)
  · obtain ⟨_, its, n, rv, p1⟩ := ok a _ q1
    obtain ⟨_, its2, n', rv2, p2⟩ := ok b _ q2
    have L1 : s.heap.IsList a its.toArray := ⟨_, p1, rfl, n, rfl⟩
    have L2 : s.heap.IsList b its2.toArray := ⟨_, p2, rfl, n', rfl⟩
    have n1 : its.toArray.size = l.length := by rw [List.size_toArray, ← rv.length, e1.length]
    have n2 : its2.toArray.size = m.length := by rw [List.size_toArray, ← rv2.length, e2.length]
    by_cases hlen : l.length = m.length
    · refine of_rcneL (SeqAt.RcNeAt.lists (e := fun j => Dat.beq (l.getD j .non) (m.getD j .non)) L1 L2 (by rw [n1, n2, hlen]) (by omega) (items_D ok (by rw [in1_units]; omega) e1 e2 rv rv2)) ⟨.bl _, H, I, rfl, ?_⟩
      rw [n1, all_beqs hlen]
      exact q
    · refine of_rcneL (SeqAt.RcNeAt.lists_lengths L1 L2 (by rw [n1, n2]; simpa using hlen) (by omega)) ⟨.bl _, H, I, rfl, ?_⟩
      rw [beqs_len hlen] at q
      exact q
  · obtain ⟨_, its, rv, p1⟩ := ok a _ q1
    obtain ⟨_, its2, rv2, p2⟩ := ok b _ q2
    have n1 : its.toArray.size = l.length := by rw [List.size_toArray, ← rv.length, e1.length]
    have n2 : its2.toArray.size = m.length := by rw [List.size_toArray, ← rv2.length, e2.length]
    refine of_rcneL (SeqAt.RcNeAt.tuples (e := fun j => Dat.beq (l.getD j .non) (m.getD j .non)) p1 p2 (by omega) (items_D ok (by rw [in1_units]; omega) e1 e2 rv rv2)) ⟨.bl _, H, I, rfl, ?_⟩
    rw [n1, n2, all_beqs2]
    exact q
end
end L2
namespace L2
open PySem PySem.Spec PyProof.Rows
section
variable {X : Cx} {e o : Expr} {es : List Expr} {te ta : TE} {t : TA} {CX : CXT} {k : Nat} {x m : Str} {C : Addr} {ps : List Str} {sp : Sp} {E : XK} {p pos apos : Pos} {R : Value → St → Hp → Prop}
/-- an argument, and those behind it -/
theorem pac (ha : PE X e te) (hr : PA X es t) (hs : ∀ (es : List Expr) (env : Env), starEach (e :: es) env = (false, eval e env) :: starEach es env := by exact fun _ _ => rfl) : PA X (e :: es) (tCons te t) := pa_cons ha hr (hs es X.env)
theorem pe_ty {T : String} (hg : Gl X x) (hm : X.mg x = none) (hv : bootBuiltins x = some (.type T)) (hn : x ≠ "__name__" := by decide) (hd : (x == ("__debug__" : Str)) = false := by decide) : PE X (.Name x pos) (tC (.ty T)) := pe_bltn hg hm hv rfl hn hd

/-- a def of the text, by its name and its promise -/
structure FnBy (P : Program) (w : World) (K : PySem.W.Frag) (mg : Str → Option Value) (base : Heap) (CX : CXT) (k : Nat) (x : Str) (ps : List Str) (sp : Sp) : Prop where
  ex : ∃ f fd, FnOk P w K mg base CX k f fd ps sp ∧ mg x = some (.ref f) ∧ PySem.W.keepIn K (.ref f) = true ∧ Binds K fd ps []
/-- a method -/
structure MethBy (P : Program) (w : World) (K : PySem.W.Frag) (mg : Str → Option Value) (base : Heap) (CX : CXT) (k : Nat) (C : Addr) (m : Str) (ps : List Str) (sp : Sp) : Prop where
  cl : Cls K C
  ex : ∃ f fd, FnOk P w K mg base CX k f fd ps sp ∧ Meth K C m f ∧ Binds K fd ps []
/-- a class, by its __init__ -/
structure MakeBy (P : Program) (w : World) (K : PySem.W.Frag) (mg : Str → Option Value) (base : Heap) (CX : CXT) (k : Nat) (x : Str) (C : Addr) (ps : List Str) (sp : Sp) : Prop where
  ex : ∃ f fd, Mk K C f ∧ FnOk P w K mg base CX k f fd ps sp ∧ mg x = some (.ref C) ∧ Binds K fd ps []
theorem pe_fn (c : FnBy X.prog X.w X.K X.mg X.base CX k x ps sp) (hr : Room k X.A) (hg : Gl X x) (hx : Passes CX X E) (ha : PA X (e :: es) t) (hdb : (x == ("__debug__" : Str)) = false := by decide)
    (he : ∀ (es : List Expr) (env : Env), starEach (e :: es) env = (false, eval e env) :: starEach es env := by exact fun _ _ => rfl) (hpl : (backTo pos (starEach es X.env)).any (·.1) = false := by rfl) : PE X (.Call (.Name x p) (e :: es) [] pos) (tCall sp [] E t) := by
  obtain ⟨f, fd, F, hm, hk, hb⟩ := c.ex
  exact pe_call F hr hg hm hk hb .nil hx ha hdb (he es X.env) hpl
theorem pe_me {pl : Sem Bool} (c : MethBy X.prog X.w X.K X.mg X.base CX k C m ps sp) (ho : PE X o ta) (hr : Room k X.A) (hx : Passes CX X E) (ha : PA X (e :: es) t)
    (he : ∀ (es : List Expr) (env : Env), starEach (e :: es) env = (false, eval e env) :: starEach es env := by exact fun _ _ => rfl) (hpl : (backTo pos (starEach es X.env)).any (·.1) = false := by rfl)
    (ht : eval (.Call (.Attribute o m apos) (e :: es) [] pos) X.env = (do
      let ov ← eval o X.env
      standAt apos.atName
      let (f, first) ← holding [ov] (getMethod ov m pl)
      callWith pos f first (backTo pos (starEach (e :: es) X.env)) (backToKw pos (keywordEach [] X.env))) := by rfl) :
    PE X (.Call (.Attribute o m apos) (e :: es) [] pos) (tMeth C m sp [] E ta t) := by
  obtain ⟨f, fd, F, hm, hb⟩ := c.ex
  exact pe_meth ho c.cl hm F hr hb .nil hx ha (he es X.env) hpl ht
theorem pe_meX {pl : Sem Bool} (c : MethBy X.prog X.w X.K X.mg X.base (CXE X.prog X.w) k C m ps sp) (ho : PE X o ta) (hr : Room k X.A) (hx : XPass X R) (ha : PA X (e :: es) t)
    (he : ∀ (es : List Expr) (env : Env), starEach (e :: es) env = (false, eval e env) :: starEach es env := by exact fun _ _ => rfl) (hpl : (backTo pos (starEach es X.env)).any (·.1) = false := by rfl)
    (ht : eval (.Call (.Attribute o m apos) (e :: es) [] pos) X.env = (do
      let ov ← eval o X.env
      standAt apos.atName
      let (f, first) ← holding [ov] (getMethod ov m pl)
      callWith pos f first (backTo pos (starEach (e :: es) X.env)) (backToKw pos (keywordEach [] X.env))) := by rfl) :
    PE X (.Call (.Attribute o m apos) (e :: es) [] pos) (tMethX C m sp [] R ta t) := by
  obtain ⟨f, fd, F, hm, hb⟩ := c.ex
  exact pe_methX ho c.cl hm F hr hb .nil hx ha (he es X.env) hpl ht
theorem pe_me0 {pl : Sem Bool} (c : MethBy X.prog X.w X.K X.mg X.base CX k C m ps sp) (ho : PE X o ta) (hr : Room k X.A) (hx : Passes CX X E)
    (ht : eval (.Call (.Attribute o m apos) [] [] pos) X.env = (do
      let ov ← eval o X.env
      standAt apos.atName
      let (f, first) ← holding [ov] (getMethod ov m pl)
      callWith pos f first (backTo pos (starEach [] X.env)) (backToKw pos (keywordEach [] X.env))) := by rfl) :
    PE X (.Call (.Attribute o m apos) [] [] pos) (tMeth C m sp [] E ta tNil) := by
  obtain ⟨f, fd, F, hm, hb⟩ := c.ex
  exact pe_meth0 ho c.cl hm F hr hb .nil hx ht
end
/-! readings -/
section
variable {K : PySem.W.Frag} {H : Hp} {p : Addr} {xs : List V} {i : Int} {v : V} {Q : VK}
theorem rix_l (h : H p = some (.lst xs)) (hi : atI xs i = some v) (q : Q v H) : rIx K (.ref p) (.int i) H Q := .inl ⟨p, xs, i, v, rfl, rfl, .inl (.inl h), hi, q⟩
theorem rix_t (h : H p = some (.tup xs)) (hi : atI xs i = some v) (q : Q v H) : rIx K (.ref p) (.int i) H Q := .inr (.inl ⟨p, xs, i, v, rfl, rfl, .inl (.inl h), hi, q⟩)
theorem rix_s (h : SqL K H p xs) (hi : atI xs i = some v) (q : Q v H) : rIx K (.ref p) (.int i) H Q := .inl ⟨p, xs, i, v, rfl, rfl, h, hi, q⟩
end
theorem sizeLine_ge : 1000 ≤ sizeLine := by decide
theorem le_size {n : Nat} (h : n ≤ 1000) : n ≤ sizeLine := Nat.le_trans h sizeLine_ge
theorem lt_size {n : Nat} (h : n < 1000) : n < sizeLine := Nat.lt_of_lt_of_le h sizeLine_ge
theorem Same.new {H H' : Hp} {p : Addr} {o : HO} (s : Same H H') (h : H' p = none) : Same H (upd H' p o) := fun b u e => by
  rw [upd_ne (ne_of_none (s b u e) h)]
  exact s b u e
def Dat.isInt : Dat → Bool | .int _ => true | _ => false
def dty : Dat → Value
  | .non => .type "NoneType" | .bl _ => .type "bool" | .int _ => .type "int" | .str _ => .type "str" | .tup _ => .type "tuple" | .lst _ => .type "list"
theorem DV.ty {K : PySem.W.Frag} {H : Hp} {v : V} {d : Dat} (h : DV H v d) : TyOf K H v (dty d) := by
  cases d <;> unfold DV at h
  · subst h; exact .non
  · subst h; exact .bl _
  · subst h; exact .int _
  · subst h; exact .str _
  · obtain ⟨a, xs, rfl, q, _⟩ := h; exact .tup q
  · obtain ⟨a, xs, rfl, q, _⟩ := h; exact .lst q
theorem kit_int {K : PySem.W.Frag} : ∀ d : Dat, PySem.W.kitOne K (dty d) (.type "int") = some (match d with | .int _ => true | .bl _ => true | _ => false)
  | .non => rfl | .bl _ => rfl | .int _ => rfl | .str _ => rfl | .tup _ => rfl | .lst _ => rfl
theorem kit_bool {K : PySem.W.Frag} : ∀ d : Dat, PySem.W.kitOne K (dty d) (.type "bool") = some (match d with | .bl _ => true | _ => false)
  | .non => rfl | .bl _ => rfl | .int _ => rfl | .str _ => rfl | .tup _ => rfl | .lst _ => rfl
end L2
namespace L2
open PySem PySem.Spec PyProof.Rows
def capOk (names : List (Str × NameKind)) (NX : List Str) : List Str → List (Option Nat) → Bool
  | x :: N', none :: ix => capOk names NX N' ix
  | x :: N', some j :: ix => NX[j]? == some x && names.lookup x == some .free && capOk names NX N' ix
  | [], [] => true
  | _, _ => false
theorem capOk_len {names : List (Str × NameKind)} {NX : List Str} : ∀ {N' : List Str} {ix : List (Option Nat)}, capOk names NX N' ix = true → ix.length = N'.length
  | [], [], _ => rfl
  | x :: N', none :: ix, h => by rw [capOk] at h; rw [List.length_cons, List.length_cons, capOk_len h]
  | x :: N', some j :: ix, h => by
    rw [capOk] at h
    simp only [Bool.and_eq_true] at h
    rw [List.length_cons, List.length_cons, capOk_len h.2]
  | [], _ :: _, h => by simp [capOk] at h
  | _ :: _, [], h => by simp [capOk] at h
theorem capOk_cap {names : List (Str × NameKind)} {NX : List Str} : ∀ {N' : List Str} {ix : List (Option Nat)}, capOk names NX N' ix = true → ∀ (i : Nat) (x : Str) (j : Nat), N'[i]? = some x → ix[i]? = some (some j) → NX[j]? = some x ∧ names.lookup x = some .free
  | x :: N', none :: ix, h, 0, y, j, h1, h2 => by simp at h2
  | x :: N', none :: ix, h, i + 1, y, j, h1, h2 => by rw [capOk] at h; exact capOk_cap h i y j (by simpa using h1) (by simpa using h2)
  | x :: N', some j :: ix, h, 0, y, j', h1, h2 => by
    rw [capOk] at h
    simp only [Bool.and_eq_true, beq_iff_eq] at h
    simp only [List.getElem?_cons_zero, Option.some.injEq] at h1 h2
    subst h1 h2
    exact ⟨h.1.1, h.1.2⟩
  | x :: N', some j :: ix, h, i + 1, y, j', h1, h2 => by
    rw [capOk] at h
    simp only [Bool.and_eq_true] at h
    exact capOk_cap h.2 i y j' (by simpa using h1) (by simpa using h2)
  | [], _, _, _, _, _, h1, _ => by simp at h1
  | _ :: _, [], h, _, _, _, _, _ => by simp [capOk] at h
theorem comp_sc {X : Cx} {scope : Scope} {N' : List Str} {ix : List (Option Nat)} (kind : scope.kind = .function) (h : (scope.names.all fun y => y.2 != .cell && (y.2 != .local || scope.names.lookup y.1 == some .local) &&
    (y.2 != .free || (scope.names.lookup y.1 == some .free && (X.env.scope.names.lookup y.1 == some .cell || X.env.scope.names.lookup y.1 == some .free)))) = true) (hc : capOk scope.names X.N N' ix = true) : CompSc X scope N' ix := by
  rw [List.all_eq_true] at h
  refine ⟨kind, fun y hy z => ?_, fun y hy z => ?_, fun y hy z => ?_, capOk_len hc, capOk_cap hc⟩
  · have := h y hy
    rw [z] at this
    simp at this
  · have := h y hy
    rw [z] at this
    simp at this
    exact this
  · have := h y hy
    rw [z] at this
    simp at this
    exact this
/-! a cut between statements: what holds there -/
def tCut (M : St → Hp → Prop) (t u : TS) : TS := fun D σ H => t { D with nx := M } σ H ∧ ∀ σ' H', M σ' H' → u D σ' H'
theorem pss_cut {X : Cx} {st : Stmt} {rest : List Stmt} {t u : TS} (M : St → Hp → Prop) (h1 : PS X st t) (h2 : PSs X rest u) : PSs X (st :: rest) (tCut M t u) := by
  have h3 := pss_cons h1 h2
  intro pins s σ H D I h
  obtain ⟨ht, hu⟩ := h
  have key : PSs X (st :: rest) (fun D' σ H => t { D' with nx := M } σ H ∧ ∀ σ' H', M σ' H' → u D' σ' H') := by
    intro pins s σ H D I h
    refine wpAny_execs_cons (thn (h1 pins s σ H _ I h.1) fun f s1 q => ?_)
    cases f with
    | next => obtain ⟨σ', H', I', m⟩ := q; exact h2 pins s1 σ' H' D I' (h.2 σ' H' m)
    | brk => exact q
    | cont => exact q
    | ret v => exact q
  exact key pins s σ H D I ⟨ht, hu⟩
theorem pg_comp {X : Cx} {scope : Scope} {N' : List Str} {C : Addr} {s : Shared} {H : Hp} {fp : List Addr} {pins : List (Addr × Obj)} {i : Nat} {x : Str} {pos : Pos} (nd : N'.Nodup) (hi : N'[i]? = some x) (hx : scope.names.lookup x = some .local) :
    PG (X.comp scope N' C s H fp pins) (.Name x pos) (gName i) := pg_name nd hi (Or.inl (lookup_relabel_local hx)) (Or.inr (lookup_relabel_local hx))
/-! data without lists stays when a list is changed -/
mutual
def Dat.noLst : Dat → Bool
  | .tup l => Dat.noLsts l
  | .lst _ => false
  | _ => true
def Dat.noLsts : List Dat → Bool
  | [] => true
  | d :: l => d.noLst && Dat.noLsts l
end
theorem noLsts_of {l : List Dat} (h : ∀ d ∈ l, d.noLst = true) : Dat.noLsts l = true := by
  induction l with
  | nil => rw [Dat.noLsts]
  | cons d r ih =>
    rw [Dat.noLsts, h d List.mem_cons_self, ih fun x hx => h x (List.mem_cons_of_mem _ hx)]
    rfl
section
variable {H : Hp} {l : Addr} {ys : List V} {o : HO}
mutual
theorem DV.keepL (hl : H l = some (.lst ys)) : ∀ {v : V} {d : Dat}, d.noLst = true → DV H v d → DV (upd H l o) v d
  | v, .non, _, h => by unfold DV at h ⊢; exact h
  | v, .bl b, _, h => by unfold DV at h ⊢; exact h
  | v, .int i, _, h => by unfold DV at h ⊢; exact h
  | v, .str x, _, h => by unfold DV at h ⊢; exact h
  | v, .tup m, hn, h => by
    rw [Dat.noLst] at hn
    unfold DV at h ⊢
    obtain ⟨a, xs, h1, h2, h3⟩ := h
    refine ⟨a, xs, h1, ?_, DVs.keepL hl hn h3⟩
    rw [upd_ne (ne_of h2 hl (by intro z; cases z))]
    exact h2
  | v, .lst m, hn, _ => by rw [Dat.noLst] at hn; cases hn
theorem DVs.keepL (hl : H l = some (.lst ys)) : ∀ {xs : List V} {m : List Dat}, Dat.noLsts m = true → DVs H xs m → DVs (upd H l o) xs m
  | [], [], _, _ => by unfold DVs; trivial
  | x :: xs, d :: ds, hn, h => by
    rw [Dat.noLsts, Bool.and_eq_true] at hn
    unfold DVs at h ⊢
    exact ⟨DV.keepL hl hn.1 h.1, DVs.keepL hl hn.2 h.2⟩
  | [], _ :: _, _, h => by unfold DVs at h; exact h.elim
  | _ :: _, [], _, h => by unfold DVs at h; exact h.elim
end
end
/-- a change at what was not there -/
theorem Same.put {H H' : Hp} {p : Addr} {o : HO} (s : Same H H') (h : H p = none) : Same H (upd H' p o) := fun b u e => by
  rw [upd_ne (ne_of_none e h)]
  exact s b u e
theorem DVs.rep {H : Hp} {v : V} {d : Dat} (h : DV H v d) : ∀ n : Nat, DVs H (List.replicate n v) (List.replicate n d)
  | 0 => DVs.nil
  | n + 1 => DVs.cons h (DVs.rep h n)
/-! readings of loops and comprehensions -/
section
variable {K : PySem.W.Frag} {ix : List (Option Nat)} {g : TG} {tc : TT} {te tl : TE} {ta : TA} {tb : TS} {Q : VK} {D : Ends} {σ : St} {H : Hp}
theorem rlc_range (mono : ∀ R R' : List V → Hp → Prop, (∀ vs H, R vs H → R' vs H) → ta σ H R → ta σ H R') (h : ta σ H fun vs H1 => ∃ j : Int, vs = [.int j] ∧ -(2 ^ 62) ≤ j ∧ j < 2 ^ 62 ∧ ∀ acc, H1 acc = none → ∃ Pv : Nat → St → Hp → Prop, Pv 0 (st0 ix σ) (upd H1 acc (.lst [])) ∧
      (∀ i σ2 H2, i < j.toNat → Pv i σ2 H2 → g (.int (0 + i)) σ2 H2 fun σ3 H3 => tc σ3 H3 fun b H4 => if b = true then te σ3 H4 fun y H5 => ∃ ys, H5 acc = some (.lst ys) ∧ ys.length < sizeLine ∧ Pv (i + 1) σ3 (upd H5 acc (.lst (ys ++ [y]))) else Pv (i + 1) σ3 H4) ∧
      ∀ σ2 H2, Pv j.toNat σ2 H2 → Q (.ref acc) H2) : tLC (iRng1 ta) ix g tc te σ H Q := by
  refine mono _ _ (fun vs H1 h => ?_) h
  obtain ⟨j, e, h1, h2, h3⟩ := h
  refine ⟨j, e, h1, h2, fun acc hacc => ?_⟩
  obtain ⟨Pv, p0, ps, pd⟩ := h3 acc hacc
  exact lc_range Pv p0 ps pd
theorem rlc_list (mono : ∀ R R' : V → Hp → Prop, (∀ v H, R v H → R' v H) → tl σ H R → tl σ H R') (h : tl σ H fun x H1 => ∃ a xs, x = .ref a ∧ SqL K H1 a xs ∧ ∀ acc, H1 acc = none → ∃ Pv : Nat → St → Hp → Prop, Pv 0 (st0 ix σ) (upd H1 acc (.lst [])) ∧ (∀ i σ2 H2, i ≤ xs.length → Pv i σ2 H2 → SqL K H2 a xs) ∧
      (∀ i x σ2 H2, xs[i]? = some x → Pv i σ2 H2 → g x σ2 H2 fun σ3 H3 => tc σ3 H3 fun b H4 => if b = true then te σ3 H4 fun y H5 => ∃ ys, H5 acc = some (.lst ys) ∧ ys.length < sizeLine ∧ Pv (i + 1) σ3 (upd H5 acc (.lst (ys ++ [y]))) else Pv (i + 1) σ3 H4) ∧
      ∀ σ2 H2, Pv xs.length σ2 H2 → Q (.ref acc) H2) : tLC (iList K tl) ix g tc te σ H Q := by
  refine mono _ _ (fun x H1 h => ?_) h
  obtain ⟨a, xs, e, hs, h3⟩ := h
  refine ⟨a, e, ⟨xs, hs⟩, fun acc hacc => ?_⟩
  obtain ⟨Pv, p0, pl, ps, pd⟩ := h3 acc hacc
  exact lc_list Pv p0 pl ps pd
theorem rfor_range (mono : ∀ R R' : List V → Hp → Prop, (∀ vs H, R vs H → R' vs H) → ta σ H R → ta σ H R') (h : ta σ H fun vs H1 => ∃ j : Int, vs = [.int j] ∧ -(2 ^ 62) ≤ j ∧ j < 2 ^ 62 ∧ ∃ Pv : Nat → St → Hp → Prop, Pv 0 σ H1 ∧
      (∀ i σ2 H2, i < j.toNat → Pv i σ2 H2 → g (.int (0 + i)) σ2 H2 fun σ3 H3 => tb { D with nx := Pv (i + 1), ct := Pv (i + 1), bk := D.nx } σ3 H3) ∧
      ∀ σ2 H2, Pv j.toNat σ2 H2 → D.nx σ2 H2) : tFor (iRng1 ta) g tb D σ H := by
  refine mono _ _ (fun vs H1 h => ?_) h
  obtain ⟨j, e, h1, h2, Pv, p0, ps, pd⟩ := h
  exact ⟨j, e, h1, h2, for_range Pv p0 ps pd⟩
theorem rfor_list (mono : ∀ R R' : V → Hp → Prop, (∀ v H, R v H → R' v H) → tl σ H R → tl σ H R') (h : tl σ H fun x H1 => ∃ a xs, x = .ref a ∧ SqL K H1 a xs ∧ ∃ Pv : Nat → St → Hp → Prop, Pv 0 σ H1 ∧ (∀ i σ2 H2, i ≤ xs.length → Pv i σ2 H2 → SqL K H2 a xs) ∧
      (∀ i x σ2 H2, xs[i]? = some x → Pv i σ2 H2 → g x σ2 H2 fun σ3 H3 => tb { D with nx := Pv (i + 1), ct := Pv (i + 1), bk := D.nx } σ3 H3) ∧
      ∀ σ2 H2, Pv xs.length σ2 H2 → D.nx σ2 H2) : tFor (iList K tl) g tb D σ H := by
  refine mono _ _ (fun x H1 h => ?_) h
  obtain ⟨a, xs, e, hs, Pv, p0, pl, ps, pd⟩ := h
  exact ⟨a, e, ⟨xs, hs⟩, for_list Pv p0 pl ps pd⟩
end
theorem atI_zero {x : V} {xs : List V} : atI (x :: xs) 0 = some x := by unfold atI ixN; simp
theorem atI_at {xs : List V} {k : Nat} {v : V} (h : xs[k]? = some v) : atI xs (k : Int) = some v := by
  have hl := (List.getElem?_eq_some_iff.mp h).1
  unfold atI ixN
  rw [if_pos (by omega), if_pos (by omega)]
  simpa using h
end L2
namespace L2
open PySem PySem.Spec PyProof.Rows
/-! rules that name the heap behind them -/
/-- G is H with o at p, which was free -/
structure New (H : Hp) (p : Addr) (o : HO) (G : Hp) : Prop where
  free : H p = none
  eq : G = upd H p o
theorem New.at {H G : Hp} {p : Addr} {o : HO} (n : New H p o G) : G p = some o := by rw [n.eq]; exact upd_same
theorem New.same {H G : Hp} {p : Addr} {o : HO} (n : New H p o G) : Same H G := by rw [n.eq]; exact (Same.refl _).new n.free
/-- G is H with o at p -/
structure Put (H : Hp) (p : Addr) (o : HO) (G : Hp) : Prop where
  eq : G = upd H p o
theorem Put.at {H G : Hp} {p : Addr} {o : HO} (n : Put H p o G) : G p = some o := by rw [n.eq]; exact upd_same
theorem Put.ne {H G : Hp} {p b : Addr} {o : HO} (n : Put H p o G) (h : b ≠ p) : G b = H b := by rw [n.eq]; exact upd_ne h
theorem Put.same {H H' G : Hp} {p : Addr} {o : HO} (n : Put H' p o G) (s : Same H H') (h : H p = none) : Same H G := by rw [n.eq]; exact s.put h
theorem Put.dvs {H G : Hp} {l : Addr} {ys : List V} {o : HO} {xs : List V} {m : List Dat} (n : Put H l o G) (hl : H l = some (.lst ys)) (hn : Dat.noLsts m = true) (d : DVs H xs m) : DVs G xs m := by rw [n.eq]; exact DVs.keepL hl hn d
theorem Put.dv {H G : Hp} {l : Addr} {ys : List V} {o : HO} {v : V} {m : Dat} (n : Put H l o G) (hl : H l = some (.lst ys)) (hn : m.noLst = true) (d : DV H v m) : DV G v m := by rw [n.eq]; exact DV.keepL hl hn d
section
variable {X : Cx} {es : List Expr} {t : TA} {pos : Pos}
def tTupN (t : TA) : TE := fun σ H Q => t σ H fun xs H1 => xs.length ≤ sizeLine ∧ ∀ p G, New H1 p (.tup xs) G → Q (.ref p) G
def tLstN (t : TA) : TE := fun σ H Q => t σ H fun xs H1 => xs.length ≤ sizeLine ∧ ∀ p G, New H1 p (.lst xs) G → Q (.ref p) G
theorem pe_tupN {x1} (h : PA X es t) : PE X (.Tuple es x1 pos) (tTupN t) := by
  intro pins s σ H Q I hq
  refine wpAny_Tuple_spliced (thn (h pos pins s σ H _ I hq) fun us s1 ⟨xs, H1, I1, r, z, q⟩ => ⟨by rw [← r.length]; exact z, ?_⟩)
  have hf : H1 s1.heap.objs.size = none := I1.hok.fresh (Nat.le_refl _)
  refine ⟨.ref s1.heap.objs.size, upd H1 s1.heap.objs.size (.tup xs), I1.laid (t' := s1.toks) (fun b u e => Heap.get?_push_of_some _ e) (Nat.le_refl _) ?_, rfl, q _ _ ⟨hf, rfl⟩⟩
  exact ⟨z, us, r, ⟨_, Heap.get?_push_size _ rfl, rfl, 0, rfl⟩⟩
theorem pe_lstN (h : PA X es t) : PE X (.List es pos) (tLstN t) := by
  intro pins s σ H Q I hq
  refine wpAny_List_spliced (thn (h pos pins s σ H _ I hq) fun us s1 ⟨xs, H1, I1, r, z, q⟩ => ⟨by rw [← r.length]; exact z, ?_⟩)
  have hf : H1 s1.heap.objs.size = none := I1.hok.fresh (Nat.le_refl _)
  refine ⟨.ref s1.heap.objs.size, upd H1 s1.heap.objs.size (.lst xs), I1.laid (t' := s1.toks) (fun b u e => Heap.get?_push_of_some _ e) (Nat.le_refl _) ?_, rfl, q _ _ ⟨hf, rfl⟩⟩
  exact ⟨z, us, 0, r, Heap.get?_push_size _ rfl⟩
theorem OpR.of {f : Value → Value → Sem Value} {r r' : R2} (h : OpR X f r) (i : ∀ x y H Q, r' x y H Q → r x y H Q) : OpR X f r' := fun pins s σ H x y v u Q I rx ry q => h pins s σ H x y v u Q I rx ry (i _ _ _ _ q)
theorem CallR.of {f : Value} {r r' : List V → Hp → VK → Prop} (h : CallR X f r) (i : ∀ xs H Q, r' xs H Q → r xs H Q) : CallR X f r' := fun pins s σ H xs us Q I rx q => h pins s σ H xs us Q I rx (i _ _ _ q)
theorem MtM.of {id : String} {r r' : V → List V → Hp → VK → Prop} (h : MtM X id r) (i : ∀ x xs H Q, r' x xs H Q → r x xs H Q) : MtM X id r' := fun pins s σ H x xs v us Q I r1 r2 q => h pins s σ H x xs v us Q I r1 r2 (i _ _ _ _ q)
def rRepN : R2 := fun x y H Q => ∃ l k xs, x = .ref l ∧ y = .int k ∧ H l = some (.lst xs) ∧ -(2 ^ 63) ≤ k ∧ k < 2 ^ 63 ∧ xs.length * k.toNat ≤ sizeLine ∧ ∀ p G, New H p (.lst (List.replicate k.toNat xs).flatten) G → Q (.ref p) G
theorem op_repN : OpR X (binaryOp .Mult) rRepN := op_rep.of fun x y H Q ⟨l, k, xs, h1, h2, h3, h4, h5, h6, h7⟩ => ⟨l, k, xs, h1, h2, h3, h4, h5, h6, fun p hp => h7 p _ ⟨hp, rfl⟩⟩
theorem call_listN : CallR X (.type "list") (fun xs H Q => ∃ p ys, xs = [.ref p] ∧ (SqL X.K H p ys ∨ SqT X.K H p ys) ∧ ∀ l G, New H l (.lst ys) G → Q (.ref l) G) := call_list_of.of fun xs H Q ⟨p, ys, h1, h2, h3⟩ => ⟨p, ys, h1, h2, fun l hl => h3 l _ ⟨hl, rfl⟩⟩
def rAppendN : V → List V → Hp → VK → Prop := fun x vs H Q => ∃ l xs y, x = .ref l ∧ vs = [y] ∧ H l = some (.lst xs) ∧ xs.length < sizeLine ∧ ∀ G, Put H l (.lst (xs ++ [y])) G → Q .non G
theorem mt_appendN : MtM X "list.append" rAppendN := mt_append.of fun x vs H Q ⟨l, xs, y, h1, h2, h3, h4, h5⟩ => ⟨l, xs, y, h1, h2, h3, h4, h5 _ ⟨rfl⟩⟩
def rExtendN : V → List V → Hp → VK → Prop := fun x vs H Q => ∃ l b xs zs, x = .ref l ∧ vs = [.ref b] ∧ H l = some (.lst xs) ∧ H b = some (.lst zs) ∧ xs.length + zs.length ≤ sizeLine ∧ ∀ G, Put H l (.lst (xs ++ zs)) G → Q .non G
theorem mt_extendN : MtM X "list.extend" rExtendN := mt_extend.of fun x vs H Q ⟨l, b, xs, zs, h1, h2, h3, h4, h5, h6⟩ => ⟨l, b, xs, zs, h1, h2, h3, h4, h5, h6 _ ⟨rfl⟩⟩
end
end L2
namespace L2
open PySem PySem.Spec PyProof.Rows
section
variable {X : Cx} {o e value : Expr} {f : Str} {pos pos' tpos : Pos} {ta tv : TE}
def sFldN (K : PySem.W.Frag) (ta tv : TE) (f : Str) : TS := fun D σ H => tv σ H fun y H1 => ta σ H1 fun x H2 => ∃ a C dx fs, x = .ref a ∧ H2 a = some (.ins C dx fs) ∧ Cls K C ∧ NoAttr K C f ∧ fs.length < 1000 ∧
  ∀ G, Put H2 a (.ins C dx (putF f y fs)) G → D.nx σ G
theorem ps_fldN (ha : PE X o ta) (hv : PE X value tv) (hs : swapsWith value (some (.Attribute o f pos')) pos.line X.env = pure false) : PS X (.Assign [.Attribute o f pos'] value pos) (sFldN X.K ta tv f) := by
  intro pins s σ H D I h
  refine plainObj_wpAny_Assign_Attribute (thn (hv pins s σ H _ I h) fun u s1 ⟨y, H1, I1, ry, q⟩ => thn (ha pins s1 σ H1 _ I1 q) fun ov s2 ⟨x, H2, I2, rx, a, C, dx, fs, ex, ea, c, n, l, q2⟩ => ?_) hs
  subst ex
  obtain rfl : ov = Value.ref a := rx
  exact setattr_ok I2 ea c n l ry fun s3 I3 => ⟨σ, _, I3, q2 _ ⟨rfl⟩⟩
/-- C(..): the heap behind the new instance is named -/
def tMakeN (C : Addr) (sp : Sp) (dvs : List V) (E : XK) (t : TA) : TE := fun σ H Q => t σ H fun vs H1 => ∀ x dx G1 G, New H1 dx (.own x) G1 → New G1 x (.ins C dx []) G → sp (.ref x :: (vs ++ dvs)) G (fun v H2 => v = .non ∧ Q (.ref x) H2) E
variable {CX : CXT} {k : Nat} {x : Str} {C : Addr} {ps : List Str} {sp : Sp} {E : XK} {p : Pos} {es : List Expr} {t : TA}
theorem pe_mkN (c : MakeBy X.prog X.w X.K X.mg X.base CX k x C ps sp) (hr : Room (k + 1) X.A) (hg : Gl X x) (hx : Passes CX X E) (ha : PA X (e :: es) t) (hdb : (x == ("__debug__" : Str)) = false := by decide)
    (he : ∀ (es : List Expr) (env : Env), starEach (e :: es) env = (false, eval e env) :: starEach es env := by exact fun _ _ => rfl) (hpl : (backTo pos (starEach es X.env)).any (·.1) = false := by rfl) : PE X (.Call (.Name x p) (e :: es) [] pos) (tMakeN C sp [] E t) := by
  obtain ⟨f, fd, M, F, hm, hb⟩ := c.ex
  intro pins s σ H Q I h
  refine wpAny_Call_Name_kw (ld_glob I hg hm ?_ hdb)
  refine PySem.W.callWith_K (h₀ := X.base) I.ok.mod.kin M.kp (thn (ha pos pins s σ H _ I h) fun us s1 ⟨vs, H1, I1, r, q⟩ => ⟨I1.kIn, ?_⟩) (he es X.env) hpl
  exact run_make (dvs := []) (ds := []) M F hr hb .nil hx I1 r fun x dx hx1 hx2 hne => q x dx _ _ ⟨hx2, rfl⟩ ⟨by rw [upd_ne (Ne.symm hne)]; exact hx1, rfl⟩
end
theorem Put.two {H G G' : Hp} {a : Addr} {o o' : HO} (p : Put H a o G) (q : Put G a o' G') : Put H a o' G' := ⟨by rw [q.eq, p.eq, upd_upd]⟩
end L2
namespace L2
open PySem PySem.Spec PyProof.Rows
/-! a dict of defs that stands at the top -/
structure DAt (K : PySem.W.Frag) (w : World) (a : Addr) : Prop where
  ex : ∃ es n, K.lookup a = some ⟨.type "dict", none, .dict es n, #[]⟩ ∧ PySem.W.KeysLit w.params es.toList
  lo : (a == sysModules) = false
section
variable {X : Cx}
def rInK (X : Cx) : R2 := fun x y H Q => ∃ p z r, x = .str z ∧ y = .ref p ∧ DAt X.K X.w p ∧ PySem.W.nsIn X.K p z = some r ∧ Q (.bl r.isSome) H
theorem op_inK : OpR X (compareOp .In) (rInK X) := by
  intro pins s σ H x y v u Q I rx ry h
  obtain ⟨p, z, r, rfl, rfl, M, hr, q⟩ := h
  cases ry
  obtain ⟨t, rfl⟩ := rx
  obtain ⟨es, n, hl, hk⟩ := M.ex
  refine wpAny_in_of (strKind_is X.prog X.w z t) M.lo (PySem.W.mapOf_K (prog := X.prog) I.kIn hl hk) ⟨.bl _, H, (I.tok _), rfl, ?_⟩
  rw [PySem.W.find_K hl hr]
  exact q
def rIxK (X : Cx) : R2 := fun x y H Q => ∃ p z f, x = .ref p ∧ y = .str z ∧ DAt X.K X.w p ∧ PySem.W.nsIn X.K p z = some (some (.ref f)) ∧ Q (.ref f) H
theorem ix_K : IxR X (rIxK X) := by
  intro value slice pins s σ H x y v u Q I rx ry h hs
  obtain ⟨p, z, f, rfl, rfl, M, hf, q⟩ := h
  cases rx
  obtain ⟨t, rfl⟩ := ry
  obtain ⟨es, n, hl, hk⟩ := M.ex
  have hmm := PySem.W.mapOf_K (prog := X.prog) I.kIn hl hk
  exact tail_any hmm.typeIs slot_dict_getitem.lookup (wpAny_getItem_of (strKind_is X.prog X.w z t) hmm (PySem.W.find_K hl hf) ⟨.ref f, H, (I.tok _), rfl, q⟩) hs
end
end L2
namespace L2
open PySem PySem.Spec PyProof.Rows
section
variable {X : Cx}
theorem tys_vals : ∀ {Ts : List String} {us : List Value}, Vals (Ts.map V.ty) us → us = Ts.map Value.type
  | [], _, .nil => rfl
  | T :: Ts, _, .cons r t => by
    rw [List.map_cons, ← tys_vals t]
    exact congrArg (· :: _) (show _ = Value.type T from r)
/-- isinstance(x, (T, ..)) of a list or a tuple -/
theorem call_isinstT : CallR X (.builtin "isinstance") (fun xs H Q => ∃ (a p : Addr) (t : Value) (Ts : List String) (b : Bool), xs = [.ref a, .ref p] ∧ H p = some (.tup (Ts.map V.ty)) ∧ ((∃ l, H a = some (.lst l)) ∧ t = Value.type "list" ∨ (∃ l, H a = some (.tup l)) ∧ t = .type "tuple") ∧ PySem.W.kitAny X.K t (Ts.map Value.type) = some b ∧ Q (.bl b) H) := by
  intro pins s σ H xs us Q I r h
  obtain ⟨a, p, t, Ts, b, rfl, hp, ha, e, q⟩ := h
  obtain ⟨u, v, rfl, ru, rv⟩ := Vals.two r
  cases (show v = Value.ref p from rv)
  cases (show u = Value.ref a from ru)
  obtain ⟨_, its, rr, o, h1, h2, n, h3⟩ := (show ObjOk X.prog X.w H s.heap p (.tup _) from I.hok p _ hp)
  have := tys_vals rr
  subst this
  obtain ⟨oc, od, oda, os⟩ := o
  dsimp only at h2 h3
  subst h2 h3
  have fin : ∀ tk, EP X pins σ Q (.bool b) { s with toks := tk } := fun tk => ⟨.bl b, H, I.tok _, rfl, q⟩
  rcases ha with ⟨⟨l, ha⟩, rfl⟩ | ⟨⟨l, ha⟩, rfl⟩
  · obtain ⟨_, _, n', _, g1⟩ := (show ObjOk X.prog X.w H s.heap a (.lst l) from I.hok a _ ha)
    exact PySem.W.kia_tup PySem.W.kitx_list I.kIn ⟨_, g1, rfl⟩ h1 e (fun z => nomatch z) fin
  · obtain ⟨_, _, _, g⟩ := (show ObjOk X.prog X.w H s.heap a (.tup l) from I.hok a _ ha)
    obtain ⟨o', g1, g2, _⟩ := g
    exact PySem.W.kia_tup PySem.W.kitx_tuple I.kIn ⟨o', g1, g2⟩ h1 e (fun z => nomatch z) fin
/-- len, with the bound that every list and tuple keeps -/
theorem call_lenN : CallR X (.builtin "len") (fun xs H Q => ∃ p ys, xs = [.ref p] ∧ (SqL X.K H p ys ∨ SqT X.K H p ys) ∧ (ys.length ≤ 2 ^ 24 → Q (.int ys.length) H)) := by
  intro pins s σ H xs us Q I r h
  obtain ⟨p, ys, rfl, hq, q⟩ := h
  refine call_len_seq pins s σ H _ us Q I r ⟨p, ys, rfl, hq, q ?_⟩
  rcases hq with hq | hq
  · obtain ⟨_, _, _, hz⟩ := I.list hq; exact hz
  · obtain ⟨_, _, _, hz⟩ := I.tuple hq; exact hz
/-- a cut whose middle is said when it is read -/
def tCutE (t u : TS) : TS := fun D σ H => ∃ M : St → Hp → Prop, t { D with nx := M } σ H ∧ ∀ σ' H', M σ' H' → u D σ' H'
theorem pss_cutE {st : Stmt} {rest : List Stmt} {t u : TS} (h1 : PS X st t) (h2 : PSs X rest u) : PSs X (st :: rest) (tCutE t u) :=
  fun pins s σ H D I ⟨M, h⟩ => pss_cut M h1 h2 pins s σ H D I h
/-- code that isn't reached -/
def tDead : TS := fun _ _ _ => False
theorem pss_dead {st : List Stmt} : PSs X st tDead := fun _ _ _ _ _ _ h => h.elim
end
end L2
namespace L2
open PySem PySem.Spec PyProof.Rows
/-! what stands at the top, and the contracts made of it -/
section
variable {P : Program} {w : World} {K : PySem.W.Frag} {mg : Str → Option Value} {base h : Heap} {CX : CXT} {k : Nat} {ps : List Str} {sp : Sp} {x m qual : Str} {st : Stmt} {f C : Addr} {oc : Value} {od an : Option Addr} {osl : Array (Option Value)} {kV doc pm cdv ct : Value}
def BindsSt (x qual : Str) (st : Stmt) (ps : List Str) : Prop := ∀ (kV doc pm : Value) (an : Option Addr) (cdv ct : Value) (us : List Value), us.length = ps.length → bindArgs (PySem.W.fnOf x qual (defArgs st) (defBody st) (defScope st) .none kV doc pm an cdv ct) ⟨us, []⟩ = pure (ps.zip us)
structure FnTop (K : PySem.W.Frag) (x qual : Str) (st : Stmt) : Prop where
  ex : ∃ f fd, Fun K x qual st f fd ∧ PySem.W.nsIn K mainGlobals x = some (some (.ref f))
theorem fnTop (a : PySem.W.nsIn K mainGlobals x = some (some (.ref f))) (l : K.lookup f = some ⟨oc, od, .func (PySem.W.fnOf x qual (defArgs st) (defBody st) (defScope st) .none kV doc pm an cdv ct), osl⟩) (c : PySem.W.codeIn K cdv qual = true) (k : PySem.W.keepIn K (.ref f) = true) : FnTop K x qual st :=
  ⟨f, _, fun_mk l c k, a⟩
theorem FnTop.by (t : FnTop K x qual st) (X : K.In h) (G : h.Ns mainGlobals mg) (hb : BindsSt x qual st ps) (ok : ∀ f fd, Fun K x qual st f fd → FnOk P w K mg base CX k f fd ps sp) : FnBy P w K mg base CX k x ps sp := by
  obtain ⟨f, fd, F, a⟩ := t.ex
  exact ⟨f, fd, ok f fd F, PySem.W.mg_of X G a, F.kp, F.binds hb⟩
structure ClTop (K : PySem.W.Frag) (x : Str) (C : Addr) : Prop where
  at_ : PySem.W.nsIn K mainGlobals x = some (some (.ref C))
  cl : Cls K C
theorem clTop (a : PySem.W.nsIn K mainGlobals x = some (some (.ref C))) (pg : PySem.W.plainGet K C Str.empty = true) (hd : PySem.W.hasDictIn K C = true) (po : PySem.W.plainOver K C = true) (sa : PySem.W.findIn K (.ref C) "__setattr__" = some (some (.builtin "object.__setattr__"))) : ClTop K x C := ⟨a, pg, hd, po, sa⟩
structure MeTop (K : PySem.W.Frag) (C : Addr) (m qual : Str) (st : Stmt) : Prop where
  ex : ∃ f fd, Fun K m qual st f fd ∧ Meth K C m f
theorem meTop (a : PySem.W.findIn K (.ref C) m = some (some (.ref f))) (i : PySem.W.isFn K (.ref f) = true) (l : K.lookup f = some ⟨oc, od, .func (PySem.W.fnOf m qual (defArgs st) (defBody st) (defScope st) .none kV doc pm an cdv ct), osl⟩) (c : PySem.W.codeIn K cdv qual = true) (k : PySem.W.keepIn K (.ref f) = true) : MeTop K C m qual st :=
  ⟨f, _, fun_mk l c k, a, i, k⟩
theorem MeTop.by (t : MeTop K C m qual st) (c : Cls K C) (hb : BindsSt m qual st ps) (ok : ∀ f fd, Fun K m qual st f fd → FnOk P w K mg base CX k f fd ps sp) : MethBy P w K mg base CX k C m ps sp := by
  obtain ⟨f, fd, F, a⟩ := t.ex
  exact ⟨c, f, fd, ok f fd F, a, F.binds hb⟩
structure MkTop (K : PySem.W.Frag) (C : Addr) (qual : Str) (st : Stmt) : Prop where
  ex : ∃ f fd, Fun K "__init__" qual st f fd ∧ Mk K C f
theorem mkTop (a : PySem.W.findIn K (.ref C) "__init__" = some (some (.ref f))) (i : PySem.W.isFn K (.ref f) = true) (l : K.lookup f = some ⟨oc, od, .func (PySem.W.fnOf "__init__" qual (defArgs st) (defBody st) (defScope st) .none kV doc pm an cdv ct), osl⟩) (c : PySem.W.codeIn K cdv qual = true) (k : PySem.W.keepIn K (.ref f) = true)
    (mk : PySem.W.makesIn K C = true) (kc : PySem.W.keepIn K (.ref C) = true) : MkTop K C qual st :=
  ⟨f, _, fun_mk l c k, mk, a, i, kc⟩
theorem MkTop.by (t : MkTop K C qual st) (X : K.In h) (G : h.Ns mainGlobals mg) (c : ClTop K x C) (hb : BindsSt "__init__" qual st ps) (ok : ∀ f fd, Fun K "__init__" qual st f fd → FnOk P w K mg base CX k f fd ps sp) : MakeBy P w K mg base CX k x C ps sp := by
  obtain ⟨f, fd, F, a⟩ := t.ex
  exact ⟨f, fd, a, ok f fd F, PySem.W.mg_of X G c.at_, F.binds hb⟩
structure StrTop (K : PySem.W.Frag) (x y : Str) : Prop where
  ex : ∃ t, PySem.W.nsIn K mainGlobals x = some (some (.str y t))
theorem strTop {y : Str} {t : Tok} (a : PySem.W.nsIn K mainGlobals x = some (some (.str y t))) : StrTop K x y := ⟨t, a⟩
theorem StrTop.by {y : Str} (t : StrTop K x y) (X : K.In h) (G : h.Ns mainGlobals mg) : ∃ t, mg x = some (.str y t) := by
  obtain ⟨t, a⟩ := t.ex
  exact ⟨t, PySem.W.mg_of X G a⟩
structure XTop (K : PySem.W.Frag) (x : Str) (C : Addr) : Prop where
  at_ : PySem.W.nsIn K mainGlobals x = some (some (.ref C))
  exc : PySem.W.excIn K C [.type "ValueError", .type "Exception", .type "BaseException", .type "object"] "ValueError.__new__" = true
theorem XTop.by (t : XTop K x C) (X : K.In h) (G : h.Ns mainGlobals mg) : XCls K mg x C := ⟨PySem.W.mg_of X G t.at_, t.exc⟩
/-- a def that stands in a dict of the top -/
structure DfTop (K : PySem.W.Frag) (d : Addr) (x : Str) (st : Stmt) : Prop where
  ex : ∃ f fd, Fun K x x st f fd ∧ PySem.W.nsIn K d x = some (some (.ref f))
theorem dfTop {d : Addr} (a : PySem.W.nsIn K d x = some (some (.ref f))) (l : K.lookup f = some ⟨oc, od, .func (PySem.W.fnOf x x (defArgs st) (defBody st) (defScope st) .none kV doc pm an cdv ct), osl⟩) (c : PySem.W.codeIn K cdv x = true) (k : PySem.W.keepIn K (.ref f) = true) : DfTop K d x st :=
  ⟨f, _, fun_mk l c k, a⟩
structure DTop (K : PySem.W.Frag) (w : World) (x : Str) (d : Addr) : Prop where
  at_ : PySem.W.nsIn K mainGlobals x = some (some (.ref d))
  dat : DAt K w d
theorem dTop {d : Addr} {es : Array DictEntry} {n : Nat} (a : PySem.W.nsIn K mainGlobals x = some (some (.ref d))) (l : K.lookup d = some ⟨.type "dict", none, .dict es n, #[]⟩) (kl : PySem.W.KeysLit w.params es.toList) (lo : (d == sysModules) = false) : DTop K w x d := ⟨a, ⟨es, n, l, kl⟩, lo⟩
end
end L2
/-! The room over plain data: hands as a function of their numbers, the steps, deeds and visits. -/
namespace Rm

inductive W where
  | out | begins | looks | draws | lowers | asks | sees | enters | within
deriving DecidableEq

structure Hand where
  flag : Bool
  ticket : Nat
  word : W
  place : Nat
  great : Nat
deriving DecidableEq

abbrev Hands := Nat → Hand

def out0 : Hand := ⟨false, 0, .out, 0, 0⟩

def put {α : Type} (s : Nat → α) (i : Nat) (h : α) : Nat → α := fun j => if j = i then h else s j
theorem put_self {α : Type} (s : Nat → α) (i : Nat) (h : α) : put s i h i = h := by simp [put]
theorem put_ne {α : Type} (s : Nat → α) {i j : Nat} (h : α) (e : j ≠ i) : put s i h j = s j := by simp [put, e]
theorem put_same {α : Type} (s : Nat → α) (i : Nat) : put s i (s i) = s := by
  funext j
  by_cases e : j = i
  · subst e; rw [put_self]
  · rw [put_ne _ _ e]

/-- the p-th of the others of i -/
def oth (i p : Nat) : Nat := if p < i then p else p + 1
/-- the place of j among the others of i -/
def plc (i j : Nat) : Nat := if j < i then j else j - 1

theorem oth_plc {i j : Nat} (h : i ≠ j) : oth i (plc i j) = j := by
  unfold oth plc
  split <;> (try split) <;> omega
theorem oth_ne (i p : Nat) : oth i p ≠ i := by
  unfold oth
  split <;> omega
theorem oth_lt {n i p : Nat} (hi : i < n) (hp : p < n - 1) : oth i p < n := by
  unfold oth
  split <;> omega
theorem plc_lt {n i j : Nat} (hi : i < n) (hj : j < n) (h : i ≠ j) : plc i j < n - 1 := by
  unfold plc
  split <;> omega

def turn (n : Nat) (h : Hand) (p : Nat) (w b : W) : Hand := { h with place := p, word := if p < n - 1 then w else b }

/-- the other's ticket ot, of the hand o, goes first -/
def first (ot o t i : Nat) : Bool := decide (ot ≠ 0 ∧ (ot < t ∨ ot = t ∧ o < i))

def stepH (n : Nat) (s : Hands) (i : Nat) : Hand :=
  let h := s i
  let o := s (oth i h.place)
  match h.word with
  | .begins => turn n { h with flag := true } 0 .looks .draws
  | .looks => turn n { h with great := max h.great o.ticket } (h.place + 1) .looks .draws
  | .draws => { h with ticket := h.great + 1, word := .lowers }
  | .lowers => turn n { h with flag := false } 0 .asks .enters
  | .asks => if o.flag then h else { h with word := .sees }
  | .sees => if first o.ticket (oth i h.place) h.ticket i then h else turn n h (h.place + 1) .asks .enters
  | .enters => { h with word := .within }
  | .out => h
  | .within => h

abbrev Told := W × Option Nat × Option Nat

def toldS (s : Hands) (i : Nat) : Told :=
  let h := s i
  let k := oth i h.place
  let o := s k
  match h.word with
  | .looks => (.looks, some k, some o.ticket)
  | .draws => (.draws, none, some (h.great + 1))
  | .asks => (.asks, some k, some (if o.flag then 1 else 0))
  | .sees => (.sees, some k, some o.ticket)
  | .enters => (.enters, none, some h.ticket)
  | w => (w, none, none)

def up : W → Bool
  | .looks | .draws | .lowers => true
  | _ => false
def hasT : W → Bool
  | .lowers | .asks | .sees | .enters | .within => true
  | _ => false
def settled : W → Bool
  | .asks | .sees | .enters | .within => true
  | _ => false

/-- j, whose hand is h, is late to i, whose ticket is ti -/
def Late (ti i j : Nat) (h : Hand) : Prop :=
  match h.word with
  | .out | .begins => True
  | .looks => plc j i < h.place → ti ≤ h.great
  | .draws => ti ≤ h.great
  | _ => ti < h.ticket
/-- i, whose ticket is ti, is ahead of j, whose hand is h -/
def Ahead (ti i j : Nat) (h : Hand) : Prop :=
  match h.word with
  | .out | .begins => True
  | .looks => plc j i < h.place → ti ≤ h.great
  | .draws => ti ≤ h.great
  | _ => ti < h.ticket ∨ ti = h.ticket ∧ i < j
/-- j, whose hand is h, is past i -/
def Past (j i : Nat) (h : Hand) : Prop :=
  match h.word with
  | .asks | .sees => plc j i < h.place
  | .enters | .within => True
  | _ => False

theorem Late.ahead {ti i j : Nat} {h : Hand} (l : Late ti i j h) : Ahead ti i j h := by
  unfold Late at l
  unfold Ahead
  revert l
  cases h.word <;> simp <;> omega

structure Inv (n : Nat) (s : Hands) : Prop where
  flag : ∀ i, i < n → (s i).flag = up (s i).word
  tick : ∀ i, i < n → ((s i).ticket ≠ 0 ↔ hasT (s i).word = true)
  plcL : ∀ i, i < n → (s i).word = .looks → (s i).place < n - 1
  plcA : ∀ i, i < n → (s i).word = .asks → (s i).place < n - 1
  plcS : ∀ i, i < n → (s i).word = .sees → (s i).place < n - 1
  pas : ∀ i j, i < n → j < n → i ≠ j → Past j i (s j) → Ahead (s j).ticket j i (s i)
  see : ∀ i j, i < n → j < n → i ≠ j → (s j).word = .sees → oth j (s j).place = i → Ahead (s j).ticket j i (s i) ∨ settled (s i).word = true

theorem late_step {n : Nat} {s : Hands} {i j : Nat} (hi : i < n) (hj : j < n) (ne : i ≠ j)
    (l : Late (s i).ticket i j (s j)) : Late (s i).ticket i j (stepH n s j) := by
  have hp := plc_lt hj hi (Ne.symm ne)
  have ho := oth_plc (Ne.symm ne)
  generalize hw : (s j).word = w
  cases w <;> simp only [Late, hw] at l
  case begins => simp [Late, stepH, hw, turn, show 0 < n - 1 by omega]
  case looks =>
    by_cases hb : (s j).place + 1 < n - 1
    · simp only [Late, stepH, hw, turn, hb, if_true]
      intro h
      by_cases h2 : plc j i < (s j).place
      · have := l h2; omega
      · rw [← show plc j i = (s j).place by omega, ho]; omega
    · simp only [Late, stepH, hw, turn, hb, if_false]
      by_cases h2 : plc j i < (s j).place
      · have := l h2; omega
      · rw [← show plc j i = (s j).place by omega, ho]; omega
  case draws => simp only [Late, stepH, hw]; omega
  case lowers =>
    by_cases hb : 0 < n - 1
    · simpa only [Late, stepH, hw, turn, hb, if_true] using l
    · simpa only [Late, stepH, hw, turn, hb, if_false] using l
  case asks =>
    simp only [stepH, hw]
    split
    · simpa only [Late, hw] using l
    · simpa only [Late] using l
  case sees =>
    simp only [stepH, hw]
    split
    · simpa only [Late, hw] using l
    · by_cases hb : (s j).place + 1 < n - 1
      · simpa only [Late, turn, hb, if_true] using l
      · simpa only [Late, turn, hb, if_false] using l
  case enters => simpa only [Late, stepH, hw] using l
  case within => simpa only [Late, stepH, hw] using l
  case out => simp only [Late, stepH, hw]

theorem ahead_step {n : Nat} {s : Hands} {i j : Nat} (hi : i < n) (hj : j < n) (ne : i ≠ j)
    (l : Ahead (s i).ticket i j (s j)) : Ahead (s i).ticket i j (stepH n s j) := by
  have hp := plc_lt hj hi (Ne.symm ne)
  have ho := oth_plc (Ne.symm ne)
  generalize hw : (s j).word = w
  cases w <;> simp only [Ahead, hw] at l
  case begins => simp [Ahead, stepH, hw, turn, show 0 < n - 1 by omega]
  case looks =>
    by_cases hb : (s j).place + 1 < n - 1
    · simp only [Ahead, stepH, hw, turn, hb, if_true]
      intro h
      by_cases h2 : plc j i < (s j).place
      · have := l h2; omega
      · rw [← show plc j i = (s j).place by omega, ho]; omega
    · simp only [Ahead, stepH, hw, turn, hb, if_false]
      by_cases h2 : plc j i < (s j).place
      · have := l h2; omega
      · rw [← show plc j i = (s j).place by omega, ho]; omega
  case draws => simp only [Ahead, stepH, hw]; omega
  case lowers =>
    by_cases hb : 0 < n - 1
    · simpa only [Ahead, stepH, hw, turn, hb, if_true] using l
    · simpa only [Ahead, stepH, hw, turn, hb, if_false] using l
  case asks =>
    simp only [stepH, hw]
    split
    · simpa only [Ahead, hw] using l
    · simpa only [Ahead] using l
  case sees =>
    simp only [stepH, hw]
    split
    · simpa only [Ahead, hw] using l
    · by_cases hb : (s j).place + 1 < n - 1
      · simpa only [Ahead, turn, hb, if_true] using l
      · simpa only [Ahead, turn, hb, if_false] using l
  case enters => simpa only [Ahead, stepH, hw] using l
  case within => simpa only [Ahead, stepH, hw] using l
  case out => simp only [Ahead, stepH, hw]

/-- a step changes no ticket but where it draws -/
theorem step_ticket {n : Nat} {s : Hands} {j : Nat} (h : (s j).word ≠ .draws) : (stepH n s j).ticket = (s j).ticket := by
  generalize hw : (s j).word = w at h
  cases w <;> simp only [stepH, hw, turn] <;> first | contradiction | rfl | (split <;> rfl)

theorem step_settled {n : Nat} {s : Hands} {j : Nat} (h : settled (s j).word = true) : settled (stepH n s j).word = true := by
  generalize hw : (s j).word = w at h
  cases w <;> simp only [settled, Bool.false_eq_true] at h <;> simp only [stepH, hw]
  · split
    · simp [hw, settled]
    · rfl
  · split
    · simp [hw, settled]
    · simp only [turn]; split <;> rfl
  · rfl
  · simp [hw, settled]

/-- whom j is past behind its step -/
theorem past_step {n : Nat} {s : Hands} {i j : Nat} (I : Inv n s) (hi : i < n) (hj : j < n) (ne : i ≠ j) (h : Past j i (stepH n s j)) :
    (s j).word ≠ .draws ∧ (Past j i (s j) ∨ (s j).word = .sees ∧ oth j (s j).place = i ∧ first (s i).ticket i (s j).ticket j = false) := by
  have hp := plc_lt hj hi (Ne.symm ne)
  have ho := oth_plc (Ne.symm ne)
  generalize hw : (s j).word = w
  cases w <;> simp only [stepH, hw, turn] at h
  case begins => exfalso; by_cases hb : 0 < n - 1 <;> simp [Past, hb] at h
  case looks => exfalso; by_cases hb : (s j).place + 1 < n - 1 <;> simp [Past, hb] at h
  case draws => exfalso; simp [Past] at h
  case lowers =>
    exfalso
    rw [if_pos (by omega)] at h
    simp [Past] at h
  case asks =>
    refine ⟨by decide, .inl ?_⟩
    simp only [Past, hw]
    split at h
    · simpa only [Past, hw] using h
    · simpa only [Past] using h
  case sees =>
    refine ⟨by decide, ?_⟩
    by_cases hf : first (s (oth j (s j).place)).ticket (oth j (s j).place) (s j).ticket j = true
    · rw [if_pos hf] at h
      exact .inl h
    · rw [if_neg hf] at h
      by_cases e : oth j (s j).place = i
      · rw [e] at hf
        exact .inr ⟨rfl, e, by simpa using hf⟩
      · left
        have e2 : plc j i ≠ (s j).place := fun z => e (by rw [← z]; exact ho)
        simp only [Past, hw]
        by_cases hb : (s j).place + 1 < n - 1
        · simp only [Past, hb, if_true] at h
          omega
        · have := I.plcS j hj hw
          omega
  case enters => exact ⟨by decide, .inl (by simp [Past, hw])⟩
  case within => exact ⟨by decide, .inl h⟩
  case out => simp [Past, hw] at h

theorem ahead_of_not_first {s : Hands} {i j : Nat} (hs : Ahead (s j).ticket j i (s i) ∨ settled (s i).word = true) (ht : hasT (s i).word = true → (s i).ticket ≠ 0)
    (ne : i ≠ j) (h : first (s i).ticket i (s j).ticket j = false) : Ahead (s j).ticket j i (s i) := by
  rcases hs with hs | hs
  · exact hs
  · have hT : (s i).ticket ≠ 0 := ht (by revert hs; cases (s i).word <;> simp [settled, hasT])
    have : (s j).ticket < (s i).ticket ∨ (s j).ticket = (s i).ticket ∧ j < i := by
      simp only [first, decide_eq_false_iff_not] at h
      omega
    revert hs
    unfold Ahead
    cases (s i).word <;> simp [settled] <;> omega

/-- a word on, by whether there is another one -/
theorem word_on {n p : Nat} {w b : W} {P : W → Prop} (hw : p < n - 1 → P w) (hb : ¬ p < n - 1 → P b) : P (if p < n - 1 then w else b) := by
  by_cases h : p < n - 1
  · rw [if_pos h]; exact hw h
  · rw [if_neg h]; exact hb h

theorem inv_step {n : Nat} {s : Hands} {k : Nat} (I : Inv n s) (hk : k < n) : Inv n (put s k (stepH n s k)) := by
  have F := I.flag k hk
  have T := I.tick k hk
  constructor
  · intro i hi
    by_cases e : i = k
    · subst e
      rw [put_self]
      generalize hw : (s i).word = w at F T
      cases w <;> simp only [stepH, hw, turn, up] at F ⊢
      case begins => exact word_on (P := fun w => true = up w) (fun _ => rfl) (fun _ => rfl)
      case looks => exact word_on (P := fun w => (s i).flag = up w) (fun _ => F) (fun _ => F)
      case lowers => exact word_on (P := fun w => false = up w) (fun _ => rfl) (fun _ => rfl)
      case asks => split <;> simp [hw, up, F]
      case sees =>
        split
        · simp [hw, up, F]
        · exact word_on (P := fun w => (s i).flag = up w) (fun _ => F) (fun _ => F)
      all_goals first | exact F | simp [hw, up, F]
    · rw [put_ne _ _ e]; exact I.flag i hi
  · intro i hi
    by_cases e : i = k
    · subst e
      rw [put_self]
      generalize hw : (s i).word = w at F T
      cases w <;> simp only [stepH, hw, turn] at T ⊢
      case begins => exact word_on (P := fun w => (s i).ticket ≠ 0 ↔ hasT w = true) (fun _ => T) (fun _ => T)
      case looks => exact word_on (P := fun w => (s i).ticket ≠ 0 ↔ hasT w = true) (fun _ => T) (fun _ => T)
      case lowers => exact word_on (P := fun w => (s i).ticket ≠ 0 ↔ hasT w = true) (fun _ => T) (fun _ => T)
      case asks => split <;> simpa [hw, hasT] using T
      case sees =>
        split
        · simpa [hw, hasT] using T
        · exact word_on (P := fun w => (s i).ticket ≠ 0 ↔ hasT w = true) (fun _ => T) (fun _ => T)
      all_goals first | (simp [hasT]; done) | simpa [hw, hasT] using T
    · rw [put_ne _ _ e]; exact I.tick i hi
  · intro i hi
    by_cases e : i = k
    · subst e
      rw [put_self]
      generalize hw : (s i).word = w at F T
      cases w <;> simp only [stepH, hw, turn]
      case begins => exact word_on (P := fun w => w = .looks → 0 < n - 1) (fun h _ => h) (fun _ z => nomatch z)
      case looks => exact word_on (P := fun w => w = .looks → (s i).place + 1 < n - 1) (fun h _ => h) (fun _ z => nomatch z)
      case lowers => exact word_on (P := fun w => w = .looks → 0 < n - 1) (fun h _ => h) (fun _ z => nomatch z)
      case asks => split <;> simp [hw]
      case sees =>
        split
        · simp [hw]
        · exact word_on (P := fun w => w = .looks → (s i).place + 1 < n - 1) (fun h _ => h) (fun _ z => nomatch z)
      all_goals simp [hw]
    · rw [put_ne _ _ e]; exact I.plcL i hi
  · intro i hi
    by_cases e : i = k
    · subst e
      rw [put_self]
      have P := I.plcA i hi
      generalize hw : (s i).word = w at F T P
      cases w <;> simp only [stepH, hw, turn]
      case begins => exact word_on (P := fun w => w = .asks → 0 < n - 1) (fun h _ => h) (fun _ z => nomatch z)
      case looks => exact word_on (P := fun w => w = .asks → (s i).place + 1 < n - 1) (fun h _ => h) (fun _ z => nomatch z)
      case lowers => exact word_on (P := fun w => w = .asks → 0 < n - 1) (fun h _ => h) (fun _ z => nomatch z)
      case asks => split <;> simp [hw, P]
      case sees =>
        split
        · simp [hw]
        · exact word_on (P := fun w => w = .asks → (s i).place + 1 < n - 1) (fun h _ => h) (fun _ z => nomatch z)
      all_goals simp [hw]
    · rw [put_ne _ _ e]; exact I.plcA i hi
  · intro i hi
    by_cases e : i = k
    · subst e
      rw [put_self]
      have P := I.plcA i hi
      have P2 := I.plcS i hi
      generalize hw : (s i).word = w at F T P P2
      cases w <;> simp only [stepH, hw, turn]
      case begins => exact word_on (P := fun w => w = .sees → 0 < n - 1) (fun h _ => h) (fun _ z => nomatch z)
      case looks => exact word_on (P := fun w => w = .sees → (s i).place + 1 < n - 1) (fun h _ => h) (fun _ z => nomatch z)
      case lowers => exact word_on (P := fun w => w = .sees → 0 < n - 1) (fun h _ => h) (fun _ z => nomatch z)
      case asks => split <;> simp [hw, P]
      case sees =>
        split
        · simp [hw, P2]
        · exact word_on (P := fun w => w = .sees → (s i).place + 1 < n - 1) (fun h _ => h) (fun _ z => nomatch z)
      all_goals simp [hw]
    · rw [put_ne _ _ e]; exact I.plcS i hi
  · intro i j hi hj ne
    by_cases ei : i = k
    · subst ei
      rw [put_self, put_ne _ _ (Ne.symm ne)]
      intro h
      exact ahead_step hj hi (Ne.symm ne) (I.pas i j hi hj ne h)
    · rw [put_ne _ _ ei]
      by_cases ej : j = k
      · subst ej
        rw [put_self]
        intro h
        obtain ⟨hd, h⟩ := past_step I hi hj ne h
        rw [step_ticket hd]
        rcases h with h | ⟨h1, h2, h3⟩
        · exact I.pas i j hi hj ne h
        · exact ahead_of_not_first (I.see i j hi hj ne h1 h2) (I.tick i hi).2 ne h3
      · rw [put_ne _ _ ej]
        exact I.pas i j hi hj ne
  · intro i j hi hj ne
    by_cases ei : i = k
    · subst ei
      rw [put_self, put_ne _ _ (Ne.symm ne)]
      intro h1 h2
      rcases I.see i j hi hj ne h1 h2 with h | h
      · exact .inl (ahead_step hj hi (Ne.symm ne) h)
      · exact .inr (step_settled h)
    · rw [put_ne _ _ ei]
      by_cases ej : j = k
      · subst ej
        rw [put_self]
        generalize hw : (s j).word = w
        cases w <;> simp only [stepH, hw, turn]
        case asks =>
          split
          · intro z; rw [hw] at z; cases z
          · rename_i hf
            intro _ e
            have e : oth j (s j).place = i := e
            rw [e] at hf
            have := I.flag i hi
            rw [this] at hf
            revert hf
            cases hw2 : (s i).word <;> simp [up, settled, Ahead, hw2]
        case sees =>
          split
          · intro _ h2; exact I.see i j hi hj ne hw h2
          · split <;> intro z <;> cases z
        all_goals first | (intro z; cases z; done) | (split <;> intro z <;> cases z; done) | (intro z; rw [hw] at z; cases z)
      · rw [put_ne _ _ ej]
        exact I.see i j hi hj ne

/-- a hand is set to one that is not past anybody and is ahead of whoever: it wants in, or leaves -/
theorem inv_set {n : Nat} {s : Hands} {k : Nat} {h : Hand} (I : Inv n s) (hk : k < n) (hw : h.word = .out ∨ h.word = .begins) (hf : h.flag = false) (ht : h.ticket = 0) : Inv n (put s k h) := by
  constructor
  · intro i hi
    by_cases e : i = k
    · subst e; rw [put_self, hf]; rcases hw with hw | hw <;> simp [hw, up]
    · rw [put_ne _ _ e]; exact I.flag i hi
  · intro i hi
    by_cases e : i = k
    · subst e; rw [put_self, ht]; rcases hw with hw | hw <;> simp [hw, hasT]
    · rw [put_ne _ _ e]; exact I.tick i hi
  · intro i hi
    by_cases e : i = k
    · subst e; rw [put_self]; rcases hw with hw | hw <;> simp [hw]
    · rw [put_ne _ _ e]; exact I.plcL i hi
  · intro i hi
    by_cases e : i = k
    · subst e; rw [put_self]; rcases hw with hw | hw <;> simp [hw]
    · rw [put_ne _ _ e]; exact I.plcA i hi
  · intro i hi
    by_cases e : i = k
    · subst e; rw [put_self]; rcases hw with hw | hw <;> simp [hw]
    · rw [put_ne _ _ e]; exact I.plcS i hi
  · intro i j hi hj ne
    by_cases ei : i = k
    · subst ei; rw [put_self]; intro _; rcases hw with hw | hw <;> simp [Ahead, hw]
    · rw [put_ne _ _ ei]
      by_cases ej : j = k
      · subst ej; rw [put_self]; rcases hw with hw | hw <;> simp [Past, hw]
      · rw [put_ne _ _ ej]; exact I.pas i j hi hj ne
  · intro i j hi hj ne
    by_cases ei : i = k
    · subst ei; rw [put_self]; intro _ _; left; rcases hw with hw | hw <;> simp [Ahead, hw]
    · rw [put_ne _ _ ei]
      by_cases ej : j = k
      · subst ej; rw [put_self]; rcases hw with hw | hw <;> simp [hw]
      · rw [put_ne _ _ ej]; exact I.see i j hi hj ne

/-- never two are within -/
theorem Inv.alone {n : Nat} {s : Hands} {i j : Nat} (I : Inv n s) (hi : i < n) (hj : j < n) (wi : (s i).word = .within) (wj : (s j).word = .within) : i = j := by
  by_cases e : i = j
  · exact e
  · have a := I.pas i j hi hj e (by simp [Past, wj])
    have b := I.pas j i hj hi (Ne.symm e) (by simp [Past, wi])
    simp only [Ahead, wi, wj] at a b
    omega

theorem inv_start (n : Nat) : Inv n fun _ => out0 := by
  constructor <;> intros <;> simp_all [out0, up, hasT, Past, Ahead]
end Rm
/-! Visits: what a deed writes down, and what holds of all that was written. -/
namespace Rm

structure Visit where
  hand : Nat
  wanted : Nat
  lowered : Option Nat
  ticket : Option Nat
  entered : Option Nat
  left : Option Nat
deriving DecidableEq

structure Hall where
  hands : Hands
  vis : Nat → Visit
  m : Nat
  cur : Nat → Nat

def noteV (w : W) (t tk : Nat) (v : Visit) : Visit :=
  match w with
  | .draws => { v with ticket := some tk }
  | .lowers => { v with lowered := some t }
  | .enters => { v with entered := some t }
  | _ => v

def stepA (n t : Nat) (H : Hall) (i : Nat) : Hall :=
  { H with hands := put H.hands i (stepH n H.hands i), vis := put H.vis (H.cur i) (noteV (H.hands i).word t ((H.hands i).great + 1) (H.vis (H.cur i))) }
def goOut (h : Hand) : Hand := { h with flag := false, ticket := 0, word := .out }
def leaveA (t : Nat) (H : Hall) (i : Nat) : Hall :=
  { H with hands := put H.hands i (goOut (H.hands i)), vis := put H.vis (H.cur i) { H.vis (H.cur i) with left := some t } }
def wantA (t : Nat) (H : Hall) (i : Nat) : Hall :=
  { hands := put H.hands i { H.hands i with great := 0, word := .begins }, vis := put H.vis H.m ⟨i, t, none, none, none, none⟩, m := H.m + 1, cur := put H.cur i H.m }

/-- how many have drawn -/
def drawn (vis : Nat → Visit) : Nat → Nat
  | 0 => 0
  | m + 1 => drawn vis m + if (vis m).ticket.isSome then 1 else 0
theorem drawn_congr {f g : Nat → Visit} {m : Nat} (h : ∀ k, k < m → (f k).ticket.isSome = (g k).ticket.isSome) : drawn f m = drawn g m := by
  induction m with
  | zero => rfl
  | succ m ih =>
    unfold drawn
    rw [ih fun k hk => h k (by omega), h m (by omega)]
theorem drawn_more {f : Nat → Visit} {m k : Nat} {v : Visit} (hk : k < m) (h0 : (f k).ticket = none) (h1 : v.ticket.isSome = true) : drawn (put f k v) m = drawn f m + 1 := by
  induction m with
  | zero => omega
  | succ m ih =>
    unfold drawn
    by_cases e : k = m
    · subst e
      rw [put_self, h0, h1, drawn_congr (g := f) fun j hj => by rw [put_ne _ _ (by omega)]]
      simp
    · rw [put_ne _ _ (fun z => e z.symm), ih (by omega)]
      omega

structure Own (h : Hand) (i : Nat) (v : Visit) : Prop where
  hand : v.hand = i
  left : v.left = none
  low : v.lowered.isSome = settled h.word
  tick : v.ticket = if hasT h.word then some h.ticket else none
  ent : v.entered.isSome = decide (h.word = .within)

structure HInv (n T : Nat) (H : Hall) : Prop where
  inv : Inv n H.hands
  cur : ∀ i, i < n → (H.hands i).word ≠ .out → H.cur i < H.m ∧ Own (H.hands i) i (H.vis (H.cur i))
  opn : ∀ k, k < H.m → (H.vis k).left = none → (H.hands (H.vis k).hand).word ≠ .out ∧ H.cur (H.vis k).hand = k
  hnd : ∀ k, k < H.m → (H.vis k).hand < n
  tW : ∀ k, k < H.m → (H.vis k).wanted < T
  tL : ∀ k x, k < H.m → (H.vis k).lowered = some x → x < T ∧ (H.vis k).wanted ≤ x
  tE : ∀ k x, k < H.m → (H.vis k).entered = some x → x < T
  tX : ∀ k x, k < H.m → (H.vis k).left = some x → x < T
  entL : ∀ k e x, k < H.m → (H.vis k).entered = some e → (H.vis k).left = some x → e < x
  fcfs : ∀ i j, i < n → j < n → i ≠ j → (H.hands i).word ≠ .out → (H.hands j).word ≠ .out → ∀ l, (H.vis (H.cur i)).lowered = some l → l < (H.vis (H.cur j)).wanted → Late (H.hands i).ticket i j (H.hands j)
  k03 : ∀ a b l e, a < H.m → b < H.m → (H.vis a).lowered = some l → l < (H.vis b).wanted → (H.vis b).entered = some e → ∃ x, (H.vis a).left = some x ∧ x ≤ e
  k08 : ∀ a b l k, a < H.m → b < H.m → (H.vis a).lowered = some l → l < (H.vis b).wanted → (H.vis b).lowered = some k → (∃ x, (H.vis a).left = some x ∧ x ≤ k) ∨ ∃ ta tb, (H.vis a).ticket = some ta ∧ (H.vis b).ticket = some tb ∧ ta < tb
  apart : ∀ a b e f, a < H.m → b < H.m → a ≠ b → (H.vis a).entered = some e → (H.vis b).entered = some f → e ≤ f → ∃ x, (H.vis a).left = some x ∧ x ≤ f
  tk : ∀ k x, k < H.m → (H.vis k).ticket = some x → 1 ≤ x ∧ x ≤ drawn H.vis H.m
  lowT : ∀ k, k < H.m → (H.vis k).lowered.isSome = true → (H.vis k).ticket.isSome = true
  gr : ∀ i, i < n → (H.hands i).great ≤ drawn H.vis H.m ∧ (H.hands i).ticket ≤ drawn H.vis H.m

/-- each who is within, from lo on, entered ahead of t -/
def Un (n t lo : Nat) (H : Hall) : Prop := ∀ i, i < n → lo ≤ i → (H.hands i).word = .within → ∀ e, (H.vis (H.cur i)).entered = some e → e < t

theorem HInv.more {n T T' : Nat} {H : Hall} (I : HInv n T H) (h : T ≤ T') : HInv n T' H :=
  ⟨I.inv, I.cur, I.opn, I.hnd, fun k hk => Nat.lt_of_lt_of_le (I.tW k hk) h, fun k x hk e => ⟨Nat.lt_of_lt_of_le (I.tL k x hk e).1 h, (I.tL k x hk e).2⟩, fun k x hk e => Nat.lt_of_lt_of_le (I.tE k x hk e) h,
    fun k x hk e => Nat.lt_of_lt_of_le (I.tX k x hk e) h, I.entL, I.fcfs, I.k03, I.k08, I.apart, I.tk, I.lowT, I.gr⟩
theorem HInv.un {n T : Nat} {H : Hall} (I : HInv n T H) (lo : Nat) : Un n T lo H := fun i hi _ hw e he => I.tE _ e (I.cur i hi (by rw [hw]; decide)).1 he

theorem step_out {n : Nat} {s : Hands} {j : Nat} : (stepH n s j).word = .out ↔ (s j).word = .out := by
  generalize hw : (s j).word = w
  cases w <;> simp only [stepH, hw, turn]
  case asks => split <;> simp [hw]
  case sees =>
    split
    · simp [hw]
    · exact word_on (P := fun w => w = .out ↔ W.sees = .out) (fun _ => by decide) (fun _ => by decide)
  case begins => exact word_on (P := fun w => w = .out ↔ W.begins = .out) (fun _ => by decide) (fun _ => by decide)
  case looks => exact word_on (P := fun w => w = .out ↔ W.looks = .out) (fun _ => by decide) (fun _ => by decide)
  case lowers => exact word_on (P := fun w => w = .out ↔ W.lowers = .out) (fun _ => by decide) (fun _ => by decide)
  all_goals simp

theorem step_quiet {n : Nat} {s : Hands} {j : Nat} (h1 : (s j).word ≠ .draws) (h2 : (s j).word ≠ .lowers) (h3 : (s j).word ≠ .enters) :
    settled (stepH n s j).word = settled (s j).word ∧ hasT (stepH n s j).word = hasT (s j).word ∧ decide ((stepH n s j).word = .within) = decide ((s j).word = .within) := by
  generalize hw : (s j).word = w at h1 h2 h3
  cases w <;> simp only [stepH, hw, turn]
  case asks => split <;> simp [hw, settled, hasT]
  case sees =>
    split
    · simp [hw, settled, hasT]
    · exact word_on (P := fun w => settled w = settled .sees ∧ hasT w = hasT .sees ∧ decide (w = .within) = decide (W.sees = .within)) (fun _ => by decide) (fun _ => by decide)
  case begins => exact word_on (P := fun w => settled w = settled .begins ∧ hasT w = hasT .begins ∧ decide (w = .within) = decide (W.begins = .within)) (fun _ => by decide) (fun _ => by decide)
  case looks => exact word_on (P := fun w => settled w = settled .looks ∧ hasT w = hasT .looks ∧ decide (w = .within) = decide (W.looks = .within)) (fun _ => by decide) (fun _ => by decide)
  all_goals first | contradiction | simp [hw]

theorem step_great {n : Nat} {s : Hands} {j d : Nat} (hd : ∀ i, (s i).ticket ≤ d ∨ i ≥ n) (hg : (s j).great ≤ d) (hj : j < n) (hp : (s j).word = .looks → (s j).place < n - 1) : (stepH n s j).great ≤ d := by
  generalize hw : (s j).word = w at hp
  cases w <;> simp only [stepH, hw, turn]
  case asks => split <;> exact hg
  case sees => split <;> exact hg
  case looks =>
    have := oth_lt hj (hp rfl)
    rcases hd (oth j (s j).place) with h | h
    · omega
    · omega
  all_goals exact hg

/-- two who have drawn, are past one another's door and both go in: never -/
theorem Inv.enter {n : Nat} {s : Hands} {i j : Nat} (I : Inv n s) (hi : i < n) (hj : j < n) (ne : i ≠ j) (wi : (s i).word = .enters) (wj : (s j).word = .within) : False := by
  have a := I.pas i j hi hj ne (by simp [Past, wj])
  have b := I.pas j i hj hi (Ne.symm ne) (by simp [Past, wi])
  simp only [Ahead, wi, wj] at a b
  omega
/-- who goes in is behind nobody whose flag is lowered and to whom it is late -/
theorem Inv.late {n : Nat} {s : Hands} {i j : Nat} (I : Inv n s) (hi : i < n) (hj : j < n) (ne : i ≠ j) (wi : (s i).word = .enters) (wj : settled (s j).word = true) (l : Late (s j).ticket j i (s i)) : False := by
  have b := I.pas j i hj hi (Ne.symm ne) (by simp [Past, wi])
  simp only [Late, wi] at l
  revert b wj
  unfold Ahead
  cases (s j).word <;> simp [settled] <;> omega
end Rm
namespace Rm

theorem hinv_leave {n t i : Nat} {H : Hall} (I : HInv n (t + 1) H) (hi : i < n) (hw : (H.hands i).word ≠ .out) (hu : ∀ e, (H.vis (H.cur i)).entered = some e → e < t) : HInv n (t + 1) (leaveA t H i) := by
  obtain ⟨hc, O⟩ := I.cur i hi hw
  have hne : ∀ k, (H.vis k).left ≠ none → k ≠ H.cur i := fun k z e => z (by rw [e]; exact O.left)
  have hv : ∀ k, (put H.vis (H.cur i) { H.vis (H.cur i) with left := some t } k) = if k = H.cur i then { H.vis k with left := some t } else H.vis k := by
    intro k
    by_cases e : k = H.cur i
    · subst e; rw [put_self, if_pos rfl]
    · rw [put_ne _ _ e, if_neg e]
  have e1 : ∀ k, ((leaveA t H i).vis k).hand = (H.vis k).hand := fun k => by simp only [leaveA, hv]; split <;> rfl
  have e2 : ∀ k, ((leaveA t H i).vis k).wanted = (H.vis k).wanted := fun k => by simp only [leaveA, hv]; split <;> rfl
  have e3 : ∀ k, ((leaveA t H i).vis k).lowered = (H.vis k).lowered := fun k => by simp only [leaveA, hv]; split <;> rfl
  have e4 : ∀ k, ((leaveA t H i).vis k).ticket = (H.vis k).ticket := fun k => by simp only [leaveA, hv]; split <;> rfl
  have e5 : ∀ k, ((leaveA t H i).vis k).entered = (H.vis k).entered := fun k => by simp only [leaveA, hv]; split <;> rfl
  have e6 : ∀ k, k ≠ H.cur i → ((leaveA t H i).vis k).left = (H.vis k).left := fun k z => by simp only [leaveA, hv, if_neg z]
  have e7 : ((leaveA t H i).vis (H.cur i)).left = some t := by simp only [leaveA, hv, if_pos]
  have e8 : (leaveA t H i).m = H.m := rfl
  have e9 : (leaveA t H i).cur = H.cur := rfl
  have ed : drawn (leaveA t H i).vis H.m = drawn H.vis H.m := drawn_congr fun k _ => by rw [e4]
  have hh : ∀ j, j ≠ i → (leaveA t H i).hands j = H.hands j := fun j z => put_ne _ _ z
  have hh2 : (leaveA t H i).hands i = goOut (H.hands i) := put_self _ _ _
  have lefts : ∀ k y, (∃ x, (H.vis k).left = some x ∧ x ≤ y) → ∃ x, ((leaveA t H i).vis k).left = some x ∧ x ≤ y := by
    rintro k y ⟨x, h1, h2⟩
    exact ⟨x, by rw [e6 k (hne k (by rw [h1]; simp))]; exact h1, h2⟩
  have other : ∀ j, j < n → (H.hands j).word ≠ .out → j ≠ i → H.cur j ≠ H.cur i := by
    intro j hj hwj ne e
    have := (I.cur j hj hwj).2.hand
    rw [e, O.hand] at this
    exact ne this.symm
  constructor
  · exact inv_set I.inv hi (.inl rfl) rfl rfl
  · intro j hj hwj
    by_cases e : j = i
    · subst e; rw [hh2] at hwj; exact absurd rfl hwj
    · rw [hh j e] at hwj ⊢
      obtain ⟨h1, h2⟩ := I.cur j hj hwj
      rw [e8, e9]
      exact ⟨h1, by rw [e1]; exact h2.hand, by rw [e6 _ (other j hj hwj e)]; exact h2.left, by rw [e3]; exact h2.low, by rw [e4]; exact h2.tick, by rw [e5]; exact h2.ent⟩
  · intro k hk hl
    have ne : k ≠ H.cur i := fun z => by rw [z, e7] at hl; cases hl
    rw [e6 k ne] at hl
    obtain ⟨h1, h2⟩ := I.opn k hk hl
    have : (H.vis k).hand ≠ i := fun z => ne (by rw [← h2, z])
    rw [e1, e9, hh _ this]
    exact ⟨h1, h2⟩
  · intro k hk; rw [e1]; exact I.hnd k hk
  · intro k hk; rw [e2]; exact I.tW k hk
  · intro k x hk h; rw [e3] at h; rw [e2]; exact I.tL k x hk h
  · intro k x hk h; rw [e5] at h; exact I.tE k x hk h
  · intro k x hk h
    by_cases e : k = H.cur i
    · rw [e, e7] at h; cases h; exact Nat.lt_succ_self _
    · rw [e6 k e] at h; exact I.tX k x hk h
  · intro k e x hk he hx
    rw [e5] at he
    by_cases z : k = H.cur i
    · rw [z, e7] at hx; cases hx; rw [z] at he; exact hu e he
    · rw [e6 k z] at hx; exact I.entL k e x hk he hx
  · intro a b ha hb ne hwa hwb l hl hlt
    have na : a ≠ i := fun z => by subst z; rw [hh2] at hwa; exact hwa rfl
    have nb : b ≠ i := fun z => by subst z; rw [hh2] at hwb; exact hwb rfl
    rw [hh a na] at hwa ⊢
    rw [hh b nb] at hwb ⊢
    rw [e9, e3] at hl
    rw [e9, e2] at hlt
    exact I.fcfs a b ha hb ne hwa hwb l hl hlt
  · intro a b l e ha hb h1 h2 h3
    rw [e3] at h1; rw [e2] at h2; rw [e5] at h3
    exact lefts _ _ (I.k03 a b l e ha hb h1 h2 h3)
  · intro a b l k ha hb h1 h2 h3
    rw [e3] at h1; rw [e2] at h2; rw [e3] at h3
    rcases I.k08 a b l k ha hb h1 h2 h3 with h | h
    · exact .inl (lefts _ _ h)
    · rw [e4, e4]; exact .inr h
  · intro a b e f ha hb ne h1 h2 h3
    rw [e5] at h1; rw [e5] at h2
    exact lefts _ _ (I.apart a b e f ha hb ne h1 h2 h3)
  · intro k x hk h; rw [e4] at h; rw [e8, ed]; exact I.tk k x hk h
  · intro k hk h; rw [e3] at h; rw [e4]; exact I.lowT k hk h
  · intro j hj
    rw [e8, ed]
    by_cases e : j = i
    · subst e; rw [hh2]; exact ⟨(I.gr j hj).1, Nat.zero_le _⟩
    · rw [hh j e]; exact I.gr j hj

theorem hinv_want {n t i : Nat} {H : Hall} (I : HInv n (t + 1) H) (hi : i < n) (hw : (H.hands i).word = .out) : HInv n (t + 1) (wantA t H i) := by
  have eF := I.inv.flag i hi
  have eT := I.inv.tick i hi
  rw [hw] at eF eT
  have v1 : ∀ k, k < H.m → (wantA t H i).vis k = H.vis k := fun k hk => put_ne _ _ (by omega)
  have v2 : (wantA t H i).vis H.m = ⟨i, t, none, none, none, none⟩ := put_self _ _ _
  have c1 : ∀ j, j ≠ i → (wantA t H i).cur j = H.cur j := fun j e => put_ne _ _ e
  have c2 : (wantA t H i).cur i = H.m := put_self _ _ _
  have hh : ∀ j, j ≠ i → (wantA t H i).hands j = H.hands j := fun j z => put_ne _ _ z
  have hh2 : (wantA t H i).hands i = { H.hands i with great := 0, word := .begins } := put_self _ _ _
  have em : (wantA t H i).m = H.m + 1 := rfl
  have ed : drawn (wantA t H i).vis (H.m + 1) = drawn H.vis H.m := by
    show drawn (wantA t H i).vis H.m + (if ((wantA t H i).vis H.m).ticket.isSome then 1 else 0) = drawn H.vis H.m
    rw [v2, drawn_congr (g := H.vis) fun k hk => by rw [v1 k hk]]
    rfl
  have split : ∀ k, k < H.m + 1 → k < H.m ∨ k = H.m := by omega
  constructor
  · exact inv_set I.inv hi (.inr rfl) eF (by simpa [hasT] using eT)
  · intro j hj hwj
    rw [em]
    by_cases e : j = i
    · subst e
      rw [hh2, c2, v2]
      exact ⟨Nat.lt_succ_self _, rfl, rfl, rfl, rfl, rfl⟩
    · rw [hh j e] at hwj ⊢
      obtain ⟨h1, h2⟩ := I.cur j hj hwj
      rw [c1 j e, v1 _ h1]
      exact ⟨by omega, h2⟩
  · intro k hk hl
    rcases split k hk with h | h
    · rw [v1 k h] at hl ⊢
      obtain ⟨h1, h2⟩ := I.opn k h hl
      have : (H.vis k).hand ≠ i := fun z => h1 (by rw [z]; exact hw)
      rw [hh _ this, c1 _ this]
      exact ⟨h1, h2⟩
    · subst h
      rw [v2]
      dsimp only
      rw [hh2, c2]
      exact ⟨by simp, rfl⟩
  · intro k hk
    rcases split k hk with h | h
    · rw [v1 k h]; exact I.hnd k h
    · subst h; rw [v2]; exact hi
  · intro k hk
    rcases split k hk with h | h
    · rw [v1 k h]; exact I.tW k h
    · subst h; rw [v2]; exact Nat.lt_succ_self _
  · intro k x hk hx
    rcases split k hk with h | h
    · rw [v1 k h] at hx ⊢; exact I.tL k x h hx
    · subst h; rw [v2] at hx; cases hx
  · intro k x hk hx
    rcases split k hk with h | h
    · rw [v1 k h] at hx; exact I.tE k x h hx
    · subst h; rw [v2] at hx; cases hx
  · intro k x hk hx
    rcases split k hk with h | h
    · rw [v1 k h] at hx; exact I.tX k x h hx
    · subst h; rw [v2] at hx; cases hx
  · intro k e x hk he hx
    rcases split k hk with h | h
    · rw [v1 k h] at he hx; exact I.entL k e x h he hx
    · subst h; rw [v2] at hx; cases hx
  · intro a b ha hb ne hwa hwb l hl hlt
    by_cases eb : b = i
    · subst eb; rw [hh2]; simp [Late]
    · by_cases ea : a = i
      · subst ea; rw [c2, v2] at hl; cases hl
      · rw [hh a ea] at hwa ⊢
        rw [hh b eb] at hwb ⊢
        rw [c1 a ea, v1 _ (I.cur a ha hwa).1] at hl
        rw [c1 b eb, v1 _ (I.cur b hb hwb).1] at hlt
        exact I.fcfs a b ha hb ne hwa hwb l hl hlt
  · intro a b l e ha hb h1 h2 h3
    rcases split b hb with hb' | hb'
    · rcases split a ha with ha' | ha'
      · rw [v1 a ha'] at h1 ⊢; rw [v1 b hb'] at h2 h3; exact I.k03 a b l e ha' hb' h1 h2 h3
      · subst ha'; rw [v2] at h1; cases h1
    · subst hb'; rw [v2] at h3; cases h3
  · intro a b l k ha hb h1 h2 h3
    rcases split b hb with hb' | hb'
    · rcases split a ha with ha' | ha'
      · rw [v1 a ha'] at h1 ⊢; rw [v1 b hb'] at h2 h3 ⊢; exact I.k08 a b l k ha' hb' h1 h2 h3
      · subst ha'; rw [v2] at h1; cases h1
    · subst hb'; rw [v2] at h3; cases h3
  · intro a b e f ha hb ne h1 h2 h3
    rcases split b hb with hb' | hb'
    · rcases split a ha with ha' | ha'
      · rw [v1 a ha'] at h1 ⊢; rw [v1 b hb'] at h2; exact I.apart a b e f ha' hb' ne h1 h2 h3
      · subst ha'; rw [v2] at h1; cases h1
    · subst hb'; rw [v2] at h2; cases h2
  · intro k x hk hx
    rw [em, ed]
    rcases split k hk with h | h
    · rw [v1 k h] at hx; exact I.tk k x h hx
    · subst h; rw [v2] at hx; cases hx
  · intro k hk hx
    rcases split k hk with h | h
    · rw [v1 k h] at hx ⊢; exact I.lowT k h hx
    · subst h; rw [v2] at hx; cases hx
  · intro j hj
    rw [em, ed]
    by_cases e : j = i
    · subst e; rw [hh2]; exact ⟨Nat.zero_le _, (I.gr j hj).2⟩
    · rw [hh j e]; exact I.gr j hj

theorem hinv_start (n : Nat) : HInv n 0 ⟨fun _ => out0, fun _ => ⟨0, 0, none, none, none, none⟩, 0, fun _ => 0⟩ := by
  refine ⟨inv_start n, ?_, ?_, ?_, ?_, ?_, ?_, ?_, ?_, ?_, ?_, ?_, ?_, ?_, ?_, ?_⟩
  all_goals intros
  all_goals first | contradiction | (simp_all [out0]; done) | (exfalso; simp_all [out0]; done)
end Rm
namespace Rm

/-- what a step does to the visit of its hand, field by field -/
structure Noted (t : Nat) (h h' : Hand) (v v' : Visit) : Prop where
  hand : v'.hand = v.hand
  wanted : v'.wanted = v.wanted
  left : v'.left = v.left
  low : v'.lowered = if h.word = .lowers then some t else v.lowered
  ent : v'.entered = if h.word = .enters then some t else v.entered
  tick : v'.ticket = if h.word = .draws then some (h.great + 1) else v.ticket

theorem noted {t : Nat} {h h' : Hand} {v : Visit} : Noted t h h' v (noteV h.word t (h.great + 1) v) := by
  cases hw : h.word <;> constructor <;> simp [noteV, hw]

theorem own_step {n t i : Nat} {s : Hands} {v : Visit} (O : Own (s i) i v) (hw : (s i).word ≠ .out) : Own (stepH n s i) i (noteV (s i).word t ((s i).great + 1) v) := by
  have N := noted (t := t) (h := s i) (h' := s i) (v := v)
  obtain ⟨o1, o2, o3, o4, o5⟩ := O
  by_cases w1 : (s i).word = .draws
  · rw [w1] at N o3 o4 o5 ⊢
    exact ⟨o1, o2, by simpa [stepH, w1, noteV, settled] using o3, by simp [stepH, w1, noteV, hasT], by simpa [stepH, w1, noteV] using o5⟩
  by_cases w2 : (s i).word = .lowers
  · rw [w2] at N o3 o4 o5 ⊢
    refine ⟨o1, o2, ?_, ?_, ?_⟩ <;> simp only [stepH, w2, noteV, turn]
    · exact word_on (P := fun w => _ = settled w) (fun _ => rfl) (fun _ => rfl)
    · exact word_on (P := fun w => v.ticket = if hasT w = true then some (s i).ticket else none) (fun _ => o4) (fun _ => o4)
    · exact word_on (P := fun w => v.entered.isSome = decide (w = W.within)) (fun _ => o5) (fun _ => o5)
  by_cases w3 : (s i).word = .enters
  · rw [w3] at N o3 o4 o5 ⊢
    exact ⟨o1, o2, by simpa [stepH, w3, noteV, settled] using o3, by simpa [stepH, w3, noteV, hasT] using o4, by simp [stepH, w3, noteV]⟩
  · obtain ⟨q1, q2, q3⟩ := step_quiet (n := n) w1 w2 w3
    have q4 := step_ticket (n := n) w1
    refine ⟨N.hand.trans o1, N.left.trans o2, ?_, ?_, ?_⟩
    · rw [N.low, if_neg w2, q1]; exact o3
    · rw [N.tick, if_neg w1, q2, q4]; exact o4
    · rw [N.ent, if_neg w3, q3]; exact o5

theorem hinv_step {n t i : Nat} {H : Hall} (I : HInv n (t + 1) H) (hi : i < n) (hw : (H.hands i).word ≠ .out) : HInv n (t + 1) (stepA n t H i) := by
  obtain ⟨hc, O⟩ := I.cur i hi hw
  have N := noted (t := t) (h := H.hands i) (h' := H.hands i) (v := H.vis (H.cur i))
  have vo : ∀ k, k ≠ H.cur i → (stepA n t H i).vis k = H.vis k := fun k e => put_ne _ _ e
  have vc : (stepA n t H i).vis (H.cur i) = noteV (H.hands i).word t ((H.hands i).great + 1) (H.vis (H.cur i)) := put_self _ _ _
  have hh : ∀ j, j ≠ i → (stepA n t H i).hands j = H.hands j := fun j z => put_ne _ _ z
  have hh2 : (stepA n t H i).hands i = stepH n H.hands i := put_self _ _ _
  have e8 : (stepA n t H i).m = H.m := rfl
  have e9 : (stepA n t H i).cur = H.cur := rfl
  have e1 : ∀ k, ((stepA n t H i).vis k).hand = (H.vis k).hand := fun k => by
    by_cases e : k = H.cur i
    · rw [e, vc]; exact N.hand
    · rw [vo k e]
  have e2 : ∀ k, ((stepA n t H i).vis k).wanted = (H.vis k).wanted := fun k => by
    by_cases e : k = H.cur i
    · rw [e, vc]; exact N.wanted
    · rw [vo k e]
  have e6 : ∀ k, ((stepA n t H i).vis k).left = (H.vis k).left := fun k => by
    by_cases e : k = H.cur i
    · rw [e, vc]; exact N.left
    · rw [vo k e]
  have e3 : ∀ k, ((stepA n t H i).vis k).lowered = if k = H.cur i ∧ (H.hands i).word = .lowers then some t else (H.vis k).lowered := fun k => by
    by_cases e : k = H.cur i
    · rw [e, vc, N.low]; simp
    · rw [vo k e, if_neg fun z => e z.1]
  have e5 : ∀ k, ((stepA n t H i).vis k).entered = if k = H.cur i ∧ (H.hands i).word = .enters then some t else (H.vis k).entered := fun k => by
    by_cases e : k = H.cur i
    · rw [e, vc, N.ent]; simp
    · rw [vo k e, if_neg fun z => e z.1]
  have e4 : ∀ k, ((stepA n t H i).vis k).ticket = if k = H.cur i ∧ (H.hands i).word = .draws then some ((H.hands i).great + 1) else (H.vis k).ticket := fun k => by
    by_cases e : k = H.cur i
    · rw [e, vc, N.tick]; simp
    · rw [vo k e, if_neg fun z => e z.1]
  have other : ∀ j, j < n → (H.hands j).word ≠ .out → j ≠ i → H.cur j ≠ H.cur i := by
    intro j hj hwj ne e
    have := (I.cur j hj hwj).2.hand
    rw [e, O.hand] at this
    exact ne this.symm
  have opens : ∀ a, a < H.m → a ≠ H.cur i → (H.vis a).left = none → (H.vis a).hand < n ∧ (H.vis a).hand ≠ i ∧ (H.hands (H.vis a).hand).word ≠ .out ∧ H.cur (H.vis a).hand = a := by
    intro a ha ne hl
    obtain ⟨h1, h2⟩ := I.opn a ha hl
    exact ⟨I.hnd a ha, fun z => ne (by rw [← h2, z]), h1, h2⟩
  have dr : drawn H.vis H.m ≤ drawn (stepA n t H i).vis H.m ∧ ((H.hands i).word = .draws → drawn (stepA n t H i).vis H.m = drawn H.vis H.m + 1) := by
    by_cases e : (H.hands i).word = .draws
    · have : drawn (stepA n t H i).vis H.m = drawn H.vis H.m + 1 :=
        drawn_more hc (by rw [O.tick, e]; rfl) (by rw [N.tick, if_pos e]; rfl)
      exact ⟨by omega, fun _ => this⟩
    · have : drawn (stepA n t H i).vis H.m = drawn H.vis H.m := drawn_congr fun k _ => by rw [e4, if_neg fun z => e z.2]
      exact ⟨by omega, fun z => absurd z e⟩
  have alone : (H.hands i).word = .enters → ∀ a e, a < H.m → a ≠ H.cur i → (H.vis a).entered = some e → ∃ x, (H.vis a).left = some x ∧ x ≤ t := by
    intro hwe a e ha ne hent
    cases hl : (H.vis a).left with
    | some x => exact ⟨x, rfl, Nat.le_of_lt_succ (I.tX a x ha hl)⟩
    | none =>
      exfalso
      obtain ⟨h1, h2, h3, h4⟩ := opens a ha ne hl
      have O2 := (I.cur _ h1 h3).2
      rw [h4] at O2
      have hin : (H.hands (H.vis a).hand).word = .within := by
        have := O2.ent
        rw [hent] at this
        simpa using this.symm
      exact I.inv.enter hi h1 (Ne.symm h2) hwe hin
  constructor
  · exact inv_step I.inv hi
  · intro j hj hwj
    by_cases e : j = i
    · subst e
      rw [hh2, e8, e9, vc]
      exact ⟨hc, own_step O hw⟩
    · rw [hh j e] at hwj ⊢
      obtain ⟨h1, h2⟩ := I.cur j hj hwj
      rw [e8, e9, vo _ (other j hj hwj e)]
      exact ⟨h1, h2⟩
  · intro k hk hl
    rw [e6] at hl
    obtain ⟨h1, h2⟩ := I.opn k hk hl
    rw [e1, e9]
    refine ⟨?_, h2⟩
    by_cases e : (H.vis k).hand = i
    · rw [e, hh2]; exact fun z => hw (step_out.1 z)
    · rw [hh _ e]; exact h1
  · intro k hk; rw [e1]; exact I.hnd k hk
  · intro k hk; rw [e2]; exact I.tW k hk
  · intro k x hk h
    rw [e3] at h
    rw [e2]
    split at h
    · cases h
      exact ⟨Nat.lt_succ_self _, Nat.le_of_lt_succ (I.tW k hk)⟩
    · exact I.tL k x hk h
  · intro k x hk h
    rw [e5] at h
    split at h
    · cases h; exact Nat.lt_succ_self _
    · exact I.tE k x hk h
  · intro k x hk h; rw [e6] at h; exact I.tX k x hk h
  · intro k e x hk he hx
    rw [e5] at he
    rw [e6] at hx
    split at he
    · rename_i hz
      rw [hz.1, O.left] at hx
      cases hx
    · exact I.entL k e x hk he hx
  · -- who is late stays so
    intro a b ha hb ne hwa hwb l hl hlt
    rw [e9, e3] at hl
    rw [e9, e2] at hlt
    by_cases ea : a = i
    · subst ea
      rw [hh b (Ne.symm ne)] at hwb ⊢
      have hwa' : (H.hands a).word ≠ .out := hw
      split at hl
      · cases hl
        have := I.tW _ (I.cur b hb hwb).1
        omega
      · have hs : settled (H.hands a).word = true := by rw [← O.low, hl]; rfl
        have hd : (H.hands a).word ≠ .draws := fun z => by rw [z] at hs; cases hs
        rw [hh2, step_ticket hd]
        exact I.fcfs a b ha hb ne hwa' hwb l hl hlt
    · rw [hh a ea] at hwa ⊢
      rw [if_neg fun z => other a ha hwa ea z.1] at hl
      by_cases eb : b = i
      · subst eb
        rw [hh2]
        exact late_step ha hb ne (I.fcfs a b ha hb ne hwa hw l hl hlt)
      · rw [hh b eb] at hwb ⊢
        exact I.fcfs a b ha hb ne hwa hwb l hl hlt
  · -- first drawn, first in
    intro a b l e ha hb h1 h2 h3
    rw [e3] at h1; rw [e2] at h2; rw [e5] at h3; rw [e6]
    split at h1
    · cases h1
      have := I.tW b hb
      omega
    · split at h3
      · rename_i hz
        cases h3
        obtain ⟨z1, z2⟩ := hz
        subst z1
        have hab : a ≠ H.cur i := fun z => by
          subst z
          have := (I.tL _ _ ha h1).2
          omega
        cases hl : (H.vis a).left with
        | some x => exact ⟨x, rfl, Nat.le_of_lt_succ (I.tX a x ha hl)⟩
        | none =>
          exfalso
          obtain ⟨g1, g2, g3, g4⟩ := opens a ha hab hl
          have O2 := (I.cur _ g1 g3).2
          rw [g4] at O2
          have hs : settled (H.hands (H.vis a).hand).word = true := by rw [← O2.low, h1]; rfl
          exact I.inv.late hi g1 (Ne.symm g2) z2 hs (I.fcfs _ i g1 hi g2 g3 hw l (by rw [g4]; exact h1) h2)
      · exact I.k03 a b l e ha hb h1 h2 h3
  · -- tickets grow
    intro a b l k ha hb h1 h2 h3
    rw [e3] at h1; rw [e2] at h2; rw [e3] at h3; rw [e6]
    split at h1
    · cases h1
      have := I.tW b hb
      omega
    · have noA : ¬ (a = H.cur i ∧ (H.hands i).word = .draws) := fun z => by
        have : settled (H.hands i).word = true := by rw [← O.low, ← z.1, h1]; rfl
        rw [z.2] at this
        cases this
      rw [e4 a, if_neg noA]
      split at h3
      · rename_i hz
        cases h3
        obtain ⟨z1, z2⟩ := hz
        subst z1
        have hab : a ≠ H.cur i := fun z => by
          subst z
          have := (I.tL _ _ ha h1).2
          omega
        cases hl : (H.vis a).left with
        | some x => exact .inl ⟨x, rfl, Nat.le_of_lt_succ (I.tX a x ha hl)⟩
        | none =>
          right
          obtain ⟨g1, g2, g3, g4⟩ := opens a ha hab hl
          have O2 := (I.cur _ g1 g3).2
          rw [g4] at O2
          have hs : settled (H.hands (H.vis a).hand).word = true := by rw [← O2.low, h1]; rfl
          have hT : hasT (H.hands (H.vis a).hand).word = true := by revert hs; cases (H.hands (H.vis a).hand).word <;> simp [settled, hasT]
          have L := I.fcfs _ i g1 hi g2 g3 hw l (by rw [g4]; exact h1) h2
          simp only [Late, z2] at L
          refine ⟨_, _, by rw [O2.tick, if_pos hT], ?_, L⟩
          rw [e4, if_neg fun z => absurd (z2.symm.trans z.2) (by decide), O.tick, z2]
          rfl
      · rcases I.k08 a b l k ha hb h1 h2 h3 with h | ⟨ta, tb, q1, q2, q3⟩
        · exact .inl h
        · refine .inr ⟨ta, tb, q1, ?_, q3⟩
          rw [e4, if_neg fun z => ?_]
          · exact q2
          · rw [z.1, O.tick, z.2] at q2
            cases q2
  · -- one left by the time that the other one entered
    intro a b e f ha hb ne h1 h2 h3
    rw [e5] at h1 h2; rw [e6]
    split at h2
    · rename_i hz
      cases h2
      obtain ⟨z1, z2⟩ := hz
      subst z1
      rw [if_neg fun z => ne z.1] at h1
      exact alone z2 a e ha ne h1
    · split at h1
      · rename_i hz
        cases h1
        obtain ⟨z1, z2⟩ := hz
        subst z1
        exfalso
        obtain ⟨x, q1, q2⟩ := alone z2 b f hb (Ne.symm ne) h2
        have := I.entL b f x hb h2 q1
        omega
      · exact I.apart a b e f ha hb ne h1 h2 h3
  · intro k x hk h
    rw [e4] at h
    rw [e8]
    split at h
    · rename_i hz
      cases h
      have := (I.gr i hi).1
      rw [dr.2 hz.2]
      omega
    · have := I.tk k x hk h
      omega
  · intro k hk h
    rw [e3] at h
    rw [e4]
    split
    · rfl
    · split at h
      · rename_i hz
        rw [hz.1, O.tick, hz.2]
        rfl
      · exact I.lowT k hk h
  · intro j hj
    rw [e8]
    by_cases e : j = i
    · subst e
      rw [hh2]
      refine ⟨?_, ?_⟩
      · exact Nat.le_trans (step_great (d := drawn H.vis H.m) (fun k => by
          by_cases hk : k < n
          · exact .inl (I.gr k hk).2
          · exact .inr (by omega)) (I.gr j hj).1 hj (I.inv.plcL j hj)) dr.1
      · by_cases hd : (H.hands j).word = .draws
        · have := (I.gr j hj).1
          rw [dr.2 hd]
          simp only [stepH, hd]
          omega
        · rw [step_ticket hd]
          have := (I.gr j hj).2
          omega
    · rw [hh j e]
      have := I.gr j hj
      omega
end Rm
/-! Deeds and stories; never two within, by the answers too. -/
namespace Rm

inductive Deed where
  | want (h : Int)
  | go (h : Int) (many : Nat)
  | leave (h : Int)
  | round
deriving DecidableEq

inductive Ans where
  | num (k : Nat)
  | steps (l : List Told)
  | went (l : List Nat)
  | noHand | isWithin | onWay | isOut
deriving DecidableEq

/-- so many steps of the hand i, but no more when it is within -/
def goA (n t i : Nat) (H : Hall) : Nat → Hall × List Told
  | 0 => (H, [])
  | k + 1 =>
    let r := goA n t i H k
    if (r.1.hands i).word = .within then r else (stepA n t r.1 i, r.2 ++ [toldS r.1.hands i])

def roundOne (n t : Nat) (H : Hall) (i : Nat) : Hall × List Nat :=
  if (H.hands i).word = .within then (leaveA t H i, [])
  else if (H.hands i).word = .out then (H, [])
  else (stepA n t H i, if (H.hands i).word = .enters then [i] else [])
/-- the hands below k have acted -/
def roundA (n t : Nat) (H : Hall) : Nat → Hall × List Nat
  | 0 => (H, [])
  | k + 1 => ((roundOne n t (roundA n t H k).1 k).1, (roundA n t H k).2 ++ (roundOne n t (roundA n t H k).1 k).2)

def isHand (n : Nat) (h : Int) : Bool := decide (0 ≤ h ∧ h < n)

def deedA (n t : Nat) (H : Hall) : Deed → Hall × Ans
  | .want h =>
    if isHand n h then
      if (H.hands h.toNat).word = .within then (H, .isWithin)
      else if (H.hands h.toNat).word = .out then (wantA t H h.toNat, .num H.m)
      else (H, .onWay)
    else (H, .noHand)
  | .go h many =>
    if isHand n h then
      if (H.hands h.toNat).word = .out then (H, .isOut)
      else if (H.hands h.toNat).word = .within then (H, .isWithin)
      else ((goA n t h.toNat H many).1, .steps (goA n t h.toNat H many).2)
    else (H, .noHand)
  | .leave h =>
    if isHand n h then
      if (H.hands h.toNat).word = .out then (H, .isOut)
      else (leaveA t H h.toNat, .num (H.hands h.toNat).ticket)
    else (H, .noHand)
  | .round => ((roundA n t H n).1, .went (roundA n t H n).2)

def hall0 : Hall := ⟨fun _ => out0, fun _ => ⟨0, 0, none, none, none, none⟩, 0, fun _ => 0⟩

/-- the hall and the answers behind the deeds -/
def run (n : Nat) (ds : List Deed) : Hall × List Ans :=
  ds.foldl (fun r d => ((deedA n r.2.length r.1 d).1, r.2 ++ [(deedA n r.2.length r.1 d).2])) (hall0, [])

theorem run_snoc (n : Nat) (ds : List Deed) (d : Deed) : run n (ds ++ [d]) = ((deedA n (run n ds).2.length (run n ds).1 d).1, (run n ds).2 ++ [(deedA n (run n ds).2.length (run n ds).1 d).2]) := by
  unfold run
  rw [List.foldl_append]
  rfl
theorem run_length (n : Nat) (ds : List Deed) : (run n ds).2.length = ds.length := by
  suffices h : ∀ k, (run n (ds.take k)).2.length = (ds.take k).length by
    have := h ds.length
    rwa [List.take_length] at this
  intro k
  induction k with
  | zero => rfl
  | succ k ih =>
    by_cases hk : k < ds.length
    · rw [List.take_succ_eq_append_getElem hk, run_snoc]
      simp only [List.length_append, List.length_singleton, ih]
    · rw [List.take_of_length_le (by omega)] at ih ⊢
      exact ih

theorem goA_inv {n t i : Nat} {H : Hall} (I : HInv n (t + 1) H) (hi : i < n) (hw : (H.hands i).word ≠ .out) (k : Nat) :
    HInv n (t + 1) (goA n t i H k).1 ∧ ((goA n t i H k).1.hands i).word ≠ .out ∧ ∀ j, j ≠ i → (goA n t i H k).1.hands j = H.hands j := by
  induction k with
  | zero => exact ⟨I, hw, fun _ _ => rfl⟩
  | succ k ih =>
    obtain ⟨h1, h2, h3⟩ := ih
    unfold goA
    dsimp only
    split
    · exact ⟨h1, h2, h3⟩
    · refine ⟨hinv_step h1 hi h2, ?_, fun j e => ?_⟩
      · show ((put (α := Hand) _ i _ i).word : W) ≠ W.out
        rw [put_self]
        exact fun z => h2 (step_out.1 z)
      · show put _ i _ j = _
        rw [put_ne _ _ e]
        exact h3 j e

theorem step_in {n : Nat} {s : Hands} {j : Nat} (h : (s j).word ≠ .within) : (stepH n s j).word = .within ↔ (s j).word = .enters := by
  generalize hw : (s j).word = w at h
  cases w <;> simp only [stepH, hw, turn]
  case asks => split <;> simp [hw]
  case sees =>
    split
    · simp [hw]
    · exact word_on (P := fun w => w = .within ↔ W.sees = .enters) (fun _ => by decide) (fun _ => by decide)
  case begins => exact word_on (P := fun w => w = .within ↔ W.begins = .enters) (fun _ => by decide) (fun _ => by decide)
  case looks => exact word_on (P := fun w => w = .within ↔ W.looks = .enters) (fun _ => by decide) (fun _ => by decide)
  case lowers => exact word_on (P := fun w => w = .within ↔ W.lowers = .enters) (fun _ => by decide) (fun _ => by decide)
  all_goals first | contradiction | simp [hw]

theorem told_word (s : Hands) (i : Nat) : (toldS s i).1 = (s i).word := by
  unfold toldS
  cases h : (s i).word <;> simp [h]

theorem un_other {n t lo i : Nat} {H H' : Hall} (I : HInv n (t + 1) H) (hi : i < n) (hw : (H.hands i).word ≠ .out) (u : Un n t lo H) (hc : H'.cur = H.cur) (hh : ∀ j, j ≠ i → H'.hands j = H.hands j) (hv : ∀ k, k ≠ H.cur i → H'.vis k = H.vis k) (hlo : i < lo') (hl : lo ≤ lo') : Un n t lo' H' := by
  intro j hj hlj hwj e he
  have ne : j ≠ i := by omega
  rw [hh j ne] at hwj
  have hwo : (H.hands j).word ≠ .out := by rw [hwj]; decide
  have : H.cur j ≠ H.cur i := fun z => ne (by rw [← (I.cur j hj hwo).2.hand, z]; exact (I.cur i hi hw).2.hand)
  rw [hc, hv _ this] at he
  exact u j hj (by omega) hwj e he

/-- what holds in a round when the hands below k have acted -/
theorem roundA_inv {n t : Nat} {H : Hall} (I : HInv n t H) (k : Nat) (hk : k ≤ n) :
    HInv n (t + 1) (roundA n t H k).1 ∧ Un n t k (roundA n t H k).1 ∧ (∀ j, k ≤ j → (roundA n t H k).1.hands j = H.hands j) ∧
    (roundA n t H k).2 = (List.range k).filter (fun j => decide (((roundA n t H k).1.hands j).word = .within)) ∧
    ∀ w ∈ (roundA n t H k).2, ∀ h, w < h → h < n → (H.hands h).word ≠ .within := by
  induction k with
  | zero => exact ⟨I.more (Nat.le_succ _), I.un 0, fun _ _ => rfl, rfl, fun w hw => nomatch hw⟩
  | succ k ih =>
    obtain ⟨h1, h2, h3, h4, h5⟩ := ih (by omega)
    have hkn : k < n := by omega
    generalize hG : roundA n t H k = G at h1 h2 h3 h4 h5
    have hR : roundA n t H (k + 1) = ((roundOne n t G.1 k).1, G.2 ++ (roundOne n t G.1 k).2) := by rw [roundA, hG]
    rw [hR]
    dsimp only
    have key : ∀ (G' : Hall), (∀ j, j ≠ k → G'.hands j = G.1.hands j) → (List.range (k + 1)).filter (fun j => decide ((G'.hands j).word = .within)) = G.2 ++ if (G'.hands k).word = .within then [k] else [] := by
      intro G' hG'
      rw [List.range_succ, List.filter_append, h4]
      congr 1
      · refine List.filter_congr fun j hj => ?_
        rw [hG' j (by have := List.mem_range.1 hj; omega)]
      · simp only [List.filter_cons, List.filter_nil, decide_eq_true_eq]
    unfold roundOne
    split
    · rename_i hw
      have hwo : (G.1.hands k).word ≠ .out := by rw [hw]; decide
      have hh : ∀ j, j ≠ k → (leaveA t G.1 k).hands j = G.1.hands j := fun j e => put_ne _ _ e
      refine ⟨hinv_leave h1 hkn hwo (h2 k hkn (Nat.le_refl _) hw), ?_, ?_, ?_, ?_⟩
      · exact un_other h1 hkn hwo h2 rfl hh (fun j e => put_ne _ _ e) (Nat.lt_succ_self _) (Nat.le_succ _)
      · intro j hj; rw [hh j (by omega)]; exact h3 j (by omega)
      · rw [key _ hh, if_neg (show ((leaveA t G.1 k).hands k).word ≠ .within by show (put (α := Hand) _ k _ k).word ≠ _; rw [put_self]; simp [goOut])]
      · rw [List.append_nil]; exact h5
    · split
      · rename_i hw
        refine ⟨h1, fun i hi hl => h2 i hi (by omega), fun j hj => h3 j (by omega), ?_, ?_⟩
        · rw [key G.1 fun _ _ => rfl, if_neg (by rw [hw]; decide)]
        · rw [List.append_nil]; exact h5
      · rename_i hn hwo
        have hh : ∀ j, j ≠ k → (stepA n t G.1 k).hands j = G.1.hands j := fun j e => put_ne _ _ e
        have hs : (stepA n t G.1 k).hands k = stepH n G.1.hands k := put_self _ _ _
        refine ⟨hinv_step h1 hkn hwo, ?_, ?_, ?_, ?_⟩
        · exact un_other h1 hkn hwo h2 rfl hh (fun j e => put_ne _ _ e) (Nat.lt_succ_self _) (Nat.le_succ _)
        · intro j hj; rw [hh j (by omega)]; exact h3 j (by omega)
        · rw [key _ hh, hs]
          simp only [step_in hn]
        · intro w hw h hlt hhn hin
          rcases List.mem_append.1 hw with hw | hw
          · exact h5 w hw h hlt hhn hin
          · split at hw
            · rename_i he
              have : w = k := by simpa using hw
              subst this
              exact h1.inv.enter hkn hhn (by omega) he (by rw [h3 h (by omega)]; exact hin)
            · cases hw

theorem deed_inv {n t : Nat} {H : Hall} (I : HInv n t H) (d : Deed) : HInv n (t + 1) (deedA n t H d).1 := by
  have I' := I.more (Nat.le_succ t)
  cases d with
  | want h =>
    unfold deedA
    dsimp only
    split
    · rename_i hh
      have hn : h.toNat < n := by simp only [isHand, decide_eq_true_eq] at hh; omega
      split
      · exact I'
      · split
        · rename_i hw; exact hinv_want I' hn hw
        · exact I'
    · exact I'
  | go h many =>
    unfold deedA
    dsimp only
    split
    · rename_i hh
      have hn : h.toNat < n := by simp only [isHand, decide_eq_true_eq] at hh; omega
      split
      · exact I'
      · rename_i hw
        split
        · exact I'
        · exact (goA_inv I' hn hw many).1
    · exact I'
  | leave h =>
    unfold deedA
    dsimp only
    split
    · rename_i hh
      have hn : h.toNat < n := by simp only [isHand, decide_eq_true_eq] at hh; omega
      split
      · exact I'
      · rename_i hw
        exact hinv_leave I' hn hw fun e he => I.tE _ e (I.cur _ hn hw).1 he
    · exact I'
  | round => exact (roundA_inv I n (Nat.le_refl _)).1

theorem run_inv (n : Nat) (ds : List Deed) : HInv n ds.length (run n ds).1 := by
  suffices h : ∀ k, HInv n (ds.take k).length (run n (ds.take k)).1 by
    have := h ds.length
    rwa [List.take_length] at this
  intro k
  induction k with
  | zero => exact hinv_start n
  | succ k ih =>
    by_cases hk : k < ds.length
    · rw [List.take_succ_eq_append_getElem hk, run_snoc, run_length]
      have := deed_inv ih ds[k]
      rw [List.length_append]
      exact this
    · rw [List.take_of_length_le (by omega)] at ih ⊢
      exact ih

/-- who is within -/
def ins (n : Nat) (H : Hall) : List Nat := (List.range n).filter fun j => decide ((H.hands j).word = .within)

theorem ins_nil {n : Nat} {H : Hall} (h : ∀ j, j < n → (H.hands j).word ≠ .within) : ins n H = [] := by
  unfold ins
  rw [List.filter_eq_nil_iff]
  intro j hj
  simpa using h j (List.mem_range.1 hj)
theorem ins_mem {n : Nat} {H : Hall} {j : Nat} : j ∈ ins n H ↔ j < n ∧ (H.hands j).word = .within := by
  unfold ins
  simp [List.mem_filter]
theorem nodup_one {l : List Nat} (hn : l.Nodup) {a : Nat} (ha : a ∈ l) (h : ∀ b ∈ l, b = a) : l = [a] := by
  cases l with
  | nil => cases ha
  | cons x r =>
    have e := h x (List.mem_cons_self)
    subst e
    cases r with
    | nil => rfl
    | cons y r =>
      have := h y (List.mem_cons_of_mem _ List.mem_cons_self)
      subst this
      simp at hn
theorem ins_one {n T : Nat} {H : Hall} (I : HInv n T H) {a : Nat} (ha : a < n) (hw : (H.hands a).word = .within) : ins n H = [a] := by
  refine nodup_one ((List.nodup_range).sublist List.filter_sublist) (ins_mem.2 ⟨ha, hw⟩) fun b hb => ?_
  obtain ⟨h1, h2⟩ := ins_mem.1 hb
  exact I.inv.alone h1 ha h2 hw
theorem ins_le {n T : Nat} {H : Hall} (I : HInv n T H) : (ins n H).length ≤ 1 := by
  by_cases h : ∃ a, a < n ∧ (H.hands a).word = .within
  · obtain ⟨a, h1, h2⟩ := h
    rw [ins_one I h1 h2]
    exact Nat.le_refl _
  · rw [ins_nil fun j hj z => h ⟨j, hj, z⟩]
    exact Nat.zero_le _

end Rm
/-! Rounds: all come through. -/
namespace Rm

def actH (n : Nat) (s : Hands) (i : Nat) : Hand :=
  if (s i).word = .within then goOut (s i) else if (s i).word = .out then s i else stepH n s i

/-- a round, told of the hands alone: each acts on what those ahead of it have done -/
def mix (s s' : Hands) (k : Nat) : Hands := fun j => if j < k then s' j else s j
theorem mix_self (s s' : Hands) (k : Nat) : mix s s' k k = s k := by simp [mix]
def RoundTo (n : Nat) (s s' : Hands) : Prop := ∀ k, k < n → s' k = actH n (mix s s' k) k

theorem roundOne_hand (n t : Nat) (H : Hall) (k : Nat) : (roundOne n t H k).1.hands = put H.hands k (actH n H.hands k) := by
  unfold roundOne actH
  split
  · rfl
  · split
    · exact (put_same _ _).symm
    · rfl
theorem roundA_hand (n t : Nat) (H : Hall) (k : Nat) : (roundA n t H (k + 1)).1.hands = put (roundA n t H k).1.hands k (actH n (roundA n t H k).1.hands k) := roundOne_hand n t _ k
theorem roundA_later (n t : Nat) (H : Hall) : ∀ (k j : Nat), k ≤ j → (roundA n t H k).1.hands j = H.hands j
  | 0, _, _ => rfl
  | k + 1, j, h => by rw [roundA_hand, put_ne _ _ (by omega)]; exact roundA_later n t H k j (by omega)
theorem roundA_done (n t : Nat) (H : Hall) (j k : Nat) (d : Nat) (h : j < k) : (roundA n t H (k + d)).1.hands j = (roundA n t H k).1.hands j := by
  induction d with
  | zero => rfl
  | succ d ih => rw [show k + (d + 1) = (k + d) + 1 from rfl, roundA_hand, put_ne _ _ (by omega)]; exact ih
theorem round_rel (n t : Nat) (H : Hall) : RoundTo n H.hands (roundA n t H n).1.hands := by
  intro k hk
  have e := roundA_done n t H k (k + 1) (n - (k + 1)) (Nat.lt_succ_self _)
  rw [show k + 1 + (n - (k + 1)) = n by omega] at e
  rw [e, roundA_hand, put_self]
  congr 1
  funext j
  unfold mix
  by_cases hj : j < k
  · rw [if_pos hj]
    have := roundA_done n t H j k (n - k) hj
    rw [show k + (n - k) = n by omega] at this
    exact this.symm
  · rw [if_neg hj]
    exact roundA_later n t H k j (by omega)

def door (n : Nat) (h : Hand) : Nat :=
  match h.word with
  | .begins => n + 2
  | .looks => n + 1 - h.place
  | .draws => 2
  | .lowers => 1
  | _ => 0
def rest (n : Nat) (h : Hand) : Nat :=
  match h.word with
  | .asks => 2 * (n - 1 - h.place) + 2
  | .sees => 2 * (n - 1 - h.place) + 1
  | .enters => 2
  | .within => 1
  | _ => 0

theorem door_le (n : Nat) (h : Hand) : door n h ≤ n + 2 := by
  unfold door
  cases h.word <;> simp <;> omega
theorem rest_le {n : Nat} (hn : 0 < n) (h : Hand) : rest n h ≤ 2 * n := by
  unfold rest
  cases h.word <;> simp <;> omega

theorem door_act {n : Nat} {s : Hands} {k : Nat} (hk : k < n) (hp : (s k).word = .looks → (s k).place < n - 1) : door n (actH n s k) = door n (s k) - 1 := by
  generalize hw : (s k).word = w at hp
  cases w <;> simp only [actH, hw, stepH, turn, reduceCtorEq, if_false, if_true]
  case out => simp [door, hw]
  case begins =>
    by_cases h : 0 < n - 1
    · simp [door, hw, h]
    · simp [door, hw, h]; omega
  case looks =>
    have := hp rfl
    by_cases h : (s k).place + 1 < n - 1
    · simp only [door, hw, h, if_true]; omega
    · simp only [door, hw, h, if_false]; omega
  case draws => simp [door, hw]
  case lowers =>
    by_cases h : 0 < n - 1
    · simp [door, hw, h]
    · simp [door, hw, h]
  case asks => split <;> simp [door, hw]
  case sees =>
    split
    · simp [door, hw]
    · by_cases h : (s k).place + 1 < n - 1
      · simp [door, hw, h]
      · simp [door, hw, h]
  case enters => simp [door, hw]
  case within => simp [door, hw, goOut]

def Calm (n : Nat) (s : Hands) : Prop := ∀ j, j < n → door n (s j) = 0
theorem calm_word {n : Nat} {h : Hand} (hn : 0 < n) (hp : h.word = .looks → h.place < n - 1) (e : door n h = 0) : h.word = .out ∨ settled h.word = true := by
  unfold door at e
  revert e hp
  cases h.word <;> simp [settled] <;> omega
theorem calm_act {n : Nat} {s : Hands} {k : Nat} (h : (s k).word = .out ∨ settled (s k).word = true) :
    (actH n s k).word = .out ∧ (actH n s k).ticket = (if (s k).word = .out then (s k).ticket else 0) ∨ (s k).word ≠ .out ∧ settled (actH n s k).word = true ∧ (actH n s k).ticket = (s k).ticket := by
  by_cases h1 : (s k).word = .within
  · left; simp [actH, h1, goOut]
  · by_cases h2 : (s k).word = .out
    · left; simp [actH, h2]
    · right
      have hs := h.resolve_left h2
      simp only [actH, if_neg h1, if_neg h2]
      exact ⟨h2, step_settled hs, step_ticket fun z => by rw [z] at hs; cases hs⟩

structure Least (n : Nat) (s : Hands) (m : Nat) : Prop where
  lt : m < n
  act : (s m).word ≠ .out
  least : ∀ j, j < n → j ≠ m → (s j).word ≠ .out → (s m).ticket < (s j).ticket ∨ (s m).ticket = (s j).ticket ∧ m < j

/-- who goes first goes on -/
theorem rest_act {n : Nat} {s : Hands} {m : Nat} (hm : m < n) (hw : settled (s m).word = true) (hp : (s m).word = .asks ∨ (s m).word = .sees → (s m).place < n - 1)
    (hf : ∀ j, j < n → j ≠ m → (s j).flag = false) (ht : ∀ j, j < n → j ≠ m → (s j).ticket = 0 ∨ (s m).ticket < (s j).ticket ∨ (s m).ticket = (s j).ticket ∧ m < j) :
    rest n (actH n s m) + 1 = rest n (s m) := by
  generalize hww : (s m).word = w at hw hp
  cases w <;> simp only [settled, Bool.false_eq_true] at hw
  case asks =>
    have h1 := hp (.inl rfl)
    have := hf _ (oth_lt hm h1) (oth_ne _ _)
    simp [actH, hww, stepH, this, rest]
  case sees =>
    have h1 := hp (.inr rfl)
    have := ht _ (oth_lt hm h1) (oth_ne _ _)
    have hnf : first (s (oth m (s m).place)).ticket (oth m (s m).place) (s m).ticket m = false := by
      simp only [first, decide_eq_false_iff_not]
      omega
    simp only [actH, hww, stepH, hnf, reduceCtorEq, if_false, Bool.false_eq_true, turn]
    by_cases h : (s m).place + 1 < n - 1
    · simp only [rest, hww, h, if_true]; omega
    · simp only [rest, hww, h, if_false]; omega
  case enters => simp [actH, hww, stepH, rest]
  case within => simp [actH, hww, rest, goOut]

section
variable {n : Nat} {S : Nat → Hands} (hS : ∀ r, RoundTo n (S r) (S (r + 1))) (hI : ∀ r, Inv n (S r))
include hS hI

theorem door_after (q k : Nat) (hk : k < n) : ∀ r, door n (S (q + r) k) = door n (S q k) - r
  | 0 => rfl
  | r + 1 => by
    have e := hS (q + r) k hk
    rw [show q + (r + 1) = (q + r) + 1 from rfl, e, door_act hk]
    · rw [mix_self, door_after q k hk r]
      omega
    · rw [mix_self]
      exact (hI (q + r)).plcL k hk

theorem calm_stays {q : Nat} (h : Calm n (S q)) (r : Nat) : Calm n (S (q + r)) := fun j hj => by rw [door_after hS hI q j hj r, h j hj]; omega

theorem act_after {q j : Nat} (hj : j < n) (h : Calm n (S q)) :
    (S (q + 1) j).word = .out ∧ (S (q + 1) j).ticket = 0 ∨ (S q j).word ≠ .out ∧ settled (S (q + 1) j).word = true ∧ (S (q + 1) j).ticket = (S q j).ticket := by
  have hw := calm_word (by omega) ((hI q).plcL j hj) (h j hj)
  have e := hS q j hj
  have m := mix_self (S q) (S (q + 1)) j
  have := calm_act (n := n) (s := mix (S q) (S (q + 1)) j) (k := j) (by rw [m]; exact hw)
  rw [← e, m] at this
  rcases this with ⟨h1, h2⟩ | h1
  · left
    refine ⟨h1, ?_⟩
    rw [h2]
    split
    · rename_i hz
      have t := (hI q).tick j hj
      rw [hz] at t
      simpa [hasT] using t
    · rfl
  · exact .inr h1

theorem out_stays {q j : Nat} (hj : j < n) (h : (S q j).word = .out) : ∀ r, (S (q + r) j).word = .out
  | 0 => h
  | r + 1 => by
    have e := hS (q + r) j hj
    have m := mix_self (S (q + r)) (S (q + r + 1)) j
    have hr := out_stays hj h r
    rw [show q + (r + 1) = (q + r) + 1 from rfl, e]
    simp [actH, m, hr]

theorem least_after {q m : Nat} (h : Calm n (S q)) (L : Least n (S q) m) : rest n (S (q + 1) m) + 1 = rest n (S q m) ∧ ((S (q + 1) m).word ≠ .out → Least n (S (q + 1)) m) := by
  have hm := L.lt
  have hw := (calm_word (by omega) ((hI q).plcL m hm) (h m hm)).resolve_left L.act
  have e := hS q m hm
  have mx := mix_self (S q) (S (q + 1)) m
  constructor
  · rw [e]
    conv => rhs; rw [← mx]
    refine rest_act hm ?_ ?_ ?_ ?_
    · rw [mx]; exact hw
    · rw [mx]
      rintro (z | z)
      · exact (hI q).plcA m hm z
      · exact (hI q).plcS m hm z
    · intro j hj ne
      show (if j < m then S (q + 1) j else S q j).flag = false
      split
      · rw [(hI (q + 1)).flag j hj]
        rcases calm_word (by omega) ((hI (q + 1)).plcL j hj) (calm_stays hS hI h 1 j hj) with z | z
        · rw [z]; rfl
        · revert z; cases (S (q + 1) j).word <;> simp [settled, up]
      · rw [(hI q).flag j hj]
        rcases calm_word (by omega) ((hI q).plcL j hj) (h j hj) with z | z
        · rw [z]; rfl
        · revert z; cases (S q j).word <;> simp [settled, up]
    · intro j hj ne
      rw [mx]
      show (if j < m then S (q + 1) j else S q j).ticket = 0 ∨ (S q m).ticket < (if j < m then S (q + 1) j else S q j).ticket ∨ (S q m).ticket = (if j < m then S (q + 1) j else S q j).ticket ∧ m < j
      split
      · rcases act_after hS hI hj h with ⟨_, z⟩ | ⟨z1, z2, z3⟩
        · exact .inl z
        · rw [z3]; exact .inr (L.least j hj ne z1)
      · by_cases z : (S q j).word = .out
        · left
          have t := (hI q).tick j hj
          rw [z] at t
          simpa [hasT] using t
        · exact .inr (L.least j hj ne z)
  · intro hw2
    refine ⟨hm, hw2, fun j hj ne hwj => ?_⟩
    rcases act_after hS hI hm h with ⟨z, _⟩ | ⟨_, _, z⟩
    · exact absurd z hw2
    · rcases act_after hS hI hj h with ⟨y, _⟩ | ⟨y1, _, y⟩
      · exact absurd y hwj
      · rw [z, y]; exact L.least j hj ne y1

theorem gone {m : Nat} : ∀ (r q : Nat), Calm n (S q) → Least n (S q) m → rest n (S q m) ≤ r → (S (q + r) m).word = .out
  | 0, q, h, L, hr => by
    have := (least_after hS hI h L).1
    omega
  | r + 1, q, h, L, hr => by
    obtain ⟨h1, h2⟩ := least_after hS hI h L
    rw [show q + (r + 1) = (q + 1) + r by omega]
    by_cases e : (S (q + 1) m).word = .out
    · exact out_stays hS hI L.lt e r
    · exact gone r (q + 1) (calm_stays hS hI h 1) (h2 e) (by omega)
end

/-- how many are not out -/
def busy (s : Hands) : Nat → Nat
  | 0 => 0
  | n + 1 => busy s n + if (s n).word = .out then 0 else 1
theorem busy_le (s : Hands) (n : Nat) : busy s n ≤ n := by
  induction n with
  | zero => exact Nat.le_refl _
  | succ n ih => unfold busy; split <;> omega
theorem busy_mono {s s' : Hands} {n : Nat} (h : ∀ j, j < n → (s j).word = .out → (s' j).word = .out) : busy s' n ≤ busy s n := by
  induction n with
  | zero => exact Nat.le_refl _
  | succ n ih =>
    have := ih fun j hj => h j (by omega)
    unfold busy
    have hn := h n (by omega)
    by_cases e : (s n).word = .out
    · rw [if_pos e, if_pos (hn e)]; omega
    · rw [if_neg e]; split <;> omega
theorem busy_less {s s' : Hands} {n m : Nat} (h : ∀ j, j < n → (s j).word = .out → (s' j).word = .out) (hm : m < n) (h1 : (s m).word ≠ .out) (h2 : (s' m).word = .out) : busy s' n < busy s n := by
  induction n with
  | zero => omega
  | succ n ih =>
    unfold busy
    by_cases e : m = n
    · subst e
      have := busy_mono (n := m) fun j hj => h j (by omega)
      rw [if_neg h1, if_pos h2]; omega
    · have := ih (fun j hj => h j (by omega)) (by omega)
      have hn := h n (by omega)
      by_cases e2 : (s n).word = .out
      · rw [if_pos e2, if_pos (hn e2)]; omega
      · rw [if_neg e2]; split <;> omega
theorem busy_zero {s : Hands} {n j : Nat} (h : busy s n = 0) (hj : j < n) : (s j).word = .out := by
  induction n with
  | zero => omega
  | succ n ih =>
    unfold busy at h
    by_cases e : (s n).word = .out
    · rw [if_pos e] at h
      by_cases ej : j = n
      · rw [ej]; exact e
      · exact ih (by omega) (by omega)
    · rw [if_neg e] at h; omega

theorem least_of (s : Hands) : ∀ n, (∃ j, j < n ∧ (s j).word ≠ .out) → ∃ m, Least n s m
  | 0, ⟨_, h, _⟩ => absurd h (Nat.not_lt_zero _)
  | n + 1, ⟨j, hj, hw⟩ => by
    by_cases h : ∃ j, j < n ∧ (s j).word ≠ .out
    · obtain ⟨m, L⟩ := least_of s n h
      by_cases hn : (s n).word ≠ .out ∧ (s n).ticket < (s m).ticket
      · refine ⟨n, Nat.lt_succ_self _, hn.1, fun k hk ne hwk => ?_⟩
        by_cases e : k = m
        · subst e; exact .inl hn.2
        · have := L.least k (by omega) e hwk
          omega
      · refine ⟨m, by have := L.lt; omega, L.act, fun k hk ne hwk => ?_⟩
        by_cases e : k = n
        · subst e
          have : ¬ (s k).ticket < (s m).ticket := fun z => hn ⟨hwk, z⟩
          have := L.lt
          omega
        · exact L.least k (by omega) ne hwk
    · have e : j = n := by
        by_cases e : j = n
        · exact e
        · exact absurd ⟨j, by omega, hw⟩ h
      subst e
      exact ⟨j, Nat.lt_succ_self _, hw, fun k hk ne hwk => absurd ⟨k, by omega, hwk⟩ h⟩

theorem all_out_calm {n : Nat} {S : Nat → Hands} (hS : ∀ r, RoundTo n (S r) (S (r + 1))) (hI : ∀ r, Inv n (S r)) :
    ∀ (c q : Nat), Calm n (S q) → busy (S q) n ≤ c → ∀ j, j < n → (S (q + 2 * n * c) j).word = .out
  | 0, q, h, hb, j, hj => by
    rw [Nat.mul_zero, Nat.add_zero]
    exact busy_zero (by omega) hj
  | c + 1, q, h, hb, j, hj => by
    rw [show q + 2 * n * (c + 1) = (q + 2 * n) + 2 * n * c by rw [Nat.mul_add]; omega]
    by_cases e : ∃ j, j < n ∧ (S q j).word ≠ .out
    · obtain ⟨m, L⟩ := least_of (S q) n e
      refine all_out_calm hS hI c (q + 2 * n) (calm_stays hS hI h _) ?_ j hj
      have h2 := gone hS hI (2 * n) q h L (rest_le (by omega) _)
      have := busy_less (s := S q) (s' := S (q + 2 * n)) (n := n) (fun i hi z => out_stays hS hI hi z (2 * n)) L.lt L.act h2
      omega
    · rw [Nat.add_assoc]
      refine out_stays hS hI hj ?_ _
      by_cases z : (S q j).word = .out
      · exact z
      · exact absurd ⟨j, hj, z⟩ e
theorem all_out {n : Nat} {S : Nat → Hands} (hS : ∀ r, RoundTo n (S r) (S (r + 1))) (hI : ∀ r, Inv n (S r)) (j : Nat) (hj : j < n) : (S (2 * n * n + n + 2) j).word = .out := by
  have hc : Calm n (S (0 + (n + 2))) := fun k hk => by
    rw [door_after hS hI 0 k hk (n + 2)]
    have := door_le n (S 0 k)
    omega
  have := all_out_calm hS hI n _ hc (busy_le _ _) j hj
  rwa [show 0 + (n + 2) + 2 * n * n = 2 * n * n + n + 2 by omega] at this
end Rm
/-! Rounds and what is written of the visits. -/
namespace Rm

structure Kept (H H' : Hall) : Prop where
  m : H'.m = H.m
  cur : H'.cur = H.cur
  hand : ∀ k, (H'.vis k).hand = (H.vis k).hand
  wanted : ∀ k, (H'.vis k).wanted = (H.vis k).wanted
  shut : ∀ k, (H.vis k).left ≠ none → H'.vis k = H.vis k
  gone : ∀ k, (H'.vis k).left ≠ none → (H.vis k).left ≠ none ∨ (H'.vis k).entered ≠ none
  ent : ∀ k e, (H.vis k).entered = some e → (H'.vis k).entered = some e
theorem Kept.refl (H : Hall) : Kept H H := ⟨rfl, rfl, fun _ => rfl, fun _ => rfl, fun _ _ => rfl, fun _ h => .inl h, fun _ _ h => h⟩
theorem Kept.trans {H H' H'' : Hall} (a : Kept H H') (b : Kept H' H'') : Kept H H'' := by
  refine ⟨b.m.trans a.m, b.cur.trans a.cur, fun k => (b.hand k).trans (a.hand k), fun k => (b.wanted k).trans (a.wanted k), fun k h => ?_, fun k h => ?_, fun k e h => b.ent k e (a.ent k e h)⟩
  · have e := a.shut k h
    rw [b.shut k (by rw [e]; exact h), e]
  · rcases b.gone k h with h | h
    · rcases a.gone k h with h | h
      · exact .inl h
      · right
        cases e : (H'.vis k).entered with
        | none => exact absurd e h
        | some x => rw [b.ent k x e]; simp
    · exact .inr h

theorem kept_leave {n t i : Nat} {H : Hall} (I : HInv n (t + 1) H) (hi : i < n) (hw : (H.hands i).word = .within) : Kept H (leaveA t H i) := by
  have hwo : (H.hands i).word ≠ .out := by rw [hw]; decide
  obtain ⟨hc, O⟩ := I.cur i hi hwo
  have vo : ∀ k, k ≠ H.cur i → (leaveA t H i).vis k = H.vis k := fun k e => put_ne _ _ e
  have vc : (leaveA t H i).vis (H.cur i) = { H.vis (H.cur i) with left := some t } := put_self _ _ _
  refine ⟨rfl, rfl, fun k => ?_, fun k => ?_, fun k h => ?_, fun k h => ?_, fun k e h => ?_⟩
  all_goals by_cases z : k = H.cur i
  · subst z; rw [vc]
  · rw [vo k z]
  · subst z; rw [vc]
  · rw [vo k z]
  · subst z; exact absurd O.left h
  · exact vo k z
  · subst z
    right
    rw [vc]
    have := O.ent
    rw [hw] at this
    intro q
    have q : (H.vis (H.cur i)).entered = none := q
    rw [q] at this
    cases this
  · rw [vo k z] at h; exact .inl h
  · subst z; rw [vc]; exact h
  · rw [vo k z]; exact h

theorem kept_step {n t i : Nat} {H : Hall} (I : HInv n (t + 1) H) (hi : i < n) (hwo : (H.hands i).word ≠ .out) : Kept H (stepA n t H i) := by
  obtain ⟨hc, O⟩ := I.cur i hi hwo
  have N := noted (t := t) (h := H.hands i) (h' := H.hands i) (v := H.vis (H.cur i))
  have vo : ∀ k, k ≠ H.cur i → (stepA n t H i).vis k = H.vis k := fun k e => put_ne _ _ e
  have vc : (stepA n t H i).vis (H.cur i) = noteV (H.hands i).word t ((H.hands i).great + 1) (H.vis (H.cur i)) := put_self _ _ _
  refine ⟨rfl, rfl, fun k => ?_, fun k => ?_, fun k h => ?_, fun k h => ?_, fun k e h => ?_⟩
  all_goals by_cases z : k = H.cur i
  · subst z; rw [vc]; exact N.hand
  · rw [vo k z]
  · subst z; rw [vc]; exact N.wanted
  · rw [vo k z]
  · subst z; exact absurd O.left h
  · exact vo k z
  · subst z; rw [vc, N.left] at h; exact .inl h
  · rw [vo k z] at h; exact .inl h
  · subst z
    rw [vc, N.ent, if_neg fun q => ?_]
    · exact h
    · have := O.ent
      rw [q, h] at this
      cases this
  · rw [vo k z]; exact h

/-- the enterings of these visits -/
def evs (vis : Nat → Visit) (todo : List Nat) : List (Nat × Nat) := todo.filterMap fun k => (vis k).entered.map fun e => (e, (vis k).hand)
theorem evs_congr {f g : Nat → Visit} {todo : List Nat} (h : ∀ k ∈ todo, (f k).entered = (g k).entered ∧ (f k).hand = (g k).hand) : evs f todo = evs g todo := by
  unfold evs
  induction todo with
  | nil => rfl
  | cons a r ih =>
    have ha := h a List.mem_cons_self
    rw [List.filterMap_cons, List.filterMap_cons, ha.1, ha.2, ih fun k hk => h k (List.mem_cons_of_mem _ hk)]
theorem evs_put {vis : Nat → Visit} {todo : List Nat} {c e : Nat} {v : Visit} (nd : todo.Nodup) (hc : c ∈ todo) (h0 : (vis c).entered = none) (h1 : v.entered = some e) : (evs (put vis c v) todo).Perm (evs vis todo ++ [(e, v.hand)]) := by
  induction todo with
  | nil => cases hc
  | cons a r ih =>
    rw [List.nodup_cons] at nd
    have cons : ∀ f, evs f (a :: r) = (match (f a).entered with | none => [] | some e => [(e, (f a).hand)]) ++ evs f r := by
      intro f
      unfold evs
      rw [List.filterMap_cons]
      cases (f a).entered <;> rfl
    rw [cons, cons]
    by_cases e1 : a = c
    · subst e1
      rw [put_self, h0, h1, evs_congr (g := vis) fun k hk => by rw [put_ne _ _ (show k ≠ a from fun z => nd.1 (by rw [← z]; exact hk))]; exact ⟨rfl, rfl⟩]
      show ([(e, v.hand)] ++ evs vis r).Perm ([] ++ evs vis r ++ [(e, v.hand)])
      rw [List.nil_append]
      exact List.perm_append_comm
    · have hr : c ∈ r := (List.mem_cons.1 hc).resolve_left fun z => e1 z.symm
      rw [put_ne _ _ e1, List.append_assoc]
      exact (ih nd.2 hr).append_left _

/-- the visits that are open and not entered -/
def todoOf (H : Hall) : List Nat := (List.range H.m).filter fun k => (H.vis k).left.isNone && (H.vis k).entered.isNone
theorem todo_mem {H : Hall} {k : Nat} : k ∈ todoOf H ↔ k < H.m ∧ (H.vis k).left = none ∧ (H.vis k).entered = none := by
  simp [todoOf, List.mem_filter]
theorem todo_nodup (H : Hall) : (todoOf H).Nodup := List.nodup_range.sublist List.filter_sublist

theorem one_evs {n t k : Nat} {H G : Hall} (I : HInv n (t + 1) G) (hk : k < n) (K : Kept H G) :
    Kept G (roundOne n t G k).1 ∧ (evs (roundOne n t G k).1.vis (todoOf H)).Perm (evs G.vis (todoOf H) ++ (roundOne n t G k).2.map fun h => (t, h)) := by
  unfold roundOne
  split
  · rename_i hw
    have Kl := kept_leave I hk hw
    refine ⟨Kl, ?_⟩
    rw [evs_congr (g := G.vis)]
    · simp
    · intro j hj
      refine ⟨?_, Kl.hand j⟩
      show (put G.vis (G.cur k) _ j).entered = _
      by_cases e : j = G.cur k
      · subst e; rw [put_self]
      · rw [put_ne _ _ e]
  · split
    · refine ⟨Kept.refl _, ?_⟩
      simp
    · rename_i hwi hwo
      have Ks := kept_step I hk hwo
      refine ⟨Ks, ?_⟩
      obtain ⟨hc, O⟩ := I.cur k hk hwo
      have N := noted (t := t) (h := G.hands k) (h' := G.hands k) (v := G.vis (G.cur k))
      split
      · rename_i he
        have h0 : (G.vis (G.cur k)).entered = none := by
          have := O.ent
          rw [he] at this
          cases q : (G.vis (G.cur k)).entered with
          | none => rfl
          | some x => rw [q] at this; cases this
        have hm : G.cur k ∈ todoOf H := by
          rw [todo_mem]
          refine ⟨by rw [← K.m]; exact hc, ?_, ?_⟩
          · cases q : (H.vis (G.cur k)).left with
            | none => rfl
            | some x =>
              have := K.shut (G.cur k) (by rw [q]; simp)
              have o := O.left
              rw [this, q] at o
              cases o
          · cases q : (H.vis (G.cur k)).entered with
            | none => rfl
            | some x => rw [K.ent _ _ q] at h0; cases h0
        have := evs_put (todo_nodup H) hm h0 (by rw [N.ent, if_pos he])
        rw [N.hand, O.hand] at this
        exact this
      · rename_i he
        rw [evs_congr (g := G.vis)]
        · simp
        · intro j hj
          refine ⟨?_, Ks.hand j⟩
          show (put G.vis (G.cur k) _ j).entered = _
          by_cases e : j = G.cur k
          · subst e; rw [put_self, N.ent, if_neg he]
          · rw [put_ne _ _ e]

theorem round_evs {n t : Nat} {H G : Hall} (I : HInv n t G) (K : Kept H G) : ∀ k, k ≤ n → Kept H (roundA n t G k).1 ∧ (evs (roundA n t G k).1.vis (todoOf H)).Perm (evs G.vis (todoOf H) ++ (roundA n t G k).2.map fun h => (t, h))
  | 0, _ => ⟨K, by simp [roundA]⟩
  | k + 1, hk => by
    obtain ⟨h1, h2⟩ := round_evs I K k (by omega)
    obtain ⟨g1, g2⟩ := one_evs (roundA_inv I k (by omega)).1 (show k < n by omega) h1
    refine ⟨h1.trans g1, ?_⟩
    simp only [roundA, List.map_append]
    rw [← List.append_assoc]
    exact g2.trans (h2.append_right _)

/-- rounds, with the times of those who went in -/
def rounds (n t : Nat) (H : Hall) : Nat → Hall × List (Nat × Nat)
  | 0 => (H, [])
  | r + 1 => ((roundA n (t + r) (rounds n t H r).1 n).1, (rounds n t H r).2 ++ (roundA n (t + r) (rounds n t H r).1 n).2.map fun h => (t + r, h))

theorem rounds_inv {n t : Nat} {H : Hall} (I : HInv n t H) : ∀ r, HInv n (t + r) (rounds n t H r).1 ∧ Kept H (rounds n t H r).1 ∧ (evs (rounds n t H r).1.vis (todoOf H)).Perm (rounds n t H r).2 ∧
    (rounds n t H r).2.Pairwise (fun a b => a.1 < b.1) ∧ ∀ x ∈ (rounds n t H r).2, x.1 < t + r
  | 0 => by
    refine ⟨I, Kept.refl _, ?_, List.Pairwise.nil, fun x h => nomatch h⟩
    have : evs (rounds n t H 0).1.vis (todoOf H) = [] := by
      unfold evs
      rw [List.filterMap_eq_nil_iff]
      intro k hk
      show (H.vis k).entered.map _ = none
      rw [(todo_mem.1 hk).2.2]
      rfl
    rw [this]
    exact List.Perm.refl _
  | r + 1 => by
    obtain ⟨h1, h2, h3, h4, h5⟩ := rounds_inv I r
    obtain ⟨q1, q2, q3, q4, q5⟩ := roundA_inv h1 n (Nat.le_refl _)
    obtain ⟨g1, g2⟩ := round_evs h1 h2 n (Nat.le_refl _)
    have hle : (roundA n (t + r) (rounds n t H r).1 n).2.length ≤ 1 := by
      rw [q4]
      exact ins_le q1
    refine ⟨q1, g1, ?_, ?_, ?_⟩
    · simp only [rounds]
      exact g2.trans (h3.append_right _)
    · simp only [rounds]
      rw [List.pairwise_append]
      refine ⟨h4, ?_, ?_⟩
      · match (roundA n (t + r) (rounds n t H r).1 n).2, hle with
        | [], _ => exact List.Pairwise.nil
        | [w], _ => exact List.pairwise_singleton _ _
      · intro a ha b hb
        obtain ⟨w, _, rfl⟩ := List.mem_map.1 hb
        exact h5 a ha
    · simp only [rounds]
      intro x hx
      rcases List.mem_append.1 hx with hx | hx
      · have := h5 x hx; omega
      · obtain ⟨w, _, rfl⟩ := List.mem_map.1 hx
        show t + r < t + (r + 1)
        omega

/-- all come through -/
theorem rounds_end {n t : Nat} {H : Hall} (I : HInv n t H) :
    let F := (rounds n t H (2 * n * n + n + 2)).1
    (∀ j, j < n → F.hands j = { F.hands j with flag := false, ticket := 0, word := .out }) ∧ F.m = H.m ∧
    (∀ k, k < H.m → (F.vis k).hand = (H.vis k).hand ∧ (F.vis k).wanted = (H.vis k).wanted ∧ ((H.vis k).left ≠ none → F.vis k = H.vis k) ∧ (F.vis k).left ≠ none ∧ ((H.vis k).left = none → (F.vis k).entered ≠ none)) ∧
    ((todoOf H).map fun k => ((F.vis k).entered.getD 0, (F.vis k).hand)).Perm (rounds n t H (2 * n * n + n + 2)).2 := by
  dsimp only
  have ho : ∀ j, j < n → ((rounds n t H (2 * n * n + n + 2)).1.hands j).word = .out := fun j hj =>
    all_out (S := fun r => (rounds n t H r).1.hands) (fun r => round_rel n (t + r) _) (fun r => (rounds_inv I r).1.inv) j hj
  obtain ⟨h1, h2, h3, h4, h5⟩ := rounds_inv I (2 * n * n + n + 2)
  generalize rounds n t H (2 * n * n + n + 2) = F at ho h1 h2 h3 h4 h5
  have hl : ∀ k, k < H.m → (F.1.vis k).left ≠ none := fun k hk z => by
    have hk' : k < F.1.m := by rw [h2.m]; exact hk
    exact (h1.opn k hk' z).1 (ho _ (h1.hnd k hk'))
  have he : ∀ k, k < H.m → (H.vis k).left = none → (F.1.vis k).entered ≠ none := fun k hk z => (h2.gone k (hl k hk)).resolve_left fun q => q z
  refine ⟨fun j hj => ?_, h2.m, fun k hk => ⟨h2.hand k, h2.wanted k, h2.shut k, hl k hk, he k hk⟩, ?_⟩
  · have f := h1.inv.flag j hj
    have t' := h1.inv.tick j hj
    have w := ho j hj
    rw [w] at f t'
    have t' : (F.1.hands j).ticket = 0 := by simpa [hasT] using t'
    cases hh : F.1.hands j with
    | mk a b c d e =>
      rw [hh] at f t' w
      simp only at f t' w
      subst f t' w
      rfl
  · refine List.Perm.trans (List.Perm.of_eq ?_) h3
    unfold evs
    rw [← List.filterMap_eq_map]
    have fm : ∀ (l : List Nat) (f g : Nat → Option (Nat × Nat)), (∀ k ∈ l, f k = g k) → l.filterMap f = l.filterMap g := by
      intro l f g h
      induction l with
      | nil => rfl
      | cons a r ih => rw [List.filterMap_cons, List.filterMap_cons, h a List.mem_cons_self, ih fun k hk => h k (List.mem_cons_of_mem _ hk)]
    refine fm _ _ _ fun k hk => ?_
    obtain ⟨a, b, c⟩ := todo_mem.1 hk
    cases q : (F.1.vis k).entered with
    | none => exact absurd q (he k a b)
    | some x => simp [q]

theorem run_rounds (n : Nat) (ds : List Deed) (r : Nat) : run n (ds ++ List.replicate r .round) =
    ((rounds n ds.length (run n ds).1 r).1, (run n ds).2 ++ (List.range r).map fun q => Ans.went (roundA n (ds.length + q) (rounds n ds.length (run n ds).1 q).1 n).2) := by
  induction r with
  | zero => simp [rounds]
  | succ r ih =>
    rw [List.replicate_succ', ← List.append_assoc, run_snoc, ih, List.range_succ]
    simp only [List.length_append, run_length, List.length_map, List.length_range, List.map_append, rounds, deedA, List.map_cons, List.map_nil, List.append_assoc]
theorem rounds_list (n t : Nat) (H : Hall) (r : Nat) : (rounds n t H r).2 = (List.range r).flatMap fun q => (roundA n (t + q) (rounds n t H q).1 n).2.map fun h => (t + q, h) := by
  induction r with
  | zero => rfl
  | succ r ih =>
    rw [List.range_succ, List.flatMap_append, ← ih]
    simp [rounds]
end Rm
/-! A hand alone; who draws draws right; refused deeds. -/
namespace Rm

end Rm
/-! A hand alone, step by step; who draws draws right. -/
namespace Rm

theorem range_filter_ne (n i : Nat) (hi : i < n) : (List.range n).filter (fun k => decide (k ≠ i)) = (List.range (n - 1)).map (oth i) := by
  obtain ⟨d, rfl⟩ : ∃ d, n = i + 1 + d := ⟨n - i - 1, by omega⟩
  have h1 : (List.range i).filter (fun k => decide (k ≠ i)) = List.range i := List.filter_eq_self.2 fun a ha => by
    have := List.mem_range.1 ha
    simp; omega
  have e : List.range (i + 1 + d) = List.range i ++ [i] ++ (List.range d).map (fun x => i + 1 + x) := by
    rw [List.range_add, List.range_succ]
  have e2 : List.range (i + 1 + d - 1) = List.range i ++ (List.range d).map (fun x => i + x) := by
    rw [show i + 1 + d - 1 = i + d by omega, List.range_add]
  rw [e, e2, List.filter_append, List.filter_append, h1, List.map_append]
  congr 1
  · have a : List.filter (fun k => decide (k ≠ i)) [i] = [] := by simp
    rw [a, List.append_nil]
    refine (List.map_id' _).symm.trans (List.map_congr_left fun k hk => ?_)
    have := List.mem_range.1 hk
    simp [oth, this]
  · rw [List.filter_eq_self.2 fun a ha => by
      obtain ⟨x, _, rfl⟩ := List.mem_map.1 ha
      simp; omega]
    rw [List.map_map]
    refine List.map_congr_left fun k hk => ?_
    show i + 1 + k = oth i (i + k)
    unfold oth
    rw [if_neg (by omega)]
    omega

/-- the steps that are due to a hand alone, by where it is -/
def asksFrom (n i p : Nat) : List Told := (List.range' p (n - 1 - p)).flatMap fun x => [(W.asks, some (oth i x), some 0), (W.sees, some (oth i x), some 0)]
def looksFrom (n i p : Nat) : List Told := (List.range' p (n - 1 - p)).map fun x => (W.looks, some (oth i x), some 0)
def dueOf (n i : Nat) (h : Hand) : List Told :=
  match h.word with
  | .begins => [(W.begins, none, none)] ++ looksFrom n i 0 ++ [(W.draws, none, some 1), (W.lowers, none, none)] ++ asksFrom n i 0 ++ [(W.enters, none, some 1)]
  | .looks => looksFrom n i h.place ++ [(W.draws, none, some 1), (W.lowers, none, none)] ++ asksFrom n i 0 ++ [(W.enters, none, some 1)]
  | .draws => [(W.draws, none, some 1), (W.lowers, none, none)] ++ asksFrom n i 0 ++ [(W.enters, none, some 1)]
  | .lowers => [(W.lowers, none, none)] ++ asksFrom n i 0 ++ [(W.enters, none, some 1)]
  | .asks => asksFrom n i h.place ++ [(W.enters, none, some 1)]
  | .sees => (W.sees, some (oth i h.place), some 0) :: asksFrom n i (h.place + 1) ++ [(W.enters, none, some 1)]
  | .enters => [(W.enters, none, some 1)]
  | _ => []
/-- what is so of a hand alone -/
def Solo (h : Hand) : Prop :=
  match h.word with
  | .begins | .looks | .draws => h.great = 0
  | .out => True
  | _ => h.ticket = 1

end Rm
namespace L2
open PySem PySem.Spec PyProof.Rows
/-! a dict of one's own, a list's place, a field that grows: the heap behind them is named -/
section
variable {X : Cx} {o i e value : Expr} {f : Str} {pos pos' tpos : Pos} {ta td ty tv : TE}
def tDNewN : TE := fun _ H Q => ∀ p G, New H p (.dK []) G → Q (.ref p) G
theorem pe_dnewN : PE X (.Dict [] [] pos) tDNewN := fun pins s σ H Q I h => pe_dnewK pins s σ H Q I fun p hp => h p _ ⟨hp, rfl⟩
def sDPutN (td ty tv : TE) : TS := fun D σ H => tv σ H fun v H1 => td σ H1 fun x H2 => ty σ H2 fun y H3 => ∃ a kvs k, x = .ref a ∧ y = kV k ∧ H3 a = some (.dK kvs) ∧ kvs.length < sizeLine ∧ ∀ G, Put H3 a (.dK (putK kvs k v)) G → D.nx σ G
theorem ps_dputN (hu : X.A.units + 1 < cLine) (ho : PE X o td) (hi : PE X i ty) (hv : PE X value tv) (hs : swapsWith value (some (.Subscript o i pos')) pos.line X.env = pure false) : PS X (.Assign [.Subscript o i pos'] value pos) (sDPutN td ty tv) := by
  intro pins s σ H D I h
  refine wpAny_Assign_Subscript (thn (hv pins s σ H _ I h) fun r s1 ⟨v, H1, I1, rv, q1⟩ => thn (ho pins s1 σ H1 _ I1 q1) fun u s2 ⟨x, H2, I2, rx, q2⟩ => thn (hi pins s2 σ H2 _ I2 q2) fun iv s3 ⟨y, H3, I3, ry, a, kvs, k, ex, ey, g, hl, q3⟩ => ?_) hs
  subst ex ey
  obtain rfl : u = Value.ref a := rx
  exact d_setItem hu I3 (DPut.k g hl) ry rv fun s4 I4 => ⟨σ, _, I4, q3 _ ⟨rfl⟩⟩
def rSetLN : V → V → V → Hp → (Hp → Prop) → Prop := fun o i v H Q => ∃ p xs k j, o = .ref p ∧ i = .int k ∧ H p = some (.lst xs) ∧ ixN xs.length k = some j ∧ ∀ G, Put H p (.lst (xs.set j v)) G → Q G
theorem set_listN : PSet X rSetLN := fun pins s σ H o i v ov iv u Q I ro ri rv ⟨p, xs, k, j, h1, h2, h3, h4, q⟩ => set_list pins s σ H o i v ov iv u Q I ro ri rv ⟨p, xs, k, j, h1, h2, h3, h4, q _ ⟨rfl⟩⟩
def sFldAugN (K : PySem.W.Frag) (ta tv : TE) (rd : V → V → Hp → VK → Prop) (f : Str) : TS := fun D σ H => ta σ H fun x H1 => ∃ a C dx fs v, x = .ref a ∧ H1 a = some (.ins C dx fs) ∧ Cls K C ∧ NoAttr K C f ∧ fs.lookup f = some v ∧
  tv σ H1 fun y H2 => rd v y H2 fun z H3 => ∃ dx' fs', H3 a = some (.ins C dx' fs') ∧ fs'.length < 1000 ∧ ∀ G, Put H3 a (.ins C dx' (putF f z fs')) G → D.nx σ G
theorem ps_fldaugN {op : Operator} {rd : V → V → Hp → VK → Prop} (ha : PE X o ta) (hv : PE X value tv) (hop : InOp X op rd) : PS X (.AugAssign (.Attribute o f tpos) op value pos) (sFldAugN X.K ta tv rd f) := by
  intro pins s σ H D I h
  refine wpAny_AugAssign_AttributeAny (thn (ha pins s σ H _ I h) fun ov s1 ⟨x, H1, I1, rx, a, C, dx, fs, v, ex, ea, c, n, l, q⟩ => ?_)
  subst ex
  obtain rfl : ov = Value.ref a := rx
  refine getattr_ok I1 ea c n l fun u s2 I2 ru => thn (hv pins s2 σ H1 _ I2 q) fun w3 s3 ⟨y, H2, I3, ry, q3⟩ => thn (hop pins s3 σ H2 v y u w3 _ I3 ru ry q3) fun w4 s4 ⟨z, H3, I4, rz, dx', fs', ea', l', q4⟩ => ?_
  exact setattr_ok I4 ea' c n l' rz fun s5 I5 => ⟨σ, _, I5, q4 _ ⟨rfl⟩⟩
theorem pe_gi {x : Str} {n : Int} (hg : Gl X x) (h : ∃ t, X.mg x = some (.int n t)) (hd : (x == ("__debug__" : Str)) = false := by decide) : PE X (.Name x pos) (tC (.int n)) := by
  obtain ⟨t, e⟩ := h
  exact pe_glob hg e ⟨t, rfl⟩ hd
theorem call_tupleN : CallR X (.type "tuple") (fun xs H Q => ∃ p ys, xs = [.ref p] ∧ SqL X.K H p ys ∧ ∀ l G, New H l (.tup ys) G → Q (.ref l) G) := call_tuple_of.of fun xs H Q ⟨p, ys, h1, h2, h3⟩ => ⟨p, ys, h1, .inl ⟨h2, fun l hl => h3 l _ ⟨hl, rfl⟩⟩⟩
end
structure IntTop (K : PySem.W.Frag) (x : Str) (n : Int) : Prop where
  ex : ∃ t, PySem.W.nsIn K mainGlobals x = some (some (.int n t))
theorem intTop {K : PySem.W.Frag} {x : Str} {n : Int} {t : Tok} (a : PySem.W.nsIn K mainGlobals x = some (some (.int n t))) : IntTop K x n := ⟨t, a⟩
theorem IntTop.by {K : PySem.W.Frag} {x : Str} {n : Int} {mg : Str → Option Value} {h : Heap} (t : IntTop K x n) (X : K.In h) (G : h.Ns mainGlobals mg) : ∃ t, mg x = some (.int n t) := by
  obtain ⟨t, a⟩ := t.ex
  exact ⟨t, PySem.W.mg_of X G a⟩
end L2
/-! Visits of a hand alone, one after another. -/
namespace Rm
structure OutAll (n k : Nat) (H : Hall) : Prop where
  out : ∀ j, j < n → (H.hands j).word = .out
  m : H.m = k
structure Al (n i k : Nat) (r : List Told) (H : Hall) : Prop where
  out : ∀ j, j < n → j ≠ i → (H.hands j).word = .out
  on : (H.hands i).word ≠ .out
  solo : Solo (H.hands i)
  m : H.m = k + 1
  due : dueOf n i (H.hands i) = r
theorem goA_m {n t i : Nat} {H : Hall} (k : Nat) : (goA n t i H k).1.m = H.m := by
  induction k with
  | zero => rfl
  | succ k ih =>
    unfold goA
    dsimp only
    split
    · exact ih
    · exact ih
end Rm
/-! k04: all come through, in the words of the law -/
namespace Rm
theorem nodup_len {l : List Nat} {n : Nat} (nd : l.Nodup) (h : ∀ x ∈ l, x < n) : l.length ≤ n := by
  induction n generalizing l with
  | zero =>
    cases l with
    | nil => exact Nat.le_refl _
    | cons x r => exact absurd (h x List.mem_cons_self) (by omega)
  | succ n ih =>
    have := ih (nd.erase n) fun x hx => by
      obtain ⟨a, b⟩ := (List.Nodup.mem_erase_iff nd).mp hx
      have := h x b
      omega
    rw [List.length_erase] at this
    split at this <;> omega
theorem todo_hands {n T : Nat} {H : Hall} (I : HInv n T H) : ((todoOf H).map fun k => (H.vis k).hand).Nodup := by
  rw [List.nodup_iff_pairwise_ne, List.pairwise_map]
  refine (List.nodup_iff_pairwise_ne.mp (todo_nodup H)).imp_of_mem ?_
  intro a b ha hb ne e
  obtain ⟨a1, a2, _⟩ := todo_mem.1 ha
  obtain ⟨b1, b2, _⟩ := todo_mem.1 hb
  have ea := (I.opn a a1 a2).2
  have eb := (I.opn b b1 b2).2
  rw [e] at ea
  exact ne (ea.symm.trans eb)
theorem todo_len {n T : Nat} {H : Hall} (I : HInv n T H) : (todoOf H).length ≤ n := by
  have := nodup_len (todo_hands I) (n := n) fun x hx => by
    obtain ⟨k, hk, rfl⟩ := List.mem_map.1 hx
    exact I.hnd k (todo_mem.1 hk).1
  simpa using this
def wl4 (n : Nat) (ds : List Deed) (q : Nat) : List Nat := (roundA n (ds.length + q) (rounds n ds.length (run n ds).1 q).1 n).2
def went4 (n : Nat) (ds : List Deed) (r : Nat) : List (Nat × Nat) := (List.range r).flatMap fun q => (wl4 n ds q).map fun h => (ds.length + q, h)
structure Through (n : Nat) (ds : List Deed) (R F : Hall) (an : List Ans) : Prop where
  m : F.m = R.m
  out : ∀ j, j < n → (F.hands j).flag = false ∧ (F.hands j).ticket = 0 ∧ (F.hands j).word = .out
  hand : ∀ k, k < R.m → (F.vis k).hand = (R.vis k).hand
  wanted : ∀ k, k < R.m → (F.vis k).wanted = (R.vis k).wanted
  shut : ∀ k, k < R.m → (R.vis k).left ≠ none → F.vis k = R.vis k
  left : ∀ k, k < R.m → (F.vis k).left ≠ none
  ent : ∀ k, k < R.m → (R.vis k).left = none → (F.vis k).entered ≠ none
  ans : an = (run n ds).2 ++ (List.range (2 * n * n + n + 2)).map fun q => .went (wl4 n ds q)
  perm : ((todoOf R).map fun k => ((F.vis k).entered.getD 0, (F.vis k).hand)).Perm (went4 n ds (2 * n * n + n + 2))
  srt : (went4 n ds (2 * n * n + n + 2)).Pairwise fun a b => a.1 < b.1
  few : (todoOf R).length ≤ n
theorem through (n : Nat) (ds : List Deed) : Through n ds (run n ds).1 (run n (ds ++ List.replicate (2 * n * n + n + 2) .round)).1 (run n (ds ++ List.replicate (2 * n * n + n + 2) .round)).2 := by
  have I := run_inv n ds
  obtain ⟨a, b, c, d⟩ := rounds_end I
  obtain ⟨h1, h2, h3, h4, h5⟩ := rounds_inv I (2 * n * n + n + 2)
  have e := rounds_list n ds.length (run n ds).1 (2 * n * n + n + 2)
  rw [run_rounds]
  refine ⟨b, fun j hj => ?_, fun k hk => (c k hk).1, fun k hk => (c k hk).2.1, fun k hk => (c k hk).2.2.1, fun k hk => (c k hk).2.2.2.1, fun k hk => (c k hk).2.2.2.2, rfl, ?_, ?_, todo_len I⟩
  · have := a j hj
    rw [this]
    exact ⟨rfl, rfl, rfl⟩
  · rw [e] at d
    exact d
  · rw [e] at h4
    exact h4
end Rm
/-! k06: the plain room that the law keeps, hand by hand -/
namespace Rm
/-- a hand of the plain room: its spot is its place, or nought where it is through; oa and vis are where its others and its visit lie -/
structure PH where
  flag : Bool
  ticket : Nat
  word : W
  spot : Nat
  oa : Nat
  vis : Option Nat
  most : Option Nat
def furX (m : Nat) (x : PH) (w b : W) : PH := if x.spot = m then { x with word := b, spot := 0 } else { x with word := w }
def stepX (n : Nat) (s : Hands) (i : Nat) (x : PH) : PH :=
  match x.word with
  | .begins => furX (n - 1) { x with flag := true, most := some 0, spot := 0 } .looks .draws
  | .looks => furX (n - 1) { x with most := some (max (x.most.getD 0) (s (oth i x.spot)).ticket), spot := x.spot + 1 } .looks .draws
  | .draws => { x with ticket := x.most.getD 0 + 1, word := .lowers }
  | .lowers => furX (n - 1) { x with flag := false } .asks .enters
  | .asks => if (s (oth i x.spot)).flag then x else { x with word := .sees }
  | .sees => if first (s (oth i x.spot)).ticket (oth i x.spot) x.ticket i then x else furX (n - 1) { x with spot := x.spot + 1 } .asks .enters
  | .enters => { x with word := .within }
  | .out => x
  | .within => x
structure XRel (n : Nat) (h : Hand) (x : PH) : Prop where
  flag : x.flag = h.flag
  ticket : x.ticket = h.ticket
  word : x.word = h.word
  bg : h.word = .begins → h.great = 0
  lk : h.word = .looks → x.spot = h.place ∧ x.most = some h.great
  dr : h.word = .draws → x.spot = 0 ∧ x.most = some h.great
  lw : h.word = .lowers → x.spot = 0
  as_ : h.word = .asks → x.spot = h.place
  se : h.word = .sees → x.spot = h.place
theorem furX_oa (m : Nat) (x : PH) (w b : W) : (furX m x w b).oa = x.oa := by unfold furX; split <;> rfl
theorem furX_vis (m : Nat) (x : PH) (w b : W) : (furX m x w b).vis = x.vis := by unfold furX; split <;> rfl
theorem stepX_oa (n : Nat) (s : Hands) (i : Nat) (x : PH) : (stepX n s i x).oa = x.oa := by
  unfold stepX
  split <;> (try split) <;> simp only [furX_oa]
theorem stepX_vis (n : Nat) (s : Hands) (i : Nat) (x : PH) : (stepX n s i x).vis = x.vis := by
  unfold stepX
  split <;> (try split) <;> simp only [furX_vis]
theorem xrel_step {n : Nat} {s : Hands} {i : Nat} {x : PH} (I : Inv n s) (hi : i < n) (r : XRel n (s i) x) : XRel n (stepH n s i) (stepX n s i x) := by
  have pL := I.plcL i hi
  have pA := I.plcA i hi
  have pS := I.plcS i hi
  obtain ⟨r1, r2, r3, r4, r5, r6, r7, r8, r9⟩ := r
  cases hw : (s i).word <;> rw [hw] at r3 <;> simp only [hw, forall_const, true_implies, reduceCtorEq, false_implies] at r4 r5 r6 r7 r8 r9 pL pA pS <;> simp only [stepX, stepH, hw, r3]
  case out => exact ⟨r1, r2, r3.trans hw.symm, by simp [hw], by simp [hw], by simp [hw], by simp [hw], by simp [hw], by simp [hw]⟩
  case within => exact ⟨r1, r2, r3.trans hw.symm, by simp [hw], by simp [hw], by simp [hw], by simp [hw], by simp [hw], by simp [hw]⟩
  case begins =>
    simp only [furX, turn]
    by_cases z : 0 < n - 1
    · rw [if_pos z, if_neg (by omega)]
      exact ⟨rfl, r2, rfl, by simp, fun _ => ⟨rfl, by simp [r4]⟩, by simp, by simp, by simp, by simp⟩
    · rw [if_neg z, if_pos (by omega)]
      exact ⟨rfl, r2, rfl, by simp, by simp, fun _ => ⟨rfl, by simp [r4]⟩, by simp, by simp, by simp⟩
  case looks =>
    obtain ⟨e1, e2⟩ := r5
    simp only [furX, turn, e1, e2, Option.getD_some]
    by_cases z : (s i).place + 1 < n - 1
    · rw [if_pos z, if_neg (by omega)]
      exact ⟨r1, r2, rfl, by simp, fun _ => ⟨rfl, rfl⟩, by simp, by simp, by simp, by simp⟩
    · rw [if_neg z, if_pos (by omega)]
      exact ⟨r1, r2, rfl, by simp, by simp, fun _ => ⟨rfl, rfl⟩, by simp, by simp, by simp⟩
  case draws =>
    obtain ⟨e1, e2⟩ := r6
    rw [e2]
    exact ⟨r1, rfl, rfl, by simp, by simp, by simp, fun _ => e1, by simp, by simp⟩
  case lowers =>
    simp only [furX, turn, r7]
    by_cases z : 0 < n - 1
    · rw [if_pos z, if_neg (by omega)]
      exact ⟨rfl, r2, rfl, by simp, by simp, by simp, by simp, fun _ => rfl, by simp⟩
    · rw [if_neg z, if_pos (by omega)]
      exact ⟨rfl, r2, rfl, by simp, by simp, by simp, by simp, by simp, by simp⟩
  case asks =>
    rw [r8]
    by_cases z : (s (oth i (s i).place)).flag = true
    · rw [if_pos z, if_pos z]
      exact ⟨r1, r2, r3.trans hw.symm, by simp [hw], by simp [hw], by simp [hw], by simp [hw], fun _ => r8, by simp [hw]⟩
    · rw [if_neg z, if_neg z]
      exact ⟨r1, r2, rfl, by simp, by simp, by simp, by simp, by simp, fun _ => rfl⟩
  case sees =>
    rw [r9, r2]
    by_cases z : first (s (oth i (s i).place)).ticket (oth i (s i).place) (s i).ticket i = true
    · rw [if_pos z, if_pos z]
      exact ⟨r1, r2, r3.trans hw.symm, by simp [hw], by simp [hw], by simp [hw], by simp [hw], by simp [hw], fun _ => r9⟩
    · rw [if_neg z, if_neg z]
      simp only [furX, turn]
      by_cases y : (s i).place + 1 < n - 1
      · rw [if_pos y, if_neg (by omega)]
        exact ⟨r1, rfl, rfl, by simp, by simp, by simp, by simp, fun _ => rfl, by simp⟩
      · rw [if_neg y, if_pos (by omega)]
        exact ⟨r1, rfl, rfl, by simp, by simp, by simp, by simp, by simp, by simp⟩
  case enters => exact ⟨r1, r2, rfl, by simp, by simp, by simp, by simp, by simp, by simp⟩
theorem xrel_out {n : Nat} {h : Hand} {x : PH} (r : XRel n h x) : XRel n (goOut h) { x with flag := false, ticket := 0, word := .out } :=
  ⟨rfl, rfl, rfl, by simp [goOut], by simp [goOut], by simp [goOut], by simp [goOut], by simp [goOut], by simp [goOut]⟩
theorem xrel_want {n : Nat} {h : Hand} {x : PH} (r : XRel n h x) (v : Option Nat) : XRel n { h with great := 0, word := .begins } { x with word := .begins, vis := v } :=
  ⟨r.flag, r.ticket, rfl, by simp, by simp, by simp, by simp, by simp, by simp⟩
theorem xrel_new (n : Nat) (a : Nat) : XRel n out0 ⟨false, 0, .out, 0, a, none, none⟩ :=
  ⟨rfl, rfl, rfl, by simp [out0], by simp [out0], by simp [out0], by simp [out0], by simp [out0], by simp [out0]⟩
end Rm
namespace Toy
open PySem L2
theorem cxOf_K {CX : CXT} {P : Program} {w : World} {K : PySem.W.Frag} {mg : Str → Option Value} {base : Heap} {N : List Str} {qual : Str} {scope : Scope} {f : Addr} {cd : Value} {A : Around} {outer : List Env} {s : Shared} {H : Hp} {E : XK} : (cxOf CX P w K mg base N qual scope f cd A outer s H E).K = K := rfl
seal PE PA PS PSs PT PW PG PGs PI PTs
local macro_rules | `(tactic| walk_at "rd") => `(tactic| try simp only [tSeq, tAsg, tRet, tRetN, tDrop, tIfS, tNext, tTest, tOp, tUn, rI, rI0, rU, tVar, tC, tCons, tNil, tTup, tLst, tCB, tCall, gName, tAndV, tOrV, tNotV, tAnd, tOr, tNot, tIf, tB, rEq, rNe, L2.start, List.map_cons, List.map_nil, List.length_cons, List.length_nil, Nat.reduceAdd, Nat.reduceSub, List.replicate, List.cons_append, List.nil_append, List.append_nil,
      List.getElem?_cons_zero, List.getElem?_cons_succ, Option.some.injEq, V.int.injEq, V.bl.injEq, V.ref.injEq, V.str.injEq, exists_and_left, exists_eq_left', exists_eq_left, List.cons.injEq, cxOf_K, List.set, Int.reduceLT, true_and, and_true, decide_eq_true_eq, scal])
def top (i : Nat) : Stmt := PySem.Challenge.pw_ticketroom_k06_plain_story.main.body.getD i (.Pass ⟨0, 0, 0, 0⟩)
structure Blt (mg : Str → Option Value) : Prop where
  b_isinstance : mg "isinstance" = none
  b_len : mg "len" = none
  b_range : mg "range" = none
  b_int : mg "int" = none
  b_bool : mg "bool" = none
  b_str : mg "str" = none
  b_tuple : mg "tuple" = none
  b_list : mg "list" = none
theorem cmul_a (i : Int) : CMul i 48271 := .inr ⟨by decide, by decide⟩
theorem cmul_7 (i : Int) : CMul 7 i := .inl ⟨by decide, by decide⟩
section
variable {P : Program} {w : World} {K : PySem.W.Frag} {mg : Str → Option Value} {base : Heap}
/-! whole -/
abbrev sWhole : Stmt := top 44
def spWhole : Sp := fun vs H Q _ => ∃ v d, vs = [v] ∧ DV H v d ∧ Q (.bl (Dat.isInt d)) H
theorem scWhole : FnScope ["_law_found"] ["_law_found"] (defScope sWhole) := ⟨rfl, rfl, rfl, by decide +kernel, rfl, by decide +kernel, by decide +kernel⟩
theorem ok_whole {f : Addr} {fd : FuncData} (F : Fun K "_law_whole" "_law_whole" sWhole f fd) (T : Blt mg) : FnOk P w K mg base CX0 1 f fd ["_law_found"] spWhole := by
  refine F.ok scWhole (fun vs H Q E h => ?_) (fun cdv A outer s H vs Q E hr h => ?_)
  · obtain ⟨v, d, rfl, _⟩ := h
    rfl
  · obtain ⟨v, d, rfl, dv, q⟩ := h
    refine ⟨_, pss_one (ps_ret (pe_and (pe_callB (call_isinst (T := "int")) (by rfl) T.b_isinstance PyProof.Rows.Boot.isinstance (pac (pv 0) (pac (pe_ty (by rfl) T.b_int PyProof.Rows.Boot.int) pa_nil)))
      (pe_one (pe_not (pe_callB (call_isinst (T := "bool")) (by rfl) T.b_isinstance PyProof.Rows.Boot.isinstance (pac (pv 0) (pac (pe_ty (by rfl) T.b_bool PyProof.Rows.Boot.bool) pa_nil))))))), ?_⟩
    walk_at "rd"
    refine ⟨_, DV.ty dv, _, kit_int d, ?_⟩
    cases d with
    | int i => exact iteT ⟨_, DV.ty dv, _, kit_bool _, q⟩
    | bl b => exact iteT ⟨_, DV.ty dv, _, kit_bool _, q⟩
    | _ => exact iteF q
/-! at -/
abbrev sAt : Stmt := top 45
def spAt (K : PySem.W.Frag) : Sp := fun vs H Q _ => ∃ (a : Addr) (k : Nat) (ns : List Int), vs = [.ref a, .int k] ∧ SqL K H a (ns.map V.int) ∧ Q (.int (ns.getD k 0)) H
theorem scAt : FnScope ["_law_script", "_law_k"] ["_law_script", "_law_k"] (defScope sAt) := ⟨rfl, rfl, rfl, by decide +kernel, rfl, by decide +kernel, by decide +kernel⟩
theorem ok_at {f : Addr} {fd : FuncData} (F : Fun K "_law_at" "_law_at" sAt f fd) (T : Blt mg) : FnOk P w K mg base CX0 1 f fd ["_law_script", "_law_k"] (spAt K) := by
  refine F.ok scAt (fun vs H Q E h => ?_) (fun cdv A outer s H vs Q E hr h => ?_)
  · obtain ⟨a, k, ns, rfl, _⟩ := h
    rfl
  · obtain ⟨a, k, ns, rfl, hS, q⟩ := h
    refine ⟨_, (pss_cons (ps_if (pt_cmpR op_lt (pv 1) (pe_callB call_len_seq (by rfl) T.b_len PyProof.Rows.Boot.len (pac (pv 0) pa_nil)) (nomark _)) (pss_one (ps_ret (pe_ix ix_seq (pv 0) (pv 1) (by exact fun _ _ => rfl)))) pss_nil)
      (pss_one (ps_ret pe_int))), ?_⟩
    walk_at "rd"
    refine ⟨_, .inl hS, ?_⟩
    rw [List.length_map]
    split
    · rename_i h
      have h' : k < ns.length := by omega
      refine rix_s hS (v := .int ns[k]) ?_ ?_
      · unfold atI ixN
        rw [List.length_map, if_pos (by omega), if_pos (by omega)]
        simp [h']
      · have e : ns.getD k 0 = ns[k] := by simp [List.getD, h']
        rw [e] at q
        exact q
    · rename_i h
      have e : ns.getD k 0 = 0 := by simp [List.getD, show ns.length ≤ k by omega]
      rw [e] at q
      exact q
/-! deed_of -/
inductive Dd where | want (h : Int) | go (h : Int) (n : Int) | leave (h : Int) | round
def Dd.dat : Dd → Dat
  | .want h => .tup [.str "want", .int h]
  | .go h n => .tup [.str "go", .int h, .int n]
  | .leave h => .tup [.str "leave", .int h]
  | .round => .tup [.str "round"]
def menu (c : Int) : Int := [1, 1, 2, 3, 5, 20, 0, 60].getD (c * 48271 % 1021 % 8).toNat 0
def deedOf (c n : Int) : Dd :=
  if c * 48271 % 1013 % 16 < 4 then .want (c * 48271 % 1019 % n)
  else if c * 48271 % 1013 % 16 < 11 then .go (c * 48271 % 1019 % n) (menu c)
  else if c * 48271 % 1013 % 16 < 13 then .round
  else .leave (c * 48271 % 1019 % n)
abbrev sDeedOf : Stmt := top 46
def spDeedOf : Sp := fun vs H Q _ => ∃ c n, vs = [.int c, .int n] ∧ 0 < n ∧ ∀ v H', Same H H' → DV H' v (deedOf c n).dat → Q v H'
theorem scDeedOf : FnScope ["_law_cell", "_law_count", "_law_way", "_law_hand"] ["_law_cell", "_law_count"] (defScope sDeedOf) := ⟨rfl, rfl, rfl, by decide +kernel, rfl, by decide +kernel, by decide +kernel⟩
theorem dv_int {H : Hp} {i : Int} : DV H (.int i) (.int i) := by unfold DV; rfl
theorem dv_str {H : Hp} {x : Str} : DV H (.str x) (.str x) := by unfold DV; rfl
theorem dv_tup {H : Hp} {a : Addr} {xs : List V} {l : List Dat} (h : H a = some (.tup xs)) (k : DVs H xs l) : DV H (.ref a) (.tup l) := by unfold DV; exact ⟨a, xs, rfl, h, k⟩
theorem ok_deedOf {f : Addr} {fd : FuncData} (F : Fun K "_law_deed_of" "_law_deed_of" sDeedOf f fd) : FnOk P w K mg base CX0 1 f fd ["_law_cell", "_law_count"] spDeedOf := by
  refine F.ok scDeedOf (fun vs H Q E h => ?_) (fun cdv A outer s H vs Q E hr h => ?_)
  · obtain ⟨c, n, rfl, _⟩ := h
    rfl
  · obtain ⟨c, n, rfl, hn, q⟩ := h
    have SC := scDeedOf
    refine ⟨_, (pss_cons (ps_set (i := 2) SC.nd (by rfl) (Or.inl (by rfl)) (pe_op op_mod (pe_op op_mod (pe_op op_mul (pv 0) pe_int) pe_int) pe_int))
      (pss_cons (ps_set (i := 3) SC.nd (by rfl) (Or.inl (by rfl)) (pe_op op_mod (pe_op op_mod (pe_op op_mul (pv 0) pe_int) pe_int) (pv 1)))
      (pss_cons (ps_if (pt_cmpR op_lt (pv 2) pe_int (nomark _)) (pss_one (ps_ret (pe_tup (pac pe_str (pac (pv 3) pa_nil))))) pss_nil)
      (pss_cons (ps_if (pt_cmpR op_lt (pv 2) pe_int (nomark _)) (pss_one (ps_ret (pe_tup (pac pe_str (pac (pv 3) (pac (pe_ix ix_seq (pe_lst (pac pe_int (pac pe_int (pac pe_int (pac pe_int (pac pe_int (pac pe_int (pac pe_int (pac pe_int pa_nil))))))))) (pe_op op_mod (pe_op op_mod (pe_op op_mul (pv 0) pe_int) pe_int) pe_int) (by exact fun _ _ => rfl)) pa_nil)))))) pss_nil)
      (pss_cons (ps_if (pt_cmpR op_lt (pv 2) pe_int (nomark _)) (pss_one (ps_ret (pe_tup (pac pe_str pa_nil)))) pss_nil)
      (pss_one (ps_ret (pe_tup (pac pe_str (pac (pv 3) pa_nil)))))))))), ?_⟩
    walk_at "rd"
    simp only [cmul_a, hn, true_and]
    unfold deedOf at q
    have q1 : ∀ {H1 : Hp} {p : Addr} {xs : List V} {l : List Dat}, Same H H1 → H1 p = none → DVs (upd H1 p (.tup xs)) xs l → Dat.tup l = (deedOf c n).dat → Q (.ref p) (upd H1 p (.tup xs)) := fun s1 hp k e => q _ _ (s1.new hp) (by unfold deedOf at e; rw [← e]; exact dv_tup upd_same k)
    split
    · rename_i h1
      exact ⟨le_size (by decide), fun p hp => q1 (Same.refl _) hp (.cons dv_str (.cons dv_int .nil)) (by rw [deedOf, if_pos h1]; rfl)⟩
    · rename_i h1
      split
      · rename_i h2
        refine ⟨le_size (by decide), fun p hp => ?_⟩
        refine rix_l upd_same (v := .int (menu c)) ?_ ⟨le_size (by decide), fun p2 hp2 => ?_⟩
        · have a0 : 0 ≤ c * 48271 % 1021 % 8 := Int.emod_nonneg _ (by decide)
          have a1 : c * 48271 % 1021 % 8 < 8 := Int.emod_lt_of_pos _ (by decide)
          unfold menu
          generalize c * 48271 % 1021 % 8 = z at a0 a1
          obtain ⟨k, rfl⟩ := Int.eq_ofNat_of_zero_le a0
          have : k < 8 := by omega
          match k, this with
          | 0, _ => rfl
          | 1, _ => rfl
          | 2, _ => rfl
          | 3, _ => rfl
          | 4, _ => rfl
          | 5, _ => rfl
          | 6, _ => rfl
          | 7, _ => rfl
        · exact q1 ((Same.refl _).new hp) hp2 (.cons dv_str (.cons dv_int (.cons dv_int .nil))) (by rw [deedOf, if_neg h1, if_pos h2]; rfl)
      · rename_i h2
        split
        · rename_i h3
          exact ⟨le_size (by decide), fun p hp => q1 (Same.refl _) hp (.cons dv_str .nil) (by rw [deedOf, if_neg h1, if_neg h2, if_pos h3]; rfl)⟩
        · rename_i h3
          exact ⟨le_size (by decide), fun p hp => q1 (Same.refl _) hp (.cons dv_str (.cons dv_int .nil)) (by rw [deedOf, if_neg h1, if_neg h2, if_neg h3]; rfl)⟩
end
section
variable {P : Program} {w : World} {K : PySem.W.Frag} {mg : Str → Option Value} {base : Heap}
/-! a visit, as data -/
def on : Option Nat → Dat | none => .non | some k => .int k
def onV : Option Nat → V | none => .non | some k => .int k
def visitD (v : Rm.Visit) : Dat := .tup [.int v.hand, .int v.wanted, on v.lowered, on v.ticket, on v.entered, on v.left]
def visitV (v : Rm.Visit) : List V := [.int v.hand, .int v.wanted, onV v.lowered, onV v.ticket, onV v.entered, onV v.left]
theorem dv_on {H : Hp} {v : V} {o : Option Nat} : DV H v (on o) ↔ v = onV o := by
  cases o <;> (unfold on onV DV; exact Iff.rfl)
theorem dv_int_iff {H : Hp} {v : V} {i : Int} : DV H v (.int i) ↔ v = .int i := by unfold DV; exact Iff.rfl
theorem dvs_cc {H : Hp} {x : V} {xs : List V} {d : Dat} {l : List Dat} : DVs H (x :: xs) (d :: l) = (DV H x d ∧ DVs H xs l) := by rw [DVs]
theorem dvs_cons_iff {H : Hp} {xs : List V} {d : Dat} {l : List Dat} : DVs H xs (d :: l) ↔ ∃ x r, xs = x :: r ∧ DV H x d ∧ DVs H r l := by
  cases xs with
  | nil => unfold DVs; exact ⟨fun h => h.elim, fun ⟨_, _, h, _⟩ => nomatch h⟩
  | cons x r =>
    rw [dvs_cc]
    exact ⟨fun h => ⟨x, r, rfl, h⟩, fun ⟨_, _, h, k⟩ => by cases h; exact k⟩
theorem dvs_nil_iff {H : Hp} {xs : List V} : DVs H xs [] ↔ xs = [] := by
  cases xs with
  | nil => unfold DVs; simp
  | cons x r => unfold DVs; simp
theorem dv_visit {H : Hp} {v : V} {u : Rm.Visit} (h : DV H v (visitD u)) : ∃ a, v = .ref a ∧ H a = some (.tup (visitV u)) := by
  unfold visitD DV at h
  obtain ⟨a, xs, rfl, q, k⟩ := h
  simp only [dvs_cons_iff, dvs_nil_iff, dv_on, dv_int_iff] at k
  obtain ⟨_, _, rfl, rfl, _, _, rfl, rfl, _, _, rfl, rfl, _, _, rfl, rfl, _, _, rfl, rfl, _, _, rfl, rfl, rfl⟩ := k
  exact ⟨a, rfl, q⟩
theorem dv_onV {H : Hp} (o : Option Nat) : DV H (onV o) (on o) := dv_on.mpr rfl
/-! whole_or_none -/
abbrev sWon : Stmt := top 48
def spWon : Sp := fun vs H Q _ => ∃ o : Option Nat, vs = [onV o] ∧ Q (.bl true) H
theorem scWon : FnScope ["_law_found"] ["_law_found"] (defScope sWon) := ⟨rfl, rfl, rfl, by decide +kernel, rfl, by decide +kernel, by decide +kernel⟩
theorem ok_won {f : Addr} {fd : FuncData} (F : Fun K "_law_whole_or_none" "_law_whole_or_none" sWon f fd) (c_l_whole : FnBy P w K mg base CX0 1 "_law_whole" ["_law_found"] spWhole) : FnOk P w K mg base CX0 2 f fd ["_law_found"] spWon := by
  refine F.ok scWon (fun vs H Q E h => ?_) (fun cdv A outer s H vs Q E hr h => ?_)
  · obtain ⟨o, rfl, _⟩ := h
    rfl
  · obtain ⟨o, rfl, q⟩ := h
    refine ⟨_, (pss_one (ps_ret (pe_or (pe_cmpR op_isN (pv 0) pe_non (nomark _)) (pe_one (pe_fn c_l_whole (hr.mono (by decide)) (by rfl) pass0 (pac (pv 0) pa_nil)))))), ?_⟩
    walk_at "rd"
    cases o with
    | none =>
      rw [if_pos (by rfl)]
      exact q
    | some k =>
      rw [if_neg (by exact fun z => nomatch z)]
      exact ⟨_, _, rfl, dv_onV (some k), q⟩
/-! is_visit, of a visit -/
abbrev sIsV : Stmt := top 49
def spIsV : Sp := fun vs H Q _ => ∃ (a : Addr) (u : Rm.Visit) (n : Int), vs = [.ref a, .int n] ∧ H a = some (.tup (visitV u)) ∧ (u.hand : Int) < n ∧ Q (.bl true) H
theorem scIsV : FnScope ["_law_found", "_law_count", "_law_one"] ["_law_found", "_law_count"] (defScope sIsV) := ⟨rfl, rfl, rfl, by decide +kernel, rfl, by decide +kernel, by decide +kernel⟩
theorem ok_isV {f : Addr} {fd : FuncData} (F : Fun K "_law_is_visit" "_law_is_visit" sIsV f fd) (T : Blt mg) (c_l_whole_or_none : FnBy P w K mg base CX0 2 "_law_whole_or_none" ["_law_found"] spWon) : FnOk P w K mg base CX0 3 f fd ["_law_found", "_law_count"] spIsV := by
  refine F.ok scIsV (fun vs H Q E h => ?_) (fun cdv A outer s H vs Q E hr h => ?_)
  · obtain ⟨a, u, n, rfl, _⟩ := h
    rfl
  · obtain ⟨a, u, n, rfl, ha, hn, q⟩ := h
    have SC := scIsV
    refine ⟨_, (pss_cons (ps_if (pw_or (pt_not (pt_val (pe_callB (call_isinst (T := "tuple")) (by rfl) T.b_isinstance PyProof.Rows.Boot.isinstance (pac (pv 0) (pac (pe_ty (by rfl) T.b_tuple PyProof.Rows.Boot.tuple) pa_nil))))) (pw_or1 (pt_cmpR op_ne (pe_callB call_len_seq (by rfl) T.b_len PyProof.Rows.Boot.len (pac (pv 0) pa_nil)) pe_int (nomark _)))).pt (pss_one (ps_ret pe_bl)) pss_nil)
      (pss_cons (ps_for PassesOwn.never rfl (pi_tup (pv 0)) (pg_name (i := 2) SC.nd (by rfl) (Or.inl (by rfl))) (pss_one (ps_if (pt_not (pt_val (pe_fn c_l_whole_or_none (hr.mono (by decide)) (by rfl) pass0 (pac (pv 2) pa_nil)))) (pss_one (ps_ret pe_bl)) pss_nil)))
      (pss_one (ps_ret (pe_and (pe_cmpR op_notN (pe_ix ix_seq (pv 0) pe_int (by exact fun _ _ => rfl)) pe_non (nomark _)) (pe_and (pe_cmpR op_le pe_int (pe_ix ix_seq (pv 0) pe_int (by exact fun _ _ => rfl)) (nomark _)) (pe_one (pe_cmpR op_lt (pe_ix ix_seq (pv 0) pe_int (by exact fun _ _ => rfl)) (pv 1) (nomark _))))))))), ?_⟩
    walk_at "rd"
    refine ⟨_, .tup ha, true, rfl, ?_⟩
    rw [if_neg (by simp)]
    refine ⟨visitV u, .inr (SqT.of ha), ?_⟩
    rw [if_neg (by simp [visitV])]
    refine ⟨_, rfl, a, rfl, ⟨_, SqT.of ha⟩, for_tup (K := K) (a := a) (xs := visitV u) (fun i σ H2 => H2 = H ∧ ∃ x, σ = [some (.ref a), some (.int n), x]) ⟨rfl, _, rfl⟩ (fun i σ H2 _ ⟨e, _⟩ => by subst e; exact SqT.of ha) ?_ ?_⟩
    · rintro i y σ H2 hi ⟨rfl, x, rfl⟩
      obtain ⟨o, rfl⟩ : ∃ o : Option Nat, y = onV o := by
        have hm := List.mem_of_getElem? hi
        unfold visitV at hm
        simp only [List.mem_cons, List.not_mem_nil, or_false] at hm
        rcases hm with h | h | h | h | h | h
        · exact ⟨some u.hand, h⟩
        · exact ⟨some u.wanted, h⟩
        · exact ⟨_, h⟩
        · exact ⟨_, h⟩
        · exact ⟨_, h⟩
        · exact ⟨_, h⟩
      walk_at "rd"
      refine ⟨o, rfl, true, rfl, ?_⟩
      rw [if_neg (by simp)]
      exact ⟨rfl, _, rfl⟩
    · rintro σ H2 ⟨rfl, x, rfl⟩
      have at0 : atI (visitV u) 0 = some (.int u.hand) := rfl
      walk_at "rd"
      refine rix_t ha at0 ?_
      walk_at "rd"
      refine rix_t ha at0 ?_
      walk_at "rd"
      rw [if_pos (by omega)]
      refine rix_t ha at0 ?_
      walk_at "rd"
      rw [decide_eq_true hn]
      exact q
/-! is_seen, of what is seen of a hand -/
def seenV (f : Bool) (t : Nat) (x : Str) : List V := [.bl f, .int t, .str x]
abbrev sIsS : Stmt := top 50
def spIsS : Sp := fun vs H Q _ => ∃ (a : Addr) (f : Bool) (t : Nat) (x : Str), vs = [.ref a] ∧ H a = some (.tup (seenV f t x)) ∧ Q (.bl true) H
theorem scIsS : FnScope ["_law_found"] ["_law_found"] (defScope sIsS) := ⟨rfl, rfl, rfl, by decide +kernel, rfl, by decide +kernel, by decide +kernel⟩
theorem ok_isS {f : Addr} {fd : FuncData} (F : Fun K "_law_is_seen" "_law_is_seen" sIsS f fd) (T : Blt mg) (c_l_whole : FnBy P w K mg base CX0 1 "_law_whole" ["_law_found"] spWhole) : FnOk P w K mg base CX0 2 f fd ["_law_found"] spIsS := by
  refine F.ok scIsS (fun vs H Q E h => ?_) (fun cdv A outer s H vs Q E hr h => ?_)
  · obtain ⟨a, f, t, x, rfl, _⟩ := h
    rfl
  · obtain ⟨a, fl, t, x, rfl, ha, q⟩ := h
    have SC := scIsS
    refine ⟨_, (pss_cons (ps_if (pw_or (pt_not (pt_val (pe_callB (call_isinst (T := "tuple")) (by rfl) T.b_isinstance PyProof.Rows.Boot.isinstance (pac (pv 0) (pac (pe_ty (by rfl) T.b_tuple PyProof.Rows.Boot.tuple) pa_nil))))) (pw_or1 (pt_cmpR op_ne (pe_callB call_len_seq (by rfl) T.b_len PyProof.Rows.Boot.len (pac (pv 0) pa_nil)) pe_int (nomark _)))).pt (pss_one (ps_ret pe_bl)) pss_nil)
      (pss_cons (ps_if (pw_or (pt_not (pt_val (pe_callB (call_isinst (T := "bool")) (by rfl) T.b_isinstance PyProof.Rows.Boot.isinstance (pac (pe_ix ix_seq (pv 0) pe_int (by exact fun _ _ => rfl)) (pac (pe_ty (by rfl) T.b_bool PyProof.Rows.Boot.bool) pa_nil))))) (pw_or1 (pt_not (pt_val (pe_fn c_l_whole (hr.mono (by decide)) (by rfl) pass0 (pac (pe_ix ix_seq (pv 0) pe_int (by exact fun _ _ => rfl)) pa_nil)))))).pt (pss_one (ps_ret pe_bl)) pss_nil)
      (pss_one (ps_ret (pe_callB (call_isinst (T := "str")) (by rfl) T.b_isinstance PyProof.Rows.Boot.isinstance (pac (pe_ix ix_seq (pv 0) pe_int (by exact fun _ _ => rfl)) (pac (pe_ty (by rfl) T.b_str PyProof.Rows.Boot.str) pa_nil))))))), ?_⟩
    have at0 : atI (seenV fl t x) 0 = some (.bl fl) := rfl
    have at1 : atI (seenV fl t x) 1 = some (.int t) := rfl
    have at2 : atI (seenV fl t x) 2 = some (.str x) := rfl
    walk_at "rd"
    refine ⟨_, .tup ha, true, rfl, ?_⟩
    rw [if_neg (by simp)]
    refine ⟨seenV fl t x, .inr (SqT.of ha), ?_⟩
    rw [if_neg (by simp [seenV])]
    refine rix_t ha at0 ?_
    walk_at "rd"
    refine ⟨_, .bl _, true, rfl, ?_⟩
    rw [if_neg (by simp)]
    refine rix_t ha at1 ⟨_, _, rfl, dv_int, _, rfl, ?_⟩
    rw [if_neg (by simp [Dat.isInt])]
    refine rix_t ha at2 ?_
    walk_at "rd"
    exact ⟨_, .str _, true, rfl, q⟩
end
section
variable {P : Program} {w : World} {K : PySem.W.Frag} {mg : Str → Option Value} {base : Heap}
abbrev Seen := Bool × Nat × Str
def seenD (x : Seen) : Dat := .tup [.bl x.1, .int x.2.1, .str x.2.2]
def foundD (r : List Rm.Visit × List Seen) : Dat := .tup [.lst (r.1.map visitD), .lst (r.2.map seenD)]
theorem dv_seen {H : Hp} {v : V} {x : Seen} (h : DV H v (seenD x)) : ∃ a, v = .ref a ∧ H a = some (.tup (seenV x.1 x.2.1 x.2.2)) := by
  unfold seenD DV at h
  obtain ⟨a, xs, rfl, q, k⟩ := h
  simp only [dvs_cons_iff, dvs_nil_iff, DV] at k
  obtain ⟨_, _, rfl, rfl, _, _, rfl, rfl, _, _, rfl, rfl, rfl⟩ := k
  exact ⟨a, rfl, q⟩
theorem dv_found {H : Hp} {v : V} {r : List Rm.Visit × List Seen} (h : DV H v (foundD r)) : ∃ a a0 a1 xs ys, v = .ref a ∧ H a = some (.tup [.ref a0, .ref a1]) ∧ H a0 = some (.lst xs) ∧ DVs H xs (r.1.map visitD) ∧ H a1 = some (.lst ys) ∧ DVs H ys (r.2.map seenD) := by
  unfold foundD DV at h
  obtain ⟨a, zs, rfl, q, k⟩ := h
  simp only [dvs_cons_iff, dvs_nil_iff, DV] at k
  obtain ⟨_, _, rfl, ⟨a0, xs, rfl, e0, d0⟩, _, _, rfl, ⟨a1, ys, rfl, e1, d1⟩, rfl⟩ := k
  exact ⟨a, a0, a1, xs, ys, rfl, q, e0, d0, e1, d1⟩
/-- all_after's promise: r what it answers -/
def Dd.ok : Dd → Prop
  | .go _ k => 0 ≤ k ∧ k ≤ 900 | _ => True
def spAfter (AA : Int → List Dd → List Rm.Visit × List Seen) : Sp := fun vs H Q _ => ∃ (n : Int) (x : V) (ds : List Dd), vs = [.int n, x] ∧ 0 < n ∧ n ≤ 30 ∧ (ds.length ≤ 900 ∧ ∀ d ∈ ds, d.ok) ∧ DV H x (.lst (ds.map Dd.dat)) ∧ ∀ v H', Same H H' → DV H' v (foundD (AA n ds)) → Q v H'
structure AAok (AA : Int → List Dd → List Rm.Visit × List Seen) : Prop where
  hand : ∀ n ds, ∀ u ∈ (AA n ds).1, (u.hand : Int) < n
  many : ∀ n ds, 0 < n → ((AA n ds).2.length : Int) = n
abbrev sTold : Stmt := top 51
theorem scTold : FnScope ["_law_count", "_law_deeds", "_law_handed", "_law_found", "_law_visit", "_law_one"] ["_law_count", "_law_deeds"] (defScope sTold) := ⟨rfl, rfl, rfl, by decide +kernel, rfl, by decide +kernel, by decide +kernel⟩
theorem deps_deeds (ds : List Dd) : Dat.deps (ds.map Dd.dat) ≤ 1 := by
  induction ds with
  | nil => simp [Dat.deps]
  | cons d r ih =>
    rw [List.map_cons, Dat.deps]
    have : (Dd.dat d).dep ≤ 1 := by cases d <;> simp [Dd.dat, Dat.dep, Dat.deps]
    omega
theorem dv_same_lst {H : Hp} {x : V} {l : List Dat} (h : DV H x (.lst l)) : ∃ a xs, x = .ref a ∧ H a = some (.lst xs) ∧ DVs H xs l := by rwa [DV] at h
theorem ok_told {AA : Int → List Dd → List Rm.Visit × List Seen} (ok : AAok AA) {k : Nat} {f : Addr} {fd : FuncData} (F : Fun K "_law_all_told" "_law_all_told" sTold f fd) (T : Blt mg) (c_all_after : FnBy P w K mg base CX0 k "all_after" ["count", "deeds"] (spAfter AA)) (hk : 3 ≤ k) (c_l_is_visit : FnBy P w K mg base CX0 3 "_law_is_visit" ["_law_found", "_law_count"] spIsV)
    (c_l_is_seen : FnBy P w K mg base CX0 2 "_law_is_seen" ["_law_found"] spIsS) : FnOk P w K mg base CX0 (k + 1) f fd ["_law_count", "_law_deeds"] (spAfter AA) := by
  refine F.ok scTold (fun vs H Q E h => ?_) (fun cdv A outer s H vs Q E hr h => ?_)
  · obtain ⟨n, x, ds, rfl, _⟩ := h
    rfl
  · obtain ⟨n, x, ds, rfl, hn, hn9, hds', dv, q⟩ := h
    have hds := hds'.1
    have SC := scTold
    obtain ⟨a, xs, rfl, ha, dvs⟩ := dv_same_lst dv
    refine ⟨_, (pss_cons (ps_set (i := 2) SC.nd (by rfl) (Or.inl (by rfl)) (pe_callTy call_list_of (by rfl) T.b_list PyProof.Rows.Boot.list (pac (pv 1) pa_nil)))
      (pss_cons (ps_set (i := 3) SC.nd (by rfl) (Or.inl (by rfl)) (pe_fn c_all_after hr (by rfl) pass0 (pac (pv 0) (pac (pv 2) pa_nil))))
      (pss_cons (ps_if (pw_or (pt_cmpR op_neD (pv 2) (pv 1) (nomark _)) (pw_or (pt_not (pt_val (pe_callB (call_isinst (T := "tuple")) (by rfl) T.b_isinstance PyProof.Rows.Boot.isinstance (pac (pv 3) (pac (pe_ty (by rfl) T.b_tuple PyProof.Rows.Boot.tuple) pa_nil))))) (pw_or1 (pt_cmpR op_ne (pe_callB call_len_seq (by rfl) T.b_len PyProof.Rows.Boot.len (pac (pv 3) pa_nil)) pe_int (nomark _))))).pt (pss_one (ps_ret pe_non)) pss_nil)
      (pss_cons (ps_if (pw_or (pt_not (pt_val (pe_callB (call_isinst (T := "list")) (by rfl) T.b_isinstance PyProof.Rows.Boot.isinstance (pac (pe_ix ix_seq (pv 3) pe_int (by exact fun _ _ => rfl)) (pac (pe_ty (by rfl) T.b_list PyProof.Rows.Boot.list) pa_nil))))) (pw_or1 (pt_not (pt_val (pe_callB (call_isinst (T := "list")) (by rfl) T.b_isinstance PyProof.Rows.Boot.isinstance (pac (pe_ix ix_seq (pv 3) pe_int (by exact fun _ _ => rfl)) (pac (pe_ty (by rfl) T.b_list PyProof.Rows.Boot.list) pa_nil))))))).pt (pss_one (ps_ret pe_non)) pss_nil)
      (pss_cons (ps_for PassesOwn.never rfl (pi_list (pe_ix ix_seq (pv 3) pe_int (by exact fun _ _ => rfl))) (pg_name (i := 4) SC.nd (by rfl) (Or.inl (by rfl))) (pss_one (ps_if (pt_not (pt_val (pe_fn c_l_is_visit (hr.mono hk) (by rfl) pass0 (pac (pv 4) (pac (pv 0) pa_nil))))) (pss_one (ps_ret pe_non)) pss_nil)))
      (pss_cons (ps_for PassesOwn.never rfl (pi_list (pe_ix ix_seq (pv 3) pe_int (by exact fun _ _ => rfl))) (pg_name (i := 5) SC.nd (by rfl) (Or.inl (by rfl))) (pss_one (ps_if (pt_not (pt_val (pe_fn c_l_is_seen (hr.mono (by omega)) (by rfl) pass0 (pac (pv 5) pa_nil)))) (pss_one (ps_ret pe_non)) pss_nil)))
      (pss_cons (ps_if (pt_cmpR op_ne (pe_callB call_len_seq (by rfl) T.b_len PyProof.Rows.Boot.len (pac (pe_ix ix_seq (pv 3) pe_int (by exact fun _ _ => rfl)) pa_nil)) (pv 0) (nomark _)) (pss_one (ps_ret pe_non)) pss_nil)
      (pss_one (ps_ret (pv 3)))))))))), ?_⟩
    walk_at "rd"
    refine ⟨xs, .inl (SqL.of ha), fun l hl => ?_⟩
    have s1 : Same H (upd H l (.lst xs)) := (Same.refl _).new hl
    refine ⟨n, .ref l, ds, rfl, hn, hn9, hds', ?_, fun v H' s2 dr => ?_⟩
    · rw [DV]; exact ⟨l, xs, rfl, upd_same, DVs.mono s1 dvs⟩
    have s3 : Same H H' := s1.trans s2
    obtain ⟨b, b0, b1, ys, zs, rfl, hb, hb0, d0, hb1, d1⟩ := dv_found dr
    have at0 : atI [V.ref b0, V.ref b1] 0 = some (.ref b0) := rfl
    have at1 : atI [V.ref b0, V.ref b1] 1 = some (.ref b1) := rfl
    have hl' : H' l = some (.lst xs) := s2 _ _ upd_same
    have ha' : H' a = some (.lst xs) := s3 _ _ ha
    have dl : ∀ {b : Addr}, H' b = some (.lst xs) → DV H' (.ref b) (.lst (ds.map Dd.dat)) := fun h => by rw [DV]; exact ⟨_, xs, rfl, h, DVs.mono s3 dvs⟩
    have hdp := deps_deeds ds
    refine ⟨ds.map Dd.dat, ds.map Dd.dat, .inl ⟨dl hl', dl ha'⟩, ?_, ?_⟩
    · have := hr.un
      show (A.deeper _).units + 1 + _ + _ < cLine
      omega
    rw [Dat.beqs_refl]
    refine ⟨_, rfl, ?_⟩
    rw [if_neg (by simp)]
    refine ⟨_, .tup hb, true, rfl, ?_⟩
    rw [if_neg (by simp)]
    refine ⟨b, rfl, _, .inr (SqT.of hb), ?_⟩
    rw [if_neg (by simp)]
    refine rix_t hb at0 ⟨_, .lst hb0, true, rfl, ?_⟩
    rw [if_neg (by simp)]
    refine rix_t hb at1 ⟨_, .lst hb1, true, rfl, ?_⟩
    rw [if_neg (by simp)]
    refine ⟨_, rfl, rix_t hb at0 ⟨b0, rfl, ⟨_, SqL.of hb0⟩, for_list (K := K) (a := b0) (xs := ys) (fun i σ H2 => H2 = H' ∧ ∃ x, σ = [some (.int n), some (.ref a), some (.ref l), some (.ref b), x, none]) ⟨rfl, _, rfl⟩ (fun i σ H2 _ ⟨e, _⟩ => by subst e; exact SqL.of hb0) ?_ ?_⟩⟩
    · rintro i y σ H2 hi ⟨rfl, x, rfl⟩
      have hlen := d0.length
      have hil : i < (AA n ds).1.length := by
        have := (List.getElem?_eq_some_iff.mp hi).1
        rw [hlen, List.length_map] at this
        exact this
      obtain ⟨v, hv, dvv⟩ := d0.get (i := i) (d := visitD (AA n ds).1[i]) (by simp [hil])
      rw [hi] at hv
      cases hv
      obtain ⟨c, rfl, hc⟩ := dv_visit dvv
      walk_at "rd"
      refine ⟨c, _, n, rfl, hc, ok.hand n ds _ (List.getElem_mem _), true, rfl, ?_⟩
      rw [if_neg (by simp)]
      exact ⟨rfl, _, rfl⟩
    · rintro σ H2 ⟨rfl, x, rfl⟩
      refine ⟨_, rfl, rix_t hb at1 ⟨b1, rfl, ⟨_, SqL.of hb1⟩, for_list (K := K) (a := b1) (xs := zs) (fun i σ H3 => H3 = H2 ∧ ∃ y, σ = [some (.int n), some (.ref a), some (.ref l), some (.ref b), x, y]) ⟨rfl, _, rfl⟩ (fun i σ H3 _ ⟨e, _⟩ => by subst e; exact SqL.of hb1) ?_ ?_⟩⟩
      · rintro i y σ H3 hi ⟨rfl, x2, rfl⟩
        have hlen := d1.length
        have hil : i < (AA n ds).2.length := by
          have := (List.getElem?_eq_some_iff.mp hi).1
          rw [hlen, List.length_map] at this
          exact this
        obtain ⟨v, hv, dvv⟩ := d1.get (i := i) (d := seenD (AA n ds).2[i]) (by simp [hil])
        rw [hi] at hv
        cases hv
        obtain ⟨c, rfl, hc⟩ := dv_seen dvv
        walk_at "rd"
        refine ⟨c, _, _, _, rfl, hc, true, rfl, ?_⟩
        rw [if_neg (by simp)]
        exact ⟨rfl, _, rfl⟩
      · rintro σ H3 ⟨rfl, x2, rfl⟩
        walk_at "rd"
        refine rix_t hb at1 ?_
        refine ⟨b1, rfl, _, .inl (SqL.of hb1), ?_⟩
        have e : (zs.length : Int) = n := by
          have := ok.many n ds hn
          rw [d1.length, List.length_map]
          exact this
        rw [if_neg (by rw [e]; simp)]
        exact q _ _ s3 dr
end
local macro_rules | `(tactic| walk_at "rd") => `(tactic| try simp only [tSeq, tAsg, tSetLC, tRet, tRetN, tDrop, tIfS, tNext, tTest, tOp, tUn, rI, rI0, rU, tVar, tC, tCons, tNil, tTup, tLst, tTupN, tLstN, tBM, tCB, tCall, tMeth, tMake, tFld, sFld, sFldN, tMakeN, gName, tAndV, tOrV, tNotV, tAnd, tOr, tNot, tIf, tB, rEq, rNe, L2.start, List.map_cons, List.map_nil, List.length_cons, List.length_nil, Nat.reduceAdd, Nat.reduceSub, List.replicate, List.cons_append, List.nil_append, List.append_nil,
      List.getElem?_cons_zero, List.getElem?_cons_succ, Option.some.injEq, V.int.injEq, V.bl.injEq, V.ref.injEq, V.str.injEq, exists_and_left, exists_eq_left', exists_eq_left, List.cons.injEq, cxOf_K, List.set, Int.reduceLT, true_and, and_true, decide_eq_true_eq, scal, HO.ins.injEq, HO.lst.injEq, HO.tup.injEq, and_assoc, exists_prop, List.append_nil])
local macro_rules | `(tactic| k_invariant "rd" $t) => `(tactic| try simp only [tSeq, tAsg, tSetLC, tRet, tRetN, tDrop, tIfS, tNext, tTest, tOp, tUn, rI, rI0, rU, tVar, tC, tCons, tNil, tTup, tLst, tTupN, tLstN, tBM, tCB, tCall, tMeth, tMake, tFld, sFld, sFldN, tMakeN, gName, tAndV, tOrV, tNotV, tAnd, tOr, tNot, tIf, tB, rEq, rNe, L2.start, List.map_cons, List.map_nil, List.length_cons, List.length_nil, Nat.reduceAdd, Nat.reduceSub, List.replicate, List.cons_append, List.nil_append, List.append_nil,
      List.getElem?_cons_zero, List.getElem?_cons_succ, Option.some.injEq, V.int.injEq, V.bl.injEq, V.ref.injEq, V.str.injEq, exists_and_left, exists_eq_left', exists_eq_left, List.cons.injEq, cxOf_K, List.set, Int.reduceLT, true_and, and_true, decide_eq_true_eq, scal, HO.ins.injEq, HO.lst.injEq, HO.tup.injEq, and_assoc, exists_prop, List.append_nil, $t:term])
section
variable {P : Program} {w : World} {K : PySem.W.Frag} {mg : Str → Option Value} {base : Heap}
abbrev sSo : Stmt := top 43
/-- both are the same data: it says so -/
def spSo (d : Nat) : Sp := fun vs H Q _ => ∃ (v u : V) (m : Dat), vs = [v, u] ∧ DV H v m ∧ DV H u m ∧ m.dep < d ∧ ∀ G, Same H G → Q (.bl true) G
theorem scSo : FnScope ["_law_found", "_law_meant", "_law_k"] ["_law_found", "_law_meant"] (defScope sSo) := ⟨rfl, rfl, rfl, by decide +kernel, rfl, by decide +kernel, by decide +kernel⟩
theorem ok_so {f : Addr} {fd : FuncData} (F : Fun K "_law_so" "_law_so" sSo f fd) (T : Blt mg) (b_dict : mg "dict" = none) (d : Nat) (c_l_so : FnBy P w K mg base CX0 d "_law_so" ["_law_found", "_law_meant"] (spSo d)) :
    FnOk P w K mg base CX0 (d + 1) f fd ["_law_found", "_law_meant"] (spSo (d + 1)) := by
  refine F.ok scSo (fun vs H Q E h => ?_) (fun cdv A outer s H vs Q E hr h => ?_)
  · obtain ⟨v, u, m, rfl, _⟩ := h
    rfl
  · obtain ⟨v, u, m, rfl, hv, hu, hd, q⟩ := h
    have SC := scSo
    refine ⟨_, (pss_cons (ps_if (pt_cmpR op_isN (pv 1) pe_non (nomark _)) (pss_one (ps_ret (pe_cmpR op_isN (pv 0) pe_non (nomark _)))) pss_nil)
      (pss_cons (ps_if (pt_val (pe_callB (call_isinst (T := "bool")) (by rfl) T.b_isinstance PyProof.Rows.Boot.isinstance (pac (pv 1) (pac (pe_ty (by rfl) T.b_bool PyProof.Rows.Boot.bool) pa_nil)))) (pss_one (ps_ret (pe_and (pe_callB (call_isinst (T := "bool")) (by rfl) T.b_isinstance PyProof.Rows.Boot.isinstance (pac (pv 0) (pac (pe_ty (by rfl) T.b_bool PyProof.Rows.Boot.bool) pa_nil))) (pe_one (pe_cmpR op_eq (pv 0) (pv 1) (nomark _)))))) pss_nil)
      (pss_cons (ps_if (pt_val (pe_callB (call_isinst (T := "int")) (by rfl) T.b_isinstance PyProof.Rows.Boot.isinstance (pac (pv 1) (pac (pe_ty (by rfl) T.b_int PyProof.Rows.Boot.int) pa_nil)))) (pss_one (ps_ret (pe_and (pe_callB (call_isinst (T := "int")) (by rfl) T.b_isinstance PyProof.Rows.Boot.isinstance (pac (pv 0) (pac (pe_ty (by rfl) T.b_int PyProof.Rows.Boot.int) pa_nil))) (pe_and (pe_not (pe_callB (call_isinst (T := "bool")) (by rfl) T.b_isinstance PyProof.Rows.Boot.isinstance (pac (pv 0) (pac (pe_ty (by rfl) T.b_bool PyProof.Rows.Boot.bool) pa_nil)))) (pe_one (pe_cmpR op_eq (pv 0) (pv 1) (nomark _))))))) pss_nil)
      (pss_cons (ps_if (pt_val (pe_callB (call_isinst (T := "str")) (by rfl) T.b_isinstance PyProof.Rows.Boot.isinstance (pac (pv 1) (pac (pe_ty (by rfl) T.b_str PyProof.Rows.Boot.str) pa_nil)))) (pss_one (ps_ret (pe_and (pe_callB (call_isinst (T := "str")) (by rfl) T.b_isinstance PyProof.Rows.Boot.isinstance (pac (pv 0) (pac (pe_ty (by rfl) T.b_str PyProof.Rows.Boot.str) pa_nil))) (pe_one (pe_cmpR op_eq (pv 0) (pv 1) (nomark _)))))) pss_nil)
      (pss_cons (ps_if (pt_val (pe_callB (call_isinst (T := "dict")) (by rfl) T.b_isinstance PyProof.Rows.Boot.isinstance (pac (pv 1) (pac (pe_ty (by rfl) b_dict PyProof.Rows.Boot.dict) pa_nil)))) pss_dead pss_nil)
      (pss_cons (ps_if (pt_cmpR op_ne (pe_callB (call_isinst (T := "tuple")) (by rfl) T.b_isinstance PyProof.Rows.Boot.isinstance (pac (pv 1) (pac (pe_ty (by rfl) T.b_tuple PyProof.Rows.Boot.tuple) pa_nil))) (pe_callB (call_isinst (T := "tuple")) (by rfl) T.b_isinstance PyProof.Rows.Boot.isinstance (pac (pv 0) (pac (pe_ty (by rfl) T.b_tuple PyProof.Rows.Boot.tuple) pa_nil))) (nomark _)) pss_dead pss_nil)
      (pss_cons (ps_if (pw_or (pt_cmpR op_ne (pe_callB (call_isinst (T := "list")) (by rfl) T.b_isinstance PyProof.Rows.Boot.isinstance (pac (pv 1) (pac (pe_ty (by rfl) T.b_list PyProof.Rows.Boot.list) pa_nil))) (pe_callB (call_isinst (T := "list")) (by rfl) T.b_isinstance PyProof.Rows.Boot.isinstance (pac (pv 0) (pac (pe_ty (by rfl) T.b_list PyProof.Rows.Boot.list) pa_nil))) (nomark _)) (pw_or1 (pt_not (pt_val (pe_callB call_isinstT (by rfl) T.b_isinstance PyProof.Rows.Boot.isinstance (pac (pv 1) (pac (pe_tupN (pac (pe_ty (by rfl) T.b_list PyProof.Rows.Boot.list) (pac (pe_ty (by rfl) T.b_tuple PyProof.Rows.Boot.tuple) pa_nil))) pa_nil))))))).pt pss_dead pss_nil)
      (pss_cons (ps_if (pt_cmpR op_ne (pe_callB call_len_seq (by rfl) T.b_len PyProof.Rows.Boot.len (pac (pv 0) pa_nil)) (pe_callB call_len_seq (by rfl) T.b_len PyProof.Rows.Boot.len (pac (pv 1) pa_nil)) (nomark _)) pss_dead pss_nil)
      (pss_cons (ps_for PassesOwn.never rfl (pi_range1 (by rfl) T.b_range (pac (pe_callB call_lenN (by rfl) T.b_len PyProof.Rows.Boot.len (pac (pv 1) pa_nil)) pa_nil)) (pg_name (i := 2) SC.nd (by rfl) (Or.inl (by rfl))) (pss_one (ps_if (pt_not (pt_val (pe_fn c_l_so (hr.mono (by omega)) (by rfl) pass0 (pac (pe_ix ix_seq (pv 0) (pv 2) (by exact fun _ _ => rfl)) (pac (pe_ix ix_seq (pv 1) (pv 2) (by exact fun _ _ => rfl)) pa_nil))))) pss_dead pss_nil)))
      (pss_one (ps_ret pe_bl))))))))))), ?_⟩
    walk_at "rd"
    cases m with
    | non =>
      unfold DV at hv hu
      subst hv hu
      rw [if_pos rfl]
      exact q _ (Same.refl _)
    | bl b =>
      unfold DV at hv hu
      subst hv hu
      rw [if_neg (by simp)]
      refine ⟨_, .bl _, true, rfl, ?_⟩
      rw [if_pos rfl]
      refine ⟨_, .bl _, true, rfl, ?_⟩
      rw [if_pos rfl]
      refine ⟨rfl, ?_⟩
      rw [decide_eq_true rfl]
      exact q _ (Same.refl _)
    | int i =>
      unfold DV at hv hu
      subst hv hu
      rw [if_neg (by simp)]
      refine ⟨_, .int _, false, rfl, ?_⟩
      rw [if_neg (by simp)]
      refine ⟨_, .int _, true, rfl, ?_⟩
      rw [if_pos rfl]
      refine ⟨_, .int _, true, rfl, ?_⟩
      rw [if_pos rfl]
      refine ⟨_, .int _, false, rfl, ?_⟩
      rw [if_pos (by rfl)]
      refine ⟨rfl, ?_⟩
      rw [decide_eq_true rfl]
      exact q _ (Same.refl _)
    | str x =>
      unfold DV at hv hu
      subst hv hu
      rw [if_neg (by simp)]
      refine ⟨_, .str _, false, rfl, ?_⟩
      rw [if_neg (by simp)]
      refine ⟨_, .str _, false, rfl, ?_⟩
      rw [if_neg (by simp)]
      refine ⟨_, .str _, true, rfl, ?_⟩
      rw [if_pos rfl]
      refine ⟨_, .str _, true, rfl, ?_⟩
      rw [if_pos rfl]
      refine ⟨rfl, ?_⟩
      rw [decide_eq_true rfl]
      exact q _ (Same.refl _)
    | tup l =>
      unfold DV at hv hu
      obtain ⟨a, xs, rfl, ha, dv⟩ := hv
      obtain ⟨b, ys, rfl, hb, du⟩ := hu
      rw [if_neg (by simp)]
      refine ⟨_, .tup hb, false, rfl, ?_⟩
      rw [if_neg (by simp)]
      refine ⟨_, .tup hb, false, rfl, ?_⟩
      rw [if_neg (by simp)]
      refine ⟨_, .tup hb, false, rfl, ?_⟩
      rw [if_neg (by simp)]
      refine ⟨_, .tup hb, false, rfl, ?_⟩
      rw [if_neg (by simp)]
      refine ⟨_, .tup hb, true, rfl, _, .tup ha, true, rfl, ?_⟩
      rw [if_neg (by simp)]
      refine ⟨_, .tup hb, false, rfl, _, .tup ha, false, rfl, ?_⟩
      rw [if_neg (by simp)]
      refine ⟨by decide, fun p G nw => ?_⟩
      walk_at "rd"
      refine ⟨_, ["list", "tuple"], nw.at, .inr ⟨⟨_, nw.same _ _ hb⟩, rfl⟩, true, rfl, ?_⟩
      rw [if_neg (by simp)]
      have ea : SqT K G a xs := .of (nw.same _ _ ha)
      have eb : SqT K G b ys := .of (nw.same _ _ hb)
      refine ⟨xs, .inr ea, ys, .inr eb, ?_⟩
      rw [if_neg (by simp [dv.length, du.length])]
      refine rfor_range (fun R R' hR ⟨v1, e, p, ys, e2, hs, h⟩ => ⟨v1, e, p, ys, e2, hs, fun z => hR _ _ (h z)⟩) ⟨_, rfl, b, rfl, ys, .inr eb, fun z => ⟨_, rfl, by omega, by omega, fun i σ H2 => Same G H2 ∧ ∃ x, σ = [some (.ref a), some (.ref b), x], ⟨Same.refl _, _, rfl⟩, ?_, ?_⟩⟩
      · rintro i σ H2 hi ⟨s2, x, rfl⟩
        rw [Int.toNat_natCast] at hi
        have hl : i < l.length := by rw [← du.length]; exact hi
        obtain ⟨vx, e1, d1⟩ := dv.get (i := i) (List.getElem?_eq_getElem hl)
        obtain ⟨ux, e2, d2⟩ := du.get (i := i) (List.getElem?_eq_getElem hl)
        have s3 := nw.same.trans s2
        walk_at "rd"
        simp only [Int.zero_add]
        refine rix_t (s3 _ _ ha) (atI_at e1) ?_
        refine rix_t (s3 _ _ hb) (atI_at e2) ?_
        refine ⟨_, _, _, rfl, DV.mono s3 d1, DV.mono s3 d2, ?_, fun G3 sG => ?_⟩
        · have := dep_mem (List.getElem_mem hl)
          simp only [Dat.dep] at hd
          omega
        · refine ⟨true, rfl, ?_⟩
          rw [if_neg (by simp)]
          exact ⟨s2.trans sG, _, rfl⟩
      · rintro σ H2 ⟨s2, x, rfl⟩
        exact q _ (nw.same.trans s2)
    | lst l =>
      unfold DV at hv hu
      obtain ⟨a, xs, rfl, ha, dv⟩ := hv
      obtain ⟨b, ys, rfl, hb, du⟩ := hu
      rw [if_neg (by simp)]
      refine ⟨_, .lst hb, false, rfl, ?_⟩
      rw [if_neg (by simp)]
      refine ⟨_, .lst hb, false, rfl, ?_⟩
      rw [if_neg (by simp)]
      refine ⟨_, .lst hb, false, rfl, ?_⟩
      rw [if_neg (by simp)]
      refine ⟨_, .lst hb, false, rfl, ?_⟩
      rw [if_neg (by simp)]
      refine ⟨_, .lst hb, false, rfl, _, .lst ha, false, rfl, ?_⟩
      rw [if_neg (by simp)]
      refine ⟨_, .lst hb, true, rfl, _, .lst ha, true, rfl, ?_⟩
      rw [if_neg (by simp)]
      refine ⟨by decide, fun p G nw => ?_⟩
      walk_at "rd"
      refine ⟨_, ["list", "tuple"], nw.at, .inl ⟨⟨_, nw.same _ _ hb⟩, rfl⟩, true, rfl, ?_⟩
      rw [if_neg (by simp)]
      have ea : SqL K G a xs := .of (nw.same _ _ ha)
      have eb : SqL K G b ys := .of (nw.same _ _ hb)
      refine ⟨xs, .inl ea, ys, .inl eb, ?_⟩
      rw [if_neg (by simp [dv.length, du.length])]
      refine rfor_range (fun R R' hR ⟨v1, e, p, ys, e2, hs, h⟩ => ⟨v1, e, p, ys, e2, hs, fun z => hR _ _ (h z)⟩) ⟨_, rfl, b, rfl, ys, .inl eb, fun z => ⟨_, rfl, by omega, by omega, fun i σ H2 => Same G H2 ∧ ∃ x, σ = [some (.ref a), some (.ref b), x], ⟨Same.refl _, _, rfl⟩, ?_, ?_⟩⟩
      · rintro i σ H2 hi ⟨s2, x, rfl⟩
        rw [Int.toNat_natCast] at hi
        have hl : i < l.length := by rw [← du.length]; exact hi
        obtain ⟨vx, e1, d1⟩ := dv.get (i := i) (List.getElem?_eq_getElem hl)
        obtain ⟨ux, e2, d2⟩ := du.get (i := i) (List.getElem?_eq_getElem hl)
        have s3 := nw.same.trans s2
        walk_at "rd"
        simp only [Int.zero_add]
        refine rix_l (s3 _ _ ha) (atI_at e1) ?_
        refine rix_l (s3 _ _ hb) (atI_at e2) ?_
        refine ⟨_, _, _, rfl, DV.mono s3 d1, DV.mono s3 d2, ?_, fun G3 sG => ?_⟩
        · have := dep_mem (List.getElem_mem hl)
          simp only [Dat.dep] at hd
          omega
        · refine ⟨true, rfl, ?_⟩
          rw [if_neg (by simp)]
          exact ⟨s2.trans sG, _, rfl⟩
      · rintro σ H2 ⟨s2, x, rfl⟩
        exact q _ (nw.same.trans s2)
theorem so_all {f : Addr} {fd : FuncData} (F : Fun K "_law_so" "_law_so" sSo f fd) (T : Blt mg) (b_dict : mg "dict" = none) (hm : mg "_law_so" = some (.ref f)) (hk : PySem.W.keepIn K (.ref f) = true) (hb : Binds K fd ["_law_found", "_law_meant"] []) :
    ∀ d, FnBy P w K mg base CX0 d "_law_so" ["_law_found", "_law_meant"] (spSo d)
  | 0 => ⟨f, fd, ⟨fun vs H Q E ⟨_, _, _, _, _, _, h, _⟩ => absurd h (Nat.not_lt_zero _), fun A outer s H args us vs Q E _ _ _ _ ⟨_, _, _, _, _, _, h, _⟩ => absurd h (Nat.not_lt_zero _)⟩, hm, hk, hb⟩
  | d + 1 => ⟨f, fd, ok_so F T b_dict d (so_all F T b_dict hm hk hb d), hm, hk, hb⟩
end
local macro_rules | `(tactic| walk_at "rd") => `(tactic| try simp only [tSeq, tAsg, tSetLC, tRet, tRetN, tDrop, tIfS, tNext, tTest, tOp, tUn, rI, rI0, rU, tVar, tC, tCons, tNil, tTup, tLst, tTupN, tLstN, tBM, tCB, tCall, gName, tAndV, tOrV, tNotV, tAnd, tOr, tNot, tIf, tB, rEq, rNe, L2.start, List.map_cons, List.map_nil, List.length_cons, List.length_nil, Nat.reduceAdd, Nat.reduceSub, List.replicate, List.cons_append, List.nil_append, List.append_nil,
      List.getElem?_cons_zero, List.getElem?_cons_succ, Option.some.injEq, V.int.injEq, V.bl.injEq, V.ref.injEq, V.str.injEq, exists_and_left, exists_eq_left', exists_eq_left, List.cons.injEq, cxOf_K, List.set, Int.reduceLT, true_and, and_true, decide_eq_true_eq, scal])
section
variable {P : Program} {w : World} {K : PySem.W.Frag} {mg : Str → Option Value} {base : Heap}
def pair (c n : Int) : List Dd :=
  let f := c * 48271 % 1033 % (n - 1)
  [.want f, .want (f + 1), .go f n, .go (f + 1) 60, .go f ([60, 2, 3].getD (c % 3).toNat 0), .go (f + 1) 60]
def preOf (ns : List Int) (n : Int) : List Dd :=
  match ns with
  | [] => []
  | c :: _ => if c * 48271 % 1031 % 5 = 1 then (List.range n.toNat).map (fun k : Nat => Dd.want k) ++ List.replicate (n + 3).toNat .round else if 2 < c * 48271 % 1031 % 5 ∧ 1 < n then pair c n else []
def drawnOf (ns : List Int) (n : Int) : List Dd := preOf ns n ++ (List.range ns.length).map fun k : Nat => deedOf (ns.getD k 0 + 7 * k) n
abbrev sDrawn : Stmt := top 47
def spDrawn : Sp := fun vs H Q _ => ∃ (a : Addr) (ns : List Int) (n : Int), vs = [.ref a, .int n] ∧ H a = some (.lst (ns.map V.int)) ∧ ns.length ≤ 100 ∧ 0 < n ∧ n ≤ 9 ∧ ∀ v H', Same H H' → DV H' v (.lst ((drawnOf ns n).map Dd.dat)) → Q v H'
theorem scDrawn : FnScope ["_law_cells", "_law_count", "_law_deeds", "_law_first", "_law_k"] ["_law_cells", "_law_count"] (defScope sDrawn) := ⟨rfl, rfl, rfl, by decide +kernel, rfl, by decide +kernel, by decide +kernel⟩
def pre1 (ns : List Int) (n : Int) : List Dd :=
  match ns with
  | [] => []
  | c :: _ => if c * 48271 % 1031 % 5 = 1 then (List.range n.toNat).map (fun k : Nat => Dd.want k) ++ List.replicate (n + 3).toNat .round else []
theorem dd_noLst (ds : List Dd) : Dat.noLsts (ds.map Dd.dat) = true := noLsts_of fun d hd => by
  obtain ⟨x, _, rfl⟩ := List.mem_map.mp hd
  cases x <;> simp [Dd.dat, Dat.noLst, Dat.noLsts]
theorem dv_lst {H : Hp} {a : Addr} {xs : List V} {l : List Dat} (h : H a = some (.lst xs)) (k : DVs H xs l) : DV H (.ref a) (.lst l) := by rw [DV]; exact ⟨a, xs, rfl, h, k⟩
theorem dvs_ints {H : Hp} (ns : List Int) : DVs H (ns.map V.int) (ns.map Dat.int) := by
  induction ns with
  | nil => exact .nil
  | cons i r ih => exact .cons dv_int ih
theorem deps_ints (ns : List Int) : Dat.deps (ns.map Dat.int) = 0 := by
  induction ns with
  | nil => simp [Dat.deps]
  | cons i r ih => rw [List.map_cons, Dat.deps, ih]; simp [Dat.dep]
set_option maxHeartbeats 1000000 in
theorem ok_drawn {f : Addr} {fd : FuncData} (F : Fun K "_law_drawn" "_law_drawn" sDrawn f fd) (T : Blt mg) (c_l_deed_of : FnBy P w K mg base CX0 1 "_law_deed_of" ["_law_cell", "_law_count"] spDeedOf) : FnOk P w K mg base CX0 2 f fd ["_law_cells", "_law_count"] spDrawn := by
  refine F.ok scDrawn (fun vs H Q E h => ?_) (fun cdv A outer s H vs Q E hr h => ?_)
  · obtain ⟨a, ns, n, rfl, _⟩ := h
    rfl
  · obtain ⟨a, ns, n, rfl, ha, hns, hn, hn9, q⟩ := h
    have SC := scDrawn
    let M : List Dd → St → Hp → Prop := fun ds σ H1 => ∃ l xs x3, σ = [some (.ref a), some (.int n), some (.ref l), x3, none] ∧ Same H H1 ∧ H l = none ∧ H1 l = some (.lst xs) ∧ DVs H1 xs (ds.map Dd.dat)
    let M1 : St → Hp → Prop := M (pre1 ns n)
    let M2 : St → Hp → Prop := M (preOf ns n)
    refine ⟨_, (pss_cons (ps_set (i := 2) SC.nd (by rfl) (Or.inl (by rfl)) (pe_lstN pa_nil))
      (pss_cut M1 (ps_if (pw_and (pt_cmpR op_neD (pv 0) (pe_lstN pa_nil) (nomark _)) (pw_and1 (pt_cmpR op_eq (pe_op op_mod (pe_op op_mod (pe_op op_mul (pe_ix ix_seq (pv 0) pe_int (by exact fun _ _ => rfl)) pe_int) pe_int) pe_int) pe_int (nomark _)))).pt (pss_cons (ps_setLC (N' := ["_law_k"]) (ix := [none]) (by exact comp_sc rfl (by rfl) (by rfl)) rfl (pi_range1 (by rfl) T.b_range (pac (pv 1) pa_nil)) (fun _ _ _ _ _ => (pg_comp (i := 0) (by decide +kernel) (by rfl) (by rfl))) (fun _ _ _ _ _ => pts_nil) (fun _ _ _ _ _ => (pe_tupN (pac pe_str (pac (pv 0) pa_nil)))) (pg_name (i := 2) SC.nd (by rfl) (Or.inl (by rfl))) (by rfl))
      (pss_one (ps_expr (pe_bm PySem.F.plainAttrs_list PySem.F.slot_list_extend PySem.F.type_list_extend mt_extendN (pv 2) (pac (pe_op op_repN (pe_lstN (pac (pe_tupN (pac pe_str pa_nil)) pa_nil)) (pe_op op_add (pv 1) pe_int)) pa_nil))))) pss_nil)
      (pss_cut M2 (ps_if (pw_and (pt_cmpR op_neD (pv 0) (pe_lstN pa_nil) (nomark _)) (pw_and (pt_cmpR op_gt (pe_op op_mod (pe_op op_mod (pe_op op_mul (pe_ix ix_seq (pv 0) pe_int (by exact fun _ _ => rfl)) pe_int) pe_int) pe_int) pe_int (nomark _)) (pw_and1 (pt_cmpR op_gt (pv 1) pe_int (nomark _))))).pt (pss_cons (ps_set (i := 3) SC.nd (by rfl) (Or.inl (by rfl)) (pe_op op_mod (pe_op op_mod (pe_op op_mul (pe_ix ix_seq (pv 0) pe_int (by exact fun _ _ => rfl)) pe_int) pe_int) (pe_op op_sub (pv 1) pe_int)))
      (pss_cons (ps_set (i := 2) SC.nd (by rfl) (Or.inl (by rfl)) (pe_lstN (pac (pe_tupN (pac pe_str (pac (pv 3) pa_nil))) (pac (pe_tupN (pac pe_str (pac (pe_op op_add (pv 3) pe_int) pa_nil))) (pac (pe_tupN (pac pe_str (pac (pv 3) (pac (pv 1) pa_nil)))) pa_nil)))))
      (pss_cons (ps_expr (pe_bm PySem.F.plainAttrs_list PySem.F.slot_list_extend PySem.F.type_list_extend mt_extendN (pv 2) (pac (pe_lstN (pac (pe_tupN (pac pe_str (pac (pe_op op_add (pv 3) pe_int) (pac pe_int pa_nil)))) (pac (pe_tupN (pac pe_str (pac (pv 3) (pac (pe_ix ix_seq (pe_lstN (pac pe_int (pac pe_int (pac pe_int pa_nil)))) (pe_op op_mod (pe_ix ix_seq (pv 0) pe_int (by exact fun _ _ => rfl)) pe_int) (by exact fun _ _ => rfl)) pa_nil)))) pa_nil))) pa_nil)))
      (pss_one (ps_expr (pe_bm PySem.F.plainAttrs_list PySem.F.slot_list_append PySem.F.type_list_append mt_appendN (pv 2) (pac (pe_tupN (pac pe_str (pac (pe_op op_add (pv 3) pe_int) (pac pe_int pa_nil)))) pa_nil))))))) pss_nil)
      (pss_cons (ps_for PassesOwn.never rfl (pi_range1 (by rfl) T.b_range (pac (pe_callB call_len_seq (by rfl) T.b_len PyProof.Rows.Boot.len (pac (pv 0) pa_nil)) pa_nil)) (pg_name (i := 4) SC.nd (by rfl) (Or.inl (by rfl))) (pss_one (ps_expr (pe_bm PySem.F.plainAttrs_list PySem.F.slot_list_append PySem.F.type_list_append mt_appendN (pv 2) (pac (pe_fn c_l_deed_of (hr.mono (by decide)) (by rfl) pass0 (pac (pe_op op_add (pe_ix ix_seq (pv 0) (pv 4) (by exact fun _ _ => rfl)) (pe_op op_mul pe_int (pv 4))) (pac (pv 1) pa_nil))) pa_nil)))))
      (pss_one (ps_ret (pv 2))))))), ?_⟩
    have hu : A.units + 3 + 100 < cLine := by
      have := hr.un
      have e : (A.deeper (PyProof.Rows.envOfC "_law_drawn" (defScope sDrawn) s.heap.objs.size f cdv)).units = A.units + 3 := rfl
      omega
    have ne0 : ∀ {G : Hp} {p : Addr} {Q' : VK}, G a = some (.lst (ns.map V.int)) → G p = some (.lst []) → Q' (.bl (!Dat.beqs (ns.map Dat.int) [])) G →
        rEqD (fun b => !b) (cxOf CX0 P w K mg base ["_law_cells", "_law_count", "_law_deeds", "_law_first", "_law_k"] "_law_drawn" (defScope sDrawn) f cdv A outer s H E).nox (.ref a) (.ref p) G Q' := fun h1 hp q' =>
      ⟨ns.map Dat.int, [], .inl ⟨dv_lst h1 (dvs_ints ns), dv_lst hp .nil⟩, by
        show A.units + 3 + 1 + _ + _ < cLine
        rw [deps_ints, Dat.deps]; omega, q'⟩
    walk_at "rd"
    refine ⟨Nat.zero_le _, fun l G0 n0 => ?_⟩
    refine ⟨?_, ?_⟩
    · walk_at "rd"
      refine ⟨Nat.zero_le _, fun p G1 n1 => ?_⟩
      have sp : Same H G1 := n0.same.trans n1.same
      have hl2 : G1 l = some (.lst []) := n1.same _ _ n0.at
      refine ne0 (sp _ _ ha) n1.at ?_
      cases ns with
      | nil =>
        refine ⟨_, rfl, ?_⟩
        rw [if_neg (by simp [Dat.beqs])]
        exact ⟨l, [], none, rfl, sp, n0.free, hl2, .nil⟩
      | cons c r =>
        refine ⟨_, rfl, ?_⟩
        rw [if_pos (by simp [Dat.beqs])]
        refine rix_l (sp _ _ ha) (v := .int c) atI_zero ⟨c, rfl, cmul_a c, ?_⟩
        split
        · rename_i h1
          refine rlc_range (fun R R' hR ⟨v, e, q⟩ => ⟨v, e, hR _ _ q⟩) ⟨_, rfl, n, rfl, by omega, by omega, fun acc hacc => ⟨fun i σ H2 => ∃ xs x, σ = [x] ∧ Same G1 H2 ∧ H2 acc = some (.lst xs) ∧ DVs H2 xs (((List.range i).map (fun k : Nat => Dd.want k)).map Dd.dat), ?_, ?_, ?_⟩⟩
          · exact ⟨[], none, rfl, (Same.refl _).new hacc, upd_same, .nil⟩
          · rintro i σ H2 hi ⟨xs, x, rfl, s2, h2, d2⟩
            walk_at "rd"
            refine ⟨le_size (by decide), fun t G nt => ⟨xs, nt.same _ _ h2, ?_, ?_⟩⟩
            · have := d2.length
              simp at this
              exact lt_size (by omega)
            · refine ⟨(s2.trans nt.same).put hacc, _, upd_same, ?_⟩
              rw [List.range_succ, List.map_append, List.map_append]
              refine DVs.keepL (nt.same _ _ h2) ?_ ((DVs.mono nt.same d2).append (.one ?_))
              · have := dd_noLst ((List.range i).map (fun k : Nat => Dd.want k) ++ [Dd.want (i : Int)])
                rw [List.map_append] at this
                exact this
              · have e : (0 + (i : Int)) = i := by omega
                rw [e] at nt
                exact dv_tup nt.at (.cons dv_str (.cons dv_int .nil))
          · rintro σ H2 ⟨xs, x, rfl, s2, h2, d2⟩
            walk_at "rd"
            have hHa : H acc = none := sp.free hacc
            have hlen := d2.length
            simp at hlen
            refine ⟨.inl ⟨rfl, _, SqL.of h2⟩, le_size (by decide), fun t G2 nt => ⟨le_size (by decide), fun p1 G3 np => ⟨p1, n + 3, _, rfl, rfl, np.at, by omega, by omega, ?_, fun p2 G4 nq => ?_⟩⟩⟩
            · exact le_size (by simp; omega)
            have s5 : Same G2 G4 := np.same.trans nq.same
            have s6 : Same H2 G4 := nt.same.trans s5
            refine ⟨acc, p2, xs, _, rfl, rfl, s6 _ _ h2, nq.at, ?_, fun G5 pu => ?_⟩
            · exact le_size (by rw [len_rep]; simp; omega)
            refine ⟨acc, _, none, rfl, pu.same ((sp.trans s2).trans s6) hHa, hHa, pu.at, ?_⟩
            have e : pre1 (c :: r) n = (List.range n.toNat).map (fun k : Nat => Dd.want k) ++ List.replicate (n + 3).toNat .round := by show (if _ then _ else _) = _; rw [if_pos h1]
            have nl := dd_noLst (pre1 (c :: r) n)
            rw [e, List.map_append, List.map_replicate] at nl
            rw [e, List.map_append, List.map_replicate, List.flatten_replicate_singleton]
            refine pu.dvs (s6 _ _ h2) nl ((DVs.mono s6 d2).append (DVs.rep ?_ _))
            exact dv_tup (s5 _ _ nt.at) (.cons dv_str .nil)
        · rename_i h1
          refine ⟨l, [], none, rfl, sp, n0.free, hl2, ?_⟩
          have e : pre1 (c :: r) n = [] := by show (if _ then _ else _) = _; rw [if_neg h1]
          rw [e]
          exact .nil
    · rintro σ H1 ⟨l, xs, x3, rfl, s1, hl, h1, d1⟩
      refine ⟨?_, ?_⟩
      · walk_at "rd"
        refine ⟨Nat.zero_le _, fun p G1 n1 => ?_⟩
        have sp := s1.trans n1.same
        refine ne0 (sp _ _ ha) n1.at ?_
        have same : preOf ns n = pre1 ns n → M2 [some (.ref a), some (.int n), some (.ref l), x3, none] G1 := fun e => ⟨l, xs, x3, rfl, sp, hl, n1.same _ _ h1, by rw [e]; exact DVs.mono n1.same d1⟩
        cases ns with
        | nil =>
          refine ⟨_, rfl, ?_⟩
          rw [if_neg (by simp [Dat.beqs])]
          exact same rfl
        | cons c r =>
          refine ⟨_, rfl, ?_⟩
          rw [if_pos (by simp [Dat.beqs])]
          refine rix_l (sp _ _ ha) (v := .int c) atI_zero ⟨c, rfl, cmul_a c, ?_⟩
          split
          · rename_i g1
            split
            · rename_i g2
              refine rix_l (sp _ _ ha) (v := .int c) atI_zero ⟨c, rfl, cmul_a c, by omega, ?_⟩
              walk_at "rd"
              refine ⟨le_size (by decide), fun t1 K1 m1 => ⟨le_size (by decide), fun t2 K2 m2 => ⟨le_size (by decide), fun t3 K3 m3 => ⟨le_size (by decide), fun l2 K4 m4 => ⟨.inl ⟨rfl, _, SqL.of m4.at⟩, le_size (by decide), fun t4 K5 m5 => ⟨le_size (by decide), fun p5 K6 m6 => ?_⟩⟩⟩⟩⟩⟩
              have q6 : Same G1 K6 := ((((m1.same.trans m2.same).trans m3.same).trans m4.same).trans m5.same).trans m6.same
              refine rix_l (q6 _ _ (sp _ _ ha)) (v := .int c) atI_zero ?_
              walk_at "rd"
              refine rix_l m6.at (v := .int ([60, 2, 3].getD (c % 3).toNat 0)) ?_ ⟨le_size (by decide), fun t5 K7 m7 => ⟨le_size (by decide), fun p6 K8 m8 => ?_⟩⟩
              · have a0 : 0 ≤ c % 3 := Int.emod_nonneg _ (by decide)
                have a1 : c % 3 < 3 := Int.emod_lt_of_pos _ (by decide)
                generalize c % 3 = z at a0 a1
                obtain ⟨k, rfl⟩ := Int.eq_ofNat_of_zero_le a0
                have : k < 3 := by omega
                match k, this with
                | 0, _ => rfl
                | 1, _ => rfl
                | 2, _ => rfl
              have q8 : Same K4 K8 := ((m5.same.trans m6.same).trans m7.same).trans m8.same
              refine ⟨l2, p6, _, _, rfl, rfl, q8 _ _ m4.at, m8.at, le_size (by simp), fun K9 u9 => ?_⟩
              walk_at "rd"
              refine ⟨.inl ⟨rfl, _, SqL.of u9.at⟩, le_size (by decide), fun t6 K10 m10 => ⟨l2, _, _, rfl, rfl, m10.same _ _ u9.at, lt_size (by simp), fun K11 u11 => ?_⟩⟩
              have hHl : H l2 = none := (((sp.trans m1.same).trans m2.same).trans m3.same).free m4.free
              have S4 : Same H K4 := (((sp.trans m1.same).trans m2.same).trans m3.same).trans m4.same
              refine ⟨l2, _, _, rfl, u11.same ((u9.same (S4.trans q8) hHl).trans m10.same) hHl, hHl, u11.at, ?_⟩
              have e : preOf (c :: r) n = pair c n := by show (if _ then _ else if _ then _ else _) = _; rw [if_neg (by omega), if_pos ⟨by omega, by omega⟩]
              have nl := dd_noLst (pair c n)
              rw [e]
              have T8 : ∀ {t : Addr} {xs : List V} {l : List Dat}, K8 t = some (.tup xs) → DVs K8 xs l → DV K8 (.ref t) (.tup l) := fun h k => dv_tup h k
              have d8 : DVs K8 ([V.ref t1, V.ref t2, V.ref t3] ++ [V.ref t4, V.ref t5]) (((pair c n).take 5).map Dd.dat) := by
                refine .cons (T8 ?_ (.cons dv_str (.cons dv_int .nil))) (.cons (T8 ?_ (.cons dv_str (.cons dv_int .nil))) (.cons (T8 ?_ (.cons dv_str (.cons dv_int (.cons dv_int .nil)))) (.cons (T8 ?_ (.cons dv_str (.cons dv_int (.cons dv_int .nil)))) (.cons (T8 ?_ (.cons dv_str (.cons dv_int (.cons dv_int .nil)))) .nil))))
                · exact q8 _ _ (m4.same _ _ (m3.same _ _ (m2.same _ _ m1.at)))
                · exact q8 _ _ (m4.same _ _ (m3.same _ _ m2.at))
                · exact q8 _ _ (m4.same _ _ m3.at)
                · exact m8.same _ _ (m7.same _ _ (m6.same _ _ m5.at))
                · exact m8.same _ _ m7.at
              have d9 := u9.dvs (q8 _ _ m4.at) (dd_noLst _) d8
              have d10 := (DVs.mono m10.same d9).append (.one (dv_tup m10.at (.cons dv_str (.cons dv_int (.cons dv_int .nil)))))
              exact u11.dvs (m10.same _ _ u9.at) nl d10
            · rename_i g2
              refine same ?_
              show (if _ then _ else _) = (if _ then _ else _)
              rw [if_neg (by omega), if_neg (by omega), if_neg (by omega)]
          · rename_i g1
            refine same ?_
            show (if _ then _ else _) = (if _ then _ else _)
            by_cases h5 : c * 48271 % 1031 % 5 = 1
            · rw [if_pos h5, if_pos h5]
            · rw [if_neg h5, if_neg h5, if_neg (by omega)]
      · rintro σ H2 ⟨l, xs, x3, rfl, s2, hl, h2, d2⟩
        have hpre : (preOf ns n).length ≤ 21 := by
          cases ns with
          | nil => exact Nat.zero_le _
          | cons c r =>
            show (if _ then _ else if _ then _ else _ : List Dd).length ≤ 21
            split
            · simp; omega
            · split <;> simp [pair]
        refine rfor_range (fun R R' hR ⟨v, e, p, e2, ys, hs, q⟩ => ⟨v, e, p, e2, ys, hs, hR _ _ q⟩) ⟨_, rfl, a, rfl, _, .inl (SqL.of (s2 _ _ ha)), _, rfl, by omega, by rw [List.length_map]; omega,
          fun i σ G => ∃ ys x, σ = [some (.ref a), some (.int n), some (.ref l), x3, x] ∧ Same H G ∧ G l = some (.lst ys) ∧ DVs G ys ((preOf ns n ++ (List.range i).map fun k : Nat => deedOf (ns.getD k 0 + 7 * k) n).map Dd.dat), ?_, ?_, ?_⟩
        · exact ⟨xs, none, rfl, s2, h2, by simpa using d2⟩
        · rintro i σ G hi ⟨ys, x, rfl, sg, hg, dg⟩
          have hi : i < ns.length := by simpa using hi
          have hlen := dg.length
          rw [List.length_map, List.length_append, List.length_map, List.length_range] at hlen
          walk_at "rd"
          refine ⟨.inl ⟨rfl, _, SqL.of hg⟩, ?_⟩
          have ei : (0 + (i : Int)) = i := by omega
          refine rix_l (sg _ _ ha) (v := .int ns[i]) (by rw [ei]; exact atI_at (by simp [hi])) ?_
          walk_at "rd"
          refine ⟨cmul_7 _, ns[i] + 7 * (0 + (i : Int)), n, rfl, hn, fun v G2 s3 dv => ⟨l, ys, _, rfl, rfl, s3 _ _ hg, lt_size (by omega), fun G3 pu => ?_⟩⟩
          refine ⟨pu.same (sg.trans s3) hl, _, pu.at, ?_⟩
          have er : (preOf ns n ++ (List.range (i + 1)).map fun k : Nat => deedOf (ns.getD k 0 + 7 * k) n) = (preOf ns n ++ (List.range i).map fun k : Nat => deedOf (ns.getD k 0 + 7 * k) n) ++ [deedOf (ns.getD i 0 + 7 * i) n] := by
            rw [List.range_succ, List.map_append, List.append_assoc]
            rfl
          rw [er, List.map_append]
          have eg : ns.getD i 0 = ns[i] := by simp [List.getD, hi]
          refine pu.dvs (s3 _ _ hg) ?_ ((DVs.mono s3 dg).append (.one ?_))
          · rw [← List.map_append]; exact dd_noLst _
          · show DV G2 v (Dd.dat (deedOf (ns.getD i 0 + 7 * (i : Int)) n))
            rw [eg]
            rw [ei] at dv
            exact dv
        · rintro σ G ⟨ys, x, rfl, sg, hg, dg⟩
          walk_at "rd"
          refine q _ _ sg (dv_lst hg ?_)
          rw [List.length_map] at dg
          exact dg
end
theorem ne_number_others : (("number" : Str) = "others") = False := by simp only [eq_iff_iff, iff_false]; decide +kernel
theorem ne_number_flag : (("number" : Str) = "flag") = False := by simp only [eq_iff_iff, iff_false]; decide +kernel
theorem ne_number_ticket : (("number" : Str) = "ticket") = False := by simp only [eq_iff_iff, iff_false]; decide +kernel
theorem ne_number_word : (("number" : Str) = "word") = False := by simp only [eq_iff_iff, iff_false]; decide +kernel
theorem ne_number_place : (("number" : Str) = "place") = False := by simp only [eq_iff_iff, iff_false]; decide +kernel
theorem ne_number_greatest : (("number" : Str) = "greatest") = False := by simp only [eq_iff_iff, iff_false]; decide +kernel
theorem nb_others_number : (("others" : Str) == "number") = false := by decide +kernel
theorem ne_others_flag : (("others" : Str) = "flag") = False := by simp only [eq_iff_iff, iff_false]; decide +kernel
theorem ne_others_ticket : (("others" : Str) = "ticket") = False := by simp only [eq_iff_iff, iff_false]; decide +kernel
theorem ne_others_word : (("others" : Str) = "word") = False := by simp only [eq_iff_iff, iff_false]; decide +kernel
theorem ne_others_place : (("others" : Str) = "place") = False := by simp only [eq_iff_iff, iff_false]; decide +kernel
theorem ne_others_greatest : (("others" : Str) = "greatest") = False := by simp only [eq_iff_iff, iff_false]; decide +kernel
theorem nb_flag_number : (("flag" : Str) == "number") = false := by decide +kernel
theorem nb_flag_others : (("flag" : Str) == "others") = false := by decide +kernel
theorem ne_flag_ticket : (("flag" : Str) = "ticket") = False := by simp only [eq_iff_iff, iff_false]; decide +kernel
theorem ne_flag_word : (("flag" : Str) = "word") = False := by simp only [eq_iff_iff, iff_false]; decide +kernel
theorem ne_flag_place : (("flag" : Str) = "place") = False := by simp only [eq_iff_iff, iff_false]; decide +kernel
theorem ne_flag_greatest : (("flag" : Str) = "greatest") = False := by simp only [eq_iff_iff, iff_false]; decide +kernel
theorem nb_ticket_number : (("ticket" : Str) == "number") = false := by decide +kernel
theorem nb_ticket_others : (("ticket" : Str) == "others") = false := by decide +kernel
theorem ne_ticket_flag : (("ticket" : Str) = "flag") = False := by simp only [eq_iff_iff, iff_false]; decide +kernel
theorem nb_ticket_flag : (("ticket" : Str) == "flag") = false := by decide +kernel
theorem ne_ticket_word : (("ticket" : Str) = "word") = False := by simp only [eq_iff_iff, iff_false]; decide +kernel
theorem ne_ticket_place : (("ticket" : Str) = "place") = False := by simp only [eq_iff_iff, iff_false]; decide +kernel
theorem ne_ticket_greatest : (("ticket" : Str) = "greatest") = False := by simp only [eq_iff_iff, iff_false]; decide +kernel
theorem nb_word_number : (("word" : Str) == "number") = false := by decide +kernel
theorem nb_word_others : (("word" : Str) == "others") = false := by decide +kernel
theorem ne_word_flag : (("word" : Str) = "flag") = False := by simp only [eq_iff_iff, iff_false]; decide +kernel
theorem nb_word_flag : (("word" : Str) == "flag") = false := by decide +kernel
theorem ne_word_ticket : (("word" : Str) = "ticket") = False := by simp only [eq_iff_iff, iff_false]; decide +kernel
theorem nb_word_ticket : (("word" : Str) == "ticket") = false := by decide +kernel
theorem ne_word_place : (("word" : Str) = "place") = False := by simp only [eq_iff_iff, iff_false]; decide +kernel
theorem ne_word_greatest : (("word" : Str) = "greatest") = False := by simp only [eq_iff_iff, iff_false]; decide +kernel
theorem nb_place_number : (("place" : Str) == "number") = false := by decide +kernel
theorem nb_place_others : (("place" : Str) == "others") = false := by decide +kernel
theorem ne_place_flag : (("place" : Str) = "flag") = False := by simp only [eq_iff_iff, iff_false]; decide +kernel
theorem nb_place_flag : (("place" : Str) == "flag") = false := by decide +kernel
theorem ne_place_ticket : (("place" : Str) = "ticket") = False := by simp only [eq_iff_iff, iff_false]; decide +kernel
theorem nb_place_ticket : (("place" : Str) == "ticket") = false := by decide +kernel
theorem ne_place_word : (("place" : Str) = "word") = False := by simp only [eq_iff_iff, iff_false]; decide +kernel
theorem nb_place_word : (("place" : Str) == "word") = false := by decide +kernel
theorem ne_place_greatest : (("place" : Str) = "greatest") = False := by simp only [eq_iff_iff, iff_false]; decide +kernel
theorem nb_greatest_number : (("greatest" : Str) == "number") = false := by decide +kernel
theorem nb_greatest_others : (("greatest" : Str) == "others") = false := by decide +kernel
theorem ne_greatest_flag : (("greatest" : Str) = "flag") = False := by simp only [eq_iff_iff, iff_false]; decide +kernel
theorem nb_greatest_flag : (("greatest" : Str) == "flag") = false := by decide +kernel
theorem ne_greatest_ticket : (("greatest" : Str) = "ticket") = False := by simp only [eq_iff_iff, iff_false]; decide +kernel
theorem nb_greatest_ticket : (("greatest" : Str) == "ticket") = false := by decide +kernel
theorem ne_greatest_word : (("greatest" : Str) = "word") = False := by simp only [eq_iff_iff, iff_false]; decide +kernel
theorem nb_greatest_word : (("greatest" : Str) == "word") = false := by decide +kernel
theorem ne_greatest_place : (("greatest" : Str) = "place") = False := by simp only [eq_iff_iff, iff_false]; decide +kernel
theorem nb_greatest_place : (("greatest" : Str) == "place") = false := by decide +kernel
def wS : Rm.W → Str
  | .out => "out" | .begins => "begins" | .looks => "looks" | .draws => "draws" | .lowers => "lowers" | .asks => "asks" | .sees => "sees" | .enters => "enters" | .within => "within"
/-- the attributes of a hand -/
def hfs (i : Nat) (oa : Addr) (h : Rm.Hand) : List (Str × V) := [("number", .int i), ("others", .ref oa), ("flag", .bl h.flag), ("ticket", .int h.ticket), ("word", .str (wS h.word)), ("place", .int h.place), ("greatest", .int h.great)]
section
variable {i : Nat} {oa : Addr} {h : Rm.Hand}
theorem lk_number : (hfs i oa h).lookup ("number" : Str) = some (.int i) := by simp only [hfs, List.lookup, beq_self_eq_true]
theorem lk_others : (hfs i oa h).lookup ("others" : Str) = some (.ref oa) := by simp only [hfs, List.lookup, beq_self_eq_true, nb_others_number]
theorem lk_flag : (hfs i oa h).lookup ("flag" : Str) = some (.bl h.flag) := by simp only [hfs, List.lookup, beq_self_eq_true, nb_flag_number, nb_flag_others]
theorem lk_ticket : (hfs i oa h).lookup ("ticket" : Str) = some (.int h.ticket) := by simp only [hfs, List.lookup, beq_self_eq_true, nb_ticket_number, nb_ticket_others, nb_ticket_flag]
theorem lk_word : (hfs i oa h).lookup ("word" : Str) = some (.str (wS h.word)) := by simp only [hfs, List.lookup, beq_self_eq_true, nb_word_number, nb_word_others, nb_word_flag, nb_word_ticket]
theorem lk_place : (hfs i oa h).lookup ("place" : Str) = some (.int h.place) := by simp only [hfs, List.lookup, beq_self_eq_true, nb_place_number, nb_place_others, nb_place_flag, nb_place_ticket, nb_place_word]
theorem lk_greatest : (hfs i oa h).lookup ("greatest" : Str) = some (.int h.great) := by simp only [hfs, List.lookup, beq_self_eq_true, nb_greatest_number, nb_greatest_others, nb_greatest_flag, nb_greatest_ticket, nb_greatest_word, nb_greatest_place]
theorem pf_flag (b : Bool) : putF "flag" (.bl b) (hfs i oa h) = hfs i oa { h with flag := b } := by simp only [hfs, putF, ne_number_flag, ne_others_flag, ne_ticket_flag, ne_word_flag, ne_place_flag, ne_greatest_flag, if_false, if_true]
theorem pf_ticket (t : Nat) : putF "ticket" (.int t) (hfs i oa h) = hfs i oa { h with ticket := t } := by simp only [hfs, putF, ne_number_ticket, ne_others_ticket, ne_flag_ticket, ne_word_ticket, ne_place_ticket, ne_greatest_ticket, if_false, if_true]
theorem pf_word (w : Rm.W) : putF "word" (.str (wS w)) (hfs i oa h) = hfs i oa { h with word := w } := by simp only [hfs, putF, ne_number_word, ne_others_word, ne_flag_word, ne_ticket_word, ne_place_word, ne_greatest_word, if_false, if_true]
theorem pf_place (p : Nat) : putF "place" (.int p) (hfs i oa h) = hfs i oa { h with place := p } := by simp only [hfs, putF, ne_number_place, ne_others_place, ne_flag_place, ne_ticket_place, ne_word_place, ne_greatest_place, if_false, if_true]
theorem pf_greatest (g : Nat) : putF "greatest" (.int g) (hfs i oa h) = hfs i oa { h with great := g } := by simp only [hfs, putF, ne_number_greatest, ne_others_greatest, ne_flag_greatest, ne_ticket_greatest, ne_word_greatest, ne_place_greatest, if_false, if_true]
end
local macro_rules | `(tactic| walk_at "rd") => `(tactic| try simp only [tSeq, tAsg, tSetLC, tRet, tRetN, tDrop, tIfS, tNext, tTest, tOp, tUn, rI, rI0, rU, tVar, tC, tCons, tNil, tTup, tLst, tTupN, tLstN, tBM, tCB, tCall, tMeth, tMake, tFld, sFld, sFldN, tMakeN, gName, tAndV, tOrV, tNotV, tAnd, tOr, tNot, tIf, tB, rEq, rNe, L2.start, List.map_cons, List.map_nil, List.length_cons, List.length_nil, Nat.reduceAdd, Nat.reduceSub, List.replicate, List.cons_append, List.nil_append, List.append_nil,
      List.getElem?_cons_zero, List.getElem?_cons_succ, Option.some.injEq, V.int.injEq, V.bl.injEq, V.ref.injEq, V.str.injEq, exists_and_left, exists_eq_left', exists_eq_left, List.cons.injEq, cxOf_K, List.set, Int.reduceLT, true_and, and_true, decide_eq_true_eq, scal, HO.ins.injEq, HO.lst.injEq, HO.tup.injEq, and_assoc, exists_prop, List.append_nil])
local macro_rules | `(tactic| k_invariant "rd" $t) => `(tactic| try simp only [tSeq, tAsg, tSetLC, tRet, tRetN, tDrop, tIfS, tNext, tTest, tOp, tUn, rI, rI0, rU, tVar, tC, tCons, tNil, tTup, tLst, tTupN, tLstN, tBM, tCB, tCall, tMeth, tMake, tFld, sFld, sFldN, tMakeN, gName, tAndV, tOrV, tNotV, tAnd, tOr, tNot, tIf, tB, rEq, rNe, L2.start, List.map_cons, List.map_nil, List.length_cons, List.length_nil, Nat.reduceAdd, Nat.reduceSub, List.replicate, List.cons_append, List.nil_append, List.append_nil,
      List.getElem?_cons_zero, List.getElem?_cons_succ, Option.some.injEq, V.int.injEq, V.bl.injEq, V.ref.injEq, V.str.injEq, exists_and_left, exists_eq_left', exists_eq_left, List.cons.injEq, cxOf_K, List.set, Int.reduceLT, true_and, and_true, decide_eq_true_eq, scal, HO.ins.injEq, HO.lst.injEq, HO.tup.injEq, and_assoc, exists_prop, List.append_nil, $t:term])
structure HandC (K : PySem.W.Frag) (C : Addr) : Prop where
  cl : Cls K C
  n_number : NoAttr K C "number"
  n_others : NoAttr K C "others"
  n_flag : NoAttr K C "flag"
  n_ticket : NoAttr K C "ticket"
  n_word : NoAttr K C "word"
  n_place : NoAttr K C "place"
  n_greatest : NoAttr K C "greatest"
  m_turn_to : True
theorem HandC.all {K : PySem.W.Frag} {C : Addr} (c : HandC K C) : Cls K C ∧ NoAttr K C "number" ∧ NoAttr K C "others" ∧ NoAttr K C "flag" ∧ NoAttr K C "ticket" ∧ NoAttr K C "word" ∧ NoAttr K C "place" ∧ NoAttr K C "greatest" := ⟨c.cl, c.n_number, c.n_others, c.n_flag, c.n_ticket, c.n_word, c.n_place, c.n_greatest⟩
theorem hfs_len {i : Nat} {oa : Addr} {h : Rm.Hand} : (hfs i oa h).length < 1000 := by simp [hfs]
/-- what is read and written of a hand -/
theorem hfsF : (∀ i oa h, (hfs i oa h).lookup ("number" : Str) = some (.int i)) ∧ (∀ i oa h, (hfs i oa h).lookup ("others" : Str) = some (.ref oa)) ∧ (∀ i oa h, (hfs i oa h).lookup ("flag" : Str) = some (.bl h.flag)) ∧ (∀ i oa h, (hfs i oa h).lookup ("ticket" : Str) = some (.int h.ticket)) ∧
    (∀ i oa h, (hfs i oa h).lookup ("word" : Str) = some (.str (wS h.word))) ∧ (∀ i oa h, (hfs i oa h).lookup ("place" : Str) = some (.int h.place)) ∧ (∀ i oa h, (hfs i oa h).lookup ("greatest" : Str) = some (.int h.great)) ∧ (∀ i oa h, (hfs i oa h).length < 1000) :=
  ⟨fun _ _ _ => lk_number, fun _ _ _ => lk_others, fun _ _ _ => lk_flag, fun _ _ _ => lk_ticket, fun _ _ _ => lk_word, fun _ _ _ => lk_place, fun _ _ _ => lk_greatest, fun _ _ _ => hfs_len⟩
section
variable {P : Program} {w : World} {K : PySem.W.Frag} {mg : Str → Option Value} {base : Heap}
abbrev sTurn : Stmt := inClass (top 16) 2
def spTurn (C : Addr) : Sp := fun vs H Q _ => ∃ (a oa dx : Addr) (i p n : Nat) (h : Rm.Hand) (w b : Rm.W) (os : List V), vs = [.ref a, .int p, .str (wS w), .str (wS b)] ∧ H a = some (.ins C dx (hfs i oa h)) ∧ H oa = some (.lst os) ∧ os.length = n - 1 ∧
  ∀ G, Put H a (.ins C dx (hfs i oa (Rm.turn n h p w b))) G → Q .non G
theorem scTurn : FnScope ["self", "place", "word", "word_behind_all"] ["self", "place", "word", "word_behind_all"] (defScope sTurn) := ⟨rfl, rfl, rfl, by decide +kernel, rfl, by decide +kernel, by decide +kernel⟩
theorem ok_turn {f C : Addr} {fd : FuncData} (F : Fun K "turn_to" "Hand.turn_to" sTurn f fd) (T : Blt mg) (hC : HandC K C) : FnOk P w K mg base CX0 1 f fd ["self", "place", "word", "word_behind_all"] (spTurn C) := by
  refine F.ok scTurn (fun vs H Q E h => ?_) (fun cdv A outer s H vs Q E hr h => ?_)
  · obtain ⟨a, oa, dx, i, p, n, h, w, b, os, rfl, _⟩ := h
    rfl
  · obtain ⟨a, oa, dx, i, p, n, h, w, b, os, rfl, ha, ho, hl, q⟩ := h
    refine ⟨_, (pss_cons (ps_fldN (pv 0) (pv 1) rfl)
      (pss_one (ps_fldN (pv 0) (pe_ifExp (pt_cmpR op_lt (pv 1) (pe_callB call_len_seq (by rfl) T.b_len PyProof.Rows.Boot.len (pac (pe_fld (pv 0) rfl) pa_nil)) (nomark _)) (pv 2) (pv 3)) rfl))), ?_⟩
    k_invariant "rd" (And.intro ha (And.intro hC.all hfsF))
    intro G pu
    rw [pf_place] at pu
    have na : oa ≠ a := fun z => by rw [z, ha] at ho; cases ho
    have ho' : G oa = some (.lst os) := by rw [pu.ne na]; exact ho
    k_invariant "rd" (And.intro pu.at (And.intro hC.all hfsF))
    refine ⟨os, .inl (SqL.of ho'), ?_⟩
    split
    · rename_i hlt
      k_invariant "rd" (And.intro pu.at (And.intro hC.all hfsF))
      intro G2 pu2
      rw [pf_word] at pu2
      have := pu.two pu2
      refine q _ ?_
      simp only [Rm.turn, if_pos (show p < n - 1 by omega)]
      exact this
    · rename_i hlt
      k_invariant "rd" (And.intro pu.at (And.intro hC.all hfsF))
      intro G2 pu2
      rw [pf_word] at pu2
      have := pu.two pu2
      refine q _ ?_
      simp only [Rm.turn, if_neg (show ¬ p < n - 1 by omega)]
      exact this
/-! goes_first -/
abbrev sFirst : Stmt := top 17
def spFirst (C : Addr) : Sp := fun vs H Q _ => ∃ (a b oa ob dx dy : Addr) (i j : Nat) (h g : Rm.Hand), vs = [.ref a, .ref b] ∧ H a = some (.ins C dx (hfs i oa h)) ∧ H b = some (.ins C dy (hfs j ob g)) ∧ ∀ G, Same H G → Q (.bl (Rm.first h.ticket i g.ticket j)) G
theorem scFirst : FnScope ["other", "own"] ["other", "own"] (defScope sFirst) := ⟨rfl, rfl, rfl, by decide +kernel, rfl, by decide +kernel, by decide +kernel⟩
theorem ok_first {f C : Addr} {fd : FuncData} (F : Fun K "goes_first" "goes_first" sFirst f fd) (hC : HandC K C) : FnOk P w K mg base CX0 1 f fd ["other", "own"] (spFirst C) := by
  refine F.ok scFirst (fun vs H Q E h => ?_) (fun cdv A outer s H vs Q E hr h => ?_)
  · obtain ⟨a, b, oa, ob, dx, dy, i, j, h, g, rfl, _⟩ := h
    rfl
  · obtain ⟨a, b, oa, ob, dx, dy, i, j, h, g, rfl, ha, hb, q⟩ := h
    have hu : (A.deeper (PyProof.Rows.envOfC "goes_first" (defScope sFirst) s.heap.objs.size f cdv)).units < cLine := by have := hr.un; omega
    refine ⟨_, (pss_cons (ps_if (pt_cmpR op_eq (pe_fld (pv 0) rfl) pe_int (nomark _)) (pss_one (ps_ret pe_bl)) pss_nil)
      (pss_one (ps_ret (pe_cmpR (op_ltT hu) (pe_tupN (pac (pe_fld (pv 0) rfl) (pac (pe_fld (pv 0) rfl) pa_nil))) (pe_tupN (pac (pe_fld (pv 1) rfl) (pac (pe_fld (pv 1) rfl) pa_nil))) (nomark _))))), ?_⟩
    k_invariant "rd" (And.intro ha (And.intro hb (And.intro hC.all hfsF)))
    split
    · rename_i h0
      have e : Rm.first h.ticket i g.ticket j = false := by simp [Rm.first]; omega
      rw [← e]
      exact q _ (Same.refl _)
    · rename_i h0
      refine ⟨le_size (by decide), fun t G n1 => ?_⟩
      k_invariant "rd" (And.intro (n1.same _ _ hb) (And.intro hC.all hfsF))
      refine ⟨le_size (by decide), fun t2 G2 n2 => ⟨t, t2, [(h.ticket : Int), i], [(g.ticket : Int), j], rfl, rfl, SqT.of (n2.same _ _ n1.at), SqT.of n2.at, ?_⟩⟩
      have e : HT.lexLt [(h.ticket : Int), i] [(g.ticket : Int), j] = Rm.first h.ticket i g.ticket j := by
        rw [HT.lexLt_cons, HT.lexLt_cons, HT.lexLt_nil_nil]
        unfold Rm.first
        by_cases g1 : (h.ticket : Int) = g.ticket
        · rw [if_pos g1]
          by_cases g2 : (i : Int) = j
          · rw [if_pos g2]
            exact (decide_eq_false (by omega)).symm
          · rw [if_neg g2, decide_eq_decide]
            omega
        · rw [if_neg g1, decide_eq_decide]
          omega
      rw [e]
      exact q _ (n1.same.trans n2.same)
/-! the globals of the text -/
structure Con (mg : Str → Option Value) : Prop where
  g_BEGINS : ∃ t, mg "BEGINS" = some (.str "begins" t)
  g_LOOKS : ∃ t, mg "LOOKS" = some (.str "looks" t)
  g_DRAWS : ∃ t, mg "DRAWS" = some (.str "draws" t)
  g_LOWERS : ∃ t, mg "LOWERS" = some (.str "lowers" t)
  g_ASKS : ∃ t, mg "ASKS" = some (.str "asks" t)
  g_SEES : ∃ t, mg "SEES" = some (.str "sees" t)
  g_ENTERS : ∃ t, mg "ENTERS" = some (.str "enters" t)
  g_WITHIN : ∃ t, mg "WITHIN" = some (.str "within" t)
  g_OUT : ∃ t, mg "OUT" = some (.str "out" t)
theorem pe_gs {X : Cx} {x y : Str} {pos : Pos} (hg : Gl X x) (h : ∃ t, X.mg x = some (.str y t)) (hd : (x == ("__debug__" : Str)) = false := by decide) : PE X (.Name x pos) (tC (.str y)) := by
  obtain ⟨t, e⟩ := h
  exact pe_glob hg e ⟨t, rfl⟩ hd
/-! want_in, go_out -/
abbrev sWant : Stmt := inClass (top 16) 1
def spWant (C : Addr) : Sp := fun vs H Q _ => ∃ (a oa dx : Addr) (i : Nat) (h : Rm.Hand), vs = [.ref a] ∧ H a = some (.ins C dx (hfs i oa h)) ∧ ∀ G, Put H a (.ins C dx (hfs i oa { h with great := 0, word := .begins })) G → Q .non G
theorem scWant : FnScope ["self"] ["self"] (defScope sWant) := ⟨rfl, rfl, rfl, by decide +kernel, rfl, by decide +kernel, by decide +kernel⟩
theorem ok_want {f C : Addr} {fd : FuncData} (F : Fun K "want_in" "Hand.want_in" sWant f fd) (T : Con mg) (hC : HandC K C) : FnOk P w K mg base CX0 1 f fd ["self"] (spWant C) := by
  refine F.ok scWant (fun vs H Q E h => ?_) (fun cdv A outer s H vs Q E hr h => ?_)
  · obtain ⟨a, oa, dx, i, h, rfl, _⟩ := h
    rfl
  · obtain ⟨a, oa, dx, i, h, rfl, ha, q⟩ := h
    refine ⟨_, (pss_cons (ps_fldN (pv 0) pe_int rfl) (pss_one (ps_fldN (pv 0) (pe_gs (by rfl) T.g_BEGINS) rfl))), ?_⟩
    k_invariant "rd" (And.intro ha (And.intro hC.all hfsF))
    intro G pu
    have pu : Put H a (.ins C dx (putF "greatest" (.int ((0 : Nat) : Int)) (hfs i oa h))) G := pu
    rw [pf_greatest] at pu
    k_invariant "rd" (And.intro pu.at (And.intro hC.all hfsF))
    intro G2 pu2
    have pu2 : Put G a (.ins C dx (putF "word" (.str (wS .begins)) (hfs i oa { h with great := 0 }))) G2 := pu2
    rw [pf_word] at pu2
    exact q _ (pu.two pu2)
abbrev sGoOut : Stmt := inClass (top 16) 3
def spGoOut (C : Addr) : Sp := fun vs H Q _ => ∃ (a oa dx : Addr) (i : Nat) (h : Rm.Hand), vs = [.ref a] ∧ H a = some (.ins C dx (hfs i oa h)) ∧ ∀ G, Put H a (.ins C dx (hfs i oa (Rm.goOut h))) G → Q (.int h.ticket) G
theorem scGoOut : FnScope ["self", "had"] ["self"] (defScope sGoOut) := ⟨rfl, rfl, rfl, by decide +kernel, rfl, by decide +kernel, by decide +kernel⟩
theorem ok_goOut {f C : Addr} {fd : FuncData} (F : Fun K "go_out" "Hand.go_out" sGoOut f fd) (T : Con mg) (hC : HandC K C) : FnOk P w K mg base CX0 1 f fd ["self"] (spGoOut C) := by
  refine F.ok scGoOut (fun vs H Q E h => ?_) (fun cdv A outer s H vs Q E hr h => ?_)
  · obtain ⟨a, oa, dx, i, h, rfl, _⟩ := h
    rfl
  · obtain ⟨a, oa, dx, i, h, rfl, ha, q⟩ := h
    have SC := scGoOut
    refine ⟨_, (pss_cons (ps_set (i := 1) SC.nd (by rfl) (Or.inl (by rfl)) (pe_fld (pv 0) rfl))
      (pss_cons (ps_fldN (pv 0) pe_bl rfl)
      (pss_cons (ps_fldN (pv 0) pe_int rfl)
      (pss_cons (ps_fldN (pv 0) (pe_gs (by rfl) T.g_OUT) rfl)
      (pss_one (ps_ret (pv 1))))))), ?_⟩
    k_invariant "rd" (And.intro ha (And.intro hC.all hfsF))
    intro G pu
    rw [pf_flag] at pu
    k_invariant "rd" (And.intro pu.at (And.intro hC.all hfsF))
    intro G2 pu2
    have pu2 : Put G a (.ins C dx (putF "ticket" (.int ((0 : Nat) : Int)) (hfs i oa { h with flag := false }))) G2 := pu2
    rw [pf_ticket] at pu2
    k_invariant "rd" (And.intro pu2.at (And.intro hC.all hfsF))
    intro G3 pu3
    have pu3 : Put G2 a (.ins C dx (putF "word" (.str (wS .out)) (hfs i oa { h with flag := false, ticket := 0 }))) G3 := pu3
    rw [pf_word] at pu3
    exact q _ ((pu.two pu2).two pu3)
end
/-- behind: o at a, all else that was there stands -/
structure Chg (H : Hp) (a : Addr) (o : HO) (G : Hp) : Prop where
  «at» : G a = some o
  keep : ∀ c u, H c = some u → c ≠ a → G c = some u
theorem Chg.of {H G : Hp} {a : Addr} {o : HO} (p : Put H a o G) : Chg H a o G := ⟨p.at, fun c u e n => by rw [p.ne n]; exact e⟩
theorem Chg.put {H G G' : Hp} {a : Addr} {o o' : HO} (c : Chg H a o G) (p : Put G a o' G') : Chg H a o' G' := ⟨p.at, fun d u e n => by rw [p.ne n]; exact c.keep d u e n⟩
theorem Chg.same {H G G' : Hp} {a : Addr} {o : HO} (s : Same H G) (c : Chg G a o G') : Chg H a o G' := ⟨c.at, fun d u e n => c.keep d u (s d u e) n⟩
theorem Chg.then {H G G' : Hp} {a : Addr} {o : HO} (c : Chg H a o G) (s : Same G G') : Chg H a o G' := ⟨s _ _ c.at, fun d u e n => s _ _ (c.keep d u e n)⟩
theorem Chg.non {H G : Hp} {a : Addr} {o : HO} (s : Same H G) (e : H a = some o) : Chg H a o G := ⟨s _ _ e, fun d u h _ => s _ _ h⟩
section
variable {P : Program} {w : World} {K : PySem.W.Frag} {mg : Str → Option Value} {base : Heap}
/-- a step of a hand's own: n hands, h how it is, h' how it will be, v what is told -/
def spOwn (C : Addr) (g : Nat → Rm.Hand → Rm.Hand) (tell : Rm.Hand → V) : Sp := fun vs H Q _ => ∃ (a oa dx : Addr) (i n : Nat) (h : Rm.Hand) (os : List V), vs = [.ref a] ∧ H a = some (.ins C dx (hfs i oa h)) ∧ H oa = some (.lst os) ∧ os.length = n - 1 ∧
  ∀ G, Chg H a (.ins C dx (hfs i oa (g n h))) G → Q (tell h) G
/-- a step that looks at another hand's -/
def spLook (C : Addr) (g : Nat → Nat → Rm.Hand → Nat → Rm.Hand → Rm.Hand) (tell : Rm.Hand → V) : Sp := fun vs H Q _ => ∃ (a oa dx b ob dy : Addr) (i j n : Nat) (h o : Rm.Hand) (os : List V), vs = [.ref a, .ref b] ∧ a ≠ b ∧ H a = some (.ins C dx (hfs i oa h)) ∧ H oa = some (.lst os) ∧ os.length = n - 1 ∧
  H b = some (.ins C dy (hfs j ob o)) ∧ ∀ G, Chg H a (.ins C dx (hfs i oa (g n i h j o))) G → Q (tell o) G
def gBegins (n : Nat) (h : Rm.Hand) : Rm.Hand := Rm.turn n { h with flag := true } 0 .looks .draws
def gDraws (_ : Nat) (h : Rm.Hand) : Rm.Hand := { h with ticket := h.great + 1, word := .lowers }
def gLowers (n : Nat) (h : Rm.Hand) : Rm.Hand := Rm.turn n { h with flag := false } 0 .asks .enters
def gEnters (_ : Nat) (h : Rm.Hand) : Rm.Hand := { h with word := .within }
def gLooks (n i : Nat) (h : Rm.Hand) (j : Nat) (o : Rm.Hand) : Rm.Hand := Rm.turn n { h with great := max h.great o.ticket } (h.place + 1) .looks .draws
def gAsks (n i : Nat) (h : Rm.Hand) (j : Nat) (o : Rm.Hand) : Rm.Hand := if o.flag then h else { h with word := .sees }
def gSees (n i : Nat) (h : Rm.Hand) (j : Nat) (o : Rm.Hand) : Rm.Hand := if Rm.first o.ticket j h.ticket i then h else Rm.turn n h (h.place + 1) .asks .enters
theorem hfs_no {i : Nat} {oa : Addr} {h : Rm.Hand} : (hfs i oa h).lookup ("turn_to" : Str) = none := by
  have e1 : (("turn_to" : Str) == "number") = false := by decide +kernel
  have e2 : (("turn_to" : Str) == "others") = false := by decide +kernel
  have e3 : (("turn_to" : Str) == "flag") = false := by decide +kernel
  have e4 : (("turn_to" : Str) == "ticket") = false := by decide +kernel
  have e5 : (("turn_to" : Str) == "word") = false := by decide +kernel
  have e6 : (("turn_to" : Str) == "place") = false := by decide +kernel
  have e7 : (("turn_to" : Str) == "greatest") = false := by decide +kernel
  simp only [hfs, List.lookup, e1, e2, e3, e4, e5, e6, e7]
abbrev sBegins : Stmt := top 18
theorem scBegins : FnScope ["own"] ["own"] (defScope sBegins) := ⟨rfl, rfl, rfl, by decide +kernel, rfl, by decide +kernel, by decide +kernel⟩
theorem ok_begins {f C : Addr} {fd : FuncData} (F : Fun K "begins" "begins" sBegins f fd) (T : Con mg) (hC : HandC K C) (m_turn_to : MethBy P w K mg base CX0 1 C "turn_to" ["self", "place", "word", "word_behind_all"] (spTurn C)) : FnOk P w K mg base CX0 2 f fd ["own"] (spOwn C gBegins fun _ => .non) := by
  refine F.ok scBegins (fun vs H Q E h => ?_) (fun cdv A outer s H vs Q E hr h => ?_)
  · obtain ⟨a, oa, dx, i, n, h, os, rfl, _⟩ := h
    rfl
  · obtain ⟨a, oa, dx, i, n, h, os, rfl, ha, ho, hl, q⟩ := h
    refine ⟨_, (pss_cons (ps_fldN (pv 0) pe_bl rfl)
      (pss_cons (ps_expr (pe_me m_turn_to (pv 0) (hr.mono (by decide)) pass0 (pac pe_int (pac (pe_gs (by rfl) T.g_LOOKS) (pac (pe_gs (by rfl) T.g_DRAWS) pa_nil)))))
      (pss_one (ps_ret pe_non)))), ?_⟩
    k_invariant "rd" (And.intro ha (And.intro hC.all hfsF))
    intro G pu
    rw [pf_flag] at pu
    have na : oa ≠ a := fun z => by rw [z, ha] at ho; cases ho
    k_invariant "rd" (And.intro pu.at (And.intro hC.all hfsF))
    refine ⟨hfs_no, a, oa, dx, i, 0, n, _, .looks, .draws, os, rfl, pu.at, by rw [pu.ne na]; exact ho, hl, fun G2 pu2 => ?_⟩
    exact q _ (.of (pu.two pu2))
abbrev sLowers : Stmt := top 21
theorem scLowers : FnScope ["own"] ["own"] (defScope sLowers) := ⟨rfl, rfl, rfl, by decide +kernel, rfl, by decide +kernel, by decide +kernel⟩
theorem ok_lowers {f C : Addr} {fd : FuncData} (F : Fun K "lowers" "lowers" sLowers f fd) (T : Con mg) (hC : HandC K C) (m_turn_to : MethBy P w K mg base CX0 1 C "turn_to" ["self", "place", "word", "word_behind_all"] (spTurn C)) : FnOk P w K mg base CX0 2 f fd ["own"] (spOwn C gLowers fun _ => .non) := by
  refine F.ok scLowers (fun vs H Q E h => ?_) (fun cdv A outer s H vs Q E hr h => ?_)
  · obtain ⟨a, oa, dx, i, n, h, os, rfl, _⟩ := h
    rfl
  · obtain ⟨a, oa, dx, i, n, h, os, rfl, ha, ho, hl, q⟩ := h
    refine ⟨_, (pss_cons (ps_fldN (pv 0) pe_bl rfl)
      (pss_cons (ps_expr (pe_me m_turn_to (pv 0) (hr.mono (by decide)) pass0 (pac pe_int (pac (pe_gs (by rfl) T.g_ASKS) (pac (pe_gs (by rfl) T.g_ENTERS) pa_nil)))))
      (pss_one (ps_ret pe_non)))), ?_⟩
    k_invariant "rd" (And.intro ha (And.intro hC.all hfsF))
    intro G pu
    rw [pf_flag] at pu
    have na : oa ≠ a := fun z => by rw [z, ha] at ho; cases ho
    k_invariant "rd" (And.intro pu.at (And.intro hC.all hfsF))
    refine ⟨hfs_no, a, oa, dx, i, 0, n, _, .asks, .enters, os, rfl, pu.at, by rw [pu.ne na]; exact ho, hl, fun G2 pu2 => ?_⟩
    exact q _ (.of (pu.two pu2))
abbrev sDraws : Stmt := top 20
theorem scDraws : FnScope ["own"] ["own"] (defScope sDraws) := ⟨rfl, rfl, rfl, by decide +kernel, rfl, by decide +kernel, by decide +kernel⟩
theorem ok_draws {f C : Addr} {fd : FuncData} (F : Fun K "draws" "draws" sDraws f fd) (T : Con mg) (hC : HandC K C) : FnOk P w K mg base CX0 1 f fd ["own"] (spOwn C gDraws fun h => .int (h.great + 1 : Nat)) := by
  refine F.ok scDraws (fun vs H Q E h => ?_) (fun cdv A outer s H vs Q E hr h => ?_)
  · obtain ⟨a, oa, dx, i, n, h, os, rfl, _⟩ := h
    rfl
  · obtain ⟨a, oa, dx, i, n, h, os, rfl, ha, ho, hl, q⟩ := h
    refine ⟨_, (pss_cons (ps_fldN (pv 0) (pe_op op_add (pe_fld (pv 0) rfl) pe_int) rfl)
      (pss_cons (ps_fldN (pv 0) (pe_gs (by rfl) T.g_LOWERS) rfl)
      (pss_one (ps_ret (pe_fld (pv 0) rfl))))), ?_⟩
    k_invariant "rd" (And.intro ha (And.intro hC.all hfsF))
    intro G pu
    have pu : Put H a (.ins C dx (putF "ticket" (.int ((h.great + 1 : Nat) : Int)) (hfs i oa h))) G := pu
    rw [pf_ticket] at pu
    k_invariant "rd" (And.intro pu.at (And.intro hC.all hfsF))
    intro G2 pu2
    have pu2 : Put G a (.ins C dx (putF "word" (.str (wS .lowers)) (hfs i oa { h with ticket := h.great + 1 }))) G2 := pu2
    rw [pf_word] at pu2
    k_invariant "rd" (And.intro pu2.at (And.intro hC.all hfsF))
    exact q _ (.of (pu.two pu2))
abbrev sEnters : Stmt := top 24
theorem scEnters : FnScope ["own"] ["own"] (defScope sEnters) := ⟨rfl, rfl, rfl, by decide +kernel, rfl, by decide +kernel, by decide +kernel⟩
theorem ok_enters {f C : Addr} {fd : FuncData} (F : Fun K "enters" "enters" sEnters f fd) (T : Con mg) (hC : HandC K C) : FnOk P w K mg base CX0 1 f fd ["own"] (spOwn C gEnters fun h => .int h.ticket) := by
  refine F.ok scEnters (fun vs H Q E h => ?_) (fun cdv A outer s H vs Q E hr h => ?_)
  · obtain ⟨a, oa, dx, i, n, h, os, rfl, _⟩ := h
    rfl
  · obtain ⟨a, oa, dx, i, n, h, os, rfl, ha, ho, hl, q⟩ := h
    refine ⟨_, (pss_cons (ps_fldN (pv 0) (pe_gs (by rfl) T.g_WITHIN) rfl)
      (pss_one (ps_ret (pe_fld (pv 0) rfl)))), ?_⟩
    k_invariant "rd" (And.intro ha (And.intro hC.all hfsF))
    intro G pu
    have pu : Put H a (.ins C dx (putF "word" (.str (wS .within)) (hfs i oa h))) G := pu
    rw [pf_word] at pu
    k_invariant "rd" (And.intro pu.at (And.intro hC.all hfsF))
    exact q _ (.of pu)
abbrev sLooks : Stmt := top 19
theorem scLooks : FnScope ["own", "other"] ["own", "other"] (defScope sLooks) := ⟨rfl, rfl, rfl, by decide +kernel, rfl, by decide +kernel, by decide +kernel⟩
theorem ok_looks {f C : Addr} {fd : FuncData} (F : Fun K "looks" "looks" sLooks f fd) (T : Con mg) (b_max : mg "max" = none) (hC : HandC K C) (m_turn_to : MethBy P w K mg base CX0 1 C "turn_to" ["self", "place", "word", "word_behind_all"] (spTurn C)) : FnOk P w K mg base CX0 2 f fd ["own", "other"] (spLook C gLooks fun o => .int o.ticket) := by
  refine F.ok scLooks (fun vs H Q E h => ?_) (fun cdv A outer s H vs Q E hr h => ?_)
  · obtain ⟨a, oa, dx, b, ob, dy, i, j, n, h, o, os, rfl, _⟩ := h
    rfl
  · obtain ⟨a, oa, dx, b, ob, dy, i, j, n, h, o, os, rfl, ne, ha, ho, hl, hb, q⟩ := h
    refine ⟨_, (pss_cons (ps_fldN (pv 0) (pe_callB (call_max2 rfl) (by rfl) b_max PyProof.Rows.Boot.max (pac (pe_fld (pv 0) rfl) (pac (pe_fld (pv 1) rfl) pa_nil))) rfl)
      (pss_cons (ps_expr (pe_me m_turn_to (pv 0) (hr.mono (by decide)) pass0 (pac (pe_op op_add (pe_fld (pv 0) rfl) pe_int) (pac (pe_gs (by rfl) T.g_LOOKS) (pac (pe_gs (by rfl) T.g_DRAWS) pa_nil)))))
      (pss_one (ps_ret (pe_fld (pv 1) rfl))))), ?_⟩
    k_invariant "rd" (And.intro ha (And.intro hb (And.intro hC.all hfsF)))
    intro G pu
    have e : (if (h.great : Int) < (o.ticket : Int) then (o.ticket : Int) else (h.great : Int)) = ((max h.great o.ticket : Nat) : Int) := by
      split <;> omega
    simp only [gt_iff_lt, e] at pu
    rw [pf_greatest] at pu
    have na : oa ≠ a := fun z => by rw [z, ha] at ho; cases ho
    k_invariant "rd" (And.intro pu.at (And.intro hC.all hfsF))
    refine ⟨hfs_no, a, oa, dx, i, h.place + 1, n, _, .looks, .draws, os, rfl, pu.at, by rw [pu.ne na]; exact ho, hl, fun G2 pu2 => ?_⟩
    have pu3 := pu.two pu2
    have hb3 : G2 b = some (.ins C dy (hfs j ob o)) := by rw [pu3.ne (Ne.symm ne)]; exact hb
    k_invariant "rd" (And.intro hb3 (And.intro hC.all hfsF))
    exact q _ (.of pu3)
abbrev sAsks : Stmt := top 22
theorem scAsks : FnScope ["own", "other"] ["own", "other"] (defScope sAsks) := ⟨rfl, rfl, rfl, by decide +kernel, rfl, by decide +kernel, by decide +kernel⟩
theorem ok_asks {f C : Addr} {fd : FuncData} (F : Fun K "asks" "asks" sAsks f fd) (T : Con mg) (hC : HandC K C) : FnOk P w K mg base CX0 1 f fd ["own", "other"] (spLook C gAsks fun o => .int (if o.flag then 1 else 0)) := by
  refine F.ok scAsks (fun vs H Q E h => ?_) (fun cdv A outer s H vs Q E hr h => ?_)
  · obtain ⟨a, oa, dx, b, ob, dy, i, j, n, h, o, os, rfl, _⟩ := h
    rfl
  · obtain ⟨a, oa, dx, b, ob, dy, i, j, n, h, o, os, rfl, ne, ha, ho, hl, hb, q⟩ := h
    refine ⟨_, (pss_cons (ps_if (pt_val (pe_fld (pv 1) rfl)) (pss_one (ps_ret pe_int)) pss_nil)
      (pss_cons (ps_fldN (pv 0) (pe_gs (by rfl) T.g_SEES) rfl)
      (pss_one (ps_ret pe_int)))), ?_⟩
    k_invariant "rd" (And.intro ha (And.intro hb (And.intro hC.all hfsF)))
    unfold gAsks at q
    split
    · rename_i hf
      simp only [hf, if_true] at q
      exact q _ (.non (Same.refl _) ha)
    · rename_i hf
      simp only [hf, if_false] at q
      intro G pu
      have pu : Put H a (.ins C dx (putF "word" (.str (wS .sees)) (hfs i oa h))) G := pu
      rw [pf_word] at pu
      exact q _ (.of pu)
abbrev sSees : Stmt := top 23
theorem scSees : FnScope ["own", "other"] ["own", "other"] (defScope sSees) := ⟨rfl, rfl, rfl, by decide +kernel, rfl, by decide +kernel, by decide +kernel⟩
theorem ok_sees {f C : Addr} {fd : FuncData} (F : Fun K "sees" "sees" sSees f fd) (T : Con mg) (hC : HandC K C) (c_goes_first : FnBy P w K mg base CX0 1 "goes_first" ["other", "own"] (spFirst C)) (m_turn_to : MethBy P w K mg base CX0 1 C "turn_to" ["self", "place", "word", "word_behind_all"] (spTurn C)) : FnOk P w K mg base CX0 2 f fd ["own", "other"] (spLook C gSees fun o => .int o.ticket) := by
  refine F.ok scSees (fun vs H Q E h => ?_) (fun cdv A outer s H vs Q E hr h => ?_)
  · obtain ⟨a, oa, dx, b, ob, dy, i, j, n, h, o, os, rfl, _⟩ := h
    rfl
  · obtain ⟨a, oa, dx, b, ob, dy, i, j, n, h, o, os, rfl, ne, ha, ho, hl, hb, q⟩ := h
    refine ⟨_, (pss_cons (ps_if (pt_not (pt_val (pe_fn c_goes_first (hr.mono (by decide)) (by rfl) pass0 (pac (pv 1) (pac (pv 0) pa_nil))))) (pss_one (ps_expr (pe_me m_turn_to (pv 0) (hr.mono (by decide)) pass0 (pac (pe_op op_add (pe_fld (pv 0) rfl) pe_int) (pac (pe_gs (by rfl) T.g_ASKS) (pac (pe_gs (by rfl) T.g_ENTERS) pa_nil)))))) pss_nil)
      (pss_one (ps_ret (pe_fld (pv 1) rfl)))), ?_⟩
    walk_at "rd"
    refine ⟨b, a, ob, oa, dy, dx, j, i, o, h, rfl, hb, ha, fun G s1 => ⟨_, rfl, ?_⟩⟩
    unfold gSees at q
    cases hf : Rm.first o.ticket j h.ticket i with
    | true =>
      rw [if_neg (by simp)]
      simp only [hf, if_true] at q
      k_invariant "rd" (And.intro (s1 _ _ hb) (And.intro hC.all hfsF))
      exact q _ (.non s1 ha)
    | false =>
      rw [if_pos (by simp)]
      simp only [hf, Bool.false_eq_true, if_false] at q
      k_invariant "rd" (And.intro (s1 _ _ ha) (And.intro hC.all hfsF))
      refine ⟨hfs_no, a, oa, dx, i, h.place + 1, n, _, .asks, .enters, os, rfl, s1 _ _ ha, s1 _ _ ho, hl, fun G2 pu2 => ?_⟩
      have hb3 : G2 b = some (.ins C dy (hfs j ob o)) := by rw [pu2.ne (Ne.symm ne)]; exact s1 _ _ hb
      k_invariant "rd" (And.intro hb3 (And.intro hC.all hfsF))
      exact q _ (.same s1 (.of pu2))
end
/-- the hands of a room in a heap -/
structure AtHall (C L : Addr) (n : Nat) (ad oa dx : Nat → Addr) (s : Rm.Hands) (H : Hp) : Prop where
  lst : H L = some (.lst ((List.range n).map fun i => V.ref (ad i)))
  hand : ∀ i, i < n → H (ad i) = some (.ins C (dx i) (hfs i (oa i) (s i)))
  othr : ∀ i, i < n → H (oa i) = some (.lst ((List.range (n - 1)).map fun p => V.int (Rm.oth i p : Nat)))
section
variable {C L : Addr} {n : Nat} {ad oa dx : Nat → Addr} {s : Rm.Hands} {H G : Hp}
theorem hfs_inj {i j : Nat} {a b : Addr} {h k : Rm.Hand} (e : hfs i a h = hfs j b k) : i = j := by
  have := congrArg (List.lookup ("number" : Str)) e
  rw [lk_number, lk_number] at this
  simp only [Option.some.injEq, V.int.injEq] at this
  omega
theorem AtHall.inj (h : AtHall C L n ad oa dx s H) {i j : Nat} (hi : i < n) (hj : j < n) (e : ad i = ad j) : i = j := by
  have h1 := h.hand i hi
  rw [e, h.hand j hj] at h1
  simp only [Option.some.injEq, HO.ins.injEq] at h1
  exact (hfs_inj h1.2.2).symm
theorem AtHall.mono (h : AtHall C L n ad oa dx s H) (m : Same H G) : AtHall C L n ad oa dx s G := ⟨m _ _ h.lst, fun i hi => m _ _ (h.hand i hi), fun i hi => m _ _ (h.othr i hi)⟩
theorem AtHall.chg (h : AtHall C L n ad oa dx s H) {i : Nat} (hi : i < n) {h' : Rm.Hand} (c : Chg H (ad i) (.ins C (dx i) (hfs i (oa i) h')) G) : AtHall C L n ad oa dx (Rm.put s i h') G := by
  have ha := h.hand i hi
  refine ⟨c.keep _ _ h.lst fun e => ?_, fun j hj => ?_, fun j hj => c.keep _ _ (h.othr j hj) fun e => ?_⟩
  · rw [← e, h.lst] at ha; cases ha
  · by_cases e : j = i
    · subst e; rw [Rm.put_self]; exact c.at
    · rw [Rm.put_ne _ _ e]; exact c.keep _ _ (h.hand j hj) fun z => e (h.inj hj hi z)
  · rw [← e, h.othr j hj] at ha; cases ha
theorem AtHall.nth (h : AtHall C L n ad oa dx s H) {i : Nat} (hi : i < n) : atI ((List.range n).map fun i => V.ref (ad i)) (i : Int) = some (.ref (ad i)) :=
  atI_at (by rw [List.getElem?_map, List.getElem?_range hi]; rfl)
theorem oth_nth {i p : Nat} (hp : p < n - 1) : atI ((List.range (n - 1)).map fun p => V.int (Rm.oth i p : Nat)) (p : Int) = some (.int (Rm.oth i p : Nat)) :=
  atI_at (by rw [List.getElem?_map, List.getElem?_range hp]; rfl)
end
/-! a step -/
def isOwn : Rm.W → Bool
  | .begins | .draws | .lowers | .enters => true
  | _ => false
def isLook : Rm.W → Bool
  | .looks | .asks | .sees => true
  | _ => false
def gO : Rm.W → Nat → Rm.Hand → Rm.Hand
  | .begins => gBegins | .draws => gDraws | .lowers => gLowers | .enters => gEnters | _ => fun _ h => h
def tO : Rm.W → Rm.Hand → V
  | .draws => fun h => .int (h.great + 1 : Nat) | .enters => fun h => .int h.ticket | _ => fun _ => .non
def gL : Rm.W → Nat → Nat → Rm.Hand → Nat → Rm.Hand → Rm.Hand
  | .looks => gLooks | .asks => gAsks | .sees => gSees | _ => fun _ _ h _ _ => h
def tL : Rm.W → Rm.Hand → V
  | .asks => fun o => .int (if o.flag then 1 else 0) | _ => fun o => .int o.ticket
def oV : Option Nat → V
  | none => .non
  | some k => .int k
def stV (t : Rm.Told) : List V := [.str (wS t.1), oV t.2.1, oV t.2.2]
theorem step_own {n i : Nat} {s : Rm.Hands} (h : isOwn (s i).word = true) : Rm.stepH n s i = gO (s i).word n (s i) ∧ stV (Rm.toldS s i) = [.str (wS (s i).word), .non, tO (s i).word (s i)] := by
  cases e : (s i).word <;> rw [e] at h <;> first | exact absurd h (by decide) | (simp only [Rm.stepH, Rm.toldS, e]; exact ⟨rfl, rfl⟩)
theorem step_look {n i : Nat} {s : Rm.Hands} (h : isLook (s i).word = true) : Rm.stepH n s i = gL (s i).word n i (s i) (Rm.oth i (s i).place) (s (Rm.oth i (s i).place)) ∧
    stV (Rm.toldS s i) = [.str (wS (s i).word), .int (Rm.oth i (s i).place : Nat), tL (s i).word (s (Rm.oth i (s i).place))] := by
  cases e : (s i).word <;> rw [e] at h <;> first | exact absurd h (by decide) | (simp only [Rm.stepH, Rm.toldS, e]; refine ⟨rfl, ?_⟩; first | rfl | (simp only [stV, oV, tL]; split <;> rfl))
section
variable {P : Program} {w : World} {K : PySem.W.Frag} {mg : Str → Option Value} {base : Heap}
structure Steps (P : Program) (w : World) (K : PySem.W.Frag) (mg : Str → Option Value) (base : Heap) (C dO dL : Addr) : Prop where
  hO : mg "STEPS_OF_ITS_OWN" = some (.ref dO)
  hL : mg "STEPS_THAT_LOOK" = some (.ref dL)
  MO : DAt K w dO
  ML : DAt K w dL
  own : ∀ x, isOwn x = true → ∃ k f fd, k ≤ 2 ∧ PySem.W.nsIn K dO (wS x) = some (some (.ref f)) ∧ FnOk P w K mg base CX0 k f fd ["own"] (spOwn C (gO x) (tO x)) ∧ Binds K fd ["own"] [] ∧ PySem.W.keepIn K (.ref f) = true
  non : ∀ x, isOwn x = false → PySem.W.nsIn K dO (wS x) = some none
  look : ∀ x, isLook x = true → ∃ k f fd, k ≤ 2 ∧ PySem.W.nsIn K dL (wS x) = some (some (.ref f)) ∧ FnOk P w K mg base CX0 k f fd ["own", "other"] (spLook C (gL x) (tL x)) ∧ Binds K fd ["own", "other"] [] ∧ PySem.W.keepIn K (.ref f) = true
abbrev sStep : Stmt := top 27
def spStep (C : Addr) : Sp := fun vs H Q _ => ∃ (L : Addr) (n i : Nat) (ad oa dx : Nat → Addr) (s : Rm.Hands), vs = [.ref (ad i), .ref L] ∧ i < n ∧ AtHall C L n ad oa dx s H ∧ (isOwn (s i).word = true ∨ isLook (s i).word = true ∧ (s i).place < n - 1) ∧
  ∀ p G G', Chg H (ad i) (.ins C (dx i) (hfs i (oa i) (Rm.stepH n s i))) G → New G p (.tup (stV (Rm.toldS s i))) G' → Q (.ref p) G'
theorem scStep : FnScope ["own", "hands", "word", "other"] ["own", "hands"] (defScope sStep) := ⟨rfl, rfl, rfl, by decide +kernel, rfl, by decide +kernel, by decide +kernel⟩
theorem ok_step {f C dO dL : Addr} {fd : FuncData} (F : Fun K "step" "step" sStep f fd) (T : Steps P w K mg base C dO dL) (hC : HandC K C) : FnOk P w K mg base CX0 3 f fd ["own", "hands"] (spStep C) := by
  refine F.ok scStep (fun vs H Q E h => ?_) (fun cdv A outer s H vs Q E hr h => ?_)
  · obtain ⟨L, n, i, ad, oa, dx, s, rfl, _⟩ := h
    rfl
  · obtain ⟨L, n, i, ad, oa, dx, s', rfl, hi, hh, hw, q⟩ := h
    have SC := scStep
    have ha := hh.hand i hi
    refine ⟨_, (pss_cons (ps_set (i := 2) SC.nd (by rfl) (Or.inl (by rfl)) (pe_fld (pv 0) rfl))
      (pss_cons (ps_if (pt_cmpR op_inK (pv 2) (pe_glob (by rfl) T.hO (show RelV (.ref dO) _ from rfl)) (by rfl)) (pss_one (ps_ret (pe_tupN (pac (pv 2) (pac pe_non (pac (pe_callV (pe_ix ix_K (pe_glob (by rfl) T.hO (show RelV (.ref dO) _ from rfl)) (pv 2) (by exact fun _ _ => rfl)) (pac (pv 0) pa_nil)) pa_nil)))))) pss_nil)
      (pss_cons (ps_set (i := 3) SC.nd (by rfl) (Or.inl (by rfl)) (pe_ix ix_list (pv 1) (pe_ix ix_list (pe_fld (pv 0) rfl) (pe_fld (pv 0) rfl) (by exact fun _ _ => rfl)) (by exact fun _ _ => rfl)))
      (pss_one (ps_ret (pe_tupN (pac (pv 2) (pac (pe_fld (pv 3) rfl) (pac (pe_callV (pe_ix ix_K (pe_glob (by rfl) T.hL (show RelV (.ref dL) _ from rfl)) (pv 2) (by exact fun _ _ => rfl)) (pac (pv 0) (pac (pv 3) pa_nil))) pa_nil))))))))), ?_⟩
    k_invariant "rd" (And.intro ha (And.intro hC.all hfsF))
    rcases hw with hw | ⟨hw, hp⟩
    · obtain ⟨k, f1, fd1, hk, e1, F1, B1, k1⟩ := T.own _ hw
      refine ⟨dO, _, _, rfl, rfl, T.MO, e1, true, rfl, ?_⟩
      rw [if_pos rfl]
      refine ⟨_, rfl, dO, _, f1, rfl, rfl, T.MO, e1, f1, _, rfl, ⟨k, fd1, _, F1, hr.mono hk, B1, k1⟩, _, rfl, ad i, oa i, dx i, i, n, s' i, _, rfl, ha, hh.othr i hi, by simp, fun G c => ⟨by decide, fun p G' nw => q p G G' ?_ ?_⟩⟩
      · rw [(step_own (n := n) hw).1]; exact c
      · rw [(step_own (n := n) hw).2]; exact nw
    · obtain ⟨k, f1, fd1, hk, e1, F1, B1, k1⟩ := T.look _ hw
      have hn : isOwn (s' i).word = false := by revert hw; cases (s' i).word <;> decide
      have ho := Rm.oth_lt hi hp
      refine ⟨dO, _, _, rfl, rfl, T.MO, T.non _ hn, false, rfl, ?_⟩
      rw [if_neg (by decide)]
      k_invariant "rd" (And.intro ha (And.intro hC.all hfsF))
      refine ⟨_, _, _, _, rfl, rfl, .of (hh.othr i hi), oth_nth hp, _, _, _, _, rfl, rfl, .of hh.lst, hh.nth ho, ?_⟩
      k_invariant "rd" (And.intro (hh.hand _ ho) (And.intro hC.all hfsF))
      refine ⟨_, rfl, dL, _, f1, rfl, rfl, T.ML, e1, f1, _, rfl, ⟨k, fd1, _, F1, hr.mono hk, B1, k1⟩, _, rfl, _, rfl, ad i, oa i, dx i, ad (Rm.oth i (s' i).place), oa _, dx _, i, Rm.oth i (s' i).place, n, s' i, _, _, rfl,
        fun e => Rm.oth_ne i (s' i).place (hh.inj hi ho e).symm, ha, hh.othr i hi, by simp, hh.hand _ ho, fun G c => ⟨by decide, fun p G' nw => q p G G' ?_ ?_⟩⟩
      · rw [(step_look (n := n) hw).1]; exact c
      · rw [(step_look (n := n) hw).2]; exact nw
end
theorem wS_within (x : Rm.W) : (wS x = ("within" : Str)) = (x = .within) := by
  cases x <;> first | exact propext ⟨fun _ => rfl, fun _ => rfl⟩ | exact propext ⟨fun h => absurd h (by decide +kernel), fun h => absurd h (by decide)⟩
theorem wS_out (x : Rm.W) : (wS x = ("out" : Str)) = (x = .out) := by
  cases x <;> first | exact propext ⟨fun _ => rfl, fun _ => rfl⟩ | exact propext ⟨fun h => absurd h (by decide +kernel), fun h => absurd h (by decide)⟩
theorem wF : (∀ x, (wS x = ("within" : Str)) = (x = .within)) ∧ (∀ x, (wS x = ("out" : Str)) = (x = .out)) := ⟨wS_within, wS_out⟩
theorem hfs_not {m : Str} {i : Nat} {oa : Addr} {h : Rm.Hand} (e : (["number", "others", "flag", "ticket", "word", "place", "greatest"] : List Str).all (fun k => !(m == k)) = true) : (hfs i oa h).lookup m = none := by
  simp only [List.all_cons, List.all_nil, Bool.and_eq_true, Bool.not_eq_true'] at e
  simp only [hfs, List.lookup, e]
/-! the room -/
structure Ads where
  C : Addr
  R : Addr
  r : Addr
  dr : Addr
  L : Addr
  n : Nat
  ad : Nat → Addr
  oa : Nat → Addr
  dx : Nat → Addr
def rfs (L : Addr) : List (Str × V) := [("hands", .ref L)]
theorem rk_hands {L : Addr} : (rfs L).lookup ("hands" : Str) = some (.ref L) := by simp only [rfs, List.lookup, beq_self_eq_true]
theorem rk_no {L : Addr} {m : Str} (h : (m == "hands") = false) : (rfs L).lookup m = none := by simp only [rfs, List.lookup, h]
theorem rfsF : (∀ L, (rfs L).lookup ("hands" : Str) = some (.ref L)) ∧ (∀ L, (rfs L).length < 1000) := ⟨fun _ => rk_hands, fun _ => by simp [rfs]⟩
structure RoomC (K : PySem.W.Frag) (R : Addr) : Prop where
  cl : Cls K R
  n_hands : NoAttr K R "hands"
structure AtRoom (A : Ads) (s : Rm.Hands) (H : Hp) : Prop where
  room : H A.r = some (.ins A.R A.dr (rfs A.L))
  hall : AtHall A.C A.L A.n A.ad A.oa A.dx s H
/-- the room has come to s, all that is no hand stands -/
structure Mov (A : Ads) (s' : Rm.Hands) (H G : Hp) : Prop where
  «at» : AtRoom A s' G
  keep : ∀ c u, H c = some u → (∀ i, i < A.n → c ≠ A.ad i) → G c = some u
section
variable {A : Ads} {s s' s2 : Rm.Hands} {H G G' : Hp}
theorem AtRoom.same (h : AtRoom A s H) (m : Same H G) : AtRoom A s G := ⟨m _ _ h.room, h.hall.mono m⟩
theorem Mov.refl (h : AtRoom A s H) : Mov A s H H := ⟨h, fun _ _ e _ => e⟩
theorem Mov.same (h : Mov A s H G) (m : Same G G') : Mov A s H G' := ⟨h.at.same m, fun c u e n => m _ _ (h.keep c u e n)⟩
theorem Mov.trans (h : Mov A s H G) (h' : Mov A s' G G') : Mov A s' H G' := ⟨h'.at, fun c u e n => h'.keep c u (h.keep c u e n) n⟩
theorem AtRoom.chg (h : AtRoom A s H) {i : Nat} (hi : i < A.n) {h' : Rm.Hand} (rr : A.r ≠ A.ad i) (c : Chg H (A.ad i) (.ins A.C (A.dx i) (hfs i (A.oa i) h')) G) : Mov A (Rm.put s i h') H G :=
  ⟨⟨c.keep _ _ h.room rr, h.hall.chg hi c⟩, fun d u e n => c.keep d u e (n i hi)⟩
theorem AtRoom.ne (h : AtRoom A s H) (i : Nat) (hi : i < A.n) : A.r ≠ A.ad i := fun e => by
  have := h.hall.hand i hi
  rw [← e, h.room] at this
  simp only [Option.some.injEq, HO.ins.injEq] at this
  have := congrArg List.length this.2.2
  simp [rfs, hfs] at this
end
structure Exc (K : PySem.W.Frag) (mg : Str → Option Value) (eN eI eW eO : Addr) : Prop where
  c_NoHand : XCls K mg "NoHand" eN
  c_Within : XCls K mg "Within" eI
  c_WantsIn : XCls K mg "WantsIn" eW
  c_Out : XCls K mg "Out" eO
section
variable {P : Program} {w : World} {K : PySem.W.Frag} {mg : Str → Option Value} {base : Heap}
abbrev sHandOf : Stmt := inClass (top 30) 1
def spHandOf (C R eN : Addr) : Sp := fun vs H Q E => ∃ (A : Ads) (s : Rm.Hands) (z : Int), A.C = C ∧ A.R = R ∧ vs = [.ref A.r, .int z] ∧ AtRoom A s H ∧ (Rm.isHand A.n z = true → Q (.ref (A.ad z.toNat)) H) ∧ (Rm.isHand A.n z = false → E (.ref eN) none H)
theorem scHandOf : FnScope ["self", "number"] ["self", "number"] (defScope sHandOf) := ⟨rfl, rfl, rfl, by decide +kernel, rfl, by decide +kernel, by decide +kernel⟩
theorem ok_handOf {f C R eN eI eW eO : Addr} {fd : FuncData} (F : Fun K "hand_of" "Room.hand_of" sHandOf f fd) (T : Blt mg) (X : Exc K mg eN eI eW eO) (hR : RoomC K R) : FnOk P w K mg base (CXE P w) 1 f fd ["self", "number"] (spHandOf C R eN) := by
  refine F.okX scHandOf (fun vs H Q E h => ?_) (fun cdv A outer s H vs Q E hr h => ?_)
  · obtain ⟨A, s, z, _, _, rfl, _⟩ := h
    rfl
  · obtain ⟨D, s', z, rfl, rfl, rfl, hh, q1, q2⟩ := h
    refine ⟨_, (pss_cons (ps_if (pw_or (pt_cmpR op_lt (pv 1) pe_int (nomark _)) (pw_or1 (pt_cmpR op_ge (pv 1) (pe_callB call_len_seq (by rfl) T.b_len PyProof.Rows.Boot.len (pac (pe_fld (pv 0) rfl) pa_nil)) (nomark _)))).pt (pss_one (ps_raise xok_fn rfl (by rfl) X.c_NoHand (pac pe_str pa_nil))) pss_nil)
      (pss_one (ps_ret (pe_ix ix_list (pe_fld (pv 0) rfl) (pv 1) (by exact fun _ _ => rfl))))), ?_⟩
    k_invariant "rd" (And.intro hh.room (And.intro hR.cl (And.intro hR.n_hands rfsF)))
    have hn : D.n ≤ D.n := Nat.le_refl _
    by_cases h0 : z < 0
    · rw [if_pos h0, if_pos trivial]
      exact ⟨by decide, q2 (by simp [Rm.isHand]; omega)⟩
    · rw [if_neg h0]
      refine ⟨_, .inl (.of hh.hall.lst), ?_⟩
      rw [List.length_map, List.length_range]
      by_cases h1 : (D.n : Int) ≤ z
      · rw [if_pos h1]
        exact ⟨by decide, q2 (by simp [Rm.isHand]; omega)⟩
      · rw [if_neg h1]
        refine ⟨_, _, _, _, rfl, rfl, .of hh.hall.lst, ?_, q1 (by simp [Rm.isHand]; omega)⟩
        have e := hh.hall.nth (i := z.toNat) (by omega)
        rwa [show ((z.toNat : Nat) : Int) = z by omega] at e
abbrev sWantR : Stmt := inClass (top 30) 2
def spWantR (C R eN eI eW : Addr) : Sp := fun vs H Q E => ∃ (A : Ads) (s : Rm.Hands) (z : Int), A.C = C ∧ A.R = R ∧ vs = [.ref A.r, .int z] ∧ AtRoom A s H ∧ (Rm.isHand A.n z = false → E (.ref eN) none H) ∧
  (Rm.isHand A.n z = true → (s z.toNat).word = .within → E (.ref eI) none H) ∧ (Rm.isHand A.n z = true → (s z.toNat).word ≠ .within → (s z.toNat).word ≠ .out → E (.ref eW) none H) ∧
  (Rm.isHand A.n z = true → (s z.toNat).word = .out → ∀ G, Mov A (Rm.put s z.toNat { s z.toNat with great := 0, word := .begins }) H G → Q .non G)
theorem scWantR : FnScope ["self", "number", "hand"] ["self", "number"] (defScope sWantR) := ⟨rfl, rfl, rfl, by decide +kernel, rfl, by decide +kernel, by decide +kernel⟩
theorem ok_wantR {f C R eN eI eW eO : Addr} {fd : FuncData} (F : Fun K "want" "Room.want" sWantR f fd) (T : Con mg) (X : Exc K mg eN eI eW eO) (hR : RoomC K R) (hC : HandC K C) (m_hand_of : MethBy P w K mg base (CXE P w) 1 R "hand_of" ["self", "number"] (spHandOf C R eN))
    (m_want_in : MethBy P w K mg base CX0 1 C "want_in" ["self"] (spWant C)) : FnOk P w K mg base (CXE P w) 2 f fd ["self", "number"] (spWantR C R eN eI eW) := by
  refine F.okX scWantR (fun vs H Q E h => ?_) (fun cdv A outer s H vs Q E hr h => ?_)
  · obtain ⟨A, s, z, _, _, rfl, _⟩ := h
    rfl
  · obtain ⟨D, s', z, rfl, rfl, rfl, hh, q1, q2, q3, q4⟩ := h
    have SC := scWantR
    refine ⟨_, (pss_cons (ps_set (i := 2) SC.nd (by rfl) (Or.inl (by rfl)) (pe_meX m_hand_of (pv 0) (hr.mono (by decide)) xok_fn.pass (pac (pv 1) pa_nil)))
      (pss_cons (ps_if (pt_cmpR op_eq (pe_fld (pv 2) rfl) (pe_gs (by rfl) T.g_WITHIN) (nomark _)) (pss_one (ps_raise xok_fn rfl (by rfl) X.c_Within (pac pe_str pa_nil))) pss_nil)
      (pss_cons (ps_if (pt_cmpR op_ne (pe_fld (pv 2) rfl) (pe_gs (by rfl) T.g_OUT) (nomark _)) (pss_one (ps_raise xok_fn rfl (by rfl) X.c_WantsIn (pac pe_str pa_nil))) pss_nil)
      (pss_one (ps_expr (pe_me0 m_want_in (pv 2) (hr.mono (by decide)) pass0)))))), ?_⟩
    walk_at "rd"
    refine ⟨_, rfl, D.r, D.dr, _, rfl, hh.room, rk_no (by decide +kernel), _, rfl, D, s', z, rfl, rfl, rfl, hh, fun hz => ?_, q1⟩
    have hi : z.toNat < D.n := by simp [Rm.isHand] at hz; omega
    have ha := hh.hall.hand _ hi
    k_invariant "rd" (And.intro ha (And.intro hC.all (And.intro hfsF wF)))
    by_cases hw : (s' z.toNat).word = .within
    · rw [if_pos hw]
      exact ⟨by decide, q2 hz hw⟩
    rw [if_neg hw]
    by_cases ho : (s' z.toNat).word = .out
    · rw [if_neg (by simp [ho])]
      exact ⟨hfs_not (by decide +kernel), _, _, _, _, _, rfl, ha, fun G pu => q4 hz ho G (hh.chg hi (hh.ne _ hi) (.of pu))⟩
    · rw [if_pos (by simp [ho])]
      exact ⟨by decide, q3 hz hw ho⟩
abbrev sLeaveR : Stmt := inClass (top 30) 4
def spLeaveR (C R eN eO : Addr) : Sp := fun vs H Q E => ∃ (A : Ads) (s : Rm.Hands) (z : Int), A.C = C ∧ A.R = R ∧ vs = [.ref A.r, .int z] ∧ AtRoom A s H ∧ (Rm.isHand A.n z = false → E (.ref eN) none H) ∧
  (Rm.isHand A.n z = true → (s z.toNat).word = .out → E (.ref eO) none H) ∧ 
  (Rm.isHand A.n z = true → (s z.toNat).word ≠ .out → ∀ G, Mov A (Rm.put s z.toNat (Rm.goOut (s z.toNat))) H G → Q (.int (s z.toNat).ticket) G)
theorem scLeaveR : FnScope ["self", "number", "hand"] ["self", "number"] (defScope sLeaveR) := ⟨rfl, rfl, rfl, by decide +kernel, rfl, by decide +kernel, by decide +kernel⟩
theorem ok_leaveR {f C R eN eI eW eO : Addr} {fd : FuncData} (F : Fun K "leave" "Room.leave" sLeaveR f fd) (T : Con mg) (X : Exc K mg eN eI eW eO) (hR : RoomC K R) (hC : HandC K C) (m_hand_of : MethBy P w K mg base (CXE P w) 1 R "hand_of" ["self", "number"] (spHandOf C R eN))
    (m_go_out : MethBy P w K mg base CX0 1 C "go_out" ["self"] (spGoOut C)) : FnOk P w K mg base (CXE P w) 2 f fd ["self", "number"] (spLeaveR C R eN eO) := by
  refine F.okX scLeaveR (fun vs H Q E h => ?_) (fun cdv A outer s H vs Q E hr h => ?_)
  · obtain ⟨A, s, z, _, _, rfl, _⟩ := h
    rfl
  · obtain ⟨D, s', z, rfl, rfl, rfl, hh, q1, q2, q3⟩ := h
    have SC := scLeaveR
    refine ⟨_, (pss_cons (ps_set (i := 2) SC.nd (by rfl) (Or.inl (by rfl)) (pe_meX m_hand_of (pv 0) (hr.mono (by decide)) xok_fn.pass (pac (pv 1) pa_nil)))
      (pss_cons (ps_if (pt_cmpR op_eq (pe_fld (pv 2) rfl) (pe_gs (by rfl) T.g_OUT) (nomark _)) (pss_one (ps_raise xok_fn rfl (by rfl) X.c_Out (pac pe_str pa_nil))) pss_nil)
      (pss_one (ps_ret (pe_me0 m_go_out (pv 2) (hr.mono (by decide)) pass0))))), ?_⟩
    walk_at "rd"
    refine ⟨_, rfl, D.r, D.dr, _, rfl, hh.room, rk_no (by decide +kernel), _, rfl, D, s', z, rfl, rfl, rfl, hh, fun hz => ?_, q1⟩
    have hi : z.toNat < D.n := by simp [Rm.isHand] at hz; omega
    have ha := hh.hall.hand _ hi
    k_invariant "rd" (And.intro ha (And.intro hC.all (And.intro hfsF wF)))
    by_cases ho : (s' z.toNat).word = .out
    · rw [if_pos ho]
      exact ⟨by decide, q2 hz ho⟩
    · rw [if_neg ho]
      exact ⟨hfs_not (by decide +kernel), _, _, _, _, _, rfl, ha, fun G pu => q3 hz ho G (hh.chg hi (hh.ne _ hi) (.of pu))⟩
end
def goS (n i : Nat) (s : Rm.Hands) : Nat → Rm.Hands × List Rm.Told
  | 0 => (s, [])
  | k + 1 =>
    let r := goS n i s k
    if (r.1 i).word = .within then r else (Rm.put r.1 i (Rm.stepH n r.1 i), r.2 ++ [Rm.toldS r.1 i])
theorem goS_stop {n i : Nat} {s : Rm.Hands} {j : Nat} (h : ((goS n i s j).1 i).word = .within) : ∀ k, goS n i s (j + k) = goS n i s j
  | 0 => rfl
  | k + 1 => by
    show (if ((goS n i s (j + k)).1 i).word = .within then goS n i s (j + k) else _) = _
    rw [goS_stop h k, if_pos h]
theorem goS_go {n i : Nat} {s : Rm.Hands} {j : Nat} (h : ((goS n i s j).1 i).word ≠ .within) : goS n i s (j + 1) = (Rm.put (goS n i s j).1 i (Rm.stepH n (goS n i s j).1 i), (goS n i s j).2 ++ [Rm.toldS (goS n i s j).1 i]) := by
  show (if ((goS n i s j).1 i).word = .within then goS n i s j else _) = _
  rw [if_neg h]
theorem goA_S {n t i : Nat} {H : Rm.Hall} : ∀ k, (Rm.goA n t i H k).1.hands = (goS n i H.hands k).1 ∧ (Rm.goA n t i H k).2 = (goS n i H.hands k).2
  | 0 => ⟨rfl, rfl⟩
  | k + 1 => by
    obtain ⟨h1, h2⟩ := goA_S (n := n) (t := t) (i := i) (H := H) k
    simp only [Rm.goA, goS]
    rw [h1]
    split
    · exact ⟨h1, h2⟩
    · exact ⟨by simp only [Rm.stepA]; rw [h1], by rw [h2]⟩
/-- each address bears the tuple of a step -/
def Tups (G : Hp) : List Addr → List Rm.Told → Prop
  | [], [] => True
  | p :: ps, t :: ts => G p = some (.tup (stV t)) ∧ Tups G ps ts
  | _, _ => False
theorem Tups.mono {G G' : Hp} (m : ∀ p x, G p = some (.tup x) → G' p = some (.tup x)) : ∀ {ps : List Addr} {ts : List Rm.Told}, Tups G ps ts → Tups G' ps ts
  | [], [], _ => trivial
  | _ :: _, _ :: _, ⟨a, b⟩ => ⟨m _ _ a, Tups.mono m b⟩
  | [], _ :: _, h => h.elim
  | _ :: _, [], h => h.elim
theorem Tups.snoc {G : Hp} {p : Addr} {t : Rm.Told} (e : G p = some (.tup (stV t))) : ∀ {ps : List Addr} {ts : List Rm.Told}, Tups G ps ts → Tups G (ps ++ [p]) (ts ++ [t])
  | [], [], _ => ⟨e, trivial⟩
  | _ :: _, _ :: _, ⟨a, b⟩ => ⟨a, Tups.snoc e b⟩
  | [], _ :: _, h => h.elim
  | _ :: _, [], h => h.elim
theorem Tups.len {G : Hp} : ∀ {ps : List Addr} {ts : List Rm.Told}, Tups G ps ts → ps.length = ts.length
  | [], [], _ => rfl
  | _ :: _, _ :: _, ⟨_, b⟩ => by simp [Tups.len b]
  | [], _ :: _, h => h.elim
  | _ :: _, [], h => h.elim
theorem Mov.put {A : Ads} {s s' : Rm.Hands} {H G G' : Hp} {l : Addr} {o : HO} (h : AtRoom A s H) (m : Mov A s' H G) (hl : H l = none) (p : Put G l o G') : Mov A s' H G' := by
  have ne : ∀ c u, H c = some u → c ≠ l := fun c u e z => by rw [z, hl] at e; cases e
  refine ⟨⟨by rw [p.ne (ne _ _ h.room)]; exact m.at.room, by rw [p.ne (ne _ _ h.hall.lst)]; exact m.at.hall.lst, fun i hi => ?_, fun i hi => ?_⟩, fun c u e n => by rw [p.ne (ne _ _ e)]; exact m.keep c u e n⟩
  · rw [p.ne (ne _ _ (h.hall.hand i hi))]; exact m.at.hall.hand i hi
  · rw [p.ne (ne _ _ (h.hall.othr i hi))]; exact m.at.hall.othr i hi
theorem way_ok {n i : Nat} {s : Rm.Hands} (I : Rm.Inv n s) (hi : i < n) (h1 : (s i).word ≠ .within) (h2 : (s i).word ≠ .out) : isOwn (s i).word = true ∨ isLook (s i).word = true ∧ (s i).place < n - 1 := by
  cases e : (s i).word <;> simp only [isOwn, isLook, true_or, Bool.false_eq_true, false_or, true_and, false_and] <;> first | exact absurd e h1 | exact absurd e h2 | exact I.plcL i hi e | exact I.plcA i hi e | exact I.plcS i hi e
theorem step_out {n i : Nat} {s : Rm.Hands} (h : (s i).word ≠ .out) : (Rm.stepH n s i).word ≠ .out := by
  unfold Rm.stepH Rm.turn
  cases e : (s i).word <;> simp only [] <;> (try split) <;> (try simp) <;> (try split) <;> (try simp_all) <;> (try split) <;> simp
section
variable {P : Program} {w : World} {K : PySem.W.Frag} {mg : Str → Option Value} {base : Heap}
abbrev sGoR : Stmt := inClass (top 30) 3
def spGoR (C R eN eI eO : Addr) : Sp := fun vs H Q E => ∃ (A : Ads) (s : Rm.Hands) (z : Int) (k : Nat), A.C = C ∧ A.R = R ∧ vs = [.ref A.r, .int z, .int k] ∧ AtRoom A s H ∧ Rm.Inv A.n s ∧ k ≤ 1000 ∧ (Rm.isHand A.n z = false → E (.ref eN) none H) ∧
  (Rm.isHand A.n z = true → (s z.toNat).word = .out → E (.ref eO) none H) ∧ (Rm.isHand A.n z = true → (s z.toNat).word = .within → E (.ref eI) none H) ∧
  (Rm.isHand A.n z = true → (s z.toNat).word ≠ .out → (s z.toNat).word ≠ .within → ∀ l ps G, H l = none → Mov A (goS A.n z.toNat s k).1 H G → G l = some (.lst (ps.map V.ref)) → Tups G ps (goS A.n z.toNat s k).2 → Q (.ref l) G)
theorem scGoR : FnScope ["self", "number", "many", "hand", "done"] ["self", "number", "many"] (defScope sGoR) := ⟨rfl, rfl, rfl, by decide +kernel, rfl, by decide +kernel, by decide +kernel⟩
theorem ok_goR {f C R eN eI eW eO : Addr} {fd : FuncData} (F : Fun K "go" "Room.go" sGoR f fd) (T : Con mg) (B : Blt mg) (X : Exc K mg eN eI eW eO) (hR : RoomC K R) (hC : HandC K C) (m_hand_of : MethBy P w K mg base (CXE P w) 1 R "hand_of" ["self", "number"] (spHandOf C R eN))
    (c_step : FnBy P w K mg base CX0 3 "step" ["own", "hands"] (spStep C)) : FnOk P w K mg base (CXE P w) 4 f fd ["self", "number", "many"] (spGoR C R eN eI eO) := by
  refine F.okX scGoR (fun vs H Q E h => ?_) (fun cdv A outer s H vs Q E hr h => ?_)
  · obtain ⟨A, s, z, k, _, _, rfl, _⟩ := h
    rfl
  · obtain ⟨D, s', z, k, rfl, rfl, rfl, hh, hI, hk, q1, q2, q3, q4⟩ := h
    have SC := scGoR
    refine ⟨_, (pss_cons (ps_set (i := 3) SC.nd (by rfl) (Or.inl (by rfl)) (pe_meX m_hand_of (pv 0) (hr.mono (by decide)) xok_fn.pass (pac (pv 1) pa_nil)))
      (pss_cons (ps_if (pt_cmpR op_eq (pe_fld (pv 3) rfl) (pe_gs (by rfl) T.g_OUT) (nomark _)) (pss_one (ps_raise xok_fn rfl (by rfl) X.c_Out (pac pe_str pa_nil))) pss_nil)
      (pss_cons (ps_if (pt_cmpR op_eq (pe_fld (pv 3) rfl) (pe_gs (by rfl) T.g_WITHIN) (nomark _)) (pss_one (ps_raise xok_fn rfl (by rfl) X.c_Within (pac pe_str pa_nil))) pss_nil)
      (pss_cons (ps_set (i := 4) SC.nd (by rfl) (Or.inl (by rfl)) (pe_lstN pa_nil))
      (pss_cons (ps_while own_fn (pw_and (pt_cmpR op_lt (pe_callB call_len_seq (by rfl) B.b_len PyProof.Rows.Boot.len (pac (pv 4) pa_nil)) (pv 2) (nomark _)) (pw_and1 (pt_cmpR op_ne (pe_fld (pv 3) rfl) (pe_gs (by rfl) T.g_WITHIN) (nomark _)))).pt (pss_one (ps_expr (pe_bm PySem.F.plainAttrs_list PySem.F.slot_list_append PySem.F.type_list_append mt_appendN (pv 4) (pac (pe_fn c_step (hr.mono (by decide)) (by rfl) pass0 (pac (pv 3) (pac (pe_fld (pv 0) rfl) pa_nil))) pa_nil)))))
      (pss_one (ps_ret (pv 4)))))))), ?_⟩
    walk_at "rd"
    refine ⟨_, rfl, D.r, D.dr, _, rfl, hh.room, rk_no (by decide +kernel), _, rfl, D, s', z, rfl, rfl, rfl, hh, fun hz => ?_, q1⟩
    have hi : z.toNat < D.n := by simp [Rm.isHand] at hz; omega
    have ha := hh.hall.hand _ hi
    k_invariant "rd" (And.intro ha (And.intro hC.all (And.intro hfsF wF)))
    by_cases ho : (s' z.toNat).word = .out
    · rw [if_pos ho]
      exact ⟨by decide, q2 hz ho⟩
    rw [if_neg ho]
    by_cases hw : (s' z.toNat).word = .within
    · rw [if_pos hw]
      exact ⟨by decide, q3 hz hw⟩
    rw [if_neg hw]
    refine ⟨by decide, fun l G0 nw => ?_⟩
    have hl := nw.free
    refine ⟨fun m σ H1 => ∃ j ps, m = k - j ∧ j ≤ k ∧ σ = [some (V.ref D.r), some (V.int z), some (V.int ↑k), some (V.ref (D.ad z.toNat)), some (V.ref l)] ∧ Mov D (goS D.n z.toNat s' j).1 H H1 ∧ H1 l = some (.lst (ps.map V.ref)) ∧ Tups H1 ps (goS D.n z.toNat s' j).2 ∧ ps.length = j ∧
      Rm.Inv D.n (goS D.n z.toNat s' j).1 ∧ ((goS D.n z.toNat s' j).1 z.toNat).word ≠ .out, ⟨k, 0, [], rfl, Nat.zero_le _, rfl, (Mov.refl hh).same nw.same, nw.at, trivial, rfl, hI, ho⟩, ?_⟩
    rintro m σ H1 ⟨j, ps, rfl, hj, rfl, mv, el, tu, pl, I, nout⟩
    have ha1 := mv.at.hall.hand _ hi
    k_invariant "rd" (And.intro ha1 (And.intro hC.all (And.intro hfsF wF)))
    refine ⟨_, .inl (.of el), ?_⟩
    rw [List.length_map, pl]
    by_cases hjk : (j : Int) < k
    · rw [if_pos hjk]
      by_cases hwj : ((goS D.n z.toNat s' j).1 z.toNat).word = .within
      · rw [if_neg (by simp [hwj])]
        have e := goS_stop hwj (k - j)
        rw [show j + (k - j) = k by omega] at e
        refine q4 hz ho hw l ps H1 hl ?_ el ?_ <;> rw [e]
        · exact mv
        · exact tu
      · rw [if_pos (by simp [hwj])]
        refine ⟨_, fun σ' H' h => h, .inl ⟨rfl, _, .of el⟩, ?_⟩
        k_invariant "rd" (And.intro mv.at.room (And.intro hR.cl (And.intro hR.n_hands rfsF)))
        refine ⟨D.L, D.n, z.toNat, D.ad, D.oa, D.dx, _, rfl, hi, mv.at.hall, way_ok I hi hwj nout, fun p G G' c nt => ?_⟩
        have m2 := mv.trans (mv.at.chg hi (mv.at.ne _ hi) c)
        have el2 : G' l = some (.lst (ps.map V.ref)) := nt.same _ _ (c.keep _ _ el fun z => by rw [z, ha1] at el; cases el)
        have nl : ∀ q u, G' q = some (.tup u) → q ≠ l := fun q u e z => by rw [z, el2] at e; cases e
        refine ⟨l, _, _, rfl, rfl, el2, by rw [List.length_map, pl]; exact Nat.lt_of_lt_of_le (by omega) sizeLine_ge, fun G3 pu => ?_⟩
        refine ⟨k - (j + 1), by omega, j + 1, rfl, by omega, ?_⟩
        rw [goS_go hwj]
        have m3 := Mov.put hh (m2.same nt.same) hl pu
        refine ⟨m3, ps ++ [p], by rw [pu.at, List.map_append]; rfl, ?_, by simp [pl], Rm.inv_step I hi, ?_⟩
        · refine Tups.snoc ?_ (tu.mono fun q x e => ?_)
          · rw [pu.ne (nl _ _ nt.at)]; exact nt.at
          · have e1 : G' q = some (.tup x) := nt.same _ _ (c.keep _ _ e fun z => by rw [z, ha1] at e; cases e)
            rw [pu.ne (nl _ _ e1)]; exact e1
        · simp only [Rm.put_self]; exact step_out nout
    · rw [if_neg hjk, if_neg (by decide)]
      have e : j = k := by omega
      subst e
      exact q4 hz ho hw l ps H1 hl mv el tu
end
/-- one hand's turn in a round: the hands behind it, what is told -/
def turnS (n : Nat) (s : Rm.Hands) (i : Nat) : Rm.Hands × List (Nat × List V) :=
  if (s i).word = .within then (Rm.put s i (Rm.goOut (s i)), [(i, [.str "leaves", .non, .int (s i).ticket])])
  else if (s i).word = .out then (s, [])
  else (Rm.put s i (Rm.stepH n s i), [(i, stV (Rm.toldS s i))])
def roundS (n : Nat) (s : Rm.Hands) : Nat → Rm.Hands × List (Nat × List V)
  | 0 => (s, [])
  | k + 1 => ((turnS n (roundS n s k).1 k).1, (roundS n s k).2 ++ (turnS n (roundS n s k).1 k).2)
theorem roundS_len {n : Nat} {s : Rm.Hands} : ∀ k, (roundS n s k).2.length ≤ k
  | 0 => Nat.le_refl _
  | k + 1 => by
    have := roundS_len (n := n) (s := s) k
    have : (turnS n (roundS n s k).1 k).2.length ≤ 1 := by unfold turnS; split <;> (try split) <;> simp
    simp only [roundS, List.length_append]; omega
def Evs (G : Hp) : List Addr → List (Nat × List V) → Prop
  | [], [] => True
  | p :: ps, t :: ts => (∃ q, G p = some (.tup [.int t.1, .ref q]) ∧ G q = some (.tup t.2)) ∧ Evs G ps ts
  | _, _ => False
theorem Evs.mono {G G' : Hp} (m : ∀ p x, G p = some (.tup x) → G' p = some (.tup x)) : ∀ {ps : List Addr} {ts : List (Nat × List V)}, Evs G ps ts → Evs G' ps ts
  | [], [], _ => trivial
  | _ :: _, _ :: _, ⟨⟨q, a, c⟩, b⟩ => ⟨⟨q, m _ _ a, m _ _ c⟩, Evs.mono m b⟩
  | [], _ :: _, h => h.elim
  | _ :: _, [], h => h.elim
theorem Evs.snoc {G : Hp} {p q : Addr} {t : Nat × List V} (e : G p = some (.tup [.int t.1, .ref q])) (e' : G q = some (.tup t.2)) : ∀ {ps : List Addr} {ts : List (Nat × List V)}, Evs G ps ts → Evs G (ps ++ [p]) (ts ++ [t])
  | [], [], _ => ⟨⟨q, e, e'⟩, trivial⟩
  | _ :: _, _ :: _, ⟨a, b⟩ => ⟨a, Evs.snoc e e' b⟩
  | [], _ :: _, h => h.elim
  | _ :: _, [], h => h.elim
theorem Evs.len {G : Hp} : ∀ {ps : List Addr} {ts : List (Nat × List V)}, Evs G ps ts → ps.length = ts.length
  | [], [], _ => rfl
  | _ :: _, _ :: _, ⟨_, b⟩ => by simp [Evs.len b]
  | [], _ :: _, h => h.elim
  | _ :: _, [], h => h.elim
section
variable {P : Program} {w : World} {K : PySem.W.Frag} {mg : Str → Option Value} {base : Heap}
theorem mono_fldv {k : Nat} {f : Str} {σ : St} {H : Hp} {R R' : V → Hp → Prop} (i : ∀ v H, R v H → R' v H) : tFld K (tVar k) f σ H R → tFld K (tVar k) f σ H R' :=
  fun ⟨v, e, a, C, dx, fs, h1, h2, h3, h4, u, h5, q⟩ => ⟨v, e, a, C, dx, fs, h1, h2, h3, h4, u, h5, i _ _ q⟩
theorem app_ev {D : Ads} {s0 s1 : Rm.Hands} {H H2 G1 G2 G3 : Hp} {l p q : Addr} {ps : List Addr} {ts : List (Nat × List V)} {i : Nat} {h' : Rm.Hand} {x : List V} (hi : i < D.n) (hh : AtRoom D s0 H) (hl : H l = none) (mv : Mov D s1 H H2) (el : H2 l = some (.lst (ps.map V.ref))) (ev : Evs H2 ps ts)
    (c : Chg H2 (D.ad i) (.ins D.C (D.dx i) (hfs i (D.oa i) h')) G1) (s12 : Same G1 G2) (ep : G2 p = some (.tup [.int i, .ref q])) (eq : G2 q = some (.tup x)) (ps' : List Addr) (ts' : List (Nat × List V)) :
    G2 l = some (.lst (ps.map V.ref)) ∧ (Put G2 l (.lst (ps.map V.ref ++ [.ref p])) G3 → Mov D (Rm.put s1 i h') H G3 ∧ ∃ x', G3 l = some (.lst (x'.map V.ref)) ∧ Evs G3 x' (ts ++ [(i, x)])) := by
  have ha := mv.at.hall.hand i hi
  have m2 := mv.trans (mv.at.chg hi (mv.at.ne _ hi) c)
  have el2 : G2 l = some (.lst (ps.map V.ref)) := s12 _ _ (c.keep _ _ el fun z => by rw [z, ha] at el; cases el)
  refine ⟨el2, fun pu => ⟨Mov.put hh (m2.same s12) hl pu, ps ++ [p], by rw [pu.at, List.map_append]; rfl, ?_⟩⟩
  have nl : ∀ a u, G2 a = some (.tup u) → G3 a = some (.tup u) := fun a u e => by
    rw [pu.ne fun z => by rw [z, el2] at e; cases e]; exact e
  refine Evs.snoc (q := q) (nl _ _ ep) (nl _ _ eq) (ev.mono fun a u e => nl _ _ (s12 _ _ (c.keep _ _ e fun z => ?_)))
  rw [z, ha] at e; cases e
abbrev sRound : Stmt := inClass (top 30) 5
def spRound (C R : Addr) : Sp := fun vs H Q _ => ∃ (A : Ads) (s : Rm.Hands), A.C = C ∧ A.R = R ∧ vs = [.ref A.r] ∧ AtRoom A s H ∧ Rm.Inv A.n s ∧ A.n ≤ 900 ∧
  ∀ l ps G, H l = none → Mov A (roundS A.n s A.n).1 H G → G l = some (.lst (ps.map V.ref)) → Evs G ps (roundS A.n s A.n).2 → Q (.ref l) G
theorem scRound : FnScope ["self", "done", "hand"] ["self"] (defScope sRound) := ⟨rfl, rfl, rfl, by decide +kernel, rfl, by decide +kernel, by decide +kernel⟩
theorem ok_round {f C R : Addr} {fd : FuncData} (F : Fun K "go_round" "Room.go_round" sRound f fd) (T : Con mg) (g_LEAVES : ∃ t, mg "LEAVES" = some (.str "leaves" t)) (hR : RoomC K R) (hC : HandC K C)
    (c_step : FnBy P w K mg base CX0 3 "step" ["own", "hands"] (spStep C)) (m_go_out : MethBy P w K mg base CX0 1 C "go_out" ["self"] (spGoOut C)) : FnOk P w K mg base CX0 4 f fd ["self"] (spRound C R) := by
  refine F.ok scRound (fun vs H Q E h => ?_) (fun cdv A outer s H vs Q E hr h => ?_)
  · obtain ⟨A, s, _, _, rfl, _⟩ := h
    rfl
  · obtain ⟨D, s', rfl, rfl, rfl, hh, hI, hn, q⟩ := h
    have SC := scRound
    refine ⟨_, (pss_cons (ps_set (i := 1) SC.nd (by rfl) (Or.inl (by rfl)) (pe_lstN pa_nil))
      (pss_cons (ps_for PassesOwn.never rfl (pi_list (pe_fld (pv 0) rfl)) (pg_name (i := 2) SC.nd (by rfl) (Or.inl (by rfl))) (pss_one (ps_if (pt_cmpR op_eq (pe_fld (pv 2) rfl) (pe_gs (by rfl) T.g_WITHIN) (nomark _)) (pss_one (ps_expr (pe_bm PySem.F.plainAttrs_list PySem.F.slot_list_append PySem.F.type_list_append mt_appendN (pv 1) (pac (pe_tupN (pac (pe_fld (pv 2) rfl) (pac (pe_tupN (pac (pe_gs (by rfl) g_LEAVES) (pac pe_non (pac (pe_me0 m_go_out (pv 2) (hr.mono (by decide)) pass0) pa_nil)))) pa_nil))) pa_nil)))) (pss_one (ps_if (pt_cmpR op_ne (pe_fld (pv 2) rfl) (pe_gs (by rfl) T.g_OUT) (nomark _)) (pss_one (ps_expr (pe_bm PySem.F.plainAttrs_list PySem.F.slot_list_append PySem.F.type_list_append mt_appendN (pv 1) (pac (pe_tupN (pac (pe_fld (pv 2) rfl) (pac (pe_fn c_step (hr.mono (by decide)) (by rfl) pass0 (pac (pv 2) (pac (pe_fld (pv 0) rfl) pa_nil))) pa_nil))) pa_nil)))) pss_nil)))))
      (pss_one (ps_ret (pv 1))))), ?_⟩
    walk_at "rd"
    refine ⟨by decide, fun l G0 nw => ?_⟩
    have hl := nw.free
    have h1 := hh.same nw.same
    refine rfor_list (fun R R' i => mono_fldv i) ?_
    k_invariant "rd" (And.intro h1.room (And.intro hR.cl (And.intro hR.n_hands rfsF)))
    refine ⟨_, .of h1.hall.lst, fun k σ H2 => ∃ x ps, σ = [some (V.ref D.r), some (V.ref l), x] ∧ Mov D (roundS D.n s' k).1 H H2 ∧ H2 l = some (.lst (ps.map V.ref)) ∧ Evs H2 ps (roundS D.n s' k).2 ∧ Rm.Inv D.n (roundS D.n s' k).1,
      ⟨none, [], rfl, (Mov.refl hh).same nw.same, nw.at, trivial, hI⟩, fun i σ2 H2 _ ⟨x, ps, _, mv, _⟩ => .of mv.at.hall.lst, ?_, ?_⟩
    · rintro i x σ2 H2 hx ⟨x0, ps, rfl, mv, el, ev, I⟩
      have hi : i < D.n := by
        have := (List.getElem?_eq_some_iff.mp hx).1
        simpa using this
      have ex : x = .ref (D.ad i) := by
        rw [List.getElem?_map, List.getElem?_range hi] at hx
        exact (Option.some.inj hx).symm
      subst ex
      have pl := ev.len
      have rl := roundS_len (n := D.n) (s := s') i
      have ha1 := mv.at.hall.hand _ hi
      have ln : (ps.map V.ref).length < sizeLine := by rw [List.length_map]; exact Nat.lt_of_lt_of_le (by omega) sizeLine_ge
      k_invariant "rd" (And.intro ha1 (And.intro hC.all (And.intro hfsF wF)))
      by_cases hw : ((roundS D.n s' i).1 i).word = .within
      · rw [if_pos hw]
        refine ⟨.inl ⟨rfl, _, .of el⟩, hfs_not (by decide +kernel), _, _, _, _, _, rfl, ha1, fun G1 pu => ⟨by decide, fun p2 G2 n2 => ⟨by decide, fun p3 G3 n3 => ?_⟩⟩⟩
        have ap := fun G4 => app_ev (G3 := G4) hi hh hl mv el ev (.of pu) (n2.same.trans n3.same) n3.at (n3.same _ _ n2.at) [] []
        refine ⟨l, _, _, rfl, rfl, (ap G3).1, ln, fun G4 pu4 => ?_⟩
        have e : roundS D.n s' (i + 1) = (Rm.put (roundS D.n s' i).1 i (Rm.goOut ((roundS D.n s' i).1 i)), (roundS D.n s' i).2 ++ [(i, [.str "leaves", .non, .int ((roundS D.n s' i).1 i).ticket])]) := by
          simp only [roundS, turnS, hw, if_true]
        rw [e]
        obtain ⟨a, x', b, c⟩ := (ap G4).2 pu4
        exact ⟨a, x', b, c, Rm.inv_set I hi (.inl rfl) rfl rfl⟩
      rw [if_neg hw]
      by_cases ho : ((roundS D.n s' i).1 i).word = .out
      · rw [if_neg (by simp [ho])]
        have e : roundS D.n s' (i + 1) = roundS D.n s' i := by
          simp [roundS, turnS, ho]
        rw [e]
        exact ⟨mv, ps, el, ev, I⟩
      · rw [if_pos (by simp [ho])]
        refine ⟨.inl ⟨rfl, _, .of el⟩, ?_⟩
        k_invariant "rd" (And.intro mv.at.room (And.intro hR.cl (And.intro hR.n_hands rfsF)))
        refine ⟨D.L, D.n, i, D.ad, D.oa, D.dx, _, rfl, hi, mv.at.hall, way_ok I hi hw ho, fun p G G' c nt => ⟨by decide, fun p3 G3 n3 => ?_⟩⟩
        have ap := fun G4 => app_ev (G3 := G4) hi hh hl mv el ev c (nt.same.trans n3.same) n3.at (n3.same _ _ nt.at) [] []
        refine ⟨l, _, _, rfl, rfl, (ap G3).1, ln, fun G4 pu4 => ?_⟩
        have e : roundS D.n s' (i + 1) = (Rm.put (roundS D.n s' i).1 i (Rm.stepH D.n (roundS D.n s' i).1 i), (roundS D.n s' i).2 ++ [(i, stV (Rm.toldS (roundS D.n s' i).1 i))]) := by
          simp only [roundS, turnS, hw, ho, if_false]
        rw [e]
        obtain ⟨a, x', b, c⟩ := (ap G4).2 pu4
        exact ⟨a, x', b, c, Rm.inv_step I hi⟩
    · rintro σ2 H2 ⟨x0, ps, rfl, mv, el, ev, I⟩
      rw [List.length_map, List.length_range] at mv ev
      exact ⟨_, rfl, q l ps H2 hl mv el ev⟩
end
section
variable {P : Program} {w : World} {K : PySem.W.Frag} {mg : Str → Option Value} {base : Heap}
abbrev sHandI : Stmt := inClass (top 16) 0
def othL (i n : Nat) : List V := (List.range (n - 1)).map fun p => V.int (Rm.oth i p : Nat)
def spHandI (C : Addr) : Sp := fun vs H Q _ => ∃ (a dx : Addr) (i n : Nat), vs = [.ref a, .int i, .int n] ∧ H a = some (.ins C dx []) ∧ i < n ∧ n ≤ 900 ∧
  ∀ oa G, H oa = none → G oa = some (.lst (othL i n)) → Chg H a (.ins C dx (hfs i oa Rm.out0)) G → Q .non G
theorem scHandI : FnScope ["self", "number", "count"] ["self", "number", "count"] (defScope sHandI) := ⟨rfl, rfl, rfl, by decide +kernel, rfl, by decide +kernel, by decide +kernel⟩
theorem ok_handI {f C : Addr} {fd : FuncData} (F : Fun K "__init__" "Hand.__init__" sHandI f fd) (T : Con mg) (B : Blt mg) (hC : HandC K C) : FnOk P w K mg base CX0 1 f fd ["self", "number", "count"] (spHandI C) := by
  refine F.ok scHandI (fun vs H Q E h => ?_) (fun cdv A outer s H vs Q E hr h => ?_)
  · obtain ⟨a, dx, i, n, rfl, _⟩ := h
    rfl
  · obtain ⟨a, dx, i, n, rfl, ha, hi, hn, q⟩ := h
    have SC := scHandI
    refine ⟨_, (pss_cons (ps_fldN (pv 0) (pv 1) rfl)
      (pss_cons (ps_fldN (pv 0) (pe_lc (N' := ["other", "number"]) (ix := [none, some 1]) (by exact comp_sc rfl (by rfl) (by rfl)) rfl (pi_range1 (by rfl) B.b_range (pac (pv 2) pa_nil)) (fun _ _ _ _ _ => (pg_comp (i := 0) (by decide +kernel) (by rfl) (by rfl))) (fun _ _ _ _ _ => (pts_one (pt_cmpR op_ne (pv 0) (pv 1) (nomark _)))) (fun _ _ _ _ _ => (pv 0))) rfl)
      (pss_cons (ps_fldN (pv 0) pe_bl rfl)
      (pss_cons (ps_fldN (pv 0) pe_int rfl)
      (pss_cons (ps_fldN (pv 0) (pe_gs (by rfl) T.g_OUT) rfl)
      (pss_cons (ps_fldN (pv 0) pe_int rfl)
      (pss_one (ps_fldN (pv 0) pe_int rfl)))))))), ?_⟩
    k_invariant "rd" (And.intro ha hC.all)
    refine ⟨by decide, fun G1 p1 => ?_⟩
    have e1 : putF "number" (V.int (i : Int)) [] = [(("number" : Str), V.int i)] := rfl
    rw [e1] at p1
    refine rlc_range (fun R R' hR ⟨v, e, q⟩ => ⟨v, e, hR _ _ q⟩) ⟨_, rfl, n, rfl, by omega, by omega, fun acc hacc => ⟨fun k σ H2 => ∃ x, σ = [x, some (.int i)] ∧ H2 = upd G1 acc (.lst (((List.range k).filter (fun k => decide (k ≠ i))).map fun p => V.int (p : Nat))), ⟨none, rfl, rfl⟩, ?_, ?_⟩⟩
    · rintro k σ H2 hk ⟨x, rfl, rfl⟩
      walk_at "rd"
      simp only [Int.zero_add, V.int.injEq]
      rw [List.range_succ, List.filter_append, List.map_append]
      by_cases e : k = i
      · subst e
        simp
      · have e' : ¬ (k : Int) = i := by omega
        rw [if_pos (by simp [e'])]
        refine ⟨_, upd_same, ?_, ?_⟩
        · rw [List.length_map]
          refine Nat.lt_of_lt_of_le (Nat.lt_of_le_of_lt (List.length_filter_le _ _) ?_) sizeLine_ge
          rw [List.length_range]; omega
        · rw [upd_upd]; simp [e]
    · rintro σ2 G2 ⟨x, rfl, e⟩
      rw [Int.toNat_natCast, Rm.range_filter_ne n i hi, List.map_map] at e
      have nw : New G1 acc (.lst (othL i n)) G2 := ⟨hacc, e⟩
      have na : acc ≠ a := fun z => by rw [z, p1.at] at hacc; cases hacc
      have hac : H acc = none := by rw [p1.ne na] at hacc; exact hacc
      have c2 := (Chg.of p1).then nw.same
      have o2 := nw.at
      k_invariant "rd" (And.intro c2.at hC.all)
      refine ⟨by decide, fun G3 p3 => ?_⟩
      simp only [putF, ne_number_others, if_false] at p3
      have c3 := c2.put p3
      have o3 : G3 acc = some (.lst (othL i n)) := by rw [p3.ne na]; exact o2
      k_invariant "rd" (And.intro c3.at hC.all)
      refine ⟨by decide, fun G4 p4 => ?_⟩
      simp only [putF, ne_number_flag, ne_others_flag, if_false] at p4
      have c4 := c3.put p4
      have o4 : G4 acc = some (.lst (othL i n)) := by rw [p4.ne na]; exact o3
      k_invariant "rd" (And.intro c4.at hC.all)
      refine ⟨by decide, fun G5 p5 => ?_⟩
      simp only [putF, ne_number_ticket, ne_others_ticket, ne_flag_ticket, if_false] at p5
      have c5 := c4.put p5
      have o5 : G5 acc = some (.lst (othL i n)) := by rw [p5.ne na]; exact o4
      k_invariant "rd" (And.intro c5.at hC.all)
      refine ⟨by decide, fun G6 p6 => ?_⟩
      simp only [putF, ne_number_word, ne_others_word, ne_flag_word, ne_ticket_word, if_false] at p6
      have c6 := c5.put p6
      have o6 : G6 acc = some (.lst (othL i n)) := by rw [p6.ne na]; exact o5
      k_invariant "rd" (And.intro c6.at hC.all)
      refine ⟨by decide, fun G7 p7 => ?_⟩
      simp only [putF, ne_number_place, ne_others_place, ne_flag_place, ne_ticket_place, ne_word_place, if_false] at p7
      have c7 := c6.put p7
      have o7 : G7 acc = some (.lst (othL i n)) := by rw [p7.ne na]; exact o6
      k_invariant "rd" (And.intro c7.at hC.all)
      refine ⟨by decide, fun G8 p8 => ?_⟩
      simp only [putF, ne_number_greatest, ne_others_greatest, ne_flag_greatest, ne_ticket_greatest, ne_word_greatest, ne_place_greatest, if_false] at p8
      have c8 := c7.put p8
      have o8 : G8 acc = some (.lst (othL i n)) := by rw [p8.ne na]; exact o7
      exact q acc G8 hac o8 c8
end
section
variable {P : Program} {w : World} {K : PySem.W.Frag} {mg : Str → Option Value} {base : Heap}
abbrev sRoomI : Stmt := inClass (top 30) 0
def spRoomI (C R : Addr) : Sp := fun vs H Q _ => ∃ (r dr : Addr) (n : Nat), vs = [.ref r, .int n] ∧ H r = some (.ins R dr []) ∧ n ≤ 900 ∧
  ∀ (A : Ads) G, A.C = C → A.R = R → A.r = r → A.n = n → AtRoom A (fun _ => Rm.out0) G → H A.L = none → (∀ i, i < n → H (A.ad i) = none ∧ H (A.oa i) = none) → (∀ c u, H c = some u → c ≠ r → G c = some u) → Q .non G
theorem scRoomI : FnScope ["self", "count"] ["self", "count"] (defScope sRoomI) := ⟨rfl, rfl, rfl, by decide +kernel, rfl, by decide +kernel, by decide +kernel⟩
theorem ok_roomI {f C R : Addr} {fd : FuncData} (F : Fun K "__init__" "Room.__init__" sRoomI f fd) (B : Blt mg) (hR : RoomC K R) (m_Hand : MakeBy P w K mg base CX0 1 "Hand" C ["self", "number", "count"] (spHandI C)) : FnOk P w K mg base CX0 3 f fd ["self", "count"] (spRoomI C R) := by
  refine F.ok scRoomI (fun vs H Q E h => ?_) (fun cdv A outer s H vs Q E hr h => ?_)
  · obtain ⟨r, dr, n, rfl, _⟩ := h
    rfl
  · obtain ⟨r, dr, n, rfl, ha, hn, q⟩ := h
    have SC := scRoomI
    refine ⟨_, (pss_one (ps_fldN (pv 0) (pe_lc (N' := ["number", "count"]) (ix := [none, some 1]) (by exact comp_sc rfl (by rfl) (by rfl)) rfl (pi_range1 (by rfl) B.b_range (pac (pv 1) pa_nil)) (fun _ _ _ _ _ => (pg_comp (i := 0) (by decide +kernel) (by rfl) (by rfl))) (fun _ _ _ _ _ => pts_nil) (fun _ _ _ _ _ => (pe_mkN m_Hand (hr.mono (by decide)) (by rfl) pass0 (pac (pv 0) (pac (pv 1) pa_nil))))) rfl)), ?_⟩
    walk_at "rd"
    refine rlc_range (fun R R' hR ⟨v, e, q⟩ => ⟨v, e, hR _ _ q⟩) ⟨_, rfl, n, rfl, by omega, by omega, fun acc hacc => ⟨fun k σ H2 => ∃ (x : Option V) (ad oa dx : Nat → Addr), σ = [x, some (.int n)] ∧ Same H H2 ∧ H2 acc = some (.lst ((List.range k).map fun i => V.ref (ad i))) ∧
        (∀ i, i < k → H2 (ad i) = some (.ins C (dx i) (hfs i (oa i) Rm.out0))) ∧ (∀ i, i < k → H2 (oa i) = some (.lst (othL i n)) ∧ oa i ≠ acc) ∧ (∀ i, i < k → H (ad i) = none ∧ H (oa i) = none), ⟨none, fun _ => 0, fun _ => 0, fun _ => 0, rfl, (Same.refl _).new hacc, upd_same, fun i hi => absurd hi (Nat.not_lt_zero _), fun i hi => absurd hi (Nat.not_lt_zero _), fun i hi => absurd hi (Nat.not_lt_zero _)⟩, ?_, ?_⟩⟩
    · rintro k σ H2 hk ⟨x, ad, oa, dx, rfl, sm, el, hd, ho, hf⟩
      walk_at "rd"
      simp only [Int.zero_add]
      show ∀ (x dx : Addr) (G1 G : Hp), New H2 dx (HO.own x) G1 → New G1 x (HO.ins C dx []) G → spHandI C [V.ref x, V.int ↑k, V.int ↑n] G _ _
      intro a d G1 G n1 n2
      have hk' : k < n := by rwa [Int.toNat_natCast] at hk
      refine ⟨a, d, k, n, rfl, n2.at, hk', hn, fun b G2 hb eb c => ⟨rfl, (List.range k).map (fun i => V.ref (ad i)), ?_⟩⟩
      have sm2 := n1.same.trans n2.same
      have fa : ∀ e u, H2 e = some u → e ≠ a := fun e u h z => by
        have := n1.same _ _ h
        rw [z, n2.free] at this; cases this
      have k2 : ∀ e u, H2 e = some u → G2 e = some u := fun e u h => c.keep _ _ (sm2 _ _ h) (fa _ _ h)
      have nb : b ≠ acc := fun z => by rw [z, sm2 _ _ el] at hb; cases hb
      have naa : a ≠ acc := fun z => fa _ _ el z.symm
      refine ⟨k2 _ _ el, ?_, ?_, Rm.put ad k a, ?_, Rm.put oa k b, Rm.put dx k d, ?_, ?_, ?_⟩
      · rw [List.length_map, List.length_range]; exact Nat.lt_of_lt_of_le (by omega) sizeLine_ge
      · intro e u h
        rw [upd_ne fun z => by rw [z, hacc] at h; cases h]
        exact k2 _ _ (sm _ _ h)
      · rw [upd_same, List.range_succ, List.map_append]
        refine congrArg some (congrArg HO.lst (congr (congrArg _ (List.map_congr_left fun i hi => ?_)) ?_))
        · rw [Rm.put_ne _ _ (by have := List.mem_range.1 hi; omega)]
        · rw [List.map_cons, List.map_nil, Rm.put_self]
      · intro i hi
        by_cases e : i = k
        · subst e
          rw [Rm.put_self, Rm.put_self, Rm.put_self, upd_ne naa]
          exact c.at
        · rw [Rm.put_ne _ _ e, Rm.put_ne _ _ e, Rm.put_ne _ _ e]
          have h1 := hd i (by omega)
          rw [upd_ne fun z => by rw [z, el] at h1; cases h1]
          exact k2 _ _ h1
      · intro i hi
        by_cases e : i = k
        · subst e
          rw [Rm.put_self, upd_ne nb]
          exact ⟨eb, nb⟩
        · rw [Rm.put_ne _ _ e]
          have h1 := ho i (by omega)
          rw [upd_ne h1.2]
          exact ⟨k2 _ _ h1.1, h1.2⟩
      · intro i hi
        by_cases e : i = k
        · subst e
          rw [Rm.put_self, Rm.put_self]
          refine ⟨?_, ?_⟩
          · cases z : H a with
            | none => rfl
            | some u => exact absurd rfl (fa _ _ (sm _ _ z))
          · cases z : H b with
            | none => rfl
            | some u => rw [sm2 _ _ (sm _ _ z)] at hb; cases hb
        · rw [Rm.put_ne _ _ e, Rm.put_ne _ _ e]
          exact hf i (by omega)
    · rintro σ2 G2 ⟨x, ad, oa, dx, rfl, sm, el, hd, ho, hf⟩
      rw [Int.toNat_natCast] at el hd ho hf
      k_invariant "rd" (And.intro (sm _ _ ha) (And.intro hR.cl hR.n_hands))
      refine ⟨by decide, fun G3 p3 => ?_⟩
      have ne : ∀ c u, G2 c = some u → (∀ fs, u ≠ .ins R dr fs) → G3 c = some u := fun c u e z => by
        rw [p3.ne fun y => by rw [y, sm _ _ ha] at e; exact z _ (Option.some.inj e).symm]; exact e
      refine q ⟨C, R, r, dr, acc, n, ad, oa, dx⟩ G3 rfl rfl rfl rfl ⟨p3.at, ne _ _ el (fun _ => nofun), fun i hi => ?_, fun i hi => ne _ _ (ho i hi).1 (fun _ => nofun)⟩ hacc hf fun c u e z => by rw [p3.ne z]; exact sm _ _ e
      show G3 (ad i) = _
      rw [p3.ne fun y => ?_]
      · exact hd i hi
      · have := hd i hi
        rw [y, sm _ _ ha] at this
        simp [hfs] at this
end
theorem wS_enters (x : Rm.W) : (wS x = ("enters" : Str)) = (x = .enters) := by
  cases x <;> first | exact propext ⟨fun _ => rfl, fun _ => rfl⟩ | exact propext ⟨fun h => absurd h (by decide +kernel), fun h => absurd h (by decide)⟩
/-! what the program is to answer -/
def Dd.deed : Dd → Rm.Deed
  | .want h => .want h | .go h k => .go h k.toNat | .leave h => .leave h | .round => .round
def toldD (t : Rm.Told) : Dat := .tup [.str (wS t.1), on t.2.1, on t.2.2]
def ansD : Rm.Ans → Dat
  | .num k => .int k | .steps l => .lst (l.map toldD) | .went l => .lst (l.map fun k : Nat => Dat.int k) | .noHand => .str "no hand" | .isWithin => .str "within" | .onWay => .str "on its way" | .isOut => .str "out"
theorem dv_told {H : Hp} {v : V} {t : Rm.Told} (h : DV H v (toldD t)) : ∃ a, v = .ref a ∧ H a = some (.tup [.str (wS t.1), onV t.2.1, onV t.2.2]) := by
  unfold toldD at h
  rw [DV] at h
  obtain ⟨a, xs, rfl, ha, d⟩ := h
  rw [dvs_cons_iff] at d
  obtain ⟨x, r, rfl, d1, d2⟩ := d
  rw [dvs_cons_iff] at d2
  obtain ⟨y, r, rfl, d2, d3⟩ := d2
  rw [dvs_cons_iff] at d3
  obtain ⟨z, r, rfl, d3, d4⟩ := d3
  rw [dvs_nil_iff] at d4
  subst d4
  rw [dv_on] at d2 d3
  rw [DV] at d1
  subst d1 d2 d3
  exact ⟨a, rfl, ha⟩
/-- a deed in a heap: its tuple -/
def ddV : Dd → List V
  | .want h => [.str "want", .int h] | .go h k => [.str "go", .int h, .int k] | .leave h => [.str "leave", .int h] | .round => [.str "round"]
def isStr : Dat → Bool | .str _ => true | _ => false
theorem kit_strB {K : PySem.W.Frag} : ∀ d : Dat, PySem.W.kitOne K (dty d) (.type "str") = some (isStr d)
  | .non => rfl | .bl _ => rfl | .int _ => rfl | .str _ => rfl | .tup _ => rfl | .lst _ => rfl
def ddW : Dd → Str
  | .want _ => "want" | .go _ _ => "go" | .leave _ => "leave" | .round => "round"
theorem dv_dd {H : Hp} {v : V} {d : Dd} (h : DV H v d.dat) : ∃ a, v = .ref a ∧ H a = some (.tup (ddV d)) := by
  cases d <;> simp only [Dd.dat] at h <;> rw [DV] at h <;> obtain ⟨a, xs, rfl, ha, d⟩ := h <;> refine ⟨a, rfl, ?_⟩ <;> rw [ha]
  all_goals
    first
    | (rw [dvs_cons_iff] at d; obtain ⟨x, r, rfl, d1, d2⟩ := d; rw [dvs_cons_iff] at d2; obtain ⟨y, r, rfl, d2, d3⟩ := d2; rw [dvs_cons_iff] at d3; obtain ⟨z, r, rfl, d3, d4⟩ := d3; rw [dvs_nil_iff] at d4; subst d4; unfold DV at d1 d2 d3; subst d1 d2 d3; rfl)
    | (rw [dvs_cons_iff] at d; obtain ⟨x, r, rfl, d1, d2⟩ := d; rw [dvs_cons_iff] at d2; obtain ⟨y, r, rfl, d2, d3⟩ := d2; rw [dvs_nil_iff] at d3; subst d3; unfold DV at d1 d2; subst d1 d2; rfl)
    | (rw [dvs_cons_iff] at d; obtain ⟨x, r, rfl, d1, d2⟩ := d; rw [dvs_nil_iff] at d2; subst d2; unfold DV at d1; subst d1; rfl)
section
variable {P : Program} {w : World} {K : PySem.W.Frag} {mg : Str → Option Value} {base : Heap}
end
section
variable {P : Program} {w : World} {K : PySem.W.Frag} {mg : Str → Option Value} {base : Heap}
theorem vd_noLst (l : List Rm.Visit) : Dat.noLsts (l.map visitD) = true := noLsts_of fun d hd => by
  obtain ⟨u, _, rfl⟩ := List.mem_map.mp hd
  obtain ⟨a, b, c, d, e, f⟩ := u
  cases c <;> cases d <;> cases e <;> cases f <;> rfl
theorem vd_noLst1 (u : Rm.Visit) : (visitD u).noLst = true := by
  obtain ⟨a, b, c, d, e, f⟩ := u
  cases c <;> cases d <;> cases e <;> cases f <;> rfl
end
/-! what all laws of stories begin with -/
def cnt8 (c : Int) : Nat := [1, 2, 3, 4, 5, 3, 2, 7].getD (c * 48271 % 1049 % 8).toNat 1
theorem cnt8_pos (c : Int) : 0 < cnt8 c ∧ cnt8 c ≤ 7 := by
  unfold cnt8
  have h : (c * 48271 % 1049 % 8).toNat < 8 := by omega
  generalize (c * 48271 % 1049 % 8).toNat = k at h
  match k, h with
  | 0, _ => decide | 1, _ => decide | 2, _ => decide | 3, _ => decide | 4, _ => decide | 5, _ => decide | 6, _ => decide | 7, _ => decide
theorem pre_len (ns : List Int) (n : Int) (h0 : 0 < n) (h : n ≤ 7) : (preOf ns n).length ≤ 17 := by
  unfold preOf
  cases ns with
  | nil => simp
  | cons c l =>
    simp only []
    split
    · simp; omega
    · split
      · simp [pair]
      · simp
theorem drawn_len (ns : List Int) (n : Int) (h0 : 0 < n) (h : n ≤ 7) : (drawnOf ns n).length ≤ ns.length + 17 := by
  have := pre_len ns n h0 h
  simp only [drawnOf, List.length_append, List.length_map, List.length_range]
  omega
theorem getD_ok {l : List Int} (h : ∀ x ∈ l, 0 ≤ x ∧ x ≤ 900) (k : Nat) : 0 ≤ l.getD k 0 ∧ l.getD k 0 ≤ 900 := by
  by_cases hk : k < l.length
  · rw [List.getD_eq_getElem?_getD, List.getElem?_eq_getElem hk]
    exact h _ (List.getElem_mem hk)
  · rw [List.getD_eq_getElem?_getD, List.getElem?_eq_none (by omega)]
    exact ⟨by decide, by decide⟩
theorem deedOf_ok (c n : Int) : (deedOf c n).ok := by
  unfold deedOf
  split
  · trivial
  · split
    · exact getD_ok (by decide) _
    · split <;> trivial
theorem drawn_ok (ns : List Int) (n : Int) (h0 : 0 < n) (h : n ≤ 7) : ∀ d ∈ drawnOf ns n, d.ok := by
  intro d hd
  unfold drawnOf at hd
  rcases List.mem_append.mp hd with hd | hd
  · unfold preOf at hd
    cases ns with
    | nil => cases hd
    | cons c l =>
      simp only [] at hd
      split at hd
      · rcases List.mem_append.mp hd with hd | hd
        · obtain ⟨k, _, rfl⟩ := List.mem_map.mp hd; trivial
        · rw [(List.mem_replicate.mp hd).2]; trivial
      · split at hd
        · simp only [pair, List.mem_cons, List.not_mem_nil, or_false] at hd
          rcases hd with rfl | rfl | rfl | rfl | rfl | rfl
          · trivial
          · trivial
          · exact ⟨by omega, by omega⟩
          · exact ⟨by decide, by decide⟩
          · exact getD_ok (by decide) _
          · exact ⟨by decide, by decide⟩
        · cases hd
  · obtain ⟨k, _, rfl⟩ := List.mem_map.mp hd
    exact deedOf_ok _ _
/-! the program's answers -/
def AA (n : Int) (ds : List Dd) : List Rm.Visit × List Seen :=
  ((List.range (Rm.run n.toNat (ds.map Dd.deed)).1.m).map (Rm.run n.toNat (ds.map Dd.deed)).1.vis, (List.range n.toNat).map fun i => (((Rm.run n.toNat (ds.map Dd.deed)).1.hands i).flag, ((Rm.run n.toNat (ds.map Dd.deed)).1.hands i).ticket, wS ((Rm.run n.toNat (ds.map Dd.deed)).1.hands i).word))
theorem AA_ok : AAok AA where
  hand := fun n ds u hu => by
    obtain ⟨k, hk, rfl⟩ := List.mem_map.mp hu
    have := (Rm.run_inv n.toNat (ds.map Dd.deed)).hnd k (List.mem_range.mp hk)
    omega
  many := fun n ds hn => by simp [AA]; omega
def spAns : Sp := fun vs H Q _ => ∃ (n : Int) (x : V) (ds : List Dd), vs = [.int n, x] ∧ 0 < n ∧ n ≤ 30 ∧ (ds.length ≤ 900 ∧ ∀ d ∈ ds, d.ok) ∧ DV H x (.lst (ds.map Dd.dat)) ∧ ∀ v H', Same H H' → DV H' v (.lst ((Rm.run n.toNat (ds.map Dd.deed)).2.map ansD)) → Q v H'
theorem run_get (n : Nat) (ds : List Rm.Deed) (i : Nat) (d : Rm.Deed) (h : ds[i]? = some d) : (Rm.run n ds).2[i]? = some (Rm.deedA n i (Rm.run n (ds.take i)).1 d).2 ∧ (Rm.run n (ds.take (i + 1))).1 = (Rm.deedA n i (Rm.run n (ds.take i)).1 d).1 := by
  have hi := (List.getElem?_eq_some_iff.mp h).1
  have hd := (List.getElem?_eq_some_iff.mp h).2
  have e : ds.take (i + 1) = ds.take i ++ [d] := by rw [List.take_succ_eq_append_getElem hi, hd]
  have el : (Rm.run n (ds.take i)).2.length = i := by rw [Rm.run_length, List.length_take]; omega
  have pre : ∀ l : List Rm.Deed, ∀ l2 : List Rm.Deed, ∃ t, (Rm.run n (l ++ l2)).2 = (Rm.run n l).2 ++ t := by
    intro l l2
    induction l2 generalizing l with
    | nil => exact ⟨[], by simp⟩
    | cons x r ih =>
      obtain ⟨t, ht⟩ := ih (l ++ [x])
      rw [show l ++ x :: r = (l ++ [x]) ++ r by simp, ht, Rm.run_snoc]
      exact ⟨_, by rw [List.append_assoc]⟩
  constructor
  · obtain ⟨t, ht⟩ := pre (ds.take (i + 1)) (ds.drop (i + 1))
    rw [List.take_append_drop, e, Rm.run_snoc, el] at ht
    rw [ht, List.append_assoc, List.getElem?_append_right (by omega), el]
    simp
  · rw [e, Rm.run_snoc, el]
section
variable {P : Program} {w : World} {K : PySem.W.Frag} {mg : Str → Option Value} {base : Heap}
theorem at_cnt8 (c : Int) : atI [V.int 1, V.int 2, V.int 3, V.int 4, V.int 5, V.int 3, V.int 2, V.int 7] (c * 48271 % 1049 % 8) = some (.int (cnt8 c)) := by
  unfold cnt8
  have h : ∃ k : Nat, c * 48271 % 1049 % 8 = k ∧ k < 8 := ⟨(c * 48271 % 1049 % 8).toNat, by omega, by omega⟩
  obtain ⟨k, e, hk⟩ := h
  rw [e, Int.toNat_natCast]
  match k, hk with
  | 0, _ => rfl | 1, _ => rfl | 2, _ => rfl | 3, _ => rfl | 4, _ => rfl | 5, _ => rfl | 6, _ => rfl | 7, _ => rfl
theorem goA_m {n t i : Nat} {H : Rm.Hall} : ∀ k, (Rm.goA n t i H k).1.m = H.m
  | 0 => rfl
  | k + 1 => by
    have := goA_m (n := n) (t := t) (i := i) (H := H) k
    simp only [Rm.goA]
    split
    · exact this
    · exact this
theorem roundA_m {n t : Nat} {H : Rm.Hall} : ∀ k, (Rm.roundA n t H k).1.m = H.m
  | 0 => rfl
  | k + 1 => by
    have := roundA_m (n := n) (t := t) (H := H) k
    simp only [Rm.roundA, Rm.roundOne]
    split
    · exact this
    · split
      · exact this
      · exact this
theorem deed_m (n t : Nat) (H : Rm.Hall) (d : Rm.Deed) : (Rm.deedA n t H d).1.m ≤ H.m + 1 := by
  cases d with
  | want h => simp only [Rm.deedA]; (repeat' split) <;> simp [Rm.wantA]
  | go h k =>
    simp only [Rm.deedA]
    (repeat' split) <;> simp
    rw [goA_m]; omega
  | leave h => simp only [Rm.deedA]; (repeat' split) <;> simp [Rm.leaveA]
  | round => simp only [Rm.deedA]; rw [roundA_m]; omega
theorem run_m (n : Nat) (ds : List Rm.Deed) : (Rm.run n ds).1.m ≤ ds.length := by
  suffices h : ∀ k, k ≤ ds.length → (Rm.run n (ds.take k)).1.m ≤ k by
    have := h ds.length (Nat.le_refl _)
    rwa [List.take_length] at this
  intro k
  induction k with
  | zero => intro _; exact Nat.le_refl _
  | succ k ih =>
    intro hk
    have := (run_get n ds k ds[k] (List.getElem?_eq_getElem (by omega))).2
    rw [this]
    have := deed_m n k (Rm.run n (ds.take k)).1 ds[k]
    have := ih (by omega)
    omega
def spLaw (K : PySem.W.Frag) : Sp := fun vs H Q _ => ∃ (a : Addr) (ns : List Int), vs = [.ref a] ∧ SqL K H a (ns.map V.int) ∧ ∀ G, Same H G → Q (.bl true) G
end
/-! the program's contracts, of what stands at the top -/
structure TopP (K : PySem.W.Frag) (w : World) (C R dO dL eN eI eW eO : Addr) : Prop where
  cH : ClTop K "Hand" C
  n1 : PySem.W.findIn K (.ref C) "number" = some none
  n2 : PySem.W.findIn K (.ref C) "others" = some none
  n3 : PySem.W.findIn K (.ref C) "flag" = some none
  n4 : PySem.W.findIn K (.ref C) "ticket" = some none
  n5 : PySem.W.findIn K (.ref C) "word" = some none
  n6 : PySem.W.findIn K (.ref C) "place" = some none
  n7 : PySem.W.findIn K (.ref C) "greatest" = some none
  mT : MeTop K C "turn_to" "Hand.turn_to" sTurn
  mW : MeTop K C "want_in" "Hand.want_in" sWant
  mG : MeTop K C "go_out" "Hand.go_out" sGoOut
  iH : MkTop K C "Hand.__init__" sHandI
  fF : FnTop K "goes_first" "goes_first" sFirst
  dO_ : DTop K w "STEPS_OF_ITS_OWN" dO
  oB : DfTop K dO "begins" sBegins
  oD : DfTop K dO "draws" sDraws
  oL : DfTop K dO "lowers" sLowers
  oE : DfTop K dO "enters" sEnters
  z1 : PySem.W.nsIn K dO "looks" = some none
  z2 : PySem.W.nsIn K dO "asks" = some none
  z3 : PySem.W.nsIn K dO "sees" = some none
  z4 : PySem.W.nsIn K dO "out" = some none
  z5 : PySem.W.nsIn K dO "within" = some none
  dL_ : DTop K w "STEPS_THAT_LOOK" dL
  lL : DfTop K dL "looks" sLooks
  lA : DfTop K dL "asks" sAsks
  lS : DfTop K dL "sees" sSees
  fS : FnTop K "step" "step" sStep
  cR : ClTop K "Room" R
  nR : PySem.W.findIn K (.ref R) "hands" = some none
  mH : MeTop K R "hand_of" "Room.hand_of" sHandOf
  mWR : MeTop K R "want" "Room.want" sWantR
  mGR : MeTop K R "go" "Room.go" sGoR
  mLR : MeTop K R "leave" "Room.leave" sLeaveR
  mRR : MeTop K R "go_round" "Room.go_round" sRound
  iR : MkTop K R "Room.__init__" sRoomI
  s1 : StrTop K "BEGINS" "begins"
  s2 : StrTop K "LOOKS" "looks"
  s3 : StrTop K "DRAWS" "draws"
  s4 : StrTop K "LOWERS" "lowers"
  s5 : StrTop K "ASKS" "asks"
  s6 : StrTop K "SEES" "sees"
  s7 : StrTop K "ENTERS" "enters"
  s8 : StrTop K "WITHIN" "within"
  s9 : StrTop K "OUT" "out"
  s0 : StrTop K "LEAVES" "leaves"
  x1 : XTop K "NoHand" eN
  x2 : XTop K "Within" eI
  x3 : XTop K "WantsIn" eW
  x4 : XTop K "Out" eO
  b1 : PySem.W.nsIn K mainGlobals "max" = some none
/-- the room's contracts -/
structure Contr (P : Program) (w : World) (K : PySem.W.Frag) (mg : Str → Option Value) (base : Heap) (C R eN eI eW eO : Addr) : Prop where
  want : MethBy P w K mg base (CXE P w) 2 R "want" ["self", "number"] (spWantR C R eN eI eW)
  go : MethBy P w K mg base (CXE P w) 4 R "go" ["self", "number", "many"] (spGoR C R eN eI eO)
  leave : MethBy P w K mg base (CXE P w) 2 R "leave" ["self", "number"] (spLeaveR C R eN eO)
  round : MethBy P w K mg base CX0 4 R "go_round" ["self"] (spRound C R)
  room : MakeBy P w K mg base CX0 3 "Room" R ["self", "count"] (spRoomI C R)
theorem contr {P : Program} {w : World} {K : PySem.W.Frag} {mg : Str → Option Value} {base h : Heap} {C R dO dL eN eI eW eO : Addr} (T : TopP K w C R dO dL eN eI eW eO) (X : K.In h) (G : h.Ns mainGlobals mg) (B : Blt mg) : Contr P w K mg base C R eN eI eW eO := by
  have hC : HandC K C := ⟨T.cH.cl, T.n1, T.n2, T.n3, T.n4, T.n5, T.n6, T.n7, trivial⟩
  have hR : RoomC K R := ⟨T.cR.cl, T.nR⟩
  have c : Con mg := ⟨T.s1.by X G, T.s2.by X G, T.s3.by X G, T.s4.by X G, T.s5.by X G, T.s6.by X G, T.s7.by X G, T.s8.by X G, T.s9.by X G⟩
  have ex : Exc K mg eN eI eW eO := ⟨T.x1.by X G, T.x2.by X G, T.x3.by X G, T.x4.by X G⟩
  have turn := T.mT.by (P := P) (w := w) (mg := mg) (base := base) T.cH.cl (fun _ _ _ _ _ _ us hl => match us, hl with | [_, _, _, _], _ => rfl) fun f fd F => ok_turn F B hC
  have want := T.mW.by (P := P) (w := w) (mg := mg) (base := base) T.cH.cl (fun _ _ _ _ _ _ us hl => match us, hl with | [_], _ => rfl) fun f fd F => ok_want F c hC
  have gout := T.mG.by (P := P) (w := w) (mg := mg) (base := base) T.cH.cl (fun _ _ _ _ _ _ us hl => match us, hl with | [_], _ => rfl) fun f fd F => ok_goOut F c hC
  have hand := T.iH.by (P := P) (w := w) (mg := mg) (base := base) X G T.cH (fun _ _ _ _ _ _ us hl => match us, hl with | [_, _, _], _ => rfl) fun f fd F => ok_handI F c B hC
  have fst := T.fF.by (P := P) (w := w) (mg := mg) (base := base) X G (fun _ _ _ _ _ _ us hl => match us, hl with | [_, _], _ => rfl) fun f fd F => ok_first F hC
  have mx := PySem.W.mg_none_of X G T.b1
  have st : Steps P w K mg base C dO dL := by
    refine ⟨PySem.W.mg_of X G T.dO_.at_, PySem.W.mg_of X G T.dL_.at_, T.dO_.dat, T.dL_.dat, ?_, ?_, ?_⟩
    · intro x hx
      cases x with
      | begins => obtain ⟨f, fd, F, a⟩ := T.oB.ex; exact ⟨2, f, fd, by decide, a, ok_begins F c hC turn, F.binds fun _ _ _ _ _ _ us hl => match us, hl with | [_], _ => rfl, F.kp⟩
      | draws => obtain ⟨f, fd, F, a⟩ := T.oD.ex; exact ⟨1, f, fd, by decide, a, ok_draws F c hC, F.binds fun _ _ _ _ _ _ us hl => match us, hl with | [_], _ => rfl, F.kp⟩
      | lowers => obtain ⟨f, fd, F, a⟩ := T.oL.ex; exact ⟨2, f, fd, by decide, a, ok_lowers F c hC turn, F.binds fun _ _ _ _ _ _ us hl => match us, hl with | [_], _ => rfl, F.kp⟩
      | enters => obtain ⟨f, fd, F, a⟩ := T.oE.ex; exact ⟨1, f, fd, by decide, a, ok_enters F c hC, F.binds fun _ _ _ _ _ _ us hl => match us, hl with | [_], _ => rfl, F.kp⟩
      | out => exact absurd hx (by decide)
      | looks => exact absurd hx (by decide)
      | asks => exact absurd hx (by decide)
      | sees => exact absurd hx (by decide)
      | within => exact absurd hx (by decide)
    · intro x hx
      cases x with
      | looks => exact T.z1
      | asks => exact T.z2
      | sees => exact T.z3
      | out => exact T.z4
      | within => exact T.z5
      | begins => exact absurd hx (by decide)
      | draws => exact absurd hx (by decide)
      | lowers => exact absurd hx (by decide)
      | enters => exact absurd hx (by decide)
    · intro x hx
      cases x with
      | looks => obtain ⟨f, fd, F, a⟩ := T.lL.ex; exact ⟨2, f, fd, by decide, a, ok_looks F c mx hC turn, F.binds fun _ _ _ _ _ _ us hl => match us, hl with | [_, _], _ => rfl, F.kp⟩
      | asks => obtain ⟨f, fd, F, a⟩ := T.lA.ex; exact ⟨1, f, fd, by decide, a, ok_asks F c hC, F.binds fun _ _ _ _ _ _ us hl => match us, hl with | [_, _], _ => rfl, F.kp⟩
      | sees => obtain ⟨f, fd, F, a⟩ := T.lS.ex; exact ⟨2, f, fd, by decide, a, ok_sees F c hC fst turn, F.binds fun _ _ _ _ _ _ us hl => match us, hl with | [_, _], _ => rfl, F.kp⟩
      | out => exact absurd hx (by decide)
      | begins => exact absurd hx (by decide)
      | draws => exact absurd hx (by decide)
      | lowers => exact absurd hx (by decide)
      | enters => exact absurd hx (by decide)
      | within => exact absurd hx (by decide)
  have step := T.fS.by (P := P) (w := w) (mg := mg) (base := base) X G (fun _ _ _ _ _ _ us hl => match us, hl with | [_, _], _ => rfl) fun f fd F => ok_step F st hC
  have hof : MethBy P w K mg base (CXE P w) 1 R "hand_of" ["self", "number"] (spHandOf C R eN) := T.mH.by T.cR.cl (fun _ _ _ _ _ _ us hl => match us, hl with | [_, _], _ => rfl) fun f fd F => ok_handOf F B ex hR
  exact ⟨T.mWR.by T.cR.cl (fun _ _ _ _ _ _ us hl => match us, hl with | [_, _], _ => rfl) fun f fd F => ok_wantR F c ex hR hC hof want,
    T.mGR.by T.cR.cl (fun _ _ _ _ _ _ us hl => match us, hl with | [_, _, _], _ => rfl) fun f fd F => ok_goR F c B ex hR hC hof step,
    T.mLR.by T.cR.cl (fun _ _ _ _ _ _ us hl => match us, hl with | [_, _], _ => rfl) fun f fd F => ok_leaveR F c ex hR hC hof gout,
    T.mRR.by T.cR.cl (fun _ _ _ _ _ _ us hl => match us, hl with | [_], _ => rfl) fun f fd F => ok_round F c (T.s0.by X G) hR hC step gout,
    T.iR.by X G T.cR (fun _ _ _ _ _ _ us hl => match us, hl with | [_, _], _ => rfl) fun f fd F => ok_roomI F B hR hand⟩
/-! the story: what stands where -/
structure Sto where
  A : Ads
  S : Addr
  t : Addr
  dt : Addr
  vl : Addr
  ld : Addr
def sfs (r vl ld : Addr) (k : Nat) : List (Str × V) := [("room", .ref r), ("visits", .ref vl), ("latest", .ref ld), ("deeds_done", .int k)]
theorem ne_room_visits : (("room" : Str) = "visits") = False := by simp only [eq_iff_iff, iff_false]; decide +kernel
theorem ne_room_latest : (("room" : Str) = "latest") = False := by simp only [eq_iff_iff, iff_false]; decide +kernel
theorem ne_room_deeds_done : (("room" : Str) = "deeds_done") = False := by simp only [eq_iff_iff, iff_false]; decide +kernel
theorem nb_visits_room : (("visits" : Str) == "room") = false := by decide +kernel
theorem ne_visits_latest : (("visits" : Str) = "latest") = False := by simp only [eq_iff_iff, iff_false]; decide +kernel
theorem ne_visits_deeds_done : (("visits" : Str) = "deeds_done") = False := by simp only [eq_iff_iff, iff_false]; decide +kernel
theorem nb_latest_room : (("latest" : Str) == "room") = false := by decide +kernel
theorem nb_latest_visits : (("latest" : Str) == "visits") = false := by decide +kernel
theorem ne_latest_deeds_done : (("latest" : Str) = "deeds_done") = False := by simp only [eq_iff_iff, iff_false]; decide +kernel
theorem nb_deeds_done_room : (("deeds_done" : Str) == "room") = false := by decide +kernel
theorem nb_deeds_done_visits : (("deeds_done" : Str) == "visits") = false := by decide +kernel
theorem nb_deeds_done_latest : (("deeds_done" : Str) == "latest") = false := by decide +kernel
section
variable {r vl ld : Addr} {k : Nat}
theorem sk_room : (sfs r vl ld k).lookup ("room" : Str) = some (.ref r) := by simp only [sfs, List.lookup, beq_self_eq_true]
theorem sk_visits : (sfs r vl ld k).lookup ("visits" : Str) = some (.ref vl) := by simp only [sfs, List.lookup, beq_self_eq_true, nb_visits_room]
theorem sk_latest : (sfs r vl ld k).lookup ("latest" : Str) = some (.ref ld) := by simp only [sfs, List.lookup, beq_self_eq_true, nb_latest_room, nb_latest_visits]
theorem sk_deeds_done : (sfs r vl ld k).lookup ("deeds_done" : Str) = some (.int k) := by simp only [sfs, List.lookup, beq_self_eq_true, nb_deeds_done_room, nb_deeds_done_visits, nb_deeds_done_latest]
theorem spf_done (j : Nat) : putF "deeds_done" (.int j) (sfs r vl ld k) = sfs r vl ld j := by simp only [sfs, putF, ne_room_deeds_done, ne_visits_deeds_done, ne_latest_deeds_done, if_false, if_true]
theorem sk_no {m : Str} (e : (["room", "visits", "latest", "deeds_done"] : List Str).all (fun k => !(m == k)) = true) : (sfs r vl ld k).lookup m = none := by
  simp only [List.all_cons, List.all_nil, Bool.and_eq_true, Bool.not_eq_true'] at e
  simp only [sfs, List.lookup, e]
end
theorem sfsF : (∀ r vl ld k, (sfs r vl ld k).lookup ("room" : Str) = some (.ref r)) ∧ (∀ r vl ld k, (sfs r vl ld k).lookup ("visits" : Str) = some (.ref vl)) ∧ (∀ r vl ld k, (sfs r vl ld k).lookup ("latest" : Str) = some (.ref ld)) ∧ (∀ r vl ld k, (sfs r vl ld k).lookup ("deeds_done" : Str) = some (.int k)) ∧ (∀ r vl ld k, (sfs r vl ld k).length < 1000) :=
  ⟨fun _ _ _ _ => sk_room, fun _ _ _ _ => sk_visits, fun _ _ _ _ => sk_latest, fun _ _ _ _ => sk_deeds_done, fun _ _ _ _ => by simp [sfs]⟩
structure StoryC (K : PySem.W.Frag) (S : Addr) : Prop where
  cl : Cls K S
  n_room : NoAttr K S "room"
  n_visits : NoAttr K S "visits"
  n_latest : NoAttr K S "latest"
  n_done : NoAttr K S "deeds_done"
theorem StoryC.all {K : PySem.W.Frag} {S : Addr} (c : StoryC K S) : Cls K S ∧ NoAttr K S "room" ∧ NoAttr K S "visits" ∧ NoAttr K S "latest" ∧ NoAttr K S "deeds_done" := ⟨c.cl, c.n_room, c.n_visits, c.n_latest, c.n_done⟩
/-- the book: the visits, and which is whose latest -/
structure AtBook (B : Sto) (va : Nat → Addr) (lk : List (Key × V)) (vis : Nat → Rm.Visit) (m k : Nat) (H : Hp) : Prop where
  story : H B.t = some (.ins B.S B.dt (sfs B.A.r B.vl B.ld k))
  lst : H B.vl = some (.lst ((List.range m).map fun j => V.ref (va j)))
  one : ∀ j, j < m → H (va j) = some (.lst (visitV (vis j)))
  inj : ∀ i j, i < m → j < m → va i = va j → i = j
  dict : H B.ld = some (.dK lk)
  few : lk.length ≤ m
/-- what is the story's own -/
def Ow (B : Sto) (va : Nat → Addr) (m : Nat) (c : Addr) : Prop := (∃ i, i < B.A.n ∧ c = B.A.ad i) ∨ c = B.t ∨ c = B.vl ∨ c = B.ld ∨ (∃ j, j < m ∧ c = va j) ∨ c = B.A.r ∨ c = B.A.L ∨ ∃ i, i < B.A.n ∧ c = B.A.oa i
/-- whose latest visit is which: of all who are on their way -/
def Lat (n : Nat) (va : Nat → Addr) (lk : List (Key × V)) (R : Rm.Hall) : Prop := ∀ i, i < n → (R.hands i).word ≠ .out → R.cur i < R.m ∧ valV lk (Sum.inl (i : Int)) = some (.ref (va (R.cur i)))
structure AtStory (B : Sto) (va : Nat → Addr) (lk : List (Key × V)) (R : Rm.Hall) (k : Nat) (H : Hp) : Prop where
  room : AtRoom B.A R.hands H
  book : AtBook B va lk R.vis R.m k H
  lat : Lat B.A.n va lk R
  apart : ∀ j i, j < R.m → i < B.A.n → va j ≠ B.A.oa i
  sepL : B.vl ≠ B.A.L
  sepO : ∀ i, i < B.A.n → B.vl ≠ B.A.oa i
/-- what one event writes into a visit -/
def noteL (x : List V) (t : Nat) (v : Rm.Visit) : Rm.Visit :=
  match x with
  | [.str w, _, y] =>
    if w = "draws" then { v with ticket := (match y with | .int i => some i.toNat | _ => none) }
    else if w = "lowers" then { v with lowered := some t }
    else if w = "enters" then { v with entered := some t }
    else if w = "leaves" then { v with left := some t }
    else v
  | _ => v
def wellE (x : List V) : Prop := ∃ w a y, x = [.str w, a, y] ∧ (w = "draws" → ∃ tk : Nat, y = .int tk)
theorem AtBook.same {B : Sto} {va : Nat → Addr} {lk : List (Key × V)} {vis : Nat → Rm.Visit} {m k : Nat} {H G : Hp} (h : AtBook B va lk vis m k H) (s : Same H G) : AtBook B va lk vis m k G :=
  ⟨s _ _ h.story, s _ _ h.lst, fun j hj => s _ _ (h.one j hj), h.inj, s _ _ h.dict, h.few⟩
theorem AtBook.note {B : Sto} {va : Nat → Addr} {lk : List (Key × V)} {vis : Nat → Rm.Visit} {m k : Nat} {H G : Hp} (h : AtBook B va lk vis m k H) {c : Nat} (hc : c < m) {v : Rm.Visit} (g : Chg H (va c) (.lst (visitV v)) G) : AtBook B va lk (Rm.put vis c v) m k G := by
  have hv := h.one c hc
  refine ⟨g.keep _ _ h.story fun e => ?_, g.keep _ _ h.lst fun e => ?_, fun j hj => ?_, h.inj, g.keep _ _ h.dict fun e => ?_, h.few⟩
  · rw [← e, h.story] at hv; cases hv
  · rw [← e, h.lst] at hv
    cases m with
    | zero => omega
    | succ m => rw [List.range_succ_eq_map] at hv; simp [visitV] at hv
  · by_cases e : j = c
    · subst e; rw [Rm.put_self]; exact g.at
    · rw [Rm.put_ne _ _ e]; exact g.keep _ _ (h.one j hj) fun z => e (h.inj j c hj hc z)
  · rw [← e, h.dict] at hv; cases hv
section
variable {P : Program} {w : World} {K : PySem.W.Frag} {mg : Str → Option Value} {base : Heap}
structure ConS (mg : Str → Option Value) : Prop where
  con : Con mg
  g_LEAVES : ∃ t, mg "LEAVES" = some (.str "leaves" t)
  g_WANT : ∃ t, mg "WANT" = some (.str "want" t)
  g_GO : ∃ t, mg "GO" = some (.str "go" t)
  g_LEAVE : ∃ t, mg "LEAVE" = some (.str "leave" t)
  g_LOWERED : ∃ t, mg "LOWERED" = some (.int 2 t)
  g_TICKET : ∃ t, mg "TICKET" = some (.int 3 t)
  g_ENTERED : ∃ t, mg "ENTERED" = some (.int 4 t)
  g_LEFT : ∃ t, mg "LEFT" = some (.int 5 t)
abbrev sKeep : Stmt := inClass (top 39) 8
def spKeep (S : Addr) : Sp := fun vs H Q _ => ∃ (B : Sto) (va : Nat → Addr) (lk : List (Key × V)) (vis : Nat → Rm.Visit) (m k : Nat) (i : Int) (p : Addr) (x : List V) (c : Nat), B.S = S ∧ vs = [.ref B.t, .int i, .ref p] ∧ AtBook B va lk vis m k H ∧ H p = some (.tup x) ∧ wellE x ∧ c < m ∧ valV lk (Sum.inl i) = some (.ref (va c)) ∧
  ∀ G, Chg H (va c) (.lst (visitV (noteL x k (vis c)))) G → Q .non G
theorem scKeep : FnScope ["self", "number", "one", "visit", "word"] ["self", "number", "one"] (defScope sKeep) := ⟨rfl, rfl, rfl, by decide +kernel, rfl, by decide +kernel, by decide +kernel⟩
theorem ok_keep {f S : Addr} {fd : FuncData} (F : Fun K "keep" "Story.keep" sKeep f fd) (T : ConS mg) (hS : StoryC K S) : FnOk P w K mg base CX0 1 f fd ["self", "number", "one"] (spKeep S) := by
  refine F.ok scKeep (fun vs H Q E h => ?_) (fun cdv A outer s H vs Q E hr h => ?_)
  · obtain ⟨B, va, lk, vis, m, k, i, p, x, c, _, rfl, _⟩ := h
    rfl
  · obtain ⟨B, va, lk, vis, m, k, i, p, x, c, rfl, rfl, hb, hp, ⟨wd, a, y', rfl, hy⟩, hc, hl, q⟩ := h
    have SC := scKeep
    refine ⟨_, (pss_cons (ps_set (i := 3) SC.nd (by rfl) (Or.inl (by rfl)) (pe_dget (hu_of hr) (pe_fld (pv 0) rfl) (pv 1) (by exact fun _ _ => rfl)))
      (pss_cons (ps_set (i := 4) SC.nd (by rfl) (Or.inl (by rfl)) (pe_ix ix_seq (pv 2) pe_int (by exact fun _ _ => rfl)))
      (pss_one (ps_if (pt_cmpR op_eq (pv 4) (pe_gs (by rfl) T.con.g_DRAWS) (nomark _)) (pss_one (ps_asg (pe_ix ix_seq (pv 2) pe_int (by exact fun _ _ => rfl)) (pg_sub (pv 3) (pe_gi (by rfl) T.g_TICKET) set_listN)))
        (pss_one (ps_if (pt_cmpR op_eq (pv 4) (pe_gs (by rfl) T.con.g_LOWERS) (nomark _)) (pss_one (ps_asg (pe_fld (pv 0) rfl) (pg_sub (pv 3) (pe_gi (by rfl) T.g_LOWERED) set_listN)))
        (pss_one (ps_if (pt_cmpR op_eq (pv 4) (pe_gs (by rfl) T.con.g_ENTERS) (nomark _)) (pss_one (ps_asg (pe_fld (pv 0) rfl) (pg_sub (pv 3) (pe_gi (by rfl) T.g_ENTERED) set_listN)))
        (pss_one (ps_if (pt_cmpR op_eq (pv 4) (pe_gs (by rfl) T.g_LEAVES) (nomark _)) (pss_one (ps_asg (pe_fld (pv 0) rfl) (pg_sub (pv 3) (pe_gi (by rfl) T.g_LEFT) set_listN))) pss_nil)))))))))), ?_⟩
    have hv := hb.one c hc
    walk_at "rd"
    refine ⟨_, rfl, B.t, B.S, B.dt, _, _, rfl, hb.story, hS.cl, hS.n_latest, sk_latest, _, rfl, B.ld, _, rfl, (by have := DGet.k (k := Sum.inl i) hb.dict; rw [hl] at this; exact this), ?_⟩
    refine rix_t hp (show _ = some (.str wd) from rfl) ⟨rfl, ?_⟩
    have put : ∀ (y : V) (n : Int) (j : Nat) (v' : Rm.Visit), ixN 6 n = some j → (visitV (vis c)).set j y = visitV v' → noteL [.str wd, a, y'] k (vis c) = v' → rSetLN (.ref (va c)) (.int n) y H fun H' => Q .non H' := by
      intro y n j v' e1 e2 e3
      refine ⟨va c, _, n, j, rfl, rfl, hv, e1, fun G pu => q G ?_⟩
      rw [e3, ← e2]
      exact .of pu
    by_cases h1 : wd = "draws"
    · subst h1
      obtain ⟨tk, rfl⟩ := hy rfl
      rw [if_pos rfl]
      refine rix_t hp (show _ = some (.int tk) from rfl) ⟨_, rfl, put _ 3 3 { vis c with ticket := some tk } rfl rfl ?_⟩
      simp only [noteL, if_true, Int.toNat_natCast]
    have n1 : V.str wd ≠ V.str (Str.ofString "draws") := fun z => h1 (V.str.inj z)
    rw [if_neg n1]
    refine ⟨rfl, ?_⟩
    by_cases h2 : wd = "lowers"
    · subst h2
      rw [if_pos rfl]
      refine ⟨B.S, B.dt, _, hb.story, hS.cl, hS.n_done, _, sk_deeds_done, _, rfl, put _ 2 2 { vis c with lowered := some k } rfl rfl ?_⟩
      simp only [noteL, if_neg h1, if_true]
    have n2 : V.str wd ≠ V.str (Str.ofString "lowers") := fun z => h2 (V.str.inj z)
    rw [if_neg n2]
    refine ⟨rfl, ?_⟩
    by_cases h3 : wd = "enters"
    · subst h3
      rw [if_pos rfl]
      refine ⟨B.S, B.dt, _, hb.story, hS.cl, hS.n_done, _, sk_deeds_done, _, rfl, put _ 4 4 { vis c with entered := some k } rfl rfl ?_⟩
      simp only [noteL, if_neg h1, if_neg h2, if_true]
    have n3 : V.str wd ≠ V.str (Str.ofString "enters") := fun z => h3 (V.str.inj z)
    rw [if_neg n3]
    refine ⟨rfl, ?_⟩
    by_cases h4 : wd = "leaves"
    · subst h4
      rw [if_pos rfl]
      refine ⟨B.S, B.dt, _, hb.story, hS.cl, hS.n_done, _, sk_deeds_done, _, rfl, put _ 5 5 { vis c with left := some k } rfl rfl ?_⟩
      simp only [noteL, if_neg h1, if_neg h2, if_neg h3, if_true]
    have n4 : V.str wd ≠ V.str (Str.ofString "leaves") := fun z => h4 (V.str.inj z)
    rw [if_neg n4]
    refine q H ?_
    simp only [noteL, if_neg h1, if_neg h2, if_neg h3, if_neg h4]
    exact Chg.non (Same.refl _) hv
end
/-! events -/
theorem wS_draws (x : Rm.W) : (wS x = ("draws" : Str)) = (x = .draws) := by
  cases x <;> first | exact propext ⟨fun _ => rfl, fun _ => rfl⟩ | exact propext ⟨fun h => absurd h (by decide +kernel), fun h => absurd h (by decide)⟩
theorem wS_lowers (x : Rm.W) : (wS x = ("lowers" : Str)) = (x = .lowers) := by
  cases x <;> first | exact propext ⟨fun _ => rfl, fun _ => rfl⟩ | exact propext ⟨fun h => absurd h (by decide +kernel), fun h => absurd h (by decide)⟩
theorem wS_leaves (x : Rm.W) : (wS x = ("leaves" : Str)) = False := by
  cases x <;> exact propext ⟨fun h => absurd h (by decide +kernel), False.elim⟩
theorem ls1 : (("leaves" : Str) = "draws") = False := by simp only [eq_iff_iff, iff_false]; decide +kernel
theorem ls2 : (("leaves" : Str) = "lowers") = False := by simp only [eq_iff_iff, iff_false]; decide +kernel
theorem ls3 : (("leaves" : Str) = "enters") = False := by simp only [eq_iff_iff, iff_false]; decide +kernel
theorem note_step (s : Rm.Hands) (i t : Nat) (v : Rm.Visit) : noteL (stV (Rm.toldS s i)) t v = Rm.noteV (s i).word t ((s i).great + 1) v := by
  simp only [stV, noteL, wS_draws, wS_lowers, wS_enters, wS_leaves, if_false]
  unfold Rm.toldS Rm.noteV
  cases e : (s i).word <;> simp only [e, reduceCtorEq, if_false, if_true, oV, Int.toNat_natCast]
theorem note_leave (a y : V) (t : Nat) (v : Rm.Visit) : noteL [.str "leaves", a, y] t v = { v with left := some t } := by
  simp only [noteL, ls1, ls2, ls3, if_false, if_true]
theorem well_step (s : Rm.Hands) (i : Nat) : wellE (stV (Rm.toldS s i)) := by
  refine ⟨_, _, _, rfl, fun h => ?_⟩
  rw [wS_draws] at h
  rw [Rm.told_word] at h
  exact ⟨(s i).great + 1, by simp only [Rm.toldS, h, oV]⟩
theorem well_leave (a : V) (tk : Nat) : wellE [.str "leaves", a, .int tk] := ⟨_, _, _, rfl, fun _ => ⟨tk, rfl⟩⟩
def evF (cur : Nat → Nat) (t : Nat) (vis : Nat → Rm.Visit) (es : List (Nat × List V)) : Nat → Rm.Visit := es.foldl (fun f e => Rm.put f (cur e.1) (noteL e.2 t (f (cur e.1)))) vis
theorem evF_snoc {cur : Nat → Nat} {t : Nat} {vis : Nat → Rm.Visit} {es : List (Nat × List V)} {e : Nat × List V} : evF cur t vis (es ++ [e]) = Rm.put (evF cur t vis es) (cur e.1) (noteL e.2 t (evF cur t vis es (cur e.1))) := by
  simp only [evF, List.foldl_append, List.foldl_cons, List.foldl_nil]
theorem goA_ev {n t i : Nat} {H : Rm.Hall} : ∀ k, (Rm.goA n t i H k).1.vis = evF H.cur t H.vis ((Rm.goA n t i H k).2.map fun x => (i, stV x)) ∧ (Rm.goA n t i H k).1.cur = H.cur
  | 0 => ⟨rfl, rfl⟩
  | k + 1 => by
    obtain ⟨h1, h2⟩ := goA_ev (n := n) (t := t) (i := i) (H := H) k
    simp only [Rm.goA]
    split
    · exact ⟨h1, h2⟩
    · refine ⟨?_, h2⟩
      rw [List.map_append, List.map_cons, List.map_nil, evF_snoc, ← h1]
      simp only [Rm.stepA]
      rw [h2, note_step]
def isEnt : List V → Bool
  | [.str w, _, _] => decide (w = "enters")
  | _ => false
theorem roundA_ev {n t : Nat} {H : Rm.Hall} : ∀ k, (Rm.roundA n t H k).1.hands = (roundS n H.hands k).1 ∧ (Rm.roundA n t H k).1.vis = evF H.cur t H.vis (roundS n H.hands k).2 ∧ (Rm.roundA n t H k).1.cur = H.cur ∧ (Rm.roundA n t H k).2 = ((roundS n H.hands k).2.filter fun e => isEnt e.2).map (·.1)
  | 0 => ⟨rfl, rfl, rfl, rfl⟩
  | k + 1 => by
    obtain ⟨h1, h2, h3, h4⟩ := roundA_ev (n := n) (t := t) (H := H) k
    simp only [Rm.roundA, roundS, Rm.roundOne, turnS]
    rw [h1]
    split
    · refine ⟨by simp only [Rm.leaveA]; rw [h1], ?_, h3, ?_⟩
      · rw [evF_snoc, ← h2]
        simp only [Rm.leaveA]
        rw [h3, note_leave]
      · rw [h4, List.filter_append, List.map_append]
        have : isEnt [.str "leaves", .non, .int ((roundS n H.hands k).1 k).ticket] = false := by simp only [isEnt, ls3, decide_false]
        simp [this]
    · split
      · exact ⟨h1, by rw [List.append_nil]; exact h2, h3, by rw [List.append_nil, List.append_nil]; exact h4⟩
      · refine ⟨by simp only [Rm.stepA]; rw [h1], ?_, h3, ?_⟩
        · rw [evF_snoc, ← h2]
          simp only [Rm.stepA]
          rw [h3, note_step, h1]
        · rw [h4, List.filter_append, List.map_append]
          have : isEnt (stV (Rm.toldS (roundS n H.hands k).1 k)) = decide (((roundS n H.hands k).1 k).word = .enters) := by
            simp only [isEnt, stV, wS_enters, Rm.told_word]
          congr 1
          by_cases e : ((roundS n H.hands k).1 k).word = .enters
          · simp [this, e]
          · simp [this, e]
/-! what a deed leaves -/
section
variable {B : Sto} {va va' : Nat → Addr} {lk lk' : List (Key × V)} {R R' : Rm.Hall} {k k' m : Nat} {H G G' : Hp} {v : V} {a : Dat}
theorem AtStory.own (h : AtStory B va lk R k H) {c : Addr} (o : Ow B va R.m c) : ∃ u, H c = some u ∧ ∀ xs, u ≠ .tup xs := by
  rcases o with ⟨i, hi, rfl⟩ | rfl | rfl | rfl | ⟨j, hj, rfl⟩ | rfl | rfl | ⟨i, hi, rfl⟩
  · exact ⟨_, h.room.hall.hand i hi, fun _ => nofun⟩
  · exact ⟨_, h.book.story, fun _ => nofun⟩
  · exact ⟨_, h.book.lst, fun _ => nofun⟩
  · exact ⟨_, h.book.dict, fun _ => nofun⟩
  · exact ⟨_, h.book.one j hj, fun _ => nofun⟩
  · exact ⟨_, h.room.room, fun _ => nofun⟩
  · exact ⟨_, h.room.hall.lst, fun _ => nofun⟩
  · exact ⟨_, h.room.hall.othr i hi, fun _ => nofun⟩
/-- the story stands where its own stands -/
theorem AtStory.stay (h : AtStory B va lk R k H) (e : ∀ c, Ow B va R.m c → G c = H c) : AtStory B va lk R k G := by
  have b := h.book
  have r := h.room
  refine ⟨⟨?_, ?_, fun i hi => ?_, fun i hi => ?_⟩, ⟨?_, ?_, fun j hj => ?_, b.inj, ?_, b.few⟩, h.lat, h.apart, h.sepL, h.sepO⟩
  · rw [e _ (.inr (.inr (.inr (.inr (.inr (.inl rfl))))))]; exact r.room
  · rw [e _ (.inr (.inr (.inr (.inr (.inr (.inr (.inl rfl)))))))]; exact r.hall.lst
  · rw [e _ (.inl ⟨i, hi, rfl⟩)]; exact r.hall.hand i hi
  · rw [e _ (.inr (.inr (.inr (.inr (.inr (.inr (.inr ⟨i, hi, rfl⟩)))))))]; exact r.hall.othr i hi
  · rw [e _ (.inr (.inl rfl))]; exact b.story
  · rw [e _ (.inr (.inr (.inl rfl)))]; exact b.lst
  · rw [e _ (.inr (.inr (.inr (.inr (.inl ⟨j, hj, rfl⟩)))))]; exact b.one j hj
  · rw [e _ (.inr (.inr (.inr (.inl rfl))))]; exact b.dict
structure Dun (B : Sto) (va : Nat → Addr) (m : Nat) (H : Hp) (va' : Nat → Addr) (lk' : List (Key × V)) (R' : Rm.Hall) (k' : Nat) (G : Hp) (v : V) (a : Dat) : Prop where
  st : AtStory B va' lk' R' k' G
  keep : ∀ c u, H c = some u → ¬ Ow B va m c → G c = some u
  own : ∀ c, Ow B va' R'.m c → Ow B va m c ∨ H c = none
  ans : ∃ N : Hp, (∀ c u, N c = some u → (H c = none ∨ ∃ xs, u = .tup xs) ∧ G c = some u ∧ ¬ Ow B va' R'.m c) ∧ DV N v a
theorem AtRoom.note {s : Rm.Hands} {b : Addr} {o : Rm.Visit} {u : HO} (h : AtRoom B.A s H) (hv : H b = some (.lst (visitV o))) (hn : ∀ i, i < B.A.n → b ≠ B.A.oa i) (g : Chg H b u G) : AtRoom B.A s G := by
  refine ⟨g.keep _ _ h.room fun e => ?_, g.keep _ _ h.hall.lst fun e => ?_, fun i hi => g.keep _ _ (h.hall.hand i hi) fun e => ?_, fun i hi => g.keep _ _ (h.hall.othr i hi) fun e => hn i hi e.symm⟩
  · rw [← e, h.room] at hv; cases hv
  · rw [← e, h.hall.lst] at hv
    cases hm : B.A.n with
    | zero => rw [hm] at hv; simp [visitV] at hv
    | succ m => rw [hm, List.range_succ_eq_map] at hv; simp [visitV] at hv
  · rw [← e, h.hall.hand i hi] at hv; cases hv
theorem AtRoom.put {s : Rm.Hands} {A : Ads} {l : Addr} {o : HO} (h : AtRoom A s H) (p : Put H l o G) (n1 : A.r ≠ l) (n2 : A.L ≠ l) (n3 : ∀ i, i < A.n → A.ad i ≠ l) (n4 : ∀ i, i < A.n → A.oa i ≠ l) : AtRoom A s G :=
  ⟨by rw [p.ne n1]; exact h.room, by rw [p.ne n2]; exact h.hall.lst, fun i hi => by rw [p.ne (n3 i hi)]; exact h.hall.hand i hi, fun i hi => by rw [p.ne (n4 i hi)]; exact h.hall.othr i hi⟩
theorem Mov.free {s' : Rm.Hands} {A : Ads} {p : Addr} (m : Mov A s' H G) (e : G p = none) : H p = none := by
  cases z : H p with
  | none => rfl
  | some u =>
    by_cases h : ∃ i, i < A.n ∧ p = A.ad i
    · obtain ⟨i, hi, rfl⟩ := h
      rw [m.at.hall.hand i hi] at e; cases e
    · rw [m.keep _ _ z fun i hi q => h ⟨i, hi, q⟩] at e; cases e
/-- the book stands when the room moves -/
theorem AtBook.mov {vis : Nat → Rm.Visit} {s : Rm.Hands} (h : AtBook B va lk vis m k H) (r : AtRoom B.A s H) (g : ∀ c u, H c = some u → (∀ i, i < B.A.n → c ≠ B.A.ad i) → G c = some u) : AtBook B va lk vis m k G := by
  refine ⟨g _ _ h.story fun i hi e => ?_, g _ _ h.lst fun i hi e => ?_, fun j hj => g _ _ (h.one j hj) fun i hi e => ?_, h.inj, g _ _ h.dict fun i hi e => ?_, h.few⟩
  · have := r.hall.hand i hi
    rw [← e, h.story] at this
    simp only [Option.some.injEq, HO.ins.injEq] at this
    have := congrArg List.length this.2.2
    simp [sfs, hfs] at this
  · have := r.hall.hand i hi
    rw [← e, h.lst] at this; cases this
  · have := r.hall.hand i hi
    rw [← e, h.one j hj] at this; cases this
  · have := r.hall.hand i hi
    rw [← e, h.dict] at this; cases this
end
/-- what holds ahead of a deed -/
structure Pre (C Rr S : Addr) (B : Sto) (va : Nat → Addr) (lk : List (Key × V)) (R : Rm.Hall) (k : Nat) (H : Hp) : Prop where
  cC : B.A.C = C
  cR : B.A.R = Rr
  cS : B.S = S
  st : AtStory B va lk R k H
  inv : Rm.HInv B.A.n k R
  nn : B.A.n ≤ 900
  mm : R.m < 950
structure Post (eN eI eW eO : Addr) (B : Sto) (va : Nat → Addr) (R : Rm.Hall) (k : Nat) (d : Dd) (k' : Nat) (H : Hp) (Q : VK) (E : XK) : Prop where
  q : ∀ v va' lk' G, Dun B va R.m H va' lk' (Rm.deedA B.A.n k R d.deed).1 k' G v (ansD (Rm.deedA B.A.n k R d.deed).2) → Q v G
  eN : (Rm.deedA B.A.n k R d.deed).2 = .noHand → E (.ref eN) none H
  eI : (Rm.deedA B.A.n k R d.deed).2 = .isWithin → E (.ref eI) none H
  eW : (Rm.deedA B.A.n k R d.deed).2 = .onWay → E (.ref eW) none H
  eO : (Rm.deedA B.A.n k R d.deed).2 = .isOut → E (.ref eO) none H
section
variable {P : Program} {w : World} {K : PySem.W.Frag} {mg : Str → Option Value} {base : Heap}
theorem deed_want {n k : Nat} {R : Rm.Hall} {z : Int} : Rm.deedA n k R (Dd.deed (.want z)) = (if Rm.isHand n z then (if (R.hands z.toNat).word = .within then (R, .isWithin) else if (R.hands z.toNat).word = .out then (Rm.wantA k R z.toNat, .num R.m) else (R, .onWay)) else (R, .noHand)) := rfl
abbrev sWantS : Stmt := inClass (top 39) 4
def spWantS (C Rr S eN eI eW eO : Addr) : Sp := fun vs H Q E => ∃ (B : Sto) (va : Nat → Addr) (lk : List (Key × V)) (R : Rm.Hall) (k : Nat) (z : Int), vs = [.ref B.t, .int z] ∧ Pre C Rr S B va lk R k H ∧ Post eN eI eW eO B va R k (.want z) k H Q E
theorem scWantS : FnScope ["self", "number", "visit"] ["self", "number"] (defScope sWantS) := ⟨rfl, rfl, rfl, by decide +kernel, rfl, by decide +kernel, by decide +kernel⟩
theorem ok_wantS {f C Rr S eN eI eW eO : Addr} {fd : FuncData} (F : Fun K "want" "Story.want" sWantS f fd) (T : ConS mg) (Bl : Blt mg) (hS : StoryC K S) (m_want : MethBy P w K mg base (CXE P w) 2 Rr "want" ["self", "number"] (spWantR C Rr eN eI eW)) : FnOk P w K mg base (CXE P w) 3 f fd ["self", "number"] (spWantS C Rr S eN eI eW eO) := by
  refine F.okX scWantS (fun vs H Q E h => ?_) (fun cdv A outer s H vs Q E hr h => ?_)
  · obtain ⟨B, va, lk, R, k, z, rfl, _⟩ := h
    rfl
  · obtain ⟨B, va, lk, R, k, z, rfl, ⟨rfl, rfl, rfl, hst, hI, hn, hm⟩, po⟩ := h
    have SC := scWantS
    have hb := hst.book
    refine ⟨_, (pss_cons (ps_expr (pe_meX m_want (pe_fld (pv 0) rfl) (hr.mono (by decide)) xok_fn.pass (pac (pv 1) pa_nil)))
      (pss_cons (ps_set (i := 2) SC.nd (by rfl) (Or.inl (by rfl)) (pe_lstN (pac (pv 1) (pac (pe_fld (pv 0) rfl) (pac pe_non (pac pe_non (pac pe_non (pac pe_non pa_nil))))))))
      (pss_cons (ps_expr (pe_bm PySem.F.plainAttrs_list PySem.F.slot_list_append PySem.F.type_list_append mt_appendN (pe_fld (pv 0) rfl) (pac (pv 2) pa_nil)))
      (pss_cons (ps_dputN (hu_of hr) (pe_fld (pv 0) rfl) (pv 1) (pv 2) rfl)
      (pss_one (ps_ret (pe_op op_sub (pe_callB call_len_seq (by rfl) Bl.b_len PyProof.Rows.Boot.len (pac (pe_fld (pv 0) rfl) pa_nil)) pe_int))))))), ?_⟩
    walk_at "rd"
    have dw := @deed_want B.A.n k R z
    refine ⟨_, rfl, B.t, B.S, B.dt, _, _, rfl, hb.story, hS.cl, hS.n_room, sk_room, B.A.r, B.A.dr, _, rfl, hst.room.room, rk_no (by decide +kernel), _, rfl, B.A, R.hands, z, rfl, rfl, rfl, hst.room, fun hz => po.eN ?_, fun hz hw => po.eI ?_, fun hz h1 h2 => po.eW ?_, fun hz ho G0 mv => ?_⟩
    · rw [dw, if_neg (by simp [hz])]
    · rw [dw, if_pos hz, if_pos hw]
    · rw [dw, if_pos hz, if_neg h1, if_neg h2]
    rw [if_pos hz, if_neg (by rw [ho]; decide), if_pos ho] at dw
    have hb0 : AtBook B va lk R.vis R.m k G0 := hb.mov hst.room mv.keep
    k_invariant "rd" (And.intro hb0.story (And.intro hS.all sfsF))
    refine ⟨by decide, fun p G1 n1 => ?_⟩
    have hb1 := hb0.same n1.same
    k_invariant "rd" (And.intro hb1.story (And.intro hS.all sfsF))
    refine ⟨.inl ⟨rfl, _, .of hb1.lst⟩, B.vl, _, _, rfl, rfl, hb1.lst, ?_, fun G2 p2 => ?_⟩
    · rw [List.length_map, List.length_range]; exact lt_size (by omega)
    have ht2 : G2 B.t = some (.ins B.S B.dt (sfs B.A.r B.vl B.ld k)) := by
      rw [p2.ne fun e => by have := hb1.story; rw [e, hb1.lst] at this; cases this]; exact hb1.story
    have hd2 : G2 B.ld = some (.dK lk) := by
      rw [p2.ne fun e => by have := hb1.dict; rw [e, hb1.lst] at this; cases this]; exact hb1.dict
    refine ⟨_, rfl, _, rfl, B.t, B.S, B.dt, _, _, rfl, ht2, hS.cl, hS.n_latest, sk_latest, _, rfl, B.ld, lk, Sum.inl z, rfl, rfl, hd2, lt_size (by have := hb.few; omega), fun G3 p3 => ?_⟩
    have ne : ∀ c u, G1 c = some u → (∀ xs, u ≠ .lst xs) → (∀ xs, u ≠ .dK xs) → G3 c = some u := fun c u e z1 z2 => by
      have e2 : G2 c = some u := by
        rw [p2.ne fun y => by rw [y, hb1.lst] at e; exact z1 _ (Option.some.inj e).symm]; exact e
      rw [p3.ne fun y => by rw [y, hd2] at e2; exact z2 _ (Option.some.inj e2).symm]; exact e2
    have neL : ∀ c xs, G1 c = some (.lst xs) → c ≠ B.vl → G3 c = some (.lst xs) := fun c xs e z => by
      have e2 : G2 c = some (.lst xs) := by rw [p2.ne z]; exact e
      rw [p3.ne fun y => by rw [y, hd2] at e2; cases e2]; exact e2
    have hv3 : G3 B.vl = some (.lst ((List.range R.m).map (fun j => V.ref (va j)) ++ [.ref p])) := by
      rw [p3.ne fun y => by have := p2.at; rw [y, hd2] at this; cases this]; exact p2.at
    have ht3 := ne _ _ hb1.story (fun _ => nofun) (fun _ => nofun)
    k_invariant "rd" (And.intro ht3 (And.intro hS.all sfsF))
    refine ⟨_, .inl (.of hv3), ?_⟩
    have hlen : (((List.range R.m).map (fun j => V.ref (va j)) ++ [V.ref p]).length : Int) - 1 = R.m := by simp
    rw [hlen]
    have hzn : ((z.toNat : Nat) : Int) = z := by simp [Rm.isHand] at hz; omega
    have hi : z.toNat < B.A.n := by simp [Rm.isHand] at hz; omega
    have pf := n1.free
    have fresh : ∀ c u, G0 c = some u → c ≠ p := fun c u e y => by rw [y, pf] at e; cases e
    have vaL : ∀ j, j < R.m → va j ≠ B.vl := fun j hj y => by
      have := hb0.one j hj
      rw [y, hb0.lst] at this
      cases hm' : R.m with
      | zero => omega
      | succ m => rw [hm', List.range_succ_eq_map] at this; simp [visitV] at this
    have rm1 := mv.at.same n1.same
    have pm : Rm.put va R.m p R.m = p := Rm.put_self _ _ _
    have pn : ∀ j, j < R.m → Rm.put va R.m p j = va j := fun j hj => Rm.put_ne _ _ (by omega)
    refine po.q _ (Rm.put va R.m p) (putK lk (Sum.inl z) (.ref p)) G3 ?_
    rw [dw]
    refine ⟨⟨⟨?_, ?_, fun i hi => ?_, fun i hi => ?_⟩, ⟨ht3, ?_, fun j hj => ?_, fun i j hi hj e => ?_, p3.at, ?_⟩, fun i hi' hw => ?_, fun j i hj hi' => ?_, hst.sepL, hst.sepO⟩, fun c u e o => ?_, fun c o => ?_, fun _ => none, (fun _ _ e => nomatch e), by simp only [ansD]; unfold DV; rfl⟩
    · exact ne _ _ rm1.room (fun _ => nofun) (fun _ => nofun)
    · exact neL _ _ rm1.hall.lst (Ne.symm hst.sepL)
    · exact ne _ _ (rm1.hall.hand i hi) (fun _ => nofun) (fun _ => nofun)
    · exact neL _ _ (rm1.hall.othr i hi) (Ne.symm (hst.sepO i hi))
    · rw [hv3]
      simp only [Rm.wantA, List.range_succ, List.map_append, List.map_cons, List.map_nil, pm]
      refine congrArg some (congrArg HO.lst (congrArg (· ++ [V.ref p]) (List.map_congr_left fun j hj => ?_)))
      rw [pn j (List.mem_range.1 hj)]
    · by_cases e : j = R.m
      · subst e
        rw [pm]
        simp only [Rm.wantA, Rm.put_self]
        refine neL _ _ ?_ (fresh _ _ hb0.lst).symm
        rw [n1.at]
        simp only [visitV, onV, hzn]
      · have hj' : j < R.m := by simp only [Rm.wantA] at hj; omega
        rw [pn j hj']
        simp only [Rm.wantA]
        rw [Rm.put_ne _ _ e]
        exact neL _ _ (hb1.one j hj') (vaL j hj')
    · simp only [Rm.wantA] at hi hj
      by_cases e1 : i = R.m
      · by_cases e2 : j = R.m
        · omega
        · rw [e1, pm, pn j (by omega)] at e
          exact absurd e.symm (fresh _ _ (hb0.one j (by omega)))
      · by_cases e2 : j = R.m
        · rw [e2, pm, pn i (by omega)] at e
          exact absurd e (fresh _ _ (hb0.one i (by omega)))
        · rw [pn i (by omega), pn j (by omega)] at e
          exact hb.inj i j (by omega) (by omega) e
    · have := length_putK lk (Sum.inl z) (.ref p)
      have := hb.few
      simp only [Rm.wantA]; omega
    · simp only [Rm.wantA] at hw ⊢
      by_cases e : i = z.toNat
      · subst e
        rw [Rm.put_self, pm, valV_put, if_pos (by rw [hzn])]
        exact ⟨by omega, rfl⟩
      · rw [Rm.put_ne _ _ e] at hw
        obtain ⟨l1, l2⟩ := hst.lat i hi' hw
        rw [Rm.put_ne _ _ e, pn _ l1, valV_put, if_neg (by simp only [Sum.inl.injEq]; omega)]
        exact ⟨by omega, l2⟩
    · simp only [Rm.wantA] at hj
      by_cases e : j = R.m
      · subst e
        rw [pm]
        exact (fresh _ _ (mv.at.hall.othr i hi')).symm
      · rw [pn j (by omega)]
        exact hst.apart j i (by omega) hi'
    · have e0 := mv.keep c u e fun i hi y => o (.inl ⟨i, hi, y⟩)
      have e1 := n1.same _ _ e0
      have e2 : G2 c = some u := by rw [p2.ne fun y => o (.inr (.inr (.inl y)))]; exact e1
      rw [p3.ne fun y => o (.inr (.inr (.inr (.inl y))))]; exact e2
    · rcases o with o | o | o | o | ⟨j, hj, rfl⟩ | o
      · exact .inl (.inl o)
      · exact .inl (.inr (.inl o))
      · exact .inl (.inr (.inr (.inl o)))
      · exact .inl (.inr (.inr (.inr (.inl o))))
      · simp only [Rm.wantA] at hj
        by_cases e : j = R.m
        · subst e
          rw [pm]
          exact .inr (mv.free pf)
        · rw [pn j (by omega)]
          exact .inl (.inr (.inr (.inr (.inr (.inl ⟨j, by omega, rfl⟩)))))
      · exact .inl (.inr (.inr (.inr (.inr (.inr o)))))
end
/-! the room has moved, some events are written down -/
structure Midd (B : Sto) (va : Nat → Addr) (lk : List (Key × V)) (m k : Nat) (H : Hp) (s' : Rm.Hands) (vis' : Nat → Rm.Visit) (G : Hp) : Prop where
  room : AtRoom B.A s' G
  book : AtBook B va lk vis' m k G
  keep : ∀ c u, H c = some u → ¬ Ow B va m c → G c = some u
section
variable {B : Sto} {va : Nat → Addr} {lk : List (Key × V)} {R R' : Rm.Hall} {k m : Nat} {H G G' : Hp} {s' : Rm.Hands} {vis' : Nat → Rm.Visit} {v : V} {a : Dat}
theorem Midd.start (h : AtStory B va lk R k H) (mv : Mov B.A s' H G) : Midd B va lk R.m k H s' R.vis G :=
  ⟨mv.at, h.book.mov h.room mv.keep, fun c u e o => mv.keep c u e fun i hi y => o (.inl ⟨i, hi, y⟩)⟩
theorem Midd.same (h : Midd B va lk m k H s' vis' G) (s : Same G G') : Midd B va lk m k H s' vis' G' := ⟨h.room.same s, h.book.same s, fun c u e o => s _ _ (h.keep c u e o)⟩
theorem Midd.note (h : Midd B va lk m k H s' vis' G) {c : Nat} (hc : c < m) (ap : ∀ i, i < B.A.n → va c ≠ B.A.oa i) {v : Rm.Visit} (g : Chg G (va c) (.lst (visitV v)) G') : Midd B va lk m k H s' (Rm.put vis' c v) G' :=
  ⟨AtRoom.note h.room (h.book.one c hc) ap g, h.book.note hc g, fun d u e o => g.keep _ _ (h.keep d u e o) fun y => o (.inr (.inr (.inr (.inr (.inl ⟨c, hc, y⟩)))))⟩
theorem Midd.put (h : Midd B va lk m k H s' vis' G) {l : Addr} {o : HO} (hl : H l = none) (st : AtStory B va lk R k H) (e : m = R.m) (p : Put G l o G') : Midd B va lk m k H s' vis' G' := by
  subst e
  have no : ∀ c, Ow B va R.m c → c ≠ l := fun c z y => by
    obtain ⟨u, hu, _⟩ := st.own z
    rw [y, hl] at hu; cases hu
  have b := h.book
  have r := h.room
  refine ⟨⟨?_, ?_, fun i hi => ?_, fun i hi => ?_⟩, ⟨?_, ?_, fun j hj => ?_, b.inj, ?_, b.few⟩, fun c u e z => ?_⟩
  · rw [p.ne (no _ (.inr (.inr (.inr (.inr (.inr (.inl rfl)))))))]; exact r.room
  · rw [p.ne (no _ (.inr (.inr (.inr (.inr (.inr (.inr (.inl rfl))))))))]; exact r.hall.lst
  · rw [p.ne (no _ (.inl ⟨i, hi, rfl⟩))]; exact r.hall.hand i hi
  · rw [p.ne (no _ (.inr (.inr (.inr (.inr (.inr (.inr (.inr ⟨i, hi, rfl⟩))))))))]; exact r.hall.othr i hi
  · rw [p.ne (no _ (.inr (.inl rfl)))]; exact b.story
  · rw [p.ne (no _ (.inr (.inr (.inl rfl))))]; exact b.lst
  · rw [p.ne (no _ (.inr (.inr (.inr (.inr (.inl ⟨j, hj, rfl⟩))))))]; exact b.one j hj
  · rw [p.ne (no _ (.inr (.inr (.inr (.inl rfl)))))]; exact b.dict
  · rw [p.ne fun y => by rw [y, hl] at e; cases e]; exact h.keep c u e z
theorem Midd.dun (h : Midd B va lk R.m k H s' vis' G) (st : AtStory B va lk R k H) (e1 : R'.hands = s') (e2 : R'.vis = vis') (e3 : R'.m = R.m) (e4 : R'.cur = R.cur) (ho : ∀ i, i < B.A.n → (s' i).word ≠ .out → (R.hands i).word ≠ .out)
    (an : ∃ N : Hp, (∀ c u, N c = some u → (H c = none ∨ ∃ xs, u = .tup xs) ∧ G c = some u ∧ ¬ Ow B va R.m c) ∧ DV N v a) : Dun B va R.m H va lk R' k G v a := by
  subst e1 e2
  refine ⟨⟨h.room, by rw [e3]; exact h.book, fun i hi hw => ?_, fun j i hj hi => st.apart j i (by omega) hi, st.sepL, st.sepO⟩, h.keep, fun c o => .inl (by rwa [e3] at o), by rw [e3]; exact an⟩
  rw [e3, e4]
  exact st.lat i hi (ho i hi hw)
end
theorem Midd.notup {B : Sto} {va : Nat → Addr} {lk : List (Key × V)} {m k : Nat} {H G : Hp} {s' : Rm.Hands} {vis' : Nat → Rm.Visit} (h : Midd B va lk m k H s' vis' G) {c : Addr} {xs : List V} (o : Ow B va m c) (e : G c = some (.tup xs)) : False := by
  rcases o with ⟨i, hi, rfl⟩ | rfl | rfl | rfl | ⟨j, hj, rfl⟩ | rfl | rfl | ⟨i, hi, rfl⟩
  · rw [h.room.hall.hand i hi] at e; cases e
  · rw [h.book.story] at e; cases e
  · rw [h.book.lst] at e; cases e
  · rw [h.book.dict] at e; cases e
  · rw [h.book.one j hj] at e; cases e
  · rw [h.room.room] at e; cases e
  · rw [h.room.hall.lst] at e; cases e
  · rw [h.room.hall.othr i hi] at e; cases e
theorem goS_well {n i : Nat} {s : Rm.Hands} : ∀ k, ∀ t ∈ (goS n i s k).2, wellE (stV t)
  | 0 => fun t h => nomatch h
  | k + 1 => fun t h => by
    simp only [goS] at h
    split at h
    · exact goS_well k t h
    · rcases List.mem_append.mp h with h | h
      · exact goS_well k t h
      · rw [List.mem_singleton.mp h]
        exact well_step _ _
theorem roundS_hands {n : Nat} {s : Rm.Hands} : ∀ k j, k ≤ j → (roundS n s k).1 j = s j
  | 0, _, _ => rfl
  | k + 1, j, h => by
    have := roundS_hands (n := n) (s := s) k j (by omega)
    simp only [roundS, turnS]
    split
    · simp only []; rw [Rm.put_ne _ _ (by omega)]; exact this
    · split
      · exact this
      · simp only []; rw [Rm.put_ne _ _ (by omega)]; exact this
theorem roundS_out {n i : Nat} {s : Rm.Hands} (h : (s i).word = .out) : ∀ k, ((roundS n s k).1 i).word = .out
  | 0 => h
  | k + 1 => by
    have ih := roundS_out (n := n) h k
    simp only [roundS, turnS]
    by_cases e : k = i
    · subst e
      rw [if_neg (by rw [ih]; decide), if_pos ih]
      exact ih
    · split
      · simp only []; rw [Rm.put_ne _ _ (by omega)]; exact ih
      · split
        · exact ih
        · simp only []; rw [Rm.put_ne _ _ (by omega)]; exact ih
theorem dvs_fst {N : Hp} : ∀ F : List (Nat × List V), DVs N (F.map fun e => V.int (e.1 : Nat)) (F.map ((fun k : Nat => Dat.int k) ∘ fun e => e.1))
  | [] => DVs.nil
  | _ :: r => by rw [List.map_cons, List.map_cons, dvs_cc]; exact ⟨by simp only [Function.comp]; unfold DV; rfl, dvs_fst r⟩
theorem roundS_well {n : Nat} {s : Rm.Hands} : ∀ k, ∀ e ∈ (roundS n s k).2, wellE e.2 ∧ e.1 < k ∧ (s e.1).word ≠ .out
  | 0 => fun t h => nomatch h
  | k + 1 => fun t h => by
    have hk := roundS_hands (n := n) (s := s) k k (Nat.le_refl _)
    simp only [roundS] at h
    rcases List.mem_append.mp h with h | h
    · obtain ⟨a, b, c⟩ := roundS_well k t h
      exact ⟨a, by omega, c⟩
    · simp only [turnS] at h
      split at h
      · rename_i hw
        rw [List.mem_singleton.mp h]
        exact ⟨well_leave _ _, by simp, by simp only []; rw [← hk, hw]; decide⟩
      · split at h
        · cases h
        · rename_i hw
          rw [List.mem_singleton.mp h]
          exact ⟨well_step _ _, by simp, by simp only []; rw [← hk]; exact hw⟩
theorem Tups.get {G : Hp} : ∀ {ps : List Addr} {ts : List Rm.Told} {i : Nat} {p : Addr}, Tups G ps ts → ps[i]? = some p → ∃ t, ts[i]? = some t ∧ G p = some (.tup (stV t))
  | _ :: _, _ :: _, 0, _, ⟨a, _⟩, h => by simp only [List.getElem?_cons_zero, Option.some.injEq] at h; subst h; exact ⟨_, rfl, a⟩
  | _ :: _, _ :: _, i + 1, _, ⟨_, b⟩, h => by rw [List.getElem?_cons_succ] at h ⊢; exact Tups.get b h
  | [], [], _, _, _, h => by simp at h
  | [], _ :: _, _, _, h, _ => h.elim
  | _ :: _, [], _, _, h, _ => h.elim
theorem Evs.get {G : Hp} : ∀ {ps : List Addr} {ts : List (Nat × List V)} {i : Nat} {p : Addr}, Evs G ps ts → ps[i]? = some p → ∃ t q, ts[i]? = some t ∧ G p = some (.tup [.int t.1, .ref q]) ∧ G q = some (.tup t.2)
  | _ :: _, _ :: _, 0, _, ⟨⟨q, a, c⟩, _⟩, h => by simp only [List.getElem?_cons_zero, Option.some.injEq] at h; subst h; exact ⟨_, q, rfl, a, c⟩
  | _ :: _, _ :: _, i + 1, _, ⟨_, b⟩, h => by rw [List.getElem?_cons_succ] at h; simp only [List.getElem?_cons_succ]; exact Evs.get b h
  | [], [], _, _, _, h => by simp at h
  | [], _ :: _, _, _, h, _ => h.elim
  | _ :: _, [], _, _, h, _ => h.elim
theorem oV_on (o : Option Nat) : oV o = onV o := by cases o <;> rfl
theorem dv_step {N : Hp} {p : Addr} {t : Rm.Told} (h : N p = some (.tup (stV t))) : DV N (.ref p) (toldD t) := by
  unfold toldD
  rw [DV]
  refine ⟨p, _, rfl, h, ?_⟩
  unfold stV
  rw [dvs_cc, dvs_cc, dvs_cc, dv_on, dv_on, oV_on, oV_on]
  exact ⟨by unfold DV; rfl, rfl, rfl, DVs.nil⟩
theorem dvs_tups {G N : Hp} (m : ∀ p x, G p = some (.tup x) → N p = some (.tup x)) : ∀ {ps : List Addr} {ts : List Rm.Told}, Tups G ps ts → DVs N (ps.map V.ref) (ts.map toldD)
  | [], [], _ => DVs.nil
  | _ :: _, _ :: _, ⟨a, b⟩ => by rw [List.map_cons, List.map_cons, dvs_cc]; exact ⟨dv_step (m _ _ a), dvs_tups m b⟩
  | [], _ :: _, h => h.elim
  | _ :: _, [], h => h.elim
/-- the tuples of a heap, and one list -/
def tupN (l : Addr) (G : Hp) : Hp := fun c => if c = l then G c else match G c with | some (.tup xs) => some (.tup xs) | _ => none
theorem tupN_of {l : Addr} {G : Hp} {c : Addr} {u : HO} (h : tupN l G c = some u) : G c = some u ∧ (c = l ∨ ∃ xs, u = .tup xs) := by
  unfold tupN at h
  split at h
  · exact ⟨h, .inl (by assumption)⟩
  · split at h
    · rename_i xs e
      cases h
      exact ⟨e, .inr ⟨xs, rfl⟩⟩
    · cases h
theorem tupN_tup {l : Addr} {G : Hp} {c : Addr} {xs : List V} (h : G c = some (.tup xs)) : tupN l G c = some (.tup xs) := by
  unfold tupN
  split
  · exact h
  · rw [h]
theorem tupN_lst {l : Addr} {G : Hp} {u : HO} (h : G l = some u) : tupN l G l = some u := by unfold tupN; rw [if_pos rfl]; exact h
section
variable {P : Program} {w : World} {K : PySem.W.Frag} {mg : Str → Option Value} {base : Heap}
theorem deed_leave {n k : Nat} {R : Rm.Hall} {z : Int} : Rm.deedA n k R (Dd.deed (.leave z)) = (if Rm.isHand n z then (if (R.hands z.toNat).word = .out then (R, .isOut) else (Rm.leaveA k R z.toNat, .num (R.hands z.toNat).ticket)) else (R, .noHand)) := rfl
theorem deed_go {n k : Nat} {R : Rm.Hall} {z j : Int} : Rm.deedA n k R (Dd.deed (.go z j)) = (if Rm.isHand n z then (if (R.hands z.toNat).word = .out then (R, .isOut) else if (R.hands z.toNat).word = .within then (R, .isWithin) else ((Rm.goA n k z.toNat R j.toNat).1, .steps (Rm.goA n k z.toNat R j.toNat).2)) else (R, .noHand)) := rfl
abbrev sLeaveS : Stmt := inClass (top 39) 6
def spLeaveS (C Rr S eN eI eW eO : Addr) : Sp := fun vs H Q E => ∃ (B : Sto) (va : Nat → Addr) (lk : List (Key × V)) (R : Rm.Hall) (k : Nat) (z : Int), vs = [.ref B.t, .int z] ∧ Pre C Rr S B va lk R k H ∧ Post eN eI eW eO B va R k (.leave z) k H Q E
theorem scLeaveS : FnScope ["self", "number", "ticket"] ["self", "number"] (defScope sLeaveS) := ⟨rfl, rfl, rfl, by decide +kernel, rfl, by decide +kernel, by decide +kernel⟩
theorem ok_leaveS {f C Rr S eN eI eW eO : Addr} {fd : FuncData} (F : Fun K "leave" "Story.leave" sLeaveS f fd) (T : ConS mg) (hS : StoryC K S) (m_leave : MethBy P w K mg base (CXE P w) 2 Rr "leave" ["self", "number"] (spLeaveR C Rr eN eO)) (m_keep : MethBy P w K mg base CX0 1 S "keep" ["self", "number", "one"] (spKeep S)) : FnOk P w K mg base (CXE P w) 3 f fd ["self", "number"] (spLeaveS C Rr S eN eI eW eO) := by
  refine F.okX scLeaveS (fun vs H Q E h => ?_) (fun cdv A outer s H vs Q E hr h => ?_)
  · obtain ⟨B, va, lk, R, k, z, rfl, _⟩ := h
    rfl
  · obtain ⟨B, va, lk, R, k, z, rfl, ⟨rfl, rfl, rfl, hst, hI, hn, hm⟩, po⟩ := h
    have SC := scLeaveS
    have hb := hst.book
    refine ⟨_, (pss_cons (ps_set (i := 2) SC.nd (by rfl) (Or.inl (by rfl)) (pe_meX m_leave (pe_fld (pv 0) rfl) (hr.mono (by decide)) xok_fn.pass (pac (pv 1) pa_nil)))
      (pss_cons (ps_expr (pe_me m_keep (pv 0) (hr.mono (by decide)) pass0 (pac (pv 1) (pac (pe_tupN (pac (pe_gs (by rfl) T.g_LEAVES) (pac pe_non (pac (pv 2) pa_nil)))) pa_nil))))
      (pss_one (ps_ret (pv 2))))), ?_⟩
    k_invariant "rd" (And.intro hb.story (And.intro hS.all sfsF))
    have dw := @deed_leave B.A.n k R z
    refine ⟨_, rfl, B.t, B.S, B.dt, _, _, rfl, hb.story, hS.cl, hS.n_room, sk_room, B.A.r, B.A.dr, _, rfl, hst.room.room, rk_no (by decide +kernel), _, rfl, B.A, R.hands, z, rfl, rfl, rfl, hst.room, fun hz => po.eN ?_, fun hz ho => po.eO ?_, fun hz ho G0 mv => ?_⟩
    · rw [dw, if_neg (by simp [hz])]
    · rw [dw, if_pos hz, if_pos ho]
    rw [if_pos hz, if_neg ho] at dw
    have hzn : ((z.toNat : Nat) : Int) = z := by simp [Rm.isHand] at hz; omega
    have hi : z.toNat < B.A.n := by simp [Rm.isHand] at hz; omega
    obtain ⟨l1, l2⟩ := hst.lat z.toNat hi ho
    rw [hzn] at l2
    have M0 := Midd.start hst mv
    refine ⟨B.dt, _, M0.book.story, sk_no (by decide +kernel), by decide, fun p G1 n1 => ?_⟩
    have M1 := M0.same n1.same
    refine ⟨B, va, lk, _, _, k, z, p, _, R.cur z.toNat, rfl, rfl, M1.book, n1.at, well_leave _ _, l1, l2, fun G2 c2 => ?_⟩
    rw [note_leave] at c2
    have M2 := M1.note l1 (fun i hi => hst.apart _ i l1 hi) c2
    refine po.q _ va lk G2 ?_
    rw [dw]
    refine M2.dun hst rfl rfl rfl rfl (fun i hi' hw => ?_) ⟨fun _ => none, (fun _ _ e => nomatch e), by simp only [ansD]; unfold DV; rfl⟩
    by_cases e : i = z.toNat
    · subst e; exact ho
    · rwa [Rm.put_ne _ _ e] at hw
abbrev sGoS : Stmt := inClass (top 39) 5
def spGoS (C Rr S eN eI eW eO : Addr) : Sp := fun vs H Q E => ∃ (B : Sto) (va : Nat → Addr) (lk : List (Key × V)) (R : Rm.Hall) (k : Nat) (z j : Int), vs = [.ref B.t, .int z, .int j] ∧ 0 ≤ j ∧ j ≤ 900 ∧ Pre C Rr S B va lk R k H ∧ Post eN eI eW eO B va R k (.go z j) k H Q E
theorem scGoS : FnScope ["self", "number", "many", "done", "one"] ["self", "number", "many"] (defScope sGoS) := ⟨rfl, rfl, rfl, by decide +kernel, rfl, by decide +kernel, by decide +kernel⟩
theorem ok_goS {f C Rr S eN eI eW eO : Addr} {fd : FuncData} (F : Fun K "go" "Story.go" sGoS f fd) (T : ConS mg) (hS : StoryC K S) (m_go : MethBy P w K mg base (CXE P w) 4 Rr "go" ["self", "number", "many"] (spGoR C Rr eN eI eO)) (m_keep : MethBy P w K mg base CX0 1 S "keep" ["self", "number", "one"] (spKeep S)) : FnOk P w K mg base (CXE P w) 5 f fd ["self", "number", "many"] (spGoS C Rr S eN eI eW eO) := by
  refine F.okX scGoS (fun vs H Q E h => ?_) (fun cdv A outer s H vs Q E hr h => ?_)
  · obtain ⟨B, va, lk, R, k, z, j, rfl, _⟩ := h
    rfl
  · obtain ⟨B, va, lk, R, k, z, j, rfl, hj0, hj9, ⟨rfl, rfl, rfl, hst, hI, hn, hm⟩, po⟩ := h
    have SC := scGoS
    have hb := hst.book
    refine ⟨_, (pss_cons (ps_set (i := 3) SC.nd (by rfl) (Or.inl (by rfl)) (pe_meX m_go (pe_fld (pv 0) rfl) (hr.mono (by decide)) xok_fn.pass (pac (pv 1) (pac (pv 2) pa_nil))))
      (pss_cons (ps_for own_fn rfl (pi_list (pv 3)) (pg_name (i := 4) SC.nd (by rfl) (Or.inl (by rfl))) (pss_one (ps_expr (pe_me m_keep (pv 0) (hr.mono (by decide)) pass0 (pac (pv 1) (pac (pv 4) pa_nil))))))
      (pss_one (ps_ret (pv 3))))), ?_⟩
    k_invariant "rd" (And.intro hb.story (And.intro hS.all sfsF))
    have dw := @deed_go B.A.n k R z j
    obtain ⟨q, rfl⟩ : ∃ q : Nat, j = q := ⟨j.toNat, by omega⟩
    rw [Int.toNat_natCast] at dw
    refine ⟨_, rfl, B.t, B.S, B.dt, _, _, rfl, hb.story, hS.cl, hS.n_room, sk_room, B.A.r, B.A.dr, _, rfl, hst.room.room, rk_no (by decide +kernel), _, rfl, _, rfl, B.A, R.hands, z, q, rfl, rfl, rfl, hst.room, hI.inv, by omega, fun hz => po.eN ?_, fun hz ho => po.eO ?_, fun hz hw => po.eI ?_, fun hz ho hw l ps G0 hl mv el tu => ?_⟩
    · rw [dw, if_neg (by simp [hz])]
    · rw [dw, if_pos hz, if_pos ho]
    · rw [dw, if_pos hz, if_neg (by rw [hw]; decide), if_pos hw]
    rw [if_pos hz, if_neg ho, if_neg hw] at dw
    have hzn : ((z.toNat : Nat) : Int) = z := by simp [Rm.isHand] at hz; omega
    have hi : z.toNat < B.A.n := by simp [Rm.isHand] at hz; omega
    obtain ⟨l1, l2⟩ := hst.lat z.toNat hi ho
    rw [hzn] at l2
    have M0 := Midd.start hst mv
    obtain ⟨g1, g2⟩ := goA_S (n := B.A.n) (t := k) (i := z.toNat) (H := R) q
    obtain ⟨v1, v2⟩ := goA_ev (n := B.A.n) (t := k) (i := z.toNat) (H := R) q
    have wl := goS_well (n := B.A.n) (i := z.toNat) (s := R.hands) q
    generalize hts : (goS B.A.n z.toNat R.hands q).2 = ts at tu wl g2
    refine ⟨_, rfl, l, rfl, ⟨_, .of el⟩, for_list (K := K) (a := l) (xs := ps.map V.ref) (fun i σ H2 => ∃ x, σ = [some (.ref B.t), some (.int z), some (.int q), some (.ref l), x] ∧ Midd B va lk R.m k H (goS B.A.n z.toNat R.hands q).1 (evF R.cur k R.vis ((ts.take i).map fun x => (z.toNat, stV x))) H2 ∧ H2 l = some (.lst (ps.map V.ref)) ∧ Tups H2 ps ts) ⟨none, rfl, M0, el, tu⟩ (fun i σ H2 _ ⟨_, _, _, e, _⟩ => .of e) ?_ ?_⟩
    · rintro i y σ H2 hy ⟨x, rfl, M, el2, tu2⟩
      rw [List.getElem?_map, Option.map_eq_some_iff] at hy
      obtain ⟨p, hp, rfl⟩ := hy
      obtain ⟨t, ht, hpt⟩ := tu2.get hp
      have hil := (List.getElem?_eq_some_iff.mp ht).1
      have hie := (List.getElem?_eq_some_iff.mp ht).2
      walk_at "rd"
      refine ⟨B.dt, _, M.book.story, sk_no (by decide +kernel), B, va, lk, _, _, k, z, p, _, R.cur z.toNat, rfl, rfl, M.book, hpt, wl t (hie ▸ List.getElem_mem hil), l1, l2, fun G2 c2 => ?_⟩
      have hv := M.book.one _ l1
      have M2 := M.note l1 (fun i hi => hst.apart _ i l1 hi) c2
      refine ⟨?_, ?_, ?_⟩
      · rw [List.take_succ_eq_append_getElem hil, hie, List.map_append, List.map_cons, List.map_nil, evF_snoc]
        exact M2
      · refine c2.keep _ _ el2 fun e => ?_
        have := hst.book.one _ l1
        rw [← e, hl] at this; cases this
      · exact tu2.mono fun a u e => c2.keep _ _ e fun y => by rw [y, hv] at e; cases e
    · rintro σ H2 ⟨x, rfl, M, el2, tu2⟩
      rw [List.length_map, tu2.len, List.take_length] at M
      refine ⟨_, rfl, po.q _ va lk H2 ?_⟩
      rw [dw]
      refine M.dun hst g1 (by rw [v1, g2]) (goA_m q) v2 (fun i hi' hw' => ?_) ⟨tupN l H2, fun c u e => ?_, ?_⟩
      · by_cases e : i = z.toNat
        · subst e; exact ho
        · have := (Rm.goA_inv (hI.more (Nat.le_succ _)) hi ho q).2.2 i e
          rw [← g1, this] at hw'
          exact hw'
      · obtain ⟨e1, e2⟩ := tupN_of e
        refine ⟨?_, e1, fun o => ?_⟩
        · rcases e2 with rfl | e2
          · exact .inl hl
          · exact .inr e2
        · rcases e2 with rfl | ⟨xs, rfl⟩
          · obtain ⟨u', hu, _⟩ := hst.own o
            rw [hl] at hu; cases hu
          · exact Midd.notup M o e1
      · simp only [ansD]
        rw [g2]
        exact dv_lst (tupN_lst el2) (dvs_tups (fun p x h => tupN_tup h) tu2)
abbrev sRoundS : Stmt := inClass (top 39) 7
def spRoundS (C Rr S eN eI eW eO : Addr) : Sp := fun vs H Q E => ∃ (B : Sto) (va : Nat → Addr) (lk : List (Key × V)) (R : Rm.Hall) (k : Nat), vs = [.ref B.t] ∧ Pre C Rr S B va lk R k H ∧ Post eN eI eW eO B va R k .round k H Q E
theorem scRoundS : FnScope ["self", "went_in", "number", "one"] ["self"] (defScope sRoundS) := ⟨rfl, rfl, rfl, by decide +kernel, rfl, by decide +kernel, by decide +kernel⟩
theorem ok_roundS {f C Rr S eN eI eW eO : Addr} {fd : FuncData} (F : Fun K "go_round" "Story.go_round" sRoundS f fd) (T : ConS mg) (hS : StoryC K S) (m_go_round : MethBy P w K mg base CX0 4 Rr "go_round" ["self"] (spRound C Rr)) (m_keep : MethBy P w K mg base CX0 1 S "keep" ["self", "number", "one"] (spKeep S)) : FnOk P w K mg base CX0 5 f fd ["self"] (spRoundS C Rr S eN eI eW eO) := by
  refine F.ok scRoundS (fun vs H Q E h => ?_) (fun cdv A outer s H vs Q E hr h => ?_)
  · obtain ⟨B, va, lk, R, k, rfl, _⟩ := h
    rfl
  · obtain ⟨B, va, lk, R, k, rfl, ⟨rfl, rfl, rfl, hst, hI, hn, hm⟩, po⟩ := h
    have SC := scRoundS
    have hb := hst.book
    refine ⟨_, (pss_cons (ps_set (i := 1) SC.nd (by rfl) (Or.inl (by rfl)) (pe_lstN pa_nil))
      (pss_cons (ps_for PassesOwn.never rfl (pi_list (pe_me0 m_go_round (pe_fld (pv 0) rfl) (hr.mono (by decide)) pass0)) (pg_tup rfl (pgs_cons (pg_name (i := 2) SC.nd (by rfl) (Or.inl (by rfl))) (pgs_cons (pg_name (i := 3) SC.nd (by rfl) (Or.inl (by rfl))) pgs_nil))) (pss_cons (ps_expr (pe_me m_keep (pv 0) (hr.mono (by decide)) pass0 (pac (pv 2) (pac (pv 3) pa_nil))))
      (pss_one (ps_if (pt_cmpR op_eq (pe_ix ix_seq (pv 3) pe_int (by exact fun _ _ => rfl)) (pe_gs (by rfl) T.con.g_ENTERS) (nomark _)) (pss_one (ps_expr (pe_bm PySem.F.plainAttrs_list PySem.F.slot_list_append PySem.F.type_list_append mt_appendN (pv 1) (pac (pv 2) pa_nil)))) pss_nil))))
      (pss_one (ps_ret (pv 1))))), ?_⟩
    walk_at "rd"
    refine ⟨by decide, fun lw G1 nw => ?_⟩
    have hlw := nw.free
    have hs1 := nw.same _ _ hb.story
    have r1 := hst.room.same nw.same
    obtain ⟨g1, g2, g3, g4⟩ := roundA_ev (n := B.A.n) (t := k) (H := R) B.A.n
    have wl := roundS_well (n := B.A.n) (s := R.hands) B.A.n
    have rl := roundS_len (n := B.A.n) (s := R.hands) B.A.n
    refine ⟨_, rfl, B.t, B.S, B.dt, _, _, rfl, hs1, hS.cl, hS.n_room, sk_room, B.A.r, B.A.dr, _, rfl, r1.room, rk_no (by decide +kernel), B.A, R.hands, rfl, rfl, rfl, r1, hI.inv, hn, fun l ps G0 hl mv el ev => ?_⟩
    have st1 : AtStory B va lk R k G1 := ⟨r1, hb.same nw.same, hst.lat, hst.apart, hst.sepL, hst.sepO⟩
    have M0 := Midd.start st1 mv
    generalize hts : (roundS B.A.n R.hands B.A.n).2 = ts at ev wl g2 g4 rl
    have hlwl : lw ≠ l := fun e => by rw [← e, nw.at] at hl; cases hl
    refine ⟨l, rfl, ⟨_, .of el⟩, for_list (K := K) (a := l) (xs := ps.map V.ref) (fun i σ H2 => ∃ x y, σ = [some (.ref B.t), some (.ref lw), x, y] ∧ Midd B va lk R.m k H (roundS B.A.n R.hands B.A.n).1 (evF R.cur k R.vis (ts.take i)) H2 ∧ H2 l = some (.lst (ps.map V.ref)) ∧ Evs H2 ps ts ∧ H2 lw = some (.lst ((((ts.take i).filter fun e => isEnt e.2).map fun e => V.int (e.1 : Nat))))) ⟨none, none, rfl, ?_, el, ev, ?_⟩ (fun i σ H2 _ ⟨_, _, _, _, e, _⟩ => .of e) ?_ ?_⟩
    · exact ⟨M0.room, M0.book, fun c u e o => M0.keep c u (nw.same _ _ e) o⟩
    · refine mv.keep _ _ nw.at fun i hi e => ?_
      have := r1.hall.hand i hi
      rw [← e, nw.at] at this; cases this
    · rintro i y σ H2 hy ⟨x, y', rfl, M, el2, ev2, ew⟩
      rw [List.getElem?_map, Option.map_eq_some_iff] at hy
      obtain ⟨p, hp, rfl⟩ := hy
      obtain ⟨t, q, ht, hpt, hq⟩ := ev2.get hp
      have hil := (List.getElem?_eq_some_iff.mp ht).1
      have hie := (List.getElem?_eq_some_iff.mp ht).2
      obtain ⟨w1, w2, w3⟩ := wl t (hie ▸ List.getElem_mem hil)
      obtain ⟨l1, l2⟩ := hst.lat t.1 w2 w3
      refine ⟨p, _, rfl, SqT.of hpt, rfl, _, _, rfl, _, _, rfl, rfl, ?_⟩
      walk_at "rd"
      refine ⟨B.dt, _, M.book.story, sk_no (by decide +kernel), B, va, lk, _, _, k, t.1, q, t.2, R.cur t.1, rfl, rfl, M.book, hq, w1, l1, l2, fun G2 c2 => ?_⟩
      have hv := M.book.one _ l1
      have M2 := M.note l1 (fun i hi => hst.apart _ i l1 hi) c2
      have hsnoc : ts.take (i + 1) = ts.take i ++ [t] := by rw [List.take_succ_eq_append_getElem hil, hie]
      have tup2 : ∀ a u, H2 a = some (.tup u) → G2 a = some (.tup u) := fun a u e => c2.keep _ _ e fun y => by rw [y, hv] at e; cases e
      have ev3 := ev2.mono tup2
      have own1 : H (va (R.cur t.1)) = some (.lst (visitV (R.vis (R.cur t.1)))) := hst.book.one _ l1
      have el3 : G2 l = some (.lst (ps.map V.ref)) := c2.keep _ _ el2 fun e => by
        have := nw.same _ _ own1
        rw [← e, hl] at this; cases this
      have ew3 := c2.keep _ _ ew fun e => by rw [← e, hlw] at own1; cases own1
      obtain ⟨wd, a, y, et, _⟩ := w1
      have isE : isEnt t.2 = decide (wd = "enters") := by rw [et]; rfl
      have hq2 := tup2 _ _ hq
      rw [et] at hq2
      walk_at "rd"
      refine rix_t hq2 (show _ = some (.str wd) from rfl) ⟨rfl, ?_⟩
      rw [hsnoc, evF_snoc, List.filter_append, List.map_append]
      by_cases he : wd = "enters"
      · rw [if_pos (by rw [he])]
        refine ⟨.inl ⟨rfl, _, .of ew3⟩, lw, _, _, rfl, rfl, ew3, ?_, fun G3 p3 => ⟨M2.put hlw hst rfl p3, ?_, ?_, ?_⟩⟩
        · rw [List.length_map]
          have := List.length_filter_le (fun e : Nat × List V => isEnt e.2) (ts.take i)
          have := List.length_take_le i ts
          exact lt_size (by omega)
        · rw [p3.ne (Ne.symm hlwl)]; exact el3
        · exact ev3.mono fun a u e => by rw [p3.ne fun y => by rw [y, ew3] at e; cases e]; exact e
        · rw [p3.at]; simp [isE, he]
      · rw [if_neg fun z => he (V.str.inj z)]
        refine ⟨M2, el3, ev3, ?_⟩
        rw [ew3]; simp [isE, he]
    · rintro σ H2 ⟨x, y, rfl, M, el2, ev2, ew⟩
      rw [List.length_map, ev2.len, List.take_length] at M ew
      refine ⟨_, rfl, po.q _ va lk H2 ?_⟩
      refine M.dun hst g1 g2 (roundA_m _) g3 (fun i hi' hw' z => hw' (roundS_out z _)) ⟨tupN lw H2, fun c u e => ?_, ?_⟩
      · obtain ⟨e1, e2⟩ := tupN_of e
        refine ⟨?_, e1, fun o => ?_⟩
        · rcases e2 with rfl | e2
          · exact .inl hlw
          · exact .inr e2
        · rcases e2 with rfl | ⟨xs, rfl⟩
          · obtain ⟨u', hu, _⟩ := hst.own o
            rw [hlw] at hu; cases hu
          · exact Midd.notup M o e1
      · simp only [Dd.deed, Rm.deedA, ansD]
        rw [g4, List.map_map]
        exact dv_lst (tupN_lst ew) (dvs_fst _)
abbrev sDo : Stmt := inClass (top 39) 3
def spDo (C Rr S eN eI eW eO : Addr) : Sp := fun vs H Q E => ∃ (B : Sto) (va : Nat → Addr) (lk : List (Key × V)) (R : Rm.Hall) (k : Nat) (p : Addr) (d : Dd), vs = [.ref B.t, .ref p] ∧ H p = some (.tup (ddV d)) ∧ d.ok ∧ Pre C Rr S B va lk R k H ∧ Post eN eI eW eO B va R k d k H Q E
theorem scDo : FnScope ["self", "deed"] ["self", "deed"] (defScope sDo) := ⟨rfl, rfl, rfl, by decide +kernel, rfl, by decide +kernel, by decide +kernel⟩
theorem ok_do {f C Rr S eN eI eW eO : Addr} {fd : FuncData} (F : Fun K "do" "Story.do" sDo f fd) (T : ConS mg) (hS : StoryC K S) (m_want : MethBy P w K mg base (CXE P w) 3 S "want" ["self", "number"] (spWantS C Rr S eN eI eW eO)) (m_go : MethBy P w K mg base (CXE P w) 5 S "go" ["self", "number", "many"] (spGoS C Rr S eN eI eW eO)) (m_leave : MethBy P w K mg base (CXE P w) 3 S "leave" ["self", "number"] (spLeaveS C Rr S eN eI eW eO)) (m_go_round : MethBy P w K mg base CX0 5 S "go_round" ["self"] (spRoundS C Rr S eN eI eW eO)) : FnOk P w K mg base (CXE P w) 6 f fd ["self", "deed"] (spDo C Rr S eN eI eW eO) := by
  refine F.okX scDo (fun vs H Q E h => ?_) (fun cdv A outer s H vs Q E hr h => ?_)
  · obtain ⟨B, va, lk, R, k, p, d, rfl, _⟩ := h
    rfl
  · obtain ⟨B, va, lk, R, k, p, d, rfl, hp, hd, hpre, po⟩ := h
    have SC := scDo
    have hs := hpre.st.book.story
    have e0 := hpre.cS
    rw [e0] at hs
    refine ⟨_, (pss_cons (ps_if (pt_cmpR op_eq (pe_ix ix_seq (pv 1) pe_int (by exact fun _ _ => rfl)) (pe_gs (by rfl) T.g_WANT) (nomark _)) (pss_one (ps_ret (pe_meX m_want (pv 0) (hr.mono (by decide)) xok_fn.pass (pac (pe_ix ix_seq (pv 1) pe_int (by exact fun _ _ => rfl)) pa_nil)))) pss_nil)
      (pss_cons (ps_if (pt_cmpR op_eq (pe_ix ix_seq (pv 1) pe_int (by exact fun _ _ => rfl)) (pe_gs (by rfl) T.g_GO) (nomark _)) (pss_one (ps_ret (pe_meX m_go (pv 0) (hr.mono (by decide)) xok_fn.pass (pac (pe_ix ix_seq (pv 1) pe_int (by exact fun _ _ => rfl)) (pac (pe_ix ix_seq (pv 1) pe_int (by exact fun _ _ => rfl)) pa_nil))))) pss_nil)
      (pss_cons (ps_if (pt_cmpR op_eq (pe_ix ix_seq (pv 1) pe_int (by exact fun _ _ => rfl)) (pe_gs (by rfl) T.g_LEAVE) (nomark _)) (pss_one (ps_ret (pe_meX m_leave (pv 0) (hr.mono (by decide)) xok_fn.pass (pac (pe_ix ix_seq (pv 1) pe_int (by exact fun _ _ => rfl)) pa_nil)))) pss_nil)
      (pss_one (ps_ret (pe_me0 m_go_round (pv 0) (hr.mono (by decide)) pass0)))))), ?_⟩
    walk_at "rd"
    have wd : atI (ddV d) 0 = some (.str (ddW d)) := by cases d <;> rfl
    refine rix_t hp wd ⟨rfl, ?_⟩
    cases d with
    | want z =>
      rw [if_pos (show V.str (ddW (Dd.want z)) = V.str (Str.ofString "want") from rfl)]
      refine ⟨_, rfl, B.t, B.dt, _, rfl, hs, sk_no (by decide +kernel), _, rfl, rix_t hp (show _ = some (.int z) from rfl) ?_⟩
      exact ⟨B, va, lk, R, k, z, rfl, hpre, ⟨po.q, po.eN, po.eI, po.eW, po.eO⟩⟩
    | go z j =>
      rw [if_neg (by simp only [ddW]; decide +kernel)]
      refine rix_t hp wd ⟨rfl, ?_⟩
      rw [if_pos (show V.str (ddW (Dd.go z j)) = V.str (Str.ofString "go") from rfl)]
      refine ⟨_, rfl, B.t, B.dt, _, rfl, hs, sk_no (by decide +kernel), _, rfl, rix_t hp (show _ = some (.int z) from rfl) ⟨_, rfl, rix_t hp (show _ = some (.int j) from rfl) ?_⟩⟩
      exact ⟨B, va, lk, R, k, z, j, rfl, hd.1, hd.2, hpre, ⟨po.q, po.eN, po.eI, po.eW, po.eO⟩⟩
    | leave z =>
      rw [if_neg (by simp only [ddW]; decide +kernel)]
      refine rix_t hp wd ⟨rfl, ?_⟩
      rw [if_neg (by simp only [ddW]; decide +kernel)]
      refine rix_t hp wd ⟨rfl, ?_⟩
      rw [if_pos (show V.str (ddW (Dd.leave z)) = V.str (Str.ofString "leave") from rfl)]
      refine ⟨_, rfl, B.t, B.dt, _, rfl, hs, sk_no (by decide +kernel), _, rfl, rix_t hp (show _ = some (.int z) from rfl) ?_⟩
      exact ⟨B, va, lk, R, k, z, rfl, hpre, ⟨po.q, po.eN, po.eI, po.eW, po.eO⟩⟩
    | round =>
      rw [if_neg (by simp only [ddW]; decide +kernel)]
      refine rix_t hp wd ⟨rfl, ?_⟩
      rw [if_neg (by simp only [ddW]; decide +kernel)]
      refine rix_t hp wd ⟨rfl, ?_⟩
      rw [if_neg (by simp only [ddW]; decide +kernel)]
      refine ⟨B.dt, _, hs, sk_no (by decide +kernel), ?_⟩
      exact ⟨B, va, lk, R, k, rfl, hpre, ⟨po.q, (fun e => by cases e), (fun e => by cases e), (fun e => by cases e), fun e => by cases e⟩⟩
abbrev sAnsRef : Stmt := inClass (top 39) 2
def spAnsRef (C Rr S eN eI eW eO : Addr) : Sp := fun vs H Q E => ∃ (B : Sto) (va : Nat → Addr) (lk : List (Key × V)) (R : Rm.Hall) (k : Nat) (p : Addr) (d : Dd), vs = [.ref B.t, .ref p] ∧ H p = some (.tup (ddV d)) ∧ d.ok ∧ Pre C Rr S B va lk R k H ∧
  ∀ v va' lk' G, Dun B va R.m H va' lk' (Rm.deedA B.A.n k R d.deed).1 k G v (ansD (Rm.deedA B.A.n k R d.deed).2) → Q v G
/-- which refusal is under which -/
structure Mros (K : PySem.W.Frag) (eN eI eW eO : Addr) : Prop where
  NN : PySem.W.mroIn K eN (.ref eN) = some true
  IN : PySem.W.mroIn K eI (.ref eN) = some false
  II : PySem.W.mroIn K eI (.ref eI) = some true
  WN : PySem.W.mroIn K eW (.ref eN) = some false
  WI : PySem.W.mroIn K eW (.ref eI) = some false
  WW : PySem.W.mroIn K eW (.ref eW) = some true
  ON : PySem.W.mroIn K eO (.ref eN) = some false
  OI : PySem.W.mroIn K eO (.ref eI) = some false
  OW : PySem.W.mroIn K eO (.ref eW) = some false
  OO : PySem.W.mroIn K eO (.ref eO) = some true
theorem scAnsRef : FnScope ["self", "deed"] ["self", "deed"] (defScope sAnsRef) := ⟨rfl, rfl, rfl, by decide +kernel, rfl, by decide +kernel, by decide +kernel⟩
theorem Dun.refl {B : Sto} {va : Nat → Addr} {lk : List (Key × V)} {R : Rm.Hall} {k : Nat} {H : Hp} (h : AtStory B va lk R k H) (x : Str) : Dun B va R.m H va lk R k H (.str x) (.str x) :=
  ⟨h, fun _ _ e _ => e, fun _ o => .inl o, fun _ => none, (fun _ _ e => nomatch e), by unfold DV; rfl⟩
theorem refused_same {n k : Nat} {R : Rm.Hall} {d : Rm.Deed} (h : (Rm.deedA n k R d).2 = .noHand ∨ (Rm.deedA n k R d).2 = .isWithin ∨ (Rm.deedA n k R d).2 = .onWay ∨ (Rm.deedA n k R d).2 = .isOut) : (Rm.deedA n k R d).1 = R := by
  revert h
  cases d <;> simp only [Rm.deedA] <;> (repeat' split) <;> simp
theorem ok_ansRef {f C Rr S eN eI eW eO : Addr} {fd : FuncData} (F : Fun K "answer_or_refusal" "Story.answer_or_refusal" sAnsRef f fd) (X : Exc K mg eN eI eW eO) (M : Mros K eN eI eW eO) (m_do : MethBy P w K mg base (CXE P w) 6 S "do" ["self", "deed"] (spDo C Rr S eN eI eW eO)) : FnOk P w K mg base CX0 7 f fd ["self", "deed"] (spAnsRef C Rr S eN eI eW eO) := by
  refine F.ok scAnsRef (fun vs H Q E h => ?_) (fun cdv A outer s H vs Q E hr h => ?_)
  · obtain ⟨B, va, lk, R, k, p, d, rfl, _⟩ := h
    rfl
  · obtain ⟨B, va, lk, R, k, p, d, rfl, hp, hd, hpre, q⟩ := h
    have SC := scAnsRef
    have hs := hpre.st.book.story
    have e0 := hpre.cS
    rw [e0] at hs
    refine ⟨_, pss_one (ps_try rfl rfl _ (fun R pn xe hx => pss_one (ps_ret (pe_meX m_do (pv 0) (hr.mono (by decide)) hx (pac (pv 1) pa_nil))))
      (ph_own rfl rfl (by rfl) X.c_NoHand (fun e => pss_one (ps_ret pe_str)) (ph_own rfl rfl (by rfl) X.c_Within (fun e => pss_one (ps_ret pe_str)) (ph_own rfl rfl (by rfl) X.c_WantsIn (fun e => pss_one (ps_ret pe_str)) (ph_own rfl rfl (by rfl) X.c_Out (fun e => pss_one (ps_ret pe_str)) ph_nil))))), ?_⟩
    have say : ∀ (x : Str), (ansD (Rm.deedA B.A.n k R d.deed).2 = .str x) → (Rm.deedA B.A.n k R d.deed).1 = R → Q (.str x) H := by
      intro x e1 e2
      refine q _ va lk H ?_
      rw [e1, e2]
      exact Dun.refl hpre.st x
    refine ⟨_, rfl, B.t, B.dt, _, rfl, hs, sk_no (by decide +kernel), _, rfl, B, va, lk, R, k, p, d, rfl, hp, hd, hpre, ⟨q, fun e => ?_, fun e => ?_, fun e => ?_, fun e => ?_⟩⟩
    · refine ⟨eN, true, rfl, X.c_NoHand.exc, M.NN, ?_⟩
      rw [if_pos rfl]
      exact say _ (by rw [e]; rfl) (refused_same (.inl e))
    · refine ⟨eI, false, rfl, X.c_Within.exc, M.IN, ?_⟩
      rw [if_neg (by decide)]
      refine ⟨eI, true, rfl, X.c_Within.exc, M.II, ?_⟩
      rw [if_pos rfl]
      exact say _ (by rw [e]; rfl) (refused_same (.inr (.inl e)))
    · refine ⟨eW, false, rfl, X.c_WantsIn.exc, M.WN, ?_⟩
      rw [if_neg (by decide)]
      refine ⟨eW, false, rfl, X.c_WantsIn.exc, M.WI, ?_⟩
      rw [if_neg (by decide)]
      refine ⟨eW, true, rfl, X.c_WantsIn.exc, M.WW, ?_⟩
      rw [if_pos rfl]
      exact say _ (by rw [e]; rfl) (refused_same (.inr (.inr (.inl e))))
    · refine ⟨eO, false, rfl, X.c_Out.exc, M.ON, ?_⟩
      rw [if_neg (by decide)]
      refine ⟨eO, false, rfl, X.c_Out.exc, M.OI, ?_⟩
      rw [if_neg (by decide)]
      refine ⟨eO, false, rfl, X.c_Out.exc, M.OW, ?_⟩
      rw [if_neg (by decide)]
      refine ⟨eO, true, rfl, X.c_Out.exc, M.OO, ?_⟩
      rw [if_pos rfl]
      exact say _ (by rw [e]; rfl) (refused_same (.inr (.inr (.inr e))))
abbrev sAnswer : Stmt := inClass (top 39) 1
def spAnswer (C Rr S : Addr) : Sp := fun vs H Q E => ∃ (B : Sto) (va : Nat → Addr) (lk : List (Key × V)) (R : Rm.Hall) (k : Nat) (p : Addr) (d : Dd), vs = [.ref B.t, .ref p] ∧ H p = some (.tup (ddV d)) ∧ d.ok ∧ Pre C Rr S B va lk R k H ∧
  ∀ v va' lk' G, Dun B va R.m H va' lk' (Rm.deedA B.A.n k R d.deed).1 (k + 1) G v (ansD (Rm.deedA B.A.n k R d.deed).2) → Q v G
theorem scAnswer : FnScope ["self", "deed", "said"] ["self", "deed"] (defScope sAnswer) := ⟨rfl, rfl, rfl, by decide +kernel, rfl, by decide +kernel, by decide +kernel⟩
theorem ok_answer {f C Rr S eN eI eW eO : Addr} {fd : FuncData} (F : Fun K "answer" "Story.answer" sAnswer f fd) (hS : StoryC K S) (m_answer_or_refusal : MethBy P w K mg base CX0 7 S "answer_or_refusal" ["self", "deed"] (spAnsRef C Rr S eN eI eW eO)) : FnOk P w K mg base CX0 8 f fd ["self", "deed"] (spAnswer C Rr S) := by
  refine F.ok scAnswer (fun vs H Q E h => ?_) (fun cdv A outer s H vs Q E hr h => ?_)
  · obtain ⟨B, va, lk, R, k, p, d, rfl, _⟩ := h
    rfl
  · obtain ⟨B, va, lk, R, k, p, d, rfl, hp, hd, hpre, q⟩ := h
    have SC := scAnswer
    have hb := hpre.st.book
    have e0 := hpre.cS
    refine ⟨_, (pss_cons (ps_set (i := 2) SC.nd (by rfl) (Or.inl (by rfl)) (pe_me m_answer_or_refusal (pv 0) (hr.mono (by decide)) pass0 (pac (pv 1) pa_nil)))
      (pss_cons (ps_fldaugN (pv 0) pe_int in_add)
      (pss_one (ps_ret (pv 2))))), ?_⟩
    walk_at "rd"
    have hs := hpre.st.book.story
    rw [e0] at hs
    refine ⟨B.dt, _, hs, sk_no (by decide +kernel), B, va, lk, R, k, p, d, rfl, hp, hd, hpre, fun v va' lk' G du => ?_⟩
    have hs1 := du.st.book.story
    rw [e0] at hs1
    refine ⟨_, rfl, B.t, S, B.dt, _, _, rfl, hs1, hS.cl, hS.n_done, sk_deeds_done, k, 1, rfl, rfl, B.dt, _, hs1, (by simp [sfs]), fun G1 p1 => ⟨_, rfl, q v va' lk' G1 ?_⟩⟩
    rw [show ((k : Int) + 1) = ((k + 1 : Nat) : Int) by omega, spf_done] at p1
    have b := du.st.book
    have r := du.st.room
    have kd : ∀ c u, G c = some u → (∀ C dx fs, u ≠ .ins C dx fs) → G1 c = some u := fun c u e z => by
      rw [p1.ne fun y => by rw [y, hs1] at e; exact z _ _ _ (Option.some.inj e).symm]; exact e
    refine ⟨⟨⟨?_, kd _ _ r.hall.lst (fun _ _ _ => nofun), fun i hi => ?_, fun i hi => kd _ _ (r.hall.othr i hi) (fun _ _ _ => nofun)⟩, ⟨by rw [e0]; exact p1.at, kd _ _ b.lst (fun _ _ _ => nofun), fun j hj => kd _ _ (b.one j hj) (fun _ _ _ => nofun), b.inj, kd _ _ b.dict (fun _ _ _ => nofun), b.few⟩, du.st.lat, du.st.apart, du.st.sepL, du.st.sepO⟩, fun c u e o => ?_, du.own, ?_⟩
    · rw [p1.ne fun y => ?_]
      · exact r.room
      · have := r.room
        rw [y, hs1] at this
        simp only [Option.some.injEq, HO.ins.injEq] at this
        have := congrArg List.length this.2.2
        simp [sfs, rfs] at this
    · rw [p1.ne fun y => ?_]
      · exact r.hall.hand i hi
      · have := r.hall.hand i hi
        rw [y, hs1] at this
        simp only [Option.some.injEq, HO.ins.injEq] at this
        have := congrArg List.length this.2.2
        simp [sfs, hfs] at this
    · rw [p1.ne fun y => o (.inr (.inl y))]
      exact du.keep c u e o
    · obtain ⟨N, n1, n2⟩ := du.ans
      refine ⟨N, fun c u e => ?_, n2⟩
      obtain ⟨x1, x2, x3⟩ := n1 c u e
      exact ⟨x1, by rw [p1.ne fun y => x3 (.inr (.inl y))]; exact x2, x3⟩
end
theorem pe_fldK {X : Cx} {e : Expr} {f : Str} {pos : Pos} {ta : TE} {K : PySem.W.Frag} (hK : X.K = K) (he : PE X e ta) (hb : attributeBase e f X.env (eval e X.env) = eval e X.env) : PE X (.Attribute e f pos) (tFld K ta f) := hK ▸ pe_fld he hb
theorem call_tupleK {X : Cx} {K : PySem.W.Frag} (hK : X.K = K) : CallR X (.type "tuple") (fun xs H Q => ∃ p ys, xs = [.ref p] ∧ SqL K H p ys ∧ ∀ l G, New H l (.tup ys) G → Q (.ref l) G) := hK ▸ call_tupleN
theorem dv_vis {H : Hp} {l : Addr} {u : Rm.Visit} (h : H l = some (.tup (visitV u))) : DV H (.ref l) (visitD u) := by
  unfold visitD
  rw [DV]
  refine ⟨l, _, rfl, h, ?_⟩
  unfold visitV
  rw [dvs_cc, dvs_cc, dvs_cc, dvs_cc, dvs_cc, dvs_cc, dv_on, dv_on, dv_on, dv_on]
  exact ⟨by unfold DV; rfl, by unfold DV; rfl, rfl, rfl, rfl, rfl, DVs.nil⟩
theorem dv_seenT {H : Hp} {l : Addr} {b : Bool} {t : Nat} {x : Str} (h : H l = some (.tup [.bl b, .int t, .str x])) : DV H (.ref l) (seenD (b, t, x)) := by
  unfold seenD
  rw [DV]
  refine ⟨l, _, rfl, h, ?_⟩
  rw [dvs_cc, dvs_cc, dvs_cc]
  exact ⟨by unfold DV; rfl, by unfold DV; rfl, by unfold DV; rfl, DVs.nil⟩
theorem sd_noLst (l : List Seen) : Dat.noLsts (l.map seenD) = true := noLsts_of fun d hd => by
  obtain ⟨u, _, rfl⟩ := List.mem_map.mp hd
  rfl
theorem mono_fldv2 {K : PySem.W.Frag} {k : Nat} {f g : Str} {σ : St} {H : Hp} {R R' : V → Hp → Prop} (i : ∀ v H, R v H → R' v H) : tFld K (tFld K (tVar k) f) g σ H R → tFld K (tFld K (tVar k) f) g σ H R' :=
  fun ⟨v, e, a, C, dx, fs, w, h1, h2, h3, h4, h5, a', C', dx', fs', w', g1, g2, g3, g4, g5, q⟩ => ⟨v, e, a, C, dx, fs, w, h1, h2, h3, h4, h5, a', C', dx', fs', w', g1, g2, g3, g4, g5, i _ _ q⟩
section
variable {P : Program} {w : World} {K : PySem.W.Frag} {mg : Str → Option Value} {base : Heap}
abbrev sStoryI : Stmt := inClass (top 39) 0
def spStoryI (C Rr S : Addr) : Sp := fun vs H Q _ => ∃ (t dt : Addr) (n : Nat), vs = [.ref t, .int n] ∧ H t = some (.ins S dt []) ∧ n ≤ 900 ∧
  ∀ (B : Sto) va G, B.A.C = C → B.A.R = Rr → B.S = S → B.t = t → B.A.n = n → AtStory B va [] Rm.hall0 0 G → (∀ c, Ow B va 0 c → c = t ∨ H c = none) → (∀ c u, H c = some u → c ≠ t → G c = some u) → Q .non G
theorem scStoryI : FnScope ["self", "count"] ["self", "count"] (defScope sStoryI) := ⟨rfl, rfl, rfl, by decide +kernel, rfl, by decide +kernel, by decide +kernel⟩
theorem ok_storyI {f C Rr S : Addr} {fd : FuncData} (F : Fun K "__init__" "Story.__init__" sStoryI f fd) (hS : StoryC K S) (m_Room : MakeBy P w K mg base CX0 3 "Room" Rr ["self", "count"] (spRoomI C Rr)) : FnOk P w K mg base CX0 5 f fd ["self", "count"] (spStoryI C Rr S) := by
  refine F.ok scStoryI (fun vs H Q E h => ?_) (fun cdv A outer s H vs Q E hr h => ?_)
  · obtain ⟨t, dt, n, rfl, _⟩ := h
    rfl
  · obtain ⟨t, dt, n, rfl, ha, hn, q⟩ := h
    have SC := scStoryI
    refine ⟨_, (pss_cons (ps_fldN (pv 0) (pe_mkN m_Room (hr.mono (by decide)) (by rfl) pass0 (pac (pv 1) pa_nil)) rfl)
      (pss_cons (ps_fldN (pv 0) (pe_lstN pa_nil) rfl)
      (pss_cons (ps_fldN (pv 0) pe_dnewN rfl)
      (pss_one (ps_fldN (pv 0) pe_int rfl))))), ?_⟩
    walk_at "rd"
    intro x dx G1 G2 n1 n2
    refine ⟨x, dx, n, rfl, n2.at, hn, fun A G3 cC cR er en rm fL fO kp => ⟨rfl, ?_⟩⟩
    subst cC cR er en
    have s2 := n1.same.trans n2.same
    have fx : ∀ c u, H c = some u → c ≠ A.r := fun c u e z => by
      have := n1.same _ _ e
      rw [z, n2.free] at this; cases this
    have k3 : ∀ c u, H c = some u → G3 c = some u := fun c u e => kp _ _ (s2 _ _ e) (fx _ _ e)
    have fr : ∀ c, G3 c = none → H c = none := fun c e => by
      cases z : H c with
      | none => rfl
      | some u => rw [k3 _ _ z] at e; cases e
    have fr2 : ∀ c, G2 c = none → H c = none := fun c e => by
      cases z : H c with
      | none => rfl
      | some u => rw [s2 _ _ z] at e; cases e
    have h3 := k3 _ _ ha
    refine ⟨S, dt, [], h3, hS.cl, hS.n_room, by decide, fun G4 p4 => ⟨by decide, fun vl G5 n5 => ?_⟩⟩
    refine ⟨S, dt, _, n5.same _ _ p4.at, hS.cl, hS.n_visits, (by simp [putF]), fun G6 p6 ld G7 n7 => ⟨S, dt, _, n7.same _ _ p6.at, hS.cl, hS.n_latest, (by simp only [putF, ne_room_visits, if_false]; simp), fun G8 p8 => ⟨S, dt, _, p8.at, hS.cl, hS.n_done, (by simp only [putF, ne_room_visits, ne_room_latest, ne_visits_latest, if_false]; simp), fun G9 p9 => ?_⟩⟩⟩
    have pfs : putF "deeds_done" (.int 0) (putF "latest" (.ref ld) (putF "visits" (.ref vl) (putF "room" (.ref A.r) []))) = sfs A.r vl ld 0 := by
      simp only [putF, ne_room_visits, ne_room_latest, ne_visits_latest, ne_room_deeds_done, ne_visits_deeds_done, ne_latest_deeds_done, if_false]; rfl
    rw [pfs] at p9
    have f5 := n5.free
    have f7 := n7.free
    have up4 : ∀ c u, G3 c = some u → c ≠ t → G4 c = some u := fun c u e z => by rw [p4.ne z]; exact e
    have up6 : ∀ c u, G5 c = some u → c ≠ t → G6 c = some u := fun c u e z => by rw [p6.ne z]; exact e
    have up9 : ∀ c u, G7 c = some u → c ≠ t → G9 c = some u := fun c u e z => by rw [p9.ne z, p8.ne z]; exact e
    have up : ∀ c u, G3 c = some u → c ≠ t → G9 c = some u := fun c u e z => up9 _ _ (n7.same _ _ (up6 _ _ (n5.same _ _ (up4 _ _ e z)) z)) z
    have g2t := s2 _ _ ha
    have nt : ∀ c, G2 c = none → c ≠ t := fun c e z => by rw [z, g2t] at e; cases e
    have vt : vl ≠ t := fun z => by rw [z, p4.at] at f5; cases f5
    have lt : ld ≠ t := fun z => by rw [z, p6.at] at f7; cases f7
    have nL := nt _ fL
    refine q ⟨A, S, t, dt, vl, ld⟩ (fun _ => 0) G9 rfl rfl rfl rfl rfl ⟨⟨?_, ?_, fun i hi => ?_, fun i hi => ?_⟩, ⟨p9.at, ?_, fun j hj => ?_, fun i j hi => ?_, ?_, Nat.le_refl _⟩, fun i hi hw => absurd rfl hw, fun j i hj => ?_, ?_, fun i hi => ?_⟩ (fun c o => ?_) fun c u e z => up _ _ (k3 _ _ e) z
    · exact up _ _ rm.room (Ne.symm (fx _ _ ha))
    · exact up _ _ rm.hall.lst nL
    · exact up _ _ (rm.hall.hand i hi) (nt _ (fO i hi).1)
    · exact up _ _ (rm.hall.othr i hi) (nt _ (fO i hi).2)
    · exact up9 _ _ (n7.same _ _ (up6 _ _ n5.at vt)) vt
    · exact absurd hj (Nat.not_lt_zero _)
    · exact absurd hi (Nat.not_lt_zero _)
    · exact up9 _ _ n7.at lt
    · exact absurd hj (Nat.not_lt_zero _)
    · intro z
      have := up4 _ _ rm.hall.lst nL
      rw [← show vl = A.L from z, f5] at this; cases this
    · intro z
      have := up4 _ _ (rm.hall.othr i hi) (nt _ (fO i hi).2)
      rw [← show vl = A.oa i from z, f5] at this; cases this
    · rcases o with ⟨i, hi, rfl⟩ | oc | oc | oc | ⟨j, hj, rfl⟩ | oc | oc | ⟨i, hi, rfl⟩
      · exact .inr (fr2 _ (fO i hi).1)
      · exact .inl oc
      · refine .inr ?_
        rw [show c = vl from oc]
        cases z : H vl with
        | none => rfl
        | some u => rw [up4 _ _ (k3 _ _ z) vt] at f5; cases f5
      · refine .inr ?_
        rw [show c = ld from oc]
        cases z : H ld with
        | none => rfl
        | some u => rw [up6 _ _ (n5.same _ _ (up4 _ _ (k3 _ _ z) lt)) lt] at f7; cases f7
      · exact absurd hj (Nat.not_lt_zero _)
      · refine .inr ?_
        rw [show c = A.r from oc]
        cases z : H A.r with
        | none => rfl
        | some u => exact absurd rfl (fx _ _ z)
      · exact .inr (by rw [show c = A.L from oc]; exact fr2 _ fL)
      · exact .inr (fr2 _ (fO i hi).2)
abbrev sAnswers : Stmt := top 40
theorem scAnswers : FnScope ["count", "deeds", "story"] ["count", "deeds"] (defScope sAnswers) := ⟨rfl, rfl, rfl, by decide +kernel, rfl, by decide +kernel, by decide +kernel⟩
theorem ok_answers {f C Rr S : Addr} {fd : FuncData} (F : Fun K "answers" "answers" sAnswers f fd) (m_Story : MakeBy P w K mg base CX0 5 "Story" S ["self", "count"] (spStoryI C Rr S)) (m_answer : MethBy P w K mg base CX0 8 S "answer" ["self", "deed"] (spAnswer C Rr S)) : FnOk P w K mg base CX0 9 f fd ["count", "deeds"] spAns := by
  refine F.ok scAnswers (fun vs H Q E h => ?_) (fun cdv A outer s H vs Q E hr h => ?_)
  · obtain ⟨n, x, ds, rfl, _⟩ := h
    rfl
  · obtain ⟨n, x, ds, rfl, h0, hn, ⟨hds, hok⟩, dv, q⟩ := h
    have SC := scAnswers
    refine ⟨_, (pss_cons (ps_set (i := 2) SC.nd (by rfl) (Or.inr (by rfl)) (pe_mkN m_Story (hr.mono (by decide)) (by rfl) pass0 (pac (pv 0) pa_nil)))
      (pss_one (ps_ret (pe_lc (N' := ["deed", "story"]) (ix := [none, some 2]) (by exact comp_sc rfl (by rfl) (by rfl)) rfl (pi_list (pv 1)) (fun _ _ _ _ _ => (pg_comp (i := 0) (by decide +kernel) (by rfl) (by rfl))) (fun _ _ _ _ _ => pts_nil) (fun _ _ _ _ _ => (pe_me m_answer (pv 1) (hr.mono (by decide)) pass0 (pac (pv 0) pa_nil))))))), ?_⟩
    walk_at "rd"
    obtain ⟨m, rfl⟩ : ∃ m : Nat, n = m := ⟨n.toNat, by omega⟩
    rw [Int.toNat_natCast] at q
    obtain ⟨la, xs, rfl, hla, dxs⟩ := dv_same_lst dv
    intro x dx G1 G2 n1 n2
    have s2 := n1.same.trans n2.same
    refine ⟨x, dx, m, rfl, n2.at, by omega, fun B va G3 cC cR cS et en st ow kp => ⟨rfl, ?_⟩⟩
    subst et en
    have fx : ∀ c u, H c = some u → c ≠ B.t := fun c u e z => by
      have := n1.same _ _ e
      rw [z, n2.free] at this; cases this
    have k3 : Same H G3 := fun c u e => kp _ _ (s2 _ _ e) (fx _ _ e)
    have ow3 : ∀ c, Ow B va 0 c → H c = none := fun c o => by
      rcases ow c o with rfl | h
      · cases z : H B.t with
        | none => rfl
        | some u => exact absurd rfl (fx _ _ z)
      · cases z : H c with
        | none => rfl
        | some u => rw [s2 _ _ z] at h; cases h
    refine rlc_list (fun R R' hR ⟨v, e, h⟩ => ⟨v, e, hR _ _ h⟩) ⟨_, rfl, la, xs, rfl, .of (k3 _ _ hla), fun acc hacc => ⟨fun i σ H2 => ∃ x vals va lk F, σ = [x, some (.ref B.t)] ∧ AtStory B va lk (Rm.run B.A.n ((ds.take i).map Dd.deed)).1 i H2 ∧ Same H F ∧ Same F H2 ∧ (∀ c, Ow B va (Rm.run B.A.n ((ds.take i).map Dd.deed)).1.m c → F c = none ∧ c ≠ acc) ∧ F acc = none ∧ H2 acc = some (.lst vals) ∧ DVs F vals ((Rm.run B.A.n ((ds.take i).map Dd.deed)).2.map ansD), ?_, ?_, ?_, ?_⟩⟩
    · refine ⟨none, [], va, [], H, rfl, st.stay (fun c o => ?_), Same.refl _, k3.new hacc, fun c o => ⟨ow3 c o, ?_⟩, ?_, upd_same, DVs.nil⟩
      · rw [upd_ne]
        obtain ⟨u, hu, _⟩ := st.own o
        exact ne_of_none hu hacc
      · obtain ⟨u, hu, _⟩ := st.own o
        exact ne_of_none hu hacc
      · cases z : H acc with
        | none => rfl
        | some u => rw [k3 _ _ z] at hacc; cases hacc
    · rintro i σ H2 _ ⟨x, vals, va, lk, F, _, _, s1, s2, _⟩
      exact .of (s2 _ _ (s1 _ _ hla))
    · rintro i y σ H2 hi ⟨x, vals, va, lk, F, rfl, st, s1, s2, ow, fa, ha, dv⟩
      have hil : i < ds.length := by
        have := (List.getElem?_eq_some_iff.mp hi).1
        rwa [dxs.length, List.length_map] at this
      obtain ⟨y', hy, dy⟩ := dxs.get (i := i) (d := ds[i].dat) (by simp [hil])
      rw [hi] at hy
      cases hy
      obtain ⟨p, rfl, hp⟩ := dv_dd dy
      have hs := st.book.story
      rw [cS] at hs
      have tl : ((ds.take i).map Dd.deed).length = i := by rw [List.length_map, List.length_take]; omega
      have er : (ds.take (i + 1)).map Dd.deed = (ds.take i).map Dd.deed ++ [ds[i].deed] := by rw [List.take_succ_eq_append_getElem hil, List.map_append]; rfl
      have rs := Rm.run_snoc B.A.n ((ds.take i).map Dd.deed) ds[i].deed
      rw [← er, Rm.run_length, tl] at rs
      have I := Rm.run_inv B.A.n ((ds.take i).map Dd.deed)
      have rm := run_m B.A.n ((ds.take i).map Dd.deed)
      have rl := Rm.run_length B.A.n ((ds.take i).map Dd.deed)
      rw [tl] at I rm rl
      obtain ⟨R, hR⟩ : ∃ R, Rm.run B.A.n ((ds.take i).map Dd.deed) = R := ⟨_, rfl⟩
      rw [hR] at st ow dv I rm rl rs
      walk_at "rd"
      simp only [rs]
      refine ⟨B.dt, _, hs, sk_no (by decide +kernel), B, va, lk, R.1, i, p, ds[i], rfl, s2 _ _ (s1 _ _ hp), hok _ (List.getElem_mem hil), ⟨cC, cR, cS, st, I, by omega, by omega⟩, fun v va' lk' G du => ?_⟩
      have ha' := du.keep acc _ ha fun o => (ow acc o).2 rfl
      have vl := dv.length
      rw [List.length_map, rl] at vl
      obtain ⟨N, hN, dN⟩ := du.ans
      have kF : ∀ c u, F c = some u → G c = some u := fun c u e => du.keep c u (s2 _ _ e) fun o => by rw [(ow c o).1] at e; cases e
      have fF : Same F fun c => (F c).or (N c) := fun c u e => by simp [e]
      have fN : Same N fun c => (F c).or (N c) := fun c u e => by
        cases z : F c with
        | none => simp [e, z]
        | some u' =>
          have h1 := kF c u' z
          have h2 := (hN c u e).2.1
          rw [h1] at h2
          simp [z, h2]
      have fG : Same (fun c => (F c).or (N c)) G := fun c u e => by
        cases z : F c with
        | none => simp only [z, Option.none_or] at e; exact (hN c u e).2.1
        | some u' => simp only [z, Option.some_or] at e; rw [← e]; exact kF c u' z
      have nA : N acc = none := by
        cases z : N acc with
        | none => rfl
        | some u =>
          obtain ⟨h1, h2, _⟩ := hN acc u z
          rcases h1 with h1 | ⟨xs, rfl⟩
          · rw [ha] at h1; cases h1
          · rw [ha'] at h2; cases h2
      have fA : (fun c => (F c).or (N c)) acc = none := by simp [fa, nA]
      refine ⟨vals, ha', lt_size (by omega), _, va', lk', du.st.stay (fun c o => ?_), fun c => (F c).or (N c), s1.trans fF, fG.put fA, fun c o => ?_, fA, upd_same, ?_⟩
      · refine upd_ne fun z => ?_
        rcases du.own c o with h | h
        · exact (ow c h).2 z
        · rw [z, ha] at h; cases h
      · have nN : N c = none := by
          cases z : N c with
          | none => rfl
          | some u => exact absurd o (hN c u z).2.2
        rcases du.own c o with h | h
        · exact ⟨by simp [(ow c h).1, nN], (ow c h).2⟩
        · refine ⟨?_, fun z => by rw [z, ha] at h; cases h⟩
          cases z : F c with
          | none => simp [z, nN]
          | some u => rw [s2 _ _ z] at h; cases h
      · rw [List.map_append]
        exact DVs.append (DVs.mono fF dv) (DVs.one (DV.mono fN dN))
    · rintro σ H2 ⟨x, vals, va, lk, F, rfl, st, s1, s2, ow, fa, ha, dv⟩
      rw [dxs.length, List.length_map, List.take_length] at dv
      exact q _ _ (s1.trans s2) (dv_lst ha (DVs.mono s2 dv))
abbrev sAllAfter : Stmt := top 41
theorem scAllAfter : FnScope ["count", "deeds", "story", "deed", "visits"] ["count", "deeds"] (defScope sAllAfter) := ⟨rfl, rfl, rfl, by decide +kernel, rfl, by decide +kernel, by decide +kernel⟩
theorem ok_allAfter {f C Rr S : Addr} {fd : FuncData} (F : Fun K "all_after" "all_after" sAllAfter f fd) (T : Blt mg) (hC : HandC K C) (hR : RoomC K Rr) (hS : StoryC K S) (m_Story : MakeBy P w K mg base CX0 5 "Story" S ["self", "count"] (spStoryI C Rr S)) (m_answer : MethBy P w K mg base CX0 8 S "answer" ["self", "deed"] (spAnswer C Rr S)) : FnOk P w K mg base CX0 9 f fd ["count", "deeds"] (spAfter AA) := by
  refine F.ok scAllAfter (fun vs H Q E h => ?_) (fun cdv A outer s H vs Q E hr h => ?_)
  · obtain ⟨n, x, ds, rfl, _⟩ := h
    rfl
  · obtain ⟨n, x, ds, rfl, h0, hn, ⟨hds, hok⟩, dv, q⟩ := h
    have SC := scAllAfter
    refine ⟨_, (pss_cons (ps_set (i := 2) SC.nd (by rfl) (Or.inl (by rfl)) (pe_mkN m_Story (hr.mono (by decide)) (by rfl) pass0 (pac (pv 0) pa_nil)))
      (pss_cons (ps_for PassesOwn.never rfl (pi_list (pv 1)) (pg_name (i := 3) SC.nd (by rfl) (Or.inl (by rfl))) (pss_one (ps_expr (pe_me m_answer (pv 2) (hr.mono (by decide)) pass0 (pac (pv 3) pa_nil)))))
      (pss_cons (ps_setLC (N' := ["visit"]) (ix := [none]) (by exact comp_sc rfl (by rfl) (by rfl)) rfl (pi_list (pe_fld (pv 2) rfl)) (fun _ _ _ _ _ => (pg_comp (i := 0) (by decide +kernel) (by rfl) (by rfl))) (fun _ _ _ _ _ => pts_nil) (fun _ _ _ _ _ => (pe_callTy (call_tupleK (K := K) rfl) (by rfl) T.b_tuple PyProof.Rows.Boot.tuple (pac (pv 0) pa_nil))) (pg_name (i := 4) SC.nd (by rfl) (Or.inl (by rfl))) (by rfl))
      (pss_one (ps_ret (pe_tupN (pac (pv 4) (pac (pe_lc (N' := ["hand"]) (ix := [none]) (by exact comp_sc rfl (by rfl) (by rfl)) rfl (pi_list (pe_fld (pe_fld (pv 2) rfl) rfl)) (fun _ _ _ _ _ => (pg_comp (i := 0) (by decide +kernel) (by rfl) (by rfl))) (fun _ _ _ _ _ => pts_nil) (fun _ _ _ _ _ => (pe_tupN (pac (pe_fldK (K := K) rfl (pv 0) rfl) (pac (pe_fldK (K := K) rfl (pv 0) rfl) (pac (pe_fldK (K := K) rfl (pv 0) rfl) pa_nil)))))) pa_nil)))))))), ?_⟩
    walk_at "rd"
    obtain ⟨m, rfl⟩ : ∃ m : Nat, n = m := ⟨n.toNat, by omega⟩
    obtain ⟨la, xs, rfl, hla, dxs⟩ := dv_same_lst dv
    intro x dx G1 G2 n1 n2
    have s2 := n1.same.trans n2.same
    refine ⟨x, dx, m, rfl, n2.at, by omega, fun B va G3 cC cR cS et en st ow kp => ⟨rfl, ?_⟩⟩
    subst et en
    have fx : ∀ c u, H c = some u → c ≠ B.t := fun c u e z => by
      have := n1.same _ _ e
      rw [z, n2.free] at this; cases this
    have k3 : Same H G3 := fun c u e => kp _ _ (s2 _ _ e) (fx _ _ e)
    have ow3 : ∀ c, Ow B va 0 c → H c = none := fun c o => by
      rcases ow c o with rfl | h
      · cases z : H B.t with
        | none => rfl
        | some u => exact absurd rfl (fx _ _ z)
      · cases z : H c with
        | none => rfl
        | some u => rw [s2 _ _ z] at h; cases h
    refine ⟨_, rfl, la, rfl, ⟨_, .of (k3 _ _ hla)⟩, for_list (K := K) (a := la) (xs := xs) (fun i σ H2 => ∃ x va lk, σ = [some (.int B.A.n), some (.ref la), some (.ref B.t), x, none] ∧ AtStory B va lk (Rm.run B.A.n ((ds.take i).map Dd.deed)).1 i H2 ∧ Same H H2 ∧ (∀ c, Ow B va (Rm.run B.A.n ((ds.take i).map Dd.deed)).1.m c → H c = none)) ⟨none, va, [], rfl, st, k3, ow3⟩ (fun i σ H2 _ ⟨_, _, _, _, _, s, _⟩ => .of (s _ _ hla)) ?_ ?_⟩
    · rintro i y σ H2 hi ⟨x, va, lk, rfl, st, s1, ow⟩
      have hil : i < ds.length := by
        have := (List.getElem?_eq_some_iff.mp hi).1
        rwa [dxs.length, List.length_map] at this
      obtain ⟨y', hy, dy⟩ := dxs.get (i := i) (d := ds[i].dat) (by simp [hil])
      rw [hi] at hy
      cases hy
      obtain ⟨p, rfl, hp⟩ := dv_dd dy
      have hs := st.book.story
      rw [cS] at hs
      have tl : ((ds.take i).map Dd.deed).length = i := by rw [List.length_map, List.length_take]; omega
      have er : (ds.take (i + 1)).map Dd.deed = (ds.take i).map Dd.deed ++ [ds[i].deed] := by rw [List.take_succ_eq_append_getElem hil, List.map_append]; rfl
      have rs := Rm.run_snoc B.A.n ((ds.take i).map Dd.deed) ds[i].deed
      rw [← er, Rm.run_length, tl] at rs
      have I := Rm.run_inv B.A.n ((ds.take i).map Dd.deed)
      have rm := run_m B.A.n ((ds.take i).map Dd.deed)
      rw [tl] at I rm
      obtain ⟨R, hR⟩ : ∃ R, Rm.run B.A.n ((ds.take i).map Dd.deed) = R := ⟨_, rfl⟩
      rw [hR] at st ow I rm rs
      walk_at "rd"
      simp only [rs]
      refine ⟨B.dt, _, hs, sk_no (by decide +kernel), B, va, lk, R.1, i, p, ds[i], rfl, s1 _ _ hp, hok _ (List.getElem_mem hil), ⟨cC, cR, cS, st, I, by omega, by omega⟩, fun v va' lk' G du => ?_⟩
      refine ⟨va', lk', du.st, (fun c u e => du.keep c u (s1 _ _ e) fun o => by rw [ow c o] at e; cases e), fun c o => ?_⟩
      rcases du.own c o with h | h
      · exact ow c h
      · cases z : H c with
        | none => rfl
        | some u => rw [s1 _ _ z] at h; cases h
    · rintro σ H2 ⟨x, va, lk, rfl, st, s1, ow⟩
      rw [dxs.length, List.length_map, List.take_length] at st
      have hs := st.book.story
      rw [cS] at hs
      have AAe : AA B.A.n ds = ((List.range (Rm.run B.A.n (ds.map Dd.deed)).1.m).map (Rm.run B.A.n (ds.map Dd.deed)).1.vis, (List.range B.A.n).map fun i => (((Rm.run B.A.n (ds.map Dd.deed)).1.hands i).flag, ((Rm.run B.A.n (ds.map Dd.deed)).1.hands i).ticket, wS ((Rm.run B.A.n (ds.map Dd.deed)).1.hands i).word)) := by
        simp only [AA, Int.toNat_natCast]
      have rm := run_m B.A.n (ds.map Dd.deed)
      rw [List.length_map] at rm
      rw [AAe] at q
      generalize (Rm.run B.A.n (ds.map Dd.deed)).1 = R at st q rm
      walk_at "rd"
      refine rlc_list (fun R R' i => mono_fldv i) ⟨_, rfl, B.t, S, B.dt, _, _, rfl, hs, hS.cl, hS.n_visits, sk_visits, B.vl, _, rfl, .of st.book.lst, fun acc hacc => ⟨fun i σ H3 => ∃ x ys, σ = [x] ∧ Same H2 H3 ∧ H3 acc = some (.lst ys) ∧ DVs H3 ys (((List.range i).map R.vis).map visitD), ⟨none, [], rfl, (Same.refl _).new hacc, upd_same, DVs.nil⟩, fun i σ H3 _ ⟨x, _, _, sm, _⟩ => .of (sm _ _ st.book.lst), ?_, ?_⟩⟩
      · rintro i y σ H3 hi ⟨x, ys, rfl, sm, el, dy⟩
        have him : i < R.m := by
          have := (List.getElem?_eq_some_iff.mp hi).1
          simpa using this
        rw [List.getElem?_map, List.getElem?_range him] at hi
        cases hi
        walk_at "rd"
        refine ⟨_, .of (sm _ _ (st.book.one i him)), fun l G nl => ?_⟩
        have e2 := nl.same _ _ el
        have yl := dy.length
        simp only [List.length_map, List.length_range] at yl
        refine ⟨ys, e2, lt_size (by omega), fun e u z => ?_, ys ++ [.ref l], upd_same, ?_⟩
        · rw [upd_ne fun y => by rw [y, hacc] at z; cases z]
          exact nl.same _ _ (sm _ _ z)
        · rw [List.range_succ, List.map_append, List.map_append]
          refine DVs.append (Put.dvs (⟨rfl⟩ : Put G acc _ _) e2 (vd_noLst _) (DVs.mono nl.same dy)) (DVs.one (Put.dv (⟨rfl⟩ : Put G acc _ _) e2 (vd_noLst1 _) (dv_vis nl.at)))
      · rintro σ H3 ⟨x, ys, rfl, sm, el, dy⟩
        rw [List.length_map, List.length_range] at dy
        walk_at "rd"
        have st3 : AtRoom B.A R.hands H3 := st.room.same sm
        have hC' : HandC K B.A.C := cC ▸ hC
        have hR' : RoomC K B.A.R := cR ▸ hR
        refine rlc_list (fun R R' i => mono_fldv2 i) ⟨_, rfl, B.t, S, B.dt, _, _, rfl, sm _ _ hs, hS.cl, hS.n_room, sk_room, B.A.r, B.A.R, B.A.dr, _, _, rfl, st3.room, hR'.cl, hR'.n_hands, rk_hands, B.A.L, _, rfl, .of st3.hall.lst, fun acc2 hacc2 => ⟨fun i σ H4 => ∃ x zs, σ = [x] ∧ Same H3 H4 ∧ H4 acc2 = some (.lst zs) ∧ DVs H4 zs (((List.range i).map fun i => ((R.hands i).flag, (R.hands i).ticket, wS (R.hands i).word)).map seenD), ⟨none, [], rfl, (Same.refl _).new hacc2, upd_same, DVs.nil⟩, fun i σ H4 _ ⟨x, _, _, sm, _⟩ => .of (sm _ _ st3.hall.lst), ?_, ?_⟩⟩
        · rintro i y σ H4 hi ⟨x, zs, rfl, sm4, el4, dz⟩
          have him : i < B.A.n := by
            have := (List.getElem?_eq_some_iff.mp hi).1
            simpa using this
          have ex : y = .ref (B.A.ad i) := by
            rw [List.getElem?_map, List.getElem?_range him] at hi
            exact (Option.some.inj hi).symm
          subst ex
          have hh : H4 (B.A.ad i) = some (.ins B.A.C (B.A.dx i) (hfs i (B.A.oa i) (R.hands i))) := sm4 _ _ (st3.hall.hand i him)
          walk_at "rd"
          refine ⟨B.A.C, B.A.dx i, _, hh, hC'.cl, hC'.n_flag, _, lk_flag, B.A.C, B.A.dx i, _, hh, hC'.cl, hC'.n_ticket, _, lk_ticket, B.A.C, B.A.dx i, _, hh, hC'.cl, hC'.n_word, _, lk_word, by decide, fun l G nl => ?_⟩
          have e2 := nl.same _ _ el4
          have yl := dz.length
          simp only [List.length_map, List.length_range] at yl
          refine ⟨zs, e2, lt_size (by omega), fun e u z => ?_, zs ++ [.ref l], upd_same, ?_⟩
          · rw [upd_ne fun y => by rw [y, hacc2] at z; cases z]
            exact nl.same _ _ (sm4 _ _ z)
          · rw [List.range_succ, List.map_append, List.map_append]
            refine DVs.append (Put.dvs (⟨rfl⟩ : Put G acc2 _ _) e2 (sd_noLst _) (DVs.mono nl.same dz)) (DVs.one (Put.dv (⟨rfl⟩ : Put G acc2 _ _) e2 rfl (dv_seenT nl.at)))
        · rintro σ H4 ⟨x, zs, rfl, sm4, el4, dz⟩
          rw [List.length_map, List.length_range] at dz
          refine ⟨by decide, fun p G np => q _ G (s1.trans (sm.trans (sm4.trans np.same))) ?_⟩
          unfold foundD
          rw [DV]
          refine ⟨p, _, rfl, np.at, ?_⟩
          rw [dvs_cc, dvs_cc]
          have t4 := sm4.trans np.same
          exact ⟨dv_lst (t4 _ _ el) (DVs.mono t4 dy), dv_lst (np.same _ _ el4) (DVs.mono np.same dz), DVs.nil⟩
end
/-! the story's contracts, of what stands at the top -/
structure TopS (K : PySem.W.Frag) (S eN eI eW eO : Addr) : Prop where
  cS : ClTop K "Story" S
  n1 : PySem.W.findIn K (.ref S) "room" = some none
  n2 : PySem.W.findIn K (.ref S) "visits" = some none
  n3 : PySem.W.findIn K (.ref S) "latest" = some none
  n4 : PySem.W.findIn K (.ref S) "deeds_done" = some none
  iS : MkTop K S "Story.__init__" sStoryI
  mA : MeTop K S "answer" "Story.answer" sAnswer
  mR : MeTop K S "answer_or_refusal" "Story.answer_or_refusal" sAnsRef
  mD : MeTop K S "do" "Story.do" sDo
  mW : MeTop K S "want" "Story.want" sWantS
  mG : MeTop K S "go" "Story.go" sGoS
  mL : MeTop K S "leave" "Story.leave" sLeaveS
  mO : MeTop K S "go_round" "Story.go_round" sRoundS
  mK : MeTop K S "keep" "Story.keep" sKeep
  s1 : StrTop K "WANT" "want"
  s2 : StrTop K "GO" "go"
  s3 : StrTop K "LEAVE" "leave"
  i1 : IntTop K "LOWERED" 2
  i2 : IntTop K "TICKET" 3
  i3 : IntTop K "ENTERED" 4
  i4 : IntTop K "LEFT" 5
  m0 : PySem.W.mroIn K eN (.ref eN) = some true
  m1 : PySem.W.mroIn K eI (.ref eN) = some false
  m2 : PySem.W.mroIn K eI (.ref eI) = some true
  m3 : PySem.W.mroIn K eW (.ref eN) = some false
  m4 : PySem.W.mroIn K eW (.ref eI) = some false
  m5 : PySem.W.mroIn K eW (.ref eW) = some true
  m6 : PySem.W.mroIn K eO (.ref eN) = some false
  m7 : PySem.W.mroIn K eO (.ref eI) = some false
  m8 : PySem.W.mroIn K eO (.ref eW) = some false
  m9 : PySem.W.mroIn K eO (.ref eO) = some true
theorem story_mk {P : Program} {w : World} {K : PySem.W.Frag} {mg : Str → Option Value} {base h : Heap} {C R dO dL eN eI eW eO S : Addr} (T : TopP K w C R dO dL eN eI eW eO) (U : TopS K S eN eI eW eO) (X : K.In h) (G : h.Ns mainGlobals mg) (B : Blt mg) :
    MakeBy P w K mg base CX0 5 "Story" S ["self", "count"] (spStoryI C R S) ∧ MethBy P w K mg base CX0 8 S "answer" ["self", "deed"] (spAnswer C R S) := by
  have c : Contr P w K mg base C R eN eI eW eO := contr T X G B
  have hS : StoryC K S := ⟨U.cS.cl, U.n1, U.n2, U.n3, U.n4⟩
  have con : ConS mg := ⟨⟨T.s1.by X G, T.s2.by X G, T.s3.by X G, T.s4.by X G, T.s5.by X G, T.s6.by X G, T.s7.by X G, T.s8.by X G, T.s9.by X G⟩, T.s0.by X G, U.s1.by X G, U.s2.by X G, U.s3.by X G, U.i1.by X G, U.i2.by X G, U.i3.by X G, U.i4.by X G⟩
  have ex : Exc K mg eN eI eW eO := ⟨T.x1.by X G, T.x2.by X G, T.x3.by X G, T.x4.by X G⟩
  have keep := U.mK.by (P := P) (w := w) (mg := mg) (base := base) U.cS.cl (fun _ _ _ _ _ _ us hl => match us, hl with | [_, _, _], _ => rfl) fun f fd F => ok_keep F con hS
  have want : MethBy P w K mg base (CXE P w) 3 S "want" ["self", "number"] (spWantS C R S eN eI eW eO) := U.mW.by U.cS.cl (fun _ _ _ _ _ _ us hl => match us, hl with | [_, _], _ => rfl) fun f fd F => ok_wantS F con B hS c.want
  have leave : MethBy P w K mg base (CXE P w) 3 S "leave" ["self", "number"] (spLeaveS C R S eN eI eW eO) := U.mL.by U.cS.cl (fun _ _ _ _ _ _ us hl => match us, hl with | [_, _], _ => rfl) fun f fd F => ok_leaveS F con hS c.leave keep
  have go : MethBy P w K mg base (CXE P w) 5 S "go" ["self", "number", "many"] (spGoS C R S eN eI eW eO) := U.mG.by U.cS.cl (fun _ _ _ _ _ _ us hl => match us, hl with | [_, _, _], _ => rfl) fun f fd F => ok_goS F con hS c.go keep
  have round : MethBy P w K mg base CX0 5 S "go_round" ["self"] (spRoundS C R S eN eI eW eO) := U.mO.by U.cS.cl (fun _ _ _ _ _ _ us hl => match us, hl with | [_], _ => rfl) fun f fd F => ok_roundS F con hS c.round keep
  have do_ : MethBy P w K mg base (CXE P w) 6 S "do" ["self", "deed"] (spDo C R S eN eI eW eO) := U.mD.by U.cS.cl (fun _ _ _ _ _ _ us hl => match us, hl with | [_, _], _ => rfl) fun f fd F => ok_do F con hS want go leave round
  have ref : MethBy P w K mg base CX0 7 S "answer_or_refusal" ["self", "deed"] (spAnsRef C R S eN eI eW eO) := U.mR.by U.cS.cl (fun _ _ _ _ _ _ us hl => match us, hl with | [_, _], _ => rfl) fun f fd F => ok_ansRef F ex ⟨U.m0, U.m1, U.m2, U.m3, U.m4, U.m5, U.m6, U.m7, U.m8, U.m9⟩ do_
  exact ⟨U.iS.by X G U.cS (fun _ _ _ _ _ _ us hl => match us, hl with | [_, _], _ => rfl) fun f fd F => ok_storyI F hS c.room,
    U.mA.by U.cS.cl (fun _ _ _ _ _ _ us hl => match us, hl with | [_, _], _ => rfl) fun f fd F => ok_answer F hS ref⟩
theorem answers_mk {P : Program} {w : World} {K : PySem.W.Frag} {mg : Str → Option Value} {base h : Heap} {C R dO dL eN eI eW eO S : Addr} (T : TopP K w C R dO dL eN eI eW eO) (U : TopS K S eN eI eW eO) (V : FnTop K "answers" "answers" sAnswers) (X : K.In h) (G : h.Ns mainGlobals mg) (B : Blt mg) : FnBy P w K mg base CX0 9 "answers" ["count", "deeds"] spAns := by
  obtain ⟨a, b⟩ := story_mk (P := P) (w := w) (base := base) T U X G B
  exact V.by X G (fun _ _ _ _ _ _ us hl => match us, hl with | [_, _], _ => rfl) fun f fd F => ok_answers F a b
theorem after_mk {P : Program} {w : World} {K : PySem.W.Frag} {mg : Str → Option Value} {base h : Heap} {C R dO dL eN eI eW eO S : Addr} (T : TopP K w C R dO dL eN eI eW eO) (U : TopS K S eN eI eW eO) (V : FnTop K "all_after" "all_after" sAllAfter) (X : K.In h) (G : h.Ns mainGlobals mg) (B : Blt mg) : FnBy P w K mg base CX0 9 "all_after" ["count", "deeds"] (spAfter AA) := by
  obtain ⟨a, b⟩ := story_mk (P := P) (w := w) (base := base) T U X G B
  exact V.by X G (fun _ _ _ _ _ _ us hl => match us, hl with | [_, _], _ => rfl) fun f fd F => ok_allAfter F B ⟨T.cH.cl, T.n1, T.n2, T.n3, T.n4, T.n5, T.n6, T.n7, trivial⟩ ⟨T.cR.cl, T.nR⟩ ⟨U.cS.cl, U.n1, U.n2, U.n3, U.n4⟩ a b
/-! what most laws have at the top -/
structure TopC (K : PySem.W.Frag) : Prop where
  whole : FnTop K "_law_whole" "_law_whole" sWhole
  at_ : FnTop K "_law_at" "_law_at" sAt
  deed : FnTop K "_law_deed_of" "_law_deed_of" sDeedOf
  drawn : FnTop K "_law_drawn" "_law_drawn" sDrawn
  won : FnTop K "_law_whole_or_none" "_law_whole_or_none" sWon
  isV : FnTop K "_law_is_visit" "_law_is_visit" sIsV
  isS : FnTop K "_law_is_seen" "_law_is_seen" sIsS
  told : FnTop K "_law_all_told" "_law_all_told" sTold
  b1 : PySem.W.nsIn K mainGlobals "isinstance" = some none
  b2 : PySem.W.nsIn K mainGlobals "len" = some none
  b3 : PySem.W.nsIn K mainGlobals "range" = some none
  b4 : PySem.W.nsIn K mainGlobals "int" = some none
  b5 : PySem.W.nsIn K mainGlobals "bool" = some none
  b6 : PySem.W.nsIn K mainGlobals "str" = some none
  b7 : PySem.W.nsIn K mainGlobals "tuple" = some none
  b8 : PySem.W.nsIn K mainGlobals "list" = some none
theorem TopC.blt {K : PySem.W.Frag} {mg : Str → Option Value} {h : Heap} (T : TopC K) (X : K.In h) (G : h.Ns mainGlobals mg) : Blt mg :=
  ⟨PySem.W.mg_none_of X G T.b1, PySem.W.mg_none_of X G T.b2, PySem.W.mg_none_of X G T.b3, PySem.W.mg_none_of X G T.b4, PySem.W.mg_none_of X G T.b5, PySem.W.mg_none_of X G T.b6, PySem.W.mg_none_of X G T.b7, PySem.W.mg_none_of X G T.b8⟩
structure Helps (P : Program) (w : World) (K : PySem.W.Frag) (mg : Str → Option Value) (base : Heap) (k : Nat) : Prop where
  whole : FnBy P w K mg base CX0 1 "_law_whole" ["_law_found"] spWhole
  at_ : FnBy P w K mg base CX0 1 "_law_at" ["_law_script", "_law_k"] (spAt K)
  drawn : FnBy P w K mg base CX0 2 "_law_drawn" ["_law_cells", "_law_count"] spDrawn
  told : FnBy P w K mg base CX0 (k + 1) "_law_all_told" ["_law_count", "_law_deeds"] (spAfter AA)
theorem helps {P : Program} {w : World} {K : PySem.W.Frag} {mg : Str → Option Value} {base h : Heap} {k : Nat} (T : TopC K) (X : K.In h) (G : h.Ns mainGlobals mg) (hk : 4 ≤ k) (cB : FnBy P w K mg base CX0 k "all_after" ["count", "deeds"] (spAfter AA)) : Helps P w K mg base k := by
  have B := T.blt X G
  have whole := T.whole.by (P := P) (w := w) (base := base) X G (fun _ _ _ _ _ _ us hl => match us, hl with | [_], _ => rfl) fun f fd F => ok_whole F B
  have at_ := T.at_.by (P := P) (w := w) (base := base) X G (fun _ _ _ _ _ _ us hl => match us, hl with | [_, _], _ => rfl) fun f fd F => ok_at F B
  have deed := T.deed.by (P := P) (w := w) (base := base) X G (fun _ _ _ _ _ _ us hl => match us, hl with | [_, _], _ => rfl) fun f fd F => ok_deedOf F
  have drawn := T.drawn.by (P := P) (w := w) (base := base) X G (fun _ _ _ _ _ _ us hl => match us, hl with | [_, _], _ => rfl) fun f fd F => ok_drawn F B deed
  have won := T.won.by (P := P) (w := w) (base := base) X G (fun _ _ _ _ _ _ us hl => match us, hl with | [_], _ => rfl) fun f fd F => ok_won F whole
  have isV := T.isV.by (P := P) (w := w) (base := base) X G (fun _ _ _ _ _ _ us hl => match us, hl with | [_, _], _ => rfl) fun f fd F => ok_isV F B won
  have isS := T.isS.by (P := P) (w := w) (base := base) X G (fun _ _ _ _ _ _ us hl => match us, hl with | [_], _ => rfl) fun f fd F => ok_isS F B whole
  exact ⟨whole, at_, drawn, T.told.by X G (fun _ _ _ _ _ _ us hl => match us, hl with | [_, _], _ => rfl) fun f fd F => ok_told AA_ok F B cB (by omega) isV isS⟩
/-- the law's def, by its name -/
theorem law_of {P : Program} {w : World} {K : PySem.W.Frag} {mg : Str → Option Value} {h : Heap} {fa : Addr} {k : Nat} {st : Stmt} (T : FnTop K "law" "law" st) (X : K.In h) (G : h.Ns mainGlobals mg) (hfa : mg "law" = some (.ref fa)) (hb1 : BindsSt "law" "law" st ["_law_script"])
    (A : ∀ base : Heap, K.In base → base.Ns mainGlobals mg → ∀ f fd, Fun K "law" "law" st f fd → FnOk P w K mg base CX0 k f fd ["_law_script"] (spLaw K)) :
    ∃ fd : FuncData, (∀ (s : Shared) (v : Value), BindsTo s fd ⟨[v], []⟩ [("_law_script", v)]) ∧ ∀ base : Heap, K.In base → base.Ns mainGlobals mg → FnOk P w K mg base CX0 k fa fd ["_law_script"] (spLaw K) := by
  obtain ⟨f, fd, F, a⟩ := T.ex
  have e := hfa.symm.trans (PySem.W.mg_of X G a)
  cases e
  refine ⟨fd, fun s v => ?_, fun base KB GB => A base KB GB _ fd F⟩
  obtain ⟨oc, od, kV, doc, pm, an, cdv, ct, osl, rfl, lk, hcd⟩ := F.ex
  exact .of_eq (hb1 kV doc pm an cdv ct [v] rfl)
theorem deps_le {l : List Dat} {k : Nat} (h : ∀ d ∈ l, d.dep ≤ k) : Dat.deps l ≤ k := by
  induction l with
  | nil => simp [Dat.deps]
  | cons d r ih =>
    rw [Dat.deps]
    have := h d List.mem_cons_self
    have := ih fun d hd => h d (List.mem_cons_of_mem _ hd)
    omega
theorem dep_on (o : Option Nat) : (on o).dep = 0 := by cases o <;> rfl
section
variable {P : Program} {w : World} {K : PySem.W.Frag} {mg : Str → Option Value} {base : Heap}
def seenL (n : Nat) (s : Rm.Hands) : List Seen := (List.range n).map fun i => ((s i).flag, (s i).ticket, wS (s i).word)
theorem cut_cellsN (ns : List Int) (a r : Nat) : cutV (ns.map V.int) (some ((a : Nat) : Int)) (some (((a + r : Nat)) : Int)) = ((ns.drop a).take r).map V.int := by
  unfold cutV
  rw [HT.sIx_nat, HT.sIx_nat, List.length_map, ← List.map_drop, ← List.map_take]
  congr 1
  by_cases h : a ≤ ns.length
  · rw [Nat.min_eq_left h, List.take_eq_take_iff, List.length_drop]
    omega
  · rw [List.drop_of_length_le (show ns.length ≤ min a ns.length by omega), List.drop_of_length_le (show ns.length ≤ a by omega)]
    simp
end
section
variable {P : Program} {w : World} {K : PySem.W.Frag} {mg : Str → Option Value} {base : Heap}
theorem deps_told (t : List Rm.Told) : Dat.deps (t.map toldD) ≤ 1 := deps_le fun d hd => by
  obtain ⟨u, _, rfl⟩ := List.mem_map.mp hd
  simp [toldD, Dat.dep, Dat.deps, dep_on]
end
theorem dv_toldV {H : Hp} {l : Addr} {t : Rm.Told} (h : H l = some (.tup [.str (wS t.1), onV t.2.1, onV t.2.2])) : DV H (.ref l) (toldD t) := by
  unfold toldD
  rw [DV]
  refine ⟨l, _, rfl, h, ?_⟩
  rw [dvs_cc, dvs_cc, dvs_cc, dv_on, dv_on]
  exact ⟨by unfold DV; rfl, rfl, rfl, DVs.nil⟩
theorem told1_noLst (t : Rm.Told) : (toldD t).noLst = true := by
  obtain ⟨u, x, y⟩ := t
  cases x <;> cases y <;> simp [toldD, on, Dat.noLst, Dat.noLsts]
section
variable {K : PySem.W.Frag} {ix : List (Option Nat)} {g : TG} {tc : TT} {te tl : TE} {ta : TA} {tb : TS} {Q : VK} {D : Ends} {σ : St} {H : Hp}
end
section
variable {P : Program} {w : World} {K : PySem.W.Frag} {mg : Str → Option Value} {base : Heap}
/-- the heap without two of its places -/
def ap (H : Hp) (a b : Addr) : Hp := fun c => if c = a ∨ c = b then none else H c
theorem ap_at {H : Hp} {a b c : Addr} {o : HO} (h : H c = some o) (h1 : c ≠ a) (h2 : c ≠ b) : ap H a b c = some o := by
  unfold ap
  rw [if_neg (by simp [h1, h2]), h]
section
variable {H : Hp} {l k : Addr} {ys zs : List V}
mutual
theorem DV.toAp (hl : H l = some (.lst ys)) (hk : H k = some (.lst zs)) : ∀ {v : V} {d : Dat}, d.noLst = true → DV H v d → DV (ap H l k) v d
  | v, .non, _, h => by unfold DV at h ⊢; exact h
  | v, .bl b, _, h => by unfold DV at h ⊢; exact h
  | v, .int i, _, h => by unfold DV at h ⊢; exact h
  | v, .str x, _, h => by unfold DV at h ⊢; exact h
  | v, .tup m, hn, h => by
    rw [Dat.noLst] at hn
    unfold DV at h ⊢
    obtain ⟨a, xs, h1, h2, h3⟩ := h
    exact ⟨a, xs, h1, ap_at h2 (fun z => by rw [z, hl] at h2; cases h2) (fun z => by rw [z, hk] at h2; cases h2), DVs.toAp hl hk hn h3⟩
  | v, .lst m, hn, _ => by rw [Dat.noLst] at hn; cases hn
theorem DVs.toAp (hl : H l = some (.lst ys)) (hk : H k = some (.lst zs)) : ∀ {xs : List V} {m : List Dat}, Dat.noLsts m = true → DVs H xs m → DVs (ap H l k) xs m
  | [], [], _, _ => by unfold DVs; trivial
  | x :: xs, d :: ds, hn, h => by
    rw [Dat.noLsts, Bool.and_eq_true] at hn
    unfold DVs at h ⊢
    exact ⟨DV.toAp hl hk hn.1 h.1, DVs.toAp hl hk hn.2 h.2⟩
  | [], _ :: _, _, h => by unfold DVs at h; exact h.elim
  | _ :: _, [], _, h => by unfold DVs at h; exact h.elim
end
end
def cellK (ns : List Int) (k : Nat) : Int := ns.getD (k + 1) 0 + 7 * (1 + (k : Int))
theorem deps_dd (D : List Dd) : Dat.deps (D.map Dd.dat) ≤ 1 := deps_le fun d hd => by
  obtain ⟨u, _, rfl⟩ := List.mem_map.mp hd
  cases u <;> simp [Dd.dat, Dat.dep, Dat.deps]
structure Fx (H : Hp) (le ld : Addr) : Prop where
  ne : le ≠ ld
  e : H le = none
  d : H ld = none
structure Bd (H : Hp) (le ld : Addr) (D : List Dd) (A : List Rm.Ans) (H2 : Hp) : Prop where
  sm : Same H H2
  de : ∃ ws, H2 le = some (.lst ws) ∧ DVs H2 ws (D.map Dd.dat)
  du : ∃ us, H2 ld = some (.lst us) ∧ DVs (ap H2 le ld) us (A.map ansD)
structure Stp (le ld ls : Addr) (xs : List V) (ts : List Rm.Told) (H2 : Hp) : Prop where
  e : ls ≠ le
  d : ls ≠ ld
  at_ : H2 ls = some (.lst xs)
  dv : DVs H2 xs (ts.map toldD)
section
variable {H H2 G : Hp} {le ld ls p : Addr} {D E : List Dd} {A B : List Rm.Ans} {xs zs : List V} {ts : List Rm.Told} {Q : VK} {v : V}
end
end
local macro_rules | `(tactic| walk_at "rd") => `(tactic| try simp only [tSeq, tAsg, tSetLC, tRet, tRetN, tDrop, tIfS, tNext, tTest, tOp, tUn, rI, rI0, rU, tVar, tC, tCons, tNil, tTup, tLst, tTupN, tLstN, tBM, tCB, tCall, tMeth, tMake, tFld, sFld, sFldN, tMakeN, gName, tAndV, tOrV, tNotV, tAnd, tOr, tNot, tIf, tB, rEq, rNe, L2.start, List.map_cons, List.map_nil, List.length_cons, List.length_nil, Nat.reduceAdd, Nat.reduceSub, List.replicate, List.cons_append, List.nil_append, List.append_nil,
      List.getElem?_cons_zero, List.getElem?_cons_succ, Option.some.injEq, V.int.injEq, V.bl.injEq, V.ref.injEq, V.str.injEq, exists_and_left, exists_eq_left', exists_eq_left, List.cons.injEq, cxOf_K, List.set, Int.reduceLT, true_and, and_true, decide_eq_true_eq, scal, HO.ins.injEq, HO.lst.injEq, HO.tup.injEq, and_assoc, exists_prop, List.append_nil, tDGet, sDPutN])
local macro_rules | `(tactic| k_invariant "rd" $t) => `(tactic| try simp only [tSeq, tAsg, tSetLC, tRet, tRetN, tDrop, tIfS, tNext, tTest, tOp, tUn, rI, rI0, rU, tVar, tC, tCons, tNil, tTup, tLst, tTupN, tLstN, tBM, tCB, tCall, tMeth, tMake, tFld, sFld, sFldN, tMakeN, gName, tAndV, tOrV, tNotV, tAnd, tOr, tNot, tIf, tB, rEq, rNe, L2.start, List.map_cons, List.map_nil, List.length_cons, List.length_nil, Nat.reduceAdd, Nat.reduceSub, List.replicate, List.cons_append, List.nil_append, List.append_nil,
      List.getElem?_cons_zero, List.getElem?_cons_succ, Option.some.injEq, V.int.injEq, V.bl.injEq, V.ref.injEq, V.str.injEq, exists_and_left, exists_eq_left', exists_eq_left, List.cons.injEq, cxOf_K, List.set, Int.reduceLT, true_and, and_true, decide_eq_true_eq, scal, HO.ins.injEq, HO.lst.injEq, HO.tup.injEq, and_assoc, exists_prop, List.append_nil, $t:term, tDGet, sDPutN])
/-! the plain room of the law: a hand is a dict -/
def kFlag : Key := .inr ("flag" : Str)
def kTicket : Key := .inr ("ticket" : Str)
def kWhere : Key := .inr ("where" : Str)
def kSpot : Key := .inr ("spot" : Str)
def kOthers : Key := .inr ("others" : Str)
def kVisit : Key := .inr ("visit" : Str)
def kMost : Key := .inr ("most" : Str)
theorem ne_Flag_Ticket : (kFlag = kTicket) = False := eq_false (by decide +kernel)
theorem ne_Flag_Where : (kFlag = kWhere) = False := eq_false (by decide +kernel)
theorem ne_Flag_Spot : (kFlag = kSpot) = False := eq_false (by decide +kernel)
theorem ne_Flag_Others : (kFlag = kOthers) = False := eq_false (by decide +kernel)
theorem ne_Flag_Visit : (kFlag = kVisit) = False := eq_false (by decide +kernel)
theorem ne_Flag_Most : (kFlag = kMost) = False := eq_false (by decide +kernel)
theorem ne_Ticket_Flag : (kTicket = kFlag) = False := eq_false (by decide +kernel)
theorem ne_Ticket_Where : (kTicket = kWhere) = False := eq_false (by decide +kernel)
theorem ne_Ticket_Spot : (kTicket = kSpot) = False := eq_false (by decide +kernel)
theorem ne_Ticket_Others : (kTicket = kOthers) = False := eq_false (by decide +kernel)
theorem ne_Ticket_Visit : (kTicket = kVisit) = False := eq_false (by decide +kernel)
theorem ne_Ticket_Most : (kTicket = kMost) = False := eq_false (by decide +kernel)
theorem ne_Where_Flag : (kWhere = kFlag) = False := eq_false (by decide +kernel)
theorem ne_Where_Ticket : (kWhere = kTicket) = False := eq_false (by decide +kernel)
theorem ne_Where_Spot : (kWhere = kSpot) = False := eq_false (by decide +kernel)
theorem ne_Where_Others : (kWhere = kOthers) = False := eq_false (by decide +kernel)
theorem ne_Where_Visit : (kWhere = kVisit) = False := eq_false (by decide +kernel)
theorem ne_Where_Most : (kWhere = kMost) = False := eq_false (by decide +kernel)
theorem ne_Spot_Flag : (kSpot = kFlag) = False := eq_false (by decide +kernel)
theorem ne_Spot_Ticket : (kSpot = kTicket) = False := eq_false (by decide +kernel)
theorem ne_Spot_Where : (kSpot = kWhere) = False := eq_false (by decide +kernel)
theorem ne_Spot_Others : (kSpot = kOthers) = False := eq_false (by decide +kernel)
theorem ne_Spot_Visit : (kSpot = kVisit) = False := eq_false (by decide +kernel)
theorem ne_Spot_Most : (kSpot = kMost) = False := eq_false (by decide +kernel)
theorem ne_Others_Flag : (kOthers = kFlag) = False := eq_false (by decide +kernel)
theorem ne_Others_Ticket : (kOthers = kTicket) = False := eq_false (by decide +kernel)
theorem ne_Others_Where : (kOthers = kWhere) = False := eq_false (by decide +kernel)
theorem ne_Others_Spot : (kOthers = kSpot) = False := eq_false (by decide +kernel)
theorem ne_Others_Visit : (kOthers = kVisit) = False := eq_false (by decide +kernel)
theorem ne_Others_Most : (kOthers = kMost) = False := eq_false (by decide +kernel)
theorem ne_Visit_Flag : (kVisit = kFlag) = False := eq_false (by decide +kernel)
theorem ne_Visit_Ticket : (kVisit = kTicket) = False := eq_false (by decide +kernel)
theorem ne_Visit_Where : (kVisit = kWhere) = False := eq_false (by decide +kernel)
theorem ne_Visit_Spot : (kVisit = kSpot) = False := eq_false (by decide +kernel)
theorem ne_Visit_Others : (kVisit = kOthers) = False := eq_false (by decide +kernel)
theorem ne_Visit_Most : (kVisit = kMost) = False := eq_false (by decide +kernel)
theorem ne_Most_Flag : (kMost = kFlag) = False := eq_false (by decide +kernel)
theorem ne_Most_Ticket : (kMost = kTicket) = False := eq_false (by decide +kernel)
theorem ne_Most_Where : (kMost = kWhere) = False := eq_false (by decide +kernel)
theorem ne_Most_Spot : (kMost = kSpot) = False := eq_false (by decide +kernel)
theorem ne_Most_Others : (kMost = kOthers) = False := eq_false (by decide +kernel)
theorem ne_Most_Visit : (kMost = kVisit) = False := eq_false (by decide +kernel)
def visKv : Option Addr → List (Key × V) | none => [] | some v => [(kVisit, .ref v)]
def mostKv : Option Nat → List (Key × V) | none => [] | some m => [(kMost, .int m)]
def kvH (x : Rm.PH) : List (Key × V) := [(kFlag, .bl x.flag), (kTicket, .int x.ticket), (kWhere, .str (wS x.word)), (kSpot, .int x.spot), (kOthers, .ref x.oa)] ++ (visKv x.vis ++ mostKv x.most)
local macro_rules | `(tactic| walk_at "kv") => `(tactic| simp [kvH, valV, putK, visKv, mostKv, List.find?_cons, List.map_cons, ne_Flag_Ticket, ne_Flag_Where, ne_Flag_Spot, ne_Flag_Others, ne_Flag_Visit, ne_Flag_Most, ne_Ticket_Flag, ne_Ticket_Where, ne_Ticket_Spot, ne_Ticket_Others, ne_Ticket_Visit, ne_Ticket_Most, ne_Where_Flag, ne_Where_Ticket, ne_Where_Spot, ne_Where_Others, ne_Where_Visit, ne_Where_Most, ne_Spot_Flag, ne_Spot_Ticket, ne_Spot_Where, ne_Spot_Others, ne_Spot_Visit, ne_Spot_Most, ne_Others_Flag, ne_Others_Ticket, ne_Others_Where, ne_Others_Spot, ne_Others_Visit, ne_Others_Most, ne_Visit_Flag, ne_Visit_Ticket, ne_Visit_Where, ne_Visit_Spot, ne_Visit_Others, ne_Visit_Most, ne_Most_Flag, ne_Most_Ticket, ne_Most_Where, ne_Most_Spot, ne_Most_Others, ne_Most_Visit])
section
variable (x : Rm.PH)
theorem g_flag : valV (kvH x) kFlag = some (.bl x.flag) := by walk_at "kv"
theorem g_ticket : valV (kvH x) kTicket = some (.int x.ticket) := by walk_at "kv"
theorem g_where : valV (kvH x) kWhere = some (.str (wS x.word)) := by walk_at "kv"
theorem g_spot : valV (kvH x) kSpot = some (.int x.spot) := by walk_at "kv"
theorem g_others : valV (kvH x) kOthers = some (.ref x.oa) := by walk_at "kv"
theorem g_visit {v : Addr} (h : x.vis = some v) : valV (kvH x) kVisit = some (.ref v) := by
  unfold kvH
  rw [h]
  walk_at "kv"
theorem g_most {m : Nat} (h : x.most = some m) : valV (kvH x) kMost = some (.int m) := by
  unfold kvH
  rw [h]
  cases x.vis <;> walk_at "kv"
theorem kvH_len : (kvH x).length ≤ 7 := by
  unfold kvH
  cases x.vis <;> cases x.most <;> simp [visKv, mostKv]
theorem p_flag (b : Bool) : putK (kvH x) kFlag (.bl b) = kvH { x with flag := b } := by
  unfold kvH
  cases x.vis <;> cases x.most <;> walk_at "kv"
theorem p_ticket (t : Nat) : putK (kvH x) kTicket (.int t) = kvH { x with ticket := t } := by
  unfold kvH
  cases x.vis <;> cases x.most <;> walk_at "kv"
theorem p_where (w : Rm.W) : putK (kvH x) kWhere (.str (wS w)) = kvH { x with word := w } := by
  unfold kvH
  cases x.vis <;> cases x.most <;> walk_at "kv"
theorem p_spot (p : Nat) : putK (kvH x) kSpot (.int p) = kvH { x with spot := p } := by
  unfold kvH
  cases x.vis <;> cases x.most <;> walk_at "kv"
theorem p_visit (v : Addr) (h : x.most.isSome = true → x.vis.isSome = true) : putK (kvH x) kVisit (.ref v) = kvH { x with vis := some v } := by
  unfold kvH
  revert h
  cases x.vis <;> cases x.most <;> intro h <;> first | (walk_at "kv"; done) | exact absurd (h rfl) (by simp)
theorem p_most (m : Nat) (h : x.vis.isSome = true) : putK (kvH x) kMost (.int m) = kvH { x with most := some m } := by
  unfold kvH
  revert h
  cases x.vis <;> cases x.most <;> intro h <;> first | (walk_at "kv"; done) | exact absurd h (by simp)
end
theorem dg {H : Hp} {d : Addr} {kvs : List (Key × V)} {k : Key} {v : V} (h : H d = some (.dK kvs)) (e : valV kvs k = some v) : DGet H d (kV k) (some v) := e ▸ DGet.k h
theorem kv_lt (x : Rm.PH) : (kvH x).length < sizeLine := Nat.lt_of_le_of_lt (kvH_len x) (lt_size (by decide))
/-! a heap without some of its addresses -/
open Classical in
noncomputable def apO (O : Addr → Prop) (H : Hp) : Hp := fun c => if O c then none else H c
theorem apO_at {O : Addr → Prop} {H : Hp} {c : Addr} {u : HO} (h : H c = some u) (n : ¬ O c) : apO O H c = some u := by
  unfold apO
  rw [if_neg n]
  exact h
theorem apO_of {O : Addr → Prop} {H : Hp} {c : Addr} {u : HO} (h : apO O H c = some u) : H c = some u ∧ ¬ O c := by
  unfold apO at h
  split at h
  · cases h
  · exact ⟨h, by assumption⟩
theorem apO_le {O : Addr → Prop} {H : Hp} : Same (apO O H) H := fun c u e => (apO_of e).1
theorem apO_same {O O' : Addr → Prop} {H G : Hp} (s : ∀ c u, H c = some u → ¬ O c → G c = some u ∧ ¬ O' c) : Same (apO O H) (apO O' G) := fun c u e => by
  obtain ⟨a, b⟩ := apO_of e
  obtain ⟨a', b'⟩ := s c u a b
  exact apO_at a' b'
/-- where the plain room lies -/
structure Pl where
  hh : Addr
  lh : Addr
  lv : Addr
  dh : Nat → Addr
  oh : Nat → Addr
  va : Nat → Addr
def Pl.Ow (B : Pl) (n m : Nat) (c : Addr) : Prop := c = B.lv ∨ (∃ i, i < n ∧ c = B.dh i) ∨ ∃ k, k < m ∧ c = B.va k
def kHands : Key := .inr ("hands" : Str)
def kVisits : Key := .inr ("visits" : Str)
theorem ne_hv : (kHands = kVisits) = False := eq_false (by decide +kernel)
def kvHall (lh lv : Addr) : List (Key × V) := [(kHands, .ref lh), (kVisits, .ref lv)]
theorem g_hands (lh lv : Addr) : valV (kvHall lh lv) kHands = some (.ref lh) := by simp [kvHall, valV, List.find?_cons]
theorem g_visits (lh lv : Addr) : valV (kvHall lh lv) kVisits = some (.ref lv) := by simp [kvHall, valV, List.find?_cons, ne_hv]
structure HandAt (n : Nat) (B : Pl) (R : Rm.Hall) (i : Nat) (x : Rm.PH) : Prop where
  rel : Rm.XRel n (R.hands i) x
  oa : x.oa = B.oh i
  vis : (R.hands i).word ≠ .out → x.vis = some (B.va (R.cur i))
  mv : x.most.isSome = true → x.vis.isSome = true
structure AtPl (n : Nat) (B : Pl) (R : Rm.Hall) (H : Hp) : Prop where
  hall : H B.hh = some (.dK (kvHall B.lh B.lv))
  hands : H B.lh = some (.lst ((List.range n).map fun i => .ref (B.dh i)))
  visits : H B.lv = some (.lst ((List.range R.m).map fun k => .ref (B.va k)))
  hand : ∀ i, i < n → ∃ x : Rm.PH, H (B.dh i) = some (.dK (kvH x)) ∧ HandAt n B R i x
  oth : ∀ i, i < n → H (B.oh i) = some (.lst ((List.range (n - 1)).map fun p => .int (Rm.oth i p)))
  vis : ∀ k, k < R.m → H (B.va k) = some (.lst (visitV (R.vis k)))
  dinj : ∀ i j, i < n → j < n → B.dh i = B.dh j → i = j
  vinj : ∀ i j, i < R.m → j < R.m → B.va i = B.va j → i = j
  dhh : ∀ i, i < n → B.dh i ≠ B.hh
  lvh : B.lv ≠ B.lh
  lvo : ∀ i, i < n → B.lv ≠ B.oh i
  vav : ∀ k, k < R.m → B.va k ≠ B.lv
  vah : ∀ k, k < R.m → B.va k ≠ B.lh
  vao : ∀ k i, k < R.m → i < n → B.va k ≠ B.oh i
section
variable {n : Nat} {B : Pl} {R : Rm.Hall} {H G : Hp}
theorem AtPl.mono (a : AtPl n B R H) (s : Same H G) : AtPl n B R G :=
  ⟨s _ _ a.hall, s _ _ a.hands, s _ _ a.visits, fun i hi => by obtain ⟨x, h, r⟩ := a.hand i hi; exact ⟨x, s _ _ h, r⟩, fun i hi => s _ _ (a.oth i hi), fun k hk => s _ _ (a.vis k hk), a.dinj, a.vinj, a.dhh, a.lvh, a.lvo, a.vav, a.vah, a.vao⟩
theorem AtPl.got (a : AtPl n B R H) {c : Addr} (o : B.Ow n R.m c) : ∃ u, H c = some u := by
  rcases o with rfl | ⟨i, hi, rfl⟩ | ⟨k, hk, rfl⟩
  · exact ⟨_, a.visits⟩
  · obtain ⟨x, h, _⟩ := a.hand i hi
    exact ⟨_, h⟩
  · exact ⟨_, a.vis k hk⟩
theorem AtPl.fresh (a : AtPl n B R H) {c : Addr} (h : H c = none) : ¬ B.Ow n R.m c := fun o => by
  obtain ⟨u, e⟩ := a.got o
  rw [h] at e
  cases e
theorem AtPl.apNew (a : AtPl n B R H) {p : Addr} {u : HO} (x : New H p u G) : New (apO (B.Ow n R.m) H) p u (apO (B.Ow n R.m) G) := by
  have fr := a.fresh x.free
  refine ⟨?_, ?_⟩
  · unfold apO
    rw [if_neg fr]
    exact x.free
  · funext c
    rw [x.eq]
    unfold apO
    by_cases e : c = p
    · subst e
      rw [if_neg fr, upd_same, upd_same]
    · rw [upd_ne e, upd_ne e]
theorem AtPl.apSame (a : AtPl n B R H) (s : Same H G) : Same (apO (B.Ow n R.m) H) (apO (B.Ow n R.m) G) := apO_same fun c u e o => ⟨s _ _ e, o⟩
/-- the dict of the hand i and its visit may have changed, and nothing else -/
def ChgP (d v : Addr) (H G : Hp) : Prop := ∀ c u, c ≠ d → c ≠ v → H c = some u → G c = some u
theorem ChgP.refl (d v : Addr) (H : Hp) : ChgP d v H H := fun _ _ _ _ e => e
theorem ChgP.trans {d v : Addr} {H G F : Hp} (a : ChgP d v H G) (b : ChgP d v G F) : ChgP d v H F := fun c u h1 h2 e => b c u h1 h2 (a c u h1 h2 e)
theorem ChgP.putD {d v : Addr} {H G : Hp} {o : HO} (p : Put H d o G) : ChgP d v H G := fun c u h1 _ e => by rw [p.ne h1]; exact e
theorem ChgP.putV {d v : Addr} {H G : Hp} {o : HO} (p : Put H v o G) : ChgP d v H G := fun c u _ h2 e => by rw [p.ne h2]; exact e
theorem AtPl.apChg (a : AtPl n B R H) {i k : Nat} (hi : i < n) (hk : k < R.m) (c : ChgP (B.dh i) (B.va k) H G) : Same (apO (B.Ow n R.m) H) (apO (B.Ow n R.m) G) := apO_same fun b u e o =>
  ⟨c b u (fun z => o (.inr (.inl ⟨i, hi, z⟩))) (fun z => o (.inr (.inr ⟨k, hk, z⟩))) e, o⟩
theorem AtPl.dne (a : AtPl n B R H) {i : Nat} (hi : i < n) {c : Addr} {xs : List V} (h : H c = some (.lst xs)) : c ≠ B.dh i := fun z => by
  obtain ⟨x, e, _⟩ := a.hand i hi
  rw [← z, h] at e
  cases e
theorem AtPl.dne' (a : AtPl n B R H) {k : Nat} (hk : k < R.m) {c : Addr} {xs : List (Key × V)} (h : H c = some (.dK xs)) : c ≠ B.va k := fun z => by
  have e := a.vis k hk
  rw [← z, h] at e
  cases e
/-- the room behind an act of the hand i -/
theorem AtPl.act (a : AtPl n B R H) {i : Nat} (hi : i < n) {k : Nat} (hk : k < R.m) {h' : Rm.Hand} {v' : Rm.Visit} {x' : Rm.PH} (c : ChgP (B.dh i) (B.va k) H G) (gd : G (B.dh i) = some (.dK (kvH x'))) (gv : G (B.va k) = some (.lst (visitV v')))
    (r : HandAt n B { R with hands := Rm.put R.hands i h', vis := Rm.put R.vis k v' } i x') : AtPl n B { R with hands := Rm.put R.hands i h', vis := Rm.put R.vis k v' } G := by
  refine ⟨?_, ?_, ?_, fun j hj => ?_, fun j hj => ?_, fun j hj => ?_, a.dinj, a.vinj, a.dhh, a.lvh, a.lvo, a.vav, a.vah, a.vao⟩
  · exact c _ _ (fun z => a.dhh i hi z.symm) (a.dne' hk a.hall) a.hall
  · exact c _ _ (a.dne hi a.hands) (fun z => a.vah k hk z.symm) a.hands
  · exact c _ _ (a.dne hi a.visits) (fun z => a.vav k hk z.symm) a.visits
  · by_cases e : j = i
    · subst e
      exact ⟨x', gd, r⟩
    · obtain ⟨x, hx, rx⟩ := a.hand j hj
      refine ⟨x, c _ _ (fun z => e (a.dinj j i hj hi z)) (a.dne' hk hx) hx, ?_, rx.oa, ?_, rx.mv⟩
      · show Rm.XRel n (Rm.put R.hands i h' j) x
        rw [Rm.put_ne _ _ e]
        exact rx.rel
      · show (Rm.put R.hands i h' j).word ≠ .out → _
        rw [Rm.put_ne _ _ e]
        exact rx.vis
  · exact c _ _ (a.dne hi (a.oth j hj)) (fun z => a.vao k j hk hj z.symm) (a.oth j hj)
  · show G (B.va j) = some (.lst (visitV (Rm.put R.vis k v' j)))
    by_cases e : j = k
    · subst e
      rw [Rm.put_self]
      exact gv
    · rw [Rm.put_ne _ _ e]
      exact c _ _ (a.dne hi (a.vis j hj)) (fun z => e (a.vinj j k hj hk z)) (a.vis j hj)
end
section
variable {n : Nat} {B : Pl} {R : Rm.Hall} {H G : Hp}
/-- the room behind a step of the hand i -/
theorem AtPl.stepd (a : AtPl n B R H) {T i t : Nat} (I : Rm.HInv n T R) (hi : i < n) {x : Rm.PH} (hx : HandAt n B R i x) (wo : (R.hands i).word ≠ .out) (c : ChgP (B.dh i) (B.va (R.cur i)) H G) (gd : G (B.dh i) = some (.dK (kvH (Rm.stepX n R.hands i x))))
    (gv : G (B.va (R.cur i)) = some (.lst (visitV (Rm.noteV (R.hands i).word t ((R.hands i).great + 1) (R.vis (R.cur i)))))) : AtPl n B (Rm.stepA n t R i) G := by
  refine a.act hi (I.cur i hi wo).1 c gd gv ⟨?_, ?_, ?_, ?_⟩
  · show Rm.XRel n (Rm.put R.hands i (Rm.stepH n R.hands i) i) _
    rw [Rm.put_self]
    exact Rm.xrel_step I.inv hi hx.rel
  · rw [Rm.stepX_oa]; exact hx.oa
  · intro _
    rw [Rm.stepX_vis]; exact hx.vis wo
  · intro _
    rw [Rm.stepX_vis, hx.vis wo]; rfl
theorem AtPl.leaved (a : AtPl n B R H) {T i t : Nat} (I : Rm.HInv n T R) (hi : i < n) {x : Rm.PH} (hx : HandAt n B R i x) (wo : (R.hands i).word ≠ .out) (c : ChgP (B.dh i) (B.va (R.cur i)) H G) (gd : G (B.dh i) = some (.dK (kvH { x with flag := false, ticket := 0, word := .out })))
    (gv : G (B.va (R.cur i)) = some (.lst (visitV { R.vis (R.cur i) with left := some t }))) : AtPl n B (Rm.leaveA t R i) G := by
  refine a.act hi (I.cur i hi wo).1 c gd gv ⟨?_, hx.oa, ?_, hx.mv⟩
  · show Rm.XRel n (Rm.put R.hands i (Rm.goOut (R.hands i)) i) _
    rw [Rm.put_self]
    exact Rm.xrel_out hx.rel
  · intro z
    exact hx.vis wo
end
section
variable {P : Program} {w : World} {K : PySem.W.Frag} {mg : Str → Option Value} {base : Heap}
/-! further -/
abbrev sFur : Stmt := top 53
def spFur : Sp := fun vs H Q _ => ∃ (d : Addr) (x : Rm.PH) (w b : Rm.W) (os : List V), vs = [.ref d, .str (wS w), .str (wS b)] ∧ H d = some (.dK (kvH x)) ∧ H x.oa = some (.lst os) ∧ ∀ G, Put H d (.dK (kvH (Rm.furX os.length x w b))) G → Q .non G
theorem scFur : FnScope ["_law_one", "_law_word", "_law_last"] ["_law_one", "_law_word", "_law_last"] (defScope sFur) := ⟨rfl, rfl, rfl, by decide +kernel, rfl, by decide +kernel, by decide +kernel⟩
theorem ok_fur {f : Addr} {fd : FuncData} (F : Fun K "_law_further" "_law_further" sFur f fd) (T : Blt mg) : FnOk P w K mg base CX0 1 f fd ["_law_one", "_law_word", "_law_last"] spFur := by
  refine F.ok scFur (fun vs H Q E h => ?_) (fun cdv A outer s H vs Q E hr h => ?_)
  · obtain ⟨d, x, w, b, os, rfl, _⟩ := h
    rfl
  · obtain ⟨d, x, w, b, os, rfl, hd, ho, q⟩ := h
    refine ⟨_, (pss_cons (ps_dputN (hu_of hr) (pv 0) pe_str (pv 1) rfl)
      (pss_one (ps_if (pt_cmpR op_eq (pe_dget (hu_of hr) (pv 0) pe_str (by exact fun _ _ => rfl)) (pe_callB call_len_seq (by rfl) T.b_len PyProof.Rows.Boot.len (pac (pe_dget (hu_of hr) (pv 0) pe_str (by exact fun _ _ => rfl)) pa_nil)) (nomark _)) (pss_cons (ps_dputN (hu_of hr) (pv 0) pe_str pe_int rfl)
      (pss_one (ps_dputN (hu_of hr) (pv 0) pe_str (pv 2) rfl))) pss_nil))), ?_⟩
    walk_at "rd"
    refine ⟨_, kWhere, rfl, hd, kv_lt x, fun G1 p1 => ?_⟩
    rw [p_where] at p1
    have hd1 := p1.at
    have ho1 : G1 x.oa = some (.lst os) := by rw [p1.ne fun z => by rw [z, hd] at ho; cases ho]; exact ho
    refine ⟨_, dg (k := kSpot) hd1 (g_spot _), _, dg (k := kOthers) hd1 (g_others _), _, rfl, os, .inl (.of ho1), ?_⟩
    walk_at "rd"
    by_cases e : x.spot = os.length
    · rw [if_pos (by simp [e])]
      refine ⟨_, kSpot, rfl, hd1, kv_lt _, fun G2 p2 => ?_⟩
      have p2 : Put G1 d (.dK (kvH { x with word := w, spot := 0 })) G2 := by
        have := p_spot { x with word := w } 0
        rw [← this]
        exact p2
      refine ⟨_, kWhere, rfl, p2.at, kv_lt _, fun G3 p3 => q _ ?_⟩
      rw [p_where] at p3
      have := (p1.two p2).two p3
      unfold Rm.furX
      rw [if_pos e]
      exact this
    · rw [if_neg (by omega)]
      refine q _ ?_
      unfold Rm.furX
      rw [if_neg e]
      exact p1
/-! gone_out -/
abbrev sGone : Stmt := top 57
def spGone : Sp := fun vs H Q _ => ∃ (n : Nat) (B : Pl) (R : Rm.Hall) (T i t : Nat), vs = [.ref (B.dh i), .int t] ∧ AtPl n B R H ∧ Rm.HInv n T R ∧ i < n ∧ (R.hands i).word ≠ .out ∧ ∀ G, AtPl n B (Rm.leaveA t R i) G → Same (apO (B.Ow n R.m) H) (apO (B.Ow n R.m) G) → Q (.int (R.hands i).ticket) G
theorem scGone : FnScope ["_law_one", "_law_time", "_law_had"] ["_law_one", "_law_time"] (defScope sGone) := ⟨rfl, rfl, rfl, by decide +kernel, rfl, by decide +kernel, by decide +kernel⟩
theorem ok_gone {f : Addr} {fd : FuncData} (F : Fun K "_law_gone_out" "_law_gone_out" sGone f fd) : FnOk P w K mg base CX0 1 f fd ["_law_one", "_law_time"] spGone := by
  refine F.ok scGone (fun vs H Q E h => ?_) (fun cdv A outer s H vs Q E hr h => ?_)
  · obtain ⟨n, B, R, T, i, t, rfl, _⟩ := h
    rfl
  · obtain ⟨n, B, R, T, i, t, rfl, a, I, hi, wo, q⟩ := h
    have SC := scGone
    obtain ⟨x, hd, hx⟩ := a.hand i hi
    obtain ⟨hc, O⟩ := I.cur i hi wo
    have hv := hx.vis wo
    have hvv := a.vis _ hc
    refine ⟨_, (pss_cons (ps_set (i := 2) SC.nd (by rfl) (Or.inl (by rfl)) (pe_dget (hu_of hr) (pv 0) pe_str (by exact fun _ _ => rfl)))
      (pss_cons (ps_asg (pv 1) (pg_sub (pe_dget (hu_of hr) (pv 0) pe_str (by exact fun _ _ => rfl)) pe_int set_listN))
      (pss_cons (ps_dputN (hu_of hr) (pv 0) pe_str pe_bl rfl)
      (pss_cons (ps_dputN (hu_of hr) (pv 0) pe_str pe_int rfl)
      (pss_cons (ps_dputN (hu_of hr) (pv 0) pe_str pe_str rfl)
      (pss_one (ps_ret (pv 2)))))))), ?_⟩
    walk_at "rd"
    refine ⟨_, dg (k := kTicket) hd (g_ticket _), _, rfl, _, _, rfl, dg (k := kVisit) hd (g_visit _ hv), B.va (R.cur i), _, 5, 5, rfl, rfl, hvv, rfl, fun G1 p1 => ?_⟩
    have hd1 : G1 (B.dh i) = some (.dK (kvH x)) := by rw [p1.ne (a.dne' hc hd)]; exact hd
    walk_at "rd"
    refine ⟨_, kFlag, rfl, hd1, kv_lt x, fun G2 p2 => ?_⟩
    rw [p_flag] at p2
    refine ⟨_, kTicket, rfl, p2.at, kv_lt _, fun G3 p3 => ?_⟩
    rw [show V.int 0 = V.int ((0 : Nat) : Int) from rfl, p_ticket] at p3
    refine ⟨_, kWhere, rfl, p3.at, kv_lt _, fun G4 p4 => ?_⟩
    rw [show V.str (Str.ofString "out") = V.str (wS .out) from rfl, p_where] at p4
    have pd := (p2.two p3).two p4
    have ch : ChgP (B.dh i) (B.va (R.cur i)) H G4 := (ChgP.putV p1).trans (ChgP.putD pd)
    rw [hx.rel.ticket]
    refine q G4 (a.leaved I hi hx wo ch pd.at ?_) (a.apChg hi hc ch)
    rw [pd.ne fun z => a.dne' hc hd z.symm]
    exact p1.at
end
theorem oth_get {n i p : Nat} (hp : p < n - 1) : ((List.range (n - 1)).map fun p => V.int (Rm.oth i p))[p]? = some (.int (Rm.oth i p)) := by
  rw [List.getElem?_map, List.getElem?_range hp]
  rfl
theorem hand_get {n i : Nat} {f : Nat → Addr} (hi : i < n) : ((List.range n).map fun i => V.ref (f i))[i]? = some (.ref (f i)) := by
  rw [List.getElem?_map, List.getElem?_range hi]
  rfl
theorem max_nat (a b : Nat) : (if ((b : Nat) : Int) > a then ((b : Nat) : Int) else a) = ((max a b : Nat) : Int) := by split <;> omega
section
variable {P : Program} {w : World} {K : PySem.W.Frag} {mg : Str → Option Value} {base : Heap}
/-- what a step of the hand i tells, and leaves -/
def StepQ (n : Nat) (B : Pl) (R : Rm.Hall) (i t : Nat) (H : Hp) (Q : VK) : Prop := ∀ v G, AtPl n B (Rm.stepA n t R i) G → Same (apO (B.Ow n R.m) H) (apO (B.Ow n R.m) G) → DV (apO (B.Ow n R.m) G) v (toldD (Rm.toldS R.hands i)) → Q v G
abbrev sDoor : Stmt := top 54
def spDoor : Sp := fun vs H Q _ => ∃ (n : Nat) (B : Pl) (R : Rm.Hall) (T i t : Nat), vs = [.ref B.hh, .ref (B.dh i), .int t] ∧ AtPl n B R H ∧ Rm.HInv n T R ∧ i < n ∧ ((R.hands i).word = .begins ∨ (R.hands i).word = .looks ∨ (R.hands i).word = .draws ∨ (R.hands i).word = .lowers) ∧ StepQ n B R i t H Q
theorem scDoor : FnScope ["_law_hall", "_law_one", "_law_time", "_law_other", "_law_ticket"] ["_law_hall", "_law_one", "_law_time"] (defScope sDoor) := ⟨rfl, rfl, rfl, by decide +kernel, rfl, by decide +kernel, by decide +kernel⟩
set_option maxHeartbeats 4000000 in
theorem ok_door {f : Addr} {fd : FuncData} (F : Fun K "_law_door_step" "_law_door_step" sDoor f fd) (b_max : mg "max" = none) (c_l_further : FnBy P w K mg base CX0 1 "_law_further" ["_law_one", "_law_word", "_law_last"] spFur) : FnOk P w K mg base CX0 2 f fd ["_law_hall", "_law_one", "_law_time"] spDoor := by
  refine F.ok scDoor (fun vs H Q E h => ?_) (fun cdv A outer s H vs Q E hr h => ?_)
  · obtain ⟨n, B, R, T, i, t, rfl, _⟩ := h
    rfl
  · obtain ⟨n, B, R, T, i, t, rfl, a, I, hi, hw, q⟩ := h
    have SC := scDoor
    have wo : (R.hands i).word ≠ .out := by rcases hw with e | e | e | e <;> rw [e] <;> decide
    obtain ⟨x, hd, hx⟩ := a.hand i hi
    obtain ⟨hc, O⟩ := I.cur i hi wo
    have hv := hx.vis wo
    have hvv := a.vis _ hc
    have hvs : x.vis.isSome = true := by rw [hv]; rfl
    have hos : H x.oa = some (.lst ((List.range (n - 1)).map fun p => .int (Rm.oth i p))) := by rw [hx.oa]; exact a.oth i hi
    have lo : ((List.range (n - 1)).map fun p => V.int (Rm.oth i p)).length = n - 1 := by simp
    have ned : x.oa ≠ B.dh i := a.dne hi hos
    have nev : B.va (R.cur i) ≠ B.dh i := a.dne hi hvv
    have neo : x.oa ≠ B.va (R.cur i) := by rw [hx.oa]; exact fun z => a.vao _ i hc hi z.symm
    refine ⟨_, (pss_cons (ps_if (pt_cmpR op_eq (pe_dget (hu_of hr) (pv 1) pe_str (by exact fun _ _ => rfl)) pe_str (nomark _)) (pss_cons (ps_dputN (hu_of hr) (pv 1) pe_str pe_bl rfl)
      (pss_cons (ps_dputN (hu_of hr) (pv 1) pe_str pe_int rfl)
      (pss_cons (ps_dputN (hu_of hr) (pv 1) pe_str pe_int rfl)
      (pss_cons (ps_expr (pe_fn c_l_further (hr.mono (by omega)) (by rfl) pass0 (pac (pv 1) (pac pe_str (pac pe_str pa_nil)))))
      (pss_one (ps_ret (pe_tupN (pac pe_str (pac pe_non (pac pe_non pa_nil)))))))))) pss_nil)
      (pss_cons (ps_if (pt_cmpR op_eq (pe_dget (hu_of hr) (pv 1) pe_str (by exact fun _ _ => rfl)) pe_str (nomark _)) (pss_cons (ps_set (i := 3) SC.nd (by rfl) (Or.inl (by rfl)) (pe_ix ix_seq (pe_dget (hu_of hr) (pv 1) pe_str (by exact fun _ _ => rfl)) (pe_dget (hu_of hr) (pv 1) pe_str (by exact fun _ _ => rfl)) (by exact fun _ _ => rfl)))
      (pss_cons (ps_set (i := 4) SC.nd (by rfl) (Or.inl (by rfl)) (pe_dget (hu_of hr) (pe_ix ix_seq (pe_dget (hu_of hr) (pv 0) pe_str (by exact fun _ _ => rfl)) (pv 3) (by exact fun _ _ => rfl)) pe_str (by exact fun _ _ => rfl)))
      (pss_cons (ps_dputN (hu_of hr) (pv 1) pe_str (pe_callB (call_max2 rfl) (by rfl) b_max PyProof.Rows.Boot.max (pac (pe_dget (hu_of hr) (pv 1) pe_str (by exact fun _ _ => rfl)) (pac (pv 4) pa_nil))) rfl)
      (pss_cons (ps_dputN (hu_of hr) (pv 1) pe_str (pe_op op_add (pe_dget (hu_of hr) (pv 1) pe_str (by exact fun _ _ => rfl)) pe_int) rfl)
      (pss_cons (ps_expr (pe_fn c_l_further (hr.mono (by omega)) (by rfl) pass0 (pac (pv 1) (pac pe_str (pac pe_str pa_nil)))))
      (pss_one (ps_ret (pe_tupN (pac pe_str (pac (pv 3) (pac (pv 4) pa_nil))))))))))) pss_nil)
      (pss_cons (ps_if (pt_cmpR op_eq (pe_dget (hu_of hr) (pv 1) pe_str (by exact fun _ _ => rfl)) pe_str (nomark _)) (pss_cons (ps_dputN (hu_of hr) (pv 1) pe_str (pe_op op_add (pe_dget (hu_of hr) (pv 1) pe_str (by exact fun _ _ => rfl)) pe_int) rfl)
      (pss_cons (ps_asg (pe_dget (hu_of hr) (pv 1) pe_str (by exact fun _ _ => rfl)) (pg_sub (pe_dget (hu_of hr) (pv 1) pe_str (by exact fun _ _ => rfl)) pe_int set_listN))
      (pss_cons (ps_dputN (hu_of hr) (pv 1) pe_str pe_str rfl)
      (pss_one (ps_ret (pe_tupN (pac pe_str (pac pe_non (pac (pe_dget (hu_of hr) (pv 1) pe_str (by exact fun _ _ => rfl)) pa_nil))))))))) pss_nil)
      (pss_cons (ps_dputN (hu_of hr) (pv 1) pe_str pe_bl rfl)
      (pss_cons (ps_asg (pv 2) (pg_sub (pe_dget (hu_of hr) (pv 1) pe_str (by exact fun _ _ => rfl)) pe_int set_listN))
      (pss_cons (ps_expr (pe_fn c_l_further (hr.mono (by omega)) (by rfl) pass0 (pac (pv 1) (pac pe_str (pac pe_str pa_nil)))))
      (pss_one (ps_ret (pe_tupN (pac pe_str (pac pe_non (pac pe_non pa_nil)))))))))))), ?_⟩
    walk_at "rd"
    rcases hw with e | e | e | e
    · have gw : valV (kvH x) kWhere = some (.str "begins") := by rw [g_where, hx.rel.word, e]; rfl
      refine ⟨_, dg (k := kWhere) hd gw, rfl, ?_⟩
      rw [if_pos rfl]
      refine ⟨_, kFlag, rfl, hd, kv_lt x, fun G1 p1 => ?_⟩
      rw [p_flag] at p1
      refine ⟨_, kMost, rfl, p1.at, kv_lt _, fun G2 p2 => ?_⟩
      rw [show V.int 0 = V.int ((0 : Nat) : Int) from rfl, p_most _ _ (by exact hvs)] at p2
      refine ⟨_, kSpot, rfl, p2.at, kv_lt _, fun G3 p3 => ?_⟩
      rw [show V.int 0 = V.int ((0 : Nat) : Int) from rfl, p_spot] at p3
      have p3 := (p1.two p2).two p3
      refine ⟨B.dh i, _, .looks, .draws, _, rfl, p3.at, (by rw [p3.ne ned]; exact hos), fun G4 p4 => ?_⟩
      rw [lo] at p4
      have p4 := p3.two p4
      refine ⟨by decide, fun p5 G5 n5 => ?_⟩
      have ch : ChgP (B.dh i) (B.va (R.cur i)) H G4 := ChgP.putD p4
      have a4 : AtPl n B (Rm.stepA n t R i) G4 := a.stepd I hi hx wo ch (by rw [p4.at]; simp only [Rm.stepX, hx.rel.word, e]) (by rw [p4.ne nev, e]; exact hvv)
      refine q _ _ (a4.mono n5.same) ((a.apChg hi hc ch).trans (a4.apSame n5.same)) ?_
      have et : Rm.toldS R.hands i = (.begins, none, none) := by simp only [Rm.toldS, e]
      rw [et]
      exact dv_toldV (a4.apNew n5).at
    · have gw : valV (kvH x) kWhere = some (.str "looks") := by rw [g_where, hx.rel.word, e]; rfl
      obtain ⟨es, em⟩ := hx.rel.lk e
      have hpl := I.inv.plcL i hi e
      have ho := Rm.oth_lt hi hpl
      obtain ⟨x2, hd2, hx2⟩ := a.hand _ ho
      refine ⟨_, dg (k := kWhere) hd gw, rfl, ?_⟩
      rw [if_neg (by decide +kernel)]
      refine ⟨_, dg (k := kWhere) hd gw, rfl, ?_⟩
      rw [if_pos rfl]
      refine ⟨_, dg (k := kOthers) hd (g_others _), _, dg (k := kSpot) hd (g_spot _), ?_⟩
      refine rix_l hos (v := .int (Rm.oth i (R.hands i).place)) (by rw [es]; exact atI_at (oth_get hpl)) ?_
      refine ⟨_, dg (k := kHands) a.hall (g_hands _ _), rix_l a.hands (atI_at (hand_get ho)) ⟨_, rfl, _, dg (k := kTicket) hd2 (g_ticket _), ?_⟩⟩
      rw [hx2.rel.ticket]
      refine ⟨_, dg (k := kMost) hd (g_most _ em), ?_⟩
      refine ⟨_, rfl, _, rfl, _, kMost, rfl, hd, kv_lt x, fun G1 p1 => ?_⟩
      rw [max_nat, p_most _ _ (by exact hvs)] at p1
      refine ⟨_, dg (k := kSpot) p1.at (g_spot _), _, rfl, _, kSpot, rfl, p1.at, kv_lt _, fun G2 p2 => ?_⟩
      rw [show ((x.spot : Nat) : Int) + 1 = ((x.spot + 1 : Nat) : Int) from rfl, p_spot] at p2
      have p2 := p1.two p2
      refine ⟨B.dh i, _, .looks, .draws, _, rfl, p2.at, (by rw [p2.ne ned]; exact hos), fun G4 p4 => ?_⟩
      rw [lo] at p4
      have p4 := p2.two p4
      refine ⟨by decide, fun p5 G5 n5 => ?_⟩
      have ch : ChgP (B.dh i) (B.va (R.cur i)) H G4 := ChgP.putD p4
      have a4 : AtPl n B (Rm.stepA n t R i) G4 := a.stepd I hi hx wo ch (by rw [p4.at]; simp only [Rm.stepX, hx.rel.word, e, em, es, Option.getD_some]) (by rw [p4.ne nev, e]; exact hvv)
      refine q _ _ (a4.mono n5.same) ((a.apChg hi hc ch).trans (a4.apSame n5.same)) ?_
      have et : Rm.toldS R.hands i = (.looks, some (Rm.oth i (R.hands i).place), some (R.hands (Rm.oth i (R.hands i).place)).ticket) := by simp only [Rm.toldS, e]
      rw [et]
      exact dv_toldV (a4.apNew n5).at
    · have gw : valV (kvH x) kWhere = some (.str "draws") := by rw [g_where, hx.rel.word, e]; rfl
      obtain ⟨es, em⟩ := hx.rel.dr e
      refine ⟨_, dg (k := kWhere) hd gw, rfl, ?_⟩
      rw [if_neg (by decide +kernel)]
      refine ⟨_, dg (k := kWhere) hd gw, rfl, ?_⟩
      rw [if_neg (by decide +kernel)]
      refine ⟨_, dg (k := kWhere) hd gw, rfl, ?_⟩
      rw [if_pos rfl]
      refine ⟨_, dg (k := kMost) hd (g_most _ em), _, rfl, _, kTicket, rfl, hd, kv_lt x, fun G1 p1 => ?_⟩
      rw [show (((R.hands i).great : Nat) : Int) + 1 = (((R.hands i).great + 1 : Nat) : Int) from rfl, p_ticket] at p1
      have hvv1 : G1 (B.va (R.cur i)) = _ := (p1.ne nev).trans hvv
      refine ⟨_, dg (k := kTicket) p1.at (g_ticket _), _, rfl, _, _, rfl, dg (k := kVisit) p1.at (g_visit _ hv), B.va (R.cur i), _, 3, 3, rfl, rfl, hvv1, rfl, fun G2 p2 => ?_⟩
      have hd2 : G2 (B.dh i) = _ := (p2.ne nev.symm).trans p1.at
      walk_at "rd"
      refine ⟨_, kWhere, rfl, hd2, kv_lt _, fun G3 p3 => ?_⟩
      rw [show V.str (Str.ofString "lowers") = V.str (wS .lowers) from rfl, p_where] at p3
      refine ⟨_, dg (k := kTicket) p3.at (g_ticket _), by decide, fun p5 G5 n5 => ?_⟩
      have ch : ChgP (B.dh i) (B.va (R.cur i)) H G3 := (ChgP.putD p1).trans ((ChgP.putV p2).trans (ChgP.putD p3))
      have a4 : AtPl n B (Rm.stepA n t R i) G3 := a.stepd I hi hx wo ch (by rw [p3.at]; simp only [Rm.stepX, hx.rel.word, e, em, Option.getD_some]) (by rw [p3.ne nev, p2.at, e]; rfl)
      refine q _ _ (a4.mono n5.same) ((a.apChg hi hc ch).trans (a4.apSame n5.same)) ?_
      have et : Rm.toldS R.hands i = (.draws, none, some ((R.hands i).great + 1)) := by simp only [Rm.toldS, e]
      rw [et]
      exact dv_toldV (a4.apNew n5).at
    · have gw : valV (kvH x) kWhere = some (.str "lowers") := by rw [g_where, hx.rel.word, e]; rfl
      refine ⟨_, dg (k := kWhere) hd gw, rfl, ?_⟩
      rw [if_neg (by decide +kernel)]
      refine ⟨_, dg (k := kWhere) hd gw, rfl, ?_⟩
      rw [if_neg (by decide +kernel)]
      refine ⟨_, dg (k := kWhere) hd gw, rfl, ?_⟩
      rw [if_neg (by decide +kernel)]
      refine ⟨_, kFlag, rfl, hd, kv_lt x, fun G1 p1 => ?_⟩
      rw [p_flag] at p1
      have hvv1 : G1 (B.va (R.cur i)) = _ := (p1.ne nev).trans hvv
      refine ⟨_, rfl, _, _, rfl, dg (k := kVisit) p1.at (g_visit _ hv), B.va (R.cur i), _, 2, 2, rfl, rfl, hvv1, rfl, fun G2 p2 => ?_⟩
      have hd2 : G2 (B.dh i) = _ := (p2.ne nev.symm).trans p1.at
      walk_at "rd"
      refine ⟨B.dh i, _, .asks, .enters, _, rfl, hd2, (by rw [p2.ne neo, p1.ne ned]; exact hos), fun G4 p4 => ?_⟩
      rw [lo] at p4
      refine ⟨by decide, fun p5 G5 n5 => ?_⟩
      have ch : ChgP (B.dh i) (B.va (R.cur i)) H G4 := (ChgP.putD p1).trans ((ChgP.putV p2).trans (ChgP.putD p4))
      have a4 : AtPl n B (Rm.stepA n t R i) G4 := a.stepd I hi hx wo ch (by rw [p4.at]; simp only [Rm.stepX, hx.rel.word, e]) (by rw [p4.ne nev, p2.at, e]; rfl)
      refine q _ _ (a4.mono n5.same) ((a.apChg hi hc ch).trans (a4.apSame n5.same)) ?_
      have et : Rm.toldS R.hands i = (.lowers, none, none) := by simp only [Rm.toldS, e]
      rw [et]
      exact dv_toldV (a4.apNew n5).at
/-! wait_step -/
abbrev sWait : Stmt := top 55
def spWait : Sp := fun vs H Q _ => ∃ (n : Nat) (B : Pl) (R : Rm.Hall) (T i t : Nat), vs = [.ref B.hh, .int i, .int t] ∧ AtPl n B R H ∧ Rm.HInv n T R ∧ i < n ∧ ((R.hands i).word = .asks ∨ (R.hands i).word = .sees ∨ (R.hands i).word = .enters) ∧ StepQ n B R i t H Q
theorem scWait : FnScope ["_law_hall", "_law_k", "_law_time", "_law_one", "_law_other", "_law_there", "_law_ticket", "_law_behind"] ["_law_hall", "_law_k", "_law_time"] (defScope sWait) := ⟨rfl, rfl, rfl, by decide +kernel, rfl, by decide +kernel, by decide +kernel⟩
set_option maxHeartbeats 4000000 in
theorem ok_wait {f : Addr} {fd : FuncData} (F : Fun K "_law_wait_step" "_law_wait_step" sWait f fd) (T : Blt mg) (c_l_further : FnBy P w K mg base CX0 1 "_law_further" ["_law_one", "_law_word", "_law_last"] spFur) : FnOk P w K mg base CX0 2 f fd ["_law_hall", "_law_k", "_law_time"] spWait := by
  refine F.ok scWait (fun vs H Q E h => ?_) (fun cdv A outer s H vs Q E hr h => ?_)
  · obtain ⟨n, B, R, T, i, t, rfl, _⟩ := h
    rfl
  · obtain ⟨n, B, R, T', i, t, rfl, a, I, hi, hw, q⟩ := h
    have SC := scWait
    have wo : (R.hands i).word ≠ .out := by rcases hw with e | e | e <;> rw [e] <;> decide
    obtain ⟨x, hd, hx⟩ := a.hand i hi
    obtain ⟨hc, O⟩ := I.cur i hi wo
    have hv := hx.vis wo
    have hvv := a.vis _ hc
    have hvs : x.vis.isSome = true := by rw [hv]; rfl
    have hos : H x.oa = some (.lst ((List.range (n - 1)).map fun p => .int (Rm.oth i p))) := by rw [hx.oa]; exact a.oth i hi
    have lo : ((List.range (n - 1)).map fun p => V.int (Rm.oth i p)).length = n - 1 := by simp
    have ned : x.oa ≠ B.dh i := a.dne hi hos
    have nev : B.va (R.cur i) ≠ B.dh i := a.dne hi hvv
    refine ⟨_, (pss_cons (ps_set (i := 3) SC.nd (by rfl) (Or.inl (by rfl)) (pe_ix ix_seq (pe_dget (hu_of hr) (pv 0) pe_str (by exact fun _ _ => rfl)) (pv 1) (by exact fun _ _ => rfl)))
      (pss_cons (ps_if (pt_cmpR op_eq (pe_dget (hu_of hr) (pv 3) pe_str (by exact fun _ _ => rfl)) pe_str (nomark _)) (pss_cons (ps_dputN (hu_of hr) (pv 3) pe_str pe_str rfl)
      (pss_cons (ps_asg (pv 2) (pg_sub (pe_dget (hu_of hr) (pv 3) pe_str (by exact fun _ _ => rfl)) pe_int set_listN))
      (pss_one (ps_ret (pe_tupN (pac pe_str (pac pe_non (pac (pe_dget (hu_of hr) (pv 3) pe_str (by exact fun _ _ => rfl)) pa_nil)))))))) pss_nil)
      (pss_cons (ps_set (i := 4) SC.nd (by rfl) (Or.inl (by rfl)) (pe_ix ix_seq (pe_dget (hu_of hr) (pv 3) pe_str (by exact fun _ _ => rfl)) (pe_dget (hu_of hr) (pv 3) pe_str (by exact fun _ _ => rfl)) (by exact fun _ _ => rfl)))
      (pss_cons (ps_set (i := 5) SC.nd (by rfl) (Or.inl (by rfl)) (pe_ix ix_seq (pe_dget (hu_of hr) (pv 0) pe_str (by exact fun _ _ => rfl)) (pv 4) (by exact fun _ _ => rfl)))
      (pss_cons (ps_if (pt_cmpR op_eq (pe_dget (hu_of hr) (pv 3) pe_str (by exact fun _ _ => rfl)) pe_str (nomark _)) (pss_cons (ps_if (pt_not (pt_val (pe_dget (hu_of hr) (pv 5) pe_str (by exact fun _ _ => rfl)))) (pss_one (ps_dputN (hu_of hr) (pv 3) pe_str pe_str rfl)) pss_nil)
      (pss_one (ps_ret (pe_tupN (pac pe_str (pac (pv 4) (pac (pe_callTy call_int1 (by rfl) T.b_int PyProof.Rows.Boot.int (pac (pe_dget (hu_of hr) (pv 5) pe_str (by exact fun _ _ => rfl)) pa_nil)) pa_nil))))))) pss_nil)
      (pss_cons (ps_set (i := 6) SC.nd (by rfl) (Or.inl (by rfl)) (pe_dget (hu_of hr) (pv 5) pe_str (by exact fun _ _ => rfl)))
      (pss_cutE (ps_set (i := 7) SC.nd (by rfl) (Or.inl (by rfl)) (pe_or (pe_cmpR op_gt (pv 6) (pe_dget (hu_of hr) (pv 3) pe_str (by exact fun _ _ => rfl)) (nomark _)) (pe_one (pe_and (pe_cmpR op_eq (pv 6) (pe_dget (hu_of hr) (pv 3) pe_str (by exact fun _ _ => rfl)) (nomark _)) (pe_one (pe_cmpR op_gt (pv 4) (pv 1) (nomark _)))))))
      (pss_cutE (ps_if (pw_or (pt_cmpR op_eq (pv 6) pe_int (nomark _)) (pw_or1 (pt_val (pv 7)))).pt (pss_cons (ps_dputN (hu_of hr) (pv 3) pe_str (pe_op op_add (pe_dget (hu_of hr) (pv 3) pe_str (by exact fun _ _ => rfl)) pe_int) rfl)
      (pss_one (ps_expr (pe_fn c_l_further (hr.mono (by omega)) (by rfl) pass0 (pac (pv 3) (pac pe_str (pac pe_str pa_nil))))))) pss_nil)
      (pss_one (ps_ret (pe_tupN (pac pe_str (pac (pv 4) (pac (pv 6) pa_nil)))))))))))))), ?_⟩
    walk_at "rd"
    refine ⟨_, dg (k := kHands) a.hall (g_hands _ _), rix_l a.hands (atI_at (hand_get hi)) ?_⟩
    walk_at "rd"
    rcases hw with e | e | e
    · have gw : valV (kvH x) kWhere = some (.str "asks") := by rw [g_where, hx.rel.word, e]; rfl
      have es := hx.rel.as_ e
      have hpl := I.inv.plcA i hi e
      have ho := Rm.oth_lt hi hpl
      obtain ⟨x2, hd2, hx2⟩ := a.hand _ ho
      refine ⟨_, dg (k := kWhere) hd gw, rfl, ?_⟩
      rw [if_neg (by decide +kernel)]
      refine ⟨_, dg (k := kOthers) hd (g_others _), _, dg (k := kSpot) hd (g_spot _), ?_⟩
      refine rix_l hos (v := .int (Rm.oth i (R.hands i).place)) (by rw [es]; exact atI_at (oth_get hpl)) ?_
      refine ⟨_, dg (k := kHands) a.hall (g_hands _ _), rix_l a.hands (atI_at (hand_get ho)) ?_⟩
      walk_at "rd"
      refine ⟨_, dg (k := kWhere) hd gw, rfl, ?_⟩
      rw [if_pos rfl]
      refine ⟨_, dg (k := kFlag) hd2 (g_flag _), ?_⟩
      walk_at "rd"
      have et : Rm.toldS R.hands i = (.asks, some (Rm.oth i (R.hands i).place), some (if (R.hands (Rm.oth i (R.hands i).place)).flag then 1 else 0)) := by simp only [Rm.toldS, e]
      have rf := hx2.rel.flag
      have en : (if x2.flag = true then (1 : Int) else 0) = ((if (R.hands (Rm.oth i (R.hands i).place)).flag then 1 else 0 : Nat) : Int) := by rw [rf]; split <;> rfl
      have ned2 : B.dh (Rm.oth i (R.hands i).place) ≠ B.dh i := fun z => Rm.oth_ne i _ (a.dinj _ _ ho hi z)
      by_cases fl : (R.hands (Rm.oth i (R.hands i).place)).flag = true
      · rw [if_neg (by rw [rf, fl]; simp)]
        refine ⟨_, dg (k := kFlag) hd2 (g_flag _), .inr ⟨_, rfl, by decide, fun p5 G5 n5 => ?_⟩⟩
        rw [en] at n5
        have ch : ChgP (B.dh i) (B.va (R.cur i)) H H := ChgP.refl _ _ _
        have a4 : AtPl n B (Rm.stepA n t R i) H := a.stepd I hi hx wo ch (by rw [hd]; simp only [Rm.stepX, hx.rel.word, e, es, fl, if_true]) (by rw [e]; exact hvv)
        refine q _ _ (a4.mono n5.same) ((a.apChg hi hc ch).trans (a4.apSame n5.same)) ?_
        rw [et]
        exact dv_toldV (a4.apNew n5).at
      · rw [if_pos (by rw [rf]; simpa using fl)]
        refine ⟨_, kWhere, rfl, hd, kv_lt x, fun G1 p1 => ?_⟩
        rw [show V.str (Str.ofString "sees") = V.str (wS .sees) from rfl, p_where] at p1
        have hd2' : G1 (B.dh (Rm.oth i (R.hands i).place)) = _ := (p1.ne ned2).trans hd2
        refine ⟨_, dg (k := kFlag) hd2' (g_flag _), .inr ⟨_, rfl, by decide, fun p5 G5 n5 => ?_⟩⟩
        rw [en] at n5
        have ch : ChgP (B.dh i) (B.va (R.cur i)) H G1 := ChgP.putD p1
        have a4 : AtPl n B (Rm.stepA n t R i) G1 := a.stepd I hi hx wo ch (by rw [p1.at]; simp only [Rm.stepX, hx.rel.word, e, es, fl, Bool.false_eq_true, if_false]) (by rw [p1.ne nev, e]; exact hvv)
        refine q _ _ (a4.mono n5.same) ((a.apChg hi hc ch).trans (a4.apSame n5.same)) ?_
        rw [et]
        exact dv_toldV (a4.apNew n5).at
    · have gw : valV (kvH x) kWhere = some (.str "sees") := by rw [g_where, hx.rel.word, e]; rfl
      have es := hx.rel.se e
      have hpl := I.inv.plcS i hi e
      have ho := Rm.oth_lt hi hpl
      obtain ⟨x2, hd2, hx2⟩ := a.hand _ ho
      refine ⟨_, dg (k := kWhere) hd gw, rfl, ?_⟩
      rw [if_neg (by decide +kernel)]
      refine ⟨_, dg (k := kOthers) hd (g_others _), _, dg (k := kSpot) hd (g_spot _), ?_⟩
      refine rix_l hos (v := .int (Rm.oth i (R.hands i).place)) (by rw [es]; exact atI_at (oth_get hpl)) ?_
      refine ⟨_, dg (k := kHands) a.hall (g_hands _ _), rix_l a.hands (atI_at (hand_get ho)) ?_⟩
      walk_at "rd"
      refine ⟨_, dg (k := kWhere) hd gw, rfl, ?_⟩
      rw [if_neg (by decide +kernel)]
      refine ⟨_, dg (k := kTicket) hd2 (g_ticket _), ?_⟩
      rw [hx2.rel.ticket]
      walk_at "rd"
      have et : Rm.toldS R.hands i = (.sees, some (Rm.oth i (R.hands i).place), some (R.hands (Rm.oth i (R.hands i).place)).ticket) := by simp only [Rm.toldS, e]
      refine ⟨fun σ H1 => H1 = H ∧ σ = [some (.ref B.hh), some (.int i), some (.int t), some (.ref (B.dh i)), some (.int (Rm.oth i (R.hands i).place)), some (.ref (B.dh (Rm.oth i (R.hands i).place))), some (.int (R.hands (Rm.oth i (R.hands i).place)).ticket), some (.bl (decide ((R.hands i).ticket < (R.hands (Rm.oth i (R.hands i).place)).ticket) || (decide ((R.hands (Rm.oth i (R.hands i).place)).ticket = (R.hands i).ticket) && decide (i < Rm.oth i (R.hands i).place))))], ?_, ?_⟩
      · walk_at "rd"
        refine ⟨_, dg (k := kTicket) hd (g_ticket _), _, rfl, ?_⟩
        rw [hx.rel.ticket]
        by_cases z1 : (R.hands i).ticket < (R.hands (Rm.oth i (R.hands i).place)).ticket
        · rw [if_pos (by omega)]
          simp [z1]
        · rw [if_neg (by omega)]
          refine ⟨_, dg (k := kTicket) hd (g_ticket _), rfl, ?_⟩
          rw [hx.rel.ticket]
          by_cases z2 : (R.hands (Rm.oth i (R.hands i).place)).ticket = (R.hands i).ticket
          · rw [if_pos (by rw [z2]), z2]
            simp
          · rw [if_neg (by intro z; have := V.int.inj z; omega)]
            simp [z1, z2]
      · rintro σ H1 ⟨rfl, rfl⟩
        have on := Rm.oth_ne i (R.hands i).place
        generalize hb : (decide ((R.hands i).ticket < (R.hands (Rm.oth i (R.hands i).place)).ticket) || (decide ((R.hands (Rm.oth i (R.hands i).place)).ticket = (R.hands i).ticket) && decide (i < Rm.oth i (R.hands i).place))) = bb
        refine ⟨fun σ G => σ = [some (.ref B.hh), some (.int i), some (.int t), some (.ref (B.dh i)), some (.int (Rm.oth i (R.hands i).place)), some (.ref (B.dh (Rm.oth i (R.hands i).place))), some (.int (R.hands (Rm.oth i (R.hands i).place)).ticket), some (.bl bb)] ∧ AtPl n B (Rm.stepA n t R i) G ∧ Same (apO (B.Ow n R.m) H1) (apO (B.Ow n R.m) G), ?_, ?_⟩
        · walk_at "rd"
          have hf : Rm.first (R.hands (Rm.oth i (R.hands i).place)).ticket (Rm.oth i (R.hands i).place) (R.hands i).ticket i = !(decide ((R.hands (Rm.oth i (R.hands i).place)).ticket = 0) || bb) := by
            rw [← hb]
            unfold Rm.first
            rw [Bool.eq_iff_iff]
            simp only [decide_eq_true_eq, Bool.not_eq_true', Bool.or_eq_false_iff, decide_eq_false_iff_not, Bool.and_eq_false_iff]
            omega
          have go : Rm.first (R.hands (Rm.oth i (R.hands i).place)).ticket (Rm.oth i (R.hands i).place) (R.hands i).ticket i = false → ∃ x, DGet H1 (B.dh i) (V.str (Str.ofString "spot")) (some x) ∧ ∃ i_1, x = V.int i_1 ∧ ∃ x x_1, V.str (Str.ofString "spot") = kV x_1 ∧ H1 (B.dh i) = some (HO.dK x) ∧ x.length < sizeLine ∧ ∀ (G : Hp), Put H1 (B.dh i) (HO.dK (putK x x_1 (V.int (i_1 + 1)))) G →
              spFur [V.ref (B.dh i), V.str (Str.ofString "asks"), V.str (Str.ofString "enters")] G (fun x H1_1 => AtPl n B (Rm.stepA n t R i) H1_1 ∧ Same (apO (B.Ow n R.m) H1) (apO (B.Ow n R.m) H1_1)) E0 := fun ff => by
            refine ⟨_, dg (k := kSpot) hd (g_spot _), _, rfl, _, kSpot, rfl, hd, kv_lt x, fun G1 p1 => ?_⟩
            rw [show ((x.spot : Nat) : Int) + 1 = ((x.spot + 1 : Nat) : Int) from rfl, p_spot] at p1
            refine ⟨B.dh i, _, .asks, .enters, _, rfl, p1.at, (by rw [p1.ne ned]; exact hos), fun G4 p4 => ?_⟩
            rw [lo] at p4
            have p4 := p1.two p4
            have ch : ChgP (B.dh i) (B.va (R.cur i)) H1 G4 := ChgP.putD p4
            refine ⟨a.stepd I hi hx wo ch (by rw [p4.at]; simp only [Rm.stepX, hx.rel.word, hx.rel.ticket, e, es, ff, Bool.false_eq_true, if_false]) (by rw [p4.ne nev, e]; exact hvv), a.apChg hi hc ch⟩
          by_cases z0 : (R.hands (Rm.oth i (R.hands i).place)).ticket = 0
          · rw [if_pos (by omega), if_pos trivial]
            exact go (by rw [hf, z0]; simp)
          · rw [if_neg (by omega)]
            cases bb with
            | true =>
              rw [if_pos rfl]
              exact go (by rw [hf]; simp)
            | false =>
              rw [if_neg (by simp)]
              have ch : ChgP (B.dh i) (B.va (R.cur i)) H1 H1 := ChgP.refl _ _ _
              have ff : Rm.first (R.hands (Rm.oth i (R.hands i).place)).ticket (Rm.oth i (R.hands i).place) (R.hands i).ticket i = true := by rw [hf]; simp [z0]
              exact ⟨a.stepd I hi hx wo ch (by rw [hd]; simp only [Rm.stepX, hx.rel.word, hx.rel.ticket, e, es, ff, if_true]) (by rw [e]; exact hvv), Same.refl _⟩
        · rintro σ G ⟨rfl, a4, sa⟩
          walk_at "rd"
          refine ⟨by decide, fun p5 G5 n5 => q _ _ (a4.mono n5.same) (sa.trans (a4.apSame n5.same)) ?_⟩
          rw [et]
          exact dv_toldV (a4.apNew n5).at
    · have gw : valV (kvH x) kWhere = some (.str "enters") := by rw [g_where, hx.rel.word, e]; rfl
      refine ⟨_, dg (k := kWhere) hd gw, rfl, ?_⟩
      rw [if_pos rfl]
      refine ⟨_, kWhere, rfl, hd, kv_lt x, fun G1 p1 => ?_⟩
      rw [show V.str (Str.ofString "within") = V.str (wS .within) from rfl, p_where] at p1
      have hvv1 : G1 (B.va (R.cur i)) = _ := (p1.ne nev).trans hvv
      refine ⟨_, rfl, _, _, rfl, dg (k := kVisit) p1.at (g_visit _ hv), B.va (R.cur i), _, 4, 4, rfl, rfl, hvv1, rfl, fun G2 p2 => ?_⟩
      have hd2 : G2 (B.dh i) = _ := (p2.ne nev.symm).trans p1.at
      walk_at "rd"
      refine ⟨_, dg (k := kTicket) hd2 (g_ticket _), by decide, fun p5 G5 n5 => ?_⟩
      have ch : ChgP (B.dh i) (B.va (R.cur i)) H G2 := (ChgP.putD p1).trans (ChgP.putV p2)
      have a4 : AtPl n B (Rm.stepA n t R i) G2 := a.stepd I hi hx wo ch (by rw [hd2]; simp only [Rm.stepX, hx.rel.word, e]) (by rw [p2.at, e]; rfl)
      refine q _ _ (a4.mono n5.same) ((a.apChg hi hc ch).trans (a4.apSame n5.same)) ?_
      have et : Rm.toldS R.hands i = (.enters, none, some (R.hands i).ticket) := by simp only [Rm.toldS, e]
      rw [et, ← hx.rel.ticket]
      exact dv_toldV (a4.apNew n5).at
end
def isDoor : Rm.W → Bool | .begins | .looks | .draws | .lowers => true | _ => false
theorem in_door (x : Rm.W) : inV (.str (wS x)) [.str "begins", .str "looks", .str "draws", .str "lowers"] = isDoor x := by cases x <;> decide +kernel
theorem StepQ.mono {n : Nat} {B : Pl} {R : Rm.Hall} {i t : Nat} {H G : Hp} {Q : VK} (a : AtPl n B R H) (q : StepQ n B R i t H Q) (s : Same H G) : StepQ n B R i t G Q := fun v F af sf df => q v F af ((a.apSame s).trans sf) df
def Pl.In (B : Pl) (n m : Nat) (c : Addr) : Prop := c = B.hh ∨ c = B.lh ∨ (∃ i, i < n ∧ c = B.oh i) ∨ B.Ow n m c
theorem AtPl.inFresh {n : Nat} {B : Pl} {R : Rm.Hall} {H : Hp} (a : AtPl n B R H) {c p : Addr} (ic : B.In n R.m c) (h : H p = none) : c ≠ p := fun z => by
  subst z
  rcases ic with rfl | rfl | ⟨i, hi, rfl⟩ | o
  · rw [a.hall] at h; cases h
  · rw [a.hands] at h; cases h
  · rw [a.oth i hi] at h; cases h
  · exact a.fresh h o
theorem AtPl.keep {n : Nat} {B : Pl} {R : Rm.Hall} {H G : Hp} (a : AtPl n B R H) (s : ∀ c u, B.In n R.m c → H c = some u → G c = some u) : AtPl n B R G :=
  ⟨s _ _ (.inl rfl) a.hall, s _ _ (.inr (.inl rfl)) a.hands, s _ _ (.inr (.inr (.inr (.inl rfl)))) a.visits, fun i hi => by obtain ⟨x, h, r⟩ := a.hand i hi; exact ⟨x, s _ _ (.inr (.inr (.inr (.inr (.inl ⟨i, hi, rfl⟩))))) h, r⟩,
    fun i hi => s _ _ (.inr (.inr (.inl ⟨i, hi, rfl⟩))) (a.oth i hi), fun k hk => s _ _ (.inr (.inr (.inr (.inr (.inr ⟨k, hk, rfl⟩))))) (a.vis k hk), a.dinj, a.vinj, a.dhh, a.lvh, a.lvo, a.vav, a.vah, a.vao⟩
section
variable {P : Program} {w : World} {K : PySem.W.Frag} {mg : Str → Option Value} {base : Heap}
/-! one_step -/
abbrev sOne : Stmt := top 56
def spOne : Sp := fun vs H Q _ => ∃ (n : Nat) (B : Pl) (R : Rm.Hall) (T i t : Nat), vs = [.ref B.hh, .int i, .int t] ∧ AtPl n B R H ∧ Rm.HInv n T R ∧ i < n ∧ (R.hands i).word ≠ .out ∧ (R.hands i).word ≠ .within ∧ StepQ n B R i t H Q
theorem scOne : FnScope ["_law_hall", "_law_k", "_law_time", "_law_one"] ["_law_hall", "_law_k", "_law_time"] (defScope sOne) := ⟨rfl, rfl, rfl, by decide +kernel, rfl, by decide +kernel, by decide +kernel⟩
theorem ok_one {f : Addr} {fd : FuncData} (F : Fun K "_law_one_step" "_law_one_step" sOne f fd) (c_l_door_step : FnBy P w K mg base CX0 2 "_law_door_step" ["_law_hall", "_law_one", "_law_time"] spDoor) (c_l_wait_step : FnBy P w K mg base CX0 2 "_law_wait_step" ["_law_hall", "_law_k", "_law_time"] spWait) :
    FnOk P w K mg base CX0 3 f fd ["_law_hall", "_law_k", "_law_time"] spOne := by
  refine F.ok scOne (fun vs H Q E h => ?_) (fun cdv A outer s H vs Q E hr h => ?_)
  · obtain ⟨n, B, R, T, i, t, rfl, _⟩ := h
    rfl
  · obtain ⟨n, B, R, T, i, t, rfl, a, I, hi, wo, wi, q⟩ := h
    have SC := scOne
    obtain ⟨x, hd, hx⟩ := a.hand i hi
    refine ⟨_, (pss_cons (ps_set (i := 3) SC.nd (by rfl) (Or.inl (by rfl)) (pe_ix ix_seq (pe_dget (hu_of hr) (pv 0) pe_str (by exact fun _ _ => rfl)) (pv 1) (by exact fun _ _ => rfl)))
      (pss_cons (ps_if (pt_cmpR op_in_seq (pe_dget (hu_of hr) (pv 3) pe_str (by exact fun _ _ => rfl)) (pe_lstN (pac pe_str (pac pe_str (pac pe_str (pac pe_str pa_nil))))) (by rfl)) (pss_one (ps_ret (pe_fn c_l_door_step (hr.mono (by omega)) (by rfl) pass0 (pac (pv 0) (pac (pv 3) (pac (pv 2) pa_nil)))))) pss_nil)
      (pss_one (ps_ret (pe_fn c_l_wait_step (hr.mono (by omega)) (by rfl) pass0 (pac (pv 0) (pac (pv 1) (pac (pv 2) pa_nil)))))))), ?_⟩
    walk_at "rd"
    refine ⟨_, dg (k := kHands) a.hall (g_hands _ _), rix_l a.hands (atI_at (hand_get hi)) ?_⟩
    walk_at "rd"
    refine ⟨_, dg (k := kWhere) hd (g_where _), by decide, fun p G np => ⟨p, _, rfl, .inl (.of np.at), rfl, rfl, ?_⟩⟩
    have a' := a.mono np.same
    have q' := q.mono a np.same
    simp only [Bool.false_eq_true, if_false, in_door, hx.rel.word]
    walk_at "rd"
    cases e : (R.hands i).word
    case out => exact absurd e wo
    case within => exact absurd e wi
    case begins => rw [if_pos (show isDoor .begins = true from rfl)]; exact ⟨n, B, R, T, i, t, rfl, a', I, hi, .inl e, q'⟩
    case looks => rw [if_pos (show isDoor .looks = true from rfl)]; exact ⟨n, B, R, T, i, t, rfl, a', I, hi, .inr (.inl e), q'⟩
    case draws => rw [if_pos (show isDoor .draws = true from rfl)]; exact ⟨n, B, R, T, i, t, rfl, a', I, hi, .inr (.inr (.inl e)), q'⟩
    case lowers => rw [if_pos (show isDoor .lowers = true from rfl)]; exact ⟨n, B, R, T, i, t, rfl, a', I, hi, .inr (.inr (.inr e)), q'⟩
    case asks => rw [if_neg (by decide)]; exact ⟨n, B, R, T, i, t, rfl, a', I, hi, .inl e, q'⟩
    case sees => rw [if_neg (by decide)]; exact ⟨n, B, R, T, i, t, rfl, a', I, hi, .inr (.inl e), q'⟩
    case enters => rw [if_neg (by decide)]; exact ⟨n, B, R, T, i, t, rfl, a', I, hi, .inr (.inr e), q'⟩
/-! due_round -/
theorem round_m {n t : Nat} {R : Rm.Hall} (I : Rm.HInv n t R) (k : Nat) (hk : k ≤ n) : (Rm.roundA n t R k).1.m = R.m := (Rm.round_evs I (Rm.Kept.refl R) k hk).1.m
abbrev sDueR : Stmt := top 58
def spDueR : Sp := fun vs H Q _ => ∃ (n : Nat) (B : Pl) (R : Rm.Hall) (t : Nat), vs = [.ref B.hh, .int t] ∧ AtPl n B R H ∧ Rm.HInv n t R ∧ n ≤ 30 ∧ ∀ v G, AtPl n B (Rm.roundA n t R n).1 G → Same (apO (B.Ow n R.m) H) (apO (B.Ow n R.m) G) → DV (apO (B.Ow n R.m) G) v (ansD (.went (Rm.roundA n t R n).2)) → Q v G
theorem scDueR : FnScope ["_law_hall", "_law_time", "_law_went", "_law_k", "_law_one", "_law_step"] ["_law_hall", "_law_time"] (defScope sDueR) := ⟨rfl, rfl, rfl, by decide +kernel, rfl, by decide +kernel, by decide +kernel⟩
set_option maxHeartbeats 4000000 in
theorem ok_dueR {f : Addr} {fd : FuncData} (F : Fun K "_law_due_round" "_law_due_round" sDueR f fd) (T : Blt mg) (c_l_gone_out : FnBy P w K mg base CX0 1 "_law_gone_out" ["_law_one", "_law_time"] spGone) (c_l_one_step : FnBy P w K mg base CX0 3 "_law_one_step" ["_law_hall", "_law_k", "_law_time"] spOne) :
    FnOk P w K mg base CX0 4 f fd ["_law_hall", "_law_time"] spDueR := by
  refine F.ok scDueR (fun vs H Q E h => ?_) (fun cdv A outer s H vs Q E hr h => ?_)
  · obtain ⟨n, B, R, t, rfl, _⟩ := h
    rfl
  · obtain ⟨n, B, R, t, rfl, a, I, hn, q⟩ := h
    have SC := scDueR
    refine ⟨_, (pss_cons (ps_set (i := 2) SC.nd (by rfl) (Or.inl (by rfl)) (pe_lstN pa_nil))
      (pss_cons (ps_for PassesOwn.never rfl (pi_range1 (by rfl) T.b_range (pac (pe_callB call_len_seq (by rfl) T.b_len PyProof.Rows.Boot.len (pac (pe_dget (hu_of hr) (pv 0) pe_str (by exact fun _ _ => rfl)) pa_nil)) pa_nil)) (pg_name (i := 3) SC.nd (by rfl) (Or.inl (by rfl))) (pss_cons (ps_set (i := 4) SC.nd (by rfl) (Or.inl (by rfl)) (pe_ix ix_seq (pe_dget (hu_of hr) (pv 0) pe_str (by exact fun _ _ => rfl)) (pv 3) (by exact fun _ _ => rfl)))
      (pss_one (ps_if (pt_cmpR op_eq (pe_dget (hu_of hr) (pv 4) pe_str (by exact fun _ _ => rfl)) pe_str (nomark _)) (pss_one (ps_expr (pe_fn c_l_gone_out (hr.mono (by omega)) (by rfl) pass0 (pac (pv 4) (pac (pv 1) pa_nil))))) (pss_one (ps_if (pt_cmpR op_ne (pe_dget (hu_of hr) (pv 4) pe_str (by exact fun _ _ => rfl)) pe_str (nomark _)) (pss_cons (ps_set (i := 5) SC.nd (by rfl) (Or.inl (by rfl)) (pe_fn c_l_one_step (hr.mono (by omega)) (by rfl) pass0 (pac (pv 0) (pac (pv 3) (pac (pv 1) pa_nil)))))
      (pss_one (ps_if (pt_cmpR op_eq (pe_ix ix_seq (pv 5) pe_int (by exact fun _ _ => rfl)) pe_str (nomark _)) (pss_one (ps_expr (pe_bm PySem.F.plainAttrs_list PySem.F.slot_list_append PySem.F.type_list_append mt_appendN (pv 2) (pac (pv 3) pa_nil)))) pss_nil))) pss_nil))))))
      (pss_one (ps_ret (pv 2))))), ?_⟩
    walk_at "rd"
    refine ⟨Nat.zero_le _, fun l G0 n0 => ?_⟩
    have hl : ∀ c, B.In n R.m c → c ≠ l := fun c ic => a.inFresh ic n0.free
    have a0 := a.mono n0.same
    have s0 := a.apSame n0.same
    have f0 : ¬ B.Ow n R.m l := a.fresh n0.free
    have fl : apO (B.Ow n R.m) H l = none := (a.apNew n0).free
    refine rfor_range (fun R R' hR ⟨v, e, a, v', e2, g, p, e3, x, hs, h⟩ => ⟨v, e, a, v', e2, g, p, e3, x, hs, hR _ _ h⟩) ⟨_, rfl, _, _, rfl, dg (k := kHands) a0.hall (g_hands _ _), _, rfl, _, .inl (.of a0.hands), _, rfl, (by rw [List.length_map, List.length_range]; omega), (by rw [List.length_map, List.length_range]; omega), fun k σ H2 => ∃ x3 x4 x5, σ = [some (.ref B.hh), some (.int t), some (.ref l), x3, x4, x5] ∧ AtPl n B (Rm.roundA n t R k).1 H2 ∧ Same (apO (B.Ow n R.m) H) (apO (B.Ow n R.m) H2) ∧ H2 l = some (.lst ((Rm.roundA n t R k).2.map fun j : Nat => V.int j)), ⟨none, none, none, rfl, a0, s0, n0.at⟩, ?_, ?_⟩
    · rintro k σ H2 hk ⟨x3, x4, x5, rfl, a2, s2, el⟩
      have hk : k < n := by simpa using hk
      obtain ⟨I2, _, _, hin, _⟩ := Rm.roundA_inv I k (by omega)
      have em := round_m I k (by omega)
      have wl : (Rm.roundA n t R k).2.length ≤ k := by rw [hin]; exact Nat.le_trans (List.length_filter_le _ _) (by simp)
      have er : Rm.roundA n t R (k + 1) = ((Rm.roundOne n t (Rm.roundA n t R k).1 k).1, (Rm.roundA n t R k).2 ++ (Rm.roundOne n t (Rm.roundA n t R k).1 k).2) := rfl
      walk_at "rd"
      simp only [Int.zero_add, er]
      clear er hin
      generalize Rm.roundA n t R k = RK at a2 I2 em el wl
      obtain ⟨x, hd, hx⟩ := a2.hand k hk
      refine ⟨_, dg (k := kHands) a2.hall (g_hands _ _), rix_l a2.hands (atI_at (hand_get hk)) ?_⟩
      walk_at "rd"
      refine ⟨_, dg (k := kWhere) hd (g_where _), rfl, ?_⟩
      rw [hx.rel.word]
      by_cases w1 : (RK.1.hands k).word = .within
      · rw [if_pos (by rw [w1]; rfl)]
        refine ⟨n, B, RK.1, t + 1, k, t, rfl, a2, I2, hk, (by rw [w1]; decide), fun G aG sG => ?_⟩
        rw [em] at sG
        have e1 : Rm.roundOne n t RK.1 k = (Rm.leaveA t RK.1 k, []) := by unfold Rm.roundOne; rw [if_pos w1]
        rw [e1, List.append_nil]
        exact ⟨aG, s2.trans sG, (apO_of (sG _ _ (apO_at el f0))).1⟩
      · rw [if_neg (fun z => w1 ((wS_within _).mp (V.str.inj z)))]
        walk_at "rd"
        refine ⟨_, dg (k := kWhere) hd (g_where _), rfl, ?_⟩
        rw [hx.rel.word]
        by_cases w2 : (RK.1.hands k).word = .out
        · rw [if_neg (by rw [w2]; decide +kernel)]
          have e1 : Rm.roundOne n t RK.1 k = (RK.1, []) := by unfold Rm.roundOne; rw [if_neg w1, if_pos w2]
          rw [e1, List.append_nil]
          exact ⟨a2, s2, el⟩
        · rw [if_pos (by
            have : wS (RK.1.hands k).word ≠ ("out" : Str) := fun z => w2 ((wS_out _).mp z)
            simpa using this)]
          refine ⟨n, B, RK.1, t + 1, k, t, rfl, a2, I2, hk, w2, w1, fun v G aG sG dG => ?_⟩
          rw [em] at sG dG
          obtain ⟨b, rfl, hb⟩ := dv_told dG
          have e1 : Rm.roundOne n t RK.1 k = (Rm.stepA n t RK.1 k, if (RK.1.hands k).word = .enters then [k] else []) := by unfold Rm.roundOne; rw [if_neg w1, if_neg w2]
          rw [e1]
          have elG := (apO_of (sG _ _ (apO_at el f0))).1
          have hbG := (apO_of hb).1
          walk_at "rd"
          refine rix_t hbG (show _ = some (.str (wS (Rm.toldS RK.1.hands k).1)) from rfl) ⟨rfl, ?_⟩
          rw [Rm.told_word]
          by_cases w3 : (RK.1.hands k).word = .enters
          · rw [if_pos (by rw [w3]; rfl)]
            refine ⟨.inl ⟨rfl, _, .of elG⟩, l, _, _, rfl, rfl, elG, lt_size (by rw [List.length_map]; omega), fun G' pp => ⟨aG.keep fun c u ic e => ?_, ?_, ?_⟩⟩
            · rw [pp.ne (hl c (by rw [← em]; exact ic))]; exact e
            · exact fun c u e => apO_at (by rw [pp.ne fun z => by rw [z, fl] at e; cases e]; exact (apO_of (s2.trans sG _ _ e)).1) (apO_of e).2
            · rw [pp.at, if_pos w3, List.map_append]
              rfl
          · rw [if_neg (fun z => w3 ((wS_enters _).mp (V.str.inj z)))]
            refine ⟨aG, s2.trans sG, ?_⟩
            rw [if_neg w3, List.append_nil]
            exact elG
    · rintro σ H2 ⟨x3, x4, x5, rfl, a2, s2, el⟩
      walk_at "rd"
      have e0 : ((((List.range n).map fun i => V.ref (B.dh i)).length : Nat) : Int).toNat = n := by simp
      rw [e0] at a2 el
      refine q _ _ a2 s2 (dv_lst (apO_at el f0) ?_)
      generalize (Rm.roundA n t R n).2 = ws
      induction ws with
      | nil => exact DVs.nil
      | cons y ys ih => exact DVs.cons dv_int ih
end
/-- a deed of a hand that is there -/
def Dd.inn (n : Nat) : Dd → Prop
  | .want h => 0 ≤ h ∧ h < n | .go h _ => 0 ≤ h ∧ h < n | .leave h => 0 ≤ h ∧ h < n | .round => True
theorem mod_inn {n : Nat} (h0 : 0 < n) (x : Int) : 0 ≤ x % (n : Int) ∧ x % (n : Int) < n := ⟨Int.emod_nonneg _ (by omega), Int.emod_lt_of_pos _ (by omega)⟩
theorem deedOf_inn {n : Nat} (h0 : 0 < n) (c : Int) : (deedOf c n).inn n := by
  unfold deedOf
  split
  · exact mod_inn h0 _
  · split
    · exact mod_inn h0 _
    · split
      · trivial
      · exact mod_inn h0 _
theorem drawn_inn (ns : List Int) {n : Nat} (h0 : 0 < n) : ∀ d ∈ drawnOf ns n, d.inn n := by
  intro d hd
  unfold drawnOf at hd
  rcases List.mem_append.mp hd with hd | hd
  · unfold preOf at hd
    cases ns with
    | nil => cases hd
    | cons c l =>
      simp only [] at hd
      split at hd
      · rcases List.mem_append.mp hd with hd | hd
        · obtain ⟨k, hk, rfl⟩ := List.mem_map.mp hd
          have := List.mem_range.mp hk
          exact ⟨by omega, by omega⟩
        · rw [(List.mem_replicate.mp hd).2]; trivial
      · split at hd
        · rename_i z
          have h1 := Int.emod_nonneg (c * 48271 % 1033) (show (n : Int) - 1 ≠ 0 by omega)
          have h2 := Int.emod_lt_of_pos (c * 48271 % 1033) (show (0 : Int) < (n : Int) - 1 by omega)
          simp only [pair, List.mem_cons, List.not_mem_nil, or_false] at hd
          rcases hd with rfl | rfl | rfl | rfl | rfl | rfl <;> exact ⟨by omega, by omega⟩
        · cases hd
  · obtain ⟨k, _, rfl⟩ := List.mem_map.mp hd
    exact deedOf_inn h0 _
/-! a hand wants in -/
theorem AtPl.wantd {n : Nat} {B : Pl} {R : Rm.Hall} {H G : Hp} (a : AtPl n B R H) {T i t : Nat} {p : Addr} (I : Rm.HInv n T R) (hi : i < n) {x : Rm.PH} (hx : HandAt n B R i x) (fr : H p = none)
    (gd : G (B.dh i) = some (.dK (kvH { x with word := .begins, vis := some p }))) (gp : G p = some (.lst (visitV ⟨i, t, none, none, none, none⟩))) (gl : G B.lv = some (.lst ((List.range R.m).map (fun k => V.ref (B.va k)) ++ [.ref p])))
    (c : ∀ b u, b ≠ B.dh i → b ≠ B.lv → H b = some u → G b = some u) : AtPl n { B with va := Rm.put B.va R.m p } (Rm.wantA t R i) G := by
  have nf : ∀ {b : Addr} {u : HO}, H b = some u → b ≠ p := fun e z => by rw [z, fr] at e; cases e
  have hlt : ∀ {k : Nat}, k < R.m → Rm.put B.va R.m p k = B.va k := fun h => Rm.put_ne _ _ (by omega)
  have nl : ∀ {b : Addr} {xs : List (Key × V)}, H b = some (.dK xs) → b ≠ B.lv := fun e z => by rw [z, a.visits] at e; cases e
  obtain ⟨x0, hd0, hx0⟩ := a.hand i hi
  refine ⟨?_, ?_, ?_, fun j hj => ?_, fun j hj => ?_, fun k hk => ?_, a.dinj, fun k l hk hl e => ?_, a.dhh, a.lvh, a.lvo, fun k hk => ?_, fun k hk => ?_, fun k j hk hj => ?_⟩
  · exact c _ _ (fun z => a.dhh i hi z.symm) (nl a.hall) a.hall
  · exact c _ _ (a.dne hi a.hands) (fun z => a.lvh z.symm) a.hands
  · show G B.lv = some (.lst ((List.range (R.m + 1)).map fun k => V.ref (Rm.put B.va R.m p k)))
    rw [gl, List.range_succ, List.map_append]
    congr 3
    · refine List.map_congr_left fun k hk => ?_
      rw [hlt (List.mem_range.mp hk)]
    · simp [Rm.put_self]
  · by_cases e : j = i
    · subst e
      refine ⟨_, gd, ?_, hx.oa, fun _ => ?_, fun _ => rfl⟩
      · show Rm.XRel n (Rm.put R.hands j { R.hands j with great := 0, word := .begins } j) _
        rw [Rm.put_self]
        exact Rm.xrel_want hx.rel _
      · show some p = some (Rm.put B.va R.m p (Rm.put R.cur j R.m j))
        rw [Rm.put_self, Rm.put_self]
    · obtain ⟨y, hy, ry⟩ := a.hand j hj
      refine ⟨y, c _ _ (fun z => e (a.dinj j i hj hi z)) (nl hy) hy, ?_, ry.oa, ?_, ry.mv⟩
      · show Rm.XRel n (Rm.put R.hands i { R.hands i with great := 0, word := .begins } j) y
        rw [Rm.put_ne _ _ e]
        exact ry.rel
      · show (Rm.put R.hands i { R.hands i with great := 0, word := .begins } j).word ≠ .out → y.vis = some (Rm.put B.va R.m p (Rm.put R.cur i R.m j))
        rw [Rm.put_ne _ _ e, Rm.put_ne _ _ e]
        intro wo
        rw [hlt (I.cur j hj wo).1]
        exact ry.vis wo
  · exact c _ _ (a.dne hi (a.oth j hj)) (fun z => a.lvo j hj z.symm) (a.oth j hj)
  · show G (Rm.put B.va R.m p k) = some (.lst (visitV (Rm.put R.vis R.m ⟨i, t, none, none, none, none⟩ k)))
    by_cases e : k = R.m
    · subst e
      rw [Rm.put_self, Rm.put_self]
      exact gp
    · have hk' : k < R.m := by
        have : k < R.m + 1 := hk
        omega
      rw [Rm.put_ne _ _ e, Rm.put_ne _ _ e]
      exact c _ _ (a.dne hi (a.vis k hk')) (a.vav k hk') (a.vis k hk')
  · have hk : k < R.m + 1 := hk
    have hl : l < R.m + 1 := hl
    have e : Rm.put B.va R.m p k = Rm.put B.va R.m p l := e
    by_cases ek : k = R.m <;> by_cases el : l = R.m
    · rw [ek, el]
    · subst ek
      rw [Rm.put_self, hlt (by omega)] at e
      exact absurd e.symm (nf (a.vis l (by omega)))
    · subst el
      rw [Rm.put_self, hlt (by omega)] at e
      exact absurd e (nf (a.vis k (by omega)))
    · rw [hlt (by omega), hlt (by omega)] at e
      exact a.vinj k l (by omega) (by omega) e
  · have hk : k < R.m + 1 := hk
    show Rm.put B.va R.m p k ≠ B.lv
    by_cases e : k = R.m
    · subst e
      rw [Rm.put_self]
      exact fun z => nf a.visits z.symm
    · rw [hlt (by omega)]; exact a.vav k (by omega)
  · have hk : k < R.m + 1 := hk
    show Rm.put B.va R.m p k ≠ B.lh
    by_cases e : k = R.m
    · subst e
      rw [Rm.put_self]
      exact fun z => nf a.hands z.symm
    · rw [hlt (by omega)]; exact a.vah k (by omega)
  · have hk : k < R.m + 1 := hk
    show Rm.put B.va R.m p k ≠ B.oh j
    by_cases e : k = R.m
    · subst e
      rw [Rm.put_self]
      exact fun z => nf (a.oth j hj) z.symm
    · rw [hlt (by omega)]; exact a.vao k j (by omega) hj
section
variable {P : Program} {w : World} {K : PySem.W.Frag} {mg : Str → Option Value} {base : Heap}
/-! alike -/
abbrev sAlike : Stmt := top 60
def spAlike : Sp := fun vs H Q _ => ∃ (v u : V) (an : Rm.Ans), vs = [v, u] ∧ DV H v (ansD an) ∧ DV H u (ansD an) ∧ Q (.bl true) H
theorem scAlike : FnScope ["_law_found", "_law_due"] ["_law_found", "_law_due"] (defScope sAlike) := ⟨rfl, rfl, rfl, by decide +kernel, rfl, by decide +kernel, by decide +kernel⟩
end
theorem apPut {O : Addr → Prop} {H G : Hp} {l : Addr} {o : HO} (n : ¬ O l) (p : Put H l o G) : Put (apO O H) l o (apO O G) := ⟨by
  funext c
  rw [p.eq]
  unfold apO
  by_cases e : c = l
  · subst e
    rw [if_neg n, upd_same, upd_same]
  · rw [upd_ne e, upd_ne e]⟩
theorem rIx_mono6 {K : PySem.W.Frag} {x y : V} {H : Hp} {Q Q' : VK} (h : rIx K x y H Q) (m : ∀ v H, Q v H → Q' v H) : rIx K x y H Q' := by
  rcases h with ⟨p, xs, i, v, a, b, c, d, q⟩ | ⟨p, xs, i, v, a, b, c, d, q⟩ | ⟨z, i, c, a, b, d, e, q⟩
  · exact .inl ⟨p, xs, i, v, a, b, c, d, m _ _ q⟩
  · exact .inr (.inl ⟨p, xs, i, v, a, b, c, d, m _ _ q⟩)
  · exact .inr (.inr ⟨z, i, c, a, b, d, e, m _ _ q⟩)
theorem goA_succ (n t i : Nat) (R : Rm.Hall) (j : Nat) : Rm.goA n t i R (j + 1) = if ((Rm.goA n t i R j).1.hands i).word = .within then Rm.goA n t i R j else (Rm.stepA n t (Rm.goA n t i R j).1 i, (Rm.goA n t i R j).2 ++ [Rm.toldS (Rm.goA n t i R j).1.hands i]) := rfl
theorem told_noLst6 (l : List Rm.Told) : Dat.noLsts (l.map toldD) = true := noLsts_of fun d hd => by
  obtain ⟨⟨u, x, y⟩, _, rfl⟩ := List.mem_map.mp hd
  cases x <;> cases y <;> simp [toldD, on, Dat.noLst, Dat.noLsts]
theorem goA_len6 (n t i : Nat) (R : Rm.Hall) (j : Nat) : (Rm.goA n t i R j).2.length ≤ j := by
  induction j with
  | zero => exact Nat.le_refl _
  | succ j ih =>
    rw [goA_succ]
    split
    · omega
    · simp only [List.length_append, List.length_cons, List.length_nil]; omega
section
variable {P : Program} {w : World} {K : PySem.W.Frag} {mg : Str → Option Value} {base : Heap}
/-! due_answer -/
abbrev sDueA : Stmt := top 59
def DueQ (n : Nat) (B : Pl) (R : Rm.Hall) (H : Hp) (Q : VK) (r : Rm.Hall × Rm.Ans) : Prop := ∀ (B' : Pl) v G, B'.hh = B.hh → AtPl n B' r.1 G → Same (apO (B.Ow n R.m) H) (apO (B'.Ow n r.1.m) G) → DV (apO (B'.Ow n r.1.m) G) v (ansD r.2) → Q v G
def spDueA : Sp := fun vs H Q _ => ∃ (n : Nat) (B : Pl) (R : Rm.Hall) (t : Nat) (p : Addr) (d : Dd), vs = [.ref B.hh, .ref p, .int t] ∧ AtPl n B R H ∧ Rm.HInv n t R ∧ n ≤ 30 ∧ R.m ≤ 900 ∧ d.ok ∧ d.inn n ∧ H p = some (.tup (ddV d)) ∧ DueQ n B R H Q (Rm.deedA n t R d.deed)
theorem scDueA : FnScope ["_law_hall", "_law_deed", "_law_time", "_law_one", "_law_steps", "_law_turn"] ["_law_hall", "_law_deed", "_law_time"] (defScope sDueA) := ⟨rfl, rfl, rfl, by decide +kernel, rfl, by decide +kernel, by decide +kernel⟩
set_option maxHeartbeats 4000000 in
theorem ok_dueA {f : Addr} {fd : FuncData} (F : Fun K "_law_due_answer" "_law_due_answer" sDueA f fd) (T : Blt mg) (c_l_due_round : FnBy P w K mg base CX0 4 "_law_due_round" ["_law_hall", "_law_time"] spDueR) (c_l_gone_out : FnBy P w K mg base CX0 1 "_law_gone_out" ["_law_one", "_law_time"] spGone)
    (c_l_one_step : FnBy P w K mg base CX0 3 "_law_one_step" ["_law_hall", "_law_k", "_law_time"] spOne) : FnOk P w K mg base CX0 5 f fd ["_law_hall", "_law_deed", "_law_time"] spDueA := by
  refine F.ok scDueA (fun vs H Q E h => ?_) (fun cdv A outer s H vs Q E hr h => ?_)
  · obtain ⟨n, B, R, t, p, d, rfl, _⟩ := h
    rfl
  · obtain ⟨n, B, R, t, p, d, rfl, a, I, hn, hm, hok, hin, hp, q⟩ := h
    have SC := scDueA
    have word : atI (ddV d) 0 = some (.str (ddW d)) := by cases d <;> rfl
    refine ⟨_, (pss_cons (ps_if (pt_cmpR op_eq (pe_ix ix_seq (pv 1) pe_int (by exact fun _ _ => rfl)) pe_str (nomark _)) (pss_one (ps_ret (pe_fn c_l_due_round (hr.mono (by omega)) (by rfl) pass0 (pac (pv 0) (pac (pv 2) pa_nil))))) pss_nil)
      (pss_cons (ps_set (i := 3) SC.nd (by rfl) (Or.inl (by rfl)) (pe_ix ix_seq (pe_dget (hu_of hr) (pv 0) pe_str (by exact fun _ _ => rfl)) (pe_ix ix_seq (pv 1) pe_int (by exact fun _ _ => rfl)) (by exact fun _ _ => rfl)))
      (pss_cons (ps_if (pt_cmpR op_eq (pe_ix ix_seq (pv 1) pe_int (by exact fun _ _ => rfl)) pe_str (nomark _)) (pss_cons (ps_if (pt_cmpR op_ne (pe_dget (hu_of hr) (pv 3) pe_str (by exact fun _ _ => rfl)) pe_str (nomark _)) (pss_one (ps_ret (pe_ix ix_seq (pe_lstN (pac pe_str (pac pe_str pa_nil))) (pe_callTy call_int1 (by rfl) T.b_int PyProof.Rows.Boot.int (pac (pe_cmpR op_eq (pe_dget (hu_of hr) (pv 3) pe_str (by exact fun _ _ => rfl)) pe_str (nomark _)) pa_nil)) (by exact fun _ _ => rfl)))) pss_nil)
      (pss_cons (ps_dputN (hu_of hr) (pv 3) pe_str pe_str rfl)
      (pss_cons (ps_dputN (hu_of hr) (pv 3) pe_str (pe_lstN (pac (pe_ix ix_seq (pv 1) pe_int (by exact fun _ _ => rfl)) (pac (pv 2) (pac pe_non (pac pe_non (pac pe_non (pac pe_non pa_nil))))))) rfl)
      (pss_cons (ps_expr (pe_bm PySem.F.plainAttrs_list PySem.F.slot_list_append PySem.F.type_list_append mt_appendN (pe_dget (hu_of hr) (pv 0) pe_str (by exact fun _ _ => rfl)) (pac (pe_dget (hu_of hr) (pv 3) pe_str (by exact fun _ _ => rfl)) pa_nil)))
      (pss_one (ps_ret (pe_op op_sub (pe_callB call_len_seq (by rfl) T.b_len PyProof.Rows.Boot.len (pac (pe_dget (hu_of hr) (pv 0) pe_str (by exact fun _ _ => rfl)) pa_nil)) pe_int))))))) pss_nil)
      (pss_cons (ps_if (pt_cmpR op_eq (pe_dget (hu_of hr) (pv 3) pe_str (by exact fun _ _ => rfl)) pe_str (nomark _)) (pss_one (ps_ret pe_str)) pss_nil)
      (pss_cons (ps_if (pt_cmpR op_eq (pe_ix ix_seq (pv 1) pe_int (by exact fun _ _ => rfl)) pe_str (nomark _)) (pss_one (ps_ret (pe_fn c_l_gone_out (hr.mono (by omega)) (by rfl) pass0 (pac (pv 3) (pac (pv 2) pa_nil))))) pss_nil)
      (pss_cons (ps_if (pt_cmpR op_eq (pe_dget (hu_of hr) (pv 3) pe_str (by exact fun _ _ => rfl)) pe_str (nomark _)) (pss_one (ps_ret pe_str)) pss_nil)
      (pss_cons (ps_set (i := 4) SC.nd (by rfl) (Or.inl (by rfl)) (pe_lstN pa_nil))
      (pss_cons (ps_for PassesOwn.never rfl (pi_range1 (by rfl) T.b_range (pac (pe_ix ix_seq (pv 1) pe_int (by exact fun _ _ => rfl)) pa_nil)) (pg_name (i := 5) SC.nd (by rfl) (Or.inl (by rfl))) (pss_one (ps_if (pt_cmpR op_ne (pe_dget (hu_of hr) (pv 3) pe_str (by exact fun _ _ => rfl)) pe_str (nomark _)) (pss_one (ps_expr (pe_bm PySem.F.plainAttrs_list PySem.F.slot_list_append PySem.F.type_list_append mt_appendN (pv 4) (pac (pe_fn c_l_one_step (hr.mono (by omega)) (by rfl) pass0 (pac (pv 0) (pac (pe_ix ix_seq (pv 1) pe_int (by exact fun _ _ => rfl)) (pac (pv 2) pa_nil)))) pa_nil)))) pss_nil)))
      (pss_one (ps_ret (pv 4))))))))))), ?_⟩
    walk_at "rd"
    refine rix_t hp word ⟨rfl, ?_⟩
    cases d with
    | round =>
      rw [if_pos (by simp only [ddW])]
      refine ⟨n, B, R, t, rfl, a, I, hn, fun v G aG sG dG => q B v G rfl aG ?_ ?_⟩
      · show Same _ (apO (B.Ow n (Rm.roundA n t R n).1.m) G)
        rw [round_m I n (Nat.le_refl _)]
        exact sG
      · show DV (apO (B.Ow n (Rm.roundA n t R n).1.m) G) v _
        rw [round_m I n (Nat.le_refl _)]
        exact dG
    | want z =>
      rw [if_neg (by simp only [ddW]; decide +kernel)]
      obtain ⟨i, rfl⟩ : ∃ i : Nat, z = i := ⟨z.toNat, by have := hin.1; omega⟩
      have hi : i < n := by have := hin.2; omega
      have ih : Rm.isHand n (i : Int) = true := by simp [Rm.isHand, hi]
      simp only [Dd.deed, Rm.deedA, ih, if_true, Int.toNat_natCast] at q
      obtain ⟨x, hd, hx⟩ := a.hand i hi
      refine ⟨_, dg (k := kHands) a.hall (g_hands _ _), rix_t hp (show _ = some (.int i) from rfl) (rix_l a.hands (atI_at (hand_get hi)) ?_)⟩
      refine rix_t hp word ⟨rfl, ?_⟩
      rw [if_pos (by simp only [ddW])]
      walk_at "rd"
      refine ⟨_, dg (k := kWhere) hd (g_where _), rfl, ?_⟩
      rw [hx.rel.word]
      by_cases w1 : (R.hands i).word = .out
      · rw [if_neg (by rw [w1]; decide +kernel)]
        rw [if_neg (by rw [w1]; decide), if_pos w1] at q
        refine ⟨_, kWhere, rfl, hd, kv_lt x, fun G1 p1 => ?_⟩
        rw [show V.str (Str.ofString "begins") = V.str (wS .begins) from rfl, p_where] at p1
        have hp1 : G1 p = _ := (p1.ne fun z => by rw [z, hd] at hp; cases hp).trans hp
        refine rix_t hp1 (show _ = some (.int i) from rfl) ⟨by decide, fun pv G2 n2 => ?_⟩
        walk_at "rd"
        have hd2 := n2.same _ _ p1.at
        refine ⟨_, kVisit, rfl, hd2, kv_lt _, fun G3 p3 => ?_⟩
        rw [p_visit _ _ (by exact hx.mv)] at p3
        have fr : H pv = none := by
          cases z : H pv with
          | none => rfl
          | some u =>
            by_cases e : pv = B.dh i
            · have := p1.at
              rw [← e, n2.free] at this
              cases this
            · have := n2.free
              rw [p1.ne e, z] at this
              cases this
        have c3 : ∀ c u, c ≠ B.dh i → H c = some u → G3 c = some u := fun c u ne e => by
          rw [p3.ne ne]
          exact n2.same _ _ (by rw [p1.ne ne]; exact e)
        have npd : pv ≠ B.dh i := fun z => by rw [z, hd] at fr; cases fr
        have hh3 := c3 _ _ (fun z => a.dhh i hi z.symm) a.hall
        have lv3 := c3 _ _ (a.dne hi a.visits) a.visits
        refine ⟨_, dg (k := kVisits) hh3 (g_visits _ _), .inl ⟨rfl, _, .of lv3⟩, _, dg (k := kVisit) p3.at (g_visit _ rfl), B.lv, _, _, rfl, rfl, lv3, lt_size (by simp; omega), fun G4 p4 => ?_⟩
        have hh4 : G4 B.hh = _ := (p4.ne fun z => by have := a.visits; rw [← z, a.hall] at this; cases this).trans hh3
        refine ⟨_, dg (k := kVisits) hh4 (g_visits _ _), _, rfl, _, .inl (.of p4.at), ?_⟩
        have el : ((((List.range R.m).map (fun k => V.ref (B.va k)) ++ [V.ref pv]).length : Nat) : Int) - 1 = (R.m : Int) := by simp
        rw [el]
        have nlv : ∀ c, c ≠ B.lv → G4 c = G3 c := fun c h => p4.ne h
        have npl : pv ≠ B.lv := fun z => by rw [z, a.visits] at fr; cases fr
        refine q { B with va := Rm.put B.va R.m pv } _ G4 rfl (a.wantd I hi hx fr ?_ ?_ p4.at fun b u h1 h2 e => ?_) ?_ dv_int
        · rw [nlv _ (fun z => a.dne hi a.visits z.symm)]
          exact p3.at
        · rw [nlv _ npl, p3.ne npd]
          exact n2.at
        · rw [nlv _ h2]
          exact c3 _ _ h1 e
        · refine apO_same fun c u e o => ⟨?_, ?_⟩
          · rw [nlv _ fun z => o (.inl z)]
            exact c3 _ _ (fun z => o (.inr (.inl ⟨i, hi, z⟩))) e
          · rintro (z | ⟨j, hj, z⟩ | ⟨k, hk, z⟩)
            · exact o (.inl z)
            · exact o (.inr (.inl ⟨j, hj, z⟩))
            · have hk : k < R.m + 1 := hk
              have z : c = Rm.put B.va R.m pv k := z
              by_cases ek : k = R.m
              · subst ek
                rw [Rm.put_self] at z
                rw [z, fr] at e
                cases e
              · rw [Rm.put_ne _ _ ek] at z
                exact o (.inr (.inr ⟨k, by omega, z⟩))
      · have nw : V.str (wS (R.hands i).word) ≠ V.str (Str.ofString "out") := fun z => w1 ((wS_out _).mp (V.str.inj z))
        rw [if_pos (by simpa using nw)]
        refine ⟨by decide, fun pl G np => ⟨_, dg (k := kWhere) (np.same _ _ hd) (g_where _), rfl, .inr ?_⟩⟩
        rw [hx.rel.word]
        have sa := a.apSame np.same
        by_cases w2 : (R.hands i).word = .within
        · rw [if_pos w2] at q
          rw [if_pos (by rw [w2]; rfl)]
          exact rix_l np.at (show _ = some (.str "within") from rfl) (q B _ G rfl (a.mono np.same) sa dv_str)
        · rw [if_neg w2, if_neg w1] at q
          rw [if_neg (fun z => w2 ((wS_within _).mp (V.str.inj z)))]
          exact rix_l np.at (show _ = some (.str "on its way") from rfl) (q B _ G rfl (a.mono np.same) sa dv_str)
    | go z k =>
      rw [if_neg (by simp only [ddW]; decide +kernel)]
      obtain ⟨i, rfl⟩ : ∃ i : Nat, z = i := ⟨z.toNat, by have := hin.1; omega⟩
      have hi : i < n := by have := hin.2; omega
      have ih : Rm.isHand n (i : Int) = true := by simp [Rm.isHand, hi]
      obtain ⟨hk0, hk9⟩ := hok
      obtain ⟨k, rfl⟩ : ∃ j : Nat, k = j := ⟨k.toNat, by omega⟩
      simp only [Dd.deed, Rm.deedA, ih, if_true, Int.toNat_natCast] at q
      obtain ⟨x, hd, hx⟩ := a.hand i hi
      refine ⟨_, dg (k := kHands) a.hall (g_hands _ _), rix_t hp (show _ = some (.int i) from rfl) (rix_l a.hands (atI_at (hand_get hi)) ?_)⟩
      refine rix_t hp word ⟨rfl, ?_⟩
      rw [if_neg (by simp only [ddW]; decide +kernel)]
      walk_at "rd"
      refine ⟨_, dg (k := kWhere) hd (g_where _), rfl, ?_⟩
      rw [hx.rel.word]
      by_cases w1 : (R.hands i).word = .out
      · rw [if_pos (by rw [w1]; rfl)]
        rw [if_pos w1] at q
        exact q B _ H rfl a (Same.refl _) dv_str
      rw [if_neg (fun z => w1 ((wS_out _).mp (V.str.inj z)))]
      rw [if_neg w1] at q
      refine rix_t hp word ⟨rfl, ?_⟩
      rw [if_neg (by simp only [ddW]; decide +kernel)]
      walk_at "rd"
      refine ⟨_, dg (k := kWhere) hd (g_where _), rfl, ?_⟩
      rw [hx.rel.word]
      by_cases w2 : (R.hands i).word = .within
      · rw [if_pos (by rw [w2]; rfl)]
        rw [if_pos w2] at q
        exact q B _ H rfl a (Same.refl _) dv_str
      rw [if_neg (fun z => w2 ((wS_within _).mp (V.str.inj z)))]
      rw [if_neg w2] at q
      refine ⟨Nat.zero_le _, fun ls G0 n0 => ?_⟩
      have hl : ∀ c, B.In n R.m c → c ≠ ls := fun c ic => a.inFresh ic n0.free
      have a0 := a.mono n0.same
      have s0 := a.apSame n0.same
      have f0 : ¬ B.Ow n R.m ls := a.fresh n0.free
      have fl : apO (B.Ow n R.m) H ls = none := (a.apNew n0).free
      have hpo : ¬ B.Ow n R.m p := by
        rintro (z | ⟨j, hj, z⟩ | ⟨j, hj, z⟩)
        · rw [z, a.visits] at hp; cases hp
        · obtain ⟨y, hy, _⟩ := a.hand j hj
          rw [z, hy] at hp; cases hp
        · rw [z, a.vis j hj] at hp; cases hp
      have hpa : apO (B.Ow n R.m) H p = some (.tup (ddV (.go i k))) := apO_at hp hpo
      refine rfor_range (fun R R' hR ⟨v, e, h⟩ => ⟨v, e, rIx_mono6 h fun v H q => hR _ _ q⟩) ⟨_, rfl, rix_t (n0.same _ _ hp) (show _ = some (.int k) from rfl) ⟨_, rfl, by omega, by omega, fun j σ H2 => ∃ x5 ws, σ = [some (.ref B.hh), some (.ref p), some (.int t), some (.ref (B.dh i)), some (.ref ls), x5] ∧ AtPl n B (Rm.goA n t i R j).1 H2 ∧ Same (apO (B.Ow n R.m) H) (apO (B.Ow n R.m) H2) ∧ H2 ls = some (.lst ws) ∧ DVs (apO (B.Ow n R.m) H2) ws ((Rm.goA n t i R j).2.map toldD), ⟨none, _, rfl, a0, s0, n0.at, DVs.nil⟩, ?_, ?_⟩⟩
      · rintro j σ H2 hj ⟨x5, ws, rfl, a2, s2, el, dw⟩
        have hj : j < k := by simpa using hj
        obtain ⟨I2, wo2, _⟩ := Rm.goA_inv (I.more (Nat.le_succ t)) hi w1 j
        have em := Rm.goA_m (n := n) (t := t) (i := i) (H := R) j
        have gl := goA_len6 n t i R j
        have er := goA_succ n t i R j
        walk_at "rd"
        simp only [er]
        clear er
        generalize Rm.goA n t i R j = RK at a2 I2 wo2 em dw gl
        obtain ⟨y, hd2, hy⟩ := a2.hand i hi
        have hp2 := (apO_of (s2 _ _ hpa)).1
        have wl := dw.length
        rw [List.length_map] at wl
        refine ⟨_, dg (k := kWhere) hd2 (g_where _), rfl, ?_⟩
        rw [hy.rel.word]
        by_cases w3 : (RK.1.hands i).word = .within
        · rw [if_neg (by rw [w3]; decide +kernel)]
          simp only [w3, if_true]
          exact ⟨a2, s2, ws, el, dw⟩
        · have nw : V.str (wS (RK.1.hands i).word) ≠ V.str (Str.ofString "within") := fun z => w3 ((wS_within _).mp (V.str.inj z))
          rw [if_pos (by simpa using nw)]
          simp only [w3, if_false]
          refine ⟨.inl ⟨rfl, _, .of el⟩, rix_t hp2 (show _ = some (.int i) from rfl) ⟨n, B, RK.1, t + 1, i, t, rfl, a2, I2, hi, wo2, w3, fun v G aG sG dG => ?_⟩⟩
          rw [em] at sG dG
          have elG := (apO_of (sG _ _ (apO_at el f0))).1
          refine ⟨ls, _, _, rfl, rfl, elG, lt_size (by omega), fun G' pp => ⟨aG.keep fun c u ic e => ?_, ?_, _, pp.at, ?_⟩⟩
          · rw [pp.ne (hl c (by rw [← em]; exact ic))]; exact e
          · exact fun c u e => apO_at (by rw [pp.ne fun z => by rw [z, fl] at e; cases e]; exact (apO_of (s2.trans sG _ _ e)).1) (apO_of e).2
          · rw [List.map_append]
            have pa := apPut f0 pp
            have ela := apO_at elG f0
            exact DVs.append (pa.dvs ela (told_noLst6 _) (DVs.mono sG dw)) (DVs.one (pa.dv ela (told1_noLst _) dG))
      · rintro σ H2 ⟨x5, ws, rfl, a2, s2, el, dw⟩
        walk_at "rd"
        rw [Int.toNat_natCast] at a2 dw
        have em := Rm.goA_m (n := n) (t := t) (i := i) (H := R) k
        refine q B _ H2 rfl a2 ?_ ?_
        · show Same _ (apO (B.Ow n (Rm.goA n t i R k).1.m) H2)
          rw [em]
          exact s2
        · show DV (apO (B.Ow n (Rm.goA n t i R k).1.m) H2) _ _
          rw [em]
          exact dv_lst (apO_at el f0) dw
    | leave z =>
      rw [if_neg (by simp only [ddW]; decide +kernel)]
      obtain ⟨i, rfl⟩ : ∃ i : Nat, z = i := ⟨z.toNat, by have := hin.1; omega⟩
      have hi : i < n := by have := hin.2; omega
      have ih : Rm.isHand n (i : Int) = true := by simp [Rm.isHand, hi]
      simp only [Dd.deed, Rm.deedA, ih, if_true, Int.toNat_natCast] at q
      obtain ⟨x, hd, hx⟩ := a.hand i hi
      refine ⟨_, dg (k := kHands) a.hall (g_hands _ _), rix_t hp (show _ = some (.int i) from rfl) (rix_l a.hands (atI_at (hand_get hi)) ?_)⟩
      refine rix_t hp word ⟨rfl, ?_⟩
      rw [if_neg (by simp only [ddW]; decide +kernel)]
      walk_at "rd"
      refine ⟨_, dg (k := kWhere) hd (g_where _), rfl, ?_⟩
      rw [hx.rel.word]
      by_cases w1 : (R.hands i).word = .out
      · rw [if_pos (by rw [w1]; rfl)]
        rw [if_pos w1] at q
        exact q B _ H rfl a (Same.refl _) dv_str
      · rw [if_neg (fun z => w1 ((wS_out _).mp (V.str.inj z)))]
        rw [if_neg w1] at q
        refine rix_t hp word ⟨rfl, ?_⟩
        rw [if_pos (by simp only [ddW])]
        exact ⟨n, B, R, t, i, t, rfl, a, I, hi, w1, fun G aG sG => q B _ G rfl aG sG dv_int⟩
end
theorem kit_list6 {K : PySem.W.Frag} : ∀ d : Dat, PySem.W.kitOne K (dty d) (.type "list") = some (match d with | .lst _ => true | _ => false)
  | .non => rfl | .bl _ => rfl | .int _ => rfl | .str _ => rfl | .tup _ => rfl | .lst _ => rfl
section
variable {P : Program} {w : World} {K : PySem.W.Frag} {mg : Str → Option Value} {base : Heap}
theorem ok_alike {f : Addr} {fd : FuncData} (F : Fun K "_law_alike" "_law_alike" sAlike f fd) (T : Blt mg) (c_l_whole : FnBy P w K mg base CX0 1 "_law_whole" ["_law_found"] spWhole) : FnOk P w K mg base CX0 2 f fd ["_law_found", "_law_due"] spAlike := by
  refine F.ok scAlike (fun vs H Q E h => ?_) (fun cdv A outer s H vs Q E hr h => ?_)
  · obtain ⟨v, u, an, rfl, _⟩ := h
    rfl
  · obtain ⟨v, u, an, rfl, dv, du, q⟩ := h
    have hu0 : A.units + 3 + 100 < cLine := by
      have := hr.un
      have e : (A.deeper (PyProof.Rows.envOfC "_law_alike" (defScope sAlike) s.heap.objs.size f cdv)).units = A.units + 3 := rfl
      omega
    refine ⟨_, (pss_cons (ps_if (pt_val (pe_callB (call_isinst (T := "str")) (by rfl) T.b_isinstance PyProof.Rows.Boot.isinstance (pac (pv 1) (pac (pe_ty (by rfl) T.b_str PyProof.Rows.Boot.str) pa_nil)))) (pss_one (ps_ret (pe_and (pe_callB (call_isinst (T := "str")) (by rfl) T.b_isinstance PyProof.Rows.Boot.isinstance (pac (pv 0) (pac (pe_ty (by rfl) T.b_str PyProof.Rows.Boot.str) pa_nil))) (pe_one (pe_cmpR op_eq (pv 0) (pv 1) (nomark _)))))) pss_nil)
      (pss_cons (ps_if (pt_val (pe_callB (call_isinst (T := "list")) (by rfl) T.b_isinstance PyProof.Rows.Boot.isinstance (pac (pv 1) (pac (pe_ty (by rfl) T.b_list PyProof.Rows.Boot.list) pa_nil)))) (pss_one (ps_ret (pe_and (pe_callB (call_isinst (T := "list")) (by rfl) T.b_isinstance PyProof.Rows.Boot.isinstance (pac (pv 0) (pac (pe_ty (by rfl) T.b_list PyProof.Rows.Boot.list) pa_nil))) (pe_one (pe_cmpR op_eqD (pv 0) (pv 1) (nomark _)))))) pss_nil)
      (pss_one (ps_ret (pe_and (pe_fn c_l_whole (hr.mono (by omega)) (by rfl) pass0 (pac (pv 0) pa_nil)) (pe_one (pe_cmpR op_eq (pv 0) (pv 1) (nomark _)))))))), ?_⟩
    walk_at "rd"
    refine ⟨_, du.ty, _, kit_strB _, ?_⟩
    cases an with
    | num k =>
      rw [if_neg (by simp [ansD, isStr])]
      refine ⟨_, du.ty, _, kit_list6 _, ?_⟩
      rw [if_neg (by simp [ansD])]
      simp only [ansD] at dv du
      rw [dv_int_iff] at dv du
      subst dv du
      refine ⟨_, .int _, rfl, dv_int, true, rfl, ?_⟩
      rw [if_pos rfl]
      refine ⟨rfl, ?_⟩
      simpa using q
    | steps l =>
      rw [if_neg (by simp [ansD, isStr])]
      refine ⟨_, du.ty, _, kit_list6 _, ?_⟩
      rw [if_pos (by simp [ansD])]
      refine ⟨_, dv.ty, _, kit_list6 _, ?_⟩
      rw [if_pos (by simp [ansD])]
      simp only [ansD] at dv du
      refine ⟨_, _, .inl ⟨dv, du⟩, ?_, ?_⟩
      · show A.units + 3 + 1 + _ + _ < cLine
        have := deps_told l
        omega
      · rw [Dat.beqs_refl]
        exact q
    | went l =>
      rw [if_neg (by simp [ansD, isStr])]
      refine ⟨_, du.ty, _, kit_list6 _, ?_⟩
      rw [if_pos (by simp [ansD])]
      refine ⟨_, dv.ty, _, kit_list6 _, ?_⟩
      rw [if_pos (by simp [ansD])]
      simp only [ansD] at dv du
      refine ⟨_, _, .inl ⟨dv, du⟩, ?_, ?_⟩
      · show A.units + 3 + 1 + _ + _ < cLine
        have := deps_le (l := l.map fun k : Nat => Dat.int k) (k := 0) fun d hd => by obtain ⟨x, _, rfl⟩ := List.mem_map.mp hd; simp [Dat.dep]
        omega
      · rw [Dat.beqs_refl]
        exact q
    | noHand =>
      rw [if_pos (by rfl)]
      refine ⟨_, dv.ty, _, kit_strB _, ?_⟩
      rw [if_pos (by rfl)]
      simp only [ansD] at dv du
      unfold DV at dv du
      subst dv du
      refine ⟨rfl, ?_⟩
      simpa using q
    | isWithin =>
      rw [if_pos (by rfl)]
      refine ⟨_, dv.ty, _, kit_strB _, ?_⟩
      rw [if_pos (by rfl)]
      simp only [ansD] at dv du
      unfold DV at dv du
      subst dv du
      refine ⟨rfl, ?_⟩
      simpa using q
    | onWay =>
      rw [if_pos (by rfl)]
      refine ⟨_, dv.ty, _, kit_strB _, ?_⟩
      rw [if_pos (by rfl)]
      simp only [ansD] at dv du
      unfold DV at dv du
      subst dv du
      refine ⟨rfl, ?_⟩
      simpa using q
    | isOut =>
      rw [if_pos (by rfl)]
      refine ⟨_, dv.ty, _, kit_strB _, ?_⟩
      rw [if_pos (by rfl)]
      simp only [ansD] at dv du
      unfold DV at dv du
      subst dv du
      refine ⟨rfl, ?_⟩
      simpa using q
/-! new_hands -/
def newX (a : Addr) : Rm.PH := ⟨false, 0, .out, 0, a, none, none⟩
theorem merge_new (a : Addr) : mergeK [] [(kFlag, V.bl false), (kTicket, .int 0), (kWhere, .str ("out" : Str)), (kSpot, .int 0), (kOthers, .ref a)] = kvH (newX a) := by
  simp [mergeK, putK, kvH, newX, visKv, mostKv, wS, ne_Flag_Ticket, ne_Flag_Where, ne_Flag_Spot, ne_Flag_Others, ne_Ticket_Where, ne_Ticket_Spot, ne_Ticket_Others, ne_Where_Spot, ne_Where_Others, ne_Spot_Others]
abbrev sNewH : Stmt := top 52
def spNewH : Sp := fun vs H Q _ => ∃ n : Nat, vs = [.int n] ∧ n ≤ 30 ∧ ∀ (lh : Addr) (dh oh : Nat → Addr) G, Same H G → H lh = none → G lh = some (.lst ((List.range n).map fun i => .ref (dh i))) → (∀ i, i < n → H (dh i) = none ∧ H (oh i) = none ∧ oh i ≠ lh ∧ G (dh i) = some (.dK (kvH (newX (oh i)))) ∧ G (oh i) = some (.lst ((List.range (n - 1)).map fun p => .int (Rm.oth i p)))) → (∀ i j, i < n → j < n → dh i = dh j → i = j) → Q (.ref lh) G
theorem scNewH : FnScope ["_law_count", "_law_hands", "_law_k", "_law_others"] ["_law_count"] (defScope sNewH) := ⟨rfl, rfl, rfl, by decide +kernel, rfl, by decide +kernel, by decide +kernel⟩
set_option maxHeartbeats 4000000 in
theorem ok_newH {f : Addr} {fd : FuncData} (F : Fun K "_law_new_hands" "_law_new_hands" sNewH f fd) (T : Blt mg) : FnOk P w K mg base CX0 1 f fd ["_law_count"] spNewH := by
  refine F.ok scNewH (fun vs H Q E h => ?_) (fun cdv A outer s H vs Q E hr h => ?_)
  · obtain ⟨n, rfl, _⟩ := h
    rfl
  · obtain ⟨n, rfl, hn, q⟩ := h
    have SC := scNewH
    refine ⟨_, (pss_cons (ps_set (i := 1) SC.nd (by rfl) (Or.inl (by rfl)) (pe_lstN pa_nil))
      (pss_cons (ps_for PassesOwn.never rfl (pi_range1 (by rfl) T.b_range (pac (pv 0) pa_nil)) (pg_name (i := 2) SC.nd (by rfl) (Or.inr (by rfl))) (pss_cons (ps_setLC (N' := ["_law_j", "_law_k"]) (ix := [none, some 2]) (by exact comp_sc rfl (by rfl) (by rfl)) rfl (pi_range1 (by rfl) T.b_range (pac (pv 0) pa_nil)) (fun _ _ _ _ _ => (pg_comp (i := 0) (by decide +kernel) (by rfl) (by rfl))) (fun _ _ _ _ _ => (pts_one (pt_cmpR op_ne (pv 0) (pv 1) (nomark _)))) (fun _ _ _ _ _ => (pv 0)) (pg_name (i := 3) SC.nd (by rfl) (Or.inl (by rfl))) (by rfl))
      (pss_one (ps_expr (pe_bm PySem.F.plainAttrs_list PySem.F.slot_list_append PySem.F.type_list_append mt_appendN (pv 1) (pac (pe_disp (pps_cons pe_str pe_bl (pps_cons pe_str pe_int (pps_cons pe_str pe_str (pps_cons pe_str pe_int (pps_cons pe_str (pv 3) pps_nil))))) rfl rfl (List.cons_ne_nil _ _) (Nat.le_of_ble_eq_true rfl)) pa_nil))))))
      (pss_one (ps_ret (pv 1))))), ?_⟩
    walk_at "rd"
    refine ⟨Nat.zero_le _, fun l G0 n0 => ?_⟩
    refine rfor_range (fun R R' hR ⟨v, e, h⟩ => ⟨v, e, hR _ _ h⟩) ⟨_, rfl, n, rfl, by omega, by omega, fun k σ H2 => ∃ (x2 x3 : Option V) (dh oh : Nat → Addr), σ = [some (.int n), some (.ref l), x2, x3] ∧ Same H H2 ∧ H2 l = some (.lst ((List.range k).map fun i => .ref (dh i))) ∧ (∀ i, i < k → H (dh i) = none ∧ H (oh i) = none ∧ oh i ≠ l ∧ H2 (dh i) = some (.dK (kvH (newX (oh i)))) ∧ H2 (oh i) = some (.lst ((List.range (n - 1)).map fun p => .int (Rm.oth i p)))) ∧ ∀ i j, i < k → j < k → dh i = dh j → i = j, ⟨none, none, fun _ => 0, fun _ => 0, rfl, n0.same, n0.at, (fun i hi => absurd hi (by omega)), (fun i j hi => absurd hi (by omega))⟩, ?_, ?_⟩
    · rintro k σ H2 hk ⟨x2, x3, dh, oh, rfl, sm, el, hs, inj⟩
      have hk : k < n := by simpa using hk
      walk_at "rd"
      simp only [Int.zero_add]
      refine rlc_range (fun R R' hR ⟨v, e, h⟩ => ⟨v, e, hR _ _ h⟩) ⟨_, rfl, n, rfl, by omega, by omega, fun acc hacc => ⟨fun j σ H3 => ∃ x, σ = [x, some (.int k)] ∧ Same H2 H3 ∧ H3 acc = some (.lst (((List.range j).filter fun y => decide (y ≠ k)).map fun y : Nat => V.int y)), ⟨none, rfl, (Same.refl _).new hacc, upd_same⟩, ?_, ?_⟩⟩
      · rintro j σ H3 hj ⟨x, rfl, s3, ea⟩
        have hj : j < n := by simpa using hj
        walk_at "rd"
        have er : (List.range (j + 1)).filter (fun y => decide (y ≠ k)) = (List.range j).filter (fun y => decide (y ≠ k)) ++ if j = k then [] else [j] := by
          rw [List.range_succ, List.filter_append]
          congr 1
          by_cases z : j = k <;> simp [z]
        have fl : ((List.range j).filter fun y => decide (y ≠ k)).length ≤ j := Nat.le_trans (List.length_filter_le _ _) (by simp)
        simp only [Int.zero_add]
        by_cases z : j = k
        · rw [if_neg (by simp [z]), er, if_pos z, List.append_nil]
          exact ⟨s3, ea⟩
        · rw [if_pos (by simp; omega)]
          refine ⟨_, ea, lt_size (by rw [List.length_map]; omega), s3.put hacc, ?_⟩
          rw [upd_same, er, if_neg z, List.map_append]
          rfl
      · rintro σ H3 ⟨x, rfl, s3, ea⟩
        walk_at "rd"
        rw [Int.toNat_natCast, Rm.range_filter_ne n k hk, List.map_map] at ea
        have el3 := s3 _ _ el
        refine ⟨.inl ⟨rfl, _, .of el3⟩, fun p hp => ⟨_, rfl, upd_same, [(kFlag, .bl false), (kTicket, .int 0), (kWhere, .str ("out" : Str)), (kSpot, .int 0), (kOthers, .ref acc)], rfl, by simp, ?_⟩⟩
        rw [merge_new, upd_upd]
        have np : New H3 p (.dK (kvH (newX acc))) (upd H3 p (.dK (kvH (newX acc)))) := ⟨hp, rfl⟩
        generalize upd H3 p (.dK (kvH (newX acc))) = G1 at np
        have el1 := np.same _ _ el3
        refine ⟨l, _, _, rfl, rfl, el1, lt_size (by simp; omega), fun G pp => ⟨pp.same (sm.trans (s3.trans np.same)) n0.free, Rm.put dh k p, ?_, Rm.put oh k acc, fun i hi => ?_, fun i j hi hj e => ?_⟩⟩
        · rw [pp.at, List.range_succ, List.map_append]
          congr 3
          · refine List.map_congr_left fun i hi => ?_
            rw [Rm.put_ne _ _ (by have := List.mem_range.mp hi; omega)]
          · simp [Rm.put_self]
        · have nal : acc ≠ l := fun z => by rw [z, el] at hacc; cases hacc
          have npl : p ≠ l := fun z => by rw [z, el3] at hp; cases hp
          by_cases ei : i = k
          · subst ei
            rw [Rm.put_self, Rm.put_self]
            refine ⟨(sm.trans s3).free hp, sm.free hacc, nal, ?_, ?_⟩
            · rw [pp.ne npl]; exact np.at
            · rw [pp.ne nal]; exact np.same _ _ ea
          · obtain ⟨h1, h2, h3, h4, h5⟩ := hs i (by omega)
            rw [Rm.put_ne _ _ ei, Rm.put_ne _ _ ei]
            refine ⟨h1, h2, h3, ?_, ?_⟩
            · rw [pp.ne fun z => by rw [z, el] at h4; cases h4]
              exact np.same _ _ (s3 _ _ h4)
            · rw [pp.ne h3]
              exact np.same _ _ (s3 _ _ h5)
        · have nd : ∀ i, i < k → dh i ≠ p := fun i hi z => by
            have := s3 _ _ (hs i hi).2.2.2.1
            rw [z, hp] at this
            cases this
          by_cases ei : i = k <;> by_cases ej : j = k
          · rw [ei, ej]
          · subst ei
            rw [Rm.put_self, Rm.put_ne _ _ ej] at e
            exact absurd e.symm (nd j (by omega))
          · subst ej
            rw [Rm.put_self, Rm.put_ne _ _ ei] at e
            exact absurd e (nd i (by omega))
          · rw [Rm.put_ne _ _ ei, Rm.put_ne _ _ ej] at e
            exact inj i j (by omega) (by omega) e
    · rintro σ H2 ⟨x2, x3, dh, oh, rfl, sm, el, hs, inj⟩
      walk_at "rd"
      rw [Int.toNat_natCast] at el hs inj
      exact q l dh oh H2 sm n0.free el hs inj
end
theorem mono_dgv {k : Nat} {x : Str} {σ : St} {H : Hp} {R R' : V → Hp → Prop} (i : ∀ v H, R v H → R' v H) : tDGet (tVar k) (tC (.str x)) σ H R → tDGet (tVar k) (tC (.str x)) σ H R' := fun ⟨v, e, a, w, h1, h2, q⟩ => ⟨v, e, a, w, h1, h2, i _ _ q⟩
theorem merge_hall (lh lv : Addr) : mergeK [] [(kHands, V.ref lh), (kVisits, .ref lv)] = kvHall lh lv := by simp [mergeK, putK, kvHall, ne_hv]
/-- the room at its beginning -/
theorem hall_new {n : Nat} {G5 G6 G7 Gh : Hp} {p lh lv : Addr} {dh oh : Nat → Addr} (hp : G5 p = none) (s6 : Same (upd G5 p (.dK [])) G6) (fl : (upd G5 p (.dK [])) lh = none) (el : G6 lh = some (.lst ((List.range n).map fun i => .ref (dh i))))
    (hs : ∀ i, i < n → (upd G5 p (.dK [])) (dh i) = none ∧ (upd G5 p (.dK [])) (oh i) = none ∧ oh i ≠ lh ∧ G6 (dh i) = some (.dK (kvH (newX (oh i)))) ∧ G6 (oh i) = some (.lst ((List.range (n - 1)).map fun p => .int (Rm.oth i p)))) (inj : ∀ i j, i < n → j < n → dh i = dh j → i = j)
    (n7 : New G6 lv (.lst []) G7) (ph : Put G7 p (.dK (kvHall lh lv)) Gh) : AtPl n ⟨p, lh, lv, dh, oh, fun _ => 0⟩ Rm.hall0 Gh ∧ Same G5 (apO ((⟨p, lh, lv, dh, oh, fun _ => 0⟩ : Pl).Ow n 0) Gh) := by
  have np : ∀ {c : Addr}, (upd G5 p (.dK [])) c = none → c ≠ p := fun e z => by rw [z, upd_same] at e; cases e
  have lp : lv ≠ p := fun z => by
    have := s6 _ _ (upd_same (H := G5) (a := p) (o := .dK []))
    rw [← z, n7.free] at this; cases this
  have up : ∀ {c : Addr} {u : HO}, G6 c = some u → c ≠ p → Gh c = some u := fun e z => by rw [ph.ne z]; exact n7.same _ _ e
  have nlv : ∀ {c : Addr} {u : HO}, G6 c = some u → lv ≠ c := fun e z => by rw [← z, n7.free] at e; cases e
  refine ⟨⟨ph.at, up el (np fl), ?_, fun i hi => ?_, fun i hi => up (hs i hi).2.2.2.2 (np (hs i hi).2.1), fun k hk => absurd hk (Nat.not_lt_zero _), inj, fun i j hi => absurd hi (Nat.not_lt_zero _), fun i hi => np (hs i hi).1, nlv el, fun i hi => nlv (hs i hi).2.2.2.2, fun k hk => absurd hk (Nat.not_lt_zero _), fun k hk => absurd hk (Nat.not_lt_zero _), fun k i hk => absurd hk (Nat.not_lt_zero _)⟩, fun c u e => apO_at ?_ ?_⟩
  · show Gh lv = some (.lst ((List.range 0).map fun k => V.ref 0))
    rw [ph.ne lp]
    exact n7.at
  · exact ⟨newX (oh i), up (hs i hi).2.2.2.1 (np (hs i hi).1), Rm.xrel_new n (oh i), rfl, fun z => absurd rfl z, fun z => by cases z⟩
  · have cp : c ≠ p := fun z => by rw [z, hp] at e; cases e
    exact up (s6 _ _ (by rw [upd_ne cp]; exact e)) cp
  · have cp : c ≠ p := fun z => by rw [z, hp] at e; cases e
    have e1 : (upd G5 p (.dK [])) c = some u := by rw [upd_ne cp]; exact e
    rintro (z | ⟨i, hi, z⟩ | ⟨k, hk, _⟩)
    · have := s6 _ _ e1
      rw [show c = lv from z, n7.free] at this; cases this
    · have z : c = dh i := z
      rw [z, (hs i hi).1] at e1; cases e1
    · exact absurd hk (Nat.not_lt_zero _)
theorem dep_visL (l : List Rm.Visit) : (Dat.lst (l.map visitD)).dep < 4 := by
  have h1 : Dat.deps (l.map visitD) ≤ 1 := deps_le fun d hd => by
    obtain ⟨u, _, rfl⟩ := List.mem_map.mp hd
    simp [visitD, Dat.dep, Dat.deps, dep_on]
  simp only [Dat.dep]
  omega
theorem dep_seenL (l : List Seen) : (Dat.lst (l.map seenD)).dep < 4 := by
  have h1 : Dat.deps (l.map seenD) ≤ 1 := deps_le fun d hd => by
    obtain ⟨u, _, rfl⟩ := List.mem_map.mp hd
    simp [seenD, Dat.dep, Dat.deps]
  simp only [Dat.dep]
  omega
section
variable {P : Program} {w : World} {K : PySem.W.Frag} {mg : Str → Option Value} {base : Heap}
abbrev sLaw6 : Stmt := top 61
abbrev nmLaw6 : List Str := ["_law_script", "_law_count", "_law_deeds", "_law_handed", "_law_told", "_law_hall", "_law_k", "_law_found", "_law_seen", "_law_one"]
theorem scLaw6 : FnScope nmLaw6 ["_law_script"] (defScope sLaw6) := ⟨rfl, rfl, rfl, by decide +kernel, rfl, by decide +kernel, by decide +kernel⟩
set_option maxHeartbeats 4000000 in
theorem ok_law6 {k : Nat} {f : Addr} {fd : FuncData} (F : Fun K "law" "law" sLaw6 f fd) (T : Blt mg) (hk : 8 ≤ k) (c_l_at : FnBy P w K mg base CX0 1 "_law_at" ["_law_script", "_law_k"] (spAt K))
    (c_l_drawn : FnBy P w K mg base CX0 2 "_law_drawn" ["_law_cells", "_law_count"] spDrawn) (c_answers : FnBy P w K mg base CX0 k "answers" ["count", "deeds"] spAns) (c_l_all_told : FnBy P w K mg base CX0 (k + 1) "_law_all_told" ["_law_count", "_law_deeds"] (spAfter AA)) (c_l_so : FnBy P w K mg base CX0 4 "_law_so" ["_law_found", "_law_meant"] (spSo 4))
    (c_l_new_hands : FnBy P w K mg base CX0 1 "_law_new_hands" ["_law_count"] spNewH) (c_l_due_answer : FnBy P w K mg base CX0 5 "_law_due_answer" ["_law_hall", "_law_deed", "_law_time"] spDueA) (c_l_alike : FnBy P w K mg base CX0 2 "_law_alike" ["_law_found", "_law_due"] spAlike) :
    FnOk P w K mg base CX0 (k + 2) f fd ["_law_script"] (spLaw K) := by
  refine F.ok scLaw6 (fun vs H Q E h => ?_) (fun cdv A outer s H vs Q E hr h => ?_)
  · obtain ⟨a, ns, rfl, _⟩ := h
    rfl
  · obtain ⟨a, ns, rfl, ha, q⟩ := h
    have SC := scLaw6
    have hu0 : A.units + 3 + 100 < cLine := by
      have := hr.un
      have e : (A.deeper (PyProof.Rows.envOfC "law" (defScope sLaw6) s.heap.objs.size f cdv)).units = A.units + 3 := rfl
      omega
    refine ⟨_, (pss_cons (ps_set (i := 1) SC.nd (by rfl) (Or.inl (by rfl)) (pe_ix ix_seq (pe_lstN (pac pe_int (pac pe_int (pac pe_int (pac pe_int (pac pe_int (pac pe_int (pac pe_int (pac pe_int pa_nil))))))))) (pe_op op_mod (pe_op op_mod (pe_op op_mul (pe_fn c_l_at (hr.mono (by omega)) (by rfl) pass0 (pac (pv 0) (pac pe_int pa_nil))) pe_int) pe_int) pe_int) (by exact fun _ _ => rfl)))
      (pss_cons (ps_set (i := 2) SC.nd (by rfl) (Or.inl (by rfl)) (pe_fn c_l_drawn (hr.mono (by omega)) (by rfl) pass0 (pac (pe_slice sl_list (pv 0) (po_some pe_int) (po_some pe_int)) (pac (pv 1) pa_nil))))
      (pss_cons (ps_set (i := 3) SC.nd (by rfl) (Or.inl (by rfl)) (pe_callTy call_listN (by rfl) T.b_list PyProof.Rows.Boot.list (pac (pv 2) pa_nil)))
      (pss_cons (ps_set (i := 4) SC.nd (by rfl) (Or.inl (by rfl)) (pe_fn c_answers (hr.mono (by omega)) (by rfl) pass0 (pac (pv 1) (pac (pv 3) pa_nil))))
      (pss_cutE (ps_if (pw_or (pt_not (pt_val (pe_callB (call_isinst (T := "list")) (by rfl) T.b_isinstance PyProof.Rows.Boot.isinstance (pac (pv 4) (pac (pe_ty (by rfl) T.b_list PyProof.Rows.Boot.list) pa_nil))))) (pw_or (pt_cmpR op_ne (pe_callB call_len_seq (by rfl) T.b_len PyProof.Rows.Boot.len (pac (pv 4) pa_nil)) (pe_callB call_len_seq (by rfl) T.b_len PyProof.Rows.Boot.len (pac (pv 2) pa_nil)) (nomark _)) (pw_or1 (pt_cmpR op_neD (pv 3) (pv 2) (nomark _))))).pt pss_dead pss_nil)
      (pss_cons (ps_set (i := 5) SC.nd (by rfl) (Or.inl (by rfl)) (pe_disp (pps_cons pe_str (pe_fn c_l_new_hands (hr.mono (by omega)) (by rfl) pass0 (pac (pv 1) pa_nil)) (pps_cons pe_str (pe_lstN pa_nil) pps_nil)) rfl rfl (List.cons_ne_nil _ _) (Nat.le_of_ble_eq_true rfl)))
      (pss_cutE (ps_for PassesOwn.never rfl (pi_range1 (by rfl) T.b_range (pac (pe_callB call_len_seq (by rfl) T.b_len PyProof.Rows.Boot.len (pac (pv 2) pa_nil)) pa_nil)) (pg_name (i := 6) SC.nd (by rfl) (Or.inl (by rfl))) (pss_one (ps_if (pt_not (pt_val (pe_fn c_l_alike (hr.mono (by omega)) (by rfl) pass0 (pac (pe_ix ix_seq (pv 4) (pv 6) (by exact fun _ _ => rfl)) (pac (pe_fn c_l_due_answer (hr.mono (by omega)) (by rfl) pass0 (pac (pv 5) (pac (pe_ix ix_seq (pv 2) (pv 6) (by exact fun _ _ => rfl)) (pac (pv 6) pa_nil)))) pa_nil))))) pss_dead pss_nil)))
      (pss_cons (ps_set (i := 7) SC.nd (by rfl) (Or.inl (by rfl)) (pe_fn c_l_all_told (hr.mono (by omega)) (by rfl) pass0 (pac (pv 1) (pac (pv 2) pa_nil))))
      (pss_cons (ps_if (pt_cmpR op_isN (pv 7) pe_non (nomark _)) pss_dead pss_nil)
      (pss_cons (ps_if (pt_not (pt_val (pe_fn c_l_so (hr.mono (by omega)) (by rfl) pass0 (pac (pe_ix ix_seq (pv 7) pe_int (by exact fun _ _ => rfl)) (pac (pe_lc (N' := ["_law_visit"]) (ix := [none]) (by exact comp_sc rfl (by rfl) (by rfl)) rfl (pi_list (pe_dget (hu_of hr) (pv 5) pe_str (by exact fun _ _ => rfl))) (fun _ _ _ _ _ => (pg_comp (i := 0) (by decide +kernel) (by rfl) (by rfl))) (fun _ _ _ _ _ => pts_nil) (fun _ _ _ _ _ => (pe_callTy (call_tupleK (K := K) rfl) (by rfl) T.b_tuple PyProof.Rows.Boot.tuple (pac (pv 0) pa_nil)))) pa_nil))))) pss_dead pss_nil)
      (pss_cons (ps_set (i := 8) SC.nd (by rfl) (Or.inl (by rfl)) (pe_lstN pa_nil))
      (pss_cons (ps_for PassesOwn.never rfl (pi_list (pe_dget (hu_of hr) (pv 5) pe_str (by exact fun _ _ => rfl))) (pg_name (i := 9) SC.nd (by rfl) (Or.inl (by rfl))) (pss_one (ps_expr (pe_bm PySem.F.plainAttrs_list PySem.F.slot_list_append PySem.F.type_list_append mt_appendN (pv 8) (pac (pe_tupN (pac (pe_dget (hu_of hr) (pv 9) pe_str (by exact fun _ _ => rfl)) (pac (pe_dget (hu_of hr) (pv 9) pe_str (by exact fun _ _ => rfl)) (pac (pe_dget (hu_of hr) (pv 9) pe_str (by exact fun _ _ => rfl)) pa_nil)))) pa_nil)))))
      (pss_one (ps_ret (pe_fn c_l_so (hr.mono (by omega)) (by rfl) pass0 (pac (pe_ix ix_seq (pv 7) pe_int (by exact fun _ _ => rfl)) (pac (pv 8) pa_nil))))))))))))))))), ?_⟩
    walk_at "rd"
    refine ⟨by decide, fun p0 G0 n0 => ?_⟩
    have ha0 := n0.same.seq ha
    refine ⟨a, 0, ns, rfl, ha0, _, rfl, cmul_a _, ?_⟩
    refine rix_l n0.at (at_cnt8 _) ?_
    generalize hn : cnt8 (ns.getD 0 0) = n
    have hp : 0 < n ∧ n ≤ 7 := hn ▸ cnt8_pos _
    walk_at "rd"
    refine ⟨_, rfl, 1, rfl, 31, rfl, a, _, rfl, ha0, fun p1 hp1 => ?_⟩
    have ec : cutV (ns.map V.int) (some 1) (some 31) = ((ns.drop 1).take 30).map V.int := cut_cellsN ns 1 30
    rw [ec]
    generalize hc : (ns.drop 1).take 30 = cs
    have hcl : cs.length ≤ 30 := by
      rw [← hc, List.length_take]
      omega
    have n1 : New G0 p1 (.lst (cs.map V.int)) (upd G0 p1 (.lst (cs.map V.int))) := ⟨hp1, rfl⟩
    generalize upd G0 p1 (.lst (cs.map V.int)) = G1 at n1
    refine ⟨p1, cs, n, rfl, n1.at, by omega, by omega, by omega, fun v2 G2 s2 d2 => ?_⟩
    have hdl := drawn_len cs n (by omega) (by omega)
    have hok := drawn_ok cs n (by omega) (by omega)
    have hinn := drawn_inn cs hp.1
    generalize drawnOf cs n = ds at d2 hdl hok hinn
    obtain ⟨l2, x2, rfl, hl2, dx2⟩ := dv_same_lst d2
    refine ⟨l2, rfl, x2, .inl (.of hl2), fun l3 G3 n3 => ?_⟩
    refine ⟨n, .ref l3, ds, rfl, by omega, by omega, ⟨by omega, hok⟩, dv_lst n3.at (DVs.mono n3.same dx2), fun v4 G5 s5 d4 => ?_⟩
    obtain ⟨l4, x4, rfl, hl4, dx4⟩ := dv_same_lst d4
    rw [Int.toNat_natCast] at dx4
    have s25 := n3.same.trans s5
    have s15 : Same H G5 := n0.same.trans (n1.same.trans (s2.trans s25))
    have hl3 := s5 _ _ n3.at
    have dx2 := DVs.mono s25 dx2
    have hl2 := s25 _ _ hl2
    have lx2 : x2.length = ds.length := by rw [dx2.length, List.length_map]
    have lx4 : x4.length = ds.length := by rw [dx4.length, List.length_map, Rm.run_length, List.length_map]
    refine ⟨fun σ H2 => H2 = G5 ∧ σ = [some (.ref a), some (.int n), some (.ref l2), some (.ref l3), some (.ref l4), none, none, none, none, none], ?_, ?_⟩
    · walk_at "rd"
      refine ⟨_, .lst hl4, true, rfl, ?_⟩
      rw [if_neg (by simp)]
      refine ⟨x4, .inl (.of hl4), x2, .inl (.of hl2), ?_⟩
      rw [if_neg (by rw [lx2, lx4]; simp)]
      refine ⟨ds.map Dd.dat, ds.map Dd.dat, .inl ⟨dv_lst hl3 dx2, dv_lst hl2 dx2⟩, ?_, _, rfl, ?_⟩
      · show A.units + 3 + 1 + _ + _ < cLine
        have := deps_dd ds
        omega
      · rw [Dat.beqs_refl, if_neg (by simp)]
    · rintro σ H2 ⟨rfl, rfl⟩
      walk_at "rd"
      intro p hp0
      simp only [tPairs]
      walk_at "rd"
      refine ⟨n, rfl, by omega, fun lh dh oh G6 s6 fl el hs inj => ⟨Nat.zero_le _, fun lv G7 n7 => ⟨n7.same _ _ (s6 _ _ upd_same), [(kHands, .ref lh), (kVisits, .ref lv)], rfl, by simp, ?_⟩⟩⟩
      rw [merge_hall]
      have ph : Put G7 p (.dK (kvHall lh lv)) (upd G7 p (.dK (kvHall lh lv))) := ⟨rfl⟩
      generalize upd G7 p (.dK (kvHall lh lv)) = Gh at ph
      obtain ⟨a0, s0⟩ := hall_new hp0 s6 fl el hs inj n7 ph
      refine ⟨fun σ H3 => ∃ (x6 : Option V) (B : Pl), σ = [some (.ref a), some (.int n), some (.ref l2), some (.ref l3), some (.ref l4), some (.ref p), x6, none, none, none] ∧ B.hh = p ∧ AtPl n B (Rm.run n (ds.map Dd.deed)).1 H3 ∧ Same H2 (apO (B.Ow n (Rm.run n (ds.map Dd.deed)).1.m) H3), ?_, ?_⟩
      · refine rfor_range (fun R R' hR ⟨v1, e, p, e2, ys, hs, h⟩ => ⟨v1, e, p, e2, ys, hs, hR _ _ h⟩) ⟨_, rfl, l2, rfl, x2, .inl (.of (apO_of (s0 _ _ hl2)).1), _, rfl, by omega, by omega, fun i σ H3 => ∃ (x6 : Option V) (B : Pl), σ = [some (.ref a), some (.int n), some (.ref l2), some (.ref l3), some (.ref l4), some (.ref p), x6, none, none, none] ∧ B.hh = p ∧ AtPl n B (Rm.run n ((ds.take i).map Dd.deed)).1 H3 ∧ Same H2 (apO (B.Ow n (Rm.run n ((ds.take i).map Dd.deed)).1.m) H3), ⟨none, _, rfl, rfl, a0, s0⟩, ?_, ?_⟩
        · rintro i σ H3 hi ⟨x6, B, rfl, eh, a3, s3⟩
          rw [Int.toNat_natCast, lx2] at hi
          have gd : (ds.map Dd.deed)[i]? = some ds[i].deed := by simp [hi]
          obtain ⟨ga, gr⟩ := run_get n (ds.map Dd.deed) i ds[i].deed gd
          have I := Rm.run_inv n ((ds.take i).map Dd.deed)
          have rm := run_m n ((ds.take i).map Dd.deed)
          rw [List.length_map, List.length_take, Nat.min_eq_left (by omega)] at I rm
          rw [← List.map_take, ← List.map_take] at gr
          rw [← List.map_take] at ga
          simp only [gr]
          generalize (Rm.run n ((ds.take i).map Dd.deed)).1 = R at ga gr I rm a3 s3
          obtain ⟨y4, g4, dy4⟩ := dx4.get (i := i) (d := ansD (Rm.deedA n i R ds[i].deed).2) (by rw [List.getElem?_map, ga]; rfl)
          obtain ⟨y2, g2, dy2⟩ := dx2.get (i := i) (d := ds[i].dat) (by simp [hi])
          obtain ⟨pd, rfl, hpd⟩ := dv_dd dy2
          have s3' : Same H2 H3 := s3.trans apO_le
          walk_at "rd"
          simp only [Int.zero_add]
          refine rix_l (s3' _ _ hl4) (atI_at g4) (rix_l (s3' _ _ hl2) (atI_at g2) ?_)
          refine ⟨n, B, R, i, pd, ds[i], by rw [eh], a3, I, by omega, by omega, hok _ (List.getElem_mem hi), hinn _ (List.getElem_mem hi), s3' _ _ hpd, fun B' v G eh' aG sG dG => ?_⟩
          refine ⟨y4, v, (Rm.deedA n i R ds[i].deed).2, rfl, DV.mono ((s3.trans sG).trans apO_le) dy4, DV.mono apO_le dG, true, rfl, ?_⟩
          rw [if_neg (by simp)]
          exact ⟨B', eh'.trans eh, aG, s3.trans sG⟩
        · rintro σ H3 ⟨x6, B, rfl, eh, a3, s3⟩
          rw [Int.toNat_natCast, lx2, List.take_length] at a3 s3
          exact ⟨x6, B, rfl, eh, a3, s3⟩
      · rintro σ H3 ⟨x6, B, rfl, rfl, a3, s3⟩
        walk_at "rd"
        have s23 : Same H2 H3 := s3.trans apO_le
        refine ⟨n, .ref l2, ds, rfl, by omega, by omega, ⟨by omega, hok⟩, dv_lst (s23 _ _ hl2) (DVs.mono s23 dx2), fun v7 G8 s8 d7 => ?_⟩
        obtain ⟨b, b0, b1, ys, zs, rfl, hb, hb0, db0, hb1, db1⟩ := dv_found d7
        have eA1 : (AA n ds).1 = (List.range (Rm.run n (ds.map Dd.deed)).1.m).map (Rm.run n (ds.map Dd.deed)).1.vis := by simp only [AA, Int.toNat_natCast]
        have eA2 : (AA n ds).2 = seenL n (Rm.run n (ds.map Dd.deed)).1.hands := by simp only [AA, seenL, Int.toNat_natCast]
        rw [eA1] at db0
        rw [eA2] at db1
        have rm := run_m n (ds.map Dd.deed)
        rw [List.length_map] at rm
        generalize (Rm.run n (ds.map Dd.deed)).1 = R at a3 s3 db0 db1 rm
        have a8 := a3.mono s8
        rw [if_neg (by simp)]
        refine rix_t hb (show _ = some (.ref b0) from rfl) ?_
        refine rlc_list (fun R R' i => mono_dgv i) ⟨_, rfl, B.hh, _, rfl, dg (k := kVisits) a8.hall (g_visits _ _), B.lv, _, rfl, .of a8.visits, fun acc hacc => ⟨fun i σ H4 => ∃ x ws, σ = [x] ∧ Same G8 H4 ∧ H4 acc = some (.lst ws) ∧ DVs H4 ws (((List.range i).map R.vis).map visitD), ⟨none, [], rfl, (Same.refl _).new hacc, upd_same, DVs.nil⟩, fun i σ H4 _ ⟨x, _, _, sm, _⟩ => .of (sm _ _ a8.visits), ?_, ?_⟩⟩
        · rintro i y σ H4 hi ⟨x, ws, rfl, sm, el, dy⟩
          have him : i < R.m := by
            have := (List.getElem?_eq_some_iff.mp hi).1
            simpa using this
          rw [List.getElem?_map, List.getElem?_range him] at hi
          cases hi
          walk_at "rd"
          refine ⟨_, .of (sm _ _ (a8.vis i him)), fun l G nl => ?_⟩
          have e2 := nl.same _ _ el
          have yl := dy.length
          simp only [List.length_map, List.length_range] at yl
          refine ⟨ws, e2, lt_size (by omega), fun e u z => ?_, ws ++ [.ref l], upd_same, ?_⟩
          · rw [upd_ne fun y => by rw [y, hacc] at z; cases z]
            exact nl.same _ _ (sm _ _ z)
          · rw [List.range_succ, List.map_append, List.map_append]
            refine DVs.append (Put.dvs (⟨rfl⟩ : Put G acc _ _) e2 (vd_noLst _) (DVs.mono nl.same dy)) (DVs.one (Put.dv (⟨rfl⟩ : Put G acc _ _) e2 (vd_noLst1 _) (dv_vis nl.at)))
        · rintro σ H4 ⟨x, ws, rfl, s4, el, dw⟩
          rw [List.length_map, List.length_range] at dw
          refine ⟨.ref b0, .ref acc, _, rfl, dv_lst (s4 _ _ hb0) (DVs.mono s4 db0), dv_lst el dw, dep_visL _, fun G9 s9 => ⟨true, rfl, ?_⟩⟩
          rw [if_neg (by simp)]
          walk_at "rd"
          refine ⟨Nat.zero_le _, fun l8 G10 n10 => ?_⟩
          have a9 := a8.mono (s4.trans s9)
          have f10 := n10.free
          refine rfor_list (fun R R' i => mono_dgv i) ⟨_, rfl, B.hh, _, rfl, dg (k := kHands) (n10.same _ _ a9.hall) (g_hands _ _), B.lh, _, rfl, .of (n10.same _ _ a9.hands), fun i σ H5 => ∃ x9 us, σ = [some (.ref a), some (.int n), some (.ref l2), some (.ref l3), some (.ref l4), some (.ref B.hh), x6, some (.ref b), some (.ref l8), x9] ∧ Same G9 H5 ∧ H5 l8 = some (.lst us) ∧ DVs H5 us ((seenL i R.hands).map seenD), ⟨none, [], rfl, n10.same, n10.at, DVs.nil⟩, fun i σ H5 _ ⟨_, _, _, sm, _⟩ => .of (sm _ _ a9.hands), ?_, ?_⟩
          · rintro i y σ H5 hi ⟨x9, us, rfl, sm, e8, du⟩
            have him : i < n := by
              have := (List.getElem?_eq_some_iff.mp hi).1
              simpa using this
            rw [List.getElem?_map, List.getElem?_range him] at hi
            cases hi
            obtain ⟨x, hd, hx⟩ := a9.hand i him
            have hd := sm _ _ hd
            have ul := du.length
            simp only [seenL, List.length_map, List.length_range] at ul
            walk_at "rd"
            refine ⟨.inl ⟨rfl, _, .of e8⟩, _, dg (k := kFlag) hd (g_flag _), _, dg (k := kTicket) hd (g_ticket _), _, dg (k := kWhere) hd (g_where _), by decide, fun p G np => ⟨l8, _, _, rfl, rfl, np.same _ _ e8, lt_size (by omega), fun G' pp => ⟨pp.same (sm.trans np.same) f10, _, pp.at, ?_⟩⟩⟩
            have es : seenL (i + 1) R.hands = seenL i R.hands ++ [((R.hands i).flag, (R.hands i).ticket, wS (R.hands i).word)] := by simp only [seenL, List.range_succ, List.map_append, List.map_cons, List.map_nil]
            rw [es, List.map_append]
            have dt := dv_seenT np.at
            rw [hx.rel.flag, hx.rel.ticket, hx.rel.word] at dt
            exact DVs.append (Put.dvs pp (np.same _ _ e8) (sd_noLst _) (DVs.mono np.same du)) (DVs.one (Put.dv pp (np.same _ _ e8) rfl dt))
          · rintro σ H5 ⟨x9, us, rfl, sm, e8, du⟩
            rw [List.length_map, List.length_range] at du
            walk_at "rd"
            have s85 := s4.trans (s9.trans sm)
            refine rix_t (s85 _ _ hb) (show _ = some (.ref b1) from rfl) ⟨.ref b1, .ref l8, _, rfl, dv_lst (s85 _ _ hb1) (DVs.mono s85 db1), dv_lst e8 du, dep_seenL _, fun G11 s11 => ?_⟩
            exact q _ (s15.trans (s23.trans (s8.trans (s85.trans s11))))
end
/-! what k06 has at the top -/
structure TopR (K : PySem.W.Frag) : Prop where
  so : FnTop K "_law_so" "_law_so" sSo
  newH : FnTop K "_law_new_hands" "_law_new_hands" sNewH
  fur : FnTop K "_law_further" "_law_further" sFur
  door : FnTop K "_law_door_step" "_law_door_step" sDoor
  wait : FnTop K "_law_wait_step" "_law_wait_step" sWait
  one : FnTop K "_law_one_step" "_law_one_step" sOne
  gone : FnTop K "_law_gone_out" "_law_gone_out" sGone
  dueR : FnTop K "_law_due_round" "_law_due_round" sDueR
  dueA : FnTop K "_law_due_answer" "_law_due_answer" sDueA
  alike : FnTop K "_law_alike" "_law_alike" sAlike
  bd : PySem.W.nsIn K mainGlobals "dict" = some none
  bm : PySem.W.nsIn K mainGlobals "max" = some none
theorem all_mk {l : PySem.W.OpenLaw} {w : World} {K : PySem.W.Frag} {h : Heap} {mg : Str → Option Value} {fa C R dO dL eN eI eW eO S : Addr} (X : K.In h) (G : h.Ns mainGlobals mg) (hfa : mg "law" = some (.ref fa)) (T : TopP K w C R dO dL eN eI eW eO) (U : TopS K S eN eI eW eO) (V1 : FnTop K "answers" "answers" sAnswers) (V2 : FnTop K "all_after" "all_after" sAllAfter) (L : TopC K) (N : TopR K) (m : FnTop K "law" "law" sLaw6) :
    ∃ fd : FuncData, (∀ (s : Shared) (v : Value), BindsTo s fd ⟨[v], []⟩ [("_law_script", v)]) ∧ ∀ base : Heap, K.In base → base.Ns mainGlobals mg → FnOk l.prog w K mg base CX0 11 fa fd ["_law_script"] (spLaw K) := by
  have B := L.blt X G
  refine law_of m X G hfa (fun _ _ _ _ _ _ us hl => match us, hl with | [_], _ => rfl) fun base _ _ f fd F => ?_
  have H := helps L X G (by decide) (after_mk (P := l.prog) (w := w) (base := base) T U V2 X G B)
  obtain ⟨fs, fds, Fs, as⟩ := N.so.ex
  have so4 := so_all (P := l.prog) (w := w) (base := base) Fs B (PySem.W.mg_none_of X G N.bd) (PySem.W.mg_of X G as) Fs.kp (Fs.binds fun _ _ _ _ _ _ us hl => match us, hl with | [_, _], _ => rfl) 4
  have newH := N.newH.by (P := l.prog) (w := w) (base := base) X G (fun _ _ _ _ _ _ us hl => match us, hl with | [_], _ => rfl) fun f fd F => ok_newH F B
  have fur := N.fur.by (P := l.prog) (w := w) (base := base) X G (fun _ _ _ _ _ _ us hl => match us, hl with | [_, _, _], _ => rfl) fun f fd F => ok_fur F B
  have door := N.door.by (P := l.prog) (w := w) (base := base) X G (fun _ _ _ _ _ _ us hl => match us, hl with | [_, _, _], _ => rfl) fun f fd F => ok_door F (PySem.W.mg_none_of X G N.bm) fur
  have wait := N.wait.by (P := l.prog) (w := w) (base := base) X G (fun _ _ _ _ _ _ us hl => match us, hl with | [_, _, _], _ => rfl) fun f fd F => ok_wait F B fur
  have one := N.one.by (P := l.prog) (w := w) (base := base) X G (fun _ _ _ _ _ _ us hl => match us, hl with | [_, _, _], _ => rfl) fun f fd F => ok_one F door wait
  have gone := N.gone.by (P := l.prog) (w := w) (base := base) X G (fun _ _ _ _ _ _ us hl => match us, hl with | [_, _], _ => rfl) fun f fd F => ok_gone F
  have dueR := N.dueR.by (P := l.prog) (w := w) (base := base) X G (fun _ _ _ _ _ _ us hl => match us, hl with | [_, _], _ => rfl) fun f fd F => ok_dueR F B gone one
  have dueA := N.dueA.by (P := l.prog) (w := w) (base := base) X G (fun _ _ _ _ _ _ us hl => match us, hl with | [_, _, _], _ => rfl) fun f fd F => ok_dueA F B dueR gone one
  have alike := N.alike.by (P := l.prog) (w := w) (base := base) X G (fun _ _ _ _ _ _ us hl => match us, hl with | [_, _], _ => rfl) fun f fd F => ok_alike F B H.whole
  exact ok_law6 F B (by decide) H.at_ H.drawn (answers_mk T U V1 X G B) H.told so4 newH dueA alike
theorem walk {l : PySem.W.OpenLaw} {q : Program} {loose : List Str} {XP : (Str → Option Value) → Heap → Prop} {YP : World → Heap → Prop} {d : DefRec} {K : Params → PySem.W.Frag} (hn : l.most = some 63) (hdf : d.params.defaults = [])
    (hY : ∀ (w : World) (h : Heap), YP w h → (K w.params).In h)
    (F : ∀ (w : World) (mg : Str → Option Value) (fa : Addr) (h : Heap), (K w.params).In h → h.Ns mainGlobals mg → mg d.name = some (.ref fa) →
      ∃ fd : FuncData, (∀ (s : Shared) (u : Value), BindsTo s fd ⟨[u], []⟩ [("_law_script", u)]) ∧ ∀ base : Heap, (K w.params).In base → base.Ns mainGlobals mg → FnOk l.prog w (K w.params) mg base CX0 11 fa fd ["_law_script"] (spLaw (K w.params))) :
    PySem.W.WalkO q loose XP YP l.row.toRowW d [] (fun f vs => PySem.call f vs) :=
  L2.walk_of (n := 63) (k := 11) (x := "_law_script") (CX := fun _ => CX0) (sp := fun w => spLaw (K w.params)) hn (by decide) hdf ⟨rfl, by decide, by decide⟩ hY F (fun _ _ a ns hl _ hS => ⟨a, ns, rfl, hS, fun _ _ => rfl⟩) fun _ _ _ _ _ z => z
end Toy
def PySem.W.Fast.tw1803372468347802692 : Unit := ()
def PySem.W.Fast.tw5245901418393403601 : Unit := ()
def PySem.W.Fast.tw9388588278034962747 : Unit := ()
def PySem.W.Fast.tw11602198974752452836 : Unit := ()
def PySem.W.Fast.tw15470340708414687674 : Unit := ()
def PySem.W.Fast.tw12140218117644076847 : Unit := ()
def PySem.W.Fast.tw7308171654751278873 : Unit := ()
def PySem.W.Fast.tw1447058636933671931 : Unit := ()
def PySem.W.Fast.tw15318610224529426654 : Unit := ()
def PySem.W.Fast.tw11903309566342833556 : Unit := ()
def PySem.W.Fast.tw1910466286182648627 : Unit := ()
def PySem.W.Fast.tw14799042948935595562 : Unit := ()
def PySem.W.Fast.tw9172032364743775172 : Unit := ()
def PySem.W.Fast.tw14398139857552231169 : Unit := ()
def PySem.W.Fast.tw13288488672730483811 : Unit := ()
def PySem.W.Fast.tw15280811914073069528 : Unit := ()
def PySem.W.Fast.tw4665587916784051279 : Unit := ()
def PySem.W.Fast.tw17118488330515676873 : Unit := ()
def PySem.W.Fast.tw3874804821891245368 : Unit := ()
def PySem.W.Fast.tw7961187533997978432 : Unit := ()
def PySem.W.Fast.tw5242856108870017473 : Unit := ()
def PySem.W.Fast.tw12708819904113672905 : Unit := ()
def PySem.W.Fast.tw16429598092959321358 : Unit := ()
def PySem.W.Fast.tw15829225960412374059 : Unit := ()
def PySem.W.Fast.tw1047369007940618852 : Unit := ()
def PySem.W.Fast.tw3940662527044324410 : Unit := ()
def PySem.W.Fast.tw3701730274253936622 : Unit := ()
def PySem.W.Fast.tw10769688444378942113 : Unit := ()
def PySem.W.Fast.tw13439394315282994334 : Unit := ()
def PySem.W.Fast.tw3138872908013663265 : Unit := ()
def PySem.W.Fast.tw17345672335786952068 : Unit := ()
def PySem.W.Fast.tw1100134703220232377 : Unit := ()
def PySem.W.Fast.tw4548739595890254671 : Unit := ()
def PySem.W.Fast.tw1844205523251129573 : Unit := ()
def PySem.W.Fast.tw18044878382298152295 : Unit := ()
def PySem.W.Fast.tw3212696262428017874 : Unit := ()
def PySem.W.Fast.tw4423239529440368125 : Unit := ()
def PySem.W.Fast.tw12703542670217379985 : Unit := ()
def PySem.W.Fast.tw14008605258597150783 : Unit := ()
def PySem.W.Fast.tw761195712994865676 : Unit := ()
def PySem.W.Fast.tw1093370265377153434 : Unit := ()
def PySem.W.Fast.tw3817613376375741237 : Unit := ()
def PySem.W.Fast.tw11673885349211429768 : Unit := ()
def PySem.W.Fast.tw4582614981226663711 : Unit := ()
def PySem.W.Fast.tw9464559233888099064 : Unit := ()
def PySem.W.Fast.tw3402155527493429700 : Unit := ()
def PySem.W.Fast.tw14496146381741415417 : Unit := ()
def PySem.W.Fast.tw737517653446986620 : Unit := ()
def PySem.W.Fast.tw6421603133285660712 : Unit := ()
def PySem.W.Fast.tw4945067557657757867 : Unit := ()
def PySem.W.Fast.tw10865873716003481789 : Unit := ()
def PySem.W.Fast.tw5619010070828683158 : Unit := ()
def PySem.W.Fast.tw650876394622419564 : Unit := ()
def PySem.W.Fast.tw6975008349513779388 : Unit := ()
def PySem.W.Fast.tw7780057984887149283 : Unit := ()
def PySem.W.Fast.tw8749666828031536454 : Unit := ()
def PySem.W.Fast.tw6087306914717726744 : Unit := ()
def PySem.W.Fast.tw14792280979124210810 : Unit := ()
def PySem.W.Fast.tw13358486530941433789 : Unit := ()
def PySem.W.Fast.tw16428200811381418065 : Unit := ()
def PySem.W.Fast.tw16920738080579350999 : Unit := ()
def PySem.W.Fast.tw11723262254867694540 : Unit := ()
def PySem.W.Fast.tw17907333922637278644 : Unit := ()
def PySem.W.Fast.tw18408663197061936310 : Unit := ()
def PySem.W.Fast.tw11852700657953624714 : Unit := ()
def PySem.W.Fast.tw2611977129510441577 : Unit := ()
def PySem.W.Fast.tw423944668144932686 : Unit := ()
def PySem.W.Fast.tw5924770765334096018 : Unit := ()
def PySem.W.Fast.tw3761577871976227705 : Unit := ()
def PySem.W.Fast.tw17115850553302346162 : Unit := ()
def PySem.W.Fast.tw2194970817712615220 : Unit := ()
def PySem.W.Fast.tw15399524883220349817 : Unit := ()
def PySem.W.Fast.tw5090385980019934393 : Unit := ()
def PySem.W.Fast.tw629947550325514034 : Unit := ()
def PySem.W.Fast.tw8501469018957433041 : Unit := ()
def PySem.W.Fast.tw2182332161317402786 : Unit := ()
def PySem.W.Fast.tw16255697090894846677 : Unit := ()
def PySem.W.Fast.tw18176824617470143119 : Unit := ()
def PySem.W.Fast.tw18127026584663826952 : Unit := ()
def PySem.W.Fast.tw7471176713782356193 : Unit := ()
def PySem.W.Fast.tw12002636204041755327 : Unit := ()
def PySem.W.Fast.tw14943271336199073020 : Unit := ()
def PySem.W.Fast.tw6160033305815566342 : Unit := ()
def PySem.W.Fast.tw8484886573252397781 : Unit := ()
def PySem.W.Fast.tw17807410748568615423 : Unit := ()
def PySem.W.Fast.tw15776131687370493531 : Unit := ()
def PySem.W.Fast.tw6856968371543012396 : Unit := ()
def PySem.W.Fast.tw17236471729656295750 : Unit := ()
def PySem.W.Fast.tw7634594750989515956 : Unit := ()
def PySem.W.Fast.tw9641173002401865132 : Unit := ()
def PySem.W.Fast.tw526045096157076143 : Unit := ()
def PySem.W.Fast.tw14729948081857519423 : Unit := ()
def PySem.W.Fast.tw3764596815316379959 : Unit := ()
def PySem.W.Fast.tw13762764959214832933 : Unit := ()
def PySem.W.Fast.tw5076501277433889481 : Unit := ()
def PySem.W.Fast.tw5184882542789472890 : Unit := ()
def PySem.W.Fast.tw16650864964114993840 : Unit := ()
def PySem.W.Fast.tw2469664146654808767 : Unit := ()
def PySem.W.Fast.tw10723974916466459859 : Unit := ()
def PySem.W.Fast.tw3429243371767976306 : Unit := ()
def PySem.W.Fast.tw6323041511974642398 : Unit := ()
def PySem.W.Fast.tw13546902011185930035 : Unit := ()
def PySem.W.Fast.tw14178102096128340812 : Unit := ()
def PySem.W.Fast.tw12320742755942391374 : Unit := ()
def PySem.W.Fast.tw6869450753815265054 : Unit := ()
def PySem.W.Fast.tw15743216491729134016 : Unit := ()
def PySem.W.Fast.tw8499932032070171903 : Unit := ()
def PySem.W.Fast.tw17249690584351680628 : Unit := ()
def PySem.W.Fast.tw11337783753609342484 : Unit := ()
def PySem.W.Fast.tw5407220568249052680 : Unit := ()
def PySem.W.Fast.tw7382574631164457664 : Unit := ()
def PySem.W.Fast.tw8726758249553932550 : Unit := ()
open PySem PySem.W PyProof.Rows
set_option maxRecDepth 100000 in
set_option maxHeartbeats 0 in
theorem PySem.Challenge.cw_ticketroom_k06_plain_story_holds : PySem.Challenge.rw_ticketroom_k06_plain_story.Holds := by
  w_on; o_law; k_head; (case hw => w_witness2)
  k_fill
  refine Toy.walk (l := PySem.Challenge.rw_ticketroom_k06_plain_story) rfl rfl (fun w h Y => PySem.W.kIn_of Y) ?F
  case F =>
    intro w mg fa h KX G hmg
    refine' Toy.all_mk KX G hmg ⟨(L2.clTop ?ha_0a ?ha_0g ?ha_0d ?ha_0o ?ha_0s), ?ha_1, ?ha_2, ?ha_3, ?ha_4, ?ha_5, ?ha_6, ?ha_7, (L2.meTop ?ha_8a ?ha_8i ?ha_8l ?ha_8c ?ha_8k), (L2.meTop ?ha_9a ?ha_9i ?ha_9l ?ha_9c ?ha_9k), (L2.meTop ?ha_10a ?ha_10i ?ha_10l ?ha_10c ?ha_10k), (L2.mkTop ?ha_11a ?ha_11i ?ha_11l ?ha_11c ?ha_11k ?ha_11m ?ha_11q), (L2.fnTop ?ha_12a ?ha_12l ?ha_12c ?ha_12k), (L2.dTop ?ha_13a ?ha_13l ?ha_13K ?ha_13D), (L2.dfTop ?ha_14a ?ha_14l ?ha_14c ?ha_14k), (L2.dfTop ?ha_15a ?ha_15l ?ha_15c ?ha_15k), (L2.dfTop ?ha_16a ?ha_16l ?ha_16c ?ha_16k), (L2.dfTop ?ha_17a ?ha_17l ?ha_17c ?ha_17k), ?ha_18, ?ha_19, ?ha_20, ?ha_21, ?ha_22, (L2.dTop ?ha_23a ?ha_23l ?ha_23K ?ha_23D), (L2.dfTop ?ha_24a ?ha_24l ?ha_24c ?ha_24k), (L2.dfTop ?ha_25a ?ha_25l ?ha_25c ?ha_25k), (L2.dfTop ?ha_26a ?ha_26l ?ha_26c ?ha_26k), (L2.fnTop ?ha_27a ?ha_27l ?ha_27c ?ha_27k), (L2.clTop ?ha_28a ?ha_28g ?ha_28d ?ha_28o ?ha_28s), ?ha_29, (L2.meTop ?ha_30a ?ha_30i ?ha_30l ?ha_30c ?ha_30k), (L2.meTop ?ha_31a ?ha_31i ?ha_31l ?ha_31c ?ha_31k), (L2.meTop ?ha_32a ?ha_32i ?ha_32l ?ha_32c ?ha_32k), (L2.meTop ?ha_33a ?ha_33i ?ha_33l ?ha_33c ?ha_33k), (L2.meTop ?ha_34a ?ha_34i ?ha_34l ?ha_34c ?ha_34k), (L2.mkTop ?ha_35a ?ha_35i ?ha_35l ?ha_35c ?ha_35k ?ha_35m ?ha_35q), (L2.strTop ?ha_36a), (L2.strTop ?ha_37a), (L2.strTop ?ha_38a), (L2.strTop ?ha_39a), (L2.strTop ?ha_40a), (L2.strTop ?ha_41a), (L2.strTop ?ha_42a), (L2.strTop ?ha_43a), (L2.strTop ?ha_44a), (L2.strTop ?ha_45a), (L2.XTop.mk ?ha_46a ?ha_46e), (L2.XTop.mk ?ha_47a ?ha_47e), (L2.XTop.mk ?ha_48a ?ha_48e), (L2.XTop.mk ?ha_49a ?ha_49e), ?ha_50⟩ ⟨(L2.clTop ?hb_0a ?hb_0g ?hb_0d ?hb_0o ?hb_0s), ?hb_1, ?hb_2, ?hb_3, ?hb_4, (L2.mkTop ?hb_5a ?hb_5i ?hb_5l ?hb_5c ?hb_5k ?hb_5m ?hb_5q), (L2.meTop ?hb_6a ?hb_6i ?hb_6l ?hb_6c ?hb_6k), (L2.meTop ?hb_7a ?hb_7i ?hb_7l ?hb_7c ?hb_7k), (L2.meTop ?hb_8a ?hb_8i ?hb_8l ?hb_8c ?hb_8k), (L2.meTop ?hb_9a ?hb_9i ?hb_9l ?hb_9c ?hb_9k), (L2.meTop ?hb_10a ?hb_10i ?hb_10l ?hb_10c ?hb_10k), (L2.meTop ?hb_11a ?hb_11i ?hb_11l ?hb_11c ?hb_11k), (L2.meTop ?hb_12a ?hb_12i ?hb_12l ?hb_12c ?hb_12k), (L2.meTop ?hb_13a ?hb_13i ?hb_13l ?hb_13c ?hb_13k), (L2.strTop ?hb_14a), (L2.strTop ?hb_15a), (L2.strTop ?hb_16a), (L2.intTop ?hb_17a), (L2.intTop ?hb_18a), (L2.intTop ?hb_19a), (L2.intTop ?hb_20a), ?hb_21, ?hb_22, ?hb_23, ?hb_24, ?hb_25, ?hb_26, ?hb_27, ?hb_28, ?hb_29, ?hb_30⟩ (L2.fnTop ?hc_a ?hc_l ?hc_c ?hc_k) (L2.fnTop ?hd_a ?hd_l ?hd_c ?hd_k) ⟨(L2.fnTop ?he_0a ?he_0l ?he_0c ?he_0k), (L2.fnTop ?he_1a ?he_1l ?he_1c ?he_1k), (L2.fnTop ?he_2a ?he_2l ?he_2c ?he_2k), (L2.fnTop ?he_3a ?he_3l ?he_3c ?he_3k), (L2.fnTop ?he_4a ?he_4l ?he_4c ?he_4k), (L2.fnTop ?he_5a ?he_5l ?he_5c ?he_5k), (L2.fnTop ?he_6a ?he_6l ?he_6c ?he_6k), (L2.fnTop ?he_7a ?he_7l ?he_7c ?he_7k), ?he_8, ?he_9, ?he_10, ?he_11, ?he_12, ?he_13, ?he_14, ?he_15⟩ ⟨(L2.fnTop ?hf_0a ?hf_0l ?hf_0c ?hf_0k), (L2.fnTop ?hf_1a ?hf_1l ?hf_1c ?hf_1k), (L2.fnTop ?hf_2a ?hf_2l ?hf_2c ?hf_2k), (L2.fnTop ?hf_3a ?hf_3l ?hf_3c ?hf_3k), (L2.fnTop ?hf_4a ?hf_4l ?hf_4c ?hf_4k), (L2.fnTop ?hf_5a ?hf_5l ?hf_5c ?hf_5k), (L2.fnTop ?hf_6a ?hf_6l ?hf_6c ?hf_6k), (L2.fnTop ?hf_7a ?hf_7l ?hf_7c ?hf_7k), (L2.fnTop ?hf_8a ?hf_8l ?hf_8c ?hf_8k), (L2.fnTop ?hf_9a ?hf_9l ?hf_9c ?hf_9k), ?hf_10, ?hf_11⟩ (L2.fnTop ?hg_a ?hg_l ?hg_c ?hg_k)
    (case ha_0a => k_is); (case ha_0g => k_is); (case ha_0d => k_is); (case ha_0o => k_is); (case ha_0s => k_is); (case ha_1 => k_is)
    (case ha_2 => k_is); (case ha_3 => k_is); (case ha_4 => k_is); (case ha_5 => k_is); (case ha_6 => k_is); (case ha_7 => k_is)
    (case ha_8a => k_is); (case ha_8i => k_is); (case ha_8l => k_is); (case ha_8c => k_is); (case ha_8k => k_is); (case ha_9a => k_is)
    (case ha_9i => k_is); (case ha_9l => k_is); (case ha_9c => k_is); (case ha_9k => k_is); (case ha_10a => k_is); (case ha_10i => k_is)
    (case ha_10l => k_is); (case ha_10c => k_is); (case ha_10k => k_is); (case ha_11a => k_is); (case ha_11i => k_is); (case ha_11l => k_is)
    (case ha_11c => k_is); (case ha_11k => k_is); (case ha_11m => k_is); (case ha_11q => k_is); (case ha_12a => k_is); (case ha_12l => k_is)
    (case ha_12c => k_is); (case ha_12k => k_is); (case ha_13a => k_is); (case ha_13l => k_is); (case ha_13K => k_keys); (case ha_13D => decide)
    (case ha_14a => k_is); (case ha_14l => k_is); (case ha_14c => k_is); (case ha_14k => k_is); (case ha_15a => k_is); (case ha_15l => k_is)
    (case ha_15c => k_is); (case ha_15k => k_is); (case ha_16a => k_is); (case ha_16l => k_is); (case ha_16c => k_is); (case ha_16k => k_is)
    (case ha_17a => k_is); (case ha_17l => k_is); (case ha_17c => k_is); (case ha_17k => k_is); (case ha_18 => k_is); (case ha_19 => k_is)
    (case ha_20 => k_is); (case ha_21 => k_is); (case ha_22 => k_is); (case ha_23a => k_is); (case ha_23l => k_is); (case ha_23K => k_keys)
    (case ha_23D => decide); (case ha_24a => k_is); (case ha_24l => k_is); (case ha_24c => k_is); (case ha_24k => k_is); (case ha_25a => k_is)
    (case ha_25l => k_is); (case ha_25c => k_is); (case ha_25k => k_is); (case ha_26a => k_is); (case ha_26l => k_is); (case ha_26c => k_is)
    (case ha_26k => k_is); (case ha_27a => k_is); (case ha_27l => k_is); (case ha_27c => k_is); (case ha_27k => k_is); (case ha_28a => k_is)
    (case ha_28g => k_is); (case ha_28d => k_is); (case ha_28o => k_is); (case ha_28s => k_is); (case ha_29 => k_is); (case ha_30a => k_is)
    (case ha_30i => k_is); (case ha_30l => k_is); (case ha_30c => k_is); (case ha_30k => k_is); (case ha_31a => k_is); (case ha_31i => k_is)
    (case ha_31l => k_is); (case ha_31c => k_is); (case ha_31k => k_is); (case ha_32a => k_is); (case ha_32i => k_is); (case ha_32l => k_is)
    (case ha_32c => k_is); (case ha_32k => k_is); (case ha_33a => k_is); (case ha_33i => k_is); (case ha_33l => k_is); (case ha_33c => k_is)
    (case ha_33k => k_is); (case ha_34a => k_is); (case ha_34i => k_is); (case ha_34l => k_is); (case ha_34c => k_is); (case ha_34k => k_is)
    (case ha_35a => k_is); (case ha_35i => k_is); (case ha_35l => k_is); (case ha_35c => k_is); (case ha_35k => k_is); (case ha_35m => k_is)
    (case ha_35q => k_is); (case ha_36a => k_is); (case ha_37a => k_is); (case ha_38a => k_is); (case ha_39a => k_is); (case ha_40a => k_is)
    (case ha_41a => k_is); (case ha_42a => k_is); (case ha_43a => k_is); (case ha_44a => k_is); (case ha_45a => k_is); (case ha_46a => k_is)
    (case ha_46e => k_exc); (case ha_47a => k_is); (case ha_47e => k_exc); (case ha_48a => k_is); (case ha_48e => k_exc); (case ha_49a => k_is)
    (case ha_49e => k_exc); (case ha_50 => k_is)
    (case hb_0a => k_is); (case hb_0g => k_is); (case hb_0d => k_is); (case hb_0o => k_is); (case hb_0s => k_is); (case hb_1 => k_is)
    (case hb_2 => k_is); (case hb_3 => k_is); (case hb_4 => k_is); (case hb_5a => k_is); (case hb_5i => k_is); (case hb_5l => k_is)
    (case hb_5c => k_is); (case hb_5k => k_is); (case hb_5m => k_is); (case hb_5q => k_is); (case hb_6a => k_is); (case hb_6i => k_is)
    (case hb_6l => k_is); (case hb_6c => k_is); (case hb_6k => k_is); (case hb_7a => k_is); (case hb_7i => k_is); (case hb_7l => k_is)
    (case hb_7c => k_is); (case hb_7k => k_is); (case hb_8a => k_is); (case hb_8i => k_is); (case hb_8l => k_is); (case hb_8c => k_is)
    (case hb_8k => k_is); (case hb_9a => k_is); (case hb_9i => k_is); (case hb_9l => k_is); (case hb_9c => k_is); (case hb_9k => k_is)
    (case hb_10a => k_is); (case hb_10i => k_is); (case hb_10l => k_is); (case hb_10c => k_is); (case hb_10k => k_is); (case hb_11a => k_is)
    (case hb_11i => k_is); (case hb_11l => k_is); (case hb_11c => k_is); (case hb_11k => k_is); (case hb_12a => k_is); (case hb_12i => k_is)
    (case hb_12l => k_is); (case hb_12c => k_is); (case hb_12k => k_is); (case hb_13a => k_is); (case hb_13i => k_is); (case hb_13l => k_is)
    (case hb_13c => k_is); (case hb_13k => k_is); (case hb_14a => k_is); (case hb_15a => k_is); (case hb_16a => k_is); (case hb_17a => k_is)
    (case hb_18a => k_is); (case hb_19a => k_is); (case hb_20a => k_is); (case hb_21 => k_is); (case hb_22 => k_is); (case hb_23 => k_is)
    (case hb_24 => k_is); (case hb_25 => k_is); (case hb_26 => k_is); (case hb_27 => k_is); (case hb_28 => k_is); (case hb_29 => k_is)
    (case hb_30 => k_is)
    (case hc_a => k_is)
    (case hc_l => k_is)
    (case hc_c => k_is)
    (case hc_k => k_is)
    (case hd_a => k_is)
    (case hd_l => k_is)
    (case hd_c => k_is)
    (case hd_k => k_is)
    (case he_0a => k_is); (case he_0l => k_is); (case he_0c => k_is); (case he_0k => k_is); (case he_1a => k_is); (case he_1l => k_is)
    (case he_1c => k_is); (case he_1k => k_is); (case he_2a => k_is); (case he_2l => k_is); (case he_2c => k_is); (case he_2k => k_is)
    (case he_3a => k_is); (case he_3l => k_is); (case he_3c => k_is); (case he_3k => k_is); (case he_4a => k_is); (case he_4l => k_is)
    (case he_4c => k_is); (case he_4k => k_is); (case he_5a => k_is); (case he_5l => k_is); (case he_5c => k_is); (case he_5k => k_is)
    (case he_6a => k_is); (case he_6l => k_is); (case he_6c => k_is); (case he_6k => k_is); (case he_7a => k_is); (case he_7l => k_is)
    (case he_7c => k_is); (case he_7k => k_is); (case he_8 => k_is); (case he_9 => k_is); (case he_10 => k_is); (case he_11 => k_is)
    (case he_12 => k_is); (case he_13 => k_is); (case he_14 => k_is); (case he_15 => k_is)
    (case hf_0a => k_is); (case hf_0l => k_is); (case hf_0c => k_is); (case hf_0k => k_is); (case hf_1a => k_is); (case hf_1l => k_is)
    (case hf_1c => k_is); (case hf_1k => k_is); (case hf_2a => k_is); (case hf_2l => k_is); (case hf_2c => k_is); (case hf_2k => k_is)
    (case hf_3a => k_is); (case hf_3l => k_is); (case hf_3c => k_is); (case hf_3k => k_is); (case hf_4a => k_is); (case hf_4l => k_is)
    (case hf_4c => k_is); (case hf_4k => k_is); (case hf_5a => k_is); (case hf_5l => k_is); (case hf_5c => k_is); (case hf_5k => k_is)
    (case hf_6a => k_is); (case hf_6l => k_is); (case hf_6c => k_is); (case hf_6k => k_is); (case hf_7a => k_is); (case hf_7l => k_is)
    (case hf_7c => k_is); (case hf_7k => k_is); (case hf_8a => k_is); (case hf_8l => k_is); (case hf_8c => k_is); (case hf_8k => k_is)
    (case hf_9a => k_is); (case hf_9l => k_is); (case hf_9c => k_is); (case hf_9k => k_is); (case hf_10 => k_is); (case hf_11 => k_is)
    (case hg_a => k_is)
    (case hg_l => k_is)
    (case hg_c => k_is)
    (case hg_k => k_is)
