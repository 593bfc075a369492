import PyProof.Rows.All
import Wide.All
import OpenK.AllK
import Wide.FinOn
import Lean
import PyProof.EqAt
import PyProof.EqKinds
import PyProof.TupleCall
import PyProof.NeKinds
import OpenK.KTop
import PyProof.WalksEnum
import PyProof.EnumMake
import PyProof.Rows.EnumRows
import PySem.Challenge.RW_ticketroom_k07_whole_visits_judged
set_option Elab.async false
set_option linter.all false
set_option maxRecDepth 100000
/-! THE HAND LAYER, for ints, bools, texts, own classes, LISTS and tuples (index, slices, in, append, pop ..), calls, loops. Paste it whole ahead of your own text; what your proof does not reach may be deleted. -/
namespace L2
open PySem PySem.Spec PyProof.Rows

/-- a key: an int or a str -/
abbrev Key := Sum Int Str
def keyIs : Key → Value → Bool
  | .inl k, v => Value.isInt k v
  | .inr x, v => Value.isStrOf x v
def keyH (w : World) : Key → Int
  | .inl k => hashInt k
  | .inr x => hashStr w x
theorem keyIs_shape : ∀ {k : Key} {v : Value}, keyIs k v = true → (∃ i t, k = Sum.inl i ∧ v = Value.int i t) ∨ (∃ x t, k = Sum.inr x ∧ v = Value.str x t)
  | .inl i, v, h => by
    obtain ⟨t, e⟩ := Value.isInt_shape (k := i) (v := v) h
    exact .inl ⟨i, t, rfl, e⟩
  | .inr x, v, h => by
    obtain ⟨t, e⟩ := Value.isStrOf_shape (x := x) (v := v) h
    exact .inr ⟨x, t, rfl, e⟩
theorem key_ll (a b : Int) : decide ((Sum.inl a : Key) = Sum.inl b) = (a == b) := by
  by_cases e : a = b
  · subst e; simp
  · have h : ¬ (Sum.inl a : Key) = Sum.inl b := fun q => e (Sum.inl.inj q)
    rw [decide_eq_false h]
    exact (beq_eq_false_iff_ne.mpr e).symm
theorem key_rr (a b : Str) : decide ((Sum.inr a : Key) = Sum.inr b) = decide (a = b) := by
  by_cases e : a = b
  · subst e; simp
  · have h : ¬ (Sum.inr a : Key) = Sum.inr b := fun q => e (Sum.inr.inj q)
    rw [decide_eq_false h, decide_eq_false e]
theorem key_lr (a : Int) (b : Str) : decide ((Sum.inl a : Key) = Sum.inr b) = false := decide_eq_false (fun q => nomatch q)
theorem key_rl (a : Str) (b : Int) : decide ((Sum.inr a : Key) = Sum.inl b) = false := decide_eq_false (fun q => nomatch q)

def mixKind (prog : Program) (w : World) : PySem.KeyKind prog w Key where
  is := keyIs
  hash := keyH w
  inj := fun v a b ha hb => by
    rcases keyIs_shape ha with ⟨i, t, rfl, rfl⟩ | ⟨x, t, rfl, rfl⟩
    · rcases keyIs_shape hb with ⟨j, u, rfl, e⟩ | ⟨y, u, rfl, e⟩
      · injection e with e1 _; rw [e1]
      · exact nomatch e
    · rcases keyIs_shape hb with ⟨j, u, rfl, e⟩ | ⟨y, u, rfl, e⟩
      · exact nomatch e
      · injection e with e1 _; rw [e1]
  byValue := fun k v h => by
    rcases keyIs_shape h with ⟨i, t, rfl, rfl⟩ | ⟨x, t, rfl, rfl⟩ <;> rfl
  pyHash := fun hv h => by
    rcases keyIs_shape hv with ⟨i, t, rfl, rfl⟩ | ⟨x, t, rfl, rfl⟩
    · exact wpAny_pyHash_int h
    · exact wpAny_pyHash_str h
  eqBool := fun hu hv h => by
    rcases keyIs_shape hu with ⟨i, t, rfl, rfl⟩ | ⟨x, t, rfl, rfl⟩
    · rcases keyIs_shape hv with ⟨j, u, rfl, rfl⟩ | ⟨y, u, rfl, rfl⟩
      · rw [key_ll] at h; exact wpAny_eqBool_int h
      · rw [key_lr] at h; exact SeqAt.EqAt.int_str i t y u _ _ _ _ h
    · rcases keyIs_shape hv with ⟨j, u, rfl, rfl⟩ | ⟨y, u, rfl, rfl⟩
      · rw [key_rl] at h; exact SeqAt.EqAt.str_int x t j u _ _ _ _ h
      · rw [key_rr] at h; exact wpAny_eqBool_str h
  «strs» := fun k x t v h => by
    rcases keyIs_shape h with ⟨i, u, rfl, e⟩ | ⟨y, u, rfl, e⟩
    · exact nomatch e
    · injection e with e1 _
      subst e1
      cases v <;> rfl

end L2

namespace L2
open PySem PySem.Spec PyProof.Rows

/-- a value, without the heap -/
inductive V where
  | non | bl (b : Bool) | int (i : Int) | str (x : Str) | byt (b : Array UInt8) | flt (b : UInt64) | ref (a : Addr) | ty (n : String)
  deriving DecidableEq

def RelV : V → Value → Prop
  | .non, u => u = Value.none
  | .bl b, u => u = Value.bool b
  | .int i, u => ∃ t, u = Value.int i t
  | .str x, u => ∃ t, u = Value.str x t
  | .byt b, u => ∃ t, u = Value.bytes b t
  | .flt b, u => ∃ t, u = Value.float b t
  | .ref a, u => u = Value.ref a
  | .ty n, u => u = Value.type n

abbrev Vals : List V → List Value → Prop := Paired RelV
theorem Vals.length {xs : List V} {us : List Value} (r : Vals xs us) : xs.length = us.length := Paired.length r
theorem Vals.get : ∀ {xs : List V} {us : List Value} {i : Nat} {x : V}, Vals xs us → xs[i]? = some x → ∃ u, us[i]? = some u ∧ RelV x u
  | _, _, _, _, .nil, e => by simp at e
  | _, _, 0, _, .cons r _, e => by simp at e; subst e; exact ⟨_, rfl, r⟩
  | _, _, i + 1, x, .cons _ t, e => by
    obtain ⟨u, h1, h2⟩ := Vals.get (i := i) (x := x) t (by simpa using e)
    exact ⟨u, by simpa using h1, h2⟩
theorem Vals.set {x : V} {u : Value} (r : RelV x u) : ∀ {xs : List V} {us : List Value} (i : Nat), Vals xs us → Vals (xs.set i x) (us.set i u)
  | _, _, _, .nil => .nil
  | _, _, 0, .cons _ t => .cons r t
  | _, _, i + 1, .cons q t => .cons q (Vals.set r i t)
theorem Vals.append : ∀ {xs ys : List V} {us ws : List Value}, Vals xs us → Vals ys ws → Vals (xs ++ ys) (us ++ ws)
  | _, _, _, _, .nil, s => s
  | _, _, _, _, .cons r t, s => .cons r (Vals.append t s)
theorem Vals.take : ∀ {xs : List V} {us : List Value} (n : Nat), Vals xs us → Vals (xs.take n) (us.take n)
  | _, _, 0, _ => .nil
  | _, _, _ + 1, .nil => .nil
  | _, _, n + 1, .cons r t => .cons r (Vals.take n t)
theorem Vals.drop : ∀ {xs : List V} {us : List Value} (n : Nat), Vals xs us → Vals (xs.drop n) (us.drop n)
  | _, _, 0, r => r
  | _, _, _ + 1, .nil => .nil
  | _, _, n + 1, .cons _ t => Vals.drop n t
theorem Vals.none_of : ∀ {xs : List V} {us : List Value} {i : Nat}, Vals xs us → xs[i]? = none → us[i]? = none := fun {xs us i} r e => by
  have h1 := r.length
  have h2 : xs.length ≤ i := List.getElem?_eq_none_iff.mp e
  exact List.getElem?_eq_none_iff.mpr (by omega)

def RelO : Option V → Option Value → Prop
  | some v, some u => RelV v u
  | none, none => True
  | _, _ => False
def KV {κ : Type} : List (κ × V) → List (κ × Value) → Prop := Paired fun (p : κ × V) (q : κ × Value) => p.1 = q.1 ∧ RelV p.2 q.2

/-- a key of a dict (00_mix): an int or a text -/
def kV : Key → V
  | .inl i => .int i
  | .inr x => .str x

/-- what stands at a tracked address -/
inductive HO where
  /-- a list -/
  | lst (xs : List V)
  /-- a tuple (never changes) -/
  | tup (xs : List V)
  /-- a dict whose keys are ints and texts; one whose keys are tuples of ints and texts (the empty one is both) -/
  | dK (kvs : List (Key × V)) | dT (kvs : List (List Key × V))
  /-- a set of ints: its members, its size -/
  | set (S : Int → Bool) (n : Nat)
  /-- an instance of the class at C, its dict at dx, its attributes -/
  | ins (C dx : Addr) (fs : List (Str × V))
  /-- the dict of the instance at x -/
  | own (x : Addr)
  /-- the dict of an exception -/
  | xd (fs : List (Str × V))
  /-- a bound method, f of x -/
  | met (f x : Addr)
  /-- a range object lo, lo + 1, .. below hi -/
  | rng (lo hi : Int)
  /-- a thing that is known to the object (the script; a dict while a loop walks it): read, never written while it is so -/
  | frz (o : Obj) (u : HO)
  /-- a code object's table -/
  | tbl (ps : Array Value)
  /-- any other thing, by what is true of its one object (a def of one's own: SetO a S n := HO.ext fun h => ..) -/
  | ext (φ : Heap → Prop)

abbrev Hp := Addr → Option HO
def upd (H : Hp) (a : Addr) (o : HO) : Hp := fun b => if b = a then some o else H b
theorem upd_same {H : Hp} {a : Addr} {o : HO} : upd H a o a = some o := by unfold upd; rw [if_pos rfl]
theorem upd_ne {H : Hp} {a b : Addr} {o : HO} (h : b ≠ a) : upd H a o b = H b := by unfold upd; rw [if_neg h]
theorem upd_upd {H : Hp} {a : Addr} {o u : HO} : upd (upd H a o) a u = upd H a u := by
  funext b; unfold upd; split <;> rfl
/-- two objects of different content stand apart -/
theorem ne_of {H : Hp} {a b : Addr} {o u : HO} (h : H a = some o) (h' : H b = some u) (d : o ≠ u) : a ≠ b := by
  intro e; subst e; rw [h] at h'; exact d (Option.some.inj h')
theorem ne_of_none {H : Hp} {a b : Addr} {o : HO} (h : H a = some o) (h' : H b = none) : a ≠ b := by
  intro e; subst e; rw [h] at h'; cases h'

section
variable (P : Program) (w : World)
def ObjOk (H : Hp) (h : Heap) (a : Addr) : HO → Prop
  | .lst xs => xs.length ≤ sizeLine ∧ ∃ (its : List Value) (n : Nat), Vals xs its ∧ h.get? a = some { cls := .type "list", data := .seq its.toArray n }
  | .tup xs => xs.length ≤ sizeLine ∧ ∃ its : List Value, Vals xs its ∧ IsTup h a its.toArray
  | .dK kvs => kvs.length ≤ sizeLine ∧ (a == sysModules) = false ∧ ∃ vs, KV kvs vs ∧ h.DictOf (mixKind P w) a vs
  | .dT kvs => kvs.length ≤ sizeLine ∧ (a == sysModules) = false ∧ ∃ xs : List (List Key × Addr × Value),
      Paired (fun (p : List Key × V) (q : List Key × Addr × Value) => p.1 = q.1 ∧ H q.2.1 = some (.tup (p.1.map kV)) ∧ RelV p.2 q.2.2) kvs xs ∧
      ∃ o es ep, h.get? a = some o ∧ o.ExactDict ∧ o.data = .dict es ep ∧ es.toList = xs.map (entryOfKey (tupleKind (mixKind P w))) ∧ (xs.map (·.1)).Nodup
  | .set S n => h.SetOf (intKind P w) a S n
  | .ins C dx fs => H dx = some (.own a) ∧ fs.length ≤ 1000 ∧ dx ≠ a ∧ h.get? a = some (PySem.W.instObj C dx) ∧
      ∃ mA, h.Ns1 dx mA ∧ (∀ f, RelO (fs.lookup f) (mA f)) ∧ PySem.Within mA (fs.map (·.1))
  | .own _ => ∃ o, h.get? a = some o
  | .xd fs => ∃ mA, h.Ns1 a mA ∧ ∀ f, RelO (fs.lookup f) (mA f)
  | .rng lo hi => ∃ t u v, h.get? a = some { cls := .type "range", data := .fields #[.int lo t, .int hi u, .int 1 v] }
  | .frz o u => h.get? a = some o ∧ ObjOk H h a u
  | .tbl ps => h.get? a = some { cls := .none, data := .fields ps }
  | .met f x => h.get? a = some (PySem.W.methodObj (.ref f) (.ref x))
  | .ext φ => φ h ∧ (∃ o, h.get? a = some o) ∧ ∀ h1 h2 : Heap, φ h1 → (∀ o, h1.get? a = some o → h2.get? a = some o) → φ h2
/-- the abstract heap is held -/
def HOk (H : Hp) (h : Heap) : Prop := ∀ a o, H a = some o → ObjOk P w H h a o
end

section
variable {P : Program} {w : World} {H H' : Hp} {h h' : Heap} {a : Addr} {o : HO}
theorem ObjOk.lt (x : ObjOk P w H h a o) : a < h.objs.size := by
  cases o with
  | lst xs => obtain ⟨_, _, _, _, e⟩ := x; exact Heap.lt_size e
  | tup xs => obtain ⟨_, _, _, p⟩ := x; exact p.lt
  | dK kvs => obtain ⟨_, _, _, _, o, _, _, e, _⟩ := x; exact Heap.lt_size e
  | dT kvs => obtain ⟨_, _, _, _, o, _, _, e, _⟩ := x; exact Heap.lt_size e
  | set S n => obtain ⟨o, _, _, _, e, _⟩ := x; exact Heap.lt_size e
  | ins C dx fs => obtain ⟨_, _, _, e, _⟩ := x; exact Heap.lt_size e
  | own y => obtain ⟨_, e⟩ := x; exact Heap.lt_size e
  | xd fs => obtain ⟨_, ⟨_, _, _, e, _⟩, _⟩ := x; exact Heap.lt_size e
  | rng lo hi => obtain ⟨_, _, _, e⟩ := x; exact Heap.lt_size e
  | frz ob u => obtain ⟨e, _⟩ := x; exact Heap.lt_size e
  | tbl ps => exact Heap.lt_size (show h.get? a = some _ from x)
  | met f y => exact Heap.lt_size (show h.get? a = some _ from x)
  | ext φ => obtain ⟨_, ⟨_, e⟩, _⟩ := x; exact Heap.lt_size e
theorem Paired.mapP {α β : Type} {F G : α → β → Prop} : ∀ {l₁ : List α} {l₂ : List β}, Paired F l₁ l₂ → (∀ a b, F a b → G a b) → Paired G l₁ l₂
  | _, _, .nil, _ => .nil
  | _, _, .cons r t, f => .cons (f _ _ r) (Paired.mapP t f)
/-- what an object's description leans on: its own object, its own dict, the tuples -/
theorem ObjOk.stay (x : ObjOk P w H h a o) (k : ∀ b u, (b = a ∨ H b = some (.own a)) → h.get? b = some u → h'.get? b = some u)
    (ho : ∀ b, H b = some (.own a) → H' b = some (.own a)) (ht : ∀ b xs, H b = some (.tup xs) → H' b = some (.tup xs)) : ObjOk P w H' h' a o := by
  induction o with
  | lst xs => obtain ⟨z, its, n, r, e⟩ := x; exact ⟨z, its, n, r, k _ _ (.inl rfl) e⟩
  | tup xs => obtain ⟨z, its, r, ob, e, c⟩ := x; exact ⟨z, its, r, ob, k _ _ (.inl rfl) e, c⟩
  | dK kvs => obtain ⟨z, y, vs, r, ob, es, ep, e, c⟩ := x; exact ⟨z, y, vs, r, ob, es, ep, k _ _ (.inl rfl) e, c⟩
  | dT kvs =>
    obtain ⟨z, y, xs, r, ob, es, ep, e, c⟩ := x
    exact ⟨z, y, xs, Paired.mapP r fun p q z => ⟨z.1, ht _ _ z.2.1, z.2.2⟩, ob, es, ep, k _ _ (.inl rfl) e, c⟩
  | set S n => obtain ⟨ob, es, ep, t, e, c⟩ := x; exact ⟨ob, es, ep, t, k _ _ (.inl rfl) e, c⟩
  | ins C dx fs =>
    obtain ⟨d, z, ne, e, mA, ⟨od, es, ep, e2, c⟩, r⟩ := x
    exact ⟨ho _ d, z, ne, k _ _ (.inl rfl) e, mA, ⟨od, es, ep, k _ _ (.inr d) e2, c⟩, r⟩
  | own y => obtain ⟨ob, e⟩ := x; exact ⟨ob, k _ _ (.inl rfl) e⟩
  | xd fs => obtain ⟨mA, ⟨od, es, ep, e, c⟩, r⟩ := x; exact ⟨mA, ⟨od, es, ep, k _ _ (.inl rfl) e, c⟩, r⟩
  | rng lo hi => obtain ⟨t, u, v, e⟩ := x; exact ⟨t, u, v, k _ _ (.inl rfl) e⟩
  | frz ob u ih => obtain ⟨e, q⟩ := x; exact ⟨k _ _ (.inl rfl) e, ih q⟩
  | tbl ps =>
    have e : h.get? a = some { cls := .none, data := .fields ps } := x
    show h'.get? a = some { cls := .none, data := .fields ps }
    exact k a _ (.inl rfl) e
  | met f y =>
    have e : h.get? a = some (PySem.W.methodObj (.ref f) (.ref y)) := x
    show h'.get? a = some (PySem.W.methodObj (.ref f) (.ref y))
    exact k a _ (.inl rfl) e
  | ext φ => obtain ⟨p, ⟨o, e⟩, st⟩ := x; exact ⟨st _ _ p fun o q => k _ _ (.inl rfl) q, ⟨o, k _ _ (.inl rfl) e⟩, st⟩
theorem HOk.lt (x : HOk P w H h) (e : H a = some o) : a < h.objs.size := (x a o e).lt
theorem HOk.fresh (x : HOk P w H h) (e : h.objs.size ≤ a) : H a = none := by
  cases q : H a with
  | none => rfl
  | some u => exact absurd (Nat.lt_of_lt_of_le (x.lt q) e) (Nat.lt_irrefl _)
/-- every object of the heap is kept -/
theorem HOk.kept (x : HOk P w H h) (k : ∀ b u, h.get? b = some u → h'.get? b = some u) : HOk P w H h' := fun a o e =>
  (x a o e).stay (fun b u _ q => k b u q) (fun _ q => q) fun _ _ q => q
/-- a new object is laid and tracked -/
theorem HOk.laid (x : HOk P w H h) (k : ∀ b u, h.get? b = some u → h'.get? b = some u) (hp : h.objs.size ≤ a) (new : ObjOk P w (upd H a o) h' a o) : HOk P w (upd H a o) h' := fun b u e => by
  have hn := x.fresh hp
  by_cases hb : b = a
  · subst hb; rw [upd_same] at e; cases e; exact new
  · rw [upd_ne hb] at e
    exact (x b u e).stay (fun c v _ q => k c v q) (fun c q => by rw [upd_ne (ne_of_none q hn)]; exact q) fun c xs q => by rw [upd_ne (ne_of_none q hn)]; exact q
end

/-- what may be read as u: it is u, or a known u -/
def Rd (H : Hp) (a : Addr) (u : HO) : Prop := H a = some u ∨ ∃ o, H a = some (.frz o u)
theorem Rd.of {H : Hp} {a : Addr} {u : HO} (h : H a = some u) : Rd H a u := .inl h
theorem Rd.ok {P : Program} {w : World} {H : Hp} {h : Heap} {a : Addr} {u : HO} (r : Rd H a u) (x : HOk P w H h) : ObjOk P w H h a u := by
  rcases r with r | ⟨o, r⟩
  · exact x a u r
  · obtain ⟨_, q⟩ := x a _ r
    exact q
/-- what may be written -/
def Mut : Option HO → Prop
  | some (.lst _) => True
  | some (.dK _) => True
  | some (.dT _) => True
  | some (.set _ _) => True
  | some (.ins _ _ _) => True
  | some (.ext _) => True
  | _ => False
section
variable {P : Program} {w : World} {H : Hp} {h h' : Heap} {x e : Addr} {o' : HO}
/-- the object at e is changed: x itself, or the dict of the instance x -/
theorem HOk.write (ok : HOk P w H h) (mu : Mut (H x)) (he : e = x ∨ H e = some (.own x)) (k : ∀ b u, b ≠ e → h.get? b = some u → h'.get? b = some u) (heo : ∃ u, h'.get? e = some u)
    (new : ObjOk P w (upd H x o') h' x o') : HOk P w (upd H x o') h' := fun b u q => by
  have nown : ∀ c y, H c = some (.own y) → c ≠ x := fun c y r z => by subst z; rw [r] at mu; exact mu
  have ntup : ∀ c xs, H c = some (.tup xs) → c ≠ x := fun c xs r z => by subst z; rw [r] at mu; exact mu
  by_cases hb : b = x
  · subst hb; rw [upd_same] at q; cases q; exact new
  · rw [upd_ne hb] at q
    by_cases hbe : b = e
    · have q' : H b = some (.own x) := by
        rcases he with z | z
        · exact absurd (hbe.trans z) hb
        · rw [hbe]; exact z
      rw [q] at q'; cases q'
      obtain ⟨v, hv⟩ := heo
      exact ⟨v, by rw [hbe]; exact hv⟩
    · refine (ok b u q).stay (fun c v hc r => k c v ?_ r) (fun c r => by rw [upd_ne (nown c b r)]; exact r) fun c xs r => by rw [upd_ne (ntup c xs r)]; exact r
      rcases hc with rfl | hc
      · exact hbe
      · rintro rfl
        rcases he with z | z
        · exact nown c b hc z
        · rw [hc] at z; cases z; exact hb rfl
end

/-! ### kept unless tracked; of the frames at fs (the callers') the slots may change (an exception that passes writes there); of the records at ex (iterators) nothing is said -/
structure Un (fs ex : List Addr) (H H' : Hp) (h h' : Heap) : Prop where
  keep : ∀ b o, h.get? b = some o → H b = none → b ∉ fs → b ∉ ex → h'.get? b = some o
  slot : ∀ b o, h.get? b = some o → H b = none → b ∈ fs → b ∉ ex → ∃ sl, h'.get? b = some { o with slots := sl }
  free : ∀ b o, h.get? b = some o → H b = none → b ∉ ex → H' b = none
  there : ∀ b o, h.get? b = some o → b ∉ ex → ∃ o', h'.get? b = some o'
  tups : ∀ b xs, H b = some (.tup xs) → H' b = some (.tup xs)
  frzs : ∀ b o u, H b = some (.frz o u) → H' b = some (.frz o u)
  tbls : ∀ b ps, H b = some (.tbl ps) → ∃ more, H' b = some (.tbl (ps ++ more))
section
variable {fs fs' ex ex' : List Addr} {H H1 H2 : Hp} {h h1 h2 h' : Heap} {a x e : Addr} {o : HO}
theorem Un.any (u : Un fs ex H H1 h h1) {b : Addr} {ob : Obj} (q : h.get? b = some ob) (n : H b = none) (hx : b ∉ ex) : ∃ sl, h1.get? b = some { ob with slots := sl } := by
  by_cases hb : b ∈ fs
  · exact u.slot b ob q n hb hx
  · exact ⟨ob.slots, u.keep b ob q n hb hx⟩
theorem Un.trans (a : Un fs ex H H1 h h1) (b : Un fs ex H1 H2 h1 h2) : Un fs ex H H2 h h2 where
  keep := fun c ob q n hc hx => b.keep c ob (a.keep c ob q n hc hx) (a.free c ob q n hx) hc hx
  slot := fun c ob q n hc hx => by
    obtain ⟨sl, e1⟩ := a.slot c ob q n hc hx
    obtain ⟨sl', e2⟩ := b.slot c _ e1 (a.free c ob q n hx) hc hx
    exact ⟨sl', e2⟩
  free := fun c ob q n hx => by
    obtain ⟨o', e1⟩ := a.there c ob q hx
    exact b.free c o' e1 (a.free c ob q n hx) hx
  there := fun c ob q hx => by
    obtain ⟨o', e1⟩ := a.there c ob q hx
    exact b.there c o' e1 hx
  tups := fun c xs q => b.tups c xs (a.tups c xs q)
  frzs := fun c ob xs q => b.frzs c ob xs (a.frzs c ob xs q)
  tbls := fun c ps q => by
    obtain ⟨m1, e1⟩ := a.tbls c ps q
    obtain ⟨m2, e2⟩ := b.tbls c _ e1
    exact ⟨m1 ++ m2, by rw [e2, Array.append_assoc]⟩
theorem Un.kept (k : ∀ b u, h.get? b = some u → h'.get? b = some u) : Un fs ex H H h h' :=
  ⟨fun b ob q _ _ _ => k b ob q, fun b ob q _ _ _ => ⟨ob.slots, k b ob q⟩, fun _ _ _ n _ => n, fun b ob q _ => ⟨ob, k b ob q⟩, fun _ _ q => q, fun _ _ _ q => q, fun _ ps q => ⟨#[], by rw [q]; simp⟩⟩
theorem Un.refl : Un fs ex H H h h := Un.kept fun _ _ q => q
theorem Un.laid (k : ∀ b u, h.get? b = some u → h'.get? b = some u) (hp : h.objs.size ≤ a) (hn : H a = none) : Un fs ex H (upd H a o) h h' where
  keep := fun b u q _ _ _ => k b u q
  slot := fun b u q _ _ _ => ⟨u.slots, k b u q⟩
  free := fun b u q n _ => by rw [upd_ne (Nat.ne_of_lt (Nat.lt_of_lt_of_le (Heap.lt_size q) hp))]; exact n
  there := fun b u q _ => ⟨u, k b u q⟩
  tups := fun b xs q => by rw [upd_ne (ne_of_none q hn)]; exact q
  frzs := fun b u xs q => by rw [upd_ne (ne_of_none q hn)]; exact q
  tbls := fun b ps q => ⟨#[], by rw [upd_ne (ne_of_none q hn), q]; simp⟩
theorem Un.write (mu : Mut (H x)) (he : e = x ∨ H e = some (.own x)) (k : ∀ b u, b ≠ e → h.get? b = some u → h'.get? b = some u) (heo : ∃ u, h'.get? e = some u) : Un fs ex H (upd H x o) h h' := by
  have hx : ∀ b, H b = none → b ≠ x := fun b n z => by subst z; rw [n] at mu; exact mu
  have hb : ∀ b, H b = none → b ≠ e := fun b n z => by
    subst z
    rcases he with r | r
    · exact hx b n r
    · rw [n] at r; cases r
  have hm : ∀ b u, H b = some u → ¬ Mut (some u) → b ≠ x := fun b u q nm z => by subst z; rw [q] at mu; exact nm mu
  refine ⟨fun b u q n _ _ => k b u (hb b n) q, fun b u q n _ _ => ⟨u.slots, k b u (hb b n) q⟩, fun b u q n _ => by rw [upd_ne (hx b n)]; exact n, fun b u q _ => ?_,
    fun b xs q => by rw [upd_ne (hm b _ q fun z => z)]; exact q, fun b u xs q => by rw [upd_ne (hm b _ q fun z => z)]; exact q, fun b ps q => ⟨#[], by rw [upd_ne (hm b _ q fun z => z), q]; simp⟩⟩
  by_cases hbe : b = e
  · subst hbe; exact heo
  · exact ⟨u, k b u hbe q⟩
theorem Un.mono (u : Un fs ex H H1 h h1) (hs : ∀ b ∈ fs, b ∈ fs') (hx : ∀ b ∈ ex, b ∈ ex') : Un fs' ex' H H1 h h1 :=
  ⟨fun b ob q n hb he => u.keep b ob q n (fun z => hb (hs b z)) fun z => he (hx b z), fun _ _ q n _ he => u.any q n fun z => he (hx _ z), fun b ob q n he => u.free b ob q n fun z => he (hx b z), fun b ob q he => u.there b ob q fun z => he (hx b z), u.tups, u.frzs, u.tbls⟩
end

/-! ### the heap without what is tracked -/
def trk (h : Heap) (H : Hp) : List Addr := (List.range h.objs.size).filter fun a => (H a).isSome
def hidT (h : Heap) (H : Hp) : Heap := PySem.W.hideAll h (trk h H)
theorem hidT_size (h : Heap) (H : Hp) : (hidT h H).objs.size = h.objs.size := PySem.W.hideAll_size _ _
theorem hidT_get {h : Heap} {H : Hp} {b : Addr} {o : Obj} (e : h.get? b = some o) (n : H b = none) : (hidT h H).get? b = some o :=
  PySem.W.hideAll_get _ e fun hm => by
    have q : (H b).isSome = true := (List.mem_filter.mp hm).2
    rw [n] at q; simp at q
theorem of_hidT {h : Heap} {H : Hp} {b : Addr} {o : Obj} (e : (hidT h H).get? b = some o) : h.get? b = some o ∧ H b = none := by
  have e' : h.get? b = some o := PySem.W.of_hideAll (trk h H) e
  refine ⟨e', ?_⟩
  cases q : H b with
  | none => rfl
  | some x =>
    have hm : b ∈ trk h H := List.mem_filter.mpr ⟨List.mem_range.mpr (Heap.lt_size e'), by simp [q]⟩
    have z : (hidT h H).get? b = none := PySem.W.hideAll_none (trk h H) hm
    rw [z] at e; cases e

/-! ### OpenK's ledger, filled with every new object but one -/
def allNews (g h : Heap) (L : Addr) : List (Addr × Obj) := (List.range h.objs.size).filterMap fun a => if a = L ∨ (g.get? a).isSome = true then none else (h.get? a).map fun o => (a, o)
def rest (g h : Heap) (L d : Addr) : List (Addr × Obj) := (allNews g h L).filter fun p => decide (p.1 ≠ d)
end L2

namespace L2
open PySem PySem.Spec PyProof.Rows

/-- the module's facts, over the base: the heap at the law's entry without what is tracked there -/
structure Mod (K : PySem.W.Frag) (mg : Str → Option Value) (base : Heap) : Prop where
  kin : K.In base
  glob : base.Ns mainGlobals mg
  blt : ∃ mb, base.Ns builtinsNs mb ∧ ∀ x : Str, x ≠ "__name__" → mb x = bootBuiltins x
  nolimit : base.NoLimit

/-- the context: a def's body (or a comprehension's block) running. base: fixed through the whole law; s₀, H₀: the entry; outer: the frames whose slots others may change (a def's callers); stack: all frames that run;
   ex: iterators that were made ahead of the entry and are walked here (a comprehension's); fn: the names whose cells were made at the entry (a def: all; a comprehension's block: its own); calm: not within an except suite; pn: pins that every state bears; xe: what is wanted of an exception that leaves the code -/
structure Cx where
  prog : Program
  w : World
  K : PySem.W.Frag
  mg : Str → Option Value
  base : Heap
  A : Around
  N : List Str
  s₀ : Shared
  H₀ : Hp
  env : Env
  outer : List Env
  stack : List Env
  ex : List Addr
  fn : Str → Bool
  calm : Bool
  pn : List (Addr × Obj)
  xe : Value → Shared → Prop
/-- the callers' frames -/
def frs (l : List Env) : List Addr := l.filterMap (·.frame)
abbrev Cx.fs (X : Cx) : List Addr := frs X.outer

def Vis (sc : Scope) (x : Str) : Prop := sc.names.lookup x = some .local ∨ sc.names.lookup x = some .cell ∨ sc.names.lookup x = some .free
def Loc (sc : Scope) (x : Str) : Prop := sc.names.lookup x = some .local ∨ sc.names.lookup x = some .cell
def Look (env : Env) (h : Heap) (m : Str → Option Value) (x : Str) (u : Value) : Prop :=
  (env.kindOf x = some .local ∧ m x = some u) ∨ ((env.kindOf x = some .cell ∨ env.kindOf x = some .free) ∧ ∃ c, env.cells.lookup x = some c ∧ h.IsCell c (some u))

structure Cx.Ok (X : Cx) : Prop where
  mod : Mod X.K X.mg X.base
  kind : X.env.scope.kind = .function
  glob : X.env.globals = mainGlobals
  blt : X.env.builtins = builtinsNs
  above : X.s₀.heap.objs.size ≤ X.env.locals
  inj : ∀ x y c, X.env.cells.lookup x = some c → X.env.cells.lookup y = some c → x = y
  has : ∀ x, (X.env.kindOf x = some .cell ∨ X.env.kindOf x = some .free) → ∃ c, X.env.cells.lookup x = some c
  cab : ∀ x c, X.fn x = true → X.env.cells.lookup x = some c → X.s₀.heap.objs.size ≤ c
  hd : X.calm = true → X.A.handled = none
  frames : X.A.frames = some X.stack
  stk : X.stack = X.outer ∨ (X.stack = X.env :: X.outer ∧ X.env.frame = some X.env.locals)
  exf : ∀ b ∈ X.ex, b ≠ X.env.locals ∧ ∀ x c, X.env.cells.lookup x = some c → c ≠ b
  bs : ∀ b o, X.base.get? b = some o → X.s₀.heap.get? b = some o ∧ X.H₀ b = none
  bsz : X.base.objs.size ≤ X.s₀.heap.objs.size
  noex : ∀ b o, X.base.get? b = some o → b ∉ X.ex
  exfs : ∀ b ∈ X.ex, b ∉ X.fs
  funs : X.s₀.heap.FunFrames X.base X.outer
  frf : ∀ b ∈ X.fs, X.H₀ b = none

structure Inv (X : Cx) (pins : List (Addr × Obj)) (σ : List (Option V)) (H : Hp) (s : Shared) : Prop where
  ok : X.Ok
  os : s.os = X.s₀.os
  bare : AllBare s.gens
  base : Un X.fs X.ex X.H₀ H X.s₀.heap s.heap
  loc : ∃ m, s.heap.Ns X.env.locals m ∧ ∀ (i : Nat) (x : Str) (v : V), X.N[i]? = some x → σ[i]? = some (some v) → Vis X.env.scope x → ∃ u, RelV v u ∧ Look X.env s.heap m x u
  cell : ∀ x c, X.env.cells.lookup x = some c → ∃ v, s.heap.IsCell c v
  free : H X.env.locals = none
  freeC : ∀ x c, X.env.cells.lookup x = some c → H c = none
  pin : ∀ p ∈ X.pn ++ pins, s.heap.get? p.1 = some p.2 ∧ H p.1 = none ∧ p.1 ≠ X.env.locals ∧ p.1 ∉ X.fs ∧ ∀ v, p.2.data ≠ .cell v
  hok : HOk X.prog X.w H s.heap
  len : σ.length = X.N.length

section
variable {X : Cx} {pins : List (Addr × Obj)} {σ : List (Option V)} {H H' : Hp} {s : Shared} {h' : Heap}

theorem Cx.Ok.nofr (ok : X.Ok) {b : Addr} {o : Obj} (e : X.base.get? b = some o) : b ∉ X.fs := fun hb => by
  have := (ok.funs.mem hb).1
  rw [e] at this; cases this
theorem Inv.bs (I : Inv X pins σ H s) : ∀ b o, X.base.get? b = some o → s.heap.get? b = some o ∧ H b = none := fun b o e =>
  ⟨I.base.keep b o (I.ok.bs b o e).1 (I.ok.bs b o e).2 (I.ok.nofr e) (I.ok.noex b o e), I.base.free b o (I.ok.bs b o e).1 (I.ok.bs b o e).2 (I.ok.noex b o e)⟩
theorem Inv.bk (I : Inv X pins σ H s) : ∀ b o, X.base.get? b = some o → s.heap.get? b = some o := fun b o e => (I.bs b o e).1
theorem Inv.mod (I : Inv X pins σ H s) : Mod X.K X.mg X.base := I.ok.mod
theorem Inv.kIn (I : Inv X pins σ H s) : X.K.In s.heap := I.ok.mod.kin.keeps I.bk
theorem Inv.nolimit (I : Inv X pins σ H s) : s.heap.NoLimit := I.ok.mod.nolimit.keeps I.bk
/-- the frame over the base: for OpenK's rules (K.In X.base is I.mod.kin) -/
theorem Inv.fr (I : Inv X pins σ H s) : ∃ m, Fr X.base X.env.locals s.heap m :=
  let ⟨m, hn, _⟩ := I.loc
  ⟨m, hn, I.bk, Nat.le_trans I.ok.bsz I.ok.above⟩
theorem Inv.lt (I : Inv X pins σ H s) : X.env.locals < s.heap.objs.size := let ⟨_, hn, _⟩ := I.loc; hn.lt
theorem Inv.sz (I : Inv X pins σ H s) : X.s₀.heap.objs.size ≤ s.heap.objs.size := Nat.le_trans I.ok.above (Nat.le_of_lt I.lt)
theorem Inv.nofs (I : Inv X pins σ H s) {a : Addr} (h : s.heap.objs.size ≤ a) : a ∉ X.fs := fun hb => by
  obtain ⟨_, o, ho, _⟩ := I.ok.funs.mem hb
  exact absurd (Nat.lt_of_lt_of_le (Heap.lt_size ho) (Nat.le_trans I.sz h)) (Nat.lt_irrefl _)
theorem Inv.cne (I : Inv X pins σ H s) : ∀ x c, X.env.cells.lookup x = some c → c ≠ X.env.locals := fun x c e z => by
  obtain ⟨v, o, ho, hd⟩ := I.cell x c e
  obtain ⟨m, ⟨o', es, ep, ho', hd', _⟩, _⟩ := I.loc
  rw [z, ho'] at ho; cases ho; rw [hd'] at hd; cases hd
theorem Inv.funs (I : Inv X pins σ H s) : s.heap.FunFrames X.base X.outer := by
  have all : ∀ (l : List Env), (∀ b ∈ frs l, b ∈ X.fs) → X.s₀.heap.FunFrames X.base l → s.heap.FunFrames X.base l := by
    intro l
    induction l with
    | nil => intro _ _; trivial
    | cons env r ih =>
      intro hs hl
      obtain ⟨hk, ⟨L, o, hf, hn, ho, hd⟩, hr⟩ := hl
      have hL : L ∈ X.fs := hs L (by unfold frs; rw [List.filterMap_cons, hf]; exact List.mem_cons_self)
      obtain ⟨sl, e⟩ := I.base.slot L o ho (I.ok.frf L hL) hL fun z => I.ok.exfs L z hL
      exact ⟨hk, ⟨L, _, hf, hn, e, hd⟩, ih (fun b hb => hs b (by unfold frs; rw [List.filterMap_cons, hf]; exact List.mem_cons_of_mem _ hb)) hr⟩
  exact all X.outer (fun _ hb => hb) I.ok.funs

/-- the frames that run, for a call -/
theorem Inv.stack (I : Inv X pins σ H s) : s.heap.FunFrames X.base X.stack := by
  rcases I.ok.stk with e | ⟨e, hf⟩
  · rw [e]; exact I.funs
  · rw [e]
    obtain ⟨m, hn, _⟩ := I.loc
    refine .cons (by rw [I.ok.kind]; decide) hf hn ?_ I.funs
    exact Heap.get?_none_of_le (Nat.le_trans I.ok.bsz I.ok.above)
theorem Inv.stkSub (I : Inv X pins σ H s) : ∀ b ∈ frs X.stack, b ∈ X.env.locals :: X.fs := fun b hb => by
  rcases I.ok.stk with e | ⟨e, hf⟩
  · rw [e] at hb; exact List.mem_cons_of_mem _ hb
  · rw [e] at hb
    unfold frs at hb
    rw [List.filterMap_cons, hf] at hb
    exact hb
theorem Inv.stkFree (I : Inv X pins σ H s) : ∀ b ∈ frs X.stack, H b = none := fun b hb => by
  rcases List.mem_cons.mp (I.stkSub b hb) with e | hb
  · rw [e]; exact I.free
  · obtain ⟨_, o, ho, _⟩ := I.ok.funs.mem hb
    exact I.base.free b o ho (I.ok.frf b hb) fun z => I.ok.exfs b z hb

/-- THE STEP: the untracked objects but the frame and the records at ch are kept (the callers' frames up to slots), the frame's map is kept, the new abstract heap is held -/
theorem Inv.step {g' : Array GenState} {t' : Nat} {d' : Drawn} {ch : List Addr} (I : Inv X pins σ H s)
    (hch : ∀ b ∈ ch, (b ∈ X.ex ∨ X.s₀.heap.objs.size ≤ b) ∧ b ≠ X.env.locals ∧ (∀ x c, X.env.cells.lookup x = some c → c ≠ b) ∧ ∀ p ∈ X.pn ++ pins, p.1 ≠ b)
    (keep : ∀ b o, b ≠ X.env.locals → b ∉ X.fs → b ∉ ch → s.heap.get? b = some o → H b = none → h'.get? b = some o)
    (slot : ∀ b o, b ≠ X.env.locals → b ∈ X.fs → b ∉ ch → s.heap.get? b = some o → H b = none → ∃ sl, h'.get? b = some { o with slots := sl }) (free : ∀ b o, b ∉ ch → s.heap.get? b = some o → H b = none → H' b = none)
    (there : ∀ b o, b ∉ ch → s.heap.get? b = some o → ∃ o', h'.get? b = some o')
    (tups : ∀ b xs, H b = some (.tup xs) → H' b = some (.tup xs)) (frzs : ∀ b o u, H b = some (.frz o u) → H' b = some (.frz o u)) (tbls : ∀ b ps, H b = some (.tbl ps) → ∃ more, H' b = some (.tbl (ps ++ more)))
    (ns : ∀ m, s.heap.Ns X.env.locals m → h'.Ns X.env.locals m) (hok : HOk X.prog X.w H' h') (hg : AllBare g') :
    Inv X pins σ H' { s with heap := h', gens := g', drawn := d', toks := t' } := by
  have neL : ∀ b o, X.s₀.heap.get? b = some o → b ≠ X.env.locals := fun b o e => Nat.ne_of_lt (Nat.lt_of_lt_of_le (Heap.lt_size e) I.ok.above)
  have neC : ∀ b o, X.s₀.heap.get? b = some o → b ∉ X.ex → b ∉ ch := fun b o e hx hb => by
    rcases (hch b hb).1 with z | z
    · exact hx z
    · exact absurd (Nat.lt_of_lt_of_le (Heap.lt_size e) z) (Nat.lt_irrefl _)
  have cellK : ∀ x c, X.env.cells.lookup x = some c → ∀ v, s.heap.IsCell c v → h'.IsCell c v := fun x c e v ⟨o, ho, hd⟩ => by
    have nch : c ∉ ch := fun z => (hch c z).2.2.1 x c e rfl
    by_cases hc : c ∈ X.fs
    · obtain ⟨sl, q⟩ := slot c o (I.cne x c e) hc nch ho (I.freeC x c e)
      exact ⟨_, q, hd⟩
    · exact ⟨o, keep c o (I.cne x c e) hc nch ho (I.freeC x c e), hd⟩
  refine ⟨I.ok, I.os, hg, ⟨fun b o e n hb hx => ?_, fun b o e n hb hx => ?_, fun b o e n hx => ?_, fun b o e hx => ?_, fun b xs e => tups b xs (I.base.tups b xs e), fun b o xs e => frzs b o xs (I.base.frzs b o xs e), fun b ps e => ?_⟩, ?_, fun x c e => ?_, ?_, fun x c e => ?_, fun p hp => ?_, hok, I.len⟩
  · exact keep b o (neL b o e) hb (neC b o e hx) (I.base.keep b o e n hb hx) (I.base.free b o e n hx)
  · obtain ⟨sl, e1⟩ := I.base.slot b o e n hb hx
    obtain ⟨sl', e2⟩ := slot b _ (neL b o e) hb (neC b o e hx) e1 (I.base.free b o e n hx)
    exact ⟨sl', e2⟩
  · obtain ⟨o', e1⟩ := I.base.there b o e hx
    exact free b o' (neC b o e hx) e1 (I.base.free b o e n hx)
  · obtain ⟨o', e1⟩ := I.base.there b o e hx
    exact there b o' (neC b o e hx) e1
  · obtain ⟨m1, e1⟩ := I.base.tbls b ps e
    obtain ⟨m2, e2⟩ := tbls b _ e1
    exact ⟨m1 ++ m2, by rw [e2, Array.append_assoc]⟩
  · obtain ⟨m, hn, hl⟩ := I.loc
    refine ⟨m, ns m hn, fun i x v e1 e2 e3 => ?_⟩
    obtain ⟨u, r, l⟩ := hl i x v e1 e2 e3
    refine ⟨u, r, ?_⟩
    rcases l with l | ⟨k, c, e, z⟩
    · exact .inl l
    · exact .inr ⟨k, c, e, cellK x c e _ z⟩
  · obtain ⟨v, z⟩ := I.cell x c e
    exact ⟨v, cellK x c e v z⟩
  · obtain ⟨m, ⟨o, _, _, ho, _⟩, _⟩ := I.loc
    exact free _ o (fun z => (hch _ z).2.1 rfl) ho I.free
  · obtain ⟨v, o, ho, hd⟩ := I.cell x c e
    exact free c o (fun z => (hch c z).2.2.1 x c e rfl) ho (I.freeC x c e)
  · obtain ⟨e, n, ne, nf, d⟩ := I.pin p hp
    have nch : p.1 ∉ ch := fun z => (hch p.1 z).2.2.2 p hp rfl
    exact ⟨keep p.1 p.2 ne nf nch e n, free p.1 p.2 nch e n, ne, nf, d⟩
/-- .. where the frame's own object is kept too -/
theorem Inv.un {t' : Nat} (I : Inv X pins σ H s) (u : Un X.fs [] H H' s.heap h') (hok : HOk X.prog X.w H' h') : Inv X pins σ H' { s with heap := h', toks := t' } := by
  obtain ⟨m, ⟨o, es, ep, ho, r⟩, _⟩ := id I.loc
  obtain ⟨sl, hL⟩ := u.any ho I.free (by simp)
  exact I.step (g' := s.gens) (d' := s.drawn) (ch := []) (fun _ z => nomatch z) (fun b o _ hb _ e n => u.keep b o e n hb (by simp)) (fun b o _ hb _ e n => u.slot b o e n hb (by simp)) (fun b o _ e n => u.free b o e n (by simp)) (fun b o _ e => u.there b o e (by simp)) u.tups u.frzs u.tbls (fun m' hm => by
    obtain ⟨o', es', ep', ho', r'⟩ := hm
    rw [ho] at ho'; cases ho'
    exact ⟨_, es', ep', hL, r'⟩) hok I.bare
/-- behind a call (or a comprehension's block): the slots of this frame may have changed too, the records at ch may have turned -/
theorem Inv.call {g' : Array GenState} {t' : Nat} {d' : Drawn} {ch : List Addr} (I : Inv X pins σ H s) (u : Un (frs X.stack) ch H H' s.heap h') (hok : HOk X.prog X.w H' h') (hg : AllBare g')
    (hch : ∀ b ∈ ch, (b ∈ X.ex ∨ X.s₀.heap.objs.size ≤ b) ∧ b ≠ X.env.locals ∧ (∀ x c, X.env.cells.lookup x = some c → c ≠ b) ∧ ∀ p ∈ X.pn ++ pins, p.1 ≠ b) :
    Inv X pins σ H' { s with heap := h', gens := g', drawn := d', toks := t' } := by
  obtain ⟨m, ⟨o, es, ep, ho, r⟩, _⟩ := id I.loc
  obtain ⟨sl, hL⟩ := u.any ho I.free fun z => (hch _ z).2.1 rfl
  exact I.step (ch := ch) hch (fun b o hL hb hc e n => u.keep b o e n (fun z => (List.mem_cons.mp (I.stkSub b z)).elim hL hb) hc) (fun b o _ _ hc e n => u.any e n hc) (fun b o hc e n => u.free b o e n hc) (fun b o hc e => u.there b o e hc) u.tups u.frzs u.tbls (fun m' hm => by
    obtain ⟨o', es', ep', ho', r'⟩ := hm
    rw [ho] at ho'; cases ho'
    exact ⟨_, es', ep', hL, r'⟩) hok hg
/-- an untracked record of ours (an iterator) has turned -/
theorem Inv.turned {t' : Nat} {it : Addr} (I : Inv X pins σ H s) (k : ∀ b o, b ≠ it → s.heap.get? b = some o → h'.get? b = some o) (hn : H it = none) (hL : it ≠ X.env.locals)
    (h1 : it ∈ X.ex ∨ X.s₀.heap.objs.size ≤ it) (h2 : ∀ x c, X.env.cells.lookup x = some c → c ≠ it) (h3 : ∀ p ∈ X.pn ++ pins, p.1 ≠ it) : Inv X pins σ H { s with heap := h', toks := t' } := by
  have nit : ∀ b u, H b = some u → b ≠ it := fun b u e z => by rw [z, hn] at e; cases e
  refine I.step (g' := s.gens) (d' := s.drawn) (ch := [it]) (fun b hb => ?_) (fun b o _ _ hc e _ => k b o (fun z => hc (by simp [z])) e) (fun b o _ _ hc e _ => ⟨o.slots, k b o (fun z => hc (by simp [z])) e⟩) (fun _ _ _ _ n => n)
    (fun b o hc e => ⟨o, k b o (fun z => hc (by simp [z])) e⟩) (fun _ _ e => e) (fun _ _ _ e => e) (fun b ps e => ⟨#[], by rw [e]; simp⟩) (fun m hm => ?_) (fun b u e => ?_) I.bare
  · have e : b = it := by simpa using hb
    subst e
    exact ⟨h1, hL, h2, h3⟩
  · obtain ⟨o, es, ep, ho, r⟩ := hm
    exact ⟨o, es, ep, k _ o (Ne.symm hL) ho, r⟩
  · refine (I.hok b u e).stay (fun c v hc q => k c v ?_ q) (fun _ q => q) fun _ _ q => q
    rcases hc with z | z
    · rw [z]; exact nit b u e
    · exact nit c _ z
theorem Inv.tok (I : Inv X pins σ H s) (t : Nat) : Inv X pins σ H { s with toks := t } := I.un (h' := s.heap) (t' := t) Un.refl I.hok
/-- all objects kept -/
theorem Inv.kept {t' : Nat} (I : Inv X pins σ H s) (k : ∀ b u, s.heap.get? b = some u → h'.get? b = some u) : Inv X pins σ H { s with heap := h', toks := t' } := I.un (Un.kept k) (I.hok.kept k)
/-- a new object laid and tracked -/
theorem Inv.laid {a : Addr} {o : HO} {t' : Nat} (I : Inv X pins σ H s) (k : ∀ b u, s.heap.get? b = some u → h'.get? b = some u) (hp : s.heap.objs.size ≤ a) (new : ObjOk X.prog X.w (upd H a o) h' a o) :
    Inv X pins σ (upd H a o) { s with heap := h', toks := t' } := I.un (Un.laid k hp (I.hok.fresh hp)) (I.hok.laid k hp new)
/-- an object written -/
theorem Inv.write {x e : Addr} {o : HO} {t' : Nat} (I : Inv X pins σ H s) (mu : Mut (H x)) (he : e = x ∨ H e = some (.own x)) (k : ∀ b u, b ≠ e → s.heap.get? b = some u → h'.get? b = some u) (heo : ∃ u, h'.get? e = some u)
    (new : ObjOk X.prog X.w (upd H x o) h' x o) : Inv X pins σ (upd H x o) { s with heap := h', toks := t' } := I.un (Un.write mu he k heo) (I.hok.write mu he k heo new)
theorem Inv.pins_of {pins' : List (Addr × Obj)} (I : Inv X pins σ H s) (h : ∀ p ∈ pins', s.heap.get? p.1 = some p.2 ∧ H p.1 = none ∧ p.1 ≠ X.env.locals ∧ p.1 ∉ X.fs ∧ ∀ v, p.2.data ≠ .cell v) : Inv X pins' σ H s :=
  ⟨I.ok, I.os, I.bare, I.base, I.loc, I.cell, I.free, I.freeC, fun p hp => (List.mem_append.mp hp).elim (fun z => I.pin p (List.mem_append_left _ z)) (h p), I.hok, I.len⟩

theorem nodup_ix {N : List Str} (hN : N.Nodup) {i j : Nat} {x : Str} (a : N[i]? = some x) (b : N[j]? = some x) : i = j := by
  obtain ⟨h1, e1⟩ := List.getElem?_eq_some_iff.mp a
  obtain ⟨h2, e2⟩ := List.getElem?_eq_some_iff.mp b
  exact (List.getElem_inj hN).mp (e1.trans e2.symm)

/-- a name is stored; what changed -/
theorem store_ok2 {M : Model} {A : Around} {E : Value → Shared → Prop} {i : Nat} {x : Str} {v : V} {u : Value} {Q : Unit → Shared → Prop} (I : Inv X pins σ H s) (hN : X.N.Nodup) (hi : X.N[i]? = some x) (hx : Loc X.env.scope x) (r : RelV v u)
    (h : ∀ s', Inv X pins (σ.set i (some v)) H s' → (∃ a, Heap.SameBut a s.heap s'.heap ∧ (a = X.env.locals ∨ X.env.cells.lookup x = some a)) → Q () s') (hf : X.fn x = true ∨ X.env.scope.names.lookup x = some .local := by first | exact .inl rfl | exact .inr rfl | assumption) : wpAny M A (storeName X.env x u) Q E s := by
  obtain ⟨m, hn, hl⟩ := id I.loc
  have hcls : (X.env.scope.kind == .class || (X.env.scope.kind == .module && X.env.locals != X.env.globals)) = false := by rw [I.ok.kind]; rfl
  have hiσ : i < σ.length := by rw [I.len]; exact (List.getElem?_eq_some_iff.mp hi).1
  have cne := I.cne
  have tracked : ∀ {a : Addr} {h' : Heap}, (∃ o, s.heap.get? a = some o ∧ H a = none) → Heap.SameBut a s.heap h' → HOk X.prog X.w H h' := fun {a h'} ha hs b ob e => by
    obtain ⟨_, _, hfree⟩ := ha
    refine (I.hok b ob e).stay (fun c w' hc q => (hs.2 c ?_).trans q) (fun _ q => q) fun _ _ q => q
    rintro rfl
    rcases hc with rfl | hc
    · rw [hfree] at e; cases e
    · rw [hfree] at hc; cases hc
  rcases hx with hk | hk
  · refine wpAny_storeName_local hk hn (fun h' hn' hs => ?_) hcls
    obtain ⟨oL, _, _, hoL, _⟩ := id hn
    refine h _ ⟨I.ok, I.os, I.bare, ⟨fun b o e n hb hx => ?_, fun b o e n hb hx => ?_, I.base.free, fun b o e hx => ?_, I.base.tups, I.base.frzs, I.base.tbls⟩, ⟨_, hn', fun j y v' e1 e2 e3 => ?_⟩, fun y c e => ?_, I.free, I.freeC, fun p hp => ?_, tracked ⟨oL, hoL, I.free⟩ hs, by simpa using I.len⟩ ⟨_, hs, .inl rfl⟩
    · exact (hs.2 b (Nat.ne_of_lt (Nat.lt_of_lt_of_le (Heap.lt_size e) I.ok.above))).trans (I.base.keep b o e n hb hx)
    · obtain ⟨sl, e1⟩ := I.base.slot b o e n hb hx
      exact ⟨sl, (hs.2 b (Nat.ne_of_lt (Nat.lt_of_lt_of_le (Heap.lt_size e) I.ok.above))).trans e1⟩
    · obtain ⟨o', e1⟩ := I.base.there b o e hx
      exact ⟨o', (hs.2 b (Nat.ne_of_lt (Nat.lt_of_lt_of_le (Heap.lt_size e) I.ok.above))).trans e1⟩
    · by_cases hj : j = i
      · subst hj
        rw [hi] at e1; cases e1
        rw [List.getElem?_set_self hiσ] at e2
        cases e2
        exact ⟨u, r, .inl ⟨hk, by simp⟩⟩
      · rw [List.getElem?_set_ne (Ne.symm hj)] at e2
        obtain ⟨u', r', q⟩ := hl j y v' e1 e2 e3
        refine ⟨u', r', ?_⟩
        rcases q with ⟨k, e⟩ | ⟨k, c, e, z⟩
        · refine .inl ⟨k, ?_⟩
          have : y ≠ x := fun e => hj (nodup_ix hN e1 (e ▸ hi))
          simp [this, e]
        · exact .inr ⟨k, c, e, z.sameBut hs (cne y c e)⟩
    · obtain ⟨w', z⟩ := I.cell y c e
      exact ⟨w', z.sameBut hs (cne y c e)⟩
    · obtain ⟨e, n, ne, nf, d⟩ := I.pin p hp
      exact ⟨(hs.2 p.1 ne).trans e, n, ne, nf, d⟩
  · have hfn : X.fn x = true := by
      rcases hf with z | z
      · exact z
      · rw [z] at hk; cases hk
    obtain ⟨c, hc⟩ := I.ok.has x (.inl hk)
    obtain ⟨w', z⟩ := I.cell x c hc
    refine wpAny_storeName_cell I.ok.kind hk hc z (fun h' hc' hs => ?_)
    obtain ⟨oc, hoc, hocd⟩ := id z
    refine h { s with heap := h' } ⟨I.ok, I.os, I.bare, ⟨fun b o e n hb hx => ?_, fun b o e n hb hx => ?_, I.base.free, fun b o e hx => ?_, I.base.tups, I.base.frzs, I.base.tbls⟩, ⟨m, hn.sameBut hs (Ne.symm (cne x c hc)), fun j y v' e1 e2 e3 => ?_⟩, fun y c' e => ?_, I.free, I.freeC, fun p hp => ?_, tracked ⟨oc, hoc, I.freeC x c hc⟩ hs, by simpa using I.len⟩ ⟨c, hs, .inr hc⟩
    · exact (hs.2 b (Nat.ne_of_lt (Nat.lt_of_lt_of_le (Heap.lt_size e) (I.ok.cab x c hfn hc)))).trans (I.base.keep b o e n hb hx)
    · obtain ⟨sl, e1⟩ := I.base.slot b o e n hb hx
      exact ⟨sl, (hs.2 b (Nat.ne_of_lt (Nat.lt_of_lt_of_le (Heap.lt_size e) (I.ok.cab x c hfn hc)))).trans e1⟩
    · obtain ⟨o', e1⟩ := I.base.there b o e hx
      exact ⟨o', (hs.2 b (Nat.ne_of_lt (Nat.lt_of_lt_of_le (Heap.lt_size e) (I.ok.cab x c hfn hc)))).trans e1⟩
    · by_cases hj : j = i
      · subst hj
        rw [hi] at e1; cases e1
        rw [List.getElem?_set_self hiσ] at e2
        cases e2
        exact ⟨u, r, .inr ⟨.inl hk, c, hc, hc'⟩⟩
      · rw [List.getElem?_set_ne (Ne.symm hj)] at e2
        obtain ⟨u', r', q⟩ := hl j y v' e1 e2 e3
        refine ⟨u', r', ?_⟩
        rcases q with q | ⟨k, c', e, z'⟩
        · exact .inl q
        · refine .inr ⟨k, c', e, z'.sameBut hs ?_⟩
          rintro rfl
          exact hj (nodup_ix hN e1 (I.ok.inj _ _ _ e hc ▸ hi))
    · by_cases hcc : c' = c
      · subst hcc; exact ⟨_, hc'⟩
      · obtain ⟨w2, z2⟩ := I.cell y c' e
        exact ⟨w2, z2.sameBut hs hcc⟩
    · obtain ⟨e, n, ne, nf, d⟩ := I.pin p hp
      refine ⟨(hs.2 p.1 ?_).trans e, n, ne, nf, d⟩
      intro q
      rw [q, hoc] at e
      have q' : oc = p.2 := Option.some.inj e
      exact d w' (by rw [← q']; exact hocd)
theorem store_ok {M : Model} {A : Around} {E : Value → Shared → Prop} {i : Nat} {x : Str} {v : V} {u : Value} {Q : Unit → Shared → Prop} (I : Inv X pins σ H s) (hN : X.N.Nodup) (hi : X.N[i]? = some x) (hx : Loc X.env.scope x) (r : RelV v u)
    (h : ∀ s', Inv X pins (σ.set i (some v)) H s' → Q () s') (hf : X.fn x = true ∨ X.env.scope.names.lookup x = some .local := by first | exact .inl rfl | exact .inr rfl | assumption) : wpAny M A (storeName X.env x u) Q E s :=
  store_ok2 I hN hi hx r (fun s' I' _ => h s' I') hf
end

/-! ### the judgements -/
/-- an exception: its class, its own dict's address (where it has one), the abstract heap behind it -/
abbrev XK := Value → Option Addr → Hp → Prop
abbrev St := List (Option V)
abbrev VK := V → Hp → Prop
/-- an expression's reading; a test's; an argument list's -/
abbrev TE := St → Hp → VK → Prop
abbrev TT := St → Hp → (Bool → Hp → Prop) → Prop
abbrev TA := St → Hp → (List V → Hp → Prop) → Prop
/-- what is wanted behind a statement -/
structure Ends where
  nx : St → Hp → Prop
  rt : VK
  bk : St → Hp → Prop := fun _ _ => False
  ct : St → Hp → Prop := fun _ _ => False
abbrev TS := Ends → St → Hp → Prop

def EP (X : Cx) (pins : List (Addr × Obj)) (σ : St) (Q : VK) (u : Value) (s' : Shared) : Prop := ∃ v H', Inv X pins σ H' s' ∧ RelV v u ∧ Q v H'
def TP (X : Cx) (pins : List (Addr × Obj)) (σ : St) (Q : Bool → Hp → Prop) (b : Bool) (s' : Shared) : Prop := ∃ H', Inv X pins σ H' s' ∧ Q b H'
def AP (X : Cx) (pins : List (Addr × Obj)) (σ : St) (Q : List V → Hp → Prop) (us : List Value) (s' : Shared) : Prop := ∃ vs H', Inv X pins σ H' s' ∧ Vals vs us ∧ Q vs H'
def SP (X : Cx) (pins : List (Addr × Obj)) (D : Ends) (f : Flow) (s' : Shared) : Prop :=
  match f with
  | .next => ∃ σ' H', Inv X pins σ' H' s' ∧ D.nx σ' H'
  | .brk => ∃ σ' H', Inv X pins σ' H' s' ∧ D.bk σ' H'
  | .cont => ∃ σ' H', Inv X pins σ' H' s' ∧ D.ct σ' H'
  | .ret u => ∃ v σ' H', Inv X pins σ' H' s' ∧ RelV v u ∧ D.rt v H'

def PE (X : Cx) (e : Expr) (t : TE) : Prop :=
  ∀ (pins : List (Addr × Obj)) (s : Shared) (σ : St) (H : Hp) (Q : VK), Inv X pins σ H s → t σ H Q → wpAny (model X.prog X.w) X.A (eval e X.env) (EP X pins σ Q) X.xe s
def PT (X : Cx) (e : Expr) (t : TT) : Prop :=
  ∀ (pins : List (Addr × Obj)) (s : Shared) (σ : St) (H : Hp) (Q : Bool → Hp → Prop), Inv X pins σ H s → t σ H Q → wpAny (model X.prog X.w) X.A (isTrue e X.env (eval e X.env)) (TP X pins σ Q) X.xe s
/-- a test whatever its 'whole' is (and, or) -/
def PW (X : Cx) (e : Expr) (t : TT) : Prop :=
  ∀ (whole : Sem Value) (pins : List (Addr × Obj)) (s : Shared) (σ : St) (H : Hp) (Q : Bool → Hp → Prop), Inv X pins σ H s → t σ H Q → wpAny (model X.prog X.w) X.A (isTrue e X.env whole) (TP X pins σ Q) X.xe s
theorem PW.pt {X : Cx} {e : Expr} {t : TT} (h : PW X e t) : PT X e t := h _
/-- an argument list (no star), from the left -/
def PA (X : Cx) (es : List Expr) (t : TA) : Prop :=
  ∀ (pos : Pos) (pins : List (Addr × Obj)) (s : Shared) (σ : St) (H : Hp) (Q : List V → Hp → Prop), Inv X pins σ H s → t σ H Q → wpAny (model X.prog X.w) X.A (spliced (backTo pos (starEach es X.env))) (AP X pins σ Q) X.xe s
def PS (X : Cx) (st : Stmt) (t : TS) : Prop :=
  ∀ (pins : List (Addr × Obj)) (s : Shared) (σ : St) (H : Hp) (D : Ends), Inv X pins σ H s → t D σ H → wpAny (model X.prog X.w) X.A (exec st X.env) (SP X pins D) X.xe s
def PSs (X : Cx) (st : List Stmt) (t : TS) : Prop :=
  ∀ (pins : List (Addr × Obj)) (s : Shared) (σ : St) (H : Hp) (D : Ends), Inv X pins σ H s → t D σ H → wpAny (model X.prog X.w) X.A (execs st X.env) (SP X pins D) X.xe s
/-- weaken the end -/
theorem thn {α : Type} {t : Sem α} {Q Q' : α → Shared → Prop} {M : Model} {A : Around} {E : Value → Shared → Prop} {s : Shared} (h : wpAny M A t Q E s) (hQ : ∀ a s, Q a s → Q' a s) : wpAny M A t Q' E s := wpAny_mono h hQ fun _ _ x => x
end L2

namespace L2
open PySem PySem.Spec PyProof.Rows
section
variable {X : Cx}

/-! ### names and constants -/
def tVar (i : Nat) : TE := fun σ H Q => ∃ v, σ[i]? = some (some v) ∧ Q v H
def tC (v : V) : TE := fun _ H Q => Q v H
theorem pe_var {i : Nat} {x : Str} {pos : Pos} (hN : X.N[i]? = some x) (hv : Vis X.env.scope x) (hd : (x == ("__debug__" : Str)) = false := by decide) (hcd : (x == ("__classdict__" : Str)) = false := by decide) : PE X (.Name x pos) (tVar i) := by
  intro pins s σ H Q I h
  obtain ⟨v, e, h⟩ := h
  obtain ⟨m, hn, hl⟩ := I.loc
  obtain ⟨u, r, l⟩ := hl i x v hN e hv
  have fin : EP X pins σ Q u s := ⟨v, H, I, r, h⟩
  rcases l with ⟨hk, hm⟩ | ⟨hk, c, hc, hcell⟩
  · exact wpAny_Name (wpAny_loadName_local I.ok.kind hk hn hm fin) hd
  · rcases hk with hk | hk
    · exact wpAny_Name (wpAny_loadName_cell I.ok.kind hk hc hcell fin) hd
    · exact wpAny_Name (wpAny_loadName_free I.ok.kind hk hc hcell fin hcd) hd
theorem pe_int {i j pos} : PE X (.Constant (.int i) j pos) (tC (.int i)) := fun _ _ _ H _ I h => wpAny_Constant_int ⟨.int i, H, I.tok _, ⟨_, rfl⟩, h⟩
theorem pe_bl {b j pos} : PE X (.Constant (.bool b) j pos) (tC (.bl b)) := fun _ _ _ H _ I h => Constant_bool ⟨.bl b, H, I, rfl, h⟩
theorem pe_non {j pos} : PE X (.Constant .none j pos) (tC .non) := fun _ _ _ H _ I h => Constant_none ⟨.non, H, I, rfl, h⟩
/-- a global name of the def -/
def Gl (X : Cx) (x : Str) : Prop := X.env.kindOf x = some .globalImplicit
theorem ld_glob {E : Value → Shared → Prop} {pins : List (Addr × Obj)} {s : Shared} {σ : St} {H : Hp} {x : Str} {u : Value} {pos : Pos} {Q : Value → Shared → Prop} (I : Inv X pins σ H s) (hg : Gl X x) (hm : X.mg x = some u) (h : Q u s)
    (hd : (x == ("__debug__" : Str)) = false := by decide) : wpAny (model X.prog X.w) X.A (eval (.Name x pos) X.env) Q E s :=
  Calls.Name_function_global I.ok.kind hg (Calls.loadGlobal_global (by rw [I.ok.glob]; exact I.mod.glob.keeps I.bk) hm h) hd
theorem ld_blt {E : Value → Shared → Prop} {pins : List (Addr × Obj)} {s : Shared} {σ : St} {H : Hp} {x : Str} {u : Value} {pos : Pos} {Q : Value → Shared → Prop} (I : Inv X pins σ H s) (hg : Gl X x) (hm : X.mg x = none) (hv : bootBuiltins x = some u) (h : Q u s)
    (hn : x ≠ "__name__" := by decide) (hd : (x == ("__debug__" : Str)) = false := by decide) : wpAny (model X.prog X.w) X.A (eval (.Name x pos) X.env) Q E s := by
  obtain ⟨mb, h1, h2⟩ := I.mod.blt
  exact Calls.Name_function_global I.ok.kind hg (Calls.loadGlobal_builtin (by rw [I.ok.glob]; exact I.mod.glob.keeps I.bk) hm (by rw [I.ok.blt]; exact h1.keeps I.bk) ((h2 x hn).trans hv) h) hd
/-- a module's constant, a class, a function, as a value -/
theorem pe_glob {x : Str} {v : V} {u : Value} {pos : Pos} (hg : Gl X x) (hm : X.mg x = some u) (r : RelV v u) (hd : (x == ("__debug__" : Str)) = false := by decide) : PE X (.Name x pos) (tC v) :=
  fun _ _ _ H _ I h => ld_glob I hg hm ⟨v, H, I, r, h⟩ hd
theorem pe_bltn {x : Str} {v : V} {u : Value} {pos : Pos} (hg : Gl X x) (hm : X.mg x = none) (hv : bootBuiltins x = some u) (r : RelV v u) (hn : x ≠ "__name__" := by decide) (hd : (x == ("__debug__" : Str)) = false := by decide) : PE X (.Name x pos) (tC v) :=
  fun _ _ _ H _ I h => ld_blt I hg hm hv ⟨v, H, I, r, h⟩ hn hd

/-! ### arithmetic -/
variable {a b : Expr} {ta tb : TE} {pos : Pos}
/-! ### comparisons -/
/-- a comparison as a value, as a test -/
def tB (t : TE) : TT := fun σ H Q => t σ H fun x H1 => ∃ c, x = .bl c ∧ Q c H1
/-- an expression whose value is a bool, as a test -/
theorem pt_val {e : Expr} {t : TE} (h : PE X e t) (he : ∀ whole, isTrue e X.env whole = (do let v ← whole; standAt e.pos; holding [v] (truthy v)) := by intro _; rfl) : PT X e (tB t) := by
  intro pins s σ H Q I hw
  refine isTrue_plain (thn (h pins s σ H _ I hw) fun v s1 ⟨x, H1, I1, r1, q1⟩ => ?_) (he _)
  obtain ⟨d, rfl, q⟩ := q1
  cases r1
  exact wpAny_truthy_bool ⟨H1, I1, q⟩

/-! ### and, or, not -/
variable {tA tB' : TT} {rest : List Expr}
def tAnd (t u : TT) : TT := fun σ H Q => t σ H fun c H1 => if c = true then u σ H1 Q else Q false H1
def tOr (t u : TT) : TT := fun σ H Q => t σ H fun c H1 => if c = true then Q true H1 else u σ H1 Q
def tNot (t : TT) : TT := fun σ H Q => t σ H fun c H1 => Q (!c) H1
theorem pw_and1 (ha : PT X a tA) : PW X (.BoolOp .And [a] pos) tA := by
  intro wh pins s σ H Q I h
  refine isTrue_and (thn (ha pins s σ H Q I h) fun c s1 e => ?_)
  cases c with
  | true => exact isTrue_and_nil e
  | false => exact e
theorem pw_or1 (ha : PT X a tA) : PW X (.BoolOp .Or [a] pos) tA := by
  intro wh pins s σ H Q I h
  refine isTrue_or (thn (ha pins s σ H Q I h) fun c s1 e => ?_)
  cases c with
  | false => exact isTrue_or_nil e
  | true => exact e
theorem pw_and (ha : PT X a tA) (hb : PW X (.BoolOp .And (b :: rest) pos) tB') : PW X (.BoolOp .And (a :: b :: rest) pos) (tAnd tA tB') := by
  intro wh pins s σ H Q I h
  refine isTrue_and (thn (ha pins s σ H _ I h) fun c s1 ⟨H1, I1, q1⟩ => ?_)
  cases c with
  | true => exact hb wh pins s1 σ H1 Q I1 q1
  | false => exact ⟨H1, I1, q1⟩
theorem pw_or (ha : PT X a tA) (hb : PW X (.BoolOp .Or (b :: rest) pos) tB') : PW X (.BoolOp .Or (a :: b :: rest) pos) (tOr tA tB') := by
  intro wh pins s σ H Q I h
  refine isTrue_or (thn (ha pins s σ H _ I h) fun c s1 ⟨H1, I1, q1⟩ => ?_)
  cases c with
  | true => exact ⟨H1, I1, q1⟩
  | false => exact hb wh pins s1 σ H1 Q I1 q1
theorem pt_not (ha : PT X a tA) : PT X (.UnaryOp .Not a pos) (tNot tA) := by
  intro pins s σ H Q I h
  exact isTrue_not (ha pins s σ H (fun c H1 => Q (!c) H1) I h)
/-- .. as values (bools) -/
def tAndV (ta tb : TE) : TE := fun σ H Q => ta σ H fun x H1 => ∃ c, x = .bl c ∧ if c = true then tb σ H1 Q else Q (.bl false) H1
def tOrV (ta tb : TE) : TE := fun σ H Q => ta σ H fun x H1 => ∃ c, x = .bl c ∧ if c = true then Q (.bl true) H1 else tb σ H1 Q
def tNotV (ta : TE) : TE := fun σ H Q => ta σ H fun x H1 => ∃ c, x = .bl c ∧ Q (.bl (!c)) H1
theorem pe_one {op} {t : TE} (h : PE X a t) : PE X (.BoolOp op [a] pos) t := fun pins s σ H Q I hw => BoolOp_one (h pins s σ H Q I hw)
theorem pe_and (ha : PE X a ta) (hb : PE X (.BoolOp .And (b :: rest) pos) tb) : PE X (.BoolOp .And (a :: b :: rest) pos) (tAndV ta tb) := by
  intro pins s σ H Q I h
  refine BoolOp_and (thn (ha pins s σ H _ I h) fun v s1 ⟨x, H1, I1, r1, q1⟩ => ?_)
  obtain ⟨c, rfl, q1⟩ := q1
  cases r1
  refine wpAny_truthy_bool ?_
  cases c with
  | true => exact hb pins s1 σ H1 Q I1 q1
  | false => exact ⟨.bl false, H1, I1, rfl, q1⟩
theorem pe_or (ha : PE X a ta) (hb : PE X (.BoolOp .Or (b :: rest) pos) tb) : PE X (.BoolOp .Or (a :: b :: rest) pos) (tOrV ta tb) := by
  intro pins s σ H Q I h
  refine BoolOp_or (thn (ha pins s σ H _ I h) fun v s1 ⟨x, H1, I1, r1, q1⟩ => ?_)
  obtain ⟨c, rfl, q1⟩ := q1
  cases r1
  refine wpAny_truthy_bool ?_
  cases c with
  | false => exact hb pins s1 σ H1 Q I1 q1
  | true => exact ⟨.bl true, H1, I1, rfl, q1⟩
theorem pe_not (ha : PE X a ta) : PE X (.UnaryOp .Not a pos) (tNotV ta) := by
  intro pins s σ H Q I h
  refine UnaryOp_ (thn (ha pins s σ H _ I h) fun v s1 ⟨x, H1, I1, r1, q1⟩ => ?_)
  obtain ⟨c, rfl, q1⟩ := q1
  cases r1
  exact not_of (wpAny_truthy_bool ⟨.bl (!c), H1, I1, rfl, q1⟩)
/-- a if t else b -/
def tIf (t : TT) (ta tb : TE) : TE := fun σ H Q => t σ H fun c H1 => if c = true then ta σ H1 Q else tb σ H1 Q
end
end L2

namespace L2
open PySem PySem.Spec PyProof.Rows

/-! ### a list, a tuple that is read: tracked, frozen, or an object of the module -/
def SqL (K : PySem.W.Frag) (H : Hp) (a : Addr) (xs : List V) : Prop :=
  Rd H a (.lst xs) ∨
    ∃ (o : Obj) (its : Array Value) (n : Nat), K.lookup a = some o ∧ o.cls = .type "list" ∧ o.dict = none ∧ o.data = .seq its n ∧ its.size ≤ sizeLine ∧ Vals xs its.toList
def SqT (K : PySem.W.Frag) (H : Hp) (a : Addr) (xs : List V) : Prop :=
  Rd H a (.tup xs) ∨
    ∃ (o : Obj) (its : Array Value) (n : Nat), K.lookup a = some o ∧ o.cls = .type "tuple" ∧ o.data = .seq its n ∧ its.size ≤ sizeLine ∧ Vals xs its.toList
def absV : Value → Option V
  | .none => some .non
  | .bool b => some (.bl b)
  | .int i _ => some (.int i)
  | .str x _ => some (.str x)
  | .bytes b _ => some (.byt b)
  | .float b _ => some (.flt b)
  | .ref a => some (.ref a)
  | .type n => some (.ty n)
  | _ => none
theorem RelV.abs {x : V} {u : Value} (r : RelV x u) : absV u = some x := by
  cases x with
  | non => cases r; rfl
  | bl _ => cases r; rfl
  | int _ => obtain ⟨t, rfl⟩ := r; rfl
  | str _ => obtain ⟨t, rfl⟩ := r; rfl
  | byt _ => obtain ⟨t, rfl⟩ := r; rfl
  | flt _ => obtain ⟨t, rfl⟩ := r; rfl
  | ref _ => cases r; rfl
  | ty _ => cases r; rfl
theorem RelV.inj {x y : V} {u : Value} (r : RelV x u) (q : RelV y u) : x = y := Option.some.inj (r.abs.symm.trans q.abs)
theorem Vals.inj : ∀ {xs ys : List V} {us : List Value}, Vals xs us → Vals ys us → xs = ys
  | _, _, _, .nil, .nil => rfl
  | _, _, _, .cons r t, .cons r' t' => by rw [r.inj r', Vals.inj t t']
section
variable {X : Cx} {pins : List (Addr × Obj)} {σ : St} {H : Hp} {s : Shared} {a : Addr} {xs ys : List V}
theorem SqL.of {K : PySem.W.Frag} (h : H a = some (.lst xs)) : SqL K H a xs := .inl (.inl h)
theorem SqT.of {K : PySem.W.Frag} (h : H a = some (.tup xs)) : SqT K H a xs := .inl (.inl h)
theorem Inv.list (I : Inv X pins σ H s) (h : SqL X.K H a xs) : ∃ its : List Value, Vals xs its ∧ PlainL s.heap a its.toArray ∧ xs.length ≤ sizeLine := by
  rcases h with h | ⟨o, its, n, hk, hc, hd, hs, hz, r⟩
  · obtain ⟨z, its, n, r, e⟩ := h.ok I.hok
    exact ⟨its, r, ⟨_, n, e, rfl, rfl, rfl⟩, z⟩
  · refine ⟨its.toList, r, ⟨o, n, I.kIn a o hk, hc, hd, by simpa using hs⟩, ?_⟩
    have e := r.length
    simp only [Array.length_toList] at e
    omega
theorem Inv.tuple (I : Inv X pins σ H s) (h : SqT X.K H a xs) : ∃ its : List Value, Vals xs its ∧ IsTup s.heap a its.toArray ∧ xs.length ≤ sizeLine := by
  rcases h with h | ⟨o, its, n, hk, hc, hs, hz, r⟩
  · obtain ⟨z, its, r, p⟩ := h.ok I.hok
    exact ⟨its, r, p, z⟩
  · refine ⟨its.toList, r, ⟨o, I.kIn a o hk, hc, n, by simpa using hs⟩, ?_⟩
    have e := r.length
    simp only [Array.length_toList] at e
    omega
theorem Inv.list_inj (I : Inv X pins σ H s) (h : SqL X.K H a xs) (h' : SqL X.K H a ys) : xs = ys := by
  obtain ⟨its, r, ⟨o, n, e, _, _, d⟩, _⟩ := I.list h
  obtain ⟨its', r', ⟨o', n', e', _, _, d'⟩, _⟩ := I.list h'
  rw [e] at e'; cases e'
  rw [d] at d'
  injection d' with d1 _
  have : its = its' := by simpa using congrArg Array.toList d1
  subst this
  exact r.inj r'
end

/-! ### another wish about exceptions -/
abbrev Cx.wish (X : Cx) (E : Value → Shared → Prop) : Cx := { X with xe := E }
/-- no exception leaves -/
abbrev Cx.nox (X : Cx) : Cx := X.wish fun _ _ => False
theorem Cx.Ok.wish {X : Cx} (ok : X.Ok) (E : Value → Shared → Prop) : (X.wish E).Ok :=
  ⟨ok.mod, ok.kind, ok.glob, ok.blt, ok.above, ok.inj, ok.has, ok.cab, ok.hd, ok.frames, ok.stk, ok.exf, ok.bs, ok.bsz, ok.noex, ok.exfs, ok.funs, ok.frf⟩
theorem Cx.Ok.unwish {X : Cx} {E : Value → Shared → Prop} (ok : (X.wish E).Ok) : X.Ok :=
  ⟨ok.mod, ok.kind, ok.glob, ok.blt, ok.above, ok.inj, ok.has, ok.cab, ok.hd, ok.frames, ok.stk, ok.exf, ok.bs, ok.bsz, ok.noex, ok.exfs, ok.funs, ok.frf⟩
section
variable {X : Cx} {pins : List (Addr × Obj)} {σ : St} {H : Hp} {s : Shared} {E : Value → Shared → Prop}
theorem Inv.wish (I : Inv X pins σ H s) (E : Value → Shared → Prop) : Inv (X.wish E) pins σ H s := ⟨I.ok.wish E, I.os, I.bare, I.base, I.loc, I.cell, I.free, I.freeC, I.pin, I.hok, I.len⟩
theorem Inv.unwish (I : Inv (X.wish E) pins σ H s) : Inv X pins σ H s := ⟨I.ok.unwish, I.os, I.bare, I.base, I.loc, I.cell, I.free, I.freeC, I.pin, I.hok, I.len⟩
theorem SP.unwish {D : Ends} {f : Flow} {s' : Shared} (h : SP (X.wish E) pins D f s') : SP X pins D f s' := by
  cases f with
  | next => obtain ⟨σ', H', I, q⟩ := h; exact ⟨σ', H', I.unwish, q⟩
  | brk => obtain ⟨σ', H', I, q⟩ := h; exact ⟨σ', H', I.unwish, q⟩
  | cont => obtain ⟨σ', H', I, q⟩ := h; exact ⟨σ', H', I.unwish, q⟩
  | ret u => obtain ⟨v, σ', H', I, r, q⟩ := h; exact ⟨v, σ', H', I.unwish, r, q⟩
theorem PE.nox {e : Expr} {t : TE} (h : PE X.nox e t) : PE X e t := fun pins s σ H Q I hw =>
  wpAny_mono (h pins s σ H Q (I.wish _) hw) (fun _ _ ⟨v, H', I', r, q⟩ => ⟨v, H', I'.unwish, r, q⟩) fun _ _ z => False.elim z
theorem PT.nox {e : Expr} {t : TT} (h : PT X.nox e t) : PT X e t := fun pins s σ H Q I hw =>
  wpAny_mono (h pins s σ H Q (I.wish _) hw) (fun _ _ ⟨H', I', q⟩ => ⟨H', I'.unwish, q⟩) fun _ _ z => False.elim z
theorem PSs.nox {st : List Stmt} {t : TS} (h : PSs X.nox st t) : PSs X st t := fun pins s σ H D I hw =>
  wpAny_mono (h pins s σ H D (I.wish _) hw) (fun _ _ q => q.unwish) fun _ _ z => False.elim z
end

/-! ### blocks and small statements -/
section
variable {X : Cx} {st : Stmt} {rest : List Stmt} {t u : TS} {e : Expr} {te : TE} {pos : Pos}
def tNext : TS := fun D σ H => D.nx σ H
def tSeq (t u : TS) : TS := fun D σ H => t { D with nx := u D } σ H
theorem pss_nil : PSs X [] tNext := fun _ _ σ H _ I h => wpAny_execs_nil ⟨σ, H, I, h⟩
theorem pss_cons (h1 : PS X st t) (h2 : PSs X rest u) : PSs X (st :: rest) (tSeq t u) := by
  intro pins s σ H D I h
  refine wpAny_execs_cons (thn (h1 pins s σ H { D with nx := u D } I h) fun f s1 q => ?_)
  cases f with
  | next =>
    obtain ⟨σ', H', I', q⟩ := q
    exact h2 pins s1 σ' H' D I' q
  | ret v => exact q
  | brk => exact q
  | cont => exact q
theorem pss_one (h1 : PS X st t) : PSs X [st] t := by
  intro pins s σ H D I h
  refine wpAny_execs_cons (thn (h1 pins s σ H D I h) fun f s1 q => ?_)
  cases f with
  | next => exact wpAny_execs_nil q
  | ret v => exact q
  | brk => exact q
  | cont => exact q
/-- in a def's body nothing is shown -/
theorem Inv.quiet {pins : List (Addr × Obj)} {σ : St} {H : Hp} {s : Shared} (I : Inv X pins σ H s) : interactive X.env = false := by simp [interactive, I.ok.kind]
/-- an expression whose value is dropped -/
def tDrop (te : TE) : TS := fun D σ H => te σ H fun _ H1 => D.nx σ H1
theorem ps_expr (he : PE X e te) (hs : swapsWith e none pos.line X.env = pure false := by rfl) : PS X (.Expr e pos) (tDrop te) := by
  intro pins s σ H D I h
  exact wpAny_Expr_any (thn (he pins s σ H _ I h) fun v s1 ⟨x, H1, I1, r1, q1⟩ => ⟨σ, H1, I1, q1⟩) I.quiet hs
def tRet (te : TE) : TS := fun D σ H => te σ H D.rt
theorem ps_ret (he : PE X e te) : PS X (.Return (some e) pos) (tRet te) := by
  intro pins s σ H D I h
  exact wpAny_Return_some (thn (he pins s σ H _ I h) fun v s1 ⟨x, H1, I1, r1, q1⟩ => ⟨x, σ, H1, I1, r1, q1⟩)
def tRetN : TS := fun D _ H => D.rt .non H
def tIfS (c : TT) (t u : TS) : TS := fun D σ H => c σ H fun b H1 => if b = true then t D σ H1 else u D σ H1
theorem ps_if {c : Expr} {a b : List Stmt} {tc : TT} (hc : PT X c tc) (ha : PSs X a t) (hb : PSs X b u) : PS X (.If c a b pos) (tIfS tc t u) := by
  intro pins s σ H D I h
  refine wpAny_If (thn (hc pins s σ H _ I h) fun d s1 ⟨H1, I1, q1⟩ => ?_)
  cases d with
  | true => exact ha pins s1 σ H1 D I1 q1
  | false => exact hb pins s1 σ H1 D I1 q1
end

/-! ### targets -/
abbrev TG := V → St → Hp → (St → Hp → Prop) → Prop
abbrev TGs := List V → St → Hp → (St → Hp → Prop) → Prop
def PG (X : Cx) (target : Expr) (t : TG) : Prop :=
  ∀ (pins : List (Addr × Obj)) (s : Shared) (σ : St) (H : Hp) (v : V) (u : Value) (Q : St → Hp → Prop), Inv X pins σ H s → RelV v u → t v σ H Q →
    wpAny (model X.prog X.w) X.A (assign target X.env u) (fun _ s' => ∃ σ' H', Inv X pins σ' H' s' ∧ Q σ' H') X.xe s
/-- several targets, one after another -/
def PGs (X : Cx) (ts : List Expr) (t : TGs) : Prop :=
  ∀ (pins : List (Addr × Obj)) (s : Shared) (σ : St) (H : Hp) (vs : List V) (us : List Value) (Q : St → Hp → Prop), Inv X pins σ H s → Vals vs us → t vs σ H Q →
    wpAny (model X.prog X.w) X.A (assignInOrder ((assignEach ts X.env).map (·.2)) us) (fun _ s' => ∃ σ' H', Inv X pins σ' H' s' ∧ Q σ' H') X.xe s
/-- o[i] = v, by values -/
abbrev TSet := V → V → V → Hp → (Hp → Prop) → Prop
def PSet (X : Cx) (t : TSet) : Prop :=
  ∀ (pins : List (Addr × Obj)) (s : Shared) (σ : St) (H : Hp) (o i v : V) (ov iv u : Value) (Q : Hp → Prop), Inv X pins σ H s → RelV o ov → RelV i iv → RelV v u → t o i v H Q →
    wpAny (model X.prog X.w) X.A (setItem ov iv u) (fun _ s' => ∃ H', Inv X pins σ H' s' ∧ Q H') X.xe s
section
variable {X : Cx} {pos : Pos}
def gName (i : Nat) : TG := fun v σ H Q => Q (σ.set i (some v)) H
theorem pg_name {i : Nat} {x : Str} (hN : X.N.Nodup) (hi : X.N[i]? = some x) (hx : Loc X.env.scope x) (hf : X.fn x = true ∨ X.env.scope.names.lookup x = some .local := by first | exact .inl rfl | exact .inr rfl | assumption) : PG X (.Name x pos) (gName i) := by
  intro pins s σ H v u Q I r h
  exact wpAny_assign_Name (store_ok I hN hi hx r (fun s' I' => ⟨_, H, I', h⟩) hf)
def gNil : TGs := fun vs σ H Q => vs = [] ∧ Q σ H
def gCons (t : TG) (u : TGs) : TGs := fun vs σ H Q => ∃ v r, vs = v :: r ∧ t v σ H fun σ' H' => u r σ' H' Q
theorem pgs_nil : PGs X [] gNil := by
  intro pins s σ H vs us Q I r h
  obtain ⟨e, h⟩ := h
  subst e
  cases r
  exact assignInOrder_nil ⟨σ, H, I, h⟩
theorem pgs_cons {e : Expr} {es : List Expr} {t : TG} {u : TGs} (h1 : PG X e t) (h2 : PGs X es u)
    (hs : (assignEach (e :: es) X.env).map (·.2) = assign e X.env :: (assignEach es X.env).map (·.2) := by rfl) : PGs X (e :: es) (gCons t u) := by
  intro pins s σ H vs us Q I r h
  obtain ⟨v, vr, e1, h⟩ := h
  subst e1
  cases r with
  | cons r rr =>
    rw [hs]
    refine assignInOrder_cons (thn (h1 pins s σ H _ _ _ I r h) fun _ s1 ⟨σ1, H1, I1, q1⟩ => ?_)
    exact h2 pins s1 σ1 H1 _ _ Q I1 rr q1
/-- (a, b, ..) = a tuple of that length -/
def gTup (K : PySem.W.Frag) (n : Nat) (t : TGs) : TG := fun v σ H Q => ∃ a xs, v = .ref a ∧ SqT K H a xs ∧ xs.length = n ∧ t xs σ H Q
theorem pg_tup {es : List Expr} {k : Nat} {t : TGs} {n : Nat} (hc : X.calm = true) (h : PGs X es t)
    (hn : (assignEach es X.env).length = n := by rfl) (hst : (assignEach es X.env).findIdx? (·.1) = none := by rfl) : PG X (.Tuple es k pos) (gTup X.K n t) := by
  intro pins s σ H v u Q I r hw
  obtain ⟨a, xs, e1, hq, hl, hw⟩ := hw
  subst e1
  cases r
  obtain ⟨its, rv, ht, hz⟩ := I.tuple hq
  refine assign_Tuple_tuple (I.ok.hd hc) ht (by simp [hn, ← hl, rv.length]) hst fun h' hx => ?_
  have I1 : Inv X pins σ H { s with heap := h' } := I.kept (t' := s.toks) fun b o e => hx b o (Nat.ne_of_lt (Heap.lt_size e)) e
  exact h pins _ σ H xs _ Q I1 (by simpa using rv) hw
/-- o[i] = .. -/
def gSub (to ti : TE) (t : TSet) : TG := fun v σ H Q => to σ H fun o H1 => ti σ H1 fun i H2 => t o i v H2 fun H3 => Q σ H3
theorem pg_sub {o i : Expr} {to ti : TE} {t : TSet} (ho : PE X o to) (hi : PE X i ti) (hs : PSet X t)
    (ha : ∀ v, assign (.Subscript o i pos) X.env v = (do
      let ov ← holding [v] (eval o X.env)
      let iv ← holding [v, ov] (eval i X.env)
      standAt pos
      holding [v, ov, iv] (setItem ov iv v)
      release [v, ov, iv] []) := by intro _; rfl) : PG X (.Subscript o i pos) (gSub to ti t) := by
  intro pins s σ H v u Q I r h
  rw [ha]
  refine wpAny_bind (wpAny_holding (thn (ho pins s σ H _ I h) fun ov s1 ⟨x, H1, I1, r1, q1⟩ => ?_))
  refine wpAny_bind (wpAny_holding (thn (hi pins s1 σ H1 _ I1 q1) fun iv s2 ⟨y, H2, I2, r2, q2⟩ => ?_))
  refine wpAny_bind (wpAny_standAt (wpAny_bind (wpAny_holding (thn (hs pins s2 σ H2 x y v ov iv u _ I2 r1 r2 r q2) fun _ s3 ⟨H3, I3, q3⟩ => ?_))))
  exact wpAny_release ⟨σ, H3, I3, q3⟩
/-- target = value -/
def tAsg (te : TE) (g : TG) : TS := fun D σ H => te σ H fun x H1 => g x σ H1 D.nx
theorem ps_asg {tg e : Expr} {te : TE} {g : TG} (he : PE X e te) (hg : PG X tg g) (hs : swapsWithSole [tg] e pos.line X.env = pure false := by rfl) (hw : swappedStores [tg] e X.env = pure none := by rfl)
    (h1 : (assignEach [tg] X.env).map (·.2) = [assign tg X.env] := by rfl) : PS X (.Assign [tg] e pos) (tAsg te g) := by
  intro pins s σ H D I h
  refine wpAny_Assign_stores (thn (he pins s σ H _ I h) fun v s1 ⟨x, H1, I1, r1, q1⟩ => ?_) hs hw
  rw [h1]
  exact thn (hg pins s1 σ H1 x v _ I1 r1 q1) fun _ s2 q => q
/-- name = value -/
theorem ps_set {i : Nat} {x : Str} {e : Expr} {te : TE} {pos' : Pos} (hN : X.N.Nodup) (hi : X.N[i]? = some x) (hx : Loc X.env.scope x) (he : PE X e te) (hs : swapsWith e (some (.Name x pos')) pos.line X.env = pure false := by rfl) (hf : X.fn x = true ∨ X.env.scope.names.lookup x = some .local := by first | exact .inl rfl | exact .inr rfl | assumption) :
    PS X (.Assign [.Name x pos'] e pos) (tAsg te (gName i)) := by
  intro pins s σ H D I h
  refine wpAny_Assign_Name (thn (he pins s σ H _ I h) fun v s1 ⟨y, H1, I1, r1, q1⟩ => ?_) hs
  exact store_ok I1 hN hi hx r1 (fun s2 I2 => ⟨_, H1, I2, q1⟩) hf
end

/-! ### while -/
section
variable {X : Cx} {pos : Pos}
end

/-! ### what a loop or a comprehension walks -/
/-- at turn i: it yields x (the heap may grow), or it stops -/
structure It where
  go : Nat → Hp → Prop
  yld : Nat → Hp → V → Hp → Prop
  stop : Nat → Hp → Prop
/-- the iterator's own objects may turn: they are not the frame's, not pinned, younger than the entry (or a comprehension's own) -/
def FpOk (X : Cx) (pins : List (Addr × Obj)) (H : Hp) (b : Addr) : Prop :=
  H b = none ∧ b ≠ X.env.locals ∧ b ∉ X.fs ∧ (b ∈ X.ex ∨ X.s₀.heap.objs.size ≤ b) ∧ (∀ x c, X.env.cells.lookup x = some c → c ≠ b) ∧ ∀ p ∈ X.pn ++ pins, p.1 ≠ b
theorem Inv.fpOk {X : Cx} {pins : List (Addr × Obj)} {σ : St} {H H' : Hp} {s : Shared} {b : Addr} (I : Inv X pins σ H s) (hb : s.heap.objs.size ≤ b) (hn : H' b = none) : FpOk X pins H' b := by
  refine ⟨hn, Nat.ne_of_gt (Nat.lt_of_lt_of_le I.lt hb), I.nofs hb, .inr (Nat.le_trans I.sz hb), fun x c e z => ?_, fun p hp z => ?_⟩
  · obtain ⟨v, q⟩ := I.cell x c e
    exact absurd (Nat.lt_of_lt_of_le q.lt (by rw [z]; exact hb)) (Nat.lt_irrefl _)
  · exact absurd (Nat.lt_of_lt_of_le (Heap.lt_size (I.pin p hp).1) (by rw [z]; exact hb)) (Nat.lt_irrefl _)
structure Turn (P : Program) (w : World) (K : PySem.W.Frag) (tg : Expr) (J : It) (fp : List Addr) (it : Addr) (tn : Nat → Heap → Prop) : Prop where
  mem : it ∈ fp
  obj : ∀ i h, tn i h → ∀ b ∈ fp, ∃ o, h.get? b = some o ∧ ∀ v, o.data ≠ .cell v
  keep : ∀ i h h', tn i h → (∀ b ∈ fp, ∀ o, h.get? b = some o → h'.get? b = some o) → tn i h'
  item : ∀ (X : Cx), X.prog = P → X.w = w → X.K = K → X.calm = true → ∀ (i : Nat) (pins : List (Addr × Obj)) (s : Shared) (σ : St) (H : Hp) (E : Value → Shared → Prop), Inv X pins σ H s → (∀ b ∈ fp, FpOk X pins H b) → tn i s.heap → J.go i H →
    wpAny (model P w) X.A (pyNext (.ref it)) (fun r s1 => ∃ u, r = some u ∧
      wpAny (model P w) X.A (letOwnedTupleGo tg (.ref it) u) (fun _ s2 => ∃ x H', Inv X pins σ H' s2 ∧ RelV x u ∧ J.yld i H x H' ∧ tn (i + 1) s2.heap ∧ ∀ b ∈ fp, H' b = none) E s1) E s
  done : ∀ (X : Cx), X.prog = P → X.w = w → X.K = K → X.calm = true → ∀ (i : Nat) (pins : List (Addr × Obj)) (s : Shared) (σ : St) (H : Hp) (E : Value → Shared → Prop), Inv X pins σ H s → (∀ b ∈ fp, FpOk X pins H b) → tn i s.heap → J.stop i H →
    wpAny (model P w) X.A (pyNext (.ref it)) (fun r s1 => r = none ∧ Inv X pins σ H s1) E s
  self : ∀ (A : Around) (i : Nat) (s : Shared) (Q : Value → Shared → Prop) (E : Value → Shared → Prop), tn i s.heap → Q (.ref it) s → wpAny (model P w) A (pyIter (.ref it)) Q E s
abbrev TI := St → Hp → (It → Hp → Prop) → Prop
/-- an iterator has come -/
def PIE (X : Cx) (pins : List (Addr × Obj)) (σ : St) (tg : Expr) (R : It → Hp → Prop) (itv : Value) (s2 : Shared) : Prop :=
  ∃ (it : Addr) (fp : List Addr) (tn : Nat → Heap → Prop) (J : It) (H' : Hp), itv = .ref it ∧ Inv X pins σ H' s2 ∧ Turn X.prog X.w X.K tg J fp it tn ∧ tn 0 s2.heap ∧ (∀ b ∈ fp, FpOk X pins H' b) ∧ R J H'
def PI (X : Cx) (tg iter : Expr) (wi : TI) : Prop :=
  ∀ (pins : List (Addr × Obj)) (s : Shared) (σ : St) (H : Hp) (R : It → Hp → Prop), Inv X pins σ H s → wi σ H R →
    wpAny (model X.prog X.w) X.A (eval iter X.env) (fun v s1 => wpAny (model X.prog X.w) X.A (pyIter v) (PIE X pins σ tg R) X.xe s1) X.xe s

/-- the step ahead of the store is nothing for an iterator that keeps no tuple -/
theorem go_of {M : Model} {A : Around} {E : Value → Shared → Prop} {s : Shared} {tg : Expr} {it : Addr} {u : Value} {o : Obj} {n : String} {vs : Array Value} {Q : Unit → Shared → Prop} (ho : s.heap.get? it = some o) (hc : o.cls = .type n) (hd : o.data = .fields vs)
    (hn : ["enumerate", "zip", "dict_itemiterator", "dict_reverseitemiterator", "odict_iterator", "itertools.zip_longest", "itertools.pairwise"].contains n = false) (hQ : Q () s) : wpAny M A (letOwnedTupleGo tg (.ref it) u) Q E s := by
  unfold letOwnedTupleGo
  cases tg <;> first
    | exact wpAny_pure hQ
    | (cases u <;> first
        | exact wpAny_pure hQ
        | (refine wpAny_bind (wpAny_load ho ?_)
           rw [hc, hd]
           show wpAny M A (if (["enumerate", "zip", "dict_itemiterator", "dict_reverseitemiterator", "odict_iterator", "itertools.zip_longest", "itertools.pairwise"].contains n && vs[0]? == some (rawInt _)) = true then _ else _) Q E s
           rw [if_neg (by intro h; rw [hn, Bool.false_and] at h; cases h)]
           exact wpAny_pure hQ))

/-- the list at a, as it stands at each turn (a loop may append to it) -/
def Itl (K : PySem.W.Frag) (a : Addr) : It :=
  ⟨fun i H => ∃ xs x, SqL K H a xs ∧ xs[i]? = some x, fun i H x H' => H' = H ∧ ∀ xs, SqL K H a xs → xs[i]? = some x, fun i H => ∃ xs, SqL K H a xs ∧ xs.length ≤ i⟩
/-- lo, lo + 1, .. (n of them) -/
def Itr (lo : Int) (n : Nat) : It := ⟨fun i _ => i < n, fun i H x H' => H' = H ∧ x = .int (lo + i), fun i _ => n ≤ i⟩
theorem turn_list {P : Program} {w : World} {K : PySem.W.Frag} {tg : Expr} (a it : Addr) : Turn P w K tg (Itl K a) [it] it (fun i h => h.IsListIter it a i) where
  mem := by simp
  obj := fun i h st b hb => by
    have e : b = it := by simpa using hb
    subst e
    obtain ⟨o, e, c, d⟩ := st
    exact ⟨o, e, fun v z => by rw [d] at z; cases z⟩
  keep := fun i h h' st k => st.at fun o e => k it (by simp) o e
  item := by
    intro X hP hw hK hc i pins s σ H E I hf st hg
    subst hP hw hK
    obtain ⟨xs, x, hq, hx⟩ := hg
    obtain ⟨its, rv, p, hz⟩ := I.list hq
    obtain ⟨u, hu, ru⟩ := rv.get hx
    obtain ⟨f0, f1, f2, f3, f4, f5⟩ := hf it (by simp)
    refine wpAny_pyNext_list_item st p.isList (x := u) (by simpa using hu) fun h' st' sb => ?_
    have I1 : Inv X pins σ H { s with heap := h' } := I.turned (t' := s.toks) (fun b o hb e => (sb.2 b hb).trans e) f0 f1 f3 f4 f5
    obtain ⟨o, e, c, d⟩ := id st'
    exact ⟨u, rfl, go_of (s := { s with heap := h' }) e c d (by decide) ⟨x, H, I1, ru, ⟨rfl, fun ys hy => by rw [I.list_inj hy hq]; exact hx⟩, st', fun b hb => (hf b hb).1⟩⟩
  done := by
    intro X hP hw hK hc i pins s σ H E I hf st hg
    subst hP hw hK
    obtain ⟨xs, hq, hx⟩ := hg
    obtain ⟨its, rv, p, hz⟩ := I.list hq
    obtain ⟨f0, f1, f2, f3, f4, f5⟩ := hf it (by simp)
    have hl := rv.length
    exact wpAny_pyNext_list_end (I.ok.hd hc) st p.isList (by simp; omega) fun h' eb => ⟨rfl, I.turned (t' := s.toks) (fun b o hb e => eb b o hb e) f0 f1 f3 f4 f5⟩
  self := fun _ _ _ _ _ st h => wpAny_pyIter_listiter st h
theorem turn_range {P : Program} {w : World} {K : PySem.W.Frag} {tg : Expr} (it : Addr) (lo : Int) (n : Nat) : Turn P w K tg (Itr lo n) [it] it (fun i h => IsRangeIter h it (lo + (i : Nat) * 1) ((n : Int) - (i : Nat)) 1) where
  mem := by simp
  obj := fun i h st b hb => by
    have e : b = it := by simpa using hb
    subst e
    exact ⟨_, st, fun v z => by
      have z' : Data.fields _ = Data.cell v := z
      cases z'⟩
  keep := fun i h h' st k => k it (by simp) _ st
  item := by
    intro X hP hw hK hc i pins s σ H E I hf st hg
    subst hP hw hK
    obtain ⟨f0, f1, f2, f3, f4, f5⟩ := hf it (by simp)
    have W := Walks.range (prog := X.prog) (w := X.w) (I.ok.hd hc) it lo 1 n
    refine W.item i s _ _ hg st fun v h' tk hv st' kk => ?_
    obtain ⟨t, rfl⟩ := hv
    have I1 : Inv X pins σ H { s with heap := h', toks := tk } := I.turned (fun b o hb e => kk b o (by simpa using hb) e) f0 f1 f3 f4 f5
    refine ⟨_, rfl, go_of (s := { s with heap := h', toks := tk }) (n := "range_iterator") st' rfl rfl (by decide) ⟨.int (lo + i), H, I1, ⟨t, ?_⟩, ⟨rfl, rfl⟩, st', fun b hb => (hf b hb).1⟩⟩
    rw [Int.mul_one]
  done := by
    intro X hP hw hK hc i pins s σ H E I hf st hg
    subst hP hw hK
    obtain ⟨f0, f1, f2, f3, f4, f5⟩ := hf it (by simp)
    exact wpAny_pyNext_range_end (I.ok.hd hc) st (by have : n ≤ i := hg; omega) fun h' eb => ⟨rfl, I.turned (t' := s.toks) (fun b o hb e => eb b o hb e) f0 f1 f3 f4 f5⟩
  self := fun _ _ _ _ _ st h => wpAny_pyIter_rangeiter st h
end L2

namespace L2
open PySem PySem.Spec PyProof.Rows
section
variable {X : Cx} {tg : Expr}
def iList (K : PySem.W.Frag) (tl : TE) : TI := fun σ H R => tl σ H fun x H1 => ∃ a, x = .ref a ∧ (∃ xs, SqL K H1 a xs) ∧ R (Itl K a) H1
theorem pi_list {l : Expr} {tl : TE} (hl : PE X l tl) : PI X tg l (iList X.K tl) := by
  intro pins s σ H R I h
  refine thn (hl pins s σ H _ I h) fun v s1 ⟨x, H1, I1, r1, q1⟩ => ?_
  obtain ⟨a, e, ⟨xs, hq⟩, q⟩ := q1
  subst e
  cases r1
  obtain ⟨its, rv, p, hz⟩ := I1.list hq
  refine wpAny_pyIter_list p.isList ?_
  refine ⟨s1.heap.objs.size, [s1.heap.objs.size], _, _, H1, rfl, I1.kept (t' := s1.toks) fun b o e => Heap.get?_push_of_some _ e, turn_list a _, ⟨_, Heap.get?_push_size _ rfl, rfl, rfl⟩, fun b hb => ?_, q⟩
  have e : b = s1.heap.objs.size := by simpa using hb
  subst e
  exact I1.fpOk (Nat.le_refl _) (I1.hok.fresh (Nat.le_refl _))
/-- a range object just made, walked -/
theorem range_it {pins : List (Addr × Obj)} {σ : St} {H : Hp} {s : Shared} {R : It → Hp → Prop} {E : Value → Shared → Prop} {lo hi : Int} {t u v : Tok} {tk : Nat} (I : Inv X pins σ H s) (h1 : -(2 ^ 62) ≤ lo) (h2 : lo < 2 ^ 62) (h3 : -(2 ^ 62) ≤ hi) (h4 : hi < 2 ^ 62)
    (q : R (Itr lo (hi - lo).toNat) H) : wpAny (model X.prog X.w) X.A (pyIter (.ref s.heap.objs.size)) (PIE X pins σ tg R) E { s with heap := s.heap.push { cls := .type "range", data := .fields #[.int lo t, .int hi u, .int 1 v] }, toks := tk } := by
  refine wpAny_pyIter_range (IsRange.new ..) (small_one h1 h2 h3 h4) ?_
  have I1 : Inv X pins σ H { s with heap := s.heap.push { cls := .type "range", data := .fields #[.int lo t, .int hi u, .int 1 v] }, toks := tk } := I.kept fun b o e => Heap.get?_push_of_some _ e
  refine ⟨(s.heap.push { cls := .type "range", data := .fields #[.int lo t, .int hi u, .int 1 v] }).objs.size, [(s.heap.push { cls := .type "range", data := .fields #[.int lo t, .int hi u, .int 1 v] }).objs.size], _, _, H, rfl,
    I1.kept (t' := tk) fun b o e => Heap.get?_push_of_some _ e, turn_range _ lo (hi - lo).toNat, ?_, fun b hb => ?_, q⟩
  · have e1 : lo + ((0 : Nat) : Int) * 1 = lo := by simp
    have e2 : (((hi - lo).toNat : Nat) : Int) - ((0 : Nat) : Int) = Builtin.Range.rangeSize lo hi 1 := by rw [rangeSize_one]; split <;> omega
    show IsRangeIter _ _ (lo + ((0 : Nat) : Int) * 1) ((((hi - lo).toNat : Nat) : Int) - ((0 : Nat) : Int)) 1
    rw [e1, e2]
    exact Heap.get?_push_size _ rfl
  · have e : b = (s.heap.push { cls := .type "range", data := .fields #[.int lo t, .int hi u, .int 1 v] }).objs.size := by simpa using hb
    subst e
    exact I1.fpOk (Nat.le_refl _) (I1.hok.fresh (Nat.le_refl _))
def iRng1 (ta : TA) : TI := fun σ H R => ta σ H fun vs H1 => ∃ j : Int, vs = [.int j] ∧ -(2 ^ 62) ≤ j ∧ j < 2 ^ 62 ∧ R (Itr 0 j.toNat) H1
theorem pi_range1 {a : Expr} {ta : TA} {p pos : Pos} (hg : Gl X "range") (hm : X.mg "range" = none) (ha : PA X [a] ta) (hs : starEach [a] X.env = [(false, eval a X.env)] := by rfl) : PI X tg (.Call (.Name "range" p) [a] [] pos) (iRng1 ta) := by
  intro pins s σ H R I h
  refine Call_ (ld_blt I hg hm boot_range (PyProof.Rows.callWith_type1 (thn (ha pos pins s σ H _ I h) fun us s1 ⟨vs, H1, I1, r1, q1⟩ => ?_) hs rfl))
  obtain ⟨j, e, q1, q2, q⟩ := q1
  subst e
  cases r1 with
  | cons r rr =>
    cases rr
    obtain ⟨t, rfl⟩ := r
    exact call_range_1 (range_it I1 (by omega) (by omega) q1 q2 (by simpa using q))
/-! ### for -/
/-- W: the invariant by the turn and a measure; N: what the body is to reach -/
def tFor (wi : TI) (g : TG) (tb : TS) : TS := fun D σ H => wi σ H fun J H1 => ∃ W : Nat → Nat → St → Hp → Prop, (∃ m, W 0 m σ H1) ∧ ∀ i m σ H, W i m σ H →
  (J.stop i H ∧ D.nx σ H) ∨ (J.go i H ∧ ∃ N : St → Hp → Prop, (∀ σ' H', N σ' H' → ∃ m', m' < m ∧ W (i + 1) m' σ' H') ∧ ∀ x H', J.yld i H x H' → g x σ H' fun σ2 H2 => tb { D with nx := N, ct := N, bk := D.nx } σ2 H2)
/-- the records at fp as they stand -/
def pinsAt (fp : List Addr) (h : Heap) : List (Addr × Obj) := fp.filterMap fun b => (h.get? b).map fun o => (b, o)
theorem mem_pinsAt {fp : List Addr} {h : Heap} {b : Addr} {o : Obj} (hb : b ∈ fp) (e : h.get? b = some o) : (b, o) ∈ pinsAt fp h := List.mem_filterMap.mpr ⟨b, hb, by rw [e]; rfl⟩
theorem of_pinsAt {fp : List Addr} {h : Heap} {p : Addr × Obj} (hp : p ∈ pinsAt fp h) : p.1 ∈ fp ∧ h.get? p.1 = some p.2 := by
  obtain ⟨b, hb, e⟩ := List.mem_filterMap.mp hp
  cases q : h.get? b with
  | none => rw [q] at e; cases e
  | some o =>
    rw [q] at e
    have e' : (b, o) = p := Option.some.inj e
    subst e'
    exact ⟨hb, q⟩
theorem Inv.pinned {pins : List (Addr × Obj)} {σ : St} {H : Hp} {s : Shared} {fp : List Addr} (I : Inv X pins σ H s) (hf : ∀ b ∈ fp, FpOk X pins H b) (ho : ∀ b ∈ fp, ∃ o, s.heap.get? b = some o ∧ ∀ v, o.data ≠ .cell v) : Inv X (pins ++ pinsAt fp s.heap) σ H s :=
  I.pins_of fun p hp => (List.mem_append.mp hp).elim (fun z => I.pin p (List.mem_append_right _ z)) fun z => by
    obtain ⟨hb, e⟩ := of_pinsAt z
    obtain ⟨f0, f1, f2, _⟩ := hf p.1 hb
    obtain ⟨o, e', d⟩ := ho p.1 hb
    rw [e] at e'; cases e'
    exact ⟨e, f0, f1, f2, d⟩
theorem Inv.unpinned {pins pl : List (Addr × Obj)} {σ : St} {H : Hp} {s : Shared} (I : Inv X (pins ++ pl) σ H s) : Inv X pins σ H s := I.pins_of fun p hp => I.pin p (List.mem_append_right _ (List.mem_append_left _ hp))
theorem ps_for {iter : Expr} {body : List Stmt} {wi : TI} {g : TG} {tb : TS} {pos : Pos} (hp : PassesOwn (model X.prog X.w) X.A X.env X.xe) (hc : X.calm = true) (hi : PI X tg iter wi) (hg : PG X tg g) (hb : PSs X body tb)
    (hs : ∀ x, foldedSetIterable iter X.env x = pure x := by intro _; rfl) : PS X (.For tg iter body [] pos) (tFor wi g tb) := by
  intro pins s σ H D I h
  refine wpAny_For (thn (hi pins s σ H _ I h) fun v s1 h1 => thn h1 fun itv s2 h2 => ?_) hs
  obtain ⟨it, fp, tn, J, H2, e, I2, T, st2, f2, W, ⟨m0, w0⟩, turn⟩ := h2
  subst e
  have stat : ∀ {H' : Hp}, (∀ b ∈ fp, H' b = none) → ∀ b ∈ fp, FpOk X pins H' b := fun hn b hb => ⟨hn b hb, (f2 b hb).2⟩
  refine codeAny_forLoop_any (fun n s' => ∃ i σ' H', Inv X pins σ' H' s' ∧ tn i s'.heap ∧ (∀ b ∈ fp, H' b = none) ∧ W i n σ' H') ?_ m0 ⟨0, σ, H2, I2, st2, fun b hb => (f2 b hb).1, w0⟩
  rintro n s3 ⟨i, σ3, H3, I3, st3, fr3, w3⟩
  rcases turn i n σ3 H3 w3 with ⟨stop, qn⟩ | ⟨go, N, hN, step⟩
  · refine wpAny_passesOwn hp (thn (T.done X rfl rfl rfl hc i pins s3 σ3 H3 X.xe I3 (stat fr3) st3 stop) fun r s4 ⟨hr, I4⟩ => ?_)
    subst hr
    exact wpAny_execs_nil ⟨σ3, H3, I4, qn⟩
  · refine wpAny_passesOwn hp (thn (T.item X rfl rfl rfl hc i pins s3 σ3 H3 X.xe I3 (stat fr3) st3 go) fun r s4 ⟨u, hr, h4⟩ => ?_)
    subst hr
    refine wpAny_passesOwn hp (thn h4 fun _ s5 ⟨x, H5, I5, r5, y5, st5, fr5⟩ => ?_)
    have I5' := I5.pinned (stat fr5) (T.obj _ _ st5)
    refine wpAny_passesOwn hp (thn (hg _ s5 σ3 H5 x u _ I5' r5 (step x H5 y5)) fun _ s6 ⟨σ6, H6, I6, q6⟩ => ?_)
    refine wpAny_passesOwn hp (thn (hb _ s6 σ6 H6 _ I6 q6) fun f s7 q7 => ?_)
    have again : ∀ {σ7 : St} {H7 : Hp}, Inv X (pins ++ pinsAt fp s5.heap) σ7 H7 s7 → N σ7 H7 → ∃ m, m < n ∧ ∃ i σ' H', Inv X pins σ' H' s7 ∧ tn i s7.heap ∧ (∀ b ∈ fp, H' b = none) ∧ W i m σ' H' := fun {σ7 H7} I7 n7 => by
      obtain ⟨m', hm, w7⟩ := hN σ7 H7 n7
      refine ⟨m', hm, i + 1, σ7, H7, I7.unpinned, T.keep _ _ _ st5 fun b hb o e => (I7.pin (b, o) (List.mem_append_right _ (List.mem_append_right _ (mem_pinsAt hb e)))).1, fun b hb => ?_, w7⟩
      obtain ⟨o, e, d⟩ := T.obj _ _ st5 b hb
      exact (I7.pin (b, o) (List.mem_append_right _ (List.mem_append_right _ (mem_pinsAt hb e)))).2.1
    cases f with
    | next => obtain ⟨σ7, H7, I7, n7⟩ := q7; exact again I7 n7
    | cont => obtain ⟨σ7, H7, I7, n7⟩ := q7; exact again I7 n7
    | brk => obtain ⟨σ7, H7, I7, q7⟩ := q7; exact ⟨σ7, H7, I7.unpinned, q7⟩
    | ret v => obtain ⟨x7, σ7, H7, I7, r7, q7⟩ := q7; exact ⟨x7, σ7, H7, I7.unpinned, r7, q7⟩
end

/-! ### the forms one uses -/
/-- over a list that the body leaves as it is -/
theorem for_list {K : PySem.W.Frag} {a : Addr} {xs : List V} {g : TG} {tb : TS} {D : Ends} {σ : St} {H : Hp} (Pv : Nat → St → Hp → Prop) (h0 : Pv 0 σ H) (hl : ∀ i σ H, i ≤ xs.length → Pv i σ H → SqL K H a xs)
    (hs : ∀ i x σ H, xs[i]? = some x → Pv i σ H → g x σ H fun σ2 H2 => tb { D with nx := Pv (i + 1), ct := Pv (i + 1), bk := D.nx } σ2 H2) (hd : ∀ σ H, Pv xs.length σ H → D.nx σ H) :
    ∃ W : Nat → Nat → St → Hp → Prop, (∃ m, W 0 m σ H) ∧ ∀ i m σ H, W i m σ H →
      ((Itl K a).stop i H ∧ D.nx σ H) ∨ ((Itl K a).go i H ∧ ∃ N : St → Hp → Prop, (∀ σ' H', N σ' H' → ∃ m', m' < m ∧ W (i + 1) m' σ' H') ∧ ∀ x H', (Itl K a).yld i H x H' → g x σ H' fun σ2 H2 => tb { D with nx := N, ct := N, bk := D.nx } σ2 H2) := by
  refine ⟨fun i m σ H => m = xs.length - i ∧ i ≤ xs.length ∧ Pv i σ H, ⟨xs.length, by simp, Nat.zero_le _, h0⟩, ?_⟩
  rintro i m σ H ⟨rfl, hi, p⟩
  have q := hl i σ H hi p
  by_cases hlt : i < xs.length
  · refine .inr ⟨⟨xs, xs[i], q, by simp [hlt]⟩, Pv (i + 1), fun σ' H' p' => ⟨xs.length - (i + 1), by omega, rfl, hlt, p'⟩, fun x H' y => ?_⟩
    obtain ⟨e, y⟩ := y
    subst e
    exact hs i x σ _ (y xs q) p
  · have e : i = xs.length := by omega
    subst e
    exact .inl ⟨⟨xs, q, Nat.le_refl _⟩, hd σ H p⟩
theorem for_range {lo : Int} {n : Nat} {g : TG} {tb : TS} {D : Ends} {σ : St} {H : Hp} (Pv : Nat → St → Hp → Prop) (h0 : Pv 0 σ H)
    (hs : ∀ i σ H, i < n → Pv i σ H → g (.int (lo + i)) σ H fun σ2 H2 => tb { D with nx := Pv (i + 1), ct := Pv (i + 1), bk := D.nx } σ2 H2) (hd : ∀ σ H, Pv n σ H → D.nx σ H) :
    ∃ W : Nat → Nat → St → Hp → Prop, (∃ m, W 0 m σ H) ∧ ∀ i m σ H, W i m σ H →
      ((Itr lo n).stop i H ∧ D.nx σ H) ∨ ((Itr lo n).go i H ∧ ∃ N : St → Hp → Prop, (∀ σ' H', N σ' H' → ∃ m', m' < m ∧ W (i + 1) m' σ' H') ∧ ∀ x H', (Itr lo n).yld i H x H' → g x σ H' fun σ2 H2 => tb { D with nx := N, ct := N, bk := D.nx } σ2 H2) := by
  refine ⟨fun i m σ H => m = n - i ∧ i ≤ n ∧ Pv i σ H, ⟨n, by simp, Nat.zero_le _, h0⟩, ?_⟩
  rintro i m σ H ⟨rfl, hi, p⟩
  by_cases hlt : i < n
  · refine .inr ⟨hlt, Pv (i + 1), fun σ' H' p' => ⟨n - (i + 1), by omega, rfl, hlt, p'⟩, fun x H' y => ?_⟩
    obtain ⟨e, y⟩ := y
    subst e y
    exact hs i σ _ hlt p
  · have e : i = n := by omega
    subst e
    exact .inl ⟨Nat.le_refl _, hd σ H p⟩
end L2

namespace L2
open PySem PySem.Spec PyProof.Rows

abbrev R2 := V → V → Hp → VK → Prop
/-- a two-place operation on values: f is binaryOp op, inplaceOp op or compareOp op -/
def OpR (X : Cx) (f : Value → Value → Sem Value) (r : R2) : Prop :=
  ∀ (pins : List (Addr × Obj)) (s : Shared) (σ : St) (H : Hp) (x y : V) (v u : Value) (Q : VK), Inv X pins σ H s → RelV x v → RelV y u → r x y H Q →
    wpAny (model X.prog X.w) X.A (f v u) (EP X pins σ Q) X.xe s
/-- a call of a value that is known (a builtin, a type) with values -/
def CallR (X : Cx) (f : Value) (r : List V → Hp → VK → Prop) : Prop :=
  ∀ (pins : List (Addr × Obj)) (s : Shared) (σ : St) (H : Hp) (xs : List V) (us : List Value) (Q : VK), Inv X pins σ H s → Vals xs us → r xs H Q →
    wpAny (model X.prog X.w) X.A (call f us) (EP X pins σ Q) X.xe s
def tOp (r : R2) (ta tb : TE) : TE := fun σ H Q => ta σ H fun x H1 => tb σ H1 fun y H2 => r x y H2 Q
def tUn (r : V → Hp → VK → Prop) (ta : TE) : TE := fun σ H Q => ta σ H fun x H1 => r x H1 Q
/-- ints in, under C, and a value out -/
def rI (C : Int → Int → Prop) (g : Int → Int → V) : R2 := fun x y H Q => ∃ i j, x = .int i ∧ y = .int j ∧ C i j ∧ Q (g i j) H
def rI0 (g : Int → Int → V) : R2 := fun x y H Q => ∃ i j, x = .int i ∧ y = .int j ∧ Q (g i j) H
def rU (g : Int → V) : V → Hp → VK → Prop := fun x H Q => ∃ i, x = .int i ∧ Q (g i) H

section
variable {X : Cx} {a b c : Expr} {ta tb tc : TE} {pos : Pos}

theorem binT (ha : PE X a ta) (hb : PE X b tb) {pins : List (Addr × Obj)} {s : Shared} {σ : St} {H : Hp} {R : V → V → Hp → Prop} (I : Inv X pins σ H s)
    (h : ta σ H fun x H1 => tb σ H1 fun y H2 => R x y H2) {Q : Value → Shared → Prop} {f : Value → Value → Sem Value}
    (hf : ∀ v u s2 x y H2, Inv X pins σ H2 s2 → RelV x v → RelV y u → R x y H2 → wpAny (model X.prog X.w) X.A (f v u) Q X.xe s2) :
    wpAny (model X.prog X.w) X.A (eval a X.env) (fun v s₁ => wpAny (model X.prog X.w) X.A (eval b X.env) (fun u s₂ => wpAny (model X.prog X.w) X.A (f v u) Q X.xe s₂) X.xe s₁) X.xe s := by
  refine thn (ha pins s σ H _ I h) fun v s1 ⟨x, H1, I1, r1, q1⟩ => ?_
  refine thn (hb pins s1 σ H1 _ I1 q1) fun u s2 ⟨y, H2, I2, r2, q2⟩ => ?_
  exact hf v u s2 x y H2 I2 r1 r2 q2

theorem pe_op {op : Operator} {r : R2} (ho : OpR X (binaryOp op) r) (ha : PE X a ta) (hb : PE X b tb) : PE X (.BinOp a op b pos) (tOp r ta tb) := by
  intro pins s σ H Q I h
  exact wpAny_BinOp (binT ha hb I h fun v u s2 x y H2 I2 rx ry q => ho pins s2 σ H2 x y v u Q I2 rx ry q)
/-! ### ints -/
theorem opI {f : Value → Value → Sem Value} {C : Int → Int → Prop} {g : Int → Int → Int}
    (rule : ∀ (i j : Int) (t u : Tok) (s : Shared) (Q : Value → Shared → Prop) (E : Value → Shared → Prop), C i j → Q (.int (g i j) s.toks) { s with toks := s.toks + 1 } → wpAny (model X.prog X.w) X.A (f (.int i t) (.int j u)) Q E s) :
    OpR X f (rI C fun i j => .int (g i j)) := by
  intro pins s σ H x y v u Q I rx ry h
  obtain ⟨i, j, rfl, rfl, hc, q⟩ := h
  obtain ⟨t, rfl⟩ := rx
  obtain ⟨t', rfl⟩ := ry
  exact rule i j t t' s _ _ hc ⟨.int (g i j), H, I.tok _, ⟨_, rfl⟩, q⟩
theorem opI0 {f : Value → Value → Sem Value} {g : Int → Int → Int}
    (rule : ∀ (i j : Int) (t u : Tok) (s : Shared) (Q : Value → Shared → Prop) (E : Value → Shared → Prop), Q (.int (g i j) s.toks) { s with toks := s.toks + 1 } → wpAny (model X.prog X.w) X.A (f (.int i t) (.int j u)) Q E s) :
    OpR X f (rI0 fun i j => .int (g i j)) := by
  intro pins s σ H x y v u Q I rx ry h
  obtain ⟨i, j, rfl, rfl, q⟩ := h
  obtain ⟨t, rfl⟩ := rx
  obtain ⟨t', rfl⟩ := ry
  exact rule i j t t' s _ _ ⟨.int (g i j), H, I.tok _, ⟨_, rfl⟩, q⟩
theorem opB0 {f : Value → Value → Sem Value} {g : Int → Int → Bool}
    (rule : ∀ (i j : Int) (t u : Tok) (s : Shared) (Q : Value → Shared → Prop) (E : Value → Shared → Prop), Q (.bool (g i j)) s → wpAny (model X.prog X.w) X.A (f (.int i t) (.int j u)) Q E s) :
    OpR X f (rI0 fun i j => .bl (g i j)) := by
  intro pins s σ H x y v u Q I rx ry h
  obtain ⟨i, j, rfl, rfl, q⟩ := h
  obtain ⟨t, rfl⟩ := rx
  obtain ⟨t', rfl⟩ := ry
  exact rule i j t t' s _ _ ⟨.bl (g i j), H, I, rfl, q⟩

def CPow (i j : Int) : Prop := 0 ≤ j ∧ j ≤ 1000000 ∧ i.natAbs < 2 ^ 64
def CMul (i j : Int) : Prop := (-(2 ^ 64) < i ∧ i < 2 ^ 64) ∨ (-(2 ^ 64) < j ∧ j < 2 ^ 64)
theorem CMul.ok {i j : Int} (h : CMul i j) : IntMulOk i j := by
  rcases h with ⟨h1, h2⟩ | ⟨h1, h2⟩
  · exact .of_left (intBits_le_64 h1 h2)
  · exact .of_right (intBits_le_64 h1 h2)
theorem op_add : OpR X (binaryOp .Add) (rI0 fun i j => .int (i + j)) := opI0 fun _ _ _ _ _ _ _ q => add_int q
theorem op_mul : OpR X (binaryOp .Mult) (rI CMul fun i j => .int (i * j)) := opI fun _ _ _ _ _ _ _ hc q => mul_int q hc.ok
/-- % by a positive divisor of any size -/
theorem op_mod : OpR X (binaryOp .Mod) (rI (fun _ j => 0 < j) fun i j => .int (i % j)) := opI fun i j _ _ _ _ _ hc q => by
  have h1 : (0 : Int) < j := hc
  exact mod_int' (by omega) (by rw [Int.fmod_eq_emod_of_nonneg i (by omega)]; exact q)
theorem op_pow : OpR X (binaryOp .Pow) (rI CPow fun i j => .int (i ^ j.toNat)) := opI fun _ _ _ _ _ _ _ hc q => pow_int_small hc.1 hc.2.1 hc.2.2 q
/-! ### bools among ints: n += (a < b) -/
end

/-! ### comparisons -/
/-- the scalars that == tells apart as data does -/
def scal : V → V → Bool
  | .non, .non => true | .non, .int _ => true | .int _, .non => true | .non, .bl _ => true | .bl _, .non => true | .non, .str _ => true | .str _, .non => true
  | .int _, .int _ => true | .bl _, .bl _ => true | .str _, .str _ => true | .byt _, .byt _ => true
  | .int _, .str _ => true | .str _, .int _ => true | .bl _, .str _ => true | .str _, .bl _ => true
  | _, _ => false
def rEq : R2 := fun x y H Q => scal x y = true ∧ Q (.bl (decide (x = y))) H
def rNe : R2 := fun x y H Q => scal x y = true ∧ Q (.bl (!decide (x = y))) H

theorem dec_int {i j : Int} : decide (V.int i = V.int j) = (i == j) := by
  rw [Bool.eq_iff_iff]
  simp
theorem dec_bl {i j : Bool} : decide (V.bl i = V.bl j) = (i == j) := by
  rw [Bool.eq_iff_iff]
  simp
theorem dec_str {i j : Str} : decide (V.str i = V.str j) = (i == j) := by
  rw [Bool.eq_iff_iff]
  simp
theorem dec_byt {i j : Array UInt8} : decide (V.byt i = V.byt j) = (i.toList == j.toList) := by
  rw [Bool.eq_iff_iff]
  cases i
  cases j
  simp

section
variable {X : Cx} {a b c : Expr} {ta tb tc : TE} {pos : Pos}
theorem fin_bl {pins : List (Addr × Obj)} {σ : St} {H : Hp} {s : Shared} {Q : VK} {k k' : Bool} (I : Inv X pins σ H s) (q : Q (.bl k) H) (e : k = k') : EP X pins σ Q (.bool k') s := by
  subst e
  exact ⟨.bl k, H, I, rfl, q⟩
theorem op_eq : OpR X (compareOp .Eq) rEq := by
  intro pins s σ H x y v u Q I rx ry h
  obtain ⟨hs, q⟩ := h
  cases x with
  | non =>
    cases rx
    cases y with
    | non => cases ry; exact PySem.EqNone.eq_none_none (fin_bl I q (by simp))
    | bl j => cases ry; exact PySem.EqNone.eq_none_bool (fin_bl I q (by simp))
    | int j => obtain ⟨t', rfl⟩ := ry; exact PySem.EqNone.eq_none_int (fin_bl I q (by simp))
    | str j => obtain ⟨t', rfl⟩ := ry; exact PySem.EqNone.eq_none_str (fin_bl I q (by simp))
    | _ => exact absurd (show false = true from hs) Bool.false_ne_true
  | bl i =>
    cases rx
    cases y with
    | non => cases ry; exact PySem.EqNone.eq_bool_none (fin_bl I q (by simp))
    | bl j => cases ry; exact eq_bool (fin_bl I q dec_bl)
    | str j => obtain ⟨t', rfl⟩ := ry; exact PySem.EqMixed.eq_bool_str (fin_bl I q (by simp))
    | _ => exact absurd (show false = true from hs) Bool.false_ne_true
  | int i =>
    obtain ⟨t, rfl⟩ := rx
    cases y with
    | non => cases ry; exact PySem.EqNone.eq_int_none (fin_bl I q (by simp))
    | int j => obtain ⟨t', rfl⟩ := ry; exact eq_int (fin_bl I q dec_int)
    | str j => obtain ⟨t', rfl⟩ := ry; exact PySem.EqMixed.eq_int_str (fin_bl I q (by simp))
    | _ => exact absurd (show false = true from hs) Bool.false_ne_true
  | str i =>
    obtain ⟨t, rfl⟩ := rx
    cases y with
    | non => cases ry; exact PySem.EqNone.eq_str_none (fin_bl I q (by simp))
    | bl j => cases ry; exact PySem.EqMixed.eq_str_bool (fin_bl I q (by simp))
    | int j => obtain ⟨t', rfl⟩ := ry; exact PySem.EqMixed.eq_str_int (fin_bl I q (by simp))
    | str j => obtain ⟨t', rfl⟩ := ry; exact eq_str (fin_bl I q dec_str)
    | _ => exact absurd (show false = true from hs) Bool.false_ne_true
  | byt i =>
    obtain ⟨t, rfl⟩ := rx
    cases y with
    | byt j => obtain ⟨t', rfl⟩ := ry; exact PySem.W.eq_bytes (fin_bl I q dec_byt)
    | _ => exact absurd (show false = true from hs) Bool.false_ne_true
  | _ => cases y <;> exact absurd (show false = true from hs) Bool.false_ne_true
theorem op_lt : OpR X (compareOp .Lt) (rI0 fun i j => .bl (decide (i < j))) := opB0 fun _ _ _ _ _ _ _ q => lt_int q
theorem op_le : OpR X (compareOp .LtE) (rI0 fun i j => .bl (decide (i ≤ j))) := opB0 fun _ _ _ _ _ _ _ q => le_int q
theorem op_gt : OpR X (compareOp .Gt) (rI0 fun i j => .bl (decide (j < i))) := opB0 fun _ _ _ _ _ _ _ q => gt_int q
theorem op_ge : OpR X (compareOp .GtE) (rI0 fun i j => .bl (decide (j ≤ i))) := opB0 fun _ _ _ _ _ _ _ q => ge_int q
/-- is None, is not None: the right side a value none -/
theorem op_isN : OpR X (compareOp .Is) (fun x y H Q => y = .non ∧ Q (.bl (decide (x = .non))) H) := by
  intro pins s σ H x y v u Q I rx ry h
  obtain ⟨rfl, q⟩ := h
  cases ry
  refine is_none_gen (fin_bl I q ?_)
  cases x <;> first
    | (cases rx; rfl)
    | (obtain ⟨t, rfl⟩ := rx; rfl)
theorem op_notN : OpR X (compareOp .IsNot) (fun x y H Q => y = .non ∧ Q (.bl (!decide (x = .non))) H) := by
  intro pins s σ H x y v u Q I rx ry h
  obtain ⟨rfl, q⟩ := h
  cases ry
  refine isnot_none_gen (fin_bl I q ?_)
  cases x <;> first
    | (cases rx; rfl)
    | (obtain ⟨t, rfl⟩ := rx; rfl)

/-- two rules for one operation: by cases -/
theorem OpR.or {f : Value → Value → Sem Value} {r r' : R2} (h : OpR X f r) (h' : OpR X f r') : OpR X f (fun x y H Q => r x y H Q ∨ r' x y H Q) := by
  intro pins s σ H x y v u Q I rx ry q
  rcases q with q | q
  · exact h pins s σ H x y v u Q I rx ry q
  · exact h' pins s σ H x y v u Q I rx ry q

theorem nomark (b : Expr) {op : CmpOp} (h : op ≠ .In := by decide) (h2 : op ≠ .NotIn := by decide) : behindInMarks op b = false := by
  have e1 : (op == CmpOp.In) = false := by cases op <;> first | rfl | exact absurd rfl h
  have e2 : (op == CmpOp.NotIn) = false := by cases op <;> first | rfl | exact absurd rfl h2
  cases b <;> simp [behindInMarks, e1, e2]
/-- a comparison as a value; hm: nomark b, or (for in, not in) by with_unfolding_all rfl -/
theorem pe_cmpR {op : CmpOp} {r : R2} (ho : OpR X (compareOp op) r) (ha : PE X a ta) (hb : PE X b tb) (hm : behindInMarks op b = false) : PE X (.Compare a [op] [b] pos) (tOp r ta tb) := by
  intro pins s σ H Q I h
  exact wpAny_Compare1 (binT ha hb I h fun v u s2 x y H2 I2 rx ry q => ho pins s2 σ H2 x y v u Q I2 rx ry q) hm
/-- a reading of a value as a test -/
def tTest (t : TE) : TT := fun σ H Q => t σ H fun x H' => ∃ k, x = .bl k ∧ Q k H'
theorem pt_cmpR {op : CmpOp} {r : R2} (ho : OpR X (compareOp op) r) (ha : PE X a ta) (hb : PE X b tb) (hm : behindInMarks op b = false) : PT X (.Compare a [op] [b] pos) (tTest (tOp r ta tb)) := by
  intro pins s σ H Q I h
  refine wpAny_isTrue_Compare1 (thn (ha pins s σ H _ I h) fun v s1 ⟨x, H1, I1, r1, q1⟩ => thn (hb pins s1 σ H1 _ I1 q1) fun u s2 ⟨y, H2, I2, r2, q2⟩ =>
    thn (ho pins s2 σ H2 x y v u _ I2 r1 r2 q2) fun c s3 ⟨z, H3, I3, r3, k, e, q3⟩ => ?_) hm
  subst e
  cases r3
  exact wpAny_truthy_bool ⟨H3, I3, q3⟩
/-! ### truth -/
theorem line63 : (sizeLine : Nat) < 2 ^ 63 := by rw [sizeLine_eq]; decide
/-! ### strs and bytes -/
/-! ### scalar builtins, by CallR -/
theorem vals1 {x : V} {us : List Value} (r : Vals [x] us) : ∃ u, us = [u] ∧ RelV x u := by
  cases r with
  | cons r1 r2 => cases r2; exact ⟨_, rfl, r1⟩
theorem vals2 {x y : V} {us : List Value} (r : Vals [x, y] us) : ∃ u w', us = [u, w'] ∧ RelV x u ∧ RelV y w' := by
  cases r with
  | cons r1 r2 =>
    cases r2 with
    | cons r3 r4 => cases r4; exact ⟨_, _, rfl, r1, r3⟩
theorem call_max2 (hc : X.calm = true) : CallR X (.builtin "max") (fun xs H Q => ∃ i j, xs = [.int i, .int j] ∧ Q (.int (if j > i then j else i)) H) := by
  intro pins s σ H xs us Q I r h
  obtain ⟨i, j, rfl, q⟩ := h
  obtain ⟨u, w', rfl, ⟨t, rfl⟩, ⟨t', rfl⟩⟩ := vals2 r
  refine max_two_ints (I.ok.hd hc) fun h' tk k => ⟨_, H, I.kept k, ?_, q⟩
  by_cases hj : j > i
  · rw [if_pos hj, if_pos hj]; exact ⟨_, rfl⟩
  · rw [if_neg hj, if_neg hj]; exact ⟨_, rfl⟩
theorem call_int1 : CallR X (.type "int") (fun xs H Q => (∃ i, xs = [.int i] ∧ Q (.int i) H) ∨ ∃ k, xs = [.bl k] ∧ Q (.int (if k then 1 else 0)) H) := by
  intro pins s σ H xs us Q I r h
  rcases h with ⟨i, rfl, q⟩ | ⟨k, rfl, q⟩
  · obtain ⟨u, rfl, t, rfl⟩ := vals1 r
    exact call_int_int ⟨.int i, H, I, ⟨_, rfl⟩, q⟩
  · obtain ⟨u, rfl, r1⟩ := vals1 r
    cases r1
    exact call_int_bool ⟨.int (if k then 1 else 0), H, I.tok _, ⟨_, rfl⟩, q⟩
end
end L2

namespace L2
open PySem PySem.Spec PyProof.Rows

/-! ### an instance, its attributes a map -/
structure ObjM (h : Heap) (x dx C : Addr) (mA : Str → Option Value) : Prop where
  obj : h.get? x = some (PySem.W.instObj C dx)
  ns : h.Ns1 dx mA
  ne : dx ≠ x

theorem lookIn_ns {h : Heap} {dx : Addr} {mA : Str → Option Value} (n : h.Ns1 dx mA) : ∃ od, h.get? dx = some od ∧ ∀ name, PySem.W.lookIn name od = some (mA name) := by
  obtain ⟨o, es, ep, ho, hd, hk, _, hm⟩ := n
  refine ⟨o, ho, fun name => ?_⟩
  have e := hm name
  unfold nsFind findBy at e
  rw [← Array.find?_toList] at e
  unfold PySem.W.lookIn
  rw [hd]
  dsimp only
  split
  · rename_i y q
    rw [q] at e
    exact congrArg some e
  · rename_i q
    rw [q] at e
    have a : es.toList.any (·.refKey) = false := by
      rw [List.any_eq_false]
      intro y hy
      obtain ⟨z, t, hkey⟩ := hk y (Array.mem_toList_iff.mp hy)
      simp [DictEntry.refKey, hkey]
    have a' : ¬ es.toList.any (·.refKey) = true := by rw [a]; exact Bool.false_ne_true
    rw [if_neg a']
    exact congrArg some e

theorem ObjM.look {h : Heap} {x dx C : Addr} {mA : Str → Option Value} (I : ObjM h x dx C mA) : ∃ od, PySem.W.InstAt h x (PySem.W.instObj C dx) C (some od) ∧ ∀ name, PySem.W.lookIn name od = some (mA name) :=
  let ⟨od, ho, hl⟩ := lookIn_ns I.ns
  ⟨od, ⟨I.obj, rfl, rfl, ho⟩, hl⟩

section
variable {prog : Program} {w : World} {A : Around} {E : Value → Shared → Prop} {s : Shared} {K : PySem.W.Frag} {x dx C f : Addr} {mA : Str → Option Value} {name : Str} {v : Value}

end

/-! ### the attributes as a list of pairs -/
def putF (f : Str) (v : V) : List (Str × V) → List (Str × V)
  | [] => [(f, v)]
  | (g, x) :: r => if g = f then (g, v) :: r else (g, x) :: putF f v r
theorem RelO.none_of {o : Option Value} (r : RelO none o) : o = none := by
  cases o with
  | none => rfl
  | some u => exact (show False from r).elim
section
variable {P : Program} {w : World} {H H' : Hp} {h h' : Heap} {a C dx : Addr} {fs fs' : List (Str × V)}
theorem ins_get (hok : HOk P w H h) (e : H a = some (.ins C dx fs)) : ∃ mA, ObjM h a dx C mA ∧ (∀ f, RelO (fs.lookup f) (mA f)) ∧ PySem.Within mA (fs.map (·.1)) ∧ fs.length ≤ 1000 ∧ H dx = some (.own a) := by
  obtain ⟨d, z, ne, ob, mA, n, r, q⟩ := (show ObjOk P w H h a (.ins C dx fs) from hok a _ e)
  exact ⟨mA, ⟨ob, n, ne⟩, r, q, z, d⟩
end

/-! ### what of the text a class must have -/
structure Cls (K : PySem.W.Frag) (C : Addr) : Prop where
  pg : PySem.W.plainGet K C Str.empty = true
  hd : PySem.W.hasDictIn K C = true
  po : PySem.W.plainOver K C = true
  sa : PySem.W.findIn K (.ref C) "__setattr__" = some (some (.builtin "object.__setattr__"))
theorem Cls.get {K : PySem.W.Frag} {C : Addr} (c : Cls K C) (f : Str) : PySem.W.plainGet K C f = true := c.pg
/-- no class of it has the name -/
def NoAttr (K : PySem.W.Frag) (C : Addr) (f : Str) : Prop := PySem.W.findIn K (.ref C) f = some none
/-- a constant of the class -/
structure Con (K : PySem.W.Frag) (C : Addr) (f : Str) (v : V) (u : Value) : Prop where
  at_ : PySem.W.findIn K (.ref C) f = some (some u)
  rel : RelV v u
  get : PySem.W.specialIn K u "__get__" = some none
  cp : PySem.W.copiedNames.contains f = false
/-- a method: a plain def of the class or of one above it -/
structure Meth (K : PySem.W.Frag) (C : Addr) (m : Str) (f : Addr) : Prop where
  at_ : PySem.W.findIn K (.ref C) m = some (some (.ref f))
  fn : PySem.W.isFn K (.ref f) = true
  kp : PySem.W.keepIn K (.ref f) = true

section
variable {X : Cx} {pins : List (Addr × Obj)} {σ : St} {H : Hp} {s : Shared} {a C dx : Addr} {fs : List (Str × V)} {f : Str} {v : V} {A : Around} {E : Value → Shared → Prop}

/-- a new instance, tracked, without attributes -/
theorem Inv.made (I : Inv X pins σ H s) : Inv X pins σ (upd (upd H s.heap.objs.size (.own (s.heap.objs.size + 1))) (s.heap.objs.size + 1) (.ins C s.heap.objs.size []))
    { s with heap := (s.heap.push PySem.W.emptyDict).push (PySem.W.instObj C s.heap.objs.size) } := by
  have e1 : (s.heap.push PySem.W.emptyDict).get? s.heap.objs.size = some PySem.W.emptyDict := Heap.get?_push_size s.heap rfl
  have e2 : ((s.heap.push PySem.W.emptyDict).push (PySem.W.instObj C s.heap.objs.size)).get? (s.heap.objs.size + 1) = some (PySem.W.instObj C s.heap.objs.size) := by
    have := Heap.get?_push_size (s.heap.push PySem.W.emptyDict) (o := PySem.W.instObj C s.heap.objs.size) rfl
    rwa [Heap.size_push] at this
  have e3 : (s.heap.push PySem.W.emptyDict).Ns s.heap.objs.size (fun _ => none) := ⟨PySem.W.emptyDict, #[], _, e1, rfl, (fun e he => absurd he (by simp)), fun _ => rfl⟩
  have I1 := I.laid (a := s.heap.objs.size) (o := .own (s.heap.objs.size + 1)) (h' := s.heap.push PySem.W.emptyDict) (t' := s.toks) (fun b u q => Heap.get?_push_of_some _ q) (Nat.le_refl _) ⟨_, e1⟩
  refine I1.laid (a := s.heap.objs.size + 1) (o := .ins C s.heap.objs.size []) (t' := s.toks) (fun b u q => Heap.get?_push_of_some _ q) (Nat.le_of_eq (Heap.size_push _ _)) ?_
  have ne : s.heap.objs.size ≠ s.heap.objs.size + 1 := Nat.ne_of_lt (Nat.lt_succ_self _)
  refine ⟨by rw [upd_ne ne, upd_same], Nat.zero_le _, ne, e2, fun _ => none, (Heap.Ns1.of_empty e3).at fun o q => Heap.get?_push_of_some _ q, fun _ => True.intro, fun y hy => absurd rfl hy⟩

end

/-! ### readings and rules -/
/-- e.f, an attribute of the instance -/
def tFld (K : PySem.W.Frag) (ta : TE) (f : Str) : TE := fun σ H Q => ta σ H fun x H1 => ∃ a C dx fs v, x = .ref a ∧ H1 a = some (.ins C dx fs) ∧ Cls K C ∧ NoAttr K C f ∧ fs.lookup f = some v ∧ Q v H1
/-- e.f = value -/
def sFld (K : PySem.W.Frag) (ta tv : TE) (f : Str) : TS := fun D σ H => tv σ H fun y H1 => ta σ H1 fun x H2 => ∃ a C dx fs, x = .ref a ∧ H2 a = some (.ins C dx fs) ∧ Cls K C ∧ NoAttr K C f ∧ fs.length < 1000 ∧
  D.nx σ (upd H2 a (.ins C dx (putF f y fs)))
section
variable {X : Cx} {o e value : Expr} {f : Str} {pos pos' tpos : Pos} {ta tv : TE}
end

/-! ### isinstance -/
section
variable {X : Cx} {pins : List (Addr × Obj)} {σ : St} {H : Hp} {s : Shared} {A : Around} {E : Value → Shared → Prop} {Q : Value → Shared → Prop} {c : Value} {b : Bool}
/-- the type of a value, as the fragment's deciders take it; for an instance its class -/
inductive TyOf (K : PySem.W.Frag) (H : Hp) : V → Value → Prop where
  | non : TyOf K H .non (.type "NoneType")
  | bl (x : Bool) : TyOf K H (.bl x) (.type "bool")
  | int (i : Int) : TyOf K H (.int i) (.type "int")
  | str (x : Str) : TyOf K H (.str x) (.type "str")
  | flt (x : UInt64) : TyOf K H (.flt x) (.type "float")
  | lst {a : Addr} {xs : List V} (e : H a = some (.lst xs)) : TyOf K H (.ref a) (.type "list")
  | frz {a : Addr} {o : Obj} {xs : List V} (e : H a = some (.frz o (.lst xs))) : TyOf K H (.ref a) (.type "list")
  | tup {a : Addr} {xs : List V} (e : H a = some (.tup xs)) : TyOf K H (.ref a) (.type "tuple")
  | dK {a : Addr} {kvs : List (Key × V)} (e : H a = some (.dK kvs)) : TyOf K H (.ref a) (.type "dict")
  | dT {a : Addr} {kvs : List (List Key × V)} (e : H a = some (.dT kvs)) : TyOf K H (.ref a) (.type "dict")
  | ins {a C dx : Addr} {fs : List (Str × V)} (e : H a = some (.ins C dx fs)) (cl : Cls K C) (ha : PySem.W.findIn K (.ref C) "__class__" = some (some (.builtin "object.__class__")))
      (hn : PySem.W.specialIn K (.builtin "object.__class__") "__get__" = some (some (.builtin "getset_descriptor.__get__"))) (htk : PySem.W.takesIn K (.builtin "object.__class__") = some true)
      (hm : PySem.W.mroIn K C (.type "object") = some true) : TyOf K H (.ref a) (.ref C)
/-- isinstance(x, c) for one class c, a built-in or an own one: kitOne's answer -/
theorem isinst_ok {x : V} {u t : Value} (I : Inv X pins σ H s) (rx : RelV x u) (ty : TyOf X.K H x t) (e : PySem.W.kitOne X.K t c = some b) (h : ∀ tk, Q (.bool b) { s with toks := tk }) :
    wpAny (model X.prog X.w) A (call (.builtin "isinstance") [u, c]) Q E s := by
  cases ty with
  | non => cases (show u = Value.none from rx); exact PySem.W.kia_one PySem.W.kitx_none I.kIn True.intro e (fun z => nomatch z) h
  | bl y => cases (show u = Value.bool y from rx); exact PySem.W.kia_one PySem.W.kitx_bool I.kIn True.intro e (fun z => nomatch z) h
  | int i => obtain ⟨t, q⟩ := (show ∃ t, u = Value.int i t from rx); cases q; exact PySem.W.kia_one PySem.W.kitx_int I.kIn True.intro e (fun z => nomatch z) h
  | str y => obtain ⟨t, q⟩ := (show ∃ t, u = Value.str y t from rx); cases q; exact PySem.W.kia_one PySem.W.kitx_str I.kIn True.intro e (fun z => nomatch z) h
  | flt y => obtain ⟨t, q⟩ := (show ∃ t, u = Value.float y t from rx); cases q; exact PySem.W.kia_one PySem.W.kitx_float I.kIn True.intro e (fun z => nomatch z) h
  | @lst a xs ea =>
    cases (show u = Value.ref a from rx)
    obtain ⟨_, _, n, _, h1⟩ := (show ObjOk X.prog X.w H s.heap a (.lst xs) from I.hok a _ ea)
    exact PySem.W.kia_one PySem.W.kitx_list I.kIn ⟨_, h1, rfl⟩ e (fun z => nomatch z) h
  | @frz a ob xs ea =>
    cases (show u = Value.ref a from rx)
    obtain ⟨_, _, _, n, _, h1⟩ := (show ObjOk X.prog X.w H s.heap a (.frz ob (.lst xs)) from I.hok a _ ea)
    exact PySem.W.kia_one PySem.W.kitx_list I.kIn ⟨_, h1, rfl⟩ e (fun z => nomatch z) h
  | @tup a xs ea =>
    cases (show u = Value.ref a from rx)
    obtain ⟨_, _, _, p⟩ := (show ObjOk X.prog X.w H s.heap a (.tup xs) from I.hok a _ ea)
    obtain ⟨o, h1, h2, _⟩ := p
    exact PySem.W.kia_one PySem.W.kitx_tuple I.kIn ⟨o, h1, h2⟩ e (fun z => nomatch z) h
  | @dK a kvs ea =>
    cases (show u = Value.ref a from rx)
    obtain ⟨_, _, vs, _, p⟩ := (show ObjOk X.prog X.w H s.heap a (.dK kvs) from I.hok a _ ea)
    obtain ⟨o, es, ep, h1, h2, _⟩ := p
    exact PySem.W.kia_one PySem.W.kitx_dict I.kIn ⟨o, h1, h2.1⟩ e (fun z => nomatch z) h
  | @dT a kvs ea =>
    cases (show u = Value.ref a from rx)
    obtain ⟨_, _, xs, _, o, es, ep, h1, h2, _⟩ := (show ObjOk X.prog X.w H s.heap a (.dT kvs) from I.hok a _ ea)
    exact PySem.W.kia_one PySem.W.kitx_dict I.kIn ⟨o, h1, h2.1⟩ e (fun z => nomatch z) h
  | @ins a C dx fs ea cl ha hn htk hm =>
    cases (show u = Value.ref a from rx)
    obtain ⟨mA, O, _⟩ := ins_get I.hok ea
    obtain ⟨od, J, _⟩ := O.look
    exact PySem.W.kia_one (PySem.W.kitx_own (cl.get _) cl.hd ha hn htk hm) I.kIn J e (fun z => nomatch z) h
end
end L2

namespace L2
open PySem PySem.Spec PyProof.Rows

/-! ### room -/
structure Room (k : Nat) (A : Around) : Prop where
  hd : A.handled = none
  dp : A.depth + 3 * k + 5 < recursionLimit
  un : A.units + 16 * k + 200 < cLine
theorem Room.mono {j k : Nat} {A : Around} (r : Room k A) (h : j ≤ k) : Room j A := ⟨r.hd, by have := r.dp; omega, by have := r.un; omega⟩
theorem Room.deeper {k : Nat} {A : Around} (r : Room (k + 1) A) (env : Env) : Room k (A.deeper env) :=
  ⟨r.hd, by have := r.dp; show A.depth + 1 + 3 * k + 5 < _; omega, by have := r.un; show A.units + 3 + 16 * k + 200 < _; omega⟩
theorem Room.in1 {k : Nat} {A : Around} (r : Room (k + 1) A) : Room k A.in1 :=
  ⟨r.hd, by have := r.dp; show A.depth + 3 * k + 5 < _; omega, by have := r.un; show A.units + 1 + 16 * k + 200 < _; omega⟩
theorem make_depth {A : Around} {C : Addr} {us : List Value} {kw : List (Str × Value)} : (A.under (.builtin "type.__call__" ⟨.ref C :: us, kw⟩)).depth = A.depth + 1 := by
  first | rfl | simp [Around.under, Code.weight, Code.isCreation, Code.isGuard, Code.isCaller, Code.frames, Code.isFrame, guardIds]
theorem make_units {A : Around} {C : Addr} {us : List Value} {kw : List (Str × Value)} : (A.under (.builtin "type.__call__" ⟨.ref C :: us, kw⟩)).units = A.units + 1 := by
  first | rfl | simp [Around.under, Code.cUnits, Code.frames, Code.isFrame]
theorem Room.make {k : Nat} {A : Around} (r : Room (k + 1) A) (C : Addr) (us : List Value) (kw : List (Str × Value)) : Room k (A.under (.builtin "type.__call__" ⟨.ref C :: us, kw⟩)) :=
  ⟨r.hd, by have := r.dp; rw [make_depth]; omega, by have := r.un; rw [make_units]; omega⟩
theorem Room.depth {k : Nat} {A : Around} (r : Room k A) : A.depth < recursionLimit := by have := r.dp; omega
theorem Room.units {k : Nat} {A : Around} (r : Room k A) : A.units + 64 < cLine := by have := r.un; omega
/-! ### argument lists and displays -/
def tNil : TA := fun _ H Q => Q [] H
def tCons (ta : TE) (tr : TA) : TA := fun σ H Q => ta σ H fun x H1 => tr σ H1 fun xs H2 => Q (x :: xs) H2
section
variable {X : Cx} {e : Expr} {es : List Expr} {te : TE} {t : TA} {pos : Pos}
theorem pa_nil : PA X [] tNil := fun _ _ _ _ H Q I h => Calls.spliced_nil ⟨[], H, I, .nil, h⟩
theorem pa_cons (ha : PE X e te) (hr : PA X es t) (hs : starEach (e :: es) X.env = (false, eval e X.env) :: starEach es X.env := by rfl) : PA X (e :: es) (tCons te t) := by
  intro pos pins s σ H Q I h
  rw [hs]
  show wpAny _ _ (spliced ((false, eval e X.env) :: backTo pos (starEach es X.env))) _ _ s
  refine Calls.spliced_cons (thn (ha pins s σ H _ I h) fun u s1 ⟨x, H1, I1, r1, q1⟩ => ?_)
  exact thn (hr pos pins s1 σ H1 _ I1 q1) fun us s2 ⟨xs, H2, I2, r2, q2⟩ => ⟨x :: xs, H2, I2, .cons r1 r2, q2⟩

/-- a tuple, a list of written items -/
def tTup (t : TA) : TE := fun σ H Q => t σ H fun xs H1 => xs.length ≤ sizeLine ∧ ∀ p, H1 p = none → Q (.ref p) (upd H1 p (.tup xs))
def tLst (t : TA) : TE := fun σ H Q => t σ H fun xs H1 => xs.length ≤ sizeLine ∧ ∀ p, H1 p = none → Q (.ref p) (upd H1 p (.lst xs))
end

/-! ### what a def promises -/
/-- a def's promise: the bound arguments in the parameters' order, the heap, the wanted end, the wanted exception -/
abbrev Sp := List V → Hp → VK → XK → Prop
/-- how an exception lies behind a call (file 08 gives it): the callers' frames, abstract heap and state ahead of the call, the wish, the exception, the state -/
abbrev CXT := List Env → Hp → Shared → XK → Value → Shared → Prop

/-- the state at a call -/
structure Env0 (P : Program) (w : World) (K : PySem.W.Frag) (mg : Str → Option Value) (base : Heap) (A : Around) (outer : List Env) (s : Shared) (H : Hp) : Prop where
  frames : A.frames = some outer
  mod : Mod K mg base
  bs : ∀ b o, base.get? b = some o → s.heap.get? b = some o ∧ H b = none
  bsz : base.objs.size ≤ s.heap.objs.size
  funs : s.heap.FunFrames base outer
  frf : ∀ b ∈ frs outer, H b = none
  hok : HOk P w H s.heap
  bare : AllBare s.gens
/-- a call's end -/
def CE (outer : List Env) (P : Program) (w : World) (H : Hp) (s : Shared) (Q : VK) (u : Value) (s' : Shared) : Prop :=
  ∃ v H', s'.os = s.os ∧ AllBare s'.gens ∧ Un (frs outer) [] H H' s.heap s'.heap ∧ HOk P w H' s'.heap ∧ RelV v u ∧ Q v H'
def CR (CX : CXT) (outer : List Env) (P : Program) (w : World) (H : Hp) (s : Shared) (Q : VK) (E : XK) (r : Result) (s' : Shared) : Prop :=
  match r with
  | .ok (.ret u) => CE outer P w H s Q u s'
  | .ok _ => False
  | .error e => CX outer H s E e s'
structure FnOk (P : Program) (w : World) (K : PySem.W.Frag) (mg : Str → Option Value) (base : Heap) (CX : CXT) (k : Nat) (f : Addr) (fd : FuncData) (ps : List Str) (sp : Sp) : Prop where
  len : ∀ vs H Q E, sp vs H Q E → vs.length = ps.length
  run : ∀ (A : Around) (outer : List Env) (s : Shared) (H : Hp) (args : Args) (us : List Value) (vs : List V) (Q : VK) (E : XK), Room k A → Env0 P w K mg base A outer s H → BindsTo s fd args (ps.zip us) → Vals vs us → sp vs H Q E →
    codeAny (model P w) A (.call (.ref f) args) (CR CX outer P w H s Q E) s
theorem FnOk.mono {P : Program} {w : World} {K : PySem.W.Frag} {mg : Str → Option Value} {base : Heap} {CX : CXT} {j k : Nat} {f : Addr} {fd : FuncData} {ps : List Str} {sp : Sp} (F : FnOk P w K mg base CX j f fd ps sp) (h : j ≤ k) :
    FnOk P w K mg base CX k f fd ps sp := ⟨F.len, fun A outer s H args us vs Q E hr => F.run A outer s H args us vs Q E (hr.mono h)⟩
theorem Env0.make {P : Program} {w : World} {K : PySem.W.Frag} {mg : Str → Option Value} {base : Heap} {A : Around} {outer : List Env} {s : Shared} {H : Hp} (e : Env0 P w K mg base A outer s H) (C : Addr) (us : List Value) (kw : List (Str × Value)) :
    Env0 P w K mg base (A.under (.builtin "type.__call__" ⟨.ref C :: us, kw⟩)) outer s H := ⟨by first | exact e.frames | (simpa [Around.under, Code.envs, Code.isFrame, pushEnvs] using e.frames), e.mod, e.bs, e.bsz, e.funs, e.frf, e.hok, e.bare⟩
theorem Env0.in1 {P : Program} {w : World} {K : PySem.W.Frag} {mg : Str → Option Value} {base : Heap} {A : Around} {outer : List Env} {s : Shared} {H : Hp} (e : Env0 P w K mg base A outer s H) :
    Env0 P w K mg base A.in1 outer s H := ⟨e.frames, e.mod, e.bs, e.bsz, e.funs, e.frf, e.hok, e.bare⟩

section
variable {X : Cx} {pins : List (Addr × Obj)} {σ : St} {H : Hp} {s s' : Shared}
/-- from a body: what a callee wants -/
theorem Inv.env0 (I : Inv X pins σ H s) : Env0 X.prog X.w X.K X.mg X.base X.A X.stack s H :=
  ⟨I.ok.frames, I.ok.mod, I.bs, Nat.le_trans I.ok.bsz I.sz, I.stack, I.stkFree, I.hok, I.bare⟩
/-- behind a call -/
theorem Inv.after {Q : VK} {u : Value} (I : Inv X pins σ H s) (h : CE X.stack X.prog X.w H s Q u s') : EP X pins σ Q u s' := by
  obtain ⟨v, H', os, bare, un, hok, r, q⟩ := h
  obtain ⟨hh, g, d, t, os'⟩ := s'
  obtain rfl : os' = s.os := os
  exact ⟨v, H', I.call (h' := hh) (g' := g) (d' := d) (t' := t) (ch := []) un hok bare (fun b z => absurd z (by simp)), r, q⟩
end

/-! ### calls -/
/-- f(..): the written arguments, then the defaults dvs; E: what is wanted of an exception -/
def tCall (sp : Sp) (dvs : List V) (E : XK) (t : TA) : TE := fun σ H Q => t σ H fun vs H1 => sp (vs ++ dvs) H1 Q E
/-- o.m(..) of an instance of the class at C -/
def tMeth (C : Addr) (m : Str) (sp : Sp) (dvs : List V) (E : XK) (ta : TE) (t : TA) : TE := fun σ H Q => ta σ H fun x H1 => ∃ a dx fs, x = .ref a ∧ H1 a = some (.ins C dx fs) ∧ fs.lookup m = none ∧
  t σ H1 fun vs H2 => sp (x :: (vs ++ dvs)) H2 Q E
/-- C(..): a new instance and its dict, then __init__ -/
def tMake (C : Addr) (sp : Sp) (dvs : List V) (E : XK) (t : TA) : TE := fun σ H Q => t σ H fun vs H1 => ∀ x dx, H1 x = none → H1 dx = none → dx ≠ x →
  sp (.ref x :: (vs ++ dvs)) (upd (upd H1 dx (.own x)) x (.ins C dx [])) (fun v H2 => v = .non ∧ Q (.ref x) H2) E

/-- how the parameters are bound: us the positional arguments, kw the keywords' values by name, ds the defaults that fill up -/
def Binds (K : PySem.W.Frag) (fd : FuncData) (ps : List Str) (ds : List Value) : Prop :=
  ∀ (s : Shared) (us : List Value), K.In s.heap → (us ++ ds).length = ps.length → BindsTo s fd ⟨us, []⟩ (ps.zip (us ++ ds))
/-- every parameter is given -/
theorem Binds.all {K : PySem.W.Frag} {fd : FuncData} {ps : List Str} (h : ∀ us : List Value, us.length = ps.length → bindArgs fd ⟨us, []⟩ = pure (ps.zip us)) : Binds K fd ps [] := fun s us _ hl => by
  rw [List.append_nil] at hl ⊢
  exact .of_eq (h us hl)

/-- an exception of a callee reaches what this body wants of exceptions -/
def Passes (CX : CXT) (X : Cx) (E : XK) : Prop := ∀ (pins : List (Addr × Obj)) (σ : St) (H : Hp) (s : Shared) (e : Value) (s' : Shared), Inv X pins σ H s → CX X.stack H s E e s' → X.xe e s'

section
variable {X : Cx} {CX : CXT} {k : Nat} {f C : Addr} {fd : FuncData} {ps : List Str} {sp : Sp} {dvs : List V} {ds : List Value} {E : XK} {x m : Str} {p pos apos : Pos} {e o : Expr} {es : List Expr} {ta : TE} {t : TA}

/-- the callee runs -/
theorem run_fn {pins : List (Addr × Obj)} {σ : St} {H : Hp} {s : Shared} {Q : VK} {us : List Value} {vs : List V} (F : FnOk X.prog X.w X.K X.mg X.base CX k f fd ps sp) (hr : Room k X.A) (hb : Binds X.K fd ps ds) (hd : Vals dvs ds) (hx : Passes CX X E)
    (I : Inv X pins σ H s) (r : Vals vs us) (h : sp (vs ++ dvs) H Q E) : wpAny (model X.prog X.w) X.A (call (.ref f) us) (EP X pins σ Q) X.xe s := by
  have r2 : Vals (vs ++ dvs) (us ++ ds) := r.append hd
  have hl : (us ++ ds).length = ps.length := by rw [← r2.length]; exact F.len _ _ _ _ h
  refine wpAny_call (codeAny_mono (F.run X.A X.stack s H ⟨us, []⟩ (us ++ ds) (vs ++ dvs) Q E hr I.env0 (hb s us I.kIn hl) r2 h) fun r s' hq => ?_)
  cases r with
  | error e => exact hx pins σ H s e s' I hq
  | ok fl =>
    cases fl with
    | ret u => exact I.after hq
    | next => exact False.elim hq
    | brk => exact False.elim hq
    | cont => exact False.elim hq

theorem pe_call (F : FnOk X.prog X.w X.K X.mg X.base CX k f fd ps sp) (hr : Room k X.A) (hg : Gl X x) (hm : X.mg x = some (.ref f)) (hk : PySem.W.keepIn X.K (.ref f) = true) (hb : Binds X.K fd ps ds) (hd : Vals dvs ds) (hx : Passes CX X E)
    (ha : PA X (e :: es) t) (hdb : (x == ("__debug__" : Str)) = false := by decide) (he : starEach (e :: es) X.env = (false, eval e X.env) :: starEach es X.env := by rfl) (hpl : (backTo pos (starEach es X.env)).any (·.1) = false := by rfl) :
    PE X (.Call (.Name x p) (e :: es) [] pos) (tCall sp dvs E t) := by
  intro pins s σ H Q I h
  refine wpAny_Call_Name_kw (ld_glob I hg hm ?_ hdb)
  refine PySem.W.callWith_K (h₀ := X.base) I.ok.mod.kin hk (thn (ha pos pins s σ H _ I h) fun us s1 ⟨vs, H1, I1, r, q⟩ => ⟨I1.kIn, ?_⟩) he hpl
  exact run_fn F hr hb hd hx I1 r q
/-- what a class must have to be made -/
structure Mk (K : PySem.W.Frag) (C f : Addr) : Prop where
  makes : PySem.W.makesIn K C = true
  init : PySem.W.findIn K (.ref C) "__init__" = some (some (.ref f))
  fn : PySem.W.isFn K (.ref f) = true
  kp : PySem.W.keepIn K (.ref C) = true

end

/-! ### keywords -/
section
variable {X : Cx} {CX : CXT} {k : Nat} {f C : Addr} {fd : FuncData} {ps ks : List Str} {sp : Sp} {E : XK} {x m : Str} {p pos apos kpos : Pos} {e o : Expr} {es : List Expr} {kws : List Keyword} {te ta : TE} {t tk : TA} {nm : Option Str}
/-- how a call with keywords binds: g puts the positional values us and the keywords' values ws (names ks) in the parameters' order, defaults among them -/
structure KBinds (K : PySem.W.Frag) (fd : FuncData) (ps ks : List Str) (g : List Value → List Value → List Value) (gV : List V → List V → List V) : Prop where
  to : ∀ (s : Shared) (us ws : List Value), K.In s.heap → (g us ws).length = ps.length → BindsTo s fd ⟨us, ks.zip ws⟩ (ps.zip (g us ws))
  rel : ∀ {vs : List V} {us : List Value} {zs : List V} {ws : List Value}, Vals vs us → Vals zs ws → Vals (gV vs zs) (g us ws)
variable {g : List Value → List Value → List Value} {gV : List V → List V → List V}
end

/-! ### a def's body keeps its promise -/
/-- names: the parameters first -/
structure FnScope (N P : List Str) (sc : Scope) : Prop where
  kind : sc.kind = .function
  co : sc.isCoroutine = false
  gen : sc.isGenerator = false
  nd : N.Nodup
  pre : N.take P.length = P
  par : ∀ x ∈ P, sc.names.lookup x = some .local ∨ sc.names.lookup x = some .cell
  nofree : ∀ y ∈ sc.names, y.2 ≠ .free

theorem bindL_out {kindOf : Str → Option NameKind} {x : Str} : ∀ {binds : List (Str × Value)} {m : Str → Option Value}, (∀ v, (x, v) ∉ binds) → bindL kindOf binds m x = m x
  | [], _, _ => rfl
  | (n, v) :: r, m, h => by
    unfold bindL
    rw [bindL_out fun w hw => h w (List.mem_cons_of_mem _ hw)]
    split
    · have : x ≠ n := by rintro rfl; exact h v List.mem_cons_self
      simp [this]
    · rfl
theorem bindC_out {kindOf : Str → Option NameKind} {x : Str} : ∀ {binds : List (Str × Value)} {m : Str → Option Value}, (∀ v, (x, v) ∉ binds) → bindC kindOf binds m x = m x
  | [], _, _ => rfl
  | (n, v) :: r, m, h => by
    unfold bindC
    rw [bindC_out fun w hw => h w (List.mem_cons_of_mem _ hw)]
    split
    · rfl
    · have : x ≠ n := by rintro rfl; exact h v List.mem_cons_self
      simp [this]
theorem bindL_get {kindOf : Str → Option NameKind} {x : Str} {v : Value} : ∀ {P : List Str} {vs : List Value} {i : Nat} {m : Str → Option Value}, P.Nodup → P[i]? = some x → vs[i]? = some v → kindOf x = some .local →
    bindL kindOf (P.zip vs) m x = some v
  | [], _, _, _, _, h, _, _ => by simp at h
  | _ :: _, [], _, _, _, _, h, _ => by simp at h
  | p :: P, w :: vs, 0, m, nd, h1, h2, hk => by
    simp at h1 h2; subst h1; subst h2
    show bindL kindOf ((p, w) :: P.zip vs) m p = _
    unfold bindL
    rw [bindL_out fun v hv => (List.nodup_cons.mp nd).1 (List.of_mem_zip hv).1, if_pos hk]
    simp
  | p :: P, w :: vs, i + 1, m, nd, h1, h2, hk => by
    show bindL kindOf ((p, w) :: P.zip vs) m x = _
    unfold bindL
    exact bindL_get (i := i) (List.nodup_cons.mp nd).2 (by simpa using h1) (by simpa using h2) hk
theorem bindC_get {kindOf : Str → Option NameKind} {x : Str} {v : Value} : ∀ {P : List Str} {vs : List Value} {i : Nat} {m : Str → Option Value}, P.Nodup → P[i]? = some x → vs[i]? = some v → kindOf x ≠ some .local →
    bindC kindOf (P.zip vs) m x = some v
  | [], _, _, _, _, h, _, _ => by simp at h
  | _ :: _, [], _, _, _, _, h, _ => by simp at h
  | p :: P, w :: vs, 0, m, nd, h1, h2, hk => by
    simp at h1 h2; subst h1; subst h2
    show bindC kindOf ((p, w) :: P.zip vs) m p = _
    unfold bindC
    rw [bindC_out fun v hv => (List.nodup_cons.mp nd).1 (List.of_mem_zip hv).1, if_neg hk]
    simp
  | p :: P, w :: vs, i + 1, m, nd, h1, h2, hk => by
    show bindC kindOf ((p, w) :: P.zip vs) m x = _
    unfold bindC
    exact bindC_get (i := i) (List.nodup_cons.mp nd).2 (by simpa using h1) (by simpa using h2) hk

/-- the names' values at the entry -/
def start (N : List Str) (vs : List V) : St := vs.map some ++ List.replicate (N.length - vs.length) none

/-- the context of a def's body, at its entry; an exception leaves the frame, then lies as CX says -/
def cxOf (CX : CXT) (P : Program) (w : World) (K : PySem.W.Frag) (mg : Str → Option Value) (base : Heap) (N : List Str) (qual : Str) (scope : Scope) (f : Addr) (cd : Value) (A : Around) (outer : List Env) (s : Shared) (H : Hp) (E : XK) : Cx where
  prog := P
  w := w
  K := K
  mg := mg
  base := base
  A := A.deeper (envOfC qual scope s.heap.objs.size f cd)
  N := N
  s₀ := s
  H₀ := H
  env := envOfC qual scope s.heap.objs.size f cd
  outer := outer
  stack := envOfC qual scope s.heap.objs.size f cd :: outer
  ex := []
  calm := true
  fn := fun _ => true
  pn := []
  xe := fun e s' => wpAny (model P w) (A.deeper (envOfC qual scope s.heap.objs.size f cd)) (leaving (envOfC qual scope s.heap.objs.size f cd) e) (fun _ s'' => CX outer H s E e s'') (fun e' s'' => CX outer H s E e' s'') s'

theorem cell_has {sc : Scope} {n : Nat} {x : Str} (h : sc.names.lookup x = some .cell) : ∃ c, (cellsFrom n sc.names []).lookup x = some c := by
  have q := PySem.W.cellsFrom_some sc.names n [] (.inl h)
  exact Option.isSome_iff_exists.mp q

theorem inv_start {CX : CXT} {P : Program} {w : World} {K : PySem.W.Frag} {mg : Str → Option Value} {base : Heap} {N ps : List Str} {qual : Str} {scope : Scope} {f : Addr} {cd : Value} {A : Around} {outer : List Env} {s s1 : Shared} {H : Hp} {E : XK} {us : List Value} {vs : List V}
    (S : FnScope N ps scope) (hd : A.handled = none) (e0 : Env0 P w K mg base A outer s H) (hl : vs.length = ps.length) (r : Vals vs us)
    (x : InCallC s s.heap.objs.size (bindL (envOfC qual scope s.heap.objs.size f cd).kindOf (ps.zip us) fun _ => none) (cellsFrom (s.heap.objs.size + 1) scope.names []) (bindC (envOfC qual scope s.heap.objs.size f cd).kindOf (ps.zip us) fun _ => none) s1) :
    Inv (cxOf CX P w K mg base N qual scope f cd A outer s H E) [] (start N vs) H s1 := by
  have hpl : ps.length ≤ N.length := by have := congrArg List.length S.pre; rw [List.length_take] at this; omega
  obtain ⟨h1, tk, rfl, hk⟩ := x.done
  have noA : ∀ b : Addr, b ∉ (cxOf CX P w K mg base N qual scope f cd A outer s H E).ex := fun b z => absurd (show b ∈ ([] : List Addr) from z) (by simp)
  refine ⟨⟨e0.mod, S.kind, rfl, rfl, Nat.le_refl _, fun y z c h1 h2 => ?_, fun y hy => ?_, fun y c _ h => ?_, fun _ => hd, Around.frames_deeper e0.frames, .inr ⟨rfl, rfl⟩, fun b z => absurd z (noA b), e0.bs, e0.bsz, fun b _ _ => noA b, fun b z => absurd z (noA b), e0.funs, e0.frf⟩,
    rfl, e0.bare, Un.kept hk, ⟨_, x.toInCall.ns, fun i y v h1 h2 h3 => ?_⟩, fun y c h => ⟨_, x.cell y c h⟩, e0.hok.fresh (Nat.le_refl _), fun y c h => ?_, fun p hp => absurd (show p ∈ ([] : List (Addr × Obj)) from hp) (by simp), e0.hok.kept hk, ?_⟩
  · exact name_of_addr x.apart (PySem.mem_of_lookup h1) (PySem.mem_of_lookup h2)
  · have hy : scope.names.lookup y = some .cell ∨ scope.names.lookup y = some .free := hy
    rcases hy with hy | hy
    · exact cell_has hy
    · exact absurd rfl (S.nofree _ (PySem.mem_of_lookup hy))
  · exact Nat.le_of_lt (x.above y c (PySem.mem_of_lookup h))
  · have hi : i < vs.length := by
      unfold start at h2
      by_cases hi : i < vs.length
      · exact hi
      · rw [List.getElem?_append_right (by simpa using hi)] at h2
        rw [List.getElem?_replicate] at h2
        split at h2 <;> cases h2
    have ha : vs[i]? = some v := by
      unfold start at h2
      rw [List.getElem?_append_left (by simpa using hi), List.getElem?_map] at h2
      cases e : vs[i]? with
      | none => rw [e] at h2; cases h2
      | some a => rw [e] at h2; cases h2; rfl
    obtain ⟨u, hu, rv⟩ := r.get ha
    have hp : ps[i]? = some y := by
      rw [← S.pre, List.getElem?_take_of_lt (by omega)]; exact h1
    have ndP : ps.Nodup := by rw [← S.pre]; exact S.nd.sublist (List.take_sublist _ _)
    refine ⟨u, rv, ?_⟩
    rcases S.par y (List.mem_of_getElem? hp) with k | k
    · exact .inl ⟨k, bindL_get ndP hp hu k⟩
    · obtain ⟨c, e⟩ := cell_has (n := s.heap.objs.size + 1) k
      refine .inr ⟨.inl k, c, e, ?_⟩
      have q := x.cell y c e
      rw [bindC_get ndP hp hu (by show scope.names.lookup y ≠ _; rw [k]; decide)] at q
      exact q
  · exact e0.hok.fresh (Nat.le_of_lt (x.above y c (PySem.mem_of_lookup h)))
  · unfold start
    show _ = N.length
    rw [List.length_append, List.length_map, List.length_replicate]
    omega

/-- THE RULE: a def (or a method) of the text, by its body. The body's reading t is chosen for each entry; it is run at the parameters' values -/
theorem fn_of {CX : CXT} {P : Program} {w : World} {K : PySem.W.Frag} {mg : Str → Option Value} {base : Heap} {k : Nat} {f : Addr} {name qual : Str} {params : Arguments} {body : List Stmt} {scope : Scope} {dV kV doc pm cdv ct oc : Value} {an od : Option Addr}
    {osl : Array (Option Value)} {N ps : List Str} {sp : Sp} (lk : K.lookup f = some ⟨oc, od, .func (PySem.W.fnOf name qual params body scope dV kV doc pm an cdv ct), osl⟩) (hcd : PySem.W.codeIn K cdv qual = true) (S : FnScope N ps scope)
    (len : ∀ vs H Q E, sp vs H Q E → vs.length = ps.length)
    (hbody : ∀ (A : Around) (outer : List Env) (s : Shared) (H : Hp) (vs : List V) (Q : VK) (E : XK), Room k (A.deeper (envOfC qual scope s.heap.objs.size f cdv)) → sp vs H Q E →
      ∃ t, PSs (cxOf CX P w K mg base N qual scope f cdv A outer s H E) body t ∧ t { nx := fun _ H' => Q .non H', rt := Q } (start N vs) H) :
    FnOk P w K mg base CX (k + 1) f (PySem.W.fnOf name qual params body scope dV kV doc pm an cdv ct) ps sp := by
  refine ⟨len, fun A outer s H args us vs Q E hr e0 hb r hsp => ?_⟩
  have hl := len _ _ _ _ hsp
  have KX : K.In s.heap := e0.mod.kin.keeps fun b o e => (e0.bs b o e).1
  have lim : s.heap.NoLimit := e0.mod.nolimit.keeps fun b o e => (e0.bs b o e).1
  have hkind : ∀ y ∈ ps.zip us, scope.names.lookup y.1 = some .local ∨ (scope.names.lookup y.1 = some .cell ∧ ((cellsFrom (s.heap.objs.size + 1) scope.names []).lookup y.1).isSome = true) := fun ⟨n, v⟩ hy => by
    rcases S.par n (List.of_mem_zip hy).1 with q | q
    · exact .inl q
    · exact .inr ⟨q, PySem.W.cellsFrom_some _ _ _ (.inl q)⟩
  refine codeAny_call_function hr.depth (KX _ _ lk) rfl S.co S.gen rfl (PySem.W.codeRec_of KX hcd) (hb _ _ _ _ ?_)
  refine wpAny_newFunctionEnv_cells S.kind hkind fun env he s1 x => ?_
  subst he
  refine ⟨lim.keeps x.toInCall.keep, codeAny_func ?_⟩
  obtain ⟨t, ht, hq⟩ := hbody A outer s H vs Q E (hr.deeper _) hsp
  have I : Inv (cxOf CX P w K mg base N qual scope f cdv A outer s H E) [] (start N vs) H s1 := inv_start S hr.hd e0 hl r x
  refine wpAny_mono (ht [] s1 (start N vs) H _ I hq) (fun fl s' hs => ?_) fun e s' hs => hs
  have fin : ∀ {σ' : St} {H' : Hp} {v : V} {u : Value}, Inv (cxOf CX P w K mg base N qual scope f cdv A outer s H E) [] σ' H' s' → RelV v u → Q v H' → CE outer P w H s Q u s' :=
    fun {σ' H' v u} J rv q => ⟨v, H', J.os, J.bare, J.base, J.hok, rv, q⟩
  cases fl with
  | ret u =>
    obtain ⟨v, σ', H', J, rv, q⟩ := hs
    exact fin J rv q
  | next =>
    obtain ⟨σ', H', J, q⟩ := hs
    exact fin (v := V.non) (u := Value.none) J rfl q
  | brk =>
    obtain ⟨_, _, _, q⟩ := hs
    exact False.elim q
  | cont =>
    obtain ⟨_, _, _, q⟩ := hs
    exact False.elim q
end L2

namespace L2
open PySem PySem.Spec PyProof.Rows
section
variable {X : Cx} {x : Str} {p pos : Pos} {e : Expr} {es : List Expr} {t : TA} {id T : String} {r : List V → Hp → VK → Prop}

def tCB (r : List V → Hp → VK → Prop) (t : TA) : TE := fun σ H Q => t σ H fun vs H1 => r vs H1 Q
/-- f(e, ..), f a built-in function -/
theorem pe_callB (hc : CallR X (.builtin id) r) (hg : Gl X x) (hm : X.mg x = none) (hv : bootBuiltins x = some (.builtin id)) (ha : PA X (e :: es) t) (hn : x ≠ "__name__" := by decide) (hdb : (x == ("__debug__" : Str)) = false := by decide)
    (he : starEach (e :: es) X.env = (false, eval e X.env) :: starEach es X.env := by rfl) (hpl : (backTo pos (starEach es X.env)).any (·.1) = false := by rfl) : PE X (.Call (.Name x p) (e :: es) [] pos) (tCB r t) := by
  intro pins s σ H Q I h
  refine wpAny_Call_Name_kw (ld_blt I hg hm hv ?_ hn hdb)
  exact PyProof.Rows.callWith_builtin1 (thn (ha pos pins s σ H _ I h) fun us s1 ⟨vs, H1, I1, r1, q1⟩ => hc pins s1 σ H1 vs us Q I1 r1 q1) he hpl
/-- T(e, ..), T a built-in type -/
theorem pe_callTy (hc : CallR X (.type T) r) (hg : Gl X x) (hm : X.mg x = none) (hv : bootBuiltins x = some (.type T)) (ha : PA X (e :: es) t) (hn : x ≠ "__name__" := by decide) (hdb : (x == ("__debug__" : Str)) = false := by decide)
    (he : starEach (e :: es) X.env = (false, eval e X.env) :: starEach es X.env := by rfl) (hpl : (backTo pos (starEach es X.env)).any (·.1) = false := by rfl) : PE X (.Call (.Name x p) (e :: es) [] pos) (tCB r t) := by
  intro pins s σ H Q I h
  refine wpAny_Call_Name_kw (ld_blt I hg hm hv ?_ hn hdb)
  exact PyProof.Rows.callWith_type1 (thn (ha pos pins s σ H _ I h) fun us s1 ⟨vs, H1, I1, r1, q1⟩ => hc pins s1 σ H1 vs us Q I1 r1 q1) he hpl
end
end L2

namespace HT
open PySem PyProof.Rows

section
open PySem.SeqAt
open PySem.AutoSeq1 (wpAny_loadPart')
open PySem.MeetsSeq PySem.MeetsSeq2 PySem.MeetsSeq3

end

section
variable {prog : Program} {w : World} {A : Around} {E : Value → Shared → Prop} {s : Shared}

/-! ### t[a:b], not the whole -/
/-- a slice's bound as a place among n (d where it is left out) -/
def sIx (n d : Nat) : Option Int → Nat
  | none => d
  | some v => if v < 0 then (v + (n : Int)).toNat else min v.toNat n
theorem sIx_none (n d : Nat) : sIx n d none = d := rfl
theorem sIx_nat (n d k : Nat) : sIx n d (some (k : Int)) = min k n := by
  show (if (k : Int) < 0 then ((k : Int) + (n : Int)).toNat else min (k : Int).toNat n) = min k n
  rw [if_neg (by omega), Int.toNat_natCast]
end
end HT

namespace L2
open PySem PySem.Spec PyProof.Rows

/-! ### the parts of a slice -/
abbrev TO := St → Hp → (Option Int → Hp → Prop) → Prop
/-- a slice's part (left out, or an int) -/
def PO (X : Cx) (e : Option Expr) (t : TO) : Prop :=
  ∀ (pins : List (Addr × Obj)) (s : Shared) (σ : St) (H : Hp) (Q : Option Int → Hp → Prop), Inv X pins σ H s → t σ H Q →
    wpAny (model X.prog X.w) X.A (evalPart e X.env) (fun u s' => ∃ o H', Inv X pins σ H' s' ∧ IsPart u o ∧ Q o H') X.xe s
def tNoPart : TO := fun _ H Q => Q none H
def tPart (t : TE) : TO := fun σ H Q => t σ H fun x H1 => ∃ i, x = .int i ∧ Q (some i) H1

section
variable {X : Cx} {e : Expr} {te : TE} {lo hi : Option Expr} {tl th : TO} {pos p2 : Pos}

theorem po_none : PO X none tNoPart := by
  intro pins s σ H Q I h
  rw [evalPart_none]
  exact wpAny_pure ⟨none, H, I, .none, h⟩
theorem po_some (h : PE X e te) : PO X (some e) (tPart te) := by
  intro pins s σ H Q I hw
  rw [evalPart_some]
  refine thn (h pins s σ H _ I hw) fun u s1 ⟨x, H1, I1, r1, q1⟩ => ?_
  obtain ⟨i, rfl, q⟩ := q1
  obtain ⟨t, rfl⟩ := r1
  exact ⟨some i, H1, I1, .int i t, q⟩

/-- what a slice of a value is, by values: the slice object stands at sl -/
def SlR (X : Cx) (r : V → Option Int → Option Int → Hp → VK → Prop) : Prop :=
  ∀ (pins : List (Addr × Obj)) (s : Shared) (σ : St) (H : Hp) (x : V) (v vl vu : Value) (lo hi : Option Int) (sl : Addr) (Q : VK), Inv X pins σ H s → RelV x v → s.heap.IsSliceOf sl vl vu .none → IsPart vl lo → IsPart vu hi → r x lo hi H Q →
    ∃ T id, typeLookup (.type T) "__getitem__" = pure (some (.builtin id)) ∧ s.TypeIs v T ∧ wpAny (model X.prog X.w) X.A (getItem v (.ref sl)) (EP X pins σ Q) X.xe s
theorem SlR.or {r r' : V → Option Int → Option Int → Hp → VK → Prop} (h : SlR X r) (h' : SlR X r') : SlR X (fun x lo hi H Q => r x lo hi H Q ∨ r' x lo hi H Q) := by
  intro pins s σ H x v vl vu lo hi sl Q I rx hs pl pu q
  rcases q with q | q
  · exact h pins s σ H x v vl vu lo hi sl Q I rx hs pl pu q
  · exact h' pins s σ H x v vl vu lo hi sl Q I rx hs pl pu q
def tSl (r : V → Option Int → Option Int → Hp → VK → Prop) (te : TE) (tl th : TO) : TE := fun σ H Q => te σ H fun x H1 => tl σ H1 fun l H2 => th σ H2 fun u H3 => r x l u H3 Q
/-- a[lo:hi], any a -/
theorem pe_slice {r : V → Option Int → Option Int → Hp → VK → Prop} (hr : SlR X r) (he : PE X e te) (hl : PO X lo tl) (hu : PO X hi th) : PE X (.Subscript e (.Slice lo hi none p2) pos) (tSl r te tl th) := by
  intro pins s σ H Q I h
  refine Subscript_ (thn (he pins s σ H _ I h) fun v s1 ⟨x, H1, I1, r1, q1⟩ => ?_)
  refine wpAny_Slice (thn (hl pins s1 σ H1 _ I1 q1) fun vl s2 ⟨l, H2, I2, pl, q2⟩ => thn (hu pins s2 σ H2 _ I2 q2) fun vu s3 ⟨u, H3, I3, pu, q3⟩ => ?_)
  rw [evalPart_none]
  refine wpAny_pure ?_
  have I4 : Inv X pins σ H3 { s3 with heap := s3.heap.push { cls := .type "slice", data := .fields #[vl, vu, .none] } } := I3.kept (t' := s3.toks) fun b ob q => Heap.get?_push_of_some _ q
  obtain ⟨T, id, hT, ht, hg⟩ := hr pins { s3 with heap := s3.heap.push { cls := .type "slice", data := .fields #[vl, vu, .none] } } σ H3 x v vl vu l u s3.heap.objs.size Q I4 r1 (Heap.IsSliceOf.new ..) pl pu q3
  show wpAny (model X.prog X.w) X.A (subscriptTail e (.Slice lo hi none p2) v (.ref s3.heap.objs.size)) (EP X pins σ Q) X.xe { s3 with heap := s3.heap.push { cls := .type "slice", data := .fields #[vl, vu, .none] } }
  exact tail_any (ops := [.ref s3.heap.objs.size, v]) ht hT hg (by with_unfolding_all rfl)

/-- the items of xs[lo:hi] -/
def cutV (xs : List V) (lo hi : Option Int) : List V := (xs.drop (HT.sIx xs.length 0 lo)).take (HT.sIx xs.length xs.length hi - HT.sIx xs.length 0 lo)
theorem cutV_length (xs : List V) (lo hi : Option Int) : (cutV xs lo hi).length ≤ xs.length := by
  unfold cutV
  rw [List.length_take, List.length_drop]
  omega
/-! ### t < u, t + u -/
end
end L2

namespace L2
open PySem PySem.Spec PyProof.Rows

/-! ### places -/
/-- the place that an index of any sign means -/
def ixN (n : Nat) (i : Int) : Option Nat := if 0 ≤ i then (if i < n then some i.toNat else none) else if -(n : Int) ≤ i then some (i + n).toNat else none
def atI {α : Type} (xs : List α) (i : Int) : Option α := (ixN xs.length i).bind fun j => xs[j]?
theorem ixN_seq {n : Nat} {i : Int} {j : Nat} (h : ixN n i = some j) : seqIndex? i n = some j ∧ j < n ∧ -(n : Int) ≤ i ∧ i < n := by
  unfold ixN at h
  by_cases h0 : 0 ≤ i
  · rw [if_pos h0] at h
    by_cases h1 : i < n
    · rw [if_pos h1] at h
      have e : i.toNat = j := Option.some.inj h
      exact ⟨by rw [seqIndex_of h0 h1, e], by omega, by omega, h1⟩
    · rw [if_neg h1] at h; cases h
  · rw [if_neg h0] at h
    by_cases h1 : -(n : Int) ≤ i
    · rw [if_pos h1] at h
      have e : (i + n).toNat = j := Option.some.inj h
      exact ⟨by rw [seqIndex_neg (by omega) h1, e], by omega, h1, by omega⟩
    · rw [if_neg h1] at h; cases h
theorem atI_get {α : Type} {xs : List α} {i : Int} {v : α} (h : atI xs i = some v) : ∃ j, seqIndex? i xs.length = some j ∧ xs[j]? = some v ∧ j < xs.length ∧ -(xs.length : Int) ≤ i ∧ i < xs.length := by
  unfold atI at h
  cases e : ixN xs.length i with
  | none => rw [e] at h; cases h
  | some j =>
    rw [e] at h
    obtain ⟨h1, h2, h3, h4⟩ := ixN_seq e
    exact ⟨j, h1, h, h2, h3, h4⟩
/-! ### what may be subscripted -/
/-- what stands as an index of a plain subscript -/
def PlainIx (b : Expr) : Prop := ∀ o i, subscripted b false o i = operate [o, i] (getItem o i)
/-- a subscript by values -/
def IxR (X : Cx) (r : R2) : Prop :=
  ∀ (value slice : Expr) (pins : List (Addr × Obj)) (s : Shared) (σ : St) (H : Hp) (x y : V) (v u : Value) (Q : VK), Inv X pins σ H s → RelV x v → RelV y u → r x y H Q →
    subscripted slice false v u = operate [v, u] (getItem v u) → wpAny (model X.prog X.w) X.A (subscriptTail value slice v u) (EP X pins σ Q) X.xe s
/-- a call of a builtin's method by values: the receiver, the arguments -/
def MtR (X : Cx) (id : String) (r : V → List V → Hp → VK → Prop) : Prop :=
  ∀ (pins : List (Addr × Obj)) (s : Shared) (σ : St) (H : Hp) (x : V) (xs : List V) (v : Value) (us : List Value) (Q : VK), Inv X pins σ H s → RelV x v → Vals xs us → r x xs H Q →
    wpAny (model X.prog X.w) X.A (call (.builtin id) (v :: us)) (EP X pins σ Q) X.xe s
section
variable {X : Cx} {a b : Expr} {ta tb : TE} {pos : Pos}
theorem IxR.or {r r' : R2} (h : IxR X r) (h' : IxR X r') : IxR X (fun x y H Q => r x y H Q ∨ r' x y H Q) := by
  intro value slice pins s σ H x y v u Q I rx ry q hs
  rcases q with q | q
  · exact h value slice pins s σ H x y v u Q I rx ry q hs
  · exact h' value slice pins s σ H x y v u Q I rx ry q hs
theorem MtR.or {id : String} {r r' : V → List V → Hp → VK → Prop} (h : MtR X id r) (h' : MtR X id r') : MtR X id (fun x xs H Q => r x xs H Q ∨ r' x xs H Q) := by
  intro pins s σ H x xs v us Q I rx rs q
  rcases q with q | q
  · exact h pins s σ H x xs v us Q I rx rs q
  · exact h' pins s σ H x xs v us Q I rx rs q
/-- a[b] -/
theorem pe_ix {r : R2} (hr : IxR X r) (ha : PE X a ta) (hb : PE X b tb) (hs : PlainIx b) : PE X (.Subscript a b pos) (tOp r ta tb) := by
  intro pins s σ H Q I h
  exact Subscript_ (binT ha hb I h fun v u s2 x y H2 I2 rx ry q => hr a b pins s2 σ H2 x y v u Q I2 rx ry q (hs _ _))

def rIxL (K : PySem.W.Frag) : R2 := fun x y H Q => ∃ p xs i v, x = .ref p ∧ y = .int i ∧ SqL K H p xs ∧ atI xs i = some v ∧ Q v H
def rIxT (K : PySem.W.Frag) : R2 := fun x y H Q => ∃ p xs i v, x = .ref p ∧ y = .int i ∧ SqT K H p xs ∧ atI xs i = some v ∧ Q v H
def rIxS : R2 := fun x y H Q => ∃ z i c, x = .str z ∧ y = .int i ∧ z.length ≤ sizeLine ∧ atI z.cps.toList i = some c ∧ Q (.str ⟨#[c]⟩) H
theorem ix_list : IxR X (rIxL X.K) := by
  intro value slice pins s σ H x y v u Q I rx ry h hs
  obtain ⟨p, xs, i, z, rfl, rfl, hq, he, q⟩ := h
  cases rx
  obtain ⟨t, rfl⟩ := ry
  obtain ⟨its, r, pl, hz⟩ := I.list hq
  obtain ⟨j, h1, h2, h3, h4, h5⟩ := atI_get he
  obtain ⟨w, ew, rw'⟩ := r.get h2
  have hl := r.length
  have hn := line63
  have fin : EP X pins σ Q w s := ⟨z, H, I, rw', q⟩
  by_cases h0 : 0 ≤ i
  · have hj : i.toNat = j := by
      rw [seqIndex_of h0 h5] at h1
      exact Option.some.inj h1
    exact item_listR pl.isList h0 (by omega) (by rw [hj]; simpa using ew) fin hs
  · have hj : (i + (its.toArray.size : Int)).toNat = j := by
      rw [seqIndex_neg (by omega) h4] at h1
      rw [List.size_toArray, ← hl]
      exact Option.some.inj h1
    exact subscriptTail_builtinR (x := w) pl.isList.typeIs slot_list_getitem.lookup
      (wpAny_getItem_list_neg (Q := fun r s' => r = w ∧ EP X pins σ Q r s') pl.isList (by omega) (by rw [List.size_toArray] <;> omega) (by omega) (by rw [hj]; simpa using ew) ⟨rfl, fin⟩) hs
theorem ix_tup : IxR X (rIxT X.K) := by
  intro value slice pins s σ H x y v u Q I rx ry h hs
  obtain ⟨p, xs, i, z, rfl, rfl, hq, he, q⟩ := h
  cases rx
  obtain ⟨t, rfl⟩ := ry
  obtain ⟨its, r, pl, hz⟩ := I.tuple hq
  obtain ⟨j, h1, h2, h3, h4, h5⟩ := atI_get he
  obtain ⟨w, ew, rw'⟩ := r.get h2
  have hl := r.length
  have hn := line63
  have fin : EP X pins σ Q w s := ⟨z, H, I, rw', q⟩
  exact subscriptTail_builtinR (x := w) pl.typeIs slot_tuple_getitem.lookup
    (getItem_tuple (j := j) (Q := fun r s' => r = w ∧ EP X pins σ Q r s') pl (by omega) (by omega) (by rw [List.size_toArray, ← hl]; exact h1) (by simpa using ew) ⟨rfl, fin⟩) hs
theorem ix_str : IxR X rIxS := by
  intro value slice pins s σ H x y v u Q I rx ry h hs
  obtain ⟨z, i, c, rfl, rfl, hz, he, q⟩ := h
  obtain ⟨t, rfl⟩ := rx
  obtain ⟨t', rfl⟩ := ry
  obtain ⟨j, h1, h2, h3, h4, h5⟩ := atI_get he
  have hl : z.cps.toList.length = z.length := by simp [Str.length]
  rw [hl] at h1 h4 h5
  have hn := line63
  exact tail_any (typeIs_str s z t) slot_str_getitem.lookup (getItem_str (c := c) (by
    have e1 : decide (i < -(2 ^ 63 : Int)) = false := decide_eq_false (by omega)
    have e2 : decide (i ≥ 2 ^ 63) = false := decide_eq_false (by omega)
    rw [e1, e2, Bool.or_false]) (by rw [h1]; simpa using h2) ⟨.str ⟨#[c]⟩, H, I.tok _, ⟨_, rfl⟩, q⟩) hs
/-- list, tuple or str -/
def rIx (K : PySem.W.Frag) : R2 := fun x y H Q => rIxL K x y H Q ∨ rIxT K x y H Q ∨ rIxS x y H Q
theorem ix_seq : IxR X (rIx X.K) := ix_list.or (ix_tup.or ix_str)

/-! ### xs[i] = v, any sign -/
/-- the list's object behind a store -/
theorem mapSeq_set (its : List Value) (n j : Nat) (u : Value) : Obj.mapSeq (·.setIfInBounds j u) { cls := .type "list", data := .seq its.toArray n } = { cls := .type "list", data := .seq (its.set j u).toArray n } := by
  simp [Obj.mapSeq]
theorem Inv.lst {pins : List (Addr × Obj)} {σ : St} {H : Hp} {s : Shared} {p : Addr} {xs : List V} (I : Inv X pins σ H s) (h : H p = some (.lst xs)) :
    ∃ (its : List Value) (n : Nat), Vals xs its ∧ s.heap.get? p = some { cls := .type "list", data := .seq its.toArray n } ∧ xs.length ≤ sizeLine := by
  obtain ⟨z, its, n, r, e⟩ := I.hok p _ h
  exact ⟨its, n, r, e, z⟩
/-- the list at p is written by an update of its object -/
theorem Inv.lstUpd {pins : List (Addr × Obj)} {σ : St} {H : Hp} {s : Shared} {p : Addr} {xs ys : List V} {its its' : List Value} {n n' : Nat} {f : Obj → Obj} (I : Inv X pins σ H s) (h : H p = some (.lst xs))
    (ho : s.heap.get? p = some { cls := .type "list", data := .seq its.toArray n }) (hf : f { cls := .type "list", data := .seq its.toArray n } = { cls := .type "list", data := .seq its'.toArray n' }) (r : Vals ys its') (hz : ys.length ≤ sizeLine) (t : Nat) :
    Inv X pins σ (upd H p (.lst ys)) { s with heap := s.heap.update p f, toks := t } := by
  have e : (s.heap.update p f).get? p = some { cls := .type "list", data := .seq its'.toArray n' } := by
    rw [Heap.get?_update_self f ho (by rw [hf] <;> rfl), hf]
  refine I.write (x := p) (e := p) (by rw [h]; trivial) (.inl rfl) (fun b u hb q => (Heap.get?_update_other _ _ (Ne.symm hb)).trans q) ⟨_, e⟩ ?_
  exact ⟨hz, its', n', r, e⟩
def rSetL : V → V → V → Hp → (Hp → Prop) → Prop := fun o i v H Q => ∃ p xs k j, o = .ref p ∧ i = .int k ∧ H p = some (.lst xs) ∧ ixN xs.length k = some j ∧ Q (upd H p (.lst (xs.set j v)))
theorem set_list : PSet X rSetL := by
  intro pins s σ H o i v ov iv u Q I ro ri rv h
  obtain ⟨p, xs, k, j, rfl, rfl, hp, hj, q⟩ := h
  cases ro
  obtain ⟨t, rfl⟩ := ri
  obtain ⟨its, n, r, ho, hz⟩ := I.lst hp
  obtain ⟨h1, h2, h3, h4⟩ := ixN_seq hj
  have hl := r.length
  have hn := line63
  have I' : Inv X pins σ (upd H p (.lst (xs.set j v))) { s with heap := s.heap.update p (Obj.mapSeq (·.setIfInBounds j u)) } :=
    I.lstUpd hp ho (mapSeq_set its n j u) (r.set rv j) (by rw [List.length_set]; exact hz) s.toks
  by_cases h0 : 0 ≤ k
  · have hk : k.toNat = j := by
      rw [seqIndex_of h0 h4] at h1
      exact Option.some.inj h1
    exact PySem.W.ki_setAt ho h0 (by omega) (by rw [List.size_toArray, ← hl]; exact h4) (by rw [hk]; exact ⟨_, I', q⟩)
  · have hk : (k + (its.toArray.size : Int)).toNat = j := by
      rw [seqIndex_neg (by omega) h3] at h1
      rw [List.size_toArray, ← hl]
      exact Option.some.inj h1
    exact PySem.W.ki_setBack ho (by omega) (by rw [List.size_toArray, ← hl]; exact h3) (by omega) (by rw [hk]; exact ⟨_, I', q⟩)

/-! ### slices -/
theorem slice_bounds (lo hi : Option Int) (n : Nat) : (sliceBounds lo hi none n).1 = ((HT.sIx n 0 lo : Nat) : Int) ∧ (sliceBounds lo hi none n).2.1 = ((HT.sIx n n hi : Nat) : Int) ∧ (sliceBounds lo hi none n).2.2 = 1 := by
  refine ⟨?_, ?_, rfl⟩
  · cases lo with
    | none => simp [sliceBounds, HT.sIx]
    | some i =>
      simp only [sliceBounds, HT.sIx, Option.getD_none, show (1 : Int) > 0 by decide, if_true]
      by_cases h : i < 0
      · simp only [h, if_true] <;> omega
      · simp only [h, if_false] <;> omega
  · cases hi with
    | none => simp [sliceBounds, HT.sIx]
    | some i =>
      simp only [sliceBounds, HT.sIx, Option.getD_none, show (1 : Int) > 0 by decide, if_true]
      by_cases h : i < 0
      · simp only [h, if_true] <;> omega
      · simp only [h, if_false] <;> omega
theorem slicePick_cut (its : List Value) (lo hi : Option Int) : slicePick its.toArray lo hi none = ((its.drop (HT.sIx its.length 0 lo)).take (HT.sIx its.length its.length hi - HT.sIx its.length 0 lo)).toArray := by
  obtain ⟨h1, h2, h3⟩ := slice_bounds lo hi its.toArray.size
  unfold slicePick
  rw [h1, h2, h3]
  simp only [sliceRange_one, pick_run, List.size_toArray] <;> rfl
/-- xs[lo:hi] of a list: a new list -/
def rSlL (K : PySem.W.Frag) : V → Option Int → Option Int → Hp → VK → Prop := fun x lo hi H Q => ∃ a xs, x = .ref a ∧ SqL K H a xs ∧ ∀ p, H p = none → Q (.ref p) (upd H p (.lst (cutV xs lo hi)))
theorem sl_list : SlR X (rSlL X.K) := by
  intro pins s σ H x v vl vu lo hi sl Q I rx hs pl pu h
  obtain ⟨a, xs, rfl, hx, q⟩ := h
  cases rx
  obtain ⟨its, r, ht, hz⟩ := I.list hx
  have hlen := r.length
  refine ⟨"list", _, slot_list_getitem.lookup, ht.isList.typeIs, ?_⟩
  refine wpAny_getItem_list_slice ht.isList hs pl pu .none (by simp) ?_ (by rw [List.size_toArray] <;> omega)
  rw [slicePick_cut, ← hlen]
  refine ⟨.ref s.heap.objs.size, _, I.laid (t' := s.toks) (o := .lst (cutV xs lo hi)) (fun b ob q => Heap.get?_push_of_some _ q) (Nat.le_refl _) ?_, rfl, q _ (I.hok.fresh (Nat.le_refl _))⟩
  exact ⟨Nat.le_trans (cutV_length xs lo hi) hz, _, 0, (r.drop (HT.sIx xs.length 0 lo)).take (HT.sIx xs.length xs.length hi - HT.sIx xs.length 0 lo), Heap.get?_push_size _ rfl⟩

/-! ### in, not in: flat items -/
/-! ### len, list(x), tuple(x) of any list or tuple that is read -/
theorem call_len_seq : CallR X (.builtin "len") (fun xs H Q => ∃ p ys, xs = [.ref p] ∧ (SqL X.K H p ys ∨ SqT X.K H p ys) ∧ Q (.int ys.length) H) := by
  intro pins s σ H xs us Q I r h
  obtain ⟨p, ys, rfl, hq, q⟩ := h
  obtain ⟨u, rfl, rx⟩ := vals1 r
  cases rx
  have hn := line63
  rcases hq with hq | hq
  · obtain ⟨its, r', pl, hz⟩ := I.list hq
    have hlen := r'.length
    exact Calls.call_len_list pl.isList (by simp only [List.size_toArray] <;> omega) ⟨.int ys.length, H, I.tok _, ⟨s.toks + 1, by rw [List.size_toArray, hlen]⟩, q⟩
  · obtain ⟨its, r', pl, hz⟩ := I.tuple hq
    have hlen := r'.length
    exact len_tuple pl (by simp only [List.size_toArray] <;> omega) ⟨.int ys.length, H, I.tok _, ⟨s.toks + 1, by rw [List.size_toArray, hlen]⟩, q⟩
theorem CallR.or {f : Value} {r r' : List V → Hp → VK → Prop} (h : CallR X f r) (h' : CallR X f r') : CallR X f (fun xs H Q => r xs H Q ∨ r' xs H Q) := by
  intro pins s σ H xs us Q I rs q
  rcases q with q | q
  · exact h pins s σ H xs us Q I rs q
  · exact h' pins s σ H xs us Q I rs q
theorem call_list_of : CallR X (.type "list") (fun xs H Q => ∃ p ys, xs = [.ref p] ∧ (SqL X.K H p ys ∨ SqT X.K H p ys) ∧ ∀ l, H l = none → Q (.ref l) (upd H l (.lst ys))) := by
  intro pins s σ H xs us Q I r h
  obtain ⟨p, ys, rfl, hq, q⟩ := h
  obtain ⟨u, rfl, rx⟩ := vals1 r
  cases rx
  have fin : ∀ (its : List Value), Vals ys its → ys.length ≤ sizeLine → ∀ (h' : Heap) (c' : Nat), (∀ b o', s.heap.get? b = some o' → h'.get? b = some o') →
      h'.get? s.heap.objs.size = some { cls := .type "list", dict := none, data := .seq its.toArray c', slots := #[] } → EP X pins σ Q (.ref s.heap.objs.size) { s with heap := h' } := fun its r' hz h' c' kp e =>
    ⟨.ref s.heap.objs.size, _, I.laid (t' := s.toks) kp (Nat.le_refl _) (show ObjOk X.prog X.w _ h' _ (.lst ys) from ⟨hz, its, c', r', e⟩), rfl, q _ (I.hok.fresh (Nat.le_refl _))⟩
  rcases hq with hq | hq
  · obtain ⟨its, r', pl, hz⟩ := I.list hq
    have hlen := r'.length
    obtain ⟨o, ho, hc, n, hd⟩ := pl.isList
    exact call_list_seq p (.inl rfl) ho hc hd (fun h' c' kp e => fin its r' hz h' c' kp e) (by simp only [List.size_toArray] <;> omega)
  · obtain ⟨its, r', pl, hz⟩ := I.tuple hq
    have hlen := r'.length
    obtain ⟨o, ho, hc, n, hd⟩ := pl
    exact call_list_seq p (.inr rfl) ho hc hd (fun h' c' kp e => fin its r' hz h' c' kp e) (by simp only [List.size_toArray] <;> omega)
theorem call_tuple_of : CallR X (.type "tuple") (fun xs H Q => ∃ p ys, xs = [.ref p] ∧ ((SqL X.K H p ys ∧ ∀ l, H l = none → Q (.ref l) (upd H l (.tup ys))) ∨ (SqT X.K H p ys ∧ Q (.ref p) H))) := by
  intro pins s σ H xs us Q I r h
  obtain ⟨p, ys, rfl, h⟩ := h
  obtain ⟨u, rfl, rx⟩ := vals1 r
  cases rx
  rcases h with ⟨hq, q⟩ | ⟨hq, q⟩
  · obtain ⟨its, r', pl, hz⟩ := I.list hq
    have hlen := r'.length
    refine call_tuple_list pl.isList (fun h' kp => ?_) (by simp only [List.size_toArray] <;> omega)
    have I1 : Inv X pins σ H { s with heap := h' } := I.kept (t' := s.toks) kp
    have I2 : Inv X pins σ (upd H h'.objs.size (.tup ys)) { s with heap := h'.push { cls := .type "tuple", data := .seq its.toArray } } :=
      I1.laid (t' := s.toks) (fun b o e => Heap.get?_push_of_some _ e) (Nat.le_refl _) (show ObjOk X.prog X.w _ _ _ (.tup ys) from ⟨hz, its, r', IsTup.new _ _⟩)
    exact ⟨.ref h'.objs.size, _, I2, rfl, q _ (I1.hok.fresh (Nat.le_refl _))⟩
  · obtain ⟨its, r', pl, hz⟩ := I.tuple hq
    exact call_tuple_same pl ⟨.ref p, H, I, rfl, q⟩

/-! ### the call of a builtin's method: o.m(..) -/
/-- the value is of that builtin type -/
def tyV (K : PySem.W.Frag) (T : String) (x : V) (H : Hp) : Prop := match x with
  | .str _ => T = "str"
  | .int _ => T = "int"
  | .ref p => (T = "list" ∧ ∃ xs, SqL K H p xs) ∨ (T = "tuple" ∧ ∃ o, K.lookup p = some o ∧ o.cls = .type "tuple" ∧ o.dict = none) ∨
      (T = "dict" ∧ ((∃ kvs, H p = some (.dK kvs)) ∨ ∃ kvs, H p = some (.dT kvs))) ∨ (T = "set" ∧ ∃ S n, H p = some (.set S n))
  | _ => False
theorem tyV_is {pins : List (Addr × Obj)} {σ : St} {H : Hp} {s : Shared} {T : String} {x : V} {v : Value} (I : Inv X pins σ H s) (r : RelV x v) (ty : tyV X.K T x H) :
    s.TypeIs v T ∧ ∀ a, v = .ref a → ∃ ob, s.heap.get? a = some ob ∧ ob.dict = none := by
  cases x with
  | str z =>
    obtain ⟨t, rfl⟩ := r
    cases (show T = "str" from ty)
    exact ⟨typeIs_str s z t, fun _ e => nomatch e⟩
  | int i =>
    obtain ⟨t, rfl⟩ := r
    cases (show T = "int" from ty)
    exact ⟨typeIs_int s i t, fun _ e => nomatch e⟩
  | ref p =>
    cases r
    rcases ty with ⟨rfl, xs, hq⟩ | ⟨rfl, o, hk, hc, hd⟩ | ⟨rfl, hk⟩ | ⟨rfl, S, n, hk⟩
    · obtain ⟨its, _, pl, _⟩ := I.list hq
      refine ⟨pl.isList.typeIs, fun a e => ?_⟩
      cases e
      obtain ⟨o, n, e, c, hd, _⟩ := pl
      exact ⟨o, e, hd⟩
    · refine ⟨⟨o, I.kIn p o hk, hc⟩, fun a e => ?_⟩
      cases e
      exact ⟨o, I.kIn _ o hk, hd⟩
    · have z : ∃ o, s.heap.get? p = some o ∧ o.ExactDict := by
        rcases hk with ⟨kvs, hk⟩ | ⟨kvs, hk⟩
        · obtain ⟨_, _, _, _, o, _, _, e, ex, _⟩ := I.hok p _ hk
          exact ⟨o, e, ex⟩
        · obtain ⟨_, _, _, _, o, _, _, e, ex, _⟩ := I.hok p _ hk
          exact ⟨o, e, ex⟩
      obtain ⟨o, e, ex⟩ := z
      refine ⟨⟨o, e, ex.1⟩, fun a e2 => ?_⟩
      cases e2
      exact ⟨o, e, ex.2.1⟩
    · obtain ⟨o, _, _, _, e, ex, _⟩ := I.hok p _ hk
      refine ⟨⟨o, e, ex.1⟩, fun a e2 => ?_⟩
      cases e2
      exact ⟨o, e, ex.2.1⟩
  | _ => exact False.elim ty
def tBM (K : PySem.W.Frag) (T : String) (r : V → List V → Hp → VK → Prop) (to : TE) (t : TA) : TE := fun σ H Q => to σ H fun x H1 => tyV K T x H1 ∧ t σ H1 fun xs H2 => r x xs H2 Q
variable {o e : Expr} {es : List Expr} {to : TE} {t : TA} {name : Str} {apos cpos : Pos} {T id : String} {r : V → List V → Hp → VK → Prop}
theorem pe_bm (pa : PlainAttrs T) (slot : Slot T name id) (hty : typeOf (.builtin id) = pure (.type "method_descriptor")) (hm : MtR X id r) (ho : PE X o to) (ha : PA X (e :: es) t)
    (hbase : attributeBase o name X.env (eval o X.env) = eval o X.env := by rfl)
    (hfew : ((backTo cpos (starEach (e :: es) X.env)).all (fun x => !x.1) && (backToKw cpos (keywordEach [] X.env)).all (fun x => x.1.isSome)
      && decide ((e :: es).length + ([] : List Keyword).length + (if ([] : List Keyword).isEmpty then 0 else 1) < 30)) = true := by rfl)
    (hline : (apos.endLine == cpos.line) = true := by rfl) (hs : starEach (e :: es) X.env = (false, eval e X.env) :: starEach es X.env := by rfl) (hplain : (backTo cpos (starEach es X.env)).any (·.1) = false := by rfl) :
    PE X (.Call (.Attribute o name apos) (e :: es) [] cpos) (tBM X.K T r to t) := by
  intro pins s σ H Q I h
  refine wpAny_Call_method_late hbase hfew hline rfl (thn (ho pins s σ H _ I h) fun v s1 ⟨x, H1, I1, r1, ty, q1⟩ => ?_)
  obtain ⟨h1, h2⟩ := tyV_is I1 r1 ty
  refine ⟨T, id, pa, slot, hty, h1, h2, ?_⟩
  have hA := ha cpos pins s1 σ H1 _ I1 q1
  rw [hs] at hA ⊢
  refine Calls.callWith_builtin (by show (false || (backTo cpos (starEach es X.env)).any (·.1)) = false; rw [hplain] <;> rfl) (Calls.evalArgs_plain ?_)
  exact thn hA fun us s2 ⟨vs, H2, I2, r2, q2⟩ => hm pins s2 σ H2 x vs v us Q I2 r1 r2 q2
/- xs.append(e), list.index on a module's tuple .. are MtR facts of 06m -/
end
end L2

namespace L2
open PySem PySem.Spec PyProof.Rows

def MtM (X : Cx) (id : String) (r : V → List V → Hp → VK → Prop) : Prop :=
  ∀ (pins : List (Addr × Obj)) (s : Shared) (σ : St) (H : Hp) (x : V) (xs : List V) (v : Value) (us : List Value) (Q : VK), Inv X pins σ H s → RelV x v → Vals xs us → r x xs H Q →
    wpAny (model X.prog X.w) X.A (call (.builtin id) (v :: us)) (EP X pins σ Q) X.xe s

/-! ### lists of values -/
theorem Vals.one : ∀ {x : V} {us : List Value}, Vals [x] us → ∃ u, us = [u] ∧ RelV x u
  | _, _, .cons r .nil => ⟨_, rfl, r⟩
theorem Vals.two : ∀ {x y : V} {us : List Value}, Vals [x, y] us → ∃ u v, us = [u, v] ∧ RelV x u ∧ RelV y v
  | _, _, _, .cons r (.cons q .nil) => ⟨_, _, rfl, r, q⟩
theorem Vals.zero : ∀ {us : List Value}, Vals [] us → us = []
  | _, .nil => rfl
theorem Vals.rep {xs : List V} {us : List Value} (h : Vals xs us) : ∀ k : Nat, Vals (List.replicate k xs).flatten (List.replicate k us).flatten
  | 0 => .nil
  | k + 1 => by
    rw [List.replicate_succ, List.replicate_succ, List.flatten_cons, List.flatten_cons]
    exact Vals.append h (Vals.rep h k)
section
variable {X : Cx} {pins : List (Addr × Obj)} {σ : St} {H : Hp} {s : Shared} {l b : Addr} {xs ys zs : List V}

/-! ### the two steps: a tracked list is rewritten, a new list is laid -/
theorem Inv.lset {its its' : List Value} {n : Nat} {f : Array Value → Array Value} {t' : Nat} (I : Inv X pins σ H s) (hH : H l = some (.lst xs))
    (e : s.heap.get? l = some { cls := .type "list", data := .seq its.toArray n }) (hf : f its.toArray = its'.toArray) (hv : Vals ys its') (hz : ys.length ≤ sizeLine) :
    Inv X pins σ (upd H l (.lst ys)) { s with heap := s.heap.update l (Obj.mapSeq f), toks := t' } := by
  have q := PySem.IsL.update e f
  rw [hf] at q
  refine I.write (x := l) (e := l) (by rw [hH]; exact trivial) (.inl rfl) (fun b' u hb hu => (Heap.get?_update_other s.heap (Obj.mapSeq f) (Ne.symm hb)).trans hu) ⟨_, q⟩ ?_
  exact ⟨hz, its', _, hv, q⟩
theorem Inv.fresh (I : Inv X pins σ H s) : H s.heap.objs.size = none := I.hok.fresh (Nat.le_refl _)
theorem Inv.lstM (I : Inv X pins σ H s) (hH : H l = some (.lst xs)) : xs.length ≤ sizeLine ∧ ∃ (its : List Value) (n : Nat), Vals xs its ∧ xs.length = its.length ∧ s.heap.get? l = some { cls := .type "list", data := .seq its.toArray n } := by
  obtain ⟨z, its, n, r, e⟩ := I.hok l _ hH
  exact ⟨z, its, n, r, r.length, e⟩

end

section
variable {X : Cx}

/-! ### methods -/
def rAppend : V → List V → Hp → VK → Prop := fun x vs H Q => ∃ l xs y, x = .ref l ∧ vs = [y] ∧ H l = some (.lst xs) ∧ xs.length < sizeLine ∧ Q .non (upd H l (.lst (xs ++ [y])))
theorem mt_append : MtM X "list.append" rAppend := by
  intro pins s σ H x vs v us Q I rx rv h
  obtain ⟨l, xs, y, rfl, rfl, hH, hz, q⟩ := h
  cases rx
  obtain ⟨u, rfl, ru⟩ := rv.one
  obtain ⟨z, its, n, r, hl, e⟩ := I.lstM hH
  refine call_meets F.slot_list_append ⟨_, e, rfl⟩ F.entry_list_append (F.args_list_append_2 _ _) (PySem.list_append l its.toArray n u (by rw [List.size_toArray]; omega)) ⟨e, ?_⟩
  refine ⟨.non, _, I.lset (its' := its ++ [u]) hH e (by simp) (r.append (.cons ru .nil)) ?_, rfl, q⟩
  rw [List.length_append, List.length_singleton]
  omega

/-! ### list + list, list += list, list * int -/
/-! ### del xs[i] -/
end

/-! ### xs[a:b] = ys -/
section
variable {prog : Program} {w : World} {A : Around} {E : Value → Shared → Prop} {s : Shared}
end

section
variable {X : Cx}
end
end L2
namespace L2
open PySem PySem.Spec PyProof.Rows

/-! ### lists of pairs as tables -/
section
variable {κ : Type} [DecidableEq κ]
def valV (kvs : List (κ × V)) (k : κ) : Option V := (kvs.find? fun kv => decide (kv.1 = k)).map (·.2)
/-- in its place, or at the end -/
def putK (kvs : List (κ × V)) (k : κ) (v : V) : List (κ × V) :=
  if (kvs.any fun kv => decide (kv.1 = k)) = true then kvs.map (fun kv => if kv.1 = k then (kv.1, v) else kv) else kvs ++ [(k, v)]
def dropK (kvs : List (κ × V)) (k : κ) : List (κ × V) := kvs.filter fun kv => decide (kv.1 ≠ k)

theorem valV_pos {p : κ × V} {r : List (κ × V)} {k : κ} (e : p.1 = k) : valV (p :: r) k = some p.2 := by simp [valV, List.find?_cons, e]
theorem valV_neg {p : κ × V} {r : List (κ × V)} {k : κ} (e : ¬ p.1 = k) : valV (p :: r) k = valV r k := by simp [valV, List.find?_cons, e]
theorem valV_any (k : κ) : ∀ kvs : List (κ × V), (kvs.any fun kv => decide (kv.1 = k)) = (valV kvs k).isSome
  | [] => rfl
  | p :: r => by
    rw [List.any_cons]
    by_cases e : p.1 = k
    · simp only [valV_pos e, decide_eq_true e, Bool.true_or, Option.isSome_some]
    · rw [valV_neg e, decide_eq_false e, Bool.false_or]; exact valV_any k r
theorem RelO.isSome_eq {o : Option V} {u : Option Value} (r : RelO o u) : o.isSome = u.isSome := by
  cases o with
  | none => cases u with
    | none => rfl
    | some _ => exact (show False from r).elim
  | some _ => cases u with
    | none => exact (show False from r).elim
    | some _ => rfl
theorem RelO.getD {o : Option V} {u : Option Value} {d : V} {d' : Value} (r : RelO o u) (rd : RelV d d') : RelV (o.getD d) (u.getD d') := by
  cases o with
  | none => cases u with
    | none => exact rd
    | some _ => exact (show False from r).elim
  | some _ => cases u with
    | none => exact (show False from r).elim
    | some _ => exact r

/-- raw tables of the same keys -/
theorem KV.val {kvs : List (κ × V)} {vs : List (κ × Value)} (r : KV kvs vs) (k : κ) : RelO (valV kvs k) (valueAt vs k) := by
  unfold KV at r
  induction r with
  | nil => exact True.intro
  | @cons p q ps qs h t ih =>
    obtain ⟨h1, h2⟩ := h
    by_cases e : p.1 = k
    · have e' : q.1 = k := h1.symm.trans e
      have b : valueAt (q :: qs) k = some q.2 := by simp [valueAt, List.find?_cons, e']
      rw [valV_pos e, b]; exact h2
    · have e' : ¬ q.1 = k := fun z => e (h1.trans z)
      have b : valueAt (q :: qs) k = valueAt qs k := by simp [valueAt, List.find?_cons, e']
      rw [valV_neg e, b]; exact ih
theorem KV.any {kvs : List (κ × V)} {vs : List (κ × Value)} (r : KV kvs vs) (k : κ) : (kvs.any fun kv => decide (kv.1 = k)) = vs.any fun kv => decide (kv.1 = k) := by
  unfold KV at r
  induction r with
  | nil => rfl
  | cons h t ih => rw [List.any_cons, List.any_cons, ih, h.1]
theorem KV.repl {kvs : List (κ × V)} {vs : List (κ × Value)} (r : KV kvs vs) (k : κ) {y : V} {u : Value} (ry : RelV y u) :
    KV (kvs.map fun kv => if kv.1 = k then (kv.1, y) else kv) (vs.map fun kv => if kv.1 = k then (kv.1, u) else kv) := by
  unfold KV at r ⊢
  induction r with
  | nil => exact .nil
  | @cons p q ps qs h t ih =>
    rw [List.map_cons, List.map_cons]
    refine .cons ?_ ih
    obtain ⟨h1, h2⟩ := h
    by_cases e : p.1 = k
    · rw [if_pos e, if_pos (h1.symm.trans e)]; exact ⟨h1, ry⟩
    · rw [if_neg e, if_neg (fun z => e (h1.trans z))]; exact ⟨h1, h2⟩
theorem KV.put {kvs : List (κ × V)} {vs : List (κ × Value)} (r : KV kvs vs) (k : κ) {y : V} {u : Value} (ry : RelV y u) : KV (putK kvs k y) (stored vs k u) := by
  unfold putK stored
  rw [r.any k]
  by_cases e : (vs.any fun kv => decide (kv.1 = k)) = true
  · rw [if_pos e, if_pos e]; exact r.repl k ry
  · rw [if_neg e, if_neg e]; exact Paired.snoc r ⟨rfl, ry⟩
theorem KV.drop {kvs : List (κ × V)} {vs : List (κ × Value)} (r : KV kvs vs) (k : κ) : KV (dropK kvs k) (without vs k) := by
  unfold KV at r ⊢
  unfold dropK without
  induction r with
  | nil => exact .nil
  | @cons p q ps qs h t ih =>
    obtain ⟨h1, h2⟩ := h
    rw [List.filter_cons, List.filter_cons]
    by_cases e : p.1 = k
    · have a : ¬ decide (p.1 ≠ k) = true := by simp [e]
      have b : ¬ decide (q.1 ≠ k) = true := by simp [h1.symm.trans e]
      rw [if_neg a, if_neg b]; exact ih
    · have e' : ¬ q.1 = k := fun z => e (h1.trans z)
      have a : decide (p.1 ≠ k) = true := by simp [e]
      have b : decide (q.1 ≠ k) = true := by simp [e']
      rw [if_pos a, if_pos b]; exact .cons ⟨h1, h2⟩ ih
theorem KV.keys {kvs : List (κ × V)} {vs : List (κ × Value)} (r : KV kvs vs) : kvs.map (·.1) = vs.map (·.1) := by
  unfold KV at r
  induction r with
  | nil => rfl
  | cons h t ih => rw [List.map_cons, List.map_cons, ih, h.1]
theorem KV.length {kvs : List (κ × V)} {vs : List (κ × Value)} (r : KV kvs vs) : kvs.length = vs.length := Paired.length r
end


/-! ### a tracked dict, its keys ints and texts or tuples of these -/
/-- raw entries of a dict with tuple keys -/
abbrev KT (H : Hp) : List (List Key × V) → List (List Key × Addr × Value) → Prop := Paired fun p q => p.1 = q.1 ∧ H q.2.1 = some (.tup (p.1.map kV)) ∧ RelV p.2 q.2.2
theorem KT.val {H : Hp} {kvs : List (List Key × V)} {xs : List (List Key × Addr × Value)} (r : KT H kvs xs) (k : List Key) : RelO (valV kvs k) ((atKey xs k).map (·.2)) := by
  induction r with
  | nil => exact True.intro
  | @cons p q ps qs h t ih =>
    obtain ⟨h1, _, h2⟩ := h
    by_cases e : p.1 = k
    · have e' : q.1 = k := h1.symm.trans e
      have b : atKey (q :: qs) k = some q.2 := by simp [atKey, List.find?_cons, e']
      rw [valV_pos e, b]; exact h2
    · have e' : ¬ q.1 = k := fun z => e (h1.trans z)
      have b : atKey (q :: qs) k = atKey qs k := by simp [atKey, List.find?_cons, e']
      rw [valV_neg e, b]; exact ih
theorem KT.repl {H : Hp} {kvs : List (List Key × V)} {xs : List (List Key × Addr × Value)} (r : KT H kvs xs) (k : List Key) {y : V} {u : Value} (ry : RelV y u) :
    KT H (kvs.map fun kv => if kv.1 = k then (kv.1, y) else kv) (xs.map (putAt k u)) := by
  induction r with
  | nil => exact .nil
  | @cons p q ps qs h t ih =>
    rw [List.map_cons, List.map_cons]
    refine .cons ?_ ih
    obtain ⟨h1, h2, h3⟩ := h
    unfold putAt
    by_cases e : p.1 = k
    · rw [if_pos e, if_pos (h1.symm.trans e)]; exact ⟨h1, h2, ry⟩
    · rw [if_neg e, if_neg (fun z => e (h1.trans z))]; exact ⟨h1, h2, h3⟩
theorem KT.put {H : Hp} {kvs : List (List Key × V)} {xs : List (List Key × Addr × Value)} (r : KT H kvs xs) (k : List Key) {b : Addr} {y : V} {u : Value} (hb : H b = some (.tup (k.map kV))) (ry : RelV y u) :
    KT H (putK kvs k y) (storedH xs k b u) := by
  have e : (kvs.any fun kv => decide (kv.1 = k)) = (atKey xs k).isSome := by
    rw [valV_any, (r.val k).isSome_eq, Option.isSome_map]
  unfold putK storedH
  rw [e]
  by_cases q : (atKey xs k).isSome = true
  · rw [if_pos q, if_pos q]; exact r.repl k ry
  · rw [if_neg q, if_neg q]; exact Paired.snoc r ⟨rfl, hb, ry⟩
theorem KT.keeps {H H' : Hp} {kvs : List (List Key × V)} {xs : List (List Key × Addr × Value)} (r : KT H kvs xs) (ht : ∀ b ys, H b = some (.tup ys) → H' b = some (.tup ys)) : KT H' kvs xs :=
  Paired.mapP r fun _ _ z => ⟨z.1, ht _ _ z.2.1, z.2.2⟩

section
variable {P : Program} {w : World} {H : Hp} {h : Heap} {a : Addr}
end

/-- what the dict at a holds at the key y -/
def DGet (H : Hp) (a : Addr) (y : V) (r : Option V) : Prop :=
  (∃ kvs k, Rd H a (.dK kvs) ∧ y = kV k ∧ r = valV kvs k) ∨ ∃ kvs k b, Rd H a (.dT kvs) ∧ y = .ref b ∧ H b = some (.tup (k.map kV)) ∧ r = valV kvs k
/-- the heap behind a[y] = v -/
def DPut (H : Hp) (a : Addr) (y v : V) (H' : Hp) : Prop :=
  (∃ kvs k, H a = some (.dK kvs) ∧ y = kV k ∧ kvs.length < sizeLine ∧ H' = upd H a (.dK (putK kvs k v))) ∨
  ∃ kvs k b, H a = some (.dT kvs) ∧ y = .ref b ∧ H b = some (.tup (k.map kV)) ∧ kvs.length < sizeLine ∧ H' = upd H a (.dT (putK kvs k v))
theorem DGet.k {H : Hp} {a : Addr} {kvs : List (Key × V)} {k : Key} (e : H a = some (.dK kvs)) : DGet H a (kV k) (valV kvs k) := .inl ⟨kvs, k, .inl e, rfl, rfl⟩
theorem DGet.t {H : Hp} {a b : Addr} {kvs : List (List Key × V)} {k : List Key} (e : H a = some (.dT kvs)) (eb : H b = some (.tup (k.map kV))) : DGet H a (.ref b) (valV kvs k) := .inr ⟨kvs, k, b, .inl e, rfl, eb, rfl⟩
theorem DPut.k {H : Hp} {a : Addr} {kvs : List (Key × V)} {k : Key} {v : V} (e : H a = some (.dK kvs)) (hl : kvs.length < sizeLine) : DPut H a (kV k) v (upd H a (.dK (putK kvs k v))) := .inl ⟨kvs, k, e, rfl, hl, rfl⟩
theorem DPut.t {H : Hp} {a b : Addr} {kvs : List (List Key × V)} {k : List Key} {v : V} (e : H a = some (.dT kvs)) (eb : H b = some (.tup (k.map kV))) (hl : kvs.length < sizeLine) :
    DPut H a (.ref b) v (upd H a (.dT (putK kvs k v))) := .inr ⟨kvs, k, b, e, rfl, eb, hl, rfl⟩


section
variable {X : Cx} {pins : List (Addr × Obj)} {σ : St} {H : Hp} {s : Shared} {a : Addr} {y v : V} {u r : Value} {o : Option V} {A : Around} {E : Value → Shared → Prop}

end

section
variable {X : Cx} {pins : List (Addr × Obj)} {σ : St} {H : Hp} {s : Shared} {a : Addr} {kvs : List (Key × V)} {k : Key} {u : Value} {A : Around} {E : Value → Shared → Prop}
end


/-! ### readings and rules -/
section
variable {X : Cx} {o i e value : Expr} {pos pos' tpos : Pos} {td ty tv : TE}
end


/-! ### displays -/
section
variable {X : Cx} {pos : Pos}
end

/-! ### methods -/
/-- a method call o.m(e) of a built-in, with one argument: what must be seen of the text -/
structure M1 (X : Cx) (o : Expr) (m : Str) (apos : Pos) (e : Expr) (cpos : Pos) : Prop where
  base : attributeBase o m X.env (eval o X.env) = eval o X.env
  few : ((backTo cpos (starEach [e] X.env)).all (fun x => !x.1) && (backToKw cpos (keywordEach [] X.env)).all (fun x => x.1.isSome)
    && decide (([e] : List Expr).length + ([] : List Keyword).length + (if ([] : List Keyword).isEmpty then 0 else 1) < 30)) = true
  line : (apos.endLine == cpos.line) = true
  trees : backTo cpos (starEach [e] X.env) = [(false, eval e X.env)]
structure M2 (X : Cx) (o : Expr) (m : Str) (apos : Pos) (e f : Expr) (cpos : Pos) : Prop where
  base : attributeBase o m X.env (eval o X.env) = eval o X.env
  few : ((backTo cpos (starEach [e, f] X.env)).all (fun x => !x.1) && (backToKw cpos (keywordEach [] X.env)).all (fun x => x.1.isSome)
    && decide (([e, f] : List Expr).length + ([] : List Keyword).length + (if ([] : List Keyword).isEmpty then 0 else 1) < 30)) = true
  line : (apos.endLine == cpos.line) = true
  trees : backTo cpos (starEach [e, f] X.env) = [(false, eval e X.env), (false, eval f X.env)]

section
variable {X : Cx} {pins : List (Addr × Obj)} {σ : St} {H : Hp} {s : Shared} {a : Addr} {y d : V} {u r : Value} {o : Option V} {A : Around} {E : Value → Shared → Prop}
end

section
variable {X : Cx} {o e f : Expr} {apos cpos : Pos} {td ty tx : TE}
end

/-! ### dict(d): a copy -/
section
variable {X : Cx} {pins : List (Addr × Obj)} {σ : St} {H : Hp} {s : Shared} {a : Addr} {kvs : List (Key × V)} {A : Around} {E : Value → Shared → Prop}
end


section
variable {X : Cx} {pins : List (Addr × Obj)} {σ : St} {H : Hp} {s : Shared} {a : Addr} {y : V} {u : Value} {A : Around} {E : Value → Shared → Prop}
end
end L2
namespace Att
open PySem PySem.W PySem.Calls PyProof.Rows

/-! ### the script -/
theorem ints_of_wellAll {P : Params} {h : Heap} : ∀ (ns : List Int) (vs : List Value), WellAll P h vs (ns.map WData.int) → IntsAre vs ns := by
  intro ns
  induction ns with
  | nil =>
    intro vs w
    rw [List.map_nil] at w
    cases w
    exact .nil
  | cons n ns ih =>
    intro vs w
    rw [List.map_cons] at w
    cases w with
    | cons a b =>
      cases a
      exact .cons _ _ (ih _ b)

theorem script_of {l : OpenLaw} {n : Nat} (hn : l.most = some n) {P : Params} {h : Heap} {args : List WData} {vals : List Value}
    (hpre : l.row.toRowW.claim.pre args = true) (hwl : WellAll P h vals args) :
    ∃ a vs ns, vals = [Value.ref a] ∧ args = [WData.list (ns.map WData.int)] ∧ h.get? a = some { cls := .type "list", data := .seq vs.toArray } ∧ IntsAre vs ns ∧ ns.length ≤ n := by
  have hsh : WShape.hasAll [] args [.list .int] = true := (pre_splitW hpre).1
  have hc : l.pre.holds [] { args := args } = true := (pre_splitW hpre).2
  obtain ⟨d, r, rfl, h1, h2⟩ := hasAllW_cons hsh
  obtain rfl := hasAllW_nil h2
  obtain ⟨xs, rfl, h3⟩ := hasW_list h1
  obtain ⟨ns, rfl⟩ := items_int h3
  have hlen : ns.length ≤ n := by
    unfold OpenLaw.pre at hc
    have h4 : (WTm.not (.lt (.lit (.int (n : Int))) (.len (.arg 0)))).holds [] { args := [.list (ns.map .int)] } = true := by
      have h4 := (holds_andW hc).1
      rw [hn] at h4
      exact h4
    have h5 := condW_of h4 (w_not (w_lt w_lit (w_len_list (w_arg rfl))))
    rw [List.length_map] at h5
    refine Nat.le_of_not_lt fun q => ?_
    have q' : (n : Int) < ((ns.length : Nat) : Int) := by omega
    first
      | (rw [decide_eq_true q'] at h5; exact absurd h5 (by decide))
      | (simp at h5; omega)
  cases hwl with
  | cons w1 w2 =>
    cases w2
    cases w1 with
    | list ho hall => exact ⟨_, _, ns, rfl, rfl, ho, ints_of_wellAll ns _ hall, hlen⟩

theorem post_true (l : OpenLaw) (args : List WData) : l.row.toRowW.claim.post args (.bool true) args = true :=
  postW_of (r := l.row.toRowW) (X := (true == true))
    (show WShape.has [] (.bool true) .bool = true by first | rfl | decide | simp [WShape.has, WShape.arms, WShape.armsAll])
    (show (WTm.eq .res (.lit (.bool true))).value [] { args := args, res := some (.bool true), after := args } = some (.bool (true == true)) from w_eq_bool (w_res rfl) w_lit) rfl

/-! ### the attachment: holds_open's last premise (the goal 'hc' behind k_head) from a wpAny of the law's body -/
/-- the same from a codeAny of the CALL (for a layer whose function contracts speak of calls) -/
theorem attach_call {l : OpenLaw} {n : Nat} {q : Program} {loose : List Str} {XP : (Str → Option Value) → Heap → Prop} {YP : World → Heap → Prop} {d : DefRec}
    (hn : l.most = some n) (hdf : d.params.defaults = [])
    (call : ∀ (w : World) (s₀ s₁ : Shared) (mg mb : Str → Option Value) (fa : Addr) (o : Obj) (pm cd doc : Value) (a : Addr) (vs : List Value) (ns : List Int),
      Ground q loose [] XP w s₀ mg mb s₁.heap → YP w s₁.heap →
      s₁.heap.get? fa = some o → o.data = .func (docDef d.name d.params d.body d.scope pm cd doc) → s₁.heap.CodeRec cd d.name → mg d.name = some (.ref fa) →
      s₁.heap.get? a = some { cls := .type "list", data := .seq vs.toArray } → IntsAre vs ns → ns.length ≤ n → s₁.gens = #[] →
      codeAny (model l.prog w) callerA (.call (.ref fa) ⟨[.ref a], []⟩) (fun r s' => r = .ok (.ret (.bool true)) ∧ OldK s₁.heap s'.heap ∧ s'.os = s₁.os ∧ AllBare s'.gens) s₁) :
    WalkO q loose XP YP l.row.toRowW d [] (fun f vs => PySem.call f vs) := by
  intro w s₀ s₁ mg mb G Y fa o pm cd doc dV kV ho hd hcd hD hmg hg args vals as hpre hlay hrd hwl hlo
  obtain rfl : dV = .none := Dflts.none hD hdf
  obtain rfl : kV = .none := Dflts.noKw hD
  obtain ⟨a, vs, ns, rfl, rfl, hobj, hints, hlen⟩ := script_of hn hpre hwl
  refine enter_call (codeAny_mono (call w s₀ s₁ mg mb fa o pm cd doc a vs ns G Y ho (fd_plain hd) hcd hmg hobj hints hlen hg) fun r s' hq => ?_)
  obtain ⟨rfl, h2, h3, h4⟩ := hq
  exact ⟨.inl ⟨.bool true, .bool true, [], rfl, fun _ => rfl, .bool true, post_true l _, fun _ => ⟨List.Pairwise.nil, fun _ hm => (nomatch hm)⟩⟩, h2, h3, h4⟩

/-! ### rules over ANY heap (no ledger) from facts about the written part K: the library's own take a ledger (News) for what they write -/
section
variable {prog : Program} {w : World} {A : Around} {E : Value → Shared → Prop} {s : Shared} {K : Frag}

/-! the whole heap as the ledger: makes every rule that writes through a ledger a rule over any heap -/
def ledger (h : Heap) (L d : Addr) : List (Addr × Obj) := (List.range h.objs.size).filterMap fun a => if a = L ∨ a = d then none else (h.get? a).map fun o => (a, o)
end
end Att

namespace L2
open PySem PySem.Spec PyProof.Rows

theorem vals_ints : ∀ {vs : List Value} {ns : List Int}, IntsAre vs ns → Vals (ns.map V.int) vs
  | _, _, .nil => .nil
  | _, _, .cons n t h => .cons ⟨t, rfl⟩ (vals_ints h)

/-- nothing is tracked but the script, known to the object (or it is an object of the module) -/
def Only (H : Hp) : Prop := ∀ b, H b = none ∨ ∃ o xs, H b = some (.frz o (.lst xs))

/-- THE HEAD: the law's promise, at the heap behind the top. F, the promise of the law's def, may use that base is part of the heap (so K.In base, base.Ns mainGlobals mg stand in Mod) -/
theorem law_call {P : Program} {w : World} {K : PySem.W.Frag} {mg mb : Str → Option Value} {CX : CXT} {k : Nat} {fa a : Addr} {fd : FuncData} {x : Str} {sp : Sp} {s₁ : Shared} {vs : List Value} {ns : List Int}
    (KX : K.In s₁.heap) (hns : s₁.heap.Ns mainGlobals mg) (hb : s₁.heap.Ns builtinsNs mb) (hbb : ∀ x : Str, x ≠ "__name__" → mb x = bootBuiltins x) (hlim : s₁.heap.NoLimit) (hg : s₁.gens = #[])
    (ha : s₁.heap.get? a = some { cls := .type "list", data := .seq vs.toArray }) (hi : IntsAre vs ns) (hl : ns.length ≤ sizeLine) (hr : Room k callerA)
    (F : ∀ base : Heap, K.In base → base.Ns mainGlobals mg → FnOk P w K mg base CX k fa fd [x] sp) (hbind : ∀ (s : Shared) (u : Value), BindsTo s fd ⟨[u], []⟩ [(x, u)])
    (hsp : ∀ H : Hp, Only H → SqL K H a (ns.map V.int) → sp [.ref a] H (fun v _ => v = .bl true) fun _ _ _ => False)
    (hCX : ∀ H e s', CX [] H s₁ (fun _ _ _ => False) e s' → False) :
    codeAny (model P w) callerA (.call (.ref fa) ⟨[.ref a], []⟩) (fun r s' => r = .ok (.ret (.bool true)) ∧ OldK s₁.heap s'.heap ∧ s'.os = s₁.os ∧ AllBare s'.gens) s₁ := by
  have rv := vals_ints hi
  have lenV := hi.length
  have core : ∀ H : Hp, Only H → SqL K H a (ns.map V.int) → HOk P w H s₁.heap → (∀ b, H b ≠ none → b = a) → (H a ≠ none → K.lookup a = none) →
      codeAny (model P w) callerA (.call (.ref fa) ⟨[.ref a], []⟩) (fun r s' => r = .ok (.ret (.bool true)) ∧ OldK s₁.heap s'.heap ∧ s'.os = s₁.os ∧ AllBare s'.gens) s₁ := by
    intro H hO hS hok hA hK
    have base_of : ∀ {b : Addr} {o : Obj}, s₁.heap.get? b = some o → H b = none → (hidT s₁.heap H).get? b = some o := fun e n => hidT_get e n
    have noA : ∀ {b : Addr} {o : Obj} {es : Array DictEntry} {ep : Nat}, s₁.heap.get? b = some o → o.data = .dict es ep → H b = none := fun {b o es ep} e d => by
      cases q : H b with
      | none => rfl
      | some u =>
        have e' : b = a := hA b (by rw [q]; simp)
        subst e'
        rw [ha] at e; cases e
        have d' : Data.seq vs.toArray _ = Data.dict es ep := d
        cases d'
    have nsK : ∀ {b : Addr} {m : Str → Option Value}, s₁.heap.Ns b m → (hidT s₁.heap H).Ns b m := fun {b m} ⟨o, es, ep, e, d, r⟩ => ⟨o, es, ep, base_of e (noA e d), d, r⟩
    have hKb : K.In (hidT s₁.heap H) := fun b o e => base_of (KX b o e) (by
      cases q : H b with
      | none => rfl
      | some u =>
        have e' : b = a := hA b (by rw [q]; simp)
        subst e'
        rw [hK (by rw [q]; simp)] at e; cases e)
    have hM : Mod K mg (hidT s₁.heap H) := ⟨hKb, nsK hns, ⟨mb, nsK hb, hbb⟩, let ⟨mc, h1, h2⟩ := hlim; ⟨mc, nsK h1, h2⟩⟩
    have e0 : Env0 P w K mg (hidT s₁.heap H) callerA [] s₁ H := ⟨rfl, hM, fun b o e => of_hidT e, Nat.le_of_eq (hidT_size _ _), trivial, fun b hb => absurd (show b ∈ ([] : List Addr) from hb) (by simp), hok, .of_eq hg⟩
    refine codeAny_mono ((F _ hKb (nsK hns)).run callerA [] s₁ H ⟨[.ref a], []⟩ [.ref a] [.ref a] _ _ hr e0 (hbind s₁ (.ref a)) (.cons rfl .nil) (hsp H hO hS)) fun r s' h => ?_
    cases r with
    | error e => exact (hCX H e s' h).elim
    | ok fl =>
      cases fl with
      | next => exact False.elim h
      | brk => exact False.elim h
      | cont => exact False.elim h
      | ret u =>
        obtain ⟨v, H', os, bare, un, hok', r', q⟩ := h
        have q' : v = .bl true := q
        subst q'
        obtain rfl : u = Value.bool true := r'
        refine ⟨rfl, OldK.of_keep fun b o e => ?_, os, bare⟩
        cases q : H b with
        | none => exact un.keep b o e q (by intro z; exact absurd (show b ∈ ([] : List Addr) from z) (by simp)) (by simp)
        | some u =>
          rcases hO b with z | ⟨ob, xs, z⟩
          · rw [q] at z; cases z
          · have z2 := un.frzs b ob _ z
            obtain ⟨e1, _⟩ := hok b _ z
            obtain ⟨e2, _⟩ := hok' b _ z2
            rw [e] at e1; cases e1
            exact e2
  cases hk : K.lookup a with
  | some o =>
    have e := KX a o hk
    rw [ha] at e
    cases e
    refine core (fun _ => none) (fun _ => .inl rfl) (.inr ⟨_, vs.toArray, _, hk, rfl, rfl, rfl, by rw [List.size_toArray, lenV]; exact hl, by simpa using rv⟩) (fun b u z => by have z' : (none : Option HO) = some u := z; cases z') (fun b z => absurd rfl z) fun z => absurd rfl z
  | none =>
    refine core (fun b => if b = a then some (.frz { cls := .type "list", data := .seq vs.toArray } (.lst (ns.map V.int))) else none) (fun b => ?_) (.inl (.inr ⟨{ cls := .type "list", data := .seq vs.toArray }, if_pos rfl⟩)) (fun b u z => ?_) (fun b z => ?_) fun _ => hk
    · by_cases hb : b = a
      · exact .inr ⟨_, _, if_pos hb⟩
      · exact .inl (if_neg hb)
    · by_cases hb : b = a
      · have z' := (if_pos hb).symm.trans z
        cases z'
        subst hb
        exact ⟨ha, by rw [List.length_map]; exact hl, vs, _, rv, ha⟩
      · have z' := (if_neg hb).symm.trans z
        cases z'
    · by_cases hb : b = a
      · exact hb
      · exact absurd (if_neg hb) z
end L2

namespace L2
open PySem PySem.Spec PyProof.Rows

abbrev KOf {K : PySem.W.Frag} {h : Heap} (_ : K.In h) : PySem.W.Frag := K

/-- the goal that k_head leaves (case hc), from the law's promise. F gives the function object fd (K's own) once, then the promise over every base -/
theorem walk_of {l : PySem.W.OpenLaw} {n k : Nat} {q : Program} {loose : List Str} {XP : (Str → Option Value) → Heap → Prop} {YP : World → Heap → Prop} {d : DefRec} {K : Params → PySem.W.Frag} {CX : World → CXT} {sp : World → Sp} {x : Str}
    (hn : l.most = some n) (hn2 : n ≤ sizeLine) (hdf : d.params.defaults = []) (hr : Room k callerA)
    (hY : ∀ (w : World) (h : Heap), YP w h → (K w.params).In h)
    (F : ∀ (w : World) (mg : Str → Option Value) (fa : Addr) (h : Heap), (K w.params).In h → h.Ns mainGlobals mg → mg d.name = some (.ref fa) →
      ∃ fd : FuncData, (∀ (s : Shared) (u : Value), BindsTo s fd ⟨[u], []⟩ [(x, u)]) ∧
        ∀ base : Heap, (K w.params).In base → base.Ns mainGlobals mg → FnOk l.prog w (K w.params) mg base (CX w) k fa fd [x] (sp w))
    (hsp : ∀ (w : World) (H : Hp) (a : Addr) (ns : List Int), ns.length ≤ n → Only H → SqL (K w.params) H a (ns.map V.int) → sp w [.ref a] H (fun v _ => v = .bl true) fun _ _ _ => False)
    (hCX : ∀ (w : World) (H : Hp) (s : Shared) (e : Value) (s' : Shared), CX w [] H s (fun _ _ _ => False) e s' → False) :
    PySem.W.WalkO q loose XP YP l.row.toRowW d [] (fun f vs => PySem.call f vs) := by
  refine Att.attach_call hn hdf fun w s₀ s₁ mg mb fa o pm cd doc a vs ns G Y ho hd hcd hmg hobj hints hlen hg => ?_
  have KX := hY w _ Y
  obtain ⟨fd, hb, hF⟩ := F w mg fa _ KX G.T.g hmg
  exact law_call KX G.T.g G.T.b G.T.builtins G.T.nolimit hg hobj hints (Nat.le_trans hlen hn2) hr hF hb (fun H hO hS => hsp w H a ns hlen hO hS) fun H e s' => hCX w H s₁ e s'
end L2

/- THE LAST THEOREM (shape; LID, My.* are yours):
   My.Adr: a structure of the addresses that your layer names (classes, functions); My.Txt K t: a structure (Prop) of the equations over K;
   My.txt_mk : {K} {implicit addresses ..} (e1 : nsIn K mainGlobals "law" = some (some (.ref f))) (e2 : K.lookup f = some ⟨oc, od, .func (fnOf "law" "law" params body scope dV kV doc pm an cdv ct), sl⟩) (e3 : codeIn K cdv "law" = true) .. : ∃ t, My.Txt K t

set_option maxRecDepth 100000 in
set_option maxHeartbeats 0 in
theorem PySem.Challenge.cw_LID_holds : PySem.Challenge.rw_LID.Holds := by
  w_on; o_law; k_head; (case hw => w_witness2)
  k_fill
  refine L2.walk_of (l := PySem.Challenge.rw_LID) (n := 63) (k := 40) (x := "script") (CX := fun w => ..) (sp := fun _ => My.sp_law) rfl (by decide) rfl ⟨rfl, by decide, by decide⟩ (fun w h Y => PySem.W.kIn_of Y) ?F ?S ?C
  case F =>
    intro w mg fa h KX G hmg
    have T : ∃ t, My.Txt (L2.KOf KX) t := by
      dsimp only [L2.KOf]                          -- K must stand as «<heap const> w.params» for k_is
      refine' My.txt_mk ?e1 ?e2 ?e3 ..
      (case e1 => PySem.W.k_is)                    -- in the order: a name -> its address -> its object -> its parts
      (case e2 => PySem.W.k_is)
      ..
    obtain ⟨t, T⟩ := T
    have e0 := hmg.symm.trans (PySem.W.mg_of KX G T.law)
    cases e0                                       -- fa is the law's own address
    exact ⟨_, fun s u => .of_eq rfl, fun base kb nb => My.law_fn T kb nb⟩     -- if «.of_eq rfl» comes too early: refine' ⟨_, ?b, fun base kb nb => My.law_fn T kb nb⟩; exact fun s u => .of_eq rfl
  case S => exact fun w H a ns hl hO hS => ..
  case C => exact ..
(the tactic k_is has no namespace: write k_is) -/

/-! SHORT WORDS over the layer: a def of the text, its body, what a loop and a test want. -/
namespace L2
open PySem PySem.Spec PyProof.Rows

/-! ### the text by places -/
def defArgs (s : Stmt) : Arguments := match s with
  | .FunctionDef _ a _ _ _ _ _ _ _ _ => a
  | _ => { posonlyargs := [], args := [], vararg := none, kwonlyargs := [], kw_defaults := [], kwarg := none, defaults := [] }
def defBody (s : Stmt) : List Stmt := match s with
  | .FunctionDef _ _ b _ _ _ _ _ _ _ => b
  | _ => []
def defScope (s : Stmt) : Scope := match s with
  | .FunctionDef _ _ _ _ _ _ sc _ _ _ => sc
  | _ => { kind := .function, names := [], isGenerator := false, isCoroutine := false }

/-! ### no exception leaves a def -/
abbrev CX0 : CXT := fun _ _ _ _ _ _ => False
abbrev E0 : XK := fun _ _ _ => False
theorem pass0 {X : Cx} : Passes CX0 X E0 := fun _ _ _ _ _ _ _ h => h.elim

/-! ### a def (or method) of the text as it stands behind the top -/
structure Fun (K : PySem.W.Frag) (x qual : Str) (st : Stmt) (f : Addr) (fd : FuncData) : Prop where
  ex : ∃ (oc : Value) (od : Option Addr) (kV doc pm : Value) (an : Option Addr) (cdv ct : Value) (osl : Array (Option Value)),
    fd = PySem.W.fnOf x qual (defArgs st) (defBody st) (defScope st) .none kV doc pm an cdv ct ∧ K.lookup f = some ⟨oc, od, .func fd, osl⟩ ∧ PySem.W.codeIn K cdv qual = true
  kp : PySem.W.keepIn K (.ref f) = true
section
variable {P : Program} {w : World} {K : PySem.W.Frag} {mg : Str → Option Value} {base : Heap}
/-- THE RULE for a def: its body as a term of rules, and the reading of that term -/
theorem Fun.ok {x qual : Str} {st : Stmt} {f : Addr} {fd : FuncData} {N ps : List Str} {k : Nat} {sp : Sp} (F : Fun K x qual st f fd) (S : FnScope N ps (defScope st)) (len : ∀ vs H Q E, sp vs H Q E → vs.length = ps.length)
    (hbody : ∀ (cdv : Value) (A : Around) (outer : List Env) (s : Shared) (H : Hp) (vs : List V) (Q : VK) (E : XK), Room k (A.deeper (envOfC qual (defScope st) s.heap.objs.size f cdv)) → sp vs H Q E →
      ∃ t, PSs (cxOf CX0 P w K mg base N qual (defScope st) f cdv A outer s H E).nox (defBody st) t ∧ t { nx := fun _ H' => Q .non H', rt := Q } (start N vs) H) : FnOk P w K mg base CX0 (k + 1) f fd ps sp := by
  obtain ⟨oc, od, kV, doc, pm, an, cdv, ct, osl, rfl, lk, hcd⟩ := F.ex
  refine fn_of lk hcd S len fun A outer s H vs Q E hr hsp => ?_
  obtain ⟨t, h, q⟩ := hbody cdv A outer s H vs Q E hr hsp
  exact ⟨t, h.nox, q⟩
/-- how its arguments bind (no defaults): h is «fun _ _ _ _ _ _ us hl => match us, hl with | [_, _], _ => rfl», one _ a parameter -/
theorem Fun.binds {x qual : Str} {st : Stmt} {f : Addr} {fd : FuncData} {ps : List Str} (F : Fun K x qual st f fd)
    (h : ∀ (kV doc pm : Value) (an : Option Addr) (cdv ct : Value) (us : List Value), us.length = ps.length → bindArgs (PySem.W.fnOf x qual (defArgs st) (defBody st) (defScope st) .none kV doc pm an cdv ct) ⟨us, []⟩ = pure (ps.zip us)) : Binds K fd ps [] := by
  obtain ⟨oc, od, kV, doc, pm, an, cdv, ct, osl, rfl, lk, hcd⟩ := F.ex
  exact .all (h kV doc pm an cdv ct)
theorem fun_mk {x qual : Str} {st : Stmt} {f : Addr} {oc : Value} {od an : Option Addr} {osl : Array (Option Value)} {kV doc pm cdv ct : Value} (l : K.lookup f = some ⟨oc, od, .func (PySem.W.fnOf x qual (defArgs st) (defBody st) (defScope st) .none kV doc pm an cdv ct), osl⟩)
    (c : PySem.W.codeIn K cdv qual = true) (k : PySem.W.keepIn K (.ref f) = true) : Fun K x qual st f (PySem.W.fnOf x qual (defArgs st) (defBody st) (defScope st) .none kV doc pm an cdv ct) := ⟨⟨oc, od, kV, doc, pm, an, cdv, ct, osl, rfl, l, c⟩, k⟩
end
/-! ### expressions in short: the name that stands in the i-th slot -/
section
variable {X : Cx}
theorem pv (i : Nat) {x : Str} {pos : Pos} (hN : X.N[i]? = some x := by rfl) (hv : Vis X.env.scope x := by first | exact Or.inl rfl | exact Or.inr (Or.inl rfl) | exact Or.inr (Or.inr rfl)) (hd : (x == ("__debug__" : Str)) = false := by decide)
    (hcd : (x == ("__classdict__" : Str)) = false := by decide) : PE X (.Name x pos) (tVar i) := pe_var hN hv hd hcd
end

/-! ### tests -/
/-! ### heaps -/
/-- all that was tracked is as it was -/
def Same (H H' : Hp) : Prop := ∀ b o, H b = some o → H' b = some o
theorem Same.refl (H : Hp) : Same H H := fun _ _ h => h
theorem Same.trans {H H1 H2 : Hp} (a : Same H H1) (b : Same H1 H2) : Same H H2 := fun c o h => b c o (a c o h)
theorem Same.free {H H' : Hp} (e : Same H H') {l : Addr} (h : H' l = Option.none) : H l = Option.none := by
  cases q : H l with
  | none => rfl
  | some o =>
    rw [e l o q] at h
    cases h
theorem Same.seq {K : PySem.W.Frag} {H H' : Hp} {a : Addr} {xs : List V} (e : Same H H') (h : SqL K H a xs) : SqL K H' a xs := by
  rcases h with (h | ⟨o, h⟩) | h
  · exact .inl (.inl (e _ _ h))
  · exact .inl (.inr ⟨o, e _ _ h⟩)
  · exact .inr h

/-! ### a dict's pairs: keys that differ -/
section
variable {κ : Type} [DecidableEq κ]
end
end L2
/-! ### exceptions: own classes, raised in a def, caught by a caller -/
namespace L2
open PySem PySem.Spec PyProof.Rows

/-- an exception of the class c flies over the frames l: what was there at s, and what is tracked, stands -/
structure Fly (P : Program) (w : World) (l : List Env) (H₀ : Hp) (s : Shared) (c : Value) (H' : Hp) (e : Value) (s' : Shared) : Prop where
  ex : ∃ (ea : Addr) (a0 : Value) (B : Heap), e = .ref ea ∧ Heap.FlyingW B l ea c a0 s'.heap ∧
    ∀ b o, s'.heap.get? b = some o → b ∉ frs l → ((∃ o', s.heap.get? b = some o') ∨ H' b ≠ none) → B.get? b = some o
  os : s'.os = s.os
  bare : AllBare s'.gens
  un : Un (frs l) [] H₀ H' s.heap s'.heap
  hok : HOk P w H' s'.heap
section
variable {P : Program} {w : World} {l : List Env} {H H' : Hp} {s s' : Shared} {h2 : Heap} {base : Heap}
/-- the frames' slots turn, all else that was there or is tracked stays -/
theorem Un.slots (hf : s.heap.FunFrames base l) (fr : ∀ b ∈ frs l, H b = none) (u : Un (frs l) [] H H' s.heap s'.heap) (hok : HOk P w H' s'.heap)
    (kp : ∀ b o, s'.heap.get? b = some o → b ∉ frs l → ((∃ o', s.heap.get? b = some o') ∨ H' b ≠ none) → h2.get? b = some o) (x4 : s'.heap.UpToSlots h2) :
    Un (frs l) [] H H' s.heap h2 ∧ HOk P w H' h2 := by
  have nofr : ∀ b, H' b ≠ none → b ∉ frs l := fun b hb hm => by
    obtain ⟨_, o, ho, _⟩ := hf.mem hm
    exact hb (u.free b o ho (fr b hm) (by simp))
  have slot : ∀ b o, s.heap.get? b = some o → b ∈ frs l → ∃ sl, h2.get? b = some { o with slots := sl } := fun b o q hm => by
    obtain ⟨sl, e⟩ := u.slot b o q (fr b hm) hm (by simp)
    obtain ⟨_, o2, ho2, hd⟩ := hf.mem hm
    rw [q] at ho2
    cases ho2
    obtain ⟨sl2, e2⟩ := x4 b _ e hd
    exact ⟨sl2, e2⟩
  refine ⟨⟨fun b o q n hb hx => kp b o (u.keep b o q n hb hx) hb (.inl ⟨o, q⟩), fun b o q n hb hx => slot b o q hb, u.free, fun b o q hx => ?_, u.tups, u.frzs, u.tbls⟩, fun a o q => ?_⟩
  · by_cases hm : b ∈ frs l
    · obtain ⟨sl, e⟩ := slot b o q hm
      exact ⟨_, e⟩
    · obtain ⟨o', e⟩ := u.there b o q hx
      exact ⟨o', kp b o' e hm (.inl ⟨o, q⟩)⟩
  · refine (hok a o q).stay (fun b u hb e => ?_) (fun _ z => z) fun _ _ z => z
    have ht : H' b ≠ none := by
      rcases hb with rfl | hb
      · rw [q]; exact fun z => nomatch z
      · rw [hb]; exact fun z => nomatch z
    exact kp b u e (nofr b ht) (.inr ht)
end

section
variable {X : Cx} {pins : List (Addr × Obj)} {σ : St} {H H' : Hp} {s s' : Shared} {c : Value} {e : Value} {E : Value → Shared → Prop}
/-- a call has ended in an exception: the body's state stands -/
theorem Fly.inv (I : Inv X pins σ H s) (F : Fly X.prog X.w X.stack H s c H' e s') : Inv X pins σ H' s' := by
  obtain ⟨hh, g, d, t, os'⟩ := s'
  obtain rfl : os' = s.os := F.os
  exact I.call (h' := hh) (g' := g) (d' := d) (t' := t) (ch := []) F.un F.hok F.bare (fun b z => absurd z (by simp))
end

/-- a call's exception reaches what is wanted: R of the class, the names' values and the heap -/
def XPass (X : Cx) (R : Value → St → Hp → Prop) : Prop :=
  ∀ (pins : List (Addr × Obj)) (σ : St) (H : Hp) (s : Shared) (e : Value) (s' : Shared) (c : Value) (H' : Hp), Inv X pins σ H s → Fly X.prog X.w X.stack H s c H' e s' → R c σ H' → X.xe e s'
/-- what is wanted of exceptions in a body: R of the class, the names' values and the heap -/
structure XOk (X : Cx) (R : Value → St → Hp → Prop) : Prop where
  made : ∀ (pins : List (Addr × Obj)) (σ : St) (H : Hp) (s : Shared) (ea : Addr) (vs : List Value) (c : Value) (h' : Heap), Inv X pins σ H s → Heap.MadeExcOf s.heap h' ea c vs → R c σ H → X.xe (.ref ea) { s with heap := h' }
  pass : XPass X R
section
variable {P : Program} {w : World} {K : PySem.W.Frag} {mg : Str → Option Value} {base : Heap} {N ps : List Str} {qual : Str} {scope : Scope} {f : Addr} {cd : Value} {A : Around} {outer : List Env} {s : Shared} {H : Hp} {E : XK}
end
section
variable {P : Program} {w : World} {K : PySem.W.Frag} {mg : Str → Option Value} {base : Heap}
end

section
variable {X : Cx} {k : Nat} {f C : Addr} {fd : FuncData} {ps : List Str} {sp : Sp} {dvs : List V} {ds : List Value} {R : Value → St → Hp → Prop} {x m : Str} {p pos apos np cpos : Pos} {e o : Expr} {es : List Expr} {ta : TE} {t : TA}
/-! raise C(..) -/
structure XCls (K : PySem.W.Frag) (mg : Str → Option Value) (x : Str) (C : Addr) : Prop where
  bound : mg x = some (.ref C)
  exc : PySem.W.excIn K C [.type "ValueError", .type "Exception", .type "BaseException", .type "object"] "ValueError.__new__" = true
theorem XCls.own {K : PySem.W.Frag} {mg : Str → Option Value} {x : Str} {C : Addr} {h : Heap} (c : XCls K mg x C) (KX : K.In h) : OwnCls x C [.type "ValueError", .type "Exception", .type "BaseException", .type "object"] "ValueError.__new__" mg h := by
  refine ⟨c.bound, ?_⟩
  have q := c.exc
  unfold PySem.W.excIn at q
  split at q
  · rename_i dd cd sl ho
    split at q
    · rename_i C' bm k0 k1 k2 k3 n k5 hm hs
      simp only [Bool.and_eq_true, beq_iff_eq, Bool.not_eq_true'] at q
      obtain ⟨⟨⟨⟨⟨rfl, rfl⟩, hdel⟩, ht⟩, hok⟩, hni⟩ := q
      obtain ⟨nm, bs, mro, ns, qn, hd, sn, sub, ab, col, del⟩ := cd
      dsimp only at hm hdel hok hni
      subst hm hdel
      have hsl : sl = #[k0, k1, k2, k3, some (.builtin "ValueError.__new__"), k5] := by
        obtain ⟨l⟩ := sl
        simp only at hs
        rw [hs]
      subst hsl
      exact ⟨bm, ns, nm, qn, bs, hd, sn, sub, ab, col, dd, k0, k1, k2, k3, k5, _, KX _ _ ho, .of_isNs (PySem.W.isNs_of_in KX hok), PySem.W.nsMap_none_of_in KX hok hni, PySem.W.tail_of_in KX ht⟩
    · cases q
  · cases q
end
end L2
namespace L2
open PySem PySem.Spec PyProof.Rows
section
variable {M : Model} {A : Around} {E : Value → Shared → Prop}
variable {nm q nm' q' : Str} {C N C' N' : Addr} {bs bm bs' bm' : List Value} {hdct hdct' : Bool} {sn sn' : List Str} {sub sub' : List Value} {ab ab' : Bool} {col col' : Option Bool} {dd dd' : Option Addr} {k0 k1 k2 k3 k5 j0 j1 j2 j3 j5 : Option Value} {newId newId' : String}
end

theorem XCls.obj {K : PySem.W.Frag} {mg : Str → Option Value} {x : Str} {C : Addr} {h : Heap} (c : PySem.W.excIn K C [.type "ValueError", .type "Exception", .type "BaseException", .type "object"] "ValueError.__new__" = true) (KX : K.In h) :
    ∃ bm N nm q bs hdct sn sub ab col dd k0 k1 k2 k3 k5, h.get? C = some (excClassObj nm q C N bs bm hdct sn sub ab col dd k0 k1 k2 k3 k5 "ValueError.__new__") ∧ bm.contains (.type "BaseException") = true ∧ ∀ v, PySem.W.mroIn K C v = some ((Value.ref C :: bm).contains v) := by
  have q := c
  unfold PySem.W.excIn at q
  split at q
  · rename_i dd cd sl ho
    split at q
    · rename_i C' bm k0 k1 k2 k3 n k5 hm hs
      simp only [Bool.and_eq_true, beq_iff_eq, Bool.not_eq_true'] at q
      obtain ⟨⟨⟨⟨⟨rfl, rfl⟩, hdel⟩, ht⟩, hok⟩, hni⟩ := q
      have hmro : ∀ v, PySem.W.mroIn K C' v = some ((Value.ref C' :: bm).contains v) := fun v => by
        unfold PySem.W.mroIn PySem.W.clsIn
        rw [ho]
        simp [hm]
      obtain ⟨nm, bs, mro, ns, qn, hd, sn, sub, ab, col, del⟩ := cd
      dsimp only at hm hdel hok hni
      subst hm hdel
      have hsl : sl = #[k0, k1, k2, k3, some (.builtin "ValueError.__new__"), k5] := by
        obtain ⟨l⟩ := sl
        simp only at hs
        rw [hs]
      subst hsl
      exact ⟨bm, ns, nm, qn, bs, hd, sn, sub, ab, col, dd, k0, k1, k2, k3, k5, KX _ _ ho, (PySem.W.tail_of_in KX ht).hasType (by decide), hmro⟩
    · cases q
  · cases q

/-- the context of an except suite, where nothing is raised -/
abbrev Cx.hdl (X : Cx) (e : Value) : Cx := { X with A := X.A.mark (some e), calm := false, xe := fun _ _ => False }
section
variable {X : Cx} {pins : List (Addr × Obj)} {σ : St} {H H0 : Hp} {s sc : Shared} {c e : Value}
theorem Inv.hdl (I : Inv X pins σ H s) (e : Value) : Inv (X.hdl e) pins σ H s := by
  obtain ⟨ok, os, bare, bs, loc, cell, free, freeC, pin, hok, len⟩ := I
  obtain ⟨o1, o2, o3, o4, o5, o6, o7, o8, o9, o10, o11, o12, o13, o14, o15, o16, o17, o18⟩ := ok
  exact ⟨⟨o1, o2, o3, o4, o5, o6, o7, o8, (fun z => nomatch z), o10, o11, o12, o13, o14, o15, o16, o17, o18⟩, os, bare, bs, loc, cell, free, freeC, pin, hok, len⟩
end

section
variable {X : Cx} {x : Str} {C : Addr} {np hpos pos : Pos} {b₀ : Stmt} {suite body : List Stmt} {rest hs : List ExceptHandler} {h₀ : ExceptHandler} {ts : TS} {tr : Value → TS}
/-- the context of a try's body: xe what is wanted of exceptions, pn the pins that are kept through it -/
abbrev Cx.tryd (X : Cx) (pn : List (Addr × Obj)) (xe : Value → Shared → Prop) : Cx := { X with pn := pn, xe := xe }
theorem Inv.tryd {pins : List (Addr × Obj)} {σ : St} {H : Hp} {s : Shared} (I : Inv X pins σ H s) (xe : Value → Shared → Prop) : Inv (X.tryd (X.pn ++ pins) xe) [] σ H s := by
  obtain ⟨ok, os, bare, bs, loc, cell, free, freeC, pin, hok, len⟩ := I
  obtain ⟨o1, o2, o3, o4, o5, o6, o7, o8, o9, o10, o11, o12, o13, o14, o15, o16, o17, o18⟩ := ok
  exact ⟨⟨o1, o2, o3, o4, o5, o6, o7, o8, o9, o10, o11, o12, o13, o14, o15, o16, o17, o18⟩, os, bare, bs, loc, cell, free, freeC, (fun p hp => pin p (by rwa [List.append_nil] at hp)), hok, len⟩
end
end L2
/-! ### list comprehensions -/
namespace L2
open PySem PySem.Spec PyProof.Rows

def clFrom (cells : List (Str × Addr)) : List (Str × NameKind) → List (Str × Addr) → List (Str × Addr)
  | [], acc => acc
  | (n, k) :: r, acc => clFrom cells r (if k == .free then (n, (cells.lookup n).getD 0) :: acc else acc)
theorem clFrom_mem {cells : List (Str × Addr)} {x : Str} {c : Addr} : ∀ {l : List (Str × NameKind)} {acc : List (Str × Addr)}, (x, c) ∈ clFrom cells l acc → (x, c) ∈ acc ∨ (x, NameKind.free) ∈ l ∧ c = (cells.lookup x).getD 0
  | [], acc, h => .inl h
  | (n, k) :: r, acc, h => by
    unfold clFrom at h
    rcases clFrom_mem h with g | ⟨h1, h2⟩
    · split at g
      · rename_i hk
        have hk : k = .free := by simpa using hk
        subst hk
        rcases List.mem_cons.mp g with g | g
        · cases g
          exact .inr ⟨List.mem_cons_self, rfl⟩
        · exact .inl g
      · exact .inl g
    · exact .inr ⟨List.mem_cons_of_mem _ h1, h2⟩
theorem clFrom_acc {cells : List (Str × Addr)} {p : Str × Addr} : ∀ {l : List (Str × NameKind)} {acc : List (Str × Addr)}, p ∈ acc → p ∈ clFrom cells l acc
  | [], _, h => h
  | (n, k) :: r, acc, h => by
    unfold clFrom
    refine clFrom_acc ?_
    split
    · exact List.mem_cons_of_mem _ h
    · exact h
theorem clFrom_has {cells : List (Str × Addr)} {x : Str} : ∀ {l : List (Str × NameKind)} {acc : List (Str × Addr)}, (x, NameKind.free) ∈ l → (x, (cells.lookup x).getD 0) ∈ clFrom cells l acc
  | (n, k) :: r, acc, h => by
    unfold clFrom
    rcases List.mem_cons.mp h with h | h
    · cases h
      refine clFrom_acc ?_
      simp
    · exact clFrom_has h
theorem lookup_of_mem {l : List (Str × Addr)} {x : Str} {c : Addr} (h : (x, c) ∈ l) : ∃ c', l.lookup x = some c' := by
  induction l with
  | nil => cases h
  | cons p r ih =>
    obtain ⟨n, d⟩ := p
    rw [List.lookup_cons]
    cases hb : x == n with
    | true => exact ⟨d, rfl⟩
    | false =>
      rcases List.mem_cons.mp h with h | h
      · cases h; simp at hb
      · exact ih h

/-- how a comprehension's names stand: N' its names, ix whence (none: its own) -/
structure CompSc (X : Cx) (scope : Scope) (N' : List Str) (ix : List (Option Nat)) : Prop where
  kind : scope.kind = .function
  nocell : ∀ y ∈ scope.names, y.2 ≠ .cell
  names : ∀ y ∈ scope.names, y.2 = .local → scope.names.lookup y.1 = some .local
  frees : ∀ y ∈ scope.names, y.2 = .free → scope.names.lookup y.1 = some .free ∧ (X.env.kindOf y.1 = some .cell ∨ X.env.kindOf y.1 = some .free)
  len : ix.length = N'.length
  cap : ∀ (i : Nat) (x : Str) (j : Nat), N'[i]? = some x → ix[i]? = some (some j) → X.N[j]? = some x ∧ scope.names.lookup x = some .free
def st0 (ix : List (Option Nat)) (σ : St) : St := ix.map fun o => o.bind fun j => (σ[j]?).bind id

abbrev Cx.comp (X : Cx) (scope : Scope) (N' : List Str) (C : Addr) (s : Shared) (H : Hp) (fp : List Addr) (pins : List (Addr × Obj)) : Cx :=
  { X with N := N', s₀ := s, H₀ := H, env := compEnvC scope (clFrom X.env.cells scope.names []) C X.env, outer := X.stack, stack := X.stack, ex := fp, fn := fun x => ((clFrom X.env.cells scope.names []).lookup x).isNone, pn := X.pn ++ pins, xe := fun _ _ => False }

theorem lookup_relabel_free {env : Env} : ∀ {names : List (Str × NameKind)} {x : Str} {k : NameKind}, names.lookup x = some k →
    (names.map fun (n, k) => if (k == NameKind.free && env.scope.kind == .function && env.kindOf n == some .cell) then (n, NameKind.cell) else (n, k)).lookup x = some (if (k == NameKind.free && env.scope.kind == .function && env.kindOf x == some .cell) then .cell else k)
  | [], _, _, h => by simp at h
  | (n, k) :: r, x, k', h => by
    have ih := @lookup_relabel_free env r x k'
    show List.lookup x ((if (k == NameKind.free && env.scope.kind == .function && env.kindOf n == some .cell) = true then (n, NameKind.cell) else (n, k)) :: _) = _
    cases hx : x == n with
    | true =>
      simp only [List.lookup_cons, hx] at h
      cases h
      have hxn : x = n := by simpa using hx
      subst hxn
      split <;> simp [List.lookup_cons]
    | false =>
      simp only [List.lookup_cons, hx] at h
      split <;> (simp only [List.lookup_cons, hx]; exact ih h)
theorem lookup_relabel_none {env : Env} : ∀ {names : List (Str × NameKind)} {x : Str}, names.lookup x = none →
    (names.map fun (n, k) => if (k == NameKind.free && env.scope.kind == .function && env.kindOf n == some .cell) then (n, NameKind.cell) else (n, k)).lookup x = none
  | [], _, _ => rfl
  | (n, k) :: r, x, h => by
    have ih := @lookup_relabel_none env r x
    show List.lookup x ((if (k == NameKind.free && env.scope.kind == .function && env.kindOf n == some .cell) = true then (n, NameKind.cell) else (n, k)) :: _) = _
    cases hx : x == n with
    | true => simp only [List.lookup_cons, hx] at h; cases h
    | false =>
      simp only [List.lookup_cons, hx] at h
      split <;> (simp only [List.lookup_cons, hx]; exact ih h)

section
variable {X : Cx} {scope : Scope} {N' : List Str} {ix : List (Option Nat)} {pins : List (Addr × Obj)} {σ : St} {H : Hp} {s : Shared}
theorem CompSc.cells (S : CompSc X scope N' ix) (I : Inv X pins σ H s) : ∀ p ∈ scope.names, p.2 = .free → ∃ c, X.env.cells.lookup p.1 = some c := fun p hp hk => I.ok.has p.1 (S.frees p hp hk).2
theorem CompSc.look (S : CompSc X scope N' ix) (I : Inv X pins σ H s) {x : Str} {c : Addr} (h : (clFrom X.env.cells scope.names []).lookup x = some c) : X.env.cells.lookup x = some c ∧ (x, NameKind.free) ∈ scope.names := by
  rcases clFrom_mem (PySem.mem_of_lookup h) with z | ⟨h1, h2⟩
  · cases z
  · obtain ⟨c', hc'⟩ := S.cells I (x, .free) h1 rfl
    rw [hc'] at h2
    rw [hc', h2]
    exact ⟨rfl, h1⟩
/-- which names are cells in the block -/
theorem CompSc.isFree (S : CompSc X scope N' ix) {C : Addr} {cl : List (Str × Addr)} {x : Str} (h : (compEnvC scope cl C X.env).kindOf x = some .cell ∨ (compEnvC scope cl C X.env).kindOf x = some .free) : (x, NameKind.free) ∈ scope.names := by
  have h : (relabel scope X.env).names.lookup x = some .cell ∨ (relabel scope X.env).names.lookup x = some .free := h
  cases hl : scope.names.lookup x with
  | none =>
    have := lookup_relabel_none (env := X.env) hl
    unfold relabel at h
    rw [this] at h
    rcases h with h | h <;> cases h
  | some k =>
    have := lookup_relabel_free (env := X.env) hl
    unfold relabel at h
    rw [this] at h
    have hm := PySem.mem_of_lookup hl
    by_cases hk : k = .free
    · rw [hk] at hm; exact hm
    · have hb : (k == NameKind.free) = false := by simpa using hk
      simp only [hb, Bool.false_and, Bool.false_eq_true, if_false] at h
      rcases h with h | h
      · cases h; exact absurd rfl (S.nocell _ hm)
      · cases h; exact hm

/-- the block's state at its start -/
theorem Inv.comp {fp : List Addr} {C acc : Addr} {h1 : Heap} {t1 : Nat} (S : CompSc X scope N' ix) (I : Inv X pins σ H s) (hc : X.calm = true) (f2 : ∀ b ∈ fp, FpOk X pins H b) (ho : ∀ b ∈ fp, ∃ o, s.heap.get? b = some o)
    (ha : acc = s.heap.objs.size) (hC : C = s.heap.objs.size + 1) (old : ∀ b o, s.heap.get? b = some o → h1.get? b = some o) (hns : h1.Ns C fun _ => none) (hacc : h1.get? acc = some { cls := .type "list", data := .seq ([] : List Value).toArray }) :
    Inv (X.comp scope N' C s H fp pins) [] (st0 ix σ) (upd H acc (.lst [])) { s with heap := h1, toks := t1 } := by
  have hfa : H acc = none := I.hok.fresh (by rw [ha]; exact Nat.le_refl _)
  have hfC : H C = none := I.hok.fresh (by rw [hC]; exact Nat.le_succ _)
  have ltC : ∀ b o, s.heap.get? b = some o → b < C ∧ b < acc := fun b o q => by
    have := Heap.lt_size q
    rw [hC, ha]
    exact ⟨Nat.lt_succ_of_lt this, this⟩
  have fpC : ∀ b ∈ fp, b < C ∧ b < acc := fun b hb => by
    obtain ⟨o, q⟩ := ho b hb
    exact ltC b o q
  have cellLt : ∀ x c, (clFrom X.env.cells scope.names []).lookup x = some c → c < C ∧ c < acc := fun x c h => by
    obtain ⟨v, o, q, _⟩ := I.cell x c (S.look I h).1
    exact ltC c o q
  have nfs : ∀ b ∈ fp, b ∉ frs X.stack := fun b hb hm => by
    obtain ⟨_, q1, q2, _⟩ := f2 b hb
    rcases List.mem_cons.mp (I.stkSub b hm) with z | z
    · exact q1 z
    · exact q2 z
  refine ⟨⟨I.ok.mod, S.kind, I.ok.glob, I.ok.blt, ?_, ?_, ?_, ?_, I.ok.hd, I.ok.frames, .inl rfl, ?_, ?_, ?_, ?_, nfs, I.stack, I.stkFree⟩, rfl, I.bare, ?_, ⟨_, hns, ?_⟩, ?_, ?_, ?_, ?_, ?_, ?_⟩
  · show s.heap.objs.size ≤ C
    rw [hC]; exact Nat.le_succ _
  · intro x y c h1 h2
    exact I.ok.inj x y c (S.look I h1).1 (S.look I h2).1
  · intro x hx
    exact lookup_of_mem (clFrom_has (S.isFree hx))
  · intro x c hfn hl
    have hfn : ((clFrom X.env.cells scope.names []).lookup x).isNone = true := hfn
    have hl : (clFrom X.env.cells scope.names []).lookup x = some c := hl
    rw [hl] at hfn
    cases hfn
  · intro b hb
    refine ⟨Nat.ne_of_lt (fpC b hb).1, fun x c hl => ?_⟩
    exact (f2 b hb).2.2.2.2.1 x c (S.look I hl).1
  · exact fun b o q => I.bs b o q
  · exact Nat.le_trans I.ok.bsz I.sz
  · intro b o q hb
    obtain ⟨_, _, _, q3, _⟩ := f2 b hb
    rcases q3 with z | z
    · exact I.ok.noex b o q z
    · exact absurd (Nat.lt_of_lt_of_le (Heap.lt_size (I.ok.bs b o q).1) z) (Nat.lt_irrefl _)
  · exact Un.laid old (by rw [ha]; exact Nat.le_refl _) hfa
  · intro i x v hN hσ hv
    have hN : N'[i]? = some x := hN
    unfold st0 at hσ
    rw [List.getElem?_map] at hσ
    cases hix : ix[i]? with
    | none => rw [hix] at hσ; cases hσ
    | some o =>
      rw [hix] at hσ
      cases o with
      | none => cases hσ
      | some j =>
        obtain ⟨hNj, hfree⟩ := S.cap i x j hN hix
        have hσj : σ[j]? = some (some v) := by
          have hσ : (σ[j]?).bind id = some v := Option.some.inj hσ
          cases hj : σ[j]? with
          | none => rw [hj] at hσ; cases hσ
          | some ov => rw [hj] at hσ; exact congrArg some hσ
        have hm := PySem.mem_of_lookup hfree
        have hk := (S.frees (x, .free) hm rfl).2
        obtain ⟨m0, hn0, hloc⟩ := I.loc
        obtain ⟨u, ru, lk⟩ := hloc j x v hNj hσj (by
          rcases hk with z | z
          · exact .inr (.inl z)
          · exact .inr (.inr z))
        refine ⟨u, ru, .inr ⟨?_, ?_⟩⟩
        · show (relabel scope X.env).names.lookup x = some .cell ∨ (relabel scope X.env).names.lookup x = some .free
          have := lookup_relabel_free (env := X.env) hfree
          unfold relabel
          rw [this]
          by_cases hz : (NameKind.free == NameKind.free && X.env.scope.kind == .function && X.env.kindOf x == some .cell) = true
          · rw [if_pos hz]; exact .inl rfl
          · rw [if_neg hz]; exact .inr rfl
        · rcases lk with ⟨z, _⟩ | ⟨_, c, hc, o, q, hd⟩
          · exfalso
            rcases hk with y | y
            · rw [y] at z; cases z
            · rw [y] at z; cases z
          · obtain ⟨c', hc'⟩ := lookup_of_mem (clFrom_has (cells := X.env.cells) (acc := []) hm)
            have e := (S.look I hc').1
            rw [hc] at e
            cases e
            exact ⟨c, hc', o, old _ _ q, hd⟩
  · intro x c hl
    obtain ⟨v, o, q, hd⟩ := I.cell x c (S.look I hl).1
    exact ⟨v, o, old _ _ q, hd⟩
  · show upd H acc (.lst []) C = none
    rw [upd_ne (by rw [hC, ha]; exact Nat.succ_ne_self _)]
    exact hfC
  · intro x c hl
    show upd H acc (.lst []) c = none
    rw [upd_ne (Nat.ne_of_lt (cellLt x c hl).2)]
    exact I.freeC x c (S.look I hl).1
  · intro p hp
    rw [List.append_nil] at hp
    obtain ⟨p1, p2, p3, p4, p5⟩ := I.pin p hp
    refine ⟨old _ _ p1, ?_, Nat.ne_of_lt (ltC _ _ p1).1, fun hm => ?_, p5⟩
    · rw [upd_ne (Nat.ne_of_lt (ltC _ _ p1).2)]; exact p2
    · rcases List.mem_cons.mp (I.stkSub _ hm) with z | z
      · exact p3 z
      · exact p4 z
  · exact I.hok.laid old (by rw [ha]; exact Nat.le_refl _) ⟨Nat.zero_le _, [], 0, .nil, hacc⟩
  · show (st0 ix σ).length = N'.length
    unfold st0
    rw [List.length_map]
    exact S.len
end

/-! the loop -/
section
variable {prog : Program} {w : World} {A : Around} {R : Result → Shared → Prop} {s : Shared}
end

/-- the tests of a clause: none, or one -/
def PTs (X : Cx) : List Expr → TT → Prop
  | [], t => t = fun _ H Q => Q true H
  | [c], t => PT X c t
  | _, _ => False
section
variable {X : Cx} {scope : Scope} {N' : List Str} {ix : List (Option Nat)} {tg iter elt : Expr} {ifs : List Expr} {pos : Pos} {wi : TI} {g : TG} {tc : TT} {te : TE}
/-- x = [elt for ..] -/
def tSetLC (i : Nat) (t : TE) : TS := fun D σ H => t σ H fun v H1 => D.nx (σ.set i (some v)) H1
end
end L2
namespace L2
open PySem PySem.Spec PyProof.Rows
section
variable {ix : List (Option Nat)} {g : TG} {tc : TT} {te : TE} {Q : VK} {σ : St} {H : Hp} {acc : Addr}
end

/-! isinstance(x, T) -/
section
variable {X : Cx}
theorem call_isinst {T : String} : CallR X (.builtin "isinstance") (fun xs H Q => ∃ x t b, xs = [x, .ty T] ∧ TyOf X.K H x t ∧ PySem.W.kitOne X.K t (.type T) = some b ∧ Q (.bl b) H) := by
  intro pins s σ H xs us Q I r h
  obtain ⟨x, t, b, rfl, ty, e, q⟩ := h
  obtain ⟨u, v, rfl, ru, rv⟩ := Vals.two r
  cases (show v = Value.type T from rv)
  exact isinst_ok I ru ty e fun tk => ⟨.bl b, H, I.tok _, rfl, q⟩
end
end L2
namespace L2
open PySem PySem.Spec PyProof.Rows
/-! a def that stands under a value -/
section
variable {X : Cx} {fe e : Expr} {es : List Expr} {tf : TE} {t : TA} {pos : Pos}
/-- what is known of a def that may be called -/
structure Callee (X : Cx) (f : Addr) (sp : Sp) : Prop where
  ex : ∃ (k : Nat) (fd : FuncData) (ps : List Str), FnOk X.prog X.w X.K X.mg X.base CX0 k f fd ps sp ∧ Room k X.A ∧ Binds X.K fd ps [] ∧ PySem.W.keepIn X.K (.ref f) = true
end
end L2
/-! ### plain data: what a value stands for, equality -/
namespace L2
open PySem PySem.Spec PyProof.Rows

inductive Dat where
  | non | bl (b : Bool) | int (i : Int) | str (x : Str) | tup (l : List Dat) | lst (l : List Dat)

mutual
def DV (H : Hp) : V → Dat → Prop
  | v, .non => v = .non
  | v, .bl b => v = .bl b
  | v, .int i => v = .int i
  | v, .str x => v = .str x
  | v, .tup l => ∃ a xs, v = .ref a ∧ H a = some (.tup xs) ∧ DVs H xs l
  | v, .lst l => ∃ a xs, v = .ref a ∧ H a = some (.lst xs) ∧ DVs H xs l
def DVs (H : Hp) : List V → List Dat → Prop
  | [], [] => True
  | x :: xs, d :: ds => DV H x d ∧ DVs H xs ds
  | _, _ => False
end
mutual
def Dat.beq : Dat → Dat → Bool
  | .non, .non => true
  | .bl a, .bl b => a == b
  | .bl a, .int j => (if a then 1 else 0) == j
  | .int i, .bl b => i == (if b then 1 else 0)
  | .int i, .int j => i == j
  | .str x, .str y => x == y
  | .tup l, .tup m => Dat.beqs l m
  | .lst l, .lst m => Dat.beqs l m
  | _, _ => false
def Dat.beqs : List Dat → List Dat → Bool
  | [], [] => true
  | x :: l, y :: m => Dat.beq x y && Dat.beqs l m
  | _, _ => false
end
mutual
def Dat.dep : Dat → Nat
  | .tup l => Dat.deps l + 1
  | .lst l => Dat.deps l + 1
  | _ => 0
def Dat.deps : List Dat → Nat
  | [] => 0
  | x :: l => max x.dep (Dat.deps l)
end
theorem dep_mem {l : List Dat} {d : Dat} (h : d ∈ l) : d.dep ≤ Dat.deps l := by
  induction l with
  | nil => cases h
  | cons x r ih =>
    unfold Dat.deps
    rcases List.mem_cons.mp h with rfl | h
    · omega
    · have := ih h; omega
section
variable {H H' : Hp}
theorem DVs.length : ∀ {xs : List V} {l : List Dat}, DVs H xs l → xs.length = l.length
  | [], [], _ => rfl
  | _ :: _, _ :: _, h => by unfold DVs at h; rw [List.length_cons, List.length_cons, DVs.length h.2]
  | [], _ :: _, h => by unfold DVs at h; exact h.elim
  | _ :: _, [], h => by unfold DVs at h; exact h.elim
theorem DVs.get : ∀ {xs : List V} {l : List Dat} {i : Nat} {d : Dat}, DVs H xs l → l[i]? = some d → ∃ v, xs[i]? = some v ∧ DV H v d
  | [], [], _, _, _, e => by simp at e
  | x :: xs, y :: l, 0, d, h, e => by unfold DVs at h; simp at e; subst e; exact ⟨x, rfl, h.1⟩
  | x :: xs, y :: l, i + 1, d, h, e => by unfold DVs at h; exact DVs.get (i := i) h.2 (by simpa using e)
  | [], _ :: _, _, _, h, _ => by unfold DVs at h; exact h.elim
  | _ :: _, [], _, _, h, _ => by unfold DVs at h; exact h.elim
theorem DVs.append : ∀ {xs ys : List V} {l m : List Dat}, DVs H xs l → DVs H ys m → DVs H (xs ++ ys) (l ++ m)
  | [], _, [], _, _, k => k
  | x :: xs, _, y :: l, _, h, k => by
    unfold DVs at h
    show DVs H (x :: (xs ++ _)) (y :: (l ++ _))
    unfold DVs
    exact ⟨h.1, DVs.append h.2 k⟩
  | [], _, _ :: _, _, h, _ => by unfold DVs at h; exact h.elim
  | _ :: _, _, [], _, h, _ => by unfold DVs at h; exact h.elim
theorem DVs.one {v : V} {d : Dat} (h : DV H v d) : DVs H [v] [d] := by
  unfold DVs
  exact ⟨h, by unfold DVs; trivial⟩
theorem DVs.nil : DVs H [] [] := by unfold DVs; trivial
theorem DVs.cons {v : V} {d : Dat} {xs : List V} {l : List Dat} (h : DV H v d) (k : DVs H xs l) : DVs H (v :: xs) (d :: l) := by unfold DVs; exact ⟨h, k⟩
mutual
theorem DV.mono (e : ∀ b o, H b = some o → H' b = some o) : ∀ {v : V} {d : Dat}, DV H v d → DV H' v d
  | v, .non, h => by unfold DV at h ⊢; exact h
  | v, .bl b, h => by unfold DV at h ⊢; exact h
  | v, .int i, h => by unfold DV at h ⊢; exact h
  | v, .str x, h => by unfold DV at h ⊢; exact h
  | v, .tup l, h => by
    unfold DV at h ⊢
    obtain ⟨a, xs, h1, h2, h3⟩ := h
    exact ⟨a, xs, h1, e _ _ h2, DVs.mono e h3⟩
  | v, .lst l, h => by
    unfold DV at h ⊢
    obtain ⟨a, xs, h1, h2, h3⟩ := h
    exact ⟨a, xs, h1, e _ _ h2, DVs.mono e h3⟩
theorem DVs.mono (e : ∀ b o, H b = some o → H' b = some o) : ∀ {xs : List V} {l : List Dat}, DVs H xs l → DVs H' xs l
  | [], [], _ => by unfold DVs; trivial
  | x :: xs, d :: ds, h => by
    unfold DVs at h ⊢
    exact ⟨DV.mono e h.1, DVs.mono e h.2⟩
  | [], _ :: _, h => by unfold DVs at h; exact h.elim
  | _ :: _, [], h => by unfold DVs at h; exact h.elim
end
mutual
theorem DV.inj : ∀ {v : V} {d d' : Dat}, DV H v d → DV H v d' → d = d'
  | v, .non, d', h, k => by
    unfold DV at h; subst h
    cases d' <;> unfold DV at k <;> first | rfl | (cases k; done) | (obtain ⟨_, _, k, _⟩ := k; cases k)
  | v, .bl b, d', h, k => by
    unfold DV at h; subst h
    cases d' <;> unfold DV at k <;> first | (cases k; rfl) | (cases k; done) | (obtain ⟨_, _, k, _⟩ := k; cases k)
  | v, .int b, d', h, k => by
    unfold DV at h; subst h
    cases d' <;> unfold DV at k <;> first | (cases k; rfl) | (cases k; done) | (obtain ⟨_, _, k, _⟩ := k; cases k)
  | v, .str b, d', h, k => by
    unfold DV at h; subst h
    cases d' <;> unfold DV at k <;> first | (cases k; rfl) | (cases k; done) | (obtain ⟨_, _, k, _⟩ := k; cases k)
  | v, .tup l, d', h, k => by
    unfold DV at h
    obtain ⟨a, xs, rfl, h2, h3⟩ := h
    cases d' with
    | tup m =>
      unfold DV at k
      obtain ⟨a', ys, e, k2, k3⟩ := k
      cases e
      rw [h2] at k2
      cases k2
      rw [DVs.inj h3 k3]
    | lst m =>
      unfold DV at k
      obtain ⟨a', ys, e, k2, k3⟩ := k
      cases e
      rw [h2] at k2
      cases k2
    | _ => unfold DV at k; cases k
  | v, .lst l, d', h, k => by
    unfold DV at h
    obtain ⟨a, xs, rfl, h2, h3⟩ := h
    cases d' with
    | lst m =>
      unfold DV at k
      obtain ⟨a', ys, e, k2, k3⟩ := k
      cases e
      rw [h2] at k2
      cases k2
      rw [DVs.inj h3 k3]
    | tup m =>
      unfold DV at k
      obtain ⟨a', ys, e, k2, k3⟩ := k
      cases e
      rw [h2] at k2
      cases k2
    | _ => unfold DV at k; cases k
theorem DVs.inj : ∀ {xs : List V} {l m : List Dat}, DVs H xs l → DVs H xs m → l = m
  | [], [], [], _, _ => rfl
  | x :: xs, d :: ds, d' :: ds', h, k => by
    unfold DVs at h k
    rw [DV.inj h.1 k.1, DVs.inj h.2 k.2]
  | [], _ :: _, _, h, _ => by unfold DVs at h; exact h.elim
  | _ :: _, [], _, h, _ => by unfold DVs at h; exact h.elim
  | [], _, _ :: _, _, h => by unfold DVs at h; exact h.elim
  | _ :: _, _, [], _, h => by unfold DVs at h; exact h.elim
end
end
mutual
theorem Dat.beq_refl : ∀ d : Dat, Dat.beq d d = true
  | .non => by simp [Dat.beq]
  | .bl _ => by simp [Dat.beq]
  | .int _ => by simp [Dat.beq]
  | .str _ => by simp [Dat.beq]
  | .tup l => by unfold Dat.beq; exact Dat.beqs_refl l
  | .lst l => by unfold Dat.beq; exact Dat.beqs_refl l
theorem Dat.beqs_refl : ∀ l : List Dat, Dat.beqs l l = true
  | [] => by simp [Dat.beqs]
  | x :: l => by unfold Dat.beqs; rw [Dat.beq_refl x, Dat.beqs_refl l]; rfl
end
theorem beqs_all : ∀ {l m : List Dat}, (List.range (min l.length m.length)).all (fun j => Dat.beq (l.getD j .non) (m.getD j .non)) = true ∧ l.length = m.length ↔ Dat.beqs l m = true
  | [], [] => by simp [Dat.beqs]
  | [], _ :: _ => by simp [Dat.beqs]
  | _ :: _, [] => by simp [Dat.beqs]
  | x :: l, y :: m => by
    have ih := @beqs_all l m
    unfold Dat.beqs
    rw [Bool.and_eq_true, ← ih]
    simp only [List.length_cons, List.all_eq_true, List.mem_range]
    constructor
    · rintro ⟨h1, h2⟩
      refine ⟨?_, fun j hj => ?_, by omega⟩
      · simpa using h1 0 (by omega)
      · simpa using h1 (j + 1) (by omega)
    · rintro ⟨h1, h2, h3⟩
      refine ⟨fun j hj => ?_, by omega⟩
      cases j with
      | zero => simpa using h1
      | succ j => simpa using h2 j (by omega)

theorem beq_tup (l m : List Dat) : Dat.beq (.tup l) (.tup m) = Dat.beqs l m := by rw [Dat.beq]
theorem beq_lst (l m : List Dat) : Dat.beq (.lst l) (.lst m) = Dat.beqs l m := by rw [Dat.beq]
theorem Dat.size_mem {l : List Dat} {d : Dat} (h : d ∈ l) : sizeOf d < sizeOf l := List.sizeOf_lt_of_mem h
section
variable {P : Program} {w : World} {H : Hp} {s : Shared}
theorem in1_units (A : Around) : A.in1.units = A.units + 1 := rfl
theorem eqAt_D (ok : HOk P w H s.heap) : ∀ (d1 d2 : Dat) (A : Around) (v v' : V) (u u' : Value), A.units + d1.dep + d2.dep < cLine → DV H v d1 → DV H v' d2 → RelV v u → RelV v' u' → SeqAt.EqAt A s u u' (Dat.beq d1 d2)
  | .tup l, .tup m, A, v, v', u, u', hu, h1, h2, r1, r2 => by
    have h1' := h1
    have h2' := h2
    unfold DV at h1 h2
    obtain ⟨a, xs, rfl, q1, e1⟩ := h1
    obtain ⟨b, ys, rfl, q2, e2⟩ := h2
    cases (show u = Value.ref a from r1)
    cases (show u' = Value.ref b from r2)
    by_cases hab : a = b
    · subst hab
      rw [DV.inj h1' h2', Dat.beq_refl]
      exact SeqAt.EqAt.same _
    · obtain ⟨_, its, rv, p1⟩ := ok a _ q1
      obtain ⟨_, its2, rv2, p2⟩ := ok b _ q2
      unfold Dat.dep at hu
      refine SeqAt.EqAt.of_refs hab ?_
      have key := SeqAt.RcAt.tuples (A := A) (s := s) (e := fun j => Dat.beq (l.getD j .non) (m.getD j .non)) p1 p2 (by omega) fun j hj1 hj2 => ?_
      · have e : ((List.range (min its.toArray.size its2.toArray.size)).all (fun j => Dat.beq (l.getD j .non) (m.getD j .non)) && its.toArray.size == its2.toArray.size) = Dat.beq (.tup l) (.tup m) := by
          have n1 : its.toArray.size = l.length := by rw [List.size_toArray, ← rv.length, e1.length]
          have n2 : its2.toArray.size = m.length := by rw [List.size_toArray, ← rv2.length, e2.length]
          rw [n1, n2, beq_tup]
          rw [Bool.eq_iff_iff, Bool.and_eq_true, beq_iff_eq]
          exact beqs_all
        rw [← e]
        exact key
      · have n1 : j < l.length := by rw [← e1.length, rv.length]; simpa using hj1
        have n2 : j < m.length := by rw [← e2.length, rv2.length]; simpa using hj2
        obtain ⟨x, gx, dx⟩ := e1.get (i := j) (d := l[j]) (by simp [n1])
        obtain ⟨y, gy, dy⟩ := e2.get (i := j) (d := m[j]) (by simp [n2])
        obtain ⟨ux, gux, rx⟩ := rv.get gx
        obtain ⟨uy, guy, ry⟩ := rv2.get gy
        have ex : its.toArray[j] = ux := by
          have : its.toArray[j]? = some ux := by simpa using gux
          exact Option.some.inj ((Array.getElem?_eq_getElem hj1).symm.trans this)
        have ey : its2.toArray[j] = uy := by
          have : its2.toArray[j]? = some uy := by simpa using guy
          exact Option.some.inj ((Array.getElem?_eq_getElem hj2).symm.trans this)
        have d1 := dep_mem (List.getElem_mem n1)
        have d2 := dep_mem (List.getElem_mem n2)
        have gl : l.getD j .non = l[j] := by simp [List.getD, n1]
        have gm : m.getD j .non = m[j] := by simp [List.getD, n2]
        rw [ex, ey]
        show SeqAt.EqAt A.in1 s ux uy (Dat.beq (l.getD j .non) (m.getD j .non))
        rw [gl, gm]
        have := Dat.size_mem (List.getElem_mem n1)
        exact eqAt_D ok l[j] m[j] A.in1 x y ux uy (by rw [in1_units]; omega) dx dy rx ry
  | .lst l, .lst m, A, v, v', u, u', hu, h1, h2, r1, r2 => by
    have h1' := h1
    have h2' := h2
    unfold DV at h1 h2
    obtain ⟨a, xs, rfl, q1, e1⟩ := h1
    obtain ⟨b, ys, rfl, q2, e2⟩ := h2
    cases (show u = Value.ref a from r1)
    cases (show u' = Value.ref b from r2)
    by_cases hab : a = b
    · subst hab
      rw [DV.inj h1' h2', Dat.beq_refl]
      exact SeqAt.EqAt.same _
    · obtain ⟨_, its, n, rv, p1⟩ := ok a _ q1
      obtain ⟨_, its2, n', rv2, p2⟩ := ok b _ q2
      have L1 : s.heap.IsList a its.toArray := ⟨_, p1, rfl, n, rfl⟩
      have L2 : s.heap.IsList b its2.toArray := ⟨_, p2, rfl, n', rfl⟩
      unfold Dat.dep at hu
      refine SeqAt.EqAt.of_refs hab ?_
      have n1 : its.toArray.size = l.length := by rw [List.size_toArray, ← rv.length, e1.length]
      have n2 : its2.toArray.size = m.length := by rw [List.size_toArray, ← rv2.length, e2.length]
      by_cases hlen : l.length = m.length
      · have key := SeqAt.RcAt.lists (A := A) (s := s) (e := fun j => Dat.beq (l.getD j .non) (m.getD j .non)) L1 L2 (by rw [n1, n2, hlen]) (by omega) fun j hj1 hj2 => ?_
        · have e : ((List.range its.toArray.size).all (fun j => Dat.beq (l.getD j .non) (m.getD j .non))) = Dat.beq (.lst l) (.lst m) := by
            rw [n1, beq_lst]
            have := @beqs_all l m
            rw [← hlen, Nat.min_self] at this
            rw [Bool.eq_iff_iff, ← this]
            exact ⟨fun h => ⟨h, rfl⟩, fun h => h.1⟩
          rw [← e]
          exact key
        · have n1 : j < l.length := by rw [← e1.length, rv.length]; simpa using hj1
          have n2 : j < m.length := by rw [← e2.length, rv2.length]; simpa using hj2
          obtain ⟨x, gx, dx⟩ := e1.get (i := j) (d := l[j]) (by simp [n1])
          obtain ⟨y, gy, dy⟩ := e2.get (i := j) (d := m[j]) (by simp [n2])
          obtain ⟨ux, gux, rx⟩ := rv.get gx
          obtain ⟨uy, guy, ry⟩ := rv2.get gy
          have ex : its.toArray[j] = ux := by
            have : its.toArray[j]? = some ux := by simpa using gux
            exact Option.some.inj ((Array.getElem?_eq_getElem hj1).symm.trans this)
          have ey : its2.toArray[j] = uy := by
            have : its2.toArray[j]? = some uy := by simpa using guy
            exact Option.some.inj ((Array.getElem?_eq_getElem hj2).symm.trans this)
          have d1 := dep_mem (List.getElem_mem n1)
          have d2 := dep_mem (List.getElem_mem n2)
          have gl : l.getD j .non = l[j] := by simp [List.getD, n1]
          have gm : m.getD j .non = m[j] := by simp [List.getD, n2]
          rw [ex, ey]
          show SeqAt.EqAt A.in1 s ux uy (Dat.beq (l.getD j .non) (m.getD j .non))
          rw [gl, gm]
          have := Dat.size_mem (List.getElem_mem n1)
          exact eqAt_D ok l[j] m[j] A.in1 x y ux uy (by rw [in1_units]; omega) dx dy rx ry
      · have key := SeqAt.RcAt.lists_lengths (A := A) (s := s) L1 L2 (by rw [n1, n2]; simpa using hlen) (by omega)
        have e : Dat.beq (.lst l) (.lst m) = false := by
          rw [beq_lst]
          cases hb : Dat.beqs l m with
          | false => rfl
          | true => exact absurd (beqs_all.mpr hb).2 hlen
        rw [e]
        exact key
  | .non, .non, A, v, v', u, u', hu, h1, h2, r1, r2 => by
    unfold DV at h1; subst h1; cases r1
    unfold DV at h2; subst h2; cases r2
    rw [show Dat.beq (.non) (.non) = true from by rw [Dat.beq]]
    exact SeqAt.EqAt.same _
  | .non, .bl p2, A, v, v', u, u', hu, h1, h2, r1, r2 => by
    unfold DV at h1; subst h1; cases r1
    unfold DV at h2; subst h2; cases r2
    rw [show Dat.beq (.non) (.bl p2) = false from by simp [Dat.beq]]
    exact SeqAt.EqAt.none_bool p2
  | .non, .int p2, A, v, v', u, u', hu, h1, h2, r1, r2 => by
    unfold DV at h1; subst h1; cases r1
    unfold DV at h2; subst h2; obtain ⟨t2, rfl⟩ := r2
    rw [show Dat.beq (.non) (.int p2) = false from by simp [Dat.beq]]
    exact SeqAt.EqAt.none_int p2 t2
  | .non, .str p2, A, v, v', u, u', hu, h1, h2, r1, r2 => by
    unfold DV at h1; subst h1; cases r1
    unfold DV at h2; subst h2; obtain ⟨t2, rfl⟩ := r2
    rw [show Dat.beq (.non) (.str p2) = false from by simp [Dat.beq]]
    exact SeqAt.EqAt.none_str p2 t2
  | .non, .tup p2, A, v, v', u, u', hu, h1, h2, r1, r2 => by
    unfold DV at h1; subst h1; cases r1
    unfold DV at h2; obtain ⟨a2, xs2, rfl, q2, e2⟩ := h2; cases r2; obtain ⟨_, its2, _, P2⟩ := ok a2 _ q2
    rw [show Dat.beq (.non) (.tup p2) = false from by simp [Dat.beq]]
    exact SeqAt.EqAt.none_tuple P2 (by omega)
  | .non, .lst p2, A, v, v', u, u', hu, h1, h2, r1, r2 => by
    unfold DV at h1; subst h1; cases r1
    unfold DV at h2; obtain ⟨a2, xs2, rfl, q2, e2⟩ := h2; cases r2; obtain ⟨_, its2, nn2, _, P2⟩ := ok a2 _ q2; have P2 : s.heap.IsList a2 its2.toArray := ⟨_, P2, rfl, nn2, rfl⟩
    rw [show Dat.beq (.non) (.lst p2) = false from by simp [Dat.beq]]
    exact SeqAt.EqAt.none_list P2 (by omega)
  | .bl p1, .non, A, v, v', u, u', hu, h1, h2, r1, r2 => by
    unfold DV at h1; subst h1; cases r1
    unfold DV at h2; subst h2; cases r2
    rw [show Dat.beq (.bl p1) (.non) = false from by simp [Dat.beq]]
    exact SeqAt.EqAt.bool_none p1
  | .bl p1, .bl p2, A, v, v', u, u', hu, h1, h2, r1, r2 => by
    unfold DV at h1; subst h1; cases r1
    unfold DV at h2; subst h2; cases r2
    rw [show Dat.beq (.bl p1) (.bl p2) = (p1 == p2) from by rw [Dat.beq]]
    exact SeqAt.EqAt.bool_bool p1 p2
  | .bl p1, .int p2, A, v, v', u, u', hu, h1, h2, r1, r2 => by
    unfold DV at h1; subst h1; cases r1
    unfold DV at h2; subst h2; obtain ⟨t2, rfl⟩ := r2
    rw [show Dat.beq (.bl p1) (.int p2) = ((if p1 then 1 else 0) == p2) from by rw [Dat.beq]]
    exact SeqAt.EqAt.bool_int p1 p2 t2
  | .bl p1, .str p2, A, v, v', u, u', hu, h1, h2, r1, r2 => by
    unfold DV at h1; subst h1; cases r1
    unfold DV at h2; subst h2; obtain ⟨t2, rfl⟩ := r2
    rw [show Dat.beq (.bl p1) (.str p2) = false from by simp [Dat.beq]]
    exact SeqAt.EqAt.bool_str p1 p2 t2
  | .bl p1, .tup p2, A, v, v', u, u', hu, h1, h2, r1, r2 => by
    unfold DV at h1; subst h1; cases r1
    unfold DV at h2; obtain ⟨a2, xs2, rfl, q2, e2⟩ := h2; cases r2; obtain ⟨_, its2, _, P2⟩ := ok a2 _ q2
    rw [show Dat.beq (.bl p1) (.tup p2) = false from by simp [Dat.beq]]
    exact SeqAt.EqAt.bool_tuple p1 P2 (by omega)
  | .bl p1, .lst p2, A, v, v', u, u', hu, h1, h2, r1, r2 => by
    unfold DV at h1; subst h1; cases r1
    unfold DV at h2; obtain ⟨a2, xs2, rfl, q2, e2⟩ := h2; cases r2; obtain ⟨_, its2, nn2, _, P2⟩ := ok a2 _ q2; have P2 : s.heap.IsList a2 its2.toArray := ⟨_, P2, rfl, nn2, rfl⟩
    rw [show Dat.beq (.bl p1) (.lst p2) = false from by simp [Dat.beq]]
    exact SeqAt.EqAt.bool_list p1 P2 (by omega)
  | .int p1, .non, A, v, v', u, u', hu, h1, h2, r1, r2 => by
    unfold DV at h1; subst h1; obtain ⟨t1, rfl⟩ := r1
    unfold DV at h2; subst h2; cases r2
    rw [show Dat.beq (.int p1) (.non) = false from by simp [Dat.beq]]
    exact SeqAt.EqAt.int_none p1 t1
  | .int p1, .bl p2, A, v, v', u, u', hu, h1, h2, r1, r2 => by
    unfold DV at h1; subst h1; obtain ⟨t1, rfl⟩ := r1
    unfold DV at h2; subst h2; cases r2
    rw [show Dat.beq (.int p1) (.bl p2) = (p1 == (if p2 then 1 else 0)) from by rw [Dat.beq]]
    exact SeqAt.EqAt.int_bool p1 t1 p2
  | .int p1, .int p2, A, v, v', u, u', hu, h1, h2, r1, r2 => by
    unfold DV at h1; subst h1; obtain ⟨t1, rfl⟩ := r1
    unfold DV at h2; subst h2; obtain ⟨t2, rfl⟩ := r2
    rw [show Dat.beq (.int p1) (.int p2) = (p1 == p2) from by rw [Dat.beq]]
    exact SeqAt.EqAt.int_int p1 t1 p2 t2
  | .int p1, .str p2, A, v, v', u, u', hu, h1, h2, r1, r2 => by
    unfold DV at h1; subst h1; obtain ⟨t1, rfl⟩ := r1
    unfold DV at h2; subst h2; obtain ⟨t2, rfl⟩ := r2
    rw [show Dat.beq (.int p1) (.str p2) = false from by simp [Dat.beq]]
    exact SeqAt.EqAt.int_str p1 t1 p2 t2
  | .int p1, .tup p2, A, v, v', u, u', hu, h1, h2, r1, r2 => by
    unfold DV at h1; subst h1; obtain ⟨t1, rfl⟩ := r1
    unfold DV at h2; obtain ⟨a2, xs2, rfl, q2, e2⟩ := h2; cases r2; obtain ⟨_, its2, _, P2⟩ := ok a2 _ q2
    rw [show Dat.beq (.int p1) (.tup p2) = false from by simp [Dat.beq]]
    exact SeqAt.EqAt.int_tuple p1 t1 P2 (by omega)
  | .int p1, .lst p2, A, v, v', u, u', hu, h1, h2, r1, r2 => by
    unfold DV at h1; subst h1; obtain ⟨t1, rfl⟩ := r1
    unfold DV at h2; obtain ⟨a2, xs2, rfl, q2, e2⟩ := h2; cases r2; obtain ⟨_, its2, nn2, _, P2⟩ := ok a2 _ q2; have P2 : s.heap.IsList a2 its2.toArray := ⟨_, P2, rfl, nn2, rfl⟩
    rw [show Dat.beq (.int p1) (.lst p2) = false from by simp [Dat.beq]]
    exact SeqAt.EqAt.int_list p1 t1 P2 (by omega)
  | .str p1, .non, A, v, v', u, u', hu, h1, h2, r1, r2 => by
    unfold DV at h1; subst h1; obtain ⟨t1, rfl⟩ := r1
    unfold DV at h2; subst h2; cases r2
    rw [show Dat.beq (.str p1) (.non) = false from by simp [Dat.beq]]
    exact SeqAt.EqAt.str_none p1 t1
  | .str p1, .bl p2, A, v, v', u, u', hu, h1, h2, r1, r2 => by
    unfold DV at h1; subst h1; obtain ⟨t1, rfl⟩ := r1
    unfold DV at h2; subst h2; cases r2
    rw [show Dat.beq (.str p1) (.bl p2) = false from by simp [Dat.beq]]
    exact SeqAt.EqAt.str_bool p1 t1 p2
  | .str p1, .int p2, A, v, v', u, u', hu, h1, h2, r1, r2 => by
    unfold DV at h1; subst h1; obtain ⟨t1, rfl⟩ := r1
    unfold DV at h2; subst h2; obtain ⟨t2, rfl⟩ := r2
    rw [show Dat.beq (.str p1) (.int p2) = false from by simp [Dat.beq]]
    exact SeqAt.EqAt.str_int p1 t1 p2 t2
  | .str p1, .str p2, A, v, v', u, u', hu, h1, h2, r1, r2 => by
    unfold DV at h1; subst h1; obtain ⟨t1, rfl⟩ := r1
    unfold DV at h2; subst h2; obtain ⟨t2, rfl⟩ := r2
    rw [show Dat.beq (.str p1) (.str p2) = (p1 == p2) from by rw [Dat.beq]]
    exact SeqAt.EqAt.str_str p1 t1 p2 t2
  | .str p1, .tup p2, A, v, v', u, u', hu, h1, h2, r1, r2 => by
    unfold DV at h1; subst h1; obtain ⟨t1, rfl⟩ := r1
    unfold DV at h2; obtain ⟨a2, xs2, rfl, q2, e2⟩ := h2; cases r2; obtain ⟨_, its2, _, P2⟩ := ok a2 _ q2
    rw [show Dat.beq (.str p1) (.tup p2) = false from by simp [Dat.beq]]
    exact SeqAt.EqAt.str_tuple p1 t1 P2 (by omega)
  | .str p1, .lst p2, A, v, v', u, u', hu, h1, h2, r1, r2 => by
    unfold DV at h1; subst h1; obtain ⟨t1, rfl⟩ := r1
    unfold DV at h2; obtain ⟨a2, xs2, rfl, q2, e2⟩ := h2; cases r2; obtain ⟨_, its2, nn2, _, P2⟩ := ok a2 _ q2; have P2 : s.heap.IsList a2 its2.toArray := ⟨_, P2, rfl, nn2, rfl⟩
    rw [show Dat.beq (.str p1) (.lst p2) = false from by simp [Dat.beq]]
    exact SeqAt.EqAt.str_list p1 t1 P2 (by omega)
  | .tup p1, .non, A, v, v', u, u', hu, h1, h2, r1, r2 => by
    unfold DV at h1; obtain ⟨a1, xs1, rfl, q1, e1⟩ := h1; cases r1; obtain ⟨_, its1, _, P1⟩ := ok a1 _ q1
    unfold DV at h2; subst h2; cases r2
    rw [show Dat.beq (.tup p1) (.non) = false from by simp [Dat.beq]]
    exact SeqAt.EqAt.tuple_none P1 (by omega)
  | .tup p1, .bl p2, A, v, v', u, u', hu, h1, h2, r1, r2 => by
    unfold DV at h1; obtain ⟨a1, xs1, rfl, q1, e1⟩ := h1; cases r1; obtain ⟨_, its1, _, P1⟩ := ok a1 _ q1
    unfold DV at h2; subst h2; cases r2
    rw [show Dat.beq (.tup p1) (.bl p2) = false from by simp [Dat.beq]]
    exact SeqAt.EqAt.tuple_bool p2 P1 (by omega)
  | .tup p1, .int p2, A, v, v', u, u', hu, h1, h2, r1, r2 => by
    unfold DV at h1; obtain ⟨a1, xs1, rfl, q1, e1⟩ := h1; cases r1; obtain ⟨_, its1, _, P1⟩ := ok a1 _ q1
    unfold DV at h2; subst h2; obtain ⟨t2, rfl⟩ := r2
    rw [show Dat.beq (.tup p1) (.int p2) = false from by simp [Dat.beq]]
    exact SeqAt.EqAt.tuple_int p2 t2 P1 (by omega)
  | .tup p1, .str p2, A, v, v', u, u', hu, h1, h2, r1, r2 => by
    unfold DV at h1; obtain ⟨a1, xs1, rfl, q1, e1⟩ := h1; cases r1; obtain ⟨_, its1, _, P1⟩ := ok a1 _ q1
    unfold DV at h2; subst h2; obtain ⟨t2, rfl⟩ := r2
    rw [show Dat.beq (.tup p1) (.str p2) = false from by simp [Dat.beq]]
    exact SeqAt.EqAt.tuple_str p2 t2 P1 (by omega)
  | .tup p1, .lst p2, A, v, v', u, u', hu, h1, h2, r1, r2 => by
    unfold DV at h1; obtain ⟨a1, xs1, rfl, q1, e1⟩ := h1; cases r1; obtain ⟨_, its1, _, P1⟩ := ok a1 _ q1
    unfold DV at h2; obtain ⟨a2, xs2, rfl, q2, e2⟩ := h2; cases r2; obtain ⟨_, its2, nn2, _, P2⟩ := ok a2 _ q2; have P2 : s.heap.IsList a2 its2.toArray := ⟨_, P2, rfl, nn2, rfl⟩
    rw [show Dat.beq (.tup p1) (.lst p2) = false from by simp [Dat.beq]]
    exact SeqAt.EqAt.tuple_list P1 P2 (by omega)
  | .lst p1, .non, A, v, v', u, u', hu, h1, h2, r1, r2 => by
    unfold DV at h1; obtain ⟨a1, xs1, rfl, q1, e1⟩ := h1; cases r1; obtain ⟨_, its1, nn1, _, P1⟩ := ok a1 _ q1; have P1 : s.heap.IsList a1 its1.toArray := ⟨_, P1, rfl, nn1, rfl⟩
    unfold DV at h2; subst h2; cases r2
    rw [show Dat.beq (.lst p1) (.non) = false from by simp [Dat.beq]]
    exact SeqAt.EqAt.list_none P1 (by omega)
  | .lst p1, .bl p2, A, v, v', u, u', hu, h1, h2, r1, r2 => by
    unfold DV at h1; obtain ⟨a1, xs1, rfl, q1, e1⟩ := h1; cases r1; obtain ⟨_, its1, nn1, _, P1⟩ := ok a1 _ q1; have P1 : s.heap.IsList a1 its1.toArray := ⟨_, P1, rfl, nn1, rfl⟩
    unfold DV at h2; subst h2; cases r2
    rw [show Dat.beq (.lst p1) (.bl p2) = false from by simp [Dat.beq]]
    exact SeqAt.EqAt.list_bool p2 P1 (by omega)
  | .lst p1, .int p2, A, v, v', u, u', hu, h1, h2, r1, r2 => by
    unfold DV at h1; obtain ⟨a1, xs1, rfl, q1, e1⟩ := h1; cases r1; obtain ⟨_, its1, nn1, _, P1⟩ := ok a1 _ q1; have P1 : s.heap.IsList a1 its1.toArray := ⟨_, P1, rfl, nn1, rfl⟩
    unfold DV at h2; subst h2; obtain ⟨t2, rfl⟩ := r2
    rw [show Dat.beq (.lst p1) (.int p2) = false from by simp [Dat.beq]]
    exact SeqAt.EqAt.list_int p2 t2 P1 (by omega)
  | .lst p1, .str p2, A, v, v', u, u', hu, h1, h2, r1, r2 => by
    unfold DV at h1; obtain ⟨a1, xs1, rfl, q1, e1⟩ := h1; cases r1; obtain ⟨_, its1, nn1, _, P1⟩ := ok a1 _ q1; have P1 : s.heap.IsList a1 its1.toArray := ⟨_, P1, rfl, nn1, rfl⟩
    unfold DV at h2; subst h2; obtain ⟨t2, rfl⟩ := r2
    rw [show Dat.beq (.lst p1) (.str p2) = false from by simp [Dat.beq]]
    exact SeqAt.EqAt.list_str p2 t2 P1 (by omega)
  | .lst p1, .tup p2, A, v, v', u, u', hu, h1, h2, r1, r2 => by
    unfold DV at h1; obtain ⟨a1, xs1, rfl, q1, e1⟩ := h1; cases r1; obtain ⟨_, its1, nn1, _, P1⟩ := ok a1 _ q1; have P1 : s.heap.IsList a1 its1.toArray := ⟨_, P1, rfl, nn1, rfl⟩
    unfold DV at h2; obtain ⟨a2, xs2, rfl, q2, e2⟩ := h2; cases r2; obtain ⟨_, its2, _, P2⟩ := ok a2 _ q2
    rw [show Dat.beq (.lst p1) (.tup p2) = false from by simp [Dat.beq]]
    exact SeqAt.EqAt.list_tuple P1 P2 (by omega)
termination_by d1 => sizeOf d1
decreasing_by
  all_goals simp_wf
  all_goals omega
end
/-! == and != of data -/
section
variable {P : Program} {w : World} {H : Hp} {s : Shared}
/-- the items of two sequences, one by one -/
theorem items_D (ok : HOk P w H s.heap) {A : Around} {xs ys : List V} {l m : List Dat} {its its2 : List Value} (hu : A.units + Dat.deps l + Dat.deps m < cLine) (e1 : DVs H xs l) (e2 : DVs H ys m) (rv : Vals xs its) (rv2 : Vals ys its2) (j : Nat) (hj1 : j < its.toArray.size) (hj2 : j < its2.toArray.size) :
    SeqAt.EqAt A s its.toArray[j] its2.toArray[j] (Dat.beq (l.getD j .non) (m.getD j .non)) := by
  have n1 : j < l.length := by rw [← e1.length, rv.length]; simpa using hj1
  have n2 : j < m.length := by rw [← e2.length, rv2.length]; simpa using hj2
  obtain ⟨x, gx, dx⟩ := e1.get (i := j) (d := l[j]) (by simp [n1])
  obtain ⟨y, gy, dy⟩ := e2.get (i := j) (d := m[j]) (by simp [n2])
  obtain ⟨ux, gux, rx⟩ := rv.get gx
  obtain ⟨uy, guy, ry⟩ := rv2.get gy
  have ex : its.toArray[j] = ux := by
    have : its.toArray[j]? = some ux := by simpa using gux
    exact Option.some.inj ((Array.getElem?_eq_getElem hj1).symm.trans this)
  have ey : its2.toArray[j] = uy := by
    have : its2.toArray[j]? = some uy := by simpa using guy
    exact Option.some.inj ((Array.getElem?_eq_getElem hj2).symm.trans this)
  have d1 := dep_mem (List.getElem_mem n1)
  have d2 := dep_mem (List.getElem_mem n2)
  have gl : l.getD j .non = l[j] := by simp [List.getD, n1]
  have gm : m.getD j .non = m[j] := by simp [List.getD, n2]
  rw [ex, ey, gl, gm]
  exact eqAt_D ok l[j] m[j] A x y ux uy (by omega) dx dy rx ry
end
section
variable {X : Cx}
/-- two lists, or two tuples, of data -/
def rEqD (f : Bool → Bool) (X : Cx) : R2 := fun x y H Q => ∃ l m, ((DV H x (.lst l) ∧ DV H y (.lst m)) ∨ (DV H x (.tup l) ∧ DV H y (.tup m))) ∧ X.A.units + 1 + Dat.deps l + Dat.deps m < cLine ∧ Q (.bl (f (Dat.beqs l m))) H
theorem all_beqs {l m : List Dat} (h : l.length = m.length) : ((List.range l.length).all fun j => Dat.beq (l.getD j .non) (m.getD j .non)) = Dat.beqs l m := by
  have := @beqs_all l m
  rw [← h, Nat.min_self] at this
  rw [Bool.eq_iff_iff, ← this]
  exact ⟨fun h => ⟨h, rfl⟩, fun h => h.1⟩
theorem all_beqs2 {l m : List Dat} : ((List.range (min l.length m.length)).all (fun j => Dat.beq (l.getD j .non) (m.getD j .non)) && l.length == m.length) = Dat.beqs l m := by
  rw [Bool.eq_iff_iff, Bool.and_eq_true, beq_iff_eq]
  exact beqs_all
theorem beqs_len {l m : List Dat} (h : ¬ l.length = m.length) : Dat.beqs l m = false := by
  cases hb : Dat.beqs l m with
  | false => rfl
  | true => exact absurd (beqs_all.mpr hb).2 h
theorem of_rcneL {prog : Program} {w : World} {A : Around} {s : Shared} {E : Value → Shared → Prop} {Q : Value → Shared → Prop} {a b : Value} {k : Bool} (h : SeqAt.RcNeAt A s a b k) (hq : Q (.bool k) s) : wpAny (model prog w) A (compareOp .NotEq a b) Q E s := h prog w E Q hq
theorem op_neD : OpR X (compareOp .NotEq) (rEqD (fun b => !b) X) := by
  intro pins s σ H x y v u Q I rx ry h
  obtain ⟨l, m, h, hu, q⟩ := h
  have ok := I.hok
  rcases h with ⟨h1, h2⟩ | ⟨h1, h2⟩
  all_goals unfold DV at h1 h2
  all_goals obtain ⟨a, xs, rfl, q1, e1⟩ := h1
  all_goals obtain ⟨b, ys, rfl, q2, e2⟩ := h2
  all_goals cases (show v = Value.ref a from rx)
  all_goals cases (show u = Value.ref b from ry)
  · obtain ⟨_, its, n, rv, p1⟩ := ok a _ q1
    obtain ⟨_, its2, n', rv2, p2⟩ := ok b _ q2
    have L1 : s.heap.IsList a its.toArray := ⟨_, p1, rfl, n, rfl⟩
    have L2 : s.heap.IsList b its2.toArray := ⟨_, p2, rfl, n', rfl⟩
    have n1 : its.toArray.size = l.length := by rw [List.size_toArray, ← rv.length, e1.length]
    have n2 : its2.toArray.size = m.length := by rw [List.size_toArray, ← rv2.length, e2.length]
    by_cases hlen : l.length = m.length
    · refine of_rcneL (SeqAt.RcNeAt.lists (e := fun j => Dat.beq (l.getD j .non) (m.getD j .non)) L1 L2 (by rw [n1, n2, hlen]) (by omega) (items_D ok (by rw [in1_units]; omega) e1 e2 rv rv2)) ⟨.bl _, H, I, rfl, ?_⟩
      rw [n1, all_beqs hlen]
      exact q
    · refine of_rcneL (SeqAt.RcNeAt.lists_lengths L1 L2 (by rw [n1, n2]; simpa using hlen) (by omega)) ⟨.bl _, H, I, rfl, ?_⟩
      rw [beqs_len hlen] at q
      exact q
  · obtain ⟨_, its, rv, p1⟩ := ok a _ q1
    obtain ⟨_, its2, rv2, p2⟩ := ok b _ q2
    have n1 : its.toArray.size = l.length := by rw [List.size_toArray, ← rv.length, e1.length]
    have n2 : its2.toArray.size = m.length := by rw [List.size_toArray, ← rv2.length, e2.length]
    refine of_rcneL (SeqAt.RcNeAt.tuples (e := fun j => Dat.beq (l.getD j .non) (m.getD j .non)) p1 p2 (by omega) (items_D ok (by rw [in1_units]; omega) e1 e2 rv rv2)) ⟨.bl _, H, I, rfl, ?_⟩
    rw [n1, n2, all_beqs2]
    exact q
end
end L2
namespace L2
open PySem PySem.Spec PyProof.Rows
section
variable {X : Cx} {e o : Expr} {es : List Expr} {te ta : TE} {t : TA} {CX : CXT} {k : Nat} {x m : Str} {C : Addr} {ps : List Str} {sp : Sp} {E : XK} {p pos apos : Pos} {R : Value → St → Hp → Prop}
/-- an argument, and those behind it -/
theorem pac (ha : PE X e te) (hr : PA X es t) (hs : ∀ (es : List Expr) (env : Env), starEach (e :: es) env = (false, eval e env) :: starEach es env := by exact fun _ _ => rfl) : PA X (e :: es) (tCons te t) := pa_cons ha hr (hs es X.env)
theorem pe_ty {T : String} (hg : Gl X x) (hm : X.mg x = none) (hv : bootBuiltins x = some (.type T)) (hn : x ≠ "__name__" := by decide) (hd : (x == ("__debug__" : Str)) = false := by decide) : PE X (.Name x pos) (tC (.ty T)) := pe_bltn hg hm hv rfl hn hd

/-- a def of the text, by its name and its promise -/
structure FnBy (P : Program) (w : World) (K : PySem.W.Frag) (mg : Str → Option Value) (base : Heap) (CX : CXT) (k : Nat) (x : Str) (ps : List Str) (sp : Sp) : Prop where
  ex : ∃ f fd, FnOk P w K mg base CX k f fd ps sp ∧ mg x = some (.ref f) ∧ PySem.W.keepIn K (.ref f) = true ∧ Binds K fd ps []
/-- a method -/
structure MethBy (P : Program) (w : World) (K : PySem.W.Frag) (mg : Str → Option Value) (base : Heap) (CX : CXT) (k : Nat) (C : Addr) (m : Str) (ps : List Str) (sp : Sp) : Prop where
  cl : Cls K C
  ex : ∃ f fd, FnOk P w K mg base CX k f fd ps sp ∧ Meth K C m f ∧ Binds K fd ps []
/-- a class, by its __init__ -/
structure MakeBy (P : Program) (w : World) (K : PySem.W.Frag) (mg : Str → Option Value) (base : Heap) (CX : CXT) (k : Nat) (x : Str) (C : Addr) (ps : List Str) (sp : Sp) : Prop where
  ex : ∃ f fd, Mk K C f ∧ FnOk P w K mg base CX k f fd ps sp ∧ mg x = some (.ref C) ∧ Binds K fd ps []
theorem pe_fn (c : FnBy X.prog X.w X.K X.mg X.base CX k x ps sp) (hr : Room k X.A) (hg : Gl X x) (hx : Passes CX X E) (ha : PA X (e :: es) t) (hdb : (x == ("__debug__" : Str)) = false := by decide)
    (he : ∀ (es : List Expr) (env : Env), starEach (e :: es) env = (false, eval e env) :: starEach es env := by exact fun _ _ => rfl) (hpl : (backTo pos (starEach es X.env)).any (·.1) = false := by rfl) : PE X (.Call (.Name x p) (e :: es) [] pos) (tCall sp [] E t) := by
  obtain ⟨f, fd, F, hm, hk, hb⟩ := c.ex
  exact pe_call F hr hg hm hk hb .nil hx ha hdb (he es X.env) hpl
end
/-! readings -/
section
variable {K : PySem.W.Frag} {H : Hp} {p : Addr} {xs : List V} {i : Int} {v : V} {Q : VK}
theorem rix_l (h : H p = some (.lst xs)) (hi : atI xs i = some v) (q : Q v H) : rIx K (.ref p) (.int i) H Q := .inl ⟨p, xs, i, v, rfl, rfl, .inl (.inl h), hi, q⟩
theorem rix_t (h : H p = some (.tup xs)) (hi : atI xs i = some v) (q : Q v H) : rIx K (.ref p) (.int i) H Q := .inr (.inl ⟨p, xs, i, v, rfl, rfl, .inl (.inl h), hi, q⟩)
theorem rix_s (h : SqL K H p xs) (hi : atI xs i = some v) (q : Q v H) : rIx K (.ref p) (.int i) H Q := .inl ⟨p, xs, i, v, rfl, rfl, h, hi, q⟩
end
theorem sizeLine_ge : 1000 ≤ sizeLine := by decide
theorem lt_size {n : Nat} (h : n < 1000) : n < sizeLine := Nat.lt_of_lt_of_le h sizeLine_ge
theorem Same.new {H H' : Hp} {p : Addr} {o : HO} (s : Same H H') (h : H' p = none) : Same H (upd H' p o) := fun b u e => by
  rw [upd_ne (ne_of_none (s b u e) h)]
  exact s b u e
def Dat.isInt : Dat → Bool | .int _ => true | _ => false
def dty : Dat → Value
  | .non => .type "NoneType" | .bl _ => .type "bool" | .int _ => .type "int" | .str _ => .type "str" | .tup _ => .type "tuple" | .lst _ => .type "list"
theorem DV.ty {K : PySem.W.Frag} {H : Hp} {v : V} {d : Dat} (h : DV H v d) : TyOf K H v (dty d) := by
  cases d <;> unfold DV at h
  · subst h; exact .non
  · subst h; exact .bl _
  · subst h; exact .int _
  · subst h; exact .str _
  · obtain ⟨a, xs, rfl, q, _⟩ := h; exact .tup q
  · obtain ⟨a, xs, rfl, q, _⟩ := h; exact .lst q
end L2
namespace L2
open PySem PySem.Spec PyProof.Rows
/-! a cut between statements: what holds there -/
def tCut (M : St → Hp → Prop) (t u : TS) : TS := fun D σ H => t { D with nx := M } σ H ∧ ∀ σ' H', M σ' H' → u D σ' H'
theorem pss_cut {X : Cx} {st : Stmt} {rest : List Stmt} {t u : TS} (M : St → Hp → Prop) (h1 : PS X st t) (h2 : PSs X rest u) : PSs X (st :: rest) (tCut M t u) := by
  have h3 := pss_cons h1 h2
  intro pins s σ H D I h
  obtain ⟨ht, hu⟩ := h
  have key : PSs X (st :: rest) (fun D' σ H => t { D' with nx := M } σ H ∧ ∀ σ' H', M σ' H' → u D' σ' H') := by
    intro pins s σ H D I h
    refine wpAny_execs_cons (thn (h1 pins s σ H _ I h.1) fun f s1 q => ?_)
    cases f with
    | next => obtain ⟨σ', H', I', m⟩ := q; exact h2 pins s1 σ' H' D I' (h.2 σ' H' m)
    | brk => exact q
    | cont => exact q
    | ret v => exact q
  exact key pins s σ H D I ⟨ht, hu⟩
/-! data without lists stays when a list is changed -/
mutual
def Dat.noLst : Dat → Bool
  | .tup l => Dat.noLsts l
  | .lst _ => false
  | _ => true
def Dat.noLsts : List Dat → Bool
  | [] => true
  | d :: l => d.noLst && Dat.noLsts l
end
theorem noLsts_of {l : List Dat} (h : ∀ d ∈ l, d.noLst = true) : Dat.noLsts l = true := by
  induction l with
  | nil => rw [Dat.noLsts]
  | cons d r ih =>
    rw [Dat.noLsts, h d List.mem_cons_self, ih fun x hx => h x (List.mem_cons_of_mem _ hx)]
    rfl
section
variable {H : Hp} {l : Addr} {ys : List V} {o : HO}
mutual
theorem DV.keepL (hl : H l = some (.lst ys)) : ∀ {v : V} {d : Dat}, d.noLst = true → DV H v d → DV (upd H l o) v d
  | v, .non, _, h => by unfold DV at h ⊢; exact h
  | v, .bl b, _, h => by unfold DV at h ⊢; exact h
  | v, .int i, _, h => by unfold DV at h ⊢; exact h
  | v, .str x, _, h => by unfold DV at h ⊢; exact h
  | v, .tup m, hn, h => by
    rw [Dat.noLst] at hn
    unfold DV at h ⊢
    obtain ⟨a, xs, h1, h2, h3⟩ := h
    refine ⟨a, xs, h1, ?_, DVs.keepL hl hn h3⟩
    rw [upd_ne (ne_of h2 hl (by intro z; cases z))]
    exact h2
  | v, .lst m, hn, _ => by rw [Dat.noLst] at hn; cases hn
theorem DVs.keepL (hl : H l = some (.lst ys)) : ∀ {xs : List V} {m : List Dat}, Dat.noLsts m = true → DVs H xs m → DVs (upd H l o) xs m
  | [], [], _, _ => by unfold DVs; trivial
  | x :: xs, d :: ds, hn, h => by
    rw [Dat.noLsts, Bool.and_eq_true] at hn
    unfold DVs at h ⊢
    exact ⟨DV.keepL hl hn.1 h.1, DVs.keepL hl hn.2 h.2⟩
  | [], _ :: _, _, h => by unfold DVs at h; exact h.elim
  | _ :: _, [], _, h => by unfold DVs at h; exact h.elim
end
end
/-- a change at what was not there -/
theorem Same.put {H H' : Hp} {p : Addr} {o : HO} (s : Same H H') (h : H p = none) : Same H (upd H' p o) := fun b u e => by
  rw [upd_ne (ne_of_none e h)]
  exact s b u e
theorem DVs.rep {H : Hp} {v : V} {d : Dat} (h : DV H v d) : ∀ n : Nat, DVs H (List.replicate n v) (List.replicate n d)
  | 0 => DVs.nil
  | n + 1 => DVs.cons h (DVs.rep h n)
/-! readings of loops and comprehensions -/
section
variable {K : PySem.W.Frag} {ix : List (Option Nat)} {g : TG} {tc : TT} {te tl : TE} {ta : TA} {tb : TS} {Q : VK} {D : Ends} {σ : St} {H : Hp}
theorem rfor_range (mono : ∀ R R' : List V → Hp → Prop, (∀ vs H, R vs H → R' vs H) → ta σ H R → ta σ H R') (h : ta σ H fun vs H1 => ∃ j : Int, vs = [.int j] ∧ -(2 ^ 62) ≤ j ∧ j < 2 ^ 62 ∧ ∃ Pv : Nat → St → Hp → Prop, Pv 0 σ H1 ∧
      (∀ i σ2 H2, i < j.toNat → Pv i σ2 H2 → g (.int (0 + i)) σ2 H2 fun σ3 H3 => tb { D with nx := Pv (i + 1), ct := Pv (i + 1), bk := D.nx } σ3 H3) ∧
      ∀ σ2 H2, Pv j.toNat σ2 H2 → D.nx σ2 H2) : tFor (iRng1 ta) g tb D σ H := by
  refine mono _ _ (fun vs H1 h => ?_) h
  obtain ⟨j, e, h1, h2, Pv, p0, ps, pd⟩ := h
  exact ⟨j, e, h1, h2, for_range Pv p0 ps pd⟩
end
theorem atI_at {xs : List V} {k : Nat} {v : V} (h : xs[k]? = some v) : atI xs (k : Int) = some v := by
  have hl := (List.getElem?_eq_some_iff.mp h).1
  unfold atI ixN
  rw [if_pos (by omega), if_pos (by omega)]
  simpa using h
end L2
namespace L2
open PySem PySem.Spec PyProof.Rows
/-! rules that name the heap behind them -/
/-- G is H with o at p, which was free -/
structure New (H : Hp) (p : Addr) (o : HO) (G : Hp) : Prop where
  free : H p = none
  eq : G = upd H p o
theorem New.at {H G : Hp} {p : Addr} {o : HO} (n : New H p o G) : G p = some o := by rw [n.eq]; exact upd_same
theorem New.same {H G : Hp} {p : Addr} {o : HO} (n : New H p o G) : Same H G := by rw [n.eq]; exact (Same.refl _).new n.free
/-- G is H with o at p -/
structure Put (H : Hp) (p : Addr) (o : HO) (G : Hp) : Prop where
  eq : G = upd H p o
theorem Put.at {H G : Hp} {p : Addr} {o : HO} (n : Put H p o G) : G p = some o := by rw [n.eq]; exact upd_same
theorem Put.ne {H G : Hp} {p b : Addr} {o : HO} (n : Put H p o G) (h : b ≠ p) : G b = H b := by rw [n.eq]; exact upd_ne h
theorem Put.same {H H' G : Hp} {p : Addr} {o : HO} (n : Put H' p o G) (s : Same H H') (h : H p = none) : Same H G := by rw [n.eq]; exact s.put h
theorem Put.dvs {H G : Hp} {l : Addr} {ys : List V} {o : HO} {xs : List V} {m : List Dat} (n : Put H l o G) (hl : H l = some (.lst ys)) (hn : Dat.noLsts m = true) (d : DVs H xs m) : DVs G xs m := by rw [n.eq]; exact DVs.keepL hl hn d
theorem Put.dv {H G : Hp} {l : Addr} {ys : List V} {o : HO} {v : V} {m : Dat} (n : Put H l o G) (hl : H l = some (.lst ys)) (hn : m.noLst = true) (d : DV H v m) : DV G v m := by rw [n.eq]; exact DV.keepL hl hn d
section
variable {X : Cx} {es : List Expr} {t : TA} {pos : Pos}
def tTupN (t : TA) : TE := fun σ H Q => t σ H fun xs H1 => xs.length ≤ sizeLine ∧ ∀ p G, New H1 p (.tup xs) G → Q (.ref p) G
def tLstN (t : TA) : TE := fun σ H Q => t σ H fun xs H1 => xs.length ≤ sizeLine ∧ ∀ p G, New H1 p (.lst xs) G → Q (.ref p) G
theorem pe_lstN (h : PA X es t) : PE X (.List es pos) (tLstN t) := by
  intro pins s σ H Q I hq
  refine wpAny_List_spliced (thn (h pos pins s σ H _ I hq) fun us s1 ⟨xs, H1, I1, r, z, q⟩ => ⟨by rw [← r.length]; exact z, ?_⟩)
  have hf : H1 s1.heap.objs.size = none := I1.hok.fresh (Nat.le_refl _)
  refine ⟨.ref s1.heap.objs.size, upd H1 s1.heap.objs.size (.lst xs), I1.laid (t' := s1.toks) (fun b u e => Heap.get?_push_of_some _ e) (Nat.le_refl _) ?_, rfl, q _ _ ⟨hf, rfl⟩⟩
  exact ⟨z, us, 0, r, Heap.get?_push_size _ rfl⟩
theorem OpR.of {f : Value → Value → Sem Value} {r r' : R2} (h : OpR X f r) (i : ∀ x y H Q, r' x y H Q → r x y H Q) : OpR X f r' := fun pins s σ H x y v u Q I rx ry q => h pins s σ H x y v u Q I rx ry (i _ _ _ _ q)
theorem CallR.of {f : Value} {r r' : List V → Hp → VK → Prop} (h : CallR X f r) (i : ∀ xs H Q, r' xs H Q → r xs H Q) : CallR X f r' := fun pins s σ H xs us Q I rx q => h pins s σ H xs us Q I rx (i _ _ _ q)
theorem MtM.of {id : String} {r r' : V → List V → Hp → VK → Prop} (h : MtM X id r) (i : ∀ x xs H Q, r' x xs H Q → r x xs H Q) : MtM X id r' := fun pins s σ H x xs v us Q I r1 r2 q => h pins s σ H x xs v us Q I r1 r2 (i _ _ _ _ q)
theorem call_listN : CallR X (.type "list") (fun xs H Q => ∃ p ys, xs = [.ref p] ∧ (SqL X.K H p ys ∨ SqT X.K H p ys) ∧ ∀ l G, New H l (.lst ys) G → Q (.ref l) G) := call_list_of.of fun xs H Q ⟨p, ys, h1, h2, h3⟩ => ⟨p, ys, h1, h2, fun l hl => h3 l _ ⟨hl, rfl⟩⟩
def rAppendN : V → List V → Hp → VK → Prop := fun x vs H Q => ∃ l xs y, x = .ref l ∧ vs = [y] ∧ H l = some (.lst xs) ∧ xs.length < sizeLine ∧ ∀ G, Put H l (.lst (xs ++ [y])) G → Q .non G
theorem mt_appendN : MtM X "list.append" rAppendN := mt_append.of fun x vs H Q ⟨l, xs, y, h1, h2, h3, h4, h5⟩ => ⟨l, xs, y, h1, h2, h3, h4, h5 _ ⟨rfl⟩⟩
end
end L2
namespace L2
open PySem PySem.Spec PyProof.Rows
section
variable {X : Cx} {o e value : Expr} {f : Str} {pos pos' tpos : Pos} {ta tv : TE}
def sFldN (K : PySem.W.Frag) (ta tv : TE) (f : Str) : TS := fun D σ H => tv σ H fun y H1 => ta σ H1 fun x H2 => ∃ a C dx fs, x = .ref a ∧ H2 a = some (.ins C dx fs) ∧ Cls K C ∧ NoAttr K C f ∧ fs.length < 1000 ∧
  ∀ G, Put H2 a (.ins C dx (putF f y fs)) G → D.nx σ G
/-- C(..): the heap behind the new instance is named -/
def tMakeN (C : Addr) (sp : Sp) (dvs : List V) (E : XK) (t : TA) : TE := fun σ H Q => t σ H fun vs H1 => ∀ x dx G1 G, New H1 dx (.own x) G1 → New G1 x (.ins C dx []) G → sp (.ref x :: (vs ++ dvs)) G (fun v H2 => v = .non ∧ Q (.ref x) H2) E
variable {CX : CXT} {k : Nat} {x : Str} {C : Addr} {ps : List Str} {sp : Sp} {E : XK} {p : Pos} {es : List Expr} {t : TA}
end
theorem Put.two {H G G' : Hp} {a : Addr} {o o' : HO} (p : Put H a o G) (q : Put G a o' G') : Put H a o' G' := ⟨by rw [q.eq, p.eq, upd_upd]⟩
end L2
namespace L2
open PySem PySem.Spec PyProof.Rows
/-! a dict of defs that stands at the top -/
structure DAt (K : PySem.W.Frag) (w : World) (a : Addr) : Prop where
  ex : ∃ es n, K.lookup a = some ⟨.type "dict", none, .dict es n, #[]⟩ ∧ PySem.W.KeysLit w.params es.toList
  lo : (a == sysModules) = false
section
variable {X : Cx}
end
end L2
namespace L2
open PySem PySem.Spec PyProof.Rows
section
variable {X : Cx}
/-- a cut whose middle is said when it is read -/
def tCutE (t u : TS) : TS := fun D σ H => ∃ M : St → Hp → Prop, t { D with nx := M } σ H ∧ ∀ σ' H', M σ' H' → u D σ' H'
theorem pss_cutE {st : Stmt} {rest : List Stmt} {t u : TS} (h1 : PS X st t) (h2 : PSs X rest u) : PSs X (st :: rest) (tCutE t u) :=
  fun pins s σ H D I ⟨M, h⟩ => pss_cut M h1 h2 pins s σ H D I h
/-- code that isn't reached -/
def tDead : TS := fun _ _ _ => False
theorem pss_dead {st : List Stmt} : PSs X st tDead := fun _ _ _ _ _ _ h => h.elim
end
end L2
namespace L2
open PySem PySem.Spec PyProof.Rows
/-! what stands at the top, and the contracts made of it -/
section
variable {P : Program} {w : World} {K : PySem.W.Frag} {mg : Str → Option Value} {base h : Heap} {CX : CXT} {k : Nat} {ps : List Str} {sp : Sp} {x m qual : Str} {st : Stmt} {f C : Addr} {oc : Value} {od an : Option Addr} {osl : Array (Option Value)} {kV doc pm cdv ct : Value}
def BindsSt (x qual : Str) (st : Stmt) (ps : List Str) : Prop := ∀ (kV doc pm : Value) (an : Option Addr) (cdv ct : Value) (us : List Value), us.length = ps.length → bindArgs (PySem.W.fnOf x qual (defArgs st) (defBody st) (defScope st) .none kV doc pm an cdv ct) ⟨us, []⟩ = pure (ps.zip us)
structure FnTop (K : PySem.W.Frag) (x qual : Str) (st : Stmt) : Prop where
  ex : ∃ f fd, Fun K x qual st f fd ∧ PySem.W.nsIn K mainGlobals x = some (some (.ref f))
theorem fnTop (a : PySem.W.nsIn K mainGlobals x = some (some (.ref f))) (l : K.lookup f = some ⟨oc, od, .func (PySem.W.fnOf x qual (defArgs st) (defBody st) (defScope st) .none kV doc pm an cdv ct), osl⟩) (c : PySem.W.codeIn K cdv qual = true) (k : PySem.W.keepIn K (.ref f) = true) : FnTop K x qual st :=
  ⟨f, _, fun_mk l c k, a⟩
theorem FnTop.by (t : FnTop K x qual st) (X : K.In h) (G : h.Ns mainGlobals mg) (hb : BindsSt x qual st ps) (ok : ∀ f fd, Fun K x qual st f fd → FnOk P w K mg base CX k f fd ps sp) : FnBy P w K mg base CX k x ps sp := by
  obtain ⟨f, fd, F, a⟩ := t.ex
  exact ⟨f, fd, ok f fd F, PySem.W.mg_of X G a, F.kp, F.binds hb⟩
structure ClTop (K : PySem.W.Frag) (x : Str) (C : Addr) : Prop where
  at_ : PySem.W.nsIn K mainGlobals x = some (some (.ref C))
  cl : Cls K C
structure MeTop (K : PySem.W.Frag) (C : Addr) (m qual : Str) (st : Stmt) : Prop where
  ex : ∃ f fd, Fun K m qual st f fd ∧ Meth K C m f
theorem MeTop.by (t : MeTop K C m qual st) (c : Cls K C) (hb : BindsSt m qual st ps) (ok : ∀ f fd, Fun K m qual st f fd → FnOk P w K mg base CX k f fd ps sp) : MethBy P w K mg base CX k C m ps sp := by
  obtain ⟨f, fd, F, a⟩ := t.ex
  exact ⟨c, f, fd, ok f fd F, a, F.binds hb⟩
structure MkTop (K : PySem.W.Frag) (C : Addr) (qual : Str) (st : Stmt) : Prop where
  ex : ∃ f fd, Fun K "__init__" qual st f fd ∧ Mk K C f
theorem MkTop.by (t : MkTop K C qual st) (X : K.In h) (G : h.Ns mainGlobals mg) (c : ClTop K x C) (hb : BindsSt "__init__" qual st ps) (ok : ∀ f fd, Fun K "__init__" qual st f fd → FnOk P w K mg base CX k f fd ps sp) : MakeBy P w K mg base CX k x C ps sp := by
  obtain ⟨f, fd, F, a⟩ := t.ex
  exact ⟨f, fd, a, ok f fd F, PySem.W.mg_of X G c.at_, F.binds hb⟩
structure StrTop (K : PySem.W.Frag) (x y : Str) : Prop where
  ex : ∃ t, PySem.W.nsIn K mainGlobals x = some (some (.str y t))
theorem StrTop.by {y : Str} (t : StrTop K x y) (X : K.In h) (G : h.Ns mainGlobals mg) : ∃ t, mg x = some (.str y t) := by
  obtain ⟨t, a⟩ := t.ex
  exact ⟨t, PySem.W.mg_of X G a⟩
structure XTop (K : PySem.W.Frag) (x : Str) (C : Addr) : Prop where
  at_ : PySem.W.nsIn K mainGlobals x = some (some (.ref C))
  exc : PySem.W.excIn K C [.type "ValueError", .type "Exception", .type "BaseException", .type "object"] "ValueError.__new__" = true
theorem XTop.by (t : XTop K x C) (X : K.In h) (G : h.Ns mainGlobals mg) : XCls K mg x C := ⟨PySem.W.mg_of X G t.at_, t.exc⟩
/-- a def that stands in a dict of the top -/
structure DfTop (K : PySem.W.Frag) (d : Addr) (x : Str) (st : Stmt) : Prop where
  ex : ∃ f fd, Fun K x x st f fd ∧ PySem.W.nsIn K d x = some (some (.ref f))
structure DTop (K : PySem.W.Frag) (w : World) (x : Str) (d : Addr) : Prop where
  at_ : PySem.W.nsIn K mainGlobals x = some (some (.ref d))
  dat : DAt K w d
end
end L2
namespace L2
open PySem PySem.Spec PyProof.Rows
/-! a dict of one's own, a list's place, a field that grows: the heap behind them is named -/
section
variable {X : Cx} {o i e value : Expr} {f : Str} {pos pos' tpos : Pos} {ta td ty tv : TE}
def rSetLN : V → V → V → Hp → (Hp → Prop) → Prop := fun o i v H Q => ∃ p xs k j, o = .ref p ∧ i = .int k ∧ H p = some (.lst xs) ∧ ixN xs.length k = some j ∧ ∀ G, Put H p (.lst (xs.set j v)) G → Q G
theorem set_listN : PSet X rSetLN := fun pins s σ H o i v ov iv u Q I ro ri rv ⟨p, xs, k, j, h1, h2, h3, h4, q⟩ => set_list pins s σ H o i v ov iv u Q I ro ri rv ⟨p, xs, k, j, h1, h2, h3, h4, q _ ⟨rfl⟩⟩
theorem pe_gi {x : Str} {n : Int} (hg : Gl X x) (h : ∃ t, X.mg x = some (.int n t)) (hd : (x == ("__debug__" : Str)) = false := by decide) : PE X (.Name x pos) (tC (.int n)) := by
  obtain ⟨t, e⟩ := h
  exact pe_glob hg e ⟨t, rfl⟩ hd
theorem call_tupleN : CallR X (.type "tuple") (fun xs H Q => ∃ p ys, xs = [.ref p] ∧ SqL X.K H p ys ∧ ∀ l G, New H l (.tup ys) G → Q (.ref l) G) := call_tuple_of.of fun xs H Q ⟨p, ys, h1, h2, h3⟩ => ⟨p, ys, h1, .inl ⟨h2, fun l hl => h3 l _ ⟨hl, rfl⟩⟩⟩
end
structure IntTop (K : PySem.W.Frag) (x : Str) (n : Int) : Prop where
  ex : ∃ t, PySem.W.nsIn K mainGlobals x = some (some (.int n t))
theorem intTop {K : PySem.W.Frag} {x : Str} {n : Int} {t : Tok} (a : PySem.W.nsIn K mainGlobals x = some (some (.int n t))) : IntTop K x n := ⟨t, a⟩
theorem IntTop.by {K : PySem.W.Frag} {x : Str} {n : Int} {mg : Str → Option Value} {h : Heap} (t : IntTop K x n) (X : K.In h) (G : h.Ns mainGlobals mg) : ∃ t, mg x = some (.int n t) := by
  obtain ⟨t, a⟩ := t.ex
  exact ⟨t, PySem.W.mg_of X G a⟩
end L2
namespace L2
open PySem PySem.Spec PyProof.Rows
/-! for i, x in enumerate(list) -/
section
variable {X : Cx} {pins : List (Addr × Obj)} {σ : St} {H : Hp} {s : Shared} {h' : Heap}
/-- two records of ours have turned, a new object is laid and tracked -/
theorem Inv.turnedNew {t' : Nat} {e it T : Addr} {o : HO} (I : Inv X pins σ H s) (k : ∀ b u, b ≠ e → b ≠ it → s.heap.get? b = some u → h'.get? b = some u) (fe : FpOk X pins H e) (fi : FpOk X pins H it) (hT : s.heap.objs.size ≤ T)
    (he : ∃ u, h'.get? e = some u) (hi : ∃ u, h'.get? it = some u) (new : ObjOk X.prog X.w (upd H T o) h' T o) : Inv X pins σ (upd H T o) { s with heap := h', toks := t' } := by
  obtain ⟨e0, e1, e2, e3, e4, e5⟩ := fe
  obtain ⟨i0, i1, i2, i3, i4, i5⟩ := fi
  have fT : H T = none := I.hok.fresh hT
  have nT : ∀ b u, H b = some u → b ≠ T := fun b u q z => by rw [z, fT] at q; cases q
  have ne : ∀ b u, H b = some u → b ≠ e := fun b u q z => by rw [z, e0] at q; cases q
  have ni : ∀ b u, H b = some u → b ≠ it := fun b u q z => by rw [z, i0] at q; cases q
  have sT : ∀ b u, s.heap.get? b = some u → b ≠ T := fun b u q z => by
    have := Heap.lt_size q
    rw [z] at this
    exact absurd (Nat.lt_of_lt_of_le this hT) (Nat.lt_irrefl _)
  have nc : ∀ b, b ∉ [e, it] → b ≠ e ∧ b ≠ it := fun b hb => ⟨fun z => hb (by simp [z]), fun z => hb (by simp [z])⟩
  refine I.step (g' := s.gens) (d' := s.drawn) (ch := [e, it]) (fun b hb => ?_) (fun b u _ _ hc q _ => k b u (nc b hc).1 (nc b hc).2 q) (fun b u _ _ hc q _ => ⟨u.slots, k b u (nc b hc).1 (nc b hc).2 q⟩) (fun b u hc q n => by rw [upd_ne (sT b u q)]; exact n)
    (fun b u hc q => ⟨u, k b u (nc b hc).1 (nc b hc).2 q⟩) (fun b xs q => by rw [upd_ne (nT _ _ q)]; exact q) (fun b u v q => by rw [upd_ne (nT _ _ q)]; exact q) (fun b ps q => ⟨#[], by rw [upd_ne (nT _ _ q), q]; simp⟩) (fun m hm => ?_) (fun b u q => ?_) I.bare
  · rcases List.mem_cons.mp hb with rfl | hb
    · exact ⟨e3, e1, e4, e5⟩
    · rw [List.mem_singleton.mp hb]
      exact ⟨i3, i1, i4, i5⟩
  · obtain ⟨u, es, ep, ho, r⟩ := hm
    exact ⟨u, es, ep, k _ u (Ne.symm e1) (Ne.symm i1) ho, r⟩
  · by_cases z : b = T
    · subst z
      rw [upd_same] at q
      cases q
      exact new
    · rw [upd_ne z] at q
      refine (I.hok b u q).stay (fun c v hc w => k c v ?_ ?_ w) (fun c w => by rw [upd_ne (nT _ _ w)]; exact w) fun c xs w => by rw [upd_ne (nT _ _ w)]; exact w
      · rcases hc with z | z
        · rw [z]; exact ne b u q
        · exact ne c _ z
      · rcases hc with z | z
        · rw [z]; exact ni b u q
        · exact ni c _ z
end
/-- the pairs of the list at a -/
def Ite (K : PySem.W.Frag) (a : Addr) : It :=
  ⟨fun i H => ∃ xs x, SqL K H a xs ∧ xs[i]? = some x, fun i H v H' => ∃ T x, v = .ref T ∧ New H T (.tup [.int i, x]) H' ∧ ∀ xs, SqL K H a xs → xs[i]? = some x, fun i H => ∃ xs, SqL K H a xs ∧ xs.length ≤ i⟩
theorem turn_enum {P : Program} {w : World} {K : PySem.W.Frag} {es : List Expr} {kx : Nat} {pos : Pos} (a e it : Addr) (hei : e ≠ it) : Turn P w K (.Tuple es kx pos) (Ite K a) [e, it] e (fun i h => (∃ old, IsEnum h e it i old) ∧ h.IsListIter it a i) where
  mem := by simp
  obj := fun i h st b hb => by
    obtain ⟨⟨old, he⟩, o, e1, c, d⟩ := st
    rcases List.mem_cons.mp hb with rfl | hb
    · exact ⟨_, he, fun v z => by cases z⟩
    · rw [List.mem_singleton.mp hb]
      exact ⟨o, e1, fun v z => by rw [d] at z; cases z⟩
  keep := fun i h h' ⟨⟨old, he⟩, hit⟩ k => ⟨⟨old, k e (by simp) _ he⟩, hit.at fun o q => k it (by simp) o q⟩
  item := by
    intro X hP hw hK hc i pins s σ H E I hf st hg
    subst hP hw hK
    obtain ⟨⟨old, he⟩, hit⟩ := st
    obtain ⟨xs, x, hq, hx⟩ := hg
    obtain ⟨its, rv, p, hz⟩ := I.list hq
    obtain ⟨u, hu, ru⟩ := rv.get hx
    have fe := hf e (by simp)
    have fi := hf it (by simp)
    refine wpAny_pyNext_enum_item he hit p.isList (x := u) (by simpa using hu) hei fun h' ho hit' hT hsz hk => ?_
    obtain ⟨oi, hoi, ci, di⟩ := id hit'
    have fT : H s.heap.objs.size = none := I.hok.fresh (Nat.le_refl _)
    have I1 : Inv X pins σ (upd H s.heap.objs.size (.tup [.int i, x])) { s with heap := h', toks := s.toks + 1 } :=
      I.turnedNew (t' := s.toks + 1) hk fe fi (Nat.le_refl _) ⟨_, ho⟩ ⟨_, hoi⟩ ⟨by show 2 ≤ sizeLine; decide, [.int i s.toks, u], .cons ⟨_, rfl⟩ (.cons ru .nil), ⟨_, hT, rfl, _, rfl⟩⟩
    have het : e ≠ s.heap.objs.size := Nat.ne_of_lt (Heap.lt_size he)
    have hitt : it ≠ s.heap.objs.size := by
      obtain ⟨o0, h0, _⟩ := hit
      exact Nat.ne_of_lt (Heap.lt_size h0)
    refine ⟨_, rfl, wpAny_letOwnedTupleGo_enum ho fun h2 he2 hs2 => ?_⟩
    refine ⟨.ref s.heap.objs.size, upd H s.heap.objs.size (.tup [.int i, x]), ?_, rfl, ⟨_, x, rfl, ⟨fT, rfl⟩, fun ys hy => by rw [I.list_inj hy hq]; exact hx⟩, ⟨⟨u, by simpa using he2⟩, hit'.at fun o q => (hs2.2 it (Ne.symm hei)).trans q⟩, fun b hb => ?_⟩
    · obtain ⟨e0, e1, e2, e3, e4, e5⟩ := fe
      exact I1.turned (t' := s.toks + 1) (it := e) (fun b o hb q => (hs2.2 b hb).trans q) (by rw [upd_ne het]; exact e0) e1 e3 e4 e5
    · rcases List.mem_cons.mp hb with rfl | hb
      · rw [upd_ne het]; exact fe.1
      · rw [List.mem_singleton.mp hb, upd_ne hitt]; exact fi.1
  done := by
    intro X hP hw hK hc i pins s σ H E I hf st hg
    subst hP hw hK
    obtain ⟨⟨old, he⟩, hit⟩ := st
    obtain ⟨xs, hq, hx⟩ := hg
    obtain ⟨its, rv, p, hz⟩ := I.list hq
    obtain ⟨f0, f1, f2, f3, f4, f5⟩ := hf it (by simp)
    have hl := rv.length
    exact wpAny_pyNext_enum_end (I.ok.hd hc) he hit p.isList (by simp; omega) fun h' eb => ⟨rfl, I.turned (t' := s.toks) (fun b o hb q => eb b o hb q) f0 f1 f3 f4 f5⟩
  self := fun _ _ _ _ _ ⟨⟨_, he⟩, _⟩ h => wpAny_pyIter_enum he h
def iEnum (K : PySem.W.Frag) (ta : TA) : TI := fun σ H R => ta σ H fun vs H1 => ∃ a, vs = [.ref a] ∧ (∃ xs, SqL K H1 a xs) ∧ R (Ite K a) H1
theorem pi_enum {X : Cx} {es : List Expr} {kx : Nat} {tpos : Pos} {a : Expr} {ta : TA} {p pos : Pos} (hg : Gl X "enumerate") (hm : X.mg "enumerate" = none) (ha : PA X [a] ta) (hs : starEach [a] X.env = [(false, eval a X.env)] := by rfl) : PI X (.Tuple es kx tpos) (.Call (.Name "enumerate" p) [a] [] pos) (iEnum X.K ta) := by
  intro pins s σ H R I h
  refine Call_ (ld_blt I hg hm boot_enumerate (PyProof.Rows.callWith_type1 (thn (ha pos pins s σ H _ I h) fun us s1 ⟨vs, H1, I1, r1, q1⟩ => ?_) hs rfl))
  obtain ⟨l, e, ⟨xs, hq⟩, q⟩ := q1
  subst e
  cases r1 with
  | cons r rr =>
    cases rr
    cases r
    obtain ⟨its, rv, pl, hz⟩ := I1.list hq
    refine call_enumerate_list pl.isList fun h2 he2 hi2 hs2 hk2 => ?_
    refine wpAny_pyIter_enum he2 ?_
    have I2 : Inv X pins σ H1 { s1 with heap := h2 } := I1.kept (t' := s1.toks) hk2
    refine ⟨s1.heap.objs.size + 1, [s1.heap.objs.size + 1, s1.heap.objs.size], _, _, H1, rfl, I2, turn_enum l _ _ (Nat.succ_ne_self _), ⟨⟨_, he2⟩, hi2⟩, fun b hb => ?_, q⟩
    rcases List.mem_cons.mp hb with rfl | hb
    · exact I1.fpOk (Nat.le_succ _) (I1.hok.fresh (Nat.le_succ _))
    · rw [List.mem_singleton.mp hb]
      exact I1.fpOk (Nat.le_refl _) (I1.hok.fresh (Nat.le_refl _))
theorem for_enum {K : PySem.W.Frag} {a : Addr} {xs : List V} {g : TG} {tb : TS} {D : Ends} {σ : St} {H : Hp} (Pv : Nat → St → Hp → Prop) (h0 : Pv 0 σ H) (hl : ∀ i σ H, i ≤ xs.length → Pv i σ H → SqL K H a xs)
    (hs : ∀ i x T σ H H', xs[i]? = some x → Pv i σ H → New H T (.tup [.int i, x]) H' → g (.ref T) σ H' fun σ2 H2 => tb { D with nx := Pv (i + 1), ct := Pv (i + 1), bk := D.nx } σ2 H2) (hd : ∀ σ H, Pv xs.length σ H → D.nx σ H) :
    ∃ W : Nat → Nat → St → Hp → Prop, (∃ m, W 0 m σ H) ∧ ∀ i m σ H, W i m σ H →
      ((Ite K a).stop i H ∧ D.nx σ H) ∨ ((Ite K a).go i H ∧ ∃ N : St → Hp → Prop, (∀ σ' H', N σ' H' → ∃ m', m' < m ∧ W (i + 1) m' σ' H') ∧ ∀ x H', (Ite K a).yld i H x H' → g x σ H' fun σ2 H2 => tb { D with nx := N, ct := N, bk := D.nx } σ2 H2) := by
  refine ⟨fun i m σ H => m = xs.length - i ∧ i ≤ xs.length ∧ Pv i σ H, ⟨xs.length, by simp, Nat.zero_le _, h0⟩, ?_⟩
  rintro i m σ H ⟨rfl, hi, p⟩
  have q := hl i σ H hi p
  by_cases hlt : i < xs.length
  · refine .inr ⟨⟨xs, xs[i], q, by simp [hlt]⟩, Pv (i + 1), fun σ' H' p' => ⟨xs.length - (i + 1), by omega, rfl, hlt, p'⟩, fun v H' y => ?_⟩
    obtain ⟨T, x, rfl, n, y⟩ := y
    exact hs i x T σ H H' (y xs q) p n
  · have e : i = xs.length := by omega
    subst e
    exact .inl ⟨⟨xs, q, Nat.le_refl _⟩, hd σ H p⟩
end L2
/-! The room over plain data: hands as a function of their numbers, the steps, deeds and visits. -/
namespace Rm

inductive W where
  | out | begins | looks | draws | lowers | asks | sees | enters | within
deriving DecidableEq

structure Hand where
  flag : Bool
  ticket : Nat
  word : W
  place : Nat
  great : Nat
deriving DecidableEq

abbrev Hands := Nat → Hand

def out0 : Hand := ⟨false, 0, .out, 0, 0⟩

def put {α : Type} (s : Nat → α) (i : Nat) (h : α) : Nat → α := fun j => if j = i then h else s j
theorem put_self {α : Type} (s : Nat → α) (i : Nat) (h : α) : put s i h i = h := by simp [put]
theorem put_ne {α : Type} (s : Nat → α) {i j : Nat} (h : α) (e : j ≠ i) : put s i h j = s j := by simp [put, e]
/-- the p-th of the others of i -/
def oth (i p : Nat) : Nat := if p < i then p else p + 1
/-- the place of j among the others of i -/
def plc (i j : Nat) : Nat := if j < i then j else j - 1

theorem oth_ne (i p : Nat) : oth i p ≠ i := by
  unfold oth
  split <;> omega
theorem oth_lt {n i p : Nat} (hi : i < n) (hp : p < n - 1) : oth i p < n := by
  unfold oth
  split <;> omega
def turn (n : Nat) (h : Hand) (p : Nat) (w b : W) : Hand := { h with place := p, word := if p < n - 1 then w else b }

/-- the other's ticket ot, of the hand o, goes first -/
def first (ot o t i : Nat) : Bool := decide (ot ≠ 0 ∧ (ot < t ∨ ot = t ∧ o < i))

def stepH (n : Nat) (s : Hands) (i : Nat) : Hand :=
  let h := s i
  let o := s (oth i h.place)
  match h.word with
  | .begins => turn n { h with flag := true } 0 .looks .draws
  | .looks => turn n { h with great := max h.great o.ticket } (h.place + 1) .looks .draws
  | .draws => { h with ticket := h.great + 1, word := .lowers }
  | .lowers => turn n { h with flag := false } 0 .asks .enters
  | .asks => if o.flag then h else { h with word := .sees }
  | .sees => if first o.ticket (oth i h.place) h.ticket i then h else turn n h (h.place + 1) .asks .enters
  | .enters => { h with word := .within }
  | .out => h
  | .within => h

abbrev Told := W × Option Nat × Option Nat

def toldS (s : Hands) (i : Nat) : Told :=
  let h := s i
  let k := oth i h.place
  let o := s k
  match h.word with
  | .looks => (.looks, some k, some o.ticket)
  | .draws => (.draws, none, some (h.great + 1))
  | .asks => (.asks, some k, some (if o.flag then 1 else 0))
  | .sees => (.sees, some k, some o.ticket)
  | .enters => (.enters, none, some h.ticket)
  | w => (w, none, none)

def up : W → Bool
  | .looks | .draws | .lowers => true
  | _ => false
def hasT : W → Bool
  | .lowers | .asks | .sees | .enters | .within => true
  | _ => false
def settled : W → Bool
  | .asks | .sees | .enters | .within => true
  | _ => false

/-- j, whose hand is h, is late to i, whose ticket is ti -/
def Late (ti i j : Nat) (h : Hand) : Prop :=
  match h.word with
  | .out | .begins => True
  | .looks => plc j i < h.place → ti ≤ h.great
  | .draws => ti ≤ h.great
  | _ => ti < h.ticket
/-- i, whose ticket is ti, is ahead of j, whose hand is h -/
def Ahead (ti i j : Nat) (h : Hand) : Prop :=
  match h.word with
  | .out | .begins => True
  | .looks => plc j i < h.place → ti ≤ h.great
  | .draws => ti ≤ h.great
  | _ => ti < h.ticket ∨ ti = h.ticket ∧ i < j
/-- j, whose hand is h, is past i -/
def Past (j i : Nat) (h : Hand) : Prop :=
  match h.word with
  | .asks | .sees => plc j i < h.place
  | .enters | .within => True
  | _ => False

theorem Late.ahead {ti i j : Nat} {h : Hand} (l : Late ti i j h) : Ahead ti i j h := by
  unfold Late at l
  unfold Ahead
  revert l
  cases h.word <;> simp <;> omega

structure Inv (n : Nat) (s : Hands) : Prop where
  flag : ∀ i, i < n → (s i).flag = up (s i).word
  tick : ∀ i, i < n → ((s i).ticket ≠ 0 ↔ hasT (s i).word = true)
  plcL : ∀ i, i < n → (s i).word = .looks → (s i).place < n - 1
  plcA : ∀ i, i < n → (s i).word = .asks → (s i).place < n - 1
  plcS : ∀ i, i < n → (s i).word = .sees → (s i).place < n - 1
  pas : ∀ i j, i < n → j < n → i ≠ j → Past j i (s j) → Ahead (s j).ticket j i (s i)
  see : ∀ i j, i < n → j < n → i ≠ j → (s j).word = .sees → oth j (s j).place = i → Ahead (s j).ticket j i (s i) ∨ settled (s i).word = true

/-- a step changes no ticket but where it draws -/
theorem step_ticket {n : Nat} {s : Hands} {j : Nat} (h : (s j).word ≠ .draws) : (stepH n s j).ticket = (s j).ticket := by
  generalize hw : (s j).word = w at h
  cases w <;> simp only [stepH, hw, turn] <;> first | contradiction | rfl | (split <;> rfl)

theorem step_settled {n : Nat} {s : Hands} {j : Nat} (h : settled (s j).word = true) : settled (stepH n s j).word = true := by
  generalize hw : (s j).word = w at h
  cases w <;> simp only [settled, Bool.false_eq_true] at h <;> simp only [stepH, hw]
  · split
    · simp [hw, settled]
    · rfl
  · split
    · simp [hw, settled]
    · simp only [turn]; split <;> rfl
  · rfl
  · simp [hw, settled]

/-- a word on, by whether there is another one -/
theorem word_on {n p : Nat} {w b : W} {P : W → Prop} (hw : p < n - 1 → P w) (hb : ¬ p < n - 1 → P b) : P (if p < n - 1 then w else b) := by
  by_cases h : p < n - 1
  · rw [if_pos h]; exact hw h
  · rw [if_neg h]; exact hb h

/-- never two are within -/
theorem Inv.alone {n : Nat} {s : Hands} {i j : Nat} (I : Inv n s) (hi : i < n) (hj : j < n) (wi : (s i).word = .within) (wj : (s j).word = .within) : i = j := by
  by_cases e : i = j
  · exact e
  · have a := I.pas i j hi hj e (by simp [Past, wj])
    have b := I.pas j i hj hi (Ne.symm e) (by simp [Past, wi])
    simp only [Ahead, wi, wj] at a b
    omega

theorem inv_start (n : Nat) : Inv n fun _ => out0 := by
  constructor <;> intros <;> simp_all [out0, up, hasT, Past, Ahead]
end Rm
/-! Visits: what a deed writes down, and what holds of all that was written. -/
namespace Rm

structure Visit where
  hand : Nat
  wanted : Nat
  lowered : Option Nat
  ticket : Option Nat
  entered : Option Nat
  left : Option Nat
deriving DecidableEq

structure Hall where
  hands : Hands
  vis : Nat → Visit
  m : Nat
  cur : Nat → Nat

def noteV (w : W) (t tk : Nat) (v : Visit) : Visit :=
  match w with
  | .draws => { v with ticket := some tk }
  | .lowers => { v with lowered := some t }
  | .enters => { v with entered := some t }
  | _ => v

def stepA (n t : Nat) (H : Hall) (i : Nat) : Hall :=
  { H with hands := put H.hands i (stepH n H.hands i), vis := put H.vis (H.cur i) (noteV (H.hands i).word t ((H.hands i).great + 1) (H.vis (H.cur i))) }
def goOut (h : Hand) : Hand := { h with flag := false, ticket := 0, word := .out }
def leaveA (t : Nat) (H : Hall) (i : Nat) : Hall :=
  { H with hands := put H.hands i (goOut (H.hands i)), vis := put H.vis (H.cur i) { H.vis (H.cur i) with left := some t } }
def wantA (t : Nat) (H : Hall) (i : Nat) : Hall :=
  { hands := put H.hands i { H.hands i with great := 0, word := .begins }, vis := put H.vis H.m ⟨i, t, none, none, none, none⟩, m := H.m + 1, cur := put H.cur i H.m }

/-- how many have drawn -/
def drawn (vis : Nat → Visit) : Nat → Nat
  | 0 => 0
  | m + 1 => drawn vis m + if (vis m).ticket.isSome then 1 else 0
structure Own (h : Hand) (i : Nat) (v : Visit) : Prop where
  hand : v.hand = i
  left : v.left = none
  low : v.lowered.isSome = settled h.word
  tick : v.ticket = if hasT h.word then some h.ticket else none
  ent : v.entered.isSome = decide (h.word = .within)

structure HInv (n T : Nat) (H : Hall) : Prop where
  inv : Inv n H.hands
  cur : ∀ i, i < n → (H.hands i).word ≠ .out → H.cur i < H.m ∧ Own (H.hands i) i (H.vis (H.cur i))
  opn : ∀ k, k < H.m → (H.vis k).left = none → (H.hands (H.vis k).hand).word ≠ .out ∧ H.cur (H.vis k).hand = k
  hnd : ∀ k, k < H.m → (H.vis k).hand < n
  tW : ∀ k, k < H.m → (H.vis k).wanted < T
  tL : ∀ k x, k < H.m → (H.vis k).lowered = some x → x < T ∧ (H.vis k).wanted ≤ x
  tE : ∀ k x, k < H.m → (H.vis k).entered = some x → x < T
  tX : ∀ k x, k < H.m → (H.vis k).left = some x → x < T
  entL : ∀ k e x, k < H.m → (H.vis k).entered = some e → (H.vis k).left = some x → e < x
  fcfs : ∀ i j, i < n → j < n → i ≠ j → (H.hands i).word ≠ .out → (H.hands j).word ≠ .out → ∀ l, (H.vis (H.cur i)).lowered = some l → l < (H.vis (H.cur j)).wanted → Late (H.hands i).ticket i j (H.hands j)
  k03 : ∀ a b l e, a < H.m → b < H.m → (H.vis a).lowered = some l → l < (H.vis b).wanted → (H.vis b).entered = some e → ∃ x, (H.vis a).left = some x ∧ x ≤ e
  k08 : ∀ a b l k, a < H.m → b < H.m → (H.vis a).lowered = some l → l < (H.vis b).wanted → (H.vis b).lowered = some k → (∃ x, (H.vis a).left = some x ∧ x ≤ k) ∨ ∃ ta tb, (H.vis a).ticket = some ta ∧ (H.vis b).ticket = some tb ∧ ta < tb
  apart : ∀ a b e f, a < H.m → b < H.m → a ≠ b → (H.vis a).entered = some e → (H.vis b).entered = some f → e ≤ f → ∃ x, (H.vis a).left = some x ∧ x ≤ f
  tk : ∀ k x, k < H.m → (H.vis k).ticket = some x → 1 ≤ x ∧ x ≤ drawn H.vis H.m
  lowT : ∀ k, k < H.m → (H.vis k).lowered.isSome = true → (H.vis k).ticket.isSome = true
  gr : ∀ i, i < n → (H.hands i).great ≤ drawn H.vis H.m ∧ (H.hands i).ticket ≤ drawn H.vis H.m

/-- each who is within, from lo on, entered ahead of t -/
def Un (n t lo : Nat) (H : Hall) : Prop := ∀ i, i < n → lo ≤ i → (H.hands i).word = .within → ∀ e, (H.vis (H.cur i)).entered = some e → e < t

theorem HInv.more {n T T' : Nat} {H : Hall} (I : HInv n T H) (h : T ≤ T') : HInv n T' H :=
  ⟨I.inv, I.cur, I.opn, I.hnd, fun k hk => Nat.lt_of_lt_of_le (I.tW k hk) h, fun k x hk e => ⟨Nat.lt_of_lt_of_le (I.tL k x hk e).1 h, (I.tL k x hk e).2⟩, fun k x hk e => Nat.lt_of_lt_of_le (I.tE k x hk e) h,
    fun k x hk e => Nat.lt_of_lt_of_le (I.tX k x hk e) h, I.entL, I.fcfs, I.k03, I.k08, I.apart, I.tk, I.lowT, I.gr⟩
theorem HInv.un {n T : Nat} {H : Hall} (I : HInv n T H) (lo : Nat) : Un n T lo H := fun i hi _ hw e he => I.tE _ e (I.cur i hi (by rw [hw]; decide)).1 he

theorem step_out {n : Nat} {s : Hands} {j : Nat} : (stepH n s j).word = .out ↔ (s j).word = .out := by
  generalize hw : (s j).word = w
  cases w <;> simp only [stepH, hw, turn]
  case asks => split <;> simp [hw]
  case sees =>
    split
    · simp [hw]
    · exact word_on (P := fun w => w = .out ↔ W.sees = .out) (fun _ => by decide) (fun _ => by decide)
  case begins => exact word_on (P := fun w => w = .out ↔ W.begins = .out) (fun _ => by decide) (fun _ => by decide)
  case looks => exact word_on (P := fun w => w = .out ↔ W.looks = .out) (fun _ => by decide) (fun _ => by decide)
  case lowers => exact word_on (P := fun w => w = .out ↔ W.lowers = .out) (fun _ => by decide) (fun _ => by decide)
  all_goals simp

/-- who goes in is behind nobody whose flag is lowered and to whom it is late -/
theorem Inv.late {n : Nat} {s : Hands} {i j : Nat} (I : Inv n s) (hi : i < n) (hj : j < n) (ne : i ≠ j) (wi : (s i).word = .enters) (wj : settled (s j).word = true) (l : Late (s j).ticket j i (s i)) : False := by
  have b := I.pas j i hj hi (Ne.symm ne) (by simp [Past, wi])
  simp only [Late, wi] at l
  revert b wj
  unfold Ahead
  cases (s j).word <;> simp [settled] <;> omega
end Rm
namespace Rm

end Rm
namespace Rm

/-- what a step does to the visit of its hand, field by field -/
structure Noted (t : Nat) (h h' : Hand) (v v' : Visit) : Prop where
  hand : v'.hand = v.hand
  wanted : v'.wanted = v.wanted
  left : v'.left = v.left
  low : v'.lowered = if h.word = .lowers then some t else v.lowered
  ent : v'.entered = if h.word = .enters then some t else v.entered
  tick : v'.ticket = if h.word = .draws then some (h.great + 1) else v.ticket

end Rm
/-! Deeds and stories; never two within, by the answers too. -/
namespace Rm

inductive Deed where
  | want (h : Int)
  | go (h : Int) (many : Nat)
  | leave (h : Int)
  | round
deriving DecidableEq

inductive Ans where
  | num (k : Nat)
  | steps (l : List Told)
  | went (l : List Nat)
  | noHand | isWithin | onWay | isOut
deriving DecidableEq

/-- so many steps of the hand i, but no more when it is within -/
def goA (n t i : Nat) (H : Hall) : Nat → Hall × List Told
  | 0 => (H, [])
  | k + 1 =>
    let r := goA n t i H k
    if (r.1.hands i).word = .within then r else (stepA n t r.1 i, r.2 ++ [toldS r.1.hands i])

def roundOne (n t : Nat) (H : Hall) (i : Nat) : Hall × List Nat :=
  if (H.hands i).word = .within then (leaveA t H i, [])
  else if (H.hands i).word = .out then (H, [])
  else (stepA n t H i, if (H.hands i).word = .enters then [i] else [])
/-- the hands below k have acted -/
def roundA (n t : Nat) (H : Hall) : Nat → Hall × List Nat
  | 0 => (H, [])
  | k + 1 => ((roundOne n t (roundA n t H k).1 k).1, (roundA n t H k).2 ++ (roundOne n t (roundA n t H k).1 k).2)

def isHand (n : Nat) (h : Int) : Bool := decide (0 ≤ h ∧ h < n)

def deedA (n t : Nat) (H : Hall) : Deed → Hall × Ans
  | .want h =>
    if isHand n h then
      if (H.hands h.toNat).word = .within then (H, .isWithin)
      else if (H.hands h.toNat).word = .out then (wantA t H h.toNat, .num H.m)
      else (H, .onWay)
    else (H, .noHand)
  | .go h many =>
    if isHand n h then
      if (H.hands h.toNat).word = .out then (H, .isOut)
      else if (H.hands h.toNat).word = .within then (H, .isWithin)
      else ((goA n t h.toNat H many).1, .steps (goA n t h.toNat H many).2)
    else (H, .noHand)
  | .leave h =>
    if isHand n h then
      if (H.hands h.toNat).word = .out then (H, .isOut)
      else (leaveA t H h.toNat, .num (H.hands h.toNat).ticket)
    else (H, .noHand)
  | .round => ((roundA n t H n).1, .went (roundA n t H n).2)

def hall0 : Hall := ⟨fun _ => out0, fun _ => ⟨0, 0, none, none, none, none⟩, 0, fun _ => 0⟩

/-- the hall and the answers behind the deeds -/
def run (n : Nat) (ds : List Deed) : Hall × List Ans :=
  ds.foldl (fun r d => ((deedA n r.2.length r.1 d).1, r.2 ++ [(deedA n r.2.length r.1 d).2])) (hall0, [])

/-- who is within -/
def ins (n : Nat) (H : Hall) : List Nat := (List.range n).filter fun j => decide ((H.hands j).word = .within)

end Rm
/-! Rounds: all come through. -/
namespace Rm

def actH (n : Nat) (s : Hands) (i : Nat) : Hand :=
  if (s i).word = .within then goOut (s i) else if (s i).word = .out then s i else stepH n s i

/-- a round, told of the hands alone: each acts on what those ahead of it have done -/
def mix (s s' : Hands) (k : Nat) : Hands := fun j => if j < k then s' j else s j
theorem mix_self (s s' : Hands) (k : Nat) : mix s s' k k = s k := by simp [mix]
def RoundTo (n : Nat) (s s' : Hands) : Prop := ∀ k, k < n → s' k = actH n (mix s s' k) k

def door (n : Nat) (h : Hand) : Nat :=
  match h.word with
  | .begins => n + 2
  | .looks => n + 1 - h.place
  | .draws => 2
  | .lowers => 1
  | _ => 0
def rest (n : Nat) (h : Hand) : Nat :=
  match h.word with
  | .asks => 2 * (n - 1 - h.place) + 2
  | .sees => 2 * (n - 1 - h.place) + 1
  | .enters => 2
  | .within => 1
  | _ => 0

theorem door_act {n : Nat} {s : Hands} {k : Nat} (hk : k < n) (hp : (s k).word = .looks → (s k).place < n - 1) : door n (actH n s k) = door n (s k) - 1 := by
  generalize hw : (s k).word = w at hp
  cases w <;> simp only [actH, hw, stepH, turn, reduceCtorEq, if_false, if_true]
  case out => simp [door, hw]
  case begins =>
    by_cases h : 0 < n - 1
    · simp [door, hw, h]
    · simp [door, hw, h]; omega
  case looks =>
    have := hp rfl
    by_cases h : (s k).place + 1 < n - 1
    · simp only [door, hw, h, if_true]; omega
    · simp only [door, hw, h, if_false]; omega
  case draws => simp [door, hw]
  case lowers =>
    by_cases h : 0 < n - 1
    · simp [door, hw, h]
    · simp [door, hw, h]
  case asks => split <;> simp [door, hw]
  case sees =>
    split
    · simp [door, hw]
    · by_cases h : (s k).place + 1 < n - 1
      · simp [door, hw, h]
      · simp [door, hw, h]
  case enters => simp [door, hw]
  case within => simp [door, hw, goOut]

def Calm (n : Nat) (s : Hands) : Prop := ∀ j, j < n → door n (s j) = 0
theorem calm_word {n : Nat} {h : Hand} (hn : 0 < n) (hp : h.word = .looks → h.place < n - 1) (e : door n h = 0) : h.word = .out ∨ settled h.word = true := by
  unfold door at e
  revert e hp
  cases h.word <;> simp [settled] <;> omega
theorem calm_act {n : Nat} {s : Hands} {k : Nat} (h : (s k).word = .out ∨ settled (s k).word = true) :
    (actH n s k).word = .out ∧ (actH n s k).ticket = (if (s k).word = .out then (s k).ticket else 0) ∨ (s k).word ≠ .out ∧ settled (actH n s k).word = true ∧ (actH n s k).ticket = (s k).ticket := by
  by_cases h1 : (s k).word = .within
  · left; simp [actH, h1, goOut]
  · by_cases h2 : (s k).word = .out
    · left; simp [actH, h2]
    · right
      have hs := h.resolve_left h2
      simp only [actH, if_neg h1, if_neg h2]
      exact ⟨h2, step_settled hs, step_ticket fun z => by rw [z] at hs; cases hs⟩

structure Least (n : Nat) (s : Hands) (m : Nat) : Prop where
  lt : m < n
  act : (s m).word ≠ .out
  least : ∀ j, j < n → j ≠ m → (s j).word ≠ .out → (s m).ticket < (s j).ticket ∨ (s m).ticket = (s j).ticket ∧ m < j

/-- who goes first goes on -/
theorem rest_act {n : Nat} {s : Hands} {m : Nat} (hm : m < n) (hw : settled (s m).word = true) (hp : (s m).word = .asks ∨ (s m).word = .sees → (s m).place < n - 1)
    (hf : ∀ j, j < n → j ≠ m → (s j).flag = false) (ht : ∀ j, j < n → j ≠ m → (s j).ticket = 0 ∨ (s m).ticket < (s j).ticket ∨ (s m).ticket = (s j).ticket ∧ m < j) :
    rest n (actH n s m) + 1 = rest n (s m) := by
  generalize hww : (s m).word = w at hw hp
  cases w <;> simp only [settled, Bool.false_eq_true] at hw
  case asks =>
    have h1 := hp (.inl rfl)
    have := hf _ (oth_lt hm h1) (oth_ne _ _)
    simp [actH, hww, stepH, this, rest]
  case sees =>
    have h1 := hp (.inr rfl)
    have := ht _ (oth_lt hm h1) (oth_ne _ _)
    have hnf : first (s (oth m (s m).place)).ticket (oth m (s m).place) (s m).ticket m = false := by
      simp only [first, decide_eq_false_iff_not]
      omega
    simp only [actH, hww, stepH, hnf, reduceCtorEq, if_false, Bool.false_eq_true, turn]
    by_cases h : (s m).place + 1 < n - 1
    · simp only [rest, hww, h, if_true]; omega
    · simp only [rest, hww, h, if_false]; omega
  case enters => simp [actH, hww, stepH, rest]
  case within => simp [actH, hww, rest, goOut]

section
variable {n : Nat} {S : Nat → Hands} (hS : ∀ r, RoundTo n (S r) (S (r + 1))) (hI : ∀ r, Inv n (S r))
include hS hI

theorem door_after (q k : Nat) (hk : k < n) : ∀ r, door n (S (q + r) k) = door n (S q k) - r
  | 0 => rfl
  | r + 1 => by
    have e := hS (q + r) k hk
    rw [show q + (r + 1) = (q + r) + 1 from rfl, e, door_act hk]
    · rw [mix_self, door_after q k hk r]
      omega
    · rw [mix_self]
      exact (hI (q + r)).plcL k hk

theorem calm_stays {q : Nat} (h : Calm n (S q)) (r : Nat) : Calm n (S (q + r)) := fun j hj => by rw [door_after hS hI q j hj r, h j hj]; omega

theorem act_after {q j : Nat} (hj : j < n) (h : Calm n (S q)) :
    (S (q + 1) j).word = .out ∧ (S (q + 1) j).ticket = 0 ∨ (S q j).word ≠ .out ∧ settled (S (q + 1) j).word = true ∧ (S (q + 1) j).ticket = (S q j).ticket := by
  have hw := calm_word (by omega) ((hI q).plcL j hj) (h j hj)
  have e := hS q j hj
  have m := mix_self (S q) (S (q + 1)) j
  have := calm_act (n := n) (s := mix (S q) (S (q + 1)) j) (k := j) (by rw [m]; exact hw)
  rw [← e, m] at this
  rcases this with ⟨h1, h2⟩ | h1
  · left
    refine ⟨h1, ?_⟩
    rw [h2]
    split
    · rename_i hz
      have t := (hI q).tick j hj
      rw [hz] at t
      simpa [hasT] using t
    · rfl
  · exact .inr h1

theorem out_stays {q j : Nat} (hj : j < n) (h : (S q j).word = .out) : ∀ r, (S (q + r) j).word = .out
  | 0 => h
  | r + 1 => by
    have e := hS (q + r) j hj
    have m := mix_self (S (q + r)) (S (q + r + 1)) j
    have hr := out_stays hj h r
    rw [show q + (r + 1) = (q + r) + 1 from rfl, e]
    simp [actH, m, hr]

theorem least_after {q m : Nat} (h : Calm n (S q)) (L : Least n (S q) m) : rest n (S (q + 1) m) + 1 = rest n (S q m) ∧ ((S (q + 1) m).word ≠ .out → Least n (S (q + 1)) m) := by
  have hm := L.lt
  have hw := (calm_word (by omega) ((hI q).plcL m hm) (h m hm)).resolve_left L.act
  have e := hS q m hm
  have mx := mix_self (S q) (S (q + 1)) m
  constructor
  · rw [e]
    conv => rhs; rw [← mx]
    refine rest_act hm ?_ ?_ ?_ ?_
    · rw [mx]; exact hw
    · rw [mx]
      rintro (z | z)
      · exact (hI q).plcA m hm z
      · exact (hI q).plcS m hm z
    · intro j hj ne
      show (if j < m then S (q + 1) j else S q j).flag = false
      split
      · rw [(hI (q + 1)).flag j hj]
        rcases calm_word (by omega) ((hI (q + 1)).plcL j hj) (calm_stays hS hI h 1 j hj) with z | z
        · rw [z]; rfl
        · revert z; cases (S (q + 1) j).word <;> simp [settled, up]
      · rw [(hI q).flag j hj]
        rcases calm_word (by omega) ((hI q).plcL j hj) (h j hj) with z | z
        · rw [z]; rfl
        · revert z; cases (S q j).word <;> simp [settled, up]
    · intro j hj ne
      rw [mx]
      show (if j < m then S (q + 1) j else S q j).ticket = 0 ∨ (S q m).ticket < (if j < m then S (q + 1) j else S q j).ticket ∨ (S q m).ticket = (if j < m then S (q + 1) j else S q j).ticket ∧ m < j
      split
      · rcases act_after hS hI hj h with ⟨_, z⟩ | ⟨z1, z2, z3⟩
        · exact .inl z
        · rw [z3]; exact .inr (L.least j hj ne z1)
      · by_cases z : (S q j).word = .out
        · left
          have t := (hI q).tick j hj
          rw [z] at t
          simpa [hasT] using t
        · exact .inr (L.least j hj ne z)
  · intro hw2
    refine ⟨hm, hw2, fun j hj ne hwj => ?_⟩
    rcases act_after hS hI hm h with ⟨z, _⟩ | ⟨_, _, z⟩
    · exact absurd z hw2
    · rcases act_after hS hI hj h with ⟨y, _⟩ | ⟨y1, _, y⟩
      · exact absurd y hwj
      · rw [z, y]; exact L.least j hj ne y1

theorem gone {m : Nat} : ∀ (r q : Nat), Calm n (S q) → Least n (S q) m → rest n (S q m) ≤ r → (S (q + r) m).word = .out
  | 0, q, h, L, hr => by
    have := (least_after hS hI h L).1
    omega
  | r + 1, q, h, L, hr => by
    obtain ⟨h1, h2⟩ := least_after hS hI h L
    rw [show q + (r + 1) = (q + 1) + r by omega]
    by_cases e : (S (q + 1) m).word = .out
    · exact out_stays hS hI L.lt e r
    · exact gone r (q + 1) (calm_stays hS hI h 1) (h2 e) (by omega)
end

end Rm
/-! Rounds and what is written of the visits. -/
namespace Rm

structure Kept (H H' : Hall) : Prop where
  m : H'.m = H.m
  cur : H'.cur = H.cur
  hand : ∀ k, (H'.vis k).hand = (H.vis k).hand
  wanted : ∀ k, (H'.vis k).wanted = (H.vis k).wanted
  shut : ∀ k, (H.vis k).left ≠ none → H'.vis k = H.vis k
  gone : ∀ k, (H'.vis k).left ≠ none → (H.vis k).left ≠ none ∨ (H'.vis k).entered ≠ none
  ent : ∀ k e, (H.vis k).entered = some e → (H'.vis k).entered = some e
theorem Kept.refl (H : Hall) : Kept H H := ⟨rfl, rfl, fun _ => rfl, fun _ => rfl, fun _ _ => rfl, fun _ h => .inl h, fun _ _ h => h⟩
theorem Kept.trans {H H' H'' : Hall} (a : Kept H H') (b : Kept H' H'') : Kept H H'' := by
  refine ⟨b.m.trans a.m, b.cur.trans a.cur, fun k => (b.hand k).trans (a.hand k), fun k => (b.wanted k).trans (a.wanted k), fun k h => ?_, fun k h => ?_, fun k e h => b.ent k e (a.ent k e h)⟩
  · have e := a.shut k h
    rw [b.shut k (by rw [e]; exact h), e]
  · rcases b.gone k h with h | h
    · rcases a.gone k h with h | h
      · exact .inl h
      · right
        cases e : (H'.vis k).entered with
        | none => exact absurd e h
        | some x => rw [b.ent k x e]; simp
    · exact .inr h

/-- the enterings of these visits -/
def evs (vis : Nat → Visit) (todo : List Nat) : List (Nat × Nat) := todo.filterMap fun k => (vis k).entered.map fun e => (e, (vis k).hand)
end Rm
/-! A hand alone; who draws draws right; refused deeds. -/
namespace Rm

end Rm
/-! A hand alone, step by step; who draws draws right. -/
namespace Rm

end Rm
namespace Toy
open PySem L2
theorem cxOf_K {CX : CXT} {P : Program} {w : World} {K : PySem.W.Frag} {mg : Str → Option Value} {base : Heap} {N : List Str} {qual : Str} {scope : Scope} {f : Addr} {cd : Value} {A : Around} {outer : List Env} {s : Shared} {H : Hp} {E : XK} : (cxOf CX P w K mg base N qual scope f cd A outer s H E).K = K := rfl
seal PE PA PS PSs PT PW PG PGs PI PTs
local macro_rules | `(tactic| walk_at "rd") => `(tactic| try simp only [tSeq, tAsg, tRet, tRetN, tDrop, tIfS, tNext, tTest, tOp, tUn, rI, rI0, rU, tVar, tC, tCons, tNil, tTup, tLst, tCB, tCall, gName, tAndV, tOrV, tNotV, tAnd, tOr, tNot, tIf, tB, rEq, rNe, L2.start, List.map_cons, List.map_nil, List.length_cons, List.length_nil, Nat.reduceAdd, Nat.reduceSub, List.replicate, List.cons_append, List.nil_append, List.append_nil,
      List.getElem?_cons_zero, List.getElem?_cons_succ, Option.some.injEq, V.int.injEq, V.bl.injEq, V.ref.injEq, V.str.injEq, exists_and_left, exists_eq_left', exists_eq_left, List.cons.injEq, cxOf_K, List.set, Int.reduceLT, true_and, and_true, decide_eq_true_eq, scal])
def top (i : Nat) : Stmt := PySem.Challenge.pw_ticketroom_k07_whole_visits_judged.main.body.getD i (.Pass ⟨0, 0, 0, 0⟩)
structure Blt (mg : Str → Option Value) : Prop where
  b_isinstance : mg "isinstance" = none
  b_len : mg "len" = none
  b_range : mg "range" = none
  b_int : mg "int" = none
  b_bool : mg "bool" = none
  b_str : mg "str" = none
  b_tuple : mg "tuple" = none
  b_list : mg "list" = none
theorem cmul_a (i : Int) : CMul i 48271 := .inr ⟨by decide, by decide⟩
theorem cmul_7 (i : Int) : CMul 7 i := .inl ⟨by decide, by decide⟩
section
variable {P : Program} {w : World} {K : PySem.W.Frag} {mg : Str → Option Value} {base : Heap}
/-! whole -/
/-! at -/
abbrev sAt : Stmt := top 11
def spAt (K : PySem.W.Frag) : Sp := fun vs H Q _ => ∃ (a : Addr) (k : Nat) (ns : List Int), vs = [.ref a, .int k] ∧ SqL K H a (ns.map V.int) ∧ Q (.int (ns.getD k 0)) H
theorem scAt : FnScope ["_law_script", "_law_k"] ["_law_script", "_law_k"] (defScope sAt) := ⟨rfl, rfl, rfl, by decide +kernel, rfl, by decide +kernel, by decide +kernel⟩
theorem ok_at {f : Addr} {fd : FuncData} (F : Fun K "_law_at" "_law_at" sAt f fd) (T : Blt mg) : FnOk P w K mg base CX0 1 f fd ["_law_script", "_law_k"] (spAt K) := by
  refine F.ok scAt (fun vs H Q E h => ?_) (fun cdv A outer s H vs Q E hr h => ?_)
  · obtain ⟨a, k, ns, rfl, _⟩ := h
    rfl
  · obtain ⟨a, k, ns, rfl, hS, q⟩ := h
    refine ⟨_, (pss_cons (ps_if (pt_cmpR op_lt (pv 1) (pe_callB call_len_seq (by rfl) T.b_len PyProof.Rows.Boot.len (pac (pv 0) pa_nil)) (nomark _)) (pss_one (ps_ret (pe_ix ix_seq (pv 0) (pv 1) (by exact fun _ _ => rfl)))) pss_nil)
      (pss_one (ps_ret pe_int))), ?_⟩
    walk_at "rd"
    refine ⟨_, .inl hS, ?_⟩
    rw [List.length_map]
    split
    · rename_i h
      have h' : k < ns.length := by omega
      refine rix_s hS (v := .int ns[k]) ?_ ?_
      · unfold atI ixN
        rw [List.length_map, if_pos (by omega), if_pos (by omega)]
        simp [h']
      · have e : ns.getD k 0 = ns[k] := by simp [List.getD, h']
        rw [e] at q
        exact q
    · rename_i h
      have e : ns.getD k 0 = 0 := by simp [List.getD, show ns.length ≤ k by omega]
      rw [e] at q
      exact q
/-! deed_of -/
inductive Dd where | want (h : Int) | go (h : Int) (n : Int) | leave (h : Int) | round
def Dd.dat : Dd → Dat
  | .want h => .tup [.str "want", .int h]
  | .go h n => .tup [.str "go", .int h, .int n]
  | .leave h => .tup [.str "leave", .int h]
  | .round => .tup [.str "round"]
end
local macro_rules | `(tactic| walk_at "rd") => `(tactic| try simp only [tSeq, tAsg, tRet, tRetN, tDrop, tIfS, tNext, tTest, tOp, tUn, rI, rI0, rU, tVar, tC, tCons, tNil, tTup, tLst, tCB, tCall, gName, tAndV, tOrV, tNotV, tAnd, tOr, tNot, tIf, tB, rEq, rNe, L2.start, List.map_cons, List.map_nil, List.length_cons, List.length_nil, Nat.reduceAdd, Nat.reduceSub, List.replicate, List.cons_append, List.nil_append, List.append_nil,
      List.getElem?_cons_zero, List.getElem?_cons_succ, Option.some.injEq, V.int.injEq, V.bl.injEq, V.ref.injEq, V.str.injEq, exists_and_left, exists_eq_left', exists_eq_left, List.cons.injEq, cxOf_K, List.set, Int.reduceLT, true_and, and_true, decide_eq_true_eq, scal])
section
variable {P : Program} {w : World} {K : PySem.W.Frag} {mg : Str → Option Value} {base : Heap}
/-! a visit, as data -/
def on : Option Nat → Dat | none => .non | some k => .int k
def onV : Option Nat → V | none => .non | some k => .int k
def visitD (v : Rm.Visit) : Dat := .tup [.int v.hand, .int v.wanted, on v.lowered, on v.ticket, on v.entered, on v.left]
def visitV (v : Rm.Visit) : List V := [.int v.hand, .int v.wanted, onV v.lowered, onV v.ticket, onV v.entered, onV v.left]
theorem dv_on {H : Hp} {v : V} {o : Option Nat} : DV H v (on o) ↔ v = onV o := by
  cases o <;> (unfold on onV DV; exact Iff.rfl)
theorem dv_int_iff {H : Hp} {v : V} {i : Int} : DV H v (.int i) ↔ v = .int i := by unfold DV; exact Iff.rfl
theorem dvs_cc {H : Hp} {x : V} {xs : List V} {d : Dat} {l : List Dat} : DVs H (x :: xs) (d :: l) = (DV H x d ∧ DVs H xs l) := by rw [DVs]
theorem dvs_cons_iff {H : Hp} {xs : List V} {d : Dat} {l : List Dat} : DVs H xs (d :: l) ↔ ∃ x r, xs = x :: r ∧ DV H x d ∧ DVs H r l := by
  cases xs with
  | nil => unfold DVs; exact ⟨fun h => h.elim, fun ⟨_, _, h, _⟩ => nomatch h⟩
  | cons x r =>
    rw [dvs_cc]
    exact ⟨fun h => ⟨x, r, rfl, h⟩, fun ⟨_, _, h, k⟩ => by cases h; exact k⟩
theorem dvs_nil_iff {H : Hp} {xs : List V} : DVs H xs [] ↔ xs = [] := by
  cases xs with
  | nil => unfold DVs; simp
  | cons x r => unfold DVs; simp
theorem dv_visit {H : Hp} {v : V} {u : Rm.Visit} (h : DV H v (visitD u)) : ∃ a, v = .ref a ∧ H a = some (.tup (visitV u)) := by
  unfold visitD DV at h
  obtain ⟨a, xs, rfl, q, k⟩ := h
  simp only [dvs_cons_iff, dvs_nil_iff, dv_on, dv_int_iff] at k
  obtain ⟨_, _, rfl, rfl, _, _, rfl, rfl, _, _, rfl, rfl, _, _, rfl, rfl, _, _, rfl, rfl, _, _, rfl, rfl, rfl⟩ := k
  exact ⟨a, rfl, q⟩
/-! whole_or_none -/
/-! is_visit, of a visit -/
/-! is_seen, of what is seen of a hand -/
end
local macro_rules | `(tactic| walk_at "rd") => `(tactic| try simp only [tSeq, tAsg, tRet, tRetN, tDrop, tIfS, tNext, tTest, tOp, tUn, rI, rI0, rU, tVar, tC, tCons, tNil, tTup, tLst, tCB, tCall, gName, tAndV, tOrV, tNotV, tAnd, tOr, tNot, tIf, tB, rEq, rNe, L2.start, List.map_cons, List.map_nil, List.length_cons, List.length_nil, Nat.reduceAdd, Nat.reduceSub, List.replicate, List.cons_append, List.nil_append, List.append_nil,
      List.getElem?_cons_zero, List.getElem?_cons_succ, Option.some.injEq, V.int.injEq, V.bl.injEq, V.ref.injEq, V.str.injEq, exists_and_left, exists_eq_left', exists_eq_left, List.cons.injEq, cxOf_K, List.set, Int.reduceLT, true_and, and_true, decide_eq_true_eq, scal])
section
variable {P : Program} {w : World} {K : PySem.W.Frag} {mg : Str → Option Value} {base : Heap}
abbrev Seen := Bool × Nat × Str
/-- all_after's promise: r what it answers -/
def Dd.ok : Dd → Prop
  | .go _ k => 0 ≤ k ∧ k ≤ 900 | _ => True
structure AAok (AA : Int → List Dd → List Rm.Visit × List Seen) : Prop where
  hand : ∀ n ds, ∀ u ∈ (AA n ds).1, (u.hand : Int) < n
  many : ∀ n ds, 0 < n → ((AA n ds).2.length : Int) = n
theorem dv_same_lst {H : Hp} {x : V} {l : List Dat} (h : DV H x (.lst l)) : ∃ a xs, x = .ref a ∧ H a = some (.lst xs) ∧ DVs H xs l := by rwa [DV] at h
end
local macro_rules | `(tactic| walk_at "rd") => `(tactic| try simp only [tSeq, tAsg, tSetLC, tRet, tRetN, tDrop, tIfS, tNext, tTest, tOp, tUn, rI, rI0, rU, tVar, tC, tCons, tNil, tTup, tLst, tTupN, tLstN, tBM, tCB, tCall, gName, tAndV, tOrV, tNotV, tAnd, tOr, tNot, tIf, tB, rEq, rNe, L2.start, List.map_cons, List.map_nil, List.length_cons, List.length_nil, Nat.reduceAdd, Nat.reduceSub, List.replicate, List.cons_append, List.nil_append, List.append_nil,
      List.getElem?_cons_zero, List.getElem?_cons_succ, Option.some.injEq, V.int.injEq, V.bl.injEq, V.ref.injEq, V.str.injEq, exists_and_left, exists_eq_left', exists_eq_left, List.cons.injEq, cxOf_K, List.set, Int.reduceLT, true_and, and_true, decide_eq_true_eq, scal])
section
variable {P : Program} {w : World} {K : PySem.W.Frag} {mg : Str → Option Value} {base : Heap}
theorem dv_lst {H : Hp} {a : Addr} {xs : List V} {l : List Dat} (h : H a = some (.lst xs)) (k : DVs H xs l) : DV H (.ref a) (.lst l) := by rw [DV]; exact ⟨a, xs, rfl, h, k⟩
end
local macro_rules | `(tactic| walk_at "rd") => `(tactic| try simp only [tSeq, tAsg, tSetLC, tRet, tRetN, tDrop, tIfS, tNext, tTest, tOp, tUn, rI, rI0, rU, tVar, tC, tCons, tNil, tTup, tLst, tTupN, tLstN, tBM, tCB, tCall, gName, tAndV, tOrV, tNotV, tAnd, tOr, tNot, tIf, tB, rEq, rNe, L2.start, List.map_cons, List.map_nil, List.length_cons, List.length_nil, Nat.reduceAdd, Nat.reduceSub, List.replicate, List.cons_append, List.nil_append, List.append_nil,
      List.getElem?_cons_zero, List.getElem?_cons_succ, Option.some.injEq, V.int.injEq, V.bl.injEq, V.ref.injEq, V.str.injEq, exists_and_left, exists_eq_left', exists_eq_left, List.cons.injEq, cxOf_K, List.set, Int.reduceLT, true_and, and_true, decide_eq_true_eq, scal])
def wS : Rm.W → Str
  | .out => "out" | .begins => "begins" | .looks => "looks" | .draws => "draws" | .lowers => "lowers" | .asks => "asks" | .sees => "sees" | .enters => "enters" | .within => "within"
/-- the attributes of a hand -/
def hfs (i : Nat) (oa : Addr) (h : Rm.Hand) : List (Str × V) := [("number", .int i), ("others", .ref oa), ("flag", .bl h.flag), ("ticket", .int h.ticket), ("word", .str (wS h.word)), ("place", .int h.place), ("greatest", .int h.great)]
section
variable {i : Nat} {oa : Addr} {h : Rm.Hand}
theorem lk_number : (hfs i oa h).lookup ("number" : Str) = some (.int i) := by simp only [hfs, List.lookup, beq_self_eq_true]
end
local macro_rules | `(tactic| walk_at "rd") => `(tactic| try simp only [tSeq, tAsg, tSetLC, tRet, tRetN, tDrop, tIfS, tNext, tTest, tOp, tUn, rI, rI0, rU, tVar, tC, tCons, tNil, tTup, tLst, tTupN, tLstN, tBM, tCB, tCall, tMeth, tMake, tFld, sFld, sFldN, tMakeN, gName, tAndV, tOrV, tNotV, tAnd, tOr, tNot, tIf, tB, rEq, rNe, L2.start, List.map_cons, List.map_nil, List.length_cons, List.length_nil, Nat.reduceAdd, Nat.reduceSub, List.replicate, List.cons_append, List.nil_append, List.append_nil,
      List.getElem?_cons_zero, List.getElem?_cons_succ, Option.some.injEq, V.int.injEq, V.bl.injEq, V.ref.injEq, V.str.injEq, exists_and_left, exists_eq_left', exists_eq_left, List.cons.injEq, cxOf_K, List.set, Int.reduceLT, true_and, and_true, decide_eq_true_eq, scal, HO.ins.injEq, HO.lst.injEq, HO.tup.injEq, and_assoc, exists_prop, List.append_nil])
local macro_rules | `(tactic| k_invariant "rd" $t) => `(tactic| try simp only [tSeq, tAsg, tSetLC, tRet, tRetN, tDrop, tIfS, tNext, tTest, tOp, tUn, rI, rI0, rU, tVar, tC, tCons, tNil, tTup, tLst, tTupN, tLstN, tBM, tCB, tCall, tMeth, tMake, tFld, sFld, sFldN, tMakeN, gName, tAndV, tOrV, tNotV, tAnd, tOr, tNot, tIf, tB, rEq, rNe, L2.start, List.map_cons, List.map_nil, List.length_cons, List.length_nil, Nat.reduceAdd, Nat.reduceSub, List.replicate, List.cons_append, List.nil_append, List.append_nil,
      List.getElem?_cons_zero, List.getElem?_cons_succ, Option.some.injEq, V.int.injEq, V.bl.injEq, V.ref.injEq, V.str.injEq, exists_and_left, exists_eq_left', exists_eq_left, List.cons.injEq, cxOf_K, List.set, Int.reduceLT, true_and, and_true, decide_eq_true_eq, scal, HO.ins.injEq, HO.lst.injEq, HO.tup.injEq, and_assoc, exists_prop, List.append_nil, $t:term])
structure HandC (K : PySem.W.Frag) (C : Addr) : Prop where
  cl : Cls K C
  n_number : NoAttr K C "number"
  n_others : NoAttr K C "others"
  n_flag : NoAttr K C "flag"
  n_ticket : NoAttr K C "ticket"
  n_word : NoAttr K C "word"
  n_place : NoAttr K C "place"
  n_greatest : NoAttr K C "greatest"
  m_turn_to : True
theorem HandC.all {K : PySem.W.Frag} {C : Addr} (c : HandC K C) : Cls K C ∧ NoAttr K C "number" ∧ NoAttr K C "others" ∧ NoAttr K C "flag" ∧ NoAttr K C "ticket" ∧ NoAttr K C "word" ∧ NoAttr K C "place" ∧ NoAttr K C "greatest" := ⟨c.cl, c.n_number, c.n_others, c.n_flag, c.n_ticket, c.n_word, c.n_place, c.n_greatest⟩
section
variable {P : Program} {w : World} {K : PySem.W.Frag} {mg : Str → Option Value} {base : Heap}
/-! goes_first -/
/-! the globals of the text -/
structure Con (mg : Str → Option Value) : Prop where
  g_BEGINS : ∃ t, mg "BEGINS" = some (.str "begins" t)
  g_LOOKS : ∃ t, mg "LOOKS" = some (.str "looks" t)
  g_DRAWS : ∃ t, mg "DRAWS" = some (.str "draws" t)
  g_LOWERS : ∃ t, mg "LOWERS" = some (.str "lowers" t)
  g_ASKS : ∃ t, mg "ASKS" = some (.str "asks" t)
  g_SEES : ∃ t, mg "SEES" = some (.str "sees" t)
  g_ENTERS : ∃ t, mg "ENTERS" = some (.str "enters" t)
  g_WITHIN : ∃ t, mg "WITHIN" = some (.str "within" t)
  g_OUT : ∃ t, mg "OUT" = some (.str "out" t)
/-! want_in, go_out -/
end
/-- behind: o at a, all else that was there stands -/
structure Chg (H : Hp) (a : Addr) (o : HO) (G : Hp) : Prop where
  «at» : G a = some o
  keep : ∀ c u, H c = some u → c ≠ a → G c = some u
theorem Chg.of {H G : Hp} {a : Addr} {o : HO} (p : Put H a o G) : Chg H a o G := ⟨p.at, fun c u e n => by rw [p.ne n]; exact e⟩
theorem Chg.put {H G G' : Hp} {a : Addr} {o o' : HO} (c : Chg H a o G) (p : Put G a o' G') : Chg H a o' G' := ⟨p.at, fun d u e n => by rw [p.ne n]; exact c.keep d u e n⟩
theorem Chg.same {H G G' : Hp} {a : Addr} {o : HO} (s : Same H G) (c : Chg G a o G') : Chg H a o G' := ⟨c.at, fun d u e n => c.keep d u (s d u e) n⟩
theorem Chg.then {H G G' : Hp} {a : Addr} {o : HO} (c : Chg H a o G) (s : Same G G') : Chg H a o G' := ⟨s _ _ c.at, fun d u e n => s _ _ (c.keep d u e n)⟩
theorem Chg.non {H G : Hp} {a : Addr} {o : HO} (s : Same H G) (e : H a = some o) : Chg H a o G := ⟨s _ _ e, fun d u h _ => s _ _ h⟩
section
variable {P : Program} {w : World} {K : PySem.W.Frag} {mg : Str → Option Value} {base : Heap}
/-- a step of a hand's own: n hands, h how it is, h' how it will be, v what is told -/
def spOwn (C : Addr) (g : Nat → Rm.Hand → Rm.Hand) (tell : Rm.Hand → V) : Sp := fun vs H Q _ => ∃ (a oa dx : Addr) (i n : Nat) (h : Rm.Hand) (os : List V), vs = [.ref a] ∧ H a = some (.ins C dx (hfs i oa h)) ∧ H oa = some (.lst os) ∧ os.length = n - 1 ∧
  ∀ G, Chg H a (.ins C dx (hfs i oa (g n h))) G → Q (tell h) G
/-- a step that looks at another hand's -/
def spLook (C : Addr) (g : Nat → Nat → Rm.Hand → Nat → Rm.Hand → Rm.Hand) (tell : Rm.Hand → V) : Sp := fun vs H Q _ => ∃ (a oa dx b ob dy : Addr) (i j n : Nat) (h o : Rm.Hand) (os : List V), vs = [.ref a, .ref b] ∧ a ≠ b ∧ H a = some (.ins C dx (hfs i oa h)) ∧ H oa = some (.lst os) ∧ os.length = n - 1 ∧
  H b = some (.ins C dy (hfs j ob o)) ∧ ∀ G, Chg H a (.ins C dx (hfs i oa (g n i h j o))) G → Q (tell o) G
def gBegins (n : Nat) (h : Rm.Hand) : Rm.Hand := Rm.turn n { h with flag := true } 0 .looks .draws
def gDraws (_ : Nat) (h : Rm.Hand) : Rm.Hand := { h with ticket := h.great + 1, word := .lowers }
def gLowers (n : Nat) (h : Rm.Hand) : Rm.Hand := Rm.turn n { h with flag := false } 0 .asks .enters
def gEnters (_ : Nat) (h : Rm.Hand) : Rm.Hand := { h with word := .within }
def gLooks (n i : Nat) (h : Rm.Hand) (j : Nat) (o : Rm.Hand) : Rm.Hand := Rm.turn n { h with great := max h.great o.ticket } (h.place + 1) .looks .draws
def gAsks (n i : Nat) (h : Rm.Hand) (j : Nat) (o : Rm.Hand) : Rm.Hand := if o.flag then h else { h with word := .sees }
def gSees (n i : Nat) (h : Rm.Hand) (j : Nat) (o : Rm.Hand) : Rm.Hand := if Rm.first o.ticket j h.ticket i then h else Rm.turn n h (h.place + 1) .asks .enters
end
/-- the hands of a room in a heap -/
structure AtHall (C L : Addr) (n : Nat) (ad oa dx : Nat → Addr) (s : Rm.Hands) (H : Hp) : Prop where
  lst : H L = some (.lst ((List.range n).map fun i => V.ref (ad i)))
  hand : ∀ i, i < n → H (ad i) = some (.ins C (dx i) (hfs i (oa i) (s i)))
  othr : ∀ i, i < n → H (oa i) = some (.lst ((List.range (n - 1)).map fun p => V.int (Rm.oth i p : Nat)))
section
variable {C L : Addr} {n : Nat} {ad oa dx : Nat → Addr} {s : Rm.Hands} {H G : Hp}
theorem hfs_inj {i j : Nat} {a b : Addr} {h k : Rm.Hand} (e : hfs i a h = hfs j b k) : i = j := by
  have := congrArg (List.lookup ("number" : Str)) e
  rw [lk_number, lk_number] at this
  simp only [Option.some.injEq, V.int.injEq] at this
  omega
theorem AtHall.inj (h : AtHall C L n ad oa dx s H) {i j : Nat} (hi : i < n) (hj : j < n) (e : ad i = ad j) : i = j := by
  have h1 := h.hand i hi
  rw [e, h.hand j hj] at h1
  simp only [Option.some.injEq, HO.ins.injEq] at h1
  exact (hfs_inj h1.2.2).symm
theorem AtHall.mono (h : AtHall C L n ad oa dx s H) (m : Same H G) : AtHall C L n ad oa dx s G := ⟨m _ _ h.lst, fun i hi => m _ _ (h.hand i hi), fun i hi => m _ _ (h.othr i hi)⟩
theorem AtHall.chg (h : AtHall C L n ad oa dx s H) {i : Nat} (hi : i < n) {h' : Rm.Hand} (c : Chg H (ad i) (.ins C (dx i) (hfs i (oa i) h')) G) : AtHall C L n ad oa dx (Rm.put s i h') G := by
  have ha := h.hand i hi
  refine ⟨c.keep _ _ h.lst fun e => ?_, fun j hj => ?_, fun j hj => c.keep _ _ (h.othr j hj) fun e => ?_⟩
  · rw [← e, h.lst] at ha; cases ha
  · by_cases e : j = i
    · subst e; rw [Rm.put_self]; exact c.at
    · rw [Rm.put_ne _ _ e]; exact c.keep _ _ (h.hand j hj) fun z => e (h.inj hj hi z)
  · rw [← e, h.othr j hj] at ha; cases ha
end
/-! a step -/
def isOwn : Rm.W → Bool
  | .begins | .draws | .lowers | .enters => true
  | _ => false
def isLook : Rm.W → Bool
  | .looks | .asks | .sees => true
  | _ => false
def gO : Rm.W → Nat → Rm.Hand → Rm.Hand
  | .begins => gBegins | .draws => gDraws | .lowers => gLowers | .enters => gEnters | _ => fun _ h => h
def tO : Rm.W → Rm.Hand → V
  | .draws => fun h => .int (h.great + 1 : Nat) | .enters => fun h => .int h.ticket | _ => fun _ => .non
def gL : Rm.W → Nat → Nat → Rm.Hand → Nat → Rm.Hand → Rm.Hand
  | .looks => gLooks | .asks => gAsks | .sees => gSees | _ => fun _ _ h _ _ => h
def tL : Rm.W → Rm.Hand → V
  | .asks => fun o => .int (if o.flag then 1 else 0) | _ => fun o => .int o.ticket
def oV : Option Nat → V
  | none => .non
  | some k => .int k
def stV (t : Rm.Told) : List V := [.str (wS t.1), oV t.2.1, oV t.2.2]
section
variable {P : Program} {w : World} {K : PySem.W.Frag} {mg : Str → Option Value} {base : Heap}
structure Steps (P : Program) (w : World) (K : PySem.W.Frag) (mg : Str → Option Value) (base : Heap) (C dO dL : Addr) : Prop where
  hO : mg "STEPS_OF_ITS_OWN" = some (.ref dO)
  hL : mg "STEPS_THAT_LOOK" = some (.ref dL)
  MO : DAt K w dO
  ML : DAt K w dL
  own : ∀ x, isOwn x = true → ∃ k f fd, k ≤ 2 ∧ PySem.W.nsIn K dO (wS x) = some (some (.ref f)) ∧ FnOk P w K mg base CX0 k f fd ["own"] (spOwn C (gO x) (tO x)) ∧ Binds K fd ["own"] [] ∧ PySem.W.keepIn K (.ref f) = true
  non : ∀ x, isOwn x = false → PySem.W.nsIn K dO (wS x) = some none
  look : ∀ x, isLook x = true → ∃ k f fd, k ≤ 2 ∧ PySem.W.nsIn K dL (wS x) = some (some (.ref f)) ∧ FnOk P w K mg base CX0 k f fd ["own", "other"] (spLook C (gL x) (tL x)) ∧ Binds K fd ["own", "other"] [] ∧ PySem.W.keepIn K (.ref f) = true
end
/-! the room -/
structure Ads where
  C : Addr
  R : Addr
  r : Addr
  dr : Addr
  L : Addr
  n : Nat
  ad : Nat → Addr
  oa : Nat → Addr
  dx : Nat → Addr
def rfs (L : Addr) : List (Str × V) := [("hands", .ref L)]
structure RoomC (K : PySem.W.Frag) (R : Addr) : Prop where
  cl : Cls K R
  n_hands : NoAttr K R "hands"
structure AtRoom (A : Ads) (s : Rm.Hands) (H : Hp) : Prop where
  room : H A.r = some (.ins A.R A.dr (rfs A.L))
  hall : AtHall A.C A.L A.n A.ad A.oa A.dx s H
/-- the room has come to s, all that is no hand stands -/
structure Mov (A : Ads) (s' : Rm.Hands) (H G : Hp) : Prop where
  «at» : AtRoom A s' G
  keep : ∀ c u, H c = some u → (∀ i, i < A.n → c ≠ A.ad i) → G c = some u
section
variable {A : Ads} {s s' s2 : Rm.Hands} {H G G' : Hp}
theorem AtRoom.same (h : AtRoom A s H) (m : Same H G) : AtRoom A s G := ⟨m _ _ h.room, h.hall.mono m⟩
theorem Mov.refl (h : AtRoom A s H) : Mov A s H H := ⟨h, fun _ _ e _ => e⟩
theorem Mov.same (h : Mov A s H G) (m : Same G G') : Mov A s H G' := ⟨h.at.same m, fun c u e n => m _ _ (h.keep c u e n)⟩
theorem Mov.pre (m : Same H G) (h : Mov A s G G') : Mov A s H G' := ⟨h.at, fun c u e n => h.keep c u (m _ _ e) n⟩
theorem Mov.trans (h : Mov A s H G) (h' : Mov A s' G G') : Mov A s' H G' := ⟨h'.at, fun c u e n => h'.keep c u (h.keep c u e n) n⟩
theorem AtRoom.chg (h : AtRoom A s H) {i : Nat} (hi : i < A.n) {h' : Rm.Hand} (rr : A.r ≠ A.ad i) (c : Chg H (A.ad i) (.ins A.C (A.dx i) (hfs i (A.oa i) h')) G) : Mov A (Rm.put s i h') H G :=
  ⟨⟨c.keep _ _ h.room rr, h.hall.chg hi c⟩, fun d u e n => c.keep d u e (n i hi)⟩
theorem AtRoom.ne (h : AtRoom A s H) (i : Nat) (hi : i < A.n) : A.r ≠ A.ad i := fun e => by
  have := h.hall.hand i hi
  rw [← e, h.room] at this
  simp only [Option.some.injEq, HO.ins.injEq] at this
  have := congrArg List.length this.2.2
  simp [rfs, hfs] at this
end
structure Exc (K : PySem.W.Frag) (mg : Str → Option Value) (eN eI eW eO : Addr) : Prop where
  c_NoHand : XCls K mg "NoHand" eN
  c_Within : XCls K mg "Within" eI
  c_WantsIn : XCls K mg "WantsIn" eW
  c_Out : XCls K mg "Out" eO
section
variable {P : Program} {w : World} {K : PySem.W.Frag} {mg : Str → Option Value} {base : Heap}
end
/-- each address bears the tuple of a step -/
def Tups (G : Hp) : List Addr → List Rm.Told → Prop
  | [], [] => True
  | p :: ps, t :: ts => G p = some (.tup (stV t)) ∧ Tups G ps ts
  | _, _ => False
theorem Tups.mono {G G' : Hp} (m : ∀ p x, G p = some (.tup x) → G' p = some (.tup x)) : ∀ {ps : List Addr} {ts : List Rm.Told}, Tups G ps ts → Tups G' ps ts
  | [], [], _ => trivial
  | _ :: _, _ :: _, ⟨a, b⟩ => ⟨m _ _ a, Tups.mono m b⟩
  | [], _ :: _, h => h.elim
  | _ :: _, [], h => h.elim
theorem Tups.snoc {G : Hp} {p : Addr} {t : Rm.Told} (e : G p = some (.tup (stV t))) : ∀ {ps : List Addr} {ts : List Rm.Told}, Tups G ps ts → Tups G (ps ++ [p]) (ts ++ [t])
  | [], [], _ => ⟨e, trivial⟩
  | _ :: _, _ :: _, ⟨a, b⟩ => ⟨a, Tups.snoc e b⟩
  | [], _ :: _, h => h.elim
  | _ :: _, [], h => h.elim
theorem Tups.len {G : Hp} : ∀ {ps : List Addr} {ts : List Rm.Told}, Tups G ps ts → ps.length = ts.length
  | [], [], _ => rfl
  | _ :: _, _ :: _, ⟨_, b⟩ => by simp [Tups.len b]
  | [], _ :: _, h => h.elim
  | _ :: _, [], h => h.elim
theorem Mov.put {A : Ads} {s s' : Rm.Hands} {H G G' : Hp} {l : Addr} {o : HO} (h : AtRoom A s H) (m : Mov A s' H G) (hl : H l = none) (p : Put G l o G') : Mov A s' H G' := by
  have ne : ∀ c u, H c = some u → c ≠ l := fun c u e z => by rw [z, hl] at e; cases e
  refine ⟨⟨by rw [p.ne (ne _ _ h.room)]; exact m.at.room, by rw [p.ne (ne _ _ h.hall.lst)]; exact m.at.hall.lst, fun i hi => ?_, fun i hi => ?_⟩, fun c u e n => by rw [p.ne (ne _ _ e)]; exact m.keep c u e n⟩
  · rw [p.ne (ne _ _ (h.hall.hand i hi))]; exact m.at.hall.hand i hi
  · rw [p.ne (ne _ _ (h.hall.othr i hi))]; exact m.at.hall.othr i hi
theorem step_out {n i : Nat} {s : Rm.Hands} (h : (s i).word ≠ .out) : (Rm.stepH n s i).word ≠ .out := by
  unfold Rm.stepH Rm.turn
  cases e : (s i).word <;> simp only [] <;> (try split) <;> (try simp) <;> (try split) <;> (try simp_all) <;> (try split) <;> simp
section
variable {P : Program} {w : World} {K : PySem.W.Frag} {mg : Str → Option Value} {base : Heap}
end
def Evs (G : Hp) : List Addr → List (Nat × List V) → Prop
  | [], [] => True
  | p :: ps, t :: ts => (∃ q, G p = some (.tup [.int t.1, .ref q]) ∧ G q = some (.tup t.2)) ∧ Evs G ps ts
  | _, _ => False
theorem Evs.mono {G G' : Hp} (m : ∀ p x, G p = some (.tup x) → G' p = some (.tup x)) : ∀ {ps : List Addr} {ts : List (Nat × List V)}, Evs G ps ts → Evs G' ps ts
  | [], [], _ => trivial
  | _ :: _, _ :: _, ⟨⟨q, a, c⟩, b⟩ => ⟨⟨q, m _ _ a, m _ _ c⟩, Evs.mono m b⟩
  | [], _ :: _, h => h.elim
  | _ :: _, [], h => h.elim
theorem Evs.snoc {G : Hp} {p q : Addr} {t : Nat × List V} (e : G p = some (.tup [.int t.1, .ref q])) (e' : G q = some (.tup t.2)) : ∀ {ps : List Addr} {ts : List (Nat × List V)}, Evs G ps ts → Evs G (ps ++ [p]) (ts ++ [t])
  | [], [], _ => ⟨⟨q, e, e'⟩, trivial⟩
  | _ :: _, _ :: _, ⟨a, b⟩ => ⟨a, Evs.snoc e e' b⟩
  | [], _ :: _, h => h.elim
  | _ :: _, [], h => h.elim
theorem Evs.len {G : Hp} : ∀ {ps : List Addr} {ts : List (Nat × List V)}, Evs G ps ts → ps.length = ts.length
  | [], [], _ => rfl
  | _ :: _, _ :: _, ⟨_, b⟩ => by simp [Evs.len b]
  | [], _ :: _, h => h.elim
  | _ :: _, [], h => h.elim
section
variable {P : Program} {w : World} {K : PySem.W.Frag} {mg : Str → Option Value} {base : Heap}
end
section
variable {P : Program} {w : World} {K : PySem.W.Frag} {mg : Str → Option Value} {base : Heap}
end
section
variable {P : Program} {w : World} {K : PySem.W.Frag} {mg : Str → Option Value} {base : Heap}
end
section
variable {P : Program} {w : World} {K : PySem.W.Frag} {mg : Str → Option Value} {base : Heap}
end
/-! what the program is to answer -/
def Dd.deed : Dd → Rm.Deed
  | .want h => .want h | .go h k => .go h k.toNat | .leave h => .leave h | .round => .round
section
variable {P : Program} {w : World} {K : PySem.W.Frag} {mg : Str → Option Value} {base : Heap}
abbrev sRoomL : Stmt := top 14
def spRoomL (K : PySem.W.Frag) : Sp := fun vs H Q _ => ∃ (a : Addr) (ns : List Int) (i j : Int), vs = [.ref a, .int i, .int j] ∧ SqL K H a (ns.map V.int) ∧ Q (.int (if 63 < ns.length then j else i)) H
theorem scRoomL : FnScope ["_law_script", "_law_most", "_law_bound"] ["_law_script", "_law_most", "_law_bound"] (defScope sRoomL) := ⟨rfl, rfl, rfl, by decide +kernel, rfl, by decide +kernel, by decide +kernel⟩
theorem ok_roomL {f : Addr} {fd : FuncData} (F : Fun K "_law_room" "_law_room" sRoomL f fd) (T : Blt mg) : FnOk P w K mg base CX0 1 f fd ["_law_script", "_law_most", "_law_bound"] (spRoomL K) := by
  refine F.ok scRoomL (fun vs H Q E h => ?_) (fun cdv A outer s H vs Q E hr h => ?_)
  · obtain ⟨a, ns, i, j, rfl, _⟩ := h
    rfl
  · obtain ⟨a, ns, i, j, rfl, ha, q⟩ := h
    refine ⟨_, (pss_cons (ps_if (pt_cmpR op_gt (pe_callB call_len_seq (by rfl) T.b_len PyProof.Rows.Boot.len (pac (pv 0) pa_nil)) pe_int (nomark _)) (pss_one (ps_ret (pv 2))) pss_nil)
      (pss_one (ps_ret (pv 1)))), ?_⟩
    walk_at "rd"
    refine ⟨_, .inl ha, ?_⟩
    rw [List.length_map]
    by_cases h : 63 < ns.length
    · rw [if_pos h] at q
      rw [if_pos (by omega)]; exact q
    · rw [if_neg h] at q
      rw [if_neg (by omega)]; exact q
end
section
variable {P : Program} {w : World} {K : PySem.W.Frag} {mg : Str → Option Value} {base : Heap}
theorem vd_noLst (l : List Rm.Visit) : Dat.noLsts (l.map visitD) = true := noLsts_of fun d hd => by
  obtain ⟨u, _, rfl⟩ := List.mem_map.mp hd
  obtain ⟨a, b, c, d, e, f⟩ := u
  cases c <;> cases d <;> cases e <;> cases f <;> rfl
theorem vd_noLst1 (u : Rm.Visit) : (visitD u).noLst = true := by
  obtain ⟨a, b, c, d, e, f⟩ := u
  cases c <;> cases d <;> cases e <;> cases f <;> rfl
end
/-! what all laws of stories begin with -/
theorem cut_cells (ns : List Int) (r : Nat) : cutV (ns.map V.int) (some 1) (some (1 + (r : Int))) = ((ns.drop 1).take r).map V.int := by
  have e1 : HT.sIx (ns.map V.int).length 0 (some 1) = min 1 ns.length := by
    have := HT.sIx_nat (ns.map V.int).length 0 1
    rw [List.length_map] at this ⊢
    exact this
  have e2 : HT.sIx (ns.map V.int).length (ns.map V.int).length (some (1 + (r : Int))) = min (1 + r) ns.length := by
    have := HT.sIx_nat (ns.map V.int).length (ns.map V.int).length (1 + r)
    rw [List.length_map] at this ⊢
    rw [← this]
    congr 2
  unfold cutV
  rw [e1, e2]
  cases ns with
  | nil => simp
  | cons x l =>
    rw [show min 1 (x :: l).length = 1 by simp, ← List.map_drop, ← List.map_take]
    congr 1
    simp only [List.drop_one, List.tail_cons, List.length_cons]
    rw [List.take_eq_take_iff]
    omega
/-! the program's answers -/
def AA (n : Int) (ds : List Dd) : List Rm.Visit × List Seen :=
  ((List.range (Rm.run n.toNat (ds.map Dd.deed)).1.m).map (Rm.run n.toNat (ds.map Dd.deed)).1.vis, (List.range n.toNat).map fun i => (((Rm.run n.toNat (ds.map Dd.deed)).1.hands i).flag, ((Rm.run n.toNat (ds.map Dd.deed)).1.hands i).ticket, wS ((Rm.run n.toNat (ds.map Dd.deed)).1.hands i).word))
section
variable {P : Program} {w : World} {K : PySem.W.Frag} {mg : Str → Option Value} {base : Heap}
def spLaw (K : PySem.W.Frag) : Sp := fun vs H Q _ => ∃ (a : Addr) (ns : List Int), vs = [.ref a] ∧ SqL K H a (ns.map V.int) ∧ ∀ G, Same H G → Q (.bl true) G
end
def hadLeft (v : Rm.Visit) (t : Nat) : Bool := match v.left with | some x => decide (x ≤ t) | none => false
def togetherB (u v : Rm.Visit) : Bool := match u.entered, v.entered with | some e, some f => !hadLeft u f && !hadLeft v e | _, _ => false
def aheadB (u v : Rm.Visit) : Bool := match u.entered with | none => false | some e => (match v.entered with | none => true | some f => decide (e < f))
def passedB (u v : Rm.Visit) : Bool := match v.lowered with | none => false | some l => if u.wanted ≤ l then false else aheadB u v && !hadLeft v (u.entered.getD 0)
def badB (u v : Rm.Visit) : Bool := togetherB u v || (passedB u v || passedB v u)
structure ConJ (mg : Str → Option Value) : Prop where
  g_WANTED : ∃ t, mg "WANTED" = some (.int 1 t)
  g_LOWERED : ∃ t, mg "LOWERED" = some (.int 2 t)
  g_ENTERED : ∃ t, mg "ENTERED" = some (.int 4 t)
  g_LEFT : ∃ t, mg "LEFT" = some (.int 5 t)
theorem cut_drop (xs : List V) (k : Nat) : cutV xs (some ((k : Nat) : Int)) none = xs.drop k := by
  unfold cutV
  rw [HT.sIx_nat, HT.sIx_none]
  by_cases h : k ≤ xs.length
  · rw [Nat.min_eq_left h, List.take_of_length_le (by rw [List.length_drop]; omega)]
  · rw [Nat.min_eq_right (by omega), List.drop_length, List.take_nil, List.drop_of_length_le (by omega)]
section
variable {P : Program} {w : World} {K : PySem.W.Frag} {mg : Str → Option Value} {base : Heap}
abbrev sHadLeft : Stmt := top 5
def spHadLeft : Sp := fun vs H Q _ => ∃ (a : Addr) (v : Rm.Visit) (t : Nat), vs = [.ref a, .int t] ∧ H a = some (.tup (visitV v)) ∧ Q (.bl (hadLeft v t)) H
theorem scHadLeft : FnScope ["visit", "by"] ["visit", "by"] (defScope sHadLeft) := ⟨rfl, rfl, rfl, by decide +kernel, rfl, by decide +kernel, by decide +kernel⟩
theorem ok_hadLeft {f : Addr} {fd : FuncData} (F : Fun K "had_left" "had_left" sHadLeft f fd) (T : ConJ mg) : FnOk P w K mg base CX0 1 f fd ["visit", "by"] spHadLeft := by
  refine F.ok scHadLeft (fun vs H Q E h => ?_) (fun cdv A outer s H vs Q E hr h => ?_)
  · obtain ⟨a, v, t, rfl, _⟩ := h
    rfl
  · obtain ⟨a, v, t, rfl, ha, q⟩ := h
    refine ⟨_, (pss_one (ps_ret (pe_and (pe_cmpR op_notN (pe_ix ix_seq (pv 0) (pe_gi (by rfl) T.g_LEFT) (by exact fun _ _ => rfl)) pe_non (nomark _)) (pe_one (pe_cmpR op_le (pe_ix ix_seq (pv 0) (pe_gi (by rfl) T.g_LEFT) (by exact fun _ _ => rfl)) (pv 1) (nomark _)))))), ?_⟩
    have f5 : atI (visitV v) 5 = some (onV v.left) := rfl
    walk_at "rd"
    refine rix_t ha f5 ?_
    cases hl : v.left with
    | none =>
      rw [if_neg (by simp [onV])]
      simp only [hadLeft, hl] at q
      exact q
    | some x =>
      rw [hl] at f5
      rw [if_pos (by simp [onV])]
      refine rix_t ha f5 ⟨_, rfl, ?_⟩
      simp only [hadLeft, hl] at q
      simp only [Int.ofNat_le]
      exact q
abbrev sTogether : Stmt := top 6
def spTwo (B : Rm.Visit → Rm.Visit → Bool) : Sp := fun vs H Q _ => ∃ (a b : Addr) (u v : Rm.Visit), vs = [.ref a, .ref b] ∧ H a = some (.tup (visitV u)) ∧ H b = some (.tup (visitV v)) ∧ Q (.bl (B u v)) H
theorem scTogether : FnScope ["one", "other"] ["one", "other"] (defScope sTogether) := ⟨rfl, rfl, rfl, by decide +kernel, rfl, by decide +kernel, by decide +kernel⟩
theorem ok_together {f : Addr} {fd : FuncData} (F : Fun K "within_together" "within_together" sTogether f fd) (T : ConJ mg) (c_had_left : FnBy P w K mg base CX0 1 "had_left" ["visit", "by"] spHadLeft) : FnOk P w K mg base CX0 2 f fd ["one", "other"] (spTwo togetherB) := by
  refine F.ok scTogether (fun vs H Q E h => ?_) (fun cdv A outer s H vs Q E hr h => ?_)
  · obtain ⟨a, b, u, v, rfl, _⟩ := h
    rfl
  · obtain ⟨a, b, u, v, rfl, ha, hb, q⟩ := h
    refine ⟨_, (pss_cons (ps_if (pw_or (pt_cmpR op_isN (pe_ix ix_seq (pv 0) (pe_gi (by rfl) T.g_ENTERED) (by exact fun _ _ => rfl)) pe_non (nomark _)) (pw_or1 (pt_cmpR op_isN (pe_ix ix_seq (pv 1) (pe_gi (by rfl) T.g_ENTERED) (by exact fun _ _ => rfl)) pe_non (nomark _)))).pt (pss_one (ps_ret pe_bl)) pss_nil)
      (pss_one (ps_ret (pe_and (pe_not (pe_fn c_had_left (hr.mono (by decide)) (by rfl) pass0 (pac (pv 0) (pac (pe_ix ix_seq (pv 1) (pe_gi (by rfl) T.g_ENTERED) (by exact fun _ _ => rfl)) pa_nil)))) (pe_one (pe_not (pe_fn c_had_left (hr.mono (by decide)) (by rfl) pass0 (pac (pv 1) (pac (pe_ix ix_seq (pv 0) (pe_gi (by rfl) T.g_ENTERED) (by exact fun _ _ => rfl)) pa_nil))))))))), ?_⟩
    have f4 : atI (visitV u) 4 = some (onV u.entered) := rfl
    have g4 : atI (visitV v) 4 = some (onV v.entered) := rfl
    walk_at "rd"
    refine rix_t ha f4 ?_
    cases hu : u.entered with
    | none =>
      rw [if_pos (show onV none = V.non from rfl)]
      simp only [togetherB, hu] at q
      simp only [if_true]
      exact q
    | some e =>
      rw [hu] at f4
      rw [if_neg (by simp [onV])]
      refine rix_t hb g4 ?_
      cases hv : v.entered with
      | none =>
        rw [if_pos (show onV none = V.non from rfl)]
        simp only [togetherB, hu, hv] at q
        exact q
      | some f =>
        rw [hv] at g4
        rw [if_neg (by simp [onV])]
        simp only [togetherB, hu, hv] at q
        refine rix_t hb g4 ⟨a, u, f, rfl, ha, _, rfl, ?_⟩
        cases h1 : hadLeft u f with
        | true =>
          rw [if_neg (by simp)]
          rw [h1] at q
          exact q
        | false =>
          rw [if_pos (by simp)]
          rw [h1] at q
          exact rix_t ha f4 ⟨b, v, e, rfl, hb, _, rfl, q⟩
abbrev sAheadJ : Stmt := top 7
theorem scAheadJ : FnScope ["one", "other"] ["one", "other"] (defScope sAheadJ) := ⟨rfl, rfl, rfl, by decide +kernel, rfl, by decide +kernel, by decide +kernel⟩
theorem ok_aheadJ {f : Addr} {fd : FuncData} (F : Fun K "entered_ahead" "entered_ahead" sAheadJ f fd) (T : ConJ mg) : FnOk P w K mg base CX0 1 f fd ["one", "other"] (spTwo aheadB) := by
  refine F.ok scAheadJ (fun vs H Q E h => ?_) (fun cdv A outer s H vs Q E hr h => ?_)
  · obtain ⟨a, b, u, v, rfl, _⟩ := h
    rfl
  · obtain ⟨a, b, u, v, rfl, ha, hb, q⟩ := h
    refine ⟨_, (pss_cons (ps_if (pt_cmpR op_isN (pe_ix ix_seq (pv 0) (pe_gi (by rfl) T.g_ENTERED) (by exact fun _ _ => rfl)) pe_non (nomark _)) (pss_one (ps_ret pe_bl)) pss_nil)
      (pss_one (ps_ret (pe_or (pe_cmpR op_isN (pe_ix ix_seq (pv 1) (pe_gi (by rfl) T.g_ENTERED) (by exact fun _ _ => rfl)) pe_non (nomark _)) (pe_one (pe_cmpR op_lt (pe_ix ix_seq (pv 0) (pe_gi (by rfl) T.g_ENTERED) (by exact fun _ _ => rfl)) (pe_ix ix_seq (pv 1) (pe_gi (by rfl) T.g_ENTERED) (by exact fun _ _ => rfl)) (nomark _))))))), ?_⟩
    have f4 : atI (visitV u) 4 = some (onV u.entered) := rfl
    have g4 : atI (visitV v) 4 = some (onV v.entered) := rfl
    walk_at "rd"
    refine rix_t ha f4 ?_
    cases hu : u.entered with
    | none =>
      rw [if_pos (show onV none = V.non from rfl)]
      simp only [aheadB, hu] at q
      exact q
    | some e =>
      rw [hu] at f4
      rw [if_neg (by simp [onV])]
      refine rix_t hb g4 ?_
      cases hv : v.entered with
      | none =>
        simp only [aheadB, hu, hv] at q
        rw [if_pos (by simp [onV])]
        exact q
      | some f =>
        rw [hv] at g4
        simp only [aheadB, hu, hv] at q
        rw [if_neg (by simp [onV])]
        refine rix_t ha f4 (rix_t hb g4 ⟨_, rfl, _, rfl, ?_⟩)
        simp only [Int.ofNat_lt]
        exact q
abbrev sPassed : Stmt := top 8
theorem scPassed : FnScope ["one", "other"] ["one", "other"] (defScope sPassed) := ⟨rfl, rfl, rfl, by decide +kernel, rfl, by decide +kernel, by decide +kernel⟩
theorem ok_passed {f : Addr} {fd : FuncData} (F : Fun K "passed_by" "passed_by" sPassed f fd) (T : ConJ mg) (c_had_left : FnBy P w K mg base CX0 1 "had_left" ["visit", "by"] spHadLeft) (c_entered_ahead : FnBy P w K mg base CX0 1 "entered_ahead" ["one", "other"] (spTwo aheadB)) : FnOk P w K mg base CX0 2 f fd ["one", "other"] (spTwo passedB) := by
  refine F.ok scPassed (fun vs H Q E h => ?_) (fun cdv A outer s H vs Q E hr h => ?_)
  · obtain ⟨a, b, u, v, rfl, _⟩ := h
    rfl
  · obtain ⟨a, b, u, v, rfl, ha, hb, q⟩ := h
    refine ⟨_, (pss_cons (ps_if (pw_or (pt_cmpR op_isN (pe_ix ix_seq (pv 1) (pe_gi (by rfl) T.g_LOWERED) (by exact fun _ _ => rfl)) pe_non (nomark _)) (pw_or1 (pt_cmpR op_ge (pe_ix ix_seq (pv 1) (pe_gi (by rfl) T.g_LOWERED) (by exact fun _ _ => rfl)) (pe_ix ix_seq (pv 0) (pe_gi (by rfl) T.g_WANTED) (by exact fun _ _ => rfl)) (nomark _)))).pt (pss_one (ps_ret pe_bl)) pss_nil)
      (pss_one (ps_ret (pe_and (pe_fn c_entered_ahead (hr.mono (by decide)) (by rfl) pass0 (pac (pv 0) (pac (pv 1) pa_nil))) (pe_one (pe_not (pe_fn c_had_left (hr.mono (by decide)) (by rfl) pass0 (pac (pv 1) (pac (pe_ix ix_seq (pv 0) (pe_gi (by rfl) T.g_ENTERED) (by exact fun _ _ => rfl)) pa_nil))))))))), ?_⟩
    have f1 : atI (visitV u) 1 = some (.int u.wanted) := rfl
    have f4 : atI (visitV u) 4 = some (onV u.entered) := rfl
    have g2 : atI (visitV v) 2 = some (onV v.lowered) := rfl
    walk_at "rd"
    refine rix_t hb g2 ?_
    cases hl : v.lowered with
    | none =>
      rw [if_pos (show onV none = V.non from rfl)]
      simp only [passedB, hl] at q
      simp only [if_true]
      exact q
    | some l =>
      rw [hl] at g2
      rw [if_neg (by simp [onV])]
      simp only [passedB, hl] at q
      refine rix_t hb g2 (rix_t ha f1 ⟨_, rfl, _, rfl, ?_⟩)
      by_cases hle : u.wanted ≤ l
      · rw [if_pos hle] at q
        rw [if_pos (by omega)]
        exact q
      · rw [if_neg hle] at q
        rw [if_neg (by omega)]
        refine ⟨a, b, u, v, rfl, ha, hb, _, rfl, ?_⟩
        cases h1 : aheadB u v with
        | false =>
          rw [if_neg (by simp)]
          rw [h1] at q
          exact q
        | true =>
          rw [if_pos rfl]
          rw [h1] at q
          cases hu : u.entered with
          | none => simp [aheadB, hu] at h1
          | some e =>
            rw [hu] at f4 q
            exact rix_t ha f4 ⟨b, v, e, rfl, hb, _, rfl, q⟩
/-- any two of the visits, the one ahead of the other -/
def anyBad : List Rm.Visit → Bool
  | [] => false
  | u :: r => r.any (badB u) || anyBad r
def fairB (vis : List Rm.Visit) : Bool := !anyBad vis
abbrev sFair : Stmt := top 9
def spFair : Sp := fun vs H Q _ => ∃ (x : V) (vis : List Rm.Visit), vs = [x] ∧ vis.length ≤ 900 ∧ DV H x (.lst (vis.map visitD)) ∧ ∀ G, Same H G → Q (.bl (fairB vis)) G
theorem scFair : FnScope ["visits", "place", "one", "other"] ["visits"] (defScope sFair) := ⟨rfl, rfl, rfl, by decide +kernel, rfl, by decide +kernel, by decide +kernel⟩
theorem ok_fair {f : Addr} {fd : FuncData} (F : Fun K "fair" "fair" sFair f fd) (b_enum : mg "enumerate" = none) (c_within_together : FnBy P w K mg base CX0 2 "within_together" ["one", "other"] (spTwo togetherB)) (c_passed_by : FnBy P w K mg base CX0 2 "passed_by" ["one", "other"] (spTwo passedB)) : FnOk P w K mg base CX0 3 f fd ["visits"] spFair := by
  refine F.ok scFair (fun vs H Q E h => ?_) (fun cdv A outer s H vs Q E hr h => ?_)
  · obtain ⟨x, vis, rfl, _⟩ := h
    rfl
  · obtain ⟨x, vis, rfl, hlen, dv, q⟩ := h
    have SC := scFair
    refine ⟨_, (pss_cons (ps_for PassesOwn.never rfl (pi_enum (by rfl) b_enum (pac (pv 0) pa_nil)) (pg_tup rfl (pgs_cons (pg_name (i := 1) SC.nd (by rfl) (Or.inl (by rfl))) (pgs_cons (pg_name (i := 2) SC.nd (by rfl) (Or.inl (by rfl))) pgs_nil))) (pss_one (ps_for PassesOwn.never rfl (pi_list (pe_slice sl_list (pv 0) (po_some (pe_op op_add (pv 1) pe_int)) po_none)) (pg_name (i := 3) SC.nd (by rfl) (Or.inl (by rfl))) (pss_one (ps_if (pw_or (pt_val (pe_fn c_within_together (hr.mono (by decide)) (by rfl) pass0 (pac (pv 2) (pac (pv 3) pa_nil)))) (pw_or (pt_val (pe_fn c_passed_by (hr.mono (by decide)) (by rfl) pass0 (pac (pv 2) (pac (pv 3) pa_nil)))) (pw_or1 (pt_val (pe_fn c_passed_by (hr.mono (by decide)) (by rfl) pass0 (pac (pv 3) (pac (pv 2) pa_nil))))))).pt (pss_one (ps_ret pe_bl)) pss_nil)))))
      (pss_one (ps_ret pe_bl))), ?_⟩
    obtain ⟨a, xs, rfl, ha, dx⟩ := dv_same_lst dv
    have xl : xs.length = vis.length := by rw [dx.length, List.length_map]
    refine ⟨_, rfl, a, rfl, ⟨_, .of ha⟩, for_enum (K := K) (a := a) (xs := xs) (fun i σ H2 => ∃ x y z, σ = [some (.ref a), x, y, z] ∧ Same H H2 ∧ anyBad vis = anyBad (vis.drop i)) ⟨_, _, _, rfl, Same.refl _, rfl⟩ (fun i σ H2 _ ⟨_, _, _, _, s, _⟩ => .of (s _ _ ha)) ?_ ?_⟩
    · rintro i v T σ H2 H3 hi ⟨x, y, z, rfl, sm, an⟩ nT
      have hil : i < vis.length := by
        have := (List.getElem?_eq_some_iff.mp hi).1
        omega
      obtain ⟨v', hv, dv1⟩ := dx.get (i := i) (d := visitD vis[i]) (by simp [hil])
      rw [hi] at hv
      cases hv
      obtain ⟨c, rfl, hc⟩ := dv_visit dv1
      have s3 : Same H H3 := sm.trans nT.same
      refine ⟨T, _, rfl, SqT.of nT.at, rfl, _, _, rfl, _, _, rfl, rfl, ?_⟩
      refine ⟨_, rfl, _, rfl, _, _, rfl, rfl, _, rfl, a, xs, rfl, .of (s3 _ _ ha), fun p hp => ?_⟩
      have ecut : cutV xs (some ((i : Int) + 1)) none = xs.drop (i + 1) := cut_drop xs (i + 1)
      rw [ecut]
      have nP : New H3 p (.lst (xs.drop (i + 1))) (upd H3 p (.lst (xs.drop (i + 1)))) := ⟨hp, rfl⟩
      generalize upd H3 p (.lst (xs.drop (i + 1))) = H4 at nP
      have s4 : Same H H4 := s3.trans nP.same
      have dcons : vis.drop i = vis[i] :: vis.drop (i + 1) := List.drop_eq_getElem_cons hil
      refine ⟨p, rfl, ⟨_, .of nP.at⟩, for_list (K := K) (a := p) (xs := xs.drop (i + 1)) (fun j σ H5 => ∃ z, σ = [some (.ref a), some (.int i), some (.ref c), z] ∧ Same H4 H5 ∧ ((vis.drop (i + 1)).take j).any (badB vis[i]) = false) ⟨_, rfl, Same.refl _, rfl⟩ (fun j σ H5 _ ⟨_, _, s, _⟩ => .of (s _ _ nP.at)) ?_ ?_⟩
      · rintro j v σ H5 hj ⟨z, rfl, s5, an5⟩
        rw [List.getElem?_drop] at hj
        have hjl : i + 1 + j < vis.length := by
          have := (List.getElem?_eq_some_iff.mp hj).1
          omega
        obtain ⟨v', hv, dv2⟩ := dx.get (i := i + 1 + j) (d := visitD vis[i + 1 + j]) (by simp [hjl])
        rw [hj] at hv
        cases hv
        obtain ⟨c', rfl, hc'⟩ := dv_visit dv2
        have s6 : Same H H5 := s4.trans s5
        have hc5 := s6 _ _ hc
        have hc5' := s6 _ _ hc'
        have tk : (vis.drop (i + 1)).take (j + 1) = (vis.drop (i + 1)).take j ++ [vis[i + 1 + j]] := by
          rw [List.take_succ_eq_append_getElem (by rw [List.length_drop]; omega)]
          simp
        have ret : badB vis[i] vis[i + 1 + j] = true → Q (.bl false) H5 := by
          intro hb
          have e : fairB vis = false := by
            unfold fairB
            rw [an, dcons]
            have : (vis.drop (i + 1)).any (badB vis[i]) = true := by
              rw [List.any_eq_true]
              refine ⟨vis[i + 1 + j], ?_, hb⟩
              rw [List.mem_iff_getElem?]
              exact ⟨j, by rw [List.getElem?_drop, List.getElem?_eq_getElem hjl]⟩
            simp only [anyBad, this, Bool.true_or, Bool.not_true]
          rw [e] at q
          exact q _ s6
        have go : badB vis[i] vis[i + 1 + j] = false → ((vis.drop (i + 1)).take (j + 1)).any (badB vis[i]) = false := by
          intro hb
          rw [tk, List.any_append, an5]
          simp [hb]
        unfold badB at ret go
        walk_at "rd"
        refine ⟨c, c', vis[i], vis[i + 1 + j], rfl, hc5, hc5', _, rfl, ?_⟩
        cases h1 : togetherB vis[i] vis[i + 1 + j] with
        | true =>
          rw [h1] at ret
          rw [if_pos rfl]
          exact ret rfl
        | false =>
          rw [h1] at ret go
          rw [if_neg (by simp)]
          refine ⟨c, c', vis[i], vis[i + 1 + j], rfl, hc5, hc5', _, rfl, ?_⟩
          cases h2 : passedB vis[i] vis[i + 1 + j] with
          | true =>
            rw [h2] at ret
            rw [if_pos rfl]
            exact ret rfl
          | false =>
            rw [h2] at ret go
            rw [if_neg (by simp)]
            refine ⟨c', c, vis[i + 1 + j], vis[i], rfl, hc5', hc5, _, rfl, ?_⟩
            cases h3 : passedB vis[i + 1 + j] vis[i] with
            | true =>
              rw [h3] at ret
              rw [if_pos rfl]
              exact ret rfl
            | false =>
              rw [h3] at go
              rw [if_neg (by simp)]
              exact ⟨s5, go rfl⟩
      · rintro σ H5 ⟨z, rfl, s5, an5⟩
        refine ⟨_, _, _, rfl, s4.trans s5, ?_⟩
        rw [List.length_drop, xl, List.take_of_length_le (by rw [List.length_drop]; omega)] at an5
        rw [an, dcons]
        simp only [anyBad, an5, Bool.false_or]
    · rintro σ H2 ⟨x, y, z, rfl, sm, an⟩
      rw [xl, List.drop_length] at an
      have e : fairB vis = true := by unfold fairB; rw [an]; rfl
      rw [e] at q
      exact q _ sm
end
def rr (c m k : Int) : Nat := (c * 48271 % m % k).toNat
theorem rr_eq (c m k : Int) (hk : 0 < k) : c * 48271 % m % k = ((rr c m k : Nat) : Int) := by
  unfold rr
  have := Int.emod_nonneg (c * 48271 % m) (show k ≠ 0 by omega)
  omega
theorem rr_lt (c m : Int) (k : Nat) (hk : 0 < k) : rr c m k < k := by
  unfold rr
  have := Int.emod_lt_of_pos (c * 48271 % m) (show (0 : Int) < k by omega)
  have := Int.emod_nonneg (c * 48271 % m) (show (k : Int) ≠ 0 by omega)
  omega
def vway (k : Nat) (c calm : Int) : Nat := rr c 1031 9 * (if calm ≤ (k : Int) then 1 else 0)
def vt (c : Int) (time : Nat) : Nat := time + 1 + rr c 1009 4
def vlo (c : Int) (t : Nat) : Nat := t + 1 + rr c 1013 3
def ven (c : Int) (lo free : Nat) : Nat := max lo free + rr c 1019 3
def vfr (c : Int) (en : Nat) : Nat := en + 1 + rr c 1021 3
def v1 (w : Nat) (v : Rm.Visit) : Rm.Visit := if w = 1 ∨ w = 5 then { v with entered := none } else v
def v2 (w : Nat) (v : Rm.Visit) : Rm.Visit := if w = 5 then { v with left := none } else v
def v3 (w : Nat) (c : Int) (lo fr : Nat) (v : Rm.Visit) : Rm.Visit := if w = 2 then { v with entered := some (lo + rr c 1033 4), left := some (max fr (lo + rr c 1033 4 + 1)) } else v
def v4 (w : Nat) (v : Rm.Visit) : Rm.Visit := if w = 3 then { v with left := none } else v
def v5 (w k t : Nat) (v : Rm.Visit) : Rm.Visit := if w = 4 then ⟨k % 4, t, none, none, none, some (t + 1)⟩ else v
def v0 (k t lo en fr : Nat) : Rm.Visit := ⟨k % 4, t, some lo, some (1 + k), some en, some fr⟩
def visAt (k : Nat) (c calm : Int) (time free : Nat) : Rm.Visit :=
  let t := vt c time
  let lo := vlo c t
  let en := ven c lo free
  let fr := vfr c en
  let w := vway k c calm
  v5 w k t (v4 w (v3 w c lo fr (v2 w (v1 w (v0 k t lo en fr)))))
def vst (cs : List Int) (calm : Int) : Nat → Nat × Nat × List Rm.Visit
  | 0 => (0, 0, [])
  | k + 1 =>
    let s := vst cs calm k
    let c := cs.getD k 0 + 7 * k
    (vt c s.1, vfr c (ven c (vlo c (vt c s.1)) s.2.1), s.2.2 ++ [visAt k c calm s.1 s.2.1])
theorem vst_len (cs : List Int) (calm : Int) : ∀ k, (vst cs calm k).2.2.length = k
  | 0 => rfl
  | k + 1 => by simp [vst, vst_len cs calm k]
theorem dv_visJ {H : Hp} {l : Addr} {u : Rm.Visit} (h : H l = some (.tup (visitV u))) : DV H (.ref l) (visitD u) := by
  unfold visitD
  rw [DV]
  refine ⟨l, _, rfl, h, ?_⟩
  unfold visitV
  rw [dvs_cc, dvs_cc, dvs_cc, dvs_cc, dvs_cc, dvs_cc, dv_on, dv_on, dv_on, dv_on]
  exact ⟨by unfold DV; rfl, by unfold DV; rfl, rfl, rfl, rfl, rfl, DVs.nil⟩
theorem setR {H2 H3 : Hp} {rw : Addr} {v v' : Rm.Visit} {y : V} {n : Int} {j : Nat} {R : Hp → Prop} (h : H3 rw = some (.lst (visitV v))) (e1 : ixN 6 n = some j) (e2 : (visitV v).set j y = visitV v') (s : Same H2 H3) (hn : H2 rw = none) (hR : ∀ G, Same H2 G → G rw = some (.lst (visitV v')) → R G) : rSetLN (.ref rw) (.int n) y H3 R :=
  ⟨rw, _, n, j, rfl, rfl, h, e1, fun G pu => hR G (pu.same s hn) (by rw [pu.at, e2])⟩
section
variable {P : Program} {w : World} {K : PySem.W.Frag} {mg : Str → Option Value} {base : Heap}
abbrev sVisBy : Stmt := top 12
def spVisBy : Sp := fun vs H Q _ => ∃ (a : Addr) (cs : List Int) (calm : Int), vs = [.ref a, .int calm] ∧ H a = some (.lst (cs.map V.int)) ∧ cs.length ≤ 200 ∧ ∀ v G, Same H G → DV G v (.lst ((vst cs calm cs.length).2.2.map visitD)) → Q v G
abbrev nmVis : List Str := ["_law_cells", "_law_calm", "_law_visits", "_law_time", "_law_free", "_law_k", "_law_cell", "_law_lowered", "_law_entered", "_law_row", "_law_way"]
theorem scVisBy : FnScope nmVis ["_law_cells", "_law_calm"] (defScope sVisBy) := ⟨rfl, rfl, rfl, by decide +kernel, rfl, by decide +kernel, by decide +kernel⟩
theorem ok_visBy {f : Addr} {fd : FuncData} (F : Fun K "_law_visits_by" "_law_visits_by" sVisBy f fd) (T : Blt mg) (b_max : mg "max" = none) : FnOk P w K mg base CX0 1 f fd ["_law_cells", "_law_calm"] spVisBy := by
  refine F.ok scVisBy (fun vs H Q E h => ?_) (fun cdv A outer s H vs Q E hr h => ?_)
  · obtain ⟨a, cs, calm, rfl, _⟩ := h
    rfl
  · obtain ⟨a, cs, calm, rfl, ha, hcl, q⟩ := h
    have SC := scVisBy
    refine ⟨_, (pss_cons (ps_set (i := 2) SC.nd (by rfl) (Or.inl (by rfl)) (pe_lstN pa_nil))
      (pss_cons (ps_set (i := 3) SC.nd (by rfl) (Or.inl (by rfl)) pe_int)
      (pss_cons (ps_set (i := 4) SC.nd (by rfl) (Or.inl (by rfl)) pe_int)
      (pss_cons (ps_for PassesOwn.never rfl (pi_range1 (by rfl) T.b_range (pac (pe_callB call_len_seq (by rfl) T.b_len PyProof.Rows.Boot.len (pac (pv 0) pa_nil)) pa_nil)) (pg_name (i := 5) SC.nd (by rfl) (Or.inl (by rfl))) (pss_cons (ps_set (i := 6) SC.nd (by rfl) (Or.inl (by rfl)) (pe_op op_add (pe_ix ix_seq (pv 0) (pv 5) (by exact fun _ _ => rfl)) (pe_op op_mul pe_int (pv 5))))
      (pss_cons (ps_set (i := 3) SC.nd (by rfl) (Or.inl (by rfl)) (pe_op op_add (pe_op op_add (pv 3) pe_int) (pe_op op_mod (pe_op op_mod (pe_op op_mul (pv 6) pe_int) pe_int) pe_int)))
      (pss_cons (ps_set (i := 7) SC.nd (by rfl) (Or.inl (by rfl)) (pe_op op_add (pe_op op_add (pv 3) pe_int) (pe_op op_mod (pe_op op_mod (pe_op op_mul (pv 6) pe_int) pe_int) pe_int)))
      (pss_cons (ps_set (i := 8) SC.nd (by rfl) (Or.inl (by rfl)) (pe_op op_add (pe_callB (call_max2 rfl) (by rfl) b_max PyProof.Rows.Boot.max (pac (pv 7) (pac (pv 4) pa_nil))) (pe_op op_mod (pe_op op_mod (pe_op op_mul (pv 6) pe_int) pe_int) pe_int)))
      (pss_cons (ps_set (i := 4) SC.nd (by rfl) (Or.inl (by rfl)) (pe_op op_add (pe_op op_add (pv 8) pe_int) (pe_op op_mod (pe_op op_mod (pe_op op_mul (pv 6) pe_int) pe_int) pe_int)))
      (pss_cons (ps_set (i := 9) SC.nd (by rfl) (Or.inl (by rfl)) (pe_lstN (pac (pe_op op_mod (pv 5) pe_int) (pac (pv 3) (pac (pv 7) (pac (pe_op op_add pe_int (pv 5)) (pac (pv 8) (pac (pv 4) pa_nil))))))))
      (pss_cutE (ps_set (i := 10) SC.nd (by rfl) (Or.inl (by rfl)) (pe_op op_mul (pe_op op_mod (pe_op op_mod (pe_op op_mul (pv 6) pe_int) pe_int) pe_int) (pe_callTy call_int1 (by rfl) T.b_int PyProof.Rows.Boot.int (pac (pe_cmpR op_ge (pv 5) (pv 1) (nomark _)) pa_nil))))
      (pss_cutE (ps_if (pw_or (pt_cmpR op_eq (pv 10) pe_int (nomark _)) (pw_or1 (pt_cmpR op_eq (pv 10) pe_int (nomark _)))).pt (pss_one (ps_asg pe_non (pg_sub (pv 9) pe_int set_listN))) pss_nil)
      (pss_cutE (ps_if (pt_cmpR op_eq (pv 10) pe_int (nomark _)) (pss_one (ps_asg pe_non (pg_sub (pv 9) pe_int set_listN))) pss_nil)
      (pss_cutE (ps_if (pt_cmpR op_eq (pv 10) pe_int (nomark _)) (pss_cons (ps_asg (pe_op op_add (pv 7) (pe_op op_mod (pe_op op_mod (pe_op op_mul (pv 6) pe_int) pe_int) pe_int)) (pg_sub (pv 9) pe_int set_listN))
      (pss_one (ps_asg (pe_callB (call_max2 rfl) (by rfl) b_max PyProof.Rows.Boot.max (pac (pv 4) (pac (pe_op op_add (pe_ix ix_seq (pv 9) pe_int (by exact fun _ _ => rfl)) pe_int) pa_nil))) (pg_sub (pv 9) pe_int set_listN)))) pss_nil)
      (pss_cutE (ps_if (pt_cmpR op_eq (pv 10) pe_int (nomark _)) (pss_one (ps_asg pe_non (pg_sub (pv 9) pe_int set_listN))) pss_nil)
      (pss_cutE (ps_if (pt_cmpR op_eq (pv 10) pe_int (nomark _)) (pss_one (ps_set (i := 9) SC.nd (by rfl) (Or.inl (by rfl)) (pe_lstN (pac (pe_op op_mod (pv 5) pe_int) (pac (pv 3) (pac pe_non (pac pe_non (pac pe_non (pac (pe_op op_add (pv 3) pe_int) pa_nil))))))))) pss_nil)
      (pss_one (ps_expr (pe_bm PySem.F.plainAttrs_list PySem.F.slot_list_append PySem.F.type_list_append mt_appendN (pv 2) (pac (pe_callTy call_tupleN (by rfl) T.b_tuple PyProof.Rows.Boot.tuple (pac (pv 9) pa_nil)) pa_nil)))))))))))))))))
      (pss_one (ps_ret (pv 2))))))), ?_⟩
    walk_at "rd"
    refine ⟨by decide, fun l G0 n0 => ?_⟩
    have hl0 := n0.free
    refine rfor_range (fun R R' hR ⟨v1, e, p, ys, e2, hs, h⟩ => ⟨v1, e, p, ys, e2, hs, hR _ _ h⟩) ⟨_, rfl, a, rfl, _, .inl (.of (n0.same _ _ ha)), _, rfl, by rw [List.length_map]; omega, by rw [List.length_map]; omega, fun k σ H2 => ∃ x5 x6 x7 x8 x9 x10 ys, σ = [some (.ref a), some (.int calm), some (.ref l), some (.int (vst cs calm k).1), some (.int (vst cs calm k).2.1), x5, x6, x7, x8, x9, x10] ∧ Same H H2 ∧ H2 l = some (.lst ys) ∧ DVs H2 ys ((vst cs calm k).2.2.map visitD), ⟨_, _, _, _, _, _, [], rfl, n0.same, n0.at, DVs.nil⟩, ?_, ?_⟩
    · rintro k σ H2 hk ⟨x5, x6, x7, x8, x9, x10, ys, rfl, sm, el, dy⟩
      rw [Int.toNat_natCast, List.length_map] at hk
      have hvl := vst_len cs calm k
      have evs : vst cs calm (k + 1) = (vt (cs.getD k 0 + 7 * k) (vst cs calm k).1, vfr (cs.getD k 0 + 7 * k) (ven (cs.getD k 0 + 7 * k) (vlo (cs.getD k 0 + 7 * k) (vt (cs.getD k 0 + 7 * k) (vst cs calm k).1)) (vst cs calm k).2.1), (vst cs calm k).2.2 ++ [visAt k (cs.getD k 0 + 7 * k) calm (vst cs calm k).1 (vst cs calm k).2.1]) := rfl
      have hck : atI (cs.map V.int) (k : Int) = some (.int (cs.getD k 0)) := atI_at (by rw [List.getElem?_map, List.getElem?_eq_getElem hk, List.getD_eq_getElem?_getD, List.getElem?_eq_getElem hk]; rfl)
      walk_at "rd"
      simp only [Int.zero_add, evs]
      generalize vst cs calm k = S at dy hvl
      obtain ⟨time, free, vs⟩ := S
      refine rix_l (sm _ _ ha) hck ?_
      refine ⟨cmul_7 _, _, rfl, cmul_a _, cmul_a _, cmul_a _, cmul_a _, by decide, fun rw0 G1 nr => ?_⟩
      simp only [] at nr
      have e0 : cs.getD k 0 + 7 * ((k : Nat) : Int) = cs.getD k 0 + 7 * (k : Int) := rfl
      generalize cs.getD k 0 + 7 * ((k : Nat) : Int) = c at nr
      have e1 : ((time : Nat) : Int) + 1 + c * 48271 % 1009 % 4 = ((vt c time : Nat) : Int) := by unfold vt; rw [rr_eq _ _ _ (by decide)]; omega
      rw [e1] at nr
      have e2 : ((vt c time : Nat) : Int) + 1 + c * 48271 % 1013 % 3 = ((vlo c (vt c time) : Nat) : Int) := by unfold vlo; rw [rr_eq _ _ _ (by decide)]; omega
      rw [e2] at nr
      have e3 : (if ((free : Nat) : Int) > ((vlo c (vt c time) : Nat) : Int) then ((free : Nat) : Int) else ((vlo c (vt c time) : Nat) : Int)) + c * 48271 % 1019 % 3 = ((ven c (vlo c (vt c time)) free : Nat) : Int) := by
        unfold ven
        rw [rr_eq _ _ _ (by decide)]
        split <;> omega
      rw [e3] at nr
      have e4 : ((ven c (vlo c (vt c time)) free : Nat) : Int) + 1 + c * 48271 % 1021 % 3 = ((vfr c (ven c (vlo c (vt c time)) free) : Nat) : Int) := by unfold vfr; rw [rr_eq _ _ _ (by decide)]; omega
      rw [e4] at nr
      simp only [e1, e2, e3, e4]
      unfold visAt
      simp only []
      generalize ht : vt c time = t at nr
      generalize hlo : vlo c t = lo at nr
      generalize hen : ven c lo free = en at nr
      generalize hfr : vfr c en = fr at nr
      have nr : New H2 rw0 (.lst (visitV (v0 k t lo en fr))) G1 := nr
      refine ⟨fun σ H3 => H3 = G1 ∧ σ = [some (.ref a), some (.int calm), some (.ref l), some (.int t), some (.int fr), some (.int k), some (.int c), some (.int lo), some (.int en), some (.ref rw0), some (.int (vway k c calm))], ?_, ?_⟩
      · walk_at "rd"
        refine ⟨cmul_a _, .inr ⟨.inr ?_, ?_⟩⟩
        · split <;> exact ⟨by decide, by decide⟩
        · unfold vway
          rw [rr_eq _ _ _ (by decide)]
          split <;> simp
      · rintro σ H3 ⟨rfl, rfl⟩
        generalize vway k c calm = wy
        refine ⟨fun σ H4 => ∃ rw, σ = [some (.ref a), some (.int calm), some (.ref l), some (.int t), some (.int fr), some (.int k), some (.int c), some (.int lo), some (.int en), some (.ref rw), some (.int wy)] ∧ Same H2 H4 ∧ H2 rw = none ∧ H4 rw = some (.lst (visitV (v1 wy (v0 k t lo en fr)))), ?_, ?_⟩
        · walk_at "rd"
          have s0 := nr.same
          by_cases h1 : wy = 1
          · rw [if_pos (by omega), if_pos trivial]
            refine ⟨_, rfl, setR (v' := { v0 k t lo en fr with entered := none }) nr.at rfl rfl s0 nr.free fun G sG eG => ⟨rw0, rfl, sG, nr.free, ?_⟩⟩
            rw [eG, v1, if_pos (.inl h1)]
          · rw [if_neg (by omega)]
            by_cases h5 : wy = 5
            · rw [if_pos (by omega)]
              refine ⟨_, rfl, setR (v' := { v0 k t lo en fr with entered := none }) nr.at rfl rfl s0 nr.free fun G sG eG => ⟨rw0, rfl, sG, nr.free, ?_⟩⟩
              rw [eG, v1, if_pos (.inr h5)]
            · rw [if_neg (by omega)]
              refine ⟨s0, nr.free, ?_⟩
              rw [nr.at, v1, if_neg (by omega)]
        · rintro σ H4 ⟨rw, rfl, s4, f4, g4⟩
          refine ⟨fun σ H4 => ∃ rw, σ = [some (.ref a), some (.int calm), some (.ref l), some (.int t), some (.int fr), some (.int k), some (.int c), some (.int lo), some (.int en), some (.ref rw), some (.int wy)] ∧ Same H2 H4 ∧ H2 rw = none ∧ H4 rw = some (.lst (visitV (v2 wy (v1 wy (v0 k t lo en fr))))), ?_, ?_⟩
          · walk_at "rd"
            by_cases h5 : wy = 5
            · rw [if_pos (by omega)]
              refine ⟨_, rfl, setR (v' := { v1 wy (v0 k t lo en fr) with left := none }) g4 rfl rfl s4 f4 fun G sG eG => ⟨rw, rfl, sG, f4, ?_⟩⟩
              rw [eG, v2, if_pos h5]
            · rw [if_neg (by omega)]
              refine ⟨s4, f4, ?_⟩
              rw [g4, v2, if_neg h5]
          · rintro σ H5 ⟨rw, rfl, s5, f5, g5⟩
            refine ⟨fun σ H4 => ∃ rw, σ = [some (.ref a), some (.int calm), some (.ref l), some (.int t), some (.int fr), some (.int k), some (.int c), some (.int lo), some (.int en), some (.ref rw), some (.int wy)] ∧ Same H2 H4 ∧ H2 rw = none ∧ H4 rw = some (.lst (visitV (v3 wy c lo fr (v2 wy (v1 wy (v0 k t lo en fr)))))), ?_, ?_⟩
            · walk_at "rd"
              by_cases h2 : wy = 2
              · rw [if_pos (by omega)]
                have er : ((lo : Nat) : Int) + c * 48271 % 1033 % 4 = ((lo + rr c 1033 4 : Nat) : Int) := by rw [rr_eq _ _ _ (by decide)]; omega
                have em : (if ((lo + rr c 1033 4 : Nat) : Int) + 1 > ((fr : Nat) : Int) then ((lo + rr c 1033 4 : Nat) : Int) + 1 else ((fr : Nat) : Int)) = ((max fr (lo + rr c 1033 4 + 1) : Nat) : Int) := by split <;> omega
                rw [er]
                refine ⟨cmul_a _, _, rfl, setR (v' := { v2 wy (v1 wy (v0 k t lo en fr)) with entered := some (lo + rr c 1033 4) }) g5 rfl rfl s5 f5 fun G sG eG => ?_⟩
                walk_at "rd"
                refine rix_l eG (show _ = some (.int ((lo + rr c 1033 4 : Nat) : Int)) from rfl) ⟨_, rfl, ?_⟩
                rw [em]
                refine ⟨_, rfl, setR (v' := { v2 wy (v1 wy (v0 k t lo en fr)) with entered := some (lo + rr c 1033 4), left := some (max fr (lo + rr c 1033 4 + 1)) }) eG rfl rfl sG f5 fun G2 sG2 eG2 => ⟨rw, rfl, sG2, f5, ?_⟩⟩
                rw [eG2, v3, if_pos h2]
              · rw [if_neg (by omega)]
                refine ⟨s5, f5, ?_⟩
                rw [g5, v3, if_neg h2]
            · rintro σ H6 ⟨rw, rfl, s6, f6, g6⟩
              refine ⟨fun σ H4 => ∃ rw, σ = [some (.ref a), some (.int calm), some (.ref l), some (.int t), some (.int fr), some (.int k), some (.int c), some (.int lo), some (.int en), some (.ref rw), some (.int wy)] ∧ Same H2 H4 ∧ H2 rw = none ∧ H4 rw = some (.lst (visitV (v4 wy (v3 wy c lo fr (v2 wy (v1 wy (v0 k t lo en fr))))))), ?_, ?_⟩
              · walk_at "rd"
                by_cases h3 : wy = 3
                · rw [if_pos (by omega)]
                  refine ⟨_, rfl, setR (v' := { v3 wy c lo fr (v2 wy (v1 wy (v0 k t lo en fr))) with left := none }) g6 rfl rfl s6 f6 fun G sG eG => ⟨rw, rfl, sG, f6, ?_⟩⟩
                  rw [eG, v4, if_pos h3]
                · rw [if_neg (by omega)]
                  refine ⟨s6, f6, ?_⟩
                  rw [g6, v4, if_neg h3]
              · rintro σ H7 ⟨rw, rfl, s7, f7, g7⟩
                refine ⟨fun σ H4 => ∃ rw, σ = [some (.ref a), some (.int calm), some (.ref l), some (.int t), some (.int fr), some (.int k), some (.int c), some (.int lo), some (.int en), some (.ref rw), some (.int wy)] ∧ Same H2 H4 ∧ H2 rw = none ∧ H4 rw = some (.lst (visitV (v5 wy k t (v4 wy (v3 wy c lo fr (v2 wy (v1 wy (v0 k t lo en fr)))))))), ?_, ?_⟩
                · walk_at "rd"
                  by_cases h4 : wy = 4
                  · rw [if_pos (by omega)]
                    refine ⟨by decide, fun rw2 G nw => ⟨s7.trans nw.same, ?_, ?_⟩⟩
                    · cases z : H2 rw2 with
                      | none => rfl
                      | some u => have := s7 _ _ z; rw [nw.free] at this; cases this
                    · rw [nw.at, v5, if_pos h4]
                      rfl
                  · rw [if_neg (by omega)]
                    refine ⟨s7, f7, ?_⟩
                    rw [g7, v5, if_neg h4]
                · rintro σ H8 ⟨rw, rfl, s8, f8, g8⟩
                  walk_at "rd"
                  have el8 := s8 _ _ el
                  have yl := dy.length
                  rw [List.length_map] at yl
                  simp only [] at hvl dy yl
                  refine ⟨.inl ⟨rfl, _, .of el8⟩, _, .of g8, fun T G nT => ⟨l, ys, _, rfl, rfl, nT.same _ _ el8, lt_size (by omega), fun G2 pu => ⟨pu.same (sm.trans (s8.trans nT.same)) hl0, _, pu.at, ?_⟩⟩⟩
                  rw [List.map_append]
                  exact DVs.append (pu.dvs (nT.same _ _ el8) (vd_noLst _) (DVs.mono (s8.trans nT.same) dy)) (DVs.one (pu.dv (nT.same _ _ el8) (vd_noLst1 _) (dv_visJ nT.at)))
    · rintro σ H2 ⟨x5, x6, x7, x8, x9, x10, ys, rfl, sm, el, dy⟩
      rw [Int.toNat_natCast, List.length_map] at dy
      exact ⟨_, rfl, q _ _ sm (dv_lst el dy)⟩
end
def visL (u : Rm.Visit) : List Dat := [.int u.hand, .int u.wanted, on u.lowered, on u.ticket, on u.entered, on u.left]
theorem beq_on (a b : Option Nat) : Dat.beq (on a) (on b) = decide (a = b) := by
  cases a with
  | none => cases b <;> simp [on, Dat.beq]
  | some x =>
    cases b with
    | none => simp [on, Dat.beq]
    | some y =>
      simp only [on, Dat.beq, Bool.beq_eq_decide_eq, Int.ofNat_inj, Option.some.injEq]
theorem beq_nat (x y : Nat) : ((x : Int) == (y : Int)) = decide (x = y) := by
  by_cases h : x = y
  · simp [h]
  · have : ¬ ((x : Int) = (y : Int)) := by omega
    simp [h, this]
theorem deps_visL (u : Rm.Visit) : Dat.deps (visL u) = 0 := by
  obtain ⟨a1, a2, a3, a4, a5, a6⟩ := u
  cases a3 <;> cases a4 <;> cases a5 <;> cases a6 <;> rfl
theorem beq_vis (u v : Rm.Visit) : Dat.beqs (visL u) (visL v) = decide (u = v) := by
  obtain ⟨a1, a2, a3, a4, a5, a6⟩ := u
  obtain ⟨b1, b2, b3, b4, b5, b6⟩ := v
  simp only [visL, Dat.beqs, beq_on]
  simp only [Dat.beq, Rm.Visit.mk.injEq, Bool.and_true, beq_nat]
  by_cases h1 : a1 = b1 <;> by_cases h2 : a2 = b2 <;> by_cases h3 : a3 = b3 <;> by_cases h4 : a4 = b4 <;> by_cases h5 : a5 = b5 <;> simp [h1, h2, h3, h4, h5]
def offB (o : Option Nat) (t : Nat) : Bool := match o with | none => true | some x => decide (t < x)
def own1 (u v : Rm.Visit) : Bool := decide (u ≠ v) && (match u.entered, v.entered with | some e, some f => offB u.left f && offB v.left e | _, _ => false)
def own2 (u v : Rm.Visit) : Bool := match u.lowered, v.entered with | some l, some f => decide (l < v.wanted) && offB u.left f | _, _ => false
def ownAny (vis : List Rm.Visit) : Bool := vis.any fun u => vis.any fun v => own1 u v || own2 u v
def lval (o : Option Nat) : Int := match o with | none => 10 ^ 30 | some x => x
theorem lval_off (o : Option Nat) (t : Nat) (h : t < 10 ^ 30) : (decide ((t : Int) < lval o)) = offB o t := by
  cases o with
  | none => simp only [lval, offB]; exact decide_eq_true (by omega)
  | some x => simp [lval, offB]
section
variable {P : Program} {w : World} {K : PySem.W.Frag} {mg : Str → Option Value} {base : Heap}
abbrev sOwnFair : Stmt := top 13
def spOwnFair : Sp := fun vs H Q _ => ∃ (x : V) (vis : List Rm.Visit), vs = [x] ∧ DV H x (.lst (vis.map visitD)) ∧ (∀ u ∈ vis, ∀ e, u.entered = some e → e < 10 ^ 30) ∧ ∀ G, Same H G → Q (.bl (!ownAny vis)) G
theorem scOwnFair : FnScope ["_law_visits", "_law_one", "_law_other", "_law_left", "_law_right"] ["_law_visits"] (defScope sOwnFair) := ⟨rfl, rfl, rfl, by decide +kernel, rfl, by decide +kernel, by decide +kernel⟩
theorem ok_ownFair {f : Addr} {fd : FuncData} (F : Fun K "_law_own_fair" "_law_own_fair" sOwnFair f fd) (T : Blt mg) : FnOk P w K mg base CX0 1 f fd ["_law_visits"] spOwnFair := by
  refine F.ok scOwnFair (fun vs H Q E h => ?_) (fun cdv A outer s H vs Q E hr h => ?_)
  · obtain ⟨x, vis, rfl, _⟩ := h
    rfl
  · obtain ⟨x, vis, rfl, dv, hb30, q⟩ := h
    have SC := scOwnFair
    refine ⟨_, (pss_cons (ps_for PassesOwn.never rfl (pi_list (pv 0)) (pg_name (i := 1) SC.nd (by rfl) (Or.inl (by rfl))) (pss_one (ps_for PassesOwn.never rfl (pi_list (pv 0)) (pg_name (i := 2) SC.nd (by rfl) (Or.inl (by rfl))) (pss_cutE (ps_if (pw_and (pt_cmpR op_neD (pv 1) (pv 2) (nomark _)) (pw_and (pt_cmpR op_notN (pe_ix ix_seq (pv 1) pe_int (by exact fun _ _ => rfl)) pe_non (nomark _)) (pw_and1 (pt_cmpR op_notN (pe_ix ix_seq (pv 2) pe_int (by exact fun _ _ => rfl)) pe_non (nomark _))))).pt (pss_cutE (ps_set (i := 3) SC.nd (by rfl) (Or.inl (by rfl)) (pe_ix ix_seq (pe_lstN (pac (pe_ix ix_seq (pv 1) pe_int (by exact fun _ _ => rfl)) (pac (pe_op op_pow pe_int pe_int) pa_nil))) (pe_callTy call_int1 (by rfl) T.b_int PyProof.Rows.Boot.int (pac (pe_cmpR op_isN (pe_ix ix_seq (pv 1) pe_int (by exact fun _ _ => rfl)) pe_non (nomark _)) pa_nil)) (by exact fun _ _ => rfl)))
      (pss_cutE (ps_set (i := 4) SC.nd (by rfl) (Or.inl (by rfl)) (pe_ix ix_seq (pe_lstN (pac (pe_ix ix_seq (pv 2) pe_int (by exact fun _ _ => rfl)) (pac (pe_op op_pow pe_int pe_int) pa_nil))) (pe_callTy call_int1 (by rfl) T.b_int PyProof.Rows.Boot.int (pac (pe_cmpR op_isN (pe_ix ix_seq (pv 2) pe_int (by exact fun _ _ => rfl)) pe_non (nomark _)) pa_nil)) (by exact fun _ _ => rfl)))
      (pss_one (ps_if (pw_and (pt_cmpR op_gt (pv 3) (pe_ix ix_seq (pv 2) pe_int (by exact fun _ _ => rfl)) (nomark _)) (pw_and1 (pt_cmpR op_gt (pv 4) (pe_ix ix_seq (pv 1) pe_int (by exact fun _ _ => rfl)) (nomark _)))).pt (pss_one (ps_ret pe_bl)) pss_nil)))) pss_nil)
      (pss_one (ps_if (pw_and (pt_cmpR op_notN (pe_ix ix_seq (pv 1) pe_int (by exact fun _ _ => rfl)) pe_non (nomark _)) (pw_and (pt_cmpR op_lt (pe_ix ix_seq (pv 1) pe_int (by exact fun _ _ => rfl)) (pe_ix ix_seq (pv 2) pe_int (by exact fun _ _ => rfl)) (nomark _)) (pw_and1 (pt_cmpR op_notN (pe_ix ix_seq (pv 2) pe_int (by exact fun _ _ => rfl)) pe_non (nomark _))))).pt (pss_one (ps_if (pw_or (pt_cmpR op_isN (pe_ix ix_seq (pv 1) pe_int (by exact fun _ _ => rfl)) pe_non (nomark _)) (pw_or1 (pt_cmpR op_gt (pe_ix ix_seq (pv 1) pe_int (by exact fun _ _ => rfl)) (pe_ix ix_seq (pv 2) pe_int (by exact fun _ _ => rfl)) (nomark _)))).pt (pss_one (ps_ret pe_bl)) pss_nil)) pss_nil))))))
      (pss_one (ps_ret pe_bl))), ?_⟩
    obtain ⟨a, xs, rfl, ha, dx⟩ := dv_same_lst dv
    have xl : xs.length = vis.length := by rw [dx.length, List.length_map]
    have get : ∀ (i : Nat) (y : V), xs[i]? = some y → ∃ (hi : i < vis.length) (c : Addr), y = .ref c ∧ H c = some (.tup (visitV vis[i])) := by
      intro i y h
      have hil : i < vis.length := by
        have := (List.getElem?_eq_some_iff.mp h).1
        omega
      obtain ⟨v', hv, dv1⟩ := dx.get (i := i) (d := visitD vis[i]) (by simp [hil])
      rw [h] at hv
      cases hv
      obtain ⟨c, rfl, hc⟩ := dv_visit dv1
      exact ⟨hil, c, rfl, hc⟩
    refine ⟨_, rfl, a, rfl, ⟨_, .of ha⟩, for_list (K := K) (a := a) (xs := xs) (fun i σ H2 => ∃ x1 x2 x3 x4, σ = [some (.ref a), x1, x2, x3, x4] ∧ Same H H2 ∧ ((vis.take i).any fun u => vis.any fun v => own1 u v || own2 u v) = false) ⟨_, _, _, _, rfl, Same.refl _, rfl⟩ (fun i σ H2 _ ⟨_, _, _, _, _, s, _⟩ => .of (s _ _ ha)) ?_ ?_⟩
    · rintro i y σ H2 hi ⟨x1, x2, x3, x4, rfl, sm, an⟩
      obtain ⟨hil, c, rfl, hc⟩ := get i y hi
      generalize hu : vis[i] = u at hc
      have mu : u ∈ vis := hu ▸ List.getElem_mem hil
      refine ⟨_, rfl, a, rfl, ⟨_, .of (sm _ _ ha)⟩, for_list (K := K) (a := a) (xs := xs) (fun j σ H3 => ∃ x2 x3 x4, σ = [some (.ref a), some (.ref c), x2, x3, x4] ∧ Same H H3 ∧ ((vis.take j).any fun v => own1 u v || own2 u v) = false) ⟨_, _, _, rfl, sm, rfl⟩ (fun i σ H2 _ ⟨_, _, _, _, s, _⟩ => .of (s _ _ ha)) ?_ ?_⟩
      · rintro j y σ H3 hj ⟨x2, x3, x4, rfl, s3, an3⟩
        obtain ⟨hjl, c', rfl, hc'⟩ := get j y hj
        generalize hv : vis[j] = v at hc'
        have mv : v ∈ vis := hv ▸ List.getElem_mem hjl
        have tk : vis.take (j + 1) = vis.take j ++ [v] := by rw [List.take_succ_eq_append_getElem hjl, hv]
        have ret : (own1 u v || own2 u v) = true → ∀ G, Same H G → Q (.bl false) G := by
          intro hb G sG
          have e : ownAny vis = true := by
            unfold ownAny
            rw [List.any_eq_true]
            refine ⟨u, mu, ?_⟩
            rw [List.any_eq_true]
            exact ⟨v, mv, hb⟩
          rw [e] at q
          exact q _ sG
        have go : (own1 u v || own2 u v) = false → ((vis.take (j + 1)).any fun v => own1 u v || own2 u v) = false := by
          intro hb
          rw [tk, List.any_append, an3]
          simp [hb]
        have f4 : atI (visitV u) 4 = some (onV u.entered) := rfl
        have f5 : atI (visitV u) 5 = some (onV u.left) := rfl
        have f2 : atI (visitV u) 2 = some (onV u.lowered) := rfl
        have g4 : atI (visitV v) 4 = some (onV v.entered) := rfl
        have g5 : atI (visitV v) 5 = some (onV v.left) := rfl
        have g1 : atI (visitV v) 1 = some (.int v.wanted) := rfl
        refine ⟨fun σ H4 => ∃ x3 x4, σ = [some (.ref a), some (.ref c), some (.ref c'), x3, x4] ∧ Same H H4 ∧ own1 u v = false, ?_, ?_⟩
        · walk_at "rd"
          refine ⟨visL u, visL v, .inr ⟨dv_visJ (s3 _ _ hc), dv_visJ (s3 _ _ hc')⟩, ?_, ?_⟩
          · rw [deps_visL, deps_visL]
            have := hr.un
            show (A.deeper _).units + 1 + 0 + 0 < cLine
            omega
          rw [beq_vis]
          have s3c := s3 _ _ hc
          have s3c' := s3 _ _ hc'
          by_cases huv : u = v
          · refine ⟨_, rfl, ?_⟩
            rw [if_neg (by simp [huv])]
            try rw [if_neg (by simp)]
            exact ⟨s3, by simp [own1, huv]⟩
          refine ⟨_, rfl, ?_⟩
          rw [if_pos (by simp [huv])]
          refine rix_t s3c f4 ?_
          cases hue : u.entered with
          | none =>
            rw [if_neg (by simp [onV])]
            try rw [if_neg (by simp)]
            exact ⟨s3, by simp [own1, hue]⟩
          | some e =>
            rw [hue] at f4
            rw [if_pos (by simp [onV])]
            refine rix_t s3c' g4 ?_
            cases hve : v.entered with
            | none =>
              rw [if_neg (by simp [onV])]
              try rw [if_neg (by simp)]
              exact ⟨s3, by simp [own1, hue, hve]⟩
            | some f =>
              rw [hve] at g4
              rw [if_pos (by simp [onV])]
              have o1e : own1 u v = (offB u.left f && offB v.left e) := by simp [own1, huv, hue, hve]
              have he30 := hb30 u mu e hue
              have hf30 := hb30 v mv f hve
              refine ⟨fun σ H4 => ∃ x4, σ = [some (.ref a), some (.ref c), some (.ref c'), some (.int (lval u.left)), x4] ∧ Same H H4, ?_, ?_⟩
              · walk_at "rd"
                refine rix_t s3c f5 ⟨⟨by decide, by decide, by decide⟩, by decide, fun p G np => rix_t (np.same _ _ s3c) f5 (.inr ?_)⟩
                cases hx : u.left with
                | none => exact rix_l np.at (by rw [hx]; exact rfl) ⟨rfl, s3.trans np.same⟩
                | some x => exact rix_l np.at (by rw [hx]; exact rfl) ⟨rfl, s3.trans np.same⟩
              · rintro σ H4 ⟨x4, rfl, s4⟩
                refine ⟨fun σ H5 => σ = [some (.ref a), some (.ref c), some (.ref c'), some (.int (lval u.left)), some (.int (lval v.left))] ∧ Same H H5, ?_, ?_⟩
                · walk_at "rd"
                  have s4c' := s4 _ _ hc'
                  refine rix_t s4c' g5 ⟨⟨by decide, by decide, by decide⟩, by decide, fun p G np => rix_t (np.same _ _ s4c') g5 (.inr ?_)⟩
                  cases hx : v.left with
                  | none => exact rix_l np.at (by rw [hx]; exact rfl) ⟨rfl, s4.trans np.same⟩
                  | some x => exact rix_l np.at (by rw [hx]; exact rfl) ⟨rfl, s4.trans np.same⟩
                · rintro σ H5 ⟨rfl, s5⟩
                  walk_at "rd"
                  have s5c := s5 _ _ hc
                  have s5c' := s5 _ _ hc'
                  have l1 := lval_off u.left f hf30
                  have l2 := lval_off v.left e he30
                  refine rix_t s5c' g4 ⟨_, rfl, ?_⟩
                  by_cases h1 : (f : Int) < lval u.left
                  · rw [if_pos h1]
                    rw [decide_eq_true h1] at l1
                    refine rix_t s5c f4 ⟨_, rfl, ?_⟩
                    by_cases h2 : (e : Int) < lval v.left
                    · rw [if_pos h2]
                      rw [decide_eq_true h2] at l2
                      exact ret (by rw [o1e, ← l1, ← l2]; rfl) _ s5
                    · rw [if_neg h2]
                      rw [decide_eq_false h2] at l2
                      exact ⟨s5, by rw [o1e, ← l1, ← l2]; rfl⟩
                  · rw [if_neg h1, if_neg (by simp)]
                    rw [decide_eq_false h1] at l1
                    exact ⟨s5, by rw [o1e, ← l1]; rfl⟩
        · rintro σ H4 ⟨x3, x4, rfl, s4, o1⟩
          walk_at "rd"
          rw [o1] at ret go
          have s4c := s4 _ _ hc
          have s4c' := s4 _ _ hc'
          have no : own2 u v = false → Same H H4 ∧ ((vis.take (j + 1)).any fun v => own1 u v || own2 u v) = false := fun h => ⟨s4, go (by rw [h]; rfl)⟩
          refine rix_t s4c f2 ?_
          cases hl : u.lowered with
          | none =>
            rw [if_neg (by simp [onV])]
            try rw [if_neg (by simp)]
            exact no (by simp [own2, hl])
          | some lo =>
            rw [hl] at f2
            rw [if_pos (by simp [onV])]
            refine rix_t s4c f2 (rix_t s4c' g1 ⟨_, rfl, _, rfl, ?_⟩)
            by_cases hlt : (lo : Int) < v.wanted
            · rw [if_pos hlt]
              refine rix_t s4c' g4 ?_
              cases hve : v.entered with
              | none =>
                rw [if_neg (by simp [onV])]
                try rw [if_neg (by simp)]
                exact no (by simp [own2, hl, hve])
              | some f =>
                rw [hve] at g4
                rw [if_pos (by simp [onV])]
                have hw : lo < v.wanted := by omega
                have o2e : own2 u v = offB u.left f := by simp [own2, hl, hve, hw]
                refine rix_t s4c f5 ?_
                cases hx : u.left with
                | none =>
                  rw [if_pos (show onV none = V.non from rfl), if_pos trivial]
                  exact ret (by rw [o2e, hx]; rfl) _ s4
                | some x =>
                  rw [hx] at f5
                  rw [if_neg (by simp [onV])]
                  refine rix_t s4c f5 (rix_t s4c' g4 ⟨_, rfl, _, rfl, ?_⟩)
                  by_cases hfx : (f : Int) < x
                  · rw [if_pos hfx]
                    refine ret ?_ _ s4
                    rw [o2e, hx]
                    simp only [offB, Bool.false_or]
                    exact decide_eq_true (by omega)
                  · rw [if_neg hfx]
                    refine no ?_
                    rw [o2e, hx]
                    simp only [offB]
                    exact decide_eq_false (by omega)
            · rw [if_neg hlt]
              try rw [if_neg (by simp)]
              have hw : ¬ lo < v.wanted := by omega
              refine no ?_
              cases hve : v.entered with
              | none => simp [own2, hl, hve]
              | some f => simp [own2, hl, hve, hw]
      · rintro σ H3 ⟨x2, x3, x4, rfl, s3, an3⟩
        rw [xl, List.take_length] at an3
        refine ⟨_, _, _, _, rfl, s3, ?_⟩
        rw [List.take_succ_eq_append_getElem hil, hu, List.any_append, an]
        simp [an3]
    · rintro σ H2 ⟨x1, x2, x3, x4, rfl, sm, an⟩
      rw [xl, List.take_length] at an
      have e : ownAny vis = false := an
      rw [e] at q
      exact q _ sm
end
structure VOk (u : Rm.Visit) : Prop where
  el : ∀ e x, u.entered = some e → u.left = some x → e < x
  wl : ∀ l, u.lowered = some l → u.wanted ≤ l
theorem off_had (v : Rm.Visit) (t : Nat) : (!hadLeft v t) = offB v.left t := by
  unfold hadLeft offB
  cases v.left with
  | none => rfl
  | some x =>
    simp only []
    by_cases h : x ≤ t
    · simp [h, Nat.not_lt.mpr h]
    · simp [h, Nat.lt_of_not_le h]
theorem bad_own (u v : Rm.Visit) (ne : u ≠ v) (hu : VOk u) (hv : VOk v) : badB u v = true ↔ ((own1 u v || own2 u v) = true ∨ (own1 v u || own2 v u) = true) := by
  have key : ∀ a b : Rm.Visit, a ≠ b → VOk a → VOk b → (passedB b a = true → own2 a b = true) ∧ (own2 a b = true → passedB b a = true ∨ togetherB a b = true) := by
    intro a b nab ha hb
    constructor
    · intro h
      unfold passedB at h
      cases hl : a.lowered with
      | none => rw [hl] at h; cases h
      | some l =>
        rw [hl] at h
        simp only [] at h
        by_cases hw : b.wanted ≤ l
        · rw [if_pos hw] at h; cases h
        · rw [if_neg hw, off_had, Bool.and_eq_true] at h
          cases he : b.entered with
          | none => simp [aheadB, he] at h
          | some f =>
            have hlt : l < b.wanted := by omega
            rw [he] at h
            simp only [own2, hl, he, hlt, decide_true, Bool.true_and]
            exact h.2
    · intro h
      cases hl : a.lowered with
      | none => simp [own2, hl] at h
      | some l =>
        cases he : b.entered with
        | none => simp [own2, hl, he] at h
        | some f =>
          simp only [own2, hl, he, Bool.and_eq_true, decide_eq_true_eq] at h
          obtain ⟨hlt, ho⟩ := h
          have hw : ¬ b.wanted ≤ l := by omega
          cases hae : a.entered with
          | none =>
            refine .inl ?_
            simp only [passedB, hl, if_neg hw, aheadB, he, hae, off_had, Option.getD_some, ho, Bool.true_and]
          | some e =>
            by_cases hfe : f < e
            · refine .inl ?_
              simp only [passedB, hl, if_neg hw, aheadB, he, hae, off_had, Option.getD_some, ho, hfe, decide_true, Bool.true_and]
            · refine .inr ?_
              simp only [togetherB, hae, he, off_had, ho, Bool.true_and]
              cases hbl : b.left with
              | none => rfl
              | some y =>
                have := hb.el f y he hbl
                simp only [offB]
                exact decide_eq_true (by omega)
  have tog : ∀ a b : Rm.Visit, a ≠ b → togetherB a b = own1 a b := by
    intro a b nab
    unfold togetherB own1
    cases a.entered with
    | none => simp
    | some e =>
      cases b.entered with
      | none => simp
      | some f => simp [nab, off_had]
  have sym : own1 v u = own1 u v := by
    rw [← tog u v ne, ← tog v u (Ne.symm ne)]
    unfold togetherB
    cases u.entered with
    | none => cases v.entered <;> rfl
    | some e => cases v.entered with
      | none => rfl
      | some f => simp only []; rw [Bool.and_comm]
  obtain ⟨k1, k2⟩ := key u v ne hu hv
  obtain ⟨k3, k4⟩ := key v u (Ne.symm ne) hv hu
  have t1 := tog u v ne
  have t2 := tog v u (Ne.symm ne)
  simp only [badB, Bool.or_eq_true]
  rw [t1] at k2 ⊢
  rw [t2] at k4
  constructor
  · rintro (h | h | h)
    · exact .inl (.inl h)
    · exact .inr (.inr (k3 h))
    · exact .inl (.inr (k1 h))
  · rintro ((h | h) | (h | h))
    · exact .inl h
    · rcases k2 h with h | h
      · exact .inr (.inr h)
      · exact .inl h
    · exact .inl (sym ▸ h)
    · rcases k4 h with h | h
      · exact .inr (.inl h)
      · exact .inl (sym ▸ h)
theorem own_self (u : Rm.Visit) (hu : VOk u) : (own1 u u || own2 u u) = false := by
  have h1 : own1 u u = false := by simp [own1]
  rw [h1, Bool.false_or]
  cases hl : u.lowered with
  | none => simp [own2, hl]
  | some l =>
    have := hu.wl l hl
    cases he : u.entered with
    | none => simp [own2, hl, he]
    | some f => simp [own2, hl, he, Nat.not_lt.mpr this]
theorem own_cons (u : Rm.Visit) (r : List Rm.Visit) : ownAny (u :: r) = true ↔ ((own1 u u || own2 u u) = true ∨ (∃ v ∈ r, (own1 u v || own2 u v) = true ∨ (own1 v u || own2 v u) = true) ∨ ownAny r = true) := by
  unfold ownAny
  simp only [List.any_eq_true, List.mem_cons]
  constructor
  · rintro ⟨a, (rfl | ha), b, (rfl | hb), h⟩
    · exact .inl h
    · exact .inr (.inl ⟨b, hb, .inl h⟩)
    · exact .inr (.inl ⟨a, ha, .inr h⟩)
    · exact .inr (.inr ⟨a, ha, b, hb, h⟩)
  · rintro (h | ⟨v, hv, (h | h)⟩ | ⟨a, ha, b, hb, h⟩)
    · exact ⟨u, .inl rfl, u, .inl rfl, h⟩
    · exact ⟨u, .inl rfl, v, .inr hv, h⟩
    · exact ⟨v, .inr hv, u, .inl rfl, h⟩
    · exact ⟨a, .inr ha, b, .inr hb, h⟩
theorem fair_own : ∀ vis : List Rm.Visit, (∀ u ∈ vis, VOk u) → vis.Pairwise (fun a b => a.wanted < b.wanted) → anyBad vis = ownAny vis
  | [], _, _ => rfl
  | u :: r, ok, pw => by
    have ih := fair_own r (fun v hv => ok v (List.mem_cons_of_mem _ hv)) (List.pairwise_cons.mp pw).2
    have hu := ok u List.mem_cons_self
    have s := own_self u hu
    rw [Bool.eq_iff_iff, own_cons, s, anyBad, Bool.or_eq_true, ih, List.any_eq_true]
    constructor
    · rintro (⟨v, hv, h⟩ | h)
      · have ne : u ≠ v := fun e => by have := (List.pairwise_cons.mp pw).1 v hv; rw [e] at this; exact absurd this (Nat.lt_irrefl _)
        exact .inr (.inl ⟨v, hv, (bad_own u v ne hu (ok v (List.mem_cons_of_mem _ hv))).mp h⟩)
      · exact .inr (.inr h)
    · rintro (h | ⟨v, hv, h⟩ | h)
      · cases h
      · have ne : u ≠ v := fun e => by have := (List.pairwise_cons.mp pw).1 v hv; rw [e] at this; exact absurd this (Nat.lt_irrefl _)
        exact .inl ⟨v, hv, (bad_own u v ne hu (ok v (List.mem_cons_of_mem _ hv))).mpr h⟩
      · exact .inr h
/-! what is drawn is such -/
theorem visAt_ok (k : Nat) (c calm : Int) (time free : Nat) : VOk (visAt k c calm time free) ∧ (visAt k c calm time free).wanted = vt c time ∧ ∀ e, (visAt k c calm time free).entered = some e → e ≤ max time free + 12 := by
  have r1 := rr_lt c 1009 4 (by decide)
  have r2 := rr_lt c 1013 3 (by decide)
  have r3 := rr_lt c 1019 3 (by decide)
  have r4 := rr_lt c 1033 4 (by decide)
  have r1 : rr c 1009 4 < 4 := r1
  have r2 : rr c 1013 3 < 3 := r2
  have r3 : rr c 1019 3 < 3 := r3
  have r4 : rr c 1033 4 < 4 := r4
  simp only [visAt]
  generalize vway k c calm = w
  have hlo : vt c time + 1 ≤ vlo c (vt c time) ∧ vlo c (vt c time) ≤ time + 7 := by unfold vlo vt; omega
  have hen : ven c (vlo c (vt c time)) free ≤ max time free + 9 := by unfold ven; omega
  have hfr : ven c (vlo c (vt c time)) free < vfr c (ven c (vlo c (vt c time)) free) := by unfold vfr; omega
  generalize vfr c (ven c (vlo c (vt c time)) free) = fr at hfr
  generalize ven c (vlo c (vt c time)) free = en at hen hfr
  generalize vlo c (vt c time) = lo at hlo
  generalize vt c time = t at hlo
  unfold v5 v4 v3 v2 v1 v0
  by_cases h4 : w = 4
  · simp only [h4, if_true]
    exact ⟨⟨(fun e x he => nomatch he), fun l hl => nomatch hl⟩, (by first | rfl | trivial), fun e he => nomatch he⟩
  · rw [if_neg h4]
    by_cases h3 : w = 3
    · subst h3
      simp only [if_true]
      refine ⟨⟨(fun e x he hx => (nomatch hx)), fun l hl => ?_⟩, (by first | rfl | trivial), fun e he => ?_⟩
      · simp at hl ⊢; omega
      · simp at he; omega
    · rw [if_neg h3]
      by_cases h2 : w = 2
      · subst h2
        simp only [if_true]
        refine ⟨⟨fun e x he hx => ?_, fun l hl => ?_⟩, (by first | rfl | trivial), fun e he => ?_⟩
        · simp at he hx; omega
        · simp at hl ⊢; omega
        · simp at he; omega
      · rw [if_neg h2]
        by_cases h5 : w = 5
        · subst h5
          simp only [if_true, or_true]
          refine ⟨⟨(fun e x he => nomatch he), fun l hl => ?_⟩, (by first | rfl | trivial), fun e he => nomatch he⟩
          simp at hl ⊢; omega
        · rw [if_neg h5]
          by_cases h1 : w = 1
          · subst h1
            simp only [true_or, if_true]
            refine ⟨⟨(fun e x he => nomatch he), fun l hl => ?_⟩, (by first | rfl | trivial), fun e he => nomatch he⟩
            simp at hl ⊢; omega
          · rw [if_neg (by omega)]
            refine ⟨⟨fun e x he hx => ?_, fun l hl => ?_⟩, (by first | rfl | trivial), fun e he => ?_⟩
            · simp at he hx; omega
            · simp at hl ⊢; omega
            · simp at he; omega
theorem vst_ok (cs : List Int) (calm : Int) : ∀ k, (vst cs calm k).1 ≤ 12 * k ∧ (vst cs calm k).2.1 ≤ 12 * k ∧ (∀ u ∈ (vst cs calm k).2.2, VOk u ∧ u.wanted ≤ (vst cs calm k).1 ∧ ∀ e, u.entered = some e → e ≤ 12 * k) ∧ (vst cs calm k).2.2.Pairwise (fun a b => a.wanted < b.wanted)
  | 0 => ⟨Nat.le_refl _, Nat.le_refl _, fun u hu => (nomatch hu), List.Pairwise.nil⟩
  | k + 1 => by
    obtain ⟨h1, h2, h3, h4⟩ := vst_ok cs calm k
    simp only [vst]
    generalize cs.getD k 0 + 7 * (k : Int) = c
    obtain ⟨o1, o2, o3⟩ := visAt_ok k c calm (vst cs calm k).1 (vst cs calm k).2.1
    have r1 : rr c 1009 4 < 4 := rr_lt c 1009 4 (by decide)
    have r2 : rr c 1013 3 < 3 := rr_lt c 1013 3 (by decide)
    have r3 : rr c 1019 3 < 3 := rr_lt c 1019 3 (by decide)
    have r5 : rr c 1021 3 < 3 := rr_lt c 1021 3 (by decide)
    have ht : (vst cs calm k).1 < vt c (vst cs calm k).1 ∧ vt c (vst cs calm k).1 ≤ (vst cs calm k).1 + 4 := by unfold vt; omega
    refine ⟨by omega, ?_, fun u hu => ?_, ?_⟩
    · unfold vfr ven vlo; omega
    · rcases List.mem_append.mp hu with hu | hu
      · obtain ⟨a, b, d⟩ := h3 u hu
        exact ⟨a, by omega, fun e he => by have := d e he; omega⟩
      · rw [List.mem_singleton.mp hu]
        exact ⟨o1, by omega, fun e he => by have := o3 e he; omega⟩
    · rw [List.pairwise_append]
      refine ⟨h4, List.pairwise_singleton _ _, fun a ha b hb => ?_⟩
      rw [List.mem_singleton.mp hb, o2]
      have := (h3 a ha).2.1
      omega
theorem deps_vis : ∀ vis : List Rm.Visit, Dat.deps (vis.map visitD) ≤ 1
  | [] => by simp [Dat.deps]
  | u :: r => by
    rw [List.map_cons, Dat.deps]
    have := deps_vis r
    have h : (visitD u).dep = 1 := by
      show Dat.deps (visL u) + 1 = 1
      rw [deps_visL]
    omega
section
variable {P : Program} {w : World} {K : PySem.W.Frag} {mg : Str → Option Value} {base : Heap}
abbrev sLaw7 : Stmt := top 15
abbrev nmLaw7 : List Str := ["_law_script", "_law_first", "_law_size", "_law_cells", "_law_calm", "_law_visits", "_law_handed", "_law_told"]
theorem scLaw7 : FnScope nmLaw7 ["_law_script"] (defScope sLaw7) := ⟨rfl, rfl, rfl, by decide +kernel, rfl, by decide +kernel, by decide +kernel⟩
def sz4 (c : Int) : Nat := [9, 9, 3, 30].getD (c * 48271 % 1039 % 4).toNat 9
theorem sz4_le (c : Int) : sz4 c ≤ 30 := by
  unfold sz4
  have h : (c * 48271 % 1039 % 4).toNat < 4 := by omega
  generalize (c * 48271 % 1039 % 4).toNat = k at h
  match k, h with
  | 0, _ => decide | 1, _ => decide | 2, _ => decide | 3, _ => decide
theorem at_sz4 (c : Int) : atI [V.int 9, V.int 9, V.int 3, V.int 30] (c * 48271 % 1039 % 4) = some (.int (sz4 c)) := by
  unfold sz4
  have h : ∃ k : Nat, c * 48271 % 1039 % 4 = k ∧ k < 4 := ⟨(c * 48271 % 1039 % 4).toNat, by omega, by omega⟩
  obtain ⟨k, e, hk⟩ := h
  rw [e, Int.toNat_natCast]
  match k, hk with
  | 0, _ => rfl | 1, _ => rfl | 2, _ => rfl | 3, _ => rfl
theorem ok_law7 {f : Addr} {fd : FuncData} (F : Fun K "law" "law" sLaw7 f fd) (T : Blt mg) (c_l_at : FnBy P w K mg base CX0 1 "_law_at" ["_law_script", "_law_k"] (spAt K)) (c_l_room : FnBy P w K mg base CX0 1 "_law_room" ["_law_script", "_law_most", "_law_bound"] (spRoomL K))
    (c_l_visits_by : FnBy P w K mg base CX0 1 "_law_visits_by" ["_law_cells", "_law_calm"] spVisBy) (c_fair : FnBy P w K mg base CX0 3 "fair" ["visits"] spFair) (c_l_own_fair : FnBy P w K mg base CX0 1 "_law_own_fair" ["_law_visits"] spOwnFair) : FnOk P w K mg base CX0 4 f fd ["_law_script"] (spLaw K) := by
  refine F.ok scLaw7 (fun vs H Q E h => ?_) (fun cdv A outer s H vs Q E hr h => ?_)
  · obtain ⟨a, ns, rfl, _⟩ := h
    rfl
  · obtain ⟨a, ns, rfl, ha, q⟩ := h
    have SC := scLaw7
    refine ⟨_, (pss_cons (ps_set (i := 1) SC.nd (by rfl) (Or.inl (by rfl)) (pe_fn c_l_at (hr.mono (by decide)) (by rfl) pass0 (pac (pv 0) (pac pe_int pa_nil))))
      (pss_cons (ps_set (i := 2) SC.nd (by rfl) (Or.inl (by rfl)) (pe_ix ix_seq (pe_lstN (pac pe_int (pac pe_int (pac pe_int (pac pe_int pa_nil))))) (pe_op op_mod (pe_op op_mod (pe_op op_mul (pv 1) pe_int) pe_int) pe_int) (by exact fun _ _ => rfl)))
      (pss_cons (ps_set (i := 3) SC.nd (by rfl) (Or.inl (by rfl)) (pe_slice sl_list (pv 0) (po_some pe_int) (po_some (pe_op op_add pe_int (pe_fn c_l_room (hr.mono (by decide)) (by rfl) pass0 (pac (pv 0) (pac (pv 2) (pac pe_int pa_nil))))))))
      (pss_cons (ps_set (i := 4) SC.nd (by rfl) (Or.inl (by rfl)) pe_int)
      (pss_cutE (ps_if (pt_cmpR op_eq (pe_op op_mod (pe_op op_mod (pe_op op_mul (pv 1) pe_int) pe_int) pe_int) pe_int (nomark _)) (pss_one (ps_set (i := 4) SC.nd (by rfl) (Or.inl (by rfl)) (pe_op op_mod (pe_op op_mod (pe_op op_mul (pv 1) pe_int) pe_int) (pe_op op_add (pe_callB call_len_seq (by rfl) T.b_len PyProof.Rows.Boot.len (pac (pv 3) pa_nil)) pe_int)))) pss_nil)
      (pss_cons (ps_set (i := 5) SC.nd (by rfl) (Or.inl (by rfl)) (pe_fn c_l_visits_by (hr.mono (by decide)) (by rfl) pass0 (pac (pv 3) (pac (pv 4) pa_nil))))
      (pss_cons (ps_set (i := 6) SC.nd (by rfl) (Or.inl (by rfl)) (pe_callTy call_listN (by rfl) T.b_list PyProof.Rows.Boot.list (pac (pv 5) pa_nil)))
      (pss_cons (ps_set (i := 7) SC.nd (by rfl) (Or.inl (by rfl)) (pe_fn c_fair (hr.mono (by decide)) (by rfl) pass0 (pac (pv 6) pa_nil)))
      (pss_cons (ps_if (pw_or (pt_not (pt_val (pe_callB (call_isinst (T := "bool")) (by rfl) T.b_isinstance PyProof.Rows.Boot.isinstance (pac (pv 7) (pac (pe_ty (by rfl) T.b_bool PyProof.Rows.Boot.bool) pa_nil))))) (pw_or1 (pt_cmpR op_neD (pv 6) (pv 5) (nomark _)))).pt pss_dead pss_nil)
      (pss_one (ps_ret (pe_cmpR op_eq (pv 7) (pe_fn c_l_own_fair (hr.mono (by decide)) (by rfl) pass0 (pac (pv 5) pa_nil)) (nomark _))))))))))))), ?_⟩
    walk_at "rd"
    refine ⟨a, 0, ns, rfl, ha, by decide, fun p0 G0 n0 => ⟨_, rfl, cmul_a _, rix_l n0.at (at_sz4 _) ?_⟩⟩
    have ha0 := n0.same.seq ha
    generalize hfst : ns.getD 0 0 = fst
    have hs30 := sz4_le fst
    generalize sz4 fst = sz at hs30
    refine ⟨_, rfl, 1, rfl, _, rfl, _, rfl, a, ns, sz, 100, rfl, ha0, 1, _, rfl, rfl, _, rfl, a, _, rfl, ha0, fun p1 hp1 => ?_⟩
    have er : (if 63 < ns.length then (100 : Int) else (sz : Int)) = ((if 63 < ns.length then 100 else sz : Nat) : Int) := by split <;> rfl
    rw [er, cut_cells]
    generalize hc : (ns.drop 1).take (if 63 < ns.length then 100 else sz) = cs
    have hcl : cs.length ≤ 100 := by
      rw [← hc, List.length_take]
      split <;> omega
    have n1 : New G0 p1 (.lst (cs.map V.int)) (upd G0 p1 (.lst (cs.map V.int))) := ⟨hp1, rfl⟩
    generalize upd G0 p1 (.lst (cs.map V.int)) = G1 at n1
    have s1 := n0.same.trans n1.same
    refine ⟨fun σ H2 => ∃ calm, σ = [some (.ref a), some (.int fst), some (.int sz), some (.ref p1), some (.int calm), none, none, none] ∧ H2 = G1, ?_, ?_⟩
    · walk_at "rd"
      refine ⟨cmul_a _, ?_⟩
      by_cases h1 : fst * 48271 % 1049 % 2 = 1
      · rw [if_pos h1]
        exact ⟨cmul_a _, _, .inl (.of n1.at), by omega, _, rfl⟩
      · rw [if_neg h1]
        exact ⟨_, rfl⟩
    · rintro σ H2 ⟨calm, rfl, rfl⟩
      walk_at "rd"
      refine ⟨p1, cs, calm, rfl, n1.at, by omega, fun v G2 s2 d2 => ?_⟩
      obtain ⟨_, _, o3, o4⟩ := vst_ok cs calm cs.length
      have hvl := vst_len cs calm cs.length
      generalize (vst cs calm cs.length).2.2 = vis at d2 o3 o4 hvl
      have hfo : fairB vis = !ownAny vis := by
        unfold fairB
        rw [fair_own vis (fun u hu => (o3 u hu).1) o4]
      obtain ⟨l2, ys, rfl, hl2, dy⟩ := dv_same_lst d2
      refine ⟨l2, rfl, ys, .inl (.of hl2), fun l G3 n3 => ?_⟩
      refine ⟨.ref l, vis, rfl, by omega, dv_lst n3.at (DVs.mono n3.same dy), fun G4 s4 => ?_⟩
      refine ⟨_, .bl _, true, rfl, ?_⟩
      rw [if_neg (by simp)]
      refine ⟨vis.map visitD, vis.map visitD, .inl ⟨dv_lst (s4 _ _ n3.at) (DVs.mono (n3.same.trans s4) dy), dv_lst (s4 _ _ (n3.same _ _ hl2)) (DVs.mono (n3.same.trans s4) dy)⟩, ?_, ?_⟩
      · have : Dat.deps (vis.map visitD) ≤ 1 := deps_vis vis
        have := hr.un
        show (A.deeper _).units + 1 + _ + _ < cLine
        omega
      rw [Dat.beqs_refl]
      refine ⟨_, rfl, ?_⟩
      rw [if_neg (by simp)]
      have s24 := n3.same.trans s4
      refine ⟨.ref l2, vis, rfl, dv_lst (s24 _ _ hl2) (DVs.mono s24 dy), fun u hu e he => ?_, fun G5 s5 => ⟨rfl, ?_⟩⟩
      · have h1 := (o3 u hu).2.2 e he
        have : e ≤ 1200 := by omega
        exact Nat.lt_of_le_of_lt this (by decide)
      · rw [hfo, decide_eq_true rfl]
        exact q _ (s1.trans (s2.trans (s24.trans s5)))
end
structure TopJ (K : PySem.W.Frag) : Prop where
  f1 : FnTop K "had_left" "had_left" sHadLeft
  f2 : FnTop K "within_together" "within_together" sTogether
  f3 : FnTop K "entered_ahead" "entered_ahead" sAheadJ
  f4 : FnTop K "passed_by" "passed_by" sPassed
  f5 : FnTop K "fair" "fair" sFair
  f6 : FnTop K "_law_at" "_law_at" sAt
  f7 : FnTop K "_law_visits_by" "_law_visits_by" sVisBy
  f8 : FnTop K "_law_own_fair" "_law_own_fair" sOwnFair
  f9 : FnTop K "_law_room" "_law_room" sRoomL
  f0 : FnTop K "law" "law" sLaw7
  i1 : IntTop K "WANTED" 1
  i2 : IntTop K "LOWERED" 2
  i3 : IntTop K "ENTERED" 4
  i4 : IntTop K "LEFT" 5
  b1 : PySem.W.nsIn K mainGlobals "isinstance" = some none
  b2 : PySem.W.nsIn K mainGlobals "len" = some none
  b3 : PySem.W.nsIn K mainGlobals "range" = some none
  b4 : PySem.W.nsIn K mainGlobals "int" = some none
  b5 : PySem.W.nsIn K mainGlobals "bool" = some none
  b6 : PySem.W.nsIn K mainGlobals "str" = some none
  b7 : PySem.W.nsIn K mainGlobals "tuple" = some none
  b8 : PySem.W.nsIn K mainGlobals "list" = some none
  b9 : PySem.W.nsIn K mainGlobals "max" = some none
  b0 : PySem.W.nsIn K mainGlobals "enumerate" = some none
theorem law_ofJ {P : Program} {w : World} {K : PySem.W.Frag} {mg : Str → Option Value} {h : Heap} {fa : Addr} {k : Nat} {st : Stmt} (T : FnTop K "law" "law" st) (X : K.In h) (G : h.Ns mainGlobals mg) (hfa : mg "law" = some (.ref fa)) (hb1 : BindsSt "law" "law" st ["_law_script"])
    (A : ∀ base : Heap, K.In base → base.Ns mainGlobals mg → ∀ f fd, Fun K "law" "law" st f fd → FnOk P w K mg base CX0 k f fd ["_law_script"] (spLaw K)) :
    ∃ fd : FuncData, (∀ (s : Shared) (v : Value), BindsTo s fd ⟨[v], []⟩ [("_law_script", v)]) ∧ ∀ base : Heap, K.In base → base.Ns mainGlobals mg → FnOk P w K mg base CX0 k fa fd ["_law_script"] (spLaw K) := by
  obtain ⟨f, fd, F, a⟩ := T.ex
  have e := hfa.symm.trans (PySem.W.mg_of X G a)
  cases e
  refine ⟨fd, fun s v => ?_, fun base KB GB => A base KB GB _ fd F⟩
  obtain ⟨oc, od, kV, doc, pm, an, cdv, ct, osl, rfl, lk, hcd⟩ := F.ex
  exact .of_eq (hb1 kV doc pm an cdv ct [v] rfl)
theorem all_mk {l : PySem.W.OpenLaw} {w : World} {K : PySem.W.Frag} {h : Heap} {mg : Str → Option Value} {fa : Addr} (X : K.In h) (G : h.Ns mainGlobals mg) (hfa : mg "law" = some (.ref fa)) (T : TopJ K) :
    ∃ fd : FuncData, (∀ (s : Shared) (v : Value), BindsTo s fd ⟨[v], []⟩ [("_law_script", v)]) ∧ ∀ base : Heap, K.In base → base.Ns mainGlobals mg → FnOk l.prog w K mg base CX0 4 fa fd ["_law_script"] (spLaw K) := by
  have B : Blt mg := ⟨PySem.W.mg_none_of X G T.b1, PySem.W.mg_none_of X G T.b2, PySem.W.mg_none_of X G T.b3, PySem.W.mg_none_of X G T.b4, PySem.W.mg_none_of X G T.b5, PySem.W.mg_none_of X G T.b6, PySem.W.mg_none_of X G T.b7, PySem.W.mg_none_of X G T.b8⟩
  have C : ConJ mg := ⟨T.i1.by X G, T.i2.by X G, T.i3.by X G, T.i4.by X G⟩
  refine law_ofJ T.f0 X G hfa (fun _ _ _ _ _ _ us hl => match us, hl with | [_], _ => rfl) fun base _ _ f fd F => ?_
  have had := T.f1.by (P := l.prog) (w := w) (base := base) X G (fun _ _ _ _ _ _ us hl => match us, hl with | [_, _], _ => rfl) fun f fd F => ok_hadLeft F C
  have tog := T.f2.by (P := l.prog) (w := w) (base := base) X G (fun _ _ _ _ _ _ us hl => match us, hl with | [_, _], _ => rfl) fun f fd F => ok_together F C had
  have ahd := T.f3.by (P := l.prog) (w := w) (base := base) X G (fun _ _ _ _ _ _ us hl => match us, hl with | [_, _], _ => rfl) fun f fd F => ok_aheadJ F C
  have pas := T.f4.by (P := l.prog) (w := w) (base := base) X G (fun _ _ _ _ _ _ us hl => match us, hl with | [_, _], _ => rfl) fun f fd F => ok_passed F C had ahd
  have fai := T.f5.by (P := l.prog) (w := w) (base := base) X G (fun _ _ _ _ _ _ us hl => match us, hl with | [_], _ => rfl) fun f fd F => ok_fair F (PySem.W.mg_none_of X G T.b0) tog pas
  have at_ := T.f6.by (P := l.prog) (w := w) (base := base) X G (fun _ _ _ _ _ _ us hl => match us, hl with | [_, _], _ => rfl) fun f fd F => ok_at F B
  have vib := T.f7.by (P := l.prog) (w := w) (base := base) X G (fun _ _ _ _ _ _ us hl => match us, hl with | [_, _], _ => rfl) fun f fd F => ok_visBy F B (PySem.W.mg_none_of X G T.b9)
  have own := T.f8.by (P := l.prog) (w := w) (base := base) X G (fun _ _ _ _ _ _ us hl => match us, hl with | [_], _ => rfl) fun f fd F => ok_ownFair F B
  have rom := T.f9.by (P := l.prog) (w := w) (base := base) X G (fun _ _ _ _ _ _ us hl => match us, hl with | [_, _, _], _ => rfl) fun f fd F => ok_roomL F B
  exact ok_law7 F B at_ rom vib fai own
theorem walk {l : PySem.W.OpenLaw} {q : Program} {loose : List Str} {XP : (Str → Option Value) → Heap → Prop} {YP : World → Heap → Prop} {d : DefRec} {K : Params → PySem.W.Frag} (hn : l.most = some 63) (hdf : d.params.defaults = [])
    (hY : ∀ (w : World) (h : Heap), YP w h → (K w.params).In h)
    (F : ∀ (w : World) (mg : Str → Option Value) (fa : Addr) (h : Heap), (K w.params).In h → h.Ns mainGlobals mg → mg d.name = some (.ref fa) →
      ∃ fd : FuncData, (∀ (s : Shared) (u : Value), BindsTo s fd ⟨[u], []⟩ [("_law_script", u)]) ∧ ∀ base : Heap, (K w.params).In base → base.Ns mainGlobals mg → FnOk l.prog w (K w.params) mg base CX0 4 fa fd ["_law_script"] (spLaw (K w.params))) :
    PySem.W.WalkO q loose XP YP l.row.toRowW d [] (fun f vs => PySem.call f vs) :=
  L2.walk_of (n := 63) (k := 4) (x := "_law_script") (CX := fun _ => CX0) (sp := fun w => spLaw (K w.params)) hn (by decide) hdf ⟨rfl, by decide, by decide⟩ hY F (fun _ _ a ns hl _ hS => ⟨a, ns, rfl, hS, fun _ _ => rfl⟩) fun _ _ _ _ _ z => z
end Toy
open PySem PySem.W PyProof.Rows
set_option maxRecDepth 100000 in
set_option maxHeartbeats 0 in
theorem PySem.Challenge.cw_ticketroom_k07_whole_visits_judged_holds : PySem.Challenge.rw_ticketroom_k07_whole_visits_judged.Holds := by
  w_on; o_law; k_head; (case hw => w_witness2)
  k_fill
  refine Toy.walk (l := PySem.Challenge.rw_ticketroom_k07_whole_visits_judged) rfl rfl (fun w h Y => PySem.W.kIn_of Y) ?F
  case F =>
    intro w mg fa h KX G hmg
    refine' Toy.all_mk KX G hmg ⟨(L2.fnTop ?ha_0a ?ha_0l ?ha_0c ?ha_0k), (L2.fnTop ?ha_1a ?ha_1l ?ha_1c ?ha_1k), (L2.fnTop ?ha_2a ?ha_2l ?ha_2c ?ha_2k), (L2.fnTop ?ha_3a ?ha_3l ?ha_3c ?ha_3k), (L2.fnTop ?ha_4a ?ha_4l ?ha_4c ?ha_4k), (L2.fnTop ?ha_5a ?ha_5l ?ha_5c ?ha_5k), (L2.fnTop ?ha_6a ?ha_6l ?ha_6c ?ha_6k), (L2.fnTop ?ha_7a ?ha_7l ?ha_7c ?ha_7k), (L2.fnTop ?ha_8a ?ha_8l ?ha_8c ?ha_8k), (L2.fnTop ?ha_9a ?ha_9l ?ha_9c ?ha_9k), (L2.intTop ?ha_10a), (L2.intTop ?ha_11a), (L2.intTop ?ha_12a), (L2.intTop ?ha_13a), ?ha_14, ?ha_15, ?ha_16, ?ha_17, ?ha_18, ?ha_19, ?ha_20, ?ha_21, ?ha_22, ?ha_23⟩
    (case ha_0a => k_is); (case ha_0l => k_is); (case ha_0c => k_is); (case ha_0k => k_is); (case ha_1a => k_is); (case ha_1l => k_is)
    (case ha_1c => k_is); (case ha_1k => k_is); (case ha_2a => k_is); (case ha_2l => k_is); (case ha_2c => k_is); (case ha_2k => k_is)
    (case ha_3a => k_is); (case ha_3l => k_is); (case ha_3c => k_is); (case ha_3k => k_is); (case ha_4a => k_is); (case ha_4l => k_is)
    (case ha_4c => k_is); (case ha_4k => k_is); (case ha_5a => k_is); (case ha_5l => k_is); (case ha_5c => k_is); (case ha_5k => k_is)
    (case ha_6a => k_is); (case ha_6l => k_is); (case ha_6c => k_is); (case ha_6k => k_is); (case ha_7a => k_is); (case ha_7l => k_is)
    (case ha_7c => k_is); (case ha_7k => k_is); (case ha_8a => k_is); (case ha_8l => k_is); (case ha_8c => k_is); (case ha_8k => k_is)
    (case ha_9a => k_is); (case ha_9l => k_is); (case ha_9c => k_is); (case ha_9k => k_is); (case ha_10a => k_is); (case ha_11a => k_is)
    (case ha_12a => k_is); (case ha_13a => k_is); (case ha_14 => k_is); (case ha_15 => k_is); (case ha_16 => k_is); (case ha_17 => k_is)
    (case ha_18 => k_is); (case ha_19 => k_is); (case ha_20 => k_is); (case ha_21 => k_is); (case ha_22 => k_is); (case ha_23 => k_is)
