import PyProof.Rows.All
import Wide.All
import OpenK.AllK
import Wide.FinOn
import Lean
import PyProof.EqAt
import PyProof.EqKinds
import PyProof.TupleCall
import PyProof.NeKinds
import OpenK.KTop
import PyProof.WalksEnum
import PyProof.EnumMake
import PyProof.Rows.EnumRows
import KE.KSortTup
import PyProof.StrLawsChain
import PyProof.StrLawsIn
import KE.KIntText
import KE.LcSums
import PyProof.Rows.MinMaxN
import PyProof.Rows.CountFlat
import PyProof.StrBlock2
import PyProof.NsDelKeeps
import PyProof.ExcArgs
import PySem.Challenge.RW_ticketroom_k11_lines
set_option Elab.async false
set_option linter.all false
set_option maxRecDepth 100000
/-! THE HAND LAYER, for ints, bools, texts, own classes, LISTS and tuples (index, slices, in, append, pop ..), calls, loops. Paste it whole ahead of your own text; what your proof does not reach may be deleted. -/
namespace L2
open PySem PySem.Spec PyProof.Rows

/-- a key: an int or a str -/
abbrev Key := Sum Int Str
def keyIs : Key → Value → Bool
  | .inl k, v => Value.isInt k v
  | .inr x, v => Value.isStrOf x v
def keyH (w : World) : Key → Int
  | .inl k => hashInt k
  | .inr x => hashStr w x
theorem keyIs_shape : ∀ {k : Key} {v : Value}, keyIs k v = true → (∃ i t, k = Sum.inl i ∧ v = Value.int i t) ∨ (∃ x t, k = Sum.inr x ∧ v = Value.str x t)
  | .inl i, v, h => by
    obtain ⟨t, e⟩ := Value.isInt_shape (k := i) (v := v) h
    exact .inl ⟨i, t, rfl, e⟩
  | .inr x, v, h => by
    obtain ⟨t, e⟩ := Value.isStrOf_shape (x := x) (v := v) h
    exact .inr ⟨x, t, rfl, e⟩
theorem key_ll (a b : Int) : decide ((Sum.inl a : Key) = Sum.inl b) = (a == b) := by
  by_cases e : a = b
  · subst e; simp
  · have h : ¬ (Sum.inl a : Key) = Sum.inl b := fun q => e (Sum.inl.inj q)
    rw [decide_eq_false h]
    exact (beq_eq_false_iff_ne.mpr e).symm
theorem key_rr (a b : Str) : decide ((Sum.inr a : Key) = Sum.inr b) = decide (a = b) := by
  by_cases e : a = b
  · subst e; simp
  · have h : ¬ (Sum.inr a : Key) = Sum.inr b := fun q => e (Sum.inr.inj q)
    rw [decide_eq_false h, decide_eq_false e]
theorem key_lr (a : Int) (b : Str) : decide ((Sum.inl a : Key) = Sum.inr b) = false := decide_eq_false (fun q => nomatch q)
theorem key_rl (a : Str) (b : Int) : decide ((Sum.inr a : Key) = Sum.inl b) = false := decide_eq_false (fun q => nomatch q)

def mixKind (prog : Program) (w : World) : PySem.KeyKind prog w Key where
  is := keyIs
  hash := keyH w
  inj := fun v a b ha hb => by
    rcases keyIs_shape ha with ⟨i, t, rfl, rfl⟩ | ⟨x, t, rfl, rfl⟩
    · rcases keyIs_shape hb with ⟨j, u, rfl, e⟩ | ⟨y, u, rfl, e⟩
      · injection e with e1 _; rw [e1]
      · exact nomatch e
    · rcases keyIs_shape hb with ⟨j, u, rfl, e⟩ | ⟨y, u, rfl, e⟩
      · exact nomatch e
      · injection e with e1 _; rw [e1]
  byValue := fun k v h => by
    rcases keyIs_shape h with ⟨i, t, rfl, rfl⟩ | ⟨x, t, rfl, rfl⟩ <;> rfl
  pyHash := fun hv h => by
    rcases keyIs_shape hv with ⟨i, t, rfl, rfl⟩ | ⟨x, t, rfl, rfl⟩
    · exact wpAny_pyHash_int h
    · exact wpAny_pyHash_str h
  eqBool := fun hu hv h => by
    rcases keyIs_shape hu with ⟨i, t, rfl, rfl⟩ | ⟨x, t, rfl, rfl⟩
    · rcases keyIs_shape hv with ⟨j, u, rfl, rfl⟩ | ⟨y, u, rfl, rfl⟩
      · rw [key_ll] at h; exact wpAny_eqBool_int h
      · rw [key_lr] at h; exact SeqAt.EqAt.int_str i t y u _ _ _ _ h
    · rcases keyIs_shape hv with ⟨j, u, rfl, rfl⟩ | ⟨y, u, rfl, rfl⟩
      · rw [key_rl] at h; exact SeqAt.EqAt.str_int x t j u _ _ _ _ h
      · rw [key_rr] at h; exact wpAny_eqBool_str h
  «strs» := fun k x t v h => by
    rcases keyIs_shape h with ⟨i, u, rfl, e⟩ | ⟨y, u, rfl, e⟩
    · exact nomatch e
    · injection e with e1 _
      subst e1
      cases v <;> rfl

end L2

namespace L2
open PySem PySem.Spec PyProof.Rows

/-- a value, without the heap -/
inductive V where
  | non | bl (b : Bool) | int (i : Int) | str (x : Str) | byt (b : Array UInt8) | flt (b : UInt64) | ref (a : Addr) | ty (n : String)
  deriving DecidableEq

def RelV : V → Value → Prop
  | .non, u => u = Value.none
  | .bl b, u => u = Value.bool b
  | .int i, u => ∃ t, u = Value.int i t
  | .str x, u => ∃ t, u = Value.str x t
  | .byt b, u => ∃ t, u = Value.bytes b t
  | .flt b, u => ∃ t, u = Value.float b t
  | .ref a, u => u = Value.ref a
  | .ty n, u => u = Value.type n

abbrev Vals : List V → List Value → Prop := Paired RelV
theorem Vals.length {xs : List V} {us : List Value} (r : Vals xs us) : xs.length = us.length := Paired.length r
theorem Vals.get : ∀ {xs : List V} {us : List Value} {i : Nat} {x : V}, Vals xs us → xs[i]? = some x → ∃ u, us[i]? = some u ∧ RelV x u
  | _, _, _, _, .nil, e => by simp at e
  | _, _, 0, _, .cons r _, e => by simp at e; subst e; exact ⟨_, rfl, r⟩
  | _, _, i + 1, x, .cons _ t, e => by
    obtain ⟨u, h1, h2⟩ := Vals.get (i := i) (x := x) t (by simpa using e)
    exact ⟨u, by simpa using h1, h2⟩
theorem Vals.set {x : V} {u : Value} (r : RelV x u) : ∀ {xs : List V} {us : List Value} (i : Nat), Vals xs us → Vals (xs.set i x) (us.set i u)
  | _, _, _, .nil => .nil
  | _, _, 0, .cons _ t => .cons r t
  | _, _, i + 1, .cons q t => .cons q (Vals.set r i t)
theorem Vals.append : ∀ {xs ys : List V} {us ws : List Value}, Vals xs us → Vals ys ws → Vals (xs ++ ys) (us ++ ws)
  | _, _, _, _, .nil, s => s
  | _, _, _, _, .cons r t, s => .cons r (Vals.append t s)
theorem Vals.take : ∀ {xs : List V} {us : List Value} (n : Nat), Vals xs us → Vals (xs.take n) (us.take n)
  | _, _, 0, _ => .nil
  | _, _, _ + 1, .nil => .nil
  | _, _, n + 1, .cons r t => .cons r (Vals.take n t)
theorem Vals.drop : ∀ {xs : List V} {us : List Value} (n : Nat), Vals xs us → Vals (xs.drop n) (us.drop n)
  | _, _, 0, r => r
  | _, _, _ + 1, .nil => .nil
  | _, _, n + 1, .cons _ t => Vals.drop n t
theorem Vals.none_of : ∀ {xs : List V} {us : List Value} {i : Nat}, Vals xs us → xs[i]? = none → us[i]? = none := fun {xs us i} r e => by
  have h1 := r.length
  have h2 : xs.length ≤ i := List.getElem?_eq_none_iff.mp e
  exact List.getElem?_eq_none_iff.mpr (by omega)

def RelO : Option V → Option Value → Prop
  | some v, some u => RelV v u
  | none, none => True
  | _, _ => False
def KV {κ : Type} : List (κ × V) → List (κ × Value) → Prop := Paired fun (p : κ × V) (q : κ × Value) => p.1 = q.1 ∧ RelV p.2 q.2

/-- a key of a dict (00_mix): an int or a text -/
def kV : Key → V
  | .inl i => .int i
  | .inr x => .str x

/-- what stands at a tracked address -/
inductive HO where
  /-- a list -/
  | lst (xs : List V)
  /-- a tuple (never changes) -/
  | tup (xs : List V)
  /-- a dict whose keys are ints and texts; one whose keys are tuples of ints and texts (the empty one is both) -/
  | dK (kvs : List (Key × V)) | dT (kvs : List (List Key × V))
  /-- a set of ints: its members, its size -/
  | set (S : Int → Bool) (n : Nat)
  /-- an instance of the class at C, its dict at dx, its attributes -/
  | ins (C dx : Addr) (fs : List (Str × V))
  /-- the dict of the instance at x -/
  | own (x : Addr)
  /-- the dict of an exception -/
  | xd (fs : List (Str × V))
  /-- a bound method, f of x -/
  | met (f x : Addr)
  /-- a range object lo, lo + 1, .. below hi -/
  | rng (lo hi : Int)
  /-- a thing that is known to the object (the script; a dict while a loop walks it): read, never written while it is so -/
  | frz (o : Obj) (u : HO)
  /-- a code object's table -/
  | tbl (ps : Array Value)
  /-- any other thing, by what is true of its one object (a def of one's own: SetO a S n := HO.ext fun h => ..) -/
  | ext (φ : Heap → Prop)

abbrev Hp := Addr → Option HO
def upd (H : Hp) (a : Addr) (o : HO) : Hp := fun b => if b = a then some o else H b
theorem upd_same {H : Hp} {a : Addr} {o : HO} : upd H a o a = some o := by unfold upd; rw [if_pos rfl]
theorem upd_ne {H : Hp} {a b : Addr} {o : HO} (h : b ≠ a) : upd H a o b = H b := by unfold upd; rw [if_neg h]
theorem upd_upd {H : Hp} {a : Addr} {o u : HO} : upd (upd H a o) a u = upd H a u := by
  funext b; unfold upd; split <;> rfl
/-- two objects of different content stand apart -/
theorem ne_of {H : Hp} {a b : Addr} {o u : HO} (h : H a = some o) (h' : H b = some u) (d : o ≠ u) : a ≠ b := by
  intro e; subst e; rw [h] at h'; exact d (Option.some.inj h')
theorem ne_of_none {H : Hp} {a b : Addr} {o : HO} (h : H a = some o) (h' : H b = none) : a ≠ b := by
  intro e; subst e; rw [h] at h'; cases h'

section
variable (P : Program) (w : World)
def ObjOk (H : Hp) (h : Heap) (a : Addr) : HO → Prop
  | .lst xs => xs.length ≤ sizeLine ∧ ∃ (its : List Value) (n : Nat), Vals xs its ∧ h.get? a = some { cls := .type "list", data := .seq its.toArray n }
  | .tup xs => xs.length ≤ sizeLine ∧ ∃ its : List Value, Vals xs its ∧ IsTup h a its.toArray
  | .dK kvs => kvs.length ≤ sizeLine ∧ (a == sysModules) = false ∧ ∃ vs, KV kvs vs ∧ h.DictOf (mixKind P w) a vs
  | .dT kvs => kvs.length ≤ sizeLine ∧ (a == sysModules) = false ∧ ∃ xs : List (List Key × Addr × Value),
      Paired (fun (p : List Key × V) (q : List Key × Addr × Value) => p.1 = q.1 ∧ H q.2.1 = some (.tup (p.1.map kV)) ∧ RelV p.2 q.2.2) kvs xs ∧
      ∃ o es ep, h.get? a = some o ∧ o.ExactDict ∧ o.data = .dict es ep ∧ es.toList = xs.map (entryOfKey (tupleKind (mixKind P w))) ∧ (xs.map (·.1)).Nodup
  | .set S n => h.SetOf (intKind P w) a S n
  | .ins C dx fs => H dx = some (.own a) ∧ fs.length ≤ 1000 ∧ dx ≠ a ∧ h.get? a = some (PySem.W.instObj C dx) ∧
      ∃ mA, h.Ns1 dx mA ∧ (∀ f, RelO (fs.lookup f) (mA f)) ∧ PySem.Within mA (fs.map (·.1))
  | .own _ => ∃ o, h.get? a = some o
  | .xd fs => ∃ mA, h.Ns1 a mA ∧ ∀ f, RelO (fs.lookup f) (mA f)
  | .rng lo hi => ∃ t u v, h.get? a = some { cls := .type "range", data := .fields #[.int lo t, .int hi u, .int 1 v] }
  | .frz o u => h.get? a = some o ∧ ObjOk H h a u
  | .tbl ps => h.get? a = some { cls := .none, data := .fields ps }
  | .met f x => h.get? a = some (PySem.W.methodObj (.ref f) (.ref x))
  | .ext φ => φ h ∧ (∃ o, h.get? a = some o) ∧ ∀ h1 h2 : Heap, φ h1 → (∀ o, h1.get? a = some o → h2.get? a = some o) → φ h2
/-- the abstract heap is held -/
def HOk (H : Hp) (h : Heap) : Prop := ∀ a o, H a = some o → ObjOk P w H h a o
end

section
variable {P : Program} {w : World} {H H' : Hp} {h h' : Heap} {a : Addr} {o : HO}
theorem ObjOk.lt (x : ObjOk P w H h a o) : a < h.objs.size := by
  cases o with
  | lst xs => obtain ⟨_, _, _, _, e⟩ := x; exact Heap.lt_size e
  | tup xs => obtain ⟨_, _, _, p⟩ := x; exact p.lt
  | dK kvs => obtain ⟨_, _, _, _, o, _, _, e, _⟩ := x; exact Heap.lt_size e
  | dT kvs => obtain ⟨_, _, _, _, o, _, _, e, _⟩ := x; exact Heap.lt_size e
  | set S n => obtain ⟨o, _, _, _, e, _⟩ := x; exact Heap.lt_size e
  | ins C dx fs => obtain ⟨_, _, _, e, _⟩ := x; exact Heap.lt_size e
  | own y => obtain ⟨_, e⟩ := x; exact Heap.lt_size e
  | xd fs => obtain ⟨_, ⟨_, _, _, e, _⟩, _⟩ := x; exact Heap.lt_size e
  | rng lo hi => obtain ⟨_, _, _, e⟩ := x; exact Heap.lt_size e
  | frz ob u => obtain ⟨e, _⟩ := x; exact Heap.lt_size e
  | tbl ps => exact Heap.lt_size (show h.get? a = some _ from x)
  | met f y => exact Heap.lt_size (show h.get? a = some _ from x)
  | ext φ => obtain ⟨_, ⟨_, e⟩, _⟩ := x; exact Heap.lt_size e
theorem Paired.mapP {α β : Type} {F G : α → β → Prop} : ∀ {l₁ : List α} {l₂ : List β}, Paired F l₁ l₂ → (∀ a b, F a b → G a b) → Paired G l₁ l₂
  | _, _, .nil, _ => .nil
  | _, _, .cons r t, f => .cons (f _ _ r) (Paired.mapP t f)
/-- what an object's description leans on: its own object, its own dict, the tuples -/
theorem ObjOk.stay (x : ObjOk P w H h a o) (k : ∀ b u, (b = a ∨ H b = some (.own a)) → h.get? b = some u → h'.get? b = some u)
    (ho : ∀ b, H b = some (.own a) → H' b = some (.own a)) (ht : ∀ b xs, H b = some (.tup xs) → H' b = some (.tup xs)) : ObjOk P w H' h' a o := by
  induction o with
  | lst xs => obtain ⟨z, its, n, r, e⟩ := x; exact ⟨z, its, n, r, k _ _ (.inl rfl) e⟩
  | tup xs => obtain ⟨z, its, r, ob, e, c⟩ := x; exact ⟨z, its, r, ob, k _ _ (.inl rfl) e, c⟩
  | dK kvs => obtain ⟨z, y, vs, r, ob, es, ep, e, c⟩ := x; exact ⟨z, y, vs, r, ob, es, ep, k _ _ (.inl rfl) e, c⟩
  | dT kvs =>
    obtain ⟨z, y, xs, r, ob, es, ep, e, c⟩ := x
    exact ⟨z, y, xs, Paired.mapP r fun p q z => ⟨z.1, ht _ _ z.2.1, z.2.2⟩, ob, es, ep, k _ _ (.inl rfl) e, c⟩
  | set S n => obtain ⟨ob, es, ep, t, e, c⟩ := x; exact ⟨ob, es, ep, t, k _ _ (.inl rfl) e, c⟩
  | ins C dx fs =>
    obtain ⟨d, z, ne, e, mA, ⟨od, es, ep, e2, c⟩, r⟩ := x
    exact ⟨ho _ d, z, ne, k _ _ (.inl rfl) e, mA, ⟨od, es, ep, k _ _ (.inr d) e2, c⟩, r⟩
  | own y => obtain ⟨ob, e⟩ := x; exact ⟨ob, k _ _ (.inl rfl) e⟩
  | xd fs => obtain ⟨mA, ⟨od, es, ep, e, c⟩, r⟩ := x; exact ⟨mA, ⟨od, es, ep, k _ _ (.inl rfl) e, c⟩, r⟩
  | rng lo hi => obtain ⟨t, u, v, e⟩ := x; exact ⟨t, u, v, k _ _ (.inl rfl) e⟩
  | frz ob u ih => obtain ⟨e, q⟩ := x; exact ⟨k _ _ (.inl rfl) e, ih q⟩
  | tbl ps =>
    have e : h.get? a = some { cls := .none, data := .fields ps } := x
    show h'.get? a = some { cls := .none, data := .fields ps }
    exact k a _ (.inl rfl) e
  | met f y =>
    have e : h.get? a = some (PySem.W.methodObj (.ref f) (.ref y)) := x
    show h'.get? a = some (PySem.W.methodObj (.ref f) (.ref y))
    exact k a _ (.inl rfl) e
  | ext φ => obtain ⟨p, ⟨o, e⟩, st⟩ := x; exact ⟨st _ _ p fun o q => k _ _ (.inl rfl) q, ⟨o, k _ _ (.inl rfl) e⟩, st⟩
theorem HOk.lt (x : HOk P w H h) (e : H a = some o) : a < h.objs.size := (x a o e).lt
theorem HOk.fresh (x : HOk P w H h) (e : h.objs.size ≤ a) : H a = none := by
  cases q : H a with
  | none => rfl
  | some u => exact absurd (Nat.lt_of_lt_of_le (x.lt q) e) (Nat.lt_irrefl _)
/-- every object of the heap is kept -/
theorem HOk.kept (x : HOk P w H h) (k : ∀ b u, h.get? b = some u → h'.get? b = some u) : HOk P w H h' := fun a o e =>
  (x a o e).stay (fun b u _ q => k b u q) (fun _ q => q) fun _ _ q => q
/-- a new object is laid and tracked -/
theorem HOk.laid (x : HOk P w H h) (k : ∀ b u, h.get? b = some u → h'.get? b = some u) (hp : h.objs.size ≤ a) (new : ObjOk P w (upd H a o) h' a o) : HOk P w (upd H a o) h' := fun b u e => by
  have hn := x.fresh hp
  by_cases hb : b = a
  · subst hb; rw [upd_same] at e; cases e; exact new
  · rw [upd_ne hb] at e
    exact (x b u e).stay (fun c v _ q => k c v q) (fun c q => by rw [upd_ne (ne_of_none q hn)]; exact q) fun c xs q => by rw [upd_ne (ne_of_none q hn)]; exact q
end

/-- what may be read as u: it is u, or a known u -/
def Rd (H : Hp) (a : Addr) (u : HO) : Prop := H a = some u ∨ ∃ o, H a = some (.frz o u)
theorem Rd.of {H : Hp} {a : Addr} {u : HO} (h : H a = some u) : Rd H a u := .inl h
theorem Rd.ok {P : Program} {w : World} {H : Hp} {h : Heap} {a : Addr} {u : HO} (r : Rd H a u) (x : HOk P w H h) : ObjOk P w H h a u := by
  rcases r with r | ⟨o, r⟩
  · exact x a u r
  · obtain ⟨_, q⟩ := x a _ r
    exact q
/-- what may be written -/
def Mut : Option HO → Prop
  | some (.lst _) => True
  | some (.dK _) => True
  | some (.dT _) => True
  | some (.set _ _) => True
  | some (.ins _ _ _) => True
  | some (.ext _) => True
  | _ => False
section
variable {P : Program} {w : World} {H : Hp} {h h' : Heap} {x e : Addr} {o' : HO}
/-- the object at e is changed: x itself, or the dict of the instance x -/
theorem HOk.write (ok : HOk P w H h) (mu : Mut (H x)) (he : e = x ∨ H e = some (.own x)) (k : ∀ b u, b ≠ e → h.get? b = some u → h'.get? b = some u) (heo : ∃ u, h'.get? e = some u)
    (new : ObjOk P w (upd H x o') h' x o') : HOk P w (upd H x o') h' := fun b u q => by
  have nown : ∀ c y, H c = some (.own y) → c ≠ x := fun c y r z => by subst z; rw [r] at mu; exact mu
  have ntup : ∀ c xs, H c = some (.tup xs) → c ≠ x := fun c xs r z => by subst z; rw [r] at mu; exact mu
  by_cases hb : b = x
  · subst hb; rw [upd_same] at q; cases q; exact new
  · rw [upd_ne hb] at q
    by_cases hbe : b = e
    · have q' : H b = some (.own x) := by
        rcases he with z | z
        · exact absurd (hbe.trans z) hb
        · rw [hbe]; exact z
      rw [q] at q'; cases q'
      obtain ⟨v, hv⟩ := heo
      exact ⟨v, by rw [hbe]; exact hv⟩
    · refine (ok b u q).stay (fun c v hc r => k c v ?_ r) (fun c r => by rw [upd_ne (nown c b r)]; exact r) fun c xs r => by rw [upd_ne (ntup c xs r)]; exact r
      rcases hc with rfl | hc
      · exact hbe
      · rintro rfl
        rcases he with z | z
        · exact nown c b hc z
        · rw [hc] at z; cases z; exact hb rfl
end

/-! ### kept unless tracked; of the frames at fs (the callers') the slots may change (an exception that passes writes there); of the records at ex (iterators) nothing is said -/
structure Un (fs ex : List Addr) (H H' : Hp) (h h' : Heap) : Prop where
  keep : ∀ b o, h.get? b = some o → H b = none → b ∉ fs → b ∉ ex → h'.get? b = some o
  slot : ∀ b o, h.get? b = some o → H b = none → b ∈ fs → b ∉ ex → ∃ sl, h'.get? b = some { o with slots := sl }
  free : ∀ b o, h.get? b = some o → H b = none → b ∉ ex → H' b = none
  there : ∀ b o, h.get? b = some o → b ∉ ex → ∃ o', h'.get? b = some o'
  tups : ∀ b xs, H b = some (.tup xs) → H' b = some (.tup xs)
  frzs : ∀ b o u, H b = some (.frz o u) → H' b = some (.frz o u)
  tbls : ∀ b ps, H b = some (.tbl ps) → ∃ more, H' b = some (.tbl (ps ++ more))
section
variable {fs fs' ex ex' : List Addr} {H H1 H2 : Hp} {h h1 h2 h' : Heap} {a x e : Addr} {o : HO}
theorem Un.any (u : Un fs ex H H1 h h1) {b : Addr} {ob : Obj} (q : h.get? b = some ob) (n : H b = none) (hx : b ∉ ex) : ∃ sl, h1.get? b = some { ob with slots := sl } := by
  by_cases hb : b ∈ fs
  · exact u.slot b ob q n hb hx
  · exact ⟨ob.slots, u.keep b ob q n hb hx⟩
theorem Un.trans (a : Un fs ex H H1 h h1) (b : Un fs ex H1 H2 h1 h2) : Un fs ex H H2 h h2 where
  keep := fun c ob q n hc hx => b.keep c ob (a.keep c ob q n hc hx) (a.free c ob q n hx) hc hx
  slot := fun c ob q n hc hx => by
    obtain ⟨sl, e1⟩ := a.slot c ob q n hc hx
    obtain ⟨sl', e2⟩ := b.slot c _ e1 (a.free c ob q n hx) hc hx
    exact ⟨sl', e2⟩
  free := fun c ob q n hx => by
    obtain ⟨o', e1⟩ := a.there c ob q hx
    exact b.free c o' e1 (a.free c ob q n hx) hx
  there := fun c ob q hx => by
    obtain ⟨o', e1⟩ := a.there c ob q hx
    exact b.there c o' e1 hx
  tups := fun c xs q => b.tups c xs (a.tups c xs q)
  frzs := fun c ob xs q => b.frzs c ob xs (a.frzs c ob xs q)
  tbls := fun c ps q => by
    obtain ⟨m1, e1⟩ := a.tbls c ps q
    obtain ⟨m2, e2⟩ := b.tbls c _ e1
    exact ⟨m1 ++ m2, by rw [e2, Array.append_assoc]⟩
theorem Un.kept (k : ∀ b u, h.get? b = some u → h'.get? b = some u) : Un fs ex H H h h' :=
  ⟨fun b ob q _ _ _ => k b ob q, fun b ob q _ _ _ => ⟨ob.slots, k b ob q⟩, fun _ _ _ n _ => n, fun b ob q _ => ⟨ob, k b ob q⟩, fun _ _ q => q, fun _ _ _ q => q, fun _ ps q => ⟨#[], by rw [q]; simp⟩⟩
theorem Un.refl : Un fs ex H H h h := Un.kept fun _ _ q => q
theorem Un.laid (k : ∀ b u, h.get? b = some u → h'.get? b = some u) (hp : h.objs.size ≤ a) (hn : H a = none) : Un fs ex H (upd H a o) h h' where
  keep := fun b u q _ _ _ => k b u q
  slot := fun b u q _ _ _ => ⟨u.slots, k b u q⟩
  free := fun b u q n _ => by rw [upd_ne (Nat.ne_of_lt (Nat.lt_of_lt_of_le (Heap.lt_size q) hp))]; exact n
  there := fun b u q _ => ⟨u, k b u q⟩
  tups := fun b xs q => by rw [upd_ne (ne_of_none q hn)]; exact q
  frzs := fun b u xs q => by rw [upd_ne (ne_of_none q hn)]; exact q
  tbls := fun b ps q => ⟨#[], by rw [upd_ne (ne_of_none q hn), q]; simp⟩
theorem Un.write (mu : Mut (H x)) (he : e = x ∨ H e = some (.own x)) (k : ∀ b u, b ≠ e → h.get? b = some u → h'.get? b = some u) (heo : ∃ u, h'.get? e = some u) : Un fs ex H (upd H x o) h h' := by
  have hx : ∀ b, H b = none → b ≠ x := fun b n z => by subst z; rw [n] at mu; exact mu
  have hb : ∀ b, H b = none → b ≠ e := fun b n z => by
    subst z
    rcases he with r | r
    · exact hx b n r
    · rw [n] at r; cases r
  have hm : ∀ b u, H b = some u → ¬ Mut (some u) → b ≠ x := fun b u q nm z => by subst z; rw [q] at mu; exact nm mu
  refine ⟨fun b u q n _ _ => k b u (hb b n) q, fun b u q n _ _ => ⟨u.slots, k b u (hb b n) q⟩, fun b u q n _ => by rw [upd_ne (hx b n)]; exact n, fun b u q _ => ?_,
    fun b xs q => by rw [upd_ne (hm b _ q fun z => z)]; exact q, fun b u xs q => by rw [upd_ne (hm b _ q fun z => z)]; exact q, fun b ps q => ⟨#[], by rw [upd_ne (hm b _ q fun z => z), q]; simp⟩⟩
  by_cases hbe : b = e
  · subst hbe; exact heo
  · exact ⟨u, k b u hbe q⟩
theorem Un.mono (u : Un fs ex H H1 h h1) (hs : ∀ b ∈ fs, b ∈ fs') (hx : ∀ b ∈ ex, b ∈ ex') : Un fs' ex' H H1 h h1 :=
  ⟨fun b ob q n hb he => u.keep b ob q n (fun z => hb (hs b z)) fun z => he (hx b z), fun _ _ q n _ he => u.any q n fun z => he (hx _ z), fun b ob q n he => u.free b ob q n fun z => he (hx b z), fun b ob q he => u.there b ob q fun z => he (hx b z), u.tups, u.frzs, u.tbls⟩
end

/-! ### the heap without what is tracked -/
def trk (h : Heap) (H : Hp) : List Addr := (List.range h.objs.size).filter fun a => (H a).isSome
def hidT (h : Heap) (H : Hp) : Heap := PySem.W.hideAll h (trk h H)
theorem hidT_size (h : Heap) (H : Hp) : (hidT h H).objs.size = h.objs.size := PySem.W.hideAll_size _ _
theorem hidT_get {h : Heap} {H : Hp} {b : Addr} {o : Obj} (e : h.get? b = some o) (n : H b = none) : (hidT h H).get? b = some o :=
  PySem.W.hideAll_get _ e fun hm => by
    have q : (H b).isSome = true := (List.mem_filter.mp hm).2
    rw [n] at q; simp at q
theorem of_hidT {h : Heap} {H : Hp} {b : Addr} {o : Obj} (e : (hidT h H).get? b = some o) : h.get? b = some o ∧ H b = none := by
  have e' : h.get? b = some o := PySem.W.of_hideAll (trk h H) e
  refine ⟨e', ?_⟩
  cases q : H b with
  | none => rfl
  | some x =>
    have hm : b ∈ trk h H := List.mem_filter.mpr ⟨List.mem_range.mpr (Heap.lt_size e'), by simp [q]⟩
    have z : (hidT h H).get? b = none := PySem.W.hideAll_none (trk h H) hm
    rw [z] at e; cases e

/-! ### OpenK's ledger, filled with every new object but one -/
def allNews (g h : Heap) (L : Addr) : List (Addr × Obj) := (List.range h.objs.size).filterMap fun a => if a = L ∨ (g.get? a).isSome = true then none else (h.get? a).map fun o => (a, o)
def rest (g h : Heap) (L d : Addr) : List (Addr × Obj) := (allNews g h L).filter fun p => decide (p.1 ≠ d)
end L2

namespace L2
open PySem PySem.Spec PyProof.Rows

/-- the module's facts, over the base: the heap at the law's entry without what is tracked there -/
structure Mod (K : PySem.W.Frag) (mg : Str → Option Value) (base : Heap) : Prop where
  kin : K.In base
  glob : base.Ns mainGlobals mg
  blt : ∃ mb, base.Ns builtinsNs mb ∧ ∀ x : Str, x ≠ "__name__" → mb x = bootBuiltins x
  nolimit : base.NoLimit

/-- the context: a def's body (or a comprehension's block) running. base: fixed through the whole law; s₀, H₀: the entry; outer: the frames whose slots others may change (a def's callers); stack: all frames that run;
   ex: iterators that were made ahead of the entry and are walked here (a comprehension's); fn: the names whose cells were made at the entry (a def: all; a comprehension's block: its own); calm: not within an except suite; pn: pins that every state bears; xe: what is wanted of an exception that leaves the code -/
structure Cx where
  prog : Program
  w : World
  K : PySem.W.Frag
  mg : Str → Option Value
  base : Heap
  A : Around
  N : List Str
  s₀ : Shared
  H₀ : Hp
  env : Env
  outer : List Env
  stack : List Env
  ex : List Addr
  fn : Str → Bool
  calm : Bool
  pn : List (Addr × Obj)
  xe : Value → Shared → Prop
/-- the callers' frames -/
def frs (l : List Env) : List Addr := l.filterMap (·.frame)
abbrev Cx.fs (X : Cx) : List Addr := frs X.outer

def Vis (sc : Scope) (x : Str) : Prop := sc.names.lookup x = some .local ∨ sc.names.lookup x = some .cell ∨ sc.names.lookup x = some .free
def Loc (sc : Scope) (x : Str) : Prop := sc.names.lookup x = some .local ∨ sc.names.lookup x = some .cell
def Look (env : Env) (h : Heap) (m : Str → Option Value) (x : Str) (u : Value) : Prop :=
  (env.kindOf x = some .local ∧ m x = some u) ∨ ((env.kindOf x = some .cell ∨ env.kindOf x = some .free) ∧ ∃ c, env.cells.lookup x = some c ∧ h.IsCell c (some u))

structure Cx.Ok (X : Cx) : Prop where
  mod : Mod X.K X.mg X.base
  kind : X.env.scope.kind = .function
  glob : X.env.globals = mainGlobals
  blt : X.env.builtins = builtinsNs
  above : X.s₀.heap.objs.size ≤ X.env.locals
  inj : ∀ x y c, X.env.cells.lookup x = some c → X.env.cells.lookup y = some c → x = y
  has : ∀ x, (X.env.kindOf x = some .cell ∨ X.env.kindOf x = some .free) → ∃ c, X.env.cells.lookup x = some c
  cab : ∀ x c, X.fn x = true → X.env.cells.lookup x = some c → X.s₀.heap.objs.size ≤ c
  hd : X.calm = true → X.A.handled = none
  frames : X.A.frames = some X.stack
  stk : X.stack = X.outer ∨ (X.stack = X.env :: X.outer ∧ X.env.frame = some X.env.locals)
  exf : ∀ b ∈ X.ex, b ≠ X.env.locals ∧ ∀ x c, X.env.cells.lookup x = some c → c ≠ b
  bs : ∀ b o, X.base.get? b = some o → X.s₀.heap.get? b = some o ∧ X.H₀ b = none
  bsz : X.base.objs.size ≤ X.s₀.heap.objs.size
  noex : ∀ b o, X.base.get? b = some o → b ∉ X.ex
  exfs : ∀ b ∈ X.ex, b ∉ X.fs
  funs : X.s₀.heap.FunFrames X.base X.outer
  frf : ∀ b ∈ X.fs, X.H₀ b = none

structure Inv (X : Cx) (pins : List (Addr × Obj)) (σ : List (Option V)) (H : Hp) (s : Shared) : Prop where
  ok : X.Ok
  os : s.os = X.s₀.os
  bare : AllBare s.gens
  base : Un X.fs X.ex X.H₀ H X.s₀.heap s.heap
  loc : ∃ m, s.heap.Ns X.env.locals m ∧ ∀ (i : Nat) (x : Str) (v : V), X.N[i]? = some x → σ[i]? = some (some v) → Vis X.env.scope x → ∃ u, RelV v u ∧ Look X.env s.heap m x u
  cell : ∀ x c, X.env.cells.lookup x = some c → ∃ v, s.heap.IsCell c v
  free : H X.env.locals = none
  freeC : ∀ x c, X.env.cells.lookup x = some c → H c = none
  pin : ∀ p ∈ X.pn ++ pins, s.heap.get? p.1 = some p.2 ∧ H p.1 = none ∧ p.1 ≠ X.env.locals ∧ p.1 ∉ X.fs ∧ ∀ v, p.2.data ≠ .cell v
  hok : HOk X.prog X.w H s.heap
  len : σ.length = X.N.length

section
variable {X : Cx} {pins : List (Addr × Obj)} {σ : List (Option V)} {H H' : Hp} {s : Shared} {h' : Heap}

theorem Cx.Ok.nofr (ok : X.Ok) {b : Addr} {o : Obj} (e : X.base.get? b = some o) : b ∉ X.fs := fun hb => by
  have := (ok.funs.mem hb).1
  rw [e] at this; cases this
theorem Inv.bs (I : Inv X pins σ H s) : ∀ b o, X.base.get? b = some o → s.heap.get? b = some o ∧ H b = none := fun b o e =>
  ⟨I.base.keep b o (I.ok.bs b o e).1 (I.ok.bs b o e).2 (I.ok.nofr e) (I.ok.noex b o e), I.base.free b o (I.ok.bs b o e).1 (I.ok.bs b o e).2 (I.ok.noex b o e)⟩
theorem Inv.bk (I : Inv X pins σ H s) : ∀ b o, X.base.get? b = some o → s.heap.get? b = some o := fun b o e => (I.bs b o e).1
theorem Inv.mod (I : Inv X pins σ H s) : Mod X.K X.mg X.base := I.ok.mod
theorem Inv.kIn (I : Inv X pins σ H s) : X.K.In s.heap := I.ok.mod.kin.keeps I.bk
theorem Inv.nolimit (I : Inv X pins σ H s) : s.heap.NoLimit := I.ok.mod.nolimit.keeps I.bk
/-- the frame over the base: for OpenK's rules (K.In X.base is I.mod.kin) -/
theorem Inv.fr (I : Inv X pins σ H s) : ∃ m, Fr X.base X.env.locals s.heap m :=
  let ⟨m, hn, _⟩ := I.loc
  ⟨m, hn, I.bk, Nat.le_trans I.ok.bsz I.ok.above⟩
theorem Inv.lt (I : Inv X pins σ H s) : X.env.locals < s.heap.objs.size := let ⟨_, hn, _⟩ := I.loc; hn.lt
theorem Inv.sz (I : Inv X pins σ H s) : X.s₀.heap.objs.size ≤ s.heap.objs.size := Nat.le_trans I.ok.above (Nat.le_of_lt I.lt)
theorem Inv.nofs (I : Inv X pins σ H s) {a : Addr} (h : s.heap.objs.size ≤ a) : a ∉ X.fs := fun hb => by
  obtain ⟨_, o, ho, _⟩ := I.ok.funs.mem hb
  exact absurd (Nat.lt_of_lt_of_le (Heap.lt_size ho) (Nat.le_trans I.sz h)) (Nat.lt_irrefl _)
theorem Inv.cne (I : Inv X pins σ H s) : ∀ x c, X.env.cells.lookup x = some c → c ≠ X.env.locals := fun x c e z => by
  obtain ⟨v, o, ho, hd⟩ := I.cell x c e
  obtain ⟨m, ⟨o', es, ep, ho', hd', _⟩, _⟩ := I.loc
  rw [z, ho'] at ho; cases ho; rw [hd'] at hd; cases hd
theorem Inv.funs (I : Inv X pins σ H s) : s.heap.FunFrames X.base X.outer := by
  have all : ∀ (l : List Env), (∀ b ∈ frs l, b ∈ X.fs) → X.s₀.heap.FunFrames X.base l → s.heap.FunFrames X.base l := by
    intro l
    induction l with
    | nil => intro _ _; trivial
    | cons env r ih =>
      intro hs hl
      obtain ⟨hk, ⟨L, o, hf, hn, ho, hd⟩, hr⟩ := hl
      have hL : L ∈ X.fs := hs L (by unfold frs; rw [List.filterMap_cons, hf]; exact List.mem_cons_self)
      obtain ⟨sl, e⟩ := I.base.slot L o ho (I.ok.frf L hL) hL fun z => I.ok.exfs L z hL
      exact ⟨hk, ⟨L, _, hf, hn, e, hd⟩, ih (fun b hb => hs b (by unfold frs; rw [List.filterMap_cons, hf]; exact List.mem_cons_of_mem _ hb)) hr⟩
  exact all X.outer (fun _ hb => hb) I.ok.funs

/-- the frames that run, for a call -/
theorem Inv.stack (I : Inv X pins σ H s) : s.heap.FunFrames X.base X.stack := by
  rcases I.ok.stk with e | ⟨e, hf⟩
  · rw [e]; exact I.funs
  · rw [e]
    obtain ⟨m, hn, _⟩ := I.loc
    refine .cons (by rw [I.ok.kind]; decide) hf hn ?_ I.funs
    exact Heap.get?_none_of_le (Nat.le_trans I.ok.bsz I.ok.above)
theorem Inv.stkSub (I : Inv X pins σ H s) : ∀ b ∈ frs X.stack, b ∈ X.env.locals :: X.fs := fun b hb => by
  rcases I.ok.stk with e | ⟨e, hf⟩
  · rw [e] at hb; exact List.mem_cons_of_mem _ hb
  · rw [e] at hb
    unfold frs at hb
    rw [List.filterMap_cons, hf] at hb
    exact hb
theorem Inv.stkFree (I : Inv X pins σ H s) : ∀ b ∈ frs X.stack, H b = none := fun b hb => by
  rcases List.mem_cons.mp (I.stkSub b hb) with e | hb
  · rw [e]; exact I.free
  · obtain ⟨_, o, ho, _⟩ := I.ok.funs.mem hb
    exact I.base.free b o ho (I.ok.frf b hb) fun z => I.ok.exfs b z hb

/-- THE STEP: the untracked objects but the frame and the records at ch are kept (the callers' frames up to slots), the frame's map is kept, the new abstract heap is held -/
theorem Inv.step {g' : Array GenState} {t' : Nat} {d' : Drawn} {ch : List Addr} (I : Inv X pins σ H s)
    (hch : ∀ b ∈ ch, (b ∈ X.ex ∨ X.s₀.heap.objs.size ≤ b) ∧ b ≠ X.env.locals ∧ (∀ x c, X.env.cells.lookup x = some c → c ≠ b) ∧ ∀ p ∈ X.pn ++ pins, p.1 ≠ b)
    (keep : ∀ b o, b ≠ X.env.locals → b ∉ X.fs → b ∉ ch → s.heap.get? b = some o → H b = none → h'.get? b = some o)
    (slot : ∀ b o, b ≠ X.env.locals → b ∈ X.fs → b ∉ ch → s.heap.get? b = some o → H b = none → ∃ sl, h'.get? b = some { o with slots := sl }) (free : ∀ b o, b ∉ ch → s.heap.get? b = some o → H b = none → H' b = none)
    (there : ∀ b o, b ∉ ch → s.heap.get? b = some o → ∃ o', h'.get? b = some o')
    (tups : ∀ b xs, H b = some (.tup xs) → H' b = some (.tup xs)) (frzs : ∀ b o u, H b = some (.frz o u) → H' b = some (.frz o u)) (tbls : ∀ b ps, H b = some (.tbl ps) → ∃ more, H' b = some (.tbl (ps ++ more)))
    (ns : ∀ m, s.heap.Ns X.env.locals m → h'.Ns X.env.locals m) (hok : HOk X.prog X.w H' h') (hg : AllBare g') :
    Inv X pins σ H' { s with heap := h', gens := g', drawn := d', toks := t' } := by
  have neL : ∀ b o, X.s₀.heap.get? b = some o → b ≠ X.env.locals := fun b o e => Nat.ne_of_lt (Nat.lt_of_lt_of_le (Heap.lt_size e) I.ok.above)
  have neC : ∀ b o, X.s₀.heap.get? b = some o → b ∉ X.ex → b ∉ ch := fun b o e hx hb => by
    rcases (hch b hb).1 with z | z
    · exact hx z
    · exact absurd (Nat.lt_of_lt_of_le (Heap.lt_size e) z) (Nat.lt_irrefl _)
  have cellK : ∀ x c, X.env.cells.lookup x = some c → ∀ v, s.heap.IsCell c v → h'.IsCell c v := fun x c e v ⟨o, ho, hd⟩ => by
    have nch : c ∉ ch := fun z => (hch c z).2.2.1 x c e rfl
    by_cases hc : c ∈ X.fs
    · obtain ⟨sl, q⟩ := slot c o (I.cne x c e) hc nch ho (I.freeC x c e)
      exact ⟨_, q, hd⟩
    · exact ⟨o, keep c o (I.cne x c e) hc nch ho (I.freeC x c e), hd⟩
  refine ⟨I.ok, I.os, hg, ⟨fun b o e n hb hx => ?_, fun b o e n hb hx => ?_, fun b o e n hx => ?_, fun b o e hx => ?_, fun b xs e => tups b xs (I.base.tups b xs e), fun b o xs e => frzs b o xs (I.base.frzs b o xs e), fun b ps e => ?_⟩, ?_, fun x c e => ?_, ?_, fun x c e => ?_, fun p hp => ?_, hok, I.len⟩
  · exact keep b o (neL b o e) hb (neC b o e hx) (I.base.keep b o e n hb hx) (I.base.free b o e n hx)
  · obtain ⟨sl, e1⟩ := I.base.slot b o e n hb hx
    obtain ⟨sl', e2⟩ := slot b _ (neL b o e) hb (neC b o e hx) e1 (I.base.free b o e n hx)
    exact ⟨sl', e2⟩
  · obtain ⟨o', e1⟩ := I.base.there b o e hx
    exact free b o' (neC b o e hx) e1 (I.base.free b o e n hx)
  · obtain ⟨o', e1⟩ := I.base.there b o e hx
    exact there b o' (neC b o e hx) e1
  · obtain ⟨m1, e1⟩ := I.base.tbls b ps e
    obtain ⟨m2, e2⟩ := tbls b _ e1
    exact ⟨m1 ++ m2, by rw [e2, Array.append_assoc]⟩
  · obtain ⟨m, hn, hl⟩ := I.loc
    refine ⟨m, ns m hn, fun i x v e1 e2 e3 => ?_⟩
    obtain ⟨u, r, l⟩ := hl i x v e1 e2 e3
    refine ⟨u, r, ?_⟩
    rcases l with l | ⟨k, c, e, z⟩
    · exact .inl l
    · exact .inr ⟨k, c, e, cellK x c e _ z⟩
  · obtain ⟨v, z⟩ := I.cell x c e
    exact ⟨v, cellK x c e v z⟩
  · obtain ⟨m, ⟨o, _, _, ho, _⟩, _⟩ := I.loc
    exact free _ o (fun z => (hch _ z).2.1 rfl) ho I.free
  · obtain ⟨v, o, ho, hd⟩ := I.cell x c e
    exact free c o (fun z => (hch c z).2.2.1 x c e rfl) ho (I.freeC x c e)
  · obtain ⟨e, n, ne, nf, d⟩ := I.pin p hp
    have nch : p.1 ∉ ch := fun z => (hch p.1 z).2.2.2 p hp rfl
    exact ⟨keep p.1 p.2 ne nf nch e n, free p.1 p.2 nch e n, ne, nf, d⟩
/-- .. where the frame's own object is kept too -/
theorem Inv.un {t' : Nat} (I : Inv X pins σ H s) (u : Un X.fs [] H H' s.heap h') (hok : HOk X.prog X.w H' h') : Inv X pins σ H' { s with heap := h', toks := t' } := by
  obtain ⟨m, ⟨o, es, ep, ho, r⟩, _⟩ := id I.loc
  obtain ⟨sl, hL⟩ := u.any ho I.free (by simp)
  exact I.step (g' := s.gens) (d' := s.drawn) (ch := []) (fun _ z => nomatch z) (fun b o _ hb _ e n => u.keep b o e n hb (by simp)) (fun b o _ hb _ e n => u.slot b o e n hb (by simp)) (fun b o _ e n => u.free b o e n (by simp)) (fun b o _ e => u.there b o e (by simp)) u.tups u.frzs u.tbls (fun m' hm => by
    obtain ⟨o', es', ep', ho', r'⟩ := hm
    rw [ho] at ho'; cases ho'
    exact ⟨_, es', ep', hL, r'⟩) hok I.bare
/-- behind a call (or a comprehension's block): the slots of this frame may have changed too, the records at ch may have turned -/
theorem Inv.call {g' : Array GenState} {t' : Nat} {d' : Drawn} {ch : List Addr} (I : Inv X pins σ H s) (u : Un (frs X.stack) ch H H' s.heap h') (hok : HOk X.prog X.w H' h') (hg : AllBare g')
    (hch : ∀ b ∈ ch, (b ∈ X.ex ∨ X.s₀.heap.objs.size ≤ b) ∧ b ≠ X.env.locals ∧ (∀ x c, X.env.cells.lookup x = some c → c ≠ b) ∧ ∀ p ∈ X.pn ++ pins, p.1 ≠ b) :
    Inv X pins σ H' { s with heap := h', gens := g', drawn := d', toks := t' } := by
  obtain ⟨m, ⟨o, es, ep, ho, r⟩, _⟩ := id I.loc
  obtain ⟨sl, hL⟩ := u.any ho I.free fun z => (hch _ z).2.1 rfl
  exact I.step (ch := ch) hch (fun b o hL hb hc e n => u.keep b o e n (fun z => (List.mem_cons.mp (I.stkSub b z)).elim hL hb) hc) (fun b o _ _ hc e n => u.any e n hc) (fun b o hc e n => u.free b o e n hc) (fun b o hc e => u.there b o e hc) u.tups u.frzs u.tbls (fun m' hm => by
    obtain ⟨o', es', ep', ho', r'⟩ := hm
    rw [ho] at ho'; cases ho'
    exact ⟨_, es', ep', hL, r'⟩) hok hg
/-- an untracked record of ours (an iterator) has turned -/
theorem Inv.turned {t' : Nat} {it : Addr} (I : Inv X pins σ H s) (k : ∀ b o, b ≠ it → s.heap.get? b = some o → h'.get? b = some o) (hn : H it = none) (hL : it ≠ X.env.locals)
    (h1 : it ∈ X.ex ∨ X.s₀.heap.objs.size ≤ it) (h2 : ∀ x c, X.env.cells.lookup x = some c → c ≠ it) (h3 : ∀ p ∈ X.pn ++ pins, p.1 ≠ it) : Inv X pins σ H { s with heap := h', toks := t' } := by
  have nit : ∀ b u, H b = some u → b ≠ it := fun b u e z => by rw [z, hn] at e; cases e
  refine I.step (g' := s.gens) (d' := s.drawn) (ch := [it]) (fun b hb => ?_) (fun b o _ _ hc e _ => k b o (fun z => hc (by simp [z])) e) (fun b o _ _ hc e _ => ⟨o.slots, k b o (fun z => hc (by simp [z])) e⟩) (fun _ _ _ _ n => n)
    (fun b o hc e => ⟨o, k b o (fun z => hc (by simp [z])) e⟩) (fun _ _ e => e) (fun _ _ _ e => e) (fun b ps e => ⟨#[], by rw [e]; simp⟩) (fun m hm => ?_) (fun b u e => ?_) I.bare
  · have e : b = it := by simpa using hb
    subst e
    exact ⟨h1, hL, h2, h3⟩
  · obtain ⟨o, es, ep, ho, r⟩ := hm
    exact ⟨o, es, ep, k _ o (Ne.symm hL) ho, r⟩
  · refine (I.hok b u e).stay (fun c v hc q => k c v ?_ q) (fun _ q => q) fun _ _ q => q
    rcases hc with z | z
    · rw [z]; exact nit b u e
    · exact nit c _ z
theorem Inv.tok (I : Inv X pins σ H s) (t : Nat) : Inv X pins σ H { s with toks := t } := I.un (h' := s.heap) (t' := t) Un.refl I.hok
/-- all objects kept -/
theorem Inv.kept {t' : Nat} (I : Inv X pins σ H s) (k : ∀ b u, s.heap.get? b = some u → h'.get? b = some u) : Inv X pins σ H { s with heap := h', toks := t' } := I.un (Un.kept k) (I.hok.kept k)
/-- a new object laid and tracked -/
theorem Inv.laid {a : Addr} {o : HO} {t' : Nat} (I : Inv X pins σ H s) (k : ∀ b u, s.heap.get? b = some u → h'.get? b = some u) (hp : s.heap.objs.size ≤ a) (new : ObjOk X.prog X.w (upd H a o) h' a o) :
    Inv X pins σ (upd H a o) { s with heap := h', toks := t' } := I.un (Un.laid k hp (I.hok.fresh hp)) (I.hok.laid k hp new)
/-- an object written -/
theorem Inv.write {x e : Addr} {o : HO} {t' : Nat} (I : Inv X pins σ H s) (mu : Mut (H x)) (he : e = x ∨ H e = some (.own x)) (k : ∀ b u, b ≠ e → s.heap.get? b = some u → h'.get? b = some u) (heo : ∃ u, h'.get? e = some u)
    (new : ObjOk X.prog X.w (upd H x o) h' x o) : Inv X pins σ (upd H x o) { s with heap := h', toks := t' } := I.un (Un.write mu he k heo) (I.hok.write mu he k heo new)
theorem Inv.pins_of {pins' : List (Addr × Obj)} (I : Inv X pins σ H s) (h : ∀ p ∈ pins', s.heap.get? p.1 = some p.2 ∧ H p.1 = none ∧ p.1 ≠ X.env.locals ∧ p.1 ∉ X.fs ∧ ∀ v, p.2.data ≠ .cell v) : Inv X pins' σ H s :=
  ⟨I.ok, I.os, I.bare, I.base, I.loc, I.cell, I.free, I.freeC, fun p hp => (List.mem_append.mp hp).elim (fun z => I.pin p (List.mem_append_left _ z)) (h p), I.hok, I.len⟩

theorem nodup_ix {N : List Str} (hN : N.Nodup) {i j : Nat} {x : Str} (a : N[i]? = some x) (b : N[j]? = some x) : i = j := by
  obtain ⟨h1, e1⟩ := List.getElem?_eq_some_iff.mp a
  obtain ⟨h2, e2⟩ := List.getElem?_eq_some_iff.mp b
  exact (List.getElem_inj hN).mp (e1.trans e2.symm)

/-- a name is stored; what changed -/
theorem store_ok2 {M : Model} {A : Around} {E : Value → Shared → Prop} {i : Nat} {x : Str} {v : V} {u : Value} {Q : Unit → Shared → Prop} (I : Inv X pins σ H s) (hN : X.N.Nodup) (hi : X.N[i]? = some x) (hx : Loc X.env.scope x) (r : RelV v u)
    (h : ∀ s', Inv X pins (σ.set i (some v)) H s' → (∃ a, Heap.SameBut a s.heap s'.heap ∧ (a = X.env.locals ∨ X.env.cells.lookup x = some a)) → Q () s') (hf : X.fn x = true ∨ X.env.scope.names.lookup x = some .local := by first | exact .inl rfl | exact .inr rfl | assumption) : wpAny M A (storeName X.env x u) Q E s := by
  obtain ⟨m, hn, hl⟩ := id I.loc
  have hcls : (X.env.scope.kind == .class || (X.env.scope.kind == .module && X.env.locals != X.env.globals)) = false := by rw [I.ok.kind]; rfl
  have hiσ : i < σ.length := by rw [I.len]; exact (List.getElem?_eq_some_iff.mp hi).1
  have cne := I.cne
  have tracked : ∀ {a : Addr} {h' : Heap}, (∃ o, s.heap.get? a = some o ∧ H a = none) → Heap.SameBut a s.heap h' → HOk X.prog X.w H h' := fun {a h'} ha hs b ob e => by
    obtain ⟨_, _, hfree⟩ := ha
    refine (I.hok b ob e).stay (fun c w' hc q => (hs.2 c ?_).trans q) (fun _ q => q) fun _ _ q => q
    rintro rfl
    rcases hc with rfl | hc
    · rw [hfree] at e; cases e
    · rw [hfree] at hc; cases hc
  rcases hx with hk | hk
  · refine wpAny_storeName_local hk hn (fun h' hn' hs => ?_) hcls
    obtain ⟨oL, _, _, hoL, _⟩ := id hn
    refine h _ ⟨I.ok, I.os, I.bare, ⟨fun b o e n hb hx => ?_, fun b o e n hb hx => ?_, I.base.free, fun b o e hx => ?_, I.base.tups, I.base.frzs, I.base.tbls⟩, ⟨_, hn', fun j y v' e1 e2 e3 => ?_⟩, fun y c e => ?_, I.free, I.freeC, fun p hp => ?_, tracked ⟨oL, hoL, I.free⟩ hs, by simpa using I.len⟩ ⟨_, hs, .inl rfl⟩
    · exact (hs.2 b (Nat.ne_of_lt (Nat.lt_of_lt_of_le (Heap.lt_size e) I.ok.above))).trans (I.base.keep b o e n hb hx)
    · obtain ⟨sl, e1⟩ := I.base.slot b o e n hb hx
      exact ⟨sl, (hs.2 b (Nat.ne_of_lt (Nat.lt_of_lt_of_le (Heap.lt_size e) I.ok.above))).trans e1⟩
    · obtain ⟨o', e1⟩ := I.base.there b o e hx
      exact ⟨o', (hs.2 b (Nat.ne_of_lt (Nat.lt_of_lt_of_le (Heap.lt_size e) I.ok.above))).trans e1⟩
    · by_cases hj : j = i
      · subst hj
        rw [hi] at e1; cases e1
        rw [List.getElem?_set_self hiσ] at e2
        cases e2
        exact ⟨u, r, .inl ⟨hk, by simp⟩⟩
      · rw [List.getElem?_set_ne (Ne.symm hj)] at e2
        obtain ⟨u', r', q⟩ := hl j y v' e1 e2 e3
        refine ⟨u', r', ?_⟩
        rcases q with ⟨k, e⟩ | ⟨k, c, e, z⟩
        · refine .inl ⟨k, ?_⟩
          have : y ≠ x := fun e => hj (nodup_ix hN e1 (e ▸ hi))
          simp [this, e]
        · exact .inr ⟨k, c, e, z.sameBut hs (cne y c e)⟩
    · obtain ⟨w', z⟩ := I.cell y c e
      exact ⟨w', z.sameBut hs (cne y c e)⟩
    · obtain ⟨e, n, ne, nf, d⟩ := I.pin p hp
      exact ⟨(hs.2 p.1 ne).trans e, n, ne, nf, d⟩
  · have hfn : X.fn x = true := by
      rcases hf with z | z
      · exact z
      · rw [z] at hk; cases hk
    obtain ⟨c, hc⟩ := I.ok.has x (.inl hk)
    obtain ⟨w', z⟩ := I.cell x c hc
    refine wpAny_storeName_cell I.ok.kind hk hc z (fun h' hc' hs => ?_)
    obtain ⟨oc, hoc, hocd⟩ := id z
    refine h { s with heap := h' } ⟨I.ok, I.os, I.bare, ⟨fun b o e n hb hx => ?_, fun b o e n hb hx => ?_, I.base.free, fun b o e hx => ?_, I.base.tups, I.base.frzs, I.base.tbls⟩, ⟨m, hn.sameBut hs (Ne.symm (cne x c hc)), fun j y v' e1 e2 e3 => ?_⟩, fun y c' e => ?_, I.free, I.freeC, fun p hp => ?_, tracked ⟨oc, hoc, I.freeC x c hc⟩ hs, by simpa using I.len⟩ ⟨c, hs, .inr hc⟩
    · exact (hs.2 b (Nat.ne_of_lt (Nat.lt_of_lt_of_le (Heap.lt_size e) (I.ok.cab x c hfn hc)))).trans (I.base.keep b o e n hb hx)
    · obtain ⟨sl, e1⟩ := I.base.slot b o e n hb hx
      exact ⟨sl, (hs.2 b (Nat.ne_of_lt (Nat.lt_of_lt_of_le (Heap.lt_size e) (I.ok.cab x c hfn hc)))).trans e1⟩
    · obtain ⟨o', e1⟩ := I.base.there b o e hx
      exact ⟨o', (hs.2 b (Nat.ne_of_lt (Nat.lt_of_lt_of_le (Heap.lt_size e) (I.ok.cab x c hfn hc)))).trans e1⟩
    · by_cases hj : j = i
      · subst hj
        rw [hi] at e1; cases e1
        rw [List.getElem?_set_self hiσ] at e2
        cases e2
        exact ⟨u, r, .inr ⟨.inl hk, c, hc, hc'⟩⟩
      · rw [List.getElem?_set_ne (Ne.symm hj)] at e2
        obtain ⟨u', r', q⟩ := hl j y v' e1 e2 e3
        refine ⟨u', r', ?_⟩
        rcases q with q | ⟨k, c', e, z'⟩
        · exact .inl q
        · refine .inr ⟨k, c', e, z'.sameBut hs ?_⟩
          rintro rfl
          exact hj (nodup_ix hN e1 (I.ok.inj _ _ _ e hc ▸ hi))
    · by_cases hcc : c' = c
      · subst hcc; exact ⟨_, hc'⟩
      · obtain ⟨w2, z2⟩ := I.cell y c' e
        exact ⟨w2, z2.sameBut hs hcc⟩
    · obtain ⟨e, n, ne, nf, d⟩ := I.pin p hp
      refine ⟨(hs.2 p.1 ?_).trans e, n, ne, nf, d⟩
      intro q
      rw [q, hoc] at e
      have q' : oc = p.2 := Option.some.inj e
      exact d w' (by rw [← q']; exact hocd)
theorem store_ok {M : Model} {A : Around} {E : Value → Shared → Prop} {i : Nat} {x : Str} {v : V} {u : Value} {Q : Unit → Shared → Prop} (I : Inv X pins σ H s) (hN : X.N.Nodup) (hi : X.N[i]? = some x) (hx : Loc X.env.scope x) (r : RelV v u)
    (h : ∀ s', Inv X pins (σ.set i (some v)) H s' → Q () s') (hf : X.fn x = true ∨ X.env.scope.names.lookup x = some .local := by first | exact .inl rfl | exact .inr rfl | assumption) : wpAny M A (storeName X.env x u) Q E s :=
  store_ok2 I hN hi hx r (fun s' I' _ => h s' I') hf
end

/-! ### the judgements -/
/-- an exception: its class, its own dict's address (where it has one), the abstract heap behind it -/
abbrev XK := Value → Option Addr → Hp → Prop
abbrev St := List (Option V)
abbrev VK := V → Hp → Prop
/-- an expression's reading; a test's; an argument list's -/
abbrev TE := St → Hp → VK → Prop
abbrev TT := St → Hp → (Bool → Hp → Prop) → Prop
abbrev TA := St → Hp → (List V → Hp → Prop) → Prop
/-- what is wanted behind a statement -/
structure Ends where
  nx : St → Hp → Prop
  rt : VK
  bk : St → Hp → Prop := fun _ _ => False
  ct : St → Hp → Prop := fun _ _ => False
abbrev TS := Ends → St → Hp → Prop

def EP (X : Cx) (pins : List (Addr × Obj)) (σ : St) (Q : VK) (u : Value) (s' : Shared) : Prop := ∃ v H', Inv X pins σ H' s' ∧ RelV v u ∧ Q v H'
def TP (X : Cx) (pins : List (Addr × Obj)) (σ : St) (Q : Bool → Hp → Prop) (b : Bool) (s' : Shared) : Prop := ∃ H', Inv X pins σ H' s' ∧ Q b H'
def AP (X : Cx) (pins : List (Addr × Obj)) (σ : St) (Q : List V → Hp → Prop) (us : List Value) (s' : Shared) : Prop := ∃ vs H', Inv X pins σ H' s' ∧ Vals vs us ∧ Q vs H'
def SP (X : Cx) (pins : List (Addr × Obj)) (D : Ends) (f : Flow) (s' : Shared) : Prop :=
  match f with
  | .next => ∃ σ' H', Inv X pins σ' H' s' ∧ D.nx σ' H'
  | .brk => ∃ σ' H', Inv X pins σ' H' s' ∧ D.bk σ' H'
  | .cont => ∃ σ' H', Inv X pins σ' H' s' ∧ D.ct σ' H'
  | .ret u => ∃ v σ' H', Inv X pins σ' H' s' ∧ RelV v u ∧ D.rt v H'

def PE (X : Cx) (e : Expr) (t : TE) : Prop :=
  ∀ (pins : List (Addr × Obj)) (s : Shared) (σ : St) (H : Hp) (Q : VK), Inv X pins σ H s → t σ H Q → wpAny (model X.prog X.w) X.A (eval e X.env) (EP X pins σ Q) X.xe s
def PT (X : Cx) (e : Expr) (t : TT) : Prop :=
  ∀ (pins : List (Addr × Obj)) (s : Shared) (σ : St) (H : Hp) (Q : Bool → Hp → Prop), Inv X pins σ H s → t σ H Q → wpAny (model X.prog X.w) X.A (isTrue e X.env (eval e X.env)) (TP X pins σ Q) X.xe s
/-- a test whatever its 'whole' is (and, or) -/
def PW (X : Cx) (e : Expr) (t : TT) : Prop :=
  ∀ (whole : Sem Value) (pins : List (Addr × Obj)) (s : Shared) (σ : St) (H : Hp) (Q : Bool → Hp → Prop), Inv X pins σ H s → t σ H Q → wpAny (model X.prog X.w) X.A (isTrue e X.env whole) (TP X pins σ Q) X.xe s
theorem PW.pt {X : Cx} {e : Expr} {t : TT} (h : PW X e t) : PT X e t := h _
/-- an argument list (no star), from the left -/
def PA (X : Cx) (es : List Expr) (t : TA) : Prop :=
  ∀ (pos : Pos) (pins : List (Addr × Obj)) (s : Shared) (σ : St) (H : Hp) (Q : List V → Hp → Prop), Inv X pins σ H s → t σ H Q → wpAny (model X.prog X.w) X.A (spliced (backTo pos (starEach es X.env))) (AP X pins σ Q) X.xe s
def PS (X : Cx) (st : Stmt) (t : TS) : Prop :=
  ∀ (pins : List (Addr × Obj)) (s : Shared) (σ : St) (H : Hp) (D : Ends), Inv X pins σ H s → t D σ H → wpAny (model X.prog X.w) X.A (exec st X.env) (SP X pins D) X.xe s
def PSs (X : Cx) (st : List Stmt) (t : TS) : Prop :=
  ∀ (pins : List (Addr × Obj)) (s : Shared) (σ : St) (H : Hp) (D : Ends), Inv X pins σ H s → t D σ H → wpAny (model X.prog X.w) X.A (execs st X.env) (SP X pins D) X.xe s
/-- weaken the end -/
theorem thn {α : Type} {t : Sem α} {Q Q' : α → Shared → Prop} {M : Model} {A : Around} {E : Value → Shared → Prop} {s : Shared} (h : wpAny M A t Q E s) (hQ : ∀ a s, Q a s → Q' a s) : wpAny M A t Q' E s := wpAny_mono h hQ fun _ _ x => x
end L2

namespace L2
open PySem PySem.Spec PyProof.Rows
section
variable {X : Cx}

/-! ### names and constants -/
def tVar (i : Nat) : TE := fun σ H Q => ∃ v, σ[i]? = some (some v) ∧ Q v H
def tC (v : V) : TE := fun _ H Q => Q v H
theorem pe_var {i : Nat} {x : Str} {pos : Pos} (hN : X.N[i]? = some x) (hv : Vis X.env.scope x) (hd : (x == ("__debug__" : Str)) = false := by decide) (hcd : (x == ("__classdict__" : Str)) = false := by decide) : PE X (.Name x pos) (tVar i) := by
  intro pins s σ H Q I h
  obtain ⟨v, e, h⟩ := h
  obtain ⟨m, hn, hl⟩ := I.loc
  obtain ⟨u, r, l⟩ := hl i x v hN e hv
  have fin : EP X pins σ Q u s := ⟨v, H, I, r, h⟩
  rcases l with ⟨hk, hm⟩ | ⟨hk, c, hc, hcell⟩
  · exact wpAny_Name (wpAny_loadName_local I.ok.kind hk hn hm fin) hd
  · rcases hk with hk | hk
    · exact wpAny_Name (wpAny_loadName_cell I.ok.kind hk hc hcell fin) hd
    · exact wpAny_Name (wpAny_loadName_free I.ok.kind hk hc hcell fin hcd) hd
theorem pe_int {i j pos} : PE X (.Constant (.int i) j pos) (tC (.int i)) := fun _ _ _ H _ I h => wpAny_Constant_int ⟨.int i, H, I.tok _, ⟨_, rfl⟩, h⟩
theorem pe_bl {b j pos} : PE X (.Constant (.bool b) j pos) (tC (.bl b)) := fun _ _ _ H _ I h => Constant_bool ⟨.bl b, H, I, rfl, h⟩
theorem pe_non {j pos} : PE X (.Constant .none j pos) (tC .non) := fun _ _ _ H _ I h => Constant_none ⟨.non, H, I, rfl, h⟩
theorem pe_str {x j pos} : PE X (.Constant (.str x) j pos) (tC (.str x)) := fun _ _ _ H _ I h => Calls.Constant_str ⟨.str x, H, I.tok _, ⟨_, rfl⟩, h⟩

/-- a global name of the def -/
def Gl (X : Cx) (x : Str) : Prop := X.env.kindOf x = some .globalImplicit
theorem ld_glob {E : Value → Shared → Prop} {pins : List (Addr × Obj)} {s : Shared} {σ : St} {H : Hp} {x : Str} {u : Value} {pos : Pos} {Q : Value → Shared → Prop} (I : Inv X pins σ H s) (hg : Gl X x) (hm : X.mg x = some u) (h : Q u s)
    (hd : (x == ("__debug__" : Str)) = false := by decide) : wpAny (model X.prog X.w) X.A (eval (.Name x pos) X.env) Q E s :=
  Calls.Name_function_global I.ok.kind hg (Calls.loadGlobal_global (by rw [I.ok.glob]; exact I.mod.glob.keeps I.bk) hm h) hd
theorem ld_blt {E : Value → Shared → Prop} {pins : List (Addr × Obj)} {s : Shared} {σ : St} {H : Hp} {x : Str} {u : Value} {pos : Pos} {Q : Value → Shared → Prop} (I : Inv X pins σ H s) (hg : Gl X x) (hm : X.mg x = none) (hv : bootBuiltins x = some u) (h : Q u s)
    (hn : x ≠ "__name__" := by decide) (hd : (x == ("__debug__" : Str)) = false := by decide) : wpAny (model X.prog X.w) X.A (eval (.Name x pos) X.env) Q E s := by
  obtain ⟨mb, h1, h2⟩ := I.mod.blt
  exact Calls.Name_function_global I.ok.kind hg (Calls.loadGlobal_builtin (by rw [I.ok.glob]; exact I.mod.glob.keeps I.bk) hm (by rw [I.ok.blt]; exact h1.keeps I.bk) ((h2 x hn).trans hv) h) hd
/-- a module's constant, a class, a function, as a value -/
theorem pe_glob {x : Str} {v : V} {u : Value} {pos : Pos} (hg : Gl X x) (hm : X.mg x = some u) (r : RelV v u) (hd : (x == ("__debug__" : Str)) = false := by decide) : PE X (.Name x pos) (tC v) :=
  fun _ _ _ H _ I h => ld_glob I hg hm ⟨v, H, I, r, h⟩ hd
theorem pe_bltn {x : Str} {v : V} {u : Value} {pos : Pos} (hg : Gl X x) (hm : X.mg x = none) (hv : bootBuiltins x = some u) (r : RelV v u) (hn : x ≠ "__name__" := by decide) (hd : (x == ("__debug__" : Str)) = false := by decide) : PE X (.Name x pos) (tC v) :=
  fun _ _ _ H _ I h => ld_blt I hg hm hv ⟨v, H, I, r, h⟩ hn hd

/-! ### arithmetic -/
variable {a b : Expr} {ta tb : TE} {pos : Pos}
/-! ### comparisons -/
/-- a comparison as a value, as a test -/
def tB (t : TE) : TT := fun σ H Q => t σ H fun x H1 => ∃ c, x = .bl c ∧ Q c H1
/-- an expression whose value is a bool, as a test -/
theorem pt_val {e : Expr} {t : TE} (h : PE X e t) (he : ∀ whole, isTrue e X.env whole = (do let v ← whole; standAt e.pos; holding [v] (truthy v)) := by intro _; rfl) : PT X e (tB t) := by
  intro pins s σ H Q I hw
  refine isTrue_plain (thn (h pins s σ H _ I hw) fun v s1 ⟨x, H1, I1, r1, q1⟩ => ?_) (he _)
  obtain ⟨d, rfl, q⟩ := q1
  cases r1
  exact wpAny_truthy_bool ⟨H1, I1, q⟩

/-! ### and, or, not -/
variable {tA tB' : TT} {rest : List Expr}
def tAnd (t u : TT) : TT := fun σ H Q => t σ H fun c H1 => if c = true then u σ H1 Q else Q false H1
def tOr (t u : TT) : TT := fun σ H Q => t σ H fun c H1 => if c = true then Q true H1 else u σ H1 Q
def tNot (t : TT) : TT := fun σ H Q => t σ H fun c H1 => Q (!c) H1
theorem pw_and1 (ha : PT X a tA) : PW X (.BoolOp .And [a] pos) tA := by
  intro wh pins s σ H Q I h
  refine isTrue_and (thn (ha pins s σ H Q I h) fun c s1 e => ?_)
  cases c with
  | true => exact isTrue_and_nil e
  | false => exact e
theorem pw_or1 (ha : PT X a tA) : PW X (.BoolOp .Or [a] pos) tA := by
  intro wh pins s σ H Q I h
  refine isTrue_or (thn (ha pins s σ H Q I h) fun c s1 e => ?_)
  cases c with
  | false => exact isTrue_or_nil e
  | true => exact e
theorem pw_and (ha : PT X a tA) (hb : PW X (.BoolOp .And (b :: rest) pos) tB') : PW X (.BoolOp .And (a :: b :: rest) pos) (tAnd tA tB') := by
  intro wh pins s σ H Q I h
  refine isTrue_and (thn (ha pins s σ H _ I h) fun c s1 ⟨H1, I1, q1⟩ => ?_)
  cases c with
  | true => exact hb wh pins s1 σ H1 Q I1 q1
  | false => exact ⟨H1, I1, q1⟩
theorem pw_or (ha : PT X a tA) (hb : PW X (.BoolOp .Or (b :: rest) pos) tB') : PW X (.BoolOp .Or (a :: b :: rest) pos) (tOr tA tB') := by
  intro wh pins s σ H Q I h
  refine isTrue_or (thn (ha pins s σ H _ I h) fun c s1 ⟨H1, I1, q1⟩ => ?_)
  cases c with
  | true => exact ⟨H1, I1, q1⟩
  | false => exact hb wh pins s1 σ H1 Q I1 q1
theorem pt_not (ha : PT X a tA) : PT X (.UnaryOp .Not a pos) (tNot tA) := by
  intro pins s σ H Q I h
  exact isTrue_not (ha pins s σ H (fun c H1 => Q (!c) H1) I h)
/-- .. as values (bools) -/
def tAndV (ta tb : TE) : TE := fun σ H Q => ta σ H fun x H1 => ∃ c, x = .bl c ∧ if c = true then tb σ H1 Q else Q (.bl false) H1
def tOrV (ta tb : TE) : TE := fun σ H Q => ta σ H fun x H1 => ∃ c, x = .bl c ∧ if c = true then Q (.bl true) H1 else tb σ H1 Q
def tNotV (ta : TE) : TE := fun σ H Q => ta σ H fun x H1 => ∃ c, x = .bl c ∧ Q (.bl (!c)) H1
theorem pe_one {op} {t : TE} (h : PE X a t) : PE X (.BoolOp op [a] pos) t := fun pins s σ H Q I hw => BoolOp_one (h pins s σ H Q I hw)
theorem pe_and (ha : PE X a ta) (hb : PE X (.BoolOp .And (b :: rest) pos) tb) : PE X (.BoolOp .And (a :: b :: rest) pos) (tAndV ta tb) := by
  intro pins s σ H Q I h
  refine BoolOp_and (thn (ha pins s σ H _ I h) fun v s1 ⟨x, H1, I1, r1, q1⟩ => ?_)
  obtain ⟨c, rfl, q1⟩ := q1
  cases r1
  refine wpAny_truthy_bool ?_
  cases c with
  | true => exact hb pins s1 σ H1 Q I1 q1
  | false => exact ⟨.bl false, H1, I1, rfl, q1⟩
theorem pe_or (ha : PE X a ta) (hb : PE X (.BoolOp .Or (b :: rest) pos) tb) : PE X (.BoolOp .Or (a :: b :: rest) pos) (tOrV ta tb) := by
  intro pins s σ H Q I h
  refine BoolOp_or (thn (ha pins s σ H _ I h) fun v s1 ⟨x, H1, I1, r1, q1⟩ => ?_)
  obtain ⟨c, rfl, q1⟩ := q1
  cases r1
  refine wpAny_truthy_bool ?_
  cases c with
  | false => exact hb pins s1 σ H1 Q I1 q1
  | true => exact ⟨.bl true, H1, I1, rfl, q1⟩
theorem pe_not (ha : PE X a ta) : PE X (.UnaryOp .Not a pos) (tNotV ta) := by
  intro pins s σ H Q I h
  refine UnaryOp_ (thn (ha pins s σ H _ I h) fun v s1 ⟨x, H1, I1, r1, q1⟩ => ?_)
  obtain ⟨c, rfl, q1⟩ := q1
  cases r1
  exact not_of (wpAny_truthy_bool ⟨.bl (!c), H1, I1, rfl, q1⟩)
/-- a if t else b -/
def tIf (t : TT) (ta tb : TE) : TE := fun σ H Q => t σ H fun c H1 => if c = true then ta σ H1 Q else tb σ H1 Q
end
end L2

namespace L2
open PySem PySem.Spec PyProof.Rows

/-! ### a list, a tuple that is read: tracked, frozen, or an object of the module -/
def SqL (K : PySem.W.Frag) (H : Hp) (a : Addr) (xs : List V) : Prop :=
  Rd H a (.lst xs) ∨
    ∃ (o : Obj) (its : Array Value) (n : Nat), K.lookup a = some o ∧ o.cls = .type "list" ∧ o.dict = none ∧ o.data = .seq its n ∧ its.size ≤ sizeLine ∧ Vals xs its.toList
def SqT (K : PySem.W.Frag) (H : Hp) (a : Addr) (xs : List V) : Prop :=
  Rd H a (.tup xs) ∨
    ∃ (o : Obj) (its : Array Value) (n : Nat), K.lookup a = some o ∧ o.cls = .type "tuple" ∧ o.data = .seq its n ∧ its.size ≤ sizeLine ∧ Vals xs its.toList
def absV : Value → Option V
  | .none => some .non
  | .bool b => some (.bl b)
  | .int i _ => some (.int i)
  | .str x _ => some (.str x)
  | .bytes b _ => some (.byt b)
  | .float b _ => some (.flt b)
  | .ref a => some (.ref a)
  | .type n => some (.ty n)
  | _ => none
theorem RelV.abs {x : V} {u : Value} (r : RelV x u) : absV u = some x := by
  cases x with
  | non => cases r; rfl
  | bl _ => cases r; rfl
  | int _ => obtain ⟨t, rfl⟩ := r; rfl
  | str _ => obtain ⟨t, rfl⟩ := r; rfl
  | byt _ => obtain ⟨t, rfl⟩ := r; rfl
  | flt _ => obtain ⟨t, rfl⟩ := r; rfl
  | ref _ => cases r; rfl
  | ty _ => cases r; rfl
theorem RelV.inj {x y : V} {u : Value} (r : RelV x u) (q : RelV y u) : x = y := Option.some.inj (r.abs.symm.trans q.abs)
theorem Vals.inj : ∀ {xs ys : List V} {us : List Value}, Vals xs us → Vals ys us → xs = ys
  | _, _, _, .nil, .nil => rfl
  | _, _, _, .cons r t, .cons r' t' => by rw [r.inj r', Vals.inj t t']
section
variable {X : Cx} {pins : List (Addr × Obj)} {σ : St} {H : Hp} {s : Shared} {a : Addr} {xs ys : List V}
theorem SqL.of {K : PySem.W.Frag} (h : H a = some (.lst xs)) : SqL K H a xs := .inl (.inl h)
theorem SqT.of {K : PySem.W.Frag} (h : H a = some (.tup xs)) : SqT K H a xs := .inl (.inl h)
theorem Inv.list (I : Inv X pins σ H s) (h : SqL X.K H a xs) : ∃ its : List Value, Vals xs its ∧ PlainL s.heap a its.toArray ∧ xs.length ≤ sizeLine := by
  rcases h with h | ⟨o, its, n, hk, hc, hd, hs, hz, r⟩
  · obtain ⟨z, its, n, r, e⟩ := h.ok I.hok
    exact ⟨its, r, ⟨_, n, e, rfl, rfl, rfl⟩, z⟩
  · refine ⟨its.toList, r, ⟨o, n, I.kIn a o hk, hc, hd, by simpa using hs⟩, ?_⟩
    have e := r.length
    simp only [Array.length_toList] at e
    omega
theorem Inv.tuple (I : Inv X pins σ H s) (h : SqT X.K H a xs) : ∃ its : List Value, Vals xs its ∧ IsTup s.heap a its.toArray ∧ xs.length ≤ sizeLine := by
  rcases h with h | ⟨o, its, n, hk, hc, hs, hz, r⟩
  · obtain ⟨z, its, r, p⟩ := h.ok I.hok
    exact ⟨its, r, p, z⟩
  · refine ⟨its.toList, r, ⟨o, I.kIn a o hk, hc, n, by simpa using hs⟩, ?_⟩
    have e := r.length
    simp only [Array.length_toList] at e
    omega
theorem Inv.list_inj (I : Inv X pins σ H s) (h : SqL X.K H a xs) (h' : SqL X.K H a ys) : xs = ys := by
  obtain ⟨its, r, ⟨o, n, e, _, _, d⟩, _⟩ := I.list h
  obtain ⟨its', r', ⟨o', n', e', _, _, d'⟩, _⟩ := I.list h'
  rw [e] at e'; cases e'
  rw [d] at d'
  injection d' with d1 _
  have : its = its' := by simpa using congrArg Array.toList d1
  subst this
  exact r.inj r'
theorem Inv.tuple_inj (I : Inv X pins σ H s) (h : SqT X.K H a xs) (h' : SqT X.K H a ys) : xs = ys := by
  obtain ⟨its, r, ⟨o, e, _, n, d⟩, _⟩ := I.tuple h
  obtain ⟨its', r', ⟨o', e', _, n', d'⟩, _⟩ := I.tuple h'
  rw [e] at e'; cases e'
  rw [d] at d'
  injection d' with d1 _
  have : its = its' := by simpa using congrArg Array.toList d1
  subst this
  exact r.inj r'
end

/-! ### another wish about exceptions -/
abbrev Cx.wish (X : Cx) (E : Value → Shared → Prop) : Cx := { X with xe := E }
/-- no exception leaves -/
abbrev Cx.nox (X : Cx) : Cx := X.wish fun _ _ => False
theorem Cx.Ok.wish {X : Cx} (ok : X.Ok) (E : Value → Shared → Prop) : (X.wish E).Ok :=
  ⟨ok.mod, ok.kind, ok.glob, ok.blt, ok.above, ok.inj, ok.has, ok.cab, ok.hd, ok.frames, ok.stk, ok.exf, ok.bs, ok.bsz, ok.noex, ok.exfs, ok.funs, ok.frf⟩
theorem Cx.Ok.unwish {X : Cx} {E : Value → Shared → Prop} (ok : (X.wish E).Ok) : X.Ok :=
  ⟨ok.mod, ok.kind, ok.glob, ok.blt, ok.above, ok.inj, ok.has, ok.cab, ok.hd, ok.frames, ok.stk, ok.exf, ok.bs, ok.bsz, ok.noex, ok.exfs, ok.funs, ok.frf⟩
section
variable {X : Cx} {pins : List (Addr × Obj)} {σ : St} {H : Hp} {s : Shared} {E : Value → Shared → Prop}
theorem Inv.wish (I : Inv X pins σ H s) (E : Value → Shared → Prop) : Inv (X.wish E) pins σ H s := ⟨I.ok.wish E, I.os, I.bare, I.base, I.loc, I.cell, I.free, I.freeC, I.pin, I.hok, I.len⟩
theorem Inv.unwish (I : Inv (X.wish E) pins σ H s) : Inv X pins σ H s := ⟨I.ok.unwish, I.os, I.bare, I.base, I.loc, I.cell, I.free, I.freeC, I.pin, I.hok, I.len⟩
theorem SP.unwish {D : Ends} {f : Flow} {s' : Shared} (h : SP (X.wish E) pins D f s') : SP X pins D f s' := by
  cases f with
  | next => obtain ⟨σ', H', I, q⟩ := h; exact ⟨σ', H', I.unwish, q⟩
  | brk => obtain ⟨σ', H', I, q⟩ := h; exact ⟨σ', H', I.unwish, q⟩
  | cont => obtain ⟨σ', H', I, q⟩ := h; exact ⟨σ', H', I.unwish, q⟩
  | ret u => obtain ⟨v, σ', H', I, r, q⟩ := h; exact ⟨v, σ', H', I.unwish, r, q⟩
theorem PE.nox {e : Expr} {t : TE} (h : PE X.nox e t) : PE X e t := fun pins s σ H Q I hw =>
  wpAny_mono (h pins s σ H Q (I.wish _) hw) (fun _ _ ⟨v, H', I', r, q⟩ => ⟨v, H', I'.unwish, r, q⟩) fun _ _ z => False.elim z
theorem PT.nox {e : Expr} {t : TT} (h : PT X.nox e t) : PT X e t := fun pins s σ H Q I hw =>
  wpAny_mono (h pins s σ H Q (I.wish _) hw) (fun _ _ ⟨H', I', q⟩ => ⟨H', I'.unwish, q⟩) fun _ _ z => False.elim z
theorem PSs.nox {st : List Stmt} {t : TS} (h : PSs X.nox st t) : PSs X st t := fun pins s σ H D I hw =>
  wpAny_mono (h pins s σ H D (I.wish _) hw) (fun _ _ q => q.unwish) fun _ _ z => False.elim z
end

/-! ### blocks and small statements -/
section
variable {X : Cx} {st : Stmt} {rest : List Stmt} {t u : TS} {e : Expr} {te : TE} {pos : Pos}
def tNext : TS := fun D σ H => D.nx σ H
def tSeq (t u : TS) : TS := fun D σ H => t { D with nx := u D } σ H
theorem pss_nil : PSs X [] tNext := fun _ _ σ H _ I h => wpAny_execs_nil ⟨σ, H, I, h⟩
theorem pss_cons (h1 : PS X st t) (h2 : PSs X rest u) : PSs X (st :: rest) (tSeq t u) := by
  intro pins s σ H D I h
  refine wpAny_execs_cons (thn (h1 pins s σ H { D with nx := u D } I h) fun f s1 q => ?_)
  cases f with
  | next =>
    obtain ⟨σ', H', I', q⟩ := q
    exact h2 pins s1 σ' H' D I' q
  | ret v => exact q
  | brk => exact q
  | cont => exact q
theorem pss_one (h1 : PS X st t) : PSs X [st] t := by
  intro pins s σ H D I h
  refine wpAny_execs_cons (thn (h1 pins s σ H D I h) fun f s1 q => ?_)
  cases f with
  | next => exact wpAny_execs_nil q
  | ret v => exact q
  | brk => exact q
  | cont => exact q
/-- in a def's body nothing is shown -/
theorem Inv.quiet {pins : List (Addr × Obj)} {σ : St} {H : Hp} {s : Shared} (I : Inv X pins σ H s) : interactive X.env = false := by simp [interactive, I.ok.kind]
/-- an expression whose value is dropped -/
def tDrop (te : TE) : TS := fun D σ H => te σ H fun _ H1 => D.nx σ H1
theorem ps_expr (he : PE X e te) (hs : swapsWith e none pos.line X.env = pure false := by rfl) : PS X (.Expr e pos) (tDrop te) := by
  intro pins s σ H D I h
  exact wpAny_Expr_any (thn (he pins s σ H _ I h) fun v s1 ⟨x, H1, I1, r1, q1⟩ => ⟨σ, H1, I1, q1⟩) I.quiet hs
def tRet (te : TE) : TS := fun D σ H => te σ H D.rt
theorem ps_ret (he : PE X e te) : PS X (.Return (some e) pos) (tRet te) := by
  intro pins s σ H D I h
  exact wpAny_Return_some (thn (he pins s σ H _ I h) fun v s1 ⟨x, H1, I1, r1, q1⟩ => ⟨x, σ, H1, I1, r1, q1⟩)
def tRetN : TS := fun D _ H => D.rt .non H
def tIfS (c : TT) (t u : TS) : TS := fun D σ H => c σ H fun b H1 => if b = true then t D σ H1 else u D σ H1
theorem ps_if {c : Expr} {a b : List Stmt} {tc : TT} (hc : PT X c tc) (ha : PSs X a t) (hb : PSs X b u) : PS X (.If c a b pos) (tIfS tc t u) := by
  intro pins s σ H D I h
  refine wpAny_If (thn (hc pins s σ H _ I h) fun d s1 ⟨H1, I1, q1⟩ => ?_)
  cases d with
  | true => exact ha pins s1 σ H1 D I1 q1
  | false => exact hb pins s1 σ H1 D I1 q1
end

/-! ### targets -/
abbrev TG := V → St → Hp → (St → Hp → Prop) → Prop
abbrev TGs := List V → St → Hp → (St → Hp → Prop) → Prop
def PG (X : Cx) (target : Expr) (t : TG) : Prop :=
  ∀ (pins : List (Addr × Obj)) (s : Shared) (σ : St) (H : Hp) (v : V) (u : Value) (Q : St → Hp → Prop), Inv X pins σ H s → RelV v u → t v σ H Q →
    wpAny (model X.prog X.w) X.A (assign target X.env u) (fun _ s' => ∃ σ' H', Inv X pins σ' H' s' ∧ Q σ' H') X.xe s
/-- several targets, one after another -/
def PGs (X : Cx) (ts : List Expr) (t : TGs) : Prop :=
  ∀ (pins : List (Addr × Obj)) (s : Shared) (σ : St) (H : Hp) (vs : List V) (us : List Value) (Q : St → Hp → Prop), Inv X pins σ H s → Vals vs us → t vs σ H Q →
    wpAny (model X.prog X.w) X.A (assignInOrder ((assignEach ts X.env).map (·.2)) us) (fun _ s' => ∃ σ' H', Inv X pins σ' H' s' ∧ Q σ' H') X.xe s
/-- o[i] = v, by values -/
abbrev TSet := V → V → V → Hp → (Hp → Prop) → Prop
def PSet (X : Cx) (t : TSet) : Prop :=
  ∀ (pins : List (Addr × Obj)) (s : Shared) (σ : St) (H : Hp) (o i v : V) (ov iv u : Value) (Q : Hp → Prop), Inv X pins σ H s → RelV o ov → RelV i iv → RelV v u → t o i v H Q →
    wpAny (model X.prog X.w) X.A (setItem ov iv u) (fun _ s' => ∃ H', Inv X pins σ H' s' ∧ Q H') X.xe s
/-- a op= b, by values -/
abbrev TIp := V → V → Hp → VK → Prop
def PIp (X : Cx) (op : Operator) (t : TIp) : Prop :=
  ∀ (pins : List (Addr × Obj)) (s : Shared) (σ : St) (H : Hp) (x y : V) (v u : Value) (Q : VK), Inv X pins σ H s → RelV x v → RelV y u → t x y H Q →
    wpAny (model X.prog X.w) X.A (inplaceOp op v u) (EP X pins σ Q) X.xe s
section
variable {X : Cx} {pos : Pos}
def gName (i : Nat) : TG := fun v σ H Q => Q (σ.set i (some v)) H
theorem pg_name {i : Nat} {x : Str} (hN : X.N.Nodup) (hi : X.N[i]? = some x) (hx : Loc X.env.scope x) (hf : X.fn x = true ∨ X.env.scope.names.lookup x = some .local := by first | exact .inl rfl | exact .inr rfl | assumption) : PG X (.Name x pos) (gName i) := by
  intro pins s σ H v u Q I r h
  exact wpAny_assign_Name (store_ok I hN hi hx r (fun s' I' => ⟨_, H, I', h⟩) hf)
def gNil : TGs := fun vs σ H Q => vs = [] ∧ Q σ H
def gCons (t : TG) (u : TGs) : TGs := fun vs σ H Q => ∃ v r, vs = v :: r ∧ t v σ H fun σ' H' => u r σ' H' Q
theorem pgs_nil : PGs X [] gNil := by
  intro pins s σ H vs us Q I r h
  obtain ⟨e, h⟩ := h
  subst e
  cases r
  exact assignInOrder_nil ⟨σ, H, I, h⟩
theorem pgs_cons {e : Expr} {es : List Expr} {t : TG} {u : TGs} (h1 : PG X e t) (h2 : PGs X es u)
    (hs : (assignEach (e :: es) X.env).map (·.2) = assign e X.env :: (assignEach es X.env).map (·.2) := by rfl) : PGs X (e :: es) (gCons t u) := by
  intro pins s σ H vs us Q I r h
  obtain ⟨v, vr, e1, h⟩ := h
  subst e1
  cases r with
  | cons r rr =>
    rw [hs]
    refine assignInOrder_cons (thn (h1 pins s σ H _ _ _ I r h) fun _ s1 ⟨σ1, H1, I1, q1⟩ => ?_)
    exact h2 pins s1 σ1 H1 _ _ Q I1 rr q1
/-- (a, b, ..) = a tuple of that length -/
def gTup (K : PySem.W.Frag) (n : Nat) (t : TGs) : TG := fun v σ H Q => ∃ a xs, v = .ref a ∧ SqT K H a xs ∧ xs.length = n ∧ t xs σ H Q
theorem pg_tup {es : List Expr} {k : Nat} {t : TGs} {n : Nat} (hc : X.calm = true) (h : PGs X es t)
    (hn : (assignEach es X.env).length = n := by rfl) (hst : (assignEach es X.env).findIdx? (·.1) = none := by rfl) : PG X (.Tuple es k pos) (gTup X.K n t) := by
  intro pins s σ H v u Q I r hw
  obtain ⟨a, xs, e1, hq, hl, hw⟩ := hw
  subst e1
  cases r
  obtain ⟨its, rv, ht, hz⟩ := I.tuple hq
  refine assign_Tuple_tuple (I.ok.hd hc) ht (by simp [hn, ← hl, rv.length]) hst fun h' hx => ?_
  have I1 : Inv X pins σ H { s with heap := h' } := I.kept (t' := s.toks) fun b o e => hx b o (Nat.ne_of_lt (Heap.lt_size e)) e
  exact h pins _ σ H xs _ Q I1 (by simpa using rv) hw
/-- o[i] = .. -/
def gSub (to ti : TE) (t : TSet) : TG := fun v σ H Q => to σ H fun o H1 => ti σ H1 fun i H2 => t o i v H2 fun H3 => Q σ H3
theorem pg_sub {o i : Expr} {to ti : TE} {t : TSet} (ho : PE X o to) (hi : PE X i ti) (hs : PSet X t)
    (ha : ∀ v, assign (.Subscript o i pos) X.env v = (do
      let ov ← holding [v] (eval o X.env)
      let iv ← holding [v, ov] (eval i X.env)
      standAt pos
      holding [v, ov, iv] (setItem ov iv v)
      release [v, ov, iv] []) := by intro _; rfl) : PG X (.Subscript o i pos) (gSub to ti t) := by
  intro pins s σ H v u Q I r h
  rw [ha]
  refine wpAny_bind (wpAny_holding (thn (ho pins s σ H _ I h) fun ov s1 ⟨x, H1, I1, r1, q1⟩ => ?_))
  refine wpAny_bind (wpAny_holding (thn (hi pins s1 σ H1 _ I1 q1) fun iv s2 ⟨y, H2, I2, r2, q2⟩ => ?_))
  refine wpAny_bind (wpAny_standAt (wpAny_bind (wpAny_holding (thn (hs pins s2 σ H2 x y v ov iv u _ I2 r1 r2 r q2) fun _ s3 ⟨H3, I3, q3⟩ => ?_))))
  exact wpAny_release ⟨σ, H3, I3, q3⟩
/-- target = value -/
def tAsg (te : TE) (g : TG) : TS := fun D σ H => te σ H fun x H1 => g x σ H1 D.nx
theorem ps_asg {tg e : Expr} {te : TE} {g : TG} (he : PE X e te) (hg : PG X tg g) (hs : swapsWithSole [tg] e pos.line X.env = pure false := by rfl) (hw : swappedStores [tg] e X.env = pure none := by rfl)
    (h1 : (assignEach [tg] X.env).map (·.2) = [assign tg X.env] := by rfl) : PS X (.Assign [tg] e pos) (tAsg te g) := by
  intro pins s σ H D I h
  refine wpAny_Assign_stores (thn (he pins s σ H _ I h) fun v s1 ⟨x, H1, I1, r1, q1⟩ => ?_) hs hw
  rw [h1]
  exact thn (hg pins s1 σ H1 x v _ I1 r1 q1) fun _ s2 q => q
/-- name = value -/
theorem ps_set {i : Nat} {x : Str} {e : Expr} {te : TE} {pos' : Pos} (hN : X.N.Nodup) (hi : X.N[i]? = some x) (hx : Loc X.env.scope x) (he : PE X e te) (hs : swapsWith e (some (.Name x pos')) pos.line X.env = pure false := by rfl) (hf : X.fn x = true ∨ X.env.scope.names.lookup x = some .local := by first | exact .inl rfl | exact .inr rfl | assumption) :
    PS X (.Assign [.Name x pos'] e pos) (tAsg te (gName i)) := by
  intro pins s σ H D I h
  refine wpAny_Assign_Name (thn (he pins s σ H _ I h) fun v s1 ⟨y, H1, I1, r1, q1⟩ => ?_) hs
  exact store_ok I1 hN hi hx r1 (fun s2 I2 => ⟨_, H1, I2, q1⟩) hf
/-- name op= e -/
def tAug (i : Nat) (te : TE) (ti : TIp) : TS := fun D σ H => ∃ x, σ[i]? = some (some x) ∧ te σ H fun y H1 => ti x y H1 fun z H2 => D.nx (σ.set i (some z)) H2
theorem ps_aug {i : Nat} {x : Str} {e : Expr} {te : TE} {op : Operator} {ti : TIp} {pos' : Pos} (hN : X.N.Nodup) (hi : X.N[i]? = some x) (hx : Loc X.env.scope x) (he : PE X e te) (ho : PIp X op ti) (hf : X.fn x = true ∨ X.env.scope.names.lookup x = some .local := by first | exact .inl rfl | exact .inr rfl | assumption) :
    PS X (.AugAssign (.Name x pos') op e pos) (tAug i te ti) := by
  intro pins s σ H D I h
  obtain ⟨v, e1, h⟩ := h
  obtain ⟨m, hn, hl⟩ := I.loc
  have vis : Vis X.env.scope x := by rcases hx with k | k; exact .inl k; exact .inr (.inl k)
  obtain ⟨u, r, l⟩ := hl i x v hi e1 vis
  refine wpAny_AugAssign_Name ?_
  have go : wpAny (model X.prog X.w) X.A (eval e X.env) (fun w s₂ => wpAny (model X.prog X.w) X.A (inplaceOp op u w) (fun r s₃ => wpAny (model X.prog X.w) X.A (storeName X.env x r) (fun _ => SP X pins D .next) X.xe s₃) X.xe s₂) X.xe s := by
    refine thn (he pins s σ H _ I h) fun w s1 ⟨y, H1, I1, r1, q1⟩ => ?_
    refine thn (ho pins s1 σ H1 v y u w _ I1 r r1 q1) fun z s2 ⟨zv, H2, I2, r2, q2⟩ => ?_
    exact store_ok I2 hN hi hx r2 (fun s3 I3 => ⟨_, H2, I3, q2⟩) hf
  rcases l with ⟨hk, hm⟩ | ⟨hk, c, hc, hcell⟩
  · exact wpAny_loadName_local I.ok.kind hk hn hm go
  · rcases hk with hk | hk
    · exact wpAny_loadName_cell I.ok.kind hk hc hcell go
    · rcases hx with k | k
      · have : X.env.scope.names.lookup x = some .free := hk
        rw [k] at this; cases this
      · have : X.env.scope.names.lookup x = some .free := hk
        rw [k] at this; cases this
/-- ints -/
def ipI (f : Int → Int → Int) : TIp := fun x y H Q => ∃ i j, x = .int i ∧ y = .int j ∧ Q (.int (f i j)) H
theorem ip_add : PIp X .Add (ipI fun i j => i + j) := by
  intro pins s σ H x y v u Q I r1 r2 h
  obtain ⟨i, j, e1, e2, q⟩ := h
  subst e1; subst e2
  obtain ⟨t, rfl⟩ := r1
  obtain ⟨t', rfl⟩ := r2
  exact iadd_int ⟨.int _, H, I.tok _, ⟨_, rfl⟩, q⟩
end

/-! ### while -/
section
variable {X : Cx} {pos : Pos}
end

/-! ### what a loop or a comprehension walks -/
/-- at turn i: it yields x (the heap may grow), or it stops -/
structure It where
  go : Nat → Hp → Prop
  yld : Nat → Hp → V → Hp → Prop
  stop : Nat → Hp → Prop
/-- the iterator's own objects may turn: they are not the frame's, not pinned, younger than the entry (or a comprehension's own) -/
def FpOk (X : Cx) (pins : List (Addr × Obj)) (H : Hp) (b : Addr) : Prop :=
  H b = none ∧ b ≠ X.env.locals ∧ b ∉ X.fs ∧ (b ∈ X.ex ∨ X.s₀.heap.objs.size ≤ b) ∧ (∀ x c, X.env.cells.lookup x = some c → c ≠ b) ∧ ∀ p ∈ X.pn ++ pins, p.1 ≠ b
theorem Inv.fpOk {X : Cx} {pins : List (Addr × Obj)} {σ : St} {H H' : Hp} {s : Shared} {b : Addr} (I : Inv X pins σ H s) (hb : s.heap.objs.size ≤ b) (hn : H' b = none) : FpOk X pins H' b := by
  refine ⟨hn, Nat.ne_of_gt (Nat.lt_of_lt_of_le I.lt hb), I.nofs hb, .inr (Nat.le_trans I.sz hb), fun x c e z => ?_, fun p hp z => ?_⟩
  · obtain ⟨v, q⟩ := I.cell x c e
    exact absurd (Nat.lt_of_lt_of_le q.lt (by rw [z]; exact hb)) (Nat.lt_irrefl _)
  · exact absurd (Nat.lt_of_lt_of_le (Heap.lt_size (I.pin p hp).1) (by rw [z]; exact hb)) (Nat.lt_irrefl _)
structure Turn (P : Program) (w : World) (K : PySem.W.Frag) (tg : Expr) (J : It) (fp : List Addr) (it : Addr) (tn : Nat → Heap → Prop) : Prop where
  mem : it ∈ fp
  obj : ∀ i h, tn i h → ∀ b ∈ fp, ∃ o, h.get? b = some o ∧ ∀ v, o.data ≠ .cell v
  keep : ∀ i h h', tn i h → (∀ b ∈ fp, ∀ o, h.get? b = some o → h'.get? b = some o) → tn i h'
  item : ∀ (X : Cx), X.prog = P → X.w = w → X.K = K → X.calm = true → ∀ (i : Nat) (pins : List (Addr × Obj)) (s : Shared) (σ : St) (H : Hp) (E : Value → Shared → Prop), Inv X pins σ H s → (∀ b ∈ fp, FpOk X pins H b) → tn i s.heap → J.go i H →
    wpAny (model P w) X.A (pyNext (.ref it)) (fun r s1 => ∃ u, r = some u ∧
      wpAny (model P w) X.A (letOwnedTupleGo tg (.ref it) u) (fun _ s2 => ∃ x H', Inv X pins σ H' s2 ∧ RelV x u ∧ J.yld i H x H' ∧ tn (i + 1) s2.heap ∧ ∀ b ∈ fp, H' b = none) E s1) E s
  done : ∀ (X : Cx), X.prog = P → X.w = w → X.K = K → X.calm = true → ∀ (i : Nat) (pins : List (Addr × Obj)) (s : Shared) (σ : St) (H : Hp) (E : Value → Shared → Prop), Inv X pins σ H s → (∀ b ∈ fp, FpOk X pins H b) → tn i s.heap → J.stop i H →
    wpAny (model P w) X.A (pyNext (.ref it)) (fun r s1 => r = none ∧ Inv X pins σ H s1) E s
  self : ∀ (A : Around) (i : Nat) (s : Shared) (Q : Value → Shared → Prop) (E : Value → Shared → Prop), tn i s.heap → Q (.ref it) s → wpAny (model P w) A (pyIter (.ref it)) Q E s
abbrev TI := St → Hp → (It → Hp → Prop) → Prop
/-- an iterator has come -/
def PIE (X : Cx) (pins : List (Addr × Obj)) (σ : St) (tg : Expr) (R : It → Hp → Prop) (itv : Value) (s2 : Shared) : Prop :=
  ∃ (it : Addr) (fp : List Addr) (tn : Nat → Heap → Prop) (J : It) (H' : Hp), itv = .ref it ∧ Inv X pins σ H' s2 ∧ Turn X.prog X.w X.K tg J fp it tn ∧ tn 0 s2.heap ∧ (∀ b ∈ fp, FpOk X pins H' b) ∧ R J H'
def PI (X : Cx) (tg iter : Expr) (wi : TI) : Prop :=
  ∀ (pins : List (Addr × Obj)) (s : Shared) (σ : St) (H : Hp) (R : It → Hp → Prop), Inv X pins σ H s → wi σ H R →
    wpAny (model X.prog X.w) X.A (eval iter X.env) (fun v s1 => wpAny (model X.prog X.w) X.A (pyIter v) (PIE X pins σ tg R) X.xe s1) X.xe s

/-- the step ahead of the store is nothing for an iterator that keeps no tuple -/
theorem go_of {M : Model} {A : Around} {E : Value → Shared → Prop} {s : Shared} {tg : Expr} {it : Addr} {u : Value} {o : Obj} {n : String} {vs : Array Value} {Q : Unit → Shared → Prop} (ho : s.heap.get? it = some o) (hc : o.cls = .type n) (hd : o.data = .fields vs)
    (hn : ["enumerate", "zip", "dict_itemiterator", "dict_reverseitemiterator", "odict_iterator", "itertools.zip_longest", "itertools.pairwise"].contains n = false) (hQ : Q () s) : wpAny M A (letOwnedTupleGo tg (.ref it) u) Q E s := by
  unfold letOwnedTupleGo
  cases tg <;> first
    | exact wpAny_pure hQ
    | (cases u <;> first
        | exact wpAny_pure hQ
        | (refine wpAny_bind (wpAny_load ho ?_)
           rw [hc, hd]
           show wpAny M A (if (["enumerate", "zip", "dict_itemiterator", "dict_reverseitemiterator", "odict_iterator", "itertools.zip_longest", "itertools.pairwise"].contains n && vs[0]? == some (rawInt _)) = true then _ else _) Q E s
           rw [if_neg (by intro h; rw [hn, Bool.false_and] at h; cases h)]
           exact wpAny_pure hQ))

/-- the list at a, as it stands at each turn (a loop may append to it) -/
def Itl (K : PySem.W.Frag) (a : Addr) : It :=
  ⟨fun i H => ∃ xs x, SqL K H a xs ∧ xs[i]? = some x, fun i H x H' => H' = H ∧ ∀ xs, SqL K H a xs → xs[i]? = some x, fun i H => ∃ xs, SqL K H a xs ∧ xs.length ≤ i⟩
def Itt (K : PySem.W.Frag) (a : Addr) : It :=
  ⟨fun i H => ∃ xs x, SqT K H a xs ∧ xs[i]? = some x, fun i H x H' => H' = H ∧ ∀ xs, SqT K H a xs → xs[i]? = some x, fun i H => ∃ xs, SqT K H a xs ∧ xs.length ≤ i⟩
/-- lo, lo + 1, .. (n of them) -/
def Itr (lo : Int) (n : Nat) : It := ⟨fun i _ => i < n, fun i H x H' => H' = H ∧ x = .int (lo + i), fun i _ => n ≤ i⟩
theorem turn_list {P : Program} {w : World} {K : PySem.W.Frag} {tg : Expr} (a it : Addr) : Turn P w K tg (Itl K a) [it] it (fun i h => h.IsListIter it a i) where
  mem := by simp
  obj := fun i h st b hb => by
    have e : b = it := by simpa using hb
    subst e
    obtain ⟨o, e, c, d⟩ := st
    exact ⟨o, e, fun v z => by rw [d] at z; cases z⟩
  keep := fun i h h' st k => st.at fun o e => k it (by simp) o e
  item := by
    intro X hP hw hK hc i pins s σ H E I hf st hg
    subst hP hw hK
    obtain ⟨xs, x, hq, hx⟩ := hg
    obtain ⟨its, rv, p, hz⟩ := I.list hq
    obtain ⟨u, hu, ru⟩ := rv.get hx
    obtain ⟨f0, f1, f2, f3, f4, f5⟩ := hf it (by simp)
    refine wpAny_pyNext_list_item st p.isList (x := u) (by simpa using hu) fun h' st' sb => ?_
    have I1 : Inv X pins σ H { s with heap := h' } := I.turned (t' := s.toks) (fun b o hb e => (sb.2 b hb).trans e) f0 f1 f3 f4 f5
    obtain ⟨o, e, c, d⟩ := id st'
    exact ⟨u, rfl, go_of (s := { s with heap := h' }) e c d (by decide) ⟨x, H, I1, ru, ⟨rfl, fun ys hy => by rw [I.list_inj hy hq]; exact hx⟩, st', fun b hb => (hf b hb).1⟩⟩
  done := by
    intro X hP hw hK hc i pins s σ H E I hf st hg
    subst hP hw hK
    obtain ⟨xs, hq, hx⟩ := hg
    obtain ⟨its, rv, p, hz⟩ := I.list hq
    obtain ⟨f0, f1, f2, f3, f4, f5⟩ := hf it (by simp)
    have hl := rv.length
    exact wpAny_pyNext_list_end (I.ok.hd hc) st p.isList (by simp; omega) fun h' eb => ⟨rfl, I.turned (t' := s.toks) (fun b o hb e => eb b o hb e) f0 f1 f3 f4 f5⟩
  self := fun _ _ _ _ _ st h => wpAny_pyIter_listiter st h
theorem turn_tuple {P : Program} {w : World} {K : PySem.W.Frag} {tg : Expr} (a it : Addr) : Turn P w K tg (Itt K a) [it] it (fun i h => h.IsTupleIter it a i) where
  mem := by simp
  obj := fun i h st b hb => by
    have e : b = it := by simpa using hb
    subst e
    obtain ⟨o, e, c, d⟩ := st
    exact ⟨o, e, fun v z => by rw [d] at z; cases z⟩
  keep := fun i h h' st k => st.at fun o e => k it (by simp) o e
  item := by
    intro X hP hw hK hc i pins s σ H E I hf st hg
    subst hP hw hK
    obtain ⟨xs, x, hq, hx⟩ := hg
    obtain ⟨its, rv, p, hz⟩ := I.tuple hq
    obtain ⟨u, hu, ru⟩ := rv.get hx
    obtain ⟨f0, f1, f2, f3, f4, f5⟩ := hf it (by simp)
    refine wpAny_pyNext_tuple_item st (show s.heap.IsTuple a its.toArray from p) (x := u) (by simpa using hu) fun h' st' sb => ?_
    have I1 : Inv X pins σ H { s with heap := h' } := I.turned (t' := s.toks) (fun b o hb e => (sb.2 b hb).trans e) f0 f1 f3 f4 f5
    obtain ⟨o, e, c, d⟩ := id st'
    exact ⟨u, rfl, go_of (s := { s with heap := h' }) e c d (by decide) ⟨x, H, I1, ru, ⟨rfl, fun ys hy => by rw [I.tuple_inj hy hq]; exact hx⟩, st', fun b hb => (hf b hb).1⟩⟩
  done := by
    intro X hP hw hK hc i pins s σ H E I hf st hg
    subst hP hw hK
    obtain ⟨xs, hq, hx⟩ := hg
    obtain ⟨its, rv, p, hz⟩ := I.tuple hq
    obtain ⟨f0, f1, f2, f3, f4, f5⟩ := hf it (by simp)
    have hl := rv.length
    exact wpAny_pyNext_tuple_end (I.ok.hd hc) st (show s.heap.IsTuple a its.toArray from p) (by simp; omega) fun h' eb => ⟨rfl, I.turned (t' := s.toks) (fun b o hb e => eb b o hb e) f0 f1 f3 f4 f5⟩
  self := fun _ _ _ _ _ st h => wpAny_pyIter_tupleiter st h
theorem turn_range {P : Program} {w : World} {K : PySem.W.Frag} {tg : Expr} (it : Addr) (lo : Int) (n : Nat) : Turn P w K tg (Itr lo n) [it] it (fun i h => IsRangeIter h it (lo + (i : Nat) * 1) ((n : Int) - (i : Nat)) 1) where
  mem := by simp
  obj := fun i h st b hb => by
    have e : b = it := by simpa using hb
    subst e
    exact ⟨_, st, fun v z => by
      have z' : Data.fields _ = Data.cell v := z
      cases z'⟩
  keep := fun i h h' st k => k it (by simp) _ st
  item := by
    intro X hP hw hK hc i pins s σ H E I hf st hg
    subst hP hw hK
    obtain ⟨f0, f1, f2, f3, f4, f5⟩ := hf it (by simp)
    have W := Walks.range (prog := X.prog) (w := X.w) (I.ok.hd hc) it lo 1 n
    refine W.item i s _ _ hg st fun v h' tk hv st' kk => ?_
    obtain ⟨t, rfl⟩ := hv
    have I1 : Inv X pins σ H { s with heap := h', toks := tk } := I.turned (fun b o hb e => kk b o (by simpa using hb) e) f0 f1 f3 f4 f5
    refine ⟨_, rfl, go_of (s := { s with heap := h', toks := tk }) (n := "range_iterator") st' rfl rfl (by decide) ⟨.int (lo + i), H, I1, ⟨t, ?_⟩, ⟨rfl, rfl⟩, st', fun b hb => (hf b hb).1⟩⟩
    rw [Int.mul_one]
  done := by
    intro X hP hw hK hc i pins s σ H E I hf st hg
    subst hP hw hK
    obtain ⟨f0, f1, f2, f3, f4, f5⟩ := hf it (by simp)
    exact wpAny_pyNext_range_end (I.ok.hd hc) st (by have : n ≤ i := hg; omega) fun h' eb => ⟨rfl, I.turned (t' := s.toks) (fun b o hb e => eb b o hb e) f0 f1 f3 f4 f5⟩
  self := fun _ _ _ _ _ st h => wpAny_pyIter_rangeiter st h
end L2

namespace L2
open PySem PySem.Spec PyProof.Rows
section
variable {X : Cx} {tg : Expr}
def iList (K : PySem.W.Frag) (tl : TE) : TI := fun σ H R => tl σ H fun x H1 => ∃ a, x = .ref a ∧ (∃ xs, SqL K H1 a xs) ∧ R (Itl K a) H1
def iTup (K : PySem.W.Frag) (tl : TE) : TI := fun σ H R => tl σ H fun x H1 => ∃ a, x = .ref a ∧ (∃ xs, SqT K H1 a xs) ∧ R (Itt K a) H1
theorem pi_list {l : Expr} {tl : TE} (hl : PE X l tl) : PI X tg l (iList X.K tl) := by
  intro pins s σ H R I h
  refine thn (hl pins s σ H _ I h) fun v s1 ⟨x, H1, I1, r1, q1⟩ => ?_
  obtain ⟨a, e, ⟨xs, hq⟩, q⟩ := q1
  subst e
  cases r1
  obtain ⟨its, rv, p, hz⟩ := I1.list hq
  refine wpAny_pyIter_list p.isList ?_
  refine ⟨s1.heap.objs.size, [s1.heap.objs.size], _, _, H1, rfl, I1.kept (t' := s1.toks) fun b o e => Heap.get?_push_of_some _ e, turn_list a _, ⟨_, Heap.get?_push_size _ rfl, rfl, rfl⟩, fun b hb => ?_, q⟩
  have e : b = s1.heap.objs.size := by simpa using hb
  subst e
  exact I1.fpOk (Nat.le_refl _) (I1.hok.fresh (Nat.le_refl _))
theorem pi_tup {l : Expr} {tl : TE} (hl : PE X l tl) : PI X tg l (iTup X.K tl) := by
  intro pins s σ H R I h
  refine thn (hl pins s σ H _ I h) fun v s1 ⟨x, H1, I1, r1, q1⟩ => ?_
  obtain ⟨a, e, ⟨xs, hq⟩, q⟩ := q1
  subst e
  cases r1
  obtain ⟨its, rv, p, hz⟩ := I1.tuple hq
  refine wpAny_pyIter_tuple (show s1.heap.IsTuple a its.toArray from p) ?_
  refine ⟨s1.heap.objs.size, [s1.heap.objs.size], _, _, H1, rfl, I1.kept (t' := s1.toks) fun b o e => Heap.get?_push_of_some _ e, turn_tuple a _, ⟨_, Heap.get?_push_size _ rfl, rfl, rfl⟩, fun b hb => ?_, q⟩
  have e : b = s1.heap.objs.size := by simpa using hb
  subst e
  exact I1.fpOk (Nat.le_refl _) (I1.hok.fresh (Nat.le_refl _))
/-- a range object just made, walked -/
theorem range_it {pins : List (Addr × Obj)} {σ : St} {H : Hp} {s : Shared} {R : It → Hp → Prop} {E : Value → Shared → Prop} {lo hi : Int} {t u v : Tok} {tk : Nat} (I : Inv X pins σ H s) (h1 : -(2 ^ 62) ≤ lo) (h2 : lo < 2 ^ 62) (h3 : -(2 ^ 62) ≤ hi) (h4 : hi < 2 ^ 62)
    (q : R (Itr lo (hi - lo).toNat) H) : wpAny (model X.prog X.w) X.A (pyIter (.ref s.heap.objs.size)) (PIE X pins σ tg R) E { s with heap := s.heap.push { cls := .type "range", data := .fields #[.int lo t, .int hi u, .int 1 v] }, toks := tk } := by
  refine wpAny_pyIter_range (IsRange.new ..) (small_one h1 h2 h3 h4) ?_
  have I1 : Inv X pins σ H { s with heap := s.heap.push { cls := .type "range", data := .fields #[.int lo t, .int hi u, .int 1 v] }, toks := tk } := I.kept fun b o e => Heap.get?_push_of_some _ e
  refine ⟨(s.heap.push { cls := .type "range", data := .fields #[.int lo t, .int hi u, .int 1 v] }).objs.size, [(s.heap.push { cls := .type "range", data := .fields #[.int lo t, .int hi u, .int 1 v] }).objs.size], _, _, H, rfl,
    I1.kept (t' := tk) fun b o e => Heap.get?_push_of_some _ e, turn_range _ lo (hi - lo).toNat, ?_, fun b hb => ?_, q⟩
  · have e1 : lo + ((0 : Nat) : Int) * 1 = lo := by simp
    have e2 : (((hi - lo).toNat : Nat) : Int) - ((0 : Nat) : Int) = Builtin.Range.rangeSize lo hi 1 := by rw [rangeSize_one]; split <;> omega
    show IsRangeIter _ _ (lo + ((0 : Nat) : Int) * 1) ((((hi - lo).toNat : Nat) : Int) - ((0 : Nat) : Int)) 1
    rw [e1, e2]
    exact Heap.get?_push_size _ rfl
  · have e : b = (s.heap.push { cls := .type "range", data := .fields #[.int lo t, .int hi u, .int 1 v] }).objs.size := by simpa using hb
    subst e
    exact I1.fpOk (Nat.le_refl _) (I1.hok.fresh (Nat.le_refl _))
def iRng1 (ta : TA) : TI := fun σ H R => ta σ H fun vs H1 => ∃ j : Int, vs = [.int j] ∧ -(2 ^ 62) ≤ j ∧ j < 2 ^ 62 ∧ R (Itr 0 j.toNat) H1
def iRng2 (ta : TA) : TI := fun σ H R => ta σ H fun vs H1 => ∃ i j : Int, vs = [.int i, .int j] ∧ (-(2 ^ 62) ≤ i ∧ i < 2 ^ 62 ∧ -(2 ^ 62) ≤ j ∧ j < 2 ^ 62) ∧ R (Itr i (j - i).toNat) H1
theorem pi_range1 {a : Expr} {ta : TA} {p pos : Pos} (hg : Gl X "range") (hm : X.mg "range" = none) (ha : PA X [a] ta) (hs : starEach [a] X.env = [(false, eval a X.env)] := by rfl) : PI X tg (.Call (.Name "range" p) [a] [] pos) (iRng1 ta) := by
  intro pins s σ H R I h
  refine Call_ (ld_blt I hg hm boot_range (PyProof.Rows.callWith_type1 (thn (ha pos pins s σ H _ I h) fun us s1 ⟨vs, H1, I1, r1, q1⟩ => ?_) hs rfl))
  obtain ⟨j, e, q1, q2, q⟩ := q1
  subst e
  cases r1 with
  | cons r rr =>
    cases rr
    obtain ⟨t, rfl⟩ := r
    exact call_range_1 (range_it I1 (by omega) (by omega) q1 q2 (by simpa using q))
theorem pi_range2 {a b : Expr} {ta : TA} {p pos : Pos} (hg : Gl X "range") (hm : X.mg "range" = none) (ha : PA X [a, b] ta) (hs : starEach [a, b] X.env = [(false, eval a X.env), (false, eval b X.env)] := by rfl) (hs2 : starEach [b] X.env = [(false, eval b X.env)] := by rfl) :
    PI X tg (.Call (.Name "range" p) [a, b] [] pos) (iRng2 ta) := by
  intro pins s σ H R I h
  refine Call_ (ld_blt I hg hm boot_range (PyProof.Rows.callWith_type1 (thn (ha pos pins s σ H _ I h) fun us s1 ⟨vs, H1, I1, r1, q1⟩ => ?_) (by rw [hs, hs2]) (by rw [hs2]; rfl)))
  obtain ⟨i, j, e, ⟨q1, q2, q3, q4⟩, q⟩ := q1
  subst e
  cases r1 with
  | cons r rr =>
    cases rr with
    | cons r' rr =>
      cases rr
      obtain ⟨t, rfl⟩ := r
      obtain ⟨t', rfl⟩ := r'
      exact call_range_2 (range_it I1 q1 q2 q3 q4 q)

/-! ### for -/
/-- W: the invariant by the turn and a measure; N: what the body is to reach -/
def tFor (wi : TI) (g : TG) (tb : TS) : TS := fun D σ H => wi σ H fun J H1 => ∃ W : Nat → Nat → St → Hp → Prop, (∃ m, W 0 m σ H1) ∧ ∀ i m σ H, W i m σ H →
  (J.stop i H ∧ D.nx σ H) ∨ (J.go i H ∧ ∃ N : St → Hp → Prop, (∀ σ' H', N σ' H' → ∃ m', m' < m ∧ W (i + 1) m' σ' H') ∧ ∀ x H', J.yld i H x H' → g x σ H' fun σ2 H2 => tb { D with nx := N, ct := N, bk := D.nx } σ2 H2)
/-- the records at fp as they stand -/
def pinsAt (fp : List Addr) (h : Heap) : List (Addr × Obj) := fp.filterMap fun b => (h.get? b).map fun o => (b, o)
theorem mem_pinsAt {fp : List Addr} {h : Heap} {b : Addr} {o : Obj} (hb : b ∈ fp) (e : h.get? b = some o) : (b, o) ∈ pinsAt fp h := List.mem_filterMap.mpr ⟨b, hb, by rw [e]; rfl⟩
theorem of_pinsAt {fp : List Addr} {h : Heap} {p : Addr × Obj} (hp : p ∈ pinsAt fp h) : p.1 ∈ fp ∧ h.get? p.1 = some p.2 := by
  obtain ⟨b, hb, e⟩ := List.mem_filterMap.mp hp
  cases q : h.get? b with
  | none => rw [q] at e; cases e
  | some o =>
    rw [q] at e
    have e' : (b, o) = p := Option.some.inj e
    subst e'
    exact ⟨hb, q⟩
theorem Inv.pinned {pins : List (Addr × Obj)} {σ : St} {H : Hp} {s : Shared} {fp : List Addr} (I : Inv X pins σ H s) (hf : ∀ b ∈ fp, FpOk X pins H b) (ho : ∀ b ∈ fp, ∃ o, s.heap.get? b = some o ∧ ∀ v, o.data ≠ .cell v) : Inv X (pins ++ pinsAt fp s.heap) σ H s :=
  I.pins_of fun p hp => (List.mem_append.mp hp).elim (fun z => I.pin p (List.mem_append_right _ z)) fun z => by
    obtain ⟨hb, e⟩ := of_pinsAt z
    obtain ⟨f0, f1, f2, _⟩ := hf p.1 hb
    obtain ⟨o, e', d⟩ := ho p.1 hb
    rw [e] at e'; cases e'
    exact ⟨e, f0, f1, f2, d⟩
theorem Inv.unpinned {pins pl : List (Addr × Obj)} {σ : St} {H : Hp} {s : Shared} (I : Inv X (pins ++ pl) σ H s) : Inv X pins σ H s := I.pins_of fun p hp => I.pin p (List.mem_append_right _ (List.mem_append_left _ hp))
theorem ps_for {iter : Expr} {body : List Stmt} {wi : TI} {g : TG} {tb : TS} {pos : Pos} (hp : PassesOwn (model X.prog X.w) X.A X.env X.xe) (hc : X.calm = true) (hi : PI X tg iter wi) (hg : PG X tg g) (hb : PSs X body tb)
    (hs : ∀ x, foldedSetIterable iter X.env x = pure x := by intro _; rfl) : PS X (.For tg iter body [] pos) (tFor wi g tb) := by
  intro pins s σ H D I h
  refine wpAny_For (thn (hi pins s σ H _ I h) fun v s1 h1 => thn h1 fun itv s2 h2 => ?_) hs
  obtain ⟨it, fp, tn, J, H2, e, I2, T, st2, f2, W, ⟨m0, w0⟩, turn⟩ := h2
  subst e
  have stat : ∀ {H' : Hp}, (∀ b ∈ fp, H' b = none) → ∀ b ∈ fp, FpOk X pins H' b := fun hn b hb => ⟨hn b hb, (f2 b hb).2⟩
  refine codeAny_forLoop_any (fun n s' => ∃ i σ' H', Inv X pins σ' H' s' ∧ tn i s'.heap ∧ (∀ b ∈ fp, H' b = none) ∧ W i n σ' H') ?_ m0 ⟨0, σ, H2, I2, st2, fun b hb => (f2 b hb).1, w0⟩
  rintro n s3 ⟨i, σ3, H3, I3, st3, fr3, w3⟩
  rcases turn i n σ3 H3 w3 with ⟨stop, qn⟩ | ⟨go, N, hN, step⟩
  · refine wpAny_passesOwn hp (thn (T.done X rfl rfl rfl hc i pins s3 σ3 H3 X.xe I3 (stat fr3) st3 stop) fun r s4 ⟨hr, I4⟩ => ?_)
    subst hr
    exact wpAny_execs_nil ⟨σ3, H3, I4, qn⟩
  · refine wpAny_passesOwn hp (thn (T.item X rfl rfl rfl hc i pins s3 σ3 H3 X.xe I3 (stat fr3) st3 go) fun r s4 ⟨u, hr, h4⟩ => ?_)
    subst hr
    refine wpAny_passesOwn hp (thn h4 fun _ s5 ⟨x, H5, I5, r5, y5, st5, fr5⟩ => ?_)
    have I5' := I5.pinned (stat fr5) (T.obj _ _ st5)
    refine wpAny_passesOwn hp (thn (hg _ s5 σ3 H5 x u _ I5' r5 (step x H5 y5)) fun _ s6 ⟨σ6, H6, I6, q6⟩ => ?_)
    refine wpAny_passesOwn hp (thn (hb _ s6 σ6 H6 _ I6 q6) fun f s7 q7 => ?_)
    have again : ∀ {σ7 : St} {H7 : Hp}, Inv X (pins ++ pinsAt fp s5.heap) σ7 H7 s7 → N σ7 H7 → ∃ m, m < n ∧ ∃ i σ' H', Inv X pins σ' H' s7 ∧ tn i s7.heap ∧ (∀ b ∈ fp, H' b = none) ∧ W i m σ' H' := fun {σ7 H7} I7 n7 => by
      obtain ⟨m', hm, w7⟩ := hN σ7 H7 n7
      refine ⟨m', hm, i + 1, σ7, H7, I7.unpinned, T.keep _ _ _ st5 fun b hb o e => (I7.pin (b, o) (List.mem_append_right _ (List.mem_append_right _ (mem_pinsAt hb e)))).1, fun b hb => ?_, w7⟩
      obtain ⟨o, e, d⟩ := T.obj _ _ st5 b hb
      exact (I7.pin (b, o) (List.mem_append_right _ (List.mem_append_right _ (mem_pinsAt hb e)))).2.1
    cases f with
    | next => obtain ⟨σ7, H7, I7, n7⟩ := q7; exact again I7 n7
    | cont => obtain ⟨σ7, H7, I7, n7⟩ := q7; exact again I7 n7
    | brk => obtain ⟨σ7, H7, I7, q7⟩ := q7; exact ⟨σ7, H7, I7.unpinned, q7⟩
    | ret v => obtain ⟨x7, σ7, H7, I7, r7, q7⟩ := q7; exact ⟨x7, σ7, H7, I7.unpinned, r7, q7⟩
end

/-! ### the forms one uses -/
/-- over a list that the body leaves as it is -/
theorem for_list {K : PySem.W.Frag} {a : Addr} {xs : List V} {g : TG} {tb : TS} {D : Ends} {σ : St} {H : Hp} (Pv : Nat → St → Hp → Prop) (h0 : Pv 0 σ H) (hl : ∀ i σ H, i ≤ xs.length → Pv i σ H → SqL K H a xs)
    (hs : ∀ i x σ H, xs[i]? = some x → Pv i σ H → g x σ H fun σ2 H2 => tb { D with nx := Pv (i + 1), ct := Pv (i + 1), bk := D.nx } σ2 H2) (hd : ∀ σ H, Pv xs.length σ H → D.nx σ H) :
    ∃ W : Nat → Nat → St → Hp → Prop, (∃ m, W 0 m σ H) ∧ ∀ i m σ H, W i m σ H →
      ((Itl K a).stop i H ∧ D.nx σ H) ∨ ((Itl K a).go i H ∧ ∃ N : St → Hp → Prop, (∀ σ' H', N σ' H' → ∃ m', m' < m ∧ W (i + 1) m' σ' H') ∧ ∀ x H', (Itl K a).yld i H x H' → g x σ H' fun σ2 H2 => tb { D with nx := N, ct := N, bk := D.nx } σ2 H2) := by
  refine ⟨fun i m σ H => m = xs.length - i ∧ i ≤ xs.length ∧ Pv i σ H, ⟨xs.length, by simp, Nat.zero_le _, h0⟩, ?_⟩
  rintro i m σ H ⟨rfl, hi, p⟩
  have q := hl i σ H hi p
  by_cases hlt : i < xs.length
  · refine .inr ⟨⟨xs, xs[i], q, by simp [hlt]⟩, Pv (i + 1), fun σ' H' p' => ⟨xs.length - (i + 1), by omega, rfl, hlt, p'⟩, fun x H' y => ?_⟩
    obtain ⟨e, y⟩ := y
    subst e
    exact hs i x σ _ (y xs q) p
  · have e : i = xs.length := by omega
    subst e
    exact .inl ⟨⟨xs, q, Nat.le_refl _⟩, hd σ H p⟩
theorem for_tup {K : PySem.W.Frag} {a : Addr} {xs : List V} {g : TG} {tb : TS} {D : Ends} {σ : St} {H : Hp} (Pv : Nat → St → Hp → Prop) (h0 : Pv 0 σ H) (hl : ∀ i σ H, i ≤ xs.length → Pv i σ H → SqT K H a xs)
    (hs : ∀ i x σ H, xs[i]? = some x → Pv i σ H → g x σ H fun σ2 H2 => tb { D with nx := Pv (i + 1), ct := Pv (i + 1), bk := D.nx } σ2 H2) (hd : ∀ σ H, Pv xs.length σ H → D.nx σ H) :
    ∃ W : Nat → Nat → St → Hp → Prop, (∃ m, W 0 m σ H) ∧ ∀ i m σ H, W i m σ H →
      ((Itt K a).stop i H ∧ D.nx σ H) ∨ ((Itt K a).go i H ∧ ∃ N : St → Hp → Prop, (∀ σ' H', N σ' H' → ∃ m', m' < m ∧ W (i + 1) m' σ' H') ∧ ∀ x H', (Itt K a).yld i H x H' → g x σ H' fun σ2 H2 => tb { D with nx := N, ct := N, bk := D.nx } σ2 H2) := by
  refine ⟨fun i m σ H => m = xs.length - i ∧ i ≤ xs.length ∧ Pv i σ H, ⟨xs.length, by simp, Nat.zero_le _, h0⟩, ?_⟩
  rintro i m σ H ⟨rfl, hi, p⟩
  have q := hl i σ H hi p
  by_cases hlt : i < xs.length
  · refine .inr ⟨⟨xs, xs[i], q, by simp [hlt]⟩, Pv (i + 1), fun σ' H' p' => ⟨xs.length - (i + 1), by omega, rfl, hlt, p'⟩, fun x H' y => ?_⟩
    obtain ⟨e, y⟩ := y
    subst e
    exact hs i x σ _ (y xs q) p
  · have e : i = xs.length := by omega
    subst e
    exact .inl ⟨⟨xs, q, Nat.le_refl _⟩, hd σ H p⟩
theorem for_range {lo : Int} {n : Nat} {g : TG} {tb : TS} {D : Ends} {σ : St} {H : Hp} (Pv : Nat → St → Hp → Prop) (h0 : Pv 0 σ H)
    (hs : ∀ i σ H, i < n → Pv i σ H → g (.int (lo + i)) σ H fun σ2 H2 => tb { D with nx := Pv (i + 1), ct := Pv (i + 1), bk := D.nx } σ2 H2) (hd : ∀ σ H, Pv n σ H → D.nx σ H) :
    ∃ W : Nat → Nat → St → Hp → Prop, (∃ m, W 0 m σ H) ∧ ∀ i m σ H, W i m σ H →
      ((Itr lo n).stop i H ∧ D.nx σ H) ∨ ((Itr lo n).go i H ∧ ∃ N : St → Hp → Prop, (∀ σ' H', N σ' H' → ∃ m', m' < m ∧ W (i + 1) m' σ' H') ∧ ∀ x H', (Itr lo n).yld i H x H' → g x σ H' fun σ2 H2 => tb { D with nx := N, ct := N, bk := D.nx } σ2 H2) := by
  refine ⟨fun i m σ H => m = n - i ∧ i ≤ n ∧ Pv i σ H, ⟨n, by simp, Nat.zero_le _, h0⟩, ?_⟩
  rintro i m σ H ⟨rfl, hi, p⟩
  by_cases hlt : i < n
  · refine .inr ⟨hlt, Pv (i + 1), fun σ' H' p' => ⟨n - (i + 1), by omega, rfl, hlt, p'⟩, fun x H' y => ?_⟩
    obtain ⟨e, y⟩ := y
    subst e y
    exact hs i σ _ hlt p
  · have e : i = n := by omega
    subst e
    exact .inl ⟨Nat.le_refl _, hd σ H p⟩
end L2

namespace L2
open PySem PySem.Spec PyProof.Rows

abbrev R2 := V → V → Hp → VK → Prop
/-- a two-place operation on values: f is binaryOp op, inplaceOp op or compareOp op -/
def OpR (X : Cx) (f : Value → Value → Sem Value) (r : R2) : Prop :=
  ∀ (pins : List (Addr × Obj)) (s : Shared) (σ : St) (H : Hp) (x y : V) (v u : Value) (Q : VK), Inv X pins σ H s → RelV x v → RelV y u → r x y H Q →
    wpAny (model X.prog X.w) X.A (f v u) (EP X pins σ Q) X.xe s
/-- a one-place operation -/
def UnR (X : Cx) (f : Value → Sem Value) (r : V → Hp → VK → Prop) : Prop :=
  ∀ (pins : List (Addr × Obj)) (s : Shared) (σ : St) (H : Hp) (x : V) (v : Value) (Q : VK), Inv X pins σ H s → RelV x v → r x H Q →
    wpAny (model X.prog X.w) X.A (f v) (EP X pins σ Q) X.xe s
/-- a call of a value that is known (a builtin, a type) with values -/
def CallR (X : Cx) (f : Value) (r : List V → Hp → VK → Prop) : Prop :=
  ∀ (pins : List (Addr × Obj)) (s : Shared) (σ : St) (H : Hp) (xs : List V) (us : List Value) (Q : VK), Inv X pins σ H s → Vals xs us → r xs H Q →
    wpAny (model X.prog X.w) X.A (call f us) (EP X pins σ Q) X.xe s
/-- a value's truth -/
def TruR (X : Cx) (r : V → Hp → (Bool → Hp → Prop) → Prop) : Prop :=
  ∀ (pins : List (Addr × Obj)) (s : Shared) (σ : St) (H : Hp) (x : V) (v : Value) (Q : Bool → Hp → Prop), Inv X pins σ H s → RelV x v → r x H Q →
    wpAny (model X.prog X.w) X.A (truthy v) (TP X pins σ Q) X.xe s

def tOp (r : R2) (ta tb : TE) : TE := fun σ H Q => ta σ H fun x H1 => tb σ H1 fun y H2 => r x y H2 Q
def tUn (r : V → Hp → VK → Prop) (ta : TE) : TE := fun σ H Q => ta σ H fun x H1 => r x H1 Q
/-- ints in, under C, and a value out -/
def rI (C : Int → Int → Prop) (g : Int → Int → V) : R2 := fun x y H Q => ∃ i j, x = .int i ∧ y = .int j ∧ C i j ∧ Q (g i j) H
def rI0 (g : Int → Int → V) : R2 := fun x y H Q => ∃ i j, x = .int i ∧ y = .int j ∧ Q (g i j) H
def rU (g : Int → V) : V → Hp → VK → Prop := fun x H Q => ∃ i, x = .int i ∧ Q (g i) H

section
variable {X : Cx} {a b c : Expr} {ta tb tc : TE} {pos : Pos}

theorem binT (ha : PE X a ta) (hb : PE X b tb) {pins : List (Addr × Obj)} {s : Shared} {σ : St} {H : Hp} {R : V → V → Hp → Prop} (I : Inv X pins σ H s)
    (h : ta σ H fun x H1 => tb σ H1 fun y H2 => R x y H2) {Q : Value → Shared → Prop} {f : Value → Value → Sem Value}
    (hf : ∀ v u s2 x y H2, Inv X pins σ H2 s2 → RelV x v → RelV y u → R x y H2 → wpAny (model X.prog X.w) X.A (f v u) Q X.xe s2) :
    wpAny (model X.prog X.w) X.A (eval a X.env) (fun v s₁ => wpAny (model X.prog X.w) X.A (eval b X.env) (fun u s₂ => wpAny (model X.prog X.w) X.A (f v u) Q X.xe s₂) X.xe s₁) X.xe s := by
  refine thn (ha pins s σ H _ I h) fun v s1 ⟨x, H1, I1, r1, q1⟩ => ?_
  refine thn (hb pins s1 σ H1 _ I1 q1) fun u s2 ⟨y, H2, I2, r2, q2⟩ => ?_
  exact hf v u s2 x y H2 I2 r1 r2 q2

theorem pe_op {op : Operator} {r : R2} (ho : OpR X (binaryOp op) r) (ha : PE X a ta) (hb : PE X b tb) : PE X (.BinOp a op b pos) (tOp r ta tb) := by
  intro pins s σ H Q I h
  exact wpAny_BinOp (binT ha hb I h fun v u s2 x y H2 I2 rx ry q => ho pins s2 σ H2 x y v u Q I2 rx ry q)
theorem pe_un {op : UnaryOp} {r : V → Hp → VK → Prop} (ho : UnR X (unaryOp op) r) (ha : PE X a ta) : PE X (.UnaryOp op a pos) (tUn r ta) := by
  intro pins s σ H Q I h
  exact UnaryOp_ (thn (ha pins s σ H _ I h) fun v s1 ⟨x, H1, I1, r1, q1⟩ => ho pins s1 σ H1 x v Q I1 r1 q1)
/-! ### ints -/
theorem opI {f : Value → Value → Sem Value} {C : Int → Int → Prop} {g : Int → Int → Int}
    (rule : ∀ (i j : Int) (t u : Tok) (s : Shared) (Q : Value → Shared → Prop) (E : Value → Shared → Prop), C i j → Q (.int (g i j) s.toks) { s with toks := s.toks + 1 } → wpAny (model X.prog X.w) X.A (f (.int i t) (.int j u)) Q E s) :
    OpR X f (rI C fun i j => .int (g i j)) := by
  intro pins s σ H x y v u Q I rx ry h
  obtain ⟨i, j, rfl, rfl, hc, q⟩ := h
  obtain ⟨t, rfl⟩ := rx
  obtain ⟨t', rfl⟩ := ry
  exact rule i j t t' s _ _ hc ⟨.int (g i j), H, I.tok _, ⟨_, rfl⟩, q⟩
theorem opI0 {f : Value → Value → Sem Value} {g : Int → Int → Int}
    (rule : ∀ (i j : Int) (t u : Tok) (s : Shared) (Q : Value → Shared → Prop) (E : Value → Shared → Prop), Q (.int (g i j) s.toks) { s with toks := s.toks + 1 } → wpAny (model X.prog X.w) X.A (f (.int i t) (.int j u)) Q E s) :
    OpR X f (rI0 fun i j => .int (g i j)) := by
  intro pins s σ H x y v u Q I rx ry h
  obtain ⟨i, j, rfl, rfl, q⟩ := h
  obtain ⟨t, rfl⟩ := rx
  obtain ⟨t', rfl⟩ := ry
  exact rule i j t t' s _ _ ⟨.int (g i j), H, I.tok _, ⟨_, rfl⟩, q⟩
theorem opB0 {f : Value → Value → Sem Value} {g : Int → Int → Bool}
    (rule : ∀ (i j : Int) (t u : Tok) (s : Shared) (Q : Value → Shared → Prop) (E : Value → Shared → Prop), Q (.bool (g i j)) s → wpAny (model X.prog X.w) X.A (f (.int i t) (.int j u)) Q E s) :
    OpR X f (rI0 fun i j => .bl (g i j)) := by
  intro pins s σ H x y v u Q I rx ry h
  obtain ⟨i, j, rfl, rfl, q⟩ := h
  obtain ⟨t, rfl⟩ := rx
  obtain ⟨t', rfl⟩ := ry
  exact rule i j t t' s _ _ ⟨.bl (g i j), H, I, rfl, q⟩

def CMul (i j : Int) : Prop := (-(2 ^ 64) < i ∧ i < 2 ^ 64) ∨ (-(2 ^ 64) < j ∧ j < 2 ^ 64)
theorem CMul.ok {i j : Int} (h : CMul i j) : IntMulOk i j := by
  rcases h with ⟨h1, h2⟩ | ⟨h1, h2⟩
  · exact .of_left (intBits_le_64 h1 h2)
  · exact .of_right (intBits_le_64 h1 h2)
theorem op_add : OpR X (binaryOp .Add) (rI0 fun i j => .int (i + j)) := opI0 fun _ _ _ _ _ _ _ q => add_int q
theorem op_sub : OpR X (binaryOp .Sub) (rI0 fun i j => .int (i - j)) := opI0 fun _ _ _ _ _ _ _ q => sub_int q
theorem op_mul : OpR X (binaryOp .Mult) (rI CMul fun i j => .int (i * j)) := opI fun _ _ _ _ _ _ _ hc q => mul_int q hc.ok
/-- % by a positive divisor of any size -/
theorem op_mod : OpR X (binaryOp .Mod) (rI (fun _ j => 0 < j) fun i j => .int (i % j)) := opI fun i j _ _ _ _ _ hc q => by
  have h1 : (0 : Int) < j := hc
  exact mod_int' (by omega) (by rw [Int.fmod_eq_emod_of_nonneg i (by omega)]; exact q)
theorem unI {f : Value → Sem Value} {g : Int → Int}
    (rule : ∀ (i : Int) (t : Tok) (s : Shared) (Q : Value → Shared → Prop) (E : Value → Shared → Prop), Q (.int (g i) s.toks) { s with toks := s.toks + 1 } → wpAny (model X.prog X.w) X.A (f (.int i t)) Q E s) :
    UnR X f (rU fun i => .int (g i)) := by
  intro pins s σ H x v Q I rx h
  obtain ⟨i, rfl, q⟩ := h
  obtain ⟨t, rfl⟩ := rx
  exact rule i t s _ _ ⟨.int (g i), H, I.tok _, ⟨_, rfl⟩, q⟩
theorem un_neg : UnR X (unaryOp .USub) (rU fun i => .int (-i)) := unI fun _ _ _ _ _ q => neg_int q
/-! ### bools among ints: n += (a < b) -/
end

/-! ### comparisons -/
/-- the scalars that == tells apart as data does -/
def scal : V → V → Bool
  | .non, .non => true | .non, .int _ => true | .int _, .non => true | .non, .bl _ => true | .bl _, .non => true | .non, .str _ => true | .str _, .non => true
  | .int _, .int _ => true | .bl _, .bl _ => true | .str _, .str _ => true | .byt _, .byt _ => true
  | .int _, .str _ => true | .str _, .int _ => true | .bl _, .str _ => true | .str _, .bl _ => true
  | _, _ => false
def rEq : R2 := fun x y H Q => scal x y = true ∧ Q (.bl (decide (x = y))) H
def rNe : R2 := fun x y H Q => scal x y = true ∧ Q (.bl (!decide (x = y))) H

theorem dec_int {i j : Int} : decide (V.int i = V.int j) = (i == j) := by
  rw [Bool.eq_iff_iff]
  simp
theorem dec_bl {i j : Bool} : decide (V.bl i = V.bl j) = (i == j) := by
  rw [Bool.eq_iff_iff]
  simp
theorem dec_str {i j : Str} : decide (V.str i = V.str j) = (i == j) := by
  rw [Bool.eq_iff_iff]
  simp
theorem dec_byt {i j : Array UInt8} : decide (V.byt i = V.byt j) = (i.toList == j.toList) := by
  rw [Bool.eq_iff_iff]
  cases i
  cases j
  simp

section
variable {X : Cx} {a b c : Expr} {ta tb tc : TE} {pos : Pos}
theorem fin_bl {pins : List (Addr × Obj)} {σ : St} {H : Hp} {s : Shared} {Q : VK} {k k' : Bool} (I : Inv X pins σ H s) (q : Q (.bl k) H) (e : k = k') : EP X pins σ Q (.bool k') s := by
  subst e
  exact ⟨.bl k, H, I, rfl, q⟩
theorem op_eq : OpR X (compareOp .Eq) rEq := by
  intro pins s σ H x y v u Q I rx ry h
  obtain ⟨hs, q⟩ := h
  cases x with
  | non =>
    cases rx
    cases y with
    | non => cases ry; exact PySem.EqNone.eq_none_none (fin_bl I q (by simp))
    | bl j => cases ry; exact PySem.EqNone.eq_none_bool (fin_bl I q (by simp))
    | int j => obtain ⟨t', rfl⟩ := ry; exact PySem.EqNone.eq_none_int (fin_bl I q (by simp))
    | str j => obtain ⟨t', rfl⟩ := ry; exact PySem.EqNone.eq_none_str (fin_bl I q (by simp))
    | _ => exact absurd (show false = true from hs) Bool.false_ne_true
  | bl i =>
    cases rx
    cases y with
    | non => cases ry; exact PySem.EqNone.eq_bool_none (fin_bl I q (by simp))
    | bl j => cases ry; exact eq_bool (fin_bl I q dec_bl)
    | str j => obtain ⟨t', rfl⟩ := ry; exact PySem.EqMixed.eq_bool_str (fin_bl I q (by simp))
    | _ => exact absurd (show false = true from hs) Bool.false_ne_true
  | int i =>
    obtain ⟨t, rfl⟩ := rx
    cases y with
    | non => cases ry; exact PySem.EqNone.eq_int_none (fin_bl I q (by simp))
    | int j => obtain ⟨t', rfl⟩ := ry; exact eq_int (fin_bl I q dec_int)
    | str j => obtain ⟨t', rfl⟩ := ry; exact PySem.EqMixed.eq_int_str (fin_bl I q (by simp))
    | _ => exact absurd (show false = true from hs) Bool.false_ne_true
  | str i =>
    obtain ⟨t, rfl⟩ := rx
    cases y with
    | non => cases ry; exact PySem.EqNone.eq_str_none (fin_bl I q (by simp))
    | bl j => cases ry; exact PySem.EqMixed.eq_str_bool (fin_bl I q (by simp))
    | int j => obtain ⟨t', rfl⟩ := ry; exact PySem.EqMixed.eq_str_int (fin_bl I q (by simp))
    | str j => obtain ⟨t', rfl⟩ := ry; exact eq_str (fin_bl I q dec_str)
    | _ => exact absurd (show false = true from hs) Bool.false_ne_true
  | byt i =>
    obtain ⟨t, rfl⟩ := rx
    cases y with
    | byt j => obtain ⟨t', rfl⟩ := ry; exact PySem.W.eq_bytes (fin_bl I q dec_byt)
    | _ => exact absurd (show false = true from hs) Bool.false_ne_true
  | _ => cases y <;> exact absurd (show false = true from hs) Bool.false_ne_true
theorem op_ne : OpR X (compareOp .NotEq) rNe := by
  intro pins s σ H x y v u Q I rx ry h
  obtain ⟨hs, q⟩ := h
  cases x with
  | non =>
    cases rx
    cases y with
    | non => cases ry; exact PySem.EqNone.ne_none_none (fin_bl I q (by simp))
    | bl j => cases ry; exact PySem.EqNone.ne_none_bool (fin_bl I q (by simp))
    | int j => obtain ⟨t', rfl⟩ := ry; exact PySem.EqNone.ne_none_int (fin_bl I q (by simp))
    | str j => obtain ⟨t', rfl⟩ := ry; exact PySem.EqNone.ne_none_str (fin_bl I q (by simp))
    | _ => exact absurd (show false = true from hs) Bool.false_ne_true
  | bl i =>
    cases rx
    cases y with
    | non => cases ry; exact PySem.EqNone.ne_bool_none (fin_bl I q (by simp))
    | bl j => cases ry; exact ne_bool (fin_bl I q (congrArg not dec_bl))
    | str j => obtain ⟨t', rfl⟩ := ry; exact PySem.EqMixed.ne_bool_str (fin_bl I q (by simp))
    | _ => exact absurd (show false = true from hs) Bool.false_ne_true
  | int i =>
    obtain ⟨t, rfl⟩ := rx
    cases y with
    | non => cases ry; exact PySem.EqNone.ne_int_none (fin_bl I q (by simp))
    | int j => obtain ⟨t', rfl⟩ := ry; exact ne_int (fin_bl I q (congrArg not dec_int))
    | str j => obtain ⟨t', rfl⟩ := ry; exact PySem.EqMixed.ne_int_str (fin_bl I q (by simp))
    | _ => exact absurd (show false = true from hs) Bool.false_ne_true
  | str i =>
    obtain ⟨t, rfl⟩ := rx
    cases y with
    | non => cases ry; exact PySem.EqNone.ne_str_none (fin_bl I q (by simp))
    | bl j => cases ry; exact PySem.EqMixed.ne_str_bool (fin_bl I q (by simp))
    | int j => obtain ⟨t', rfl⟩ := ry; exact PySem.EqMixed.ne_str_int (fin_bl I q (by simp))
    | str j => obtain ⟨t', rfl⟩ := ry; exact ne_str (fin_bl I q (congrArg not dec_str))
    | _ => exact absurd (show false = true from hs) Bool.false_ne_true
  | byt i =>
    obtain ⟨t, rfl⟩ := rx
    cases y with
    | byt j => obtain ⟨t', rfl⟩ := ry; exact PySem.W.ne_bytes (fin_bl I q (congrArg not dec_byt))
    | _ => exact absurd (show false = true from hs) Bool.false_ne_true
  | _ => cases y <;> exact absurd (show false = true from hs) Bool.false_ne_true

theorem op_lt : OpR X (compareOp .Lt) (rI0 fun i j => .bl (decide (i < j))) := opB0 fun _ _ _ _ _ _ _ q => lt_int q
theorem op_le : OpR X (compareOp .LtE) (rI0 fun i j => .bl (decide (i ≤ j))) := opB0 fun _ _ _ _ _ _ _ q => le_int q
/-- the one string within the other -/
theorem op_in_str : OpR X (compareOp .In) (fun x y H Q => ∃ i j, x = .str i ∧ y = .str j ∧ Q (.bl (!(Builtin.Str.occurrences j i 0 j.length 1).isEmpty)) H) := by
  intro pins s σ H x y v u Q I rx ry h
  obtain ⟨i, j, rfl, rfl, q⟩ := h
  obtain ⟨t, rfl⟩ := rx
  obtain ⟨t', rfl⟩ := ry
  exact in_str (fin_bl I q rfl)

/-- is None, is not None: the right side a value none -/
theorem op_isN : OpR X (compareOp .Is) (fun x y H Q => y = .non ∧ Q (.bl (decide (x = .non))) H) := by
  intro pins s σ H x y v u Q I rx ry h
  obtain ⟨rfl, q⟩ := h
  cases ry
  refine is_none_gen (fin_bl I q ?_)
  cases x <;> first
    | (cases rx; rfl)
    | (obtain ⟨t, rfl⟩ := rx; rfl)
theorem op_notN : OpR X (compareOp .IsNot) (fun x y H Q => y = .non ∧ Q (.bl (!decide (x = .non))) H) := by
  intro pins s σ H x y v u Q I rx ry h
  obtain ⟨rfl, q⟩ := h
  cases ry
  refine isnot_none_gen (fin_bl I q ?_)
  cases x <;> first
    | (cases rx; rfl)
    | (obtain ⟨t, rfl⟩ := rx; rfl)

/-- two rules for one operation: by cases -/
theorem OpR.or {f : Value → Value → Sem Value} {r r' : R2} (h : OpR X f r) (h' : OpR X f r') : OpR X f (fun x y H Q => r x y H Q ∨ r' x y H Q) := by
  intro pins s σ H x y v u Q I rx ry q
  rcases q with q | q
  · exact h pins s σ H x y v u Q I rx ry q
  · exact h' pins s σ H x y v u Q I rx ry q

theorem nomark (b : Expr) {op : CmpOp} (h : op ≠ .In := by decide) (h2 : op ≠ .NotIn := by decide) : behindInMarks op b = false := by
  have e1 : (op == CmpOp.In) = false := by cases op <;> first | rfl | exact absurd rfl h
  have e2 : (op == CmpOp.NotIn) = false := by cases op <;> first | rfl | exact absurd rfl h2
  cases b <;> simp [behindInMarks, e1, e2]
/-- a comparison as a value; hm: nomark b, or (for in, not in) by with_unfolding_all rfl -/
theorem pe_cmpR {op : CmpOp} {r : R2} (ho : OpR X (compareOp op) r) (ha : PE X a ta) (hb : PE X b tb) (hm : behindInMarks op b = false) : PE X (.Compare a [op] [b] pos) (tOp r ta tb) := by
  intro pins s σ H Q I h
  exact wpAny_Compare1 (binT ha hb I h fun v u s2 x y H2 I2 rx ry q => ho pins s2 σ H2 x y v u Q I2 rx ry q) hm
/-- a reading of a value as a test -/
def tTest (t : TE) : TT := fun σ H Q => t σ H fun x H' => ∃ k, x = .bl k ∧ Q k H'
theorem pt_cmpR {op : CmpOp} {r : R2} (ho : OpR X (compareOp op) r) (ha : PE X a ta) (hb : PE X b tb) (hm : behindInMarks op b = false) : PT X (.Compare a [op] [b] pos) (tTest (tOp r ta tb)) := by
  intro pins s σ H Q I h
  refine wpAny_isTrue_Compare1 (thn (ha pins s σ H _ I h) fun v s1 ⟨x, H1, I1, r1, q1⟩ => thn (hb pins s1 σ H1 _ I1 q1) fun u s2 ⟨y, H2, I2, r2, q2⟩ =>
    thn (ho pins s2 σ H2 x y v u _ I2 r1 r2 q2) fun c s3 ⟨z, H3, I3, r3, k, e, q3⟩ => ?_) hm
  subst e
  cases r3
  exact wpAny_truthy_bool ⟨H3, I3, q3⟩
/-! ### truth -/
/-- a value's truth by the abstract heap -/
def TruV (K : PySem.W.Frag) (x : V) (H : Hp) (k : Bool) : Prop :=
  match x with
  | .non => k = false
  | .bl b => k = b
  | .int i => k = (i != 0)
  | .str y => y.length ≤ sizeLine ∧ k = ((y.length : Int) != 0)
  | .byt y => y.size ≤ sizeLine ∧ k = ((y.size : Int) != 0)
  | .ref p => (∃ xs, SqL K H p xs ∧ k = !xs.isEmpty) ∨ (∃ xs, SqT K H p xs ∧ k = !xs.isEmpty) ∨ ∃ kvs, H p = some (.dK kvs) ∧ k = !kvs.isEmpty
  | _ => False
theorem isEmpty_kv {κ : Type} {kvs : List (κ × V)} {vs : List (κ × Value)} (r : KV kvs vs) : (!vs.isEmpty) = !kvs.isEmpty := by
  cases r <;> rfl
theorem isEmpty_of {xs : List V} {its : List Value} (r : Vals xs its) : (!its.toArray.isEmpty) = !xs.isEmpty := by
  cases r <;> simp
theorem line63 : (sizeLine : Nat) < 2 ^ 63 := by rw [sizeLine_eq]; decide
theorem tru_ok : TruR X (fun x H Q => ∃ k, TruV X.K x H k ∧ Q k H) := by
  intro pins s σ H x v Q I rx h
  obtain ⟨k, e, q⟩ := h
  have hl := line63
  have hs : sizeLine = 16777216 := sizeLine_eq
  cases x with
  | non =>
    cases rx
    have e' : k = false := e
    subst e'
    exact truthy_none ⟨H, I, q⟩
  | bl b =>
    cases rx
    have e' : k = b := e
    subst e'
    exact wpAny_truthy_bool ⟨H, I, q⟩
  | int i =>
    obtain ⟨t, rfl⟩ := rx
    have e' : k = (i != 0) := e
    subst e'
    exact PySem.P.truthy_int ⟨H, I, q⟩
  | str y =>
    obtain ⟨t, rfl⟩ := rx
    obtain ⟨hy, e'⟩ : y.length ≤ sizeLine ∧ k = ((y.length : Int) != 0) := e
    subst e'
    exact PySem.P.truthy_str (by omega) ⟨H, I.tok _, q⟩
  | byt y =>
    obtain ⟨t, rfl⟩ := rx
    obtain ⟨hy, e'⟩ : y.size ≤ sizeLine ∧ k = ((y.size : Int) != 0) := e
    subst e'
    exact PySem.W.truthy_bytes (by omega) ⟨H, I.tok _, q⟩
  | ref p =>
    cases rx
    have e' : (∃ xs, SqL X.K H p xs ∧ k = !xs.isEmpty) ∨ (∃ xs, SqT X.K H p xs ∧ k = !xs.isEmpty) ∨ ∃ kvs, H p = some (.dK kvs) ∧ k = !kvs.isEmpty := e
    rcases e' with ⟨xs, hx, e'⟩ | ⟨xs, hx, e'⟩ | ⟨kvs, hx, e'⟩
    · subst e'
      obtain ⟨its, r, pl, hz⟩ := I.list hx
      have hlen := r.length
      exact wpAny_truthy_list pl.isList (by simp only [List.size_toArray]; omega) ⟨H, I.tok _, by rw [isEmpty_of r]; exact q⟩
    · subst e'
      obtain ⟨its, r, pl, hz⟩ := I.tuple hx
      have hlen := r.length
      exact truthy_tuple pl (by simp only [List.size_toArray]; omega) ⟨H, I.tok _, by rw [isEmpty_of r]; exact q⟩
    · subst e'
      obtain ⟨hz, hS, vs, r, m⟩ : kvs.length ≤ sizeLine ∧ (p == sysModules) = false ∧ ∃ vs, KV kvs vs ∧ s.heap.DictOf (mixKind X.prog X.w) p vs := I.hok p _ hx
      have hlen : kvs.length = vs.length := Paired.length r
      exact wpAny_truthy_dict hS m (by omega) ⟨H, I.tok _, by rw [isEmpty_kv r]; exact q⟩
  | _ => exact (show False from e).elim
/-- any expression whose test is its value's truth (a name, a call, a subscript, a field ..: he by fun _ => rfl) -/
theorem pt_truth (ha : PE X a ta) (he : ∀ whole, isTrue a X.env whole = (do let v ← whole; standAt a.pos; holding [v] (truthy v))) :
    PT X a (fun σ H Q => ta σ H fun x H' => ∃ k, TruV X.K x H' k ∧ Q k H') := by
  intro pins s σ H Q I h
  exact isTrue_plain (thn (ha pins s σ H _ I h) fun v s1 ⟨x, H1, I1, r1, q1⟩ => tru_ok pins s1 σ H1 x v Q I1 r1 q1) (he _)

/-! ### strs and bytes -/
theorem op_add_str : OpR X (binaryOp .Add) (fun x y H Q => ∃ i j, x = .str i ∧ y = .str j ∧ i.length + j.length ≤ sizeLine ∧ Q (.str (i ++ j)) H) := by
  intro pins s σ H x y v u Q I rx ry h
  obtain ⟨i, j, rfl, rfl, hz, q⟩ := h
  obtain ⟨t, rfl⟩ := rx
  obtain ⟨t', rfl⟩ := ry
  exact add_str (fun t' tk => ⟨.str (i ++ j), H, I.tok _, ⟨_, rfl⟩, q⟩) hz
/-! ### scalar builtins, by CallR -/
theorem vals1 {x : V} {us : List Value} (r : Vals [x] us) : ∃ u, us = [u] ∧ RelV x u := by
  cases r with
  | cons r1 r2 => cases r2; exact ⟨_, rfl, r1⟩
theorem call_str_int : CallR X (.type "str") (fun xs H Q => ∃ i, xs = [.int i] ∧ i.natAbs.log2 < 1920 ∧ Q (.str (toString i)) H) := by
  intro pins s σ H xs us Q I r h
  obtain ⟨i, rfl, hz, q⟩ := h
  obtain ⟨u, rfl, t, rfl⟩ := vals1 r
  exact PySem.P.str_of_int hz ⟨.str _, H, I.tok _, ⟨_, rfl⟩, q⟩
end
end L2

namespace L2
open PySem PySem.Spec PyProof.Rows

/-! ### an instance, its attributes a map -/
structure ObjM (h : Heap) (x dx C : Addr) (mA : Str → Option Value) : Prop where
  obj : h.get? x = some (PySem.W.instObj C dx)
  ns : h.Ns1 dx mA
  ne : dx ≠ x

theorem lookIn_ns {h : Heap} {dx : Addr} {mA : Str → Option Value} (n : h.Ns1 dx mA) : ∃ od, h.get? dx = some od ∧ ∀ name, PySem.W.lookIn name od = some (mA name) := by
  obtain ⟨o, es, ep, ho, hd, hk, _, hm⟩ := n
  refine ⟨o, ho, fun name => ?_⟩
  have e := hm name
  unfold nsFind findBy at e
  rw [← Array.find?_toList] at e
  unfold PySem.W.lookIn
  rw [hd]
  dsimp only
  split
  · rename_i y q
    rw [q] at e
    exact congrArg some e
  · rename_i q
    rw [q] at e
    have a : es.toList.any (·.refKey) = false := by
      rw [List.any_eq_false]
      intro y hy
      obtain ⟨z, t, hkey⟩ := hk y (Array.mem_toList_iff.mp hy)
      simp [DictEntry.refKey, hkey]
    have a' : ¬ es.toList.any (·.refKey) = true := by rw [a]; exact Bool.false_ne_true
    rw [if_neg a']
    exact congrArg some e

theorem ObjM.look {h : Heap} {x dx C : Addr} {mA : Str → Option Value} (I : ObjM h x dx C mA) : ∃ od, PySem.W.InstAt h x (PySem.W.instObj C dx) C (some od) ∧ ∀ name, PySem.W.lookIn name od = some (mA name) :=
  let ⟨od, ho, hl⟩ := lookIn_ns I.ns
  ⟨od, ⟨I.obj, rfl, rfl, ho⟩, hl⟩

section
variable {prog : Program} {w : World} {A : Around} {E : Value → Shared → Prop} {s : Shared} {K : PySem.W.Frag} {x dx C f : Addr} {mA : Str → Option Value} {name : Str} {v : Value}

end

/-! ### the attributes as a list of pairs -/
def putF (f : Str) (v : V) : List (Str × V) → List (Str × V)
  | [] => [(f, v)]
  | (g, x) :: r => if g = f then (g, v) :: r else (g, x) :: putF f v r
theorem RelO.none_of {o : Option Value} (r : RelO none o) : o = none := by
  cases o with
  | none => rfl
  | some u => exact (show False from r).elim
section
variable {P : Program} {w : World} {H H' : Hp} {h h' : Heap} {a C dx : Addr} {fs fs' : List (Str × V)}
theorem ins_get (hok : HOk P w H h) (e : H a = some (.ins C dx fs)) : ∃ mA, ObjM h a dx C mA ∧ (∀ f, RelO (fs.lookup f) (mA f)) ∧ PySem.Within mA (fs.map (·.1)) ∧ fs.length ≤ 1000 ∧ H dx = some (.own a) := by
  obtain ⟨d, z, ne, ob, mA, n, r, q⟩ := (show ObjOk P w H h a (.ins C dx fs) from hok a _ e)
  exact ⟨mA, ⟨ob, n, ne⟩, r, q, z, d⟩
end

/-! ### what of the text a class must have -/
structure Cls (K : PySem.W.Frag) (C : Addr) : Prop where
  pg : PySem.W.plainGet K C Str.empty = true
  hd : PySem.W.hasDictIn K C = true
  po : PySem.W.plainOver K C = true
  sa : PySem.W.findIn K (.ref C) "__setattr__" = some (some (.builtin "object.__setattr__"))
theorem Cls.get {K : PySem.W.Frag} {C : Addr} (c : Cls K C) (f : Str) : PySem.W.plainGet K C f = true := c.pg
/-- no class of it has the name -/
def NoAttr (K : PySem.W.Frag) (C : Addr) (f : Str) : Prop := PySem.W.findIn K (.ref C) f = some none
/-- a constant of the class -/
structure Con (K : PySem.W.Frag) (C : Addr) (f : Str) (v : V) (u : Value) : Prop where
  at_ : PySem.W.findIn K (.ref C) f = some (some u)
  rel : RelV v u
  get : PySem.W.specialIn K u "__get__" = some none
  cp : PySem.W.copiedNames.contains f = false
/-- a method: a plain def of the class or of one above it -/
structure Meth (K : PySem.W.Frag) (C : Addr) (m : Str) (f : Addr) : Prop where
  at_ : PySem.W.findIn K (.ref C) m = some (some (.ref f))
  fn : PySem.W.isFn K (.ref f) = true
  kp : PySem.W.keepIn K (.ref f) = true

section
variable {X : Cx} {pins : List (Addr × Obj)} {σ : St} {H : Hp} {s : Shared} {a C dx : Addr} {fs : List (Str × V)} {f : Str} {v : V} {A : Around} {E : Value → Shared → Prop}

/-- a new instance, tracked, without attributes -/
theorem Inv.made (I : Inv X pins σ H s) : Inv X pins σ (upd (upd H s.heap.objs.size (.own (s.heap.objs.size + 1))) (s.heap.objs.size + 1) (.ins C s.heap.objs.size []))
    { s with heap := (s.heap.push PySem.W.emptyDict).push (PySem.W.instObj C s.heap.objs.size) } := by
  have e1 : (s.heap.push PySem.W.emptyDict).get? s.heap.objs.size = some PySem.W.emptyDict := Heap.get?_push_size s.heap rfl
  have e2 : ((s.heap.push PySem.W.emptyDict).push (PySem.W.instObj C s.heap.objs.size)).get? (s.heap.objs.size + 1) = some (PySem.W.instObj C s.heap.objs.size) := by
    have := Heap.get?_push_size (s.heap.push PySem.W.emptyDict) (o := PySem.W.instObj C s.heap.objs.size) rfl
    rwa [Heap.size_push] at this
  have e3 : (s.heap.push PySem.W.emptyDict).Ns s.heap.objs.size (fun _ => none) := ⟨PySem.W.emptyDict, #[], _, e1, rfl, (fun e he => absurd he (by simp)), fun _ => rfl⟩
  have I1 := I.laid (a := s.heap.objs.size) (o := .own (s.heap.objs.size + 1)) (h' := s.heap.push PySem.W.emptyDict) (t' := s.toks) (fun b u q => Heap.get?_push_of_some _ q) (Nat.le_refl _) ⟨_, e1⟩
  refine I1.laid (a := s.heap.objs.size + 1) (o := .ins C s.heap.objs.size []) (t' := s.toks) (fun b u q => Heap.get?_push_of_some _ q) (Nat.le_of_eq (Heap.size_push _ _)) ?_
  have ne : s.heap.objs.size ≠ s.heap.objs.size + 1 := Nat.ne_of_lt (Nat.lt_succ_self _)
  refine ⟨by rw [upd_ne ne, upd_same], Nat.zero_le _, ne, e2, fun _ => none, (Heap.Ns1.of_empty e3).at fun o q => Heap.get?_push_of_some _ q, fun _ => True.intro, fun y hy => absurd rfl hy⟩

end

/-! ### readings and rules -/
/-- e.f, an attribute of the instance -/
def tFld (K : PySem.W.Frag) (ta : TE) (f : Str) : TE := fun σ H Q => ta σ H fun x H1 => ∃ a C dx fs v, x = .ref a ∧ H1 a = some (.ins C dx fs) ∧ Cls K C ∧ NoAttr K C f ∧ fs.lookup f = some v ∧ Q v H1
/-- e.f = value -/
def sFld (K : PySem.W.Frag) (ta tv : TE) (f : Str) : TS := fun D σ H => tv σ H fun y H1 => ta σ H1 fun x H2 => ∃ a C dx fs, x = .ref a ∧ H2 a = some (.ins C dx fs) ∧ Cls K C ∧ NoAttr K C f ∧ fs.length < 1000 ∧
  D.nx σ (upd H2 a (.ins C dx (putF f y fs)))
section
variable {X : Cx} {o e value : Expr} {f : Str} {pos pos' tpos : Pos} {ta tv : TE}
end

/-! ### isinstance -/
section
variable {X : Cx} {pins : List (Addr × Obj)} {σ : St} {H : Hp} {s : Shared} {A : Around} {E : Value → Shared → Prop} {Q : Value → Shared → Prop} {c : Value} {b : Bool}
/-- the type of a value, as the fragment's deciders take it; for an instance its class -/
inductive TyOf (K : PySem.W.Frag) (H : Hp) : V → Value → Prop where
  | non : TyOf K H .non (.type "NoneType")
  | bl (x : Bool) : TyOf K H (.bl x) (.type "bool")
  | int (i : Int) : TyOf K H (.int i) (.type "int")
  | str (x : Str) : TyOf K H (.str x) (.type "str")
  | flt (x : UInt64) : TyOf K H (.flt x) (.type "float")
  | lst {a : Addr} {xs : List V} (e : H a = some (.lst xs)) : TyOf K H (.ref a) (.type "list")
  | frz {a : Addr} {o : Obj} {xs : List V} (e : H a = some (.frz o (.lst xs))) : TyOf K H (.ref a) (.type "list")
  | tup {a : Addr} {xs : List V} (e : H a = some (.tup xs)) : TyOf K H (.ref a) (.type "tuple")
  | dK {a : Addr} {kvs : List (Key × V)} (e : H a = some (.dK kvs)) : TyOf K H (.ref a) (.type "dict")
  | dT {a : Addr} {kvs : List (List Key × V)} (e : H a = some (.dT kvs)) : TyOf K H (.ref a) (.type "dict")
  | ins {a C dx : Addr} {fs : List (Str × V)} (e : H a = some (.ins C dx fs)) (cl : Cls K C) (ha : PySem.W.findIn K (.ref C) "__class__" = some (some (.builtin "object.__class__")))
      (hn : PySem.W.specialIn K (.builtin "object.__class__") "__get__" = some (some (.builtin "getset_descriptor.__get__"))) (htk : PySem.W.takesIn K (.builtin "object.__class__") = some true)
      (hm : PySem.W.mroIn K C (.type "object") = some true) : TyOf K H (.ref a) (.ref C)
/-- isinstance(x, c) for one class c, a built-in or an own one: kitOne's answer -/
theorem isinst_ok {x : V} {u t : Value} (I : Inv X pins σ H s) (rx : RelV x u) (ty : TyOf X.K H x t) (e : PySem.W.kitOne X.K t c = some b) (h : ∀ tk, Q (.bool b) { s with toks := tk }) :
    wpAny (model X.prog X.w) A (call (.builtin "isinstance") [u, c]) Q E s := by
  cases ty with
  | non => cases (show u = Value.none from rx); exact PySem.W.kia_one PySem.W.kitx_none I.kIn True.intro e (fun z => nomatch z) h
  | bl y => cases (show u = Value.bool y from rx); exact PySem.W.kia_one PySem.W.kitx_bool I.kIn True.intro e (fun z => nomatch z) h
  | int i => obtain ⟨t, q⟩ := (show ∃ t, u = Value.int i t from rx); cases q; exact PySem.W.kia_one PySem.W.kitx_int I.kIn True.intro e (fun z => nomatch z) h
  | str y => obtain ⟨t, q⟩ := (show ∃ t, u = Value.str y t from rx); cases q; exact PySem.W.kia_one PySem.W.kitx_str I.kIn True.intro e (fun z => nomatch z) h
  | flt y => obtain ⟨t, q⟩ := (show ∃ t, u = Value.float y t from rx); cases q; exact PySem.W.kia_one PySem.W.kitx_float I.kIn True.intro e (fun z => nomatch z) h
  | @lst a xs ea =>
    cases (show u = Value.ref a from rx)
    obtain ⟨_, _, n, _, h1⟩ := (show ObjOk X.prog X.w H s.heap a (.lst xs) from I.hok a _ ea)
    exact PySem.W.kia_one PySem.W.kitx_list I.kIn ⟨_, h1, rfl⟩ e (fun z => nomatch z) h
  | @frz a ob xs ea =>
    cases (show u = Value.ref a from rx)
    obtain ⟨_, _, _, n, _, h1⟩ := (show ObjOk X.prog X.w H s.heap a (.frz ob (.lst xs)) from I.hok a _ ea)
    exact PySem.W.kia_one PySem.W.kitx_list I.kIn ⟨_, h1, rfl⟩ e (fun z => nomatch z) h
  | @tup a xs ea =>
    cases (show u = Value.ref a from rx)
    obtain ⟨_, _, _, p⟩ := (show ObjOk X.prog X.w H s.heap a (.tup xs) from I.hok a _ ea)
    obtain ⟨o, h1, h2, _⟩ := p
    exact PySem.W.kia_one PySem.W.kitx_tuple I.kIn ⟨o, h1, h2⟩ e (fun z => nomatch z) h
  | @dK a kvs ea =>
    cases (show u = Value.ref a from rx)
    obtain ⟨_, _, vs, _, p⟩ := (show ObjOk X.prog X.w H s.heap a (.dK kvs) from I.hok a _ ea)
    obtain ⟨o, es, ep, h1, h2, _⟩ := p
    exact PySem.W.kia_one PySem.W.kitx_dict I.kIn ⟨o, h1, h2.1⟩ e (fun z => nomatch z) h
  | @dT a kvs ea =>
    cases (show u = Value.ref a from rx)
    obtain ⟨_, _, xs, _, o, es, ep, h1, h2, _⟩ := (show ObjOk X.prog X.w H s.heap a (.dT kvs) from I.hok a _ ea)
    exact PySem.W.kia_one PySem.W.kitx_dict I.kIn ⟨o, h1, h2.1⟩ e (fun z => nomatch z) h
  | @ins a C dx fs ea cl ha hn htk hm =>
    cases (show u = Value.ref a from rx)
    obtain ⟨mA, O, _⟩ := ins_get I.hok ea
    obtain ⟨od, J, _⟩ := O.look
    exact PySem.W.kia_one (PySem.W.kitx_own (cl.get _) cl.hd ha hn htk hm) I.kIn J e (fun z => nomatch z) h
end
end L2

namespace L2
open PySem PySem.Spec PyProof.Rows

/-! ### room -/
structure Room (k : Nat) (A : Around) : Prop where
  hd : A.handled = none
  dp : A.depth + 3 * k + 5 < recursionLimit
  un : A.units + 16 * k + 200 < cLine
theorem Room.mono {j k : Nat} {A : Around} (r : Room k A) (h : j ≤ k) : Room j A := ⟨r.hd, by have := r.dp; omega, by have := r.un; omega⟩
theorem Room.deeper {k : Nat} {A : Around} (r : Room (k + 1) A) (env : Env) : Room k (A.deeper env) :=
  ⟨r.hd, by have := r.dp; show A.depth + 1 + 3 * k + 5 < _; omega, by have := r.un; show A.units + 3 + 16 * k + 200 < _; omega⟩
theorem Room.in1 {k : Nat} {A : Around} (r : Room (k + 1) A) : Room k A.in1 :=
  ⟨r.hd, by have := r.dp; show A.depth + 3 * k + 5 < _; omega, by have := r.un; show A.units + 1 + 16 * k + 200 < _; omega⟩
theorem make_depth {A : Around} {C : Addr} {us : List Value} {kw : List (Str × Value)} : (A.under (.builtin "type.__call__" ⟨.ref C :: us, kw⟩)).depth = A.depth + 1 := by
  first | rfl | simp [Around.under, Code.weight, Code.isCreation, Code.isGuard, Code.isCaller, Code.frames, Code.isFrame, guardIds]
theorem make_units {A : Around} {C : Addr} {us : List Value} {kw : List (Str × Value)} : (A.under (.builtin "type.__call__" ⟨.ref C :: us, kw⟩)).units = A.units + 1 := by
  first | rfl | simp [Around.under, Code.cUnits, Code.frames, Code.isFrame]
theorem Room.make {k : Nat} {A : Around} (r : Room (k + 1) A) (C : Addr) (us : List Value) (kw : List (Str × Value)) : Room k (A.under (.builtin "type.__call__" ⟨.ref C :: us, kw⟩)) :=
  ⟨r.hd, by have := r.dp; rw [make_depth]; omega, by have := r.un; rw [make_units]; omega⟩
theorem Room.depth {k : Nat} {A : Around} (r : Room k A) : A.depth < recursionLimit := by have := r.dp; omega
theorem Room.units {k : Nat} {A : Around} (r : Room k A) : A.units + 64 < cLine := by have := r.un; omega
/-! ### argument lists and displays -/
def tNil : TA := fun _ H Q => Q [] H
def tCons (ta : TE) (tr : TA) : TA := fun σ H Q => ta σ H fun x H1 => tr σ H1 fun xs H2 => Q (x :: xs) H2
section
variable {X : Cx} {e : Expr} {es : List Expr} {te : TE} {t : TA} {pos : Pos}
theorem pa_nil : PA X [] tNil := fun _ _ _ _ H Q I h => Calls.spliced_nil ⟨[], H, I, .nil, h⟩
theorem pa_cons (ha : PE X e te) (hr : PA X es t) (hs : starEach (e :: es) X.env = (false, eval e X.env) :: starEach es X.env := by rfl) : PA X (e :: es) (tCons te t) := by
  intro pos pins s σ H Q I h
  rw [hs]
  show wpAny _ _ (spliced ((false, eval e X.env) :: backTo pos (starEach es X.env))) _ _ s
  refine Calls.spliced_cons (thn (ha pins s σ H _ I h) fun u s1 ⟨x, H1, I1, r1, q1⟩ => ?_)
  exact thn (hr pos pins s1 σ H1 _ I1 q1) fun us s2 ⟨xs, H2, I2, r2, q2⟩ => ⟨x :: xs, H2, I2, .cons r1 r2, q2⟩

/-- a tuple, a list of written items -/
def tTup (t : TA) : TE := fun σ H Q => t σ H fun xs H1 => xs.length ≤ sizeLine ∧ ∀ p, H1 p = none → Q (.ref p) (upd H1 p (.tup xs))
def tLst (t : TA) : TE := fun σ H Q => t σ H fun xs H1 => xs.length ≤ sizeLine ∧ ∀ p, H1 p = none → Q (.ref p) (upd H1 p (.lst xs))
end

/-! ### what a def promises -/
/-- a def's promise: the bound arguments in the parameters' order, the heap, the wanted end, the wanted exception -/
abbrev Sp := List V → Hp → VK → XK → Prop
/-- how an exception lies behind a call (file 08 gives it): the callers' frames, abstract heap and state ahead of the call, the wish, the exception, the state -/
abbrev CXT := List Env → Hp → Shared → XK → Value → Shared → Prop

/-- the state at a call -/
structure Env0 (P : Program) (w : World) (K : PySem.W.Frag) (mg : Str → Option Value) (base : Heap) (A : Around) (outer : List Env) (s : Shared) (H : Hp) : Prop where
  frames : A.frames = some outer
  mod : Mod K mg base
  bs : ∀ b o, base.get? b = some o → s.heap.get? b = some o ∧ H b = none
  bsz : base.objs.size ≤ s.heap.objs.size
  funs : s.heap.FunFrames base outer
  frf : ∀ b ∈ frs outer, H b = none
  hok : HOk P w H s.heap
  bare : AllBare s.gens
/-- a call's end -/
def CE (outer : List Env) (P : Program) (w : World) (H : Hp) (s : Shared) (Q : VK) (u : Value) (s' : Shared) : Prop :=
  ∃ v H', s'.os = s.os ∧ AllBare s'.gens ∧ Un (frs outer) [] H H' s.heap s'.heap ∧ HOk P w H' s'.heap ∧ RelV v u ∧ Q v H'
def CR (CX : CXT) (outer : List Env) (P : Program) (w : World) (H : Hp) (s : Shared) (Q : VK) (E : XK) (r : Result) (s' : Shared) : Prop :=
  match r with
  | .ok (.ret u) => CE outer P w H s Q u s'
  | .ok _ => False
  | .error e => CX outer H s E e s'
structure FnOk (P : Program) (w : World) (K : PySem.W.Frag) (mg : Str → Option Value) (base : Heap) (CX : CXT) (k : Nat) (f : Addr) (fd : FuncData) (ps : List Str) (sp : Sp) : Prop where
  len : ∀ vs H Q E, sp vs H Q E → vs.length = ps.length
  run : ∀ (A : Around) (outer : List Env) (s : Shared) (H : Hp) (args : Args) (us : List Value) (vs : List V) (Q : VK) (E : XK), Room k A → Env0 P w K mg base A outer s H → BindsTo s fd args (ps.zip us) → Vals vs us → sp vs H Q E →
    codeAny (model P w) A (.call (.ref f) args) (CR CX outer P w H s Q E) s
theorem FnOk.mono {P : Program} {w : World} {K : PySem.W.Frag} {mg : Str → Option Value} {base : Heap} {CX : CXT} {j k : Nat} {f : Addr} {fd : FuncData} {ps : List Str} {sp : Sp} (F : FnOk P w K mg base CX j f fd ps sp) (h : j ≤ k) :
    FnOk P w K mg base CX k f fd ps sp := ⟨F.len, fun A outer s H args us vs Q E hr => F.run A outer s H args us vs Q E (hr.mono h)⟩
theorem Env0.make {P : Program} {w : World} {K : PySem.W.Frag} {mg : Str → Option Value} {base : Heap} {A : Around} {outer : List Env} {s : Shared} {H : Hp} (e : Env0 P w K mg base A outer s H) (C : Addr) (us : List Value) (kw : List (Str × Value)) :
    Env0 P w K mg base (A.under (.builtin "type.__call__" ⟨.ref C :: us, kw⟩)) outer s H := ⟨by first | exact e.frames | (simpa [Around.under, Code.envs, Code.isFrame, pushEnvs] using e.frames), e.mod, e.bs, e.bsz, e.funs, e.frf, e.hok, e.bare⟩
theorem Env0.in1 {P : Program} {w : World} {K : PySem.W.Frag} {mg : Str → Option Value} {base : Heap} {A : Around} {outer : List Env} {s : Shared} {H : Hp} (e : Env0 P w K mg base A outer s H) :
    Env0 P w K mg base A.in1 outer s H := ⟨e.frames, e.mod, e.bs, e.bsz, e.funs, e.frf, e.hok, e.bare⟩

section
variable {X : Cx} {pins : List (Addr × Obj)} {σ : St} {H : Hp} {s s' : Shared}
/-- from a body: what a callee wants -/
theorem Inv.env0 (I : Inv X pins σ H s) : Env0 X.prog X.w X.K X.mg X.base X.A X.stack s H :=
  ⟨I.ok.frames, I.ok.mod, I.bs, Nat.le_trans I.ok.bsz I.sz, I.stack, I.stkFree, I.hok, I.bare⟩
/-- behind a call -/
theorem Inv.after {Q : VK} {u : Value} (I : Inv X pins σ H s) (h : CE X.stack X.prog X.w H s Q u s') : EP X pins σ Q u s' := by
  obtain ⟨v, H', os, bare, un, hok, r, q⟩ := h
  obtain ⟨hh, g, d, t, os'⟩ := s'
  obtain rfl : os' = s.os := os
  exact ⟨v, H', I.call (h' := hh) (g' := g) (d' := d) (t' := t) (ch := []) un hok bare (fun b z => absurd z (by simp)), r, q⟩
end

/-! ### calls -/
/-- f(..): the written arguments, then the defaults dvs; E: what is wanted of an exception -/
def tCall (sp : Sp) (dvs : List V) (E : XK) (t : TA) : TE := fun σ H Q => t σ H fun vs H1 => sp (vs ++ dvs) H1 Q E
/-- o.m(..) of an instance of the class at C -/
def tMeth (C : Addr) (m : Str) (sp : Sp) (dvs : List V) (E : XK) (ta : TE) (t : TA) : TE := fun σ H Q => ta σ H fun x H1 => ∃ a dx fs, x = .ref a ∧ H1 a = some (.ins C dx fs) ∧ fs.lookup m = none ∧
  t σ H1 fun vs H2 => sp (x :: (vs ++ dvs)) H2 Q E
/-- C(..): a new instance and its dict, then __init__ -/
def tMake (C : Addr) (sp : Sp) (dvs : List V) (E : XK) (t : TA) : TE := fun σ H Q => t σ H fun vs H1 => ∀ x dx, H1 x = none → H1 dx = none → dx ≠ x →
  sp (.ref x :: (vs ++ dvs)) (upd (upd H1 dx (.own x)) x (.ins C dx [])) (fun v H2 => v = .non ∧ Q (.ref x) H2) E

/-- how the parameters are bound: us the positional arguments, kw the keywords' values by name, ds the defaults that fill up -/
def Binds (K : PySem.W.Frag) (fd : FuncData) (ps : List Str) (ds : List Value) : Prop :=
  ∀ (s : Shared) (us : List Value), K.In s.heap → (us ++ ds).length = ps.length → BindsTo s fd ⟨us, []⟩ (ps.zip (us ++ ds))
/-- every parameter is given -/
theorem Binds.all {K : PySem.W.Frag} {fd : FuncData} {ps : List Str} (h : ∀ us : List Value, us.length = ps.length → bindArgs fd ⟨us, []⟩ = pure (ps.zip us)) : Binds K fd ps [] := fun s us _ hl => by
  rw [List.append_nil] at hl ⊢
  exact .of_eq (h us hl)

/-- an exception of a callee reaches what this body wants of exceptions -/
def Passes (CX : CXT) (X : Cx) (E : XK) : Prop := ∀ (pins : List (Addr × Obj)) (σ : St) (H : Hp) (s : Shared) (e : Value) (s' : Shared), Inv X pins σ H s → CX X.stack H s E e s' → X.xe e s'

section
variable {X : Cx} {CX : CXT} {k : Nat} {f C : Addr} {fd : FuncData} {ps : List Str} {sp : Sp} {dvs : List V} {ds : List Value} {E : XK} {x m : Str} {p pos apos : Pos} {e o : Expr} {es : List Expr} {ta : TE} {t : TA}

/-- the callee runs -/
theorem run_fn {pins : List (Addr × Obj)} {σ : St} {H : Hp} {s : Shared} {Q : VK} {us : List Value} {vs : List V} (F : FnOk X.prog X.w X.K X.mg X.base CX k f fd ps sp) (hr : Room k X.A) (hb : Binds X.K fd ps ds) (hd : Vals dvs ds) (hx : Passes CX X E)
    (I : Inv X pins σ H s) (r : Vals vs us) (h : sp (vs ++ dvs) H Q E) : wpAny (model X.prog X.w) X.A (call (.ref f) us) (EP X pins σ Q) X.xe s := by
  have r2 : Vals (vs ++ dvs) (us ++ ds) := r.append hd
  have hl : (us ++ ds).length = ps.length := by rw [← r2.length]; exact F.len _ _ _ _ h
  refine wpAny_call (codeAny_mono (F.run X.A X.stack s H ⟨us, []⟩ (us ++ ds) (vs ++ dvs) Q E hr I.env0 (hb s us I.kIn hl) r2 h) fun r s' hq => ?_)
  cases r with
  | error e => exact hx pins σ H s e s' I hq
  | ok fl =>
    cases fl with
    | ret u => exact I.after hq
    | next => exact False.elim hq
    | brk => exact False.elim hq
    | cont => exact False.elim hq

theorem pe_call (F : FnOk X.prog X.w X.K X.mg X.base CX k f fd ps sp) (hr : Room k X.A) (hg : Gl X x) (hm : X.mg x = some (.ref f)) (hk : PySem.W.keepIn X.K (.ref f) = true) (hb : Binds X.K fd ps ds) (hd : Vals dvs ds) (hx : Passes CX X E)
    (ha : PA X (e :: es) t) (hdb : (x == ("__debug__" : Str)) = false := by decide) (he : starEach (e :: es) X.env = (false, eval e X.env) :: starEach es X.env := by rfl) (hpl : (backTo pos (starEach es X.env)).any (·.1) = false := by rfl) :
    PE X (.Call (.Name x p) (e :: es) [] pos) (tCall sp dvs E t) := by
  intro pins s σ H Q I h
  refine wpAny_Call_Name_kw (ld_glob I hg hm ?_ hdb)
  refine PySem.W.callWith_K (h₀ := X.base) I.ok.mod.kin hk (thn (ha pos pins s σ H _ I h) fun us s1 ⟨vs, H1, I1, r, q⟩ => ⟨I1.kIn, ?_⟩) he hpl
  exact run_fn F hr hb hd hx I1 r q
/-- what a class must have to be made -/
structure Mk (K : PySem.W.Frag) (C f : Addr) : Prop where
  makes : PySem.W.makesIn K C = true
  init : PySem.W.findIn K (.ref C) "__init__" = some (some (.ref f))
  fn : PySem.W.isFn K (.ref f) = true
  kp : PySem.W.keepIn K (.ref C) = true

end

/-! ### keywords -/
section
variable {X : Cx} {CX : CXT} {k : Nat} {f C : Addr} {fd : FuncData} {ps ks : List Str} {sp : Sp} {E : XK} {x m : Str} {p pos apos kpos : Pos} {e o : Expr} {es : List Expr} {kws : List Keyword} {te ta : TE} {t tk : TA} {nm : Option Str}
/-- how a call with keywords binds: g puts the positional values us and the keywords' values ws (names ks) in the parameters' order, defaults among them -/
structure KBinds (K : PySem.W.Frag) (fd : FuncData) (ps ks : List Str) (g : List Value → List Value → List Value) (gV : List V → List V → List V) : Prop where
  to : ∀ (s : Shared) (us ws : List Value), K.In s.heap → (g us ws).length = ps.length → BindsTo s fd ⟨us, ks.zip ws⟩ (ps.zip (g us ws))
  rel : ∀ {vs : List V} {us : List Value} {zs : List V} {ws : List Value}, Vals vs us → Vals zs ws → Vals (gV vs zs) (g us ws)
variable {g : List Value → List Value → List Value} {gV : List V → List V → List V}
end

/-! ### a def's body keeps its promise -/
/-- names: the parameters first -/
structure FnScope (N P : List Str) (sc : Scope) : Prop where
  kind : sc.kind = .function
  co : sc.isCoroutine = false
  gen : sc.isGenerator = false
  nd : N.Nodup
  pre : N.take P.length = P
  par : ∀ x ∈ P, sc.names.lookup x = some .local ∨ sc.names.lookup x = some .cell
  nofree : ∀ y ∈ sc.names, y.2 ≠ .free

theorem bindL_out {kindOf : Str → Option NameKind} {x : Str} : ∀ {binds : List (Str × Value)} {m : Str → Option Value}, (∀ v, (x, v) ∉ binds) → bindL kindOf binds m x = m x
  | [], _, _ => rfl
  | (n, v) :: r, m, h => by
    unfold bindL
    rw [bindL_out fun w hw => h w (List.mem_cons_of_mem _ hw)]
    split
    · have : x ≠ n := by rintro rfl; exact h v List.mem_cons_self
      simp [this]
    · rfl
theorem bindC_out {kindOf : Str → Option NameKind} {x : Str} : ∀ {binds : List (Str × Value)} {m : Str → Option Value}, (∀ v, (x, v) ∉ binds) → bindC kindOf binds m x = m x
  | [], _, _ => rfl
  | (n, v) :: r, m, h => by
    unfold bindC
    rw [bindC_out fun w hw => h w (List.mem_cons_of_mem _ hw)]
    split
    · rfl
    · have : x ≠ n := by rintro rfl; exact h v List.mem_cons_self
      simp [this]
theorem bindL_get {kindOf : Str → Option NameKind} {x : Str} {v : Value} : ∀ {P : List Str} {vs : List Value} {i : Nat} {m : Str → Option Value}, P.Nodup → P[i]? = some x → vs[i]? = some v → kindOf x = some .local →
    bindL kindOf (P.zip vs) m x = some v
  | [], _, _, _, _, h, _, _ => by simp at h
  | _ :: _, [], _, _, _, _, h, _ => by simp at h
  | p :: P, w :: vs, 0, m, nd, h1, h2, hk => by
    simp at h1 h2; subst h1; subst h2
    show bindL kindOf ((p, w) :: P.zip vs) m p = _
    unfold bindL
    rw [bindL_out fun v hv => (List.nodup_cons.mp nd).1 (List.of_mem_zip hv).1, if_pos hk]
    simp
  | p :: P, w :: vs, i + 1, m, nd, h1, h2, hk => by
    show bindL kindOf ((p, w) :: P.zip vs) m x = _
    unfold bindL
    exact bindL_get (i := i) (List.nodup_cons.mp nd).2 (by simpa using h1) (by simpa using h2) hk
theorem bindC_get {kindOf : Str → Option NameKind} {x : Str} {v : Value} : ∀ {P : List Str} {vs : List Value} {i : Nat} {m : Str → Option Value}, P.Nodup → P[i]? = some x → vs[i]? = some v → kindOf x ≠ some .local →
    bindC kindOf (P.zip vs) m x = some v
  | [], _, _, _, _, h, _, _ => by simp at h
  | _ :: _, [], _, _, _, _, h, _ => by simp at h
  | p :: P, w :: vs, 0, m, nd, h1, h2, hk => by
    simp at h1 h2; subst h1; subst h2
    show bindC kindOf ((p, w) :: P.zip vs) m p = _
    unfold bindC
    rw [bindC_out fun v hv => (List.nodup_cons.mp nd).1 (List.of_mem_zip hv).1, if_neg hk]
    simp
  | p :: P, w :: vs, i + 1, m, nd, h1, h2, hk => by
    show bindC kindOf ((p, w) :: P.zip vs) m x = _
    unfold bindC
    exact bindC_get (i := i) (List.nodup_cons.mp nd).2 (by simpa using h1) (by simpa using h2) hk

/-- the names' values at the entry -/
def start (N : List Str) (vs : List V) : St := vs.map some ++ List.replicate (N.length - vs.length) none

/-- the context of a def's body, at its entry; an exception leaves the frame, then lies as CX says -/
def cxOf (CX : CXT) (P : Program) (w : World) (K : PySem.W.Frag) (mg : Str → Option Value) (base : Heap) (N : List Str) (qual : Str) (scope : Scope) (f : Addr) (cd : Value) (A : Around) (outer : List Env) (s : Shared) (H : Hp) (E : XK) : Cx where
  prog := P
  w := w
  K := K
  mg := mg
  base := base
  A := A.deeper (envOfC qual scope s.heap.objs.size f cd)
  N := N
  s₀ := s
  H₀ := H
  env := envOfC qual scope s.heap.objs.size f cd
  outer := outer
  stack := envOfC qual scope s.heap.objs.size f cd :: outer
  ex := []
  calm := true
  fn := fun _ => true
  pn := []
  xe := fun e s' => wpAny (model P w) (A.deeper (envOfC qual scope s.heap.objs.size f cd)) (leaving (envOfC qual scope s.heap.objs.size f cd) e) (fun _ s'' => CX outer H s E e s'') (fun e' s'' => CX outer H s E e' s'') s'

theorem cell_has {sc : Scope} {n : Nat} {x : Str} (h : sc.names.lookup x = some .cell) : ∃ c, (cellsFrom n sc.names []).lookup x = some c := by
  have q := PySem.W.cellsFrom_some sc.names n [] (.inl h)
  exact Option.isSome_iff_exists.mp q

theorem inv_start {CX : CXT} {P : Program} {w : World} {K : PySem.W.Frag} {mg : Str → Option Value} {base : Heap} {N ps : List Str} {qual : Str} {scope : Scope} {f : Addr} {cd : Value} {A : Around} {outer : List Env} {s s1 : Shared} {H : Hp} {E : XK} {us : List Value} {vs : List V}
    (S : FnScope N ps scope) (hd : A.handled = none) (e0 : Env0 P w K mg base A outer s H) (hl : vs.length = ps.length) (r : Vals vs us)
    (x : InCallC s s.heap.objs.size (bindL (envOfC qual scope s.heap.objs.size f cd).kindOf (ps.zip us) fun _ => none) (cellsFrom (s.heap.objs.size + 1) scope.names []) (bindC (envOfC qual scope s.heap.objs.size f cd).kindOf (ps.zip us) fun _ => none) s1) :
    Inv (cxOf CX P w K mg base N qual scope f cd A outer s H E) [] (start N vs) H s1 := by
  have hpl : ps.length ≤ N.length := by have := congrArg List.length S.pre; rw [List.length_take] at this; omega
  obtain ⟨h1, tk, rfl, hk⟩ := x.done
  have noA : ∀ b : Addr, b ∉ (cxOf CX P w K mg base N qual scope f cd A outer s H E).ex := fun b z => absurd (show b ∈ ([] : List Addr) from z) (by simp)
  refine ⟨⟨e0.mod, S.kind, rfl, rfl, Nat.le_refl _, fun y z c h1 h2 => ?_, fun y hy => ?_, fun y c _ h => ?_, fun _ => hd, Around.frames_deeper e0.frames, .inr ⟨rfl, rfl⟩, fun b z => absurd z (noA b), e0.bs, e0.bsz, fun b _ _ => noA b, fun b z => absurd z (noA b), e0.funs, e0.frf⟩,
    rfl, e0.bare, Un.kept hk, ⟨_, x.toInCall.ns, fun i y v h1 h2 h3 => ?_⟩, fun y c h => ⟨_, x.cell y c h⟩, e0.hok.fresh (Nat.le_refl _), fun y c h => ?_, fun p hp => absurd (show p ∈ ([] : List (Addr × Obj)) from hp) (by simp), e0.hok.kept hk, ?_⟩
  · exact name_of_addr x.apart (PySem.mem_of_lookup h1) (PySem.mem_of_lookup h2)
  · have hy : scope.names.lookup y = some .cell ∨ scope.names.lookup y = some .free := hy
    rcases hy with hy | hy
    · exact cell_has hy
    · exact absurd rfl (S.nofree _ (PySem.mem_of_lookup hy))
  · exact Nat.le_of_lt (x.above y c (PySem.mem_of_lookup h))
  · have hi : i < vs.length := by
      unfold start at h2
      by_cases hi : i < vs.length
      · exact hi
      · rw [List.getElem?_append_right (by simpa using hi)] at h2
        rw [List.getElem?_replicate] at h2
        split at h2 <;> cases h2
    have ha : vs[i]? = some v := by
      unfold start at h2
      rw [List.getElem?_append_left (by simpa using hi), List.getElem?_map] at h2
      cases e : vs[i]? with
      | none => rw [e] at h2; cases h2
      | some a => rw [e] at h2; cases h2; rfl
    obtain ⟨u, hu, rv⟩ := r.get ha
    have hp : ps[i]? = some y := by
      rw [← S.pre, List.getElem?_take_of_lt (by omega)]; exact h1
    have ndP : ps.Nodup := by rw [← S.pre]; exact S.nd.sublist (List.take_sublist _ _)
    refine ⟨u, rv, ?_⟩
    rcases S.par y (List.mem_of_getElem? hp) with k | k
    · exact .inl ⟨k, bindL_get ndP hp hu k⟩
    · obtain ⟨c, e⟩ := cell_has (n := s.heap.objs.size + 1) k
      refine .inr ⟨.inl k, c, e, ?_⟩
      have q := x.cell y c e
      rw [bindC_get ndP hp hu (by show scope.names.lookup y ≠ _; rw [k]; decide)] at q
      exact q
  · exact e0.hok.fresh (Nat.le_of_lt (x.above y c (PySem.mem_of_lookup h)))
  · unfold start
    show _ = N.length
    rw [List.length_append, List.length_map, List.length_replicate]
    omega

/-- THE RULE: a def (or a method) of the text, by its body. The body's reading t is chosen for each entry; it is run at the parameters' values -/
theorem fn_of {CX : CXT} {P : Program} {w : World} {K : PySem.W.Frag} {mg : Str → Option Value} {base : Heap} {k : Nat} {f : Addr} {name qual : Str} {params : Arguments} {body : List Stmt} {scope : Scope} {dV kV doc pm cdv ct oc : Value} {an od : Option Addr}
    {osl : Array (Option Value)} {N ps : List Str} {sp : Sp} (lk : K.lookup f = some ⟨oc, od, .func (PySem.W.fnOf name qual params body scope dV kV doc pm an cdv ct), osl⟩) (hcd : PySem.W.codeIn K cdv qual = true) (S : FnScope N ps scope)
    (len : ∀ vs H Q E, sp vs H Q E → vs.length = ps.length)
    (hbody : ∀ (A : Around) (outer : List Env) (s : Shared) (H : Hp) (vs : List V) (Q : VK) (E : XK), Room k (A.deeper (envOfC qual scope s.heap.objs.size f cdv)) → sp vs H Q E →
      ∃ t, PSs (cxOf CX P w K mg base N qual scope f cdv A outer s H E) body t ∧ t { nx := fun _ H' => Q .non H', rt := Q } (start N vs) H) :
    FnOk P w K mg base CX (k + 1) f (PySem.W.fnOf name qual params body scope dV kV doc pm an cdv ct) ps sp := by
  refine ⟨len, fun A outer s H args us vs Q E hr e0 hb r hsp => ?_⟩
  have hl := len _ _ _ _ hsp
  have KX : K.In s.heap := e0.mod.kin.keeps fun b o e => (e0.bs b o e).1
  have lim : s.heap.NoLimit := e0.mod.nolimit.keeps fun b o e => (e0.bs b o e).1
  have hkind : ∀ y ∈ ps.zip us, scope.names.lookup y.1 = some .local ∨ (scope.names.lookup y.1 = some .cell ∧ ((cellsFrom (s.heap.objs.size + 1) scope.names []).lookup y.1).isSome = true) := fun ⟨n, v⟩ hy => by
    rcases S.par n (List.of_mem_zip hy).1 with q | q
    · exact .inl q
    · exact .inr ⟨q, PySem.W.cellsFrom_some _ _ _ (.inl q)⟩
  refine codeAny_call_function hr.depth (KX _ _ lk) rfl S.co S.gen rfl (PySem.W.codeRec_of KX hcd) (hb _ _ _ _ ?_)
  refine wpAny_newFunctionEnv_cells S.kind hkind fun env he s1 x => ?_
  subst he
  refine ⟨lim.keeps x.toInCall.keep, codeAny_func ?_⟩
  obtain ⟨t, ht, hq⟩ := hbody A outer s H vs Q E (hr.deeper _) hsp
  have I : Inv (cxOf CX P w K mg base N qual scope f cdv A outer s H E) [] (start N vs) H s1 := inv_start S hr.hd e0 hl r x
  refine wpAny_mono (ht [] s1 (start N vs) H _ I hq) (fun fl s' hs => ?_) fun e s' hs => hs
  have fin : ∀ {σ' : St} {H' : Hp} {v : V} {u : Value}, Inv (cxOf CX P w K mg base N qual scope f cdv A outer s H E) [] σ' H' s' → RelV v u → Q v H' → CE outer P w H s Q u s' :=
    fun {σ' H' v u} J rv q => ⟨v, H', J.os, J.bare, J.base, J.hok, rv, q⟩
  cases fl with
  | ret u =>
    obtain ⟨v, σ', H', J, rv, q⟩ := hs
    exact fin J rv q
  | next =>
    obtain ⟨σ', H', J, q⟩ := hs
    exact fin (v := V.non) (u := Value.none) J rfl q
  | brk =>
    obtain ⟨_, _, _, q⟩ := hs
    exact False.elim q
  | cont =>
    obtain ⟨_, _, _, q⟩ := hs
    exact False.elim q
end L2

namespace L2
open PySem PySem.Spec PyProof.Rows
section
variable {X : Cx} {x : Str} {p pos : Pos} {e : Expr} {es : List Expr} {t : TA} {id T : String} {r : List V → Hp → VK → Prop}

def tCB (r : List V → Hp → VK → Prop) (t : TA) : TE := fun σ H Q => t σ H fun vs H1 => r vs H1 Q
/-- f(e, ..), f a built-in function -/
theorem pe_callB (hc : CallR X (.builtin id) r) (hg : Gl X x) (hm : X.mg x = none) (hv : bootBuiltins x = some (.builtin id)) (ha : PA X (e :: es) t) (hn : x ≠ "__name__" := by decide) (hdb : (x == ("__debug__" : Str)) = false := by decide)
    (he : starEach (e :: es) X.env = (false, eval e X.env) :: starEach es X.env := by rfl) (hpl : (backTo pos (starEach es X.env)).any (·.1) = false := by rfl) : PE X (.Call (.Name x p) (e :: es) [] pos) (tCB r t) := by
  intro pins s σ H Q I h
  refine wpAny_Call_Name_kw (ld_blt I hg hm hv ?_ hn hdb)
  exact PyProof.Rows.callWith_builtin1 (thn (ha pos pins s σ H _ I h) fun us s1 ⟨vs, H1, I1, r1, q1⟩ => hc pins s1 σ H1 vs us Q I1 r1 q1) he hpl
/-- T(e, ..), T a built-in type -/
theorem pe_callTy (hc : CallR X (.type T) r) (hg : Gl X x) (hm : X.mg x = none) (hv : bootBuiltins x = some (.type T)) (ha : PA X (e :: es) t) (hn : x ≠ "__name__" := by decide) (hdb : (x == ("__debug__" : Str)) = false := by decide)
    (he : starEach (e :: es) X.env = (false, eval e X.env) :: starEach es X.env := by rfl) (hpl : (backTo pos (starEach es X.env)).any (·.1) = false := by rfl) : PE X (.Call (.Name x p) (e :: es) [] pos) (tCB r t) := by
  intro pins s σ H Q I h
  refine wpAny_Call_Name_kw (ld_blt I hg hm hv ?_ hn hdb)
  exact PyProof.Rows.callWith_type1 (thn (ha pos pins s σ H _ I h) fun us s1 ⟨vs, H1, I1, r1, q1⟩ => hc pins s1 σ H1 vs us Q I1 r1 q1) he hpl
end
end L2

namespace HT
open PySem PyProof.Rows

section
open PySem.SeqAt
open PySem.AutoSeq1 (wpAny_loadPart')
open PySem.MeetsSeq PySem.MeetsSeq2 PySem.MeetsSeq3

end

section
variable {prog : Program} {w : World} {A : Around} {E : Value → Shared → Prop} {s : Shared}

/-! ### t[a:b], not the whole -/
/-- a slice's bound as a place among n (d where it is left out) -/
def sIx (n d : Nat) : Option Int → Nat
  | none => d
  | some v => if v < 0 then (v + (n : Int)).toNat else min v.toNat n
theorem sIx_none (n d : Nat) : sIx n d none = d := rfl
theorem sIx_nat (n d k : Nat) : sIx n d (some (k : Int)) = min k n := by
  show (if (k : Int) < 0 then ((k : Int) + (n : Int)).toNat else min (k : Int).toNat n) = min k n
  rw [if_neg (by omega), Int.toNat_natCast]
end
end HT

namespace L2
open PySem PySem.Spec PyProof.Rows

/-! ### the parts of a slice -/
abbrev TO := St → Hp → (Option Int → Hp → Prop) → Prop
/-- a slice's part (left out, or an int) -/
def PO (X : Cx) (e : Option Expr) (t : TO) : Prop :=
  ∀ (pins : List (Addr × Obj)) (s : Shared) (σ : St) (H : Hp) (Q : Option Int → Hp → Prop), Inv X pins σ H s → t σ H Q →
    wpAny (model X.prog X.w) X.A (evalPart e X.env) (fun u s' => ∃ o H', Inv X pins σ H' s' ∧ IsPart u o ∧ Q o H') X.xe s
def tNoPart : TO := fun _ H Q => Q none H
def tPart (t : TE) : TO := fun σ H Q => t σ H fun x H1 => ∃ i, x = .int i ∧ Q (some i) H1

section
variable {X : Cx} {e : Expr} {te : TE} {lo hi : Option Expr} {tl th : TO} {pos p2 : Pos}

theorem po_none : PO X none tNoPart := by
  intro pins s σ H Q I h
  rw [evalPart_none]
  exact wpAny_pure ⟨none, H, I, .none, h⟩
theorem po_some (h : PE X e te) : PO X (some e) (tPart te) := by
  intro pins s σ H Q I hw
  rw [evalPart_some]
  refine thn (h pins s σ H _ I hw) fun u s1 ⟨x, H1, I1, r1, q1⟩ => ?_
  obtain ⟨i, rfl, q⟩ := q1
  obtain ⟨t, rfl⟩ := r1
  exact ⟨some i, H1, I1, .int i t, q⟩

/-- what a slice of a value is, by values: the slice object stands at sl -/
def SlR (X : Cx) (r : V → Option Int → Option Int → Hp → VK → Prop) : Prop :=
  ∀ (pins : List (Addr × Obj)) (s : Shared) (σ : St) (H : Hp) (x : V) (v vl vu : Value) (lo hi : Option Int) (sl : Addr) (Q : VK), Inv X pins σ H s → RelV x v → s.heap.IsSliceOf sl vl vu .none → IsPart vl lo → IsPart vu hi → r x lo hi H Q →
    ∃ T id, typeLookup (.type T) "__getitem__" = pure (some (.builtin id)) ∧ s.TypeIs v T ∧ wpAny (model X.prog X.w) X.A (getItem v (.ref sl)) (EP X pins σ Q) X.xe s
theorem SlR.or {r r' : V → Option Int → Option Int → Hp → VK → Prop} (h : SlR X r) (h' : SlR X r') : SlR X (fun x lo hi H Q => r x lo hi H Q ∨ r' x lo hi H Q) := by
  intro pins s σ H x v vl vu lo hi sl Q I rx hs pl pu q
  rcases q with q | q
  · exact h pins s σ H x v vl vu lo hi sl Q I rx hs pl pu q
  · exact h' pins s σ H x v vl vu lo hi sl Q I rx hs pl pu q
def tSl (r : V → Option Int → Option Int → Hp → VK → Prop) (te : TE) (tl th : TO) : TE := fun σ H Q => te σ H fun x H1 => tl σ H1 fun l H2 => th σ H2 fun u H3 => r x l u H3 Q
/-- a[lo:hi], any a -/
theorem pe_slice {r : V → Option Int → Option Int → Hp → VK → Prop} (hr : SlR X r) (he : PE X e te) (hl : PO X lo tl) (hu : PO X hi th) : PE X (.Subscript e (.Slice lo hi none p2) pos) (tSl r te tl th) := by
  intro pins s σ H Q I h
  refine Subscript_ (thn (he pins s σ H _ I h) fun v s1 ⟨x, H1, I1, r1, q1⟩ => ?_)
  refine wpAny_Slice (thn (hl pins s1 σ H1 _ I1 q1) fun vl s2 ⟨l, H2, I2, pl, q2⟩ => thn (hu pins s2 σ H2 _ I2 q2) fun vu s3 ⟨u, H3, I3, pu, q3⟩ => ?_)
  rw [evalPart_none]
  refine wpAny_pure ?_
  have I4 : Inv X pins σ H3 { s3 with heap := s3.heap.push { cls := .type "slice", data := .fields #[vl, vu, .none] } } := I3.kept (t' := s3.toks) fun b ob q => Heap.get?_push_of_some _ q
  obtain ⟨T, id, hT, ht, hg⟩ := hr pins { s3 with heap := s3.heap.push { cls := .type "slice", data := .fields #[vl, vu, .none] } } σ H3 x v vl vu l u s3.heap.objs.size Q I4 r1 (Heap.IsSliceOf.new ..) pl pu q3
  show wpAny (model X.prog X.w) X.A (subscriptTail e (.Slice lo hi none p2) v (.ref s3.heap.objs.size)) (EP X pins σ Q) X.xe { s3 with heap := s3.heap.push { cls := .type "slice", data := .fields #[vl, vu, .none] } }
  exact tail_any (ops := [.ref s3.heap.objs.size, v]) ht hT hg (by with_unfolding_all rfl)

/-- the items of xs[lo:hi] -/
def cutV (xs : List V) (lo hi : Option Int) : List V := (xs.drop (HT.sIx xs.length 0 lo)).take (HT.sIx xs.length xs.length hi - HT.sIx xs.length 0 lo)
theorem cutV_length (xs : List V) (lo hi : Option Int) : (cutV xs lo hi).length ≤ xs.length := by
  unfold cutV
  rw [List.length_take, List.length_drop]
  omega
/-! ### t < u, t + u -/
end
end L2

namespace L2
open PySem PySem.Spec PyProof.Rows

/-! ### places -/
/-- the place that an index of any sign means -/
def ixN (n : Nat) (i : Int) : Option Nat := if 0 ≤ i then (if i < n then some i.toNat else none) else if -(n : Int) ≤ i then some (i + n).toNat else none
def atI {α : Type} (xs : List α) (i : Int) : Option α := (ixN xs.length i).bind fun j => xs[j]?
theorem ixN_seq {n : Nat} {i : Int} {j : Nat} (h : ixN n i = some j) : seqIndex? i n = some j ∧ j < n ∧ -(n : Int) ≤ i ∧ i < n := by
  unfold ixN at h
  by_cases h0 : 0 ≤ i
  · rw [if_pos h0] at h
    by_cases h1 : i < n
    · rw [if_pos h1] at h
      have e : i.toNat = j := Option.some.inj h
      exact ⟨by rw [seqIndex_of h0 h1, e], by omega, by omega, h1⟩
    · rw [if_neg h1] at h; cases h
  · rw [if_neg h0] at h
    by_cases h1 : -(n : Int) ≤ i
    · rw [if_pos h1] at h
      have e : (i + n).toNat = j := Option.some.inj h
      exact ⟨by rw [seqIndex_neg (by omega) h1, e], by omega, h1, by omega⟩
    · rw [if_neg h1] at h; cases h
theorem atI_get {α : Type} {xs : List α} {i : Int} {v : α} (h : atI xs i = some v) : ∃ j, seqIndex? i xs.length = some j ∧ xs[j]? = some v ∧ j < xs.length ∧ -(xs.length : Int) ≤ i ∧ i < xs.length := by
  unfold atI at h
  cases e : ixN xs.length i with
  | none => rw [e] at h; cases h
  | some j =>
    rw [e] at h
    obtain ⟨h1, h2, h3, h4⟩ := ixN_seq e
    exact ⟨j, h1, h, h2, h3, h4⟩
/-! ### what may be subscripted -/
/-- what stands as an index of a plain subscript -/
def PlainIx (b : Expr) : Prop := ∀ o i, subscripted b false o i = operate [o, i] (getItem o i)
/-- a subscript by values -/
def IxR (X : Cx) (r : R2) : Prop :=
  ∀ (value slice : Expr) (pins : List (Addr × Obj)) (s : Shared) (σ : St) (H : Hp) (x y : V) (v u : Value) (Q : VK), Inv X pins σ H s → RelV x v → RelV y u → r x y H Q →
    subscripted slice false v u = operate [v, u] (getItem v u) → wpAny (model X.prog X.w) X.A (subscriptTail value slice v u) (EP X pins σ Q) X.xe s
/-- a call of a builtin's method by values: the receiver, the arguments -/
def MtR (X : Cx) (id : String) (r : V → List V → Hp → VK → Prop) : Prop :=
  ∀ (pins : List (Addr × Obj)) (s : Shared) (σ : St) (H : Hp) (x : V) (xs : List V) (v : Value) (us : List Value) (Q : VK), Inv X pins σ H s → RelV x v → Vals xs us → r x xs H Q →
    wpAny (model X.prog X.w) X.A (call (.builtin id) (v :: us)) (EP X pins σ Q) X.xe s
section
variable {X : Cx} {a b : Expr} {ta tb : TE} {pos : Pos}
theorem IxR.or {r r' : R2} (h : IxR X r) (h' : IxR X r') : IxR X (fun x y H Q => r x y H Q ∨ r' x y H Q) := by
  intro value slice pins s σ H x y v u Q I rx ry q hs
  rcases q with q | q
  · exact h value slice pins s σ H x y v u Q I rx ry q hs
  · exact h' value slice pins s σ H x y v u Q I rx ry q hs
theorem MtR.or {id : String} {r r' : V → List V → Hp → VK → Prop} (h : MtR X id r) (h' : MtR X id r') : MtR X id (fun x xs H Q => r x xs H Q ∨ r' x xs H Q) := by
  intro pins s σ H x xs v us Q I rx rs q
  rcases q with q | q
  · exact h pins s σ H x xs v us Q I rx rs q
  · exact h' pins s σ H x xs v us Q I rx rs q
/-- a[b] -/
theorem pe_ix {r : R2} (hr : IxR X r) (ha : PE X a ta) (hb : PE X b tb) (hs : PlainIx b) : PE X (.Subscript a b pos) (tOp r ta tb) := by
  intro pins s σ H Q I h
  exact Subscript_ (binT ha hb I h fun v u s2 x y H2 I2 rx ry q => hr a b pins s2 σ H2 x y v u Q I2 rx ry q (hs _ _))

def rIxL (K : PySem.W.Frag) : R2 := fun x y H Q => ∃ p xs i v, x = .ref p ∧ y = .int i ∧ SqL K H p xs ∧ atI xs i = some v ∧ Q v H
def rIxT (K : PySem.W.Frag) : R2 := fun x y H Q => ∃ p xs i v, x = .ref p ∧ y = .int i ∧ SqT K H p xs ∧ atI xs i = some v ∧ Q v H
def rIxS : R2 := fun x y H Q => ∃ z i c, x = .str z ∧ y = .int i ∧ z.length ≤ sizeLine ∧ atI z.cps.toList i = some c ∧ Q (.str ⟨#[c]⟩) H
theorem ix_list : IxR X (rIxL X.K) := by
  intro value slice pins s σ H x y v u Q I rx ry h hs
  obtain ⟨p, xs, i, z, rfl, rfl, hq, he, q⟩ := h
  cases rx
  obtain ⟨t, rfl⟩ := ry
  obtain ⟨its, r, pl, hz⟩ := I.list hq
  obtain ⟨j, h1, h2, h3, h4, h5⟩ := atI_get he
  obtain ⟨w, ew, rw'⟩ := r.get h2
  have hl := r.length
  have hn := line63
  have fin : EP X pins σ Q w s := ⟨z, H, I, rw', q⟩
  by_cases h0 : 0 ≤ i
  · have hj : i.toNat = j := by
      rw [seqIndex_of h0 h5] at h1
      exact Option.some.inj h1
    exact item_listR pl.isList h0 (by omega) (by rw [hj]; simpa using ew) fin hs
  · have hj : (i + (its.toArray.size : Int)).toNat = j := by
      rw [seqIndex_neg (by omega) h4] at h1
      rw [List.size_toArray, ← hl]
      exact Option.some.inj h1
    exact subscriptTail_builtinR (x := w) pl.isList.typeIs slot_list_getitem.lookup
      (wpAny_getItem_list_neg (Q := fun r s' => r = w ∧ EP X pins σ Q r s') pl.isList (by omega) (by rw [List.size_toArray] <;> omega) (by omega) (by rw [hj]; simpa using ew) ⟨rfl, fin⟩) hs
theorem ix_tup : IxR X (rIxT X.K) := by
  intro value slice pins s σ H x y v u Q I rx ry h hs
  obtain ⟨p, xs, i, z, rfl, rfl, hq, he, q⟩ := h
  cases rx
  obtain ⟨t, rfl⟩ := ry
  obtain ⟨its, r, pl, hz⟩ := I.tuple hq
  obtain ⟨j, h1, h2, h3, h4, h5⟩ := atI_get he
  obtain ⟨w, ew, rw'⟩ := r.get h2
  have hl := r.length
  have hn := line63
  have fin : EP X pins σ Q w s := ⟨z, H, I, rw', q⟩
  exact subscriptTail_builtinR (x := w) pl.typeIs slot_tuple_getitem.lookup
    (getItem_tuple (j := j) (Q := fun r s' => r = w ∧ EP X pins σ Q r s') pl (by omega) (by omega) (by rw [List.size_toArray, ← hl]; exact h1) (by simpa using ew) ⟨rfl, fin⟩) hs
theorem ix_str : IxR X rIxS := by
  intro value slice pins s σ H x y v u Q I rx ry h hs
  obtain ⟨z, i, c, rfl, rfl, hz, he, q⟩ := h
  obtain ⟨t, rfl⟩ := rx
  obtain ⟨t', rfl⟩ := ry
  obtain ⟨j, h1, h2, h3, h4, h5⟩ := atI_get he
  have hl : z.cps.toList.length = z.length := by simp [Str.length]
  rw [hl] at h1 h4 h5
  have hn := line63
  exact tail_any (typeIs_str s z t) slot_str_getitem.lookup (getItem_str (c := c) (by
    have e1 : decide (i < -(2 ^ 63 : Int)) = false := decide_eq_false (by omega)
    have e2 : decide (i ≥ 2 ^ 63) = false := decide_eq_false (by omega)
    rw [e1, e2, Bool.or_false]) (by rw [h1]; simpa using h2) ⟨.str ⟨#[c]⟩, H, I.tok _, ⟨_, rfl⟩, q⟩) hs
/-- list, tuple or str -/
def rIx (K : PySem.W.Frag) : R2 := fun x y H Q => rIxL K x y H Q ∨ rIxT K x y H Q ∨ rIxS x y H Q
theorem ix_seq : IxR X (rIx X.K) := ix_list.or (ix_tup.or ix_str)

/-! ### xs[i] = v, any sign -/
/-- the list's object behind a store -/
theorem mapSeq_set (its : List Value) (n j : Nat) (u : Value) : Obj.mapSeq (·.setIfInBounds j u) { cls := .type "list", data := .seq its.toArray n } = { cls := .type "list", data := .seq (its.set j u).toArray n } := by
  simp [Obj.mapSeq]
theorem Inv.lst {pins : List (Addr × Obj)} {σ : St} {H : Hp} {s : Shared} {p : Addr} {xs : List V} (I : Inv X pins σ H s) (h : H p = some (.lst xs)) :
    ∃ (its : List Value) (n : Nat), Vals xs its ∧ s.heap.get? p = some { cls := .type "list", data := .seq its.toArray n } ∧ xs.length ≤ sizeLine := by
  obtain ⟨z, its, n, r, e⟩ := I.hok p _ h
  exact ⟨its, n, r, e, z⟩
/-- the list at p is written by an update of its object -/
theorem Inv.lstUpd {pins : List (Addr × Obj)} {σ : St} {H : Hp} {s : Shared} {p : Addr} {xs ys : List V} {its its' : List Value} {n n' : Nat} {f : Obj → Obj} (I : Inv X pins σ H s) (h : H p = some (.lst xs))
    (ho : s.heap.get? p = some { cls := .type "list", data := .seq its.toArray n }) (hf : f { cls := .type "list", data := .seq its.toArray n } = { cls := .type "list", data := .seq its'.toArray n' }) (r : Vals ys its') (hz : ys.length ≤ sizeLine) (t : Nat) :
    Inv X pins σ (upd H p (.lst ys)) { s with heap := s.heap.update p f, toks := t } := by
  have e : (s.heap.update p f).get? p = some { cls := .type "list", data := .seq its'.toArray n' } := by
    rw [Heap.get?_update_self f ho (by rw [hf] <;> rfl), hf]
  refine I.write (x := p) (e := p) (by rw [h]; trivial) (.inl rfl) (fun b u hb q => (Heap.get?_update_other _ _ (Ne.symm hb)).trans q) ⟨_, e⟩ ?_
  exact ⟨hz, its', n', r, e⟩
def rSetL : V → V → V → Hp → (Hp → Prop) → Prop := fun o i v H Q => ∃ p xs k j, o = .ref p ∧ i = .int k ∧ H p = some (.lst xs) ∧ ixN xs.length k = some j ∧ Q (upd H p (.lst (xs.set j v)))
theorem set_list : PSet X rSetL := by
  intro pins s σ H o i v ov iv u Q I ro ri rv h
  obtain ⟨p, xs, k, j, rfl, rfl, hp, hj, q⟩ := h
  cases ro
  obtain ⟨t, rfl⟩ := ri
  obtain ⟨its, n, r, ho, hz⟩ := I.lst hp
  obtain ⟨h1, h2, h3, h4⟩ := ixN_seq hj
  have hl := r.length
  have hn := line63
  have I' : Inv X pins σ (upd H p (.lst (xs.set j v))) { s with heap := s.heap.update p (Obj.mapSeq (·.setIfInBounds j u)) } :=
    I.lstUpd hp ho (mapSeq_set its n j u) (r.set rv j) (by rw [List.length_set]; exact hz) s.toks
  by_cases h0 : 0 ≤ k
  · have hk : k.toNat = j := by
      rw [seqIndex_of h0 h4] at h1
      exact Option.some.inj h1
    exact PySem.W.ki_setAt ho h0 (by omega) (by rw [List.size_toArray, ← hl]; exact h4) (by rw [hk]; exact ⟨_, I', q⟩)
  · have hk : (k + (its.toArray.size : Int)).toNat = j := by
      rw [seqIndex_neg (by omega) h3] at h1
      rw [List.size_toArray, ← hl]
      exact Option.some.inj h1
    exact PySem.W.ki_setBack ho (by omega) (by rw [List.size_toArray, ← hl]; exact h3) (by omega) (by rw [hk]; exact ⟨_, I', q⟩)

/-! ### slices -/
theorem slice_bounds (lo hi : Option Int) (n : Nat) : (sliceBounds lo hi none n).1 = ((HT.sIx n 0 lo : Nat) : Int) ∧ (sliceBounds lo hi none n).2.1 = ((HT.sIx n n hi : Nat) : Int) ∧ (sliceBounds lo hi none n).2.2 = 1 := by
  refine ⟨?_, ?_, rfl⟩
  · cases lo with
    | none => simp [sliceBounds, HT.sIx]
    | some i =>
      simp only [sliceBounds, HT.sIx, Option.getD_none, show (1 : Int) > 0 by decide, if_true]
      by_cases h : i < 0
      · simp only [h, if_true] <;> omega
      · simp only [h, if_false] <;> omega
  · cases hi with
    | none => simp [sliceBounds, HT.sIx]
    | some i =>
      simp only [sliceBounds, HT.sIx, Option.getD_none, show (1 : Int) > 0 by decide, if_true]
      by_cases h : i < 0
      · simp only [h, if_true] <;> omega
      · simp only [h, if_false] <;> omega
theorem slicePick_cut (its : List Value) (lo hi : Option Int) : slicePick its.toArray lo hi none = ((its.drop (HT.sIx its.length 0 lo)).take (HT.sIx its.length its.length hi - HT.sIx its.length 0 lo)).toArray := by
  obtain ⟨h1, h2, h3⟩ := slice_bounds lo hi its.toArray.size
  unfold slicePick
  rw [h1, h2, h3]
  simp only [sliceRange_one, pick_run, List.size_toArray] <;> rfl
/-- xs[lo:hi] of a list: a new list -/
def rSlL (K : PySem.W.Frag) : V → Option Int → Option Int → Hp → VK → Prop := fun x lo hi H Q => ∃ a xs, x = .ref a ∧ SqL K H a xs ∧ ∀ p, H p = none → Q (.ref p) (upd H p (.lst (cutV xs lo hi)))
theorem sl_list : SlR X (rSlL X.K) := by
  intro pins s σ H x v vl vu lo hi sl Q I rx hs pl pu h
  obtain ⟨a, xs, rfl, hx, q⟩ := h
  cases rx
  obtain ⟨its, r, ht, hz⟩ := I.list hx
  have hlen := r.length
  refine ⟨"list", _, slot_list_getitem.lookup, ht.isList.typeIs, ?_⟩
  refine wpAny_getItem_list_slice ht.isList hs pl pu .none (by simp) ?_ (by rw [List.size_toArray] <;> omega)
  rw [slicePick_cut, ← hlen]
  refine ⟨.ref s.heap.objs.size, _, I.laid (t' := s.toks) (o := .lst (cutV xs lo hi)) (fun b ob q => Heap.get?_push_of_some _ q) (Nat.le_refl _) ?_, rfl, q _ (I.hok.fresh (Nat.le_refl _))⟩
  exact ⟨Nat.le_trans (cutV_length xs lo hi) hz, _, 0, (r.drop (HT.sIx xs.length 0 lo)).take (HT.sIx xs.length xs.length hi - HT.sIx xs.length 0 lo), Heap.get?_push_size _ rfl⟩

/-! ### in, not in: flat items -/
/-! ### len, list(x), tuple(x) of any list or tuple that is read -/
theorem call_len_seq : CallR X (.builtin "len") (fun xs H Q => ∃ p ys, xs = [.ref p] ∧ (SqL X.K H p ys ∨ SqT X.K H p ys) ∧ Q (.int ys.length) H) := by
  intro pins s σ H xs us Q I r h
  obtain ⟨p, ys, rfl, hq, q⟩ := h
  obtain ⟨u, rfl, rx⟩ := vals1 r
  cases rx
  have hn := line63
  rcases hq with hq | hq
  · obtain ⟨its, r', pl, hz⟩ := I.list hq
    have hlen := r'.length
    exact Calls.call_len_list pl.isList (by simp only [List.size_toArray] <;> omega) ⟨.int ys.length, H, I.tok _, ⟨s.toks + 1, by rw [List.size_toArray, hlen]⟩, q⟩
  · obtain ⟨its, r', pl, hz⟩ := I.tuple hq
    have hlen := r'.length
    exact len_tuple pl (by simp only [List.size_toArray] <;> omega) ⟨.int ys.length, H, I.tok _, ⟨s.toks + 1, by rw [List.size_toArray, hlen]⟩, q⟩
theorem CallR.or {f : Value} {r r' : List V → Hp → VK → Prop} (h : CallR X f r) (h' : CallR X f r') : CallR X f (fun xs H Q => r xs H Q ∨ r' xs H Q) := by
  intro pins s σ H xs us Q I rs q
  rcases q with q | q
  · exact h pins s σ H xs us Q I rs q
  · exact h' pins s σ H xs us Q I rs q
theorem call_list_of : CallR X (.type "list") (fun xs H Q => ∃ p ys, xs = [.ref p] ∧ (SqL X.K H p ys ∨ SqT X.K H p ys) ∧ ∀ l, H l = none → Q (.ref l) (upd H l (.lst ys))) := by
  intro pins s σ H xs us Q I r h
  obtain ⟨p, ys, rfl, hq, q⟩ := h
  obtain ⟨u, rfl, rx⟩ := vals1 r
  cases rx
  have fin : ∀ (its : List Value), Vals ys its → ys.length ≤ sizeLine → ∀ (h' : Heap) (c' : Nat), (∀ b o', s.heap.get? b = some o' → h'.get? b = some o') →
      h'.get? s.heap.objs.size = some { cls := .type "list", dict := none, data := .seq its.toArray c', slots := #[] } → EP X pins σ Q (.ref s.heap.objs.size) { s with heap := h' } := fun its r' hz h' c' kp e =>
    ⟨.ref s.heap.objs.size, _, I.laid (t' := s.toks) kp (Nat.le_refl _) (show ObjOk X.prog X.w _ h' _ (.lst ys) from ⟨hz, its, c', r', e⟩), rfl, q _ (I.hok.fresh (Nat.le_refl _))⟩
  rcases hq with hq | hq
  · obtain ⟨its, r', pl, hz⟩ := I.list hq
    have hlen := r'.length
    obtain ⟨o, ho, hc, n, hd⟩ := pl.isList
    exact call_list_seq p (.inl rfl) ho hc hd (fun h' c' kp e => fin its r' hz h' c' kp e) (by simp only [List.size_toArray] <;> omega)
  · obtain ⟨its, r', pl, hz⟩ := I.tuple hq
    have hlen := r'.length
    obtain ⟨o, ho, hc, n, hd⟩ := pl
    exact call_list_seq p (.inr rfl) ho hc hd (fun h' c' kp e => fin its r' hz h' c' kp e) (by simp only [List.size_toArray] <;> omega)
theorem call_tuple_of : CallR X (.type "tuple") (fun xs H Q => ∃ p ys, xs = [.ref p] ∧ ((SqL X.K H p ys ∧ ∀ l, H l = none → Q (.ref l) (upd H l (.tup ys))) ∨ (SqT X.K H p ys ∧ Q (.ref p) H))) := by
  intro pins s σ H xs us Q I r h
  obtain ⟨p, ys, rfl, h⟩ := h
  obtain ⟨u, rfl, rx⟩ := vals1 r
  cases rx
  rcases h with ⟨hq, q⟩ | ⟨hq, q⟩
  · obtain ⟨its, r', pl, hz⟩ := I.list hq
    have hlen := r'.length
    refine call_tuple_list pl.isList (fun h' kp => ?_) (by simp only [List.size_toArray] <;> omega)
    have I1 : Inv X pins σ H { s with heap := h' } := I.kept (t' := s.toks) kp
    have I2 : Inv X pins σ (upd H h'.objs.size (.tup ys)) { s with heap := h'.push { cls := .type "tuple", data := .seq its.toArray } } :=
      I1.laid (t' := s.toks) (fun b o e => Heap.get?_push_of_some _ e) (Nat.le_refl _) (show ObjOk X.prog X.w _ _ _ (.tup ys) from ⟨hz, its, r', IsTup.new _ _⟩)
    exact ⟨.ref h'.objs.size, _, I2, rfl, q _ (I1.hok.fresh (Nat.le_refl _))⟩
  · obtain ⟨its, r', pl, hz⟩ := I.tuple hq
    exact call_tuple_same pl ⟨.ref p, H, I, rfl, q⟩

/-! ### the call of a builtin's method: o.m(..) -/
/-- the value is of that builtin type -/
def tyV (K : PySem.W.Frag) (T : String) (x : V) (H : Hp) : Prop := match x with
  | .str _ => T = "str"
  | .int _ => T = "int"
  | .ref p => (T = "list" ∧ ∃ xs, SqL K H p xs) ∨ (T = "tuple" ∧ ∃ o, K.lookup p = some o ∧ o.cls = .type "tuple" ∧ o.dict = none) ∨
      (T = "dict" ∧ ((∃ kvs, H p = some (.dK kvs)) ∨ ∃ kvs, H p = some (.dT kvs))) ∨ (T = "set" ∧ ∃ S n, H p = some (.set S n))
  | _ => False
theorem tyV_is {pins : List (Addr × Obj)} {σ : St} {H : Hp} {s : Shared} {T : String} {x : V} {v : Value} (I : Inv X pins σ H s) (r : RelV x v) (ty : tyV X.K T x H) :
    s.TypeIs v T ∧ ∀ a, v = .ref a → ∃ ob, s.heap.get? a = some ob ∧ ob.dict = none := by
  cases x with
  | str z =>
    obtain ⟨t, rfl⟩ := r
    cases (show T = "str" from ty)
    exact ⟨typeIs_str s z t, fun _ e => nomatch e⟩
  | int i =>
    obtain ⟨t, rfl⟩ := r
    cases (show T = "int" from ty)
    exact ⟨typeIs_int s i t, fun _ e => nomatch e⟩
  | ref p =>
    cases r
    rcases ty with ⟨rfl, xs, hq⟩ | ⟨rfl, o, hk, hc, hd⟩ | ⟨rfl, hk⟩ | ⟨rfl, S, n, hk⟩
    · obtain ⟨its, _, pl, _⟩ := I.list hq
      refine ⟨pl.isList.typeIs, fun a e => ?_⟩
      cases e
      obtain ⟨o, n, e, c, hd, _⟩ := pl
      exact ⟨o, e, hd⟩
    · refine ⟨⟨o, I.kIn p o hk, hc⟩, fun a e => ?_⟩
      cases e
      exact ⟨o, I.kIn _ o hk, hd⟩
    · have z : ∃ o, s.heap.get? p = some o ∧ o.ExactDict := by
        rcases hk with ⟨kvs, hk⟩ | ⟨kvs, hk⟩
        · obtain ⟨_, _, _, _, o, _, _, e, ex, _⟩ := I.hok p _ hk
          exact ⟨o, e, ex⟩
        · obtain ⟨_, _, _, _, o, _, _, e, ex, _⟩ := I.hok p _ hk
          exact ⟨o, e, ex⟩
      obtain ⟨o, e, ex⟩ := z
      refine ⟨⟨o, e, ex.1⟩, fun a e2 => ?_⟩
      cases e2
      exact ⟨o, e, ex.2.1⟩
    · obtain ⟨o, _, _, _, e, ex, _⟩ := I.hok p _ hk
      refine ⟨⟨o, e, ex.1⟩, fun a e2 => ?_⟩
      cases e2
      exact ⟨o, e, ex.2.1⟩
  | _ => exact False.elim ty
def tBM (K : PySem.W.Frag) (T : String) (r : V → List V → Hp → VK → Prop) (to : TE) (t : TA) : TE := fun σ H Q => to σ H fun x H1 => tyV K T x H1 ∧ t σ H1 fun xs H2 => r x xs H2 Q
variable {o e : Expr} {es : List Expr} {to : TE} {t : TA} {name : Str} {apos cpos : Pos} {T id : String} {r : V → List V → Hp → VK → Prop}
theorem pe_bm (pa : PlainAttrs T) (slot : Slot T name id) (hty : typeOf (.builtin id) = pure (.type "method_descriptor")) (hm : MtR X id r) (ho : PE X o to) (ha : PA X (e :: es) t)
    (hbase : attributeBase o name X.env (eval o X.env) = eval o X.env := by rfl)
    (hfew : ((backTo cpos (starEach (e :: es) X.env)).all (fun x => !x.1) && (backToKw cpos (keywordEach [] X.env)).all (fun x => x.1.isSome)
      && decide ((e :: es).length + ([] : List Keyword).length + (if ([] : List Keyword).isEmpty then 0 else 1) < 30)) = true := by rfl)
    (hline : (apos.endLine == cpos.line) = true := by rfl) (hs : starEach (e :: es) X.env = (false, eval e X.env) :: starEach es X.env := by rfl) (hplain : (backTo cpos (starEach es X.env)).any (·.1) = false := by rfl) :
    PE X (.Call (.Attribute o name apos) (e :: es) [] cpos) (tBM X.K T r to t) := by
  intro pins s σ H Q I h
  refine wpAny_Call_method_late hbase hfew hline rfl (thn (ho pins s σ H _ I h) fun v s1 ⟨x, H1, I1, r1, ty, q1⟩ => ?_)
  obtain ⟨h1, h2⟩ := tyV_is I1 r1 ty
  refine ⟨T, id, pa, slot, hty, h1, h2, ?_⟩
  have hA := ha cpos pins s1 σ H1 _ I1 q1
  rw [hs] at hA ⊢
  refine Calls.callWith_builtin (by show (false || (backTo cpos (starEach es X.env)).any (·.1)) = false; rw [hplain] <;> rfl) (Calls.evalArgs_plain ?_)
  exact thn hA fun us s2 ⟨vs, H2, I2, r2, q2⟩ => hm pins s2 σ H2 x vs v us Q I2 r1 r2 q2
/- xs.append(e), list.index on a module's tuple .. are MtR facts of 06m -/
end
end L2

namespace L2
open PySem PySem.Spec PyProof.Rows

def MtM (X : Cx) (id : String) (r : V → List V → Hp → VK → Prop) : Prop :=
  ∀ (pins : List (Addr × Obj)) (s : Shared) (σ : St) (H : Hp) (x : V) (xs : List V) (v : Value) (us : List Value) (Q : VK), Inv X pins σ H s → RelV x v → Vals xs us → r x xs H Q →
    wpAny (model X.prog X.w) X.A (call (.builtin id) (v :: us)) (EP X pins σ Q) X.xe s

/-! ### lists of values -/
theorem Vals.one : ∀ {x : V} {us : List Value}, Vals [x] us → ∃ u, us = [u] ∧ RelV x u
  | _, _, .cons r .nil => ⟨_, rfl, r⟩
theorem Vals.two : ∀ {x y : V} {us : List Value}, Vals [x, y] us → ∃ u v, us = [u, v] ∧ RelV x u ∧ RelV y v
  | _, _, _, .cons r (.cons q .nil) => ⟨_, _, rfl, r, q⟩
theorem Vals.zero : ∀ {us : List Value}, Vals [] us → us = []
  | _, .nil => rfl
theorem Vals.rep {xs : List V} {us : List Value} (h : Vals xs us) : ∀ k : Nat, Vals (List.replicate k xs).flatten (List.replicate k us).flatten
  | 0 => .nil
  | k + 1 => by
    rw [List.replicate_succ, List.replicate_succ, List.flatten_cons, List.flatten_cons]
    exact Vals.append h (Vals.rep h k)
theorem foldl_rep (its : List Value) : ∀ (k : Nat) (acc : List Value),
    List.foldl (fun x1 x2 => x1 ++ x2) acc.toArray (List.replicate k its.toArray) = (acc ++ (List.replicate k its).flatten).toArray
  | 0, acc => by simp
  | k + 1, acc => by
    have e : acc.toArray ++ its.toArray = (acc ++ its).toArray := by simp
    have e2 : (acc ++ its) ++ (List.replicate k its).flatten = acc ++ (List.replicate (k + 1) its).flatten := by
      rw [List.replicate_succ, List.flatten_cons, List.append_assoc]
    rw [← e2, ← foldl_rep its k (acc ++ its), ← e, List.replicate_succ, List.foldl_cons]

section
variable {X : Cx} {pins : List (Addr × Obj)} {σ : St} {H : Hp} {s : Shared} {l b : Addr} {xs ys zs : List V}

/-! ### the two steps: a tracked list is rewritten, a new list is laid -/
theorem Inv.lset {its its' : List Value} {n : Nat} {f : Array Value → Array Value} {t' : Nat} (I : Inv X pins σ H s) (hH : H l = some (.lst xs))
    (e : s.heap.get? l = some { cls := .type "list", data := .seq its.toArray n }) (hf : f its.toArray = its'.toArray) (hv : Vals ys its') (hz : ys.length ≤ sizeLine) :
    Inv X pins σ (upd H l (.lst ys)) { s with heap := s.heap.update l (Obj.mapSeq f), toks := t' } := by
  have q := PySem.IsL.update e f
  rw [hf] at q
  refine I.write (x := l) (e := l) (by rw [hH]; exact trivial) (.inl rfl) (fun b' u hb hu => (Heap.get?_update_other s.heap (Obj.mapSeq f) (Ne.symm hb)).trans hu) ⟨_, q⟩ ?_
  exact ⟨hz, its', _, hv, q⟩
theorem Inv.lnew {its : List Value} {t' : Nat} (I : Inv X pins σ H s) (hv : Vals ys its) (hz : ys.length ≤ sizeLine) :
    Inv X pins σ (upd H s.heap.objs.size (.lst ys)) { s with heap := s.heap.push { cls := .type "list", data := .seq its.toArray }, toks := t' } :=
  I.laid (fun _ _ q => Heap.get?_push_of_some _ q) (Nat.le_refl _) ⟨hz, its, 0, hv, Heap.get?_push_size _ rfl⟩
theorem Inv.fresh (I : Inv X pins σ H s) : H s.heap.objs.size = none := I.hok.fresh (Nat.le_refl _)
theorem Inv.lstM (I : Inv X pins σ H s) (hH : H l = some (.lst xs)) : xs.length ≤ sizeLine ∧ ∃ (its : List Value) (n : Nat), Vals xs its ∧ xs.length = its.length ∧ s.heap.get? l = some { cls := .type "list", data := .seq its.toArray n } := by
  obtain ⟨z, its, n, r, e⟩ := I.hok l _ hH
  exact ⟨z, its, n, r, r.length, e⟩

theorem notLongL {n : Nat} (h : n ≤ sizeLine) : Builtin.List.listTooLong n = false := by
  unfold Builtin.List.listTooLong
  exact decide_eq_false (by omega)
end

section
variable {X : Cx}

/-! ### methods -/
def rAppend : V → List V → Hp → VK → Prop := fun x vs H Q => ∃ l xs y, x = .ref l ∧ vs = [y] ∧ H l = some (.lst xs) ∧ xs.length < sizeLine ∧ Q .non (upd H l (.lst (xs ++ [y])))
theorem mt_append : MtM X "list.append" rAppend := by
  intro pins s σ H x vs v us Q I rx rv h
  obtain ⟨l, xs, y, rfl, rfl, hH, hz, q⟩ := h
  cases rx
  obtain ⟨u, rfl, ru⟩ := rv.one
  obtain ⟨z, its, n, r, hl, e⟩ := I.lstM hH
  refine call_meets F.slot_list_append ⟨_, e, rfl⟩ F.entry_list_append (F.args_list_append_2 _ _) (PySem.list_append l its.toArray n u (by rw [List.size_toArray]; omega)) ⟨e, ?_⟩
  refine ⟨.non, _, I.lset (its' := its ++ [u]) hH e (by simp) (r.append (.cons ru .nil)) ?_, rfl, q⟩
  rw [List.length_append, List.length_singleton]
  omega

def rExtend : V → List V → Hp → VK → Prop := fun x vs H Q => ∃ l b xs zs, x = .ref l ∧ vs = [.ref b] ∧ H l = some (.lst xs) ∧ H b = some (.lst zs) ∧ xs.length + zs.length ≤ sizeLine ∧ Q .non (upd H l (.lst (xs ++ zs)))
theorem mt_extend : MtM X "list.extend" rExtend := by
  intro pins s σ H x vs v us Q I rx rv h
  obtain ⟨l, b, xs, zs, rfl, rfl, hH, hB, hz, q⟩ := h
  cases rx
  obtain ⟨u, rfl, ru⟩ := rv.one
  cases ru
  obtain ⟨z, its, n, r, hl, e⟩ := I.lstM hH
  obtain ⟨z2, its2, n2, r2, hl2, e2⟩ := I.lstM hB
  have hsz : its.toArray.size + its2.toArray.size ≤ sizeLine := by rw [List.size_toArray, List.size_toArray]; omega
  have hlong : ¬ (!its.toArray.isEmpty && Builtin.List.listTooLong (its.toArray.size + its2.toArray.size)) = true := by
    rw [notLongL hsz, Bool.and_false]
    exact Bool.false_ne_true
  refine call_meets F.slot_list_extend ⟨_, e, rfl⟩ F.entry_list_extend (F.args_list_extend_2 _ _)
    (AutoSeq1.list_extend_list_list_0 l its.toArray n b its2.toArray n2 hlong (by rw [List.size_toArray]; omega) (by omega)) ⟨e, e2, ?_⟩
  refine ⟨.non, _, I.lset (its' := its ++ its2) hH e (by simp) (r.append r2) ?_, rfl, q⟩
  rw [List.length_append]
  omega

/-! ### list + list, list += list, list * int -/
def rCat : R2 := fun x y H Q => ∃ l b xs zs, x = .ref l ∧ y = .ref b ∧ H l = some (.lst xs) ∧ H b = some (.lst zs) ∧ xs.length + zs.length ≤ sizeLine ∧ ∀ p, H p = none → Q (.ref p) (upd H p (.lst (xs ++ zs)))
theorem op_cat : OpR X (binaryOp .Add) rCat := by
  intro pins s σ H x y v u Q I rx ry h
  obtain ⟨l, b, xs, zs, rfl, rfl, hH, hB, hz, q⟩ := h
  cases rx
  cases ry
  obtain ⟨z, its, n, r, hl, e⟩ := I.lstM hH
  obtain ⟨z2, its2, n2, r2, hl2, e2⟩ := I.lstM hB
  refine PySem.P.add_list e e2 ?_ (by rw [List.size_toArray, List.size_toArray]; omega)
  have ea : its.toArray ++ its2.toArray = (its ++ its2).toArray := by simp
  rw [ea]
  exact ⟨.ref _, _, I.lnew (t' := s.toks) (r.append r2) (by rw [List.length_append]; omega), rfl, q _ I.fresh⟩
/-- a list times an int (a negative one is nothing) -/
def rRep : R2 := fun x y H Q => ∃ l k xs, x = .ref l ∧ y = .int k ∧ H l = some (.lst xs) ∧ -(2 ^ 63) ≤ k ∧ k < 2 ^ 63 ∧ xs.length * k.toNat ≤ sizeLine ∧
  ∀ p, H p = none → Q (.ref p) (upd H p (.lst (List.replicate k.toNat xs).flatten))
theorem len_rep {α : Type} (xs : List α) (k : Nat) : (List.replicate k xs).flatten.length = k * xs.length := by
  induction k with
  | zero => simp
  | succ k ih => rw [List.replicate_succ, List.flatten_cons, List.length_append, ih, Nat.succ_mul, Nat.add_comm]
theorem op_rep : OpR X (binaryOp .Mult) rRep := by
  intro pins s σ H x y v u Q I rx ry h
  obtain ⟨l, k, xs, rfl, rfl, hH, h1, h2, hz, q⟩ := h
  cases rx
  obtain ⟨t, rfl⟩ := ry
  obtain ⟨z, its, n, r, hl, e⟩ := I.lstM hH
  have hlen : its.toArray.size * k.toNat ≤ sizeLine := by rw [List.size_toArray, ← hl]; exact hz
  have hcap : ¬ its.toArray.size * k.toNat > (2 ^ 63 - 1) / 8 := by
    have : (sizeLine : Nat) ≤ (2 ^ 63 - 1) / 8 := by decide
    omega
  have hfit : ¬ (!Builtin.List.listFitsIndex k) = true := by
    rw [fitsIndex_both h1 h2]
    exact Bool.false_ne_true
  have hlong : ¬ Builtin.List.listTooLong (its.toArray.size * k.toNat) = true := by
    rw [notLongL hlen]
    exact Bool.false_ne_true
  have hnew : List.foldl (fun x1 x2 => x1 ++ x2) #[] (List.replicate (if its.toArray.isEmpty = true then 0 else k.toNat) its.toArray) = (List.replicate k.toNat its).flatten.toArray := by
    have f0 : ∀ m : Nat, List.foldl (fun x1 x2 => x1 ++ x2) #[] (List.replicate m its.toArray) = (List.replicate m its).flatten.toArray := fun m => by
      have := foldl_rep its m []
      rw [List.nil_append] at this
      exact this
    rw [f0]
    cases its with
    | nil => simp
    | cons a r' => rw [if_neg (by simp)]
  refine wpAny_binaryOp_repeat_ref (T := "list") (U := "int") (by decide) ⟨_, e, rfl⟩ (fun s' => typeIs_int s' k t) noFill_list_mul F.fills_int_mul F.slot_int_rmul repeat_list F.slot_int_index.lookup
    (call_meets F.slot_int_rmul (typeIs_int s k t) F.entry_int_rmul (F.args_int_rmul_2 _ _) (int___rmul___int_list k t l its.toArray n)
      ⟨e, rfl, ⟨_, e, rfl⟩, call_meets F.slot_list_mul ⟨_, e, rfl⟩ F.entry_list_mul (F.args_list_mul_2 _ _) (AutoListH.list___mul___list_int_3 l its.toArray n k t hfit hcap hlong) ⟨e, ?_⟩⟩)
  rw [hnew]
  exact ⟨.ref _, _, I.lnew (t' := s.toks) (r.rep k.toNat) (by rw [len_rep, Nat.mul_comm]; exact hz), rfl, q _ I.fresh⟩

/-! ### del xs[i] -/
end

/-! ### xs[a:b] = ys -/
section
variable {prog : Program} {w : World} {A : Around} {E : Value → Shared → Prop} {s : Shared}
end

section
variable {X : Cx}
end
end L2
namespace L2
open PySem PySem.Spec PyProof.Rows

/-! ### lists of pairs as tables -/
section
variable {κ : Type} [DecidableEq κ]
def valV (kvs : List (κ × V)) (k : κ) : Option V := (kvs.find? fun kv => decide (kv.1 = k)).map (·.2)
/-- in its place, or at the end -/
def putK (kvs : List (κ × V)) (k : κ) (v : V) : List (κ × V) :=
  if (kvs.any fun kv => decide (kv.1 = k)) = true then kvs.map (fun kv => if kv.1 = k then (kv.1, v) else kv) else kvs ++ [(k, v)]
def dropK (kvs : List (κ × V)) (k : κ) : List (κ × V) := kvs.filter fun kv => decide (kv.1 ≠ k)

theorem valV_pos {p : κ × V} {r : List (κ × V)} {k : κ} (e : p.1 = k) : valV (p :: r) k = some p.2 := by simp [valV, List.find?_cons, e]
theorem valV_neg {p : κ × V} {r : List (κ × V)} {k : κ} (e : ¬ p.1 = k) : valV (p :: r) k = valV r k := by simp [valV, List.find?_cons, e]
theorem valV_any (k : κ) : ∀ kvs : List (κ × V), (kvs.any fun kv => decide (kv.1 = k)) = (valV kvs k).isSome
  | [] => rfl
  | p :: r => by
    rw [List.any_cons]
    by_cases e : p.1 = k
    · simp only [valV_pos e, decide_eq_true e, Bool.true_or, Option.isSome_some]
    · rw [valV_neg e, decide_eq_false e, Bool.false_or]; exact valV_any k r
theorem RelO.isSome_eq {o : Option V} {u : Option Value} (r : RelO o u) : o.isSome = u.isSome := by
  cases o with
  | none => cases u with
    | none => rfl
    | some _ => exact (show False from r).elim
  | some _ => cases u with
    | none => exact (show False from r).elim
    | some _ => rfl
theorem RelO.getD {o : Option V} {u : Option Value} {d : V} {d' : Value} (r : RelO o u) (rd : RelV d d') : RelV (o.getD d) (u.getD d') := by
  cases o with
  | none => cases u with
    | none => exact rd
    | some _ => exact (show False from r).elim
  | some _ => cases u with
    | none => exact (show False from r).elim
    | some _ => exact r

/-- raw tables of the same keys -/
theorem KV.val {kvs : List (κ × V)} {vs : List (κ × Value)} (r : KV kvs vs) (k : κ) : RelO (valV kvs k) (valueAt vs k) := by
  unfold KV at r
  induction r with
  | nil => exact True.intro
  | @cons p q ps qs h t ih =>
    obtain ⟨h1, h2⟩ := h
    by_cases e : p.1 = k
    · have e' : q.1 = k := h1.symm.trans e
      have b : valueAt (q :: qs) k = some q.2 := by simp [valueAt, List.find?_cons, e']
      rw [valV_pos e, b]; exact h2
    · have e' : ¬ q.1 = k := fun z => e (h1.trans z)
      have b : valueAt (q :: qs) k = valueAt qs k := by simp [valueAt, List.find?_cons, e']
      rw [valV_neg e, b]; exact ih
theorem KV.any {kvs : List (κ × V)} {vs : List (κ × Value)} (r : KV kvs vs) (k : κ) : (kvs.any fun kv => decide (kv.1 = k)) = vs.any fun kv => decide (kv.1 = k) := by
  unfold KV at r
  induction r with
  | nil => rfl
  | cons h t ih => rw [List.any_cons, List.any_cons, ih, h.1]
theorem KV.repl {kvs : List (κ × V)} {vs : List (κ × Value)} (r : KV kvs vs) (k : κ) {y : V} {u : Value} (ry : RelV y u) :
    KV (kvs.map fun kv => if kv.1 = k then (kv.1, y) else kv) (vs.map fun kv => if kv.1 = k then (kv.1, u) else kv) := by
  unfold KV at r ⊢
  induction r with
  | nil => exact .nil
  | @cons p q ps qs h t ih =>
    rw [List.map_cons, List.map_cons]
    refine .cons ?_ ih
    obtain ⟨h1, h2⟩ := h
    by_cases e : p.1 = k
    · rw [if_pos e, if_pos (h1.symm.trans e)]; exact ⟨h1, ry⟩
    · rw [if_neg e, if_neg (fun z => e (h1.trans z))]; exact ⟨h1, h2⟩
theorem KV.put {kvs : List (κ × V)} {vs : List (κ × Value)} (r : KV kvs vs) (k : κ) {y : V} {u : Value} (ry : RelV y u) : KV (putK kvs k y) (stored vs k u) := by
  unfold putK stored
  rw [r.any k]
  by_cases e : (vs.any fun kv => decide (kv.1 = k)) = true
  · rw [if_pos e, if_pos e]; exact r.repl k ry
  · rw [if_neg e, if_neg e]; exact Paired.snoc r ⟨rfl, ry⟩
theorem KV.drop {kvs : List (κ × V)} {vs : List (κ × Value)} (r : KV kvs vs) (k : κ) : KV (dropK kvs k) (without vs k) := by
  unfold KV at r ⊢
  unfold dropK without
  induction r with
  | nil => exact .nil
  | @cons p q ps qs h t ih =>
    obtain ⟨h1, h2⟩ := h
    rw [List.filter_cons, List.filter_cons]
    by_cases e : p.1 = k
    · have a : ¬ decide (p.1 ≠ k) = true := by simp [e]
      have b : ¬ decide (q.1 ≠ k) = true := by simp [h1.symm.trans e]
      rw [if_neg a, if_neg b]; exact ih
    · have e' : ¬ q.1 = k := fun z => e (h1.trans z)
      have a : decide (p.1 ≠ k) = true := by simp [e]
      have b : decide (q.1 ≠ k) = true := by simp [e']
      rw [if_pos a, if_pos b]; exact .cons ⟨h1, h2⟩ ih
theorem KV.keys {kvs : List (κ × V)} {vs : List (κ × Value)} (r : KV kvs vs) : kvs.map (·.1) = vs.map (·.1) := by
  unfold KV at r
  induction r with
  | nil => rfl
  | cons h t ih => rw [List.map_cons, List.map_cons, ih, h.1]
theorem KV.length {kvs : List (κ × V)} {vs : List (κ × Value)} (r : KV kvs vs) : kvs.length = vs.length := Paired.length r
end


/-! ### a tracked dict, its keys ints and texts or tuples of these -/
/-- raw entries of a dict with tuple keys -/
abbrev KT (H : Hp) : List (List Key × V) → List (List Key × Addr × Value) → Prop := Paired fun p q => p.1 = q.1 ∧ H q.2.1 = some (.tup (p.1.map kV)) ∧ RelV p.2 q.2.2
theorem KT.val {H : Hp} {kvs : List (List Key × V)} {xs : List (List Key × Addr × Value)} (r : KT H kvs xs) (k : List Key) : RelO (valV kvs k) ((atKey xs k).map (·.2)) := by
  induction r with
  | nil => exact True.intro
  | @cons p q ps qs h t ih =>
    obtain ⟨h1, _, h2⟩ := h
    by_cases e : p.1 = k
    · have e' : q.1 = k := h1.symm.trans e
      have b : atKey (q :: qs) k = some q.2 := by simp [atKey, List.find?_cons, e']
      rw [valV_pos e, b]; exact h2
    · have e' : ¬ q.1 = k := fun z => e (h1.trans z)
      have b : atKey (q :: qs) k = atKey qs k := by simp [atKey, List.find?_cons, e']
      rw [valV_neg e, b]; exact ih
theorem KT.repl {H : Hp} {kvs : List (List Key × V)} {xs : List (List Key × Addr × Value)} (r : KT H kvs xs) (k : List Key) {y : V} {u : Value} (ry : RelV y u) :
    KT H (kvs.map fun kv => if kv.1 = k then (kv.1, y) else kv) (xs.map (putAt k u)) := by
  induction r with
  | nil => exact .nil
  | @cons p q ps qs h t ih =>
    rw [List.map_cons, List.map_cons]
    refine .cons ?_ ih
    obtain ⟨h1, h2, h3⟩ := h
    unfold putAt
    by_cases e : p.1 = k
    · rw [if_pos e, if_pos (h1.symm.trans e)]; exact ⟨h1, h2, ry⟩
    · rw [if_neg e, if_neg (fun z => e (h1.trans z))]; exact ⟨h1, h2, h3⟩
theorem KT.put {H : Hp} {kvs : List (List Key × V)} {xs : List (List Key × Addr × Value)} (r : KT H kvs xs) (k : List Key) {b : Addr} {y : V} {u : Value} (hb : H b = some (.tup (k.map kV))) (ry : RelV y u) :
    KT H (putK kvs k y) (storedH xs k b u) := by
  have e : (kvs.any fun kv => decide (kv.1 = k)) = (atKey xs k).isSome := by
    rw [valV_any, (r.val k).isSome_eq, Option.isSome_map]
  unfold putK storedH
  rw [e]
  by_cases q : (atKey xs k).isSome = true
  · rw [if_pos q, if_pos q]; exact r.repl k ry
  · rw [if_neg q, if_neg q]; exact Paired.snoc r ⟨rfl, hb, ry⟩
theorem KT.keeps {H H' : Hp} {kvs : List (List Key × V)} {xs : List (List Key × Addr × Value)} (r : KT H kvs xs) (ht : ∀ b ys, H b = some (.tup ys) → H' b = some (.tup ys)) : KT H' kvs xs :=
  Paired.mapP r fun _ _ z => ⟨z.1, ht _ _ z.2.1, z.2.2⟩

section
variable {P : Program} {w : World} {H : Hp} {h : Heap} {a : Addr}
end

/-- what the dict at a holds at the key y -/
def DGet (H : Hp) (a : Addr) (y : V) (r : Option V) : Prop :=
  (∃ kvs k, Rd H a (.dK kvs) ∧ y = kV k ∧ r = valV kvs k) ∨ ∃ kvs k b, Rd H a (.dT kvs) ∧ y = .ref b ∧ H b = some (.tup (k.map kV)) ∧ r = valV kvs k
/-- the heap behind a[y] = v -/
def DPut (H : Hp) (a : Addr) (y v : V) (H' : Hp) : Prop :=
  (∃ kvs k, H a = some (.dK kvs) ∧ y = kV k ∧ kvs.length < sizeLine ∧ H' = upd H a (.dK (putK kvs k v))) ∨
  ∃ kvs k b, H a = some (.dT kvs) ∧ y = .ref b ∧ H b = some (.tup (k.map kV)) ∧ kvs.length < sizeLine ∧ H' = upd H a (.dT (putK kvs k v))
theorem DGet.k {H : Hp} {a : Addr} {kvs : List (Key × V)} {k : Key} (e : H a = some (.dK kvs)) : DGet H a (kV k) (valV kvs k) := .inl ⟨kvs, k, .inl e, rfl, rfl⟩
theorem DGet.t {H : Hp} {a b : Addr} {kvs : List (List Key × V)} {k : List Key} (e : H a = some (.dT kvs)) (eb : H b = some (.tup (k.map kV))) : DGet H a (.ref b) (valV kvs k) := .inr ⟨kvs, k, b, .inl e, rfl, eb, rfl⟩
theorem DPut.k {H : Hp} {a : Addr} {kvs : List (Key × V)} {k : Key} {v : V} (e : H a = some (.dK kvs)) (hl : kvs.length < sizeLine) : DPut H a (kV k) v (upd H a (.dK (putK kvs k v))) := .inl ⟨kvs, k, e, rfl, hl, rfl⟩
theorem DPut.t {H : Hp} {a b : Addr} {kvs : List (List Key × V)} {k : List Key} {v : V} (e : H a = some (.dT kvs)) (eb : H b = some (.tup (k.map kV))) (hl : kvs.length < sizeLine) :
    DPut H a (.ref b) v (upd H a (.dT (putK kvs k v))) := .inr ⟨kvs, k, b, e, rfl, eb, hl, rfl⟩


section
variable {X : Cx} {pins : List (Addr × Obj)} {σ : St} {H : Hp} {s : Shared} {a : Addr} {y v : V} {u r : Value} {o : Option V} {A : Around} {E : Value → Shared → Prop}

theorem Inv.big (I : Inv X pins σ H s) : sysModules < s.heap.objs.size := by
  have h : mainGlobals < s.heap.objs.size := (I.mod.glob.keeps I.bk).lt
  exact Nat.lt_trans (by decide) h

end

section
variable {X : Cx} {pins : List (Addr × Obj)} {σ : St} {H : Hp} {s : Shared} {a : Addr} {kvs : List (Key × V)} {k : Key} {u : Value} {A : Around} {E : Value → Shared → Prop}
end


/-! ### readings and rules -/
/-- d[y] -/
def tDGet (td ty : TE) : TE := fun σ H Q => td σ H fun x H1 => ty σ H1 fun y H2 => ∃ a v, x = .ref a ∧ DGet H2 a y (some v) ∧ Q v H2
section
variable {X : Cx} {o i e value : Expr} {pos pos' tpos : Pos} {td ty tv : TE}
end


/-! ### displays -/
section
variable {X : Cx} {pos : Pos}
end

/-! ### methods -/
/-- a method call o.m(e) of a built-in, with one argument: what must be seen of the text -/
structure M1 (X : Cx) (o : Expr) (m : Str) (apos : Pos) (e : Expr) (cpos : Pos) : Prop where
  base : attributeBase o m X.env (eval o X.env) = eval o X.env
  few : ((backTo cpos (starEach [e] X.env)).all (fun x => !x.1) && (backToKw cpos (keywordEach [] X.env)).all (fun x => x.1.isSome)
    && decide (([e] : List Expr).length + ([] : List Keyword).length + (if ([] : List Keyword).isEmpty then 0 else 1) < 30)) = true
  line : (apos.endLine == cpos.line) = true
  trees : backTo cpos (starEach [e] X.env) = [(false, eval e X.env)]
structure M2 (X : Cx) (o : Expr) (m : Str) (apos : Pos) (e f : Expr) (cpos : Pos) : Prop where
  base : attributeBase o m X.env (eval o X.env) = eval o X.env
  few : ((backTo cpos (starEach [e, f] X.env)).all (fun x => !x.1) && (backToKw cpos (keywordEach [] X.env)).all (fun x => x.1.isSome)
    && decide (([e, f] : List Expr).length + ([] : List Keyword).length + (if ([] : List Keyword).isEmpty then 0 else 1) < 30)) = true
  line : (apos.endLine == cpos.line) = true
  trees : backTo cpos (starEach [e, f] X.env) = [(false, eval e X.env), (false, eval f X.env)]

section
variable {X : Cx} {pins : List (Addr × Obj)} {σ : St} {H : Hp} {s : Shared} {a : Addr} {y d : V} {u r : Value} {o : Option V} {A : Around} {E : Value → Shared → Prop}
end

section
variable {X : Cx} {o e f : Expr} {apos cpos : Pos} {td ty tx : TE}
end

/-! ### dict(d): a copy -/
section
variable {X : Cx} {pins : List (Addr × Obj)} {σ : St} {H : Hp} {s : Shared} {a : Addr} {kvs : List (Key × V)} {A : Around} {E : Value → Shared → Prop}
end


section
variable {X : Cx} {pins : List (Addr × Obj)} {σ : St} {H : Hp} {s : Shared} {a : Addr} {y : V} {u : Value} {A : Around} {E : Value → Shared → Prop}
end
end L2
namespace Att
open PySem PySem.W PySem.Calls PyProof.Rows

/-! ### the script -/
theorem ints_of_wellAll {P : Params} {h : Heap} : ∀ (ns : List Int) (vs : List Value), WellAll P h vs (ns.map WData.int) → IntsAre vs ns := by
  intro ns
  induction ns with
  | nil =>
    intro vs w
    rw [List.map_nil] at w
    cases w
    exact .nil
  | cons n ns ih =>
    intro vs w
    rw [List.map_cons] at w
    cases w with
    | cons a b =>
      cases a
      exact .cons _ _ (ih _ b)

theorem script_of {l : OpenLaw} {n : Nat} (hn : l.most = some n) {P : Params} {h : Heap} {args : List WData} {vals : List Value}
    (hpre : l.row.toRowW.claim.pre args = true) (hwl : WellAll P h vals args) :
    ∃ a vs ns, vals = [Value.ref a] ∧ args = [WData.list (ns.map WData.int)] ∧ h.get? a = some { cls := .type "list", data := .seq vs.toArray } ∧ IntsAre vs ns ∧ ns.length ≤ n := by
  have hsh : WShape.hasAll [] args [.list .int] = true := (pre_splitW hpre).1
  have hc : l.pre.holds [] { args := args } = true := (pre_splitW hpre).2
  obtain ⟨d, r, rfl, h1, h2⟩ := hasAllW_cons hsh
  obtain rfl := hasAllW_nil h2
  obtain ⟨xs, rfl, h3⟩ := hasW_list h1
  obtain ⟨ns, rfl⟩ := items_int h3
  have hlen : ns.length ≤ n := by
    unfold OpenLaw.pre at hc
    have h4 : (WTm.not (.lt (.lit (.int (n : Int))) (.len (.arg 0)))).holds [] { args := [.list (ns.map .int)] } = true := by
      have h4 := (holds_andW hc).1
      rw [hn] at h4
      exact h4
    have h5 := condW_of h4 (w_not (w_lt w_lit (w_len_list (w_arg rfl))))
    rw [List.length_map] at h5
    refine Nat.le_of_not_lt fun q => ?_
    have q' : (n : Int) < ((ns.length : Nat) : Int) := by omega
    first
      | (rw [decide_eq_true q'] at h5; exact absurd h5 (by decide))
      | (simp at h5; omega)
  cases hwl with
  | cons w1 w2 =>
    cases w2
    cases w1 with
    | list ho hall => exact ⟨_, _, ns, rfl, rfl, ho, ints_of_wellAll ns _ hall, hlen⟩

theorem post_true (l : OpenLaw) (args : List WData) : l.row.toRowW.claim.post args (.bool true) args = true :=
  postW_of (r := l.row.toRowW) (X := (true == true))
    (show WShape.has [] (.bool true) .bool = true by first | rfl | decide | simp [WShape.has, WShape.arms, WShape.armsAll])
    (show (WTm.eq .res (.lit (.bool true))).value [] { args := args, res := some (.bool true), after := args } = some (.bool (true == true)) from w_eq_bool (w_res rfl) w_lit) rfl

/-! ### the attachment: holds_open's last premise (the goal 'hc' behind k_head) from a wpAny of the law's body -/
/-- the same from a codeAny of the CALL (for a layer whose function contracts speak of calls) -/
theorem attach_call {l : OpenLaw} {n : Nat} {q : Program} {loose : List Str} {XP : (Str → Option Value) → Heap → Prop} {YP : World → Heap → Prop} {d : DefRec}
    (hn : l.most = some n) (hdf : d.params.defaults = [])
    (call : ∀ (w : World) (s₀ s₁ : Shared) (mg mb : Str → Option Value) (fa : Addr) (o : Obj) (pm cd doc : Value) (a : Addr) (vs : List Value) (ns : List Int),
      Ground q loose [] XP w s₀ mg mb s₁.heap → YP w s₁.heap →
      s₁.heap.get? fa = some o → o.data = .func (docDef d.name d.params d.body d.scope pm cd doc) → s₁.heap.CodeRec cd d.name → mg d.name = some (.ref fa) →
      s₁.heap.get? a = some { cls := .type "list", data := .seq vs.toArray } → IntsAre vs ns → ns.length ≤ n → s₁.gens = #[] →
      codeAny (model l.prog w) callerA (.call (.ref fa) ⟨[.ref a], []⟩) (fun r s' => r = .ok (.ret (.bool true)) ∧ OldK s₁.heap s'.heap ∧ s'.os = s₁.os ∧ AllBare s'.gens) s₁) :
    WalkO q loose XP YP l.row.toRowW d [] (fun f vs => PySem.call f vs) := by
  intro w s₀ s₁ mg mb G Y fa o pm cd doc dV kV ho hd hcd hD hmg hg args vals as hpre hlay hrd hwl hlo
  obtain rfl : dV = .none := Dflts.none hD hdf
  obtain rfl : kV = .none := Dflts.noKw hD
  obtain ⟨a, vs, ns, rfl, rfl, hobj, hints, hlen⟩ := script_of hn hpre hwl
  refine enter_call (codeAny_mono (call w s₀ s₁ mg mb fa o pm cd doc a vs ns G Y ho (fd_plain hd) hcd hmg hobj hints hlen hg) fun r s' hq => ?_)
  obtain ⟨rfl, h2, h3, h4⟩ := hq
  exact ⟨.inl ⟨.bool true, .bool true, [], rfl, fun _ => rfl, .bool true, post_true l _, fun _ => ⟨List.Pairwise.nil, fun _ hm => (nomatch hm)⟩⟩, h2, h3, h4⟩

/-! ### rules over ANY heap (no ledger) from facts about the written part K: the library's own take a ledger (News) for what they write -/
section
variable {prog : Program} {w : World} {A : Around} {E : Value → Shared → Prop} {s : Shared} {K : Frag}

/-! the whole heap as the ledger: makes every rule that writes through a ledger a rule over any heap -/
def ledger (h : Heap) (L d : Addr) : List (Addr × Obj) := (List.range h.objs.size).filterMap fun a => if a = L ∨ a = d then none else (h.get? a).map fun o => (a, o)
end
end Att

namespace L2
open PySem PySem.Spec PyProof.Rows

theorem vals_ints : ∀ {vs : List Value} {ns : List Int}, IntsAre vs ns → Vals (ns.map V.int) vs
  | _, _, .nil => .nil
  | _, _, .cons n t h => .cons ⟨t, rfl⟩ (vals_ints h)

/-- nothing is tracked but the script, known to the object (or it is an object of the module) -/
def Only (H : Hp) : Prop := ∀ b, H b = none ∨ ∃ o xs, H b = some (.frz o (.lst xs))

/-- THE HEAD: the law's promise, at the heap behind the top. F, the promise of the law's def, may use that base is part of the heap (so K.In base, base.Ns mainGlobals mg stand in Mod) -/
theorem law_call {P : Program} {w : World} {K : PySem.W.Frag} {mg mb : Str → Option Value} {CX : CXT} {k : Nat} {fa a : Addr} {fd : FuncData} {x : Str} {sp : Sp} {s₁ : Shared} {vs : List Value} {ns : List Int}
    (KX : K.In s₁.heap) (hns : s₁.heap.Ns mainGlobals mg) (hb : s₁.heap.Ns builtinsNs mb) (hbb : ∀ x : Str, x ≠ "__name__" → mb x = bootBuiltins x) (hlim : s₁.heap.NoLimit) (hg : s₁.gens = #[])
    (ha : s₁.heap.get? a = some { cls := .type "list", data := .seq vs.toArray }) (hi : IntsAre vs ns) (hl : ns.length ≤ sizeLine) (hr : Room k callerA)
    (F : ∀ base : Heap, K.In base → base.Ns mainGlobals mg → FnOk P w K mg base CX k fa fd [x] sp) (hbind : ∀ (s : Shared) (u : Value), BindsTo s fd ⟨[u], []⟩ [(x, u)])
    (hsp : ∀ H : Hp, Only H → SqL K H a (ns.map V.int) → sp [.ref a] H (fun v _ => v = .bl true) fun _ _ _ => False)
    (hCX : ∀ H e s', CX [] H s₁ (fun _ _ _ => False) e s' → False) :
    codeAny (model P w) callerA (.call (.ref fa) ⟨[.ref a], []⟩) (fun r s' => r = .ok (.ret (.bool true)) ∧ OldK s₁.heap s'.heap ∧ s'.os = s₁.os ∧ AllBare s'.gens) s₁ := by
  have rv := vals_ints hi
  have lenV := hi.length
  have core : ∀ H : Hp, Only H → SqL K H a (ns.map V.int) → HOk P w H s₁.heap → (∀ b, H b ≠ none → b = a) → (H a ≠ none → K.lookup a = none) →
      codeAny (model P w) callerA (.call (.ref fa) ⟨[.ref a], []⟩) (fun r s' => r = .ok (.ret (.bool true)) ∧ OldK s₁.heap s'.heap ∧ s'.os = s₁.os ∧ AllBare s'.gens) s₁ := by
    intro H hO hS hok hA hK
    have base_of : ∀ {b : Addr} {o : Obj}, s₁.heap.get? b = some o → H b = none → (hidT s₁.heap H).get? b = some o := fun e n => hidT_get e n
    have noA : ∀ {b : Addr} {o : Obj} {es : Array DictEntry} {ep : Nat}, s₁.heap.get? b = some o → o.data = .dict es ep → H b = none := fun {b o es ep} e d => by
      cases q : H b with
      | none => rfl
      | some u =>
        have e' : b = a := hA b (by rw [q]; simp)
        subst e'
        rw [ha] at e; cases e
        have d' : Data.seq vs.toArray _ = Data.dict es ep := d
        cases d'
    have nsK : ∀ {b : Addr} {m : Str → Option Value}, s₁.heap.Ns b m → (hidT s₁.heap H).Ns b m := fun {b m} ⟨o, es, ep, e, d, r⟩ => ⟨o, es, ep, base_of e (noA e d), d, r⟩
    have hKb : K.In (hidT s₁.heap H) := fun b o e => base_of (KX b o e) (by
      cases q : H b with
      | none => rfl
      | some u =>
        have e' : b = a := hA b (by rw [q]; simp)
        subst e'
        rw [hK (by rw [q]; simp)] at e; cases e)
    have hM : Mod K mg (hidT s₁.heap H) := ⟨hKb, nsK hns, ⟨mb, nsK hb, hbb⟩, let ⟨mc, h1, h2⟩ := hlim; ⟨mc, nsK h1, h2⟩⟩
    have e0 : Env0 P w K mg (hidT s₁.heap H) callerA [] s₁ H := ⟨rfl, hM, fun b o e => of_hidT e, Nat.le_of_eq (hidT_size _ _), trivial, fun b hb => absurd (show b ∈ ([] : List Addr) from hb) (by simp), hok, .of_eq hg⟩
    refine codeAny_mono ((F _ hKb (nsK hns)).run callerA [] s₁ H ⟨[.ref a], []⟩ [.ref a] [.ref a] _ _ hr e0 (hbind s₁ (.ref a)) (.cons rfl .nil) (hsp H hO hS)) fun r s' h => ?_
    cases r with
    | error e => exact (hCX H e s' h).elim
    | ok fl =>
      cases fl with
      | next => exact False.elim h
      | brk => exact False.elim h
      | cont => exact False.elim h
      | ret u =>
        obtain ⟨v, H', os, bare, un, hok', r', q⟩ := h
        have q' : v = .bl true := q
        subst q'
        obtain rfl : u = Value.bool true := r'
        refine ⟨rfl, OldK.of_keep fun b o e => ?_, os, bare⟩
        cases q : H b with
        | none => exact un.keep b o e q (by intro z; exact absurd (show b ∈ ([] : List Addr) from z) (by simp)) (by simp)
        | some u =>
          rcases hO b with z | ⟨ob, xs, z⟩
          · rw [q] at z; cases z
          · have z2 := un.frzs b ob _ z
            obtain ⟨e1, _⟩ := hok b _ z
            obtain ⟨e2, _⟩ := hok' b _ z2
            rw [e] at e1; cases e1
            exact e2
  cases hk : K.lookup a with
  | some o =>
    have e := KX a o hk
    rw [ha] at e
    cases e
    refine core (fun _ => none) (fun _ => .inl rfl) (.inr ⟨_, vs.toArray, _, hk, rfl, rfl, rfl, by rw [List.size_toArray, lenV]; exact hl, by simpa using rv⟩) (fun b u z => by have z' : (none : Option HO) = some u := z; cases z') (fun b z => absurd rfl z) fun z => absurd rfl z
  | none =>
    refine core (fun b => if b = a then some (.frz { cls := .type "list", data := .seq vs.toArray } (.lst (ns.map V.int))) else none) (fun b => ?_) (.inl (.inr ⟨{ cls := .type "list", data := .seq vs.toArray }, if_pos rfl⟩)) (fun b u z => ?_) (fun b z => ?_) fun _ => hk
    · by_cases hb : b = a
      · exact .inr ⟨_, _, if_pos hb⟩
      · exact .inl (if_neg hb)
    · by_cases hb : b = a
      · have z' := (if_pos hb).symm.trans z
        cases z'
        subst hb
        exact ⟨ha, by rw [List.length_map]; exact hl, vs, _, rv, ha⟩
      · have z' := (if_neg hb).symm.trans z
        cases z'
    · by_cases hb : b = a
      · exact hb
      · exact absurd (if_neg hb) z
end L2

namespace L2
open PySem PySem.Spec PyProof.Rows

abbrev KOf {K : PySem.W.Frag} {h : Heap} (_ : K.In h) : PySem.W.Frag := K

/-- the goal that k_head leaves (case hc), from the law's promise. F gives the function object fd (K's own) once, then the promise over every base -/
theorem walk_of {l : PySem.W.OpenLaw} {n k : Nat} {q : Program} {loose : List Str} {XP : (Str → Option Value) → Heap → Prop} {YP : World → Heap → Prop} {d : DefRec} {K : Params → PySem.W.Frag} {CX : World → CXT} {sp : World → Sp} {x : Str}
    (hn : l.most = some n) (hn2 : n ≤ sizeLine) (hdf : d.params.defaults = []) (hr : Room k callerA)
    (hY : ∀ (w : World) (h : Heap), YP w h → (K w.params).In h)
    (F : ∀ (w : World) (mg : Str → Option Value) (fa : Addr) (h : Heap), (K w.params).In h → h.Ns mainGlobals mg → mg d.name = some (.ref fa) →
      ∃ fd : FuncData, (∀ (s : Shared) (u : Value), BindsTo s fd ⟨[u], []⟩ [(x, u)]) ∧
        ∀ base : Heap, (K w.params).In base → base.Ns mainGlobals mg → FnOk l.prog w (K w.params) mg base (CX w) k fa fd [x] (sp w))
    (hsp : ∀ (w : World) (H : Hp) (a : Addr) (ns : List Int), ns.length ≤ n → Only H → SqL (K w.params) H a (ns.map V.int) → sp w [.ref a] H (fun v _ => v = .bl true) fun _ _ _ => False)
    (hCX : ∀ (w : World) (H : Hp) (s : Shared) (e : Value) (s' : Shared), CX w [] H s (fun _ _ _ => False) e s' → False) :
    PySem.W.WalkO q loose XP YP l.row.toRowW d [] (fun f vs => PySem.call f vs) := by
  refine Att.attach_call hn hdf fun w s₀ s₁ mg mb fa o pm cd doc a vs ns G Y ho hd hcd hmg hobj hints hlen hg => ?_
  have KX := hY w _ Y
  obtain ⟨fd, hb, hF⟩ := F w mg fa _ KX G.T.g hmg
  exact law_call KX G.T.g G.T.b G.T.builtins G.T.nolimit hg hobj hints (Nat.le_trans hlen hn2) hr hF hb (fun H hO hS => hsp w H a ns hlen hO hS) fun H e s' => hCX w H s₁ e s'
end L2

/- THE LAST THEOREM (shape; LID, My.* are yours):
   My.Adr: a structure of the addresses that your layer names (classes, functions); My.Txt K t: a structure (Prop) of the equations over K;
   My.txt_mk : {K} {implicit addresses ..} (e1 : nsIn K mainGlobals "law" = some (some (.ref f))) (e2 : K.lookup f = some ⟨oc, od, .func (fnOf "law" "law" params body scope dV kV doc pm an cdv ct), sl⟩) (e3 : codeIn K cdv "law" = true) .. : ∃ t, My.Txt K t

set_option maxRecDepth 100000 in
set_option maxHeartbeats 0 in
theorem PySem.Challenge.cw_LID_holds : PySem.Challenge.rw_LID.Holds := by
  w_on; o_law; k_head; (case hw => w_witness2)
  k_fill
  refine L2.walk_of (l := PySem.Challenge.rw_LID) (n := 63) (k := 40) (x := "script") (CX := fun w => ..) (sp := fun _ => My.sp_law) rfl (by decide) rfl ⟨rfl, by decide, by decide⟩ (fun w h Y => PySem.W.kIn_of Y) ?F ?S ?C
  case F =>
    intro w mg fa h KX G hmg
    have T : ∃ t, My.Txt (L2.KOf KX) t := by
      dsimp only [L2.KOf]                          -- K must stand as «<heap const> w.params» for k_is
      refine' My.txt_mk ?e1 ?e2 ?e3 ..
      (case e1 => PySem.W.k_is)                    -- in the order: a name -> its address -> its object -> its parts
      (case e2 => PySem.W.k_is)
      ..
    obtain ⟨t, T⟩ := T
    have e0 := hmg.symm.trans (PySem.W.mg_of KX G T.law)
    cases e0                                       -- fa is the law's own address
    exact ⟨_, fun s u => .of_eq rfl, fun base kb nb => My.law_fn T kb nb⟩     -- if «.of_eq rfl» comes too early: refine' ⟨_, ?b, fun base kb nb => My.law_fn T kb nb⟩; exact fun s u => .of_eq rfl
  case S => exact fun w H a ns hl hO hS => ..
  case C => exact ..
(the tactic k_is has no namespace: write k_is) -/

/-! SHORT WORDS over the layer: a def of the text, its body, what a loop and a test want. -/
namespace L2
open PySem PySem.Spec PyProof.Rows

/-! ### the text by places -/
def defArgs (s : Stmt) : Arguments := match s with
  | .FunctionDef _ a _ _ _ _ _ _ _ _ => a
  | _ => { posonlyargs := [], args := [], vararg := none, kwonlyargs := [], kw_defaults := [], kwarg := none, defaults := [] }
def defBody (s : Stmt) : List Stmt := match s with
  | .FunctionDef _ _ b _ _ _ _ _ _ _ => b
  | _ => []
def defScope (s : Stmt) : Scope := match s with
  | .FunctionDef _ _ _ _ _ _ sc _ _ _ => sc
  | _ => { kind := .function, names := [], isGenerator := false, isCoroutine := false }

/-! ### no exception leaves a def -/
abbrev CX0 : CXT := fun _ _ _ _ _ _ => False
abbrev E0 : XK := fun _ _ _ => False
theorem pass0 {X : Cx} : Passes CX0 X E0 := fun _ _ _ _ _ _ _ h => h.elim

/-! ### a def (or method) of the text as it stands behind the top -/
structure Fun (K : PySem.W.Frag) (x qual : Str) (st : Stmt) (f : Addr) (fd : FuncData) : Prop where
  ex : ∃ (oc : Value) (od : Option Addr) (kV doc pm : Value) (an : Option Addr) (cdv ct : Value) (osl : Array (Option Value)),
    fd = PySem.W.fnOf x qual (defArgs st) (defBody st) (defScope st) .none kV doc pm an cdv ct ∧ K.lookup f = some ⟨oc, od, .func fd, osl⟩ ∧ PySem.W.codeIn K cdv qual = true
  kp : PySem.W.keepIn K (.ref f) = true
section
variable {P : Program} {w : World} {K : PySem.W.Frag} {mg : Str → Option Value} {base : Heap}
/-- THE RULE for a def: its body as a term of rules, and the reading of that term -/
theorem Fun.ok {x qual : Str} {st : Stmt} {f : Addr} {fd : FuncData} {N ps : List Str} {k : Nat} {sp : Sp} (F : Fun K x qual st f fd) (S : FnScope N ps (defScope st)) (len : ∀ vs H Q E, sp vs H Q E → vs.length = ps.length)
    (hbody : ∀ (cdv : Value) (A : Around) (outer : List Env) (s : Shared) (H : Hp) (vs : List V) (Q : VK) (E : XK), Room k (A.deeper (envOfC qual (defScope st) s.heap.objs.size f cdv)) → sp vs H Q E →
      ∃ t, PSs (cxOf CX0 P w K mg base N qual (defScope st) f cdv A outer s H E).nox (defBody st) t ∧ t { nx := fun _ H' => Q .non H', rt := Q } (start N vs) H) : FnOk P w K mg base CX0 (k + 1) f fd ps sp := by
  obtain ⟨oc, od, kV, doc, pm, an, cdv, ct, osl, rfl, lk, hcd⟩ := F.ex
  refine fn_of lk hcd S len fun A outer s H vs Q E hr hsp => ?_
  obtain ⟨t, h, q⟩ := hbody cdv A outer s H vs Q E hr hsp
  exact ⟨t, h.nox, q⟩
/-- how its arguments bind (no defaults): h is «fun _ _ _ _ _ _ us hl => match us, hl with | [_, _], _ => rfl», one _ a parameter -/
theorem Fun.binds {x qual : Str} {st : Stmt} {f : Addr} {fd : FuncData} {ps : List Str} (F : Fun K x qual st f fd)
    (h : ∀ (kV doc pm : Value) (an : Option Addr) (cdv ct : Value) (us : List Value), us.length = ps.length → bindArgs (PySem.W.fnOf x qual (defArgs st) (defBody st) (defScope st) .none kV doc pm an cdv ct) ⟨us, []⟩ = pure (ps.zip us)) : Binds K fd ps [] := by
  obtain ⟨oc, od, kV, doc, pm, an, cdv, ct, osl, rfl, lk, hcd⟩ := F.ex
  exact .all (h kV doc pm an cdv ct)
theorem fun_mk {x qual : Str} {st : Stmt} {f : Addr} {oc : Value} {od an : Option Addr} {osl : Array (Option Value)} {kV doc pm cdv ct : Value} (l : K.lookup f = some ⟨oc, od, .func (PySem.W.fnOf x qual (defArgs st) (defBody st) (defScope st) .none kV doc pm an cdv ct), osl⟩)
    (c : PySem.W.codeIn K cdv qual = true) (k : PySem.W.keepIn K (.ref f) = true) : Fun K x qual st f (PySem.W.fnOf x qual (defArgs st) (defBody st) (defScope st) .none kV doc pm an cdv ct) := ⟨⟨oc, od, kV, doc, pm, an, cdv, ct, osl, rfl, l, c⟩, k⟩
end
/-! ### expressions in short: the name that stands in the i-th slot -/
section
variable {X : Cx}
theorem pv (i : Nat) {x : Str} {pos : Pos} (hN : X.N[i]? = some x := by rfl) (hv : Vis X.env.scope x := by first | exact Or.inl rfl | exact Or.inr (Or.inl rfl) | exact Or.inr (Or.inr rfl)) (hd : (x == ("__debug__" : Str)) = false := by decide)
    (hcd : (x == ("__classdict__" : Str)) = false := by decide) : PE X (.Name x pos) (tVar i) := pe_var hN hv hd hcd
end

/-! ### tests -/
theorem iteF {A B : Prop} (h : B) : if false = true then A else B := by
  rw [if_neg Bool.false_ne_true]
  exact h
theorem iteT {A B : Prop} (h : A) : if true = true then A else B := by
  rw [if_pos rfl]
  exact h
/-! ### heaps -/
/-- all that was tracked is as it was -/
def Same (H H' : Hp) : Prop := ∀ b o, H b = some o → H' b = some o
theorem Same.refl (H : Hp) : Same H H := fun _ _ h => h
theorem Same.trans {H H1 H2 : Hp} (a : Same H H1) (b : Same H1 H2) : Same H H2 := fun c o h => b c o (a c o h)
theorem Same.free {H H' : Hp} (e : Same H H') {l : Addr} (h : H' l = Option.none) : H l = Option.none := by
  cases q : H l with
  | none => rfl
  | some o =>
    rw [e l o q] at h
    cases h
theorem Same.seq {K : PySem.W.Frag} {H H' : Hp} {a : Addr} {xs : List V} (e : Same H H') (h : SqL K H a xs) : SqL K H' a xs := by
  rcases h with (h | ⟨o, h⟩) | h
  · exact .inl (.inl (e _ _ h))
  · exact .inl (.inr ⟨o, e _ _ h⟩)
  · exact .inr h

/-! ### a dict's pairs: keys that differ -/
section
variable {κ : Type} [DecidableEq κ]
end
end L2
/-! ### exceptions: own classes, raised in a def, caught by a caller -/
namespace L2
open PySem PySem.Spec PyProof.Rows

theorem ObjOk.got {P : Program} {w : World} {H : Hp} {h : Heap} {a : Addr} {o : HO} (x : ObjOk P w H h a o) : ∃ ob, h.get? a = some ob := by
  cases o with
  | lst xs => obtain ⟨_, _, _, _, e⟩ := x; exact ⟨_, e⟩
  | tup xs => obtain ⟨_, _, _, ob, e, _⟩ := x; exact ⟨_, e⟩
  | dK kvs => obtain ⟨_, _, _, _, o, _, _, e, _⟩ := x; exact ⟨_, e⟩
  | dT kvs => obtain ⟨_, _, _, _, o, _, _, e, _⟩ := x; exact ⟨_, e⟩
  | set S n => obtain ⟨o, _, _, _, e, _⟩ := x; exact ⟨_, e⟩
  | ins C dx fs => obtain ⟨_, _, _, e, _⟩ := x; exact ⟨_, e⟩
  | own y => exact x
  | xd fs => obtain ⟨_, ⟨_, _, _, e, _⟩, _⟩ := x; exact ⟨_, e⟩
  | rng lo hi => obtain ⟨_, _, _, e⟩ := x; exact ⟨_, e⟩
  | frz ob u => obtain ⟨e, _⟩ := x; exact ⟨_, e⟩
  | tbl ps => exact ⟨_, (show h.get? a = some _ from x)⟩
  | met f y => exact ⟨_, (show h.get? a = some _ from x)⟩
  | ext φ => obtain ⟨_, e, _⟩ := x; exact e

/-- an exception of the class c flies over the frames l: what was there at s, and what is tracked, stands -/
structure Fly (P : Program) (w : World) (l : List Env) (H₀ : Hp) (s : Shared) (c : Value) (H' : Hp) (e : Value) (s' : Shared) : Prop where
  ex : ∃ (ea : Addr) (a0 : Value) (B : Heap), e = .ref ea ∧ Heap.FlyingW B l ea c a0 s'.heap ∧
    ∀ b o, s'.heap.get? b = some o → b ∉ frs l → ((∃ o', s.heap.get? b = some o') ∨ H' b ≠ none) → B.get? b = some o
  os : s'.os = s.os
  bare : AllBare s'.gens
  un : Un (frs l) [] H₀ H' s.heap s'.heap
  hok : HOk P w H' s'.heap
/-- how an exception lies behind a call -/
def CXE (P : Program) (w : World) : CXT := fun outer H s E e s' => ∃ c H', Fly P w outer H s c H' e s' ∧ E c none H'

section
variable {P : Program} {w : World} {l : List Env} {H H' : Hp} {s s' : Shared} {h2 : Heap} {base : Heap}
/-- the frames' slots turn, all else that was there or is tracked stays -/
theorem Un.slots (hf : s.heap.FunFrames base l) (fr : ∀ b ∈ frs l, H b = none) (u : Un (frs l) [] H H' s.heap s'.heap) (hok : HOk P w H' s'.heap)
    (kp : ∀ b o, s'.heap.get? b = some o → b ∉ frs l → ((∃ o', s.heap.get? b = some o') ∨ H' b ≠ none) → h2.get? b = some o) (x4 : s'.heap.UpToSlots h2) :
    Un (frs l) [] H H' s.heap h2 ∧ HOk P w H' h2 := by
  have nofr : ∀ b, H' b ≠ none → b ∉ frs l := fun b hb hm => by
    obtain ⟨_, o, ho, _⟩ := hf.mem hm
    exact hb (u.free b o ho (fr b hm) (by simp))
  have slot : ∀ b o, s.heap.get? b = some o → b ∈ frs l → ∃ sl, h2.get? b = some { o with slots := sl } := fun b o q hm => by
    obtain ⟨sl, e⟩ := u.slot b o q (fr b hm) hm (by simp)
    obtain ⟨_, o2, ho2, hd⟩ := hf.mem hm
    rw [q] at ho2
    cases ho2
    obtain ⟨sl2, e2⟩ := x4 b _ e hd
    exact ⟨sl2, e2⟩
  refine ⟨⟨fun b o q n hb hx => kp b o (u.keep b o q n hb hx) hb (.inl ⟨o, q⟩), fun b o q n hb hx => slot b o q hb, u.free, fun b o q hx => ?_, u.tups, u.frzs, u.tbls⟩, fun a o q => ?_⟩
  · by_cases hm : b ∈ frs l
    · obtain ⟨sl, e⟩ := slot b o q hm
      exact ⟨_, e⟩
    · obtain ⟨o', e⟩ := u.there b o q hx
      exact ⟨o', kp b o' e hm (.inl ⟨o, q⟩)⟩
  · refine (hok a o q).stay (fun b u hb e => ?_) (fun _ z => z) fun _ _ z => z
    have ht : H' b ≠ none := by
      rcases hb with rfl | hb
      · rw [q]; exact fun z => nomatch z
      · rw [hb]; exact fun z => nomatch z
    exact kp b u e (nofr b ht) (.inr ht)
end

section
variable {X : Cx} {pins : List (Addr × Obj)} {σ : St} {H H' : Hp} {s s' : Shared} {c : Value} {e : Value} {E : Value → Shared → Prop}
theorem Inv.frameless (I : Inv X pins σ H s) (hst : X.stack = X.env :: X.outer) (hf : X.env.frame = some X.env.locals) {b : Addr} (hb : b ∉ X.fs) (h : (∃ o', X.s₀.heap.get? b = some o') ∨ H b ≠ none) : b ∉ frs X.stack := by
  intro hm
  rcases List.mem_cons.mp (I.stkSub b hm) with z | z
  · subst z
    rcases h with ⟨o', q⟩ | q
    · exact absurd (Nat.lt_of_lt_of_le (Heap.lt_size q) I.ok.above) (Nat.lt_irrefl _)
    · exact q I.free
  · exact hb z
/-- a call has ended in an exception: the body's state stands -/
theorem Fly.inv (I : Inv X pins σ H s) (F : Fly X.prog X.w X.stack H s c H' e s') : Inv X pins σ H' s' := by
  obtain ⟨hh, g, d, t, os'⟩ := s'
  obtain rfl : os' = s.os := F.os
  exact I.call (h' := hh) (g' := g) (d' := d) (t' := t) (ch := []) F.un F.hok F.bare (fun b z => absurd z (by simp))
/-- from the state s1 of the body (an exception in flight there), the frame's end: it flies over the callers -/
theorem Inv.landed {s1 : Shared} {h2 : Heap} {B : Heap} {ea : Addr} {a0 : Value} (I : Inv X pins σ H s1) (hex : X.ex = []) (hst : X.stack = X.env :: X.outer) (hf : X.env.frame = some X.env.locals)
    (cov : ∀ b o, s1.heap.get? b = some o → b ∉ frs X.stack → ((∃ o', X.s₀.heap.get? b = some o') ∨ H b ≠ none) → B.get? b = some o)
    (x1 : Heap.FlyingW B X.outer ea c a0 h2) (x4 : s1.heap.UpToSlots h2) : Fly X.prog X.w X.outer X.H₀ X.s₀ c H (.ref ea) { s1 with heap := h2 } := by
  have st := I.stack
  have kp : ∀ b o, s1.heap.get? b = some o → b ∉ frs X.stack → ((∃ o', X.s₀.heap.get? b = some o') ∨ H b ≠ none) → h2.get? b = some o := fun b o q n h => x1.1 b o (cov b o q n h)
  have U := I.base
  rw [hex] at U
  have fr : ∀ b ∈ frs X.outer, X.H₀ b = none := I.ok.frf
  have kp2 : ∀ b o, s1.heap.get? b = some o → b ∉ frs X.outer → ((∃ o', X.s₀.heap.get? b = some o') ∨ H b ≠ none) → h2.get? b = some o := fun b o q n h => kp b o q (I.frameless hst hf n h) h
  obtain ⟨u2, k2⟩ := Un.slots (s := X.s₀) (s' := s1) I.ok.funs fr U I.hok kp2 x4
  refine ⟨⟨ea, a0, B, rfl, x1, fun b o q n h => ?_⟩, I.os, I.bare, u2, k2⟩
  have nf := I.frameless hst hf n h
  obtain ⟨o3, q3⟩ : ∃ o3, s1.heap.get? b = some o3 := by
    rcases h with ⟨o', q'⟩ | h
    · exact U.there b o' q' (by simp)
    · cases hb : H b with
      | none => exact absurd hb h
      | some u => exact (I.hok b u hb).got
  have hB := cov b o3 q3 nf h
  have := x1.1 b o3 hB
  have q : h2.get? b = some o := q
  rw [q] at this
  cases this
  exact hB
theorem leave_fly {M : Model} (I : Inv X pins σ H s) (hex : X.ex = []) (hst : X.stack = X.env :: X.outer) (hf : X.env.frame = some X.env.locals) (F : Fly X.prog X.w X.stack H s c H' e s') :
    wpAny M X.A (leaving X.env e) (fun _ s'' => Fly X.prog X.w X.outer X.H₀ X.s₀ c H' e s'') E s' := by
  obtain ⟨ea, a0, B, rfl, fl, cov⟩ := F.ex
  have I' := F.inv I
  have hfr : X.A.frames = some (X.env :: X.outer) := by rw [I.ok.frames, hst]
  rw [hst] at fl
  refine wpAny_leaves_onW hfr hf fl fun h2 x1 x4 => ?_
  refine I'.landed hex hst hf (fun b o q n h => cov b o q n ?_) x1 x4
  rcases h with ⟨o', q'⟩ | h
  · left
    exact I.base.there b o' q' (by rw [hex]; simp)
  · exact .inr h
theorem leave_made {M : Model} {h' : Heap} {ea : Addr} {vs : List Value} (I : Inv X pins σ H s) (hex : X.ex = []) (hst : X.stack = X.env :: X.outer) (hf : X.env.frame = some X.env.locals) (hx : Heap.MadeExcOf s.heap h' ea c vs) :
    wpAny M X.A (leaving X.env (.ref ea)) (fun _ s'' => Fly X.prog X.w X.outer X.H₀ X.s₀ c H (.ref ea) s'') E { s with heap := h' } := by
  have hfr : X.A.frames = some (X.env :: X.outer) := by rw [I.ok.frames, hst]
  have hl : s.heap.FunFrames (PySem.W.hideAll s.heap (frs X.stack)) (X.env :: X.outer) := by
    have := PySem.W.funFrames_hide (as := frs X.stack) I.stack fun env he b hb => List.mem_filterMap.mpr ⟨env, he, hb⟩
    rw [hst] at this ⊢
    exact this
  refine wpAny_leaves_madeW hfr hf (fun b o q => PySem.W.of_hideAll _ q) hl hx fun h2 t x1 x2 x3 x4 => ?_
  have x4' : s.heap.UpToSlots h2 := (Heap.UpToSlots.of_keeps hx.keeps).trans x4
  exact I.landed hex hst hf (fun b o q n h => PySem.W.hideAll_get _ q n) x1 x4'
end

/-- a call's exception reaches what is wanted: R of the class, the names' values and the heap -/
def XPass (X : Cx) (R : Value → St → Hp → Prop) : Prop :=
  ∀ (pins : List (Addr × Obj)) (σ : St) (H : Hp) (s : Shared) (e : Value) (s' : Shared) (c : Value) (H' : Hp), Inv X pins σ H s → Fly X.prog X.w X.stack H s c H' e s' → R c σ H' → X.xe e s'
/-- what is wanted of exceptions in a body: R of the class, the names' values and the heap -/
structure XOk (X : Cx) (R : Value → St → Hp → Prop) : Prop where
  made : ∀ (pins : List (Addr × Obj)) (σ : St) (H : Hp) (s : Shared) (ea : Addr) (vs : List Value) (c : Value) (h' : Heap), Inv X pins σ H s → Heap.MadeExcOf s.heap h' ea c vs → R c σ H → X.xe (.ref ea) { s with heap := h' }
  pass : XPass X R
section
variable {P : Program} {w : World} {K : PySem.W.Frag} {mg : Str → Option Value} {base : Heap} {N ps : List Str} {qual : Str} {scope : Scope} {f : Addr} {cd : Value} {A : Around} {outer : List Env} {s : Shared} {H : Hp} {E : XK}
/-- in a def's body: it leaves the frame -/
theorem xok_fn : XOk (cxOf (CXE P w) P w K mg base N qual scope f cd A outer s H E) (fun c _ H' => E c none H') where
  made := fun pins σ H1 s1 ea vs c h' I hx r => wpAny_mono (leave_made (E := fun _ _ => False) I rfl rfl rfl hx) (fun _ s'' F => ⟨c, H1, F, r⟩) fun _ _ z => z.elim
  pass := fun pins σ H1 s1 e s' c H' I F r => wpAny_mono (leave_fly (E := fun _ _ => False) I rfl rfl rfl F) (fun _ s'' F => ⟨c, H', F, r⟩) fun _ _ z => z.elim
theorem own_fn : PassesOwn (model P w) (cxOf (CXE P w) P w K mg base N qual scope f cd A outer s H E).A (cxOf (CXE P w) P w K mg base N qual scope f cd A outer s H E).env (cxOf (CXE P w) P w K mg base N qual scope f cd A outer s H E).xe :=
  PassesOwn.leaving
end
section
variable {P : Program} {w : World} {K : PySem.W.Frag} {mg : Str → Option Value} {base : Heap}
/-- THE RULE for a def that may raise -/
theorem Fun.okX {x qual : Str} {st : Stmt} {f : Addr} {fd : FuncData} {N ps : List Str} {k : Nat} {sp : Sp} (F : Fun K x qual st f fd) (S : FnScope N ps (defScope st)) (len : ∀ vs H Q E, sp vs H Q E → vs.length = ps.length)
    (hbody : ∀ (cdv : Value) (A : Around) (outer : List Env) (s : Shared) (H : Hp) (vs : List V) (Q : VK) (E : XK), Room k (A.deeper (envOfC qual (defScope st) s.heap.objs.size f cdv)) → sp vs H Q E →
      ∃ t, PSs (cxOf (CXE P w) P w K mg base N qual (defScope st) f cdv A outer s H E) (defBody st) t ∧ t { nx := fun _ H' => Q .non H', rt := Q } (start N vs) H) : FnOk P w K mg base (CXE P w) (k + 1) f fd ps sp := by
  obtain ⟨oc, od, kV, doc, pm, an, cdv, ct, osl, rfl, lk, hcd⟩ := F.ex
  exact fn_of lk hcd S len fun A outer s H vs Q E hr hsp => hbody cdv A outer s H vs Q E hr hsp
end

section
variable {X : Cx} {k : Nat} {f C : Addr} {fd : FuncData} {ps : List Str} {sp : Sp} {dvs : List V} {ds : List Value} {R : Value → St → Hp → Prop} {x m : Str} {p pos apos np cpos : Pos} {e o : Expr} {es : List Expr} {ta : TE} {t : TA}
def tCallX (sp : Sp) (dvs : List V) (R : Value → St → Hp → Prop) (t : TA) : TE := fun σ H Q => t σ H fun vs H1 => sp (vs ++ dvs) H1 Q fun c _ H' => R c σ H'
theorem run_fnX {pins : List (Addr × Obj)} {σ : St} {H : Hp} {s : Shared} {Q : VK} {us : List Value} {vs : List V} (F : FnOk X.prog X.w X.K X.mg X.base (CXE X.prog X.w) k f fd ps sp) (hr : Room k X.A) (hb : Binds X.K fd ps ds) (hd : Vals dvs ds) (hx : XPass X R)
    (I : Inv X pins σ H s) (r : Vals vs us) (h : sp (vs ++ dvs) H Q fun c _ H' => R c σ H') : wpAny (model X.prog X.w) X.A (call (.ref f) us) (EP X pins σ Q) X.xe s := by
  have r2 : Vals (vs ++ dvs) (us ++ ds) := r.append hd
  have hl : (us ++ ds).length = ps.length := by rw [← r2.length]; exact F.len _ _ _ _ h
  refine wpAny_call (codeAny_mono (F.run X.A X.stack s H ⟨us, []⟩ (us ++ ds) (vs ++ dvs) Q _ hr I.env0 (hb s us I.kIn hl) r2 h) fun r s' hq => ?_)
  cases r with
  | error e =>
    obtain ⟨c, H', F', q⟩ := hq
    exact hx pins σ H s e s' c H' I F' q
  | ok fl =>
    cases fl with
    | ret u => exact I.after hq
    | next => exact False.elim hq
    | brk => exact False.elim hq
    | cont => exact False.elim hq
/-- f(e, ..), which may raise -/
theorem pe_callX (F : FnOk X.prog X.w X.K X.mg X.base (CXE X.prog X.w) k f fd ps sp) (hr : Room k X.A) (hg : Gl X x) (hm : X.mg x = some (.ref f)) (hk : PySem.W.keepIn X.K (.ref f) = true) (hb : Binds X.K fd ps ds) (hd : Vals dvs ds) (hx : XPass X R)
    (ha : PA X (e :: es) t) (hdb : (x == ("__debug__" : Str)) = false := by decide) (he : starEach (e :: es) X.env = (false, eval e X.env) :: starEach es X.env := by rfl) (hpl : (backTo pos (starEach es X.env)).any (·.1) = false := by rfl) :
    PE X (.Call (.Name x p) (e :: es) [] pos) (tCallX sp dvs R t) := by
  intro pins s σ H Q I h
  refine wpAny_Call_Name_kw (ld_glob I hg hm ?_ hdb)
  refine PySem.W.callWith_K (h₀ := X.base) I.ok.mod.kin hk (thn (ha pos pins s σ H _ I h) fun us s1 ⟨vs, H1, I1, r, q⟩ => ⟨I1.kIn, ?_⟩) he hpl
  exact run_fnX F hr hb hd hx I1 r q
/-! raise C(..) -/
structure XCls (K : PySem.W.Frag) (mg : Str → Option Value) (x : Str) (C : Addr) : Prop where
  bound : mg x = some (.ref C)
  exc : PySem.W.excIn K C [.type "ValueError", .type "Exception", .type "BaseException", .type "object"] "ValueError.__new__" = true
theorem XCls.own {K : PySem.W.Frag} {mg : Str → Option Value} {x : Str} {C : Addr} {h : Heap} (c : XCls K mg x C) (KX : K.In h) : OwnCls x C [.type "ValueError", .type "Exception", .type "BaseException", .type "object"] "ValueError.__new__" mg h := by
  refine ⟨c.bound, ?_⟩
  have q := c.exc
  unfold PySem.W.excIn at q
  split at q
  · rename_i dd cd sl ho
    split at q
    · rename_i C' bm k0 k1 k2 k3 n k5 hm hs
      simp only [Bool.and_eq_true, beq_iff_eq, Bool.not_eq_true'] at q
      obtain ⟨⟨⟨⟨⟨rfl, rfl⟩, hdel⟩, ht⟩, hok⟩, hni⟩ := q
      obtain ⟨nm, bs, mro, ns, qn, hd, sn, sub, ab, col, del⟩ := cd
      dsimp only at hm hdel hok hni
      subst hm hdel
      have hsl : sl = #[k0, k1, k2, k3, some (.builtin "ValueError.__new__"), k5] := by
        obtain ⟨l⟩ := sl
        simp only at hs
        rw [hs]
      subst hsl
      exact ⟨bm, ns, nm, qn, bs, hd, sn, sub, ab, col, dd, k0, k1, k2, k3, k5, _, KX _ _ ho, .of_isNs (PySem.W.isNs_of_in KX hok), PySem.W.nsMap_none_of_in KX hok hni, PySem.W.tail_of_in KX ht⟩
    · cases q
  · cases q
def tRaise (R : Value → St → Hp → Prop) (C : Addr) (t : TA) : TS := fun _ σ H => t σ H fun vs H1 => vs.length ≤ sizeLine ∧ R (.ref C) σ H1
theorem ps_raise (hx : XOk X R) (hc : X.calm = true) (hg : Gl X x) (c : XCls X.K X.mg x C) (ha : PA X (e :: es) t) (hdb : (x == ("__debug__" : Str)) = false := by decide)
    (he : starEach (e :: es) X.env = (false, eval e X.env) :: starEach es X.env := by rfl) (hpl : (backTo cpos (starEach (e :: es) X.env)).any (·.1) = false := by rfl) :
    PS X (.Raise (some (.Call (.Name x np) (e :: es) [] cpos)) none pos) (tRaise R C t) := by
  intro pins s σ H D I h
  obtain ⟨tl, N, nm, q, bs, hdct, sn, sub, ab, col, dd, k0, k1, k2, k3, k5, mN, hC, hN, hni, T⟩ := (c.own I.ok.mod.kin).obj
  refine wpAny_Raise_call_subT (C := C) (nm := nm) (q := q) (N := N) (bs := bs) (bm := tl) (hdct := hdct) (sn := sn) (sub := sub) (ab := ab) (col := col) (dd := dd) (k0 := k0) (k1 := k1) (k2 := k2) (k3 := k3) (k5 := k5)
    PySem.F.excBase_ValueError (mN := mN) (T.hasType PySem.F.excBase_ValueError.hasBase) (I.ok.hd hc) hpl hni (ld_glob I hg c.bound ⟨rfl, ?_⟩ hdb)
  have key : wpAny (model X.prog X.w) X.A (spliced (backTo cpos (starEach (e :: es) X.env))) (fun vs s₂ => vs.length ≤ sizeLine ∧ (∀ b o, X.base.get? b = some o → s₂.heap.get? b = some o) ∧ ∀ h' e, Heap.MadeExcOf s₂.heap h' e (.ref C) vs → X.xe (.ref e) { s₂ with heap := h' }) X.xe s :=
    thn (ha cpos pins s σ H _ I h) fun us s2 ⟨vs, H2, I2, r, hl, q⟩ => ⟨by rw [← r.length]; exact hl, I2.bk, fun h' ea hm => hx.made pins σ H2 s2 ea us (.ref C) h' I2 hm q⟩
  rw [he] at key ⊢
  exact Calls.evalArgs_plain (wpAny_mono key (fun vs s₂ h₂ => ⟨rfl, h₂.1, h₂.2.1 _ _ hC, hN.keeps h₂.2.1, T.keeps h₂.2.1, h₂.2.2⟩) fun _ _ y => y)
end
end L2
namespace L2
open PySem PySem.Spec PyProof.Rows
section
variable {M : Model} {A : Around} {E : Value → Shared → Prop}
variable {nm q nm' q' : Str} {C N C' N' : Addr} {bs bm bs' bm' : List Value} {hdct hdct' : Bool} {sn sn' : List Str} {sub sub' : List Value} {ab ab' : Bool} {col col' : Option Bool} {dd dd' : Option Addr} {k0 k1 k2 k3 k5 j0 j1 j2 j3 j5 : Option Value} {newId newId' : String}
/-- of two own exception classes: is the one's exception taken by the other? -/
theorem excMatches_own {h : Heap} {g : Array GenState} {d : Drawn} {t : Nat} {os : OsState} {e : Addr} {oe : Obj} {b : Bool} {Q : Bool → Shared → Prop}
    (hC : h.get? C = some (excClassObj nm q C N bs bm hdct sn sub ab col dd k0 k1 k2 k3 k5 newId)) (hC' : h.get? C' = some (excClassObj nm' q' C' N' bs' bm' hdct' sn' sub' ab' col' dd' j0 j1 j2 j3 j5 newId'))
    (he : h.get? e = some oe) (hcls : oe.cls = .ref C) (hbase : bm'.contains (.type "BaseException") = true) (hb : (Value.ref C :: bm).contains (.ref C') = b)
    (hq : Q b ⟨h, g, d, t, os⟩) : wpAny M A (excMatches (.ref e) (.ref C')) Q E ⟨h, g, d, t, os⟩ := by
  have hcB : (Value.ref C' :: bm').contains (.type "BaseException") = true := by rw [List.contains_cons, hbase, Bool.or_true]
  have f := tc_notTuple
  unfold excMatches
  repeat (first | (with_reducible refine wpAny_loadPart_at he ?_; rw [hcls]) | with_reducible refine wpAny_loadPart_at hC' ?_ | (with_reducible refine wpAny_isSubtype_exc hC' ?_; rw [hcB]) | (with_reducible refine wpAny_isSubtype_exc hC ?_; rw [hb]) | wp_step)
  all_goals (cases b <;> first | exact hq | (wp_walk; exact hq))
end

theorem XCls.obj {K : PySem.W.Frag} {mg : Str → Option Value} {x : Str} {C : Addr} {h : Heap} (c : PySem.W.excIn K C [.type "ValueError", .type "Exception", .type "BaseException", .type "object"] "ValueError.__new__" = true) (KX : K.In h) :
    ∃ bm N nm q bs hdct sn sub ab col dd k0 k1 k2 k3 k5, h.get? C = some (excClassObj nm q C N bs bm hdct sn sub ab col dd k0 k1 k2 k3 k5 "ValueError.__new__") ∧ bm.contains (.type "BaseException") = true ∧ ∀ v, PySem.W.mroIn K C v = some ((Value.ref C :: bm).contains v) := by
  have q := c
  unfold PySem.W.excIn at q
  split at q
  · rename_i dd cd sl ho
    split at q
    · rename_i C' bm k0 k1 k2 k3 n k5 hm hs
      simp only [Bool.and_eq_true, beq_iff_eq, Bool.not_eq_true'] at q
      obtain ⟨⟨⟨⟨⟨rfl, rfl⟩, hdel⟩, ht⟩, hok⟩, hni⟩ := q
      have hmro : ∀ v, PySem.W.mroIn K C' v = some ((Value.ref C' :: bm).contains v) := fun v => by
        unfold PySem.W.mroIn PySem.W.clsIn
        rw [ho]
        simp [hm]
      obtain ⟨nm, bs, mro, ns, qn, hd, sn, sub, ab, col, del⟩ := cd
      dsimp only at hm hdel hok hni
      subst hm hdel
      have hsl : sl = #[k0, k1, k2, k3, some (.builtin "ValueError.__new__"), k5] := by
        obtain ⟨l⟩ := sl
        simp only at hs
        rw [hs]
      subst hsl
      exact ⟨bm, ns, nm, qn, bs, hd, sn, sub, ab, col, dd, k0, k1, k2, k3, k5, KX _ _ ho, (PySem.W.tail_of_in KX ht).hasType (by decide), hmro⟩
    · cases q
  · cases q

/-- the context of an except suite, where nothing is raised -/
abbrev Cx.hdl (X : Cx) (e : Value) : Cx := { X with A := X.A.mark (some e), calm := false, xe := fun _ _ => False }
section
variable {X : Cx} {pins : List (Addr × Obj)} {σ : St} {H H0 : Hp} {s sc : Shared} {c e : Value}
theorem Inv.hdl (I : Inv X pins σ H s) (e : Value) : Inv (X.hdl e) pins σ H s := by
  obtain ⟨ok, os, bare, bs, loc, cell, free, freeC, pin, hok, len⟩ := I
  obtain ⟨o1, o2, o3, o4, o5, o6, o7, o8, o9, o10, o11, o12, o13, o14, o15, o16, o17, o18⟩ := ok
  exact ⟨⟨o1, o2, o3, o4, o5, o6, o7, o8, (fun z => nomatch z), o10, o11, o12, o13, o14, o15, o16, o17, o18⟩, os, bare, bs, loc, cell, free, freeC, pin, hok, len⟩
theorem Inv.unhdl {e : Value} (ok : X.Ok) (I : Inv (X.hdl e) pins σ H s) : Inv X pins σ H s := by
  obtain ⟨_, os, bare, bs, loc, cell, free, freeC, pin, hok, len⟩ := I
  exact ⟨ok, os, bare, bs, loc, cell, free, freeC, pin, hok, len⟩
/-- the exception's record turns on: it flies as before -/
theorem Fly.move {B : Heap} {ea : Addr} {a0 : Value} {l : List Env} {P : Program} {w : World} {base : Heap} (hf : sc.heap.FunFrames base l) (fr : ∀ b ∈ frs l, H0 b = none) (F : Fly P w l H0 sc c H (.ref ea) s)
    (cov : ∀ b o, s.heap.get? b = some o → b ∉ frs l → ((∃ o', sc.heap.get? b = some o') ∨ H b ≠ none) → B.get? b = some o) {h2 : Heap} (x1 : Heap.FlyingW B l ea c a0 h2) (x4 : s.heap.UpToSlots h2) : Fly P w l H0 sc c H (.ref ea) { s with heap := h2 } := by
  obtain ⟨u2, k2⟩ := Un.slots hf fr F.un F.hok (fun b o q n h => x1.1 b o (cov b o q n h)) x4
  refine ⟨⟨ea, a0, B, rfl, x1, fun b o q n h => ?_⟩, F.os, F.bare, u2, k2⟩
  obtain ⟨o3, q3⟩ : ∃ o3, s.heap.get? b = some o3 := by
    rcases h with ⟨o', q'⟩ | h
    · exact F.un.there b o' q' (by simp)
    · cases hb : H b with
      | none => exact absurd hb h
      | some u => exact (F.hok b u hb).got
  have hB := cov b o3 q3 n h
  have := x1.1 b o3 hB
  have q : h2.get? b = some o := q
  rw [q] at this
  cases this
  exact hB
end

/-- what the clauses do with an exception of the class c -/
def PH (X : Cx) (hs : List ExceptHandler) (th : Value → TS) : Prop :=
  ∀ (c e : Value) (pins : List (Addr × Obj)) (σ : St) (H0 H : Hp) (D : Ends) (sc s : Shared), Inv X pins σ H0 sc → Fly X.prog X.w X.stack H0 sc c H e s → th c D σ H → wpAny (model X.prog X.w) X.A (handleBy e X.env hs) (SP X pins D) X.xe s
/-- an own class with an own class's exception: its suite, or the next clause -/
def tHc (K : PySem.W.Frag) (C : Addr) (ts : TS) (rest : Value → TS) : Value → TS := fun c D σ H => ∃ C0 b, c = .ref C0 ∧ PySem.W.excIn K C0 [.type "ValueError", .type "Exception", .type "BaseException", .type "object"] "ValueError.__new__" = true ∧
  PySem.W.mroIn K C0 (.ref C) = some b ∧ if b = true then ts D σ H else rest c D σ H
def tHnil : Value → TS := fun _ _ _ _ => False
section
variable {X : Cx} {x : Str} {C : Addr} {np hpos pos : Pos} {b₀ : Stmt} {suite body : List Stmt} {rest hs : List ExceptHandler} {h₀ : ExceptHandler} {ts : TS} {tr : Value → TS}
theorem ph_nil : PH X [] tHnil := fun _ _ _ _ _ _ _ _ _ _ _ h => h.elim
theorem ph_own (hst : X.stack = X.env :: X.outer) (hf : X.env.frame = some X.env.locals) (hg : Gl X x) (c : XCls X.K X.mg x C) (hts : ∀ e, PSs (X.hdl e) (b₀ :: suite) ts) (hr : PH X rest tr) (hdb : (x == ("__debug__" : Str)) = false := by decide) :
    PH X (.ExceptHandler (some (.Name x np)) none (b₀ :: suite) hpos :: rest) (tHc X.K C ts tr) := by
  intro cv e pins σ H0 H D sc s I0 F h
  obtain ⟨ea, a0, B, rfl, fl, cov⟩ := id F.ex
  obtain ⟨C0, b, rfl, q0, hm, h⟩ := h
  have I := F.inv I0
  obtain ⟨bm, N, nm, q, bs, hdct, sn, sub, ab, col, dd, k0, k1, k2, k3, k5, hC0, _, hmro⟩ := XCls.obj (mg := X.mg) (x := x) q0 I.kIn
  obtain ⟨bm', N', nm', q', bs', hdct', sn', sub', ab', col', dd', j0, j1, j2, j3, j5, hC, hbase, _⟩ := XCls.obj (mg := X.mg) (x := x) c.exc I.kIn
  obtain ⟨ob, hob, hobc⟩ := fl.there
  have hb : (Value.ref C0 :: bm).contains (.ref C) = b := Option.some.inj ((hmro _).symm.trans hm)
  refine wpAny_handleBy_cons (codeAny_handlers_test (Calls.Name_function_global I.ok.kind hg (Calls.loadGlobal_global (by rw [I.ok.glob]; exact I.mod.glob.keeps I.bk) c.bound ?_) hdb)) (by intro q; cases q)
  obtain ⟨hp, gs, dr, tk, os⟩ := s
  refine excMatches_own hC0 hC hob hobc hbase hb ?_
  cases b with
  | false => exact hr _ _ pins σ H0 H D sc _ I0 F h
  | true =>
    refine codeAny_handlers_suite (lands_againW fl fun h6 fl6 sm6 => ?_)
    have F6 := F.move I0.stack I0.stkFree cov fl6 sm6
    have I6 := F6.inv I0
    refine wpAny_mono (hts (.ref ea) pins _ σ H D (I6.hdl _) h) (fun f s2 q2 => ?_) fun _ _ z => z.elim
    cases f with
    | next => obtain ⟨σ', H', J, q⟩ := q2; exact ⟨σ', H', J.unhdl I.ok, q⟩
    | brk => obtain ⟨σ', H', J, q⟩ := q2; exact ⟨σ', H', J.unhdl I.ok, q⟩
    | cont => obtain ⟨σ', H', J, q⟩ := q2; exact ⟨σ', H', J.unhdl I.ok, q⟩
    | ret u => obtain ⟨v, σ', H', J, r, q⟩ := q2; exact ⟨v, σ', H', J.unhdl I.ok, r, q⟩

/-- try: a call in the body may raise; the clauses take it -/
def tTry (tb : (Value → St → Hp → Prop) → TS) (th : Value → TS) : TS := fun D σ H => tb (fun c σ' H' => th c D σ' H') D σ H
/-- the context of a try's body: xe what is wanted of exceptions, pn the pins that are kept through it -/
abbrev Cx.tryd (X : Cx) (pn : List (Addr × Obj)) (xe : Value → Shared → Prop) : Cx := { X with pn := pn, xe := xe }
theorem Inv.tryd {pins : List (Addr × Obj)} {σ : St} {H : Hp} {s : Shared} (I : Inv X pins σ H s) (xe : Value → Shared → Prop) : Inv (X.tryd (X.pn ++ pins) xe) [] σ H s := by
  obtain ⟨ok, os, bare, bs, loc, cell, free, freeC, pin, hok, len⟩ := I
  obtain ⟨o1, o2, o3, o4, o5, o6, o7, o8, o9, o10, o11, o12, o13, o14, o15, o16, o17, o18⟩ := ok
  exact ⟨⟨o1, o2, o3, o4, o5, o6, o7, o8, o9, o10, o11, o12, o13, o14, o15, o16, o17, o18⟩, os, bare, bs, loc, cell, free, freeC, (fun p hp => pin p (by rwa [List.append_nil] at hp)), hok, len⟩
theorem Inv.untryd {pins pins' : List (Addr × Obj)} {σ : St} {H : Hp} {s : Shared} {xe : Value → Shared → Prop} (ok : X.Ok) (I : Inv (X.tryd (X.pn ++ pins) xe) pins' σ H s) : Inv X pins σ H s := by
  obtain ⟨_, os, bare, bs, loc, cell, free, freeC, pin, hok, len⟩ := I
  exact ⟨ok, os, bare, bs, loc, cell, free, freeC, (fun p hp => pin p (List.mem_append_left _ hp)), hok, len⟩
theorem ps_try (hst : X.stack = X.env :: X.outer) (hf : X.env.frame = some X.env.locals) (tb : (Value → St → Hp → Prop) → TS)
    (hb : ∀ (R : Value → St → Hp → Prop) (pn : List (Addr × Obj)) (xe : Value → Shared → Prop), XPass (X.tryd pn xe) R → PSs (X.tryd pn xe) body (tb R)) (hh : PH X (h₀ :: hs) tr) :
    PS X (.Try body (h₀ :: hs) [] [] pos) (tTry tb tr) := by
  intro pins s σ H D I h
  refine wpAny_Try_except (wpAny_mono (hb (fun c σ' H' => tr c D σ' H') (X.pn ++ pins) (fun e s1 => wpAny (model X.prog X.w) X.A (noteFrame e X.env) (fun _ s₂ => wpAny (model X.prog X.w) X.A (setFlight e none) (fun _ s₃ => wpAny (model X.prog X.w) X.A (handleBy e X.env (h₀ :: hs)) (SP X pins D) X.xe s₃) X.xe s₂) X.xe s1) ?_ [] s σ H D (I.tryd _) h) (fun f s1 q => ?_) fun _ _ z => z)
  · intro pins' σ1 H1 s1 e s1' c H' I1 F r
    have J : Inv X pins σ1 H1 s1 := I1.untryd I.ok
    have F : Fly X.prog X.w X.stack H1 s1 c H' e s1' := F
    obtain ⟨ea, a0, B, rfl, fl, cov⟩ := id F.ex
    have hfr : X.A.frames = some (X.env :: X.outer) := by rw [I.ok.frames, hst]
    have fl' := fl
    rw [hst] at fl'
    show wpAny (model X.prog X.w) X.A (noteFrame (.ref ea) X.env) _ X.xe s1'
    refine wpAny_looks_onW hfr hf fl' fun h4 held4 sm4 => ?_
    refine wpAny_landsW held4 fun h5 fl5 sm5 => ?_
    rw [← hst] at fl5
    have F5 := F.move J.stack J.stkFree cov fl5 (sm4.trans sm5)
    exact hh c (.ref ea) pins σ1 H1 H' D s1 _ J F5 r
  · cases f with
    | next => obtain ⟨σ', H', J, q⟩ := q; exact wpAny_execs_nil ⟨σ', H', J.untryd I.ok, q⟩
    | brk => obtain ⟨σ', H', J, q⟩ := q; exact ⟨σ', H', J.untryd I.ok, q⟩
    | cont => obtain ⟨σ', H', J, q⟩ := q; exact ⟨σ', H', J.untryd I.ok, q⟩
    | ret u => obtain ⟨v, σ', H', J, r, q⟩ := q; exact ⟨v, σ', H', J.untryd I.ok, r, q⟩
end
end L2
/-! ### list comprehensions -/
namespace L2
open PySem PySem.Spec PyProof.Rows

def clFrom (cells : List (Str × Addr)) : List (Str × NameKind) → List (Str × Addr) → List (Str × Addr)
  | [], acc => acc
  | (n, k) :: r, acc => clFrom cells r (if k == .free then (n, (cells.lookup n).getD 0) :: acc else acc)
theorem closureFor_eq {scope : Scope} {env : Env} (h : ∀ p ∈ scope.names, p.2 = .free → ∃ c, env.cells.lookup p.1 = some c) : closureFor scope env = pure (clFrom env.cells scope.names []) := by
  simp only [closureFor]
  have key : ∀ (l : List (Str × NameKind)) (acc : List (Str × Addr)), (∀ p ∈ l, p.2 = .free → ∃ c, env.cells.lookup p.1 = some c) →
      (forIn l acc fun x r => if (x.2 == NameKind.free) = true then (do let a ← cellOf env x.1; pure (ForInStep.yield ((x.1, a) :: r))) else pure (ForInStep.yield r) : Sem (List (Str × Addr))) = pure (clFrom env.cells l acc) := by
    intro l
    induction l with
    | nil => intro acc _; rfl
    | cons p r ih =>
      intro acc hl
      obtain ⟨n, k⟩ := p
      rw [List.forIn_cons]
      by_cases hk : k = .free
      · subst hk
        obtain ⟨c, hc⟩ := hl (n, .free) List.mem_cons_self rfl
        have hce : cellOf env n = pure c := by unfold cellOf; rw [hc]
        simp only [beq_self_eq_true, if_true, hce, pure_bind]
        rw [ih _ fun p hp => hl p (List.mem_cons_of_mem _ hp)]
        simp only [clFrom, beq_self_eq_true, if_true, hc, Option.getD_some]
      · have hb : (k == NameKind.free) = false := by simpa using hk
        simp only [hb, Bool.false_eq_true, if_false, pure_bind]
        rw [ih _ fun p hp => hl p (List.mem_cons_of_mem _ hp)]
        simp only [clFrom, hb, Bool.false_eq_true, if_false]
  have := key scope.names [] h
  simp only [bind_pure] at this ⊢
  exact this
theorem clFrom_mem {cells : List (Str × Addr)} {x : Str} {c : Addr} : ∀ {l : List (Str × NameKind)} {acc : List (Str × Addr)}, (x, c) ∈ clFrom cells l acc → (x, c) ∈ acc ∨ (x, NameKind.free) ∈ l ∧ c = (cells.lookup x).getD 0
  | [], acc, h => .inl h
  | (n, k) :: r, acc, h => by
    unfold clFrom at h
    rcases clFrom_mem h with g | ⟨h1, h2⟩
    · split at g
      · rename_i hk
        have hk : k = .free := by simpa using hk
        subst hk
        rcases List.mem_cons.mp g with g | g
        · cases g
          exact .inr ⟨List.mem_cons_self, rfl⟩
        · exact .inl g
      · exact .inl g
    · exact .inr ⟨List.mem_cons_of_mem _ h1, h2⟩
theorem clFrom_acc {cells : List (Str × Addr)} {p : Str × Addr} : ∀ {l : List (Str × NameKind)} {acc : List (Str × Addr)}, p ∈ acc → p ∈ clFrom cells l acc
  | [], _, h => h
  | (n, k) :: r, acc, h => by
    unfold clFrom
    refine clFrom_acc ?_
    split
    · exact List.mem_cons_of_mem _ h
    · exact h
theorem clFrom_has {cells : List (Str × Addr)} {x : Str} : ∀ {l : List (Str × NameKind)} {acc : List (Str × Addr)}, (x, NameKind.free) ∈ l → (x, (cells.lookup x).getD 0) ∈ clFrom cells l acc
  | (n, k) :: r, acc, h => by
    unfold clFrom
    rcases List.mem_cons.mp h with h | h
    · cases h
      refine clFrom_acc ?_
      simp
    · exact clFrom_has h
theorem lookup_of_mem {l : List (Str × Addr)} {x : Str} {c : Addr} (h : (x, c) ∈ l) : ∃ c', l.lookup x = some c' := by
  induction l with
  | nil => cases h
  | cons p r ih =>
    obtain ⟨n, d⟩ := p
    rw [List.lookup_cons]
    cases hb : x == n with
    | true => exact ⟨d, rfl⟩
    | false =>
      rcases List.mem_cons.mp h with h | h
      · cases h; simp at hb
      · exact ih h

/-- how a comprehension's names stand: N' its names, ix whence (none: its own) -/
structure CompSc (X : Cx) (scope : Scope) (N' : List Str) (ix : List (Option Nat)) : Prop where
  kind : scope.kind = .function
  nocell : ∀ y ∈ scope.names, y.2 ≠ .cell
  names : ∀ y ∈ scope.names, y.2 = .local → scope.names.lookup y.1 = some .local
  frees : ∀ y ∈ scope.names, y.2 = .free → scope.names.lookup y.1 = some .free ∧ (X.env.kindOf y.1 = some .cell ∨ X.env.kindOf y.1 = some .free)
  len : ix.length = N'.length
  cap : ∀ (i : Nat) (x : Str) (j : Nat), N'[i]? = some x → ix[i]? = some (some j) → X.N[j]? = some x ∧ scope.names.lookup x = some .free
def st0 (ix : List (Option Nat)) (σ : St) : St := ix.map fun o => o.bind fun j => (σ[j]?).bind id

abbrev Cx.comp (X : Cx) (scope : Scope) (N' : List Str) (C : Addr) (s : Shared) (H : Hp) (fp : List Addr) (pins : List (Addr × Obj)) : Cx :=
  { X with N := N', s₀ := s, H₀ := H, env := compEnvC scope (clFrom X.env.cells scope.names []) C X.env, outer := X.stack, stack := X.stack, ex := fp, fn := fun x => ((clFrom X.env.cells scope.names []).lookup x).isNone, pn := X.pn ++ pins, xe := fun _ _ => False }

theorem lookup_relabel_free {env : Env} : ∀ {names : List (Str × NameKind)} {x : Str} {k : NameKind}, names.lookup x = some k →
    (names.map fun (n, k) => if (k == NameKind.free && env.scope.kind == .function && env.kindOf n == some .cell) then (n, NameKind.cell) else (n, k)).lookup x = some (if (k == NameKind.free && env.scope.kind == .function && env.kindOf x == some .cell) then .cell else k)
  | [], _, _, h => by simp at h
  | (n, k) :: r, x, k', h => by
    have ih := @lookup_relabel_free env r x k'
    show List.lookup x ((if (k == NameKind.free && env.scope.kind == .function && env.kindOf n == some .cell) = true then (n, NameKind.cell) else (n, k)) :: _) = _
    cases hx : x == n with
    | true =>
      simp only [List.lookup_cons, hx] at h
      cases h
      have hxn : x = n := by simpa using hx
      subst hxn
      split <;> simp [List.lookup_cons]
    | false =>
      simp only [List.lookup_cons, hx] at h
      split <;> (simp only [List.lookup_cons, hx]; exact ih h)
theorem lookup_relabel_none {env : Env} : ∀ {names : List (Str × NameKind)} {x : Str}, names.lookup x = none →
    (names.map fun (n, k) => if (k == NameKind.free && env.scope.kind == .function && env.kindOf n == some .cell) then (n, NameKind.cell) else (n, k)).lookup x = none
  | [], _, _ => rfl
  | (n, k) :: r, x, h => by
    have ih := @lookup_relabel_none env r x
    show List.lookup x ((if (k == NameKind.free && env.scope.kind == .function && env.kindOf n == some .cell) = true then (n, NameKind.cell) else (n, k)) :: _) = _
    cases hx : x == n with
    | true => simp only [List.lookup_cons, hx] at h; cases h
    | false =>
      simp only [List.lookup_cons, hx] at h
      split <;> (simp only [List.lookup_cons, hx]; exact ih h)

section
variable {X : Cx} {scope : Scope} {N' : List Str} {ix : List (Option Nat)} {pins : List (Addr × Obj)} {σ : St} {H : Hp} {s : Shared}
theorem CompSc.cells (S : CompSc X scope N' ix) (I : Inv X pins σ H s) : ∀ p ∈ scope.names, p.2 = .free → ∃ c, X.env.cells.lookup p.1 = some c := fun p hp hk => I.ok.has p.1 (S.frees p hp hk).2
theorem CompSc.look (S : CompSc X scope N' ix) (I : Inv X pins σ H s) {x : Str} {c : Addr} (h : (clFrom X.env.cells scope.names []).lookup x = some c) : X.env.cells.lookup x = some c ∧ (x, NameKind.free) ∈ scope.names := by
  rcases clFrom_mem (PySem.mem_of_lookup h) with z | ⟨h1, h2⟩
  · cases z
  · obtain ⟨c', hc'⟩ := S.cells I (x, .free) h1 rfl
    rw [hc'] at h2
    rw [hc', h2]
    exact ⟨rfl, h1⟩
/-- which names are cells in the block -/
theorem CompSc.isFree (S : CompSc X scope N' ix) {C : Addr} {cl : List (Str × Addr)} {x : Str} (h : (compEnvC scope cl C X.env).kindOf x = some .cell ∨ (compEnvC scope cl C X.env).kindOf x = some .free) : (x, NameKind.free) ∈ scope.names := by
  have h : (relabel scope X.env).names.lookup x = some .cell ∨ (relabel scope X.env).names.lookup x = some .free := h
  cases hl : scope.names.lookup x with
  | none =>
    have := lookup_relabel_none (env := X.env) hl
    unfold relabel at h
    rw [this] at h
    rcases h with h | h <;> cases h
  | some k =>
    have := lookup_relabel_free (env := X.env) hl
    unfold relabel at h
    rw [this] at h
    have hm := PySem.mem_of_lookup hl
    by_cases hk : k = .free
    · rw [hk] at hm; exact hm
    · have hb : (k == NameKind.free) = false := by simpa using hk
      simp only [hb, Bool.false_and, Bool.false_eq_true, if_false] at h
      rcases h with h | h
      · cases h; exact absurd rfl (S.nocell _ hm)
      · cases h; exact hm

/-- the block's state at its start -/
theorem Inv.comp {fp : List Addr} {C acc : Addr} {h1 : Heap} {t1 : Nat} (S : CompSc X scope N' ix) (I : Inv X pins σ H s) (hc : X.calm = true) (f2 : ∀ b ∈ fp, FpOk X pins H b) (ho : ∀ b ∈ fp, ∃ o, s.heap.get? b = some o)
    (ha : acc = s.heap.objs.size) (hC : C = s.heap.objs.size + 1) (old : ∀ b o, s.heap.get? b = some o → h1.get? b = some o) (hns : h1.Ns C fun _ => none) (hacc : h1.get? acc = some { cls := .type "list", data := .seq ([] : List Value).toArray }) :
    Inv (X.comp scope N' C s H fp pins) [] (st0 ix σ) (upd H acc (.lst [])) { s with heap := h1, toks := t1 } := by
  have hfa : H acc = none := I.hok.fresh (by rw [ha]; exact Nat.le_refl _)
  have hfC : H C = none := I.hok.fresh (by rw [hC]; exact Nat.le_succ _)
  have ltC : ∀ b o, s.heap.get? b = some o → b < C ∧ b < acc := fun b o q => by
    have := Heap.lt_size q
    rw [hC, ha]
    exact ⟨Nat.lt_succ_of_lt this, this⟩
  have fpC : ∀ b ∈ fp, b < C ∧ b < acc := fun b hb => by
    obtain ⟨o, q⟩ := ho b hb
    exact ltC b o q
  have cellLt : ∀ x c, (clFrom X.env.cells scope.names []).lookup x = some c → c < C ∧ c < acc := fun x c h => by
    obtain ⟨v, o, q, _⟩ := I.cell x c (S.look I h).1
    exact ltC c o q
  have nfs : ∀ b ∈ fp, b ∉ frs X.stack := fun b hb hm => by
    obtain ⟨_, q1, q2, _⟩ := f2 b hb
    rcases List.mem_cons.mp (I.stkSub b hm) with z | z
    · exact q1 z
    · exact q2 z
  refine ⟨⟨I.ok.mod, S.kind, I.ok.glob, I.ok.blt, ?_, ?_, ?_, ?_, I.ok.hd, I.ok.frames, .inl rfl, ?_, ?_, ?_, ?_, nfs, I.stack, I.stkFree⟩, rfl, I.bare, ?_, ⟨_, hns, ?_⟩, ?_, ?_, ?_, ?_, ?_, ?_⟩
  · show s.heap.objs.size ≤ C
    rw [hC]; exact Nat.le_succ _
  · intro x y c h1 h2
    exact I.ok.inj x y c (S.look I h1).1 (S.look I h2).1
  · intro x hx
    exact lookup_of_mem (clFrom_has (S.isFree hx))
  · intro x c hfn hl
    have hfn : ((clFrom X.env.cells scope.names []).lookup x).isNone = true := hfn
    have hl : (clFrom X.env.cells scope.names []).lookup x = some c := hl
    rw [hl] at hfn
    cases hfn
  · intro b hb
    refine ⟨Nat.ne_of_lt (fpC b hb).1, fun x c hl => ?_⟩
    exact (f2 b hb).2.2.2.2.1 x c (S.look I hl).1
  · exact fun b o q => I.bs b o q
  · exact Nat.le_trans I.ok.bsz I.sz
  · intro b o q hb
    obtain ⟨_, _, _, q3, _⟩ := f2 b hb
    rcases q3 with z | z
    · exact I.ok.noex b o q z
    · exact absurd (Nat.lt_of_lt_of_le (Heap.lt_size (I.ok.bs b o q).1) z) (Nat.lt_irrefl _)
  · exact Un.laid old (by rw [ha]; exact Nat.le_refl _) hfa
  · intro i x v hN hσ hv
    have hN : N'[i]? = some x := hN
    unfold st0 at hσ
    rw [List.getElem?_map] at hσ
    cases hix : ix[i]? with
    | none => rw [hix] at hσ; cases hσ
    | some o =>
      rw [hix] at hσ
      cases o with
      | none => cases hσ
      | some j =>
        obtain ⟨hNj, hfree⟩ := S.cap i x j hN hix
        have hσj : σ[j]? = some (some v) := by
          have hσ : (σ[j]?).bind id = some v := Option.some.inj hσ
          cases hj : σ[j]? with
          | none => rw [hj] at hσ; cases hσ
          | some ov => rw [hj] at hσ; exact congrArg some hσ
        have hm := PySem.mem_of_lookup hfree
        have hk := (S.frees (x, .free) hm rfl).2
        obtain ⟨m0, hn0, hloc⟩ := I.loc
        obtain ⟨u, ru, lk⟩ := hloc j x v hNj hσj (by
          rcases hk with z | z
          · exact .inr (.inl z)
          · exact .inr (.inr z))
        refine ⟨u, ru, .inr ⟨?_, ?_⟩⟩
        · show (relabel scope X.env).names.lookup x = some .cell ∨ (relabel scope X.env).names.lookup x = some .free
          have := lookup_relabel_free (env := X.env) hfree
          unfold relabel
          rw [this]
          by_cases hz : (NameKind.free == NameKind.free && X.env.scope.kind == .function && X.env.kindOf x == some .cell) = true
          · rw [if_pos hz]; exact .inl rfl
          · rw [if_neg hz]; exact .inr rfl
        · rcases lk with ⟨z, _⟩ | ⟨_, c, hc, o, q, hd⟩
          · exfalso
            rcases hk with y | y
            · rw [y] at z; cases z
            · rw [y] at z; cases z
          · obtain ⟨c', hc'⟩ := lookup_of_mem (clFrom_has (cells := X.env.cells) (acc := []) hm)
            have e := (S.look I hc').1
            rw [hc] at e
            cases e
            exact ⟨c, hc', o, old _ _ q, hd⟩
  · intro x c hl
    obtain ⟨v, o, q, hd⟩ := I.cell x c (S.look I hl).1
    exact ⟨v, o, old _ _ q, hd⟩
  · show upd H acc (.lst []) C = none
    rw [upd_ne (by rw [hC, ha]; exact Nat.succ_ne_self _)]
    exact hfC
  · intro x c hl
    show upd H acc (.lst []) c = none
    rw [upd_ne (Nat.ne_of_lt (cellLt x c hl).2)]
    exact I.freeC x c (S.look I hl).1
  · intro p hp
    rw [List.append_nil] at hp
    obtain ⟨p1, p2, p3, p4, p5⟩ := I.pin p hp
    refine ⟨old _ _ p1, ?_, Nat.ne_of_lt (ltC _ _ p1).1, fun hm => ?_, p5⟩
    · rw [upd_ne (Nat.ne_of_lt (ltC _ _ p1).2)]; exact p2
    · rcases List.mem_cons.mp (I.stkSub _ hm) with z | z
      · exact p3 z
      · exact p4 z
  · exact I.hok.laid old (by rw [ha]; exact Nat.le_refl _) ⟨Nat.zero_le _, [], 0, .nil, hacc⟩
  · show (st0 ix σ).length = N'.length
    unfold st0
    rw [List.length_map]
    exact S.len
/-- behind the block: the def's state -/
theorem Inv.uncomp {fp : List Addr} {C : Addr} {σ' : St} {H' : Hp} {s' : Shared} {h2 : Heap} {t2 : Nat} (I : Inv X pins σ H s) (f2 : ∀ b ∈ fp, FpOk X pins H b) (hCs : s.heap.objs.size ≤ C) (J : Inv (X.comp scope N' C s H fp pins) [] σ' H' s')
    (sb : ∀ b o, b ≠ C → s'.heap.get? b = some o → h2.get? b = some o) : Inv X pins σ H' { s' with heap := h2, toks := t2 } := by
  have U : Un (frs X.stack) fp H H' s.heap s'.heap := J.base
  have neC : ∀ b o, s.heap.get? b = some o → b ≠ C := fun b o q z => absurd (Nat.lt_of_lt_of_le (Heap.lt_size q) hCs) (by rw [z]; exact Nat.lt_irrefl _)
  have U2 : Un (frs X.stack) fp H H' s.heap h2 := by
    refine ⟨fun b o q n hb hx => sb b o (neC b o q) (U.keep b o q n hb hx), fun b o q n hb hx => ?_, U.free, fun b o q hx => ?_, U.tups, U.frzs, U.tbls⟩
    · obtain ⟨sl, e⟩ := U.slot b o q n hb hx
      exact ⟨sl, sb b _ (neC b o q) e⟩
    · obtain ⟨o', e⟩ := U.there b o q hx
      exact ⟨o', sb b o' (neC b o q) e⟩
  have hk : HOk X.prog X.w H' h2 := fun a o q => (J.hok a o q).stay (fun b u hb e => sb b u (fun z => by
    have hfC : H' C = none := J.free
    rcases hb with y | y
    · rw [← y, z, hfC] at q; cases q
    · rw [z, hfC] at y; cases y) e) (fun _ z => z) fun _ _ z => z
  obtain ⟨hh, g, d, t, os'⟩ := s'
  obtain rfl : os' = s.os := J.os
  show Inv X pins σ H' { s with heap := h2, gens := g, drawn := d, toks := t2 }
  exact I.call (h' := h2) (g' := g) (d' := d) (t' := t2) (ch := fp) U2 hk J.bare fun b hb => by
    obtain ⟨q0, q1, q2, q3, q4, q5⟩ := f2 b hb
    exact ⟨q3, q1, q4, q5⟩
end

/-! the loop -/
section
variable {prog : Program} {w : World} {A : Around} {R : Result → Shared → Prop} {s : Shared}
theorem compLoop_any {elt target iter : Expr} {ifs : List Expr} {scope : Scope} {pos : Pos} {it acc : Value} {env : Env} (I : Nat → Shared → Prop)
    (turn : ∀ n s, I n s → wpAny (model prog w) A (pyNext it) (fun r s₁ => match r with
      | none => R (.ok .next) s₁
      | some v => wpAny (model prog w) A (letOwnedTupleGo target it v) (fun _ s₁' => wpAny (model prog w) A (assign target env v) (fun _ s₂ =>
          wpAny (model prog w) A (forIn ifs true fun c r => if r = true then do let ok ← isTrue c env (eval c env); pure (ForInStep.yield ok) else pure (ForInStep.yield r)) (fun ok s₃ =>
            if ok = true then wpAny (model prog w) A (eval elt env) (fun x s₄ =>
              wpAny (model prog w) A (call (.builtin "list.append") [acc, x]) (fun _ s₅ => ∃ m, m < n ∧ I m s₅) (fun _ _ => False) s₄) (fun _ _ => False) s₃
            else ∃ m, m < n ∧ I m s₃) (fun _ _ => False) s₂) (fun _ _ => False) s₁') (fun _ _ => False) s₁) (fun _ _ => False) s)
    (n : Nat) (h : I n s) :
    codeAny (model prog w) A (.compLoop (.ListComp elt [⟨target, iter, ifs, 0⟩] scope pos) 0 it acc env) R s := by
  refine codeAny_loop rfl I (fun n s hI => ?_) n h
  show wpAny _ A ((compTurn (.ListComp elt [⟨target, iter, ifs, 0⟩] scope pos) 0 it acc env).onRaise (fun x => do noteFrame x env; theTreesLotGoes x)) _ _ s
  refine wpAny_noted ?_
  rw [compTurn_list]
  refine wpAny_bind (wpAny_standAt (wpAny_bind (wpAny_mono (turn n s hI) (fun r s₁ h₁ => ?_) fun _ _ h' => h'.elim)))
  cases r with
  | none => exact wpAny_pure h₁
  | some v =>
    refine wpAny_bind (wpAny_mono h₁ (fun _ s₁' h₁' => ?_) fun _ _ h' => h'.elim)
    refine wpAny_bind (wpAny_mono h₁' (fun _ s₂ h₂ => wpAny_bind (wpAny_mono h₂ (fun ok s₃ h₃ => ?_) fun _ _ h' => h'.elim)) fun _ _ h' => h'.elim)
    cases ok with
    | false => exact wpAny_pure ⟨rfl, h₃⟩
    | true =>
      exact wpAny_bind (wpAny_bind (wpAny_mono h₃ (fun x s₄ h₄ => wpAny_bind (wpAny_mono h₄ (fun _ s₅ h₅ => wpAny_pure (wpAny_pure ⟨rfl, h₅⟩)) fun _ _ h' => h'.elim)) fun _ _ h' => h'.elim))
end

/-- the tests of a clause: none, or one -/
def PTs (X : Cx) : List Expr → TT → Prop
  | [], t => t = fun _ H Q => Q true H
  | [c], t => PT X c t
  | _, _ => False
def tTrue : TT := fun _ H Q => Q true H
theorem pts_nil {X : Cx} : PTs X [] tTrue := rfl
theorem pts_one {X : Cx} {c : Expr} {t : TT} (h : PT X c t) : PTs X [c] t := h

/-- [elt for tg in iter if c]: acc the new list -/
def tLC (wi : TI) (ix : List (Option Nat)) (g : TG) (tc : TT) (te : TE) : TE := fun σ H Q => wi σ H fun J H1 => ∀ acc, H1 acc = none → ∃ W : Nat → Nat → St → Hp → Prop, (∃ m, W 0 m (st0 ix σ) (upd H1 acc (.lst []))) ∧ ∀ i m σ2 H2, W i m σ2 H2 →
  (J.stop i H2 ∧ Q (.ref acc) H2) ∨ (J.go i H2 ∧ ∃ N : St → Hp → Prop, (∀ σ' H', N σ' H' → ∃ m', m' < m ∧ W (i + 1) m' σ' H') ∧ ∀ x H', J.yld i H2 x H' → g x σ2 H' fun σ3 H3 => tc σ3 H3 fun b H4 =>
    if b = true then te σ3 H4 fun y H5 => ∃ xs, H5 acc = some (.lst xs) ∧ xs.length < sizeLine ∧ N σ3 (upd H5 acc (.lst (xs ++ [y]))) else N σ3 H4)

section
variable {X : Cx} {scope : Scope} {N' : List Str} {ix : List (Option Nat)} {tg iter elt : Expr} {ifs : List Expr} {pos : Pos} {wi : TI} {g : TG} {tc : TT} {te : TE}
/-- the block runs -/
theorem comp_run {pins : List (Addr × Obj)} {σ : St} {H : Hp} {s : Shared} {Q : VK} {it : Addr} {fp : List Addr} {tn : Nat → Heap → Prop} {J : It} {E : Value → Shared → Prop} {RR : Value → Addr → Result → Shared → Prop}
    (S : CompSc X scope N' ix) (hc : X.calm = true) (hg : ∀ C s H fp pins, PG (X.comp scope N' C s H fp pins) tg g) (ht : ∀ C s H fp pins, PTs (X.comp scope N' C s H fp pins) ifs tc) (he : ∀ C s H fp pins, PE (X.comp scope N' C s H fp pins) elt te)
    (I : Inv X pins σ H s) (T : Turn X.prog X.w X.K tg J fp it tn) (st : tn 0 s.heap) (f2 : ∀ b ∈ fp, FpOk X pins H b)
    (hR : ∀ acc, H acc = none → ∃ W : Nat → Nat → St → Hp → Prop, (∃ m, W 0 m (st0 ix σ) (upd H acc (.lst []))) ∧ ∀ i m σ2 H2, W i m σ2 H2 →
      (J.stop i H2 ∧ Q (.ref acc) H2) ∨ (J.go i H2 ∧ ∃ N : St → Hp → Prop, (∀ σ' H', N σ' H' → ∃ m', m' < m ∧ W (i + 1) m' σ' H') ∧ ∀ x H', J.yld i H2 x H' → g x σ2 H' fun σ3 H3 => tc σ3 H3 fun b H4 =>
        if b = true then te σ3 H4 fun y H5 => ∃ xs, H5 acc = some (.lst xs) ∧ xs.length < sizeLine ∧ N σ3 (upd H5 acc (.lst (xs ++ [y]))) else N σ3 H4))
    (hRR : ∀ acc C σ' H' s', s.heap.objs.size ≤ C → Inv (X.comp scope N' C s H fp pins) [] σ' H' s' → Q (.ref acc) H' → RR (.ref acc) C (.ok .next) s') :
    wpAny (model X.prog X.w) X.A (newList []) (fun acc s₃ => wpAny (model X.prog X.w) X.A (newFunctionEnv scope X.env.globals (clFrom X.env.cells scope.names []) [] X.env.qual none .none (some X.env)) (fun cenv s₄ =>
      codeAny (model X.prog X.w) X.A (.compStart (.ListComp elt [⟨tg, iter, ifs, 0⟩] scope pos) 0 (.ref it) acc { cenv with scope := relabel scope X.env }) (RR acc cenv.locals) s₄) E s₃) E s := by
  refine wpAny_newObj_type (wpAny_newFunctionEnv S.nocell (by intro y hy; simp at hy) (fun h₁ hns₁ hsb₁ => ?_) S.kind)
  dsimp only at hns₁ hsb₁ ⊢
  generalize hH2 : s.heap.push { cls := .type "list", dict := none, data := .seq ([] : List Value).toArray } = H2 at hns₁ hsb₁ ⊢
  have hC : H2.objs.size = s.heap.objs.size + 1 := by rw [← hH2, Heap.size_push]
  have old : ∀ b o, s.heap.get? b = some o → h₁.get? b = some o := fun b o e => hsb₁.extBut b o (by have := Heap.lt_size e; rw [hC]; exact Nat.ne_of_lt (Nat.lt_succ_of_lt this)) (Heap.get?_push_of_some _ (hH2 ▸ Heap.get?_push_of_some _ e))
  have hacc : h₁.get? s.heap.objs.size = some { cls := .type "list", data := .seq ([] : List Value).toArray } := hsb₁.extBut _ _ (by rw [hC]; exact Nat.ne_of_lt (Nat.lt_succ_self _)) (Heap.get?_push_of_some _ (hH2 ▸ Heap.get?_push_size _ rfl))
  have hfa : H s.heap.objs.size = none := I.hok.fresh (Nat.le_refl _)
  have hobj := T.obj 0 s.heap st
  have I1 := Inv.comp (t1 := s.toks + ([] : List (Str × Value)).length) S I hc f2 (fun b hb => by obtain ⟨o, q, _⟩ := hobj b hb; exact ⟨o, q⟩) rfl hC old hns₁ hacc
  obtain ⟨W, ⟨m0, w0⟩, turn⟩ := hR s.heap.objs.size hfa
  have st1 : tn 0 h₁ := T.keep 0 s.heap h₁ st fun b _ o q => old b o q
  have fpX : ∀ {H' : Hp} {pl : List (Addr × Obj)}, (∀ b ∈ fp, H' b = none) → (∀ p ∈ pl, p.1 ∉ fp) → ∀ b ∈ fp, FpOk (X.comp scope N' H2.objs.size s H fp pins) pl H' b := by
    intro H' pl hn hpl b hb
    obtain ⟨q0, q1, q2, q3, q4, q5⟩ := f2 b hb
    obtain ⟨o, q, _⟩ := hobj b hb
    refine ⟨hn b hb, ?_, I1.ok.exfs b hb, .inl hb, fun x c hl => (I1.ok.exf b hb).2 x c hl, fun p hp => ?_⟩
    · exact (I1.ok.exf b hb).1
    · rcases List.mem_append.mp hp with hp | hp
      · exact q5 p hp
      · exact fun z => hpl p hp (by rw [z]; exact hb)
  have loop : codeAny (model X.prog X.w) X.A (.compLoop (.ListComp elt [⟨tg, iter, ifs, 0⟩] scope pos) 0 (.ref it) (.ref s.heap.objs.size) (compEnvC scope (clFrom X.env.cells scope.names []) H2.objs.size X.env))
      (RR (.ref s.heap.objs.size) H2.objs.size) { s with heap := h₁, toks := s.toks + ([] : List (Str × Value)).length } := by
    refine compLoop_any (fun n s' => ∃ i σ' H', Inv (X.comp scope N' H2.objs.size s H fp pins) [] σ' H' s' ∧ tn i s'.heap ∧ (∀ b ∈ fp, H' b = none) ∧ W i n σ' H') ?_ m0 ⟨0, st0 ix σ, _, I1, st1, fun b hb => ?_, w0⟩
    · rintro n s3 ⟨i, σ3, H3, I3, st3, fr3, w3⟩
      rcases turn i n σ3 H3 w3 with ⟨stop, qn⟩ | ⟨go, N, hN, step⟩
      · refine thn (T.done (X.comp scope N' H2.objs.size s H fp pins) rfl rfl rfl hc i [] s3 σ3 H3 _ I3 (fpX fr3 (fun p hp => by cases hp)) st3 stop) fun r s4 ⟨hr, I4⟩ => ?_
        subst hr
        exact hRR _ _ σ3 H3 s4 (by rw [hC]; exact Nat.le_succ _) I4 qn
      · refine thn (T.item (X.comp scope N' H2.objs.size s H fp pins) rfl rfl rfl hc i [] s3 σ3 H3 _ I3 (fpX fr3 (fun p hp => by cases hp)) st3 go) fun r s4 ⟨u, hr, h4⟩ => ?_
        subst hr
        refine thn h4 fun _ s5 ⟨x, H5, I5, r5, y5, st5, fr5⟩ => ?_
        have I5' := I5.pinned (fpX fr5 (fun p hp => by cases hp)) (T.obj _ _ st5)
        refine thn (hg _ _ _ _ _ _ s5 σ3 H5 x u _ I5' r5 (step x H5 y5)) fun _ s6 ⟨σ6, H6, I6, q6⟩ => ?_
        have again : ∀ {σ7 : St} {H7 : Hp} {s7 : Shared}, Inv (X.comp scope N' H2.objs.size s H fp pins) ([] ++ pinsAt fp s5.heap) σ7 H7 s7 → N σ7 H7 → ∃ m, m < n ∧ ∃ i σ' H', Inv (X.comp scope N' H2.objs.size s H fp pins) [] σ' H' s7 ∧ tn i s7.heap ∧ (∀ b ∈ fp, H' b = none) ∧ W i m σ' H' := fun {σ7 H7 s7} I7 n7 => by
          obtain ⟨m', hm, w7⟩ := hN σ7 H7 n7
          refine ⟨m', hm, i + 1, σ7, H7, I7.unpinned, T.keep _ _ _ st5 fun b hb o e => (I7.pin (b, o) (List.mem_append_right _ (List.mem_append_right _ (mem_pinsAt hb e)))).1, fun b hb => ?_, w7⟩
          obtain ⟨o, e, d⟩ := T.obj _ _ st5 b hb
          exact (I7.pin (b, o) (List.mem_append_right _ (List.mem_append_right _ (mem_pinsAt hb e)))).2.1
        have tests : wpAny (model X.prog X.w) X.A (forIn ifs true fun c r => if r = true then do let ok ← isTrue c (compEnvC scope (clFrom X.env.cells scope.names []) H2.objs.size X.env) (eval c (compEnvC scope (clFrom X.env.cells scope.names []) H2.objs.size X.env)); pure (ForInStep.yield ok) else pure (ForInStep.yield r))
            (TP (X.comp scope N' H2.objs.size s H fp pins) ([] ++ pinsAt fp s5.heap) σ6 fun b H4 => if b = true then te σ6 H4 fun y H5 => ∃ xs, H5 s.heap.objs.size = some (.lst xs) ∧ xs.length < sizeLine ∧ N σ6 (upd H5 s.heap.objs.size (.lst (xs ++ [y]))) else N σ6 H4) (fun _ _ => False) s6 := by
          have htt := ht H2.objs.size s H fp pins
          match ifs, htt with
          | [], htt =>
            have htt : tc = fun _ H Q => Q true H := htt
            subst htt
            exact wpAny_tests_nil ⟨H6, I6, q6⟩
          | [c], htt =>
            have htt : PT (X.comp scope N' H2.objs.size s H fp pins) c tc := htt
            exact wpAny_tests_one (htt _ s6 σ6 H6 _ I6 q6)
        refine thn tests fun ok s7 ⟨H7, I7, q7⟩ => ?_
        cases ok with
        | false => exact again I7 q7
        | true =>
          refine thn (he _ _ _ _ _ _ s7 σ6 H7 _ I7 q7) fun xv s8 ⟨y, H8, I8, r8, xs, hl8, hz8, n8⟩ => ?_
          refine thn (mt_append (X := X.comp scope N' H2.objs.size s H fp pins) _ s8 σ6 H8 (.ref s.heap.objs.size) [y] (.ref s.heap.objs.size) [xv] (fun _ H' => N σ6 H') I8 rfl (.cons r8 .nil) ⟨s.heap.objs.size, xs, y, rfl, rfl, hl8, hz8, n8⟩) fun _ s9 ⟨_, H9, I9, _, n9⟩ => ?_
          exact again I9 n9
    · rw [upd_ne]
      · exact (f2 b hb).1
      · obtain ⟨o, q, _⟩ := hobj b hb
        exact Nat.ne_of_lt (Heap.lt_size q)
  exact codeAny_compStart_list loop (T.self X.A 0 _ _ _ st1 loop)
theorem pe_lc (S : CompSc X scope N' ix) (hc : X.calm = true) (hi : PI X tg iter wi) (hg : ∀ C s H fp pins, PG (X.comp scope N' C s H fp pins) tg g) (ht : ∀ C s H fp pins, PTs (X.comp scope N' C s H fp pins) ifs tc) (he : ∀ C s H fp pins, PE (X.comp scope N' C s H fp pins) elt te)
    (hs : ∀ x, foldedSetIterable iter X.env x = pure x := by intro _; rfl) : PE X (.ListComp elt [⟨tg, iter, ifs, 0⟩] scope pos) (tLC wi ix g tc te) := by
  intro pins s σ H Q I h
  rw [eval_ListComp]
  refine wpAny_comprehension_free (use := none) rfl hs (closureFor_eq (S.cells I)) S.kind S.names (thn (hi pins s σ H _ I h) fun v s1 h1 => thn h1 fun itv s2 h2 => ?_)
  obtain ⟨it, fp, tn, J, H2, e, I2, T, st2, f2, hR⟩ := h2
  subst e
  refine comp_run (RR := fun acc C => compPost (model X.prog X.w) X.A X.xe none (EP X pins σ Q) acc C) S hc hg ht he I2 T st2 f2 hR ?_
  intro acc C σ' H' s' hCs J' q
  obtain ⟨m, hn, _⟩ := J'.loc
  have hn : s'.heap.Ns C m := hn
  refine ⟨m, hn, fun h' sb => ⟨.ref acc, H', ?_, rfl, q⟩⟩
  exact I2.uncomp f2 hCs J' (fun b o hb e => sb.extBut b o hb e)
/-- x = [elt for ..] -/
def tSetLC (i : Nat) (t : TE) : TS := fun D σ H => t σ H fun v H1 => D.nx (σ.set i (some v)) H1
theorem ps_setLC {i : Nat} {y : Str} {py spos : Pos} (S : CompSc X scope N' ix) (hc : X.calm = true) (hi : PI X tg iter wi) (hg : ∀ C s H fp pins, PG (X.comp scope N' C s H fp pins) tg g) (ht : ∀ C s H fp pins, PTs (X.comp scope N' C s H fp pins) ifs tc) (he : ∀ C s H fp pins, PE (X.comp scope N' C s H fp pins) elt te)
    (hy : PG X (.Name y py) (gName i)) (hsw : swapsWith (.ListComp elt [⟨tg, iter, ifs, 0⟩] scope pos) (some (.Name y py)) spos.line X.env = pure true)
    (hs : ∀ x, foldedSetIterable iter X.env x = pure x := by intro _; rfl) : PS X (.Assign [.Name y py] (.ListComp elt [⟨tg, iter, ifs, 0⟩] scope pos) spos) (tSetLC i (tLC wi ix g tc te)) := by
  intro pins s σ H D I h
  rw [exec_Assign_Name_used _ _ _ _ hsw]
  refine wpAny_bind (wpAny_standAt (wpAny_bind ?_))
  show wpAny _ X.A (do let _ ← comprehension (.ListComp elt [⟨tg, iter, ifs, 0⟩] scope pos) scope X.env _ (newList []) false (eval iter X.env) (some (assign (.Name y py) X.env))) _ _ s
  refine wpAny_bind (wpAny_mono (wpAny_comprehension_free (use := some (assign (.Name y py) X.env)) (Q := fun _ s' => SP X pins D .next s') rfl hs (closureFor_eq (S.cells I)) S.kind S.names
    (thn (hi pins s σ H _ I h) fun v s1 h1 => thn h1 fun itv s2 h2 => ?_)) (fun _ s' hq => wpAny_pure (wpAny_pure hq)) fun _ _ e => e)
  obtain ⟨it, fp, tn, J, H2, e, I2, T, st2, f2, hR⟩ := h2
  subst e
  refine comp_run (Q := fun v H1 => D.nx (σ.set i (some v)) H1) (RR := fun acc C => compPost (model X.prog X.w) X.A X.xe (some (assign (.Name y py) X.env)) (fun _ s' => SP X pins D .next s') acc C) S hc hg ht he I2 T st2 f2 hR ?_
  intro acc C σ' H' s' hCs J' q
  obtain ⟨m, hn, _⟩ := J'.loc
  have hn : s'.heap.Ns C m := hn
  obtain ⟨oC, es, ep, hoC, hdC, hk⟩ := id hn
  have I3 : Inv X pins σ H' s' := by
    have := I2.uncomp (h2 := s'.heap) (t2 := s'.toks) f2 hCs J' (fun b o hb e => e)
    exact this
  have hCfs : C ∉ X.fs := fun hm => by
    obtain ⟨_, o, ho, _⟩ := I2.funs.mem hm
    exact absurd (Nat.lt_of_lt_of_le (Heap.lt_size ho) hCs) (Nat.lt_irrefl _)
  have hCl : C ≠ X.env.locals := fun z => absurd (Nat.lt_of_lt_of_le I2.lt hCs) (by rw [z]; exact Nat.lt_irrefl _)
  have I4 : Inv X (pins ++ [(C, oC)]) σ H' s' := I3.pins_of fun p hp => by
    rcases List.mem_append.mp hp with hp | hp
    · exact I3.pin p (List.mem_append_right _ hp)
    · have hp : p = (C, oC) := by simpa using hp
      subst hp
      exact ⟨hoC, J'.free, hCl, hCfs, fun v z => by rw [hdC] at z; cases z⟩
  show wpAny _ X.A (assign (.Name y py) X.env (.ref acc)) _ _ s'
  refine thn (hy (pins ++ [(C, oC)]) s' σ H' (.ref acc) (.ref acc) _ I4 rfl q) fun _ s5 ⟨σ5, H5, I5, q5⟩ => ?_
  have hC5 : s5.heap.get? C = some oC := (I5.pin (C, oC) (by simp)).1
  have hfC5 : H5 C = none := (I5.pin (C, oC) (by simp)).2.1
  refine ⟨m, ⟨oC, es, ep, hC5, hdC, hk⟩, fun h' sb => ?_⟩
  have I6 : Inv X pins σ5 H5 s5 := I5.unpinned
  refine ⟨σ5, H5, ?_, q5⟩
  have nC : ∀ x c, X.env.cells.lookup x = some c → c ≠ C := fun x c hl z => by
    obtain ⟨v, o, qo, _⟩ := I2.cell x c hl
    exact absurd (Nat.lt_of_lt_of_le (Heap.lt_size qo) hCs) (by rw [z]; exact Nat.lt_irrefl _)
  exact I6.turned (t' := s5.toks) (it := C) (fun b o hb e => sb.extBut b o hb e) hfC5 hCl (.inr (Nat.le_trans I2.sz hCs)) nC fun p hp z => by
    have := (I2.pin p hp).1
    exact absurd (Nat.lt_of_lt_of_le (Heap.lt_size this) hCs) (by rw [z]; exact Nat.lt_irrefl _)
end
end L2
namespace L2
open PySem PySem.Spec PyProof.Rows
section
variable {ix : List (Option Nat)} {g : TG} {tc : TT} {te : TE} {Q : VK} {σ : St} {H : Hp} {acc : Addr}
theorem lc_list {K : PySem.W.Frag} {a : Addr} {xs : List V} (Pv : Nat → St → Hp → Prop) (h0 : Pv 0 (st0 ix σ) (upd H acc (.lst []))) (hl : ∀ i σ H, i ≤ xs.length → Pv i σ H → SqL K H a xs)
    (hs : ∀ i x σ H, xs[i]? = some x → Pv i σ H → g x σ H fun σ3 H3 => tc σ3 H3 fun b H4 => if b = true then te σ3 H4 fun y H5 => ∃ ys, H5 acc = some (.lst ys) ∧ ys.length < sizeLine ∧ Pv (i + 1) σ3 (upd H5 acc (.lst (ys ++ [y]))) else Pv (i + 1) σ3 H4)
    (hd : ∀ σ H, Pv xs.length σ H → Q (.ref acc) H) :
    ∃ W : Nat → Nat → St → Hp → Prop, (∃ m, W 0 m (st0 ix σ) (upd H acc (.lst []))) ∧ ∀ i m σ2 H2, W i m σ2 H2 →
      ((Itl K a).stop i H2 ∧ Q (.ref acc) H2) ∨ ((Itl K a).go i H2 ∧ ∃ N : St → Hp → Prop, (∀ σ' H', N σ' H' → ∃ m', m' < m ∧ W (i + 1) m' σ' H') ∧ ∀ x H', (Itl K a).yld i H2 x H' → g x σ2 H' fun σ3 H3 => tc σ3 H3 fun b H4 =>
        if b = true then te σ3 H4 fun y H5 => ∃ xs, H5 acc = some (.lst xs) ∧ xs.length < sizeLine ∧ N σ3 (upd H5 acc (.lst (xs ++ [y]))) else N σ3 H4) := by
  refine ⟨fun i m σ H => m = xs.length - i ∧ i ≤ xs.length ∧ Pv i σ H, ⟨xs.length, by simp, Nat.zero_le _, h0⟩, ?_⟩
  rintro i m σ H ⟨rfl, hi, p⟩
  have q := hl i σ H hi p
  by_cases hlt : i < xs.length
  · refine .inr ⟨⟨xs, xs[i], q, by simp [hlt]⟩, Pv (i + 1), fun σ' H' p' => ⟨xs.length - (i + 1), by omega, rfl, hlt, p'⟩, fun x H' y => ?_⟩
    obtain ⟨e, y⟩ := y
    subst e
    exact hs i x σ _ (y xs q) p
  · have e : i = xs.length := by omega
    subst e
    exact .inl ⟨⟨xs, q, Nat.le_refl _⟩, hd σ H p⟩
end

/-! isinstance(x, T) -/
section
variable {X : Cx}
theorem call_isinst {T : String} : CallR X (.builtin "isinstance") (fun xs H Q => ∃ x t b, xs = [x, .ty T] ∧ TyOf X.K H x t ∧ PySem.W.kitOne X.K t (.type T) = some b ∧ Q (.bl b) H) := by
  intro pins s σ H xs us Q I r h
  obtain ⟨x, t, b, rfl, ty, e, q⟩ := h
  obtain ⟨u, v, rfl, ru, rv⟩ := Vals.two r
  cases (show v = Value.type T from rv)
  exact isinst_ok I ru ty e fun tk => ⟨.bl b, H, I.tok _, rfl, q⟩
end
end L2
namespace L2
open PySem PySem.Spec PyProof.Rows
/-! a def that stands under a value -/
section
variable {X : Cx} {fe e : Expr} {es : List Expr} {tf : TE} {t : TA} {pos : Pos}
/-- what is known of a def that may be called -/
structure Callee (X : Cx) (f : Addr) (sp : Sp) : Prop where
  ex : ∃ (k : Nat) (fd : FuncData) (ps : List Str), FnOk X.prog X.w X.K X.mg X.base CX0 k f fd ps sp ∧ Room k X.A ∧ Binds X.K fd ps [] ∧ PySem.W.keepIn X.K (.ref f) = true
end
end L2
/-! ### plain data: what a value stands for, equality -/
namespace L2
open PySem PySem.Spec PyProof.Rows

inductive Dat where
  | non | bl (b : Bool) | int (i : Int) | str (x : Str) | tup (l : List Dat) | lst (l : List Dat)

mutual
def DV (H : Hp) : V → Dat → Prop
  | v, .non => v = .non
  | v, .bl b => v = .bl b
  | v, .int i => v = .int i
  | v, .str x => v = .str x
  | v, .tup l => ∃ a xs, v = .ref a ∧ H a = some (.tup xs) ∧ DVs H xs l
  | v, .lst l => ∃ a xs, v = .ref a ∧ H a = some (.lst xs) ∧ DVs H xs l
def DVs (H : Hp) : List V → List Dat → Prop
  | [], [] => True
  | x :: xs, d :: ds => DV H x d ∧ DVs H xs ds
  | _, _ => False
end
mutual
def Dat.beq : Dat → Dat → Bool
  | .non, .non => true
  | .bl a, .bl b => a == b
  | .bl a, .int j => (if a then 1 else 0) == j
  | .int i, .bl b => i == (if b then 1 else 0)
  | .int i, .int j => i == j
  | .str x, .str y => x == y
  | .tup l, .tup m => Dat.beqs l m
  | .lst l, .lst m => Dat.beqs l m
  | _, _ => false
def Dat.beqs : List Dat → List Dat → Bool
  | [], [] => true
  | x :: l, y :: m => Dat.beq x y && Dat.beqs l m
  | _, _ => false
end
mutual
def Dat.dep : Dat → Nat
  | .tup l => Dat.deps l + 1
  | .lst l => Dat.deps l + 1
  | _ => 0
def Dat.deps : List Dat → Nat
  | [] => 0
  | x :: l => max x.dep (Dat.deps l)
end
theorem dep_mem {l : List Dat} {d : Dat} (h : d ∈ l) : d.dep ≤ Dat.deps l := by
  induction l with
  | nil => cases h
  | cons x r ih =>
    unfold Dat.deps
    rcases List.mem_cons.mp h with rfl | h
    · omega
    · have := ih h; omega
section
variable {H H' : Hp}
theorem DVs.length : ∀ {xs : List V} {l : List Dat}, DVs H xs l → xs.length = l.length
  | [], [], _ => rfl
  | _ :: _, _ :: _, h => by unfold DVs at h; rw [List.length_cons, List.length_cons, DVs.length h.2]
  | [], _ :: _, h => by unfold DVs at h; exact h.elim
  | _ :: _, [], h => by unfold DVs at h; exact h.elim
theorem DVs.get : ∀ {xs : List V} {l : List Dat} {i : Nat} {d : Dat}, DVs H xs l → l[i]? = some d → ∃ v, xs[i]? = some v ∧ DV H v d
  | [], [], _, _, _, e => by simp at e
  | x :: xs, y :: l, 0, d, h, e => by unfold DVs at h; simp at e; subst e; exact ⟨x, rfl, h.1⟩
  | x :: xs, y :: l, i + 1, d, h, e => by unfold DVs at h; exact DVs.get (i := i) h.2 (by simpa using e)
  | [], _ :: _, _, _, h, _ => by unfold DVs at h; exact h.elim
  | _ :: _, [], _, _, h, _ => by unfold DVs at h; exact h.elim
theorem DVs.append : ∀ {xs ys : List V} {l m : List Dat}, DVs H xs l → DVs H ys m → DVs H (xs ++ ys) (l ++ m)
  | [], _, [], _, _, k => k
  | x :: xs, _, y :: l, _, h, k => by
    unfold DVs at h
    show DVs H (x :: (xs ++ _)) (y :: (l ++ _))
    unfold DVs
    exact ⟨h.1, DVs.append h.2 k⟩
  | [], _, _ :: _, _, h, _ => by unfold DVs at h; exact h.elim
  | _ :: _, _, [], _, h, _ => by unfold DVs at h; exact h.elim
theorem DVs.one {v : V} {d : Dat} (h : DV H v d) : DVs H [v] [d] := by
  unfold DVs
  exact ⟨h, by unfold DVs; trivial⟩
theorem DVs.nil : DVs H [] [] := by unfold DVs; trivial
theorem DVs.cons {v : V} {d : Dat} {xs : List V} {l : List Dat} (h : DV H v d) (k : DVs H xs l) : DVs H (v :: xs) (d :: l) := by unfold DVs; exact ⟨h, k⟩
mutual
theorem DV.mono (e : ∀ b o, H b = some o → H' b = some o) : ∀ {v : V} {d : Dat}, DV H v d → DV H' v d
  | v, .non, h => by unfold DV at h ⊢; exact h
  | v, .bl b, h => by unfold DV at h ⊢; exact h
  | v, .int i, h => by unfold DV at h ⊢; exact h
  | v, .str x, h => by unfold DV at h ⊢; exact h
  | v, .tup l, h => by
    unfold DV at h ⊢
    obtain ⟨a, xs, h1, h2, h3⟩ := h
    exact ⟨a, xs, h1, e _ _ h2, DVs.mono e h3⟩
  | v, .lst l, h => by
    unfold DV at h ⊢
    obtain ⟨a, xs, h1, h2, h3⟩ := h
    exact ⟨a, xs, h1, e _ _ h2, DVs.mono e h3⟩
theorem DVs.mono (e : ∀ b o, H b = some o → H' b = some o) : ∀ {xs : List V} {l : List Dat}, DVs H xs l → DVs H' xs l
  | [], [], _ => by unfold DVs; trivial
  | x :: xs, d :: ds, h => by
    unfold DVs at h ⊢
    exact ⟨DV.mono e h.1, DVs.mono e h.2⟩
  | [], _ :: _, h => by unfold DVs at h; exact h.elim
  | _ :: _, [], h => by unfold DVs at h; exact h.elim
end
mutual
theorem DV.inj : ∀ {v : V} {d d' : Dat}, DV H v d → DV H v d' → d = d'
  | v, .non, d', h, k => by
    unfold DV at h; subst h
    cases d' <;> unfold DV at k <;> first | rfl | (cases k; done) | (obtain ⟨_, _, k, _⟩ := k; cases k)
  | v, .bl b, d', h, k => by
    unfold DV at h; subst h
    cases d' <;> unfold DV at k <;> first | (cases k; rfl) | (cases k; done) | (obtain ⟨_, _, k, _⟩ := k; cases k)
  | v, .int b, d', h, k => by
    unfold DV at h; subst h
    cases d' <;> unfold DV at k <;> first | (cases k; rfl) | (cases k; done) | (obtain ⟨_, _, k, _⟩ := k; cases k)
  | v, .str b, d', h, k => by
    unfold DV at h; subst h
    cases d' <;> unfold DV at k <;> first | (cases k; rfl) | (cases k; done) | (obtain ⟨_, _, k, _⟩ := k; cases k)
  | v, .tup l, d', h, k => by
    unfold DV at h
    obtain ⟨a, xs, rfl, h2, h3⟩ := h
    cases d' with
    | tup m =>
      unfold DV at k
      obtain ⟨a', ys, e, k2, k3⟩ := k
      cases e
      rw [h2] at k2
      cases k2
      rw [DVs.inj h3 k3]
    | lst m =>
      unfold DV at k
      obtain ⟨a', ys, e, k2, k3⟩ := k
      cases e
      rw [h2] at k2
      cases k2
    | _ => unfold DV at k; cases k
  | v, .lst l, d', h, k => by
    unfold DV at h
    obtain ⟨a, xs, rfl, h2, h3⟩ := h
    cases d' with
    | lst m =>
      unfold DV at k
      obtain ⟨a', ys, e, k2, k3⟩ := k
      cases e
      rw [h2] at k2
      cases k2
      rw [DVs.inj h3 k3]
    | tup m =>
      unfold DV at k
      obtain ⟨a', ys, e, k2, k3⟩ := k
      cases e
      rw [h2] at k2
      cases k2
    | _ => unfold DV at k; cases k
theorem DVs.inj : ∀ {xs : List V} {l m : List Dat}, DVs H xs l → DVs H xs m → l = m
  | [], [], [], _, _ => rfl
  | x :: xs, d :: ds, d' :: ds', h, k => by
    unfold DVs at h k
    rw [DV.inj h.1 k.1, DVs.inj h.2 k.2]
  | [], _ :: _, _, h, _ => by unfold DVs at h; exact h.elim
  | _ :: _, [], _, h, _ => by unfold DVs at h; exact h.elim
  | [], _, _ :: _, _, h => by unfold DVs at h; exact h.elim
  | _ :: _, _, [], _, h => by unfold DVs at h; exact h.elim
end
end
mutual
theorem Dat.beq_refl : ∀ d : Dat, Dat.beq d d = true
  | .non => by simp [Dat.beq]
  | .bl _ => by simp [Dat.beq]
  | .int _ => by simp [Dat.beq]
  | .str _ => by simp [Dat.beq]
  | .tup l => by unfold Dat.beq; exact Dat.beqs_refl l
  | .lst l => by unfold Dat.beq; exact Dat.beqs_refl l
theorem Dat.beqs_refl : ∀ l : List Dat, Dat.beqs l l = true
  | [] => by simp [Dat.beqs]
  | x :: l => by unfold Dat.beqs; rw [Dat.beq_refl x, Dat.beqs_refl l]; rfl
end
theorem beqs_all : ∀ {l m : List Dat}, (List.range (min l.length m.length)).all (fun j => Dat.beq (l.getD j .non) (m.getD j .non)) = true ∧ l.length = m.length ↔ Dat.beqs l m = true
  | [], [] => by simp [Dat.beqs]
  | [], _ :: _ => by simp [Dat.beqs]
  | _ :: _, [] => by simp [Dat.beqs]
  | x :: l, y :: m => by
    have ih := @beqs_all l m
    unfold Dat.beqs
    rw [Bool.and_eq_true, ← ih]
    simp only [List.length_cons, List.all_eq_true, List.mem_range]
    constructor
    · rintro ⟨h1, h2⟩
      refine ⟨?_, fun j hj => ?_, by omega⟩
      · simpa using h1 0 (by omega)
      · simpa using h1 (j + 1) (by omega)
    · rintro ⟨h1, h2, h3⟩
      refine ⟨fun j hj => ?_, by omega⟩
      cases j with
      | zero => simpa using h1
      | succ j => simpa using h2 j (by omega)

theorem beq_tup (l m : List Dat) : Dat.beq (.tup l) (.tup m) = Dat.beqs l m := by rw [Dat.beq]
theorem beq_lst (l m : List Dat) : Dat.beq (.lst l) (.lst m) = Dat.beqs l m := by rw [Dat.beq]
theorem Dat.size_mem {l : List Dat} {d : Dat} (h : d ∈ l) : sizeOf d < sizeOf l := List.sizeOf_lt_of_mem h
section
variable {P : Program} {w : World} {H : Hp} {s : Shared}
theorem in1_units (A : Around) : A.in1.units = A.units + 1 := rfl
theorem eqAt_D (ok : HOk P w H s.heap) : ∀ (d1 d2 : Dat) (A : Around) (v v' : V) (u u' : Value), A.units + d1.dep + d2.dep < cLine → DV H v d1 → DV H v' d2 → RelV v u → RelV v' u' → SeqAt.EqAt A s u u' (Dat.beq d1 d2)
  | .tup l, .tup m, A, v, v', u, u', hu, h1, h2, r1, r2 => by
    have h1' := h1
    have h2' := h2
    unfold DV at h1 h2
    obtain ⟨a, xs, rfl, q1, e1⟩ := h1
    obtain ⟨b, ys, rfl, q2, e2⟩ := h2
    cases (show u = Value.ref a from r1)
    cases (show u' = Value.ref b from r2)
    by_cases hab : a = b
    · subst hab
      rw [DV.inj h1' h2', Dat.beq_refl]
      exact SeqAt.EqAt.same _
    · obtain ⟨_, its, rv, p1⟩ := ok a _ q1
      obtain ⟨_, its2, rv2, p2⟩ := ok b _ q2
      unfold Dat.dep at hu
      refine SeqAt.EqAt.of_refs hab ?_
      have key := SeqAt.RcAt.tuples (A := A) (s := s) (e := fun j => Dat.beq (l.getD j .non) (m.getD j .non)) p1 p2 (by omega) fun j hj1 hj2 => ?_
      · have e : ((List.range (min its.toArray.size its2.toArray.size)).all (fun j => Dat.beq (l.getD j .non) (m.getD j .non)) && its.toArray.size == its2.toArray.size) = Dat.beq (.tup l) (.tup m) := by
          have n1 : its.toArray.size = l.length := by rw [List.size_toArray, ← rv.length, e1.length]
          have n2 : its2.toArray.size = m.length := by rw [List.size_toArray, ← rv2.length, e2.length]
          rw [n1, n2, beq_tup]
          rw [Bool.eq_iff_iff, Bool.and_eq_true, beq_iff_eq]
          exact beqs_all
        rw [← e]
        exact key
      · have n1 : j < l.length := by rw [← e1.length, rv.length]; simpa using hj1
        have n2 : j < m.length := by rw [← e2.length, rv2.length]; simpa using hj2
        obtain ⟨x, gx, dx⟩ := e1.get (i := j) (d := l[j]) (by simp [n1])
        obtain ⟨y, gy, dy⟩ := e2.get (i := j) (d := m[j]) (by simp [n2])
        obtain ⟨ux, gux, rx⟩ := rv.get gx
        obtain ⟨uy, guy, ry⟩ := rv2.get gy
        have ex : its.toArray[j] = ux := by
          have : its.toArray[j]? = some ux := by simpa using gux
          exact Option.some.inj ((Array.getElem?_eq_getElem hj1).symm.trans this)
        have ey : its2.toArray[j] = uy := by
          have : its2.toArray[j]? = some uy := by simpa using guy
          exact Option.some.inj ((Array.getElem?_eq_getElem hj2).symm.trans this)
        have d1 := dep_mem (List.getElem_mem n1)
        have d2 := dep_mem (List.getElem_mem n2)
        have gl : l.getD j .non = l[j] := by simp [List.getD, n1]
        have gm : m.getD j .non = m[j] := by simp [List.getD, n2]
        rw [ex, ey]
        show SeqAt.EqAt A.in1 s ux uy (Dat.beq (l.getD j .non) (m.getD j .non))
        rw [gl, gm]
        have := Dat.size_mem (List.getElem_mem n1)
        exact eqAt_D ok l[j] m[j] A.in1 x y ux uy (by rw [in1_units]; omega) dx dy rx ry
  | .lst l, .lst m, A, v, v', u, u', hu, h1, h2, r1, r2 => by
    have h1' := h1
    have h2' := h2
    unfold DV at h1 h2
    obtain ⟨a, xs, rfl, q1, e1⟩ := h1
    obtain ⟨b, ys, rfl, q2, e2⟩ := h2
    cases (show u = Value.ref a from r1)
    cases (show u' = Value.ref b from r2)
    by_cases hab : a = b
    · subst hab
      rw [DV.inj h1' h2', Dat.beq_refl]
      exact SeqAt.EqAt.same _
    · obtain ⟨_, its, n, rv, p1⟩ := ok a _ q1
      obtain ⟨_, its2, n', rv2, p2⟩ := ok b _ q2
      have L1 : s.heap.IsList a its.toArray := ⟨_, p1, rfl, n, rfl⟩
      have L2 : s.heap.IsList b its2.toArray := ⟨_, p2, rfl, n', rfl⟩
      unfold Dat.dep at hu
      refine SeqAt.EqAt.of_refs hab ?_
      have n1 : its.toArray.size = l.length := by rw [List.size_toArray, ← rv.length, e1.length]
      have n2 : its2.toArray.size = m.length := by rw [List.size_toArray, ← rv2.length, e2.length]
      by_cases hlen : l.length = m.length
      · have key := SeqAt.RcAt.lists (A := A) (s := s) (e := fun j => Dat.beq (l.getD j .non) (m.getD j .non)) L1 L2 (by rw [n1, n2, hlen]) (by omega) fun j hj1 hj2 => ?_
        · have e : ((List.range its.toArray.size).all (fun j => Dat.beq (l.getD j .non) (m.getD j .non))) = Dat.beq (.lst l) (.lst m) := by
            rw [n1, beq_lst]
            have := @beqs_all l m
            rw [← hlen, Nat.min_self] at this
            rw [Bool.eq_iff_iff, ← this]
            exact ⟨fun h => ⟨h, rfl⟩, fun h => h.1⟩
          rw [← e]
          exact key
        · have n1 : j < l.length := by rw [← e1.length, rv.length]; simpa using hj1
          have n2 : j < m.length := by rw [← e2.length, rv2.length]; simpa using hj2
          obtain ⟨x, gx, dx⟩ := e1.get (i := j) (d := l[j]) (by simp [n1])
          obtain ⟨y, gy, dy⟩ := e2.get (i := j) (d := m[j]) (by simp [n2])
          obtain ⟨ux, gux, rx⟩ := rv.get gx
          obtain ⟨uy, guy, ry⟩ := rv2.get gy
          have ex : its.toArray[j] = ux := by
            have : its.toArray[j]? = some ux := by simpa using gux
            exact Option.some.inj ((Array.getElem?_eq_getElem hj1).symm.trans this)
          have ey : its2.toArray[j] = uy := by
            have : its2.toArray[j]? = some uy := by simpa using guy
            exact Option.some.inj ((Array.getElem?_eq_getElem hj2).symm.trans this)
          have d1 := dep_mem (List.getElem_mem n1)
          have d2 := dep_mem (List.getElem_mem n2)
          have gl : l.getD j .non = l[j] := by simp [List.getD, n1]
          have gm : m.getD j .non = m[j] := by simp [List.getD, n2]
          rw [ex, ey]
          show SeqAt.EqAt A.in1 s ux uy (Dat.beq (l.getD j .non) (m.getD j .non))
          rw [gl, gm]
          have := Dat.size_mem (List.getElem_mem n1)
          exact eqAt_D ok l[j] m[j] A.in1 x y ux uy (by rw [in1_units]; omega) dx dy rx ry
      · have key := SeqAt.RcAt.lists_lengths (A := A) (s := s) L1 L2 (by rw [n1, n2]; simpa using hlen) (by omega)
        have e : Dat.beq (.lst l) (.lst m) = false := by
          rw [beq_lst]
          cases hb : Dat.beqs l m with
          | false => rfl
          | true => exact absurd (beqs_all.mpr hb).2 hlen
        rw [e]
        exact key
  | .non, .non, A, v, v', u, u', hu, h1, h2, r1, r2 => by
    unfold DV at h1; subst h1; cases r1
    unfold DV at h2; subst h2; cases r2
    rw [show Dat.beq (.non) (.non) = true from by rw [Dat.beq]]
    exact SeqAt.EqAt.same _
  | .non, .bl p2, A, v, v', u, u', hu, h1, h2, r1, r2 => by
    unfold DV at h1; subst h1; cases r1
    unfold DV at h2; subst h2; cases r2
    rw [show Dat.beq (.non) (.bl p2) = false from by simp [Dat.beq]]
    exact SeqAt.EqAt.none_bool p2
  | .non, .int p2, A, v, v', u, u', hu, h1, h2, r1, r2 => by
    unfold DV at h1; subst h1; cases r1
    unfold DV at h2; subst h2; obtain ⟨t2, rfl⟩ := r2
    rw [show Dat.beq (.non) (.int p2) = false from by simp [Dat.beq]]
    exact SeqAt.EqAt.none_int p2 t2
  | .non, .str p2, A, v, v', u, u', hu, h1, h2, r1, r2 => by
    unfold DV at h1; subst h1; cases r1
    unfold DV at h2; subst h2; obtain ⟨t2, rfl⟩ := r2
    rw [show Dat.beq (.non) (.str p2) = false from by simp [Dat.beq]]
    exact SeqAt.EqAt.none_str p2 t2
  | .non, .tup p2, A, v, v', u, u', hu, h1, h2, r1, r2 => by
    unfold DV at h1; subst h1; cases r1
    unfold DV at h2; obtain ⟨a2, xs2, rfl, q2, e2⟩ := h2; cases r2; obtain ⟨_, its2, _, P2⟩ := ok a2 _ q2
    rw [show Dat.beq (.non) (.tup p2) = false from by simp [Dat.beq]]
    exact SeqAt.EqAt.none_tuple P2 (by omega)
  | .non, .lst p2, A, v, v', u, u', hu, h1, h2, r1, r2 => by
    unfold DV at h1; subst h1; cases r1
    unfold DV at h2; obtain ⟨a2, xs2, rfl, q2, e2⟩ := h2; cases r2; obtain ⟨_, its2, nn2, _, P2⟩ := ok a2 _ q2; have P2 : s.heap.IsList a2 its2.toArray := ⟨_, P2, rfl, nn2, rfl⟩
    rw [show Dat.beq (.non) (.lst p2) = false from by simp [Dat.beq]]
    exact SeqAt.EqAt.none_list P2 (by omega)
  | .bl p1, .non, A, v, v', u, u', hu, h1, h2, r1, r2 => by
    unfold DV at h1; subst h1; cases r1
    unfold DV at h2; subst h2; cases r2
    rw [show Dat.beq (.bl p1) (.non) = false from by simp [Dat.beq]]
    exact SeqAt.EqAt.bool_none p1
  | .bl p1, .bl p2, A, v, v', u, u', hu, h1, h2, r1, r2 => by
    unfold DV at h1; subst h1; cases r1
    unfold DV at h2; subst h2; cases r2
    rw [show Dat.beq (.bl p1) (.bl p2) = (p1 == p2) from by rw [Dat.beq]]
    exact SeqAt.EqAt.bool_bool p1 p2
  | .bl p1, .int p2, A, v, v', u, u', hu, h1, h2, r1, r2 => by
    unfold DV at h1; subst h1; cases r1
    unfold DV at h2; subst h2; obtain ⟨t2, rfl⟩ := r2
    rw [show Dat.beq (.bl p1) (.int p2) = ((if p1 then 1 else 0) == p2) from by rw [Dat.beq]]
    exact SeqAt.EqAt.bool_int p1 p2 t2
  | .bl p1, .str p2, A, v, v', u, u', hu, h1, h2, r1, r2 => by
    unfold DV at h1; subst h1; cases r1
    unfold DV at h2; subst h2; obtain ⟨t2, rfl⟩ := r2
    rw [show Dat.beq (.bl p1) (.str p2) = false from by simp [Dat.beq]]
    exact SeqAt.EqAt.bool_str p1 p2 t2
  | .bl p1, .tup p2, A, v, v', u, u', hu, h1, h2, r1, r2 => by
    unfold DV at h1; subst h1; cases r1
    unfold DV at h2; obtain ⟨a2, xs2, rfl, q2, e2⟩ := h2; cases r2; obtain ⟨_, its2, _, P2⟩ := ok a2 _ q2
    rw [show Dat.beq (.bl p1) (.tup p2) = false from by simp [Dat.beq]]
    exact SeqAt.EqAt.bool_tuple p1 P2 (by omega)
  | .bl p1, .lst p2, A, v, v', u, u', hu, h1, h2, r1, r2 => by
    unfold DV at h1; subst h1; cases r1
    unfold DV at h2; obtain ⟨a2, xs2, rfl, q2, e2⟩ := h2; cases r2; obtain ⟨_, its2, nn2, _, P2⟩ := ok a2 _ q2; have P2 : s.heap.IsList a2 its2.toArray := ⟨_, P2, rfl, nn2, rfl⟩
    rw [show Dat.beq (.bl p1) (.lst p2) = false from by simp [Dat.beq]]
    exact SeqAt.EqAt.bool_list p1 P2 (by omega)
  | .int p1, .non, A, v, v', u, u', hu, h1, h2, r1, r2 => by
    unfold DV at h1; subst h1; obtain ⟨t1, rfl⟩ := r1
    unfold DV at h2; subst h2; cases r2
    rw [show Dat.beq (.int p1) (.non) = false from by simp [Dat.beq]]
    exact SeqAt.EqAt.int_none p1 t1
  | .int p1, .bl p2, A, v, v', u, u', hu, h1, h2, r1, r2 => by
    unfold DV at h1; subst h1; obtain ⟨t1, rfl⟩ := r1
    unfold DV at h2; subst h2; cases r2
    rw [show Dat.beq (.int p1) (.bl p2) = (p1 == (if p2 then 1 else 0)) from by rw [Dat.beq]]
    exact SeqAt.EqAt.int_bool p1 t1 p2
  | .int p1, .int p2, A, v, v', u, u', hu, h1, h2, r1, r2 => by
    unfold DV at h1; subst h1; obtain ⟨t1, rfl⟩ := r1
    unfold DV at h2; subst h2; obtain ⟨t2, rfl⟩ := r2
    rw [show Dat.beq (.int p1) (.int p2) = (p1 == p2) from by rw [Dat.beq]]
    exact SeqAt.EqAt.int_int p1 t1 p2 t2
  | .int p1, .str p2, A, v, v', u, u', hu, h1, h2, r1, r2 => by
    unfold DV at h1; subst h1; obtain ⟨t1, rfl⟩ := r1
    unfold DV at h2; subst h2; obtain ⟨t2, rfl⟩ := r2
    rw [show Dat.beq (.int p1) (.str p2) = false from by simp [Dat.beq]]
    exact SeqAt.EqAt.int_str p1 t1 p2 t2
  | .int p1, .tup p2, A, v, v', u, u', hu, h1, h2, r1, r2 => by
    unfold DV at h1; subst h1; obtain ⟨t1, rfl⟩ := r1
    unfold DV at h2; obtain ⟨a2, xs2, rfl, q2, e2⟩ := h2; cases r2; obtain ⟨_, its2, _, P2⟩ := ok a2 _ q2
    rw [show Dat.beq (.int p1) (.tup p2) = false from by simp [Dat.beq]]
    exact SeqAt.EqAt.int_tuple p1 t1 P2 (by omega)
  | .int p1, .lst p2, A, v, v', u, u', hu, h1, h2, r1, r2 => by
    unfold DV at h1; subst h1; obtain ⟨t1, rfl⟩ := r1
    unfold DV at h2; obtain ⟨a2, xs2, rfl, q2, e2⟩ := h2; cases r2; obtain ⟨_, its2, nn2, _, P2⟩ := ok a2 _ q2; have P2 : s.heap.IsList a2 its2.toArray := ⟨_, P2, rfl, nn2, rfl⟩
    rw [show Dat.beq (.int p1) (.lst p2) = false from by simp [Dat.beq]]
    exact SeqAt.EqAt.int_list p1 t1 P2 (by omega)
  | .str p1, .non, A, v, v', u, u', hu, h1, h2, r1, r2 => by
    unfold DV at h1; subst h1; obtain ⟨t1, rfl⟩ := r1
    unfold DV at h2; subst h2; cases r2
    rw [show Dat.beq (.str p1) (.non) = false from by simp [Dat.beq]]
    exact SeqAt.EqAt.str_none p1 t1
  | .str p1, .bl p2, A, v, v', u, u', hu, h1, h2, r1, r2 => by
    unfold DV at h1; subst h1; obtain ⟨t1, rfl⟩ := r1
    unfold DV at h2; subst h2; cases r2
    rw [show Dat.beq (.str p1) (.bl p2) = false from by simp [Dat.beq]]
    exact SeqAt.EqAt.str_bool p1 t1 p2
  | .str p1, .int p2, A, v, v', u, u', hu, h1, h2, r1, r2 => by
    unfold DV at h1; subst h1; obtain ⟨t1, rfl⟩ := r1
    unfold DV at h2; subst h2; obtain ⟨t2, rfl⟩ := r2
    rw [show Dat.beq (.str p1) (.int p2) = false from by simp [Dat.beq]]
    exact SeqAt.EqAt.str_int p1 t1 p2 t2
  | .str p1, .str p2, A, v, v', u, u', hu, h1, h2, r1, r2 => by
    unfold DV at h1; subst h1; obtain ⟨t1, rfl⟩ := r1
    unfold DV at h2; subst h2; obtain ⟨t2, rfl⟩ := r2
    rw [show Dat.beq (.str p1) (.str p2) = (p1 == p2) from by rw [Dat.beq]]
    exact SeqAt.EqAt.str_str p1 t1 p2 t2
  | .str p1, .tup p2, A, v, v', u, u', hu, h1, h2, r1, r2 => by
    unfold DV at h1; subst h1; obtain ⟨t1, rfl⟩ := r1
    unfold DV at h2; obtain ⟨a2, xs2, rfl, q2, e2⟩ := h2; cases r2; obtain ⟨_, its2, _, P2⟩ := ok a2 _ q2
    rw [show Dat.beq (.str p1) (.tup p2) = false from by simp [Dat.beq]]
    exact SeqAt.EqAt.str_tuple p1 t1 P2 (by omega)
  | .str p1, .lst p2, A, v, v', u, u', hu, h1, h2, r1, r2 => by
    unfold DV at h1; subst h1; obtain ⟨t1, rfl⟩ := r1
    unfold DV at h2; obtain ⟨a2, xs2, rfl, q2, e2⟩ := h2; cases r2; obtain ⟨_, its2, nn2, _, P2⟩ := ok a2 _ q2; have P2 : s.heap.IsList a2 its2.toArray := ⟨_, P2, rfl, nn2, rfl⟩
    rw [show Dat.beq (.str p1) (.lst p2) = false from by simp [Dat.beq]]
    exact SeqAt.EqAt.str_list p1 t1 P2 (by omega)
  | .tup p1, .non, A, v, v', u, u', hu, h1, h2, r1, r2 => by
    unfold DV at h1; obtain ⟨a1, xs1, rfl, q1, e1⟩ := h1; cases r1; obtain ⟨_, its1, _, P1⟩ := ok a1 _ q1
    unfold DV at h2; subst h2; cases r2
    rw [show Dat.beq (.tup p1) (.non) = false from by simp [Dat.beq]]
    exact SeqAt.EqAt.tuple_none P1 (by omega)
  | .tup p1, .bl p2, A, v, v', u, u', hu, h1, h2, r1, r2 => by
    unfold DV at h1; obtain ⟨a1, xs1, rfl, q1, e1⟩ := h1; cases r1; obtain ⟨_, its1, _, P1⟩ := ok a1 _ q1
    unfold DV at h2; subst h2; cases r2
    rw [show Dat.beq (.tup p1) (.bl p2) = false from by simp [Dat.beq]]
    exact SeqAt.EqAt.tuple_bool p2 P1 (by omega)
  | .tup p1, .int p2, A, v, v', u, u', hu, h1, h2, r1, r2 => by
    unfold DV at h1; obtain ⟨a1, xs1, rfl, q1, e1⟩ := h1; cases r1; obtain ⟨_, its1, _, P1⟩ := ok a1 _ q1
    unfold DV at h2; subst h2; obtain ⟨t2, rfl⟩ := r2
    rw [show Dat.beq (.tup p1) (.int p2) = false from by simp [Dat.beq]]
    exact SeqAt.EqAt.tuple_int p2 t2 P1 (by omega)
  | .tup p1, .str p2, A, v, v', u, u', hu, h1, h2, r1, r2 => by
    unfold DV at h1; obtain ⟨a1, xs1, rfl, q1, e1⟩ := h1; cases r1; obtain ⟨_, its1, _, P1⟩ := ok a1 _ q1
    unfold DV at h2; subst h2; obtain ⟨t2, rfl⟩ := r2
    rw [show Dat.beq (.tup p1) (.str p2) = false from by simp [Dat.beq]]
    exact SeqAt.EqAt.tuple_str p2 t2 P1 (by omega)
  | .tup p1, .lst p2, A, v, v', u, u', hu, h1, h2, r1, r2 => by
    unfold DV at h1; obtain ⟨a1, xs1, rfl, q1, e1⟩ := h1; cases r1; obtain ⟨_, its1, _, P1⟩ := ok a1 _ q1
    unfold DV at h2; obtain ⟨a2, xs2, rfl, q2, e2⟩ := h2; cases r2; obtain ⟨_, its2, nn2, _, P2⟩ := ok a2 _ q2; have P2 : s.heap.IsList a2 its2.toArray := ⟨_, P2, rfl, nn2, rfl⟩
    rw [show Dat.beq (.tup p1) (.lst p2) = false from by simp [Dat.beq]]
    exact SeqAt.EqAt.tuple_list P1 P2 (by omega)
  | .lst p1, .non, A, v, v', u, u', hu, h1, h2, r1, r2 => by
    unfold DV at h1; obtain ⟨a1, xs1, rfl, q1, e1⟩ := h1; cases r1; obtain ⟨_, its1, nn1, _, P1⟩ := ok a1 _ q1; have P1 : s.heap.IsList a1 its1.toArray := ⟨_, P1, rfl, nn1, rfl⟩
    unfold DV at h2; subst h2; cases r2
    rw [show Dat.beq (.lst p1) (.non) = false from by simp [Dat.beq]]
    exact SeqAt.EqAt.list_none P1 (by omega)
  | .lst p1, .bl p2, A, v, v', u, u', hu, h1, h2, r1, r2 => by
    unfold DV at h1; obtain ⟨a1, xs1, rfl, q1, e1⟩ := h1; cases r1; obtain ⟨_, its1, nn1, _, P1⟩ := ok a1 _ q1; have P1 : s.heap.IsList a1 its1.toArray := ⟨_, P1, rfl, nn1, rfl⟩
    unfold DV at h2; subst h2; cases r2
    rw [show Dat.beq (.lst p1) (.bl p2) = false from by simp [Dat.beq]]
    exact SeqAt.EqAt.list_bool p2 P1 (by omega)
  | .lst p1, .int p2, A, v, v', u, u', hu, h1, h2, r1, r2 => by
    unfold DV at h1; obtain ⟨a1, xs1, rfl, q1, e1⟩ := h1; cases r1; obtain ⟨_, its1, nn1, _, P1⟩ := ok a1 _ q1; have P1 : s.heap.IsList a1 its1.toArray := ⟨_, P1, rfl, nn1, rfl⟩
    unfold DV at h2; subst h2; obtain ⟨t2, rfl⟩ := r2
    rw [show Dat.beq (.lst p1) (.int p2) = false from by simp [Dat.beq]]
    exact SeqAt.EqAt.list_int p2 t2 P1 (by omega)
  | .lst p1, .str p2, A, v, v', u, u', hu, h1, h2, r1, r2 => by
    unfold DV at h1; obtain ⟨a1, xs1, rfl, q1, e1⟩ := h1; cases r1; obtain ⟨_, its1, nn1, _, P1⟩ := ok a1 _ q1; have P1 : s.heap.IsList a1 its1.toArray := ⟨_, P1, rfl, nn1, rfl⟩
    unfold DV at h2; subst h2; obtain ⟨t2, rfl⟩ := r2
    rw [show Dat.beq (.lst p1) (.str p2) = false from by simp [Dat.beq]]
    exact SeqAt.EqAt.list_str p2 t2 P1 (by omega)
  | .lst p1, .tup p2, A, v, v', u, u', hu, h1, h2, r1, r2 => by
    unfold DV at h1; obtain ⟨a1, xs1, rfl, q1, e1⟩ := h1; cases r1; obtain ⟨_, its1, nn1, _, P1⟩ := ok a1 _ q1; have P1 : s.heap.IsList a1 its1.toArray := ⟨_, P1, rfl, nn1, rfl⟩
    unfold DV at h2; obtain ⟨a2, xs2, rfl, q2, e2⟩ := h2; cases r2; obtain ⟨_, its2, _, P2⟩ := ok a2 _ q2
    rw [show Dat.beq (.lst p1) (.tup p2) = false from by simp [Dat.beq]]
    exact SeqAt.EqAt.list_tuple P1 P2 (by omega)
termination_by d1 => sizeOf d1
decreasing_by
  all_goals simp_wf
  all_goals omega
end
/-! == and != of data -/
section
variable {P : Program} {w : World} {H : Hp} {s : Shared}
/-- the items of two sequences, one by one -/
theorem items_D (ok : HOk P w H s.heap) {A : Around} {xs ys : List V} {l m : List Dat} {its its2 : List Value} (hu : A.units + Dat.deps l + Dat.deps m < cLine) (e1 : DVs H xs l) (e2 : DVs H ys m) (rv : Vals xs its) (rv2 : Vals ys its2) (j : Nat) (hj1 : j < its.toArray.size) (hj2 : j < its2.toArray.size) :
    SeqAt.EqAt A s its.toArray[j] its2.toArray[j] (Dat.beq (l.getD j .non) (m.getD j .non)) := by
  have n1 : j < l.length := by rw [← e1.length, rv.length]; simpa using hj1
  have n2 : j < m.length := by rw [← e2.length, rv2.length]; simpa using hj2
  obtain ⟨x, gx, dx⟩ := e1.get (i := j) (d := l[j]) (by simp [n1])
  obtain ⟨y, gy, dy⟩ := e2.get (i := j) (d := m[j]) (by simp [n2])
  obtain ⟨ux, gux, rx⟩ := rv.get gx
  obtain ⟨uy, guy, ry⟩ := rv2.get gy
  have ex : its.toArray[j] = ux := by
    have : its.toArray[j]? = some ux := by simpa using gux
    exact Option.some.inj ((Array.getElem?_eq_getElem hj1).symm.trans this)
  have ey : its2.toArray[j] = uy := by
    have : its2.toArray[j]? = some uy := by simpa using guy
    exact Option.some.inj ((Array.getElem?_eq_getElem hj2).symm.trans this)
  have d1 := dep_mem (List.getElem_mem n1)
  have d2 := dep_mem (List.getElem_mem n2)
  have gl : l.getD j .non = l[j] := by simp [List.getD, n1]
  have gm : m.getD j .non = m[j] := by simp [List.getD, n2]
  rw [ex, ey, gl, gm]
  exact eqAt_D ok l[j] m[j] A x y ux uy (by omega) dx dy rx ry
end
section
variable {X : Cx}
/-- two lists, or two tuples, of data -/
def rEqD (f : Bool → Bool) (X : Cx) : R2 := fun x y H Q => ∃ l m, ((DV H x (.lst l) ∧ DV H y (.lst m)) ∨ (DV H x (.tup l) ∧ DV H y (.tup m))) ∧ X.A.units + 1 + Dat.deps l + Dat.deps m < cLine ∧ Q (.bl (f (Dat.beqs l m))) H
theorem all_beqs {l m : List Dat} (h : l.length = m.length) : ((List.range l.length).all fun j => Dat.beq (l.getD j .non) (m.getD j .non)) = Dat.beqs l m := by
  have := @beqs_all l m
  rw [← h, Nat.min_self] at this
  rw [Bool.eq_iff_iff, ← this]
  exact ⟨fun h => ⟨h, rfl⟩, fun h => h.1⟩
theorem all_beqs2 {l m : List Dat} : ((List.range (min l.length m.length)).all (fun j => Dat.beq (l.getD j .non) (m.getD j .non)) && l.length == m.length) = Dat.beqs l m := by
  rw [Bool.eq_iff_iff, Bool.and_eq_true, beq_iff_eq]
  exact beqs_all
theorem beqs_len {l m : List Dat} (h : ¬ l.length = m.length) : Dat.beqs l m = false := by
  cases hb : Dat.beqs l m with
  | false => rfl
  | true => exact absurd (beqs_all.mpr hb).2 h
theorem op_eqD : OpR X (compareOp .Eq) (rEqD id X) := by
  intro pins s σ H x y v u Q I rx ry h
  obtain ⟨l, m, h, hu, q⟩ := h
  have ok := I.hok
  rcases h with ⟨h1, h2⟩ | ⟨h1, h2⟩
  all_goals unfold DV at h1 h2
  all_goals obtain ⟨a, xs, rfl, q1, e1⟩ := h1
  all_goals obtain ⟨b, ys, rfl, q2, e2⟩ := h2
  all_goals cases (show v = Value.ref a from rx)
  all_goals cases (show u = Value.ref b from ry)
  · obtain ⟨_, its, n, rv, p1⟩ := ok a _ q1
    obtain ⟨_, its2, n', rv2, p2⟩ := ok b _ q2
    have L1 : s.heap.IsList a its.toArray := ⟨_, p1, rfl, n, rfl⟩
    have L2 : s.heap.IsList b its2.toArray := ⟨_, p2, rfl, n', rfl⟩
    have n1 : its.toArray.size = l.length := by rw [List.size_toArray, ← rv.length, e1.length]
    have n2 : its2.toArray.size = m.length := by rw [List.size_toArray, ← rv2.length, e2.length]
    by_cases hlen : l.length = m.length
    · refine SeqAt.eq_listAt (e := fun j => Dat.beq (l.getD j .non) (m.getD j .non)) L1 L2 (by rw [n1, n2, hlen]) (by omega) (items_D ok (by rw [in1_units]; omega) e1 e2 rv rv2) ⟨.bl _, H, I, rfl, ?_⟩
      rw [n1, all_beqs hlen]
      exact q
    · refine SeqAt.eq_list_lengthsAt L1 L2 (by rw [n1, n2]; simpa using hlen) (by omega) ⟨.bl _, H, I, rfl, ?_⟩
      rw [← beqs_len hlen]
      exact q
  · obtain ⟨_, its, rv, p1⟩ := ok a _ q1
    obtain ⟨_, its2, rv2, p2⟩ := ok b _ q2
    have n1 : its.toArray.size = l.length := by rw [List.size_toArray, ← rv.length, e1.length]
    have n2 : its2.toArray.size = m.length := by rw [List.size_toArray, ← rv2.length, e2.length]
    refine SeqAt.eq_tupleAt (e := fun j => Dat.beq (l.getD j .non) (m.getD j .non)) p1 p2 (by omega) (items_D ok (by rw [in1_units]; omega) e1 e2 rv rv2) ⟨.bl _, H, I, rfl, ?_⟩
    rw [n1, n2, all_beqs2]
    exact q
theorem of_rcneL {prog : Program} {w : World} {A : Around} {s : Shared} {E : Value → Shared → Prop} {Q : Value → Shared → Prop} {a b : Value} {k : Bool} (h : SeqAt.RcNeAt A s a b k) (hq : Q (.bool k) s) : wpAny (model prog w) A (compareOp .NotEq a b) Q E s := h prog w E Q hq
theorem op_neD : OpR X (compareOp .NotEq) (rEqD (fun b => !b) X) := by
  intro pins s σ H x y v u Q I rx ry h
  obtain ⟨l, m, h, hu, q⟩ := h
  have ok := I.hok
  rcases h with ⟨h1, h2⟩ | ⟨h1, h2⟩
  all_goals unfold DV at h1 h2
  all_goals obtain ⟨a, xs, rfl, q1, e1⟩ := h1
  all_goals obtain ⟨b, ys, rfl, q2, e2⟩ := h2
  all_goals cases (show v = Value.ref a from rx)
  all_goals cases (show u = Value.ref b from ry)
  · obtain ⟨_, its, n, rv, p1⟩ := ok a _ q1
    obtain ⟨_, its2, n', rv2, p2⟩ := ok b _ q2
    have L1 : s.heap.IsList a its.toArray := ⟨_, p1, rfl, n, rfl⟩
    have L2 : s.heap.IsList b its2.toArray := ⟨_, p2, rfl, n', rfl⟩
    have n1 : its.toArray.size = l.length := by rw [List.size_toArray, ← rv.length, e1.length]
    have n2 : its2.toArray.size = m.length := by rw [List.size_toArray, ← rv2.length, e2.length]
    by_cases hlen : l.length = m.length
    · refine of_rcneL (SeqAt.RcNeAt.lists (e := fun j => Dat.beq (l.getD j .non) (m.getD j .non)) L1 L2 (by rw [n1, n2, hlen]) (by omega) (items_D ok (by rw [in1_units]; omega) e1 e2 rv rv2)) ⟨.bl _, H, I, rfl, ?_⟩
      rw [n1, all_beqs hlen]
      exact q
    · refine of_rcneL (SeqAt.RcNeAt.lists_lengths L1 L2 (by rw [n1, n2]; simpa using hlen) (by omega)) ⟨.bl _, H, I, rfl, ?_⟩
      rw [beqs_len hlen] at q
      exact q
  · obtain ⟨_, its, rv, p1⟩ := ok a _ q1
    obtain ⟨_, its2, rv2, p2⟩ := ok b _ q2
    have n1 : its.toArray.size = l.length := by rw [List.size_toArray, ← rv.length, e1.length]
    have n2 : its2.toArray.size = m.length := by rw [List.size_toArray, ← rv2.length, e2.length]
    refine of_rcneL (SeqAt.RcNeAt.tuples (e := fun j => Dat.beq (l.getD j .non) (m.getD j .non)) p1 p2 (by omega) (items_D ok (by rw [in1_units]; omega) e1 e2 rv rv2)) ⟨.bl _, H, I, rfl, ?_⟩
    rw [n1, n2, all_beqs2]
    exact q
end
end L2
namespace L2
open PySem PySem.Spec PyProof.Rows
section
variable {X : Cx} {e o : Expr} {es : List Expr} {te ta : TE} {t : TA} {CX : CXT} {k : Nat} {x m : Str} {C : Addr} {ps : List Str} {sp : Sp} {E : XK} {p pos apos : Pos} {R : Value → St → Hp → Prop}
/-- an argument, and those behind it -/
theorem pac (ha : PE X e te) (hr : PA X es t) (hs : ∀ (es : List Expr) (env : Env), starEach (e :: es) env = (false, eval e env) :: starEach es env := by exact fun _ _ => rfl) : PA X (e :: es) (tCons te t) := pa_cons ha hr (hs es X.env)
theorem pe_ty {T : String} (hg : Gl X x) (hm : X.mg x = none) (hv : bootBuiltins x = some (.type T)) (hn : x ≠ "__name__" := by decide) (hd : (x == ("__debug__" : Str)) = false := by decide) : PE X (.Name x pos) (tC (.ty T)) := pe_bltn hg hm hv rfl hn hd

/-- a def of the text, by its name and its promise -/
structure FnBy (P : Program) (w : World) (K : PySem.W.Frag) (mg : Str → Option Value) (base : Heap) (CX : CXT) (k : Nat) (x : Str) (ps : List Str) (sp : Sp) : Prop where
  ex : ∃ f fd, FnOk P w K mg base CX k f fd ps sp ∧ mg x = some (.ref f) ∧ PySem.W.keepIn K (.ref f) = true ∧ Binds K fd ps []
/-- a method -/
structure MethBy (P : Program) (w : World) (K : PySem.W.Frag) (mg : Str → Option Value) (base : Heap) (CX : CXT) (k : Nat) (C : Addr) (m : Str) (ps : List Str) (sp : Sp) : Prop where
  cl : Cls K C
  ex : ∃ f fd, FnOk P w K mg base CX k f fd ps sp ∧ Meth K C m f ∧ Binds K fd ps []
/-- a class, by its __init__ -/
structure MakeBy (P : Program) (w : World) (K : PySem.W.Frag) (mg : Str → Option Value) (base : Heap) (CX : CXT) (k : Nat) (x : Str) (C : Addr) (ps : List Str) (sp : Sp) : Prop where
  ex : ∃ f fd, Mk K C f ∧ FnOk P w K mg base CX k f fd ps sp ∧ mg x = some (.ref C) ∧ Binds K fd ps []
theorem pe_fn (c : FnBy X.prog X.w X.K X.mg X.base CX k x ps sp) (hr : Room k X.A) (hg : Gl X x) (hx : Passes CX X E) (ha : PA X (e :: es) t) (hdb : (x == ("__debug__" : Str)) = false := by decide)
    (he : ∀ (es : List Expr) (env : Env), starEach (e :: es) env = (false, eval e env) :: starEach es env := by exact fun _ _ => rfl) (hpl : (backTo pos (starEach es X.env)).any (·.1) = false := by rfl) : PE X (.Call (.Name x p) (e :: es) [] pos) (tCall sp [] E t) := by
  obtain ⟨f, fd, F, hm, hk, hb⟩ := c.ex
  exact pe_call F hr hg hm hk hb .nil hx ha hdb (he es X.env) hpl
theorem pe_fnX (c : FnBy X.prog X.w X.K X.mg X.base (CXE X.prog X.w) k x ps sp) (hr : Room k X.A) (hg : Gl X x) (hx : XPass X R) (ha : PA X (e :: es) t) (hdb : (x == ("__debug__" : Str)) = false := by decide)
    (he : ∀ (es : List Expr) (env : Env), starEach (e :: es) env = (false, eval e env) :: starEach es env := by exact fun _ _ => rfl) (hpl : (backTo pos (starEach es X.env)).any (·.1) = false := by rfl) : PE X (.Call (.Name x p) (e :: es) [] pos) (tCallX sp [] R t) := by
  obtain ⟨f, fd, F, hm, hk, hb⟩ := c.ex
  exact pe_callX F hr hg hm hk hb .nil hx ha hdb (he es X.env) hpl
end
/-! readings -/
section
variable {K : PySem.W.Frag} {H : Hp} {p : Addr} {xs : List V} {i : Int} {v : V} {Q : VK}
theorem rix_l (h : H p = some (.lst xs)) (hi : atI xs i = some v) (q : Q v H) : rIx K (.ref p) (.int i) H Q := .inl ⟨p, xs, i, v, rfl, rfl, .inl (.inl h), hi, q⟩
theorem rix_t (h : H p = some (.tup xs)) (hi : atI xs i = some v) (q : Q v H) : rIx K (.ref p) (.int i) H Q := .inr (.inl ⟨p, xs, i, v, rfl, rfl, .inl (.inl h), hi, q⟩)
end
theorem sizeLine_ge : 1000 ≤ sizeLine := by decide
theorem le_size {n : Nat} (h : n ≤ 1000) : n ≤ sizeLine := Nat.le_trans h sizeLine_ge
theorem lt_size {n : Nat} (h : n < 1000) : n < sizeLine := Nat.lt_of_lt_of_le h sizeLine_ge
theorem Same.new {H H' : Hp} {p : Addr} {o : HO} (s : Same H H') (h : H' p = none) : Same H (upd H' p o) := fun b u e => by
  rw [upd_ne (ne_of_none (s b u e) h)]
  exact s b u e
def Dat.isInt : Dat → Bool | .int _ => true | _ => false
def dty : Dat → Value
  | .non => .type "NoneType" | .bl _ => .type "bool" | .int _ => .type "int" | .str _ => .type "str" | .tup _ => .type "tuple" | .lst _ => .type "list"
theorem DV.ty {K : PySem.W.Frag} {H : Hp} {v : V} {d : Dat} (h : DV H v d) : TyOf K H v (dty d) := by
  cases d <;> unfold DV at h
  · subst h; exact .non
  · subst h; exact .bl _
  · subst h; exact .int _
  · subst h; exact .str _
  · obtain ⟨a, xs, rfl, q, _⟩ := h; exact .tup q
  · obtain ⟨a, xs, rfl, q, _⟩ := h; exact .lst q
theorem kit_int {K : PySem.W.Frag} : ∀ d : Dat, PySem.W.kitOne K (dty d) (.type "int") = some (match d with | .int _ => true | .bl _ => true | _ => false)
  | .non => rfl | .bl _ => rfl | .int _ => rfl | .str _ => rfl | .tup _ => rfl | .lst _ => rfl
theorem kit_bool {K : PySem.W.Frag} : ∀ d : Dat, PySem.W.kitOne K (dty d) (.type "bool") = some (match d with | .bl _ => true | _ => false)
  | .non => rfl | .bl _ => rfl | .int _ => rfl | .str _ => rfl | .tup _ => rfl | .lst _ => rfl
end L2
namespace L2
open PySem PySem.Spec PyProof.Rows
def capOk (names : List (Str × NameKind)) (NX : List Str) : List Str → List (Option Nat) → Bool
  | x :: N', none :: ix => capOk names NX N' ix
  | x :: N', some j :: ix => NX[j]? == some x && names.lookup x == some .free && capOk names NX N' ix
  | [], [] => true
  | _, _ => false
theorem capOk_len {names : List (Str × NameKind)} {NX : List Str} : ∀ {N' : List Str} {ix : List (Option Nat)}, capOk names NX N' ix = true → ix.length = N'.length
  | [], [], _ => rfl
  | x :: N', none :: ix, h => by rw [capOk] at h; rw [List.length_cons, List.length_cons, capOk_len h]
  | x :: N', some j :: ix, h => by
    rw [capOk] at h
    simp only [Bool.and_eq_true] at h
    rw [List.length_cons, List.length_cons, capOk_len h.2]
  | [], _ :: _, h => by simp [capOk] at h
  | _ :: _, [], h => by simp [capOk] at h
theorem capOk_cap {names : List (Str × NameKind)} {NX : List Str} : ∀ {N' : List Str} {ix : List (Option Nat)}, capOk names NX N' ix = true → ∀ (i : Nat) (x : Str) (j : Nat), N'[i]? = some x → ix[i]? = some (some j) → NX[j]? = some x ∧ names.lookup x = some .free
  | x :: N', none :: ix, h, 0, y, j, h1, h2 => by simp at h2
  | x :: N', none :: ix, h, i + 1, y, j, h1, h2 => by rw [capOk] at h; exact capOk_cap h i y j (by simpa using h1) (by simpa using h2)
  | x :: N', some j :: ix, h, 0, y, j', h1, h2 => by
    rw [capOk] at h
    simp only [Bool.and_eq_true, beq_iff_eq] at h
    simp only [List.getElem?_cons_zero, Option.some.injEq] at h1 h2
    subst h1 h2
    exact ⟨h.1.1, h.1.2⟩
  | x :: N', some j :: ix, h, i + 1, y, j', h1, h2 => by
    rw [capOk] at h
    simp only [Bool.and_eq_true] at h
    exact capOk_cap h.2 i y j' (by simpa using h1) (by simpa using h2)
  | [], _, _, _, _, _, h1, _ => by simp at h1
  | _ :: _, [], h, _, _, _, _, _ => by simp [capOk] at h
theorem comp_sc {X : Cx} {scope : Scope} {N' : List Str} {ix : List (Option Nat)} (kind : scope.kind = .function) (h : (scope.names.all fun y => y.2 != .cell && (y.2 != .local || scope.names.lookup y.1 == some .local) &&
    (y.2 != .free || (scope.names.lookup y.1 == some .free && (X.env.scope.names.lookup y.1 == some .cell || X.env.scope.names.lookup y.1 == some .free)))) = true) (hc : capOk scope.names X.N N' ix = true) : CompSc X scope N' ix := by
  rw [List.all_eq_true] at h
  refine ⟨kind, fun y hy z => ?_, fun y hy z => ?_, fun y hy z => ?_, capOk_len hc, capOk_cap hc⟩
  · have := h y hy
    rw [z] at this
    simp at this
  · have := h y hy
    rw [z] at this
    simp at this
    exact this
  · have := h y hy
    rw [z] at this
    simp at this
    exact this
/-! a cut between statements: what holds there -/
def tCut (M : St → Hp → Prop) (t u : TS) : TS := fun D σ H => t { D with nx := M } σ H ∧ ∀ σ' H', M σ' H' → u D σ' H'
theorem pss_cut {X : Cx} {st : Stmt} {rest : List Stmt} {t u : TS} (M : St → Hp → Prop) (h1 : PS X st t) (h2 : PSs X rest u) : PSs X (st :: rest) (tCut M t u) := by
  have h3 := pss_cons h1 h2
  intro pins s σ H D I h
  obtain ⟨ht, hu⟩ := h
  have key : PSs X (st :: rest) (fun D' σ H => t { D' with nx := M } σ H ∧ ∀ σ' H', M σ' H' → u D' σ' H') := by
    intro pins s σ H D I h
    refine wpAny_execs_cons (thn (h1 pins s σ H _ I h.1) fun f s1 q => ?_)
    cases f with
    | next => obtain ⟨σ', H', I', m⟩ := q; exact h2 pins s1 σ' H' D I' (h.2 σ' H' m)
    | brk => exact q
    | cont => exact q
    | ret v => exact q
  exact key pins s σ H D I ⟨ht, hu⟩
theorem pg_comp {X : Cx} {scope : Scope} {N' : List Str} {C : Addr} {s : Shared} {H : Hp} {fp : List Addr} {pins : List (Addr × Obj)} {i : Nat} {x : Str} {pos : Pos} (nd : N'.Nodup) (hi : N'[i]? = some x) (hx : scope.names.lookup x = some .local) :
    PG (X.comp scope N' C s H fp pins) (.Name x pos) (gName i) := pg_name nd hi (Or.inl (lookup_relabel_local hx)) (Or.inr (lookup_relabel_local hx))
/-! data without lists stays when a list is changed -/
mutual
def Dat.noLst : Dat → Bool
  | .tup l => Dat.noLsts l
  | .lst _ => false
  | _ => true
def Dat.noLsts : List Dat → Bool
  | [] => true
  | d :: l => d.noLst && Dat.noLsts l
end
theorem noLsts_of {l : List Dat} (h : ∀ d ∈ l, d.noLst = true) : Dat.noLsts l = true := by
  induction l with
  | nil => rw [Dat.noLsts]
  | cons d r ih =>
    rw [Dat.noLsts, h d List.mem_cons_self, ih fun x hx => h x (List.mem_cons_of_mem _ hx)]
    rfl
section
variable {H : Hp} {l : Addr} {ys : List V} {o : HO}
mutual
theorem DV.keepL (hl : H l = some (.lst ys)) : ∀ {v : V} {d : Dat}, d.noLst = true → DV H v d → DV (upd H l o) v d
  | v, .non, _, h => by unfold DV at h ⊢; exact h
  | v, .bl b, _, h => by unfold DV at h ⊢; exact h
  | v, .int i, _, h => by unfold DV at h ⊢; exact h
  | v, .str x, _, h => by unfold DV at h ⊢; exact h
  | v, .tup m, hn, h => by
    rw [Dat.noLst] at hn
    unfold DV at h ⊢
    obtain ⟨a, xs, h1, h2, h3⟩ := h
    refine ⟨a, xs, h1, ?_, DVs.keepL hl hn h3⟩
    rw [upd_ne (ne_of h2 hl (by intro z; cases z))]
    exact h2
  | v, .lst m, hn, _ => by rw [Dat.noLst] at hn; cases hn
theorem DVs.keepL (hl : H l = some (.lst ys)) : ∀ {xs : List V} {m : List Dat}, Dat.noLsts m = true → DVs H xs m → DVs (upd H l o) xs m
  | [], [], _, _ => by unfold DVs; trivial
  | x :: xs, d :: ds, hn, h => by
    rw [Dat.noLsts, Bool.and_eq_true] at hn
    unfold DVs at h ⊢
    exact ⟨DV.keepL hl hn.1 h.1, DVs.keepL hl hn.2 h.2⟩
  | [], _ :: _, _, h => by unfold DVs at h; exact h.elim
  | _ :: _, [], _, h => by unfold DVs at h; exact h.elim
end
end
/-- a change at what was not there -/
theorem Same.put {H H' : Hp} {p : Addr} {o : HO} (s : Same H H') (h : H p = none) : Same H (upd H' p o) := fun b u e => by
  rw [upd_ne (ne_of_none e h)]
  exact s b u e
theorem DVs.rep {H : Hp} {v : V} {d : Dat} (h : DV H v d) : ∀ n : Nat, DVs H (List.replicate n v) (List.replicate n d)
  | 0 => DVs.nil
  | n + 1 => DVs.cons h (DVs.rep h n)
/-! readings of loops and comprehensions -/
section
variable {K : PySem.W.Frag} {ix : List (Option Nat)} {g : TG} {tc : TT} {te tl : TE} {ta : TA} {tb : TS} {Q : VK} {D : Ends} {σ : St} {H : Hp}
theorem rlc_list (mono : ∀ R R' : V → Hp → Prop, (∀ v H, R v H → R' v H) → tl σ H R → tl σ H R') (h : tl σ H fun x H1 => ∃ a xs, x = .ref a ∧ SqL K H1 a xs ∧ ∀ acc, H1 acc = none → ∃ Pv : Nat → St → Hp → Prop, Pv 0 (st0 ix σ) (upd H1 acc (.lst [])) ∧ (∀ i σ2 H2, i ≤ xs.length → Pv i σ2 H2 → SqL K H2 a xs) ∧
      (∀ i x σ2 H2, xs[i]? = some x → Pv i σ2 H2 → g x σ2 H2 fun σ3 H3 => tc σ3 H3 fun b H4 => if b = true then te σ3 H4 fun y H5 => ∃ ys, H5 acc = some (.lst ys) ∧ ys.length < sizeLine ∧ Pv (i + 1) σ3 (upd H5 acc (.lst (ys ++ [y]))) else Pv (i + 1) σ3 H4) ∧
      ∀ σ2 H2, Pv xs.length σ2 H2 → Q (.ref acc) H2) : tLC (iList K tl) ix g tc te σ H Q := by
  refine mono _ _ (fun x H1 h => ?_) h
  obtain ⟨a, xs, e, hs, h3⟩ := h
  refine ⟨a, e, ⟨xs, hs⟩, fun acc hacc => ?_⟩
  obtain ⟨Pv, p0, pl, ps, pd⟩ := h3 acc hacc
  exact lc_list Pv p0 pl ps pd
theorem rfor_range (mono : ∀ R R' : List V → Hp → Prop, (∀ vs H, R vs H → R' vs H) → ta σ H R → ta σ H R') (h : ta σ H fun vs H1 => ∃ j : Int, vs = [.int j] ∧ -(2 ^ 62) ≤ j ∧ j < 2 ^ 62 ∧ ∃ Pv : Nat → St → Hp → Prop, Pv 0 σ H1 ∧
      (∀ i σ2 H2, i < j.toNat → Pv i σ2 H2 → g (.int (0 + i)) σ2 H2 fun σ3 H3 => tb { D with nx := Pv (i + 1), ct := Pv (i + 1), bk := D.nx } σ3 H3) ∧
      ∀ σ2 H2, Pv j.toNat σ2 H2 → D.nx σ2 H2) : tFor (iRng1 ta) g tb D σ H := by
  refine mono _ _ (fun vs H1 h => ?_) h
  obtain ⟨j, e, h1, h2, Pv, p0, ps, pd⟩ := h
  exact ⟨j, e, h1, h2, for_range Pv p0 ps pd⟩
end
theorem atI_at {xs : List V} {k : Nat} {v : V} (h : xs[k]? = some v) : atI xs (k : Int) = some v := by
  have hl := (List.getElem?_eq_some_iff.mp h).1
  unfold atI ixN
  rw [if_pos (by omega), if_pos (by omega)]
  simpa using h
end L2
namespace L2
open PySem PySem.Spec PyProof.Rows
/-! rules that name the heap behind them -/
/-- G is H with o at p, which was free -/
structure New (H : Hp) (p : Addr) (o : HO) (G : Hp) : Prop where
  free : H p = none
  eq : G = upd H p o
theorem New.at {H G : Hp} {p : Addr} {o : HO} (n : New H p o G) : G p = some o := by rw [n.eq]; exact upd_same
theorem New.same {H G : Hp} {p : Addr} {o : HO} (n : New H p o G) : Same H G := by rw [n.eq]; exact (Same.refl _).new n.free
/-- G is H with o at p -/
structure Put (H : Hp) (p : Addr) (o : HO) (G : Hp) : Prop where
  eq : G = upd H p o
theorem Put.at {H G : Hp} {p : Addr} {o : HO} (n : Put H p o G) : G p = some o := by rw [n.eq]; exact upd_same
theorem Put.ne {H G : Hp} {p b : Addr} {o : HO} (n : Put H p o G) (h : b ≠ p) : G b = H b := by rw [n.eq]; exact upd_ne h
theorem Put.same {H H' G : Hp} {p : Addr} {o : HO} (n : Put H' p o G) (s : Same H H') (h : H p = none) : Same H G := by rw [n.eq]; exact s.put h
theorem Put.dvs {H G : Hp} {l : Addr} {ys : List V} {o : HO} {xs : List V} {m : List Dat} (n : Put H l o G) (hl : H l = some (.lst ys)) (hn : Dat.noLsts m = true) (d : DVs H xs m) : DVs G xs m := by rw [n.eq]; exact DVs.keepL hl hn d
theorem Put.dv {H G : Hp} {l : Addr} {ys : List V} {o : HO} {v : V} {m : Dat} (n : Put H l o G) (hl : H l = some (.lst ys)) (hn : m.noLst = true) (d : DV H v m) : DV G v m := by rw [n.eq]; exact DV.keepL hl hn d
section
variable {X : Cx} {es : List Expr} {t : TA} {pos : Pos}
def tTupN (t : TA) : TE := fun σ H Q => t σ H fun xs H1 => xs.length ≤ sizeLine ∧ ∀ p G, New H1 p (.tup xs) G → Q (.ref p) G
def tLstN (t : TA) : TE := fun σ H Q => t σ H fun xs H1 => xs.length ≤ sizeLine ∧ ∀ p G, New H1 p (.lst xs) G → Q (.ref p) G
theorem pe_tupN {x1} (h : PA X es t) : PE X (.Tuple es x1 pos) (tTupN t) := by
  intro pins s σ H Q I hq
  refine wpAny_Tuple_spliced (thn (h pos pins s σ H _ I hq) fun us s1 ⟨xs, H1, I1, r, z, q⟩ => ⟨by rw [← r.length]; exact z, ?_⟩)
  have hf : H1 s1.heap.objs.size = none := I1.hok.fresh (Nat.le_refl _)
  refine ⟨.ref s1.heap.objs.size, upd H1 s1.heap.objs.size (.tup xs), I1.laid (t' := s1.toks) (fun b u e => Heap.get?_push_of_some _ e) (Nat.le_refl _) ?_, rfl, q _ _ ⟨hf, rfl⟩⟩
  exact ⟨z, us, r, ⟨_, Heap.get?_push_size _ rfl, rfl, 0, rfl⟩⟩
theorem pe_lstN (h : PA X es t) : PE X (.List es pos) (tLstN t) := by
  intro pins s σ H Q I hq
  refine wpAny_List_spliced (thn (h pos pins s σ H _ I hq) fun us s1 ⟨xs, H1, I1, r, z, q⟩ => ⟨by rw [← r.length]; exact z, ?_⟩)
  have hf : H1 s1.heap.objs.size = none := I1.hok.fresh (Nat.le_refl _)
  refine ⟨.ref s1.heap.objs.size, upd H1 s1.heap.objs.size (.lst xs), I1.laid (t' := s1.toks) (fun b u e => Heap.get?_push_of_some _ e) (Nat.le_refl _) ?_, rfl, q _ _ ⟨hf, rfl⟩⟩
  exact ⟨z, us, 0, r, Heap.get?_push_size _ rfl⟩
theorem OpR.of {f : Value → Value → Sem Value} {r r' : R2} (h : OpR X f r) (i : ∀ x y H Q, r' x y H Q → r x y H Q) : OpR X f r' := fun pins s σ H x y v u Q I rx ry q => h pins s σ H x y v u Q I rx ry (i _ _ _ _ q)
theorem CallR.of {f : Value} {r r' : List V → Hp → VK → Prop} (h : CallR X f r) (i : ∀ xs H Q, r' xs H Q → r xs H Q) : CallR X f r' := fun pins s σ H xs us Q I rx q => h pins s σ H xs us Q I rx (i _ _ _ q)
theorem MtM.of {id : String} {r r' : V → List V → Hp → VK → Prop} (h : MtM X id r) (i : ∀ x xs H Q, r' x xs H Q → r x xs H Q) : MtM X id r' := fun pins s σ H x xs v us Q I r1 r2 q => h pins s σ H x xs v us Q I r1 r2 (i _ _ _ _ q)
def rRepN : R2 := fun x y H Q => ∃ l k xs, x = .ref l ∧ y = .int k ∧ H l = some (.lst xs) ∧ -(2 ^ 63) ≤ k ∧ k < 2 ^ 63 ∧ xs.length * k.toNat ≤ sizeLine ∧ ∀ p G, New H p (.lst (List.replicate k.toNat xs).flatten) G → Q (.ref p) G
theorem op_repN : OpR X (binaryOp .Mult) rRepN := op_rep.of fun x y H Q ⟨l, k, xs, h1, h2, h3, h4, h5, h6, h7⟩ => ⟨l, k, xs, h1, h2, h3, h4, h5, h6, fun p hp => h7 p _ ⟨hp, rfl⟩⟩
def rCatN : R2 := fun x y H Q => ∃ l b xs zs, x = .ref l ∧ y = .ref b ∧ H l = some (.lst xs) ∧ H b = some (.lst zs) ∧ xs.length + zs.length ≤ sizeLine ∧ ∀ p G, New H p (.lst (xs ++ zs)) G → Q (.ref p) G
theorem op_catN : OpR X (binaryOp .Add) rCatN := op_cat.of fun x y H Q ⟨l, b, xs, zs, h1, h2, h3, h4, h5, h6⟩ => ⟨l, b, xs, zs, h1, h2, h3, h4, h5, fun p hp => h6 p _ ⟨hp, rfl⟩⟩
theorem call_listN : CallR X (.type "list") (fun xs H Q => ∃ p ys, xs = [.ref p] ∧ (SqL X.K H p ys ∨ SqT X.K H p ys) ∧ ∀ l G, New H l (.lst ys) G → Q (.ref l) G) := call_list_of.of fun xs H Q ⟨p, ys, h1, h2, h3⟩ => ⟨p, ys, h1, h2, fun l hl => h3 l _ ⟨hl, rfl⟩⟩
def rAppendN : V → List V → Hp → VK → Prop := fun x vs H Q => ∃ l xs y, x = .ref l ∧ vs = [y] ∧ H l = some (.lst xs) ∧ xs.length < sizeLine ∧ ∀ G, Put H l (.lst (xs ++ [y])) G → Q .non G
theorem mt_appendN : MtM X "list.append" rAppendN := mt_append.of fun x vs H Q ⟨l, xs, y, h1, h2, h3, h4, h5⟩ => ⟨l, xs, y, h1, h2, h3, h4, h5 _ ⟨rfl⟩⟩
def rExtendN : V → List V → Hp → VK → Prop := fun x vs H Q => ∃ l b xs zs, x = .ref l ∧ vs = [.ref b] ∧ H l = some (.lst xs) ∧ H b = some (.lst zs) ∧ xs.length + zs.length ≤ sizeLine ∧ ∀ G, Put H l (.lst (xs ++ zs)) G → Q .non G
theorem mt_extendN : MtM X "list.extend" rExtendN := mt_extend.of fun x vs H Q ⟨l, b, xs, zs, h1, h2, h3, h4, h5, h6⟩ => ⟨l, b, xs, zs, h1, h2, h3, h4, h5, h6 _ ⟨rfl⟩⟩
end
end L2
namespace L2
open PySem PySem.Spec PyProof.Rows
section
variable {X : Cx} {o e value : Expr} {f : Str} {pos pos' tpos : Pos} {ta tv : TE}
def sFldN (K : PySem.W.Frag) (ta tv : TE) (f : Str) : TS := fun D σ H => tv σ H fun y H1 => ta σ H1 fun x H2 => ∃ a C dx fs, x = .ref a ∧ H2 a = some (.ins C dx fs) ∧ Cls K C ∧ NoAttr K C f ∧ fs.length < 1000 ∧
  ∀ G, Put H2 a (.ins C dx (putF f y fs)) G → D.nx σ G
/-- C(..): the heap behind the new instance is named -/
def tMakeN (C : Addr) (sp : Sp) (dvs : List V) (E : XK) (t : TA) : TE := fun σ H Q => t σ H fun vs H1 => ∀ x dx G1 G, New H1 dx (.own x) G1 → New G1 x (.ins C dx []) G → sp (.ref x :: (vs ++ dvs)) G (fun v H2 => v = .non ∧ Q (.ref x) H2) E
variable {CX : CXT} {k : Nat} {x : Str} {C : Addr} {ps : List Str} {sp : Sp} {E : XK} {p : Pos} {es : List Expr} {t : TA}
end
theorem Put.two {H G G' : Hp} {a : Addr} {o o' : HO} (p : Put H a o G) (q : Put G a o' G') : Put H a o' G' := ⟨by rw [q.eq, p.eq, upd_upd]⟩
end L2
namespace L2
open PySem PySem.Spec PyProof.Rows
/-! a dict of defs that stands at the top -/
structure DAt (K : PySem.W.Frag) (w : World) (a : Addr) : Prop where
  ex : ∃ es n, K.lookup a = some ⟨.type "dict", none, .dict es n, #[]⟩ ∧ PySem.W.KeysLit w.params es.toList
  lo : (a == sysModules) = false
section
variable {X : Cx}
end
end L2
namespace L2
open PySem PySem.Spec PyProof.Rows
section
variable {X : Cx}
/-- a cut whose middle is said when it is read -/
def tCutE (t u : TS) : TS := fun D σ H => ∃ M : St → Hp → Prop, t { D with nx := M } σ H ∧ ∀ σ' H', M σ' H' → u D σ' H'
theorem pss_cutE {st : Stmt} {rest : List Stmt} {t u : TS} (h1 : PS X st t) (h2 : PSs X rest u) : PSs X (st :: rest) (tCutE t u) :=
  fun pins s σ H D I ⟨M, h⟩ => pss_cut M h1 h2 pins s σ H D I h
/-- code that isn't reached -/
def tDead : TS := fun _ _ _ => False
theorem pss_dead {st : List Stmt} : PSs X st tDead := fun _ _ _ _ _ _ h => h.elim
end
end L2
/-! The room over plain data: hands as a function of their numbers, the steps, deeds and visits. -/
namespace Rm

inductive W where
  | out | begins | looks | draws | lowers | asks | sees | enters | within
deriving DecidableEq

structure Hand where
  flag : Bool
  ticket : Nat
  word : W
  place : Nat
  great : Nat
deriving DecidableEq

abbrev Hands := Nat → Hand

def out0 : Hand := ⟨false, 0, .out, 0, 0⟩

def put {α : Type} (s : Nat → α) (i : Nat) (h : α) : Nat → α := fun j => if j = i then h else s j
theorem put_self {α : Type} (s : Nat → α) (i : Nat) (h : α) : put s i h i = h := by simp [put]
theorem put_ne {α : Type} (s : Nat → α) {i j : Nat} (h : α) (e : j ≠ i) : put s i h j = s j := by simp [put, e]
/-- the p-th of the others of i -/
def oth (i p : Nat) : Nat := if p < i then p else p + 1
/-- the place of j among the others of i -/
def plc (i j : Nat) : Nat := if j < i then j else j - 1

theorem oth_ne (i p : Nat) : oth i p ≠ i := by
  unfold oth
  split <;> omega
theorem oth_lt {n i p : Nat} (hi : i < n) (hp : p < n - 1) : oth i p < n := by
  unfold oth
  split <;> omega
def turn (n : Nat) (h : Hand) (p : Nat) (w b : W) : Hand := { h with place := p, word := if p < n - 1 then w else b }

/-- the other's ticket ot, of the hand o, goes first -/
def first (ot o t i : Nat) : Bool := decide (ot ≠ 0 ∧ (ot < t ∨ ot = t ∧ o < i))

def stepH (n : Nat) (s : Hands) (i : Nat) : Hand :=
  let h := s i
  let o := s (oth i h.place)
  match h.word with
  | .begins => turn n { h with flag := true } 0 .looks .draws
  | .looks => turn n { h with great := max h.great o.ticket } (h.place + 1) .looks .draws
  | .draws => { h with ticket := h.great + 1, word := .lowers }
  | .lowers => turn n { h with flag := false } 0 .asks .enters
  | .asks => if o.flag then h else { h with word := .sees }
  | .sees => if first o.ticket (oth i h.place) h.ticket i then h else turn n h (h.place + 1) .asks .enters
  | .enters => { h with word := .within }
  | .out => h
  | .within => h

abbrev Told := W × Option Nat × Option Nat

def toldS (s : Hands) (i : Nat) : Told :=
  let h := s i
  let k := oth i h.place
  let o := s k
  match h.word with
  | .looks => (.looks, some k, some o.ticket)
  | .draws => (.draws, none, some (h.great + 1))
  | .asks => (.asks, some k, some (if o.flag then 1 else 0))
  | .sees => (.sees, some k, some o.ticket)
  | .enters => (.enters, none, some h.ticket)
  | w => (w, none, none)

def up : W → Bool
  | .looks | .draws | .lowers => true
  | _ => false
def hasT : W → Bool
  | .lowers | .asks | .sees | .enters | .within => true
  | _ => false
def settled : W → Bool
  | .asks | .sees | .enters | .within => true
  | _ => false

/-- j, whose hand is h, is late to i, whose ticket is ti -/
def Late (ti i j : Nat) (h : Hand) : Prop :=
  match h.word with
  | .out | .begins => True
  | .looks => plc j i < h.place → ti ≤ h.great
  | .draws => ti ≤ h.great
  | _ => ti < h.ticket
/-- i, whose ticket is ti, is ahead of j, whose hand is h -/
def Ahead (ti i j : Nat) (h : Hand) : Prop :=
  match h.word with
  | .out | .begins => True
  | .looks => plc j i < h.place → ti ≤ h.great
  | .draws => ti ≤ h.great
  | _ => ti < h.ticket ∨ ti = h.ticket ∧ i < j
/-- j, whose hand is h, is past i -/
def Past (j i : Nat) (h : Hand) : Prop :=
  match h.word with
  | .asks | .sees => plc j i < h.place
  | .enters | .within => True
  | _ => False

theorem Late.ahead {ti i j : Nat} {h : Hand} (l : Late ti i j h) : Ahead ti i j h := by
  unfold Late at l
  unfold Ahead
  revert l
  cases h.word <;> simp <;> omega

structure Inv (n : Nat) (s : Hands) : Prop where
  flag : ∀ i, i < n → (s i).flag = up (s i).word
  tick : ∀ i, i < n → ((s i).ticket ≠ 0 ↔ hasT (s i).word = true)
  plcL : ∀ i, i < n → (s i).word = .looks → (s i).place < n - 1
  plcA : ∀ i, i < n → (s i).word = .asks → (s i).place < n - 1
  plcS : ∀ i, i < n → (s i).word = .sees → (s i).place < n - 1
  pas : ∀ i j, i < n → j < n → i ≠ j → Past j i (s j) → Ahead (s j).ticket j i (s i)
  see : ∀ i j, i < n → j < n → i ≠ j → (s j).word = .sees → oth j (s j).place = i → Ahead (s j).ticket j i (s i) ∨ settled (s i).word = true

/-- a step changes no ticket but where it draws -/
theorem step_ticket {n : Nat} {s : Hands} {j : Nat} (h : (s j).word ≠ .draws) : (stepH n s j).ticket = (s j).ticket := by
  generalize hw : (s j).word = w at h
  cases w <;> simp only [stepH, hw, turn] <;> first | contradiction | rfl | (split <;> rfl)

theorem step_settled {n : Nat} {s : Hands} {j : Nat} (h : settled (s j).word = true) : settled (stepH n s j).word = true := by
  generalize hw : (s j).word = w at h
  cases w <;> simp only [settled, Bool.false_eq_true] at h <;> simp only [stepH, hw]
  · split
    · simp [hw, settled]
    · rfl
  · split
    · simp [hw, settled]
    · simp only [turn]; split <;> rfl
  · rfl
  · simp [hw, settled]

/-- a word on, by whether there is another one -/
theorem word_on {n p : Nat} {w b : W} {P : W → Prop} (hw : p < n - 1 → P w) (hb : ¬ p < n - 1 → P b) : P (if p < n - 1 then w else b) := by
  by_cases h : p < n - 1
  · rw [if_pos h]; exact hw h
  · rw [if_neg h]; exact hb h

/-- never two are within -/
theorem Inv.alone {n : Nat} {s : Hands} {i j : Nat} (I : Inv n s) (hi : i < n) (hj : j < n) (wi : (s i).word = .within) (wj : (s j).word = .within) : i = j := by
  by_cases e : i = j
  · exact e
  · have a := I.pas i j hi hj e (by simp [Past, wj])
    have b := I.pas j i hj hi (Ne.symm e) (by simp [Past, wi])
    simp only [Ahead, wi, wj] at a b
    omega

theorem inv_start (n : Nat) : Inv n fun _ => out0 := by
  constructor <;> intros <;> simp_all [out0, up, hasT, Past, Ahead]
end Rm
/-! Visits: what a deed writes down, and what holds of all that was written. -/
namespace Rm

structure Visit where
  hand : Nat
  wanted : Nat
  lowered : Option Nat
  ticket : Option Nat
  entered : Option Nat
  left : Option Nat
deriving DecidableEq

structure Hall where
  hands : Hands
  vis : Nat → Visit
  m : Nat
  cur : Nat → Nat

def noteV (w : W) (t tk : Nat) (v : Visit) : Visit :=
  match w with
  | .draws => { v with ticket := some tk }
  | .lowers => { v with lowered := some t }
  | .enters => { v with entered := some t }
  | _ => v

def stepA (n t : Nat) (H : Hall) (i : Nat) : Hall :=
  { H with hands := put H.hands i (stepH n H.hands i), vis := put H.vis (H.cur i) (noteV (H.hands i).word t ((H.hands i).great + 1) (H.vis (H.cur i))) }
def goOut (h : Hand) : Hand := { h with flag := false, ticket := 0, word := .out }
def leaveA (t : Nat) (H : Hall) (i : Nat) : Hall :=
  { H with hands := put H.hands i (goOut (H.hands i)), vis := put H.vis (H.cur i) { H.vis (H.cur i) with left := some t } }
def wantA (t : Nat) (H : Hall) (i : Nat) : Hall :=
  { hands := put H.hands i { H.hands i with great := 0, word := .begins }, vis := put H.vis H.m ⟨i, t, none, none, none, none⟩, m := H.m + 1, cur := put H.cur i H.m }

/-- how many have drawn -/
def drawn (vis : Nat → Visit) : Nat → Nat
  | 0 => 0
  | m + 1 => drawn vis m + if (vis m).ticket.isSome then 1 else 0
structure Own (h : Hand) (i : Nat) (v : Visit) : Prop where
  hand : v.hand = i
  left : v.left = none
  low : v.lowered.isSome = settled h.word
  tick : v.ticket = if hasT h.word then some h.ticket else none
  ent : v.entered.isSome = decide (h.word = .within)

structure HInv (n T : Nat) (H : Hall) : Prop where
  inv : Inv n H.hands
  cur : ∀ i, i < n → (H.hands i).word ≠ .out → H.cur i < H.m ∧ Own (H.hands i) i (H.vis (H.cur i))
  opn : ∀ k, k < H.m → (H.vis k).left = none → (H.hands (H.vis k).hand).word ≠ .out ∧ H.cur (H.vis k).hand = k
  hnd : ∀ k, k < H.m → (H.vis k).hand < n
  tW : ∀ k, k < H.m → (H.vis k).wanted < T
  tL : ∀ k x, k < H.m → (H.vis k).lowered = some x → x < T ∧ (H.vis k).wanted ≤ x
  tE : ∀ k x, k < H.m → (H.vis k).entered = some x → x < T
  tX : ∀ k x, k < H.m → (H.vis k).left = some x → x < T
  entL : ∀ k e x, k < H.m → (H.vis k).entered = some e → (H.vis k).left = some x → e < x
  fcfs : ∀ i j, i < n → j < n → i ≠ j → (H.hands i).word ≠ .out → (H.hands j).word ≠ .out → ∀ l, (H.vis (H.cur i)).lowered = some l → l < (H.vis (H.cur j)).wanted → Late (H.hands i).ticket i j (H.hands j)
  k03 : ∀ a b l e, a < H.m → b < H.m → (H.vis a).lowered = some l → l < (H.vis b).wanted → (H.vis b).entered = some e → ∃ x, (H.vis a).left = some x ∧ x ≤ e
  k08 : ∀ a b l k, a < H.m → b < H.m → (H.vis a).lowered = some l → l < (H.vis b).wanted → (H.vis b).lowered = some k → (∃ x, (H.vis a).left = some x ∧ x ≤ k) ∨ ∃ ta tb, (H.vis a).ticket = some ta ∧ (H.vis b).ticket = some tb ∧ ta < tb
  apart : ∀ a b e f, a < H.m → b < H.m → a ≠ b → (H.vis a).entered = some e → (H.vis b).entered = some f → e ≤ f → ∃ x, (H.vis a).left = some x ∧ x ≤ f
  tk : ∀ k x, k < H.m → (H.vis k).ticket = some x → 1 ≤ x ∧ x ≤ drawn H.vis H.m
  lowT : ∀ k, k < H.m → (H.vis k).lowered.isSome = true → (H.vis k).ticket.isSome = true
  gr : ∀ i, i < n → (H.hands i).great ≤ drawn H.vis H.m ∧ (H.hands i).ticket ≤ drawn H.vis H.m

/-- each who is within, from lo on, entered ahead of t -/
def Un (n t lo : Nat) (H : Hall) : Prop := ∀ i, i < n → lo ≤ i → (H.hands i).word = .within → ∀ e, (H.vis (H.cur i)).entered = some e → e < t

theorem HInv.more {n T T' : Nat} {H : Hall} (I : HInv n T H) (h : T ≤ T') : HInv n T' H :=
  ⟨I.inv, I.cur, I.opn, I.hnd, fun k hk => Nat.lt_of_lt_of_le (I.tW k hk) h, fun k x hk e => ⟨Nat.lt_of_lt_of_le (I.tL k x hk e).1 h, (I.tL k x hk e).2⟩, fun k x hk e => Nat.lt_of_lt_of_le (I.tE k x hk e) h,
    fun k x hk e => Nat.lt_of_lt_of_le (I.tX k x hk e) h, I.entL, I.fcfs, I.k03, I.k08, I.apart, I.tk, I.lowT, I.gr⟩
theorem HInv.un {n T : Nat} {H : Hall} (I : HInv n T H) (lo : Nat) : Un n T lo H := fun i hi _ hw e he => I.tE _ e (I.cur i hi (by rw [hw]; decide)).1 he

theorem step_out {n : Nat} {s : Hands} {j : Nat} : (stepH n s j).word = .out ↔ (s j).word = .out := by
  generalize hw : (s j).word = w
  cases w <;> simp only [stepH, hw, turn]
  case asks => split <;> simp [hw]
  case sees =>
    split
    · simp [hw]
    · exact word_on (P := fun w => w = .out ↔ W.sees = .out) (fun _ => by decide) (fun _ => by decide)
  case begins => exact word_on (P := fun w => w = .out ↔ W.begins = .out) (fun _ => by decide) (fun _ => by decide)
  case looks => exact word_on (P := fun w => w = .out ↔ W.looks = .out) (fun _ => by decide) (fun _ => by decide)
  case lowers => exact word_on (P := fun w => w = .out ↔ W.lowers = .out) (fun _ => by decide) (fun _ => by decide)
  all_goals simp

/-- who goes in is behind nobody whose flag is lowered and to whom it is late -/
theorem Inv.late {n : Nat} {s : Hands} {i j : Nat} (I : Inv n s) (hi : i < n) (hj : j < n) (ne : i ≠ j) (wi : (s i).word = .enters) (wj : settled (s j).word = true) (l : Late (s j).ticket j i (s i)) : False := by
  have b := I.pas j i hj hi (Ne.symm ne) (by simp [Past, wi])
  simp only [Late, wi] at l
  revert b wj
  unfold Ahead
  cases (s j).word <;> simp [settled] <;> omega
end Rm
namespace Rm

end Rm
namespace Rm

/-- what a step does to the visit of its hand, field by field -/
structure Noted (t : Nat) (h h' : Hand) (v v' : Visit) : Prop where
  hand : v'.hand = v.hand
  wanted : v'.wanted = v.wanted
  left : v'.left = v.left
  low : v'.lowered = if h.word = .lowers then some t else v.lowered
  ent : v'.entered = if h.word = .enters then some t else v.entered
  tick : v'.ticket = if h.word = .draws then some (h.great + 1) else v.ticket

end Rm
/-! Deeds and stories; never two within, by the answers too. -/
namespace Rm

inductive Deed where
  | want (h : Int)
  | go (h : Int) (many : Nat)
  | leave (h : Int)
  | round
deriving DecidableEq

inductive Ans where
  | num (k : Nat)
  | steps (l : List Told)
  | went (l : List Nat)
  | noHand | isWithin | onWay | isOut
deriving DecidableEq

/-- so many steps of the hand i, but no more when it is within -/
def goA (n t i : Nat) (H : Hall) : Nat → Hall × List Told
  | 0 => (H, [])
  | k + 1 =>
    let r := goA n t i H k
    if (r.1.hands i).word = .within then r else (stepA n t r.1 i, r.2 ++ [toldS r.1.hands i])

def roundOne (n t : Nat) (H : Hall) (i : Nat) : Hall × List Nat :=
  if (H.hands i).word = .within then (leaveA t H i, [])
  else if (H.hands i).word = .out then (H, [])
  else (stepA n t H i, if (H.hands i).word = .enters then [i] else [])
/-- the hands below k have acted -/
def roundA (n t : Nat) (H : Hall) : Nat → Hall × List Nat
  | 0 => (H, [])
  | k + 1 => ((roundOne n t (roundA n t H k).1 k).1, (roundA n t H k).2 ++ (roundOne n t (roundA n t H k).1 k).2)

def isHand (n : Nat) (h : Int) : Bool := decide (0 ≤ h ∧ h < n)

def deedA (n t : Nat) (H : Hall) : Deed → Hall × Ans
  | .want h =>
    if isHand n h then
      if (H.hands h.toNat).word = .within then (H, .isWithin)
      else if (H.hands h.toNat).word = .out then (wantA t H h.toNat, .num H.m)
      else (H, .onWay)
    else (H, .noHand)
  | .go h many =>
    if isHand n h then
      if (H.hands h.toNat).word = .out then (H, .isOut)
      else if (H.hands h.toNat).word = .within then (H, .isWithin)
      else ((goA n t h.toNat H many).1, .steps (goA n t h.toNat H many).2)
    else (H, .noHand)
  | .leave h =>
    if isHand n h then
      if (H.hands h.toNat).word = .out then (H, .isOut)
      else (leaveA t H h.toNat, .num (H.hands h.toNat).ticket)
    else (H, .noHand)
  | .round => ((roundA n t H n).1, .went (roundA n t H n).2)

def hall0 : Hall := ⟨fun _ => out0, fun _ => ⟨0, 0, none, none, none, none⟩, 0, fun _ => 0⟩

/-- the hall and the answers behind the deeds -/
def run (n : Nat) (ds : List Deed) : Hall × List Ans :=
  ds.foldl (fun r d => ((deedA n r.2.length r.1 d).1, r.2 ++ [(deedA n r.2.length r.1 d).2])) (hall0, [])

/-- who is within -/
def ins (n : Nat) (H : Hall) : List Nat := (List.range n).filter fun j => decide ((H.hands j).word = .within)

end Rm
/-! Rounds: all come through. -/
namespace Rm

def actH (n : Nat) (s : Hands) (i : Nat) : Hand :=
  if (s i).word = .within then goOut (s i) else if (s i).word = .out then s i else stepH n s i

/-- a round, told of the hands alone: each acts on what those ahead of it have done -/
def mix (s s' : Hands) (k : Nat) : Hands := fun j => if j < k then s' j else s j
theorem mix_self (s s' : Hands) (k : Nat) : mix s s' k k = s k := by simp [mix]
def RoundTo (n : Nat) (s s' : Hands) : Prop := ∀ k, k < n → s' k = actH n (mix s s' k) k

def door (n : Nat) (h : Hand) : Nat :=
  match h.word with
  | .begins => n + 2
  | .looks => n + 1 - h.place
  | .draws => 2
  | .lowers => 1
  | _ => 0
def rest (n : Nat) (h : Hand) : Nat :=
  match h.word with
  | .asks => 2 * (n - 1 - h.place) + 2
  | .sees => 2 * (n - 1 - h.place) + 1
  | .enters => 2
  | .within => 1
  | _ => 0

theorem door_act {n : Nat} {s : Hands} {k : Nat} (hk : k < n) (hp : (s k).word = .looks → (s k).place < n - 1) : door n (actH n s k) = door n (s k) - 1 := by
  generalize hw : (s k).word = w at hp
  cases w <;> simp only [actH, hw, stepH, turn, reduceCtorEq, if_false, if_true]
  case out => simp [door, hw]
  case begins =>
    by_cases h : 0 < n - 1
    · simp [door, hw, h]
    · simp [door, hw, h]; omega
  case looks =>
    have := hp rfl
    by_cases h : (s k).place + 1 < n - 1
    · simp only [door, hw, h, if_true]; omega
    · simp only [door, hw, h, if_false]; omega
  case draws => simp [door, hw]
  case lowers =>
    by_cases h : 0 < n - 1
    · simp [door, hw, h]
    · simp [door, hw, h]
  case asks => split <;> simp [door, hw]
  case sees =>
    split
    · simp [door, hw]
    · by_cases h : (s k).place + 1 < n - 1
      · simp [door, hw, h]
      · simp [door, hw, h]
  case enters => simp [door, hw]
  case within => simp [door, hw, goOut]

def Calm (n : Nat) (s : Hands) : Prop := ∀ j, j < n → door n (s j) = 0
theorem calm_word {n : Nat} {h : Hand} (hn : 0 < n) (hp : h.word = .looks → h.place < n - 1) (e : door n h = 0) : h.word = .out ∨ settled h.word = true := by
  unfold door at e
  revert e hp
  cases h.word <;> simp [settled] <;> omega
theorem calm_act {n : Nat} {s : Hands} {k : Nat} (h : (s k).word = .out ∨ settled (s k).word = true) :
    (actH n s k).word = .out ∧ (actH n s k).ticket = (if (s k).word = .out then (s k).ticket else 0) ∨ (s k).word ≠ .out ∧ settled (actH n s k).word = true ∧ (actH n s k).ticket = (s k).ticket := by
  by_cases h1 : (s k).word = .within
  · left; simp [actH, h1, goOut]
  · by_cases h2 : (s k).word = .out
    · left; simp [actH, h2]
    · right
      have hs := h.resolve_left h2
      simp only [actH, if_neg h1, if_neg h2]
      exact ⟨h2, step_settled hs, step_ticket fun z => by rw [z] at hs; cases hs⟩

structure Least (n : Nat) (s : Hands) (m : Nat) : Prop where
  lt : m < n
  act : (s m).word ≠ .out
  least : ∀ j, j < n → j ≠ m → (s j).word ≠ .out → (s m).ticket < (s j).ticket ∨ (s m).ticket = (s j).ticket ∧ m < j

/-- who goes first goes on -/
theorem rest_act {n : Nat} {s : Hands} {m : Nat} (hm : m < n) (hw : settled (s m).word = true) (hp : (s m).word = .asks ∨ (s m).word = .sees → (s m).place < n - 1)
    (hf : ∀ j, j < n → j ≠ m → (s j).flag = false) (ht : ∀ j, j < n → j ≠ m → (s j).ticket = 0 ∨ (s m).ticket < (s j).ticket ∨ (s m).ticket = (s j).ticket ∧ m < j) :
    rest n (actH n s m) + 1 = rest n (s m) := by
  generalize hww : (s m).word = w at hw hp
  cases w <;> simp only [settled, Bool.false_eq_true] at hw
  case asks =>
    have h1 := hp (.inl rfl)
    have := hf _ (oth_lt hm h1) (oth_ne _ _)
    simp [actH, hww, stepH, this, rest]
  case sees =>
    have h1 := hp (.inr rfl)
    have := ht _ (oth_lt hm h1) (oth_ne _ _)
    have hnf : first (s (oth m (s m).place)).ticket (oth m (s m).place) (s m).ticket m = false := by
      simp only [first, decide_eq_false_iff_not]
      omega
    simp only [actH, hww, stepH, hnf, reduceCtorEq, if_false, Bool.false_eq_true, turn]
    by_cases h : (s m).place + 1 < n - 1
    · simp only [rest, hww, h, if_true]; omega
    · simp only [rest, hww, h, if_false]; omega
  case enters => simp [actH, hww, stepH, rest]
  case within => simp [actH, hww, rest, goOut]

section
variable {n : Nat} {S : Nat → Hands} (hS : ∀ r, RoundTo n (S r) (S (r + 1))) (hI : ∀ r, Inv n (S r))
include hS hI

theorem door_after (q k : Nat) (hk : k < n) : ∀ r, door n (S (q + r) k) = door n (S q k) - r
  | 0 => rfl
  | r + 1 => by
    have e := hS (q + r) k hk
    rw [show q + (r + 1) = (q + r) + 1 from rfl, e, door_act hk]
    · rw [mix_self, door_after q k hk r]
      omega
    · rw [mix_self]
      exact (hI (q + r)).plcL k hk

theorem calm_stays {q : Nat} (h : Calm n (S q)) (r : Nat) : Calm n (S (q + r)) := fun j hj => by rw [door_after hS hI q j hj r, h j hj]; omega

theorem act_after {q j : Nat} (hj : j < n) (h : Calm n (S q)) :
    (S (q + 1) j).word = .out ∧ (S (q + 1) j).ticket = 0 ∨ (S q j).word ≠ .out ∧ settled (S (q + 1) j).word = true ∧ (S (q + 1) j).ticket = (S q j).ticket := by
  have hw := calm_word (by omega) ((hI q).plcL j hj) (h j hj)
  have e := hS q j hj
  have m := mix_self (S q) (S (q + 1)) j
  have := calm_act (n := n) (s := mix (S q) (S (q + 1)) j) (k := j) (by rw [m]; exact hw)
  rw [← e, m] at this
  rcases this with ⟨h1, h2⟩ | h1
  · left
    refine ⟨h1, ?_⟩
    rw [h2]
    split
    · rename_i hz
      have t := (hI q).tick j hj
      rw [hz] at t
      simpa [hasT] using t
    · rfl
  · exact .inr h1

theorem out_stays {q j : Nat} (hj : j < n) (h : (S q j).word = .out) : ∀ r, (S (q + r) j).word = .out
  | 0 => h
  | r + 1 => by
    have e := hS (q + r) j hj
    have m := mix_self (S (q + r)) (S (q + r + 1)) j
    have hr := out_stays hj h r
    rw [show q + (r + 1) = (q + r) + 1 from rfl, e]
    simp [actH, m, hr]

theorem least_after {q m : Nat} (h : Calm n (S q)) (L : Least n (S q) m) : rest n (S (q + 1) m) + 1 = rest n (S q m) ∧ ((S (q + 1) m).word ≠ .out → Least n (S (q + 1)) m) := by
  have hm := L.lt
  have hw := (calm_word (by omega) ((hI q).plcL m hm) (h m hm)).resolve_left L.act
  have e := hS q m hm
  have mx := mix_self (S q) (S (q + 1)) m
  constructor
  · rw [e]
    conv => rhs; rw [← mx]
    refine rest_act hm ?_ ?_ ?_ ?_
    · rw [mx]; exact hw
    · rw [mx]
      rintro (z | z)
      · exact (hI q).plcA m hm z
      · exact (hI q).plcS m hm z
    · intro j hj ne
      show (if j < m then S (q + 1) j else S q j).flag = false
      split
      · rw [(hI (q + 1)).flag j hj]
        rcases calm_word (by omega) ((hI (q + 1)).plcL j hj) (calm_stays hS hI h 1 j hj) with z | z
        · rw [z]; rfl
        · revert z; cases (S (q + 1) j).word <;> simp [settled, up]
      · rw [(hI q).flag j hj]
        rcases calm_word (by omega) ((hI q).plcL j hj) (h j hj) with z | z
        · rw [z]; rfl
        · revert z; cases (S q j).word <;> simp [settled, up]
    · intro j hj ne
      rw [mx]
      show (if j < m then S (q + 1) j else S q j).ticket = 0 ∨ (S q m).ticket < (if j < m then S (q + 1) j else S q j).ticket ∨ (S q m).ticket = (if j < m then S (q + 1) j else S q j).ticket ∧ m < j
      split
      · rcases act_after hS hI hj h with ⟨_, z⟩ | ⟨z1, z2, z3⟩
        · exact .inl z
        · rw [z3]; exact .inr (L.least j hj ne z1)
      · by_cases z : (S q j).word = .out
        · left
          have t := (hI q).tick j hj
          rw [z] at t
          simpa [hasT] using t
        · exact .inr (L.least j hj ne z)
  · intro hw2
    refine ⟨hm, hw2, fun j hj ne hwj => ?_⟩
    rcases act_after hS hI hm h with ⟨z, _⟩ | ⟨_, _, z⟩
    · exact absurd z hw2
    · rcases act_after hS hI hj h with ⟨y, _⟩ | ⟨y1, _, y⟩
      · exact absurd y hwj
      · rw [z, y]; exact L.least j hj ne y1

theorem gone {m : Nat} : ∀ (r q : Nat), Calm n (S q) → Least n (S q) m → rest n (S q m) ≤ r → (S (q + r) m).word = .out
  | 0, q, h, L, hr => by
    have := (least_after hS hI h L).1
    omega
  | r + 1, q, h, L, hr => by
    obtain ⟨h1, h2⟩ := least_after hS hI h L
    rw [show q + (r + 1) = (q + 1) + r by omega]
    by_cases e : (S (q + 1) m).word = .out
    · exact out_stays hS hI L.lt e r
    · exact gone r (q + 1) (calm_stays hS hI h 1) (h2 e) (by omega)
end

end Rm
/-! Rounds and what is written of the visits. -/
namespace Rm

structure Kept (H H' : Hall) : Prop where
  m : H'.m = H.m
  cur : H'.cur = H.cur
  hand : ∀ k, (H'.vis k).hand = (H.vis k).hand
  wanted : ∀ k, (H'.vis k).wanted = (H.vis k).wanted
  shut : ∀ k, (H.vis k).left ≠ none → H'.vis k = H.vis k
  gone : ∀ k, (H'.vis k).left ≠ none → (H.vis k).left ≠ none ∨ (H'.vis k).entered ≠ none
  ent : ∀ k e, (H.vis k).entered = some e → (H'.vis k).entered = some e
theorem Kept.refl (H : Hall) : Kept H H := ⟨rfl, rfl, fun _ => rfl, fun _ => rfl, fun _ _ => rfl, fun _ h => .inl h, fun _ _ h => h⟩
theorem Kept.trans {H H' H'' : Hall} (a : Kept H H') (b : Kept H' H'') : Kept H H'' := by
  refine ⟨b.m.trans a.m, b.cur.trans a.cur, fun k => (b.hand k).trans (a.hand k), fun k => (b.wanted k).trans (a.wanted k), fun k h => ?_, fun k h => ?_, fun k e h => b.ent k e (a.ent k e h)⟩
  · have e := a.shut k h
    rw [b.shut k (by rw [e]; exact h), e]
  · rcases b.gone k h with h | h
    · rcases a.gone k h with h | h
      · exact .inl h
      · right
        cases e : (H'.vis k).entered with
        | none => exact absurd e h
        | some x => rw [b.ent k x e]; simp
    · exact .inr h

end Rm
/-! A hand alone; who draws draws right; refused deeds. -/
namespace Rm

end Rm
/-! A hand alone, step by step; who draws draws right. -/
namespace Rm

end Rm
namespace L2
open PySem PySem.Spec PyProof.Rows
/-! what stands at the top, and the contracts made of it -/
section
variable {P : Program} {w : World} {K : PySem.W.Frag} {mg : Str → Option Value} {base h : Heap} {CX : CXT} {k : Nat} {ps : List Str} {sp : Sp} {x m qual : Str} {st : Stmt} {f C : Addr} {oc : Value} {od an : Option Addr} {osl : Array (Option Value)} {kV doc pm cdv ct : Value}
def BindsSt (x qual : Str) (st : Stmt) (ps : List Str) : Prop := ∀ (kV doc pm : Value) (an : Option Addr) (cdv ct : Value) (us : List Value), us.length = ps.length → bindArgs (PySem.W.fnOf x qual (defArgs st) (defBody st) (defScope st) .none kV doc pm an cdv ct) ⟨us, []⟩ = pure (ps.zip us)
structure FnTop (K : PySem.W.Frag) (x qual : Str) (st : Stmt) : Prop where
  ex : ∃ f fd, Fun K x qual st f fd ∧ PySem.W.nsIn K mainGlobals x = some (some (.ref f))
theorem fnTop (a : PySem.W.nsIn K mainGlobals x = some (some (.ref f))) (l : K.lookup f = some ⟨oc, od, .func (PySem.W.fnOf x qual (defArgs st) (defBody st) (defScope st) .none kV doc pm an cdv ct), osl⟩) (c : PySem.W.codeIn K cdv qual = true) (k : PySem.W.keepIn K (.ref f) = true) : FnTop K x qual st :=
  ⟨f, _, fun_mk l c k, a⟩
theorem FnTop.by (t : FnTop K x qual st) (X : K.In h) (G : h.Ns mainGlobals mg) (hb : BindsSt x qual st ps) (ok : ∀ f fd, Fun K x qual st f fd → FnOk P w K mg base CX k f fd ps sp) : FnBy P w K mg base CX k x ps sp := by
  obtain ⟨f, fd, F, a⟩ := t.ex
  exact ⟨f, fd, ok f fd F, PySem.W.mg_of X G a, F.kp, F.binds hb⟩
structure ClTop (K : PySem.W.Frag) (x : Str) (C : Addr) : Prop where
  at_ : PySem.W.nsIn K mainGlobals x = some (some (.ref C))
  cl : Cls K C
structure MeTop (K : PySem.W.Frag) (C : Addr) (m qual : Str) (st : Stmt) : Prop where
  ex : ∃ f fd, Fun K m qual st f fd ∧ Meth K C m f
theorem MeTop.by (t : MeTop K C m qual st) (c : Cls K C) (hb : BindsSt m qual st ps) (ok : ∀ f fd, Fun K m qual st f fd → FnOk P w K mg base CX k f fd ps sp) : MethBy P w K mg base CX k C m ps sp := by
  obtain ⟨f, fd, F, a⟩ := t.ex
  exact ⟨c, f, fd, ok f fd F, a, F.binds hb⟩
structure MkTop (K : PySem.W.Frag) (C : Addr) (qual : Str) (st : Stmt) : Prop where
  ex : ∃ f fd, Fun K "__init__" qual st f fd ∧ Mk K C f
theorem MkTop.by (t : MkTop K C qual st) (X : K.In h) (G : h.Ns mainGlobals mg) (c : ClTop K x C) (hb : BindsSt "__init__" qual st ps) (ok : ∀ f fd, Fun K "__init__" qual st f fd → FnOk P w K mg base CX k f fd ps sp) : MakeBy P w K mg base CX k x C ps sp := by
  obtain ⟨f, fd, F, a⟩ := t.ex
  exact ⟨f, fd, a, ok f fd F, PySem.W.mg_of X G c.at_, F.binds hb⟩
structure StrTop (K : PySem.W.Frag) (x y : Str) : Prop where
  ex : ∃ t, PySem.W.nsIn K mainGlobals x = some (some (.str y t))
theorem strTop {y : Str} {t : Tok} (a : PySem.W.nsIn K mainGlobals x = some (some (.str y t))) : StrTop K x y := ⟨t, a⟩
theorem StrTop.by {y : Str} (t : StrTop K x y) (X : K.In h) (G : h.Ns mainGlobals mg) : ∃ t, mg x = some (.str y t) := by
  obtain ⟨t, a⟩ := t.ex
  exact ⟨t, PySem.W.mg_of X G a⟩
structure XTop (K : PySem.W.Frag) (x : Str) (C : Addr) : Prop where
  at_ : PySem.W.nsIn K mainGlobals x = some (some (.ref C))
  exc : PySem.W.excIn K C [.type "ValueError", .type "Exception", .type "BaseException", .type "object"] "ValueError.__new__" = true
theorem XTop.by (t : XTop K x C) (X : K.In h) (G : h.Ns mainGlobals mg) : XCls K mg x C := ⟨PySem.W.mg_of X G t.at_, t.exc⟩
/-- a def that stands in a dict of the top -/
structure DfTop (K : PySem.W.Frag) (d : Addr) (x : Str) (st : Stmt) : Prop where
  ex : ∃ f fd, Fun K x x st f fd ∧ PySem.W.nsIn K d x = some (some (.ref f))
structure DTop (K : PySem.W.Frag) (w : World) (x : Str) (d : Addr) : Prop where
  at_ : PySem.W.nsIn K mainGlobals x = some (some (.ref d))
  dat : DAt K w d
end
end L2
namespace L2
open PySem PySem.Spec PyProof.Rows
/-! a dict of one's own, a list's place, a field that grows: the heap behind them is named -/
section
variable {X : Cx} {o i e value : Expr} {f : Str} {pos pos' tpos : Pos} {ta td ty tv : TE}
def sDPutN (td ty tv : TE) : TS := fun D σ H => tv σ H fun v H1 => td σ H1 fun x H2 => ty σ H2 fun y H3 => ∃ a kvs k, x = .ref a ∧ y = kV k ∧ H3 a = some (.dK kvs) ∧ kvs.length < sizeLine ∧ ∀ G, Put H3 a (.dK (putK kvs k v)) G → D.nx σ G
def rSetLN : V → V → V → Hp → (Hp → Prop) → Prop := fun o i v H Q => ∃ p xs k j, o = .ref p ∧ i = .int k ∧ H p = some (.lst xs) ∧ ixN xs.length k = some j ∧ ∀ G, Put H p (.lst (xs.set j v)) G → Q G
theorem set_listN : PSet X rSetLN := fun pins s σ H o i v ov iv u Q I ro ri rv ⟨p, xs, k, j, h1, h2, h3, h4, q⟩ => set_list pins s σ H o i v ov iv u Q I ro ri rv ⟨p, xs, k, j, h1, h2, h3, h4, q _ ⟨rfl⟩⟩
theorem pe_gi {x : Str} {n : Int} (hg : Gl X x) (h : ∃ t, X.mg x = some (.int n t)) (hd : (x == ("__debug__" : Str)) = false := by decide) : PE X (.Name x pos) (tC (.int n)) := by
  obtain ⟨t, e⟩ := h
  exact pe_glob hg e ⟨t, rfl⟩ hd
theorem call_tupleN : CallR X (.type "tuple") (fun xs H Q => ∃ p ys, xs = [.ref p] ∧ SqL X.K H p ys ∧ ∀ l G, New H l (.tup ys) G → Q (.ref l) G) := call_tuple_of.of fun xs H Q ⟨p, ys, h1, h2, h3⟩ => ⟨p, ys, h1, .inl ⟨h2, fun l hl => h3 l _ ⟨hl, rfl⟩⟩⟩
end
structure IntTop (K : PySem.W.Frag) (x : Str) (n : Int) : Prop where
  ex : ∃ t, PySem.W.nsIn K mainGlobals x = some (some (.int n t))
theorem intTop {K : PySem.W.Frag} {x : Str} {n : Int} {t : Tok} (a : PySem.W.nsIn K mainGlobals x = some (some (.int n t))) : IntTop K x n := ⟨t, a⟩
theorem IntTop.by {K : PySem.W.Frag} {x : Str} {n : Int} {mg : Str → Option Value} {h : Heap} (t : IntTop K x n) (X : K.In h) (G : h.Ns mainGlobals mg) : ∃ t, mg x = some (.int n t) := by
  obtain ⟨t, a⟩ := t.ex
  exact ⟨t, PySem.W.mg_of X G a⟩
end L2
namespace L2
open PySem PySem.Spec PyProof.Rows
/-! for i, x in enumerate(list) -/
section
variable {X : Cx} {pins : List (Addr × Obj)} {σ : St} {H : Hp} {s : Shared} {h' : Heap}
end
end L2
namespace L2
open PySem PySem.Spec PyProof.Rows PySem.W
/-! sorted, over a few pairs -/
section
variable {prog : Program} {w : World} {A : Around} {E : Value → Shared → Prop} {s : Shared}
end
section
variable {X : Cx}
end
end L2
namespace Tx
open PySem PySem.Builtin PySem.Builtin.Str PySem.StrLaws
/-! parts and lines: a line's parts by its blanks -/
theorem occ_stay (s sub : PySem.Str) (hi limit : Nat) : ∀ (l : List Nat) (st : Array Nat × Nat) (i : Nat), i ∈ st.fst → i ∈ (forIn l st (occBody s sub hi limit)).run.fst
  | [], st, i, h => h
  | a :: l, st, i, h => by
    rw [List.forIn_cons]
    unfold occBody
    split
    · exact occ_stay s sub hi limit l _ i (Array.mem_push.mpr (.inl h))
    · exact occ_stay s sub hi limit l _ i h
theorem occ_all (s : PySem.Str) (c hi limit : Nat) : ∀ (n lo : Nat) (st : Array Nat × Nat), st.snd ≤ lo → st.fst.size + n ≤ limit → ∀ i, lo ≤ i → i < lo + n → (i + 1 ≤ hi ∧ subAt s ⟨#[c]⟩ i = true) → i ∈ (forIn (List.range' lo n) st (occBody s ⟨#[c]⟩ hi limit)).run.fst
  | 0, lo, st, _, _, i, h1, h2, _ => absurd h2 (by omega)
  | n + 1, lo, st, hf, hl, i, h1, h2, h3 => by
    rw [List.range'_succ, List.forIn_cons]
    unfold occBody
    by_cases e : i = lo
    · subst e
      rw [if_pos ⟨⟨⟨by omega, hf⟩, h3.1⟩, h3.2⟩]
      exact occ_stay s _ hi limit _ _ i (Array.mem_push.mpr (.inr rfl))
    · split
      · refine occ_all s c hi limit n (lo + 1) _ ?_ ?_ i (by omega) (by omega) h3
        · show lo + 1 ≤ lo + 1
          omega
        · show (st.fst.push lo).size + n ≤ limit
          rw [Array.size_push]
          omega
      · exact occ_all s c hi limit n (lo + 1) _ (by show st.snd ≤ lo + 1; omega) (by show st.fst.size + n ≤ limit; omega) i (by omega) (by omega) h3
theorem occ_mem (x : PySem.Str) (c i : Nat) (h : x.cps.toList[i]? = some c) : i ∈ occurrences x ⟨#[c]⟩ 0 x.length (x.length + 1) := by
  have h3 := (subAt_one x c i).mpr h
  rw [occ_eq]
  have hi : i < x.length := by have := h3.1; simp [Str.length] at this ⊢; omega
  exact Array.mem_toList_iff.mpr (occ_all x c x.length (x.length + 1) _ 0 _ (Nat.le_refl _) (by simp) i (Nat.zero_le _) (by omega) ⟨h3.1, h3.2⟩)
theorem sub_no {x : PySem.Str} {c a b : Nat} (h : ∀ i, a ≤ i → i < b → x.cps.toList[i]? ≠ some c) : c ∉ (strSub x a b).cps.toList := by
  rw [strSub_toList]
  intro hm
  obtain ⟨k, hk⟩ := List.mem_iff_getElem?.mp hm
  have hk2 := (List.getElem?_eq_some_iff.mp hk).1
  rw [List.length_take] at hk2
  rw [List.getElem?_take, if_pos (by omega), List.getElem?_drop] at hk
  exact h (a + k) (by omega) (by omega) hk
theorem parts_no (x : PySem.Str) (c : Nat) : ∀ (cuts : List Nat) (a f : Nat), ChainTo x ⟨#[c]⟩ x.length a cuts f → (∀ i, a ≤ i → x.cps.toList[i]? = some c → i ∈ cuts) → ∀ p ∈ partsFrom x 1 a cuts, c ∉ p.cps.toList
  | [], a, f, _, h, p, hp => by
    rw [partsFrom, List.mem_singleton] at hp
    subst hp
    exact sub_no fun i h1 _ e => by cases h i h1 e
  | k :: r, a, f, ch, h, p, hp => by
    rw [partsFrom] at hp
    have all_ge : ∀ (r : List Nat) (a f : Nat), ChainTo x ⟨#[c]⟩ x.length a r f → ∀ i ∈ r, a ≤ i := fun r => by
      induction r with
      | nil => intro a f _ i hi; cases hi
      | cons b r ih =>
        intro a f ch i hi
        rcases List.mem_cons.mp hi with rfl | hi
        · exact ch.1
        · have h1 := ih _ _ ch.2.2 i hi
          have h2 := ch.1
          omega
    rcases List.mem_cons.mp hp with rfl | hp
    · refine sub_no fun i h1 h2 e => ?_
      rcases List.mem_cons.mp (h i h1 e) with rfl | hi
      · omega
      · have := all_ge r _ _ ch.2.2 i hi
        omega
    · refine parts_no x c r (k + 1) f ch.2.2 (fun i h1 e => ?_) p hp
      rcases List.mem_cons.mp (h i (by have := ch.1; omega) e) with rfl | hi
      · omega
      · exact hi
theorem split_no (x : PySem.Str) (c : Nat) (hx : ∀ y ∈ x.cps, y < 256) : ∀ p ∈ Txt.split x ⟨#[c]⟩, c ∉ p.cps.toList := by
  intro p hp
  unfold Txt.split at hp
  split at hp
  · rename_i h
    rw [List.mem_singleton] at hp
    rw [hp]
    simp only [Bool.or_eq_true, decide_eq_true_eq] at h
    rcases h with h | h
    · have : x.cps.toList = [] := by
        have : x.cps.size = 0 := by have h : x.cps.size < 1 := h; omega
        simpa using this
      rw [this]
      simp
    · intro hc
      have hk : PySem.Builtin.Str.strKind x = 1 := by unfold PySem.Builtin.Str.strKind; rw [if_pos (Array.all_eq_true'.mpr fun y hy => by simpa using hx y hy)]
      have h0 : c < 256 := hx c (Array.mem_toList_iff.mp hc)
      have hk2 : PySem.Builtin.Str.strKind ⟨#[c]⟩ = 1 := by unfold PySem.Builtin.Str.strKind; rw [if_pos (by simp [h0])]
      omega
  · split at hp
    · rename_i h
      rw [List.mem_singleton] at hp
      subst hp
      intro hc
      obtain ⟨i, hi⟩ := List.mem_iff_getElem?.mp hc
      have := occ_mem p c i hi
      rw [List.isEmpty_iff.mp h] at this
      cases this
    · rw [partsBetween_eq] at hp
      obtain ⟨f, ch⟩ := occ_chain x ⟨#[c]⟩ (x.length + 1)
      exact parts_no x c _ 0 f ch (fun i _ e => occ_mem x c i e) p hp
/-! joining is one to one on parts without the sign -/
def J (c : Nat) : List (List Nat) → List Nat
  | [] => []
  | [x] => x
  | x :: y :: r => x ++ c :: J c (y :: r)
theorem join_J (c : Nat) : ∀ l : List PySem.Str, (Str.join ⟨#[c]⟩ l).cps.toList = J c (l.map fun x => x.cps.toList)
  | [] => rfl
  | [x] => rfl
  | x :: y :: r => by
    show (x ++ ⟨#[c]⟩ ++ Str.join ⟨#[c]⟩ (y :: r)).cps.toList = x.cps.toList ++ c :: J c _
    rw [Str.cps_append, Str.cps_append, Array.toList_append, Array.toList_append, join_J c (y :: r)]
    simp
theorem cut_one {c : Nat} : ∀ {x y r s : List Nat}, c ∉ x → c ∉ y → x ++ c :: r = y ++ c :: s → x = y ∧ r = s
  | [], [], r, s, _, _, h => ⟨rfl, by simpa using h⟩
  | [], b :: y, r, s, _, hy, h => by
    have : c = b := (List.cons.inj h).1
    exact absurd (by simp [this]) hy
  | a :: x, [], r, s, hx, _, h => by
    have : a = c := (List.cons.inj h).1
    exact absurd (by simp [this]) hx
  | a :: x, b :: y, r, s, hx, hy, h => by
    obtain ⟨h1, h2⟩ := List.cons.inj h
    obtain ⟨e1, e2⟩ := cut_one (fun z => hx (List.mem_cons_of_mem _ z)) (fun z => hy (List.mem_cons_of_mem _ z)) h2
    exact ⟨by rw [h1, e1], e2⟩
theorem J_inj (c : Nat) : ∀ {l m : List (List Nat)}, l ≠ [] → m ≠ [] → (∀ x ∈ l, c ∉ x) → (∀ x ∈ m, c ∉ x) → J c l = J c m → l = m
  | [], _, h, _, _, _, _ => absurd rfl h
  | _, [], _, h, _, _, _ => absurd rfl h
  | [x], [y], _, _, _, _, e => by rw [show x = y from e]
  | [x], y :: z :: r, _, _, hx, hy, e => by
    have e : x = y ++ c :: J c (z :: r) := e
    exact absurd (by rw [e]; simp) (hx x List.mem_cons_self)
  | y :: z :: r, [x], _, _, hy, hx, e => by
    have e : y ++ c :: J c (z :: r) = x := e
    exact absurd (by rw [← e]; simp) (hx x List.mem_cons_self)
  | x :: x' :: r, y :: y' :: s, _, _, hx, hy, e => by
    obtain ⟨e1, e2⟩ := cut_one (hx x List.mem_cons_self) (hy y List.mem_cons_self) (show x ++ c :: J c (x' :: r) = y ++ c :: J c (y' :: s) from e)
    have := J_inj c (l := x' :: r) (m := y' :: s) (by simp) (by simp) (fun z hz => hx z (List.mem_cons_of_mem _ hz)) (fun z hz => hy z (List.mem_cons_of_mem _ hz)) e2
    rw [e1, this]
theorem split_ne (x y : PySem.Str) : Txt.split x y ≠ [] := by
  unfold Txt.split
  split
  · simp
  · split
    · simp
    · rw [partsBetween_eq]
      obtain ⟨p, r, e⟩ := partsFrom_ne x y.length 0 (occurrences x y 0 x.length (x.length + 1))
      rw [e]
      simp
def Ok (x : PySem.Str) : Prop := ∀ c ∈ x.cps.toList, c < 128 ∧ c ≠ 32
theorem split_join {l : List PySem.Str} (hl : l ≠ []) (h : ∀ x ∈ l, Ok x) : Txt.split (Str.join ⟨#[32]⟩ l) ⟨#[32]⟩ = l := by
  have hs : ∀ y ∈ (Str.join ⟨#[32]⟩ l).cps, y < 256 := by
    intro y hy
    have hy := Array.mem_toList_iff.mpr hy
    rw [join_J] at hy
    have key : ∀ m : List (List Nat), (∀ x ∈ m, ∀ c ∈ x, c < 256) → ∀ y ∈ J 32 m, y < 256 := fun m => by
      induction m with
      | nil => intro _ y hy; cases hy
      | cons a r ih =>
        intro hm y hy
        cases r with
        | nil => exact hm a List.mem_cons_self y hy
        | cons b r =>
          rcases List.mem_append.mp (show y ∈ a ++ 32 :: J 32 (b :: r) from hy) with hy | hy
          · exact hm a List.mem_cons_self y hy
          · rcases List.mem_cons.mp hy with rfl | hy
            · omega
            · exact ih (fun x hx => hm x (List.mem_cons_of_mem _ hx)) y hy
    refine key _ (fun x hx c hc => ?_) y hy
    obtain ⟨z, hz, rfl⟩ := List.mem_map.mp hx
    exact Nat.lt_trans (h z hz c hc).1 (by decide)
  have e := StrLaws.join_split (Str.join ⟨#[32]⟩ l) ⟨#[32]⟩
  have e2 := congrArg (fun x : PySem.Str => x.cps.toList) e
  simp only [join_J] at e2
  have := J_inj 32 (by simpa using split_ne _ _) (by simpa using hl) (fun x hx => by
    obtain ⟨z, hz, rfl⟩ := List.mem_map.mp hx
    exact split_no _ 32 hs z hz) (fun x hx => by
    obtain ⟨z, hz, rfl⟩ := List.mem_map.mp hx
    exact fun hc => (h z hz 32 hc).2 rfl) e2
  have inj : ∀ a b : List PySem.Str, a.map (fun x => x.cps.toList) = b.map (fun x => x.cps.toList) → a = b := fun a => by
    induction a with
    | nil => intro b hb; cases b with | nil => rfl | cons y r => cases hb
    | cons x r ih =>
      intro b hb
      cases b with
      | nil => cases hb
      | cons y s =>
        obtain ⟨h1, h2⟩ := List.cons.inj hb
        rw [ih s h2, Str.ext' (Array.toList_inj.mp h1)]
  exact inj _ _ this
end Tx
namespace L2
open PySem PySem.Spec PyProof.Rows PySem.W
/-! texts: split, join, int, signs in turn; all, max, count -/
section
variable {X : Cx}
theorem strs_of : ∀ (l : List PySem.Str) {its : List Value}, Vals (l.map V.str) its → ∃ ps : List (PySem.Str × Tok), its = strValues ps ∧ ps.map (·.1) = l
  | [], _, .nil => ⟨[], rfl, rfl⟩
  | x :: l, _, .cons r rs => by
    obtain ⟨t, rfl⟩ := r
    obtain ⟨ps, rfl, e⟩ := strs_of l rs
    exact ⟨(x, t) :: ps, rfl, by simp [e]⟩
theorem vals_strs : ∀ ps : List (PySem.Str × Tok), Vals ((ps.map (·.1)).map V.str) (strValues ps)
  | [] => .nil
  | p :: ps => .cons ⟨p.2, rfl⟩ (vals_strs ps)
def rSplit : V → List V → Hp → VK → Prop := fun x vs H Q => ∃ a b, x = .str a ∧ vs = [.str b] ∧ (b.length == 0) = false ∧ a.length + 2 ≤ sizeLine ∧ ∀ l G, New H l (.lst ((Txt.split a b).map V.str)) G → Q (.ref l) G
theorem mt_split : MtM X "str.split" rSplit := by
  intro pins s σ H x vs v us Q I rx rv h
  obtain ⟨a, b, rfl, rfl, hb, hz, q⟩ := h
  obtain ⟨t, rfl⟩ := rx
  obtain ⟨w, rfl, rw'⟩ := rv.one
  obtain ⟨u, rfl⟩ := rw'
  have hn : (Builtin.Str.partsBetween a (Builtin.Str.occurrences a b 0 a.length (a.length + 1)) b.length).length ≤ sizeLine := by
    have e1 := StrLaws.occ_length_le a b 0 a.length (a.length + 1)
    rw [length_partsBetween]; omega
  have fin : ∀ (ps : List (PySem.Str × Tok)) (k : Nat), ps.map (·.1) = Txt.split a b → ps.length ≤ sizeLine → EP X pins σ Q (.ref s.heap.objs.size) { s with heap := s.heap.push { cls := .type "list", data := .seq (strValues ps).toArray }, toks := k } := fun ps k e hl =>
    ⟨.ref s.heap.objs.size, _, I.lnew (its := strValues ps) (ys := (Txt.split a b).map V.str) (e ▸ vals_strs ps) (by rw [List.length_map, ← e, List.length_map]; exact hl), rfl, q _ _ ⟨I.fresh, rfl⟩⟩
  cases h1 : (decide (a.length < b.length) || decide (Builtin.Str.strKind a < Builtin.Str.strKind b))
  · cases hf : (Builtin.Str.occurrences a b 0 a.length (a.length + 1)).isEmpty
    · refine call_meets F.slot_str_split (typeIs_str _ _ _) F.entry_str_split (F.args_str_split_2 _ _) (meets_str_split_sep a b t u h1 hb hf (by omega) hn) ?_
      show wants _ _ _ { s with toks := _, heap := s.heap.push { cls := .type "list", data := .seq (strsFrom s.toks (Builtin.Str.partsBetween a (Builtin.Str.occurrences a b 0 a.length (a.length + 1)) b.length)).toArray } }
      rw [strsFrom_eq]
      refine fin (numbered s.toks _) _ ((numbered_texts _ _).trans ((if_neg (ne_true_of_eq_false h1)).trans (if_neg (ne_true_of_eq_false hf))).symm) ?_
      have := congrArg List.length (numbered_texts s.toks (Builtin.Str.partsBetween a (Builtin.Str.occurrences a b 0 a.length (a.length + 1)) b.length))
      rw [List.length_map] at this
      rw [this]
      exact hn
    · exact call_meets F.slot_str_split (typeIs_str _ _ _) F.entry_str_split (F.args_str_split_2 _ _) (meets_str_split_not_found a b t u h1 hb hf)
        (fin [(a, t)] s.toks ((if_neg (ne_true_of_eq_false h1)).trans (if_pos hf)).symm (by show 1 ≤ sizeLine; decide))
  · exact call_meets F.slot_str_split (typeIs_str _ _ _) F.entry_str_split (F.args_str_split_2 _ _) (meets_str_split_cannot_occur a b t u h1)
      (fin [(a, t)] s.toks (if_pos h1).symm (by show 1 ≤ sizeLine; decide))
def rJoin : V → List V → Hp → VK → Prop := fun x vs H Q => ∃ (a : PySem.Str) (p : Addr) (l : List PySem.Str), x = .str a ∧ vs = [.ref p] ∧ H p = some (.lst (l.map V.str)) ∧ JoinOk a l = true ∧ Q (.str (PySem.Str.join a l)) H
theorem mt_join : MtM X "str.join" rJoin := by
  intro pins s σ H x vs v us Q I rx rv h
  obtain ⟨a, p, l, rfl, rfl, hp, hok, q⟩ := h
  obtain ⟨t, rfl⟩ := rx
  obtain ⟨w, rfl, rw'⟩ := rv.one
  cases rw'
  obtain ⟨its, r', pl, hz⟩ := I.list (.of hp)
  obtain ⟨ps, rfl, e⟩ := strs_of l r'
  subst e
  have hok' := hok
  unfold JoinOk at hok'
  rw [Bool.not_eq_true'] at hok'
  refine call_meets F.slot_str_join (typeIs_str _ _ _) F.entry_str_join (F.args_str_join_2 _ _) (meets_str_join_list a t p ps hok') ⟨pl.isList, post_join ps ⟨joinFit_length hok', fun t' k => ?_⟩⟩
  refine ⟨.str _, H, I.tok _, ⟨_, rfl⟩, ?_⟩
  have e2 : Txt.join a (ps.map (·.1)) = PySem.Str.join a (ps.map (·.1)) := StrLaws.glued_eq_join a _
  rw [e2]
  exact q
theorem call_intS : CallR X (.type "int") (fun xs H Q => ∃ x n, xs = [.str x] ∧ PySem.intText? x = some n ∧ x.length ≤ 640 ∧ Q (.int n) H) := by
  intro pins s σ H xs us Q I r h
  obtain ⟨x, n, rfl, hn, hl, q⟩ := h
  obtain ⟨u, rfl, t, rfl⟩ := vals1 r
  exact PySem.W.KIN.call_text hn hl ⟨.int n, H, I.tok _, ⟨_, rfl⟩, q⟩
theorem op_mulS : OpR X (binaryOp .Mult) (fun x y H Q => ∃ a n, x = .str a ∧ y = .int n ∧ MulOk a n ∧ Q (.str (Txt.mul a n)) H) := by
  intro pins s σ H x y u v Q I rx ry h
  obtain ⟨a, n, rfl, rfl, hok, q⟩ := h
  obtain ⟨t, rfl⟩ := rx
  obtain ⟨t', rfl⟩ := ry
  exact SB.mul hok fun t k => ⟨.str _, H, I.tok _, ⟨_, rfl⟩, q⟩
theorem bools_of : ∀ (l : List Bool) {its : List Value}, Vals (l.map V.bl) its → its = l.map Value.bool
  | [], _, .nil => rfl
  | x :: l, _, .cons r rs => by rw [bools_of l rs, show _ = Value.bool x from r]; rfl
theorem call_allB (hc : X.calm = true) : CallR X (.builtin "all") (fun xs H Q => ∃ (p : Addr) (bs : List Bool), xs = [.ref p] ∧ H p = some (.lst (bs.map V.bl)) ∧ Q (.bl (bs.all id)) H) := by
  intro pins s σ H xs us Q I r h
  obtain ⟨p, bs, rfl, hp, q⟩ := h
  obtain ⟨u, rfl, rx⟩ := vals1 r
  cases rx
  obtain ⟨its, r', pl, hz⟩ := I.list (.of hp)
  have ei := bools_of bs r'
  subst ei
  have hl := pl.isList
  have hlt : p < s.heap.objs.size := by obtain ⟨_, e, _⟩ := hl; exact Heap.lt_size e
  refine call_all_walk (wpAny_pyIter_list hl ?_)
  refine ⟨s.heap.objs.size, [s.heap.objs.size, p], [s.heap.objs.size], (bs.map Value.bool).toArray.size, _, _, fun i => (bs[i]?).getD true, rfl, Walks.list (A := X.A.in1) (I.ok.hd hc) _ p (Nat.ne_of_lt hlt) (bs.map Value.bool).toArray,
    ⟨⟨_, Heap.get?_push_size _ rfl, rfl, rfl⟩, hl.push _⟩, fun i v s' Q' E' hP hQ => ?_, fun h' tk hk => ?_⟩
  · have hP : ((bs.map Value.bool))[i]? = some v := by simpa using hP
    rw [List.getElem?_map] at hP
    cases e : bs[i]? with
    | none => rw [e] at hP; cases hP
    | some b =>
      rw [e] at hP
      cases hP
      simp only [e, Option.getD_some] at hQ
      exact wpAny_truthy_bool hQ
  · have e : ((List.range (bs.map Value.bool).toArray.size).all fun i => (bs[i]?).getD true) = bs.all id := by
      rw [List.size_toArray, List.length_map]; exact LSm.range_all bs
    rw [e]
    exact ⟨.bl _, H, I.kept (LSm.kept_iter hk), rfl, q⟩
theorem ints_of : ∀ (l : List Int) {its : List Value}, Vals (l.map V.int) its → ∃ ps : List (Int × Tok), its.toArray = intItems ps.toArray ∧ ps.map (·.1) = l
  | [], _, .nil => ⟨[], by simp [intItems], rfl⟩
  | x :: l, _, .cons r rs => by
    obtain ⟨t, rfl⟩ := r
    obtain ⟨ps, e1, e2⟩ := ints_of l rs
    refine ⟨(x, t) :: ps, ?_, by simp [e2]⟩
    apply Array.toList_inj.mp
    have e3 := congrArg Array.toList e1
    simp only [intItems, List.toList_toArray, Array.toList_map] at e3 ⊢
    rw [List.map_cons, ← e3]
/-- the greatest of a list of ints -/
theorem call_maxL (hc : X.calm = true) : CallR X (.builtin "max") (fun xs H Q => ∃ (p : Addr) (ns : List Int), xs = [.ref p] ∧ H p = some (.lst (ns.map V.int)) ∧ 0 < ns.length ∧ ∀ M, M ∈ ns → (∀ a ∈ ns, a ≤ M) → Q (.int M) H) := by
  intro pins s σ H xs us Q I r h
  obtain ⟨p, ns, rfl, hp, hne, q⟩ := h
  obtain ⟨u, rfl, rx⟩ := vals1 r
  cases rx
  obtain ⟨its, r', pl, hz⟩ := I.list (.of hp)
  obtain ⟨ps, e1, e2⟩ := ints_of ns r'
  have hl := pl.isList
  rw [e1] at hl
  have sz : ps.toArray.size = ns.length := by rw [← e2]; simp
  have num : ∀ i, numAt ps.toArray i = ns.getD i 0 := fun i => by rw [numAt_eq, ← e2]
  refine max_intList (I.ok.hd hc) hl (by omega) fun v h' tk hv hk => ?_
  obtain ⟨t, rfl⟩ := intItems_at hv
  have best := argBest_gt (numAt ps.toArray) (ps.toArray.size - 1)
  rw [num]
  refine ⟨.int _, H, I.kept hk, ⟨_, rfl⟩, q _ (getD_mem (by have := best.1; omega)) fun a ha => ?_⟩
  obtain ⟨j, hj, rfl⟩ := mem_getD ha
  have := best.2 j (by omega)
  rwa [num, num] at this
def rCountT : V → List V → Hp → VK → Prop := fun x vs H Q => ∃ (p : Addr) (bs : List Bool), x = .ref p ∧ vs = [.bl true] ∧ H p = some (.lst (bs.map V.bl)) ∧ Q (.int (bs.countP id : Nat)) H
theorem count_t : ∀ bs : List Bool, (bs.map Value.bool).countP (isBoolOf true) = bs.countP id
  | [] => rfl
  | b :: bs => by
    rw [List.map_cons, List.countP_cons, List.countP_cons, count_t bs]
    cases b <;> rfl
theorem mt_countT : MtM X "list.count" rCountT := by
  intro pins s σ H x vs v us Q I rx rv h
  obtain ⟨p, bs, rfl, rfl, hp, q⟩ := h
  cases rx
  obtain ⟨w, rfl, rw'⟩ := rv.one
  cases rw'
  obtain ⟨z, its, n, r', hl, e⟩ := I.lstM hp
  have ei := bools_of bs r'
  subst ei
  refine call_meets F.slot_list_count ⟨_, e, rfl⟩ F.entry_list_count (F.args_list_count_2 _ _) (PySem.SeqAt.list_countAt p (bs.map Value.bool).toArray n none #[] (.bool true) (isBoolOf true)) ⟨e, fun y hy => ?_, ?_⟩
  · obtain ⟨b, _, rfl⟩ := List.mem_map.mp (show y ∈ bs.map Value.bool by simpa using hy)
    exact PySem.SeqAt.EqAt.bool_bool b true
  · rw [show (bs.map Value.bool).toArray.toList = bs.map Value.bool from rfl, count_t]
    exact ⟨.int _, H, I.tok _, ⟨_, rfl⟩, q⟩
/-! the signs of a text in turn -/
def Its (x : PySem.Str) : It := ⟨fun i _ => i < x.cps.size, fun i H v H' => H' = H ∧ v = .str ⟨#[x.cps.getD i 0]⟩, fun i _ => x.cps.size ≤ i⟩
theorem turn_str {P : Program} {w : World} {K : PySem.W.Frag} {tg : Expr} (x : PySem.Str) (t : Tok) (it : Addr) : Turn P w K tg (Its x) [it] it (fun i h => h.IsStrIter it "str_ascii_iterator" x t i) where
  mem := by simp
  obj := fun i h st b hb => by
    have e : b = it := by simpa using hb
    subst e
    obtain ⟨o, e, c, d⟩ := st
    exact ⟨o, e, fun v z => by rw [d] at z; cases z⟩
  keep := fun i h h' st k => by
    obtain ⟨o, e, c, d⟩ := st
    exact ⟨o, k it (by simp) o e, c, d⟩
  item := by
    intro X hP hw hK hc i pins s σ H E I hf st hg
    subst hP hw hK
    have hi : i < x.cps.size := hg
    obtain ⟨f0, f1, f2, f3, f4, f5⟩ := hf it (by simp)
    refine wpAny_pyNext_ascii_item st (c := x.cps.getD i 0) (by simp [Array.getD, hi]) fun h' st' sb => ?_
    have I1 : Inv X pins σ H { s with heap := h', toks := s.toks + 1 } := I.turned (t' := s.toks + 1) (fun b o hb e => (sb.2 b hb).trans e) f0 f1 f3 f4 f5
    obtain ⟨o, e, c, d⟩ := id st'
    exact ⟨_, rfl, go_of (s := { s with heap := h', toks := s.toks + 1 }) e c d (by decide) ⟨.str _, H, I1, ⟨_, rfl⟩, ⟨rfl, rfl⟩, st', fun b hb => (hf b hb).1⟩⟩
  done := by
    intro X hP hw hK hc i pins s σ H E I hf st hg
    subst hP hw hK
    have hi : x.cps.size ≤ i := hg
    obtain ⟨f0, f1, f2, f3, f4, f5⟩ := hf it (by simp)
    exact wpAny_pyNext_ascii_end (I.ok.hd hc) st (by simp [hi]) fun h' eb => ⟨rfl, I.turned (t' := s.toks) (fun b o hb e => eb b o hb e) f0 f1 f3 f4 f5⟩
  self := fun _ _ _ _ _ st h => wpAny_pyIter_striter_ascii st h
def iStr (tl : TE) : TI := fun σ H R => tl σ H fun v H1 => ∃ x, v = .str x ∧ x.cps.all (· < 128) = true ∧ R (Its x) H1
theorem pi_str {tg l : Expr} {tl : TE} (hl : PE X l tl) : PI X tg l (iStr tl) := by
  intro pins s σ H R I h
  refine thn (hl pins s σ H _ I h) fun v s1 ⟨y, H1, I1, r1, q1⟩ => ?_
  obtain ⟨x, e, ha, q⟩ := q1
  subst e
  obtain ⟨t, rfl⟩ := r1
  refine wpAny_pyIter_ascii ha ?_
  refine ⟨s1.heap.objs.size, [s1.heap.objs.size], _, _, H1, rfl, I1.kept (t' := s1.toks) fun b o e => Heap.get?_push_of_some _ e, turn_str x t _, ⟨_, Heap.get?_push_size _ rfl, rfl, rfl⟩, fun b hb => ?_, q⟩
  have e : b = s1.heap.objs.size := by simpa using hb
  subst e
  exact I1.fpOk (Nat.le_refl _) (I1.hok.fresh (Nat.le_refl _))
theorem lc_str {x : PySem.Str} {g : TG} {tc : TT} {te : TE} {Q : VK} {acc : Addr} {σ0 : St} {H0 : Hp} (Pv : Nat → St → Hp → Prop) (h0 : Pv 0 σ0 H0)
    (hs : ∀ i σ2 H2, i < x.cps.size → Pv i σ2 H2 → g (.str ⟨#[x.cps.getD i 0]⟩) σ2 H2 fun σ3 H3 => tc σ3 H3 fun b H4 => if b = true then te σ3 H4 fun y H5 => ∃ ys, H5 acc = some (.lst ys) ∧ ys.length < sizeLine ∧ Pv (i + 1) σ3 (upd H5 acc (.lst (ys ++ [y]))) else Pv (i + 1) σ3 H4)
    (hd : ∀ σ2 H2, Pv x.cps.size σ2 H2 → Q (.ref acc) H2) : ∃ W : Nat → Nat → St → Hp → Prop, (∃ m, W 0 m σ0 H0) ∧ ∀ i m σ2 H2, W i m σ2 H2 →
  ((Its x).stop i H2 ∧ Q (.ref acc) H2) ∨ ((Its x).go i H2 ∧ ∃ N : St → Hp → Prop, (∀ σ' H', N σ' H' → ∃ m', m' < m ∧ W (i + 1) m' σ' H') ∧ ∀ v H', (Its x).yld i H2 v H' → g v σ2 H' fun σ3 H3 => tc σ3 H3 fun b H4 =>
    if b = true then te σ3 H4 fun y H5 => ∃ xs, H5 acc = some (.lst xs) ∧ xs.length < sizeLine ∧ N σ3 (upd H5 acc (.lst (xs ++ [y]))) else N σ3 H4) := by
  refine ⟨fun i m σ H => m = x.cps.size - i ∧ i ≤ x.cps.size ∧ Pv i σ H, ⟨x.cps.size, by simp, Nat.zero_le _, h0⟩, ?_⟩
  rintro i m σ H ⟨rfl, hi, p⟩
  by_cases hlt : i < x.cps.size
  · refine .inr ⟨hlt, Pv (i + 1), fun σ' H' p' => ⟨x.cps.size - (i + 1), by omega, rfl, hlt, p'⟩, ?_⟩
    rintro v H' ⟨rfl, rfl⟩
    exact hs i σ H' hlt p
  · have e : i = x.cps.size := by omega
    subst e
    exact .inl ⟨Nat.le_refl _, hd σ H p⟩
theorem rlc_str {ix : List (Option Nat)} {tl : TE} {g : TG} {tc : TT} {te : TE} {Q : VK} {σ : St} {H : Hp} (mono : ∀ R R' : V → Hp → Prop, (∀ v H, R v H → R' v H) → tl σ H R → tl σ H R')
    (h : tl σ H fun v H1 => ∃ x : PySem.Str, v = .str x ∧ x.cps.all (· < 128) = true ∧ ∀ acc, H1 acc = none → ∃ Pv : Nat → St → Hp → Prop, Pv 0 (st0 ix σ) (upd H1 acc (.lst [])) ∧
      (∀ i σ2 H2, i < x.cps.size → Pv i σ2 H2 → g (.str ⟨#[x.cps.getD i 0]⟩) σ2 H2 fun σ3 H3 => tc σ3 H3 fun b H4 => if b = true then te σ3 H4 fun y H5 => ∃ ys, H5 acc = some (.lst ys) ∧ ys.length < sizeLine ∧ Pv (i + 1) σ3 (upd H5 acc (.lst (ys ++ [y]))) else Pv (i + 1) σ3 H4) ∧
      ∀ σ2 H2, Pv x.cps.size σ2 H2 → Q (.ref acc) H2) : tLC (iStr tl) ix g tc te σ H Q := by
  refine mono _ _ (fun v H1 h => ?_) h
  obtain ⟨x, e, a, h3⟩ := h
  refine ⟨x, e, a, fun acc hacc => ?_⟩
  obtain ⟨Pv, p0, ps, pd⟩ := h3 acc hacc
  exact lc_str Pv p0 ps pd
end
end L2
namespace L2
open PySem PySem.Spec PyProof.Rows PySem.W PySem.Calls Builtin.Getset_descriptor
/-! except C as e: the exception by its name, and isinstance of it -/
/-- at the address lies an object of the own class D -/
def OfC (x D : Addr) (h : Heap) : Prop := ∃ o, h.get? x = some o ∧ o.cls = .ref D
theorem OfC.type {M : Model} {h : Heap} {x D : Addr} (o : OfC x D h) : Looks M h (typeOf (.ref x)) (.ref D) := by
  obtain ⟨ob, h1, h2⟩ := o
  rw [← h2]
  exact (Looks.ld h1).andThen .now
/-- what an own exception class must be for isinstance -/
structure XIs (K : PySem.W.Frag) (D : Addr) : Prop where
  cl : (clsIn K D).isSome = true
  ga : findIn K (.ref D) "__getattribute__" = some (some (.builtin "BaseException.__getattribute__"))
  gk : findIn K (.ref D) "__getattr__" = some none
  ha : findIn K (.ref D) "__class__" = some (some (.builtin "object.__class__"))
  hn : specialIn K (.builtin "object.__class__") "__get__" = some (some (.builtin "getset_descriptor.__get__"))
  tk : takesIn K (.builtin "object.__class__") = some true
  ob : mroIn K D (.type "object") = some true
  be : mroIn K D (.type "BaseException") = some true
section
variable {K : PySem.W.Frag} {prog : Program} {w : World} {A : Around} {E : Value → Shared → Prop} {x D : Addr}
theorem XIs.finds (Y : XIs K D) {M : Model} {h : Heap} (X : K.In h) : Looks M h (Builtin.ObjectAttr.find (.ref x) (.ref D) "__class__") (.bind (.builtin "getset_descriptor.__get__") (.builtin "object.__class__")) := by
  have l1 := looks_findIn (M := M) X Y.ha
  have l2 : Looks M h (Builtin.ObjectAttr.getOf (some (.builtin "object.__class__"))) _ := looks_specialIn X Y.hn
  have l3 := looks_takesIn (M := M) X Y.tk
  have l4 : Looks M h (Builtin.ObjectAttr.dataDescriptor? (some (.builtin "object.__class__")) (some (.builtin "getset_descriptor.__get__"))) (some _) := l3.andThen .now
  exact l1.andThen (l2.andThen (l4.andThen (Looks.tag .now)))
theorem XIs.gets (Y : XIs K D) {s : Shared} {tp : Value} {R : Result → Shared → Prop} (X : K.In s.heap) (o : OfC x D s.heap) (h : R (.ok (.ret (.ref D))) s) :
    codeAny (model prog w) A (.call (.builtin "getset_descriptor.__get__") ⟨[.builtin "object.__class__", .ref x, tp], []⟩) R s := by
  obtain ⟨ob, h1, h2⟩ := o
  obtain ⟨hh, g, dr, t, os⟩ := s
  have t0 : Looks (model prog w) hh (typeOf (.ref x)) (.ref D) := OfC.type ⟨ob, h1, h2⟩
  have t1 := looks_mroIn (M := model prog w) X Y.ob
  refine codeAny_call_builtin KF.slot_gs.plain KF.entry_gs ?_
  refine KF.slot_gs.check _ _ _ _ _ _ _ _ KF.type_class (KF.args_gs _ _ _) ?_
  unfold Builtin.«getset_descriptor.__get__»
  unfold descrGet
  rw [dga_obj]
  refine wpAny_bind ?_
  refine wpAny_pure ?_
  unfold descrGetter descrCheckInstance
  unfold descrNameAndClass isInstance
  simp only [KF.owner_class]
  repeat lk
  refine ⟨Code.quiet_builtin _ (by decide +kernel), ?_⟩
  refine codeAny_builtin KF.entry_class ?_
  unfold Builtin.«object.__class__»
  unfold shownTypeOf
  repeat lk
  exact h
theorem XIs.entry (Y : XIs K D) {s : Shared} {tk : Tok} {Q : Fin → Shared → Prop} (X : K.In s.heap) (o : OfC x D s.heap) (h : Q (.done (.ret (.ref D))) s) :
    wpAny (model prog w) A (Builtin.«object.__getattribute__» ⟨[.ref x, .str "__class__" tk], []⟩) Q E s := by
  obtain ⟨hh, g, d, t, os⟩ := s
  have t0 : Looks (model prog w) hh (typeOf (.ref x)) (.ref D) := OfC.type o
  have t3 := Y.finds (x := x) (M := model prog w) X
  unfold Builtin.«object.__getattribute__»
  refine wpAny_bind (wpAny_pure ?_)
  refine wpAny_bind (wpAny_pure ?_)
  refine wpAny_bind (t0.at ?_)
  refine wpAny_bind (t3.at ?_)
  unfold Builtin.ObjectAttr.bindTo
  refine wpAny_bind (wpAny_call (Y.gets (s := ⟨hh, g, d, t, os⟩) X o ?_))
  exact wpAny_pure h
theorem XIs.calls (Y : XIs K D) {s : Shared} {tk : Tok} {R : Result → Shared → Prop} (X : K.In s.heap) (o : OfC x D s.heap) (h : R (.ok (.ret (.ref D))) s) :
    codeAny (model prog w) A (.call (.builtin "BaseException.__getattribute__") ⟨[.ref x, .str "__class__" tk], []⟩) R s := by
  have t0 : Looks (model prog w) s.heap (typeOf (.ref x)) (.ref D) := OfC.type o
  have t1 := looks_mroIn (M := model prog w) X Y.be
  have hk : builtinKind "BaseException.__getattribute__" = some .slot := by decide +kernel
  have hs : splitId "BaseException.__getattribute__" = some ("BaseException", "__getattribute__") := by decide +kernel
  have ha := F.args_bexc_ga (.ref x) (.str "__class__" tk)
  refine codeAny_call_builtin F.excAttr_ValueError.ga.plain F.entry_bexc_ga ?_
  simp only [checkBuiltinCall, hk, hs]
  unfold isInstance
  refine wpAny_bind (wpAny_bind (t0.at ?_))
  refine t1.at ?_
  rw [if_neg (by decide)]
  cases hg : Manifest.signature? "BaseException.__getattribute__" with
  | none => exact wpAny_pure (Y.entry X o h)
  | some sig =>
    simp only [argsOk, hg] at ha
    have h2 : Bind.checkArgs "BaseException.__getattribute__" sig ⟨[.ref x, .str "__class__" tk], []⟩ = pure () := ha
    show wpAny _ _ (Bind.checkArgs "BaseException.__getattribute__" sig ⟨[.ref x, .str "__class__" tk], []⟩) _ _ _
    rw [h2]
    exact wpAny_pure (Y.entry X o h)
theorem XIs.attr (Y : XIs K D) {s : Shared} {Q : Option Value → Shared → Prop} (X : K.In s.heap) (o : OfC x D s.heap) (h : Q (some (.ref D)) { s with toks := s.toks + 1 }) : wpAny (model prog w) A (getAttr? (.ref x) "__class__") Q E s := by
  obtain ⟨hh, g, d, t, os⟩ := s
  have t0 : Looks (model prog w) hh (typeOf (.ref x)) (.ref D) := OfC.type o
  have t1 := looks_findIn (M := model prog w) X Y.ga
  have t2 := looks_findIn (M := model prog w) X Y.gk
  have f3 := F.excAttr_ValueError.ga.bind (.ref x)
  have n1 : ¬ ((onTheHeap (Value.ref D) && Value.builtin "BaseException.__getattribute__" == Value.builtin "object.__getattribute__") = true) := by
    have z : (Value.builtin "BaseException.__getattribute__" == Value.builtin "object.__getattribute__") = false := by decide +kernel
    rw [z]; exact Bool.false_ne_true
  unfold getAttr? getAttrBy?
  unfold getAttrBy
  refine wpAny_bind (wpAny_mkText ?_)
  refine wpAny_bind (wpAny_attempt (wpAny_holding (wpAny_bind (t0.at ?_))))
  refine wpAny_bind (t1.at ?_)
  dsimp only
  rw [if_neg n1]
  unfold getAttrByItsOwn
  refine wpAny_bind (t2.at ?_)
  refine wpAny_bind (wpAny_attempt (wpAny_holding ?_))
  show wpAny _ _ (boundAndCalled _ _ _) _ _ _
  unfold boundAndCalled
  rw [f3]
  refine wpAny_bind (wpAny_pure ?_)
  refine wpAny_call (Y.calls (s := ⟨hh, g, d, t + 1, os⟩) X o ?_)
  refine handed_on rfl ?_
  exact wpAny_pure h
theorem XIs.kit (Y : XIs K D) : KitX K (.ref x) (.ref D) (OfC x D) where
  ty := fun _ _ _ o => o.type
  it := fun _ _ X _ => by
    have z := Y.cl
    unfold clsIn at z
    split at z
    · rename_i ho
      intro A' Q' E' s' k q
      unfold isType
      unfold loadHead
      refine wpAny_bind (wpAny_loadPart (k _ _ (X _ _ ho)) ?_)
      exact wpAny_pure q
    · cases z
  ne := fun h tp dd its n sl X htp => by
    have z := Y.cl
    cases q : (Value.ref D == Value.ref tp) with
    | false => rfl
    | true =>
      have e : D = tp := Value.ref.inj (beq_iff_eq.mp q)
      unfold clsIn at z
      split at z
      · rename_i ho
        have b := X _ _ ho
        rw [e, htp] at b
        cases b
      · cases z
  ca := fun X o k => Y.attr X o k
end
end L2
namespace L2
open PySem PySem.Spec PyProof.Rows PySem.W PySem.Calls
section
variable {X : Cx} {pins : List (Addr × Obj)} {σ : St} {H : Hp} {s : Shared}
/-- a local name goes -/
theorem name_gone {M : Model} {A : Around} {E : Value → Shared → Prop} {i : Nat} {n : Str} {pos : Pos} {Q : Unit → Shared → Prop} (I : Inv X pins σ H s) (hN : X.N.Nodup) (hi : X.N[i]? = some n) (hk : X.env.kindOf n = some .local)
    (h : ∀ s', Inv X pins (σ.set i none) H s' → Q () s') : wpAny M A (do bindName X.env n .none; unbindBehindTheSuite X.env n pos) Q E s := by
  obtain ⟨m, hn, hl⟩ := id I.loc
  refine wpAny_nameGoes_keeps hk hn (by rw [I.ok.kind]; rfl) fun h' v hn' hs => h _ ?_
  obtain ⟨oL, _, _, hoL, _⟩ := id hn
  have old : ∀ {b : Addr} {o : Obj}, X.s₀.heap.get? b = some o → b ≠ X.env.locals := fun e => Nat.ne_of_lt (Nat.lt_of_lt_of_le (Heap.lt_size e) I.ok.above)
  have hiσ : i < σ.length := by rw [I.len]; exact (List.getElem?_eq_some_iff.mp hi).1
  refine ⟨I.ok, I.os, I.bare, ⟨fun b o e n hb hx => ?_, fun b o e n hb hx => ?_, I.base.free, fun b o e hx => ?_, I.base.tups, I.base.frzs, I.base.tbls⟩, ⟨_, hn', fun j y v' e1 e2 e3 => ?_⟩, fun y c e => ?_, I.free, I.freeC, fun p hp => ?_, fun b ob e => ?_, by simpa using I.len⟩
  · exact (hs.2 b (old e)).trans (I.base.keep b o e n hb hx)
  · obtain ⟨sl, e1⟩ := I.base.slot b o e n hb hx
    exact ⟨sl, (hs.2 b (old e)).trans e1⟩
  · obtain ⟨o', e1⟩ := I.base.there b o e hx
    exact ⟨o', (hs.2 b (old e)).trans e1⟩
  · by_cases hj : j = i
    · subst hj
      rw [List.getElem?_set_self hiσ] at e2
      cases e2
    · rw [List.getElem?_set_ne (Ne.symm hj)] at e2
      obtain ⟨u', r', q⟩ := hl j y v' e1 e2 e3
      have hy : y ≠ n := fun z => by
        subst z
        have l1 := (List.getElem?_eq_some_iff.mp e1).1
        exact hj ((List.getElem?_inj l1 hN).mp (e1.trans hi.symm))
      refine ⟨u', r', ?_⟩
      rcases q with ⟨k, e⟩ | ⟨k, c, e, z⟩
      · exact .inl ⟨k, (if_neg hy).trans e⟩
      · refine .inr ⟨k, c, e, ?_⟩
        obtain ⟨oc, h1, h2⟩ := z
        exact ⟨oc, (hs.2 c (I.cne y c e)).trans h1, h2⟩
  · obtain ⟨vc, oc, h1, h2⟩ := I.cell y c e
    exact ⟨vc, oc, (hs.2 c (I.cne y c e)).trans h1, h2⟩
  · obtain ⟨p1, p2, p3, p4, p5⟩ := I.pin p hp
    exact ⟨(hs.2 p.1 p3).trans p1, p2, p3, p4, p5⟩
  · refine (I.hok b ob e).stay (fun c w' hc q => (hs.2 c ?_).trans q) (fun _ q => q) fun _ _ q => q
    rintro rfl
    rcases hc with z | hc
    · rw [← z, I.free] at e; cases e
    · rw [I.free] at hc; cases hc
/-- the context of an except suite that has the exception by its name: its object is pinned -/
abbrev Cx.hdlP (X : Cx) (e : Value) (pn : List (Addr × Obj)) : Cx := { X with A := X.A.mark (some e), calm := false, xe := fun _ _ => False, pn := pn }
theorem Inv.hdlP (I : Inv X pins σ H s) (e : Value) {ea : Addr} {oe : Obj} (he : s.heap.get? ea = some oe) (hH : H ea = none) (hl : ea ≠ X.env.locals) (hf : ea ∉ X.fs) (hd : ∀ v, oe.data ≠ .cell v) : Inv (X.hdlP e (X.pn ++ pins ++ [(ea, oe)])) [] σ H s := by
  obtain ⟨ok, os, bare, bs, loc, cell, free, freeC, pin, hok, len⟩ := I
  obtain ⟨o1, o2, o3, o4, o5, o6, o7, o8, o9, o10, o11, o12, o13, o14, o15, o16, o17, o18⟩ := ok
  refine ⟨⟨o1, o2, o3, o4, o5, o6, o7, o8, (fun z => nomatch z), o10, o11, o12, o13, o14, o15, o16, o17, o18⟩, os, bare, bs, loc, cell, free, freeC, fun p hp => ?_, hok, len⟩
  rw [List.append_nil] at hp
  rcases List.mem_append.mp hp with hp | hp
  · exact pin p hp
  · rw [List.mem_singleton.mp hp]
    exact ⟨he, hH, hl, hf, hd⟩
theorem Inv.unhdlP {e : Value} {p : Addr × Obj} {pins' : List (Addr × Obj)} (ok : X.Ok) (I : Inv (X.hdlP e (X.pn ++ pins ++ [p])) pins' σ H s) : Inv X pins σ H s := by
  obtain ⟨_, os, bare, bs, loc, cell, free, freeC, pin, hok, len⟩ := I
  exact ⟨ok, os, bare, bs, loc, cell, free, freeC, (fun q hq => pin q (List.mem_append_left _ (List.mem_append_left _ hq))), hok, len⟩
end
/-- an own class with an own class's exception, by a name -/
def tHas (K : PySem.W.Frag) (C : Addr) (i : Nat) (ts : Addr → Addr → TS) (rest : Value → TS) : Value → TS := fun c D σ H => ∃ C0 b, c = .ref C0 ∧ PySem.W.excIn K C0 [.type "ValueError", .type "Exception", .type "BaseException", .type "object"] "ValueError.__new__" = true ∧
  PySem.W.mroIn K C0 (.ref C) = some b ∧ if b = true then ∀ ea, H ea = none → ts ea C0 { D with nx := fun σ H => D.nx (σ.set i none) H, bk := fun σ H => D.bk (σ.set i none) H, ct := fun σ H => D.ct (σ.set i none) H } (σ.set i (some (.ref ea))) H else rest c D σ H
section
variable {X : Cx} {x n : Str} {C : Addr} {i : Nat} {np hpos pos : Pos} {b₀ : Stmt} {suite body : List Stmt} {rest hs : List ExceptHandler} {tr : Value → TS} {ts : Addr → Addr → TS}
theorem ph_ownAs (hst : X.stack = X.env :: X.outer) (hf : X.env.frame = some X.env.locals) (hg : Gl X x) (c : XCls X.K X.mg x C) (hN : X.N.Nodup) (hi : X.N[i]? = some n) (hk : X.env.kindOf n = some .local) (hlo : X.env.scope.names.lookup n = some .local)
    (hts : ∀ e pn ea oe C0, (ea, oe) ∈ pn → oe.cls = .ref C0 → PSs (X.hdlP e pn) (b₀ :: suite) (ts ea C0)) (hr : PH X rest tr) (hdb : (x == ("__debug__" : Str)) = false := by decide) :
    PH X (.ExceptHandler (some (.Name x np)) (some n) (b₀ :: suite) hpos :: rest) (tHas X.K C i ts tr) := by
  intro cv e pins σ H0 H D sc s I0 F h
  obtain ⟨ea, a0, B, rfl, fl, cov⟩ := id F.ex
  obtain ⟨C0, b, rfl, q0, hm, h⟩ := h
  have I := F.inv I0
  obtain ⟨bm, N, nm, q, bs, hdct, sn, sub, ab, col, dd, k0, k1, k2, k3, k5, hC0, _, hmro⟩ := XCls.obj (mg := X.mg) (x := x) q0 I.kIn
  obtain ⟨bm', N', nm', q', bs', hdct', sn', sub', ab', col', dd', j0, j1, j2, j3, j5, hC, hbase, _⟩ := XCls.obj (mg := X.mg) (x := x) c.exc I.kIn
  obtain ⟨ob, hob, hobc⟩ := fl.there
  have hb : (Value.ref C0 :: bm).contains (.ref C) = b := Option.some.inj ((hmro _).symm.trans hm)
  refine wpAny_handleBy_cons (codeAny_handlers_test (Calls.Name_function_global I.ok.kind hg (Calls.loadGlobal_global (by rw [I.ok.glob]; exact I.mod.glob.keeps I.bk) c.bound ?_) hdb)) (by intro q; cases q)
  obtain ⟨hp, gs, dr, tk, os⟩ := s
  refine excMatches_own hC0 hC hob hobc hbase hb ?_
  cases b with
  | false => exact hr _ _ pins σ H0 H D sc _ I0 F h
  | true =>
    refine codeAny_handlers_suite_as (lands_againW fl fun h6 fl6 sm6 => ?_)
    have F6 := F.move I0.stack I0.stkFree cov fl6 sm6
    have I6 := F6.inv I0
    obtain ⟨ea', a0', B', ez, fl', cov'⟩ := F6.ex
    cases ez
    obtain ⟨f1, f2, f3, oe, vs, T, oT, ts', he, ⟨hcls, _⟩, hd, _⟩ := fl'
    have nofr : ∀ {b : Addr} {o : Obj}, h6.get? b = some o → (∀ vs, o.data ≠ .fields vs) → ea ≠ b := fun e1 e2 z => by
      rw [← z, he] at e1
      cases e1
      exact e2 vs hd
    have n1 : ea ∉ frs X.stack := fun hm => by
      obtain ⟨_, o, ho, hnf⟩ := f3.mem hm
      exact nofr ho hnf rfl
    have n2 : ea ∉ X.fs := fun hm => by
      obtain ⟨_, o, ho, hnf⟩ := I6.funs.mem hm
      exact nofr ho hnf rfl
    have n3 : ea ≠ X.env.locals := by
      obtain ⟨m, ⟨o, es, ep, ho, hdd, _⟩, _⟩ := I6.loc
      exact nofr ho fun vs z => by rw [hdd] at z; cases z
    have n4 : H ea = none := by
      cases z : H ea with
      | none => rfl
      | some u =>
        have := cov' ea oe he n1 (.inr (by rw [z]; exact fun y => nomatch y))
        rw [f2] at this
        cases this
    have I7 := I6.hdlP (.ref ea) he n4 n3 n2 (fun v z => by rw [hd] at z; cases z)
    refine store_ok (X := X.hdlP (.ref ea) (X.pn ++ pins ++ [(ea, oe)])) I7 hN hi (.inl hlo) (v := .ref ea) rfl (fun s8 I8 => ?_) (.inr hlo)
    refine wpAny_mono (hts (.ref ea) _ ea oe C0 (List.mem_append_right _ (List.mem_singleton.mpr rfl)) hcls _ _ _ _ _ I8 (h ea n4)) (fun f s2 q2 => ?_) fun _ _ z => z.elim
    show wpAny _ _ (do bindName X.env n .none; unbindBehindTheSuite X.env n _) _ _ _
    cases f with
    | next => obtain ⟨σ', H', J, q⟩ := q2; exact name_gone (J.unhdlP I.ok) hN hi hk fun s' J' => ⟨_, H', J', q⟩
    | brk => obtain ⟨σ', H', J, q⟩ := q2; exact name_gone (J.unhdlP I.ok) hN hi hk fun s' J' => ⟨_, H', J', q⟩
    | cont => obtain ⟨σ', H', J, q⟩ := q2; exact name_gone (J.unhdlP I.ok) hN hi hk fun s' J' => ⟨_, H', J', q⟩
    | ret u => obtain ⟨v, σ', H', J, r, q⟩ := q2; exact name_gone (J.unhdlP I.ok) hN hi hk fun s' J' => ⟨v, _, H', J', r, q⟩
/-- isinstance(e, C) of the exception that is pinned -/
theorem call_isX {ea C0 : Addr} {oe : Obj} (hp : (ea, oe) ∈ X.pn) (hc : oe.cls = .ref C0) : CallR X (.builtin "isinstance") (fun xs H Q => ∃ y b, xs = [.ref ea, y] ∧ XIs X.K C0 ∧ ((∃ C, y = .ref C ∧ PySem.W.kitOne X.K (.ref C0) (.ref C) = some b) ∨ ∃ T, y = .ty T ∧ PySem.W.kitOne X.K (.ref C0) (.type T) = some b) ∧ Q (.bl b) H) := by
  intro pins s σ H xs us Q I r h
  obtain ⟨y, b, rfl, Y, hy, q⟩ := h
  obtain ⟨u, v, rfl, ru, rv⟩ := Vals.two r
  cases (show u = Value.ref ea from ru)
  have o : OfC ea C0 s.heap := ⟨oe, (I.pin _ (List.mem_append_left _ hp)).1, hc⟩
  rcases hy with ⟨C, rfl, e⟩ | ⟨T, rfl, e⟩
  · cases (show v = Value.ref C from rv)
    exact kia_one Y.kit I.kIn o e (fun z => nomatch z) fun tk => ⟨.bl b, H, I.tok _, rfl, q⟩
  · cases (show v = Value.type T from rv)
    exact kia_one Y.kit I.kIn o e (fun z => nomatch z) fun tk => ⟨.bl b, H, I.tok _, rfl, q⟩
/-! rules whose reading names the fragment outright: inside a try, a suite -/
theorem call_isXK {K : PySem.W.Frag} (hK : X.K = K) {ea C0 : Addr} {oe : Obj} (hp : (ea, oe) ∈ X.pn) (hc : oe.cls = .ref C0) : CallR X (.builtin "isinstance") (fun xs H Q => ∃ y b, xs = [.ref ea, y] ∧ XIs K C0 ∧ ((∃ C, y = .ref C ∧ PySem.W.kitOne K (.ref C0) (.ref C) = some b) ∨ ∃ T, y = .ty T ∧ PySem.W.kitOne K (.ref C0) (.type T) = some b) ∧ Q (.bl b) H) := hK ▸ call_isX hp hc
theorem call_listK {K : PySem.W.Frag} (hK : X.K = K) : CallR X (.type "list") (fun xs H Q => ∃ p ys, xs = [.ref p] ∧ (SqL K H p ys ∨ SqT K H p ys) ∧ ∀ l G, New H l (.lst ys) G → Q (.ref l) G) := hK ▸ call_listN
theorem pe_bmK {K : PySem.W.Frag} (hK : X.K = K) {o e : Expr} {es : List Expr} {to : TE} {t : TA} {name : Str} {apos cpos : Pos} {T id : String} {r : V → List V → Hp → VK → Prop} (pa : PlainAttrs T) (slot : Slot T name id) (hty : typeOf (.builtin id) = pure (.type "method_descriptor")) (hm : MtR X id r) (ho : PE X o to) (ha : PA X (e :: es) t)
    (hbase : attributeBase o name X.env (eval o X.env) = eval o X.env := by rfl)
    (hfew : ((backTo cpos (starEach (e :: es) X.env)).all (fun x => !x.1) && (backToKw cpos (keywordEach [] X.env)).all (fun x => x.1.isSome)
      && decide ((e :: es).length + ([] : List Keyword).length + (if ([] : List Keyword).isEmpty then 0 else 1) < 30)) = true := by rfl)
    (hline : (apos.endLine == cpos.line) = true := by rfl) (hs : starEach (e :: es) X.env = (false, eval e X.env) :: starEach es X.env := by rfl) (hplain : (backTo cpos (starEach es X.env)).any (·.1) = false := by rfl) :
    PE X (.Call (.Attribute o name apos) (e :: es) [] cpos) (tBM K T r to t) := hK ▸ pe_bm pa slot hty hm ho ha hbase hfew hline hs hplain
end
end L2
namespace Tx
open PySem PySem.NumText PySem.W
/-! numbers, written and read -/
def dig (n : Nat) : PySem.Str := PySem.Str.ofString (toString (n : Int))
theorem dig_cps (n : Nat) : (dig n).cps.toList = (Nat.toDigits 10 n).map Char.toNat := PySem.W.KIN.signs_num n
theorem dig_dg (n : Nat) : ∀ c ∈ (dig n).cps.toList, 48 ≤ c ∧ c ≤ 57 := by
  intro c hc
  rw [dig_cps] at hc
  obtain ⟨ch, hch, rfl⟩ := List.mem_map.mp hc
  exact PyProof.Rows.digit_range (Nat.isDigit_of_mem_toDigits (by decide) (by decide) hch)
theorem dig_ne (n : Nat) : (dig n).cps.toList ≠ [] := by
  rw [dig_cps]
  intro e
  exact Nat.toDigits_ne_nil (List.map_eq_nil_iff.mp e)
theorem dig_val (n : Nat) : digitsVal (dig n).cps.toList = n := by rw [dig_cps]; exact PySem.W.KIN.val_back n
theorem dig_len {n k : Nat} (h : n < 10 ^ k) (hk : 0 < k) : (dig n).length ≤ k := by
  have : (dig n).length = (dig n).cps.toList.length := Array.length_toList.symm
  rw [this, dig_cps, List.length_map]
  exact (Nat.length_toDigits_le_iff (by decide) hk).mpr h
theorem dig_ok (n : Nat) : Ok (dig n) := fun c hc => by have := dig_dg n c hc; omega
theorem dig_head : ∀ n : Nat, 0 < n → (dig n).cps.toList.head? ≠ some 48 := by
  intro n
  simp only [dig_cps]
  induction n using Nat.strongRecOn with
  | _ n ih =>
    intro h0
    by_cases h : n < 10
    · rw [Nat.toDigits_of_lt_base h]
      have : ∀ d : Nat, d < 10 → 0 < d → (Nat.digitChar d).toNat ≠ 48 := by decide
      simpa using this n h h0
    · rw [Nat.toDigits_of_base_le (by decide) (by omega), List.map_append]
      have i := ih (n / 10) (by omega) (by omega)
      cases e : (Nat.toDigits 10 (n / 10)).map Char.toNat with
      | nil => exact absurd (List.map_eq_nil_iff.mp e) Nat.toDigits_ne_nil
      | cons a r =>
        rw [e] at i
        simpa using i
def isDg (x : PySem.Str) : Bool := x.cps.toList.all fun c => decide (48 ≤ c) && decide (c ≤ 57)
/-- what number_of answers -/
def numOf (x : PySem.Str) : Option Nat := if x = ⟨#[]⟩ ∨ isDg x = false then none else if x.cps.toList.head? = some 48 ∧ x ≠ ⟨#[48]⟩ then none else some (digitsVal x.cps.toList)
theorem numOf_dig (n : Nat) : numOf (dig n) = some n := by
  unfold numOf
  have h1 : ¬ (dig n = ⟨#[]⟩ ∨ isDg (dig n) = false) := by
    rintro (e | e)
    · exact dig_ne n (by rw [e])
    · have : isDg (dig n) = true := by
        unfold isDg
        rw [List.all_eq_true]
        intro c hc
        have := dig_dg n c hc
        simp [this.1, this.2]
      rw [this] at e
      cases e
  rw [if_neg h1]
  by_cases h0 : 0 < n
  · rw [if_neg (fun z => dig_head n h0 z.1), dig_val]
  · have : n = 0 := by omega
    subst this
    decide +kernel
/-! the words of a line -/
abbrev lit (s : String) : PySem.Str := PySem.Str.ofString s
def wds : List (PySem.Str × Nat) := [(lit "wants", 1), (lit "draws", 3), (lit "lowers", 2), (lit "enters", 4), (lit "leaves", 5)]
/-- a visit: its six, the first the hand -/
abbrev V6 := List (Option Nat)
def pstep (ps : List PySem.Str) (w : PySem.Str) (p : Nat) (v : V6) (a : Nat) : Option (V6 × Nat) :=
  if ps[a]? = some w then (match ps[a + 1]? with | some x => (numOf x).map fun n => (v.set p (some n), a + 2) | none => none) else some (v, a)
def pgo (ps : List PySem.Str) : List (PySem.Str × Nat) → V6 × Nat → Option (V6 × Nat)
  | [], st => some st
  | (w, p) :: r, st => match pstep ps w p st.1 st.2 with | none => none | some st' => pgo ps r st'
def at_ (v : V6) (i : Nat) : Option Nat := (v[i]?).join
def chkL (v : V6) : Bool := (at_ v 3).isSome && (match at_ v 2, at_ v 1 with | some l, some w => decide (w < l) | _, _ => false)
def chkE (v : V6) : Bool := match at_ v 2, at_ v 4 with | some l, some e => decide (l ≤ e) | _, _ => false
def lessX (v : V6) (x p : Nat) : Bool := match at_ v p with | some y => decide (y < x) | none => true
def chkX (v : V6) : Bool := match at_ v 5 with | some x => lessX v x 1 && lessX v x 2 && lessX v x 4 | none => true
def chk (v : V6) : Bool := (at_ v 1).isSome && decide (at_ v 3 ≠ some 0) && ((at_ v 2).isNone || chkL v) && ((at_ v 4).isNone || chkE v) && ((at_ v 5).isNone || chkX v)
/-- what visit_of answers, over the parts -/
def visP (ps : List PySem.Str) : Option V6 :=
  if ps.length % 2 = 0 then none else
  match ps[0]? with
  | none => none
  | some x => match numOf x with
    | none => none
    | some h => match pgo ps wds ([some h, none, none, none, none, none], 1) with
      | none => none
      | some (v, a) => if a < ps.length then none else if chk v then some v else none
/-- what read answers -/
def readP : Option Nat → List (List PySem.Str) → Option (List V6)
  | _, [] => some []
  | last, ps :: r => match visP ps with
    | none => none
    | some v => if (match last with | none => false | some y => decide ((at_ v 1).getD 0 ≤ y)) then none else (readP (some ((at_ v 1).getD 0)) r).map (v :: ·)
/-- the parts of a visit's line -/
def partsOf (v : V6) : List PySem.Str := dig ((at_ v 0).getD 0) :: (wds.flatMap fun wp => match at_ v wp.2 with | some n => [wp.1, dig n] | none => [])
/-! a drawn visit -/
structure Dr where
  hand : Nat
  time : Nat
  tick : Nat
  low : Nat
  ent : Nat
  cnt : Nat
  left : Option Nat
def Dr.v6 (d : Dr) : V6 := [some d.hand, some d.time, if 2 ≤ d.cnt then some d.low else none, if 1 ≤ d.cnt then some d.tick else none, if 3 ≤ d.cnt then some d.ent else none, d.left]
structure Dr.Ok (d : Dr) : Prop where
  tick : 0 < d.tick
  low : d.time < d.low
  ent : d.low ≤ d.ent
  left : ∀ x, d.left = some x → d.time < x ∧ (2 ≤ d.cnt → d.low < x) ∧ (3 ≤ d.cnt → d.ent < x)
theorem lw : lit "wants" ≠ lit "draws" ∧ lit "wants" ≠ lit "lowers" ∧ lit "wants" ≠ lit "enters" ∧ lit "wants" ≠ lit "leaves" ∧ lit "draws" ≠ lit "lowers" ∧ lit "draws" ≠ lit "enters" ∧ lit "draws" ≠ lit "leaves" ∧ lit "lowers" ≠ lit "enters" ∧ lit "lowers" ≠ lit "leaves" ∧ lit "enters" ≠ lit "leaves" := by decide +kernel
def wW : PySem.Str := lit "wants"
def wD : PySem.Str := lit "draws"
def wL : PySem.Str := lit "lowers"
def wE : PySem.Str := lit "enters"
def wX : PySem.Str := lit "leaves"
theorem wds_eq : wds = [(wW, 1), (wD, 3), (wL, 2), (wE, 4), (wX, 5)] := rfl
theorem n1 : (wW = wD) = False := eq_false (by decide +kernel)
theorem n2 : (wW = wL) = False := eq_false (by decide +kernel)
theorem n3 : (wW = wE) = False := eq_false (by decide +kernel)
theorem n4 : (wW = wX) = False := eq_false (by decide +kernel)
theorem n5 : (wD = wL) = False := eq_false (by decide +kernel)
theorem n6 : (wD = wE) = False := eq_false (by decide +kernel)
theorem n7 : (wD = wX) = False := eq_false (by decide +kernel)
theorem n8 : (wL = wE) = False := eq_false (by decide +kernel)
theorem n9 : (wL = wX) = False := eq_false (by decide +kernel)
theorem n10 : (wE = wX) = False := eq_false (by decide +kernel)
theorem m1 : (wD = wW) = False := eq_false (by decide +kernel)
theorem m2 : (wL = wW) = False := eq_false (by decide +kernel)
theorem m3 : (wE = wW) = False := eq_false (by decide +kernel)
theorem m4 : (wX = wW) = False := eq_false (by decide +kernel)
theorem m5 : (wL = wD) = False := eq_false (by decide +kernel)
theorem m6 : (wE = wD) = False := eq_false (by decide +kernel)
theorem m7 : (wX = wD) = False := eq_false (by decide +kernel)
theorem m8 : (wE = wL) = False := eq_false (by decide +kernel)
theorem m9 : (wX = wL) = False := eq_false (by decide +kernel)
theorem m10 : (wX = wE) = False := eq_false (by decide +kernel)
local macro_rules | `(tactic| walk_at "pa") => `(tactic| simp [visP, pgo, pstep, wds_eq, numOf_dig, n1, n2, n3, n4, n5, n6, n7, n8, n9, n10, m1, m2, m3, m4, m5, m6, m7, m8, m9, m10, chk, chkL, chkE, chkX, lessX, at_])
theorem vis_back (d : Dr) (h : d.Ok) (hc : d.cnt ≤ 3) : visP (partsOf d.v6) = some d.v6 := by
  obtain ⟨h1, h2, h3, h4⟩ := h
  obtain ⟨hand, time, tick, low, ent, cnt, left⟩ := d
  simp only at h1 h2 h3 h4 hc
  have hc : cnt = 0 ∨ cnt = 1 ∨ cnt = 2 ∨ cnt = 3 := by omega
  cases left with
  | none =>
    rcases hc with rfl | rfl | rfl | rfl
    · simp [partsOf, Dr.v6, at_, wds_eq]; walk_at "pa"
    · simp [partsOf, Dr.v6, at_, wds_eq]; walk_at "pa"; omega
    · simp [partsOf, Dr.v6, at_, wds_eq]; walk_at "pa"; omega
    · simp [partsOf, Dr.v6, at_, wds_eq]; walk_at "pa"; omega
  | some x =>
    have h4 := h4 x rfl
    rcases hc with rfl | rfl | rfl | rfl
    · simp [partsOf, Dr.v6, at_, wds_eq]; walk_at "pa"; omega
    · simp [partsOf, Dr.v6, at_, wds_eq]; walk_at "pa"; omega
    · simp [partsOf, Dr.v6, at_, wds_eq]; walk_at "pa"; omega
    · simp [partsOf, Dr.v6, at_, wds_eq]; walk_at "pa"; omega
end Tx
namespace Tx
open PySem PySem.NumText PySem.W
/-! lines that are refused -/
theorem q7 : numOf (lit "7") = some 7 := by decide +kernel
theorem q1 : numOf (lit "1") = some 1 := by decide +kernel
theorem q0 : numOf (lit "0") = some 0 := by decide +kernel
theorem q01 : numOf (lit "01") = none := by decide +kernel
theorem qx : numOf (lit "x") = none := by decide +kernel
theorem qm : numOf (lit "-1") = none := by decide +kernel
theorem q07 : numOf (lit "07") = none := by decide +kernel
theorem qe : numOf (lit "") = none := by decide +kernel
def wQ : PySem.Str := lit "Draws"
def wT : PySem.Str := lit "want"
theorem c1 : (wQ = wW) = False := eq_false (by decide +kernel)
theorem c2 : (wQ = wD) = False := eq_false (by decide +kernel)
theorem c3 : (wQ = wL) = False := eq_false (by decide +kernel)
theorem c4 : (wQ = wE) = False := eq_false (by decide +kernel)
theorem c5 : (wQ = wX) = False := eq_false (by decide +kernel)
theorem d1 : (wT = wW) = False := eq_false (by decide +kernel)
theorem d2 : (wT = wD) = False := eq_false (by decide +kernel)
theorem d3 : (wT = wL) = False := eq_false (by decide +kernel)
theorem d4 : (wT = wE) = False := eq_false (by decide +kernel)
theorem d5 : (wT = wX) = False := eq_false (by decide +kernel)
local macro_rules | `(tactic| walk_at "pa") => `(tactic| simp [visP, pgo, pstep, wds_eq, numOf_dig, n1, n2, n3, n4, n5, n6, n7, n8, n9, n10, m1, m2, m3, m4, m5, m6, m7, m8, m9, m10, c1, c2, c3, c4, c5, d1, d2, d3, d4, d5, q7, q1, q0, q01, qx, qm, q07, qe, chk, chkL, chkE, chkX, lessX, at_])
/-- the parts of a line: none is empty of parts, none has a blank, all are short -/
structure PsOk (ps : List PySem.Str) : Prop where
  ne : ps ≠ []
  ok : ∀ x ∈ ps, Ok x ∧ x.length ≤ 100
  few : ps.length ≤ 20
abbrev sp : PySem.Str := ⟨#[32]⟩
abbrev line (ps : List PySem.Str) : PySem.Str := Str.join sp ps
def S (n : Nat) (x : PySem.Str) : Prop := Ok x ∧ x.length ≤ 100
theorem okLit {x : PySem.Str} (h : (x.cps.toList.all fun c => decide (c < 128) && decide (c ≠ 32)) = true) (hl : x.length ≤ 100) : Ok x ∧ x.length ≤ 100 := by
  refine ⟨fun c hc => ?_, hl⟩
  have := List.all_eq_true.mp h c hc
  simpa using this
theorem oW : Ok wW ∧ wW.length ≤ 100 := okLit (by decide +kernel) (by decide +kernel)
theorem oD : Ok wD ∧ wD.length ≤ 100 := okLit (by decide +kernel) (by decide +kernel)
theorem oL : Ok wL ∧ wL.length ≤ 100 := okLit (by decide +kernel) (by decide +kernel)
theorem oE : Ok wE ∧ wE.length ≤ 100 := okLit (by decide +kernel) (by decide +kernel)
theorem oX : Ok wX ∧ wX.length ≤ 100 := okLit (by decide +kernel) (by decide +kernel)
theorem oQ : Ok wQ ∧ wQ.length ≤ 100 := okLit (by decide +kernel) (by decide +kernel)
theorem oT : Ok wT ∧ wT.length ≤ 100 := okLit (by decide +kernel) (by decide +kernel)
theorem o7 : Ok (lit "7") ∧ (lit "7").length ≤ 100 := okLit (by decide +kernel) (by decide +kernel)
theorem o5 : Ok (lit "5") ∧ (lit "5").length ≤ 100 := okLit (by decide +kernel) (by decide +kernel)
theorem o1 : Ok (lit "1") ∧ (lit "1").length ≤ 100 := okLit (by decide +kernel) (by decide +kernel)
theorem o0 : Ok (lit "0") ∧ (lit "0").length ≤ 100 := okLit (by decide +kernel) (by decide +kernel)
theorem o01 : Ok (lit "01") ∧ (lit "01").length ≤ 100 := okLit (by decide +kernel) (by decide +kernel)
theorem o07 : Ok (lit "07") ∧ (lit "07").length ≤ 100 := okLit (by decide +kernel) (by decide +kernel)
theorem ox : Ok (lit "x") ∧ (lit "x").length ≤ 100 := okLit (by decide +kernel) (by decide +kernel)
theorem om : Ok (lit "-1") ∧ (lit "-1").length ≤ 100 := okLit (by decide +kernel) (by decide +kernel)
theorem oe : Ok (lit "") ∧ (lit "").length ≤ 100 := okLit (by decide +kernel) (by decide +kernel)
theorem oN {n : Nat} (h : n < 10 ^ 100) : Ok (dig n) ∧ (dig n).length ≤ 100 := ⟨dig_ok n, dig_len h (by decide)⟩
def later (t : Nat) : PySem.Str := lit " lowers " ++ dig (t + 1)
def last (t : Nat) : PySem.Str := lit " draws 1 lowers " ++ dig (t + 2)
/-- each bad tail, with the parts of its line -/
def bad (t : Nat) : List (PySem.Str × List PySem.Str) := [
  (lit " 5", [lit "7", wW, dig t, lit "5"]),
  (lit " draws", [lit "7", wW, dig t, wD]),
  (lit " draws 0", [lit "7", wW, dig t, wD, lit "0"]),
  (lit " draws 01", [lit "7", wW, dig t, wD, lit "01"]),
  (lit " draws x", [lit "7", wW, dig t, wD, lit "x"]),
  (lit " draws -1", [lit "7", wW, dig t, wD, lit "-1"]),
  (later t, [lit "7", wW, dig t, wL, dig (t + 1)]),
  (lit " draws 1 lowers " ++ dig t, [lit "7", wW, dig t, wD, lit "1", wL, dig t]),
  (later t ++ lit " draws 1", [lit "7", wW, dig t, wL, dig (t + 1), wD, lit "1"]),
  (lit " enters " ++ dig (t + 1), [lit "7", wW, dig t, wE, dig (t + 1)]),
  (lit " draws 1 enters " ++ dig (t + 1), [lit "7", wW, dig t, wD, lit "1", wE, dig (t + 1)]),
  (lit " draws 1 draws 1", [lit "7", wW, dig t, wD, lit "1", wD, lit "1"]),
  (lit " draws  1", [lit "7", wW, dig t, wD, lit "", lit "1"]),
  (lit "  draws 1", [lit "7", wW, dig t, lit "", wD, lit "1"]),
  (lit " draws 1 ", [lit "7", wW, dig t, wD, lit "1", lit ""]),
  (lit " leaves " ++ dig t, [lit "7", wW, dig t, wX, dig t]),
  (lit " draws 1" ++ later t ++ lit " leaves " ++ dig (t + 1), [lit "7", wW, dig t, wD, lit "1", wL, dig (t + 1), wX, dig (t + 1)]),
  (last t ++ lit " enters " ++ dig (t + 1), [lit "7", wW, dig t, wD, lit "1", wL, dig (t + 2), wE, dig (t + 1)]),
  (last t ++ lit " leaves " ++ dig (t + 1), [lit "7", wW, dig t, wD, lit "1", wL, dig (t + 2), wX, dig (t + 1)]),
  (last t ++ lit " enters " ++ dig (t + 3) ++ lit " leaves " ++ dig (t + 3), [lit "7", wW, dig t, wD, lit "1", wL, dig (t + 2), wE, dig (t + 3), wX, dig (t + 3)]),
  (lit " leaves " ++ dig (t + 4) ++ lit " draws 1", [lit "7", wW, dig t, wX, dig (t + 4), wD, lit "1"]),
  (lit " Draws 1", [lit "7", wW, dig t, wQ, lit "1"])]
theorem bad_vis (t : Nat) : ∀ p ∈ bad t, visP p.2 = none := by
  simp only [bad, List.forall_mem_cons, List.not_mem_nil, false_implies, implies_true, and_true]
  refine ⟨?_, ?_, ?_, ?_, ?_, ?_, ?_, ?_, ?_, ?_, ?_, ?_, ?_, ?_, ?_, ?_, ?_, ?_, ?_, ?_, ?_, ?_⟩
  all_goals first | (walk_at "pa"; done) | (walk_at "pa"; omega)
theorem bad_ok {t : Nat} (h : t + 4 < 10 ^ 100) : ∀ p ∈ bad t, PsOk p.2 := by
  have h0 := oN (n := t) (by omega)
  have h1 := oN (n := t + 1) (by omega)
  have h2 := oN (n := t + 2) (by omega)
  have h3 := oN (n := t + 3) (by omega)
  have h4 := oN (n := t + 4) (by omega)
  simp only [bad, List.forall_mem_cons, List.not_mem_nil, false_implies, implies_true, and_true]
  refine ⟨?_, ?_, ?_, ?_, ?_, ?_, ?_, ?_, ?_, ?_, ?_, ?_, ?_, ?_, ?_, ?_, ?_, ?_, ?_, ?_, ?_, ?_⟩
  all_goals
    refine ⟨by simp, ?_, by simp⟩
    simp only [List.forall_mem_cons, List.not_mem_nil, false_implies, implies_true, and_true]
    simp only [oW, oD, oL, oE, oX, oQ, o7, o5, o1, o0, o01, ox, om, oe, h0, h1, h2, h3, h4, and_self]
theorem L7w : (lit "7 wants ") = lit "7" ++ sp ++ wW ++ sp := by decide +kernel
theorem bad_line (t : Nat) : ∀ p ∈ bad t, lit "7 wants " ++ dig t ++ p.1 = line p.2 := by
  have e1 : lit " lowers " = sp ++ wL ++ sp := by decide +kernel
  have e2 : lit " draws 1 lowers " = sp ++ wD ++ sp ++ lit "1" ++ sp ++ wL ++ sp := by decide +kernel
  have e3 : lit " draws 1" = sp ++ wD ++ sp ++ lit "1" := by decide +kernel
  have e4 : lit " enters " = sp ++ wE ++ sp := by decide +kernel
  have e5 : lit " draws 1 enters " = sp ++ wD ++ sp ++ lit "1" ++ sp ++ wE ++ sp := by decide +kernel
  have e6 : lit " leaves " = sp ++ wX ++ sp := by decide +kernel
  have e7 : lit " 5" = sp ++ lit "5" := by decide +kernel
  have e8 : lit " draws" = sp ++ wD := by decide +kernel
  have e9 : lit " draws 0" = sp ++ wD ++ sp ++ lit "0" := by decide +kernel
  have e10 : lit " draws 01" = sp ++ wD ++ sp ++ lit "01" := by decide +kernel
  have e11 : lit " draws x" = sp ++ wD ++ sp ++ lit "x" := by decide +kernel
  have e12 : lit " draws -1" = sp ++ wD ++ sp ++ lit "-1" := by decide +kernel
  have e13 : lit " draws 1 draws 1" = sp ++ wD ++ sp ++ lit "1" ++ sp ++ wD ++ sp ++ lit "1" := by decide +kernel
  have e14 : lit " draws  1" = sp ++ wD ++ sp ++ lit "" ++ sp ++ lit "1" := by decide +kernel
  have e15 : lit "  draws 1" = sp ++ lit "" ++ sp ++ wD ++ sp ++ lit "1" := by decide +kernel
  have e16 : lit " draws 1 " = sp ++ wD ++ sp ++ lit "1" ++ sp ++ lit "" := by decide +kernel
  have e17 : lit " Draws 1" = sp ++ wQ ++ sp ++ lit "1" := by decide +kernel
  simp only [bad, later, last, L7w, e1, e2, e3, e4, e5, e6, e7, e8, e9, e10, e11, e12, e13, e14, e15, e16, e17, List.forall_mem_cons, List.not_mem_nil, false_implies, implies_true, and_true, line, Str.join, Str.append_assoc, and_self]
def ahead : List (PySem.Str × List PySem.Str) := [(lit "", [lit ""]), (lit "7", [lit "7"]), (lit "7 wants", [lit "7", wW]), (lit "wants 5", [wW, lit "5"]), (lit "-1 wants 5", [lit "-1", wW, lit "5"]), (lit "07 wants 5", [lit "07", wW, lit "5"]), (lit "7 want 5", [lit "7", wT, lit "5"])]
theorem ahead_vis : ∀ p ∈ ahead, visP p.2 = none := by
  simp only [ahead, List.forall_mem_cons, List.not_mem_nil, false_implies, implies_true, and_true]
  refine ⟨?_, ?_, ?_, ?_, ?_, ?_, ?_⟩
  all_goals walk_at "pa"
theorem ahead_ok : ∀ p ∈ ahead, PsOk p.2 := by
  simp only [ahead, List.forall_mem_cons, List.not_mem_nil, false_implies, implies_true, and_true]
  refine ⟨?_, ?_, ?_, ?_, ?_, ?_, ?_⟩
  all_goals
    refine ⟨by simp, ?_, by simp⟩
    simp only [List.forall_mem_cons, List.not_mem_nil, false_implies, implies_true, and_true]
    simp only [oW, oT, o7, o5, o07, om, oe, and_self]
theorem ahead_line : ∀ p ∈ ahead, p.1 = line p.2 := by
  simp only [ahead, List.forall_mem_cons, List.not_mem_nil, false_implies, implies_true, and_true]
  refine ⟨?_, ?_, ?_, ?_, ?_, ?_, ?_⟩ <;> decide +kernel
/-! reading -/
theorem read_app {l r : List (List PySem.Str)} (h : ∀ y, readP y r = none) : ∀ y, readP y (l ++ r) = none := by
  induction l with
  | nil => exact h
  | cons ps l ih =>
    intro y
    show readP y (ps :: (l ++ r)) = none
    rw [readP]
    cases visP ps with
    | none => rfl
    | some v =>
      simp only [ih, Option.map_none]
      cases y <;> simp
theorem read_bad {ps : List PySem.Str} (h : visP ps = none) (r : List (List PySem.Str)) (y : Option Nat) : readP y (ps :: r) = none := by
  rw [readP, h]
theorem read_two {ps qs : List PySem.Str} {v u : V6} (h1 : visP ps = some v) (h2 : visP qs = some u) (h : (at_ u 1).getD 0 ≤ (at_ v 1).getD 0) (r : List (List PySem.Str)) (y : Option Nat) : readP y (ps :: qs :: r) = none := by
  rw [readP, h1]
  simp only [readP, h2, decide_eq_true h, if_true]
  split <;> split <;> rfl
end Tx
namespace Tx
open PySem PySem.NumText PySem.W
/-! the law's visits -/
def big : Nat := 100000000000000000000
def mod90 : Nat := 1000000000000000000000000000000000000000000000000000000000000000000000000000000000000000000
def idx (c : Int) (m r : Nat) : Nat := (c * 48271 % m % r).toNat
def inc (c : Int) : Nat := [1, 3, 10, big].getD (idx c 1009 4) 0
def tickL (c : Int) : List Nat := [1, 2, 10, 1 + (c % (mod90 : Int)).toNat]
def tickOf (c : Int) : Nat := (tickL c).getD (idx c 1013 4) 0
def lowD (c : Int) : Nat := [1, 2, big].getD (idx c 1019 3) 0
def entD (c : Int) : Nat := [0, 1, 10].getD (idx c 1021 3) 0
def handOf (c : Int) : Nat := [0, 2, 10, big].getD (idx c 1039 4) 0
def mxOf (cnt t l e : Nat) : Nat := if 3 ≤ cnt then e else if 2 ≤ cnt then l else t
def drOf (c : Int) (t : Nat) : Dr := ⟨handOf c, t, tickOf c, t + lowD c, t + lowD c + entD c, idx c 1031 4, if idx c 1033 2 = 1 then some (mxOf (idx c 1031 4) t (t + lowD c) (t + lowD c + entD c) + 1) else none⟩
def cellAt (ns : List Int) (k : Nat) : Int := ns.getD k 0 + 7 * (k : Int)
def tmAt (ns : List Int) : Nat → Nat
  | 0 => 0
  | k + 1 => tmAt ns k + inc (cellAt ns k)
def drs (ns : List Int) (k : Nat) : List Dr := (List.range k).map fun i => drOf (cellAt ns i) (tmAt ns (i + 1))
theorem drs_succ (ns : List Int) (k : Nat) : drs ns (k + 1) = drs ns k ++ [drOf (cellAt ns k) (tmAt ns (k + 1))] := by
  unfold drs
  rw [List.range_succ, List.map_append]
  rfl
theorem idx_lt (c : Int) (m r : Nat) (h : 0 < r) : idx c m r < r := by
  unfold idx
  have h1 := Int.emod_nonneg (c * 48271 % m) (show (r : Int) ≠ 0 by omega)
  have h2 := Int.emod_lt_of_pos (c * 48271 % m) (show (0 : Int) < r by omega)
  omega
theorem inc_pos (c : Int) : 0 < inc c ∧ inc c ≤ big := by
  unfold inc
  have := idx_lt c 1009 4 (by decide)
  generalize idx c 1009 4 = i at this
  have : i = 0 ∨ i = 1 ∨ i = 2 ∨ i = 3 := by omega
  rcases this with rfl | rfl | rfl | rfl <;> simp [big]
theorem low_pos (c : Int) : 0 < lowD c ∧ lowD c ≤ big := by
  unfold lowD
  have := idx_lt c 1019 3 (by decide)
  generalize idx c 1019 3 = i at this
  have : i = 0 ∨ i = 1 ∨ i = 2 := by omega
  rcases this with rfl | rfl | rfl <;> simp [big]
theorem ent_le (c : Int) : entD c ≤ 10 := by
  unfold entD
  have := idx_lt c 1021 3 (by decide)
  generalize idx c 1021 3 = i at this
  have : i = 0 ∨ i = 1 ∨ i = 2 := by omega
  rcases this with rfl | rfl | rfl <;> simp
theorem hand_le (c : Int) : handOf c ≤ big := by
  unfold handOf
  have := idx_lt c 1039 4 (by decide)
  generalize idx c 1039 4 = i at this
  have : i = 0 ∨ i = 1 ∨ i = 2 ∨ i = 3 := by omega
  rcases this with rfl | rfl | rfl | rfl <;> simp [big]
theorem mod_lt (c : Int) : (c % (mod90 : Int)).toNat < mod90 := by
  have h1 := Int.emod_nonneg c (show (mod90 : Int) ≠ 0 by unfold mod90; decide)
  have h2 := Int.emod_lt_of_pos c (show (0 : Int) < mod90 by unfold mod90; decide)
  generalize c % (mod90 : Int) = x at h1 h2
  generalize mod90 = M at h2
  omega
theorem tick_pos (c : Int) : 0 < tickOf c ∧ tickOf c ≤ mod90 := by
  unfold tickOf tickL
  have := idx_lt c 1013 4 (by decide)
  have hm := mod_lt c
  have h10 : 10 ≤ mod90 := by unfold mod90; decide
  generalize idx c 1013 4 = i at this
  generalize (c % (mod90 : Int)).toNat = x at hm
  generalize mod90 = M at hm h10
  have : i = 0 ∨ i = 1 ∨ i = 2 ∨ i = 3 := by omega
  rcases this with rfl | rfl | rfl | rfl <;> simp <;> omega
theorem tm_le (ns : List Int) : ∀ k, tmAt ns k ≤ k * big
  | 0 => Nat.le_refl _
  | k + 1 => by
    have h1 := tm_le ns k
    have h2 := (inc_pos (cellAt ns k)).2
    show tmAt ns k + inc (cellAt ns k) ≤ _
    rw [Nat.succ_mul]
    omega
theorem dr_ok (c : Int) (t : Nat) : (drOf c t).Ok := by
  have h1 := low_pos c
  refine ⟨(tick_pos c).1, ?_, ?_, ?_⟩
  · show t < t + lowD c
    omega
  · show t + lowD c ≤ t + lowD c + entD c
    omega
  · intro x hx
    have hx : (if idx c 1033 2 = 1 then some (mxOf (idx c 1031 4) t (t + lowD c) (t + lowD c + entD c) + 1) else none) = some x := hx
    split at hx
    · cases hx
      show t < _ ∧ (2 ≤ idx c 1031 4 → t + lowD c < _) ∧ (3 ≤ idx c 1031 4 → t + lowD c + entD c < _)
      unfold mxOf
      split
      · omega
      · split <;> omega
    · cases hx
theorem dr_cnt (c : Int) (t : Nat) : (drOf c t).cnt ≤ 3 := by
  have := idx_lt c 1031 4 (by decide)
  show idx c 1031 4 ≤ 3
  omega
theorem dr_low {c : Int} {t : Nat} (ht : t ≤ 150 * big) : ∀ i n, at_ (drOf c t).v6 i = some n → n < 10 ^ 100 := by
  have h1 := low_pos c
  have h2 := ent_le c
  have h3 := hand_le c
  have h4 := tick_pos c
  have e1 : 200 * big + 100 < 10 ^ 100 := by unfold big; decide
  have e2 : mod90 < 10 ^ 100 := by unfold mod90; decide
  have e3 : 1 ≤ big := by unfold big; decide
  have mx : ∀ k, mxOf k t (t + lowD c) (t + lowD c + entD c) ≤ t + lowD c + entD c := fun k => by
    unfold mxOf
    split
    · exact Nat.le_refl _
    · split <;> omega
  have mx := mx (idx c 1031 4)
  generalize big = L at *
  generalize mod90 = M at *
  generalize 10 ^ 100 = T at *
  intro i n h
  unfold at_ Dr.v6 at h
  match i, h with
  | 0, h =>
    have h : some (handOf c) = some n := h
    cases h
    omega
  | 1, h =>
    have h : some t = some n := h
    cases h
    omega
  | 2, h =>
    have h : (if 2 ≤ idx c 1031 4 then some (t + lowD c) else none) = some n := h
    split at h
    · cases h; omega
    · cases h
  | 3, h =>
    have h : (if 1 ≤ idx c 1031 4 then some (tickOf c) else none) = some n := h
    split at h
    · cases h; omega
    · cases h
  | 4, h =>
    have h : (if 3 ≤ idx c 1031 4 then some (t + lowD c + entD c) else none) = some n := h
    split at h
    · cases h; omega
    · cases h
  | 5, h =>
    have h : (if idx c 1033 2 = 1 then some (mxOf (idx c 1031 4) t (t + lowD c) (t + lowD c + entD c) + 1) else none) = some n := h
    split at h
    · cases h; omega
    · cases h
  | i + 6, h => simp at h
/-- the parts of the drawn visits' lines are read to them -/
theorem read_drs (ns : List Int) : ∀ (m k : Nat) (y : Option Nat), (∀ z, y = some z → z < tmAt ns (k + 1)) → readP y ((List.range' k m).map fun i => partsOf (drOf (cellAt ns i) (tmAt ns (i + 1))).v6) = some ((List.range' k m).map fun i => (drOf (cellAt ns i) (tmAt ns (i + 1))).v6)
  | 0, k, y, _ => rfl
  | m + 1, k, y, h => by
    rw [List.range'_succ, List.map_cons, List.map_cons, readP, vis_back _ (dr_ok _ _) (dr_cnt _ _)]
    have e : (at_ (drOf (cellAt ns k) (tmAt ns (k + 1))).v6 1).getD 0 = tmAt ns (k + 1) := rfl
    simp only [e]
    have ih := read_drs ns m (k + 1) (some (tmAt ns (k + 1))) fun z hz => by
      cases hz
      have := (inc_pos (cellAt ns (k + 1))).1
      show tmAt ns (k + 1) < tmAt ns (k + 1) + inc (cellAt ns (k + 1))
      omega
    rw [ih]
    cases y with
    | none => rfl
    | some z =>
      have := h z rfl
      simp only [show ¬ tmAt ns (k + 1) ≤ z by omega, decide_false, Bool.false_eq_true, if_false]
      rfl
end Tx
namespace Toy
open PySem L2
theorem cxOf_K {CX : CXT} {P : Program} {w : World} {K : PySem.W.Frag} {mg : Str → Option Value} {base : Heap} {N : List Str} {qual : Str} {scope : Scope} {f : Addr} {cd : Value} {A : Around} {outer : List Env} {s : Shared} {H : Hp} {E : XK} : (cxOf CX P w K mg base N qual scope f cd A outer s H E).K = K := rfl
seal PE PA PS PSs PT PW PG PGs PI PTs
local macro_rules | `(tactic| walk_at "rd") => `(tactic| try simp only [tSeq, tAsg, tRet, tRetN, tDrop, tIfS, tNext, tTest, tOp, tUn, rI, rI0, rU, tVar, tC, tCons, tNil, tTup, tLst, tCB, tCall, gName, tAndV, tOrV, tNotV, tAnd, tOr, tNot, tIf, tB, rEq, rNe, L2.start, List.map_cons, List.map_nil, List.length_cons, List.length_nil, Nat.reduceAdd, Nat.reduceSub, List.replicate, List.cons_append, List.nil_append, List.append_nil,
      List.getElem?_cons_zero, List.getElem?_cons_succ, Option.some.injEq, V.int.injEq, V.bl.injEq, V.ref.injEq, V.str.injEq, exists_and_left, exists_eq_left', exists_eq_left, List.cons.injEq, cxOf_K, List.set, Int.reduceLT, true_and, and_true, decide_eq_true_eq, scal])
def top (i : Nat) : Stmt := PySem.Challenge.pw_ticketroom_k11_lines.main.body.getD i (.Pass ⟨0, 0, 0, 0⟩)
structure Blt (mg : Str → Option Value) : Prop where
  b_isinstance : mg "isinstance" = none
  b_len : mg "len" = none
  b_range : mg "range" = none
  b_int : mg "int" = none
  b_bool : mg "bool" = none
  b_str : mg "str" = none
  b_tuple : mg "tuple" = none
  b_list : mg "list" = none
theorem cmul_a (i : Int) : CMul i 48271 := .inr ⟨by decide, by decide⟩
theorem cmul_7 (i : Int) : CMul 7 i := .inl ⟨by decide, by decide⟩
section
variable {P : Program} {w : World} {K : PySem.W.Frag} {mg : Str → Option Value} {base : Heap}
/-! whole -/
abbrev sWhole : Stmt := top 27
def spWhole : Sp := fun vs H Q _ => ∃ v d, vs = [v] ∧ DV H v d ∧ Q (.bl (Dat.isInt d)) H
theorem scWhole : FnScope ["_law_found"] ["_law_found"] (defScope sWhole) := ⟨rfl, rfl, rfl, by decide +kernel, rfl, by decide +kernel, by decide +kernel⟩
theorem ok_whole {f : Addr} {fd : FuncData} (F : Fun K "_law_whole" "_law_whole" sWhole f fd) (T : Blt mg) : FnOk P w K mg base CX0 1 f fd ["_law_found"] spWhole := by
  refine F.ok scWhole (fun vs H Q E h => ?_) (fun cdv A outer s H vs Q E hr h => ?_)
  · obtain ⟨v, d, rfl, _⟩ := h
    rfl
  · obtain ⟨v, d, rfl, dv, q⟩ := h
    refine ⟨_, pss_one (ps_ret (pe_and (pe_callB (call_isinst (T := "int")) (by rfl) T.b_isinstance PyProof.Rows.Boot.isinstance (pac (pv 0) (pac (pe_ty (by rfl) T.b_int PyProof.Rows.Boot.int) pa_nil)))
      (pe_one (pe_not (pe_callB (call_isinst (T := "bool")) (by rfl) T.b_isinstance PyProof.Rows.Boot.isinstance (pac (pv 0) (pac (pe_ty (by rfl) T.b_bool PyProof.Rows.Boot.bool) pa_nil))))))), ?_⟩
    walk_at "rd"
    refine ⟨_, DV.ty dv, _, kit_int d, ?_⟩
    cases d with
    | int i => exact iteT ⟨_, DV.ty dv, _, kit_bool _, q⟩
    | bl b => exact iteT ⟨_, DV.ty dv, _, kit_bool _, q⟩
    | _ => exact iteF q
/-! at -/
/-! deed_of -/
inductive Dd where | want (h : Int) | go (h : Int) (n : Int) | leave (h : Int) | round
def Dd.dat : Dd → Dat
  | .want h => .tup [.str "want", .int h]
  | .go h n => .tup [.str "go", .int h, .int n]
  | .leave h => .tup [.str "leave", .int h]
  | .round => .tup [.str "round"]
theorem dv_int {H : Hp} {i : Int} : DV H (.int i) (.int i) := by unfold DV; rfl
theorem dv_str {H : Hp} {x : Str} : DV H (.str x) (.str x) := by unfold DV; rfl
theorem dv_tup {H : Hp} {a : Addr} {xs : List V} {l : List Dat} (h : H a = some (.tup xs)) (k : DVs H xs l) : DV H (.ref a) (.tup l) := by unfold DV; exact ⟨a, xs, rfl, h, k⟩
end
section
variable {P : Program} {w : World} {K : PySem.W.Frag} {mg : Str → Option Value} {base : Heap}
/-! a visit, as data -/
def on : Option Nat → Dat | none => .non | some k => .int k
def onV : Option Nat → V | none => .non | some k => .int k
theorem dvs_cc {H : Hp} {x : V} {xs : List V} {d : Dat} {l : List Dat} : DVs H (x :: xs) (d :: l) = (DV H x d ∧ DVs H xs l) := by rw [DVs]
theorem dvs_cons_iff {H : Hp} {xs : List V} {d : Dat} {l : List Dat} : DVs H xs (d :: l) ↔ ∃ x r, xs = x :: r ∧ DV H x d ∧ DVs H r l := by
  cases xs with
  | nil => unfold DVs; exact ⟨fun h => h.elim, fun ⟨_, _, h, _⟩ => nomatch h⟩
  | cons x r =>
    rw [dvs_cc]
    exact ⟨fun h => ⟨x, r, rfl, h⟩, fun ⟨_, _, h, k⟩ => by cases h; exact k⟩
theorem dvs_nil_iff {H : Hp} {xs : List V} : DVs H xs [] ↔ xs = [] := by
  cases xs with
  | nil => unfold DVs; simp
  | cons x r => unfold DVs; simp
/-! whole_or_none -/
/-! is_visit, of a visit -/
/-! is_seen, of what is seen of a hand -/
end
section
variable {P : Program} {w : World} {K : PySem.W.Frag} {mg : Str → Option Value} {base : Heap}
abbrev Seen := Bool × Nat × Str
/-- all_after's promise: r what it answers -/
def Dd.ok : Dd → Prop
  | .go _ k => 0 ≤ k ∧ k ≤ 900 | _ => True
structure AAok (AA : Int → List Dd → List Rm.Visit × List Seen) : Prop where
  hand : ∀ n ds, ∀ u ∈ (AA n ds).1, (u.hand : Int) < n
  many : ∀ n ds, 0 < n → ((AA n ds).2.length : Int) = n
theorem dv_same_lst {H : Hp} {x : V} {l : List Dat} (h : DV H x (.lst l)) : ∃ a xs, x = .ref a ∧ H a = some (.lst xs) ∧ DVs H xs l := by rwa [DV] at h
end
local macro_rules | `(tactic| walk_at "rd") => `(tactic| try simp only [tSeq, tAsg, tSetLC, tRet, tRetN, tDrop, tIfS, tNext, tTest, tOp, tUn, rI, rI0, rU, tVar, tC, tCons, tNil, tTup, tLst, tTupN, tLstN, tBM, tCB, tCall, tMeth, tMake, tFld, sFld, sFldN, tMakeN, gName, tAndV, tOrV, tNotV, tAnd, tOr, tNot, tIf, tB, rEq, rNe, L2.start, List.map_cons, List.map_nil, List.length_cons, List.length_nil, Nat.reduceAdd, Nat.reduceSub, List.replicate, List.cons_append, List.nil_append, List.append_nil,
      List.getElem?_cons_zero, List.getElem?_cons_succ, Option.some.injEq, V.int.injEq, V.bl.injEq, V.ref.injEq, V.str.injEq, exists_and_left, exists_eq_left', exists_eq_left, List.cons.injEq, cxOf_K, List.set, Int.reduceLT, true_and, and_true, decide_eq_true_eq, scal, HO.ins.injEq, HO.lst.injEq, HO.tup.injEq, and_assoc, exists_prop, List.append_nil])
local macro_rules | `(tactic| k_invariant "rd" $t) => `(tactic| try simp only [tSeq, tAsg, tSetLC, tRet, tRetN, tDrop, tIfS, tNext, tTest, tOp, tUn, rI, rI0, rU, tVar, tC, tCons, tNil, tTup, tLst, tTupN, tLstN, tBM, tCB, tCall, tMeth, tMake, tFld, sFld, sFldN, tMakeN, gName, tAndV, tOrV, tNotV, tAnd, tOr, tNot, tIf, tB, rEq, rNe, L2.start, List.map_cons, List.map_nil, List.length_cons, List.length_nil, Nat.reduceAdd, Nat.reduceSub, List.replicate, List.cons_append, List.nil_append, List.append_nil,
      List.getElem?_cons_zero, List.getElem?_cons_succ, Option.some.injEq, V.int.injEq, V.bl.injEq, V.ref.injEq, V.str.injEq, exists_and_left, exists_eq_left', exists_eq_left, List.cons.injEq, cxOf_K, List.set, Int.reduceLT, true_and, and_true, decide_eq_true_eq, scal, HO.ins.injEq, HO.lst.injEq, HO.tup.injEq, and_assoc, exists_prop, List.append_nil, $t:term])
section
variable {P : Program} {w : World} {K : PySem.W.Frag} {mg : Str → Option Value} {base : Heap}
end
local macro_rules | `(tactic| walk_at "rd") => `(tactic| try simp only [tSeq, tAsg, tSetLC, tRet, tRetN, tDrop, tIfS, tNext, tTest, tOp, tUn, rI, rI0, rU, tVar, tC, tCons, tNil, tTup, tLst, tTupN, tLstN, tBM, tCB, tCall, gName, tAndV, tOrV, tNotV, tAnd, tOr, tNot, tIf, tB, rEq, rNe, L2.start, List.map_cons, List.map_nil, List.length_cons, List.length_nil, Nat.reduceAdd, Nat.reduceSub, List.replicate, List.cons_append, List.nil_append, List.append_nil,
      List.getElem?_cons_zero, List.getElem?_cons_succ, Option.some.injEq, V.int.injEq, V.bl.injEq, V.ref.injEq, V.str.injEq, exists_and_left, exists_eq_left', exists_eq_left, List.cons.injEq, cxOf_K, List.set, Int.reduceLT, true_and, and_true, decide_eq_true_eq, scal])
section
variable {P : Program} {w : World} {K : PySem.W.Frag} {mg : Str → Option Value} {base : Heap}
theorem dv_lst {H : Hp} {a : Addr} {xs : List V} {l : List Dat} (h : H a = some (.lst xs)) (k : DVs H xs l) : DV H (.ref a) (.lst l) := by rw [DV]; exact ⟨a, xs, rfl, h, k⟩
end
def wS : Rm.W → Str
  | .out => "out" | .begins => "begins" | .looks => "looks" | .draws => "draws" | .lowers => "lowers" | .asks => "asks" | .sees => "sees" | .enters => "enters" | .within => "within"
/-- the attributes of a hand -/
def hfs (i : Nat) (oa : Addr) (h : Rm.Hand) : List (Str × V) := [("number", .int i), ("others", .ref oa), ("flag", .bl h.flag), ("ticket", .int h.ticket), ("word", .str (wS h.word)), ("place", .int h.place), ("greatest", .int h.great)]
section
variable {i : Nat} {oa : Addr} {h : Rm.Hand}
theorem lk_number : (hfs i oa h).lookup ("number" : Str) = some (.int i) := by simp only [hfs, List.lookup, beq_self_eq_true]
end
local macro_rules | `(tactic| walk_at "rd") => `(tactic| try simp only [tSeq, tAsg, tSetLC, tRet, tRetN, tDrop, tIfS, tNext, tTest, tOp, tUn, rI, rI0, rU, tVar, tC, tCons, tNil, tTup, tLst, tTupN, tLstN, tBM, tCB, tCall, tMeth, tMake, tFld, sFld, sFldN, tMakeN, gName, tAndV, tOrV, tNotV, tAnd, tOr, tNot, tIf, tB, rEq, rNe, L2.start, List.map_cons, List.map_nil, List.length_cons, List.length_nil, Nat.reduceAdd, Nat.reduceSub, List.replicate, List.cons_append, List.nil_append, List.append_nil,
      List.getElem?_cons_zero, List.getElem?_cons_succ, Option.some.injEq, V.int.injEq, V.bl.injEq, V.ref.injEq, V.str.injEq, exists_and_left, exists_eq_left', exists_eq_left, List.cons.injEq, cxOf_K, List.set, Int.reduceLT, true_and, and_true, decide_eq_true_eq, scal, HO.ins.injEq, HO.lst.injEq, HO.tup.injEq, and_assoc, exists_prop, List.append_nil])
local macro_rules | `(tactic| k_invariant "rd" $t) => `(tactic| try simp only [tSeq, tAsg, tSetLC, tRet, tRetN, tDrop, tIfS, tNext, tTest, tOp, tUn, rI, rI0, rU, tVar, tC, tCons, tNil, tTup, tLst, tTupN, tLstN, tBM, tCB, tCall, tMeth, tMake, tFld, sFld, sFldN, tMakeN, gName, tAndV, tOrV, tNotV, tAnd, tOr, tNot, tIf, tB, rEq, rNe, L2.start, List.map_cons, List.map_nil, List.length_cons, List.length_nil, Nat.reduceAdd, Nat.reduceSub, List.replicate, List.cons_append, List.nil_append, List.append_nil,
      List.getElem?_cons_zero, List.getElem?_cons_succ, Option.some.injEq, V.int.injEq, V.bl.injEq, V.ref.injEq, V.str.injEq, exists_and_left, exists_eq_left', exists_eq_left, List.cons.injEq, cxOf_K, List.set, Int.reduceLT, true_and, and_true, decide_eq_true_eq, scal, HO.ins.injEq, HO.lst.injEq, HO.tup.injEq, and_assoc, exists_prop, List.append_nil, $t:term])
structure HandC (K : PySem.W.Frag) (C : Addr) : Prop where
  cl : Cls K C
  n_number : NoAttr K C "number"
  n_others : NoAttr K C "others"
  n_flag : NoAttr K C "flag"
  n_ticket : NoAttr K C "ticket"
  n_word : NoAttr K C "word"
  n_place : NoAttr K C "place"
  n_greatest : NoAttr K C "greatest"
  m_turn_to : True
theorem HandC.all {K : PySem.W.Frag} {C : Addr} (c : HandC K C) : Cls K C ∧ NoAttr K C "number" ∧ NoAttr K C "others" ∧ NoAttr K C "flag" ∧ NoAttr K C "ticket" ∧ NoAttr K C "word" ∧ NoAttr K C "place" ∧ NoAttr K C "greatest" := ⟨c.cl, c.n_number, c.n_others, c.n_flag, c.n_ticket, c.n_word, c.n_place, c.n_greatest⟩
section
variable {P : Program} {w : World} {K : PySem.W.Frag} {mg : Str → Option Value} {base : Heap}
/-! goes_first -/
/-! the globals of the text -/
structure Con (mg : Str → Option Value) : Prop where
  g_BEGINS : ∃ t, mg "BEGINS" = some (.str "begins" t)
  g_LOOKS : ∃ t, mg "LOOKS" = some (.str "looks" t)
  g_DRAWS : ∃ t, mg "DRAWS" = some (.str "draws" t)
  g_LOWERS : ∃ t, mg "LOWERS" = some (.str "lowers" t)
  g_ASKS : ∃ t, mg "ASKS" = some (.str "asks" t)
  g_SEES : ∃ t, mg "SEES" = some (.str "sees" t)
  g_ENTERS : ∃ t, mg "ENTERS" = some (.str "enters" t)
  g_WITHIN : ∃ t, mg "WITHIN" = some (.str "within" t)
  g_OUT : ∃ t, mg "OUT" = some (.str "out" t)
/-! want_in, go_out -/
end
/-- behind: o at a, all else that was there stands -/
structure Chg (H : Hp) (a : Addr) (o : HO) (G : Hp) : Prop where
  «at» : G a = some o
  keep : ∀ c u, H c = some u → c ≠ a → G c = some u
theorem Chg.of {H G : Hp} {a : Addr} {o : HO} (p : Put H a o G) : Chg H a o G := ⟨p.at, fun c u e n => by rw [p.ne n]; exact e⟩
theorem Chg.put {H G G' : Hp} {a : Addr} {o o' : HO} (c : Chg H a o G) (p : Put G a o' G') : Chg H a o' G' := ⟨p.at, fun d u e n => by rw [p.ne n]; exact c.keep d u e n⟩
theorem Chg.same {H G G' : Hp} {a : Addr} {o : HO} (s : Same H G) (c : Chg G a o G') : Chg H a o G' := ⟨c.at, fun d u e n => c.keep d u (s d u e) n⟩
theorem Chg.then {H G G' : Hp} {a : Addr} {o : HO} (c : Chg H a o G) (s : Same G G') : Chg H a o G' := ⟨s _ _ c.at, fun d u e n => s _ _ (c.keep d u e n)⟩
theorem Chg.non {H G : Hp} {a : Addr} {o : HO} (s : Same H G) (e : H a = some o) : Chg H a o G := ⟨s _ _ e, fun d u h _ => s _ _ h⟩
section
variable {P : Program} {w : World} {K : PySem.W.Frag} {mg : Str → Option Value} {base : Heap}
/-- a step of a hand's own: n hands, h how it is, h' how it will be, v what is told -/
def spOwn (C : Addr) (g : Nat → Rm.Hand → Rm.Hand) (tell : Rm.Hand → V) : Sp := fun vs H Q _ => ∃ (a oa dx : Addr) (i n : Nat) (h : Rm.Hand) (os : List V), vs = [.ref a] ∧ H a = some (.ins C dx (hfs i oa h)) ∧ H oa = some (.lst os) ∧ os.length = n - 1 ∧
  ∀ G, Chg H a (.ins C dx (hfs i oa (g n h))) G → Q (tell h) G
/-- a step that looks at another hand's -/
def spLook (C : Addr) (g : Nat → Nat → Rm.Hand → Nat → Rm.Hand → Rm.Hand) (tell : Rm.Hand → V) : Sp := fun vs H Q _ => ∃ (a oa dx b ob dy : Addr) (i j n : Nat) (h o : Rm.Hand) (os : List V), vs = [.ref a, .ref b] ∧ a ≠ b ∧ H a = some (.ins C dx (hfs i oa h)) ∧ H oa = some (.lst os) ∧ os.length = n - 1 ∧
  H b = some (.ins C dy (hfs j ob o)) ∧ ∀ G, Chg H a (.ins C dx (hfs i oa (g n i h j o))) G → Q (tell o) G
def gBegins (n : Nat) (h : Rm.Hand) : Rm.Hand := Rm.turn n { h with flag := true } 0 .looks .draws
def gDraws (_ : Nat) (h : Rm.Hand) : Rm.Hand := { h with ticket := h.great + 1, word := .lowers }
def gLowers (n : Nat) (h : Rm.Hand) : Rm.Hand := Rm.turn n { h with flag := false } 0 .asks .enters
def gEnters (_ : Nat) (h : Rm.Hand) : Rm.Hand := { h with word := .within }
def gLooks (n i : Nat) (h : Rm.Hand) (j : Nat) (o : Rm.Hand) : Rm.Hand := Rm.turn n { h with great := max h.great o.ticket } (h.place + 1) .looks .draws
def gAsks (n i : Nat) (h : Rm.Hand) (j : Nat) (o : Rm.Hand) : Rm.Hand := if o.flag then h else { h with word := .sees }
def gSees (n i : Nat) (h : Rm.Hand) (j : Nat) (o : Rm.Hand) : Rm.Hand := if Rm.first o.ticket j h.ticket i then h else Rm.turn n h (h.place + 1) .asks .enters
end
/-- the hands of a room in a heap -/
structure AtHall (C L : Addr) (n : Nat) (ad oa dx : Nat → Addr) (s : Rm.Hands) (H : Hp) : Prop where
  lst : H L = some (.lst ((List.range n).map fun i => V.ref (ad i)))
  hand : ∀ i, i < n → H (ad i) = some (.ins C (dx i) (hfs i (oa i) (s i)))
  othr : ∀ i, i < n → H (oa i) = some (.lst ((List.range (n - 1)).map fun p => V.int (Rm.oth i p : Nat)))
section
variable {C L : Addr} {n : Nat} {ad oa dx : Nat → Addr} {s : Rm.Hands} {H G : Hp}
theorem hfs_inj {i j : Nat} {a b : Addr} {h k : Rm.Hand} (e : hfs i a h = hfs j b k) : i = j := by
  have := congrArg (List.lookup ("number" : Str)) e
  rw [lk_number, lk_number] at this
  simp only [Option.some.injEq, V.int.injEq] at this
  omega
theorem AtHall.inj (h : AtHall C L n ad oa dx s H) {i j : Nat} (hi : i < n) (hj : j < n) (e : ad i = ad j) : i = j := by
  have h1 := h.hand i hi
  rw [e, h.hand j hj] at h1
  simp only [Option.some.injEq, HO.ins.injEq] at h1
  exact (hfs_inj h1.2.2).symm
theorem AtHall.mono (h : AtHall C L n ad oa dx s H) (m : Same H G) : AtHall C L n ad oa dx s G := ⟨m _ _ h.lst, fun i hi => m _ _ (h.hand i hi), fun i hi => m _ _ (h.othr i hi)⟩
theorem AtHall.chg (h : AtHall C L n ad oa dx s H) {i : Nat} (hi : i < n) {h' : Rm.Hand} (c : Chg H (ad i) (.ins C (dx i) (hfs i (oa i) h')) G) : AtHall C L n ad oa dx (Rm.put s i h') G := by
  have ha := h.hand i hi
  refine ⟨c.keep _ _ h.lst fun e => ?_, fun j hj => ?_, fun j hj => c.keep _ _ (h.othr j hj) fun e => ?_⟩
  · rw [← e, h.lst] at ha; cases ha
  · by_cases e : j = i
    · subst e; rw [Rm.put_self]; exact c.at
    · rw [Rm.put_ne _ _ e]; exact c.keep _ _ (h.hand j hj) fun z => e (h.inj hj hi z)
  · rw [← e, h.othr j hj] at ha; cases ha
end
/-! a step -/
def isOwn : Rm.W → Bool
  | .begins | .draws | .lowers | .enters => true
  | _ => false
def isLook : Rm.W → Bool
  | .looks | .asks | .sees => true
  | _ => false
def gO : Rm.W → Nat → Rm.Hand → Rm.Hand
  | .begins => gBegins | .draws => gDraws | .lowers => gLowers | .enters => gEnters | _ => fun _ h => h
def tO : Rm.W → Rm.Hand → V
  | .draws => fun h => .int (h.great + 1 : Nat) | .enters => fun h => .int h.ticket | _ => fun _ => .non
def gL : Rm.W → Nat → Nat → Rm.Hand → Nat → Rm.Hand → Rm.Hand
  | .looks => gLooks | .asks => gAsks | .sees => gSees | _ => fun _ _ h _ _ => h
def tL : Rm.W → Rm.Hand → V
  | .asks => fun o => .int (if o.flag then 1 else 0) | _ => fun o => .int o.ticket
def oV : Option Nat → V
  | none => .non
  | some k => .int k
def stV (t : Rm.Told) : List V := [.str (wS t.1), oV t.2.1, oV t.2.2]
section
variable {P : Program} {w : World} {K : PySem.W.Frag} {mg : Str → Option Value} {base : Heap}
structure Steps (P : Program) (w : World) (K : PySem.W.Frag) (mg : Str → Option Value) (base : Heap) (C dO dL : Addr) : Prop where
  hO : mg "STEPS_OF_ITS_OWN" = some (.ref dO)
  hL : mg "STEPS_THAT_LOOK" = some (.ref dL)
  MO : DAt K w dO
  ML : DAt K w dL
  own : ∀ x, isOwn x = true → ∃ k f fd, k ≤ 2 ∧ PySem.W.nsIn K dO (wS x) = some (some (.ref f)) ∧ FnOk P w K mg base CX0 k f fd ["own"] (spOwn C (gO x) (tO x)) ∧ Binds K fd ["own"] [] ∧ PySem.W.keepIn K (.ref f) = true
  non : ∀ x, isOwn x = false → PySem.W.nsIn K dO (wS x) = some none
  look : ∀ x, isLook x = true → ∃ k f fd, k ≤ 2 ∧ PySem.W.nsIn K dL (wS x) = some (some (.ref f)) ∧ FnOk P w K mg base CX0 k f fd ["own", "other"] (spLook C (gL x) (tL x)) ∧ Binds K fd ["own", "other"] [] ∧ PySem.W.keepIn K (.ref f) = true
end
/-! the room -/
structure Ads where
  C : Addr
  R : Addr
  r : Addr
  dr : Addr
  L : Addr
  n : Nat
  ad : Nat → Addr
  oa : Nat → Addr
  dx : Nat → Addr
def rfs (L : Addr) : List (Str × V) := [("hands", .ref L)]
structure RoomC (K : PySem.W.Frag) (R : Addr) : Prop where
  cl : Cls K R
  n_hands : NoAttr K R "hands"
structure AtRoom (A : Ads) (s : Rm.Hands) (H : Hp) : Prop where
  room : H A.r = some (.ins A.R A.dr (rfs A.L))
  hall : AtHall A.C A.L A.n A.ad A.oa A.dx s H
/-- the room has come to s, all that is no hand stands -/
structure Mov (A : Ads) (s' : Rm.Hands) (H G : Hp) : Prop where
  «at» : AtRoom A s' G
  keep : ∀ c u, H c = some u → (∀ i, i < A.n → c ≠ A.ad i) → G c = some u
section
variable {A : Ads} {s s' s2 : Rm.Hands} {H G G' : Hp}
theorem AtRoom.same (h : AtRoom A s H) (m : Same H G) : AtRoom A s G := ⟨m _ _ h.room, h.hall.mono m⟩
theorem Mov.refl (h : AtRoom A s H) : Mov A s H H := ⟨h, fun _ _ e _ => e⟩
theorem Mov.same (h : Mov A s H G) (m : Same G G') : Mov A s H G' := ⟨h.at.same m, fun c u e n => m _ _ (h.keep c u e n)⟩
theorem Mov.pre (m : Same H G) (h : Mov A s G G') : Mov A s H G' := ⟨h.at, fun c u e n => h.keep c u (m _ _ e) n⟩
theorem Mov.trans (h : Mov A s H G) (h' : Mov A s' G G') : Mov A s' H G' := ⟨h'.at, fun c u e n => h'.keep c u (h.keep c u e n) n⟩
theorem AtRoom.chg (h : AtRoom A s H) {i : Nat} (hi : i < A.n) {h' : Rm.Hand} (rr : A.r ≠ A.ad i) (c : Chg H (A.ad i) (.ins A.C (A.dx i) (hfs i (A.oa i) h')) G) : Mov A (Rm.put s i h') H G :=
  ⟨⟨c.keep _ _ h.room rr, h.hall.chg hi c⟩, fun d u e n => c.keep d u e (n i hi)⟩
theorem AtRoom.ne (h : AtRoom A s H) (i : Nat) (hi : i < A.n) : A.r ≠ A.ad i := fun e => by
  have := h.hall.hand i hi
  rw [← e, h.room] at this
  simp only [Option.some.injEq, HO.ins.injEq] at this
  have := congrArg List.length this.2.2
  simp [rfs, hfs] at this
end
structure Exc (K : PySem.W.Frag) (mg : Str → Option Value) (eN eI eW eO : Addr) : Prop where
  c_NoHand : XCls K mg "NoHand" eN
  c_Within : XCls K mg "Within" eI
  c_WantsIn : XCls K mg "WantsIn" eW
  c_Out : XCls K mg "Out" eO
section
variable {P : Program} {w : World} {K : PySem.W.Frag} {mg : Str → Option Value} {base : Heap}
end
/-- each address bears the tuple of a step -/
def Tups (G : Hp) : List Addr → List Rm.Told → Prop
  | [], [] => True
  | p :: ps, t :: ts => G p = some (.tup (stV t)) ∧ Tups G ps ts
  | _, _ => False
theorem Tups.mono {G G' : Hp} (m : ∀ p x, G p = some (.tup x) → G' p = some (.tup x)) : ∀ {ps : List Addr} {ts : List Rm.Told}, Tups G ps ts → Tups G' ps ts
  | [], [], _ => trivial
  | _ :: _, _ :: _, ⟨a, b⟩ => ⟨m _ _ a, Tups.mono m b⟩
  | [], _ :: _, h => h.elim
  | _ :: _, [], h => h.elim
theorem Tups.snoc {G : Hp} {p : Addr} {t : Rm.Told} (e : G p = some (.tup (stV t))) : ∀ {ps : List Addr} {ts : List Rm.Told}, Tups G ps ts → Tups G (ps ++ [p]) (ts ++ [t])
  | [], [], _ => ⟨e, trivial⟩
  | _ :: _, _ :: _, ⟨a, b⟩ => ⟨a, Tups.snoc e b⟩
  | [], _ :: _, h => h.elim
  | _ :: _, [], h => h.elim
theorem Tups.len {G : Hp} : ∀ {ps : List Addr} {ts : List Rm.Told}, Tups G ps ts → ps.length = ts.length
  | [], [], _ => rfl
  | _ :: _, _ :: _, ⟨_, b⟩ => by simp [Tups.len b]
  | [], _ :: _, h => h.elim
  | _ :: _, [], h => h.elim
theorem Mov.put {A : Ads} {s s' : Rm.Hands} {H G G' : Hp} {l : Addr} {o : HO} (h : AtRoom A s H) (m : Mov A s' H G) (hl : H l = none) (p : Put G l o G') : Mov A s' H G' := by
  have ne : ∀ c u, H c = some u → c ≠ l := fun c u e z => by rw [z, hl] at e; cases e
  refine ⟨⟨by rw [p.ne (ne _ _ h.room)]; exact m.at.room, by rw [p.ne (ne _ _ h.hall.lst)]; exact m.at.hall.lst, fun i hi => ?_, fun i hi => ?_⟩, fun c u e n => by rw [p.ne (ne _ _ e)]; exact m.keep c u e n⟩
  · rw [p.ne (ne _ _ (h.hall.hand i hi))]; exact m.at.hall.hand i hi
  · rw [p.ne (ne _ _ (h.hall.othr i hi))]; exact m.at.hall.othr i hi
theorem step_out {n i : Nat} {s : Rm.Hands} (h : (s i).word ≠ .out) : (Rm.stepH n s i).word ≠ .out := by
  unfold Rm.stepH Rm.turn
  cases e : (s i).word <;> simp only [] <;> (try split) <;> (try simp) <;> (try split) <;> (try simp_all) <;> (try split) <;> simp
section
variable {P : Program} {w : World} {K : PySem.W.Frag} {mg : Str → Option Value} {base : Heap}
end
def Evs (G : Hp) : List Addr → List (Nat × List V) → Prop
  | [], [] => True
  | p :: ps, t :: ts => (∃ q, G p = some (.tup [.int t.1, .ref q]) ∧ G q = some (.tup t.2)) ∧ Evs G ps ts
  | _, _ => False
theorem Evs.mono {G G' : Hp} (m : ∀ p x, G p = some (.tup x) → G' p = some (.tup x)) : ∀ {ps : List Addr} {ts : List (Nat × List V)}, Evs G ps ts → Evs G' ps ts
  | [], [], _ => trivial
  | _ :: _, _ :: _, ⟨⟨q, a, c⟩, b⟩ => ⟨⟨q, m _ _ a, m _ _ c⟩, Evs.mono m b⟩
  | [], _ :: _, h => h.elim
  | _ :: _, [], h => h.elim
theorem Evs.snoc {G : Hp} {p q : Addr} {t : Nat × List V} (e : G p = some (.tup [.int t.1, .ref q])) (e' : G q = some (.tup t.2)) : ∀ {ps : List Addr} {ts : List (Nat × List V)}, Evs G ps ts → Evs G (ps ++ [p]) (ts ++ [t])
  | [], [], _ => ⟨⟨q, e, e'⟩, trivial⟩
  | _ :: _, _ :: _, ⟨a, b⟩ => ⟨a, Evs.snoc e e' b⟩
  | [], _ :: _, h => h.elim
  | _ :: _, [], h => h.elim
theorem Evs.len {G : Hp} : ∀ {ps : List Addr} {ts : List (Nat × List V)}, Evs G ps ts → ps.length = ts.length
  | [], [], _ => rfl
  | _ :: _, _ :: _, ⟨_, b⟩ => by simp [Evs.len b]
  | [], _ :: _, h => h.elim
  | _ :: _, [], h => h.elim
section
variable {P : Program} {w : World} {K : PySem.W.Frag} {mg : Str → Option Value} {base : Heap}
end
section
variable {P : Program} {w : World} {K : PySem.W.Frag} {mg : Str → Option Value} {base : Heap}
end
section
variable {P : Program} {w : World} {K : PySem.W.Frag} {mg : Str → Option Value} {base : Heap}
end
/-! what the program is to answer -/
def Dd.deed : Dd → Rm.Deed
  | .want h => .want h | .go h k => .go h k.toNat | .leave h => .leave h | .round => .round
section
variable {P : Program} {w : World} {K : PySem.W.Frag} {mg : Str → Option Value} {base : Heap}
end
section
variable {P : Program} {w : World} {K : PySem.W.Frag} {mg : Str → Option Value} {base : Heap}
end
/-! what all laws of stories begin with -/
/-! the program's answers -/
def AA (n : Int) (ds : List Dd) : List Rm.Visit × List Seen :=
  ((List.range (Rm.run n.toNat (ds.map Dd.deed)).1.m).map (Rm.run n.toNat (ds.map Dd.deed)).1.vis, (List.range n.toNat).map fun i => (((Rm.run n.toNat (ds.map Dd.deed)).1.hands i).flag, ((Rm.run n.toNat (ds.map Dd.deed)).1.hands i).ticket, wS ((Rm.run n.toNat (ds.map Dd.deed)).1.hands i).word))
section
variable {P : Program} {w : World} {K : PySem.W.Frag} {mg : Str → Option Value} {base : Heap}
def spLaw (K : PySem.W.Frag) : Sp := fun vs H Q _ => ∃ (a : Addr) (ns : List Int), vs = [.ref a] ∧ SqL K H a (ns.map V.int) ∧ ∀ G, Same H G → Q (.bl true) G
end
local macro_rules | `(tactic| walk_at "rd") => `(tactic| try simp only [tSeq, tAsg, tSetLC, tRet, tRetN, tDrop, tIfS, tNext, tTest, tOp, tUn, rI, rI0, rU, tVar, tC, tCons, tNil, tTup, tLst, tTupN, tLstN, tBM, tCB, tCall, tMeth, tMake, tFld, sFld, sFldN, tMakeN, gName, tAndV, tOrV, tNotV, tAnd, tOr, tNot, tIf, tB, rEq, rNe, L2.start, List.map_cons, List.map_nil, List.length_cons, List.length_nil, Nat.reduceAdd, Nat.reduceSub, List.replicate, List.cons_append, List.nil_append, List.append_nil,
      List.getElem?_cons_zero, List.getElem?_cons_succ, Option.some.injEq, V.int.injEq, V.bl.injEq, V.ref.injEq, V.str.injEq, exists_and_left, exists_eq_left', exists_eq_left, List.cons.injEq, cxOf_K, List.set, Int.reduceLT, true_and, and_true, decide_eq_true_eq, scal, HO.ins.injEq, HO.lst.injEq, HO.tup.injEq, and_assoc, exists_prop, List.append_nil, tDGet, sDPutN])
local macro_rules | `(tactic| k_invariant "rd" $t) => `(tactic| try simp only [tSeq, tAsg, tSetLC, tRet, tRetN, tDrop, tIfS, tNext, tTest, tOp, tUn, rI, rI0, rU, tVar, tC, tCons, tNil, tTup, tLst, tTupN, tLstN, tBM, tCB, tCall, tMeth, tMake, tFld, sFld, sFldN, tMakeN, gName, tAndV, tOrV, tNotV, tAnd, tOr, tNot, tIf, tB, rEq, rNe, L2.start, List.map_cons, List.map_nil, List.length_cons, List.length_nil, Nat.reduceAdd, Nat.reduceSub, List.replicate, List.cons_append, List.nil_append, List.append_nil,
      List.getElem?_cons_zero, List.getElem?_cons_succ, Option.some.injEq, V.int.injEq, V.bl.injEq, V.ref.injEq, V.str.injEq, exists_and_left, exists_eq_left', exists_eq_left, List.cons.injEq, cxOf_K, List.set, Int.reduceLT, true_and, and_true, decide_eq_true_eq, scal, HO.ins.injEq, HO.lst.injEq, HO.tup.injEq, and_assoc, exists_prop, List.append_nil, $t:term, tDGet, sDPutN])
open Tx
/-! lines.py: its checks -/
def v6V (v : V6) : List V := v.map onV
theorem v6_six {v : V6} (h : v.length = 6) : ∃ a b c d e f, v = [a, b, c, d, e, f] := by
  match v, h with
  | [a, b, c, d, e, f], _ => exact ⟨a, b, c, d, e, f, rfl⟩
structure Cst (mg : Str → Option Value) : Prop where
  g_HAND : ∃ t, mg "HAND" = some (.int 0 t)
  g_WANTED : ∃ t, mg "WANTED" = some (.int 1 t)
  g_LOWERED : ∃ t, mg "LOWERED" = some (.int 2 t)
  g_TICKET : ∃ t, mg "TICKET" = some (.int 3 t)
  g_ENTERED : ∃ t, mg "ENTERED" = some (.int 4 t)
  g_LEFT : ∃ t, mg "LEFT" = some (.int 5 t)
  g_FIGURES : ∃ t, mg "FIGURES" = some (.str "0123456789" t)
section
variable {P : Program} {w : World} {K : PySem.W.Frag} {mg : Str → Option Value} {base : Heap}
abbrev sChkL : Stmt := top 22
def spChkL (eL : Addr) : Sp := fun vs H Q E => ∃ (l : Addr) (v : V6), vs = [.ref l] ∧ H l = some (.lst (v6V v)) ∧ v.length = 6 ∧ (at_ v 2).isSome = true ∧ (at_ v 1).isSome = true ∧ (chkL v = true → Q .non H) ∧ (chkL v = false → E (.ref eL) none H)
theorem scChkL : FnScope ["visit"] ["visit"] (defScope sChkL) := ⟨rfl, rfl, rfl, by decide +kernel, rfl, by decide +kernel, by decide +kernel⟩
theorem ok_chkL {f eL : Addr} {fd : FuncData} (F : Fun K "check_lowered" "check_lowered" sChkL f fd) (T : Cst mg) (cL : XCls K mg "NoLine" eL) : FnOk P w K mg base (CXE P w) 1 f fd ["visit"] (spChkL eL) := by
  refine F.okX scChkL (fun vs H Q E h => ?_) (fun cdv A outer s H vs Q E hr h => ?_)
  · obtain ⟨l, v, rfl, _⟩ := h
    rfl
  · obtain ⟨l, v, rfl, hl, h6, h2, h1, q, e⟩ := h
    obtain ⟨a0, a1, a2, a3, a4, a5, rfl⟩ := v6_six h6
    refine ⟨_, (pss_cons (ps_if (pt_cmpR op_isN (pe_ix ix_seq (pv 0) (pe_gi (by rfl) T.g_TICKET) (by exact fun _ _ => rfl)) pe_non (nomark _)) (pss_one (ps_raise xok_fn rfl (by rfl) cL (pac pe_str pa_nil))) pss_nil)
      (pss_one (ps_if (pt_cmpR op_le (pe_ix ix_seq (pv 0) (pe_gi (by rfl) T.g_LOWERED) (by exact fun _ _ => rfl)) (pe_ix ix_seq (pv 0) (pe_gi (by rfl) T.g_WANTED) (by exact fun _ _ => rfl)) (nomark _)) (pss_one (ps_raise xok_fn rfl (by rfl) cL (pac pe_str pa_nil))) pss_nil))), ?_⟩
    walk_at "rd"
    simp only [at_, List.getElem?_cons_zero, List.getElem?_cons_succ, Option.join_some] at h1 h2
    obtain ⟨y1, rfl⟩ := Option.isSome_iff_exists.mp h1
    obtain ⟨y2, rfl⟩ := Option.isSome_iff_exists.mp h2
    refine rix_l hl (show _ = some (onV a3) from rfl) ?_
    cases a3 with
    | none =>
      rw [if_pos (show onV none = V.non from rfl)]
      exact ⟨by decide, e (by simp [chkL, at_])⟩
    | some y3 =>
      rw [if_neg (by simp [onV])]
      refine rix_l hl (show _ = some (.int y2) from rfl) (rix_l hl (show _ = some (.int y1) from rfl) ?_)
      walk_at "rd"
      by_cases z : y1 < y2
      · rw [if_neg (by omega)]
        exact q (by simp [chkL, at_, z])
      · rw [if_pos (by omega)]
        exact ⟨by decide, e (by simp [chkL, at_, z])⟩
abbrev sChkE : Stmt := top 23
def spChkE (eL : Addr) : Sp := fun vs H Q E => ∃ (l : Addr) (v : V6), vs = [.ref l] ∧ H l = some (.lst (v6V v)) ∧ v.length = 6 ∧ (at_ v 4).isSome = true ∧ (chkE v = true → Q .non H) ∧ (chkE v = false → E (.ref eL) none H)
theorem scChkE : FnScope ["visit"] ["visit"] (defScope sChkE) := ⟨rfl, rfl, rfl, by decide +kernel, rfl, by decide +kernel, by decide +kernel⟩
theorem ok_chkE {f eL : Addr} {fd : FuncData} (F : Fun K "check_entered" "check_entered" sChkE f fd) (T : Cst mg) (cL : XCls K mg "NoLine" eL) : FnOk P w K mg base (CXE P w) 1 f fd ["visit"] (spChkE eL) := by
  refine F.okX scChkE (fun vs H Q E h => ?_) (fun cdv A outer s H vs Q E hr h => ?_)
  · obtain ⟨l, v, rfl, _⟩ := h
    rfl
  · obtain ⟨l, v, rfl, hl, h6, h4, q, e⟩ := h
    obtain ⟨a0, a1, a2, a3, a4, a5, rfl⟩ := v6_six h6
    refine ⟨_, (pss_cons (ps_if (pt_cmpR op_isN (pe_ix ix_seq (pv 0) (pe_gi (by rfl) T.g_LOWERED) (by exact fun _ _ => rfl)) pe_non (nomark _)) (pss_one (ps_raise xok_fn rfl (by rfl) cL (pac pe_str pa_nil))) pss_nil)
      (pss_one (ps_if (pt_cmpR op_lt (pe_ix ix_seq (pv 0) (pe_gi (by rfl) T.g_ENTERED) (by exact fun _ _ => rfl)) (pe_ix ix_seq (pv 0) (pe_gi (by rfl) T.g_LOWERED) (by exact fun _ _ => rfl)) (nomark _)) (pss_one (ps_raise xok_fn rfl (by rfl) cL (pac pe_str pa_nil))) pss_nil))), ?_⟩
    walk_at "rd"
    simp only [at_, List.getElem?_cons_zero, List.getElem?_cons_succ, Option.join_some] at h4
    obtain ⟨y4, rfl⟩ := Option.isSome_iff_exists.mp h4
    refine rix_l hl (show _ = some (onV a2) from rfl) ?_
    cases a2 with
    | none =>
      rw [if_pos (show onV none = V.non from rfl)]
      exact ⟨by decide, e (by simp [chkE, at_])⟩
    | some y2 =>
      rw [if_neg (by simp [onV])]
      refine rix_l hl (show _ = some (.int y4) from rfl) (rix_l hl (show _ = some (.int y2) from rfl) ?_)
      walk_at "rd"
      by_cases z : y2 ≤ y4
      · rw [if_neg (by omega)]
        exact q (by simp [chkE, at_, z])
      · rw [if_pos (by omega)]
        exact ⟨by decide, e (by simp [chkE, at_, z])⟩
abbrev sChkX : Stmt := top 24
def spChkX (eL : Addr) : Sp := fun vs H Q E => ∃ (l : Addr) (v : V6), vs = [.ref l] ∧ H l = some (.lst (v6V v)) ∧ v.length = 6 ∧ (at_ v 5).isSome = true ∧ ∀ G, Same H G → (chkX v = true → Q .non G) ∧ (chkX v = false → E (.ref eL) none G)
theorem scChkX : FnScope ["visit", "place"] ["visit"] (defScope sChkX) := ⟨rfl, rfl, rfl, by decide +kernel, rfl, by decide +kernel, by decide +kernel⟩
def plX : Nat → Nat | 0 => 1 | 1 => 2 | _ => 4
theorem lx_at {v : V6} {l : Addr} {H : Hp} (h6 : v.length = 6) (i : Nat) (hi : i < 3) : atI (v6V v) (plX i : Nat) = some (onV (at_ v (plX i))) := by
  obtain ⟨a0, a1, a2, a3, a4, a5, rfl⟩ := v6_six h6
  have : i = 0 ∨ i = 1 ∨ i = 2 := by omega
  rcases this with rfl | rfl | rfl <;> rfl
theorem ok_chkX {f eL : Addr} {fd : FuncData} (F : Fun K "check_left" "check_left" sChkX f fd) (T : Cst mg) (cL : XCls K mg "NoLine" eL) : FnOk P w K mg base (CXE P w) 1 f fd ["visit"] (spChkX eL) := by
  refine F.okX scChkX (fun vs H Q E h => ?_) (fun cdv A outer s H vs Q E hr h => ?_)
  · obtain ⟨l, v, rfl, _⟩ := h
    rfl
  · obtain ⟨l, v, rfl, hl, h6, h5, q⟩ := h
    have SC := scChkX
    obtain ⟨x5, e5⟩ := Option.isSome_iff_exists.mp h5
    have l5 : atI (v6V v) 5 = some (.int x5) := by
      obtain ⟨a0, a1, a2, a3, a4, a5, rfl⟩ := v6_six h6
      have : a5 = some x5 := e5
      rw [this]
      rfl
    refine ⟨_, (pss_one (ps_for own_fn rfl (pi_tup (pe_tupN (pac (pe_gi (by rfl) T.g_WANTED) (pac (pe_gi (by rfl) T.g_LOWERED) (pac (pe_gi (by rfl) T.g_ENTERED) pa_nil))))) (pg_name (i := 1) SC.nd (by rfl) (Or.inl (by rfl))) (pss_one (ps_if (pw_and (pt_cmpR op_notN (pe_ix ix_seq (pv 0) (pv 1) (by exact fun _ _ => rfl)) pe_non (nomark _)) (pw_and1 (pt_cmpR op_le (pe_ix ix_seq (pv 0) (pe_gi (by rfl) T.g_LEFT) (by exact fun _ _ => rfl)) (pe_ix ix_seq (pv 0) (pv 1) (by exact fun _ _ => rfl)) (nomark _)))).pt (pss_one (ps_raise xok_fn rfl (by rfl) cL (pac pe_str pa_nil))) pss_nil)))), ?_⟩
    walk_at "rd"
    refine ⟨by decide, fun t G nt => ⟨t, rfl, ⟨_, .of nt.at⟩, for_tup (K := K) (a := t) (xs := [.int 1, .int 2, .int 4]) (fun i σ H2 => H2 = G ∧ ∃ x, σ = [some (.ref l), x] ∧ ∀ j, j < i → lessX v x5 (plX j) = true) ⟨rfl, none, rfl, fun j hj => absurd hj (Nat.not_lt_zero _)⟩ (fun i σ H2 _ ⟨e, _⟩ => .of (e ▸ nt.at)) ?_ ?_⟩⟩
    · rintro i y σ H2 hi ⟨rfl, x, rfl, hlt⟩
      have hi3 : i < 3 := by simpa using (List.getElem?_eq_some_iff.mp hi).1
      have hy : y = .int (plX i : Nat) := by
        have : i = 0 ∨ i = 1 ∨ i = 2 := by omega
        rcases this with rfl | rfl | rfl <;> exact (Option.some.inj hi).symm
      subst hy
      have hl2 := nt.same _ _ hl
      have la := lx_at (l := l) (H := H) h6 i hi3
      have step : lessX v x5 (plX i) = true → ∀ j, j < i + 1 → lessX v x5 (plX j) = true := fun z j hj => by
        rcases Nat.lt_succ_iff_lt_or_eq.mp hj with hj | rfl
        · exact hlt j hj
        · exact z
      have bad : lessX v x5 (plX i) = false → chkX v = false := fun z => by
        have : i = 0 ∨ i = 1 ∨ i = 2 := by omega
        unfold chkX
        rw [e5]
        rcases this with rfl | rfl | rfl
        · simp [show lessX v x5 1 = false from z]
        · simp [show lessX v x5 2 = false from z]
        · simp [show lessX v x5 4 = false from z]
      walk_at "rd"
      refine rix_l hl2 la ?_
      cases ea : at_ v (plX i) with
      | none =>
        rw [if_neg (by simp [onV]), if_neg (by simp)]
        exact ⟨rfl, step (by simp [lessX, ea])⟩
      | some y =>
        rw [ea] at la
        rw [if_pos (by simp [onV])]
        refine rix_l hl2 l5 (rix_l hl2 la ?_)
        walk_at "rd"
        refine ⟨_, rfl, ?_⟩
        by_cases z : y < x5
        · rw [if_neg (by omega)]
          exact step (by simp [lessX, ea, z])
        · rw [if_pos (by omega)]
          exact ⟨by decide, (q _ nt.same).2 (bad (by simp [lessX, ea, z]))⟩
    · rintro σ H2 ⟨rfl, x, rfl, hlt⟩
      refine (q _ nt.same).1 ?_
      unfold chkX
      rw [e5]
      simp [show lessX v x5 1 = true from hlt 0 (by decide), show lessX v x5 2 = true from hlt 1 (by decide), show lessX v x5 4 = true from hlt 2 (by decide)]
abbrev sChk : Stmt := top 21
def spChk (eL : Addr) : Sp := fun vs H Q E => ∃ (l : Addr) (v : V6), vs = [.ref l] ∧ H l = some (.lst (v6V v)) ∧ v.length = 6 ∧ ∀ G, Same H G → (chk v = true → Q .non G) ∧ (chk v = false → E (.ref eL) none G)
theorem scChk : FnScope ["visit"] ["visit"] (defScope sChk) := ⟨rfl, rfl, rfl, by decide +kernel, rfl, by decide +kernel, by decide +kernel⟩
theorem ok_chk {f eL : Addr} {fd : FuncData} (F : Fun K "check" "check" sChk f fd) (T : Cst mg) (cL : XCls K mg "NoLine" eL) (c_check_lowered : FnBy P w K mg base (CXE P w) 1 "check_lowered" ["visit"] (spChkL eL)) (c_check_entered : FnBy P w K mg base (CXE P w) 1 "check_entered" ["visit"] (spChkE eL))
    (c_check_left : FnBy P w K mg base (CXE P w) 1 "check_left" ["visit"] (spChkX eL)) : FnOk P w K mg base (CXE P w) 2 f fd ["visit"] (spChk eL) := by
  refine F.okX scChk (fun vs H Q E h => ?_) (fun cdv A outer s H vs Q E hr h => ?_)
  · obtain ⟨l, v, rfl, _⟩ := h
    rfl
  · obtain ⟨l, v, rfl, hl, h6, q⟩ := h
    refine ⟨_, (pss_cons (ps_if (pt_cmpR op_isN (pe_ix ix_seq (pv 0) (pe_gi (by rfl) T.g_WANTED) (by exact fun _ _ => rfl)) pe_non (nomark _)) (pss_one (ps_raise xok_fn rfl (by rfl) cL (pac pe_str pa_nil))) pss_nil)
      (pss_cons (ps_if (pt_cmpR op_eq (pe_ix ix_seq (pv 0) (pe_gi (by rfl) T.g_TICKET) (by exact fun _ _ => rfl)) pe_int (nomark _)) (pss_one (ps_raise xok_fn rfl (by rfl) cL (pac pe_str pa_nil))) pss_nil)
      (pss_cons (ps_if (pt_cmpR op_notN (pe_ix ix_seq (pv 0) (pe_gi (by rfl) T.g_LOWERED) (by exact fun _ _ => rfl)) pe_non (nomark _)) (pss_one (ps_expr (pe_fnX c_check_lowered (hr.mono (by decide)) (by rfl) xok_fn.pass (pac (pv 0) pa_nil)))) pss_nil)
      (pss_cons (ps_if (pt_cmpR op_notN (pe_ix ix_seq (pv 0) (pe_gi (by rfl) T.g_ENTERED) (by exact fun _ _ => rfl)) pe_non (nomark _)) (pss_one (ps_expr (pe_fnX c_check_entered (hr.mono (by decide)) (by rfl) xok_fn.pass (pac (pv 0) pa_nil)))) pss_nil)
      (pss_one (ps_if (pt_cmpR op_notN (pe_ix ix_seq (pv 0) (pe_gi (by rfl) T.g_LEFT) (by exact fun _ _ => rfl)) pe_non (nomark _)) (pss_one (ps_expr (pe_fnX c_check_left (hr.mono (by decide)) (by rfl) xok_fn.pass (pac (pv 0) pa_nil)))) pss_nil)))))), ?_⟩
    have h6' := h6
    obtain ⟨a0, a1, a2, a3, a4, a5, rfl⟩ := v6_six h6
    have s0 := Same.refl H
    have b1 : at_ [a0, a1, a2, a3, a4, a5] 1 = a1 := by simp [at_]
    have b2 : at_ [a0, a1, a2, a3, a4, a5] 2 = a2 := by simp [at_]
    have b3 : at_ [a0, a1, a2, a3, a4, a5] 3 = a3 := by simp [at_]
    have b4 : at_ [a0, a1, a2, a3, a4, a5] 4 = a4 := by simp [at_]
    have b5 : at_ [a0, a1, a2, a3, a4, a5] 5 = a5 := by simp [at_]
    have ch : chk [a0, a1, a2, a3, a4, a5] = (a1.isSome && decide (a3 ≠ some 0) && (a2.isNone || chkL [a0, a1, a2, a3, a4, a5]) && (a4.isNone || chkE [a0, a1, a2, a3, a4, a5]) && (a5.isNone || chkX [a0, a1, a2, a3, a4, a5])) := by
      unfold chk
      rw [b1, b2, b3, b4, b5]
    rw [ch] at q
    generalize hv : [a0, a1, a2, a3, a4, a5] = v at hl h6' b1 b2 b3 b4 b5 q
    have g1 : atI (v6V v) 1 = some (onV a1) := by rw [← hv]; rfl
    have g2 : atI (v6V v) 2 = some (onV a2) := by rw [← hv]; rfl
    have g3 : atI (v6V v) 3 = some (onV a3) := by rw [← hv]; rfl
    have g4 : atI (v6V v) 4 = some (onV a4) := by rw [← hv]; rfl
    have g5 : atI (v6V v) 5 = some (onV a5) := by rw [← hv]; rfl
    clear hv ch
    walk_at "rd"
    refine rix_l hl g1 ?_
    cases a1 with
    | none =>
      rw [if_pos (show onV none = V.non from rfl)]
      exact ⟨by decide, (q H s0).2 (by simp)⟩
    | some y1 =>
      rw [if_neg (by simp [onV])]
      refine rix_l hl g3 ?_
      have tick : a3 = some 0 ∨ a3 ≠ some 0 := Classical.em _
      walk_at "rd"
      refine ⟨?_, ?_⟩
      · cases a3 <;> rfl
      rcases tick with rfl | tick
      · rw [if_pos (show onV (some 0) = V.int 0 from rfl)]
        exact ⟨by decide, (q H s0).2 (by simp)⟩
      · rw [if_neg (by cases a3 <;> simp [onV] at tick ⊢; omega)]
        have q : ∀ G, Same H G → _ := q
        simp only [Option.isSome_some, Bool.true_and, decide_eq_true tick] at q
        have last : ((a2.isNone || chkL v) = true) → ((a4.isNone || chkE v) = true) → rIx K (V.ref l) (V.int 5) H fun x H1 => if (!decide (x = V.non)) = true then tCallX (spChkX eL) [] (fun c x H' => E c none H') (tCons (tVar 0) tNil) [some (V.ref l)] H1 fun x H1 => Q V.non H1 else Q V.non H1 := by
          intro z2 z4
          refine rix_l hl g5 ?_
          cases a5 with
          | none =>
            rw [if_neg (by simp [onV])]
            exact (q H s0).1 (by rw [z2, z4]; rfl)
          | some y5 =>
            rw [if_pos (by simp [onV])]
            refine ⟨_, rfl, l, v, rfl, hl, h6', by rw [b5]; rfl, fun G sG => ⟨fun z => (q G sG).1 (by rw [z2, z4, z]; rfl), fun z => (q G sG).2 (by rw [z]; simp)⟩⟩
        have mid : ((a2.isNone || chkL v) = true) → rIx K (V.ref l) (V.int 4) H fun x H1 => if (!decide (x = V.non)) = true then tCallX (spChkE eL) [] (fun c x H' => E c none H') (tCons (tVar 0) tNil) [some (V.ref l)] H1 fun x H1 => rIx K (V.ref l) (V.int 5) H1 fun x H1 => if (!decide (x = V.non)) = true then tCallX (spChkX eL) [] (fun c x H' => E c none H') (tCons (tVar 0) tNil) [some (V.ref l)] H1 fun x H1 => Q V.non H1 else Q V.non H1 else rIx K (V.ref l) (V.int 5) H1 fun x H1 => if (!decide (x = V.non)) = true then tCallX (spChkX eL) [] (fun c x H' => E c none H') (tCons (tVar 0) tNil) [some (V.ref l)] H1 fun x H1 => Q V.non H1 else Q V.non H1 := by
          intro z2
          refine rix_l hl g4 ?_
          cases a4 with
          | none =>
            rw [if_neg (by simp [onV])]
            exact last z2 rfl
          | some y4 =>
            rw [if_pos (by simp [onV])]
            exact ⟨_, rfl, l, v, rfl, hl, h6', by rw [b4]; rfl, fun z => last z2 (by rw [z]; rfl), fun z => (q H s0).2 (by rw [z]; simp)⟩
        refine rix_l hl g2 ?_
        cases a2 with
        | none =>
          rw [if_neg (by simp [onV])]
          exact mid rfl
        | some y2 =>
          rw [if_pos (by simp [onV])]
          exact ⟨_, rfl, l, v, rfl, hl, h6', by rw [b2]; rfl, by rw [b1]; rfl, fun z => mid (by rw [z]; rfl), fun z => (q H s0).2 (by rw [z]; simp)⟩
end
open Tx
/-! lines.py: numbers, parts -/
theorem pe_gsL {X : Cx} {x y : Str} {pos : Pos} (hg : Gl X x) (h : ∃ t, X.mg x = some (.str y t)) (hd : (x == ("__debug__" : Str)) = false := by decide) : PE X (.Name x pos) (tC (.str y)) := by
  obtain ⟨t, e⟩ := h
  exact pe_glob hg e ⟨t, rfl⟩ hd
def isD (c : Nat) : Bool := decide (48 ≤ c) && decide (c ≤ 57)
theorem fig_in (c : Nat) : (!(Builtin.Str.occurrences (Str.ofString "0123456789") ⟨#[c]⟩ 0 (Str.ofString "0123456789").length 1).isEmpty) = isD c := by
  rw [StrLaws.found_one]
  have e : (Str.ofString "0123456789").cps.toList = [48, 49, 50, 51, 52, 53, 54, 55, 56, 57] := by decide +kernel
  rw [e, Bool.eq_iff_iff]
  simp only [isD, decide_eq_true_eq, Bool.and_eq_true, List.mem_cons, List.not_mem_nil, or_false]
  omega
theorem isDg_all (x : Str) : isDg x = (x.cps.toList.map isD).all id := by
  unfold isDg isD
  rw [List.all_map]
  rfl
theorem numOf_int {x : Str} {n : Nat} (h : numOf x = some n) (hl : x.length ≤ 600) : PySem.intText? x = some (n : Int) := by
  unfold numOf at h
  split at h
  · cases h
  · rename_i z
    split at h
    · cases h
    · cases h
      rw [not_or] at z
      refine PySem.intText_digits (fun c hc => ?_) (fun e => z.1 ?_) (by omega)
      · have := z.2
        rw [Bool.not_eq_false, isDg, List.all_eq_true] at this
        simpa using this c hc
      · obtain ⟨⟨l⟩⟩ := x
        have e : l = [] := e
        rw [e]
theorem big_size {n : Nat} (h : n ≤ 1000000) : n ≤ sizeLine := by
  have : sizeLine = 16777216 := sizeLine_eq
  omega
theorem atI_zero' {α : Type} {x : α} {xs : List α} : L2.atI (x :: xs) 0 = some x := by unfold L2.atI L2.ixN; simp
section
variable {P : Program} {w : World} {K : PySem.W.Frag} {mg : Str → Option Value} {base : Heap}
abbrev sNum : Stmt := top 18
def NumQ (eL : Addr) (x : Str) (H : Hp) (Q : VK) (E : XK) : Prop := ∀ G, Same H G → (∀ n, numOf x = some n → Q (.int n) G) ∧ (numOf x = none → E (.ref eL) none G)
def spNum (eL : Addr) : Sp := fun vs H Q E => ∃ x : Str, vs = [.str x] ∧ (∀ c ∈ x.cps.toList, c < 128) ∧ x.length ≤ 600 ∧ NumQ eL x H Q E
theorem scNum : FnScope ["text"] ["text"] (defScope sNum) := ⟨rfl, rfl, rfl, by decide +kernel, rfl, by decide +kernel, by decide +kernel⟩
theorem ok_num {f eL : Addr} {fd : FuncData} (F : Fun K "number_of" "number_of" sNum f fd) (T : Cst mg) (B : Blt mg) (b_all : mg "all" = none) (cL : XCls K mg "NoLine" eL) : FnOk P w K mg base (CXE P w) 1 f fd ["text"] (spNum eL) := by
  refine F.okX scNum (fun vs H Q E h => ?_) (fun cdv A outer s H vs Q E hr h => ?_)
  · obtain ⟨x, rfl, _⟩ := h
    rfl
  · obtain ⟨x, rfl, ha, hl, q⟩ := h
    have SC := scNum
    refine ⟨_, (pss_cutE (ps_if (pw_or (pt_cmpR op_eq (pv 0) pe_str (nomark _)) (pw_or1 (pt_not (pt_val (pe_callB (call_allB rfl) (by rfl) b_all PyProof.Rows.Boot.all (pac (pe_lc (N' := ["sign"]) (ix := [none]) (by exact comp_sc rfl (by rfl) (by rfl)) rfl (pi_str (pv 0)) (fun _ _ _ _ _ => (pg_comp (i := 0) (by decide +kernel) (by rfl) (by rfl))) (fun _ _ _ _ _ => pts_nil) (fun _ _ _ _ _ => (pe_cmpR op_in_str (pv 0) (pe_gsL (by rfl) T.g_FIGURES) (by rfl)))) pa_nil)))))).pt (pss_one (ps_raise xok_fn rfl (by rfl) cL (pac pe_str pa_nil))) pss_nil)
      (pss_cons (ps_if (pw_and (pt_cmpR op_eq (pe_ix ix_str (pv 0) pe_int (by exact fun _ _ => rfl)) pe_str (nomark _)) (pw_and1 (pt_cmpR op_ne (pv 0) pe_str (nomark _)))).pt (pss_one (ps_raise xok_fn rfl (by rfl) cL (pac pe_str pa_nil))) pss_nil)
      (pss_one (ps_ret (pe_callTy call_intS (by rfl) B.b_int PyProof.Rows.Boot.int (pac (pv 0) pa_nil)))))), ?_⟩
    walk_at "rd"
    have em : (Str.ofString "") = (⟨#[]⟩ : Str) := by decide +kernel
    have e0 : (Str.ofString "0") = (⟨#[48]⟩ : Str) := by decide +kernel
    refine ⟨fun σ G => σ = [some (.str x)] ∧ Same H G ∧ x ≠ ⟨#[]⟩ ∧ isDg x = true, ?_, ?_⟩
    · walk_at "rd"
      by_cases z : x = ⟨#[]⟩
      · rw [em, if_pos z, if_pos trivial]
        exact ⟨by decide, (q H (Same.refl H)).2 (by unfold numOf; rw [if_pos (.inl z)])⟩
      · rw [em, if_neg z]
        refine rlc_str (fun R R' hR ⟨v, e, h⟩ => ⟨v, e, hR _ _ h⟩) ⟨_, rfl, x, rfl, Array.all_eq_true'.mpr fun c hc => by simpa using ha c (Array.mem_toList_iff.mpr hc), fun acc hacc => ⟨fun i σ G => ∃ y, σ = [y] ∧ Same H G ∧ G acc = some (.lst (((x.cps.toList.map isD).take i).map V.bl)), ⟨none, rfl, (Same.refl H).new hacc, upd_same⟩, ?_, ?_⟩⟩
        · rintro i σ G hi ⟨y, rfl, sG, eG⟩
          walk_at "rd"
          have hi' : i < (x.cps.toList.map isD).length := by simpa using hi
          refine ⟨_, eG, lt_size (by simp [Str.length] at hl ⊢; omega), sG.put hacc, ?_⟩
          rw [upd_same, List.take_succ_eq_append_getElem hi', List.map_append, fig_in]
          simp [Array.getD, hi]
        · rintro σ G ⟨y, rfl, sG, eG⟩
          rw [List.take_of_length_le (by simp)] at eG
          refine ⟨acc, rfl, _, eG, ?_⟩
          rw [← isDg_all]
          cases hd : isDg x with
          | true =>
            rw [if_neg (by simp)]
            exact ⟨sG, z, rfl⟩
          | false =>
            rw [if_pos (by simp)]
            exact ⟨by decide, (q G sG).2 (by unfold numOf; rw [if_pos (.inr hd)])⟩
    · rintro σ G ⟨rfl, sG, hne, hd⟩
      have n0 : ¬ (x = ⟨#[]⟩ ∨ isDg x = false) := by rw [hd]; simp [hne]
      have fin : ¬ (x.cps.toList.head? = some 48 ∧ x ≠ ⟨#[48]⟩) → ∃ n : Int, PySem.intText? x = some n ∧ x.length ≤ 640 ∧ Q (.int n) G := fun z => by
        have e : numOf x = some (PySem.NumText.digitsVal x.cps.toList) := by unfold numOf; rw [if_neg n0, if_neg z]
        exact ⟨_, numOf_int e hl, by omega, (q G sG).1 _ e⟩
      have hx : ∃ c r, x.cps.toList = c :: r := by
        cases e : x.cps.toList with
        | nil =>
          obtain ⟨⟨l⟩⟩ := x
          have e : l = [] := e
          exact absurd (by rw [e]) hne
        | cons c r => exact ⟨c, r, rfl⟩
      obtain ⟨c, r, ex⟩ := hx
      rw [ex] at fin
      walk_at "rd"
      refine ⟨x, 0, c, rfl, rfl, Nat.le_of_lt (lt_size (by omega)), by rw [ex]; exact atI_zero', rfl, ?_⟩
      by_cases z1 : c = 48
      · rw [if_pos (by rw [z1, e0])]
        by_cases z2 : x = ⟨#[48]⟩
        · rw [if_neg (by rw [e0]; simp [z2])]
          exact fin fun z => z.2 z2
        · rw [if_pos (by rw [e0]; simp [z2])]
          exact ⟨by decide, (q G sG).2 (by unfold numOf; rw [if_neg n0, if_pos ⟨by rw [ex, z1]; rfl, z2⟩])⟩
      · rw [if_neg (by rw [e0]; simpa using z1), if_neg (by simp)]
        exact fin fun z => z1 (by simpa using z.1)
/-! parts_of -/
theorem sp_eq : (Str.ofString " ") = sp := by decide +kernel
theorem sum_le (ps : List Str) (h : ∀ x ∈ ps, x.length ≤ 100) : (ps.map (·.length)).sum ≤ ps.length * 100 := by
  induction ps with
  | nil => exact Nat.le_refl _
  | cons x r ih =>
    have h1 := h x List.mem_cons_self
    have h2 := ih fun y hy => h y (List.mem_cons_of_mem _ hy)
    simp only [List.map_cons, List.sum_cons, List.length_cons, Nat.succ_mul]
    omega
theorem line_len {ps : List Str} (h : PsOk ps) : (line ps).length ≤ 2020 := by
  have h1 := StrLaws.join_length_le sp ps
  have h2 := sum_le ps fun x hx => (h.ok x hx).2
  have h3 : sp.length = 1 := rfl
  have := h.few
  rw [h3] at h1
  show (Str.join sp ps).length ≤ 2020
  omega
abbrev sParts : Stmt := top 19
def spParts (eL : Addr) : Sp := fun vs H Q E => ∃ ps, vs = [.str (line ps)] ∧ PsOk ps ∧ (ps.length % 2 ≠ 0 → ∀ l G, New H l (.lst (ps.map V.str)) G → Q (.ref l) G) ∧ (ps.length % 2 = 0 → ∀ G, Same H G → E (.ref eL) none G)
theorem scParts : FnScope ["line", "parts"] ["line"] (defScope sParts) := ⟨rfl, rfl, rfl, by decide +kernel, rfl, by decide +kernel, by decide +kernel⟩
theorem ok_parts {f eL : Addr} {fd : FuncData} (F : Fun K "parts_of" "parts_of" sParts f fd) (B : Blt mg) (cL : XCls K mg "NoLine" eL) : FnOk P w K mg base (CXE P w) 1 f fd ["line"] (spParts eL) := by
  refine F.okX scParts (fun vs H Q E h => ?_) (fun cdv A outer s H vs Q E hr h => ?_)
  · obtain ⟨x, rfl, _⟩ := h
    rfl
  · obtain ⟨ps, rfl, hp, q, e⟩ := h
    have SC := scParts
    refine ⟨_, (pss_cons (ps_set (i := 1) SC.nd (by rfl) (Or.inl (by rfl)) (pe_bm PySem.F.plainAttrs_str PySem.F.slot_str_split PySem.F.type_str_split mt_split (pv 0) (pac pe_str pa_nil)))
      (pss_cons (ps_if (pt_cmpR op_eq (pe_op op_mod (pe_callB call_len_seq (by rfl) B.b_len PyProof.Rows.Boot.len (pac (pv 1) pa_nil)) pe_int) pe_int (nomark _)) (pss_one (ps_raise xok_fn rfl (by rfl) cL (pac pe_str pa_nil))) pss_nil)
      (pss_one (ps_ret (pv 1))))), ?_⟩
    walk_at "rd"
    have ll := line_len hp
    refine ⟨rfl, _, _, rfl, rfl, by decide +kernel, big_size (by omega), fun l G nl => ?_⟩
    rw [sp_eq, split_join hp.ne (fun x hx => (hp.ok x hx).1)] at nl
    walk_at "rd"
    refine ⟨_, .inl (.of nl.at), ?_⟩
    rw [List.length_map]
    by_cases z : ps.length % 2 = 0
    · rw [if_pos (by omega)]
      exact ⟨by decide, e z G nl.same⟩
    · rw [if_neg (by omega)]
      exact q z l G nl
end
open Tx
/-! lines.py: a visit of a line -/
theorem pgo_app (ps : List Str) : ∀ (l r : List (Str × Nat)) (st : V6 × Nat), pgo ps (l ++ r) st = match pgo ps l st with | none => none | some st' => pgo ps r st'
  | [], r, st => rfl
  | (w, p) :: l, r, st => by
    show pgo ps ((w, p) :: (l ++ r)) st = _
    rw [pgo, pgo]
    cases pstep ps w p st.1 st.2 with
    | none => rfl
    | some st' => exact pgo_app ps l r st'
theorem pgo_none {ps : List Str} {st : V6 × Nat} {i : Nat} (h : pgo ps (wds.take i) st = none) : pgo ps wds st = none := by
  have e := pgo_app ps (wds.take i) (wds.drop i) st
  rw [List.take_append_drop, h] at e
  exact e
theorem pgo_snoc {ps : List Str} {st : V6 × Nat} {i : Nat} {w : Str} {p : Nat} {v : V6} {a : Nat} (hi : wds[i]? = some (w, p)) (h : pgo ps (wds.take i) st = some (v, a)) : pgo ps (wds.take (i + 1)) st = pstep ps w p v a := by
  have hl := (List.getElem?_eq_some_iff.mp hi)
  obtain ⟨hl, hg⟩ := hl
  rw [List.take_succ_eq_append_getElem hl, hg, pgo_app, h]
  show pgo ps [(w, p)] (v, a) = _
  rw [pgo]
  cases pstep ps w p v a <;> rfl
/-- the words of a line, where they lie -/
structure WAt (K : PySem.W.Frag) (aW : Addr) (tw : Nat → Addr) : Prop where
  sq : ∀ H, SqT K H aW [.ref (tw 0), .ref (tw 1), .ref (tw 2), .ref (tw 3), .ref (tw 4)]
  pr : ∀ H i w p, wds[i]? = some (w, p) → SqT K H (tw i) [.str w, .int (p : Nat)]
structure Wds (K : PySem.W.Frag) (mg : Str → Option Value) (aW : Addr) (tw : Nat → Addr) : Prop where
  g : mg "WORDS" = some (.ref aW)
  wa : WAt K aW tw
theorem six_set {v : V6} {p : Nat} {x : Option Nat} (h : v.length = 6) : (v.set p x).length = 6 := by rw [List.length_set, h]
theorem v6_set (v : V6) (p n : Nat) : (v6V v).set p (.int (n : Nat)) = v6V (v.set p (some n)) := by
  unfold v6V
  rw [List.map_set]
  rfl
section
variable {P : Program} {w : World} {K : PySem.W.Frag} {mg : Str → Option Value} {base : Heap}
abbrev sVis : Stmt := top 20
def VisQ (eL : Addr) (ps : List Str) (H : Hp) (Q : VK) (E : XK) : Prop := ∀ G, Same H G → (∀ v l, visP ps = some v → v.length = 6 → G l = some (.tup (v6V v)) → Q (.ref l) G) ∧ (visP ps = none → E (.ref eL) none G)
def spVis (eL : Addr) : Sp := fun vs H Q E => ∃ ps, vs = [.str (line ps)] ∧ PsOk ps ∧ VisQ eL ps H Q E
theorem scVis : FnScope ["line", "parts", "visit", "at", "word", "place"] ["line"] (defScope sVis) := ⟨rfl, rfl, rfl, by decide +kernel, rfl, by decide +kernel, by decide +kernel⟩
set_option maxHeartbeats 4000000 in
theorem ok_vis {f eL aW : Addr} {tw : Nat → Addr} {fd : FuncData} (F : Fun K "visit_of" "visit_of" sVis f fd) (B : Blt mg) (W : Wds K mg aW tw) (cL : XCls K mg "NoLine" eL) (c_parts_of : FnBy P w K mg base (CXE P w) 1 "parts_of" ["line"] (spParts eL)) (c_number_of : FnBy P w K mg base (CXE P w) 1 "number_of" ["text"] (spNum eL))
    (c_check : FnBy P w K mg base (CXE P w) 2 "check" ["visit"] (spChk eL)) : FnOk P w K mg base (CXE P w) 3 f fd ["line"] (spVis eL) := by
  refine F.okX scVis (fun vs H Q E h => ?_) (fun cdv A outer s H vs Q E hr h => ?_)
  · obtain ⟨x, rfl, _⟩ := h
    rfl
  · obtain ⟨ps, rfl, hp, q⟩ := h
    have SC := scVis
    refine ⟨_, (pss_cons (ps_set (i := 1) SC.nd (by rfl) (Or.inl (by rfl)) (pe_fnX c_parts_of (hr.mono (by decide)) (by rfl) xok_fn.pass (pac (pv 0) pa_nil)))
      (pss_cons (ps_set (i := 2) SC.nd (by rfl) (Or.inl (by rfl)) (pe_lstN (pac (pe_fnX c_number_of (hr.mono (by decide)) (by rfl) xok_fn.pass (pac (pe_ix ix_seq (pv 1) pe_int (by exact fun _ _ => rfl)) pa_nil)) (pac pe_non (pac pe_non (pac pe_non (pac pe_non (pac pe_non pa_nil))))))))
      (pss_cons (ps_set (i := 3) SC.nd (by rfl) (Or.inl (by rfl)) pe_int)
      (pss_cutE (ps_for own_fn rfl (pi_tup (pe_glob (by rfl) W.g (show RelV (.ref aW) (Value.ref aW) from rfl))) (pg_tup rfl (pgs_cons (pg_name (i := 4) SC.nd (by rfl) (Or.inl (by rfl))) (pgs_cons (pg_name (i := 5) SC.nd (by rfl) (Or.inl (by rfl))) pgs_nil))) (pss_one (ps_if (pw_and (pt_cmpR op_lt (pv 3) (pe_callB call_len_seq (by rfl) B.b_len PyProof.Rows.Boot.len (pac (pv 1) pa_nil)) (nomark _)) (pw_and1 (pt_cmpR op_eq (pe_ix ix_seq (pv 1) (pv 3) (by exact fun _ _ => rfl)) (pv 4) (nomark _)))).pt (pss_cons (ps_asg (pe_fnX c_number_of (hr.mono (by decide)) (by rfl) xok_fn.pass (pac (pe_ix ix_seq (pv 1) (pe_op op_add (pv 3) pe_int) (by exact fun _ _ => rfl)) pa_nil)) (pg_sub (pv 2) (pv 5) set_listN))
      (pss_one (ps_aug (i := 3) SC.nd (by rfl) (Or.inl (by rfl)) pe_int ip_add))) pss_nil)))
      (pss_cons (ps_if (pt_cmpR op_lt (pv 3) (pe_callB call_len_seq (by rfl) B.b_len PyProof.Rows.Boot.len (pac (pv 1) pa_nil)) (nomark _)) (pss_one (ps_raise xok_fn rfl (by rfl) cL (pac pe_str pa_nil))) pss_nil)
      (pss_cons (ps_expr (pe_fnX c_check (hr.mono (by decide)) (by rfl) xok_fn.pass (pac (pv 2) pa_nil)))
      (pss_one (ps_ret (pe_callTy call_tupleN (by rfl) B.b_tuple PyProof.Rows.Boot.tuple (pac (pv 2) pa_nil)))))))))), ?_⟩
    walk_at "rd"
    refine ⟨_, rfl, ps, rfl, hp, fun odd l1 G1 n1 => ?_, fun ev G sG => (q G sG).2 (by unfold visP; rw [if_pos ev])⟩
    obtain ⟨p0, pr, ep⟩ : ∃ x r, ps = x :: r := by
      cases ps with
      | nil => exact absurd rfl hp.ne
      | cons x r => exact ⟨x, r, rfl⟩
    have g0 : ps[0]? = some p0 := by rw [ep]; rfl
    have okp : ∀ x ∈ ps, (∀ c ∈ x.cps.toList, c < 128) ∧ x.length ≤ 600 := fun x hx => ⟨fun c hc => ((hp.ok x hx).1 c hc).1, by have := (hp.ok x hx).2; omega⟩
    have gA : ∀ (i : Nat) (x : Str), ps[i]? = some x → atI (ps.map V.str) (i : Nat) = some (.str x) := fun i x e => atI_at (by rw [List.getElem?_map, e]; rfl)
    walk_at "rd"
    refine ⟨_, rfl, rix_l n1.at (gA 0 p0 g0) ⟨p0, rfl, (okp p0 (List.mem_of_getElem? g0)).1, (okp p0 (List.mem_of_getElem? g0)).2, fun G2 s2 => ⟨fun n0 en => ?_, fun en => ?_⟩⟩⟩
    · walk_at "rd"
      refine ⟨by decide, fun lv G3 n3 => ?_⟩
      have s3 : Same H G3 := n1.same.trans (s2.trans n3.same)
      have fv : H lv = none := (n1.same.trans s2).free n3.free
      have h1 := (s2.trans n3.same) _ _ n1.at
      have nev : l1 ≠ lv := fun z => by
        have := s2 _ _ n1.at
        rw [z, n3.free] at this
        cases this
      have vis : visP ps = match pgo ps wds ([some n0, none, none, none, none, none], 1) with | none => none | some (v, a) => if a < ps.length then none else if chk v then some v else none := by
        unfold visP
        rw [if_neg odd, g0]
        simp only [en]
        all_goals (cases pgo ps wds ([some n0, none, none, none, none, none], 1) <;> rfl)
      have hv3 : G3 lv = some (.lst (v6V [some n0, none, none, none, none, none])) := n3.at
      have v0l : ([some n0, none, none, none, none, none] : V6).length = 6 := rfl
      generalize [some n0, none, none, none, none, none] = v0 at vis hv3 v0l
      have l0 : v0.length = 6 := by
        have := v0l
        exact this
      refine ⟨fun σ G => ∃ v a x4 x5, σ = [some (.str (line ps)), some (.ref l1), some (.ref lv), some (.int (a : Nat)), x4, x5] ∧ pgo ps wds (v0, 1) = some (v, a) ∧ v.length = 6 ∧ Same H G ∧ G lv = some (.lst (v6V v)) ∧ G l1 = some (.lst (ps.map V.str)), ?_, ?_⟩
      · refine ⟨aW, rfl, ⟨_, W.wa.sq _⟩, for_tup (K := K) (a := aW) (xs := [.ref (tw 0), .ref (tw 1), .ref (tw 2), .ref (tw 3), .ref (tw 4)]) (fun i σ G => ∃ v a x4 x5, σ = [some (.str (line ps)), some (.ref l1), some (.ref lv), some (.int (a : Nat)), x4, x5] ∧ pgo ps (wds.take i) (v0, 1) = some (v, a) ∧ v.length = 6 ∧ a % 2 = 1 ∧ Same H G ∧ G lv = some (.lst (v6V v)) ∧ G l1 = some (.lst (ps.map V.str))) ⟨v0, 1, none, none, rfl, rfl, l0, rfl, s3, hv3, h1⟩ (fun i σ G _ _ => W.wa.sq G) ?_ ?_⟩
        · rintro i y σ G hi ⟨v, a, x4, x5, rfl, hg, l6, ao, sG, hv, h1⟩
          have hi5 : i < 5 := by simpa using (List.getElem?_eq_some_iff.mp hi).1
          have hy : y = .ref (tw i) := by
            have : i = 0 ∨ i = 1 ∨ i = 2 ∨ i = 3 ∨ i = 4 := by omega
            rcases this with rfl | rfl | rfl | rfl | rfl <;> exact (Option.some.inj hi).symm
          subst hy
          obtain ⟨⟨w', p⟩, hw⟩ : ∃ x, wds[i]? = some x := ⟨wds[i]'hi5, List.getElem?_eq_getElem _⟩
          have hp6 : p < 6 := by
            have : i = 0 ∨ i = 1 ∨ i = 2 ∨ i = 3 ∨ i = 4 := by omega
            rcases this with rfl | rfl | rfl | rfl | rfl <;> (cases hw; decide)
          have hs := pgo_snoc hw hg
          refine ⟨tw i, _, rfl, W.wa.pr _ i w' p hw, rfl, _, _, rfl, _, _, rfl, rfl, ?_⟩
          walk_at "rd"
          refine ⟨_, .inl (.of h1), ?_⟩
          rw [List.length_map]
          have stay : ps[a]? ≠ some w' → pgo ps (wds.take (i + 1)) (v0, 1) = some (v, a) := fun z => by
            rw [hs]
            unfold pstep
            rw [if_neg z]
          by_cases z : a < ps.length
          · rw [if_pos (by omega)]
            have ga := List.getElem?_eq_getElem z
            refine rix_l h1 (gA a _ ga) ⟨rfl, ?_⟩
            by_cases z2 : ps[a] = w'
            · rw [if_pos (by rw [z2])]
              have z3 : a + 1 < ps.length := by omega
              have gb := List.getElem?_eq_getElem z3
              obtain ⟨ok1, ok2⟩ := okp _ (List.getElem_mem z3)
              have hs2 : pgo ps (wds.take (i + 1)) (v0, 1) = (numOf ps[a + 1]).map fun n => (v.set p (some n), a + 2) := by
                rw [hs]
                unfold pstep
                rw [if_pos (by rw [ga, z2]), gb]
              refine ⟨_, rfl, _, rfl, _, _, rfl, rfl, rix_l h1 (gA (a + 1) _ gb) ⟨_, rfl, ok1, ok2, fun G4 s4 => ⟨fun n en' => ?_, fun en' => ?_⟩⟩⟩
              · rw [en'] at hs2
                have hv4 := s4 _ _ hv
                refine ⟨_, rfl, _, rfl, lv, _, _, p, rfl, rfl, hv4, ?_, fun G5 p5 => ?_⟩
                · rw [show (v6V v).length = 6 from by unfold v6V; rw [List.length_map, l6]]
                  unfold ixN
                  simp
                  omega
                · refine ⟨_, rfl, _, _, rfl, rfl, ?_⟩
                  rw [v6_set] at p5
                  refine ⟨v.set p (some n), a + 2, _, _, rfl, hs2, six_set l6, by omega, p5.same (sG.trans s4) fv, p5.at, ?_⟩
                  rw [p5.ne nev]
                  exact s4 _ _ h1
              · refine (q G4 (sG.trans s4)).2 ?_
                rw [en'] at hs2
                have e := pgo_none (i := i + 1) hs2
                rw [vis, e]
            · rw [if_neg (by simpa using z2)]
              have e := stay (by rw [ga]; simpa using z2)
              first | exact ⟨v, a, _, _, rfl, e, l6, ao, sG, hv, h1⟩ | exact ⟨v, a, rfl, e, l6, ao, sG, hv, h1⟩
          · rw [if_neg (by omega)]
            have e := stay (by rw [List.getElem?_eq_none (by omega)]; simp)
            first | exact ⟨v, a, _, _, rfl, e, l6, ao, sG, hv, h1⟩ | exact ⟨v, a, rfl, e, l6, ao, sG, hv, h1⟩
        · rintro σ G ⟨v, a, x4, x5, rfl, hg, l6, ao, sG, hv, h1⟩
          exact ⟨v, a, x4, x5, rfl, by simpa [wds] using hg, l6, sG, hv, h1⟩
      · rintro σ G ⟨v, a, x4, x5, rfl, hg, l6, sG, hv, h1⟩
        rw [hg] at vis
        simp only [] at vis
        walk_at "rd"
        refine ⟨_, .inl (.of h1), ?_⟩
        rw [List.length_map]
        by_cases z : a < ps.length
        · rw [if_pos (by omega)]
          exact ⟨by decide, (q G sG).2 (by rw [vis, if_pos z])⟩
        · rw [if_neg (by omega)]
          rw [if_neg z] at vis
          refine ⟨_, rfl, lv, v, rfl, hv, l6, fun G5 s5 => ⟨fun z5 => ?_, fun z5 => (q G5 (sG.trans s5)).2 (by rw [vis, z5]; rfl)⟩⟩
          rw [z5] at vis
          walk_at "rd"
          refine ⟨_, .of (s5 _ _ hv), fun l G6 n6 => ?_⟩
          exact (q G6 (sG.trans (s5.trans n6.same))).1 v l vis l6 n6.at
    · refine (q _ (n1.same.trans s2)).2 ?_
      unfold visP
      rw [if_neg odd, g0]
      simp only [en]
end
open Tx
/-! lines.py: read -/
def v6D (v : V6) : Dat := .tup (v.map on)
theorem dv_v6 {H : Hp} {l : Addr} {v : V6} (h : H l = some (.tup (v6V v))) : DV H (.ref l) (v6D v) := by
  refine dv_tup h ?_
  unfold v6V
  clear h
  induction v with
  | nil => exact .nil
  | cons x r ih => exact .cons (by cases x <;> (unfold on onV DV; rfl)) ih
theorem v6_of {H : Hp} {u : V} {v : V6} (h : DV H u (v6D v)) : ∃ l, u = .ref l ∧ H l = some (.tup (v6V v)) := by
  unfold v6D DV at h
  obtain ⟨a, xs, rfl, e, d⟩ := h
  refine ⟨a, rfl, ?_⟩
  rw [e]
  congr 2
  unfold v6V
  clear e
  induction v generalizing xs with
  | nil => rw [List.map_nil, dvs_nil_iff] at d; exact d
  | cons x r ih =>
    rw [List.map_cons, dvs_cons_iff] at d
    obtain ⟨y, s, rfl, d1, d2⟩ := d
    rw [List.map_cons, ih s d2]
    congr 1
    cases x with
    | none => unfold on DV at d1; exact d1
    | some n => unfold on DV at d1; exact d1
theorem v6_noLst (v : V6) : (v6D v).noLst = true := by
  unfold v6D Dat.noLst
  refine noLsts_of fun d hd => ?_
  obtain ⟨x, _, rfl⟩ := List.mem_map.mp hd
  cases x <;> rfl
theorem v6s_noLst (l : List V6) : Dat.noLsts (l.map v6D) = true := noLsts_of fun d hd => by
  obtain ⟨u, _, rfl⟩ := List.mem_map.mp hd
  exact v6_noLst u
def wtd (v : V6) : Nat := (at_ v 1).getD 0
def lastW (y : Option Nat) (l : List V6) : Option Nat := match l.getLast? with | some v => some (wtd v) | none => y
theorem lastW_cons (y : Option Nat) (v : V6) (l : List V6) : lastW y (v :: l) = lastW (some (wtd v)) l := by
  unfold lastW
  cases l with
  | nil => rfl
  | cons u r =>
    rw [List.getLast?_cons_cons]
    cases e : (u :: r).getLast? with
    | none => simp at e
    | some z => rfl
theorem readP_app : ∀ (l r : List (List Str)) (y : Option Nat), readP y (l ++ r) = match readP y l with | none => none | some vl => (readP (lastW y vl) r).map (vl ++ ·)
  | [], r, y => by
    show readP y r = (readP y r).map ([] ++ ·)
    cases readP y r <;> rfl
  | ps :: l, r, y => by
    show readP y (ps :: (l ++ r)) = _
    rw [readP, readP]
    cases visP ps with
    | none => rfl
    | some v =>
      have ih := readP_app l r (some (wtd v))
      simp only []
      rw [show (at_ v 1).getD 0 = wtd v from rfl, ih]
      have tail : (Option.map (fun x => v :: x) (match readP (some (wtd v)) l with | none => none | some vl => Option.map (fun x => vl ++ x) (readP (lastW (some (wtd v)) vl) r))) = match Option.map (fun x => v :: x) (readP (some (wtd v)) l) with | none => none | some vl => Option.map (fun x => vl ++ x) (readP (lastW y vl) r) := by
        cases readP (some (wtd v)) l with
        | none => rfl
        | some vl =>
          simp only [Option.map_some, lastW_cons]
          cases readP (lastW (some (wtd v)) vl) r <;> rfl
      cases y with
      | none =>
        simp only [Bool.false_eq_true, if_false]
        exact tail
      | some y0 =>
        by_cases hc : wtd v ≤ y0
        · simp only [hc, decide_true, if_true]
        · simp only [hc, decide_false, Bool.false_eq_true, if_false]
          exact tail
theorem read_snoc {l : List (List Str)} {ps : List Str} {vl : List V6} {v : V6} (h : readP none l = some vl) (hv : visP ps = some v) : readP none (l ++ [ps]) = if (match vl.getLast? with | none => false | some u => decide (wtd v ≤ wtd u)) then none else some (vl ++ [v]) := by
  rw [readP_app, h]
  simp only []
  rw [readP, hv]
  simp only [readP, show (at_ v 1).getD 0 = wtd v from rfl]
  unfold lastW
  cases vl.getLast? with
  | none => rfl
  | some u =>
    simp only []
    split <;> rfl
theorem read_snoc0 {l : List (List Str)} {ps : List Str} {vl : List V6} (h : readP none l = some vl) (hv : visP ps = none) (r : List (List Str)) : readP none (l ++ ps :: r) = none := by
  rw [readP_app, h]
  simp only []
  rw [read_bad hv]
  rfl
theorem read_none {l r : List (List Str)} (h : readP none l = none) : readP none (l ++ r) = none := by rw [readP_app, h]
theorem visP_want {ps : List Str} {v : V6} (h : visP ps = some v) : at_ v 1 = some (wtd v) := by
  have c : chk v = true := by
    unfold visP at h
    split at h
    · cases h
    · split at h
      · cases h
      · split at h
        · cases h
        · split at h
          · cases h
          · split at h
            · cases h
            · split at h
              · rename_i z
                cases h
                exact z
              · cases h
  unfold chk at c
  simp only [Bool.and_eq_true] at c
  obtain ⟨y, e⟩ := Option.isSome_iff_exists.mp c.1.1.1.1
  unfold wtd
  rw [e]
  rfl
theorem want_at {v : V6} (h6 : v.length = 6) (h : at_ v 1 = some (wtd v)) : atI (v6V v) 1 = some (.int (wtd v : Nat)) := by
  obtain ⟨a0, a1, a2, a3, a4, a5, rfl⟩ := v6_six h6
  have : a1 = some (wtd [a0, a1, a2, a3, a4, a5]) := h
  show some (onV a1) = _
  conv => lhs; rw [this]
  rfl
section
variable {P : Program} {w : World} {K : PySem.W.Frag} {mg : Str → Option Value} {base : Heap}
abbrev sRead : Stmt := top 25
def ReadQ (eL : Addr) (pss : List (List Str)) (H : Hp) (Q : VK) (E : XK) : Prop := ∀ G, Same H G → (∀ vl v, readP none pss = some vl → DV G v (.lst (vl.map v6D)) → Q v G) ∧ (readP none pss = none → E (.ref eL) none G)
def spRead (eL : Addr) : Sp := fun vs H Q E => ∃ (l : Addr) (pss : List (List Str)), vs = [.ref l] ∧ H l = some (.lst (pss.map fun ps => V.str (line ps))) ∧ (∀ ps ∈ pss, PsOk ps) ∧ pss.length ≤ 900 ∧ ReadQ eL pss H Q E
theorem scRead : FnScope ["lines", "visits", "line", "visit"] ["lines"] (defScope sRead) := ⟨rfl, rfl, rfl, by decide +kernel, rfl, by decide +kernel, by decide +kernel⟩
set_option maxHeartbeats 4000000 in
theorem ok_read {f eL : Addr} {fd : FuncData} (F : Fun K "read" "read" sRead f fd) (T : Cst mg) (cL : XCls K mg "NoLine" eL) (c_visit_of : FnBy P w K mg base (CXE P w) 3 "visit_of" ["line"] (spVis eL)) : FnOk P w K mg base (CXE P w) 4 f fd ["lines"] (spRead eL) := by
  refine F.okX scRead (fun vs H Q E h => ?_) (fun cdv A outer s H vs Q E hr h => ?_)
  · obtain ⟨l, pss, rfl, _⟩ := h
    rfl
  · obtain ⟨l, pss, rfl, hl, hok, hlen, q⟩ := h
    have SC := scRead
    refine ⟨_, (pss_cons (ps_set (i := 1) SC.nd (by rfl) (Or.inl (by rfl)) (pe_lstN pa_nil))
      (pss_cons (ps_for own_fn rfl (pi_list (pv 0)) (pg_name (i := 2) SC.nd (by rfl) (Or.inl (by rfl))) (pss_cons (ps_set (i := 3) SC.nd (by rfl) (Or.inl (by rfl)) (pe_fnX c_visit_of (hr.mono (by decide)) (by rfl) xok_fn.pass (pac (pv 2) pa_nil)))
      (pss_cutE (ps_if (pw_and (pt_truth (pv 1) (fun _ => rfl)) (pw_and1 (pt_cmpR op_le (pe_ix ix_seq (pv 3) (pe_gi (by rfl) T.g_WANTED) (by exact fun _ _ => rfl)) (pe_ix ix_seq (pe_ix ix_seq (pv 1) (pe_un un_neg pe_int) (by exact fun _ _ => rfl)) (pe_gi (by rfl) T.g_WANTED) (by exact fun _ _ => rfl)) (nomark _)))).pt (pss_one (ps_raise xok_fn rfl (by rfl) cL (pac pe_str pa_nil))) pss_nil)
      (pss_one (ps_expr (pe_bm PySem.F.plainAttrs_list PySem.F.slot_list_append PySem.F.type_list_append mt_appendN (pv 1) (pac (pv 3) pa_nil)))))))
      (pss_one (ps_ret (pv 1))))), ?_⟩
    walk_at "rd"
    refine ⟨Nat.zero_le _, fun lv G0 n0 => ?_⟩
    have fv := n0.free
    refine ⟨_, rfl, l, rfl, ⟨_, .of (n0.same _ _ hl)⟩, for_list (K := K) (a := l) (xs := pss.map fun ps => V.str (line ps)) (fun i σ G => ∃ x2 x3 ws vl, σ = [some (.ref l), some (.ref lv), x2, x3] ∧ readP none (pss.take i) = some vl ∧ Same H G ∧ G lv = some (.lst ws) ∧ DVs G ws (vl.map v6D) ∧ vl.length = i ∧ ∀ v ∈ vl, v.length = 6 ∧ at_ v 1 = some (wtd v)) ⟨none, none, [], [], rfl, rfl, n0.same, n0.at, .nil, rfl, fun v hv => by cases hv⟩ (fun i σ G _ ⟨_, _, _, _, _, _, s, _⟩ => .of (s _ _ hl)) ?_ ?_⟩
    · rintro i y σ G hi ⟨x2, x3, ws, vl, rfl, hr', sG, el, dw, li, al⟩
      have hil : i < pss.length := by simpa using (List.getElem?_eq_some_iff.mp hi).1
      rw [List.getElem?_map, List.getElem?_eq_getElem hil] at hi
      cases hi
      have tk : pss.take (i + 1) = pss.take i ++ [pss[i]] := List.take_succ_eq_append_getElem hil
      have sp2 : pss = pss.take i ++ pss[i] :: pss.drop (i + 1) := by rw [List.getElem_cons_drop, List.take_append_drop]
      walk_at "rd"
      refine ⟨_, rfl, _, rfl, hok _ (List.getElem_mem hil), fun G1 s1 => ⟨fun v lt hv h6 ht => ?_, fun hv => ?_⟩⟩
      · have el1 := s1 _ _ el
        have dw1 := DVs.mono s1 dw
        have hw := visP_want hv
        have rs := read_snoc hr' hv
        rw [← tk] at rs
        have wl := dw1.length
        rw [List.length_map] at wl
        walk_at "rd"
        refine ⟨fun σ G2 => G2 = G1 ∧ σ = [some (.ref l), some (.ref lv), some (.str (line pss[i])), some (.ref lt)] ∧ readP none (pss.take (i + 1)) = some (vl ++ [v]), ?_, ?_⟩
        · walk_at "rd"
          refine ⟨_, .inl ⟨ws, .of el1, rfl⟩, ?_⟩
          cases hg : vl.getLast? with
          | none =>
            have e0 : vl = [] := by simpa using hg
            have e1 : ws = [] := by rw [e0] at wl; exact List.length_eq_zero_iff.mp wl
            rw [hg] at rs
            rw [e1, if_neg (by simp), if_neg (by simp)]
            simpa using rs
          | some u =>
            have hne : vl ≠ [] := fun z => by rw [z] at hg; cases hg
            have hpos : 0 < vl.length := List.length_pos_iff.mpr hne
            have gu : vl[vl.length - 1]? = some u := by rw [← List.getLast?_eq_getElem?]; exact hg
            obtain ⟨y, gy, dy⟩ := dw1.get (i := vl.length - 1) (d := v6D u) (by rw [List.getElem?_map, gu]; rfl)
            obtain ⟨lu, rfl, hu⟩ := v6_of dy
            obtain ⟨u6, uw⟩ := al u (List.mem_of_getElem? gu)
            have em : ws.isEmpty = false := by cases ws with | nil => simp at wl; omega | cons a r => rfl
            rw [em, if_pos (by rfl)]
            refine rix_t ht (want_at h6 hw) (rix_l el1 (v := .ref lu) ?_ (rix_t hu (want_at u6 uw) ?_))
            · unfold atI ixN
              rw [if_neg (by decide), if_pos (by omega)]
              have : ((-1 : Int) + (ws.length : Nat)).toNat = vl.length - 1 := by omega
              rw [this]
              exact gy
            walk_at "rd"
            rw [hg] at rs
            by_cases z : wtd v ≤ wtd u
            · rw [if_pos (by omega)]
              refine ⟨by decide, (q G1 (sG.trans s1)).2 ?_⟩
              rw [sp2, show pss.take i ++ pss[i] :: pss.drop (i + 1) = (pss.take i ++ [pss[i]]) ++ pss.drop (i + 1) by simp, ← tk]
              refine read_none ?_
              rw [rs]
              simp [z]
            · rw [if_neg (by omega)]
              simpa [z] using rs
        · rintro σ G2 ⟨rfl, rfl, e⟩
          walk_at "rd"
          refine ⟨.inl ⟨rfl, _, .of el1⟩, lv, _, _, rfl, rfl, el1, lt_size (by omega), fun G3 p3 => ⟨_, _, e, p3.same (sG.trans s1) fv, p3.at, ?_, by simp [li], fun v' hv' => ?_⟩⟩
          · rw [List.map_append]
            exact DVs.append (Put.dvs p3 el1 (v6s_noLst _) dw1) (DVs.one (Put.dv p3 el1 (v6_noLst _) (dv_v6 ht)))
          · rcases List.mem_append.mp hv' with hv' | hv'
            · exact al v' hv'
            · rw [List.mem_singleton.mp hv']
              exact ⟨h6, hw⟩
      · refine (q G1 (sG.trans s1)).2 ?_
        rw [sp2]
        exact read_snoc0 hr' hv _
    · rintro σ G ⟨x2, x3, ws, vl, rfl, hr', sG, el, dw, li, al⟩
      rw [List.length_map, List.take_length] at hr'
      walk_at "rd"
      exact (q G sG).1 vl _ hr' (dv_lst el dw)
end
open Tx
/-! lines.py: a visit's line -/
structure V6Ok (v : V6) : Prop where
  six : v.length = 6
  hand : (at_ v 0).isSome = true
  low : ∀ i n, at_ v i = some n → n < 10 ^ 100
theorem log_ok {n : Nat} (h : n < 10 ^ 100) : ((n : Nat) : Int).natAbs.log2 < 1920 := by
  show n.log2 < 1920
  by_cases z : n = 0
  · rw [z]; decide
  · rw [Nat.log2_lt z]
    exact Nat.lt_trans h (by decide +kernel)
def pOf (v : V6) (l : List (Str × Nat)) : List Str := dig ((at_ v 0).getD 0) :: (l.flatMap fun wp => match at_ v wp.2 with | some n => [wp.1, dig n] | none => [])
theorem pOf_all (v : V6) : pOf v wds = partsOf v := rfl
theorem pOf_snoc (v : V6) (l : List (Str × Nat)) (wp : Str × Nat) : pOf v (l ++ [wp]) = pOf v l ++ (match at_ v wp.2 with | some n => [wp.1, dig n] | none => []) := by
  unfold pOf
  rw [List.flatMap_append]
  simp
theorem pOf_len (v : V6) : ∀ l : List (Str × Nat), (pOf v l).length ≤ 1 + 2 * l.length
  | [] => by simp [pOf]
  | wp :: l => by
    have ih := pOf_len v l
    unfold pOf at ih ⊢
    rw [List.flatMap_cons]
    simp only [List.length_cons, List.length_append] at ih ⊢
    have : (match at_ v wp.2 with | some n => [wp.1, dig n] | none => []).length ≤ 2 := by cases at_ v wp.2 <;> simp
    omega
theorem wd_ok : ∀ wp ∈ wds, Ok wp.1 ∧ wp.1.length ≤ 100 := by
  rw [wds_eq]
  simp only [List.forall_mem_cons, List.not_mem_nil, false_implies, implies_true, and_true]
  exact ⟨oW, oD, oL, oE, oX⟩
theorem pOf_ok {v : V6} (h : V6Ok v) (l : List (Str × Nat)) (hl : ∀ wp ∈ l, wp ∈ wds) : ∀ x ∈ pOf v l, Ok x ∧ x.length ≤ 100 := by
  intro x hx
  unfold pOf at hx
  rcases List.mem_cons.mp hx with rfl | hx
  · obtain ⟨n, e⟩ := Option.isSome_iff_exists.mp h.hand
    rw [e]
    exact oN (h.low 0 n e)
  · obtain ⟨wp, hwp, hx⟩ := List.mem_flatMap.mp hx
    cases e : at_ v wp.2 with
    | none => rw [e] at hx; cases hx
    | some n =>
      rw [e] at hx
      simp only [List.mem_cons, List.not_mem_nil, or_false] at hx
      rcases hx with rfl | rfl
      · exact wd_ok wp (hl wp hwp)
      · exact oN (h.low _ n e)
theorem parts_ok {v : V6} (h : V6Ok v) : PsOk (partsOf v) := ⟨by unfold partsOf; simp, pOf_ok h wds fun _ z => z, by have := pOf_len v wds; rw [pOf_all] at this; have e : wds.length = 5 := rfl; omega⟩
theorem join_ok {ps : List Str} (h : PsOk ps) : JoinOk sp ps = true := by
  unfold JoinOk
  rw [Bool.not_eq_true']
  refine StrLaws.joinFits (B := 100) (fun y hy => (h.ok y hy).2) ?_
  have := h.few
  have e : sp.length = 1 := rfl
  rw [e]
  omega
theorem at_map {v : V6} (h6 : v.length = 6) {i : Nat} (hi : i < 6) : atI (v6V v) (i : Nat) = some (onV (at_ v i)) := by
  refine atI_at ?_
  unfold v6V
  rw [List.getElem?_map]
  have : v[i]? = some (v[i]'(by omega)) := List.getElem?_eq_getElem _
  unfold at_
  rw [this]
  rfl
section
variable {P : Program} {w : World} {K : PySem.W.Frag} {mg : Str → Option Value} {base : Heap}
abbrev sLineOf : Stmt := top 16
def spLineOf : Sp := fun vs H Q _ => ∃ (l : Addr) (v : V6), vs = [.ref l] ∧ H l = some (.tup (v6V v)) ∧ V6Ok v ∧ ∀ G, Same H G → Q (.str (line (partsOf v))) G
theorem scLineOf : FnScope ["visit", "parts", "word", "place"] ["visit"] (defScope sLineOf) := ⟨rfl, rfl, rfl, by decide +kernel, rfl, by decide +kernel, by decide +kernel⟩
set_option maxHeartbeats 4000000 in
theorem ok_lineOf {f aW : Addr} {tw : Nat → Addr} {fd : FuncData} (F : Fun K "line_of" "line_of" sLineOf f fd) (T : Cst mg) (B : Blt mg) (W : Wds K mg aW tw) : FnOk P w K mg base CX0 1 f fd ["visit"] spLineOf := by
  refine F.ok scLineOf (fun vs H Q E h => ?_) (fun cdv A outer s H vs Q E hr h => ?_)
  · obtain ⟨l, v, rfl, _⟩ := h
    rfl
  · obtain ⟨l, v, rfl, hl, hv, q⟩ := h
    have SC := scLineOf
    refine ⟨_, (pss_cons (ps_set (i := 1) SC.nd (by rfl) (Or.inl (by rfl)) (pe_lstN (pac (pe_callTy call_str_int (by rfl) B.b_str PyProof.Rows.Boot.str (pac (pe_ix ix_seq (pv 0) (pe_gi (by rfl) T.g_HAND) (by exact fun _ _ => rfl)) pa_nil)) pa_nil)))
      (pss_cons (ps_for PassesOwn.never rfl (pi_tup (pe_glob (by rfl) W.g (show RelV (.ref aW) (Value.ref aW) from rfl))) (pg_tup rfl (pgs_cons (pg_name (i := 2) SC.nd (by rfl) (Or.inl (by rfl))) (pgs_cons (pg_name (i := 3) SC.nd (by rfl) (Or.inl (by rfl))) pgs_nil))) (pss_one (ps_if (pt_cmpR op_notN (pe_ix ix_seq (pv 0) (pv 3) (by exact fun _ _ => rfl)) pe_non (nomark _)) (pss_cons (ps_expr (pe_bm PySem.F.plainAttrs_list PySem.F.slot_list_append PySem.F.type_list_append mt_appendN (pv 1) (pac (pv 2) pa_nil)))
      (pss_one (ps_expr (pe_bm PySem.F.plainAttrs_list PySem.F.slot_list_append PySem.F.type_list_append mt_appendN (pv 1) (pac (pe_callTy call_str_int (by rfl) B.b_str PyProof.Rows.Boot.str (pac (pe_ix ix_seq (pv 0) (pv 3) (by exact fun _ _ => rfl)) pa_nil)) pa_nil))))) pss_nil)))
      (pss_one (ps_ret (pe_bm PySem.F.plainAttrs_str PySem.F.slot_str_join PySem.F.type_str_join mt_join pe_str (pac (pv 1) pa_nil)))))), ?_⟩
    walk_at "rd"
    obtain ⟨n0, e0⟩ := Option.isSome_iff_exists.mp hv.hand
    have g0 : atI (v6V v) 0 = some (.int (n0 : Nat)) := by
      have := at_map hv.six (i := 0) (by decide)
      rw [e0] at this
      exact this
    refine rix_t hl g0 ⟨_, rfl, log_ok (hv.low 0 n0 e0), by decide, fun lp G0 np => ?_⟩
    have fp := np.free
    have nel : l ≠ lp := fun z => by rw [z, fp] at hl; cases hl
    have hp0 : G0 lp = some (.lst ((pOf v (wds.take 0)).map V.str)) := by
      rw [np.at]
      unfold pOf
      rw [e0]
      rfl
    refine ⟨aW, rfl, ⟨_, W.wa.sq _⟩, for_tup (K := K) (a := aW) (xs := [.ref (tw 0), .ref (tw 1), .ref (tw 2), .ref (tw 3), .ref (tw 4)]) (fun i σ G => ∃ x2 x3, σ = [some (.ref l), some (.ref lp), x2, x3] ∧ Same H G ∧ G lp = some (.lst ((pOf v (wds.take i)).map V.str))) ⟨none, none, rfl, np.same, hp0⟩ (fun i σ G _ _ => W.wa.sq G) ?_ ?_⟩
    · rintro i y σ G hi ⟨x2, x3, rfl, sG, hpG⟩
      have hi5 : i < 5 := by simpa using (List.getElem?_eq_some_iff.mp hi).1
      have hy : y = .ref (tw i) := by
        have : i = 0 ∨ i = 1 ∨ i = 2 ∨ i = 3 ∨ i = 4 := by omega
        rcases this with rfl | rfl | rfl | rfl | rfl <;> exact (Option.some.inj hi).symm
      subst hy
      obtain ⟨⟨w', p⟩, hw⟩ : ∃ x, wds[i]? = some x := ⟨wds[i]'hi5, List.getElem?_eq_getElem _⟩
      have hp6 : p < 6 := by
        have : i = 0 ∨ i = 1 ∨ i = 2 ∨ i = 3 ∨ i = 4 := by omega
        rcases this with rfl | rfl | rfl | rfl | rfl <;> (cases hw; decide)
      have tk : wds.take (i + 1) = wds.take i ++ [(w', p)] := by
        obtain ⟨hl', hg'⟩ := List.getElem?_eq_some_iff.mp hw
        rw [List.take_succ_eq_append_getElem hl', hg']
      have pl := pOf_len v (wds.take i)
      have tl : (wds.take i).length ≤ 5 := by rw [List.length_take]; exact Nat.min_le_right _ _
      rw [tk, pOf_snoc]
      have hl2 := sG _ _ hl
      refine ⟨tw i, _, rfl, W.wa.pr _ i w' p hw, rfl, _, _, rfl, _, _, rfl, rfl, ?_⟩
      walk_at "rd"
      refine rix_t hl2 (at_map hv.six hp6) ?_
      cases e : at_ v p with
      | none =>
        rw [if_neg (by simp [onV])]
        refine ⟨sG, ?_⟩
        simpa using hpG
      | some n =>
        rw [if_pos (by simp [onV])]
        have gp : atI (v6V v) (p : Nat) = some (.int (n : Nat)) := by
          have := at_map hv.six hp6
          rw [e] at this
          exact this
        refine ⟨.inl ⟨rfl, _, .of hpG⟩, lp, _, _, rfl, rfl, hpG, lt_size (by rw [List.length_map]; omega), fun G1 p1 => ?_⟩
        walk_at "rd"
        have hl3 : G1 l = some (.tup (v6V v)) := by rw [p1.ne nel]; exact hl2
        refine ⟨.inl ⟨rfl, _, .of p1.at⟩, rix_t hl3 gp ⟨_, rfl, log_ok (hv.low p n e), lp, _, _, rfl, rfl, p1.at, lt_size (by rw [List.length_append, List.length_map]; simp; omega), fun G2 p2 => ?_⟩⟩
        refine ⟨p2.same (p1.same sG fp) fp, ?_⟩
        rw [p2.at]
        simp [dig]
    · rintro σ G ⟨x2, x3, rfl, sG, hpG⟩
      rw [show wds.take [V.ref (tw 0), .ref (tw 1), .ref (tw 2), .ref (tw 3), .ref (tw 4)].length = wds from rfl, pOf_all] at hpG
      walk_at "rd"
      refine ⟨rfl, _, lp, _, rfl, rfl, hpG, ?_, ?_⟩
      · rw [sp_eq]
        exact join_ok (parts_ok hv)
      · rw [sp_eq]
        exact q G sG
end
open Tx
/-! lines.py: shown; the law's refusals -/
def lnV (v : V6) : V := .str (line (partsOf v))
structure XL (K : PySem.W.Frag) (mg : Str → Option Value) (eR eN eW eI eO eL : Addr) : Prop where
  cR : XCls K mg "RoomError" eR
  cN : XCls K mg "NoHand" eN
  cW : XCls K mg "WantsIn" eW
  cI : XCls K mg "Within" eI
  cO : XCls K mg "Out" eO
  cL : XCls K mg "NoLine" eL
  mL : PySem.W.mroIn K eL (.ref eL) = some true
  mR : PySem.W.mroIn K eL (.ref eR) = some true
  is : XIs K eL
  kN : PySem.W.kitOne K (.ref eL) (.ref eN) = some false
  kW : PySem.W.kitOne K (.ref eL) (.ref eW) = some false
  kI : PySem.W.kitOne K (.ref eL) (.ref eI) = some false
  kO : PySem.W.kitOne K (.ref eL) (.ref eO) = some false
  kL : PySem.W.kitOne K (.ref eL) (.ref eL) = some true
  kV : PySem.W.kitOne K (.ref eL) (.type "ValueError") = some true
section
variable {P : Program} {w : World} {K : PySem.W.Frag} {mg : Str → Option Value} {base : Heap}
abbrev sShown : Stmt := top 17
def spShown : Sp := fun vs H Q _ => ∃ (l : Addr) (vl : List V6) (ws : List V), vs = [.ref l] ∧ H l = some (.lst ws) ∧ DVs H ws (vl.map v6D) ∧ (∀ v ∈ vl, V6Ok v) ∧ vl.length ≤ 900 ∧ ∀ l' G, Same H G → G l' = some (.lst (vl.map lnV)) → Q (.ref l') G
theorem scShown : FnScope ["visits"] ["visits"] (defScope sShown) := ⟨rfl, rfl, rfl, by decide +kernel, rfl, by decide +kernel, by decide +kernel⟩
theorem ok_shown {f : Addr} {fd : FuncData} (F : Fun K "shown" "shown" sShown f fd) (c_line_of : FnBy P w K mg base CX0 1 "line_of" ["visit"] spLineOf) : FnOk P w K mg base CX0 2 f fd ["visits"] spShown := by
  refine F.ok scShown (fun vs H Q E h => ?_) (fun cdv A outer s H vs Q E hr h => ?_)
  · obtain ⟨l, vl, ws, rfl, _⟩ := h
    rfl
  · obtain ⟨l, vl, ws, rfl, hl, dw, ok, hn, q⟩ := h
    have wl := dw.length
    rw [List.length_map] at wl
    refine ⟨_, (pss_one (ps_ret (pe_lc (N' := ["visit"]) (ix := [none]) (by exact comp_sc rfl (by rfl) (by rfl)) rfl (pi_list (pv 0)) (fun _ _ _ _ _ => (pg_comp (i := 0) (by decide +kernel) (by rfl) (by rfl))) (fun _ _ _ _ _ => pts_nil) (fun _ _ _ _ _ => (pe_fn c_line_of (hr.mono (by decide)) (by rfl) pass0 (pac (pv 0) pa_nil)))))), ?_⟩
    walk_at "rd"
    refine rlc_list (fun R R' hR ⟨v, e, h⟩ => ⟨v, e, hR _ _ h⟩) ⟨_, rfl, l, ws, rfl, .of hl, fun acc hacc => ⟨fun i σ G => ∃ x, σ = [x] ∧ Same H G ∧ G acc = some (.lst ((vl.take i).map lnV)), ⟨none, rfl, (Same.refl H).new hacc, upd_same⟩, fun i σ G _ ⟨_, _, s, _⟩ => .of (s _ _ hl), ?_, ?_⟩⟩
    · rintro i y σ G hi ⟨x, rfl, sG, eG⟩
      have hil : i < vl.length := by have := (List.getElem?_eq_some_iff.mp hi).1; omega
      obtain ⟨y', hy, dy⟩ := dw.get (i := i) (d := v6D vl[i]) (by simp [hil])
      rw [hi] at hy
      cases hy
      obtain ⟨lt, rfl, ht⟩ := v6_of dy
      walk_at "rd"
      refine ⟨lt, vl[i], rfl, sG _ _ ht, ok _ (List.getElem_mem hil), fun G1 s1 => ⟨_, s1 _ _ eG, lt_size (by rw [List.length_map, List.length_take]; omega), (sG.trans s1).put hacc, ?_⟩⟩
      rw [upd_same, List.take_succ_eq_append_getElem hil, List.map_append]
      rfl
    · rintro σ G ⟨x, rfl, sG, eG⟩
      rw [wl, List.take_length] at eG
      exact q acc G sG eG
abbrev sRefd : Stmt := top 30
def spRefd : Sp := fun vs H Q _ => ∃ (l : Addr) (pss : List (List Str)), vs = [.ref l] ∧ H l = some (.lst (pss.map fun ps => V.str (line ps))) ∧ (∀ ps ∈ pss, PsOk ps) ∧ pss.length ≤ 900 ∧ readP none pss = none ∧ ∀ G, Same H G → Q (.bl true) G
theorem scRefd : FnScope ["_law_lines"] ["_law_lines"] (defScope sRefd) := ⟨rfl, rfl, rfl, by decide +kernel, rfl, by decide +kernel, by decide +kernel⟩
theorem ok_refd {f eR eN eW eI eO eL : Addr} {fd : FuncData} (F : Fun K "_law_refused" "_law_refused" sRefd f fd) (B : Blt mg) (X : XL K mg eR eN eW eI eO eL) (c_read : FnBy P w K mg base (CXE P w) 4 "read" ["lines"] (spRead eL)) : FnOk P w K mg base CX0 5 f fd ["_law_lines"] spRefd := by
  refine F.ok scRefd (fun vs H Q E h => ?_) (fun cdv A outer s H vs Q E hr h => ?_)
  · obtain ⟨l, pss, rfl, _⟩ := h
    rfl
  · obtain ⟨l, pss, rfl, hl, ok, hn, hr0, q⟩ := h
    refine ⟨_, (pss_cons (ps_try rfl rfl _ (fun R pn xe hx => pss_one (ps_expr (pe_fnX c_read (hr.mono (by decide)) (by rfl) hx (pac (pe_callTy (call_listK (K := K) rfl) (by rfl) B.b_list PyProof.Rows.Boot.list (pac (pv 0) pa_nil)) pa_nil))))
      (ph_own rfl rfl (by rfl) X.cL (fun e => pss_one (ps_ret pe_bl)) ph_nil)) pss_dead), ?_⟩
    refine ⟨_, rfl, l, _, rfl, .inl (.of hl), fun l2 G2 n2 => ⟨l2, pss, rfl, n2.at, ok, hn, fun G sG => ⟨fun vl v e => ?_, fun _ => ?_⟩⟩⟩
    · rw [hr0] at e; cases e
    · refine ⟨eL, true, rfl, X.cL.exc, X.mL, ?_⟩
      rw [if_pos rfl]
      exact q G (n2.same.trans sG)
abbrev sUnder : Stmt := top 31
theorem scUnder : FnScope ["_law_lines", "e", "_law_kinds"] ["_law_lines"] (defScope sUnder) := ⟨rfl, rfl, rfl, by decide +kernel, rfl, by decide +kernel, by decide +kernel⟩
theorem ok_under {f eR eN eW eI eO eL : Addr} {fd : FuncData} (F : Fun K "_law_under_base" "_law_under_base" sUnder f fd) (B : Blt mg) (b_V : mg "ValueError" = none) (X : XL K mg eR eN eW eI eO eL) (c_read : FnBy P w K mg base (CXE P w) 4 "read" ["lines"] (spRead eL)) : FnOk P w K mg base CX0 5 f fd ["_law_lines"] spRefd := by
  refine F.ok scUnder (fun vs H Q E h => ?_) (fun cdv A outer s H vs Q E hr h => ?_)
  · obtain ⟨l, pss, rfl, _⟩ := h
    rfl
  · obtain ⟨l, pss, rfl, hl, ok, hn, hr0, q⟩ := h
    have SC := scUnder
    refine ⟨_, (pss_cons (ps_try rfl rfl _ (fun R pn xe hx => pss_one (ps_expr (pe_fnX c_read (hr.mono (by decide)) (by rfl) hx (pac (pe_callTy (call_listK (K := K) rfl) (by rfl) B.b_list PyProof.Rows.Boot.list (pac (pv 0) pa_nil)) pa_nil))))
      (ph_ownAs (i := 1) rfl rfl (by rfl) X.cR SC.nd (by rfl) (by rfl) (by rfl) (fun e pn ea oe C0 hm hc =>
        pss_cons (ps_set (i := 2) SC.nd (by rfl) (Or.inl (by rfl)) (pe_lstN (pac (pe_callB (call_isXK (K := K) rfl hm hc) (by rfl) B.b_isinstance PyProof.Rows.Boot.isinstance (pac (pv 1) (pac (pe_glob (by rfl) X.cN.bound (show RelV (.ref eN) (Value.ref eN) from rfl)) pa_nil)))
            (pac (pe_callB (call_isXK (K := K) rfl hm hc) (by rfl) B.b_isinstance PyProof.Rows.Boot.isinstance (pac (pv 1) (pac (pe_glob (by rfl) X.cW.bound (show RelV (.ref eW) (Value.ref eW) from rfl)) pa_nil)))
            (pac (pe_callB (call_isXK (K := K) rfl hm hc) (by rfl) B.b_isinstance PyProof.Rows.Boot.isinstance (pac (pv 1) (pac (pe_glob (by rfl) X.cI.bound (show RelV (.ref eI) (Value.ref eI) from rfl)) pa_nil))) pa_nil)))))
        (pss_cons (ps_set (i := 2) SC.nd (by rfl) (Or.inl (by rfl)) (pe_op op_catN (pv 2) (pe_lstN (pac (pe_callB (call_isXK (K := K) rfl hm hc) (by rfl) B.b_isinstance PyProof.Rows.Boot.isinstance (pac (pv 1) (pac (pe_glob (by rfl) X.cO.bound (show RelV (.ref eO) (Value.ref eO) from rfl)) pa_nil)))
            (pac (pe_callB (call_isXK (K := K) rfl hm hc) (by rfl) B.b_isinstance PyProof.Rows.Boot.isinstance (pac (pv 1) (pac (pe_glob (by rfl) X.cL.bound (show RelV (.ref eL) (Value.ref eL) from rfl)) pa_nil))) pa_nil)))))
        (pss_one (ps_ret (pe_and (pe_callB (call_isXK (K := K) rfl hm hc) (by rfl) B.b_isinstance PyProof.Rows.Boot.isinstance (pac (pv 1) (pac (pe_ty (by rfl) b_V PyProof.Rows.Boot.ValueError) pa_nil)))
          (pe_one (pe_cmpR op_eq (pe_bmK (K := K) rfl PySem.F.plainAttrs_list PySem.F.slot_list_count PySem.F.type_list_count mt_countT (pv 2) (pac pe_bl pa_nil)) pe_int (nomark _)))))))) ph_nil)) pss_dead), ?_⟩
    refine ⟨_, rfl, l, _, rfl, .inl (.of hl), fun l2 G2 n2 => ⟨l2, pss, rfl, n2.at, ok, hn, fun G sG => ⟨fun vl v e => ?_, fun _ => ?_⟩⟩⟩
    · rw [hr0] at e; cases e
    · refine ⟨eL, true, rfl, X.cR.exc |> fun _ => X.cL.exc, X.mR, ?_⟩
      rw [if_pos rfl]
      intro ea fa
      walk_at "rd"
      refine ⟨X.is, false, .inl X.kN, X.is, false, .inl X.kW, X.is, false, .inl X.kI, by decide, fun p3 G3 n3 => ⟨X.is, false, .inl X.kO, X.is, true, .inl X.kL, by decide, fun p4 G4 n4 => ?_⟩⟩
      refine ⟨p3, p4, _, _, rfl, rfl, n4.same _ _ n3.at, n4.at, le_size (by simp), fun p5 G5 n5 => ⟨X.is, true, .inr ⟨_, rfl, X.kV⟩, ?_⟩⟩
      rw [if_pos rfl]
      have e5 : G5 p5 = some (.lst ([false, false, false, false, true].map V.bl)) := n5.at
      refine ⟨.inl ⟨rfl, _, .of e5⟩, p5, _, rfl, rfl, e5, rfl, ?_⟩
      exact q G5 (n2.same.trans (sG.trans (n3.same.trans (n4.same.trans n5.same))))
end
open Tx
/-! the law's lines, its comparison, its bad tails -/
theorem join_snoc (s x : Str) : ∀ l : List Str, l ≠ [] → Str.join s (l ++ [x]) = Str.join s l ++ s ++ x
  | [], h => absurd rfl h
  | [a], _ => rfl
  | a :: b :: r, _ => by
    have ih := join_snoc s x (b :: r) (by simp)
    show a ++ s ++ Str.join s ((b :: r) ++ [x]) = a ++ s ++ Str.join s (b :: r) ++ s ++ x
    rw [ih]
    simp only [Str.append_assoc]
theorem line_two {l : List Str} (h : l ≠ []) (a b : Str) : line (l ++ [a, b]) = line l ++ sp ++ a ++ sp ++ b := by
  rw [show l ++ [a, b] = (l ++ [a]) ++ [b] by simp]
  show Str.join sp _ = _
  rw [join_snoc _ _ _ (by simp), join_snoc _ _ _ h]
theorem take_ok {v : V6} (h : V6Ok v) (k : Nat) : PsOk (pOf v (wds.take k)) := ⟨by unfold pOf; simp, pOf_ok h _ fun _ z => List.mem_of_mem_take z, by
  have := pOf_len v (wds.take k)
  have e : (wds.take k).length ≤ 5 := by rw [List.length_take]; exact Nat.min_le_right _ _
  omega⟩
theorem dig_short {n : Nat} (h : n < 10 ^ 100) : (dig n).length ≤ 100 := (oN h).2
theorem v6_deps (v : V6) : Dat.deps (v.map on) = 0 := by
  induction v with
  | nil => simp [Dat.deps]
  | cons x r ih =>
    rw [List.map_cons, Dat.deps, ih]
    cases x <;> simp [on, Dat.dep]
section
variable {P : Program} {w : World} {K : PySem.W.Frag} {mg : Str → Option Value} {base : Heap}
abbrev sDueL : Stmt := top 29
def spDueL : Sp := fun vs H Q _ => ∃ (l : Addr) (v : V6), vs = [.ref l] ∧ H l = some (.tup (v6V v)) ∧ V6Ok v ∧ (at_ v 1).isSome = true ∧ ∀ G, Same H G → Q (lnV v) G
theorem scDueL : FnScope ["_law_visit", "_law_line", "_law_name", "_law_spot"] ["_law_visit"] (defScope sDueL) := ⟨rfl, rfl, rfl, by decide +kernel, rfl, by decide +kernel, by decide +kernel⟩
set_option maxHeartbeats 4000000 in
theorem ok_dueL {f : Addr} {fd : FuncData} (F : Fun K "_law_due_line" "_law_due_line" sDueL f fd) (B : Blt mg) : FnOk P w K mg base CX0 1 f fd ["_law_visit"] spDueL := by
  refine F.ok scDueL (fun vs H Q E h => ?_) (fun cdv A outer s H vs Q E hr h => ?_)
  · obtain ⟨l, v, rfl, _⟩ := h
    rfl
  · obtain ⟨l, v, rfl, hl, hv, h1, q⟩ := h
    have SC := scDueL
    refine ⟨_, (pss_cons (ps_set (i := 1) SC.nd (by rfl) (Or.inl (by rfl)) (pe_op op_add_str (pe_op op_add_str (pe_callTy call_str_int (by rfl) B.b_str PyProof.Rows.Boot.str (pac (pe_ix ix_seq (pv 0) pe_int (by exact fun _ _ => rfl)) pa_nil)) pe_str) (pe_callTy call_str_int (by rfl) B.b_str PyProof.Rows.Boot.str (pac (pe_ix ix_seq (pv 0) pe_int (by exact fun _ _ => rfl)) pa_nil))))
      (pss_cons (ps_for PassesOwn.never rfl (pi_list (pe_lstN (pac (pe_tupN (pac pe_str (pac pe_int pa_nil))) (pac (pe_tupN (pac pe_str (pac pe_int pa_nil))) (pac (pe_tupN (pac pe_str (pac pe_int pa_nil))) (pac (pe_tupN (pac pe_str (pac pe_int pa_nil))) pa_nil)))))) (pg_tup rfl (pgs_cons (pg_name (i := 2) SC.nd (by rfl) (Or.inl (by rfl))) (pgs_cons (pg_name (i := 3) SC.nd (by rfl) (Or.inl (by rfl))) pgs_nil))) (pss_one (ps_if (pt_cmpR op_notN (pe_ix ix_seq (pv 0) (pv 3) (by exact fun _ _ => rfl)) pe_non (nomark _)) (pss_one (ps_set (i := 1) SC.nd (by rfl) (Or.inl (by rfl)) (pe_op op_add_str (pe_op op_add_str (pe_op op_add_str (pe_op op_add_str (pv 1) pe_str) (pv 2)) pe_str) (pe_callTy call_str_int (by rfl) B.b_str PyProof.Rows.Boot.str (pac (pe_ix ix_seq (pv 0) (pv 3) (by exact fun _ _ => rfl)) pa_nil))))) pss_nil)))
      (pss_one (ps_ret (pv 1))))), ?_⟩
    walk_at "rd"
    obtain ⟨n0, e0⟩ := Option.isSome_iff_exists.mp hv.hand
    obtain ⟨n1, e1⟩ := Option.isSome_iff_exists.mp h1
    have g0 : atI (v6V v) 0 = some (.int (n0 : Nat)) := by
      have := at_map hv.six (i := 0) (by decide)
      rw [e0] at this
      exact this
    have g1 : atI (v6V v) 1 = some (.int (n1 : Nat)) := by
      have := at_map hv.six (i := 1) (by decide)
      rw [e1] at this
      exact this
    have d0 := dig_short (hv.low 0 n0 e0)
    have d1 := dig_short (hv.low 1 n1 e1)
    have lw : (Str.ofString " wants ").length = 7 := by decide +kernel
    refine rix_t hl g0 ⟨_, rfl, log_ok (hv.low 0 n0 e0), ?_⟩
    walk_at "rd"
    have lA : ∀ a b : Str, (a ++ b).length = a.length + b.length := fun a b => Str.length_append a b
    refine ⟨big_size ?_, rix_t hl g1 ⟨_, rfl, log_ok (hv.low 1 n1 e1), big_size ?_, ?_⟩⟩
    · show (dig n0).length + _ ≤ _
      omega
    · show (dig n0 ++ Str.ofString " wants ").length + (dig n1).length ≤ _
      rw [lA]
      omega
    have el : Str.ofString (toString ((n0 : Nat) : Int)) ++ Str.ofString " wants " ++ Str.ofString (toString ((n1 : Nat) : Int)) = line (pOf v (wds.take 1)) := by
      have e2 : pOf v (wds.take 1) = [dig n0, wW, dig n1] := by
        unfold pOf
        rw [e0]
        show dig n0 :: ((match at_ v 1 with | some n => [wW, dig n] | none => []) ++ []) = _
        rw [e1]
        rfl
      have e3 : Str.ofString " wants " = sp ++ wW ++ sp := by decide +kernel
      rw [e2, e3]
      show dig n0 ++ (sp ++ wW ++ sp) ++ dig n1 = Str.join sp [dig n0, wW, dig n1]
      simp only [Str.join, Str.append_assoc]
    rw [el]
    refine ⟨by decide, fun t0 G0 k0 => ⟨by decide, fun t1 G1 k1 => ⟨by decide, fun t2 G2 k2 => ⟨by decide, fun t3 G3 k3 => ⟨by show 4 ≤ sizeLine; decide, fun tl G4 k4 => ?_⟩⟩⟩⟩⟩
    have s04 : Same H G4 := k0.same.trans (k1.same.trans (k2.same.trans (k3.same.trans k4.same)))
    have u3 := k4.same _ _ k3.at
    have u2 := (k3.same.trans k4.same) _ _ k2.at
    have u1 := (k2.same.trans (k3.same.trans k4.same)) _ _ k1.at
    have u0 := (k1.same.trans (k2.same.trans (k3.same.trans k4.same))) _ _ k0.at
    have tt : ∀ i, i < 4 → ∃ t w' p, [V.ref t0, .ref t1, .ref t2, .ref t3][i]? = some (.ref t) ∧ wds[i + 1]? = some (w', p) ∧ G4 t = some (.tup [.str w', .int (p : Nat)]) := by
      intro i hi
      have : i = 0 ∨ i = 1 ∨ i = 2 ∨ i = 3 := by omega
      rcases this with rfl | rfl | rfl | rfl
      · exact ⟨t0, _, _, rfl, rfl, u0⟩
      · exact ⟨t1, _, _, rfl, rfl, u1⟩
      · exact ⟨t2, _, _, rfl, rfl, u2⟩
      · exact ⟨t3, _, _, rfl, rfl, u3⟩
    refine ⟨tl, rfl, ⟨_, .of k4.at⟩, for_list (K := K) (a := tl) (xs := [.ref t0, .ref t1, .ref t2, .ref t3]) (fun i σ G => G = G4 ∧ ∃ x2 x3, σ = [some (.ref l), some (.str (line (pOf v (wds.take (i + 1))))), x2, x3]) ⟨rfl, none, none, rfl⟩ (fun i σ G _ ⟨e, _⟩ => .of (e ▸ k4.at)) ?_ ?_⟩
    · rintro i y σ G hi ⟨rfl, x2, x3, rfl⟩
      have hi4 : i < 4 := by simpa using (List.getElem?_eq_some_iff.mp hi).1
      obtain ⟨t, w', p, ht, hw, hg⟩ := tt i hi4
      rw [hi] at ht
      cases ht
      have hp6 : p < 6 := by
        have : i = 0 ∨ i = 1 ∨ i = 2 ∨ i = 3 := by omega
        rcases this with rfl | rfl | rfl | rfl <;> (cases hw; decide)
      have tk : wds.take (i + 1 + 1) = wds.take (i + 1) ++ [(w', p)] := by
        obtain ⟨hl', hg'⟩ := List.getElem?_eq_some_iff.mp hw
        rw [List.take_succ_eq_append_getElem hl', hg']
      have ll := line_len (take_ok hv (i + 1))
      have wo := wd_ok (w', p) (List.mem_of_getElem? hw)
      have hne : pOf v (wds.take (i + 1)) ≠ [] := (take_ok hv (i + 1)).ne
      rw [tk, pOf_snoc]
      have hl2 := s04 _ _ hl
      refine ⟨t, _, rfl, .of hg, rfl, _, _, rfl, _, _, rfl, rfl, ?_⟩
      walk_at "rd"
      refine rix_t hl2 (at_map hv.six hp6) ?_
      cases e : at_ v p with
      | none =>
        rw [if_neg (by simp [onV])]
        simp
      | some n =>
        rw [if_pos (by simp [onV])]
        have gp : atI (v6V v) (p : Nat) = some (.int (n : Nat)) := by
          have := at_map hv.six hp6
          rw [e] at this
          exact this
        have dn := dig_short (hv.low p n e)
        have l1 : (Str.ofString " ").length = 1 := by decide +kernel
        have wl : w'.length ≤ 100 := wo.2
        walk_at "rd"
        generalize hL : line (pOf v (wds.take (i + 1))) = L at ll
        refine ⟨big_size ?_, big_size ?_, big_size ?_, rix_t hl2 gp ⟨_, rfl, log_ok (hv.low p n e), big_size ?_, rfl, ?_⟩⟩
        · omega
        · rw [lA]; omega
        · rw [lA, lA]; omega
        · show _ + (dig n).length ≤ _
          rw [lA, lA, lA]; omega
        · rw [line_two hne, hL, sp_eq]
          exact ⟨rfl, _, rfl⟩
    · rintro σ G ⟨rfl, x2, x3, rfl⟩
      walk_at "rd"
      exact q G s04
abbrev sSame : Stmt := top 32
def spSame : Sp := fun vs H Q _ => ∃ (l1 l2 : Addr) (vl : List V6) (us ws : List V), vs = [.ref l1, .ref l2] ∧ H l1 = some (.lst us) ∧ DVs H us (vl.map v6D) ∧ H l2 = some (.lst ws) ∧ DVs H ws (vl.map v6D) ∧ (∀ v ∈ vl, v.length = 6) ∧ vl.length ≤ 900 ∧ Q (.bl true) H
theorem scSame : FnScope ["_law_found", "_law_visits", "_law_k", "_law_one"] ["_law_found", "_law_visits"] (defScope sSame) := ⟨rfl, rfl, rfl, by decide +kernel, rfl, by decide +kernel, by decide +kernel⟩
set_option maxHeartbeats 4000000 in
theorem ok_same {f : Addr} {fd : FuncData} (F : Fun K "_law_same" "_law_same" sSame f fd) (T : Blt mg) (c_l_whole : FnBy P w K mg base CX0 1 "_law_whole" ["_law_found"] spWhole) : FnOk P w K mg base CX0 2 f fd ["_law_found", "_law_visits"] spSame := by
  refine F.ok scSame (fun vs H Q E h => ?_) (fun cdv A outer s H vs Q E hr h => ?_)
  · obtain ⟨l1, l2, vl, us, ws, rfl, _⟩ := h
    rfl
  · obtain ⟨l1, l2, vl, us, ws, rfl, h1, d1, h2, d2, six, hn, q⟩ := h
    have SC := scSame
    have hu0 : A.units + 3 + 100 < cLine := by
      have := hr.un
      have e : (A.deeper (PyProof.Rows.envOfC "_law_same" (defScope sSame) s.heap.objs.size f cdv)).units = A.units + 3 := rfl
      omega
    have lu := d1.length
    have lw := d2.length
    rw [List.length_map] at lu lw
    refine ⟨_, (pss_cutE (ps_if (pw_or (pt_not (pt_val (pe_callB (call_isinst (T := "list")) (by rfl) T.b_isinstance PyProof.Rows.Boot.isinstance (pac (pv 0) (pac (pe_ty (by rfl) T.b_list PyProof.Rows.Boot.list) pa_nil))))) (pw_or1 (pt_cmpR op_ne (pe_callB call_len_seq (by rfl) T.b_len PyProof.Rows.Boot.len (pac (pv 0) pa_nil)) (pe_callB call_len_seq (by rfl) T.b_len PyProof.Rows.Boot.len (pac (pv 1) pa_nil)) (nomark _)))).pt pss_dead pss_nil)
      (pss_cons (ps_for PassesOwn.never rfl (pi_range1 (by rfl) T.b_range (pac (pe_callB call_len_seq (by rfl) T.b_len PyProof.Rows.Boot.len (pac (pv 1) pa_nil)) pa_nil)) (pg_name (i := 2) SC.nd (by rfl) (Or.inl (by rfl))) (pss_cutE (ps_if (pw_or (pt_not (pt_val (pe_callB (call_isinst (T := "tuple")) (by rfl) T.b_isinstance PyProof.Rows.Boot.isinstance (pac (pe_ix ix_seq (pv 0) (pv 2) (by exact fun _ _ => rfl)) (pac (pe_ty (by rfl) T.b_tuple PyProof.Rows.Boot.tuple) pa_nil))))) (pw_or1 (pt_cmpR op_ne (pe_callB call_len_seq (by rfl) T.b_len PyProof.Rows.Boot.len (pac (pe_ix ix_seq (pv 0) (pv 2) (by exact fun _ _ => rfl)) pa_nil)) pe_int (nomark _)))).pt pss_dead pss_nil)
      (pss_cutE (ps_for PassesOwn.never rfl (pi_tup (pe_ix ix_seq (pv 0) (pv 2) (by exact fun _ _ => rfl))) (pg_name (i := 3) SC.nd (by rfl) (Or.inl (by rfl))) (pss_one (ps_if (pw_and (pt_cmpR op_notN (pv 3) pe_non (nomark _)) (pw_and1 (pt_not (pt_val (pe_fn c_l_whole (hr.mono (by decide)) (by rfl) pass0 (pac (pv 3) pa_nil)))))).pt pss_dead pss_nil)))
      (pss_one (ps_if (pt_cmpR op_neD (pe_ix ix_seq (pv 0) (pv 2) (by exact fun _ _ => rfl)) (pe_ix ix_seq (pv 1) (pv 2) (by exact fun _ _ => rfl)) (nomark _)) pss_dead pss_nil)))))
      (pss_one (ps_ret pe_bl)))), ?_⟩
    walk_at "rd"
    refine ⟨fun σ G => G = H ∧ σ = [some (.ref l1), some (.ref l2), none, none], ?_, ?_⟩
    · walk_at "rd"
      refine ⟨_, .lst h1, true, rfl, ?_⟩
      rw [if_neg (by simp)]
      refine ⟨us, .inl (.of h1), ws, .inl (.of h2), ?_⟩
      rw [if_neg (by rw [lu, lw]; simp)]
      trivial
    · rintro σ G ⟨rfl, rfl⟩
      walk_at "rd"
      refine rfor_range (fun R R' hR ⟨v, e, p, e2, x, hs, h⟩ => ⟨v, e, p, e2, x, hs, hR _ _ h⟩) ⟨_, rfl, l2, rfl, ws, .inl (.of h2), _, rfl, by omega, by omega, fun i σ G2 => G2 = G ∧ ∃ x2 x3, σ = [some (.ref l1), some (.ref l2), x2, x3], ⟨rfl, _, _, rfl⟩, ?_, ?_⟩
      · rintro i σ G2 hi ⟨rfl, x2, x3, rfl⟩
        rw [Int.toNat_natCast, lw] at hi
        have hgd : (vl.map v6D)[i]? = some (v6D vl[i]) := by simp [hi]
        obtain ⟨y1, g1, e1⟩ := d1.get (i := i) hgd
        obtain ⟨y2, g2, e2⟩ := d2.get (i := i) hgd
        have e1' := e1
        obtain ⟨t1, rfl, ht1⟩ := v6_of e1
        obtain ⟨t2, rfl, ht2⟩ := v6_of e2
        have h6 := six _ (List.getElem_mem hi)
        generalize vl[i] = v at e1' e1 e2 ht1 ht2 h6
        walk_at "rd"
        simp only [Int.zero_add]
        refine ⟨fun σ G3 => G3 = G2 ∧ σ = [some (.ref l1), some (.ref l2), some (.int (i : Nat)), x3], ?_, ?_⟩
        · walk_at "rd"
          refine rix_l h1 (atI_at g1) ⟨_, .tup ht1, true, rfl, ?_⟩
          rw [if_neg (by simp)]
          refine rix_l h1 (atI_at g1) ⟨t1, rfl, _, .inr (.of ht1), ?_⟩
          rw [if_neg (by unfold v6V; rw [List.length_map, h6]; simp)]
        · rintro σ G3 ⟨rfl, rfl⟩
          walk_at "rd"
          refine ⟨fun σ G4 => G4 = G3 ∧ ∃ x3, σ = [some (.ref l1), some (.ref l2), some (.int (i : Nat)), x3], ?_, ?_⟩
          · refine ⟨_, rfl, _, rfl, rix_l h1 (atI_at g1) ⟨t1, rfl, ⟨_, .of ht1⟩, for_tup (K := K) (a := t1) (xs := v6V v) (fun j σ G4 => G4 = G3 ∧ ∃ x3, σ = [some (.ref l1), some (.ref l2), some (.int (i : Nat)), x3]) ⟨rfl, _, rfl⟩ (fun j σ G4 _ ⟨e, _⟩ => .of (e ▸ ht1)) ?_ ?_⟩⟩
            · rintro j y σ G4 hj ⟨rfl, x3', rfl⟩
              unfold v6V at hj
              rw [List.getElem?_map] at hj
              walk_at "rd"
              cases ej : v[j]? with
              | none => rw [ej] at hj; cases hj
              | some o =>
                rw [ej] at hj
                cases hj
                cases o with
                | none =>
                  rw [if_neg (by simp [onV]), if_neg (by simp)]
                  first | exact ⟨rfl, _, rfl⟩ | exact ⟨_, rfl⟩ | trivial
                | some n =>
                  rw [if_pos (by simp [onV])]
                  refine ⟨_, .int _, rfl, dv_int, true, rfl, ?_⟩
                  rw [if_neg (by simp)]
                  first | exact ⟨rfl, _, rfl⟩ | exact ⟨_, rfl⟩ | trivial
            · rintro σ G4 h
              exact h
          · rintro σ G4 ⟨rfl, x3', rfl⟩
            walk_at "rd"
            refine rix_l h1 (atI_at g1) (rix_l h2 (atI_at g2) ⟨_, _, .inr ⟨e1', e2⟩, ?_, ?_⟩)
            · show A.units + 3 + 1 + _ + _ < cLine
              rw [v6_deps]
              omega
            · rw [Dat.beqs_refl]
              refine ⟨false, rfl, ?_⟩
              rw [if_neg (by simp)]
              exact ⟨rfl, _, rfl⟩
      · rintro σ G2 ⟨rfl, x2, x3, rfl⟩
        exact q
end
open Tx
/-! the law's bad tails -/
def tails (t : Nat) : List Str := [lit "", lit " 5", lit " draws", lit " draws 0", lit " draws 01", lit " draws x", lit " draws -1"] ++ [later t, lit " draws 1 lowers " ++ dig t, later t ++ lit " draws 1"] ++ [lit " enters " ++ dig (t + 1), lit " draws 1 enters " ++ dig (t + 1)] ++ [lit " draws 1 draws 1", lit " draws  1", lit "  draws 1", lit " draws 1 "] ++ [lit " leaves " ++ dig t, lit " draws 1" ++ later t ++ lit " leaves " ++ dig (t + 1)] ++ [last t ++ lit " enters " ++ dig (t + 1), last t ++ lit " leaves " ++ dig (t + 1)] ++ [last t ++ lit " enters " ++ dig (t + 3) ++ lit " leaves " ++ dig (t + 3)] ++ [lit " leaves " ++ dig (t + 4) ++ lit " draws 1", lit " Draws 1"]
theorem lA (a b : Str) : (a ++ b).length = a.length + b.length := Str.length_append a b
theorem z1 : (Str.ofString " lowers ").length = 8 := by decide +kernel
theorem z2 : (Str.ofString " draws 1 lowers ").length = 16 := by decide +kernel
theorem z3 : (Str.ofString " draws 1").length = 8 := by decide +kernel
theorem z4 : (Str.ofString " enters ").length = 8 := by decide +kernel
theorem z5 : (Str.ofString " draws 1 enters ").length = 16 := by decide +kernel
theorem z6 : (Str.ofString " leaves ").length = 8 := by decide +kernel
theorem z7 : (Str.ofString "7 wants ").length = 8 := by decide +kernel
local macro_rules | `(tactic| walk_at "sz") => `(tactic| (refine big_size ?_; simp only [lA, z1, z2, z3, z4, z5, z6, z7]; omega))
section
variable {P : Program} {w : World} {K : PySem.W.Frag} {mg : Str → Option Value} {base : Heap}
abbrev sTails : Stmt := top 33
def spTails : Sp := fun vs H Q _ => ∃ t : Nat, vs = [.int (t : Nat)] ∧ t + 4 < 10 ^ 100 ∧ ∀ l G, Same H G → G l = some (.lst ((tails t).map V.str)) → Q (.ref l) G
theorem scTails : FnScope ["_law_time", "_law_rows", "_law_later", "_law_last"] ["_law_time"] (defScope sTails) := ⟨rfl, rfl, rfl, by decide +kernel, rfl, by decide +kernel, by decide +kernel⟩
set_option maxHeartbeats 4000000 in
theorem ok_tails {f : Addr} {fd : FuncData} (F : Fun K "_law_bad_tails" "_law_bad_tails" sTails f fd) (T : Blt mg) : FnOk P w K mg base CX0 1 f fd ["_law_time"] spTails := by
  refine F.ok scTails (fun vs H Q E h => ?_) (fun cdv A outer s H vs Q E hr h => ?_)
  · obtain ⟨t, rfl, _⟩ := h
    rfl
  · obtain ⟨t, rfl, ht, q⟩ := h
    have SC := scTails
    refine ⟨_, (pss_cons (ps_set (i := 1) SC.nd (by rfl) (Or.inl (by rfl)) (pe_lstN (pac pe_str (pac pe_str (pac pe_str (pac pe_str (pac pe_str (pac pe_str (pac pe_str pa_nil)))))))))
      (pss_cons (ps_set (i := 2) SC.nd (by rfl) (Or.inl (by rfl)) (pe_op op_add_str pe_str (pe_callTy call_str_int (by rfl) T.b_str PyProof.Rows.Boot.str (pac (pe_op op_add (pv 0) pe_int) pa_nil))))
      (pss_cons (ps_expr (pe_bm PySem.F.plainAttrs_list PySem.F.slot_list_extend PySem.F.type_list_extend mt_extendN (pv 1) (pac (pe_lstN (pac (pv 2) (pac (pe_op op_add_str pe_str (pe_callTy call_str_int (by rfl) T.b_str PyProof.Rows.Boot.str (pac (pv 0) pa_nil))) (pac (pe_op op_add_str (pv 2) pe_str) pa_nil)))) pa_nil)))
      (pss_cons (ps_expr (pe_bm PySem.F.plainAttrs_list PySem.F.slot_list_extend PySem.F.type_list_extend mt_extendN (pv 1) (pac (pe_lstN (pac (pe_op op_add_str pe_str (pe_callTy call_str_int (by rfl) T.b_str PyProof.Rows.Boot.str (pac (pe_op op_add (pv 0) pe_int) pa_nil))) (pac (pe_op op_add_str pe_str (pe_callTy call_str_int (by rfl) T.b_str PyProof.Rows.Boot.str (pac (pe_op op_add (pv 0) pe_int) pa_nil))) pa_nil))) pa_nil)))
      (pss_cons (ps_expr (pe_bm PySem.F.plainAttrs_list PySem.F.slot_list_extend PySem.F.type_list_extend mt_extendN (pv 1) (pac (pe_lstN (pac pe_str (pac pe_str (pac pe_str (pac pe_str pa_nil))))) pa_nil)))
      (pss_cons (ps_expr (pe_bm PySem.F.plainAttrs_list PySem.F.slot_list_extend PySem.F.type_list_extend mt_extendN (pv 1) (pac (pe_lstN (pac (pe_op op_add_str pe_str (pe_callTy call_str_int (by rfl) T.b_str PyProof.Rows.Boot.str (pac (pv 0) pa_nil))) (pac (pe_op op_add_str (pe_op op_add_str (pe_op op_add_str pe_str (pv 2)) pe_str) (pe_callTy call_str_int (by rfl) T.b_str PyProof.Rows.Boot.str (pac (pe_op op_add (pv 0) pe_int) pa_nil))) pa_nil))) pa_nil)))
      (pss_cons (ps_set (i := 3) SC.nd (by rfl) (Or.inl (by rfl)) (pe_op op_add_str pe_str (pe_callTy call_str_int (by rfl) T.b_str PyProof.Rows.Boot.str (pac (pe_op op_add (pv 0) pe_int) pa_nil))))
      (pss_cons (ps_expr (pe_bm PySem.F.plainAttrs_list PySem.F.slot_list_extend PySem.F.type_list_extend mt_extendN (pv 1) (pac (pe_lstN (pac (pe_op op_add_str (pe_op op_add_str (pv 3) pe_str) (pe_callTy call_str_int (by rfl) T.b_str PyProof.Rows.Boot.str (pac (pe_op op_add (pv 0) pe_int) pa_nil))) (pac (pe_op op_add_str (pe_op op_add_str (pv 3) pe_str) (pe_callTy call_str_int (by rfl) T.b_str PyProof.Rows.Boot.str (pac (pe_op op_add (pv 0) pe_int) pa_nil))) pa_nil))) pa_nil)))
      (pss_cons (ps_expr (pe_bm PySem.F.plainAttrs_list PySem.F.slot_list_append PySem.F.type_list_append mt_appendN (pv 1) (pac (pe_op op_add_str (pe_op op_add_str (pe_op op_add_str (pe_op op_add_str (pv 3) pe_str) (pe_callTy call_str_int (by rfl) T.b_str PyProof.Rows.Boot.str (pac (pe_op op_add (pv 0) pe_int) pa_nil))) pe_str) (pe_callTy call_str_int (by rfl) T.b_str PyProof.Rows.Boot.str (pac (pe_op op_add (pv 0) pe_int) pa_nil))) pa_nil)))
      (pss_one (ps_ret (pe_op op_catN (pv 1) (pe_lstN (pac (pe_op op_add_str (pe_op op_add_str pe_str (pe_callTy call_str_int (by rfl) T.b_str PyProof.Rows.Boot.str (pac (pe_op op_add (pv 0) pe_int) pa_nil))) pe_str) (pac pe_str pa_nil))))))))))))))), ?_⟩
    have o0 := log_ok (n := t) (by omega)
    have o1 : ((t : Int) + 1).natAbs.log2 < 1920 := log_ok (n := t + 1) (by omega)
    have o2 : ((t : Int) + 2).natAbs.log2 < 1920 := log_ok (n := t + 2) (by omega)
    have o3 : ((t : Int) + 3).natAbs.log2 < 1920 := log_ok (n := t + 3) (by omega)
    have o4 : ((t : Int) + 4).natAbs.log2 < 1920 := log_ok (n := t + 4) (by omega)
    have d0 : Str.ofString (toString ((t : Nat) : Int)) = dig t := rfl
    have d1 : Str.ofString (toString ((t : Int) + 1)) = dig (t + 1) := rfl
    have d2 : Str.ofString (toString ((t : Int) + 2)) = dig (t + 2) := rfl
    have d3 : Str.ofString (toString ((t : Int) + 3)) = dig (t + 3) := rfl
    have d4 : Str.ofString (toString ((t : Int) + 4)) = dig (t + 4) := rfl
    have b0 := dig_short (n := t) (by omega)
    have b1 := dig_short (n := t + 1) (by omega)
    have b2 := dig_short (n := t + 2) (by omega)
    have b3 := dig_short (n := t + 3) (by omega)
    have b4 := dig_short (n := t + 4) (by omega)
    walk_at "rd"
    simp only [d0, d1, d2, d3, d4, o0, o1, o2, o3, o4, true_and]
    refine ⟨by decide, fun l G0 n0 => ⟨by walk_at "sz", .inl ⟨rfl, _, .of n0.at⟩, by walk_at "sz", by walk_at "sz", by decide, fun p1 G1 n1 => ⟨l, p1, _, _, rfl, rfl, n1.same _ _ n0.at, n1.at, le_size (by simp), fun G2 u2 => ?_⟩⟩⟩
    have fl := n0.free
    have s2 := u2.same (n0.same.trans n1.same) fl
    refine ⟨.inl ⟨rfl, _, .of u2.at⟩, by walk_at "sz", by walk_at "sz", by decide, fun p3 G3 n3 => ⟨l, p3, _, _, rfl, rfl, n3.same _ _ u2.at, n3.at, le_size (by simp), fun G4 u4 => ?_⟩⟩
    have s4 := u4.same (s2.trans n3.same) fl
    refine ⟨.inl ⟨rfl, _, .of u4.at⟩, by decide, fun p5 G5 n5 => ⟨l, p5, _, _, rfl, rfl, n5.same _ _ u4.at, n5.at, le_size (by simp), fun G6 u6 => ?_⟩⟩
    have s6 := u6.same (s4.trans n5.same) fl
    refine ⟨.inl ⟨rfl, _, .of u6.at⟩, by walk_at "sz", by walk_at "sz", by walk_at "sz", by walk_at "sz", by decide, fun p7 G7 n7 => ⟨l, p7, _, _, rfl, rfl, n7.same _ _ u6.at, n7.at, le_size (by simp), fun G8 u8 => ?_⟩⟩
    have s8 := u8.same (s6.trans n7.same) fl
    refine ⟨by walk_at "sz", .inl ⟨rfl, _, .of u8.at⟩, by walk_at "sz", by walk_at "sz", by walk_at "sz", by walk_at "sz", by decide, fun p9 G9 n9 => ⟨l, p9, _, _, rfl, rfl, n9.same _ _ u8.at, n9.at, le_size (by simp), fun G10 u10 => ?_⟩⟩
    have s10 := u10.same (s8.trans n9.same) fl
    refine ⟨.inl ⟨rfl, _, .of u10.at⟩, by walk_at "sz", by walk_at "sz", by walk_at "sz", by walk_at "sz", l, _, _, rfl, rfl, u10.at, lt_size (by simp), fun G11 u11 => ?_⟩
    have s11 := u11.same s10 fl
    refine ⟨by walk_at "sz", by walk_at "sz", by decide, fun p12 G12 n12 => ⟨l, p12, _, _, rfl, rfl, n12.same _ _ u11.at, n12.at, le_size (by simp), fun p13 G13 n13 => ?_⟩⟩
    exact q p13 G13 (s11.trans (n12.same.trans n13.same)) n13.at
end
open Tx
/-! the law's visits -/
theorem at_ints (ns : List Nat) (c : Int) (m : Nat) (h : 0 < ns.length) : atI (ns.map fun n : Nat => V.int n) (c * 48271 % m % (ns.length : Nat)) = some (.int (ns.getD (idx c m ns.length) 0 : Nat)) := by
  have hi := idx_lt c m ns.length h
  have e : c * 48271 % m % (ns.length : Nat) = ((idx c m ns.length : Nat) : Int) := by
    unfold idx
    have h1 := Int.emod_nonneg (c * 48271 % m) (show (ns.length : Int) ≠ 0 by omega)
    omega
  rw [e]
  refine atI_at ?_
  rw [List.getElem?_map, List.getElem?_eq_getElem hi, List.getD_eq_getElem?_getD, List.getElem?_eq_getElem hi]
  rfl
theorem cut_take9 (xs : List V) (k : Nat) : cutV xs none (some ((k : Nat) : Int)) = xs.take k := by
  unfold cutV
  rw [HT.sIx_nat, HT.sIx_none, List.drop_zero, Nat.sub_zero]
  rcases Nat.le_total k xs.length with h | h
  · rw [Nat.min_eq_left h]
  · rw [Nat.min_eq_right h, List.take_length, List.take_of_length_le h]
theorem i90 : PySem.intText? (Str.ofString "1" ++ PySem.Txt.mul (Str.ofString "0") 90) = some (mod90 : Int) := by decide +kernel
theorem m90 : MulOk (Str.ofString "0") 90 := ⟨by decide +kernel, fun _ _ => by decide +kernel, fun _ _ => by decide +kernel⟩
def rowV (c : Int) (t : Nat) : List V := [if 1 ≤ idx c 1031 4 then .int (tickOf c : Nat) else .non, if 2 ≤ idx c 1031 4 then .int (t + lowD c : Nat) else .non, if 3 ≤ idx c 1031 4 then .int (t + lowD c + entD c : Nat) else .non]
theorem on_if {p : Prop} [Decidable p] (n : Nat) : onV (if p then some n else none) = if p then V.int (n : Nat) else .non := by split <;> rfl
def optsV (c : Int) (t : Nat) : List (Option Nat) := [if 2 ≤ idx c 1031 4 then some (t + lowD c) else none, if 3 ≤ idx c 1031 4 then some (t + lowD c + entD c) else none]
theorem mx_of {c : Int} {t : Nat} {M : Int} (hn : idx c 1031 4 < 4) (hl : 0 < lowD c) (hM : M ∈ (t :: (optsV c t).filterMap id).map fun n : Nat => (n : Int)) (hall : ∀ a ∈ (t :: (optsV c t).filterMap id).map (fun n : Nat => (n : Int)), a ≤ M) : M = ((mxOf (idx c 1031 4) t (t + lowD c) (t + lowD c + entD c) : Nat) : Int) := by
  unfold optsV at hM hall
  unfold mxOf
  generalize idx c 1031 4 = n at *
  have : n = 0 ∨ n = 1 ∨ n = 2 ∨ n = 3 := by omega
  rcases this with rfl | rfl | rfl | rfl <;> simp at hM hall ⊢ <;> omega
section
variable {P : Program} {w : World} {K : PySem.W.Frag} {mg : Str → Option Value} {base : Heap}
abbrev sVBy : Stmt := top 28
def spVBy : Sp := fun vs H Q _ => ∃ (a : Addr) (ns : List Int), vs = [.ref a] ∧ H a = some (.lst (ns.map V.int)) ∧ ns.length ≤ 150 ∧ ∀ l ws G, Same H G → G l = some (.lst ws) → DVs G ws ((drs ns ns.length).map fun d => v6D d.v6) → Q (.ref l) G
abbrev nmVBy : List Str := ["_law_cells", "_law_large", "_law_visits", "_law_time", "_law_k", "_law_cell", "_law_ticket", "_law_lowered", "_law_entered", "_law_row", "_law_left", "_law_hand"]
theorem scVBy : FnScope nmVBy ["_law_cells"] (defScope sVBy) := ⟨rfl, rfl, rfl, by decide +kernel, rfl, by decide +kernel, by decide +kernel⟩
set_option maxHeartbeats 4000000 in
theorem ok_vBy {f : Addr} {fd : FuncData} (F : Fun K "_law_visits_by" "_law_visits_by" sVBy f fd) (T : Blt mg) (b_max : mg "max" = none) : FnOk P w K mg base CX0 1 f fd ["_law_cells"] spVBy := by
  refine F.ok scVBy (fun vs H Q E h => ?_) (fun cdv A outer s H vs Q E hr h => ?_)
  · obtain ⟨t, ns, rfl, _⟩ := h
    rfl
  · obtain ⟨a, ns, rfl, ha, hn, q⟩ := h
    have SC := scVBy
    refine ⟨_, (pss_cons (ps_set (i := 1) SC.nd (by rfl) (Or.inl (by rfl)) pe_int)
      (pss_cons (ps_set (i := 2) SC.nd (by rfl) (Or.inl (by rfl)) (pe_lstN pa_nil))
      (pss_cons (ps_set (i := 3) SC.nd (by rfl) (Or.inl (by rfl)) pe_int)
      (pss_cons (ps_for PassesOwn.never rfl (pi_range1 (by rfl) T.b_range (pac (pe_callB call_len_seq (by rfl) T.b_len PyProof.Rows.Boot.len (pac (pv 0) pa_nil)) pa_nil)) (pg_name (i := 4) SC.nd (by rfl) (Or.inl (by rfl))) (pss_cons (ps_set (i := 5) SC.nd (by rfl) (Or.inl (by rfl)) (pe_op op_add (pe_ix ix_seq (pv 0) (pv 4) (by exact fun _ _ => rfl)) (pe_op op_mul pe_int (pv 4))))
      (pss_cons (ps_set (i := 3) SC.nd (by rfl) (Or.inl (by rfl)) (pe_op op_add (pv 3) (pe_ix ix_seq (pe_lstN (pac pe_int (pac pe_int (pac pe_int (pac (pv 1) pa_nil))))) (pe_op op_mod (pe_op op_mod (pe_op op_mul (pv 5) pe_int) pe_int) pe_int) (by exact fun _ _ => rfl))))
      (pss_cons (ps_set (i := 6) SC.nd (by rfl) (Or.inl (by rfl)) (pe_ix ix_seq (pe_lstN (pac pe_int (pac pe_int (pac pe_int (pac (pe_op op_add pe_int (pe_op op_mod (pv 5) (pe_callTy call_intS (by rfl) T.b_int PyProof.Rows.Boot.int (pac (pe_op op_add_str pe_str (pe_op op_mulS pe_str pe_int)) pa_nil)))) pa_nil))))) (pe_op op_mod (pe_op op_mod (pe_op op_mul (pv 5) pe_int) pe_int) pe_int) (by exact fun _ _ => rfl)))
      (pss_cons (ps_set (i := 7) SC.nd (by rfl) (Or.inl (by rfl)) (pe_op op_add (pv 3) (pe_ix ix_seq (pe_lstN (pac pe_int (pac pe_int (pac (pv 1) pa_nil)))) (pe_op op_mod (pe_op op_mod (pe_op op_mul (pv 5) pe_int) pe_int) pe_int) (by exact fun _ _ => rfl))))
      (pss_cons (ps_set (i := 8) SC.nd (by rfl) (Or.inl (by rfl)) (pe_op op_add (pv 7) (pe_ix ix_seq (pe_lstN (pac pe_int (pac pe_int (pac pe_int pa_nil)))) (pe_op op_mod (pe_op op_mod (pe_op op_mul (pv 5) pe_int) pe_int) pe_int) (by exact fun _ _ => rfl))))
      (pss_cons (ps_set (i := 9) SC.nd (by rfl) (Or.inl (by rfl)) (pe_slice sl_list (pe_lstN (pac (pv 6) (pac (pv 7) (pac (pv 8) pa_nil)))) po_none (po_some (pe_op op_mod (pe_op op_mod (pe_op op_mul (pv 5) pe_int) pe_int) pe_int))))
      (pss_cutE (ps_set (i := 9) SC.nd (by rfl) (Or.inl (by rfl)) (pe_op op_catN (pv 9) (pe_op op_repN (pe_lstN (pac pe_non pa_nil)) (pe_op op_sub pe_int (pe_callB call_len_seq (by rfl) T.b_len PyProof.Rows.Boot.len (pac (pv 9) pa_nil))))))
      (pss_cons (ps_set (i := 10) SC.nd (by rfl) (Or.inl (by rfl)) pe_non)
      (pss_cutE (ps_if (pt_cmpR op_eq (pe_op op_mod (pe_op op_mod (pe_op op_mul (pv 5) pe_int) pe_int) pe_int) pe_int (nomark _)) (pss_one (ps_set (i := 10) SC.nd (by rfl) (Or.inl (by rfl)) (pe_op op_add (pe_callB (call_maxL rfl) (by rfl) b_max PyProof.Rows.Boot.max (pac (pe_op op_catN (pe_lstN (pac (pv 3) pa_nil)) (pe_lc (N' := ["_law_one"]) (ix := [none]) (by exact comp_sc rfl (by rfl) (by rfl)) rfl (pi_list (pe_slice sl_list (pv 9) (po_some pe_int) po_none)) (fun _ _ _ _ _ => (pg_comp (i := 0) (by decide +kernel) (by rfl) (by rfl))) (fun _ _ _ _ _ => (pts_one (pt_cmpR op_notN (pv 0) pe_non (nomark _)))) (fun _ _ _ _ _ => (pv 0)))) pa_nil)) pe_int))) pss_nil)
      (pss_cons (ps_set (i := 11) SC.nd (by rfl) (Or.inl (by rfl)) (pe_ix ix_seq (pe_lstN (pac pe_int (pac pe_int (pac pe_int (pac (pv 1) pa_nil))))) (pe_op op_mod (pe_op op_mod (pe_op op_mul (pv 5) pe_int) pe_int) pe_int) (by exact fun _ _ => rfl)))
      (pss_one (ps_expr (pe_bm PySem.F.plainAttrs_list PySem.F.slot_list_append PySem.F.type_list_append mt_appendN (pv 2) (pac (pe_tupN (pac (pv 11) (pac (pv 3) (pac (pe_ix ix_seq (pv 9) pe_int (by exact fun _ _ => rfl)) (pac (pe_ix ix_seq (pv 9) pe_int (by exact fun _ _ => rfl)) (pac (pe_ix ix_seq (pv 9) pe_int (by exact fun _ _ => rfl)) (pac (pv 10) pa_nil))))))) pa_nil)))))))))))))))
      (pss_one (ps_ret (pv 2))))))), ?_⟩
    walk_at "rd"
    refine ⟨Nat.zero_le _, fun lv G0 n0 => ?_⟩
    have fv := n0.free
    refine rfor_range (fun R R' hR ⟨v, e, p, e2, x, hs, h⟩ => ⟨v, e, p, e2, x, hs, hR _ _ h⟩) ⟨_, rfl, a, rfl, _, .inl (.of (n0.same _ _ ha)), _, rfl, by rw [List.length_map]; omega, by rw [List.length_map]; omega, fun k σ G => ∃ x4 x5 x6 x7 x8 x9 x10 x11 ws, σ = [some (.ref a), some (.int (big : Nat)), some (.ref lv), some (.int (tmAt ns k : Nat)), x4, x5, x6, x7, x8, x9, x10, x11] ∧ Same H G ∧ G lv = some (.lst ws) ∧ DVs G ws ((drs ns k).map fun d => v6D d.v6), ⟨none, none, none, none, none, none, none, none, [], rfl, n0.same, n0.at, .nil⟩, ?_, ?_⟩
    · rintro k σ G hk ⟨x4, x5, x6, x7, x8, x9, x10, x11, ws, rfl, sG, el, dw⟩
      rw [Int.toNat_natCast, List.length_map] at hk
      walk_at "rd"
      simp only [Int.zero_add]
      refine rix_l (sG _ _ ha) (v := .int (ns.getD k 0)) ?_ ?_
      · refine atI_at ?_
        rw [List.getElem?_map, List.getElem?_eq_getElem hk, List.getD_eq_getElem?_getD, List.getElem?_eq_getElem hk]
        rfl
      refine ⟨cmul_7 _, _, rfl, ?_⟩
      have ec : ns.getD k 0 + 7 * (k : Int) = cellAt ns k := rfl
      have etm : tmAt ns (k + 1) = tmAt ns k + inc (cellAt ns k) := rfl
      have eds := drs_succ ns k
      rw [etm] at eds
      simp only [ec, etm, eds]
      have dl : (drs ns k).length = k := by unfold drs; simp
      generalize drs ns k = D at dw dl
      generalize cellAt ns k = c
      generalize tmAt ns k = t0
      have e90 : (1 : Int) + c % (mod90 : Int) = ((1 + (c % (mod90 : Int)).toNat : Nat) : Int) := by
        have h1 := Int.emod_nonneg c (show (mod90 : Int) ≠ 0 by unfold mod90; decide)
        generalize c % (mod90 : Int) = x at h1
        omega
      refine ⟨by decide, fun p1 G1 k1 => ⟨cmul_a _, rix_l k1.at (show _ = some (.int (inc c : Nat)) from at_ints [1, 3, 10, big] c 1009 (by decide)) ⟨_, rfl, m90, big_size (by decide +kernel), _, i90, by decide +kernel, by decide +kernel, by decide, fun p2 G2 k2 => ?_⟩⟩⟩
      rw [e90] at k2
      refine ⟨cmul_a _, rix_l k2.at (show _ = some (.int (tickOf c : Nat)) from at_ints (tickL c) c 1013 (by show 0 < 4; decide)) ⟨by decide, fun p3 G3 k3 => ⟨cmul_a _, rix_l k3.at (show _ = some (.int (lowD c : Nat)) from at_ints [1, 2, big] c 1019 (by decide)) ⟨_, rfl, by decide, fun p4 G4 k4 => ⟨cmul_a _, rix_l k4.at (show _ = some (.int (entD c : Nat)) from at_ints [0, 1, 10] c 1021 (by decide)) ⟨_, rfl, ?_⟩⟩⟩⟩⟩⟩
      have s4 : Same H G4 := sG.trans (k1.same.trans (k2.same.trans (k3.same.trans k4.same)))
      have sG4 : Same G G4 := k1.same.trans (k2.same.trans (k3.same.trans k4.same))
      have el4 := sG4 _ _ el
      have dw4 := DVs.mono sG4 dw
      simp only [← Int.natCast_add]
      generalize ht : t0 + inc c = t
      clear k1 k2 k3 k4
      refine ⟨_, rfl, _, rfl, _, rfl, by show 3 ≤ sizeLine; decide, fun p5 G5 k5 => ⟨_, rfl, _, _, rfl, rfl, cmul_a _, _, _, rfl, rfl, (show (0 : Int) < 1031 by decide), _, _, rfl, rfl, (show (0 : Int) < 4 by decide), _, rfl, p5, _, rfl, .of k5.at, fun p6 hp6 => ?_⟩⟩
      have hn4 := idx_lt c 1031 4 (by decide)
      have en : c * 48271 % 1031 % 4 = ((idx c 1031 4 : Nat) : Int) := by
        unfold idx
        have h1 := Int.emod_nonneg (c * 48271 % 1031) (show (4 : Int) ≠ 0 by decide)
        show _ = (((c * 48271 % 1031 % 4).toNat : Nat) : Int)
        omega
      rw [en]
      rw [cut_take9]
      have k6 : New G5 p6 (.lst (List.take (idx c 1031 4) [.int (tickOf c : Nat), .int (t + lowD c : Nat), .int (t + lowD c + entD c : Nat)])) (upd G5 p6 (.lst (List.take (idx c 1031 4) [.int (tickOf c : Nat), .int (t + lowD c : Nat), .int (t + lowD c + entD c : Nat)]))) := ⟨hp6, rfl⟩
      generalize upd G5 p6 (.lst (List.take (idx c 1031 4) [.int (tickOf c : Nat), .int (t + lowD c : Nat), .int (t + lowD c + entD c : Nat)])) = G6 at k6
      have s46 := k5.same.trans k6.same
      have el6 := s46 _ _ el4
      have dw6 := DVs.mono s46 dw4
      have s6 := s4.trans s46
      refine ⟨fun σ G7 => ∃ r9, σ = [some (.ref a), some (.int (big : Nat)), some (.ref lv), some (.int (t : Nat)), some (.int (k : Nat)), some (.int c), some (.int (tickOf c : Nat)), some (.int (t + lowD c : Nat)), some (.int (t + lowD c + entD c : Nat)), some (.ref r9), x10, x11] ∧ Same H G7 ∧ G7 r9 = some (.lst (rowV c t)) ∧ G7 lv = some (.lst ws) ∧ DVs G7 ws (D.map fun d => v6D d.v6), ?_, ?_⟩
      · walk_at "rd"
        refine ⟨by decide, fun p7 G7 k7 => ⟨_, .inl (.of (k7.same _ _ k6.at)), ?_⟩⟩
        have row : List.take (idx c 1031 4) [V.int (tickOf c : Nat), .int (t + lowD c : Nat), .int (t + lowD c + entD c : Nat)] ++ (List.replicate ((3 : Int) - ((List.take (idx c 1031 4) [V.int (tickOf c : Nat), .int (t + lowD c : Nat), .int (t + lowD c + entD c : Nat)]).length : Nat)).toNat [V.non]).flatten = rowV c t := by
          unfold rowV
          have : idx c 1031 4 = 0 ∨ idx c 1031 4 = 1 ∨ idx c 1031 4 = 2 ∨ idx c 1031 4 = 3 := by omega
          rcases this with h | h | h | h <;> rw [h] <;> rfl
        have tl : (List.take (idx c 1031 4) [V.int (tickOf c : Nat), .int (t + lowD c : Nat), .int (t + lowD c + entD c : Nat)]).length ≤ 3 := by rw [List.length_take]; exact Nat.min_le_right _ _
        have k6a := k6.at
        generalize List.take (idx c 1031 4) [V.int (tickOf c : Nat), .int (t + lowD c : Nat), .int (t + lowD c + entD c : Nat)] = R at row tl k6a
        refine ⟨p7, _, _, rfl, rfl, k7.at, by omega, by omega, le_size (by simp; omega), fun p8 G8 k8 => ⟨p6, p8, _, _, rfl, rfl, (k7.same.trans k8.same) _ _ k6a, k8.at, le_size (by simp; omega), fun p9 G9 k9 => ⟨p9, rfl, ?_, ?_, ?_, ?_⟩⟩⟩
        · exact s6.trans (k7.same.trans (k8.same.trans k9.same))
        · rw [k9.at, row]
        · exact (k7.same.trans (k8.same.trans k9.same)) _ _ el6
        · exact DVs.mono (k7.same.trans (k8.same.trans k9.same)) dw6
      · rintro σ G9 ⟨r9, rfl, s9, hr9, el9, dw9⟩
        clear k5 k6 s46 el6 dw6 s6 el4 dw4 s4 sG4 el dw sG
        walk_at "rd"
        refine ⟨fun σ G10 => σ = [some (.ref a), some (.int (big : Nat)), some (.ref lv), some (.int (t : Nat)), some (.int (k : Nat)), some (.int c), some (.int (tickOf c : Nat)), some (.int (t + lowD c : Nat)), some (.int (t + lowD c + entD c : Nat)), some (.ref r9), some (onV (drOf c t).left), x11] ∧ Same G9 G10, ?_, ?_⟩
        · walk_at "rd"
          have ez : c * 48271 % 1033 % 2 = ((idx c 1033 2 : Nat) : Int) := by
            unfold idx
            have h1 := Int.emod_nonneg (c * 48271 % 1033) (show (2 : Int) ≠ 0 by decide)
            show _ = (((c * 48271 % 1033 % 2).toNat : Nat) : Int)
            omega
          have eleft : (drOf c t).left = if idx c 1033 2 = 1 then some (mxOf (idx c 1031 4) t (t + lowD c) (t + lowD c + entD c) + 1) else none := rfl
          refine ⟨cmul_a _, ?_⟩
          by_cases z : idx c 1033 2 = 1
          · rw [if_pos (by omega)]
            rw [if_pos z] at eleft
            have ecut : cutV (rowV c t) (some 1) none = (optsV c t).map onV := by
              have h0 : cutV (rowV c t) (some 1) none = [if 2 ≤ idx c 1031 4 then .int (t + lowD c : Nat) else .non, if 3 ≤ idx c 1031 4 then .int (t + lowD c + entD c : Nat) else .non] := rfl
              rw [h0]
              unfold optsV
              simp only [List.map_cons, List.map_nil, on_if]
            refine ⟨by decide, fun p10 G10 k10 => rlc_list (fun R R' hR ⟨v, e, i, ei, a, xs, ea, hs, h⟩ => ⟨v, e, i, ei, a, xs, ea, hs, fun p hp => hR _ _ (h p hp)⟩) ⟨_, rfl, 1, rfl, r9, _, rfl, .of (k10.same _ _ hr9), fun p11 hp11 => ?_⟩⟩
            rw [ecut]
            have k11 : New G10 p11 (.lst ((optsV c t).map onV)) (upd G10 p11 (.lst ((optsV c t).map onV))) := ⟨hp11, rfl⟩
            generalize upd G10 p11 (.lst ((optsV c t).map onV)) = G11 at k11
            refine ⟨p11, _, rfl, .of k11.at, fun acc hacc => ⟨fun i σ G => ∃ x, σ = [x] ∧ Same G11 G ∧ G acc = some (.lst ((((optsV c t).take i).filterMap id).map fun n : Nat => V.int n)), ⟨none, rfl, (Same.refl _).new hacc, upd_same⟩, fun i σ G _ ⟨_, _, s, _⟩ => .of (s _ _ k11.at), ?_, ?_⟩⟩
            · rintro i y σ G hi ⟨x, rfl, sG, eG⟩
              rw [List.getElem?_map] at hi
              have ol : (optsV c t).length = 2 := rfl
              cases eo : (optsV c t)[i]? with
              | none => rw [eo] at hi; cases hi
              | some o =>
                rw [eo] at hi
                cases hi
                obtain ⟨hil, hgo⟩ := List.getElem?_eq_some_iff.mp eo
                have tk : (optsV c t).take (i + 1) = (optsV c t).take i ++ [o] := by rw [List.take_succ_eq_append_getElem hil, hgo]
                have fl : (((optsV c t).take i).filterMap id).length ≤ 2 := Nat.le_trans (List.length_filterMap_le _ _) (by rw [List.length_take]; omega)
                walk_at "rd"
                rw [tk, List.filterMap_append, List.map_append]
                cases o with
                | none =>
                  rw [if_neg (by simp [onV])]
                  exact ⟨sG, by simpa using eG⟩
                | some n =>
                  rw [if_pos (by simp [onV])]
                  refine ⟨_, eG, lt_size (by rw [List.length_map]; omega), sG.put hacc, ?_⟩
                  rw [upd_same]
                  rfl
            · rintro σ G ⟨x, rfl, sG, eG⟩
              rw [show ((optsV c t).map onV).length = 2 from rfl, show (optsV c t).take 2 = optsV c t from rfl] at eG
              have fl : ((optsV c t).filterMap id).length ≤ 2 := List.length_filterMap_le _ _
              refine ⟨p10, acc, _, _, rfl, rfl, (k11.same.trans sG) _ _ k10.at, eG, le_size (by simp; omega), fun p12 G12 k12 => ⟨p12, rfl, (t :: (optsV c t).filterMap id).map fun n : Nat => (n : Int), ?_, by simp, fun M hM hall => ⟨?_, ?_⟩⟩⟩
              · rw [k12.at, List.map_map]
                rfl
              · rw [eleft]
                have hm := mx_of hn4 (low_pos c).1 hM hall
                rw [hm]
                rfl
              · exact k10.same.trans (k11.same.trans (sG.trans k12.same))
          · rw [if_neg (by omega)]
            rw [if_neg z] at eleft
            rw [eleft]
            exact ⟨rfl, Same.refl _⟩
        · rintro σ G10 ⟨rfl, s10⟩
          have hr10 := s10 _ _ hr9
          have el10 := s10 _ _ el9
          have dw10 := DVs.mono s10 dw9
          walk_at "rd"
          have el2 := dw10.length
          rw [List.length_map] at el2
          refine ⟨by decide, fun p11 G11 k11 => ⟨cmul_a _, rix_l k11.at (show _ = some (.int (handOf c : Nat)) from at_ints [0, 2, 10, big] c 1039 (by decide)) ⟨.inl ⟨rfl, _, .of (k11.same _ _ el10)⟩, ?_⟩⟩⟩
          have hr11 := k11.same _ _ hr10
          refine rix_l hr11 (show atI (rowV c t) 1 = some (if 2 ≤ idx c 1031 4 then .int (t + lowD c : Nat) else .non) from rfl) (rix_l hr11 (show atI (rowV c t) 0 = some (if 1 ≤ idx c 1031 4 then .int (tickOf c : Nat) else .non) from rfl) (rix_l hr11 (show atI (rowV c t) 2 = some (if 3 ≤ idx c 1031 4 then .int (t + lowD c + entD c : Nat) else .non) from rfl) ⟨by decide, fun p12 G12 k12 => ?_⟩))
          have et : G12 p12 = some (.tup (v6V (drOf c t).v6)) := by
            rw [k12.at]
            unfold v6V Dr.v6
            simp only [List.map_cons, List.map_nil, ← on_if]
            rfl
          have s1112 := k11.same.trans k12.same
          have el12 := s1112 _ _ el10
          refine ⟨lv, _, _, rfl, rfl, el12, lt_size (by omega), fun G13 u13 => ⟨u13.same (s9.trans (s10.trans s1112)) fv, _, u13.at, ?_⟩⟩
          rw [List.map_append]
          have nl : Dat.noLsts (D.map fun d => v6D d.v6) = true := noLsts_of fun d hd => by
            obtain ⟨u, _, rfl⟩ := List.mem_map.mp hd
            exact v6_noLst _
          exact DVs.append (Put.dvs u13 el12 nl (DVs.mono s1112 dw10)) (DVs.one (Put.dv u13 el12 (v6_noLst _) (dv_v6 et)))
    · rintro σ G ⟨x4, x5, x6, x7, x8, x9, x10, x11, ws, rfl, sG, el, dw⟩
      rw [Int.toNat_natCast, List.length_map] at dw
      walk_at "rd"
      exact q lv ws G sG el dw
end
open Tx
/-! the law of lines -/
structure Good (vl : List V6) : Prop where
  ok : ∀ v ∈ vl, V6Ok v
  want : ∀ v ∈ vl, at_ v 1 = some (wtd v)
  vis : ∀ v ∈ vl, visP (partsOf v) = some v
  read : readP none (vl.map partsOf) = some vl
  rise : ∀ k (h : k + 1 < vl.length), wtd vl[k] ≤ wtd vl[k + 1]
  low : ∀ v ∈ vl, wtd v ≤ 150 * big
  len : vl.length ≤ 150
theorem good_drs (cs : List Int) (h : cs.length ≤ 150) : Good ((drs cs cs.length).map (·.v6)) := by
  have tm : ∀ i, i < cs.length → tmAt cs (i + 1) ≤ 150 * big := fun i hi => Nat.le_trans (tm_le cs (i + 1)) (Nat.mul_le_mul_right _ (by omega))
  have mem : ∀ v ∈ (drs cs cs.length).map (·.v6), ∃ i, i < cs.length ∧ v = (drOf (cellAt cs i) (tmAt cs (i + 1))).v6 := fun v hv => by
    unfold drs at hv
    rw [List.map_map] at hv
    obtain ⟨i, hi, rfl⟩ := List.mem_map.mp hv
    exact ⟨i, List.mem_range.mp hi, rfl⟩
  refine ⟨fun v hv => ?_, fun v hv => ?_, fun v hv => ?_, ?_, fun k hk => ?_, fun v hv => ?_, by unfold drs; simpa using h⟩
  · obtain ⟨i, hi, rfl⟩ := mem v hv
    exact ⟨rfl, rfl, dr_low (tm i hi)⟩
  · obtain ⟨i, hi, rfl⟩ := mem v hv
    rfl
  · obtain ⟨i, hi, rfl⟩ := mem v hv
    exact vis_back _ (dr_ok _ _) (dr_cnt _ _)
  · have := read_drs cs cs.length 0 none fun z hz => by cases hz
    unfold drs
    simp only [List.map_map, List.range_eq_range']
    exact this
  · have hk' : k + 1 < cs.length := by unfold drs at hk; simpa using hk
    have g : ∀ j (hj : j < ((drs cs cs.length).map (·.v6)).length), wtd ((drs cs cs.length).map (·.v6))[j] = tmAt cs (j + 1) := fun j hj => by
      simp only [drs, List.getElem_map, List.getElem_range]
      rfl
    rw [g, g]
    show _ ≤ tmAt cs (k + 1) + inc (cellAt cs (k + 1))
    omega
  · obtain ⟨i, hi, rfl⟩ := mem v hv
    exact tm i hi
theorem deps_v6 (l : List V6) : Dat.deps (l.map v6D) ≤ 1 := by
  induction l with
  | nil => simp [Dat.deps]
  | cons v r ih =>
    rw [List.map_cons, Dat.deps]
    have : (v6D v).dep ≤ 1 := by unfold v6D; rw [Dat.dep, v6_deps]; omega
    omega
theorem dvs_lines {H : Hp} (l : List (List Str)) : DVs H (l.map fun ps => V.str (line ps)) (l.map fun ps => Dat.str (line ps)) := by
  induction l with
  | nil => exact .nil
  | cons x r ih => exact .cons dv_str ih
theorem deps_lines (l : List (List Str)) : Dat.deps (l.map fun ps => Dat.str (line ps)) = 0 := by
  induction l with
  | nil => simp [Dat.deps]
  | cons x r ih => rw [List.map_cons, Dat.deps, ih]; simp [Dat.dep]
theorem cut_drop9 (xs : List V) (k : Nat) : cutV xs (some ((k : Nat) : Int)) none = xs.drop k := by
  unfold cutV
  rw [HT.sIx_nat, HT.sIx_none]
  rcases Nat.le_total k xs.length with h | h
  · rw [Nat.min_eq_left h, List.take_of_length_le (by rw [List.length_drop]; omega)]
  · rw [Nat.min_eq_right h, Nat.sub_self, List.take_zero, List.drop_of_length_le h]
theorem rfor_rangeL {g : TG} {ta : TA} {tb : TS} {D : Ends} {σ : St} {H : Hp} (mono : ∀ R R' : List V → Hp → Prop, (∀ vs H, R vs H → R' vs H) → ta σ H R → ta σ H R') (h : ta σ H fun vs H1 => ∃ i j : Int, vs = [.int i, .int j] ∧ (-(2 ^ 62) ≤ i ∧ i < 2 ^ 62 ∧ -(2 ^ 62) ≤ j ∧ j < 2 ^ 62) ∧ ∃ Pv : Nat → St → Hp → Prop, Pv 0 σ H1 ∧
      (∀ k σ2 H2, k < (j - i).toNat → Pv k σ2 H2 → g (.int (i + k)) σ2 H2 fun σ3 H3 => tb { D with nx := Pv (k + 1), ct := Pv (k + 1), bk := D.nx } σ3 H3) ∧
      ∀ σ2 H2, Pv (j - i).toNat σ2 H2 → D.nx σ2 H2) : tFor (iRng2 ta) g tb D σ H := by
  refine mono _ _ (fun vs H1 h => ?_) h
  obtain ⟨i, j, e, h1, Pv, p0, ps, pd⟩ := h
  exact ⟨i, j, e, h1, for_range Pv p0 ps pd⟩
theorem xpF {X : Cx} : XPass X (fun _ _ _ => False) := fun _ _ _ _ _ _ _ _ _ _ r => r.elim
section
variable {P : Program} {w : World} {K : PySem.W.Frag} {mg : Str → Option Value} {base : Heap}
abbrev sLaw11 : Stmt := top 34
abbrev nmLaw11 : List Str := ["_law_script", "_law_visits", "_law_lines", "_law_found", "_law_k", "_law_time", "_law_tail", "_law_bad", "_law_line", "_law_turned"]
theorem scLaw11 : FnScope nmLaw11 ["_law_script"] (defScope sLaw11) := ⟨rfl, rfl, rfl, by decide +kernel, rfl, by decide +kernel, by decide +kernel⟩
set_option maxHeartbeats 8000000 in
theorem ok_law11 {f eL : Addr} {fd : FuncData} (F : Fun K "law" "law" sLaw11 f fd) (T : Blt mg) (c_l_visits_by : FnBy P w K mg base CX0 1 "_law_visits_by" ["_law_cells"] spVBy) (c_l_due_line : FnBy P w K mg base CX0 1 "_law_due_line" ["_law_visit"] spDueL) (c_shown : FnBy P w K mg base CX0 2 "shown" ["visits"] spShown)
    (c_read : FnBy P w K mg base (CXE P w) 4 "read" ["lines"] (spRead eL)) (c_l_same : FnBy P w K mg base CX0 2 "_law_same" ["_law_found", "_law_visits"] spSame) (c_l_bad_tails : FnBy P w K mg base CX0 1 "_law_bad_tails" ["_law_time"] spTails) (c_l_refused : FnBy P w K mg base CX0 5 "_law_refused" ["_law_lines"] spRefd) (c_l_under_base : FnBy P w K mg base CX0 5 "_law_under_base" ["_law_lines"] spRefd) :
    FnOk P w K mg base CX0 6 f fd ["_law_script"] (spLaw K) := by
  refine F.ok scLaw11 (fun vs H Q E h => ?_) (fun cdv A outer s H vs Q E hr h => ?_)
  · obtain ⟨a, ns, rfl, _⟩ := h
    rfl
  · obtain ⟨a, ns, rfl, ha, q⟩ := h
    have SC := scLaw11
    have hu0 : A.units + 3 + 100 < cLine := by
      have := hr.un
      have e : (A.deeper (PyProof.Rows.envOfC "law" (defScope sLaw11) s.heap.objs.size f cdv)).units = A.units + 3 := rfl
      omega
    refine ⟨_, (pss_cons (ps_set (i := 1) SC.nd (by rfl) (Or.inl (by rfl)) (pe_fn c_l_visits_by (hr.mono (by decide)) (by rfl) pass0 (pac (pe_slice sl_list (pv 0) po_none (po_some pe_int)) pa_nil)))
      (pss_cutE (ps_setLC (N' := ["_law_visit"]) (ix := [none]) (by exact comp_sc rfl (by rfl) (by rfl)) rfl (pi_list (pv 1)) (fun _ _ _ _ _ => (pg_comp (i := 0) (by decide +kernel) (by rfl) (by rfl))) (fun _ _ _ _ _ => pts_nil) (fun _ _ _ _ _ => (pe_fn c_l_due_line (hr.mono (by decide)) (by rfl) pass0 (pac (pv 0) pa_nil))) (pg_name (i := 2) SC.nd (by rfl) (Or.inl (by rfl))) (by rfl))
      (pss_cons (ps_set (i := 3) SC.nd (by rfl) (Or.inl (by rfl)) (pe_fn c_shown (hr.mono (by decide)) (by rfl) pass0 (pac (pe_callTy call_listN (by rfl) T.b_list PyProof.Rows.Boot.list (pac (pv 1) pa_nil)) pa_nil)))
      (pss_cutE (ps_if (pw_or (pt_not (pt_val (pe_callB (call_isinst (T := "list")) (by rfl) T.b_isinstance PyProof.Rows.Boot.isinstance (pac (pv 3) (pac (pe_ty (by rfl) T.b_list PyProof.Rows.Boot.list) pa_nil))))) (pw_or1 (pt_cmpR op_ne (pe_callB call_len_seq (by rfl) T.b_len PyProof.Rows.Boot.len (pac (pv 3) pa_nil)) (pe_callB call_len_seq (by rfl) T.b_len PyProof.Rows.Boot.len (pac (pv 2) pa_nil)) (nomark _)))).pt pss_dead pss_nil)
      (pss_cutE (ps_for PassesOwn.never rfl (pi_range1 (by rfl) T.b_range (pac (pe_callB call_len_seq (by rfl) T.b_len PyProof.Rows.Boot.len (pac (pv 2) pa_nil)) pa_nil)) (pg_name (i := 4) SC.nd (by rfl) (Or.inl (by rfl))) (pss_one (ps_if (pw_or (pt_not (pt_val (pe_callB (call_isinst (T := "str")) (by rfl) T.b_isinstance PyProof.Rows.Boot.isinstance (pac (pe_ix ix_seq (pv 3) (pv 4) (by exact fun _ _ => rfl)) (pac (pe_ty (by rfl) T.b_str PyProof.Rows.Boot.str) pa_nil))))) (pw_or1 (pt_cmpR op_ne (pe_ix ix_seq (pv 3) (pv 4) (by exact fun _ _ => rfl)) (pe_ix ix_seq (pv 2) (pv 4) (by exact fun _ _ => rfl)) (nomark _)))).pt pss_dead pss_nil)))
      (pss_cutE (ps_if (pt_not (pt_val (pe_fn c_l_same (hr.mono (by decide)) (by rfl) pass0 (pac (pe_fnX c_read (hr.mono (by decide)) (by rfl) xpF (pac (pe_callTy call_listN (by rfl) T.b_list PyProof.Rows.Boot.list (pac (pv 2) pa_nil)) pa_nil)) (pac (pv 1) pa_nil))))) pss_dead pss_nil)
      (pss_cons (ps_set (i := 5) SC.nd (by rfl) (Or.inl (by rfl)) pe_int)
      (pss_cutE (ps_if (pt_cmpR op_neD (pv 1) (pe_lstN pa_nil) (nomark _)) (pss_one (ps_set (i := 5) SC.nd (by rfl) (Or.inl (by rfl)) (pe_op op_add (pe_ix ix_seq (pe_ix ix_seq (pv 1) (pe_un un_neg pe_int) (by exact fun _ _ => rfl)) pe_int (by exact fun _ _ => rfl)) pe_int))) pss_nil)
      (pss_cutE (ps_for PassesOwn.never rfl (pi_list (pe_slice sl_list (pe_fn c_l_bad_tails (hr.mono (by decide)) (by rfl) pass0 (pac (pv 5) pa_nil)) (po_some pe_int) po_none)) (pg_name (i := 6) SC.nd (by rfl) (Or.inl (by rfl))) (pss_cons (ps_set (i := 7) SC.nd (by rfl) (Or.inl (by rfl)) (pe_op op_add_str (pe_op op_add_str pe_str (pe_callTy call_str_int (by rfl) T.b_str PyProof.Rows.Boot.str (pac (pv 5) pa_nil))) (pv 6)))
      (pss_cutE (ps_if (pt_not (pt_val (pe_fn c_l_refused (hr.mono (by decide)) (by rfl) pass0 (pac (pe_op op_catN (pv 2) (pe_lstN (pac (pv 7) pa_nil))) pa_nil)))) pss_dead pss_nil)
      (pss_one (ps_if (pt_not (pt_val (pe_fn c_l_under_base (hr.mono (by decide)) (by rfl) pass0 (pac (pe_op op_catN (pv 2) (pe_lstN (pac (pv 7) (pac (pe_op op_add_str pe_str (pe_callTy call_str_int (by rfl) T.b_str PyProof.Rows.Boot.str (pac (pe_op op_add (pv 5) pe_int) pa_nil))) pa_nil)))) pa_nil)))) pss_dead pss_nil)))))
      (pss_cutE (ps_for PassesOwn.never rfl (pi_list (pe_lstN (pac pe_str (pac pe_str (pac pe_str (pac pe_str (pac pe_str (pac pe_str (pac pe_str pa_nil))))))))) (pg_name (i := 8) SC.nd (by rfl) (Or.inl (by rfl))) (pss_one (ps_if (pt_not (pt_val (pe_fn c_l_refused (hr.mono (by decide)) (by rfl) pass0 (pac (pe_op op_catN (pe_lstN (pac (pv 8) pa_nil)) (pv 2)) pa_nil)))) pss_dead pss_nil)))
      (pss_cutE (ps_for PassesOwn.never rfl (pi_range2 (by rfl) T.b_range (pac pe_int (pac (pe_callB call_len_seq (by rfl) T.b_len PyProof.Rows.Boot.len (pac (pv 2) pa_nil)) pa_nil))) (pg_name (i := 4) SC.nd (by rfl) (Or.inl (by rfl))) (pss_cons (ps_set (i := 9) SC.nd (by rfl) (Or.inl (by rfl)) (pe_op op_catN (pe_op op_catN (pe_slice sl_list (pv 2) po_none (po_some (pe_op op_sub (pv 4) pe_int))) (pe_lstN (pac (pe_ix ix_seq (pv 2) (pv 4) (by exact fun _ _ => rfl)) (pac (pe_ix ix_seq (pv 2) (pe_op op_sub (pv 4) pe_int) (by exact fun _ _ => rfl)) pa_nil)))) (pe_slice sl_list (pv 2) (po_some (pe_op op_add (pv 4) pe_int)) po_none)))
      (pss_one (ps_if (pt_not (pt_val (pe_fn c_l_refused (hr.mono (by decide)) (by rfl) pass0 (pac (pv 9) pa_nil)))) pss_dead pss_nil))))
      (pss_one (ps_ret (pe_or (pe_cmpR op_eqD (pv 2) (pe_lstN pa_nil) (nomark _)) (pe_one (pe_fn c_l_refused (hr.mono (by decide)) (by rfl) pass0 (pac (pe_op op_catN (pe_slice sl_list (pv 2) po_none (po_some pe_int)) (pv 2)) pa_nil))))))))))))))))), ?_⟩
    walk_at "rd"
    refine ⟨_, rfl, 150, rfl, a, _, rfl, ha, fun p1 hp1 => ?_⟩
    rw [show (150 : Int) = ((150 : Nat) : Int) from rfl, cut_take9, ← List.map_take]
    generalize hcs : ns.take 150 = cs
    have hcl : cs.length ≤ 150 := by rw [← hcs, List.length_take]; omega
    have n1 : New H p1 (.lst (cs.map V.int)) (upd H p1 (.lst (cs.map V.int))) := ⟨hp1, rfl⟩
    generalize upd H p1 (.lst (cs.map V.int)) = G1 at n1
    refine ⟨p1, cs, rfl, n1.at, hcl, fun lv ws G2 s2 hlv dws => ?_⟩
    have gd := good_drs cs hcl
    have hmap : (drs cs cs.length).map (fun d => v6D d.v6) = ((drs cs cs.length).map (·.v6)).map v6D := by rw [List.map_map]; rfl
    rw [hmap] at dws
    generalize (drs cs cs.length).map (·.v6) = vl at gd dws
    clear hmap hcs
    have wl := dws.length
    rw [List.length_map] at wl
    have len := gd.len
    have s02 := n1.same.trans s2
    have elm : vl.map lnV = (vl.map partsOf).map fun ps => V.str (line ps) := by rw [List.map_map]; rfl
    have okp : ∀ ps ∈ vl.map partsOf, PsOk ps := fun ps hp => by
      obtain ⟨v, hv, rfl⟩ := List.mem_map.mp hp
      exact parts_ok (gd.ok v hv)
    refine ⟨fun σ G => ∃ ll, σ = [some (.ref a), some (.ref lv), some (.ref ll), none, none, none, none, none, none, none] ∧ Same G2 G ∧ G ll = some (.lst (vl.map lnV)), ?_, ?_⟩
    · walk_at "rd"
      refine rlc_list (fun R R' hR ⟨v, e, h⟩ => ⟨v, e, hR _ _ h⟩) ⟨_, rfl, lv, ws, rfl, .of hlv, fun acc hacc => ⟨fun i σ G => ∃ x, σ = [x] ∧ Same G2 G ∧ G acc = some (.lst ((vl.take i).map lnV)), ⟨none, rfl, (Same.refl _).new hacc, upd_same⟩, fun i σ G _ ⟨_, _, s, _⟩ => .of (s _ _ hlv), ?_, ?_⟩⟩
      · rintro i y σ G hi ⟨x, rfl, sG, eG⟩
        have hil : i < vl.length := by have := (List.getElem?_eq_some_iff.mp hi).1; omega
        obtain ⟨y', hy, dy⟩ := dws.get (i := i) (d := v6D vl[i]) (by simp [hil])
        rw [hi] at hy
        cases hy
        obtain ⟨lt, rfl, ht⟩ := v6_of dy
        walk_at "rd"
        refine ⟨lt, vl[i], rfl, sG _ _ ht, gd.ok _ (List.getElem_mem hil), by rw [gd.want _ (List.getElem_mem hil)]; rfl, fun G1 s1 => ⟨_, s1 _ _ eG, lt_size (by rw [List.length_map, List.length_take]; omega), (sG.trans s1).put hacc, ?_⟩⟩
        rw [upd_same, List.take_succ_eq_append_getElem hil, List.map_append]
        rfl
      · rintro σ G ⟨x, rfl, sG, eG⟩
        rw [wl, List.take_length] at eG
        exact ⟨acc, rfl, sG, eG⟩
    · rintro σ G3 ⟨ll, rfl, s3, hll⟩
      walk_at "rd"
      refine ⟨ws, .inl (.of (s3 _ _ hlv)), fun l4 G4 n4 => ⟨l4, vl, ws, rfl, n4.at, DVs.mono (s3.trans n4.same) dws, gd.ok, by omega, fun lf G5 s5 hlf => ?_⟩⟩
      have s35 := n4.same.trans s5
      have s25 := s3.trans s35
      have s05 := s02.trans s25
      have hll5 := s35 _ _ hll
      have hlv5 := s25 _ _ hlv
      have dws5 := DVs.mono s25 dws
      clear n4 s5 hll s35
      refine ⟨fun σ G => G = G5 ∧ σ = [some (.ref a), some (.ref lv), some (.ref ll), some (.ref lf), none, none, none, none, none, none], ?_, ?_⟩
      · walk_at "rd"
        refine ⟨_, .lst hlf, true, rfl, ?_⟩
        rw [if_neg (by simp)]
        refine ⟨_, .inl (.of hlf), _, .inl (.of hll5), ?_⟩
        rw [if_neg (by simp)]
        trivial
      · rintro σ G ⟨rfl, rfl⟩
        walk_at "rd"
        refine ⟨fun σ G6 => G6 = G ∧ ∃ x4, σ = [some (.ref a), some (.ref lv), some (.ref ll), some (.ref lf), x4, none, none, none, none, none], ?_, ?_⟩
        · refine rfor_range (fun R R' hR ⟨v, e, p, e2, x, hs, h⟩ => ⟨v, e, p, e2, x, hs, hR _ _ h⟩) ⟨_, rfl, ll, rfl, _, .inl (.of hll5), _, rfl, by rw [List.length_map]; omega, by rw [List.length_map]; omega, fun i σ G6 => G6 = G ∧ ∃ x4, σ = [some (.ref a), some (.ref lv), some (.ref ll), some (.ref lf), x4, none, none, none, none, none], ⟨rfl, _, rfl⟩, ?_, fun σ G6 h => h⟩
          rintro i σ G6 hi ⟨rfl, x4, rfl⟩
          rw [Int.toNat_natCast, List.length_map] at hi
          have gi : (vl.map lnV)[i]? = some (lnV vl[i]) := by rw [List.getElem?_map, List.getElem?_eq_getElem hi]; rfl
          walk_at "rd"
          simp only [Int.zero_add]
          refine rix_l hlf (atI_at gi) ⟨_, .str _, true, rfl, ?_⟩
          rw [if_neg (by simp)]
          refine rix_l hlf (atI_at gi) (rix_l hll5 (atI_at gi) ⟨rfl, ?_⟩)
          rw [if_neg (by simp)]
          first | exact ⟨rfl, _, rfl⟩ | exact ⟨_, rfl⟩ | trivial
        · rintro σ G6 ⟨rfl, x4, rfl⟩
          walk_at "rd"
          refine ⟨fun σ G7 => Same G6 G7 ∧ σ = [some (.ref a), some (.ref lv), some (.ref ll), some (.ref lf), x4, none, none, none, none, none], ?_, ?_⟩
          · walk_at "rd"
            refine ⟨_, rfl, ll, rfl, _, .inl (.of hll5), fun l7 G7 n7 => ⟨l7, vl.map partsOf, rfl, by rw [← elm]; exact n7.at, okp, by rw [List.length_map]; omega, fun G8 s8 => ⟨fun vl' v e dv => ?_, fun e => ?_⟩⟩⟩
            · rw [gd.read] at e
              cases e
              obtain ⟨l8, us, rfl, hl8, dus⟩ := dv_same_lst dv
              have s68 := n7.same.trans s8
              refine ⟨l8, lv, vl, us, ws, rfl, hl8, dus, s68 _ _ hlv5, DVs.mono s68 dws5, fun v hv => (gd.ok v hv).six, by omega, true, rfl, ?_⟩
              rw [if_neg (by simp)]
              first | exact ⟨s68, rfl⟩ | exact s68
            · rw [gd.read] at e
              cases e
          · rintro σ G7 ⟨s7, rfl⟩
            have hll7 := s7 _ _ hll5
            have hlv7 := s7 _ _ hlv5
            have dws7 := DVs.mono s7 dws5
            have s07 := s05.trans s7
            clear s7 hll5 hlv5 dws5 s05 hlf
            walk_at "rd"
            refine ⟨fun σ G8 => ∃ t : Nat, σ = [some (.ref a), some (.ref lv), some (.ref ll), some (.ref lf), x4, some (.int (t : Nat)), none, none, none, none] ∧ t ≤ 150 * big + 1 ∧ Same G7 G8, ?_, ?_⟩
            · walk_at "rd"
              refine ⟨Nat.zero_le _, fun p8 G8 n8 => ⟨vl.map v6D, [], .inl ⟨dv_lst (n8.same _ _ hlv7) (DVs.mono n8.same dws7), dv_lst n8.at .nil⟩, ?_, ?_⟩⟩
              · show A.units + 3 + 1 + _ + _ < cLine
                have := deps_v6 vl
                simp only [Dat.deps]
                omega
              · cases vl with
                | nil =>
                  refine ⟨_, rfl, ?_⟩
                  rw [if_neg (by simp [Dat.beqs])]
                  exact ⟨1, rfl, by omega, n8.same⟩
                | cons v0 vr =>
                  refine ⟨_, rfl, ?_⟩
                  rw [if_pos (by simp [Dat.beqs])]
                  have hpos : 0 < (v0 :: vr).length := by simp
                  generalize hvl : v0 :: vr = vl at *
                  have hlt : vl.length - 1 < vl.length := by omega
                  obtain ⟨y, gy, dy⟩ := dws7.get (i := vl.length - 1) (d := v6D vl[vl.length - 1]) (by simp [hlt])
                  obtain ⟨lu, rfl, hu⟩ := v6_of dy
                  have um := List.getElem_mem hlt
                  generalize vl[vl.length - 1] = u at um hu
                  walk_at "rd"
                  refine rix_l (n8.same _ _ hlv7) (v := .ref lu) ?_ (rix_t (n8.same _ _ hu) (want_at (gd.ok u um).six (gd.want u um)) ?_)
                  · unfold atI ixN
                    rw [if_neg (by decide), if_pos (by omega)]
                    have : ((-1 : Int) + (ws.length : Nat)).toNat = vl.length - 1 := by omega
                    rw [this]
                    exact gy
                  · walk_at "rd"
                    have := gd.low u um
                    exact ⟨wtd u + 1, rfl, by omega, n8.same⟩
            · rintro σ G8 ⟨t, rfl, ht, s8⟩
              have hll8 := s8 _ _ hll7
              have s08 := s07.trans s8
              clear s8 hll7 hlv7 dws7 s07
              have e1 : 200 * big + 100 < 10 ^ 100 := by unfold big; decide
              have e3 : 1 ≤ big := by unfold big; decide
              have t9 : t + 9 < 10 ^ 100 := by
                generalize big = L at *
                generalize 10 ^ 100 = TT at *
                omega
              clear e1 e3 ht
              generalize hpss : vl.map partsOf = pss at elm okp
              rw [elm] at hll8
              have rd := gd.read
              rw [hpss] at rd
              have pl : pss.length ≤ 150 := by rw [← hpss, List.length_map]; exact len
              have dt := dig_short (n := t) (by omega)
              have dt9 := dig_short (n := t + 9) (by omega)
              walk_at "rd"
              have pt9 : PsOk [lit "7", wW, dig (t + 9)] := by
                refine ⟨by simp, ?_, by simp⟩
                simp only [List.forall_mem_cons, List.not_mem_nil, false_implies, implies_true, and_true]
                exact ⟨o7, oW, oN (by omega)⟩
              have l9 : Str.ofString "7 wants " ++ dig (t + 9) = line [lit "7", wW, dig (t + 9)] := by
                have e : Str.ofString "7 wants " = lit "7" ++ sp ++ wW ++ sp := L7w
                rw [e]
                show _ = Str.join sp [lit "7", wW, dig (t + 9)]
                simp only [Str.join, Str.append_assoc]
              refine ⟨fun σ G9 => ∃ x6 x7, σ = [some (.ref a), some (.ref lv), some (.ref ll), some (.ref lf), x4, some (.int (t : Nat)), x6, x7, none, none] ∧ Same G8 G9, ?_, ?_⟩
              · refine ⟨_, rfl, t, rfl, by omega, fun lt G9 s9 hlt => ⟨1, rfl, lt, _, rfl, .of hlt, fun p10 hp10 => ?_⟩⟩
                have ecut : cutV ((tails t).map V.str) (some 1) none = ((bad t).map (·.1)).map V.str := rfl
                rw [ecut]
                have k10 : New G9 p10 (.lst (((bad t).map (·.1)).map V.str)) (upd G9 p10 (.lst (((bad t).map (·.1)).map V.str))) := ⟨hp10, rfl⟩
                generalize upd G9 p10 (.lst (((bad t).map (·.1)).map V.str)) = G10 at k10
                have s10 : Same G8 G10 := s9.trans k10.same
                refine ⟨p10, rfl, ⟨_, .of k10.at⟩, for_list (K := K) (a := p10) (xs := ((bad t).map (·.1)).map V.str) (fun i σ G => ∃ x6 x7, σ = [some (.ref a), some (.ref lv), some (.ref ll), some (.ref lf), x4, some (.int (t : Nat)), x6, x7, none, none] ∧ Same G10 G) ⟨none, none, rfl, Same.refl _⟩ (fun i σ G _ ⟨_, _, _, s⟩ => .of (s _ _ k10.at)) ?_ ?_⟩
                · rintro i y σ G hi ⟨x6, x7, rfl, sG⟩
                  have hil : i < (bad t).length := by simpa using (List.getElem?_eq_some_iff.mp hi).1
                  rw [List.getElem?_map, List.getElem?_map, List.getElem?_eq_getElem hil] at hi
                  cases hi
                  have bm := List.getElem_mem hil
                  have bl := bad_line t _ bm
                  have bv := bad_vis t _ bm
                  have bo := bad_ok (t := t) (by omega) _ bm
                  generalize (bad t)[i] = b at bl bv bo
                  obtain ⟨tail, ps⟩ := b
                  have bl : lit "7 wants " ++ dig t ++ tail = line ps := bl
                  have bv : visP ps = none := bv
                  have bo : PsOk ps := bo
                  have tl : tail.length ≤ 2020 := by
                    have h1 := line_len bo
                    rw [← bl, lA] at h1
                    omega
                  have hllG := (s10.trans sG) _ _ hll8
                  walk_at "rd"
                  refine ⟨log_ok (by omega), big_size ?_, big_size ?_, ?_⟩
                  · show _ + (dig t).length ≤ _
                    rw [z7]; omega
                  · show (_ ++ dig t).length + _ ≤ _
                    rw [lA, z7]; omega
                  have ebad : Str.ofString "7 wants " ++ Str.ofString (toString ((t : Nat) : Int)) ++ tail = line ps := bl
                  rw [ebad]
                  refine ⟨fun σ G2 => σ = [some (.ref a), some (.ref lv), some (.ref ll), some (.ref lf), x4, some (.int (t : Nat)), some (.str tail), some (.str (line ps)), none, none] ∧ Same G G2, ?_, ?_⟩
                  · walk_at "rd"
                    refine ⟨by decide, fun p11 G11 k11 => ⟨ll, p11, _, _, rfl, rfl, k11.same _ _ hllG, k11.at, le_size (by simp; omega), fun p12 G12 k12 => ⟨p12, pss ++ [ps], rfl, ?_, ?_, by simp; omega, read_snoc0 rd bv [], fun G13 s13 => ⟨true, rfl, ?_⟩⟩⟩⟩
                    · rw [k12.at, List.map_append]
                      rfl
                    · intro x hx
                      rcases List.mem_append.mp hx with hx | hx
                      · exact okp x hx
                      · rw [List.mem_singleton.mp hx]; exact bo
                    · rw [if_neg (by simp)]
                      exact k11.same.trans (k12.same.trans s13)
                  · rintro σ G13 ⟨rfl, s13⟩
                    walk_at "rd"
                    refine ⟨log_ok (n := t + 9) (by omega), big_size ?_, by decide, fun p14 G14 k14 => ⟨ll, p14, _, _, rfl, rfl, (s13.trans k14.same) _ _ hllG, k14.at, le_size (by simp; omega), fun p15 G15 k15 => ⟨p15, pss ++ ps :: [[lit "7", wW, dig (t + 9)]], rfl, ?_, ?_, by simp; omega, read_snoc0 rd bv _, fun G16 s16 => ⟨true, rfl, ?_⟩⟩⟩⟩
                    · show _ + (dig (t + 9)).length ≤ _
                      rw [z7]; omega
                    · rw [k15.at, List.map_append]
                      have e9 : V.str (Str.ofString "7 wants " ++ Str.ofString (toString ((t : Int) + 9))) = V.str (line [lit "7", wW, dig (t + 9)]) := congrArg V.str l9
                      rw [e9]
                      rfl
                    · intro x hx
                      rcases List.mem_append.mp hx with hx | hx
                      · exact okp x hx
                      · simp only [List.mem_cons, List.not_mem_nil, or_false] at hx
                        rcases hx with rfl | rfl
                        · exact bo
                        · exact pt9
                    · rw [if_neg (by simp)]
                      have := sG.trans (s13.trans (k14.same.trans (k15.same.trans s16)))
                      first | exact ⟨_, _, rfl, this⟩ | exact this | simpa using this
                · rintro σ G ⟨x6, x7, rfl, sG⟩
                  exact ⟨x6, x7, rfl, s10.trans sG⟩
              · rintro σ G9 ⟨x6, x7, rfl, s9⟩
                have hll9 := s9 _ _ hll8
                have s09 := s08.trans s9
                clear s9 hll8 s08 pt9 l9 dt dt9
                walk_at "rd"
                refine ⟨fun σ G10 => ∃ x8, σ = [some (.ref a), some (.ref lv), some (.ref ll), some (.ref lf), x4, some (.int (t : Nat)), x6, x7, x8, none] ∧ Same G9 G10, ?_, ?_⟩
                · refine ⟨by decide, fun lA G10 k10 => ?_⟩
                  have hA : G10 lA = some (.lst ((ahead.map (·.1)).map V.str)) := k10.at
                  refine ⟨lA, rfl, ⟨_, .of hA⟩, for_list (K := K) (a := lA) (xs := (ahead.map (·.1)).map V.str) (fun i σ G => ∃ x8, σ = [some (.ref a), some (.ref lv), some (.ref ll), some (.ref lf), x4, some (.int (t : Nat)), x6, x7, x8, none] ∧ Same G10 G) ⟨none, rfl, Same.refl _⟩ (fun i σ G _ ⟨_, _, s⟩ => .of (s _ _ hA)) ?_ ?_⟩
                  · rintro i y σ G hi ⟨x8, rfl, sG⟩
                    have hil : i < ahead.length := by simpa using (List.getElem?_eq_some_iff.mp hi).1
                    rw [List.getElem?_map, List.getElem?_map, List.getElem?_eq_getElem hil] at hi
                    cases hi
                    have bm := List.getElem_mem hil
                    have bl := ahead_line _ bm
                    have bv := ahead_vis _ bm
                    have bo := ahead_ok _ bm
                    generalize ahead[i] = b at bl bv bo
                    obtain ⟨tx, ps⟩ := b
                    have bl : tx = line ps := bl
                    have bv : visP ps = none := bv
                    have bo : PsOk ps := bo
                    subst bl
                    have hllG := (k10.same.trans sG) _ _ hll9
                    walk_at "rd"
                    refine ⟨by decide, fun p11 G11 k11 => ⟨p11, ll, _, _, rfl, rfl, k11.at, k11.same _ _ hllG, le_size (by simp; omega), fun p12 G12 k12 => ⟨p12, ps :: pss, rfl, ?_, ?_, by simp; omega, read_bad bv _ _, fun G13 s13 => ⟨true, rfl, ?_⟩⟩⟩⟩
                    · rw [k12.at]
                      rfl
                    · intro x hx
                      rcases List.mem_cons.mp hx with rfl | hx
                      · exact bo
                      · exact okp x hx
                    · rw [if_neg (by simp)]
                      have := sG.trans (k11.same.trans (k12.same.trans s13))
                      first | exact ⟨_, rfl, this⟩ | exact this | simpa using this
                  · rintro σ G ⟨x8, rfl, sG⟩
                    exact ⟨x8, rfl, k10.same.trans sG⟩
                · rintro σ G10 ⟨x8, rfl, s10⟩
                  have hll10 := s10 _ _ hll9
                  have s010 := s09.trans s10
                  clear s10 hll9 s09
                  walk_at "rd"
                  refine ⟨fun σ G11 => ∃ x4 x9, σ = [some (.ref a), some (.ref lv), some (.ref ll), some (.ref lf), x4, some (.int (t : Nat)), x6, x7, x8, x9] ∧ Same G10 G11, ?_, ?_⟩
                  · refine rfor_rangeL (fun R R' hR ⟨v, e, p, e2, x, hs, h⟩ => ⟨v, e, p, e2, x, hs, hR _ _ h⟩) ⟨_, rfl, ll, rfl, _, .inl (.of hll10), 1, _, rfl, ⟨by omega, by omega, by rw [List.length_map]; omega, by rw [List.length_map]; omega⟩, fun j σ G11 => ∃ x4 x9, σ = [some (.ref a), some (.ref lv), some (.ref ll), some (.ref lf), x4, some (.int (t : Nat)), x6, x7, x8, x9] ∧ Same G10 G11, ⟨x4, none, rfl, Same.refl _⟩, ?_, fun σ G h => h⟩
                    rintro j σ G hj ⟨x4', x9, rfl, sG⟩
                    rw [List.length_map] at hj
                    have hj1 : j + 1 < pss.length := by omega
                    have hvl : vl.length = pss.length := by rw [← hpss, List.length_map]
                    have gA := List.getElem?_eq_getElem (l := pss) (i := j) (by omega)
                    have gB := List.getElem?_eq_getElem (l := pss) hj1
                    have eA : pss[j]'(by omega) = partsOf (vl[j]'(by omega)) := by simp only [← hpss, List.getElem_map]
                    have eB : pss[j + 1] = partsOf (vl[j + 1]'(by omega)) := by simp only [← hpss, List.getElem_map]
                    have vA := gd.vis _ (List.getElem_mem (l := vl) (n := j) (by omega))
                    have vB := gd.vis _ (List.getElem_mem (l := vl) (n := j + 1) (by omega))
                    rw [← eA] at vA
                    rw [← eB] at vB
                    have ri := gd.rise j (by omega)
                    have none_ : readP none (pss.take j ++ (pss[j + 1] :: pss[j]'(by omega) :: pss.drop (j + 2))) = none := read_app (fun y => read_two vB vA ri _ y) none
                    have hllG := sG _ _ hll10
                    have aA : atI (pss.map fun ps => V.str (line ps)) (1 + (j : Int) - 1) = some (.str (line (pss[j]'(by omega)))) := by
                      rw [show 1 + (j : Int) - 1 = ((j : Nat) : Int) by omega]
                      exact atI_at (by rw [List.getElem?_map, gA]; rfl)
                    have aB : atI (pss.map fun ps => V.str (line ps)) (1 + (j : Int)) = some (.str (line pss[j + 1])) := by
                      rw [show 1 + (j : Int) = ((j + 1 : Nat) : Int) by omega]
                      exact atI_at (by rw [List.getElem?_map, gB]; rfl)
                    walk_at "rd"
                    refine ⟨_, rfl, _, rfl, _, _, rfl, rfl, _, rfl, ll, _, rfl, .of hllG, fun p11 hp11 => ?_⟩
                    rw [show (1 : Int) + (j : Int) - 1 = ((j : Nat) : Int) by omega, cut_take9, ← List.map_take]
                    rw [show (1 : Int) + (j : Int) - 1 = ((j : Nat) : Int) by omega] at aA
                    have k11 : New G p11 (.lst ((pss.take j).map fun ps => V.str (line ps))) (upd G p11 (.lst ((pss.take j).map fun ps => V.str (line ps)))) := ⟨hp11, rfl⟩
                    generalize upd G p11 (.lst ((pss.take j).map fun ps => V.str (line ps))) = G11 at k11
                    have hll11 := k11.same _ _ hllG
                    refine rix_l hll11 aB (rix_l hll11 aA ⟨by decide, fun p12 G12 k12 => ⟨p11, p12, _, _, rfl, rfl, k12.same _ _ k11.at, k12.at, le_size (by simp; omega), fun p13 G13 k13 => ?_⟩⟩)
                    have hll13 := (k12.same.trans k13.same) _ _ hll11
                    refine ⟨_, rfl, _, rfl, _, _, rfl, rfl, _, rfl, ll, _, rfl, .of hll13, fun p14 hp14 => ?_⟩
                    rw [show (1 : Int) + (j : Int) + 1 = ((j + 2 : Nat) : Int) by omega, cut_drop9, ← List.map_drop]
                    have k14 : New G13 p14 (.lst ((pss.drop (j + 2)).map fun ps => V.str (line ps))) (upd G13 p14 (.lst ((pss.drop (j + 2)).map fun ps => V.str (line ps)))) := ⟨hp14, rfl⟩
                    generalize upd G13 p14 (.lst ((pss.drop (j + 2)).map fun ps => V.str (line ps))) = G14 at k14
                    refine ⟨p13, p14, _, _, rfl, rfl, k14.same _ _ k13.at, k14.at, le_size (by simp; omega), fun p15 G15 k15 => ⟨p15, pss.take j ++ (pss[j + 1] :: pss[j]'(by omega) :: pss.drop (j + 2)), rfl, ?_, ?_, by simp; omega, none_, fun G16 s16 => ⟨true, rfl, ?_⟩⟩⟩
                    · rw [k15.at]
                      simp
                    · intro x hx
                      rcases List.mem_append.mp hx with hx | hx
                      · exact okp x (List.mem_of_mem_take hx)
                      · rcases List.mem_cons.mp hx with rfl | hx
                        · exact okp _ (List.getElem_mem _)
                        · rcases List.mem_cons.mp hx with rfl | hx
                          · exact okp _ (List.getElem_mem _)
                          · exact okp x (List.mem_of_mem_drop hx)
                    · rw [if_neg (by simp)]
                      have := sG.trans (k11.same.trans (k12.same.trans (k13.same.trans (k14.same.trans (k15.same.trans s16)))))
                      first | exact ⟨_, _, rfl, this⟩ | exact this | simpa using this
                  · rintro σ G11 ⟨x4', x9, rfl, s11⟩
                    have hll11 := s11 _ _ hll10
                    have s011 := s010.trans s11
                    walk_at "rd"
                    refine ⟨Nat.zero_le _, fun p12 G12 k12 => ⟨pss.map fun ps => Dat.str (line ps), [], .inl ⟨dv_lst (k12.same _ _ hll11) (dvs_lines pss), dv_lst k12.at .nil⟩, ?_, ?_⟩⟩
                    · show A.units + 3 + 1 + _ + _ < cLine
                      have := deps_lines pss
                      simp only [Dat.deps]
                      omega
                    · have hll12 := k12.same _ _ hll11
                      cases hp : pss with
                      | nil =>
                        refine ⟨_, rfl, ?_⟩
                        rw [if_pos (by simp [Dat.beqs])]
                        exact q _ (s011.trans k12.same)
                      | cons p0 pr =>
                        refine ⟨_, rfl, ?_⟩
                        rw [if_neg (by simp [Dat.beqs])]
                        have hvl : vl.length = pss.length := by rw [← hpss, List.length_map]
                        have hpos : 0 < vl.length := by rw [hvl, hp]; simp
                        have e0 : p0 = partsOf (vl[0]'hpos) := by
                          have : pss[0]? = some p0 := by rw [hp]; rfl
                          rw [← hpss, List.getElem?_map, List.getElem?_eq_getElem hpos] at this
                          exact (Option.some.inj this).symm
                        have v0 := gd.vis _ (List.getElem_mem (l := vl) hpos)
                        rw [← e0] at v0
                        rw [hp] at hll12 okp
                        refine ⟨_, rfl, 1, rfl, ll, _, rfl, .of hll12, fun p13 hp13 => ?_⟩
                        have ec : cutV ((p0 :: pr).map fun ps => V.str (line ps)) none (some 1) = [V.str (line p0)] := by
                          rw [show (1 : Int) = ((1 : Nat) : Int) from rfl, cut_take9]
                          rfl
                        rw [ec]
                        have k13 : New G12 p13 (.lst [V.str (line p0)]) (upd G12 p13 (.lst [V.str (line p0)])) := ⟨hp13, rfl⟩
                        generalize upd G12 p13 (.lst [V.str (line p0)]) = G13 at k13
                        refine ⟨p13, ll, _, _, rfl, rfl, k13.at, k13.same _ _ hll12, le_size (by rw [hp] at pl; simp at pl ⊢; omega), fun p14 G14 k14 => ⟨p14, p0 :: p0 :: pr, rfl, ?_, ?_, by rw [hp] at pl; simp at pl ⊢; omega, read_two v0 v0 (Nat.le_refl _) _ _, fun G15 s15 => ?_⟩⟩
                        · rw [k14.at]
                          rfl
                        · intro x hx
                          rcases List.mem_cons.mp hx with rfl | hx
                          · exact okp x List.mem_cons_self
                          · exact okp x hx
                        · exact q _ (s011.trans (k12.same.trans (k13.same.trans (k14.same.trans s15))))
end
end Toy
namespace Toy
open PySem L2 Tx
/-! what k11 has at the top -/
structure PairTop (K : PySem.W.Frag) (t : Addr) (y : Str) (n : Int) : Prop where
  ex : ∃ od k sl tk tk', K.lookup t = some ⟨.type "tuple", od, .seq #[.str y tk, .int n tk'] k, sl⟩
theorem pairTop {K : PySem.W.Frag} {t : Addr} {y : Str} {n : Int} {od : Option Addr} {k : Nat} {sl : Array (Option Value)} {tk tk' : Tok} (l : K.lookup t = some ⟨.type "tuple", od, .seq #[.str y tk, .int n tk'] k, sl⟩) : PairTop K t y n := ⟨od, k, sl, tk, tk', l⟩
theorem PairTop.sq {K : PySem.W.Frag} {t : Addr} {y : Str} {n : Int} (p : PairTop K t y n) (H : Hp) : SqT K H t [.str y, .int n] := by
  obtain ⟨od, k, sl, tk, tk', l⟩ := p.ex
  exact .inr ⟨_, _, k, l, rfl, rfl, by show 2 ≤ sizeLine; decide, .cons ⟨tk, rfl⟩ (.cons ⟨tk', rfl⟩ .nil)⟩
structure WdsTop (K : PySem.W.Frag) (a t0 t1 t2 t3 t4 : Addr) : Prop where
  at_ : PySem.W.nsIn K mainGlobals "WORDS" = some (some (.ref a))
  ex : ∃ od k sl, K.lookup a = some ⟨.type "tuple", od, .seq #[.ref t0, .ref t1, .ref t2, .ref t3, .ref t4] k, sl⟩
theorem wdsTop {K : PySem.W.Frag} {a t0 t1 t2 t3 t4 : Addr} {od : Option Addr} {k : Nat} {sl : Array (Option Value)} (g : PySem.W.nsIn K mainGlobals "WORDS" = some (some (.ref a))) (l : K.lookup a = some ⟨.type "tuple", od, .seq #[.ref t0, .ref t1, .ref t2, .ref t3, .ref t4] k, sl⟩) : WdsTop K a t0 t1 t2 t3 t4 := ⟨g, od, k, sl, l⟩
theorem WdsTop.sq {K : PySem.W.Frag} {a t0 t1 t2 t3 t4 : Addr} (p : WdsTop K a t0 t1 t2 t3 t4) (H : Hp) : SqT K H a [.ref t0, .ref t1, .ref t2, .ref t3, .ref t4] := by
  obtain ⟨od, k, sl, l⟩ := p.ex
  have v : Vals [V.ref t0, .ref t1, .ref t2, .ref t3, .ref t4] [Value.ref t0, .ref t1, .ref t2, .ref t3, .ref t4] := .cons rfl (.cons rfl (.cons rfl (.cons rfl (.cons rfl .nil))))
  exact .inr ⟨_, _, k, l, rfl, rfl, by show 5 ≤ sizeLine; decide, v⟩
def twOf (t0 t1 t2 t3 t4 : Addr) : Nat → Addr | 0 => t0 | 1 => t1 | 2 => t2 | 3 => t3 | _ => t4
structure TopN (K : PySem.W.Frag) (eR eN eW eI eO eL a t0 t1 t2 t3 t4 : Addr) : Prop where
  f0 : FnTop K "line_of" "line_of" sLineOf
  f1 : FnTop K "shown" "shown" sShown
  f2 : FnTop K "number_of" "number_of" sNum
  f3 : FnTop K "parts_of" "parts_of" sParts
  f4 : FnTop K "visit_of" "visit_of" sVis
  f5 : FnTop K "check" "check" sChk
  f6 : FnTop K "check_lowered" "check_lowered" sChkL
  f7 : FnTop K "check_entered" "check_entered" sChkE
  f8 : FnTop K "check_left" "check_left" sChkX
  f9 : FnTop K "read" "read" sRead
  f10 : FnTop K "_law_whole" "_law_whole" sWhole
  f11 : FnTop K "_law_visits_by" "_law_visits_by" sVBy
  f12 : FnTop K "_law_due_line" "_law_due_line" sDueL
  f13 : FnTop K "_law_refused" "_law_refused" sRefd
  f14 : FnTop K "_law_under_base" "_law_under_base" sUnder
  f15 : FnTop K "_law_same" "_law_same" sSame
  f16 : FnTop K "_law_bad_tails" "_law_bad_tails" sTails
  f17 : FnTop K "law" "law" sLaw11
  i0 : IntTop K "HAND" 0
  i1 : IntTop K "WANTED" 1
  i2 : IntTop K "LOWERED" 2
  i3 : IntTop K "TICKET" 3
  i4 : IntTop K "ENTERED" 4
  i5 : IntTop K "LEFT" 5
  s0 : StrTop K "FIGURES" "0123456789"
  w0 : WdsTop K a t0 t1 t2 t3 t4
  p0 : PairTop K t0 "wants" 1
  p1 : PairTop K t1 "draws" 3
  p2 : PairTop K t2 "lowers" 2
  p3 : PairTop K t3 "enters" 4
  p4 : PairTop K t4 "leaves" 5
  b0 : PySem.W.nsIn K mainGlobals "isinstance" = some none
  b1 : PySem.W.nsIn K mainGlobals "len" = some none
  b2 : PySem.W.nsIn K mainGlobals "range" = some none
  b3 : PySem.W.nsIn K mainGlobals "int" = some none
  b4 : PySem.W.nsIn K mainGlobals "bool" = some none
  b5 : PySem.W.nsIn K mainGlobals "str" = some none
  b6 : PySem.W.nsIn K mainGlobals "tuple" = some none
  b7 : PySem.W.nsIn K mainGlobals "list" = some none
  b8 : PySem.W.nsIn K mainGlobals "all" = some none
  b9 : PySem.W.nsIn K mainGlobals "max" = some none
  b10 : PySem.W.nsIn K mainGlobals "ValueError" = some none
  xeR : XTop K "RoomError" eR
  xeN : XTop K "NoHand" eN
  xeW : XTop K "WantsIn" eW
  xeI : XTop K "Within" eI
  xeO : XTop K "Out" eO
  xeL : XTop K "NoLine" eL
  mL : PySem.W.mroIn K eL (.ref eL) = some true
  mR : PySem.W.mroIn K eL (.ref eR) = some true
  mO : PySem.W.mroIn K eL (.type "object") = some true
  mB : PySem.W.mroIn K eL (.type "BaseException") = some true
  ga : PySem.W.findIn K (.ref eL) "__getattribute__" = some (some (.builtin "BaseException.__getattribute__"))
  gk : PySem.W.findIn K (.ref eL) "__getattr__" = some none
  ha : PySem.W.findIn K (.ref eL) "__class__" = some (some (.builtin "object.__class__"))
  hn : PySem.W.specialIn K (.builtin "object.__class__") "__get__" = some (some (.builtin "getset_descriptor.__get__"))
  tk : PySem.W.takesIn K (.builtin "object.__class__") = some true
  kN : PySem.W.kitOne K (.ref eL) (.ref eN) = some false
  kW : PySem.W.kitOne K (.ref eL) (.ref eW) = some false
  kI : PySem.W.kitOne K (.ref eL) (.ref eI) = some false
  kO : PySem.W.kitOne K (.ref eL) (.ref eO) = some false
  kL : PySem.W.kitOne K (.ref eL) (.ref eL) = some true
  kV : PySem.W.kitOne K (.ref eL) (.type "ValueError") = some true
theorem law_ofN {P : Program} {w : World} {K : PySem.W.Frag} {mg : Str → Option Value} {h : Heap} {fa : Addr} {k : Nat} {st : Stmt} (T : FnTop K "law" "law" st) (X : K.In h) (G : h.Ns mainGlobals mg) (hfa : mg "law" = some (.ref fa)) (hb1 : BindsSt "law" "law" st ["_law_script"])
    (A : ∀ base : Heap, K.In base → base.Ns mainGlobals mg → ∀ f fd, Fun K "law" "law" st f fd → FnOk P w K mg base CX0 k f fd ["_law_script"] (spLaw K)) :
    ∃ fd : FuncData, (∀ (s : Shared) (v : Value), BindsTo s fd ⟨[v], []⟩ [("_law_script", v)]) ∧ ∀ base : Heap, K.In base → base.Ns mainGlobals mg → FnOk P w K mg base CX0 k fa fd ["_law_script"] (spLaw K) := by
  obtain ⟨f, fd, F, a⟩ := T.ex
  have e := hfa.symm.trans (PySem.W.mg_of X G a)
  cases e
  refine ⟨fd, fun s v => ?_, fun base KB GB => A base KB GB _ fd F⟩
  obtain ⟨oc, od, kV, doc, pm, an, cdv, ct, osl, rfl, lk, hcd⟩ := F.ex
  exact .of_eq (hb1 kV doc pm an cdv ct [v] rfl)
set_option maxHeartbeats 2000000 in
theorem all_mk {l : PySem.W.OpenLaw} {w : World} {K : PySem.W.Frag} {h : Heap} {mg : Str → Option Value} {fa eR eN eW eI eO eL a t0 t1 t2 t3 t4 : Addr} (X : K.In h) (G : h.Ns mainGlobals mg) (hfa : mg "law" = some (.ref fa)) (T : TopN K eR eN eW eI eO eL a t0 t1 t2 t3 t4) :
    ∃ fd : FuncData, (∀ (s : Shared) (v : Value), BindsTo s fd ⟨[v], []⟩ [("_law_script", v)]) ∧ ∀ base : Heap, K.In base → base.Ns mainGlobals mg → FnOk l.prog w K mg base CX0 6 fa fd ["_law_script"] (spLaw K) := by
  have B : Blt mg := ⟨PySem.W.mg_none_of X G T.b0, PySem.W.mg_none_of X G T.b1, PySem.W.mg_none_of X G T.b2, PySem.W.mg_none_of X G T.b3, PySem.W.mg_none_of X G T.b4, PySem.W.mg_none_of X G T.b5, PySem.W.mg_none_of X G T.b6, PySem.W.mg_none_of X G T.b7⟩
  have C : Cst mg := ⟨T.i0.by X G, T.i1.by X G, T.i2.by X G, T.i3.by X G, T.i4.by X G, T.i5.by X G, T.s0.by X G⟩
  have cl : (PySem.W.clsIn K eL).isSome = true := by
    have h := T.mO
    unfold PySem.W.mroIn at h
    cases e : PySem.W.clsIn K eL with
    | none => rw [e] at h; cases h
    | some c => rfl
  have I : XL K mg eR eN eW eI eO eL := ⟨T.xeR.by X G, T.xeN.by X G, T.xeW.by X G, T.xeI.by X G, T.xeO.by X G, T.xeL.by X G, T.mL, T.mR, ⟨cl, T.ga, T.gk, T.ha, T.hn, T.tk, T.mO, T.mB⟩, T.kN, T.kW, T.kI, T.kO, T.kL, T.kV⟩
  have W : Wds K mg a (twOf t0 t1 t2 t3 t4) := by
    refine ⟨PySem.W.mg_of X G T.w0.at_, fun H => T.w0.sq H, fun H i w' p hw => ?_⟩
    match i, hw with
    | 0, hw => cases hw; exact T.p0.sq H
    | 1, hw => cases hw; exact T.p1.sq H
    | 2, hw => cases hw; exact T.p2.sq H
    | 3, hw => cases hw; exact T.p3.sq H
    | 4, hw => cases hw; exact T.p4.sq H
    | i + 5, hw => simp [wds] at hw
  refine law_ofN T.f17 X G hfa (fun _ _ _ _ _ _ us hl => match us, hl with | [_], _ => rfl) fun base _ _ f fd F => ?_
  have lin := T.f0.by (P := l.prog) (w := w) (base := base) X G (fun _ _ _ _ _ _ us hl => match us, hl with | [_], _ => rfl) fun f fd F => ok_lineOf F C B W
  have sho := T.f1.by (P := l.prog) (w := w) (base := base) X G (fun _ _ _ _ _ _ us hl => match us, hl with | [_], _ => rfl) fun f fd F => ok_shown F lin
  have num := T.f2.by (P := l.prog) (w := w) (base := base) X G (fun _ _ _ _ _ _ us hl => match us, hl with | [_], _ => rfl) fun f fd F => ok_num F C B (PySem.W.mg_none_of X G T.b8) I.cL
  have par := T.f3.by (P := l.prog) (w := w) (base := base) X G (fun _ _ _ _ _ _ us hl => match us, hl with | [_], _ => rfl) fun f fd F => ok_parts F B I.cL
  have ckL := T.f6.by (P := l.prog) (w := w) (base := base) X G (fun _ _ _ _ _ _ us hl => match us, hl with | [_], _ => rfl) fun f fd F => ok_chkL F C I.cL
  have ckE := T.f7.by (P := l.prog) (w := w) (base := base) X G (fun _ _ _ _ _ _ us hl => match us, hl with | [_], _ => rfl) fun f fd F => ok_chkE F C I.cL
  have ckX := T.f8.by (P := l.prog) (w := w) (base := base) X G (fun _ _ _ _ _ _ us hl => match us, hl with | [_], _ => rfl) fun f fd F => ok_chkX F C I.cL
  have chk := T.f5.by (P := l.prog) (w := w) (base := base) X G (fun _ _ _ _ _ _ us hl => match us, hl with | [_], _ => rfl) fun f fd F => ok_chk F C I.cL ckL ckE ckX
  have vis := T.f4.by (P := l.prog) (w := w) (base := base) X G (fun _ _ _ _ _ _ us hl => match us, hl with | [_], _ => rfl) fun f fd F => ok_vis F B W I.cL par num chk
  have rea := T.f9.by (P := l.prog) (w := w) (base := base) X G (fun _ _ _ _ _ _ us hl => match us, hl with | [_], _ => rfl) fun f fd F => ok_read F C I.cL vis
  have who := T.f10.by (P := l.prog) (w := w) (base := base) X G (fun _ _ _ _ _ _ us hl => match us, hl with | [_], _ => rfl) fun f fd F => ok_whole F B
  have vby := T.f11.by (P := l.prog) (w := w) (base := base) X G (fun _ _ _ _ _ _ us hl => match us, hl with | [_], _ => rfl) fun f fd F => ok_vBy F B (PySem.W.mg_none_of X G T.b9)
  have due := T.f12.by (P := l.prog) (w := w) (base := base) X G (fun _ _ _ _ _ _ us hl => match us, hl with | [_], _ => rfl) fun f fd F => ok_dueL F B
  have ref := T.f13.by (P := l.prog) (w := w) (base := base) X G (fun _ _ _ _ _ _ us hl => match us, hl with | [_], _ => rfl) fun f fd F => ok_refd F B I rea
  have und := T.f14.by (P := l.prog) (w := w) (base := base) X G (fun _ _ _ _ _ _ us hl => match us, hl with | [_], _ => rfl) fun f fd F => ok_under F B (PySem.W.mg_none_of X G T.b10) I rea
  have sam := T.f15.by (P := l.prog) (w := w) (base := base) X G (fun _ _ _ _ _ _ us hl => match us, hl with | [_, _], _ => rfl) fun f fd F => ok_same F B who
  have tai := T.f16.by (P := l.prog) (w := w) (base := base) X G (fun _ _ _ _ _ _ us hl => match us, hl with | [_], _ => rfl) fun f fd F => ok_tails F B
  exact ok_law11 F B vby due sho rea sam tai ref und
theorem walk {l : PySem.W.OpenLaw} {q : Program} {loose : List Str} {XP : (Str → Option Value) → Heap → Prop} {YP : World → Heap → Prop} {d : DefRec} {K : Params → PySem.W.Frag} (hn : l.most = some 63) (hdf : d.params.defaults = [])
    (hY : ∀ (w : World) (h : Heap), YP w h → (K w.params).In h)
    (F : ∀ (w : World) (mg : Str → Option Value) (fa : Addr) (h : Heap), (K w.params).In h → h.Ns mainGlobals mg → mg d.name = some (.ref fa) →
      ∃ fd : FuncData, (∀ (s : Shared) (u : Value), BindsTo s fd ⟨[u], []⟩ [("_law_script", u)]) ∧ ∀ base : Heap, (K w.params).In base → base.Ns mainGlobals mg → FnOk l.prog w (K w.params) mg base CX0 6 fa fd ["_law_script"] (spLaw (K w.params))) :
    PySem.W.WalkO q loose XP YP l.row.toRowW d [] (fun f vs => PySem.call f vs) :=
  L2.walk_of (n := 63) (k := 6) (x := "_law_script") (CX := fun _ => CX0) (sp := fun w => spLaw (K w.params)) hn (by decide) hdf ⟨rfl, by decide, by decide⟩ hY F (fun _ _ a ns hl _ hS => ⟨a, ns, rfl, hS, fun _ _ => rfl⟩) fun _ _ _ _ _ z => z
end Toy
open PySem PySem.W PyProof.Rows
set_option maxRecDepth 100000 in
set_option maxHeartbeats 0 in
theorem PySem.Challenge.cw_ticketroom_k11_lines_holds : PySem.Challenge.rw_ticketroom_k11_lines.Holds := by
  w_on; o_law; k_head; (case hw => w_witness2)
  k_fill
  refine Toy.walk (l := PySem.Challenge.rw_ticketroom_k11_lines) rfl rfl (fun w h Y => PySem.W.kIn_of Y) ?F
  case F =>
    intro w mg fa h KX G hmg
    refine' Toy.all_mk KX G hmg ⟨(L2.fnTop ?ha_0a ?ha_0l ?ha_0c ?ha_0k), (L2.fnTop ?ha_1a ?ha_1l ?ha_1c ?ha_1k), (L2.fnTop ?ha_2a ?ha_2l ?ha_2c ?ha_2k), (L2.fnTop ?ha_3a ?ha_3l ?ha_3c ?ha_3k), (L2.fnTop ?ha_4a ?ha_4l ?ha_4c ?ha_4k), (L2.fnTop ?ha_5a ?ha_5l ?ha_5c ?ha_5k), (L2.fnTop ?ha_6a ?ha_6l ?ha_6c ?ha_6k), (L2.fnTop ?ha_7a ?ha_7l ?ha_7c ?ha_7k), (L2.fnTop ?ha_8a ?ha_8l ?ha_8c ?ha_8k), (L2.fnTop ?ha_9a ?ha_9l ?ha_9c ?ha_9k), (L2.fnTop ?ha_10a ?ha_10l ?ha_10c ?ha_10k), (L2.fnTop ?ha_11a ?ha_11l ?ha_11c ?ha_11k), (L2.fnTop ?ha_12a ?ha_12l ?ha_12c ?ha_12k), (L2.fnTop ?ha_13a ?ha_13l ?ha_13c ?ha_13k), (L2.fnTop ?ha_14a ?ha_14l ?ha_14c ?ha_14k), (L2.fnTop ?ha_15a ?ha_15l ?ha_15c ?ha_15k), (L2.fnTop ?ha_16a ?ha_16l ?ha_16c ?ha_16k), (L2.fnTop ?ha_17a ?ha_17l ?ha_17c ?ha_17k), (L2.intTop ?ha_18a), (L2.intTop ?ha_19a), (L2.intTop ?ha_20a), (L2.intTop ?ha_21a), (L2.intTop ?ha_22a), (L2.intTop ?ha_23a), (L2.strTop ?ha_24a), (Toy.wdsTop ?ha_25a ?ha_25l), (Toy.pairTop ?ha_26l), (Toy.pairTop ?ha_27l), (Toy.pairTop ?ha_28l), (Toy.pairTop ?ha_29l), (Toy.pairTop ?ha_30l), ?ha_31, ?ha_32, ?ha_33, ?ha_34, ?ha_35, ?ha_36, ?ha_37, ?ha_38, ?ha_39, ?ha_40, ?ha_41, (L2.XTop.mk ?ha_42a ?ha_42e), (L2.XTop.mk ?ha_43a ?ha_43e), (L2.XTop.mk ?ha_44a ?ha_44e), (L2.XTop.mk ?ha_45a ?ha_45e), (L2.XTop.mk ?ha_46a ?ha_46e), (L2.XTop.mk ?ha_47a ?ha_47e), ?ha_48, ?ha_49, ?ha_50, ?ha_51, ?ha_52, ?ha_53, ?ha_54, ?ha_55, ?ha_56, ?ha_57, ?ha_58, ?ha_59, ?ha_60, ?ha_61, ?ha_62⟩
    (case ha_0a => k_is); (case ha_0l => k_is); (case ha_0c => k_is); (case ha_0k => k_is); (case ha_1a => k_is); (case ha_1l => k_is)
    (case ha_1c => k_is); (case ha_1k => k_is); (case ha_2a => k_is); (case ha_2l => k_is); (case ha_2c => k_is); (case ha_2k => k_is)
    (case ha_3a => k_is); (case ha_3l => k_is); (case ha_3c => k_is); (case ha_3k => k_is); (case ha_4a => k_is); (case ha_4l => k_is)
    (case ha_4c => k_is); (case ha_4k => k_is); (case ha_5a => k_is); (case ha_5l => k_is); (case ha_5c => k_is); (case ha_5k => k_is)
    (case ha_6a => k_is); (case ha_6l => k_is); (case ha_6c => k_is); (case ha_6k => k_is); (case ha_7a => k_is); (case ha_7l => k_is)
    (case ha_7c => k_is); (case ha_7k => k_is); (case ha_8a => k_is); (case ha_8l => k_is); (case ha_8c => k_is); (case ha_8k => k_is)
    (case ha_9a => k_is); (case ha_9l => k_is); (case ha_9c => k_is); (case ha_9k => k_is); (case ha_10a => k_is); (case ha_10l => k_is)
    (case ha_10c => k_is); (case ha_10k => k_is); (case ha_11a => k_is); (case ha_11l => k_is); (case ha_11c => k_is); (case ha_11k => k_is)
    (case ha_12a => k_is); (case ha_12l => k_is); (case ha_12c => k_is); (case ha_12k => k_is); (case ha_13a => k_is); (case ha_13l => k_is)
    (case ha_13c => k_is); (case ha_13k => k_is); (case ha_14a => k_is); (case ha_14l => k_is); (case ha_14c => k_is); (case ha_14k => k_is)
    (case ha_15a => k_is); (case ha_15l => k_is); (case ha_15c => k_is); (case ha_15k => k_is); (case ha_16a => k_is); (case ha_16l => k_is)
    (case ha_16c => k_is); (case ha_16k => k_is); (case ha_17a => k_is); (case ha_17l => k_is); (case ha_17c => k_is); (case ha_17k => k_is)
    (case ha_18a => k_is); (case ha_19a => k_is); (case ha_20a => k_is); (case ha_21a => k_is); (case ha_22a => k_is); (case ha_23a => k_is)
    (case ha_24a => k_is); (case ha_25a => k_is); (case ha_25l => k_is); (case ha_26l => k_is); (case ha_27l => k_is); (case ha_28l => k_is)
    (case ha_29l => k_is); (case ha_30l => k_is); (case ha_31 => k_is); (case ha_32 => k_is); (case ha_33 => k_is); (case ha_34 => k_is)
    (case ha_35 => k_is); (case ha_36 => k_is); (case ha_37 => k_is); (case ha_38 => k_is); (case ha_39 => k_is); (case ha_40 => k_is)
    (case ha_41 => k_is); (case ha_42a => k_is); (case ha_42e => k_exc); (case ha_43a => k_is); (case ha_43e => k_exc); (case ha_44a => k_is)
    (case ha_44e => k_exc); (case ha_45a => k_is); (case ha_45e => k_exc); (case ha_46a => k_is); (case ha_46e => k_exc); (case ha_47a => k_is)
    (case ha_47e => k_exc); (case ha_48 => k_is); (case ha_49 => k_is); (case ha_50 => k_is); (case ha_51 => k_is); (case ha_52 => k_is)
    (case ha_53 => k_is); (case ha_54 => k_is); (case ha_55 => k_is); (case ha_56 => k_is); (case ha_57 => kit_is); (case ha_58 => kit_is)
    (case ha_59 => kit_is); (case ha_60 => kit_is); (case ha_61 => kit_is); (case ha_62 => kit_is)
