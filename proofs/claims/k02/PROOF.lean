import PyProof.Rows.All
import Wide.All
import OpenK.AllK
import Wide.FinOn
import PyProof.EqAt
import PyProof.EqKinds
import PyProof.TupleCall
import PyProof.SetKind
import PyProof.DictKinds
import PyProof.Rows.SetFrom
import PyProof.FactsAll.set
import PyProof.WalksS
import PyProof.CollectWalk
import PyProof.Seq
import PyProof.WalkLemmas
import PyProof.Rows.SortStr
import PyProof.Rows.SortWalk
import PyProof.Tail
import PyProof.NeKinds
import PyProof.EnumFor
import PyProof.EnumMake
import Lean
import PySem.Challenge.RW_nextword_k02_words_behind
set_option Elab.async false
set_option linter.all false
set_option maxRecDepth 100000
set_option maxHeartbeats 4000000
/-! THE HAND LAYER, for ints, bools, texts, own classes, LISTS and tuples (index, slices, in, append, pop ..), calls, loops. Paste it whole ahead of your own text; what your proof does not reach may be deleted. -/
namespace L2
open PySem PySem.Spec PyProof.Rows

/-- a key: an int or a str -/
abbrev Key := Sum Int Str
def keyIs : Key → Value → Bool
  | .inl k, v => Value.isInt k v
  | .inr x, v => Value.isStrOf x v
def keyH (w : World) : Key → Int
  | .inl k => hashInt k
  | .inr x => hashStr w x
theorem keyIs_shape : ∀ {k : Key} {v : Value}, keyIs k v = true → (∃ i t, k = Sum.inl i ∧ v = Value.int i t) ∨ (∃ x t, k = Sum.inr x ∧ v = Value.str x t)
  | .inl i, v, h => by
    obtain ⟨t, e⟩ := Value.isInt_shape (k := i) (v := v) h
    exact .inl ⟨i, t, rfl, e⟩
  | .inr x, v, h => by
    obtain ⟨t, e⟩ := Value.isStrOf_shape (x := x) (v := v) h
    exact .inr ⟨x, t, rfl, e⟩
theorem keyIs_int (i : Int) (t : Tok) : keyIs (.inl i) (.int i t) = true := by simp [keyIs, Value.isInt]
theorem keyIs_str (x : Str) (t : Tok) : keyIs (.inr x) (.str x t) = true := by simp [keyIs, Value.isStrOf]
theorem key_ll (a b : Int) : decide ((Sum.inl a : Key) = Sum.inl b) = (a == b) := by
  by_cases e : a = b
  · subst e; simp
  · have h : ¬ (Sum.inl a : Key) = Sum.inl b := fun q => e (Sum.inl.inj q)
    rw [decide_eq_false h]
    exact (beq_eq_false_iff_ne.mpr e).symm
theorem key_rr (a b : Str) : decide ((Sum.inr a : Key) = Sum.inr b) = decide (a = b) := by
  by_cases e : a = b
  · subst e; simp
  · have h : ¬ (Sum.inr a : Key) = Sum.inr b := fun q => e (Sum.inr.inj q)
    rw [decide_eq_false h, decide_eq_false e]
theorem key_lr (a : Int) (b : Str) : decide ((Sum.inl a : Key) = Sum.inr b) = false := decide_eq_false (fun q => nomatch q)
theorem key_rl (a : Str) (b : Int) : decide ((Sum.inr a : Key) = Sum.inl b) = false := decide_eq_false (fun q => nomatch q)

def mixKind (prog : Program) (w : World) : PySem.KeyKind prog w Key where
  is := keyIs
  hash := keyH w
  inj := fun v a b ha hb => by
    rcases keyIs_shape ha with ⟨i, t, rfl, rfl⟩ | ⟨x, t, rfl, rfl⟩
    · rcases keyIs_shape hb with ⟨j, u, rfl, e⟩ | ⟨y, u, rfl, e⟩
      · injection e with e1 _; rw [e1]
      · exact nomatch e
    · rcases keyIs_shape hb with ⟨j, u, rfl, e⟩ | ⟨y, u, rfl, e⟩
      · exact nomatch e
      · injection e with e1 _; rw [e1]
  byValue := fun k v h => by
    rcases keyIs_shape h with ⟨i, t, rfl, rfl⟩ | ⟨x, t, rfl, rfl⟩ <;> rfl
  pyHash := fun hv h => by
    rcases keyIs_shape hv with ⟨i, t, rfl, rfl⟩ | ⟨x, t, rfl, rfl⟩
    · exact wpAny_pyHash_int h
    · exact wpAny_pyHash_str h
  eqBool := fun hu hv h => by
    rcases keyIs_shape hu with ⟨i, t, rfl, rfl⟩ | ⟨x, t, rfl, rfl⟩
    · rcases keyIs_shape hv with ⟨j, u, rfl, rfl⟩ | ⟨y, u, rfl, rfl⟩
      · rw [key_ll] at h; exact wpAny_eqBool_int h
      · rw [key_lr] at h; exact SeqAt.EqAt.int_str i t y u _ _ _ _ h
    · rcases keyIs_shape hv with ⟨j, u, rfl, rfl⟩ | ⟨y, u, rfl, rfl⟩
      · rw [key_rl] at h; exact SeqAt.EqAt.str_int x t j u _ _ _ _ h
      · rw [key_rr] at h; exact wpAny_eqBool_str h
  «strs» := fun k x t v h => by
    rcases keyIs_shape h with ⟨i, u, rfl, e⟩ | ⟨y, u, rfl, e⟩
    · exact nomatch e
    · injection e with e1 _
      subst e1
      cases v <;> rfl

theorem mixKind_int (prog : Program) (w : World) (i : Int) (t : Tok) : (mixKind prog w).is (.inl i) (.int i t) = true := keyIs_int i t
theorem mixKind_str (prog : Program) (w : World) (x : Str) (t : Tok) : (mixKind prog w).is (.inr x) (.str x t) = true := keyIs_str x t
end L2

namespace L2
open PySem PySem.Spec PyProof.Rows

/-- a value, without the heap -/
inductive V where
  | non | bl (b : Bool) | int (i : Int) | str (x : Str) | byt (b : Array UInt8) | flt (b : UInt64) | ref (a : Addr) | ty (n : String)
  deriving DecidableEq

def RelV : V → Value → Prop
  | .non, u => u = Value.none
  | .bl b, u => u = Value.bool b
  | .int i, u => ∃ t, u = Value.int i t
  | .str x, u => ∃ t, u = Value.str x t
  | .byt b, u => ∃ t, u = Value.bytes b t
  | .flt b, u => ∃ t, u = Value.float b t
  | .ref a, u => u = Value.ref a
  | .ty n, u => u = Value.type n

abbrev Vals : List V → List Value → Prop := Paired RelV
theorem Vals.length {xs : List V} {us : List Value} (r : Vals xs us) : xs.length = us.length := Paired.length r
theorem Vals.get : ∀ {xs : List V} {us : List Value} {i : Nat} {x : V}, Vals xs us → xs[i]? = some x → ∃ u, us[i]? = some u ∧ RelV x u
  | _, _, _, _, .nil, e => by simp at e
  | _, _, 0, _, .cons r _, e => by simp at e; subst e; exact ⟨_, rfl, r⟩
  | _, _, i + 1, x, .cons _ t, e => by
    obtain ⟨u, h1, h2⟩ := Vals.get (i := i) (x := x) t (by simpa using e)
    exact ⟨u, by simpa using h1, h2⟩
theorem Vals.append : ∀ {xs ys : List V} {us ws : List Value}, Vals xs us → Vals ys ws → Vals (xs ++ ys) (us ++ ws)
  | _, _, _, _, .nil, s => s
  | _, _, _, _, .cons r t, s => .cons r (Vals.append t s)
theorem Vals.take : ∀ {xs : List V} {us : List Value} (n : Nat), Vals xs us → Vals (xs.take n) (us.take n)
  | _, _, 0, _ => .nil
  | _, _, _ + 1, .nil => .nil
  | _, _, n + 1, .cons r t => .cons r (Vals.take n t)
theorem Vals.drop : ∀ {xs : List V} {us : List Value} (n : Nat), Vals xs us → Vals (xs.drop n) (us.drop n)
  | _, _, 0, r => r
  | _, _, _ + 1, .nil => .nil
  | _, _, n + 1, .cons _ t => Vals.drop n t
theorem Vals.none_of : ∀ {xs : List V} {us : List Value} {i : Nat}, Vals xs us → xs[i]? = none → us[i]? = none := fun {xs us i} r e => by
  have h1 := r.length
  have h2 : xs.length ≤ i := List.getElem?_eq_none_iff.mp e
  exact List.getElem?_eq_none_iff.mpr (by omega)

def RelO : Option V → Option Value → Prop
  | some v, some u => RelV v u
  | none, none => True
  | _, _ => False
def KV {κ : Type} : List (κ × V) → List (κ × Value) → Prop := Paired fun (p : κ × V) (q : κ × Value) => p.1 = q.1 ∧ RelV p.2 q.2

/-- a key of a dict (00_mix): an int or a text -/
def kV : Key → V
  | .inl i => .int i
  | .inr x => .str x

/-- what stands at a tracked address -/
inductive HO where
  /-- a list -/
  | lst (xs : List V)
  /-- a tuple (never changes) -/
  | tup (xs : List V)
  /-- a dict whose keys are ints and texts; one whose keys are tuples of ints and texts (the empty one is both) -/
  | dK (kvs : List (Key × V)) | dT (kvs : List (List Key × V))
  /-- a set of ints: its members, its size -/
  | set (S : Int → Bool) (n : Nat)
  /-- an instance of the class at C, its dict at dx, its attributes -/
  | ins (C dx : Addr) (fs : List (Str × V))
  /-- the dict of the instance at x -/
  | own (x : Addr)
  /-- the dict of an exception -/
  | xd (fs : List (Str × V))
  /-- a bound method, f of x -/
  | met (f x : Addr)
  /-- a range object lo, lo + 1, .. below hi -/
  | rng (lo hi : Int)
  /-- a thing that is known to the object (the script; a dict while a loop walks it): read, never written while it is so -/
  | frz (o : Obj) (u : HO)
  /-- a code object's table -/
  | tbl (ps : Array Value)
  /-- any other thing, by what is true of its one object (a def of one's own: SetO a S n := HO.ext fun h => ..) -/
  | ext (φ : Heap → Prop)

abbrev Hp := Addr → Option HO
def upd (H : Hp) (a : Addr) (o : HO) : Hp := fun b => if b = a then some o else H b
theorem upd_same {H : Hp} {a : Addr} {o : HO} : upd H a o a = some o := by unfold upd; rw [if_pos rfl]
theorem upd_ne {H : Hp} {a b : Addr} {o : HO} (h : b ≠ a) : upd H a o b = H b := by unfold upd; rw [if_neg h]
theorem upd_upd {H : Hp} {a : Addr} {o u : HO} : upd (upd H a o) a u = upd H a u := by
  funext b; unfold upd; split <;> rfl
/-- two objects of different content stand apart -/
theorem ne_of {H : Hp} {a b : Addr} {o u : HO} (h : H a = some o) (h' : H b = some u) (d : o ≠ u) : a ≠ b := by
  intro e; subst e; rw [h] at h'; exact d (Option.some.inj h')
theorem ne_of_none {H : Hp} {a b : Addr} {o : HO} (h : H a = some o) (h' : H b = none) : a ≠ b := by
  intro e; subst e; rw [h] at h'; cases h'

section
variable (P : Program) (w : World)
def ObjOk (H : Hp) (h : Heap) (a : Addr) : HO → Prop
  | .lst xs => xs.length ≤ sizeLine ∧ ∃ (its : List Value) (n : Nat), Vals xs its ∧ h.get? a = some { cls := .type "list", data := .seq its.toArray n }
  | .tup xs => xs.length ≤ sizeLine ∧ ∃ its : List Value, Vals xs its ∧ IsTup h a its.toArray
  | .dK kvs => kvs.length ≤ sizeLine ∧ (a == sysModules) = false ∧ ∃ vs, KV kvs vs ∧ h.DictOf (mixKind P w) a vs
  | .dT kvs => kvs.length ≤ sizeLine ∧ (a == sysModules) = false ∧ ∃ xs : List (List Key × Addr × Value),
      Paired (fun (p : List Key × V) (q : List Key × Addr × Value) => p.1 = q.1 ∧ H q.2.1 = some (.tup (p.1.map kV)) ∧ RelV p.2 q.2.2) kvs xs ∧
      ∃ o es ep, h.get? a = some o ∧ o.ExactDict ∧ o.data = .dict es ep ∧ es.toList = xs.map (entryOfKey (tupleKind (mixKind P w))) ∧ (xs.map (·.1)).Nodup
  | .set S n => h.SetOf (intKind P w) a S n
  | .ins C dx fs => H dx = some (.own a) ∧ fs.length ≤ 1000 ∧ dx ≠ a ∧ h.get? a = some (PySem.W.instObj C dx) ∧
      ∃ mA, h.Ns1 dx mA ∧ (∀ f, RelO (fs.lookup f) (mA f)) ∧ PySem.Within mA (fs.map (·.1))
  | .own _ => ∃ o, h.get? a = some o
  | .xd fs => ∃ mA, h.Ns1 a mA ∧ ∀ f, RelO (fs.lookup f) (mA f)
  | .rng lo hi => ∃ t u v, h.get? a = some { cls := .type "range", data := .fields #[.int lo t, .int hi u, .int 1 v] }
  | .frz o u => h.get? a = some o ∧ ObjOk H h a u
  | .tbl ps => h.get? a = some { cls := .none, data := .fields ps }
  | .met f x => h.get? a = some (PySem.W.methodObj (.ref f) (.ref x))
  | .ext φ => φ h ∧ (∃ o, h.get? a = some o) ∧ ∀ h1 h2 : Heap, φ h1 → (∀ o, h1.get? a = some o → h2.get? a = some o) → φ h2
/-- the abstract heap is held -/
def HOk (H : Hp) (h : Heap) : Prop := ∀ a o, H a = some o → ObjOk P w H h a o
end

section
variable {P : Program} {w : World} {H H' : Hp} {h h' : Heap} {a : Addr} {o : HO}
theorem ObjOk.lt (x : ObjOk P w H h a o) : a < h.objs.size := by
  cases o with
  | lst xs => obtain ⟨_, _, _, _, e⟩ := x; exact Heap.lt_size e
  | tup xs => obtain ⟨_, _, _, p⟩ := x; exact p.lt
  | dK kvs => obtain ⟨_, _, _, _, o, _, _, e, _⟩ := x; exact Heap.lt_size e
  | dT kvs => obtain ⟨_, _, _, _, o, _, _, e, _⟩ := x; exact Heap.lt_size e
  | set S n => obtain ⟨o, _, _, _, e, _⟩ := x; exact Heap.lt_size e
  | ins C dx fs => obtain ⟨_, _, _, e, _⟩ := x; exact Heap.lt_size e
  | own y => obtain ⟨_, e⟩ := x; exact Heap.lt_size e
  | xd fs => obtain ⟨_, ⟨_, _, _, e, _⟩, _⟩ := x; exact Heap.lt_size e
  | rng lo hi => obtain ⟨_, _, _, e⟩ := x; exact Heap.lt_size e
  | frz ob u => obtain ⟨e, _⟩ := x; exact Heap.lt_size e
  | tbl ps => exact Heap.lt_size (show h.get? a = some _ from x)
  | met f y => exact Heap.lt_size (show h.get? a = some _ from x)
  | ext φ => obtain ⟨_, ⟨_, e⟩, _⟩ := x; exact Heap.lt_size e
theorem Paired.mapP {α β : Type} {F G : α → β → Prop} : ∀ {l₁ : List α} {l₂ : List β}, Paired F l₁ l₂ → (∀ a b, F a b → G a b) → Paired G l₁ l₂
  | _, _, .nil, _ => .nil
  | _, _, .cons r t, f => .cons (f _ _ r) (Paired.mapP t f)
/-- what an object's description leans on: its own object, its own dict, the tuples -/
theorem ObjOk.stay (x : ObjOk P w H h a o) (k : ∀ b u, (b = a ∨ H b = some (.own a)) → h.get? b = some u → h'.get? b = some u)
    (ho : ∀ b, H b = some (.own a) → H' b = some (.own a)) (ht : ∀ b xs, H b = some (.tup xs) → H' b = some (.tup xs)) : ObjOk P w H' h' a o := by
  induction o with
  | lst xs => obtain ⟨z, its, n, r, e⟩ := x; exact ⟨z, its, n, r, k _ _ (.inl rfl) e⟩
  | tup xs => obtain ⟨z, its, r, ob, e, c⟩ := x; exact ⟨z, its, r, ob, k _ _ (.inl rfl) e, c⟩
  | dK kvs => obtain ⟨z, y, vs, r, ob, es, ep, e, c⟩ := x; exact ⟨z, y, vs, r, ob, es, ep, k _ _ (.inl rfl) e, c⟩
  | dT kvs =>
    obtain ⟨z, y, xs, r, ob, es, ep, e, c⟩ := x
    exact ⟨z, y, xs, Paired.mapP r fun p q z => ⟨z.1, ht _ _ z.2.1, z.2.2⟩, ob, es, ep, k _ _ (.inl rfl) e, c⟩
  | set S n => obtain ⟨ob, es, ep, t, e, c⟩ := x; exact ⟨ob, es, ep, t, k _ _ (.inl rfl) e, c⟩
  | ins C dx fs =>
    obtain ⟨d, z, ne, e, mA, ⟨od, es, ep, e2, c⟩, r⟩ := x
    exact ⟨ho _ d, z, ne, k _ _ (.inl rfl) e, mA, ⟨od, es, ep, k _ _ (.inr d) e2, c⟩, r⟩
  | own y => obtain ⟨ob, e⟩ := x; exact ⟨ob, k _ _ (.inl rfl) e⟩
  | xd fs => obtain ⟨mA, ⟨od, es, ep, e, c⟩, r⟩ := x; exact ⟨mA, ⟨od, es, ep, k _ _ (.inl rfl) e, c⟩, r⟩
  | rng lo hi => obtain ⟨t, u, v, e⟩ := x; exact ⟨t, u, v, k _ _ (.inl rfl) e⟩
  | frz ob u ih => obtain ⟨e, q⟩ := x; exact ⟨k _ _ (.inl rfl) e, ih q⟩
  | tbl ps =>
    have e : h.get? a = some { cls := .none, data := .fields ps } := x
    show h'.get? a = some { cls := .none, data := .fields ps }
    exact k a _ (.inl rfl) e
  | met f y =>
    have e : h.get? a = some (PySem.W.methodObj (.ref f) (.ref y)) := x
    show h'.get? a = some (PySem.W.methodObj (.ref f) (.ref y))
    exact k a _ (.inl rfl) e
  | ext φ => obtain ⟨p, ⟨o, e⟩, st⟩ := x; exact ⟨st _ _ p fun o q => k _ _ (.inl rfl) q, ⟨o, k _ _ (.inl rfl) e⟩, st⟩
theorem HOk.lt (x : HOk P w H h) (e : H a = some o) : a < h.objs.size := (x a o e).lt
theorem HOk.fresh (x : HOk P w H h) (e : h.objs.size ≤ a) : H a = none := by
  cases q : H a with
  | none => rfl
  | some u => exact absurd (Nat.lt_of_lt_of_le (x.lt q) e) (Nat.lt_irrefl _)
/-- every object of the heap is kept -/
theorem HOk.kept (x : HOk P w H h) (k : ∀ b u, h.get? b = some u → h'.get? b = some u) : HOk P w H h' := fun a o e =>
  (x a o e).stay (fun b u _ q => k b u q) (fun _ q => q) fun _ _ q => q
/-- a new object is laid and tracked -/
theorem HOk.laid (x : HOk P w H h) (k : ∀ b u, h.get? b = some u → h'.get? b = some u) (hp : h.objs.size ≤ a) (new : ObjOk P w (upd H a o) h' a o) : HOk P w (upd H a o) h' := fun b u e => by
  have hn := x.fresh hp
  by_cases hb : b = a
  · subst hb; rw [upd_same] at e; cases e; exact new
  · rw [upd_ne hb] at e
    exact (x b u e).stay (fun c v _ q => k c v q) (fun c q => by rw [upd_ne (ne_of_none q hn)]; exact q) fun c xs q => by rw [upd_ne (ne_of_none q hn)]; exact q
end

/-- what may be read as u: it is u, or a known u -/
def Rd (H : Hp) (a : Addr) (u : HO) : Prop := H a = some u ∨ ∃ o, H a = some (.frz o u)
theorem Rd.ok {P : Program} {w : World} {H : Hp} {h : Heap} {a : Addr} {u : HO} (r : Rd H a u) (x : HOk P w H h) : ObjOk P w H h a u := by
  rcases r with r | ⟨o, r⟩
  · exact x a u r
  · obtain ⟨_, q⟩ := x a _ r
    exact q
/-- what may be written -/
def Mut : Option HO → Prop
  | some (.lst _) => True
  | some (.dK _) => True
  | some (.dT _) => True
  | some (.set _ _) => True
  | some (.ins _ _ _) => True
  | some (.ext _) => True
  | _ => False
section
variable {P : Program} {w : World} {H : Hp} {h h' : Heap} {x e : Addr} {o' : HO}
/-- the object at e is changed: x itself, or the dict of the instance x -/
theorem HOk.write (ok : HOk P w H h) (mu : Mut (H x)) (he : e = x ∨ H e = some (.own x)) (k : ∀ b u, b ≠ e → h.get? b = some u → h'.get? b = some u) (heo : ∃ u, h'.get? e = some u)
    (new : ObjOk P w (upd H x o') h' x o') : HOk P w (upd H x o') h' := fun b u q => by
  have nown : ∀ c y, H c = some (.own y) → c ≠ x := fun c y r z => by subst z; rw [r] at mu; exact mu
  have ntup : ∀ c xs, H c = some (.tup xs) → c ≠ x := fun c xs r z => by subst z; rw [r] at mu; exact mu
  by_cases hb : b = x
  · subst hb; rw [upd_same] at q; cases q; exact new
  · rw [upd_ne hb] at q
    by_cases hbe : b = e
    · have q' : H b = some (.own x) := by
        rcases he with z | z
        · exact absurd (hbe.trans z) hb
        · rw [hbe]; exact z
      rw [q] at q'; cases q'
      obtain ⟨v, hv⟩ := heo
      exact ⟨v, by rw [hbe]; exact hv⟩
    · refine (ok b u q).stay (fun c v hc r => k c v ?_ r) (fun c r => by rw [upd_ne (nown c b r)]; exact r) fun c xs r => by rw [upd_ne (ntup c xs r)]; exact r
      rcases hc with rfl | hc
      · exact hbe
      · rintro rfl
        rcases he with z | z
        · exact nown c b hc z
        · rw [hc] at z; cases z; exact hb rfl
end

/-! ### kept unless tracked; of the frames at fs (the callers') the slots may change (an exception that passes writes there); of the records at ex (iterators) nothing is said -/
structure Un (fs ex : List Addr) (H H' : Hp) (h h' : Heap) : Prop where
  keep : ∀ b o, h.get? b = some o → H b = none → b ∉ fs → b ∉ ex → h'.get? b = some o
  slot : ∀ b o, h.get? b = some o → H b = none → b ∈ fs → b ∉ ex → ∃ sl, h'.get? b = some { o with slots := sl }
  free : ∀ b o, h.get? b = some o → H b = none → b ∉ ex → H' b = none
  there : ∀ b o, h.get? b = some o → b ∉ ex → ∃ o', h'.get? b = some o'
  tups : ∀ b xs, H b = some (.tup xs) → H' b = some (.tup xs)
  frzs : ∀ b o u, H b = some (.frz o u) → H' b = some (.frz o u)
  tbls : ∀ b ps, H b = some (.tbl ps) → ∃ more, H' b = some (.tbl (ps ++ more))
section
variable {fs fs' ex ex' : List Addr} {H H1 H2 : Hp} {h h1 h2 h' : Heap} {a x e : Addr} {o : HO}
theorem Un.any (u : Un fs ex H H1 h h1) {b : Addr} {ob : Obj} (q : h.get? b = some ob) (n : H b = none) (hx : b ∉ ex) : ∃ sl, h1.get? b = some { ob with slots := sl } := by
  by_cases hb : b ∈ fs
  · exact u.slot b ob q n hb hx
  · exact ⟨ob.slots, u.keep b ob q n hb hx⟩
theorem Un.kept (k : ∀ b u, h.get? b = some u → h'.get? b = some u) : Un fs ex H H h h' :=
  ⟨fun b ob q _ _ _ => k b ob q, fun b ob q _ _ _ => ⟨ob.slots, k b ob q⟩, fun _ _ _ n _ => n, fun b ob q _ => ⟨ob, k b ob q⟩, fun _ _ q => q, fun _ _ _ q => q, fun _ ps q => ⟨#[], by rw [q]; simp⟩⟩
theorem Un.refl : Un fs ex H H h h := Un.kept fun _ _ q => q
theorem Un.laid (k : ∀ b u, h.get? b = some u → h'.get? b = some u) (hp : h.objs.size ≤ a) (hn : H a = none) : Un fs ex H (upd H a o) h h' where
  keep := fun b u q _ _ _ => k b u q
  slot := fun b u q _ _ _ => ⟨u.slots, k b u q⟩
  free := fun b u q n _ => by rw [upd_ne (Nat.ne_of_lt (Nat.lt_of_lt_of_le (Heap.lt_size q) hp))]; exact n
  there := fun b u q _ => ⟨u, k b u q⟩
  tups := fun b xs q => by rw [upd_ne (ne_of_none q hn)]; exact q
  frzs := fun b u xs q => by rw [upd_ne (ne_of_none q hn)]; exact q
  tbls := fun b ps q => ⟨#[], by rw [upd_ne (ne_of_none q hn), q]; simp⟩
theorem Un.write (mu : Mut (H x)) (he : e = x ∨ H e = some (.own x)) (k : ∀ b u, b ≠ e → h.get? b = some u → h'.get? b = some u) (heo : ∃ u, h'.get? e = some u) : Un fs ex H (upd H x o) h h' := by
  have hx : ∀ b, H b = none → b ≠ x := fun b n z => by subst z; rw [n] at mu; exact mu
  have hb : ∀ b, H b = none → b ≠ e := fun b n z => by
    subst z
    rcases he with r | r
    · exact hx b n r
    · rw [n] at r; cases r
  have hm : ∀ b u, H b = some u → ¬ Mut (some u) → b ≠ x := fun b u q nm z => by subst z; rw [q] at mu; exact nm mu
  refine ⟨fun b u q n _ _ => k b u (hb b n) q, fun b u q n _ _ => ⟨u.slots, k b u (hb b n) q⟩, fun b u q n _ => by rw [upd_ne (hx b n)]; exact n, fun b u q _ => ?_,
    fun b xs q => by rw [upd_ne (hm b _ q fun z => z)]; exact q, fun b u xs q => by rw [upd_ne (hm b _ q fun z => z)]; exact q, fun b ps q => ⟨#[], by rw [upd_ne (hm b _ q fun z => z), q]; simp⟩⟩
  by_cases hbe : b = e
  · subst hbe; exact heo
  · exact ⟨u, k b u hbe q⟩
end

/-! ### the heap without what is tracked -/
def trk (h : Heap) (H : Hp) : List Addr := (List.range h.objs.size).filter fun a => (H a).isSome
def hidT (h : Heap) (H : Hp) : Heap := PySem.W.hideAll h (trk h H)
theorem hidT_size (h : Heap) (H : Hp) : (hidT h H).objs.size = h.objs.size := PySem.W.hideAll_size _ _
theorem hidT_get {h : Heap} {H : Hp} {b : Addr} {o : Obj} (e : h.get? b = some o) (n : H b = none) : (hidT h H).get? b = some o :=
  PySem.W.hideAll_get _ e fun hm => by
    have q : (H b).isSome = true := (List.mem_filter.mp hm).2
    rw [n] at q; simp at q
theorem of_hidT {h : Heap} {H : Hp} {b : Addr} {o : Obj} (e : (hidT h H).get? b = some o) : h.get? b = some o ∧ H b = none := by
  have e' : h.get? b = some o := PySem.W.of_hideAll (trk h H) e
  refine ⟨e', ?_⟩
  cases q : H b with
  | none => rfl
  | some x =>
    have hm : b ∈ trk h H := List.mem_filter.mpr ⟨List.mem_range.mpr (Heap.lt_size e'), by simp [q]⟩
    have z : (hidT h H).get? b = none := PySem.W.hideAll_none (trk h H) hm
    rw [z] at e; cases e

/-! ### OpenK's ledger, filled with every new object but one -/
end L2

namespace L2
open PySem PySem.Spec PyProof.Rows

/-- the module's facts, over the base: the heap at the law's entry without what is tracked there -/
structure Mod (K : PySem.W.Frag) (mg : Str → Option Value) (base : Heap) : Prop where
  kin : K.In base
  glob : base.Ns mainGlobals mg
  blt : ∃ mb, base.Ns builtinsNs mb ∧ ∀ x : Str, x ≠ "__name__" → mb x = bootBuiltins x
  nolimit : base.NoLimit

/-- the context: a def's body (or a comprehension's block) running. base: fixed through the whole law; s₀, H₀: the entry; outer: the frames whose slots others may change (a def's callers); stack: all frames that run;
   ex: iterators that were made ahead of the entry and are walked here (a comprehension's); fn: the names whose cells were made at the entry (a def: all; a comprehension's block: its own); calm: not within an except suite; pn: pins that every state bears; xe: what is wanted of an exception that leaves the code -/
structure Cx where
  prog : Program
  w : World
  K : PySem.W.Frag
  mg : Str → Option Value
  base : Heap
  A : Around
  N : List Str
  s₀ : Shared
  H₀ : Hp
  env : Env
  outer : List Env
  stack : List Env
  ex : List Addr
  fn : Str → Bool
  calm : Bool
  pn : List (Addr × Obj)
  xe : Value → Shared → Prop
/-- the callers' frames -/
def frs (l : List Env) : List Addr := l.filterMap (·.frame)
abbrev Cx.fs (X : Cx) : List Addr := frs X.outer

def Vis (sc : Scope) (x : Str) : Prop := sc.names.lookup x = some .local ∨ sc.names.lookup x = some .cell ∨ sc.names.lookup x = some .free
def Loc (sc : Scope) (x : Str) : Prop := sc.names.lookup x = some .local ∨ sc.names.lookup x = some .cell
def Look (env : Env) (h : Heap) (m : Str → Option Value) (x : Str) (u : Value) : Prop :=
  (env.kindOf x = some .local ∧ m x = some u) ∨ ((env.kindOf x = some .cell ∨ env.kindOf x = some .free) ∧ ∃ c, env.cells.lookup x = some c ∧ h.IsCell c (some u))

structure Cx.Ok (X : Cx) : Prop where
  mod : Mod X.K X.mg X.base
  kind : X.env.scope.kind = .function
  glob : X.env.globals = mainGlobals
  blt : X.env.builtins = builtinsNs
  above : X.s₀.heap.objs.size ≤ X.env.locals
  inj : ∀ x y c, X.env.cells.lookup x = some c → X.env.cells.lookup y = some c → x = y
  has : ∀ x, (X.env.kindOf x = some .cell ∨ X.env.kindOf x = some .free) → ∃ c, X.env.cells.lookup x = some c
  cab : ∀ x c, X.fn x = true → X.env.cells.lookup x = some c → X.s₀.heap.objs.size ≤ c
  hd : X.calm = true → X.A.handled = none
  frames : X.A.frames = some X.stack
  stk : X.stack = X.outer ∨ (X.stack = X.env :: X.outer ∧ X.env.frame = some X.env.locals)
  exf : ∀ b ∈ X.ex, b ≠ X.env.locals ∧ ∀ x c, X.env.cells.lookup x = some c → c ≠ b
  bs : ∀ b o, X.base.get? b = some o → X.s₀.heap.get? b = some o ∧ X.H₀ b = none
  bsz : X.base.objs.size ≤ X.s₀.heap.objs.size
  noex : ∀ b o, X.base.get? b = some o → b ∉ X.ex
  exfs : ∀ b ∈ X.ex, b ∉ X.fs
  funs : X.s₀.heap.FunFrames X.base X.outer
  frf : ∀ b ∈ X.fs, X.H₀ b = none

structure Inv (X : Cx) (pins : List (Addr × Obj)) (σ : List (Option V)) (H : Hp) (s : Shared) : Prop where
  ok : X.Ok
  os : s.os = X.s₀.os
  bare : AllBare s.gens
  base : Un X.fs X.ex X.H₀ H X.s₀.heap s.heap
  loc : ∃ m, s.heap.Ns X.env.locals m ∧ ∀ (i : Nat) (x : Str) (v : V), X.N[i]? = some x → σ[i]? = some (some v) → Vis X.env.scope x → ∃ u, RelV v u ∧ Look X.env s.heap m x u
  cell : ∀ x c, X.env.cells.lookup x = some c → ∃ v, s.heap.IsCell c v
  free : H X.env.locals = none
  freeC : ∀ x c, X.env.cells.lookup x = some c → H c = none
  pin : ∀ p ∈ X.pn ++ pins, s.heap.get? p.1 = some p.2 ∧ H p.1 = none ∧ p.1 ≠ X.env.locals ∧ p.1 ∉ X.fs ∧ ∀ v, p.2.data ≠ .cell v
  hok : HOk X.prog X.w H s.heap
  len : σ.length = X.N.length

section
variable {X : Cx} {pins : List (Addr × Obj)} {σ : List (Option V)} {H H' : Hp} {s : Shared} {h' : Heap}

theorem Cx.Ok.nofr (ok : X.Ok) {b : Addr} {o : Obj} (e : X.base.get? b = some o) : b ∉ X.fs := fun hb => by
  have := (ok.funs.mem hb).1
  rw [e] at this; cases this
theorem Inv.bs (I : Inv X pins σ H s) : ∀ b o, X.base.get? b = some o → s.heap.get? b = some o ∧ H b = none := fun b o e =>
  ⟨I.base.keep b o (I.ok.bs b o e).1 (I.ok.bs b o e).2 (I.ok.nofr e) (I.ok.noex b o e), I.base.free b o (I.ok.bs b o e).1 (I.ok.bs b o e).2 (I.ok.noex b o e)⟩
theorem Inv.bk (I : Inv X pins σ H s) : ∀ b o, X.base.get? b = some o → s.heap.get? b = some o := fun b o e => (I.bs b o e).1
theorem Inv.mod (I : Inv X pins σ H s) : Mod X.K X.mg X.base := I.ok.mod
theorem Inv.kIn (I : Inv X pins σ H s) : X.K.In s.heap := I.ok.mod.kin.keeps I.bk
theorem Inv.lt (I : Inv X pins σ H s) : X.env.locals < s.heap.objs.size := let ⟨_, hn, _⟩ := I.loc; hn.lt
theorem Inv.sz (I : Inv X pins σ H s) : X.s₀.heap.objs.size ≤ s.heap.objs.size := Nat.le_trans I.ok.above (Nat.le_of_lt I.lt)
theorem Inv.nofs (I : Inv X pins σ H s) {a : Addr} (h : s.heap.objs.size ≤ a) : a ∉ X.fs := fun hb => by
  obtain ⟨_, o, ho, _⟩ := I.ok.funs.mem hb
  exact absurd (Nat.lt_of_lt_of_le (Heap.lt_size ho) (Nat.le_trans I.sz h)) (Nat.lt_irrefl _)
theorem Inv.cne (I : Inv X pins σ H s) : ∀ x c, X.env.cells.lookup x = some c → c ≠ X.env.locals := fun x c e z => by
  obtain ⟨v, o, ho, hd⟩ := I.cell x c e
  obtain ⟨m, ⟨o', es, ep, ho', hd', _⟩, _⟩ := I.loc
  rw [z, ho'] at ho; cases ho; rw [hd'] at hd; cases hd
theorem Inv.funs (I : Inv X pins σ H s) : s.heap.FunFrames X.base X.outer := by
  have all : ∀ (l : List Env), (∀ b ∈ frs l, b ∈ X.fs) → X.s₀.heap.FunFrames X.base l → s.heap.FunFrames X.base l := by
    intro l
    induction l with
    | nil => intro _ _; trivial
    | cons env r ih =>
      intro hs hl
      obtain ⟨hk, ⟨L, o, hf, hn, ho, hd⟩, hr⟩ := hl
      have hL : L ∈ X.fs := hs L (by unfold frs; rw [List.filterMap_cons, hf]; exact List.mem_cons_self)
      obtain ⟨sl, e⟩ := I.base.slot L o ho (I.ok.frf L hL) hL fun z => I.ok.exfs L z hL
      exact ⟨hk, ⟨L, _, hf, hn, e, hd⟩, ih (fun b hb => hs b (by unfold frs; rw [List.filterMap_cons, hf]; exact List.mem_cons_of_mem _ hb)) hr⟩
  exact all X.outer (fun _ hb => hb) I.ok.funs

/-- the frames that run, for a call -/
theorem Inv.stack (I : Inv X pins σ H s) : s.heap.FunFrames X.base X.stack := by
  rcases I.ok.stk with e | ⟨e, hf⟩
  · rw [e]; exact I.funs
  · rw [e]
    obtain ⟨m, hn, _⟩ := I.loc
    refine .cons (by rw [I.ok.kind]; decide) hf hn ?_ I.funs
    exact Heap.get?_none_of_le (Nat.le_trans I.ok.bsz I.ok.above)
theorem Inv.stkSub (I : Inv X pins σ H s) : ∀ b ∈ frs X.stack, b ∈ X.env.locals :: X.fs := fun b hb => by
  rcases I.ok.stk with e | ⟨e, hf⟩
  · rw [e] at hb; exact List.mem_cons_of_mem _ hb
  · rw [e] at hb
    unfold frs at hb
    rw [List.filterMap_cons, hf] at hb
    exact hb
theorem Inv.stkFree (I : Inv X pins σ H s) : ∀ b ∈ frs X.stack, H b = none := fun b hb => by
  rcases List.mem_cons.mp (I.stkSub b hb) with e | hb
  · rw [e]; exact I.free
  · obtain ⟨_, o, ho, _⟩ := I.ok.funs.mem hb
    exact I.base.free b o ho (I.ok.frf b hb) fun z => I.ok.exfs b z hb

/-- THE STEP: the untracked objects but the frame and the records at ch are kept (the callers' frames up to slots), the frame's map is kept, the new abstract heap is held -/
theorem Inv.step {g' : Array GenState} {t' : Nat} {d' : Drawn} {ch : List Addr} (I : Inv X pins σ H s)
    (hch : ∀ b ∈ ch, (b ∈ X.ex ∨ X.s₀.heap.objs.size ≤ b) ∧ b ≠ X.env.locals ∧ (∀ x c, X.env.cells.lookup x = some c → c ≠ b) ∧ ∀ p ∈ X.pn ++ pins, p.1 ≠ b)
    (keep : ∀ b o, b ≠ X.env.locals → b ∉ X.fs → b ∉ ch → s.heap.get? b = some o → H b = none → h'.get? b = some o)
    (slot : ∀ b o, b ≠ X.env.locals → b ∈ X.fs → b ∉ ch → s.heap.get? b = some o → H b = none → ∃ sl, h'.get? b = some { o with slots := sl }) (free : ∀ b o, b ∉ ch → s.heap.get? b = some o → H b = none → H' b = none)
    (there : ∀ b o, b ∉ ch → s.heap.get? b = some o → ∃ o', h'.get? b = some o')
    (tups : ∀ b xs, H b = some (.tup xs) → H' b = some (.tup xs)) (frzs : ∀ b o u, H b = some (.frz o u) → H' b = some (.frz o u)) (tbls : ∀ b ps, H b = some (.tbl ps) → ∃ more, H' b = some (.tbl (ps ++ more)))
    (ns : ∀ m, s.heap.Ns X.env.locals m → h'.Ns X.env.locals m) (hok : HOk X.prog X.w H' h') (hg : AllBare g') :
    Inv X pins σ H' { s with heap := h', gens := g', drawn := d', toks := t' } := by
  have neL : ∀ b o, X.s₀.heap.get? b = some o → b ≠ X.env.locals := fun b o e => Nat.ne_of_lt (Nat.lt_of_lt_of_le (Heap.lt_size e) I.ok.above)
  have neC : ∀ b o, X.s₀.heap.get? b = some o → b ∉ X.ex → b ∉ ch := fun b o e hx hb => by
    rcases (hch b hb).1 with z | z
    · exact hx z
    · exact absurd (Nat.lt_of_lt_of_le (Heap.lt_size e) z) (Nat.lt_irrefl _)
  have cellK : ∀ x c, X.env.cells.lookup x = some c → ∀ v, s.heap.IsCell c v → h'.IsCell c v := fun x c e v ⟨o, ho, hd⟩ => by
    have nch : c ∉ ch := fun z => (hch c z).2.2.1 x c e rfl
    by_cases hc : c ∈ X.fs
    · obtain ⟨sl, q⟩ := slot c o (I.cne x c e) hc nch ho (I.freeC x c e)
      exact ⟨_, q, hd⟩
    · exact ⟨o, keep c o (I.cne x c e) hc nch ho (I.freeC x c e), hd⟩
  refine ⟨I.ok, I.os, hg, ⟨fun b o e n hb hx => ?_, fun b o e n hb hx => ?_, fun b o e n hx => ?_, fun b o e hx => ?_, fun b xs e => tups b xs (I.base.tups b xs e), fun b o xs e => frzs b o xs (I.base.frzs b o xs e), fun b ps e => ?_⟩, ?_, fun x c e => ?_, ?_, fun x c e => ?_, fun p hp => ?_, hok, I.len⟩
  · exact keep b o (neL b o e) hb (neC b o e hx) (I.base.keep b o e n hb hx) (I.base.free b o e n hx)
  · obtain ⟨sl, e1⟩ := I.base.slot b o e n hb hx
    obtain ⟨sl', e2⟩ := slot b _ (neL b o e) hb (neC b o e hx) e1 (I.base.free b o e n hx)
    exact ⟨sl', e2⟩
  · obtain ⟨o', e1⟩ := I.base.there b o e hx
    exact free b o' (neC b o e hx) e1 (I.base.free b o e n hx)
  · obtain ⟨o', e1⟩ := I.base.there b o e hx
    exact there b o' (neC b o e hx) e1
  · obtain ⟨m1, e1⟩ := I.base.tbls b ps e
    obtain ⟨m2, e2⟩ := tbls b _ e1
    exact ⟨m1 ++ m2, by rw [e2, Array.append_assoc]⟩
  · obtain ⟨m, hn, hl⟩ := I.loc
    refine ⟨m, ns m hn, fun i x v e1 e2 e3 => ?_⟩
    obtain ⟨u, r, l⟩ := hl i x v e1 e2 e3
    refine ⟨u, r, ?_⟩
    rcases l with l | ⟨k, c, e, z⟩
    · exact .inl l
    · exact .inr ⟨k, c, e, cellK x c e _ z⟩
  · obtain ⟨v, z⟩ := I.cell x c e
    exact ⟨v, cellK x c e v z⟩
  · obtain ⟨m, ⟨o, _, _, ho, _⟩, _⟩ := I.loc
    exact free _ o (fun z => (hch _ z).2.1 rfl) ho I.free
  · obtain ⟨v, o, ho, hd⟩ := I.cell x c e
    exact free c o (fun z => (hch c z).2.2.1 x c e rfl) ho (I.freeC x c e)
  · obtain ⟨e, n, ne, nf, d⟩ := I.pin p hp
    have nch : p.1 ∉ ch := fun z => (hch p.1 z).2.2.2 p hp rfl
    exact ⟨keep p.1 p.2 ne nf nch e n, free p.1 p.2 nch e n, ne, nf, d⟩
/-- .. where the frame's own object is kept too -/
theorem Inv.un {t' : Nat} (I : Inv X pins σ H s) (u : Un X.fs [] H H' s.heap h') (hok : HOk X.prog X.w H' h') : Inv X pins σ H' { s with heap := h', toks := t' } := by
  obtain ⟨m, ⟨o, es, ep, ho, r⟩, _⟩ := id I.loc
  obtain ⟨sl, hL⟩ := u.any ho I.free (by simp)
  exact I.step (g' := s.gens) (d' := s.drawn) (ch := []) (fun _ z => nomatch z) (fun b o _ hb _ e n => u.keep b o e n hb (by simp)) (fun b o _ hb _ e n => u.slot b o e n hb (by simp)) (fun b o _ e n => u.free b o e n (by simp)) (fun b o _ e => u.there b o e (by simp)) u.tups u.frzs u.tbls (fun m' hm => by
    obtain ⟨o', es', ep', ho', r'⟩ := hm
    rw [ho] at ho'; cases ho'
    exact ⟨_, es', ep', hL, r'⟩) hok I.bare
/-- behind a call (or a comprehension's block): the slots of this frame may have changed too, the records at ch may have turned -/
theorem Inv.call {g' : Array GenState} {t' : Nat} {d' : Drawn} {ch : List Addr} (I : Inv X pins σ H s) (u : Un (frs X.stack) ch H H' s.heap h') (hok : HOk X.prog X.w H' h') (hg : AllBare g')
    (hch : ∀ b ∈ ch, (b ∈ X.ex ∨ X.s₀.heap.objs.size ≤ b) ∧ b ≠ X.env.locals ∧ (∀ x c, X.env.cells.lookup x = some c → c ≠ b) ∧ ∀ p ∈ X.pn ++ pins, p.1 ≠ b) :
    Inv X pins σ H' { s with heap := h', gens := g', drawn := d', toks := t' } := by
  obtain ⟨m, ⟨o, es, ep, ho, r⟩, _⟩ := id I.loc
  obtain ⟨sl, hL⟩ := u.any ho I.free fun z => (hch _ z).2.1 rfl
  exact I.step (ch := ch) hch (fun b o hL hb hc e n => u.keep b o e n (fun z => (List.mem_cons.mp (I.stkSub b z)).elim hL hb) hc) (fun b o _ _ hc e n => u.any e n hc) (fun b o hc e n => u.free b o e n hc) (fun b o hc e => u.there b o e hc) u.tups u.frzs u.tbls (fun m' hm => by
    obtain ⟨o', es', ep', ho', r'⟩ := hm
    rw [ho] at ho'; cases ho'
    exact ⟨_, es', ep', hL, r'⟩) hok hg
/-- an untracked record of ours (an iterator) has turned -/
theorem Inv.turned {t' : Nat} {it : Addr} (I : Inv X pins σ H s) (k : ∀ b o, b ≠ it → s.heap.get? b = some o → h'.get? b = some o) (hn : H it = none) (hL : it ≠ X.env.locals)
    (h1 : it ∈ X.ex ∨ X.s₀.heap.objs.size ≤ it) (h2 : ∀ x c, X.env.cells.lookup x = some c → c ≠ it) (h3 : ∀ p ∈ X.pn ++ pins, p.1 ≠ it) : Inv X pins σ H { s with heap := h', toks := t' } := by
  have nit : ∀ b u, H b = some u → b ≠ it := fun b u e z => by rw [z, hn] at e; cases e
  refine I.step (g' := s.gens) (d' := s.drawn) (ch := [it]) (fun b hb => ?_) (fun b o _ _ hc e _ => k b o (fun z => hc (by simp [z])) e) (fun b o _ _ hc e _ => ⟨o.slots, k b o (fun z => hc (by simp [z])) e⟩) (fun _ _ _ _ n => n)
    (fun b o hc e => ⟨o, k b o (fun z => hc (by simp [z])) e⟩) (fun _ _ e => e) (fun _ _ _ e => e) (fun b ps e => ⟨#[], by rw [e]; simp⟩) (fun m hm => ?_) (fun b u e => ?_) I.bare
  · have e : b = it := by simpa using hb
    subst e
    exact ⟨h1, hL, h2, h3⟩
  · obtain ⟨o, es, ep, ho, r⟩ := hm
    exact ⟨o, es, ep, k _ o (Ne.symm hL) ho, r⟩
  · refine (I.hok b u e).stay (fun c v hc q => k c v ?_ q) (fun _ q => q) fun _ _ q => q
    rcases hc with z | z
    · rw [z]; exact nit b u e
    · exact nit c _ z
theorem Inv.tok (I : Inv X pins σ H s) (t : Nat) : Inv X pins σ H { s with toks := t } := I.un (h' := s.heap) (t' := t) Un.refl I.hok
/-- all objects kept -/
theorem Inv.kept {t' : Nat} (I : Inv X pins σ H s) (k : ∀ b u, s.heap.get? b = some u → h'.get? b = some u) : Inv X pins σ H { s with heap := h', toks := t' } := I.un (Un.kept k) (I.hok.kept k)
/-- a new object laid and tracked -/
theorem Inv.laid {a : Addr} {o : HO} {t' : Nat} (I : Inv X pins σ H s) (k : ∀ b u, s.heap.get? b = some u → h'.get? b = some u) (hp : s.heap.objs.size ≤ a) (new : ObjOk X.prog X.w (upd H a o) h' a o) :
    Inv X pins σ (upd H a o) { s with heap := h', toks := t' } := I.un (Un.laid k hp (I.hok.fresh hp)) (I.hok.laid k hp new)
/-- an object written -/
theorem Inv.write {x e : Addr} {o : HO} {t' : Nat} (I : Inv X pins σ H s) (mu : Mut (H x)) (he : e = x ∨ H e = some (.own x)) (k : ∀ b u, b ≠ e → s.heap.get? b = some u → h'.get? b = some u) (heo : ∃ u, h'.get? e = some u)
    (new : ObjOk X.prog X.w (upd H x o) h' x o) : Inv X pins σ (upd H x o) { s with heap := h', toks := t' } := I.un (Un.write mu he k heo) (I.hok.write mu he k heo new)
theorem Inv.pins_of {pins' : List (Addr × Obj)} (I : Inv X pins σ H s) (h : ∀ p ∈ pins', s.heap.get? p.1 = some p.2 ∧ H p.1 = none ∧ p.1 ≠ X.env.locals ∧ p.1 ∉ X.fs ∧ ∀ v, p.2.data ≠ .cell v) : Inv X pins' σ H s :=
  ⟨I.ok, I.os, I.bare, I.base, I.loc, I.cell, I.free, I.freeC, fun p hp => (List.mem_append.mp hp).elim (fun z => I.pin p (List.mem_append_left _ z)) (h p), I.hok, I.len⟩

theorem nodup_ix {N : List Str} (hN : N.Nodup) {i j : Nat} {x : Str} (a : N[i]? = some x) (b : N[j]? = some x) : i = j := by
  obtain ⟨h1, e1⟩ := List.getElem?_eq_some_iff.mp a
  obtain ⟨h2, e2⟩ := List.getElem?_eq_some_iff.mp b
  exact (List.getElem_inj hN).mp (e1.trans e2.symm)

/-- a name is stored; what changed -/
theorem store_ok2 {M : Model} {A : Around} {E : Value → Shared → Prop} {i : Nat} {x : Str} {v : V} {u : Value} {Q : Unit → Shared → Prop} (I : Inv X pins σ H s) (hN : X.N.Nodup) (hi : X.N[i]? = some x) (hx : Loc X.env.scope x) (r : RelV v u)
    (h : ∀ s', Inv X pins (σ.set i (some v)) H s' → (∃ a, Heap.SameBut a s.heap s'.heap ∧ (a = X.env.locals ∨ X.env.cells.lookup x = some a)) → Q () s') (hf : X.fn x = true ∨ X.env.scope.names.lookup x = some .local := by first | exact .inl rfl | exact .inr rfl | assumption) : wpAny M A (storeName X.env x u) Q E s := by
  obtain ⟨m, hn, hl⟩ := id I.loc
  have hcls : (X.env.scope.kind == .class || (X.env.scope.kind == .module && X.env.locals != X.env.globals)) = false := by rw [I.ok.kind]; rfl
  have hiσ : i < σ.length := by rw [I.len]; exact (List.getElem?_eq_some_iff.mp hi).1
  have cne := I.cne
  have tracked : ∀ {a : Addr} {h' : Heap}, (∃ o, s.heap.get? a = some o ∧ H a = none) → Heap.SameBut a s.heap h' → HOk X.prog X.w H h' := fun {a h'} ha hs b ob e => by
    obtain ⟨_, _, hfree⟩ := ha
    refine (I.hok b ob e).stay (fun c w' hc q => (hs.2 c ?_).trans q) (fun _ q => q) fun _ _ q => q
    rintro rfl
    rcases hc with rfl | hc
    · rw [hfree] at e; cases e
    · rw [hfree] at hc; cases hc
  rcases hx with hk | hk
  · refine wpAny_storeName_local hk hn (fun h' hn' hs => ?_) hcls
    obtain ⟨oL, _, _, hoL, _⟩ := id hn
    refine h _ ⟨I.ok, I.os, I.bare, ⟨fun b o e n hb hx => ?_, fun b o e n hb hx => ?_, I.base.free, fun b o e hx => ?_, I.base.tups, I.base.frzs, I.base.tbls⟩, ⟨_, hn', fun j y v' e1 e2 e3 => ?_⟩, fun y c e => ?_, I.free, I.freeC, fun p hp => ?_, tracked ⟨oL, hoL, I.free⟩ hs, by simpa using I.len⟩ ⟨_, hs, .inl rfl⟩
    · exact (hs.2 b (Nat.ne_of_lt (Nat.lt_of_lt_of_le (Heap.lt_size e) I.ok.above))).trans (I.base.keep b o e n hb hx)
    · obtain ⟨sl, e1⟩ := I.base.slot b o e n hb hx
      exact ⟨sl, (hs.2 b (Nat.ne_of_lt (Nat.lt_of_lt_of_le (Heap.lt_size e) I.ok.above))).trans e1⟩
    · obtain ⟨o', e1⟩ := I.base.there b o e hx
      exact ⟨o', (hs.2 b (Nat.ne_of_lt (Nat.lt_of_lt_of_le (Heap.lt_size e) I.ok.above))).trans e1⟩
    · by_cases hj : j = i
      · subst hj
        rw [hi] at e1; cases e1
        rw [List.getElem?_set_self hiσ] at e2
        cases e2
        exact ⟨u, r, .inl ⟨hk, by simp⟩⟩
      · rw [List.getElem?_set_ne (Ne.symm hj)] at e2
        obtain ⟨u', r', q⟩ := hl j y v' e1 e2 e3
        refine ⟨u', r', ?_⟩
        rcases q with ⟨k, e⟩ | ⟨k, c, e, z⟩
        · refine .inl ⟨k, ?_⟩
          have : y ≠ x := fun e => hj (nodup_ix hN e1 (e ▸ hi))
          simp [this, e]
        · exact .inr ⟨k, c, e, z.sameBut hs (cne y c e)⟩
    · obtain ⟨w', z⟩ := I.cell y c e
      exact ⟨w', z.sameBut hs (cne y c e)⟩
    · obtain ⟨e, n, ne, nf, d⟩ := I.pin p hp
      exact ⟨(hs.2 p.1 ne).trans e, n, ne, nf, d⟩
  · have hfn : X.fn x = true := by
      rcases hf with z | z
      · exact z
      · rw [z] at hk; cases hk
    obtain ⟨c, hc⟩ := I.ok.has x (.inl hk)
    obtain ⟨w', z⟩ := I.cell x c hc
    refine wpAny_storeName_cell I.ok.kind hk hc z (fun h' hc' hs => ?_)
    obtain ⟨oc, hoc, hocd⟩ := id z
    refine h { s with heap := h' } ⟨I.ok, I.os, I.bare, ⟨fun b o e n hb hx => ?_, fun b o e n hb hx => ?_, I.base.free, fun b o e hx => ?_, I.base.tups, I.base.frzs, I.base.tbls⟩, ⟨m, hn.sameBut hs (Ne.symm (cne x c hc)), fun j y v' e1 e2 e3 => ?_⟩, fun y c' e => ?_, I.free, I.freeC, fun p hp => ?_, tracked ⟨oc, hoc, I.freeC x c hc⟩ hs, by simpa using I.len⟩ ⟨c, hs, .inr hc⟩
    · exact (hs.2 b (Nat.ne_of_lt (Nat.lt_of_lt_of_le (Heap.lt_size e) (I.ok.cab x c hfn hc)))).trans (I.base.keep b o e n hb hx)
    · obtain ⟨sl, e1⟩ := I.base.slot b o e n hb hx
      exact ⟨sl, (hs.2 b (Nat.ne_of_lt (Nat.lt_of_lt_of_le (Heap.lt_size e) (I.ok.cab x c hfn hc)))).trans e1⟩
    · obtain ⟨o', e1⟩ := I.base.there b o e hx
      exact ⟨o', (hs.2 b (Nat.ne_of_lt (Nat.lt_of_lt_of_le (Heap.lt_size e) (I.ok.cab x c hfn hc)))).trans e1⟩
    · by_cases hj : j = i
      · subst hj
        rw [hi] at e1; cases e1
        rw [List.getElem?_set_self hiσ] at e2
        cases e2
        exact ⟨u, r, .inr ⟨.inl hk, c, hc, hc'⟩⟩
      · rw [List.getElem?_set_ne (Ne.symm hj)] at e2
        obtain ⟨u', r', q⟩ := hl j y v' e1 e2 e3
        refine ⟨u', r', ?_⟩
        rcases q with q | ⟨k, c', e, z'⟩
        · exact .inl q
        · refine .inr ⟨k, c', e, z'.sameBut hs ?_⟩
          rintro rfl
          exact hj (nodup_ix hN e1 (I.ok.inj _ _ _ e hc ▸ hi))
    · by_cases hcc : c' = c
      · subst hcc; exact ⟨_, hc'⟩
      · obtain ⟨w2, z2⟩ := I.cell y c' e
        exact ⟨w2, z2.sameBut hs hcc⟩
    · obtain ⟨e, n, ne, nf, d⟩ := I.pin p hp
      refine ⟨(hs.2 p.1 ?_).trans e, n, ne, nf, d⟩
      intro q
      rw [q, hoc] at e
      have q' : oc = p.2 := Option.some.inj e
      exact d w' (by rw [← q']; exact hocd)
theorem store_ok {M : Model} {A : Around} {E : Value → Shared → Prop} {i : Nat} {x : Str} {v : V} {u : Value} {Q : Unit → Shared → Prop} (I : Inv X pins σ H s) (hN : X.N.Nodup) (hi : X.N[i]? = some x) (hx : Loc X.env.scope x) (r : RelV v u)
    (h : ∀ s', Inv X pins (σ.set i (some v)) H s' → Q () s') (hf : X.fn x = true ∨ X.env.scope.names.lookup x = some .local := by first | exact .inl rfl | exact .inr rfl | assumption) : wpAny M A (storeName X.env x u) Q E s :=
  store_ok2 I hN hi hx r (fun s' I' _ => h s' I') hf
/-- behind a call or a block, the state as it is -/
theorem Inv.call' {s' : Shared} {ch : List Addr} (I : Inv X pins σ H s) (ho : s'.os = s.os) (u : Un (frs X.stack) ch H H' s.heap s'.heap) (hok : HOk X.prog X.w H' s'.heap) (hg : AllBare s'.gens)
    (hch : ∀ b ∈ ch, (b ∈ X.ex ∨ X.s₀.heap.objs.size ≤ b) ∧ b ≠ X.env.locals ∧ (∀ x c, X.env.cells.lookup x = some c → c ≠ b) ∧ ∀ p ∈ X.pn ++ pins, p.1 ≠ b) : Inv X pins σ H' s' := by
  obtain ⟨h', g', d', t', o'⟩ := s'
  have e : o' = s.os := ho
  subst e
  exact I.call (g' := g') (t' := t') (d' := d') u hok hg hch
end

/-! ### the judgements -/
/-- an exception: its class, its own dict's address (where it has one), the abstract heap behind it -/
abbrev XK := Value → Option Addr → Hp → Prop
abbrev St := List (Option V)
abbrev VK := V → Hp → Prop
/-- an expression's reading; a test's; an argument list's -/
abbrev TE := St → Hp → VK → Prop
abbrev TT := St → Hp → (Bool → Hp → Prop) → Prop
abbrev TA := St → Hp → (List V → Hp → Prop) → Prop
/-- what is wanted behind a statement -/
structure Ends where
  nx : St → Hp → Prop
  rt : VK
  bk : St → Hp → Prop := fun _ _ => False
  ct : St → Hp → Prop := fun _ _ => False
abbrev TS := Ends → St → Hp → Prop

def EP (X : Cx) (pins : List (Addr × Obj)) (σ : St) (Q : VK) (u : Value) (s' : Shared) : Prop := ∃ v H', Inv X pins σ H' s' ∧ RelV v u ∧ Q v H'
def TP (X : Cx) (pins : List (Addr × Obj)) (σ : St) (Q : Bool → Hp → Prop) (b : Bool) (s' : Shared) : Prop := ∃ H', Inv X pins σ H' s' ∧ Q b H'
def AP (X : Cx) (pins : List (Addr × Obj)) (σ : St) (Q : List V → Hp → Prop) (us : List Value) (s' : Shared) : Prop := ∃ vs H', Inv X pins σ H' s' ∧ Vals vs us ∧ Q vs H'
def SP (X : Cx) (pins : List (Addr × Obj)) (D : Ends) (f : Flow) (s' : Shared) : Prop :=
  match f with
  | .next => ∃ σ' H', Inv X pins σ' H' s' ∧ D.nx σ' H'
  | .brk => ∃ σ' H', Inv X pins σ' H' s' ∧ D.bk σ' H'
  | .cont => ∃ σ' H', Inv X pins σ' H' s' ∧ D.ct σ' H'
  | .ret u => ∃ v σ' H', Inv X pins σ' H' s' ∧ RelV v u ∧ D.rt v H'

def PE (X : Cx) (e : Expr) (t : TE) : Prop :=
  ∀ (pins : List (Addr × Obj)) (s : Shared) (σ : St) (H : Hp) (Q : VK), Inv X pins σ H s → t σ H Q → wpAny (model X.prog X.w) X.A (eval e X.env) (EP X pins σ Q) X.xe s
def PT (X : Cx) (e : Expr) (t : TT) : Prop :=
  ∀ (pins : List (Addr × Obj)) (s : Shared) (σ : St) (H : Hp) (Q : Bool → Hp → Prop), Inv X pins σ H s → t σ H Q → wpAny (model X.prog X.w) X.A (isTrue e X.env (eval e X.env)) (TP X pins σ Q) X.xe s
/-- a test whatever its 'whole' is (and, or) -/
def PW (X : Cx) (e : Expr) (t : TT) : Prop :=
  ∀ (whole : Sem Value) (pins : List (Addr × Obj)) (s : Shared) (σ : St) (H : Hp) (Q : Bool → Hp → Prop), Inv X pins σ H s → t σ H Q → wpAny (model X.prog X.w) X.A (isTrue e X.env whole) (TP X pins σ Q) X.xe s
theorem PW.pt {X : Cx} {e : Expr} {t : TT} (h : PW X e t) : PT X e t := h _
/-- an argument list (no star), from the left -/
def PA (X : Cx) (es : List Expr) (t : TA) : Prop :=
  ∀ (pos : Pos) (pins : List (Addr × Obj)) (s : Shared) (σ : St) (H : Hp) (Q : List V → Hp → Prop), Inv X pins σ H s → t σ H Q → wpAny (model X.prog X.w) X.A (spliced (backTo pos (starEach es X.env))) (AP X pins σ Q) X.xe s
def PS (X : Cx) (st : Stmt) (t : TS) : Prop :=
  ∀ (pins : List (Addr × Obj)) (s : Shared) (σ : St) (H : Hp) (D : Ends), Inv X pins σ H s → t D σ H → wpAny (model X.prog X.w) X.A (exec st X.env) (SP X pins D) X.xe s
def PSs (X : Cx) (st : List Stmt) (t : TS) : Prop :=
  ∀ (pins : List (Addr × Obj)) (s : Shared) (σ : St) (H : Hp) (D : Ends), Inv X pins σ H s → t D σ H → wpAny (model X.prog X.w) X.A (execs st X.env) (SP X pins D) X.xe s
/-- weaken the end -/
theorem thn {α : Type} {t : Sem α} {Q Q' : α → Shared → Prop} {M : Model} {A : Around} {E : Value → Shared → Prop} {s : Shared} (h : wpAny M A t Q E s) (hQ : ∀ a s, Q a s → Q' a s) : wpAny M A t Q' E s := wpAny_mono h hQ fun _ _ x => x
end L2

namespace L2
open PySem PySem.Spec PyProof.Rows
section
variable {X : Cx}

/-- two expressions in a row -/
theorem bin {a b : Expr} {ta tb : TE} (ha : PE X a ta) (hb : PE X b tb) {pins : List (Addr × Obj)} {s : Shared} {σ : St} {H : Hp} {R : V → V → Hp → Prop} (I : Inv X pins σ H s) (h : ta σ H fun x H1 => tb σ H1 fun y H2 => R x y H2)
    {α : Type} {Q : α → Shared → Prop} {f : Value → Value → Sem α}
    (hf : ∀ v u s2 x y H2, Inv X pins σ H2 s2 → RelV x v → RelV y u → R x y H2 → wpAny (model X.prog X.w) X.A (f v u) Q X.xe s2) :
    wpAny (model X.prog X.w) X.A (eval a X.env) (fun v s₁ => wpAny (model X.prog X.w) X.A (eval b X.env) (fun u s₂ => wpAny (model X.prog X.w) X.A (f v u) Q X.xe s₂) X.xe s₁) X.xe s := by
  refine thn (ha pins s σ H _ I h) fun v s1 ⟨x, H1, I1, r1, q1⟩ => ?_
  refine thn (hb pins s1 σ H1 _ I1 q1) fun u s2 ⟨y, H2, I2, r2, q2⟩ => ?_
  exact hf v u s2 x y H2 I2 r1 r2 q2

/-! ### names and constants -/
def tVar (i : Nat) : TE := fun σ H Q => ∃ v, σ[i]? = some (some v) ∧ Q v H
def tC (v : V) : TE := fun _ H Q => Q v H
theorem pe_var {i : Nat} {x : Str} {pos : Pos} (hN : X.N[i]? = some x) (hv : Vis X.env.scope x) (hd : (x == ("__debug__" : Str)) = false := by decide) (hcd : (x == ("__classdict__" : Str)) = false := by decide) : PE X (.Name x pos) (tVar i) := by
  intro pins s σ H Q I h
  obtain ⟨v, e, h⟩ := h
  obtain ⟨m, hn, hl⟩ := I.loc
  obtain ⟨u, r, l⟩ := hl i x v hN e hv
  have fin : EP X pins σ Q u s := ⟨v, H, I, r, h⟩
  rcases l with ⟨hk, hm⟩ | ⟨hk, c, hc, hcell⟩
  · exact wpAny_Name (wpAny_loadName_local I.ok.kind hk hn hm fin) hd
  · rcases hk with hk | hk
    · exact wpAny_Name (wpAny_loadName_cell I.ok.kind hk hc hcell fin) hd
    · exact wpAny_Name (wpAny_loadName_free I.ok.kind hk hc hcell fin hcd) hd
theorem pe_int {i j pos} : PE X (.Constant (.int i) j pos) (tC (.int i)) := fun _ _ _ H _ I h => wpAny_Constant_int ⟨.int i, H, I.tok _, ⟨_, rfl⟩, h⟩
theorem pe_bl {b j pos} : PE X (.Constant (.bool b) j pos) (tC (.bl b)) := fun _ _ _ H _ I h => Constant_bool ⟨.bl b, H, I, rfl, h⟩
theorem pe_non {j pos} : PE X (.Constant .none j pos) (tC .non) := fun _ _ _ H _ I h => Constant_none ⟨.non, H, I, rfl, h⟩
theorem pe_str {x j pos} : PE X (.Constant (.str x) j pos) (tC (.str x)) := fun _ _ _ H _ I h => Calls.Constant_str ⟨.str x, H, I.tok _, ⟨_, rfl⟩, h⟩

/-- a global name of the def -/
def Gl (X : Cx) (x : Str) : Prop := X.env.kindOf x = some .globalImplicit
theorem ld_glob {E : Value → Shared → Prop} {pins : List (Addr × Obj)} {s : Shared} {σ : St} {H : Hp} {x : Str} {u : Value} {pos : Pos} {Q : Value → Shared → Prop} (I : Inv X pins σ H s) (hg : Gl X x) (hm : X.mg x = some u) (h : Q u s)
    (hd : (x == ("__debug__" : Str)) = false := by decide) : wpAny (model X.prog X.w) X.A (eval (.Name x pos) X.env) Q E s :=
  Calls.Name_function_global I.ok.kind hg (Calls.loadGlobal_global (by rw [I.ok.glob]; exact I.mod.glob.keeps I.bk) hm h) hd
theorem ld_blt {E : Value → Shared → Prop} {pins : List (Addr × Obj)} {s : Shared} {σ : St} {H : Hp} {x : Str} {u : Value} {pos : Pos} {Q : Value → Shared → Prop} (I : Inv X pins σ H s) (hg : Gl X x) (hm : X.mg x = none) (hv : bootBuiltins x = some u) (h : Q u s)
    (hn : x ≠ "__name__" := by decide) (hd : (x == ("__debug__" : Str)) = false := by decide) : wpAny (model X.prog X.w) X.A (eval (.Name x pos) X.env) Q E s := by
  obtain ⟨mb, h1, h2⟩ := I.mod.blt
  exact Calls.Name_function_global I.ok.kind hg (Calls.loadGlobal_builtin (by rw [I.ok.glob]; exact I.mod.glob.keeps I.bk) hm (by rw [I.ok.blt]; exact h1.keeps I.bk) ((h2 x hn).trans hv) h) hd
/-- a module's constant, a class, a function, as a value -/
theorem pe_glob {x : Str} {v : V} {u : Value} {pos : Pos} (hg : Gl X x) (hm : X.mg x = some u) (r : RelV v u) (hd : (x == ("__debug__" : Str)) = false := by decide) : PE X (.Name x pos) (tC v) :=
  fun _ _ _ H _ I h => ld_glob I hg hm ⟨v, H, I, r, h⟩ hd
theorem pe_bltn {x : Str} {v : V} {u : Value} {pos : Pos} (hg : Gl X x) (hm : X.mg x = none) (hv : bootBuiltins x = some u) (r : RelV v u) (hn : x ≠ "__name__" := by decide) (hd : (x == ("__debug__" : Str)) = false := by decide) : PE X (.Name x pos) (tC v) :=
  fun _ _ _ H _ I h => ld_blt I hg hm hv ⟨v, H, I, r, h⟩ hn hd

/-! ### arithmetic -/
variable {a b : Expr} {ta tb : TE} {pos : Pos}
/-! ### comparisons -/
def PC (X : Cx) (op : CmpOp) (a b : Expr) (t : TE) : Prop :=
  ∀ (pins : List (Addr × Obj)) (s : Shared) (σ : St) (H : Hp) (Q : VK), Inv X pins σ H s → t σ H Q →
    wpAny (model X.prog X.w) X.A (eval a X.env) (fun v s₁ => wpAny (model X.prog X.w) X.A (eval b X.env) (fun u s₂ => wpAny (model X.prog X.w) X.A (compareOp op v u) (EP X pins σ Q) X.xe s₂) X.xe s₁) X.xe s
/-- a comparison as a value, as a test -/
def tB (t : TE) : TT := fun σ H Q => t σ H fun x H1 => ∃ c, x = .bl c ∧ Q c H1
theorem pe_cmp {op : CmpOp} {t : TE} (h : PC X op a b t) (h1 : behindInMarks op b = false := by first | exact nobehind _ (by decide) (by decide) | rfl) : PE X (.Compare a [op] [b] pos) t := fun pins s σ H Q I hw => wpAny_Compare1 (h pins s σ H Q I hw) h1
theorem pt_cmp {op : CmpOp} {t : TE} (h : PC X op a b t) (h1 : behindInMarks op b = false := by first | exact nobehind _ (by decide) (by decide) | rfl) : PT X (.Compare a [op] [b] pos) (tB t) := by
  intro pins s σ H Q I hw
  refine wpAny_isTrue_Compare1 (thn (h pins s σ H _ I hw) fun v s1 h1 => thn h1 fun u s2 h2 => thn h2 fun c s3 ⟨x, H1, I1, r1, q1⟩ => ?_) h1
  obtain ⟨d, rfl, q⟩ := q1
  cases r1
  exact wpAny_truthy_bool ⟨H1, I1, q⟩
/-- an expression whose value is a bool, as a test -/
theorem pt_val {e : Expr} {t : TE} (h : PE X e t) (he : ∀ whole, isTrue e X.env whole = (do let v ← whole; standAt e.pos; holding [v] (truthy v)) := by intro _; rfl) : PT X e (tB t) := by
  intro pins s σ H Q I hw
  refine isTrue_plain (thn (h pins s σ H _ I hw) fun v s1 ⟨x, H1, I1, r1, q1⟩ => ?_) (he _)
  obtain ⟨d, rfl, q⟩ := q1
  cases r1
  exact wpAny_truthy_bool ⟨H1, I1, q⟩

/-! ### and, or, not -/
variable {tA tB' : TT} {rest : List Expr}
def tAnd (t u : TT) : TT := fun σ H Q => t σ H fun c H1 => if c = true then u σ H1 Q else Q false H1
def tOr (t u : TT) : TT := fun σ H Q => t σ H fun c H1 => if c = true then Q true H1 else u σ H1 Q
def tNot (t : TT) : TT := fun σ H Q => t σ H fun c H1 => Q (!c) H1
theorem pw_and1 (ha : PT X a tA) : PW X (.BoolOp .And [a] pos) tA := by
  intro wh pins s σ H Q I h
  refine isTrue_and (thn (ha pins s σ H Q I h) fun c s1 e => ?_)
  cases c with
  | true => exact isTrue_and_nil e
  | false => exact e
theorem pw_or1 (ha : PT X a tA) : PW X (.BoolOp .Or [a] pos) tA := by
  intro wh pins s σ H Q I h
  refine isTrue_or (thn (ha pins s σ H Q I h) fun c s1 e => ?_)
  cases c with
  | false => exact isTrue_or_nil e
  | true => exact e
theorem pw_and (ha : PT X a tA) (hb : PW X (.BoolOp .And (b :: rest) pos) tB') : PW X (.BoolOp .And (a :: b :: rest) pos) (tAnd tA tB') := by
  intro wh pins s σ H Q I h
  refine isTrue_and (thn (ha pins s σ H _ I h) fun c s1 ⟨H1, I1, q1⟩ => ?_)
  cases c with
  | true => exact hb wh pins s1 σ H1 Q I1 q1
  | false => exact ⟨H1, I1, q1⟩
theorem pw_or (ha : PT X a tA) (hb : PW X (.BoolOp .Or (b :: rest) pos) tB') : PW X (.BoolOp .Or (a :: b :: rest) pos) (tOr tA tB') := by
  intro wh pins s σ H Q I h
  refine isTrue_or (thn (ha pins s σ H _ I h) fun c s1 ⟨H1, I1, q1⟩ => ?_)
  cases c with
  | true => exact ⟨H1, I1, q1⟩
  | false => exact hb wh pins s1 σ H1 Q I1 q1
theorem pt_not (ha : PT X a tA) : PT X (.UnaryOp .Not a pos) (tNot tA) := by
  intro pins s σ H Q I h
  exact isTrue_not (ha pins s σ H (fun c H1 => Q (!c) H1) I h)
/-- .. as values (bools) -/
def tAndV (ta tb : TE) : TE := fun σ H Q => ta σ H fun x H1 => ∃ c, x = .bl c ∧ if c = true then tb σ H1 Q else Q (.bl false) H1
def tOrV (ta tb : TE) : TE := fun σ H Q => ta σ H fun x H1 => ∃ c, x = .bl c ∧ if c = true then Q (.bl true) H1 else tb σ H1 Q
theorem pe_one {op} {t : TE} (h : PE X a t) : PE X (.BoolOp op [a] pos) t := fun pins s σ H Q I hw => BoolOp_one (h pins s σ H Q I hw)
theorem pe_and (ha : PE X a ta) (hb : PE X (.BoolOp .And (b :: rest) pos) tb) : PE X (.BoolOp .And (a :: b :: rest) pos) (tAndV ta tb) := by
  intro pins s σ H Q I h
  refine BoolOp_and (thn (ha pins s σ H _ I h) fun v s1 ⟨x, H1, I1, r1, q1⟩ => ?_)
  obtain ⟨c, rfl, q1⟩ := q1
  cases r1
  refine wpAny_truthy_bool ?_
  cases c with
  | true => exact hb pins s1 σ H1 Q I1 q1
  | false => exact ⟨.bl false, H1, I1, rfl, q1⟩
theorem pe_or (ha : PE X a ta) (hb : PE X (.BoolOp .Or (b :: rest) pos) tb) : PE X (.BoolOp .Or (a :: b :: rest) pos) (tOrV ta tb) := by
  intro pins s σ H Q I h
  refine BoolOp_or (thn (ha pins s σ H _ I h) fun v s1 ⟨x, H1, I1, r1, q1⟩ => ?_)
  obtain ⟨c, rfl, q1⟩ := q1
  cases r1
  refine wpAny_truthy_bool ?_
  cases c with
  | false => exact hb pins s1 σ H1 Q I1 q1
  | true => exact ⟨.bl true, H1, I1, rfl, q1⟩
end
end L2

namespace L2
open PySem PySem.Spec PyProof.Rows

/-! ### a list, a tuple that is read: tracked, frozen, or an object of the module -/
def SqL (K : PySem.W.Frag) (H : Hp) (a : Addr) (xs : List V) : Prop :=
  Rd H a (.lst xs) ∨
    ∃ (o : Obj) (its : Array Value) (n : Nat), K.lookup a = some o ∧ o.cls = .type "list" ∧ o.dict = none ∧ o.data = .seq its n ∧ its.size ≤ sizeLine ∧ Vals xs its.toList
def SqT (K : PySem.W.Frag) (H : Hp) (a : Addr) (xs : List V) : Prop :=
  Rd H a (.tup xs) ∨
    ∃ (o : Obj) (its : Array Value) (n : Nat), K.lookup a = some o ∧ o.cls = .type "tuple" ∧ o.data = .seq its n ∧ its.size ≤ sizeLine ∧ Vals xs its.toList
def absV : Value → Option V
  | .none => some .non
  | .bool b => some (.bl b)
  | .int i _ => some (.int i)
  | .str x _ => some (.str x)
  | .bytes b _ => some (.byt b)
  | .float b _ => some (.flt b)
  | .ref a => some (.ref a)
  | .type n => some (.ty n)
  | _ => none
theorem RelV.abs {x : V} {u : Value} (r : RelV x u) : absV u = some x := by
  cases x with
  | non => cases r; rfl
  | bl _ => cases r; rfl
  | int _ => obtain ⟨t, rfl⟩ := r; rfl
  | str _ => obtain ⟨t, rfl⟩ := r; rfl
  | byt _ => obtain ⟨t, rfl⟩ := r; rfl
  | flt _ => obtain ⟨t, rfl⟩ := r; rfl
  | ref _ => cases r; rfl
  | ty _ => cases r; rfl
theorem RelV.inj {x y : V} {u : Value} (r : RelV x u) (q : RelV y u) : x = y := Option.some.inj (r.abs.symm.trans q.abs)
theorem Vals.inj : ∀ {xs ys : List V} {us : List Value}, Vals xs us → Vals ys us → xs = ys
  | _, _, _, .nil, .nil => rfl
  | _, _, _, .cons r t, .cons r' t' => by rw [r.inj r', Vals.inj t t']
section
variable {X : Cx} {pins : List (Addr × Obj)} {σ : St} {H : Hp} {s : Shared} {a : Addr} {xs ys : List V}
theorem SqL.of {K : PySem.W.Frag} (h : H a = some (.lst xs)) : SqL K H a xs := .inl (.inl h)
theorem SqT.of {K : PySem.W.Frag} (h : H a = some (.tup xs)) : SqT K H a xs := .inl (.inl h)
theorem Inv.list (I : Inv X pins σ H s) (h : SqL X.K H a xs) : ∃ its : List Value, Vals xs its ∧ PlainL s.heap a its.toArray ∧ xs.length ≤ sizeLine := by
  rcases h with h | ⟨o, its, n, hk, hc, hd, hs, hz, r⟩
  · obtain ⟨z, its, n, r, e⟩ := h.ok I.hok
    exact ⟨its, r, ⟨_, n, e, rfl, rfl, rfl⟩, z⟩
  · refine ⟨its.toList, r, ⟨o, n, I.kIn a o hk, hc, hd, by simpa using hs⟩, ?_⟩
    have e := r.length
    simp only [Array.length_toList] at e
    omega
theorem Inv.tuple (I : Inv X pins σ H s) (h : SqT X.K H a xs) : ∃ its : List Value, Vals xs its ∧ IsTup s.heap a its.toArray ∧ xs.length ≤ sizeLine := by
  rcases h with h | ⟨o, its, n, hk, hc, hs, hz, r⟩
  · obtain ⟨z, its, r, p⟩ := h.ok I.hok
    exact ⟨its, r, p, z⟩
  · refine ⟨its.toList, r, ⟨o, I.kIn a o hk, hc, n, by simpa using hs⟩, ?_⟩
    have e := r.length
    simp only [Array.length_toList] at e
    omega
theorem Inv.list_inj (I : Inv X pins σ H s) (h : SqL X.K H a xs) (h' : SqL X.K H a ys) : xs = ys := by
  obtain ⟨its, r, ⟨o, n, e, _, _, d⟩, _⟩ := I.list h
  obtain ⟨its', r', ⟨o', n', e', _, _, d'⟩, _⟩ := I.list h'
  rw [e] at e'; cases e'
  rw [d] at d'
  injection d' with d1 _
  have : its = its' := by simpa using congrArg Array.toList d1
  subst this
  exact r.inj r'
end

/-! ### another wish about exceptions -/
abbrev Cx.wish (X : Cx) (E : Value → Shared → Prop) : Cx := { X with xe := E }
/-- no exception leaves -/
abbrev Cx.nox (X : Cx) : Cx := X.wish fun _ _ => False
theorem Cx.Ok.wish {X : Cx} (ok : X.Ok) (E : Value → Shared → Prop) : (X.wish E).Ok :=
  ⟨ok.mod, ok.kind, ok.glob, ok.blt, ok.above, ok.inj, ok.has, ok.cab, ok.hd, ok.frames, ok.stk, ok.exf, ok.bs, ok.bsz, ok.noex, ok.exfs, ok.funs, ok.frf⟩
theorem Cx.Ok.unwish {X : Cx} {E : Value → Shared → Prop} (ok : (X.wish E).Ok) : X.Ok :=
  ⟨ok.mod, ok.kind, ok.glob, ok.blt, ok.above, ok.inj, ok.has, ok.cab, ok.hd, ok.frames, ok.stk, ok.exf, ok.bs, ok.bsz, ok.noex, ok.exfs, ok.funs, ok.frf⟩
section
variable {X : Cx} {pins : List (Addr × Obj)} {σ : St} {H : Hp} {s : Shared} {E : Value → Shared → Prop}
theorem Inv.wish (I : Inv X pins σ H s) (E : Value → Shared → Prop) : Inv (X.wish E) pins σ H s := ⟨I.ok.wish E, I.os, I.bare, I.base, I.loc, I.cell, I.free, I.freeC, I.pin, I.hok, I.len⟩
theorem Inv.unwish (I : Inv (X.wish E) pins σ H s) : Inv X pins σ H s := ⟨I.ok.unwish, I.os, I.bare, I.base, I.loc, I.cell, I.free, I.freeC, I.pin, I.hok, I.len⟩
theorem SP.unwish {D : Ends} {f : Flow} {s' : Shared} (h : SP (X.wish E) pins D f s') : SP X pins D f s' := by
  cases f with
  | next => obtain ⟨σ', H', I, q⟩ := h; exact ⟨σ', H', I.unwish, q⟩
  | brk => obtain ⟨σ', H', I, q⟩ := h; exact ⟨σ', H', I.unwish, q⟩
  | cont => obtain ⟨σ', H', I, q⟩ := h; exact ⟨σ', H', I.unwish, q⟩
  | ret u => obtain ⟨v, σ', H', I, r, q⟩ := h; exact ⟨v, σ', H', I.unwish, r, q⟩
theorem PSs.nox {st : List Stmt} {t : TS} (h : PSs X.nox st t) : PSs X st t := fun pins s σ H D I hw =>
  wpAny_mono (h pins s σ H D (I.wish _) hw) (fun _ _ q => q.unwish) fun _ _ z => False.elim z
end

/-! ### blocks and small statements -/
section
variable {X : Cx} {st : Stmt} {rest : List Stmt} {t u : TS} {e : Expr} {te : TE} {pos : Pos}
def tNext : TS := fun D σ H => D.nx σ H
def tSeq (t u : TS) : TS := fun D σ H => t { D with nx := u D } σ H
theorem pss_nil : PSs X [] tNext := fun _ _ σ H _ I h => wpAny_execs_nil ⟨σ, H, I, h⟩
theorem pss_cons (h1 : PS X st t) (h2 : PSs X rest u) : PSs X (st :: rest) (tSeq t u) := by
  intro pins s σ H D I h
  refine wpAny_execs_cons (thn (h1 pins s σ H { D with nx := u D } I h) fun f s1 q => ?_)
  cases f with
  | next =>
    obtain ⟨σ', H', I', q⟩ := q
    exact h2 pins s1 σ' H' D I' q
  | ret v => exact q
  | brk => exact q
  | cont => exact q
theorem pss_one (h1 : PS X st t) : PSs X [st] t := by
  intro pins s σ H D I h
  refine wpAny_execs_cons (thn (h1 pins s σ H D I h) fun f s1 q => ?_)
  cases f with
  | next => exact wpAny_execs_nil q
  | ret v => exact q
  | brk => exact q
  | cont => exact q
def tBreak : TS := fun D σ H => D.bk σ H
theorem ps_break : PS X (.Break pos) tBreak := fun _ _ σ H _ I h => wpAny_Break ⟨σ, H, I, h⟩
/-- in a def's body nothing is shown -/
theorem Inv.quiet {pins : List (Addr × Obj)} {σ : St} {H : Hp} {s : Shared} (I : Inv X pins σ H s) : interactive X.env = false := by simp [interactive, I.ok.kind]
/-- an expression whose value is dropped -/
def tDrop (te : TE) : TS := fun D σ H => te σ H fun _ H1 => D.nx σ H1
theorem ps_expr (he : PE X e te) (hs : swapsWith e none pos.line X.env = pure false := by rfl) : PS X (.Expr e pos) (tDrop te) := by
  intro pins s σ H D I h
  exact wpAny_Expr_any (thn (he pins s σ H _ I h) fun v s1 ⟨x, H1, I1, r1, q1⟩ => ⟨σ, H1, I1, q1⟩) I.quiet hs
def tRet (te : TE) : TS := fun D σ H => te σ H D.rt
theorem ps_ret (he : PE X e te) : PS X (.Return (some e) pos) (tRet te) := by
  intro pins s σ H D I h
  exact wpAny_Return_some (thn (he pins s σ H _ I h) fun v s1 ⟨x, H1, I1, r1, q1⟩ => ⟨x, σ, H1, I1, r1, q1⟩)
def tIfS (c : TT) (t u : TS) : TS := fun D σ H => c σ H fun b H1 => if b = true then t D σ H1 else u D σ H1
theorem ps_if {c : Expr} {a b : List Stmt} {tc : TT} (hc : PT X c tc) (ha : PSs X a t) (hb : PSs X b u) : PS X (.If c a b pos) (tIfS tc t u) := by
  intro pins s σ H D I h
  refine wpAny_If (thn (hc pins s σ H _ I h) fun d s1 ⟨H1, I1, q1⟩ => ?_)
  cases d with
  | true => exact ha pins s1 σ H1 D I1 q1
  | false => exact hb pins s1 σ H1 D I1 q1
/-- code that the proof never comes to -/
def tNever : TS := fun _ _ _ => False
theorem pss_never {sts : List Stmt} : PSs X sts tNever := fun _ _ _ _ _ _ h => h.elim
end

/-! ### targets -/
abbrev TG := V → St → Hp → (St → Hp → Prop) → Prop
abbrev TGs := List V → St → Hp → (St → Hp → Prop) → Prop
def PG (X : Cx) (target : Expr) (t : TG) : Prop :=
  ∀ (pins : List (Addr × Obj)) (s : Shared) (σ : St) (H : Hp) (v : V) (u : Value) (Q : St → Hp → Prop), Inv X pins σ H s → RelV v u → t v σ H Q →
    wpAny (model X.prog X.w) X.A (assign target X.env u) (fun _ s' => ∃ σ' H', Inv X pins σ' H' s' ∧ Q σ' H') X.xe s
/-- several targets, one after another -/
def PGs (X : Cx) (ts : List Expr) (t : TGs) : Prop :=
  ∀ (pins : List (Addr × Obj)) (s : Shared) (σ : St) (H : Hp) (vs : List V) (us : List Value) (Q : St → Hp → Prop), Inv X pins σ H s → Vals vs us → t vs σ H Q →
    wpAny (model X.prog X.w) X.A (assignInOrder ((assignEach ts X.env).map (·.2)) us) (fun _ s' => ∃ σ' H', Inv X pins σ' H' s' ∧ Q σ' H') X.xe s
section
variable {X : Cx} {pos : Pos}
def gName (i : Nat) : TG := fun v σ H Q => Q (σ.set i (some v)) H
theorem pg_name {i : Nat} {x : Str} (hN : X.N.Nodup) (hi : X.N[i]? = some x) (hx : Loc X.env.scope x) (hf : X.fn x = true ∨ X.env.scope.names.lookup x = some .local := by first | exact .inl rfl | exact .inr rfl | assumption) : PG X (.Name x pos) (gName i) := by
  intro pins s σ H v u Q I r h
  exact wpAny_assign_Name (store_ok I hN hi hx r (fun s' I' => ⟨_, H, I', h⟩) hf)
def gNil : TGs := fun vs σ H Q => vs = [] ∧ Q σ H
def gCons (t : TG) (u : TGs) : TGs := fun vs σ H Q => ∃ v r, vs = v :: r ∧ t v σ H fun σ' H' => u r σ' H' Q
theorem pgs_nil : PGs X [] gNil := by
  intro pins s σ H vs us Q I r h
  obtain ⟨e, h⟩ := h
  subst e
  cases r
  exact assignInOrder_nil ⟨σ, H, I, h⟩
theorem pgs_cons {e : Expr} {es : List Expr} {t : TG} {u : TGs} (h1 : PG X e t) (h2 : PGs X es u)
    (hs : (assignEach (e :: es) X.env).map (·.2) = assign e X.env :: (assignEach es X.env).map (·.2) := by rfl) : PGs X (e :: es) (gCons t u) := by
  intro pins s σ H vs us Q I r h
  obtain ⟨v, vr, e1, h⟩ := h
  subst e1
  cases r with
  | cons r rr =>
    rw [hs]
    refine assignInOrder_cons (thn (h1 pins s σ H _ _ _ I r h) fun _ s1 ⟨σ1, H1, I1, q1⟩ => ?_)
    exact h2 pins s1 σ1 H1 _ _ Q I1 rr q1
/-- (a, b, ..) = a tuple of that length -/
def gTup (K : PySem.W.Frag) (n : Nat) (t : TGs) : TG := fun v σ H Q => ∃ a xs, v = .ref a ∧ SqT K H a xs ∧ xs.length = n ∧ t xs σ H Q
theorem pg_tup {es : List Expr} {k : Nat} {t : TGs} {n : Nat} (hc : X.calm = true) (h : PGs X es t)
    (hn : (assignEach es X.env).length = n := by rfl) (hst : (assignEach es X.env).findIdx? (·.1) = none := by rfl) : PG X (.Tuple es k pos) (gTup X.K n t) := by
  intro pins s σ H v u Q I r hw
  obtain ⟨a, xs, e1, hq, hl, hw⟩ := hw
  subst e1
  cases r
  obtain ⟨its, rv, ht, hz⟩ := I.tuple hq
  refine assign_Tuple_tuple (I.ok.hd hc) ht (by simp [hn, ← hl, rv.length]) hst fun h' hx => ?_
  have I1 : Inv X pins σ H { s with heap := h' } := I.kept (t' := s.toks) fun b o e => hx b o (Nat.ne_of_lt (Heap.lt_size e)) e
  exact h pins _ σ H xs _ Q I1 (by simpa using rv) hw
/-- target = value -/
def tAsg (te : TE) (g : TG) : TS := fun D σ H => te σ H fun x H1 => g x σ H1 D.nx
theorem ps_asg {tg e : Expr} {te : TE} {g : TG} (he : PE X e te) (hg : PG X tg g) (hs : swapsWithSole [tg] e pos.line X.env = pure false := by rfl) (hw : swappedStores [tg] e X.env = pure none := by rfl)
    (h1 : (assignEach [tg] X.env).map (·.2) = [assign tg X.env] := by rfl) : PS X (.Assign [tg] e pos) (tAsg te g) := by
  intro pins s σ H D I h
  refine wpAny_Assign_stores (thn (he pins s σ H _ I h) fun v s1 ⟨x, H1, I1, r1, q1⟩ => ?_) hs hw
  rw [h1]
  exact thn (hg pins s1 σ H1 x v _ I1 r1 q1) fun _ s2 q => q
/-- name = value -/
theorem ps_set {i : Nat} {x : Str} {e : Expr} {te : TE} {pos' : Pos} (hN : X.N.Nodup) (hi : X.N[i]? = some x) (hx : Loc X.env.scope x) (he : PE X e te) (hs : swapsWith e (some (.Name x pos')) pos.line X.env = pure false := by rfl) (hf : X.fn x = true ∨ X.env.scope.names.lookup x = some .local := by first | exact .inl rfl | exact .inr rfl | assumption) :
    PS X (.Assign [.Name x pos'] e pos) (tAsg te (gName i)) := by
  intro pins s σ H D I h
  refine wpAny_Assign_Name (thn (he pins s σ H _ I h) fun v s1 ⟨y, H1, I1, r1, q1⟩ => ?_) hs
  exact store_ok I1 hN hi hx r1 (fun s2 I2 => ⟨_, H1, I2, q1⟩) hf
end

/-! ### while -/
section
variable {X : Cx} {pos : Pos}
/-- the invariant W with its measure -/
def tWhile (c : TT) (tb : TS) : TS := fun D σ H => ∃ W : Nat → St → Hp → Prop, (∃ m, W m σ H) ∧ ∀ m σ H, W m σ H →
  c σ H fun b H1 => if b = true then ∃ N : St → Hp → Prop, (∀ σ' H', N σ' H' → ∃ m', m' < m ∧ W m' σ' H') ∧ tb { D with nx := N, ct := N, bk := D.nx } σ H1 else D.nx σ H1
theorem ps_while {c : Expr} {body : List Stmt} {tc : TT} {tb : TS} (hp : PassesOwn (model X.prog X.w) X.A X.env X.xe) (hc : PT X c tc) (hb : PSs X body tb) : PS X (.While c body [] pos) (tWhile tc tb) := by
  intro pins s σ H D I h
  obtain ⟨W, ⟨m0, w0⟩, turn⟩ := h
  refine wpAny_While (codeAny_whileLoop (fun n s' => ∃ σ' H', Inv X pins σ' H' s' ∧ W n σ' H') ?_ m0 ⟨σ, H, I, w0⟩)
  rintro n s1 ⟨σ1, H1, I1, w1⟩
  refine wpAny_passesOwn hp (thn (hc pins s1 σ1 H1 _ I1 (turn n σ1 H1 w1)) fun b s2 ⟨H2, I2, q2⟩ => ?_)
  cases b with
  | true =>
    obtain ⟨N, hN, q2⟩ := q2
    rw [if_pos rfl]
    refine wpAny_passesOwn hp (thn (hb pins s2 σ1 H2 _ I2 q2) fun f s3 q3 => ?_)
    cases f with
    | next =>
      obtain ⟨σ3, H3, I3, n3⟩ := q3
      obtain ⟨m', hm, w3⟩ := hN σ3 H3 n3
      exact ⟨m', hm, σ3, H3, I3, w3⟩
    | cont =>
      obtain ⟨σ3, H3, I3, n3⟩ := q3
      obtain ⟨m', hm, w3⟩ := hN σ3 H3 n3
      exact ⟨m', hm, σ3, H3, I3, w3⟩
    | brk => exact q3
    | ret v => exact q3
  | false =>
    rw [if_neg Bool.false_ne_true]
    exact wpAny_execs_nil ⟨σ1, H2, I2, q2⟩
end

/-! ### what a loop or a comprehension walks -/
/-- at turn i: it yields x (the heap may grow), or it stops -/
structure It where
  go : Nat → Hp → Prop
  yld : Nat → Hp → V → Hp → Prop
  stop : Nat → Hp → Prop
/-- the iterator's own objects may turn: they are not the frame's, not pinned, younger than the entry (or a comprehension's own) -/
def FpOk (X : Cx) (pins : List (Addr × Obj)) (H : Hp) (b : Addr) : Prop :=
  H b = none ∧ b ≠ X.env.locals ∧ b ∉ X.fs ∧ (b ∈ X.ex ∨ X.s₀.heap.objs.size ≤ b) ∧ (∀ x c, X.env.cells.lookup x = some c → c ≠ b) ∧ ∀ p ∈ X.pn ++ pins, p.1 ≠ b
theorem Inv.fpOk {X : Cx} {pins : List (Addr × Obj)} {σ : St} {H H' : Hp} {s : Shared} {b : Addr} (I : Inv X pins σ H s) (hb : s.heap.objs.size ≤ b) (hn : H' b = none) : FpOk X pins H' b := by
  refine ⟨hn, Nat.ne_of_gt (Nat.lt_of_lt_of_le I.lt hb), I.nofs hb, .inr (Nat.le_trans I.sz hb), fun x c e z => ?_, fun p hp z => ?_⟩
  · obtain ⟨v, q⟩ := I.cell x c e
    exact absurd (Nat.lt_of_lt_of_le q.lt (by rw [z]; exact hb)) (Nat.lt_irrefl _)
  · exact absurd (Nat.lt_of_lt_of_le (Heap.lt_size (I.pin p hp).1) (by rw [z]; exact hb)) (Nat.lt_irrefl _)
structure Turn (P : Program) (w : World) (K : PySem.W.Frag) (tg : Expr) (J : It) (fp : List Addr) (it : Addr) (tn : Nat → Heap → Prop) : Prop where
  mem : it ∈ fp
  obj : ∀ i h, tn i h → ∀ b ∈ fp, ∃ o, h.get? b = some o ∧ ∀ v, o.data ≠ .cell v
  keep : ∀ i h h', tn i h → (∀ b ∈ fp, ∀ o, h.get? b = some o → h'.get? b = some o) → tn i h'
  item : ∀ (X : Cx), X.prog = P → X.w = w → X.K = K → X.calm = true → ∀ (i : Nat) (pins : List (Addr × Obj)) (s : Shared) (σ : St) (H : Hp) (E : Value → Shared → Prop), Inv X pins σ H s → (∀ b ∈ fp, FpOk X pins H b) → tn i s.heap → J.go i H →
    wpAny (model P w) X.A (pyNext (.ref it)) (fun r s1 => ∃ u, r = some u ∧
      wpAny (model P w) X.A (letOwnedTupleGo tg (.ref it) u) (fun _ s2 => ∃ x H', Inv X pins σ H' s2 ∧ RelV x u ∧ J.yld i H x H' ∧ tn (i + 1) s2.heap ∧ ∀ b ∈ fp, H' b = none) E s1) E s
  done : ∀ (X : Cx), X.prog = P → X.w = w → X.K = K → X.calm = true → ∀ (i : Nat) (pins : List (Addr × Obj)) (s : Shared) (σ : St) (H : Hp) (E : Value → Shared → Prop), Inv X pins σ H s → (∀ b ∈ fp, FpOk X pins H b) → tn i s.heap → J.stop i H →
    wpAny (model P w) X.A (pyNext (.ref it)) (fun r s1 => r = none ∧ Inv X pins σ H s1) E s
  self : ∀ (A : Around) (i : Nat) (s : Shared) (Q : Value → Shared → Prop) (E : Value → Shared → Prop), tn i s.heap → Q (.ref it) s → wpAny (model P w) A (pyIter (.ref it)) Q E s
abbrev TI := St → Hp → (It → Hp → Prop) → Prop
/-- an iterator has come -/
def PIE (X : Cx) (pins : List (Addr × Obj)) (σ : St) (tg : Expr) (R : It → Hp → Prop) (itv : Value) (s2 : Shared) : Prop :=
  ∃ (it : Addr) (fp : List Addr) (tn : Nat → Heap → Prop) (J : It) (H' : Hp), itv = .ref it ∧ Inv X pins σ H' s2 ∧ Turn X.prog X.w X.K tg J fp it tn ∧ tn 0 s2.heap ∧ (∀ b ∈ fp, FpOk X pins H' b) ∧ R J H'
def PI (X : Cx) (tg iter : Expr) (wi : TI) : Prop :=
  ∀ (pins : List (Addr × Obj)) (s : Shared) (σ : St) (H : Hp) (R : It → Hp → Prop), Inv X pins σ H s → wi σ H R →
    wpAny (model X.prog X.w) X.A (eval iter X.env) (fun v s1 => wpAny (model X.prog X.w) X.A (pyIter v) (PIE X pins σ tg R) X.xe s1) X.xe s

/-- the step ahead of the store is nothing for an iterator that keeps no tuple -/
theorem go_of {M : Model} {A : Around} {E : Value → Shared → Prop} {s : Shared} {tg : Expr} {it : Addr} {u : Value} {o : Obj} {n : String} {vs : Array Value} {Q : Unit → Shared → Prop} (ho : s.heap.get? it = some o) (hc : o.cls = .type n) (hd : o.data = .fields vs)
    (hn : ["enumerate", "zip", "dict_itemiterator", "dict_reverseitemiterator", "odict_iterator", "itertools.zip_longest", "itertools.pairwise"].contains n = false) (hQ : Q () s) : wpAny M A (letOwnedTupleGo tg (.ref it) u) Q E s := by
  unfold letOwnedTupleGo
  cases tg <;> first
    | exact wpAny_pure hQ
    | (cases u <;> first
        | exact wpAny_pure hQ
        | (refine wpAny_bind (wpAny_load ho ?_)
           rw [hc, hd]
           show wpAny M A (if (["enumerate", "zip", "dict_itemiterator", "dict_reverseitemiterator", "odict_iterator", "itertools.zip_longest", "itertools.pairwise"].contains n && vs[0]? == some (rawInt _)) = true then _ else _) Q E s
           rw [if_neg (by intro h; rw [hn, Bool.false_and] at h; cases h)]
           exact wpAny_pure hQ))

/-- the list at a, as it stands at each turn (a loop may append to it) -/
def Itl (K : PySem.W.Frag) (a : Addr) : It :=
  ⟨fun i H => ∃ xs x, SqL K H a xs ∧ xs[i]? = some x, fun i H x H' => H' = H ∧ ∀ xs, SqL K H a xs → xs[i]? = some x, fun i H => ∃ xs, SqL K H a xs ∧ xs.length ≤ i⟩
/-- lo, lo + 1, .. (n of them) -/
def Itr (lo : Int) (n : Nat) : It := ⟨fun i _ => i < n, fun i H x H' => H' = H ∧ x = .int (lo + i), fun i _ => n ≤ i⟩
theorem turn_list {P : Program} {w : World} {K : PySem.W.Frag} {tg : Expr} (a it : Addr) : Turn P w K tg (Itl K a) [it] it (fun i h => h.IsListIter it a i) where
  mem := by simp
  obj := fun i h st b hb => by
    have e : b = it := by simpa using hb
    subst e
    obtain ⟨o, e, c, d⟩ := st
    exact ⟨o, e, fun v z => by rw [d] at z; cases z⟩
  keep := fun i h h' st k => st.at fun o e => k it (by simp) o e
  item := by
    intro X hP hw hK hc i pins s σ H E I hf st hg
    subst hP hw hK
    obtain ⟨xs, x, hq, hx⟩ := hg
    obtain ⟨its, rv, p, hz⟩ := I.list hq
    obtain ⟨u, hu, ru⟩ := rv.get hx
    obtain ⟨f0, f1, f2, f3, f4, f5⟩ := hf it (by simp)
    refine wpAny_pyNext_list_item st p.isList (x := u) (by simpa using hu) fun h' st' sb => ?_
    have I1 : Inv X pins σ H { s with heap := h' } := I.turned (t' := s.toks) (fun b o hb e => (sb.2 b hb).trans e) f0 f1 f3 f4 f5
    obtain ⟨o, e, c, d⟩ := id st'
    exact ⟨u, rfl, go_of (s := { s with heap := h' }) e c d (by decide) ⟨x, H, I1, ru, ⟨rfl, fun ys hy => by rw [I.list_inj hy hq]; exact hx⟩, st', fun b hb => (hf b hb).1⟩⟩
  done := by
    intro X hP hw hK hc i pins s σ H E I hf st hg
    subst hP hw hK
    obtain ⟨xs, hq, hx⟩ := hg
    obtain ⟨its, rv, p, hz⟩ := I.list hq
    obtain ⟨f0, f1, f2, f3, f4, f5⟩ := hf it (by simp)
    have hl := rv.length
    exact wpAny_pyNext_list_end (I.ok.hd hc) st p.isList (by simp; omega) fun h' eb => ⟨rfl, I.turned (t' := s.toks) (fun b o hb e => eb b o hb e) f0 f1 f3 f4 f5⟩
  self := fun _ _ _ _ _ st h => wpAny_pyIter_listiter st h
theorem turn_range {P : Program} {w : World} {K : PySem.W.Frag} {tg : Expr} (it : Addr) (lo : Int) (n : Nat) : Turn P w K tg (Itr lo n) [it] it (fun i h => IsRangeIter h it (lo + (i : Nat) * 1) ((n : Int) - (i : Nat)) 1) where
  mem := by simp
  obj := fun i h st b hb => by
    have e : b = it := by simpa using hb
    subst e
    exact ⟨_, st, fun v z => by
      have z' : Data.fields _ = Data.cell v := z
      cases z'⟩
  keep := fun i h h' st k => k it (by simp) _ st
  item := by
    intro X hP hw hK hc i pins s σ H E I hf st hg
    subst hP hw hK
    obtain ⟨f0, f1, f2, f3, f4, f5⟩ := hf it (by simp)
    have W := Walks.range (prog := X.prog) (w := X.w) (I.ok.hd hc) it lo 1 n
    refine W.item i s _ _ hg st fun v h' tk hv st' kk => ?_
    obtain ⟨t, rfl⟩ := hv
    have I1 : Inv X pins σ H { s with heap := h', toks := tk } := I.turned (fun b o hb e => kk b o (by simpa using hb) e) f0 f1 f3 f4 f5
    refine ⟨_, rfl, go_of (s := { s with heap := h', toks := tk }) (n := "range_iterator") st' rfl rfl (by decide) ⟨.int (lo + i), H, I1, ⟨t, ?_⟩, ⟨rfl, rfl⟩, st', fun b hb => (hf b hb).1⟩⟩
    rw [Int.mul_one]
  done := by
    intro X hP hw hK hc i pins s σ H E I hf st hg
    subst hP hw hK
    obtain ⟨f0, f1, f2, f3, f4, f5⟩ := hf it (by simp)
    exact wpAny_pyNext_range_end (I.ok.hd hc) st (by have : n ≤ i := hg; omega) fun h' eb => ⟨rfl, I.turned (t' := s.toks) (fun b o hb e => eb b o hb e) f0 f1 f3 f4 f5⟩
  self := fun _ _ _ _ _ st h => wpAny_pyIter_rangeiter st h
end L2

namespace L2
open PySem PySem.Spec PyProof.Rows
section
variable {X : Cx} {tg : Expr}
def iList (K : PySem.W.Frag) (tl : TE) : TI := fun σ H R => tl σ H fun x H1 => ∃ a, x = .ref a ∧ (∃ xs, SqL K H1 a xs) ∧ R (Itl K a) H1
theorem pi_list {l : Expr} {tl : TE} (hl : PE X l tl) : PI X tg l (iList X.K tl) := by
  intro pins s σ H R I h
  refine thn (hl pins s σ H _ I h) fun v s1 ⟨x, H1, I1, r1, q1⟩ => ?_
  obtain ⟨a, e, ⟨xs, hq⟩, q⟩ := q1
  subst e
  cases r1
  obtain ⟨its, rv, p, hz⟩ := I1.list hq
  refine wpAny_pyIter_list p.isList ?_
  refine ⟨s1.heap.objs.size, [s1.heap.objs.size], _, _, H1, rfl, I1.kept (t' := s1.toks) fun b o e => Heap.get?_push_of_some _ e, turn_list a _, ⟨_, Heap.get?_push_size _ rfl, rfl, rfl⟩, fun b hb => ?_, q⟩
  have e : b = s1.heap.objs.size := by simpa using hb
  subst e
  exact I1.fpOk (Nat.le_refl _) (I1.hok.fresh (Nat.le_refl _))
/-- a range object just made, walked -/
theorem range_it {pins : List (Addr × Obj)} {σ : St} {H : Hp} {s : Shared} {R : It → Hp → Prop} {E : Value → Shared → Prop} {lo hi : Int} {t u v : Tok} {tk : Nat} (I : Inv X pins σ H s) (h1 : -(2 ^ 62) ≤ lo) (h2 : lo < 2 ^ 62) (h3 : -(2 ^ 62) ≤ hi) (h4 : hi < 2 ^ 62)
    (q : R (Itr lo (hi - lo).toNat) H) : wpAny (model X.prog X.w) X.A (pyIter (.ref s.heap.objs.size)) (PIE X pins σ tg R) E { s with heap := s.heap.push { cls := .type "range", data := .fields #[.int lo t, .int hi u, .int 1 v] }, toks := tk } := by
  refine wpAny_pyIter_range (IsRange.new ..) (small_one h1 h2 h3 h4) ?_
  have I1 : Inv X pins σ H { s with heap := s.heap.push { cls := .type "range", data := .fields #[.int lo t, .int hi u, .int 1 v] }, toks := tk } := I.kept fun b o e => Heap.get?_push_of_some _ e
  refine ⟨(s.heap.push { cls := .type "range", data := .fields #[.int lo t, .int hi u, .int 1 v] }).objs.size, [(s.heap.push { cls := .type "range", data := .fields #[.int lo t, .int hi u, .int 1 v] }).objs.size], _, _, H, rfl,
    I1.kept (t' := tk) fun b o e => Heap.get?_push_of_some _ e, turn_range _ lo (hi - lo).toNat, ?_, fun b hb => ?_, q⟩
  · have e1 : lo + ((0 : Nat) : Int) * 1 = lo := by simp
    have e2 : (((hi - lo).toNat : Nat) : Int) - ((0 : Nat) : Int) = Builtin.Range.rangeSize lo hi 1 := by rw [rangeSize_one]; split <;> omega
    show IsRangeIter _ _ (lo + ((0 : Nat) : Int) * 1) ((((hi - lo).toNat : Nat) : Int) - ((0 : Nat) : Int)) 1
    rw [e1, e2]
    exact Heap.get?_push_size _ rfl
  · have e : b = (s.heap.push { cls := .type "range", data := .fields #[.int lo t, .int hi u, .int 1 v] }).objs.size := by simpa using hb
    subst e
    exact I1.fpOk (Nat.le_refl _) (I1.hok.fresh (Nat.le_refl _))
def iRng1 (ta : TA) : TI := fun σ H R => ta σ H fun vs H1 => ∃ j : Int, vs = [.int j] ∧ -(2 ^ 62) ≤ j ∧ j < 2 ^ 62 ∧ R (Itr 0 j.toNat) H1
theorem pi_range1 {a : Expr} {ta : TA} {p pos : Pos} (hg : Gl X "range") (hm : X.mg "range" = none) (ha : PA X [a] ta) (hs : starEach [a] X.env = [(false, eval a X.env)] := by rfl) : PI X tg (.Call (.Name "range" p) [a] [] pos) (iRng1 ta) := by
  intro pins s σ H R I h
  refine Call_ (ld_blt I hg hm boot_range (PyProof.Rows.callWith_type1 (thn (ha pos pins s σ H _ I h) fun us s1 ⟨vs, H1, I1, r1, q1⟩ => ?_) hs rfl))
  obtain ⟨j, e, q1, q2, q⟩ := q1
  subst e
  cases r1 with
  | cons r rr =>
    cases rr
    obtain ⟨t, rfl⟩ := r
    exact call_range_1 (range_it I1 (by omega) (by omega) q1 q2 (by simpa using q))
/-! ### for -/
/-- W: the invariant by the turn and a measure; N: what the body is to reach -/
def tFor (wi : TI) (g : TG) (tb : TS) : TS := fun D σ H => wi σ H fun J H1 => ∃ W : Nat → Nat → St → Hp → Prop, (∃ m, W 0 m σ H1) ∧ ∀ i m σ H, W i m σ H →
  (J.stop i H ∧ D.nx σ H) ∨ (J.go i H ∧ ∃ N : St → Hp → Prop, (∀ σ' H', N σ' H' → ∃ m', m' < m ∧ W (i + 1) m' σ' H') ∧ ∀ x H', J.yld i H x H' → g x σ H' fun σ2 H2 => tb { D with nx := N, ct := N, bk := D.nx } σ2 H2)
/-- the records at fp as they stand -/
def pinsAt (fp : List Addr) (h : Heap) : List (Addr × Obj) := fp.filterMap fun b => (h.get? b).map fun o => (b, o)
theorem mem_pinsAt {fp : List Addr} {h : Heap} {b : Addr} {o : Obj} (hb : b ∈ fp) (e : h.get? b = some o) : (b, o) ∈ pinsAt fp h := List.mem_filterMap.mpr ⟨b, hb, by rw [e]; rfl⟩
theorem of_pinsAt {fp : List Addr} {h : Heap} {p : Addr × Obj} (hp : p ∈ pinsAt fp h) : p.1 ∈ fp ∧ h.get? p.1 = some p.2 := by
  obtain ⟨b, hb, e⟩ := List.mem_filterMap.mp hp
  cases q : h.get? b with
  | none => rw [q] at e; cases e
  | some o =>
    rw [q] at e
    have e' : (b, o) = p := Option.some.inj e
    subst e'
    exact ⟨hb, q⟩
theorem Inv.pinned {pins : List (Addr × Obj)} {σ : St} {H : Hp} {s : Shared} {fp : List Addr} (I : Inv X pins σ H s) (hf : ∀ b ∈ fp, FpOk X pins H b) (ho : ∀ b ∈ fp, ∃ o, s.heap.get? b = some o ∧ ∀ v, o.data ≠ .cell v) : Inv X (pins ++ pinsAt fp s.heap) σ H s :=
  I.pins_of fun p hp => (List.mem_append.mp hp).elim (fun z => I.pin p (List.mem_append_right _ z)) fun z => by
    obtain ⟨hb, e⟩ := of_pinsAt z
    obtain ⟨f0, f1, f2, _⟩ := hf p.1 hb
    obtain ⟨o, e', d⟩ := ho p.1 hb
    rw [e] at e'; cases e'
    exact ⟨e, f0, f1, f2, d⟩
theorem Inv.unpinned {pins pl : List (Addr × Obj)} {σ : St} {H : Hp} {s : Shared} (I : Inv X (pins ++ pl) σ H s) : Inv X pins σ H s := I.pins_of fun p hp => I.pin p (List.mem_append_right _ (List.mem_append_left _ hp))
theorem ps_for {iter : Expr} {body : List Stmt} {wi : TI} {g : TG} {tb : TS} {pos : Pos} (hp : PassesOwn (model X.prog X.w) X.A X.env X.xe) (hc : X.calm = true) (hi : PI X tg iter wi) (hg : PG X tg g) (hb : PSs X body tb)
    (hs : ∀ x, foldedSetIterable iter X.env x = pure x := by intro _; rfl) : PS X (.For tg iter body [] pos) (tFor wi g tb) := by
  intro pins s σ H D I h
  refine wpAny_For (thn (hi pins s σ H _ I h) fun v s1 h1 => thn h1 fun itv s2 h2 => ?_) hs
  obtain ⟨it, fp, tn, J, H2, e, I2, T, st2, f2, W, ⟨m0, w0⟩, turn⟩ := h2
  subst e
  -- what stays true of the iterator's objects through the loop
  have stat : ∀ {H' : Hp}, (∀ b ∈ fp, H' b = none) → ∀ b ∈ fp, FpOk X pins H' b := fun hn b hb => ⟨hn b hb, (f2 b hb).2⟩
  refine codeAny_forLoop_any (fun n s' => ∃ i σ' H', Inv X pins σ' H' s' ∧ tn i s'.heap ∧ (∀ b ∈ fp, H' b = none) ∧ W i n σ' H') ?_ m0 ⟨0, σ, H2, I2, st2, fun b hb => (f2 b hb).1, w0⟩
  rintro n s3 ⟨i, σ3, H3, I3, st3, fr3, w3⟩
  rcases turn i n σ3 H3 w3 with ⟨stop, qn⟩ | ⟨go, N, hN, step⟩
  · refine wpAny_passesOwn hp (thn (T.done X rfl rfl rfl hc i pins s3 σ3 H3 X.xe I3 (stat fr3) st3 stop) fun r s4 ⟨hr, I4⟩ => ?_)
    subst hr
    exact wpAny_execs_nil ⟨σ3, H3, I4, qn⟩
  · refine wpAny_passesOwn hp (thn (T.item X rfl rfl rfl hc i pins s3 σ3 H3 X.xe I3 (stat fr3) st3 go) fun r s4 ⟨u, hr, h4⟩ => ?_)
    subst hr
    refine wpAny_passesOwn hp (thn h4 fun _ s5 ⟨x, H5, I5, r5, y5, st5, fr5⟩ => ?_)
    have I5' := I5.pinned (stat fr5) (T.obj _ _ st5)
    refine wpAny_passesOwn hp (thn (hg _ s5 σ3 H5 x u _ I5' r5 (step x H5 y5)) fun _ s6 ⟨σ6, H6, I6, q6⟩ => ?_)
    refine wpAny_passesOwn hp (thn (hb _ s6 σ6 H6 _ I6 q6) fun f s7 q7 => ?_)
    have again : ∀ {σ7 : St} {H7 : Hp}, Inv X (pins ++ pinsAt fp s5.heap) σ7 H7 s7 → N σ7 H7 → ∃ m, m < n ∧ ∃ i σ' H', Inv X pins σ' H' s7 ∧ tn i s7.heap ∧ (∀ b ∈ fp, H' b = none) ∧ W i m σ' H' := fun {σ7 H7} I7 n7 => by
      obtain ⟨m', hm, w7⟩ := hN σ7 H7 n7
      refine ⟨m', hm, i + 1, σ7, H7, I7.unpinned, T.keep _ _ _ st5 fun b hb o e => (I7.pin (b, o) (List.mem_append_right _ (List.mem_append_right _ (mem_pinsAt hb e)))).1, fun b hb => ?_, w7⟩
      obtain ⟨o, e, d⟩ := T.obj _ _ st5 b hb
      exact (I7.pin (b, o) (List.mem_append_right _ (List.mem_append_right _ (mem_pinsAt hb e)))).2.1
    cases f with
    | next => obtain ⟨σ7, H7, I7, n7⟩ := q7; exact again I7 n7
    | cont => obtain ⟨σ7, H7, I7, n7⟩ := q7; exact again I7 n7
    | brk => obtain ⟨σ7, H7, I7, q7⟩ := q7; exact ⟨σ7, H7, I7.unpinned, q7⟩
    | ret v => obtain ⟨x7, σ7, H7, I7, r7, q7⟩ := q7; exact ⟨x7, σ7, H7, I7.unpinned, r7, q7⟩
end

/-! ### the forms one uses -/
/-- over a list that the body leaves as it is -/
theorem for_list {K : PySem.W.Frag} {a : Addr} {xs : List V} {g : TG} {tb : TS} {D : Ends} {σ : St} {H : Hp} (Pv : Nat → St → Hp → Prop) (h0 : Pv 0 σ H) (hl : ∀ i σ H, i ≤ xs.length → Pv i σ H → SqL K H a xs)
    (hs : ∀ i x σ H, xs[i]? = some x → Pv i σ H → g x σ H fun σ2 H2 => tb { D with nx := Pv (i + 1), ct := Pv (i + 1), bk := D.nx } σ2 H2) (hd : ∀ σ H, Pv xs.length σ H → D.nx σ H) :
    ∃ W : Nat → Nat → St → Hp → Prop, (∃ m, W 0 m σ H) ∧ ∀ i m σ H, W i m σ H →
      ((Itl K a).stop i H ∧ D.nx σ H) ∨ ((Itl K a).go i H ∧ ∃ N : St → Hp → Prop, (∀ σ' H', N σ' H' → ∃ m', m' < m ∧ W (i + 1) m' σ' H') ∧ ∀ x H', (Itl K a).yld i H x H' → g x σ H' fun σ2 H2 => tb { D with nx := N, ct := N, bk := D.nx } σ2 H2) := by
  refine ⟨fun i m σ H => m = xs.length - i ∧ i ≤ xs.length ∧ Pv i σ H, ⟨xs.length, by simp, Nat.zero_le _, h0⟩, ?_⟩
  rintro i m σ H ⟨rfl, hi, p⟩
  have q := hl i σ H hi p
  by_cases hlt : i < xs.length
  · refine .inr ⟨⟨xs, xs[i], q, by simp [hlt]⟩, Pv (i + 1), fun σ' H' p' => ⟨xs.length - (i + 1), by omega, rfl, hlt, p'⟩, fun x H' y => ?_⟩
    obtain ⟨e, y⟩ := y
    subst e
    exact hs i x σ _ (y xs q) p
  · have e : i = xs.length := by omega
    subst e
    exact .inl ⟨⟨xs, q, Nat.le_refl _⟩, hd σ H p⟩
theorem for_range {lo : Int} {n : Nat} {g : TG} {tb : TS} {D : Ends} {σ : St} {H : Hp} (Pv : Nat → St → Hp → Prop) (h0 : Pv 0 σ H)
    (hs : ∀ i σ H, i < n → Pv i σ H → g (.int (lo + i)) σ H fun σ2 H2 => tb { D with nx := Pv (i + 1), ct := Pv (i + 1), bk := D.nx } σ2 H2) (hd : ∀ σ H, Pv n σ H → D.nx σ H) :
    ∃ W : Nat → Nat → St → Hp → Prop, (∃ m, W 0 m σ H) ∧ ∀ i m σ H, W i m σ H →
      ((Itr lo n).stop i H ∧ D.nx σ H) ∨ ((Itr lo n).go i H ∧ ∃ N : St → Hp → Prop, (∀ σ' H', N σ' H' → ∃ m', m' < m ∧ W (i + 1) m' σ' H') ∧ ∀ x H', (Itr lo n).yld i H x H' → g x σ H' fun σ2 H2 => tb { D with nx := N, ct := N, bk := D.nx } σ2 H2) := by
  refine ⟨fun i m σ H => m = n - i ∧ i ≤ n ∧ Pv i σ H, ⟨n, by simp, Nat.zero_le _, h0⟩, ?_⟩
  rintro i m σ H ⟨rfl, hi, p⟩
  by_cases hlt : i < n
  · refine .inr ⟨hlt, Pv (i + 1), fun σ' H' p' => ⟨n - (i + 1), by omega, rfl, hlt, p'⟩, fun x H' y => ?_⟩
    obtain ⟨e, y⟩ := y
    subst e y
    exact hs i σ _ hlt p
  · have e : i = n := by omega
    subst e
    exact .inl ⟨Nat.le_refl _, hd σ H p⟩
end L2

namespace L2
open PySem PySem.Spec PyProof.Rows

abbrev R2 := V → V → Hp → VK → Prop
/-- a two-place operation on values: f is binaryOp op, inplaceOp op or compareOp op -/
def OpR (X : Cx) (f : Value → Value → Sem Value) (r : R2) : Prop :=
  ∀ (pins : List (Addr × Obj)) (s : Shared) (σ : St) (H : Hp) (x y : V) (v u : Value) (Q : VK), Inv X pins σ H s → RelV x v → RelV y u → r x y H Q →
    wpAny (model X.prog X.w) X.A (f v u) (EP X pins σ Q) X.xe s
/-- a call of a value that is known (a builtin, a type) with values -/
def CallR (X : Cx) (f : Value) (r : List V → Hp → VK → Prop) : Prop :=
  ∀ (pins : List (Addr × Obj)) (s : Shared) (σ : St) (H : Hp) (xs : List V) (us : List Value) (Q : VK), Inv X pins σ H s → Vals xs us → r xs H Q →
    wpAny (model X.prog X.w) X.A (call f us) (EP X pins σ Q) X.xe s
/-- a value's truth -/
def TruR (X : Cx) (r : V → Hp → (Bool → Hp → Prop) → Prop) : Prop :=
  ∀ (pins : List (Addr × Obj)) (s : Shared) (σ : St) (H : Hp) (x : V) (v : Value) (Q : Bool → Hp → Prop), Inv X pins σ H s → RelV x v → r x H Q →
    wpAny (model X.prog X.w) X.A (truthy v) (TP X pins σ Q) X.xe s

def tOp (r : R2) (ta tb : TE) : TE := fun σ H Q => ta σ H fun x H1 => tb σ H1 fun y H2 => r x y H2 Q
/-- ints in, under C, and a value out -/
def rI (C : Int → Int → Prop) (g : Int → Int → V) : R2 := fun x y H Q => ∃ i j, x = .int i ∧ y = .int j ∧ C i j ∧ Q (g i j) H
def rI0 (g : Int → Int → V) : R2 := fun x y H Q => ∃ i j, x = .int i ∧ y = .int j ∧ Q (g i j) H
section
variable {X : Cx} {a b c : Expr} {ta tb tc : TE} {pos : Pos}

theorem binT (ha : PE X a ta) (hb : PE X b tb) {pins : List (Addr × Obj)} {s : Shared} {σ : St} {H : Hp} {R : V → V → Hp → Prop} (I : Inv X pins σ H s)
    (h : ta σ H fun x H1 => tb σ H1 fun y H2 => R x y H2) {Q : Value → Shared → Prop} {f : Value → Value → Sem Value}
    (hf : ∀ v u s2 x y H2, Inv X pins σ H2 s2 → RelV x v → RelV y u → R x y H2 → wpAny (model X.prog X.w) X.A (f v u) Q X.xe s2) :
    wpAny (model X.prog X.w) X.A (eval a X.env) (fun v s₁ => wpAny (model X.prog X.w) X.A (eval b X.env) (fun u s₂ => wpAny (model X.prog X.w) X.A (f v u) Q X.xe s₂) X.xe s₁) X.xe s := by
  refine thn (ha pins s σ H _ I h) fun v s1 ⟨x, H1, I1, r1, q1⟩ => ?_
  refine thn (hb pins s1 σ H1 _ I1 q1) fun u s2 ⟨y, H2, I2, r2, q2⟩ => ?_
  exact hf v u s2 x y H2 I2 r1 r2 q2

theorem pe_op {op : Operator} {r : R2} (ho : OpR X (binaryOp op) r) (ha : PE X a ta) (hb : PE X b tb) : PE X (.BinOp a op b pos) (tOp r ta tb) := by
  intro pins s σ H Q I h
  exact wpAny_BinOp (binT ha hb I h fun v u s2 x y H2 I2 rx ry q => ho pins s2 σ H2 x y v u Q I2 rx ry q)
/-! ### ints -/
theorem opI {f : Value → Value → Sem Value} {C : Int → Int → Prop} {g : Int → Int → Int}
    (rule : ∀ (i j : Int) (t u : Tok) (s : Shared) (Q : Value → Shared → Prop) (E : Value → Shared → Prop), C i j → Q (.int (g i j) s.toks) { s with toks := s.toks + 1 } → wpAny (model X.prog X.w) X.A (f (.int i t) (.int j u)) Q E s) :
    OpR X f (rI C fun i j => .int (g i j)) := by
  intro pins s σ H x y v u Q I rx ry h
  obtain ⟨i, j, rfl, rfl, hc, q⟩ := h
  obtain ⟨t, rfl⟩ := rx
  obtain ⟨t', rfl⟩ := ry
  exact rule i j t t' s _ _ hc ⟨.int (g i j), H, I.tok _, ⟨_, rfl⟩, q⟩
theorem opI0 {f : Value → Value → Sem Value} {g : Int → Int → Int}
    (rule : ∀ (i j : Int) (t u : Tok) (s : Shared) (Q : Value → Shared → Prop) (E : Value → Shared → Prop), Q (.int (g i j) s.toks) { s with toks := s.toks + 1 } → wpAny (model X.prog X.w) X.A (f (.int i t) (.int j u)) Q E s) :
    OpR X f (rI0 fun i j => .int (g i j)) := by
  intro pins s σ H x y v u Q I rx ry h
  obtain ⟨i, j, rfl, rfl, q⟩ := h
  obtain ⟨t, rfl⟩ := rx
  obtain ⟨t', rfl⟩ := ry
  exact rule i j t t' s _ _ ⟨.int (g i j), H, I.tok _, ⟨_, rfl⟩, q⟩
theorem opB0 {f : Value → Value → Sem Value} {g : Int → Int → Bool}
    (rule : ∀ (i j : Int) (t u : Tok) (s : Shared) (Q : Value → Shared → Prop) (E : Value → Shared → Prop), Q (.bool (g i j)) s → wpAny (model X.prog X.w) X.A (f (.int i t) (.int j u)) Q E s) :
    OpR X f (rI0 fun i j => .bl (g i j)) := by
  intro pins s σ H x y v u Q I rx ry h
  obtain ⟨i, j, rfl, rfl, q⟩ := h
  obtain ⟨t, rfl⟩ := rx
  obtain ⟨t', rfl⟩ := ry
  exact rule i j t t' s _ _ ⟨.bl (g i j), H, I, rfl, q⟩

def CDiv (i j : Int) : Prop := 0 < j ∧ j < 1073741824
def CPow (i j : Int) : Prop := 0 ≤ j ∧ j ≤ 1000000 ∧ i.natAbs < 2 ^ 64
theorem op_add : OpR X (binaryOp .Add) (rI0 fun i j => .int (i + j)) := opI0 fun _ _ _ _ _ _ _ q => add_int q
theorem op_sub : OpR X (binaryOp .Sub) (rI0 fun i j => .int (i - j)) := opI0 fun _ _ _ _ _ _ _ q => sub_int q
/-- // by a positive divisor -/
theorem op_fdiv : OpR X (binaryOp .FloorDiv) (rI CDiv fun i j => .int (i / j)) := opI fun i j _ _ _ _ _ hc q => by
  have h1 : (0 : Int) < j := hc.1
  have h2 : j < 1073741824 := hc.2
  exact floordiv_int (by omega) (by rw [Int.fdiv_eq_ediv_of_nonneg i (by omega)]; exact q) (.inl (PyProof.noPylong_small (by omega)))
/-- % by a positive divisor of any size -/
theorem op_mod : OpR X (binaryOp .Mod) (rI (fun _ j => 0 < j) fun i j => .int (i % j)) := opI fun i j _ _ _ _ _ hc q => by
  have h1 : (0 : Int) < j := hc
  exact mod_int' (by omega) (by rw [Int.fmod_eq_emod_of_nonneg i (by omega)]; exact q)
theorem op_pow : OpR X (binaryOp .Pow) (rI CPow fun i j => .int (i ^ j.toNat)) := opI fun _ _ _ _ _ _ _ hc q => pow_int_small hc.1 hc.2.1 hc.2.2 q
/-! ### bools among ints: n += (a < b) -/
end

/-! ### comparisons -/
/-- the scalars that == tells apart as data does -/
def scal : V → V → Bool
  | .non, .non => true | .non, .int _ => true | .int _, .non => true | .non, .bl _ => true | .bl _, .non => true | .non, .str _ => true | .str _, .non => true
  | .int _, .int _ => true | .bl _, .bl _ => true | .str _, .str _ => true | .byt _, .byt _ => true
  | .int _, .str _ => true | .str _, .int _ => true | .bl _, .str _ => true | .str _, .bl _ => true
  | _, _ => false
def rEq : R2 := fun x y H Q => scal x y = true ∧ Q (.bl (decide (x = y))) H
def rNe : R2 := fun x y H Q => scal x y = true ∧ Q (.bl (!decide (x = y))) H

theorem dec_int {i j : Int} : decide (V.int i = V.int j) = (i == j) := by
  rw [Bool.eq_iff_iff]
  simp
theorem dec_bl {i j : Bool} : decide (V.bl i = V.bl j) = (i == j) := by
  rw [Bool.eq_iff_iff]
  simp
theorem dec_str {i j : Str} : decide (V.str i = V.str j) = (i == j) := by
  rw [Bool.eq_iff_iff]
  simp
theorem dec_byt {i j : Array UInt8} : decide (V.byt i = V.byt j) = (i.toList == j.toList) := by
  rw [Bool.eq_iff_iff]
  cases i
  cases j
  simp

section
variable {X : Cx} {a b c : Expr} {ta tb tc : TE} {pos : Pos}
theorem fin_bl {pins : List (Addr × Obj)} {σ : St} {H : Hp} {s : Shared} {Q : VK} {k k' : Bool} (I : Inv X pins σ H s) (q : Q (.bl k) H) (e : k = k') : EP X pins σ Q (.bool k') s := by
  subst e
  exact ⟨.bl k, H, I, rfl, q⟩
theorem op_eq : OpR X (compareOp .Eq) rEq := by
  intro pins s σ H x y v u Q I rx ry h
  obtain ⟨hs, q⟩ := h
  cases x with
  | non =>
    cases rx
    cases y with
    | non => cases ry; exact PySem.EqNone.eq_none_none (fin_bl I q (by simp))
    | bl j => cases ry; exact PySem.EqNone.eq_none_bool (fin_bl I q (by simp))
    | int j => obtain ⟨t', rfl⟩ := ry; exact PySem.EqNone.eq_none_int (fin_bl I q (by simp))
    | str j => obtain ⟨t', rfl⟩ := ry; exact PySem.EqNone.eq_none_str (fin_bl I q (by simp))
    | _ => exact absurd (show false = true from hs) Bool.false_ne_true
  | bl i =>
    cases rx
    cases y with
    | non => cases ry; exact PySem.EqNone.eq_bool_none (fin_bl I q (by simp))
    | bl j => cases ry; exact eq_bool (fin_bl I q dec_bl)
    | str j => obtain ⟨t', rfl⟩ := ry; exact PySem.EqMixed.eq_bool_str (fin_bl I q (by simp))
    | _ => exact absurd (show false = true from hs) Bool.false_ne_true
  | int i =>
    obtain ⟨t, rfl⟩ := rx
    cases y with
    | non => cases ry; exact PySem.EqNone.eq_int_none (fin_bl I q (by simp))
    | int j => obtain ⟨t', rfl⟩ := ry; exact eq_int (fin_bl I q dec_int)
    | str j => obtain ⟨t', rfl⟩ := ry; exact PySem.EqMixed.eq_int_str (fin_bl I q (by simp))
    | _ => exact absurd (show false = true from hs) Bool.false_ne_true
  | str i =>
    obtain ⟨t, rfl⟩ := rx
    cases y with
    | non => cases ry; exact PySem.EqNone.eq_str_none (fin_bl I q (by simp))
    | bl j => cases ry; exact PySem.EqMixed.eq_str_bool (fin_bl I q (by simp))
    | int j => obtain ⟨t', rfl⟩ := ry; exact PySem.EqMixed.eq_str_int (fin_bl I q (by simp))
    | str j => obtain ⟨t', rfl⟩ := ry; exact eq_str (fin_bl I q dec_str)
    | _ => exact absurd (show false = true from hs) Bool.false_ne_true
  | byt i =>
    obtain ⟨t, rfl⟩ := rx
    cases y with
    | byt j => obtain ⟨t', rfl⟩ := ry; exact PySem.W.eq_bytes (fin_bl I q dec_byt)
    | _ => exact absurd (show false = true from hs) Bool.false_ne_true
  | _ => cases y <;> exact absurd (show false = true from hs) Bool.false_ne_true
theorem op_ne : OpR X (compareOp .NotEq) rNe := by
  intro pins s σ H x y v u Q I rx ry h
  obtain ⟨hs, q⟩ := h
  cases x with
  | non =>
    cases rx
    cases y with
    | non => cases ry; exact PySem.EqNone.ne_none_none (fin_bl I q (by simp))
    | bl j => cases ry; exact PySem.EqNone.ne_none_bool (fin_bl I q (by simp))
    | int j => obtain ⟨t', rfl⟩ := ry; exact PySem.EqNone.ne_none_int (fin_bl I q (by simp))
    | str j => obtain ⟨t', rfl⟩ := ry; exact PySem.EqNone.ne_none_str (fin_bl I q (by simp))
    | _ => exact absurd (show false = true from hs) Bool.false_ne_true
  | bl i =>
    cases rx
    cases y with
    | non => cases ry; exact PySem.EqNone.ne_bool_none (fin_bl I q (by simp))
    | bl j => cases ry; exact ne_bool (fin_bl I q (congrArg not dec_bl))
    | str j => obtain ⟨t', rfl⟩ := ry; exact PySem.EqMixed.ne_bool_str (fin_bl I q (by simp))
    | _ => exact absurd (show false = true from hs) Bool.false_ne_true
  | int i =>
    obtain ⟨t, rfl⟩ := rx
    cases y with
    | non => cases ry; exact PySem.EqNone.ne_int_none (fin_bl I q (by simp))
    | int j => obtain ⟨t', rfl⟩ := ry; exact ne_int (fin_bl I q (congrArg not dec_int))
    | str j => obtain ⟨t', rfl⟩ := ry; exact PySem.EqMixed.ne_int_str (fin_bl I q (by simp))
    | _ => exact absurd (show false = true from hs) Bool.false_ne_true
  | str i =>
    obtain ⟨t, rfl⟩ := rx
    cases y with
    | non => cases ry; exact PySem.EqNone.ne_str_none (fin_bl I q (by simp))
    | bl j => cases ry; exact PySem.EqMixed.ne_str_bool (fin_bl I q (by simp))
    | int j => obtain ⟨t', rfl⟩ := ry; exact PySem.EqMixed.ne_str_int (fin_bl I q (by simp))
    | str j => obtain ⟨t', rfl⟩ := ry; exact ne_str (fin_bl I q (congrArg not dec_str))
    | _ => exact absurd (show false = true from hs) Bool.false_ne_true
  | byt i =>
    obtain ⟨t, rfl⟩ := rx
    cases y with
    | byt j => obtain ⟨t', rfl⟩ := ry; exact PySem.W.ne_bytes (fin_bl I q (congrArg not dec_byt))
    | _ => exact absurd (show false = true from hs) Bool.false_ne_true
  | _ => cases y <;> exact absurd (show false = true from hs) Bool.false_ne_true

theorem op_gt : OpR X (compareOp .Gt) (rI0 fun i j => .bl (decide (j < i))) := opB0 fun _ _ _ _ _ _ _ q => gt_int q
theorem op_ge : OpR X (compareOp .GtE) (rI0 fun i j => .bl (decide (j ≤ i))) := opB0 fun _ _ _ _ _ _ _ q => ge_int q
/-- is None, is not None: the right side a value none -/
theorem op_isN : OpR X (compareOp .Is) (fun x y H Q => y = .non ∧ Q (.bl (decide (x = .non))) H) := by
  intro pins s σ H x y v u Q I rx ry h
  obtain ⟨rfl, q⟩ := h
  cases ry
  refine is_none_gen (fin_bl I q ?_)
  cases x <;> first
    | (cases rx; rfl)
    | (obtain ⟨t, rfl⟩ := rx; rfl)
theorem nomark (b : Expr) {op : CmpOp} (h : op ≠ .In := by decide) (h2 : op ≠ .NotIn := by decide) : behindInMarks op b = false := by
  have e1 : (op == CmpOp.In) = false := by cases op <;> first | rfl | exact absurd rfl h
  have e2 : (op == CmpOp.NotIn) = false := by cases op <;> first | rfl | exact absurd rfl h2
  cases b <;> simp [behindInMarks, e1, e2]
/-- a comparison as a value; hm: nomark b, or (for in, not in) by with_unfolding_all rfl -/
theorem pe_cmpR {op : CmpOp} {r : R2} (ho : OpR X (compareOp op) r) (ha : PE X a ta) (hb : PE X b tb) (hm : behindInMarks op b = false) : PE X (.Compare a [op] [b] pos) (tOp r ta tb) := by
  intro pins s σ H Q I h
  exact wpAny_Compare1 (binT ha hb I h fun v u s2 x y H2 I2 rx ry q => ho pins s2 σ H2 x y v u Q I2 rx ry q) hm
/-- a reading of a value as a test -/
def tTest (t : TE) : TT := fun σ H Q => t σ H fun x H' => ∃ k, x = .bl k ∧ Q k H'
theorem pt_cmpR {op : CmpOp} {r : R2} (ho : OpR X (compareOp op) r) (ha : PE X a ta) (hb : PE X b tb) (hm : behindInMarks op b = false) : PT X (.Compare a [op] [b] pos) (tTest (tOp r ta tb)) := by
  intro pins s σ H Q I h
  refine wpAny_isTrue_Compare1 (thn (ha pins s σ H _ I h) fun v s1 ⟨x, H1, I1, r1, q1⟩ => thn (hb pins s1 σ H1 _ I1 q1) fun u s2 ⟨y, H2, I2, r2, q2⟩ =>
    thn (ho pins s2 σ H2 x y v u _ I2 r1 r2 q2) fun c s3 ⟨z, H3, I3, r3, k, e, q3⟩ => ?_) hm
  subst e
  cases r3
  exact wpAny_truthy_bool ⟨H3, I3, q3⟩
/-! ### truth -/
/-- a value's truth by the abstract heap -/
def TruV (K : PySem.W.Frag) (x : V) (H : Hp) (k : Bool) : Prop :=
  match x with
  | .non => k = false
  | .bl b => k = b
  | .int i => k = (i != 0)
  | .str y => y.length ≤ sizeLine ∧ k = ((y.length : Int) != 0)
  | .byt y => y.size ≤ sizeLine ∧ k = ((y.size : Int) != 0)
  | .ref p => (∃ xs, SqL K H p xs ∧ k = !xs.isEmpty) ∨ (∃ xs, SqT K H p xs ∧ k = !xs.isEmpty) ∨ ∃ kvs, H p = some (.dK kvs) ∧ k = !kvs.isEmpty
  | _ => False
theorem isEmpty_kv {κ : Type} {kvs : List (κ × V)} {vs : List (κ × Value)} (r : KV kvs vs) : (!vs.isEmpty) = !kvs.isEmpty := by
  cases r <;> rfl
theorem isEmpty_of {xs : List V} {its : List Value} (r : Vals xs its) : (!its.toArray.isEmpty) = !xs.isEmpty := by
  cases r <;> simp
theorem line63 : (sizeLine : Nat) < 2 ^ 63 := by rw [sizeLine_eq]; decide
theorem tru_ok : TruR X (fun x H Q => ∃ k, TruV X.K x H k ∧ Q k H) := by
  intro pins s σ H x v Q I rx h
  obtain ⟨k, e, q⟩ := h
  have hl := line63
  have hs : sizeLine = 16777216 := sizeLine_eq
  cases x with
  | non =>
    cases rx
    have e' : k = false := e
    subst e'
    exact truthy_none ⟨H, I, q⟩
  | bl b =>
    cases rx
    have e' : k = b := e
    subst e'
    exact wpAny_truthy_bool ⟨H, I, q⟩
  | int i =>
    obtain ⟨t, rfl⟩ := rx
    have e' : k = (i != 0) := e
    subst e'
    exact PySem.P.truthy_int ⟨H, I, q⟩
  | str y =>
    obtain ⟨t, rfl⟩ := rx
    obtain ⟨hy, e'⟩ : y.length ≤ sizeLine ∧ k = ((y.length : Int) != 0) := e
    subst e'
    exact PySem.P.truthy_str (by omega) ⟨H, I.tok _, q⟩
  | byt y =>
    obtain ⟨t, rfl⟩ := rx
    obtain ⟨hy, e'⟩ : y.size ≤ sizeLine ∧ k = ((y.size : Int) != 0) := e
    subst e'
    exact PySem.W.truthy_bytes (by omega) ⟨H, I.tok _, q⟩
  | ref p =>
    cases rx
    have e' : (∃ xs, SqL X.K H p xs ∧ k = !xs.isEmpty) ∨ (∃ xs, SqT X.K H p xs ∧ k = !xs.isEmpty) ∨ ∃ kvs, H p = some (.dK kvs) ∧ k = !kvs.isEmpty := e
    rcases e' with ⟨xs, hx, e'⟩ | ⟨xs, hx, e'⟩ | ⟨kvs, hx, e'⟩
    · subst e'
      obtain ⟨its, r, pl, hz⟩ := I.list hx
      have hlen := r.length
      exact wpAny_truthy_list pl.isList (by simp only [List.size_toArray]; omega) ⟨H, I.tok _, by rw [isEmpty_of r]; exact q⟩
    · subst e'
      obtain ⟨its, r, pl, hz⟩ := I.tuple hx
      have hlen := r.length
      exact truthy_tuple pl (by simp only [List.size_toArray]; omega) ⟨H, I.tok _, by rw [isEmpty_of r]; exact q⟩
    · subst e'
      obtain ⟨hz, hS, vs, r, m⟩ : kvs.length ≤ sizeLine ∧ (p == sysModules) = false ∧ ∃ vs, KV kvs vs ∧ s.heap.DictOf (mixKind X.prog X.w) p vs := I.hok p _ hx
      have hlen : kvs.length = vs.length := Paired.length r
      exact wpAny_truthy_dict hS m (by omega) ⟨H, I.tok _, by rw [isEmpty_kv r]; exact q⟩
  | _ => exact (show False from e).elim
/-- any expression whose test is its value's truth (a name, a call, a subscript, a field ..: he by fun _ => rfl) -/
theorem pt_truth (ha : PE X a ta) (he : ∀ whole, isTrue a X.env whole = (do let v ← whole; standAt a.pos; holding [v] (truthy v))) :
    PT X a (fun σ H Q => ta σ H fun x H' => ∃ k, TruV X.K x H' k ∧ Q k H') := by
  intro pins s σ H Q I h
  exact isTrue_plain (thn (ha pins s σ H _ I h) fun v s1 ⟨x, H1, I1, r1, q1⟩ => tru_ok pins s1 σ H1 x v Q I1 r1 q1) (he _)

/-! ### strs and bytes -/
theorem op_add_str : OpR X (binaryOp .Add) (fun x y H Q => ∃ i j, x = .str i ∧ y = .str j ∧ i.length + j.length ≤ sizeLine ∧ Q (.str (i ++ j)) H) := by
  intro pins s σ H x y v u Q I rx ry h
  obtain ⟨i, j, rfl, rfl, hz, q⟩ := h
  obtain ⟨t, rfl⟩ := rx
  obtain ⟨t', rfl⟩ := ry
  exact add_str (fun t' tk => ⟨.str (i ++ j), H, I.tok _, ⟨_, rfl⟩, q⟩) hz
/-! ### scalar builtins, by CallR -/
theorem vals1 {x : V} {us : List Value} (r : Vals [x] us) : ∃ u, us = [u] ∧ RelV x u := by
  cases r with
  | cons r1 r2 => cases r2; exact ⟨_, rfl, r1⟩
theorem vals2 {x y : V} {us : List Value} (r : Vals [x, y] us) : ∃ u w', us = [u, w'] ∧ RelV x u ∧ RelV y w' := by
  cases r with
  | cons r1 r2 =>
    cases r2 with
    | cons r3 r4 => cases r4; exact ⟨_, _, rfl, r1, r3⟩
theorem call_abs : CallR X (.builtin "abs") (fun xs H Q => ∃ i, xs = [.int i] ∧ Q (.int (if i < 0 then -i else i)) H) := by
  intro pins s σ H xs us Q I r h
  obtain ⟨i, rfl, q⟩ := h
  obtain ⟨u, rfl, t, rfl⟩ := vals1 r
  exact call_abs_int fun u tk => ⟨.int (if i < 0 then -i else i), H, I.tok _, ⟨_, rfl⟩, q⟩
end
end L2

namespace L2
open PySem PySem.Spec PyProof.Rows

/-! ### an instance, its attributes a map -/
structure ObjM (h : Heap) (x dx C : Addr) (mA : Str → Option Value) : Prop where
  obj : h.get? x = some (PySem.W.instObj C dx)
  ns : h.Ns1 dx mA
  ne : dx ≠ x

theorem lookIn_ns {h : Heap} {dx : Addr} {mA : Str → Option Value} (n : h.Ns1 dx mA) : ∃ od, h.get? dx = some od ∧ ∀ name, PySem.W.lookIn name od = some (mA name) := by
  obtain ⟨o, es, ep, ho, hd, hk, _, hm⟩ := n
  refine ⟨o, ho, fun name => ?_⟩
  have e := hm name
  unfold nsFind findBy at e
  rw [← Array.find?_toList] at e
  unfold PySem.W.lookIn
  rw [hd]
  dsimp only
  split
  · rename_i y q
    rw [q] at e
    exact congrArg some e
  · rename_i q
    rw [q] at e
    have a : es.toList.any (·.refKey) = false := by
      rw [List.any_eq_false]
      intro y hy
      obtain ⟨z, t, hkey⟩ := hk y (Array.mem_toList_iff.mp hy)
      simp [DictEntry.refKey, hkey]
    have a' : ¬ es.toList.any (·.refKey) = true := by rw [a]; exact Bool.false_ne_true
    rw [if_neg a']
    exact congrArg some e

theorem ObjM.look {h : Heap} {x dx C : Addr} {mA : Str → Option Value} (I : ObjM h x dx C mA) : ∃ od, PySem.W.InstAt h x (PySem.W.instObj C dx) C (some od) ∧ ∀ name, PySem.W.lookIn name od = some (mA name) :=
  let ⟨od, ho, hl⟩ := lookIn_ns I.ns
  ⟨od, ⟨I.obj, rfl, rfl, ho⟩, hl⟩

section
variable {prog : Program} {w : World} {A : Around} {E : Value → Shared → Prop} {s : Shared} {K : PySem.W.Frag} {x dx C f : Addr} {mA : Str → Option Value} {name : Str} {v : Value}

end

/-! ### the attributes as a list of pairs -/
theorem RelO.some_of {v : V} {o : Option Value} (r : RelO (some v) o) : ∃ u, o = some u ∧ RelV v u := by
  cases o with
  | none => exact (show False from r).elim
  | some u => exact ⟨u, rfl, r⟩
section
variable {P : Program} {w : World} {H H' : Hp} {h h' : Heap} {a C dx : Addr} {fs fs' : List (Str × V)}
theorem ins_get (hok : HOk P w H h) (e : H a = some (.ins C dx fs)) : ∃ mA, ObjM h a dx C mA ∧ (∀ f, RelO (fs.lookup f) (mA f)) ∧ PySem.Within mA (fs.map (·.1)) ∧ fs.length ≤ 1000 ∧ H dx = some (.own a) := by
  obtain ⟨d, z, ne, ob, mA, n, r, q⟩ := (show ObjOk P w H h a (.ins C dx fs) from hok a _ e)
  exact ⟨mA, ⟨ob, n, ne⟩, r, q, z, d⟩
end

/-! ### what of the text a class must have -/
structure Cls (K : PySem.W.Frag) (C : Addr) : Prop where
  pg : PySem.W.plainGet K C Str.empty = true
  hd : PySem.W.hasDictIn K C = true
  po : PySem.W.plainOver K C = true
  sa : PySem.W.findIn K (.ref C) "__setattr__" = some (some (.builtin "object.__setattr__"))
theorem Cls.get {K : PySem.W.Frag} {C : Addr} (c : Cls K C) (f : Str) : PySem.W.plainGet K C f = true := c.pg
/-- a constant of the class -/
structure Con (K : PySem.W.Frag) (C : Addr) (f : Str) (v : V) (u : Value) : Prop where
  at_ : PySem.W.findIn K (.ref C) f = some (some u)
  rel : RelV v u
  get : PySem.W.specialIn K u "__get__" = some none
  cp : PySem.W.copiedNames.contains f = false
/-- a method: a plain def of the class or of one above it -/
structure Meth (K : PySem.W.Frag) (C : Addr) (m : Str) (f : Addr) : Prop where
  at_ : PySem.W.findIn K (.ref C) m = some (some (.ref f))
  fn : PySem.W.isFn K (.ref f) = true
  kp : PySem.W.keepIn K (.ref f) = true

section
variable {X : Cx} {pins : List (Addr × Obj)} {σ : St} {H : Hp} {s : Shared} {a C dx : Addr} {fs : List (Str × V)} {f : Str} {v : V} {A : Around} {E : Value → Shared → Prop}

end

/-! ### readings and rules -/
section
variable {X : Cx} {o e value : Expr} {f : Str} {pos pos' tpos : Pos} {ta tv : TE}
end

/-! ### isinstance -/
section
variable {X : Cx} {pins : List (Addr × Obj)} {σ : St} {H : Hp} {s : Shared} {A : Around} {E : Value → Shared → Prop} {Q : Value → Shared → Prop} {c : Value} {b : Bool}
/-- the type of a value, as the fragment's deciders take it; for an instance its class -/
inductive TyOf (K : PySem.W.Frag) (H : Hp) : V → Value → Prop where
  | non : TyOf K H .non (.type "NoneType")
  | bl (x : Bool) : TyOf K H (.bl x) (.type "bool")
  | int (i : Int) : TyOf K H (.int i) (.type "int")
  | str (x : Str) : TyOf K H (.str x) (.type "str")
  | flt (x : UInt64) : TyOf K H (.flt x) (.type "float")
  | lst {a : Addr} {xs : List V} (e : H a = some (.lst xs)) : TyOf K H (.ref a) (.type "list")
  | frz {a : Addr} {o : Obj} {xs : List V} (e : H a = some (.frz o (.lst xs))) : TyOf K H (.ref a) (.type "list")
  | tup {a : Addr} {xs : List V} (e : H a = some (.tup xs)) : TyOf K H (.ref a) (.type "tuple")
  | dK {a : Addr} {kvs : List (Key × V)} (e : H a = some (.dK kvs)) : TyOf K H (.ref a) (.type "dict")
  | dT {a : Addr} {kvs : List (List Key × V)} (e : H a = some (.dT kvs)) : TyOf K H (.ref a) (.type "dict")
  | ins {a C dx : Addr} {fs : List (Str × V)} (e : H a = some (.ins C dx fs)) (cl : Cls K C) (ha : PySem.W.findIn K (.ref C) "__class__" = some (some (.builtin "object.__class__")))
      (hn : PySem.W.specialIn K (.builtin "object.__class__") "__get__" = some (some (.builtin "getset_descriptor.__get__"))) (htk : PySem.W.takesIn K (.builtin "object.__class__") = some true)
      (hm : PySem.W.mroIn K C (.type "object") = some true) : TyOf K H (.ref a) (.ref C)
/-- isinstance(x, c) for one class c, a built-in or an own one: kitOne's answer -/
theorem isinst_ok {x : V} {u t : Value} (I : Inv X pins σ H s) (rx : RelV x u) (ty : TyOf X.K H x t) (e : PySem.W.kitOne X.K t c = some b) (h : ∀ tk, Q (.bool b) { s with toks := tk }) :
    wpAny (model X.prog X.w) A (call (.builtin "isinstance") [u, c]) Q E s := by
  cases ty with
  | non => cases (show u = Value.none from rx); exact PySem.W.kia_one PySem.W.kitx_none I.kIn True.intro e (fun z => nomatch z) h
  | bl y => cases (show u = Value.bool y from rx); exact PySem.W.kia_one PySem.W.kitx_bool I.kIn True.intro e (fun z => nomatch z) h
  | int i => obtain ⟨t, q⟩ := (show ∃ t, u = Value.int i t from rx); cases q; exact PySem.W.kia_one PySem.W.kitx_int I.kIn True.intro e (fun z => nomatch z) h
  | str y => obtain ⟨t, q⟩ := (show ∃ t, u = Value.str y t from rx); cases q; exact PySem.W.kia_one PySem.W.kitx_str I.kIn True.intro e (fun z => nomatch z) h
  | flt y => obtain ⟨t, q⟩ := (show ∃ t, u = Value.float y t from rx); cases q; exact PySem.W.kia_one PySem.W.kitx_float I.kIn True.intro e (fun z => nomatch z) h
  | @lst a xs ea =>
    cases (show u = Value.ref a from rx)
    obtain ⟨_, _, n, _, h1⟩ := (show ObjOk X.prog X.w H s.heap a (.lst xs) from I.hok a _ ea)
    exact PySem.W.kia_one PySem.W.kitx_list I.kIn ⟨_, h1, rfl⟩ e (fun z => nomatch z) h
  | @frz a ob xs ea =>
    cases (show u = Value.ref a from rx)
    obtain ⟨_, _, _, n, _, h1⟩ := (show ObjOk X.prog X.w H s.heap a (.frz ob (.lst xs)) from I.hok a _ ea)
    exact PySem.W.kia_one PySem.W.kitx_list I.kIn ⟨_, h1, rfl⟩ e (fun z => nomatch z) h
  | @tup a xs ea =>
    cases (show u = Value.ref a from rx)
    obtain ⟨_, _, _, p⟩ := (show ObjOk X.prog X.w H s.heap a (.tup xs) from I.hok a _ ea)
    obtain ⟨o, h1, h2, _⟩ := p
    exact PySem.W.kia_one PySem.W.kitx_tuple I.kIn ⟨o, h1, h2⟩ e (fun z => nomatch z) h
  | @dK a kvs ea =>
    cases (show u = Value.ref a from rx)
    obtain ⟨_, _, vs, _, p⟩ := (show ObjOk X.prog X.w H s.heap a (.dK kvs) from I.hok a _ ea)
    obtain ⟨o, es, ep, h1, h2, _⟩ := p
    exact PySem.W.kia_one PySem.W.kitx_dict I.kIn ⟨o, h1, h2.1⟩ e (fun z => nomatch z) h
  | @dT a kvs ea =>
    cases (show u = Value.ref a from rx)
    obtain ⟨_, _, xs, _, o, es, ep, h1, h2, _⟩ := (show ObjOk X.prog X.w H s.heap a (.dT kvs) from I.hok a _ ea)
    exact PySem.W.kia_one PySem.W.kitx_dict I.kIn ⟨o, h1, h2.1⟩ e (fun z => nomatch z) h
  | @ins a C dx fs ea cl ha hn htk hm =>
    cases (show u = Value.ref a from rx)
    obtain ⟨mA, O, _⟩ := ins_get I.hok ea
    obtain ⟨od, J, _⟩ := O.look
    exact PySem.W.kia_one (PySem.W.kitx_own (cl.get _) cl.hd ha hn htk hm) I.kIn J e (fun z => nomatch z) h
end
end L2

namespace L2
open PySem PySem.Spec PyProof.Rows

/-! ### room -/
structure Room (k : Nat) (A : Around) : Prop where
  hd : A.handled = none
  dp : A.depth + 3 * k + 5 < recursionLimit
  un : A.units + 16 * k + 200 < cLine
theorem Room.mono {j k : Nat} {A : Around} (r : Room k A) (h : j ≤ k) : Room j A := ⟨r.hd, by have := r.dp; omega, by have := r.un; omega⟩
theorem Room.deeper {k : Nat} {A : Around} (r : Room (k + 1) A) (env : Env) : Room k (A.deeper env) :=
  ⟨r.hd, by have := r.dp; show A.depth + 1 + 3 * k + 5 < _; omega, by have := r.un; show A.units + 3 + 16 * k + 200 < _; omega⟩
theorem Room.depth {k : Nat} {A : Around} (r : Room k A) : A.depth < recursionLimit := by have := r.dp; omega
theorem Room.units {k : Nat} {A : Around} (r : Room k A) : A.units + 64 < cLine := by have := r.un; omega
/-! ### argument lists and displays -/
def tNil : TA := fun _ H Q => Q [] H
def tCons (ta : TE) (tr : TA) : TA := fun σ H Q => ta σ H fun x H1 => tr σ H1 fun xs H2 => Q (x :: xs) H2
section
variable {X : Cx} {e : Expr} {es : List Expr} {te : TE} {t : TA} {pos : Pos}
theorem pa_nil : PA X [] tNil := fun _ _ _ _ H Q I h => Calls.spliced_nil ⟨[], H, I, .nil, h⟩
theorem pa_cons (ha : PE X e te) (hr : PA X es t) (hs : starEach (e :: es) X.env = (false, eval e X.env) :: starEach es X.env := by rfl) : PA X (e :: es) (tCons te t) := by
  intro pos pins s σ H Q I h
  rw [hs]
  show wpAny _ _ (spliced ((false, eval e X.env) :: backTo pos (starEach es X.env))) _ _ s
  refine Calls.spliced_cons (thn (ha pins s σ H _ I h) fun u s1 ⟨x, H1, I1, r1, q1⟩ => ?_)
  exact thn (hr pos pins s1 σ H1 _ I1 q1) fun us s2 ⟨xs, H2, I2, r2, q2⟩ => ⟨x :: xs, H2, I2, .cons r1 r2, q2⟩

/-- a tuple, a list of written items -/
def tTup (t : TA) : TE := fun σ H Q => t σ H fun xs H1 => xs.length ≤ sizeLine ∧ ∀ p, H1 p = none → Q (.ref p) (upd H1 p (.tup xs))
def tLst (t : TA) : TE := fun σ H Q => t σ H fun xs H1 => xs.length ≤ sizeLine ∧ ∀ p, H1 p = none → Q (.ref p) (upd H1 p (.lst xs))
theorem pe_tup {x1} (h : PA X es t) : PE X (.Tuple es x1 pos) (tTup t) := by
  intro pins s σ H Q I hq
  refine wpAny_Tuple_spliced (thn (h pos pins s σ H _ I hq) fun us s1 ⟨xs, H1, I1, r, z, q⟩ => ⟨by rw [← r.length]; exact z, ?_⟩)
  have hf : H1 s1.heap.objs.size = none := I1.hok.fresh (Nat.le_refl _)
  refine ⟨.ref s1.heap.objs.size, upd H1 s1.heap.objs.size (.tup xs), I1.laid (t' := s1.toks) (fun b u e => Heap.get?_push_of_some _ e) (Nat.le_refl _) ?_, rfl, q _ hf⟩
  exact ⟨z, us, r, ⟨_, Heap.get?_push_size _ rfl, rfl, _, rfl⟩⟩
theorem pe_lst (h : PA X es t) : PE X (.List es pos) (tLst t) := by
  intro pins s σ H Q I hq
  refine wpAny_List_spliced (thn (h pos pins s σ H _ I hq) fun us s1 ⟨xs, H1, I1, r, z, q⟩ => ⟨by rw [← r.length]; exact z, ?_⟩)
  have hf : H1 s1.heap.objs.size = none := I1.hok.fresh (Nat.le_refl _)
  refine ⟨.ref s1.heap.objs.size, upd H1 s1.heap.objs.size (.lst xs), I1.laid (t' := s1.toks) (fun b u e => Heap.get?_push_of_some _ e) (Nat.le_refl _) ?_, rfl, q _ hf⟩
  exact ⟨z, us, 0, r, Heap.get?_push_size _ rfl⟩
end

/-! ### what a def promises -/
/-- a def's promise: the bound arguments in the parameters' order, the heap, the wanted end, the wanted exception -/
abbrev Sp := List V → Hp → VK → XK → Prop
/-- how an exception lies behind a call (file 08 gives it): the callers' frames, abstract heap and state ahead of the call, the wish, the exception, the state -/
abbrev CXT := List Env → Hp → Shared → XK → Value → Shared → Prop

/-- the state at a call -/
structure Env0 (P : Program) (w : World) (K : PySem.W.Frag) (mg : Str → Option Value) (base : Heap) (A : Around) (outer : List Env) (s : Shared) (H : Hp) : Prop where
  frames : A.frames = some outer
  mod : Mod K mg base
  bs : ∀ b o, base.get? b = some o → s.heap.get? b = some o ∧ H b = none
  bsz : base.objs.size ≤ s.heap.objs.size
  funs : s.heap.FunFrames base outer
  frf : ∀ b ∈ frs outer, H b = none
  hok : HOk P w H s.heap
  bare : AllBare s.gens
/-- a call's end -/
def CE (outer : List Env) (P : Program) (w : World) (H : Hp) (s : Shared) (Q : VK) (u : Value) (s' : Shared) : Prop :=
  ∃ v H', s'.os = s.os ∧ AllBare s'.gens ∧ Un (frs outer) [] H H' s.heap s'.heap ∧ HOk P w H' s'.heap ∧ RelV v u ∧ Q v H'
def CR (CX : CXT) (outer : List Env) (P : Program) (w : World) (H : Hp) (s : Shared) (Q : VK) (E : XK) (r : Result) (s' : Shared) : Prop :=
  match r with
  | .ok (.ret u) => CE outer P w H s Q u s'
  | .ok _ => False
  | .error e => CX outer H s E e s'
structure FnOk (P : Program) (w : World) (K : PySem.W.Frag) (mg : Str → Option Value) (base : Heap) (CX : CXT) (k : Nat) (f : Addr) (fd : FuncData) (ps : List Str) (sp : Sp) : Prop where
  len : ∀ vs H Q E, sp vs H Q E → vs.length = ps.length
  run : ∀ (A : Around) (outer : List Env) (s : Shared) (H : Hp) (args : Args) (us : List Value) (vs : List V) (Q : VK) (E : XK), Room k A → Env0 P w K mg base A outer s H → BindsTo s fd args (ps.zip us) → Vals vs us → sp vs H Q E →
    codeAny (model P w) A (.call (.ref f) args) (CR CX outer P w H s Q E) s
section
variable {X : Cx} {pins : List (Addr × Obj)} {σ : St} {H : Hp} {s s' : Shared}
/-- from a body: what a callee wants -/
theorem Inv.env0 (I : Inv X pins σ H s) : Env0 X.prog X.w X.K X.mg X.base X.A X.stack s H :=
  ⟨I.ok.frames, I.ok.mod, I.bs, Nat.le_trans I.ok.bsz I.sz, I.stack, I.stkFree, I.hok, I.bare⟩
/-- behind a call -/
theorem Inv.after {Q : VK} {u : Value} (I : Inv X pins σ H s) (h : CE X.stack X.prog X.w H s Q u s') : EP X pins σ Q u s' := by
  obtain ⟨v, H', os, bare, un, hok, r, q⟩ := h
  obtain ⟨hh, g, d, t, os'⟩ := s'
  obtain rfl : os' = s.os := os
  exact ⟨v, H', I.call (h' := hh) (g' := g) (d' := d) (t' := t) (ch := []) un hok bare (fun b z => absurd z (by simp)), r, q⟩
end

/-! ### calls -/
/-- f(..): the written arguments, then the defaults dvs; E: what is wanted of an exception -/
def tCall (sp : Sp) (dvs : List V) (E : XK) (t : TA) : TE := fun σ H Q => t σ H fun vs H1 => sp (vs ++ dvs) H1 Q E
/-- how the parameters are bound: us the positional arguments, kw the keywords' values by name, ds the defaults that fill up -/
def Binds (K : PySem.W.Frag) (fd : FuncData) (ps : List Str) (ds : List Value) : Prop :=
  ∀ (s : Shared) (us : List Value), K.In s.heap → (us ++ ds).length = ps.length → BindsTo s fd ⟨us, []⟩ (ps.zip (us ++ ds))
/-- every parameter is given -/
theorem Binds.all {K : PySem.W.Frag} {fd : FuncData} {ps : List Str} (h : ∀ us : List Value, us.length = ps.length → bindArgs fd ⟨us, []⟩ = pure (ps.zip us)) : Binds K fd ps [] := fun s us _ hl => by
  rw [List.append_nil] at hl ⊢
  exact .of_eq (h us hl)

/-- an exception of a callee reaches what this body wants of exceptions -/
def Passes (CX : CXT) (X : Cx) (E : XK) : Prop := ∀ (pins : List (Addr × Obj)) (σ : St) (H : Hp) (s : Shared) (e : Value) (s' : Shared), Inv X pins σ H s → CX X.stack H s E e s' → X.xe e s'

section
variable {X : Cx} {CX : CXT} {k : Nat} {f C : Addr} {fd : FuncData} {ps : List Str} {sp : Sp} {dvs : List V} {ds : List Value} {E : XK} {x m : Str} {p pos apos : Pos} {e o : Expr} {es : List Expr} {ta : TE} {t : TA}

/-- the callee runs -/
theorem run_fn {pins : List (Addr × Obj)} {σ : St} {H : Hp} {s : Shared} {Q : VK} {us : List Value} {vs : List V} (F : FnOk X.prog X.w X.K X.mg X.base CX k f fd ps sp) (hr : Room k X.A) (hb : Binds X.K fd ps ds) (hd : Vals dvs ds) (hx : Passes CX X E)
    (I : Inv X pins σ H s) (r : Vals vs us) (h : sp (vs ++ dvs) H Q E) : wpAny (model X.prog X.w) X.A (call (.ref f) us) (EP X pins σ Q) X.xe s := by
  have r2 : Vals (vs ++ dvs) (us ++ ds) := r.append hd
  have hl : (us ++ ds).length = ps.length := by rw [← r2.length]; exact F.len _ _ _ _ h
  refine wpAny_call (codeAny_mono (F.run X.A X.stack s H ⟨us, []⟩ (us ++ ds) (vs ++ dvs) Q E hr I.env0 (hb s us I.kIn hl) r2 h) fun r s' hq => ?_)
  cases r with
  | error e => exact hx pins σ H s e s' I hq
  | ok fl =>
    cases fl with
    | ret u => exact I.after hq
    | next => exact False.elim hq
    | brk => exact False.elim hq
    | cont => exact False.elim hq

theorem pe_call (F : FnOk X.prog X.w X.K X.mg X.base CX k f fd ps sp) (hr : Room k X.A) (hg : Gl X x) (hm : X.mg x = some (.ref f)) (hk : PySem.W.keepIn X.K (.ref f) = true) (hb : Binds X.K fd ps ds) (hd : Vals dvs ds) (hx : Passes CX X E)
    (ha : PA X (e :: es) t) (hdb : (x == ("__debug__" : Str)) = false := by decide) (he : starEach (e :: es) X.env = (false, eval e X.env) :: starEach es X.env := by rfl) (hpl : (backTo pos (starEach es X.env)).any (·.1) = false := by rfl) :
    PE X (.Call (.Name x p) (e :: es) [] pos) (tCall sp dvs E t) := by
  intro pins s σ H Q I h
  refine wpAny_Call_Name_kw (ld_glob I hg hm ?_ hdb)
  refine PySem.W.callWith_K (h₀ := X.base) I.ok.mod.kin hk (thn (ha pos pins s σ H _ I h) fun us s1 ⟨vs, H1, I1, r, q⟩ => ⟨I1.kIn, ?_⟩) he hpl
  exact run_fn F hr hb hd hx I1 r q
/-- what a class must have to be made -/
structure Mk (K : PySem.W.Frag) (C f : Addr) : Prop where
  makes : PySem.W.makesIn K C = true
  init : PySem.W.findIn K (.ref C) "__init__" = some (some (.ref f))
  fn : PySem.W.isFn K (.ref f) = true
  kp : PySem.W.keepIn K (.ref C) = true

end

/-! ### keywords -/
section
variable {X : Cx} {CX : CXT} {k : Nat} {f C : Addr} {fd : FuncData} {ps ks : List Str} {sp : Sp} {E : XK} {x m : Str} {p pos apos kpos : Pos} {e o : Expr} {es : List Expr} {kws : List Keyword} {te ta : TE} {t tk : TA} {nm : Option Str}
/-- how a call with keywords binds: g puts the positional values us and the keywords' values ws (names ks) in the parameters' order, defaults among them -/
structure KBinds (K : PySem.W.Frag) (fd : FuncData) (ps ks : List Str) (g : List Value → List Value → List Value) (gV : List V → List V → List V) : Prop where
  to : ∀ (s : Shared) (us ws : List Value), K.In s.heap → (g us ws).length = ps.length → BindsTo s fd ⟨us, ks.zip ws⟩ (ps.zip (g us ws))
  rel : ∀ {vs : List V} {us : List Value} {zs : List V} {ws : List Value}, Vals vs us → Vals zs ws → Vals (gV vs zs) (g us ws)
variable {g : List Value → List Value → List Value} {gV : List V → List V → List V}
end

/-! ### a def's body keeps its promise -/
/-- names: the parameters first -/
structure FnScope (N P : List Str) (sc : Scope) : Prop where
  kind : sc.kind = .function
  co : sc.isCoroutine = false
  gen : sc.isGenerator = false
  nd : N.Nodup
  pre : N.take P.length = P
  par : ∀ x ∈ P, sc.names.lookup x = some .local ∨ sc.names.lookup x = some .cell
  nofree : ∀ y ∈ sc.names, y.2 ≠ .free

theorem bindL_out {kindOf : Str → Option NameKind} {x : Str} : ∀ {binds : List (Str × Value)} {m : Str → Option Value}, (∀ v, (x, v) ∉ binds) → bindL kindOf binds m x = m x
  | [], _, _ => rfl
  | (n, v) :: r, m, h => by
    unfold bindL
    rw [bindL_out fun w hw => h w (List.mem_cons_of_mem _ hw)]
    split
    · have : x ≠ n := by rintro rfl; exact h v List.mem_cons_self
      simp [this]
    · rfl
theorem bindC_out {kindOf : Str → Option NameKind} {x : Str} : ∀ {binds : List (Str × Value)} {m : Str → Option Value}, (∀ v, (x, v) ∉ binds) → bindC kindOf binds m x = m x
  | [], _, _ => rfl
  | (n, v) :: r, m, h => by
    unfold bindC
    rw [bindC_out fun w hw => h w (List.mem_cons_of_mem _ hw)]
    split
    · rfl
    · have : x ≠ n := by rintro rfl; exact h v List.mem_cons_self
      simp [this]
theorem bindL_get {kindOf : Str → Option NameKind} {x : Str} {v : Value} : ∀ {P : List Str} {vs : List Value} {i : Nat} {m : Str → Option Value}, P.Nodup → P[i]? = some x → vs[i]? = some v → kindOf x = some .local →
    bindL kindOf (P.zip vs) m x = some v
  | [], _, _, _, _, h, _, _ => by simp at h
  | _ :: _, [], _, _, _, _, h, _ => by simp at h
  | p :: P, w :: vs, 0, m, nd, h1, h2, hk => by
    simp at h1 h2; subst h1; subst h2
    show bindL kindOf ((p, w) :: P.zip vs) m p = _
    unfold bindL
    rw [bindL_out fun v hv => (List.nodup_cons.mp nd).1 (List.of_mem_zip hv).1, if_pos hk]
    simp
  | p :: P, w :: vs, i + 1, m, nd, h1, h2, hk => by
    show bindL kindOf ((p, w) :: P.zip vs) m x = _
    unfold bindL
    exact bindL_get (i := i) (List.nodup_cons.mp nd).2 (by simpa using h1) (by simpa using h2) hk
theorem bindC_get {kindOf : Str → Option NameKind} {x : Str} {v : Value} : ∀ {P : List Str} {vs : List Value} {i : Nat} {m : Str → Option Value}, P.Nodup → P[i]? = some x → vs[i]? = some v → kindOf x ≠ some .local →
    bindC kindOf (P.zip vs) m x = some v
  | [], _, _, _, _, h, _, _ => by simp at h
  | _ :: _, [], _, _, _, _, h, _ => by simp at h
  | p :: P, w :: vs, 0, m, nd, h1, h2, hk => by
    simp at h1 h2; subst h1; subst h2
    show bindC kindOf ((p, w) :: P.zip vs) m p = _
    unfold bindC
    rw [bindC_out fun v hv => (List.nodup_cons.mp nd).1 (List.of_mem_zip hv).1, if_neg hk]
    simp
  | p :: P, w :: vs, i + 1, m, nd, h1, h2, hk => by
    show bindC kindOf ((p, w) :: P.zip vs) m x = _
    unfold bindC
    exact bindC_get (i := i) (List.nodup_cons.mp nd).2 (by simpa using h1) (by simpa using h2) hk

/-- the names' values at the entry -/
def start (N : List Str) (vs : List V) : St := vs.map some ++ List.replicate (N.length - vs.length) none

/-- the context of a def's body, at its entry; an exception leaves the frame, then lies as CX says -/
def cxOf (CX : CXT) (P : Program) (w : World) (K : PySem.W.Frag) (mg : Str → Option Value) (base : Heap) (N : List Str) (qual : Str) (scope : Scope) (f : Addr) (cd : Value) (A : Around) (outer : List Env) (s : Shared) (H : Hp) (E : XK) : Cx where
  prog := P
  w := w
  K := K
  mg := mg
  base := base
  A := A.deeper (envOfC qual scope s.heap.objs.size f cd)
  N := N
  s₀ := s
  H₀ := H
  env := envOfC qual scope s.heap.objs.size f cd
  outer := outer
  stack := envOfC qual scope s.heap.objs.size f cd :: outer
  ex := []
  calm := true
  fn := fun _ => true
  pn := []
  xe := fun e s' => wpAny (model P w) (A.deeper (envOfC qual scope s.heap.objs.size f cd)) (leaving (envOfC qual scope s.heap.objs.size f cd) e) (fun _ s'' => CX outer H s E e s'') (fun e' s'' => CX outer H s E e' s'') s'

theorem cell_has {sc : Scope} {n : Nat} {x : Str} (h : sc.names.lookup x = some .cell) : ∃ c, (cellsFrom n sc.names []).lookup x = some c := by
  have q := PySem.W.cellsFrom_some sc.names n [] (.inl h)
  exact Option.isSome_iff_exists.mp q

theorem inv_start {CX : CXT} {P : Program} {w : World} {K : PySem.W.Frag} {mg : Str → Option Value} {base : Heap} {N ps : List Str} {qual : Str} {scope : Scope} {f : Addr} {cd : Value} {A : Around} {outer : List Env} {s s1 : Shared} {H : Hp} {E : XK} {us : List Value} {vs : List V}
    (S : FnScope N ps scope) (hd : A.handled = none) (e0 : Env0 P w K mg base A outer s H) (hl : vs.length = ps.length) (r : Vals vs us)
    (x : InCallC s s.heap.objs.size (bindL (envOfC qual scope s.heap.objs.size f cd).kindOf (ps.zip us) fun _ => none) (cellsFrom (s.heap.objs.size + 1) scope.names []) (bindC (envOfC qual scope s.heap.objs.size f cd).kindOf (ps.zip us) fun _ => none) s1) :
    Inv (cxOf CX P w K mg base N qual scope f cd A outer s H E) [] (start N vs) H s1 := by
  have hpl : ps.length ≤ N.length := by have := congrArg List.length S.pre; rw [List.length_take] at this; omega
  obtain ⟨h1, tk, rfl, hk⟩ := x.done
  have noA : ∀ b : Addr, b ∉ (cxOf CX P w K mg base N qual scope f cd A outer s H E).ex := fun b z => absurd (show b ∈ ([] : List Addr) from z) (by simp)
  refine ⟨⟨e0.mod, S.kind, rfl, rfl, Nat.le_refl _, fun y z c h1 h2 => ?_, fun y hy => ?_, fun y c _ h => ?_, fun _ => hd, Around.frames_deeper e0.frames, .inr ⟨rfl, rfl⟩, fun b z => absurd z (noA b), e0.bs, e0.bsz, fun b _ _ => noA b, fun b z => absurd z (noA b), e0.funs, e0.frf⟩,
    rfl, e0.bare, Un.kept hk, ⟨_, x.toInCall.ns, fun i y v h1 h2 h3 => ?_⟩, fun y c h => ⟨_, x.cell y c h⟩, e0.hok.fresh (Nat.le_refl _), fun y c h => ?_, fun p hp => absurd (show p ∈ ([] : List (Addr × Obj)) from hp) (by simp), e0.hok.kept hk, ?_⟩
  · exact name_of_addr x.apart (PySem.mem_of_lookup h1) (PySem.mem_of_lookup h2)
  · have hy : scope.names.lookup y = some .cell ∨ scope.names.lookup y = some .free := hy
    rcases hy with hy | hy
    · exact cell_has hy
    · exact absurd rfl (S.nofree _ (PySem.mem_of_lookup hy))
  · exact Nat.le_of_lt (x.above y c (PySem.mem_of_lookup h))
  · have hi : i < vs.length := by
      unfold start at h2
      by_cases hi : i < vs.length
      · exact hi
      · rw [List.getElem?_append_right (by simpa using hi)] at h2
        rw [List.getElem?_replicate] at h2
        split at h2 <;> cases h2
    have ha : vs[i]? = some v := by
      unfold start at h2
      rw [List.getElem?_append_left (by simpa using hi), List.getElem?_map] at h2
      cases e : vs[i]? with
      | none => rw [e] at h2; cases h2
      | some a => rw [e] at h2; cases h2; rfl
    obtain ⟨u, hu, rv⟩ := r.get ha
    have hp : ps[i]? = some y := by
      rw [← S.pre, List.getElem?_take_of_lt (by omega)]; exact h1
    have ndP : ps.Nodup := by rw [← S.pre]; exact S.nd.sublist (List.take_sublist _ _)
    refine ⟨u, rv, ?_⟩
    rcases S.par y (List.mem_of_getElem? hp) with k | k
    · exact .inl ⟨k, bindL_get ndP hp hu k⟩
    · obtain ⟨c, e⟩ := cell_has (n := s.heap.objs.size + 1) k
      refine .inr ⟨.inl k, c, e, ?_⟩
      have q := x.cell y c e
      rw [bindC_get ndP hp hu (by show scope.names.lookup y ≠ _; rw [k]; decide)] at q
      exact q
  · exact e0.hok.fresh (Nat.le_of_lt (x.above y c (PySem.mem_of_lookup h)))
  · unfold start
    show _ = N.length
    rw [List.length_append, List.length_map, List.length_replicate]
    omega

/-- THE RULE: a def (or a method) of the text, by its body. The body's reading t is chosen for each entry; it is run at the parameters' values -/
theorem fn_of {CX : CXT} {P : Program} {w : World} {K : PySem.W.Frag} {mg : Str → Option Value} {base : Heap} {k : Nat} {f : Addr} {name qual : Str} {params : Arguments} {body : List Stmt} {scope : Scope} {dV kV doc pm cdv ct oc : Value} {an od : Option Addr}
    {osl : Array (Option Value)} {N ps : List Str} {sp : Sp} (lk : K.lookup f = some ⟨oc, od, .func (PySem.W.fnOf name qual params body scope dV kV doc pm an cdv ct), osl⟩) (hcd : PySem.W.codeIn K cdv qual = true) (S : FnScope N ps scope)
    (len : ∀ vs H Q E, sp vs H Q E → vs.length = ps.length)
    (hbody : ∀ (A : Around) (outer : List Env) (s : Shared) (H : Hp) (vs : List V) (Q : VK) (E : XK), Room k (A.deeper (envOfC qual scope s.heap.objs.size f cdv)) → sp vs H Q E →
      ∃ t, PSs (cxOf CX P w K mg base N qual scope f cdv A outer s H E) body t ∧ t { nx := fun _ H' => Q .non H', rt := Q } (start N vs) H) :
    FnOk P w K mg base CX (k + 1) f (PySem.W.fnOf name qual params body scope dV kV doc pm an cdv ct) ps sp := by
  refine ⟨len, fun A outer s H args us vs Q E hr e0 hb r hsp => ?_⟩
  have hl := len _ _ _ _ hsp
  have KX : K.In s.heap := e0.mod.kin.keeps fun b o e => (e0.bs b o e).1
  have lim : s.heap.NoLimit := e0.mod.nolimit.keeps fun b o e => (e0.bs b o e).1
  have hkind : ∀ y ∈ ps.zip us, scope.names.lookup y.1 = some .local ∨ (scope.names.lookup y.1 = some .cell ∧ ((cellsFrom (s.heap.objs.size + 1) scope.names []).lookup y.1).isSome = true) := fun ⟨n, v⟩ hy => by
    rcases S.par n (List.of_mem_zip hy).1 with q | q
    · exact .inl q
    · exact .inr ⟨q, PySem.W.cellsFrom_some _ _ _ (.inl q)⟩
  refine codeAny_call_function hr.depth (KX _ _ lk) rfl S.co S.gen rfl (PySem.W.codeRec_of KX hcd) (hb _ _ _ _ ?_)
  refine wpAny_newFunctionEnv_cells S.kind hkind fun env he s1 x => ?_
  subst he
  refine ⟨lim.keeps x.toInCall.keep, codeAny_func ?_⟩
  obtain ⟨t, ht, hq⟩ := hbody A outer s H vs Q E (hr.deeper _) hsp
  have I : Inv (cxOf CX P w K mg base N qual scope f cdv A outer s H E) [] (start N vs) H s1 := inv_start S hr.hd e0 hl r x
  refine wpAny_mono (ht [] s1 (start N vs) H _ I hq) (fun fl s' hs => ?_) fun e s' hs => hs
  have fin : ∀ {σ' : St} {H' : Hp} {v : V} {u : Value}, Inv (cxOf CX P w K mg base N qual scope f cdv A outer s H E) [] σ' H' s' → RelV v u → Q v H' → CE outer P w H s Q u s' :=
    fun {σ' H' v u} J rv q => ⟨v, H', J.os, J.bare, J.base, J.hok, rv, q⟩
  cases fl with
  | ret u =>
    obtain ⟨v, σ', H', J, rv, q⟩ := hs
    exact fin J rv q
  | next =>
    obtain ⟨σ', H', J, q⟩ := hs
    exact fin (v := V.non) (u := Value.none) J rfl q
  | brk =>
    obtain ⟨_, _, _, q⟩ := hs
    exact False.elim q
  | cont =>
    obtain ⟨_, _, _, q⟩ := hs
    exact False.elim q
end L2

namespace L2
open PySem PySem.Spec PyProof.Rows
section
variable {X : Cx} {x : Str} {p pos : Pos} {e : Expr} {es : List Expr} {t : TA} {id T : String} {r : List V → Hp → VK → Prop}

def tCB (r : List V → Hp → VK → Prop) (t : TA) : TE := fun σ H Q => t σ H fun vs H1 => r vs H1 Q
/-- f(e, ..), f a built-in function -/
theorem pe_callB (hc : CallR X (.builtin id) r) (hg : Gl X x) (hm : X.mg x = none) (hv : bootBuiltins x = some (.builtin id)) (ha : PA X (e :: es) t) (hn : x ≠ "__name__" := by decide) (hdb : (x == ("__debug__" : Str)) = false := by decide)
    (he : starEach (e :: es) X.env = (false, eval e X.env) :: starEach es X.env := by rfl) (hpl : (backTo pos (starEach es X.env)).any (·.1) = false := by rfl) : PE X (.Call (.Name x p) (e :: es) [] pos) (tCB r t) := by
  intro pins s σ H Q I h
  refine wpAny_Call_Name_kw (ld_blt I hg hm hv ?_ hn hdb)
  exact PyProof.Rows.callWith_builtin1 (thn (ha pos pins s σ H _ I h) fun us s1 ⟨vs, H1, I1, r1, q1⟩ => hc pins s1 σ H1 vs us Q I1 r1 q1) he hpl
/-- T(e, ..), T a built-in type -/
theorem pe_callTy (hc : CallR X (.type T) r) (hg : Gl X x) (hm : X.mg x = none) (hv : bootBuiltins x = some (.type T)) (ha : PA X (e :: es) t) (hn : x ≠ "__name__" := by decide) (hdb : (x == ("__debug__" : Str)) = false := by decide)
    (he : starEach (e :: es) X.env = (false, eval e X.env) :: starEach es X.env := by rfl) (hpl : (backTo pos (starEach es X.env)).any (·.1) = false := by rfl) : PE X (.Call (.Name x p) (e :: es) [] pos) (tCB r t) := by
  intro pins s σ H Q I h
  refine wpAny_Call_Name_kw (ld_blt I hg hm hv ?_ hn hdb)
  exact PyProof.Rows.callWith_type1 (thn (ha pos pins s σ H _ I h) fun us s1 ⟨vs, H1, I1, r1, q1⟩ => hc pins s1 σ H1 vs us Q I1 r1 q1) he hpl
end
end L2

namespace HT
open PySem PyProof.Rows

section
open PySem.SeqAt
open PySem.AutoSeq1 (wpAny_loadPart')
open PySem.MeetsSeq PySem.MeetsSeq2 PySem.MeetsSeq3

end

section
variable {prog : Program} {w : World} {A : Around} {E : Value → Shared → Prop} {s : Shared}

/-! ### t[a:b], not the whole -/
/-- a slice's bound as a place among n (d where it is left out) -/
def sIx (n d : Nat) : Option Int → Nat
  | none => d
  | some v => if v < 0 then (v + (n : Int)).toNat else min v.toNat n
theorem sIx_none (n d : Nat) : sIx n d none = d := rfl
theorem sIx_nat (n d k : Nat) : sIx n d (some (k : Int)) = min k n := by
  show (if (k : Int) < 0 then ((k : Int) + (n : Int)).toNat else min (k : Int).toNat n) = min k n
  rw [if_neg (by omega), Int.toNat_natCast]
end
end HT

namespace L2
open PySem PySem.Spec PyProof.Rows

/-! ### the parts of a slice -/
abbrev TO := St → Hp → (Option Int → Hp → Prop) → Prop
/-- a slice's part (left out, or an int) -/
def PO (X : Cx) (e : Option Expr) (t : TO) : Prop :=
  ∀ (pins : List (Addr × Obj)) (s : Shared) (σ : St) (H : Hp) (Q : Option Int → Hp → Prop), Inv X pins σ H s → t σ H Q →
    wpAny (model X.prog X.w) X.A (evalPart e X.env) (fun u s' => ∃ o H', Inv X pins σ H' s' ∧ IsPart u o ∧ Q o H') X.xe s
def tNoPart : TO := fun _ H Q => Q none H
def tPart (t : TE) : TO := fun σ H Q => t σ H fun x H1 => ∃ i, x = .int i ∧ Q (some i) H1

theorem intsAre_of {ns : List Int} : ∀ {us : List Value}, Vals (ns.map V.int) us → IntsAre us ns := by
  induction ns with
  | nil => intro us r; rw [List.map_nil] at r; cases r; exact .nil
  | cons n ns ih =>
    intro us r
    rw [List.map_cons] at r
    cases r with
    | cons r1 r2 =>
      obtain ⟨t, e⟩ := r1
      subst e
      exact .cons n t (ih r2)

section
variable {X : Cx} {e : Expr} {te : TE} {lo hi : Option Expr} {tl th : TO} {pos p2 : Pos}

theorem po_none : PO X none tNoPart := by
  intro pins s σ H Q I h
  rw [evalPart_none]
  exact wpAny_pure ⟨none, H, I, .none, h⟩
theorem po_some (h : PE X e te) : PO X (some e) (tPart te) := by
  intro pins s σ H Q I hw
  rw [evalPart_some]
  refine thn (h pins s σ H _ I hw) fun u s1 ⟨x, H1, I1, r1, q1⟩ => ?_
  obtain ⟨i, rfl, q⟩ := q1
  obtain ⟨t, rfl⟩ := r1
  exact ⟨some i, H1, I1, .int i t, q⟩

/-- what a slice of a value is, by values: the slice object stands at sl -/
def SlR (X : Cx) (r : V → Option Int → Option Int → Hp → VK → Prop) : Prop :=
  ∀ (pins : List (Addr × Obj)) (s : Shared) (σ : St) (H : Hp) (x : V) (v vl vu : Value) (lo hi : Option Int) (sl : Addr) (Q : VK), Inv X pins σ H s → RelV x v → s.heap.IsSliceOf sl vl vu .none → IsPart vl lo → IsPart vu hi → r x lo hi H Q →
    ∃ T id, typeLookup (.type T) "__getitem__" = pure (some (.builtin id)) ∧ s.TypeIs v T ∧ wpAny (model X.prog X.w) X.A (getItem v (.ref sl)) (EP X pins σ Q) X.xe s
def tSl (r : V → Option Int → Option Int → Hp → VK → Prop) (te : TE) (tl th : TO) : TE := fun σ H Q => te σ H fun x H1 => tl σ H1 fun l H2 => th σ H2 fun u H3 => r x l u H3 Q
/-- a[lo:hi], any a -/
theorem pe_slice {r : V → Option Int → Option Int → Hp → VK → Prop} (hr : SlR X r) (he : PE X e te) (hl : PO X lo tl) (hu : PO X hi th) : PE X (.Subscript e (.Slice lo hi none p2) pos) (tSl r te tl th) := by
  intro pins s σ H Q I h
  refine Subscript_ (thn (he pins s σ H _ I h) fun v s1 ⟨x, H1, I1, r1, q1⟩ => ?_)
  refine wpAny_Slice (thn (hl pins s1 σ H1 _ I1 q1) fun vl s2 ⟨l, H2, I2, pl, q2⟩ => thn (hu pins s2 σ H2 _ I2 q2) fun vu s3 ⟨u, H3, I3, pu, q3⟩ => ?_)
  rw [evalPart_none]
  refine wpAny_pure ?_
  have I4 : Inv X pins σ H3 { s3 with heap := s3.heap.push { cls := .type "slice", data := .fields #[vl, vu, .none] } } := I3.kept (t' := s3.toks) fun b ob q => Heap.get?_push_of_some _ q
  obtain ⟨T, id, hT, ht, hg⟩ := hr pins { s3 with heap := s3.heap.push { cls := .type "slice", data := .fields #[vl, vu, .none] } } σ H3 x v vl vu l u s3.heap.objs.size Q I4 r1 (Heap.IsSliceOf.new ..) pl pu q3
  show wpAny (model X.prog X.w) X.A (subscriptTail e (.Slice lo hi none p2) v (.ref s3.heap.objs.size)) (EP X pins σ Q) X.xe { s3 with heap := s3.heap.push { cls := .type "slice", data := .fields #[vl, vu, .none] } }
  exact tail_any (ops := [.ref s3.heap.objs.size, v]) ht hT hg (by with_unfolding_all rfl)

/-- the items of xs[lo:hi] -/
def cutV (xs : List V) (lo hi : Option Int) : List V := (xs.drop (HT.sIx xs.length 0 lo)).take (HT.sIx xs.length xs.length hi - HT.sIx xs.length 0 lo)
theorem cutV_length (xs : List V) (lo hi : Option Int) : (cutV xs lo hi).length ≤ xs.length := by
  unfold cutV
  rw [List.length_take, List.length_drop]
  omega
/-! ### t < u, t + u -/
end
end L2

namespace L2
open PySem PySem.Spec PyProof.Rows

/-! ### places -/
/-- the place that an index of any sign means -/
def ixN (n : Nat) (i : Int) : Option Nat := if 0 ≤ i then (if i < n then some i.toNat else none) else if -(n : Int) ≤ i then some (i + n).toNat else none
def atI {α : Type} (xs : List α) (i : Int) : Option α := (ixN xs.length i).bind fun j => xs[j]?
theorem ixN_seq {n : Nat} {i : Int} {j : Nat} (h : ixN n i = some j) : seqIndex? i n = some j ∧ j < n ∧ -(n : Int) ≤ i ∧ i < n := by
  unfold ixN at h
  by_cases h0 : 0 ≤ i
  · rw [if_pos h0] at h
    by_cases h1 : i < n
    · rw [if_pos h1] at h
      have e : i.toNat = j := Option.some.inj h
      exact ⟨by rw [seqIndex_of h0 h1, e], by omega, by omega, h1⟩
    · rw [if_neg h1] at h; cases h
  · rw [if_neg h0] at h
    by_cases h1 : -(n : Int) ≤ i
    · rw [if_pos h1] at h
      have e : (i + n).toNat = j := Option.some.inj h
      exact ⟨by rw [seqIndex_neg (by omega) h1, e], by omega, h1, by omega⟩
    · rw [if_neg h1] at h; cases h
theorem atI_get {α : Type} {xs : List α} {i : Int} {v : α} (h : atI xs i = some v) : ∃ j, seqIndex? i xs.length = some j ∧ xs[j]? = some v ∧ j < xs.length ∧ -(xs.length : Int) ≤ i ∧ i < xs.length := by
  unfold atI at h
  cases e : ixN xs.length i with
  | none => rw [e] at h; cases h
  | some j =>
    rw [e] at h
    obtain ⟨h1, h2, h3, h4⟩ := ixN_seq e
    exact ⟨j, h1, h, h2, h3, h4⟩
theorem atI_nat {α : Type} {xs : List α} {j : Nat} {v : α} (h : xs[j]? = some v) : atI xs (j : Int) = some v := by
  have hj : j < xs.length := (List.getElem?_eq_some_iff.mp h).1
  have e : ixN xs.length (j : Int) = some j := by
    unfold ixN
    rw [if_pos (by omega), if_pos (by omega)]; simp
  unfold atI; rw [e]; exact h
/-! ### what may be subscripted -/
/-- what stands as an index of a plain subscript -/
def PlainIx (b : Expr) : Prop := ∀ o i, subscripted b false o i = operate [o, i] (getItem o i)
/-- a subscript by values -/
def IxR (X : Cx) (r : R2) : Prop :=
  ∀ (value slice : Expr) (pins : List (Addr × Obj)) (s : Shared) (σ : St) (H : Hp) (x y : V) (v u : Value) (Q : VK), Inv X pins σ H s → RelV x v → RelV y u → r x y H Q →
    subscripted slice false v u = operate [v, u] (getItem v u) → wpAny (model X.prog X.w) X.A (subscriptTail value slice v u) (EP X pins σ Q) X.xe s
/-- a call of a builtin's method by values: the receiver, the arguments -/
def MtR (X : Cx) (id : String) (r : V → List V → Hp → VK → Prop) : Prop :=
  ∀ (pins : List (Addr × Obj)) (s : Shared) (σ : St) (H : Hp) (x : V) (xs : List V) (v : Value) (us : List Value) (Q : VK), Inv X pins σ H s → RelV x v → Vals xs us → r x xs H Q →
    wpAny (model X.prog X.w) X.A (call (.builtin id) (v :: us)) (EP X pins σ Q) X.xe s
section
variable {X : Cx} {a b : Expr} {ta tb : TE} {pos : Pos}
theorem IxR.or {r r' : R2} (h : IxR X r) (h' : IxR X r') : IxR X (fun x y H Q => r x y H Q ∨ r' x y H Q) := by
  intro value slice pins s σ H x y v u Q I rx ry q hs
  rcases q with q | q
  · exact h value slice pins s σ H x y v u Q I rx ry q hs
  · exact h' value slice pins s σ H x y v u Q I rx ry q hs
/-- a[b] -/
theorem pe_ix {r : R2} (hr : IxR X r) (ha : PE X a ta) (hb : PE X b tb) (hs : PlainIx b) : PE X (.Subscript a b pos) (tOp r ta tb) := by
  intro pins s σ H Q I h
  exact Subscript_ (binT ha hb I h fun v u s2 x y H2 I2 rx ry q => hr a b pins s2 σ H2 x y v u Q I2 rx ry q (hs _ _))

def rIxL (K : PySem.W.Frag) : R2 := fun x y H Q => ∃ p xs i v, x = .ref p ∧ y = .int i ∧ SqL K H p xs ∧ atI xs i = some v ∧ Q v H
def rIxT (K : PySem.W.Frag) : R2 := fun x y H Q => ∃ p xs i v, x = .ref p ∧ y = .int i ∧ SqT K H p xs ∧ atI xs i = some v ∧ Q v H
def rIxS : R2 := fun x y H Q => ∃ z i c, x = .str z ∧ y = .int i ∧ z.length ≤ sizeLine ∧ atI z.cps.toList i = some c ∧ Q (.str ⟨#[c]⟩) H
theorem ix_list : IxR X (rIxL X.K) := by
  intro value slice pins s σ H x y v u Q I rx ry h hs
  obtain ⟨p, xs, i, z, rfl, rfl, hq, he, q⟩ := h
  cases rx
  obtain ⟨t, rfl⟩ := ry
  obtain ⟨its, r, pl, hz⟩ := I.list hq
  obtain ⟨j, h1, h2, h3, h4, h5⟩ := atI_get he
  obtain ⟨w, ew, rw'⟩ := r.get h2
  have hl := r.length
  have hn := line63
  have fin : EP X pins σ Q w s := ⟨z, H, I, rw', q⟩
  by_cases h0 : 0 ≤ i
  · have hj : i.toNat = j := by
      rw [seqIndex_of h0 h5] at h1
      exact Option.some.inj h1
    exact item_listR pl.isList h0 (by omega) (by rw [hj]; simpa using ew) fin hs
  · have hj : (i + (its.toArray.size : Int)).toNat = j := by
      rw [seqIndex_neg (by omega) h4] at h1
      rw [List.size_toArray, ← hl]
      exact Option.some.inj h1
    exact subscriptTail_builtinR (x := w) pl.isList.typeIs slot_list_getitem.lookup
      (wpAny_getItem_list_neg (Q := fun r s' => r = w ∧ EP X pins σ Q r s') pl.isList (by omega) (by rw [List.size_toArray] <;> omega) (by omega) (by rw [hj]; simpa using ew) ⟨rfl, fin⟩) hs
theorem ix_tup : IxR X (rIxT X.K) := by
  intro value slice pins s σ H x y v u Q I rx ry h hs
  obtain ⟨p, xs, i, z, rfl, rfl, hq, he, q⟩ := h
  cases rx
  obtain ⟨t, rfl⟩ := ry
  obtain ⟨its, r, pl, hz⟩ := I.tuple hq
  obtain ⟨j, h1, h2, h3, h4, h5⟩ := atI_get he
  obtain ⟨w, ew, rw'⟩ := r.get h2
  have hl := r.length
  have hn := line63
  have fin : EP X pins σ Q w s := ⟨z, H, I, rw', q⟩
  exact subscriptTail_builtinR (x := w) pl.typeIs slot_tuple_getitem.lookup
    (getItem_tuple (j := j) (Q := fun r s' => r = w ∧ EP X pins σ Q r s') pl (by omega) (by omega) (by rw [List.size_toArray, ← hl]; exact h1) (by simpa using ew) ⟨rfl, fin⟩) hs
theorem ix_str : IxR X rIxS := by
  intro value slice pins s σ H x y v u Q I rx ry h hs
  obtain ⟨z, i, c, rfl, rfl, hz, he, q⟩ := h
  obtain ⟨t, rfl⟩ := rx
  obtain ⟨t', rfl⟩ := ry
  obtain ⟨j, h1, h2, h3, h4, h5⟩ := atI_get he
  have hl : z.cps.toList.length = z.length := by simp [Str.length]
  rw [hl] at h1 h4 h5
  have hn := line63
  exact tail_any (typeIs_str s z t) slot_str_getitem.lookup (getItem_str (c := c) (by
    have e1 : decide (i < -(2 ^ 63 : Int)) = false := decide_eq_false (by omega)
    have e2 : decide (i ≥ 2 ^ 63) = false := decide_eq_false (by omega)
    rw [e1, e2, Bool.or_false]) (by rw [h1]; simpa using h2) ⟨.str ⟨#[c]⟩, H, I.tok _, ⟨_, rfl⟩, q⟩) hs
/-- list, tuple or str -/
def rIx (K : PySem.W.Frag) : R2 := fun x y H Q => rIxL K x y H Q ∨ rIxT K x y H Q ∨ rIxS x y H Q
theorem ix_seq : IxR X (rIx X.K) := ix_list.or (ix_tup.or ix_str)

/-! ### xs[i] = v, any sign -/
/-! ### slices -/
theorem slice_bounds (lo hi : Option Int) (n : Nat) : (sliceBounds lo hi none n).1 = ((HT.sIx n 0 lo : Nat) : Int) ∧ (sliceBounds lo hi none n).2.1 = ((HT.sIx n n hi : Nat) : Int) ∧ (sliceBounds lo hi none n).2.2 = 1 := by
  refine ⟨?_, ?_, rfl⟩
  · cases lo with
    | none => simp [sliceBounds, HT.sIx]
    | some i =>
      simp only [sliceBounds, HT.sIx, Option.getD_none, show (1 : Int) > 0 by decide, if_true]
      by_cases h : i < 0
      · simp only [h, if_true] <;> omega
      · simp only [h, if_false] <;> omega
  · cases hi with
    | none => simp [sliceBounds, HT.sIx]
    | some i =>
      simp only [sliceBounds, HT.sIx, Option.getD_none, show (1 : Int) > 0 by decide, if_true]
      by_cases h : i < 0
      · simp only [h, if_true] <;> omega
      · simp only [h, if_false] <;> omega
theorem slicePick_cut (its : List Value) (lo hi : Option Int) : slicePick its.toArray lo hi none = ((its.drop (HT.sIx its.length 0 lo)).take (HT.sIx its.length its.length hi - HT.sIx its.length 0 lo)).toArray := by
  obtain ⟨h1, h2, h3⟩ := slice_bounds lo hi its.toArray.size
  unfold slicePick
  rw [h1, h2, h3]
  simp only [sliceRange_one, pick_run, List.size_toArray] <;> rfl
/-- xs[lo:hi] of a list: a new list -/
def rSlL (K : PySem.W.Frag) : V → Option Int → Option Int → Hp → VK → Prop := fun x lo hi H Q => ∃ a xs, x = .ref a ∧ SqL K H a xs ∧ ∀ p, H p = none → Q (.ref p) (upd H p (.lst (cutV xs lo hi)))
theorem sl_list : SlR X (rSlL X.K) := by
  intro pins s σ H x v vl vu lo hi sl Q I rx hs pl pu h
  obtain ⟨a, xs, rfl, hx, q⟩ := h
  cases rx
  obtain ⟨its, r, ht, hz⟩ := I.list hx
  have hlen := r.length
  refine ⟨"list", _, slot_list_getitem.lookup, ht.isList.typeIs, ?_⟩
  refine wpAny_getItem_list_slice ht.isList hs pl pu .none (by simp) ?_ (by rw [List.size_toArray] <;> omega)
  rw [slicePick_cut, ← hlen]
  refine ⟨.ref s.heap.objs.size, _, I.laid (t' := s.toks) (o := .lst (cutV xs lo hi)) (fun b ob q => Heap.get?_push_of_some _ q) (Nat.le_refl _) ?_, rfl, q _ (I.hok.fresh (Nat.le_refl _))⟩
  exact ⟨Nat.le_trans (cutV_length xs lo hi) hz, _, 0, (r.drop (HT.sIx xs.length 0 lo)).take (HT.sIx xs.length xs.length hi - HT.sIx xs.length 0 lo), Heap.get?_push_size _ rfl⟩

/-! ### in, not in: flat items -/
def flatV : V → Bool
  | .non => true
  | .bl _ => true
  | .int _ => true
  | .str _ => true
  | _ => false
/-- == of flat values -/
def eqV : V → V → Bool
  | .non, .non => true
  | .bl a, .bl b => a == b
  | .bl a, .int b => (if a then 1 else 0) == b
  | .int a, .bl b => a == (if b then 1 else 0)
  | .int a, .int b => a == b
  | .str a, .str b => a == b
  | _, _ => false
theorem eqAt_V {A : Around} {s : Shared} {y x : V} {u v : Value} (ry : RelV y u) (rx : RelV x v) (fy : flatV y = true) (fx : flatV x = true) : SeqAt.EqAt A s u v (eqV y x) := by
  cases y with
  | non =>
    cases ry
    cases x with
    | non => cases rx; exact SeqAt.EqAt.same _
    | bl b => cases rx; exact SeqAt.EqAt.none_bool b
    | int b => obtain ⟨t, rfl⟩ := rx; exact SeqAt.EqAt.none_int b t
    | str b => obtain ⟨t, rfl⟩ := rx; exact SeqAt.EqAt.none_str b t
    | _ => exact absurd (show false = true from fx) Bool.false_ne_true
  | bl a =>
    cases ry
    cases x with
    | non => cases rx; exact SeqAt.EqAt.bool_none a
    | bl b => cases rx; exact SeqAt.EqAt.bool_bool a b
    | int b => obtain ⟨t, rfl⟩ := rx; exact SeqAt.EqAt.bool_int a b t
    | str b => obtain ⟨t, rfl⟩ := rx; exact SeqAt.EqAt.bool_str a b t
    | _ => exact absurd (show false = true from fx) Bool.false_ne_true
  | int a =>
    obtain ⟨t', rfl⟩ := ry
    cases x with
    | non => cases rx; exact SeqAt.EqAt.int_none a t'
    | bl b => cases rx; exact SeqAt.EqAt.int_bool a t' b
    | int b => obtain ⟨t, rfl⟩ := rx; exact SeqAt.EqAt.int_int a t' b t
    | str b => obtain ⟨t, rfl⟩ := rx; exact SeqAt.EqAt.int_str a t' b t
    | _ => exact absurd (show false = true from fx) Bool.false_ne_true
  | str a =>
    obtain ⟨t', rfl⟩ := ry
    cases x with
    | non => cases rx; exact SeqAt.EqAt.str_none a t'
    | bl b => cases rx; exact SeqAt.EqAt.str_bool a t' b
    | int b => obtain ⟨t, rfl⟩ := rx; exact SeqAt.EqAt.str_int a t' b t
    | str b => obtain ⟨t, rfl⟩ := rx; exact SeqAt.EqAt.str_str a t' b t
    | _ => exact absurd (show false = true from fx) Bool.false_ne_true
  | _ => exact absurd (show false = true from fy) Bool.false_ne_true
/-- the items' answers, read off the values (a value's own answer does not lean on its token) -/
def eqU (x : V) (u : Value) : Bool := match u with
  | .none => eqV .non x
  | .bool b => eqV (.bl b) x
  | .int i _ => eqV (.int i) x
  | .str z _ => eqV (.str z) x
  | _ => false
theorem eqU_of {x y : V} {u : Value} (r : RelV y u) (f : flatV y = true) : eqU x u = eqV y x := by
  cases y with
  | non => cases r; rfl
  | bl b => cases r; rfl
  | int i => obtain ⟨t, rfl⟩ := r; rfl
  | str z => obtain ⟨t, rfl⟩ := r; rfl
  | _ => exact absurd (show false = true from f) Bool.false_ne_true
theorem any_eqU {x : V} : ∀ {xs : List V} {us : List Value}, Vals xs us → xs.all flatV = true → us.any (eqU x) = xs.any fun y => eqV y x
  | _, _, .nil, _ => rfl
  | y :: xs, u :: us, .cons r t, f => by
    rw [List.all_cons, Bool.and_eq_true] at f
    rw [List.any_cons, List.any_cons, eqU_of r f.1, any_eqU t f.2]
theorem mem_eqAt {A : Around} {s : Shared} {x : V} {v : Value} (rx : RelV x v) (fx : flatV x = true) : ∀ {xs : List V} {us : List Value}, Vals xs us → xs.all flatV = true → ∀ u ∈ us, SeqAt.EqAt A s u v (eqU x u)
  | _, _, .nil, _ => fun u hu => by cases hu
  | y :: xs, u :: us, .cons r t, f => fun u' hu => by
    rw [List.all_cons, Bool.and_eq_true] at f
    rcases List.mem_cons.mp hu with rfl | hu
    · rw [eqU_of r f.1]; exact eqAt_V r rx f.1 fx
    · exact mem_eqAt rx fx t f.2 u' hu
def inV (x : V) (xs : List V) : Bool := xs.any fun y => eqV y x
/-- x in a list or tuple of flat items -/
def rIn (K : PySem.W.Frag) (neg : Bool) : R2 := fun x y H Q => ∃ p xs, y = .ref p ∧ (SqL K H p xs ∨ SqT K H p xs) ∧ flatV x = true ∧ xs.all flatV = true ∧ Q (.bl (if neg then !inV x xs else inV x xs)) H
theorem op_in_seq : OpR X (compareOp .In) (rIn X.K false) := by
  intro pins s σ H x y v u Q I rx ry h
  obtain ⟨p, xs, rfl, hq, fx, fs, q⟩ := h
  cases ry
  rcases hq with hq | hq
  · obtain ⟨its, r, pl, hz⟩ := I.list hq
    refine SeqAt.in_listAt (eqU x) pl.isList (fun w hw => mem_eqAt rx fx r fs w (by simpa using hw)) ⟨.bl _, H, I, rfl, ?_⟩
    rw [show its.toArray.any (eqU x) = its.any (eqU x) by simp, any_eqU r fs]
    exact q
  · obtain ⟨its, r, pl, hz⟩ := I.tuple hq
    refine SeqAt.in_tupleAt (eqU x) pl (fun w hw => mem_eqAt rx fx r fs w (by simpa using hw)) ⟨.bl _, H, I, rfl, ?_⟩
    rw [show its.toArray.any (eqU x) = its.any (eqU x) by simp, any_eqU r fs]
    exact q
theorem op_notIn_seq : OpR X (compareOp .NotIn) (rIn X.K true) := by
  intro pins s σ H x y v u Q I rx ry h
  obtain ⟨p, xs, rfl, hq, fx, fs, q⟩ := h
  cases ry
  rcases hq with hq | hq
  · obtain ⟨its, r, pl, hz⟩ := I.list hq
    refine SeqAt.notIn_listAt (eqU x) pl.isList (fun w hw => mem_eqAt rx fx r fs w (by simpa using hw)) ⟨.bl _, H, I, rfl, ?_⟩
    rw [show its.toArray.any (eqU x) = its.any (eqU x) by simp, any_eqU r fs]
    exact q
  · obtain ⟨its, r, pl, hz⟩ := I.tuple hq
    refine SeqAt.notIn_tupleAt (eqU x) pl (fun w hw => mem_eqAt rx fx r fs w (by simpa using hw)) ⟨.bl _, H, I, rfl, ?_⟩
    rw [show its.toArray.any (eqU x) = its.any (eqU x) by simp, any_eqU r fs]
    exact q
/-! ### len, list(x), tuple(x) of any list or tuple that is read -/
theorem call_len_seq : CallR X (.builtin "len") (fun xs H Q => ∃ p ys, xs = [.ref p] ∧ (SqL X.K H p ys ∨ SqT X.K H p ys) ∧ Q (.int ys.length) H) := by
  intro pins s σ H xs us Q I r h
  obtain ⟨p, ys, rfl, hq, q⟩ := h
  obtain ⟨u, rfl, rx⟩ := vals1 r
  cases rx
  have hn := line63
  rcases hq with hq | hq
  · obtain ⟨its, r', pl, hz⟩ := I.list hq
    have hlen := r'.length
    exact Calls.call_len_list pl.isList (by simp only [List.size_toArray] <;> omega) ⟨.int ys.length, H, I.tok _, ⟨s.toks + 1, by rw [List.size_toArray, hlen]⟩, q⟩
  · obtain ⟨its, r', pl, hz⟩ := I.tuple hq
    have hlen := r'.length
    exact len_tuple pl (by simp only [List.size_toArray] <;> omega) ⟨.int ys.length, H, I.tok _, ⟨s.toks + 1, by rw [List.size_toArray, hlen]⟩, q⟩
theorem call_list_of : CallR X (.type "list") (fun xs H Q => ∃ p ys, xs = [.ref p] ∧ (SqL X.K H p ys ∨ SqT X.K H p ys) ∧ ∀ l, H l = none → Q (.ref l) (upd H l (.lst ys))) := by
  intro pins s σ H xs us Q I r h
  obtain ⟨p, ys, rfl, hq, q⟩ := h
  obtain ⟨u, rfl, rx⟩ := vals1 r
  cases rx
  have fin : ∀ (its : List Value), Vals ys its → ys.length ≤ sizeLine → ∀ (h' : Heap) (c' : Nat), (∀ b o', s.heap.get? b = some o' → h'.get? b = some o') →
      h'.get? s.heap.objs.size = some { cls := .type "list", dict := none, data := .seq its.toArray c', slots := #[] } → EP X pins σ Q (.ref s.heap.objs.size) { s with heap := h' } := fun its r' hz h' c' kp e =>
    ⟨.ref s.heap.objs.size, _, I.laid (t' := s.toks) kp (Nat.le_refl _) (show ObjOk X.prog X.w _ h' _ (.lst ys) from ⟨hz, its, c', r', e⟩), rfl, q _ (I.hok.fresh (Nat.le_refl _))⟩
  rcases hq with hq | hq
  · obtain ⟨its, r', pl, hz⟩ := I.list hq
    have hlen := r'.length
    obtain ⟨o, ho, hc, n, hd⟩ := pl.isList
    exact call_list_seq p (.inl rfl) ho hc hd (fun h' c' kp e => fin its r' hz h' c' kp e) (by simp only [List.size_toArray] <;> omega)
  · obtain ⟨its, r', pl, hz⟩ := I.tuple hq
    have hlen := r'.length
    obtain ⟨o, ho, hc, n, hd⟩ := pl
    exact call_list_seq p (.inr rfl) ho hc hd (fun h' c' kp e => fin its r' hz h' c' kp e) (by simp only [List.size_toArray] <;> omega)
/-! ### the call of a builtin's method: o.m(..) -/
/-- the value is of that builtin type -/
def tyV (K : PySem.W.Frag) (T : String) (x : V) (H : Hp) : Prop := match x with
  | .str _ => T = "str"
  | .int _ => T = "int"
  | .ref p => (T = "list" ∧ ∃ xs, SqL K H p xs) ∨ (T = "tuple" ∧ ∃ o, K.lookup p = some o ∧ o.cls = .type "tuple" ∧ o.dict = none) ∨
      (T = "dict" ∧ ((∃ kvs, H p = some (.dK kvs)) ∨ ∃ kvs, H p = some (.dT kvs))) ∨ (T = "set" ∧ ∃ S n, H p = some (.set S n))
  | _ => False
theorem tyV_is {pins : List (Addr × Obj)} {σ : St} {H : Hp} {s : Shared} {T : String} {x : V} {v : Value} (I : Inv X pins σ H s) (r : RelV x v) (ty : tyV X.K T x H) :
    s.TypeIs v T ∧ ∀ a, v = .ref a → ∃ ob, s.heap.get? a = some ob ∧ ob.dict = none := by
  cases x with
  | str z =>
    obtain ⟨t, rfl⟩ := r
    cases (show T = "str" from ty)
    exact ⟨typeIs_str s z t, fun _ e => nomatch e⟩
  | int i =>
    obtain ⟨t, rfl⟩ := r
    cases (show T = "int" from ty)
    exact ⟨typeIs_int s i t, fun _ e => nomatch e⟩
  | ref p =>
    cases r
    rcases ty with ⟨rfl, xs, hq⟩ | ⟨rfl, o, hk, hc, hd⟩ | ⟨rfl, hk⟩ | ⟨rfl, S, n, hk⟩
    · obtain ⟨its, _, pl, _⟩ := I.list hq
      refine ⟨pl.isList.typeIs, fun a e => ?_⟩
      cases e
      obtain ⟨o, n, e, c, hd, _⟩ := pl
      exact ⟨o, e, hd⟩
    · refine ⟨⟨o, I.kIn p o hk, hc⟩, fun a e => ?_⟩
      cases e
      exact ⟨o, I.kIn _ o hk, hd⟩
    · have z : ∃ o, s.heap.get? p = some o ∧ o.ExactDict := by
        rcases hk with ⟨kvs, hk⟩ | ⟨kvs, hk⟩
        · obtain ⟨_, _, _, _, o, _, _, e, ex, _⟩ := I.hok p _ hk
          exact ⟨o, e, ex⟩
        · obtain ⟨_, _, _, _, o, _, _, e, ex, _⟩ := I.hok p _ hk
          exact ⟨o, e, ex⟩
      obtain ⟨o, e, ex⟩ := z
      refine ⟨⟨o, e, ex.1⟩, fun a e2 => ?_⟩
      cases e2
      exact ⟨o, e, ex.2.1⟩
    · obtain ⟨o, _, _, _, e, ex, _⟩ := I.hok p _ hk
      refine ⟨⟨o, e, ex.1⟩, fun a e2 => ?_⟩
      cases e2
      exact ⟨o, e, ex.2.1⟩
  | _ => exact False.elim ty
def tBM0 (K : PySem.W.Frag) (T : String) (r : V → List V → Hp → VK → Prop) (to : TE) : TE := fun σ H Q => to σ H fun x H1 => tyV K T x H1 ∧ r x [] H1 Q
def tBM (K : PySem.W.Frag) (T : String) (r : V → List V → Hp → VK → Prop) (to : TE) (t : TA) : TE := fun σ H Q => to σ H fun x H1 => tyV K T x H1 ∧ t σ H1 fun xs H2 => r x xs H2 Q
variable {o e : Expr} {es : List Expr} {to : TE} {t : TA} {name : Str} {apos cpos : Pos} {T id : String} {r : V → List V → Hp → VK → Prop}
theorem pe_bm0 (pa : PlainAttrs T) (slot : Slot T name id) (hty : typeOf (.builtin id) = pure (.type "method_descriptor")) (hm : MtR X id r) (ho : PE X o to)
    (hbase : attributeBase o name X.env (eval o X.env) = eval o X.env := by rfl) (hline : (apos.endLine == cpos.line) = true := by rfl) : PE X (.Call (.Attribute o name apos) [] [] cpos) (tBM0 X.K T r to) := by
  intro pins s σ H Q I h
  refine wpAny_Call_method0_late hbase hline (thn (ho pins s σ H _ I h) fun v s1 ⟨x, H1, I1, r1, ty, q1⟩ => ?_)
  obtain ⟨h1, h2⟩ := tyV_is I1 r1 ty
  exact ⟨T, id, pa, slot, hty, h1, h2, Calls.callWith_builtin rfl (PySem.evalArgs_none (hm pins s1 σ H1 x [] v [] Q I1 r1 .nil q1))⟩
theorem pe_bm (pa : PlainAttrs T) (slot : Slot T name id) (hty : typeOf (.builtin id) = pure (.type "method_descriptor")) (hm : MtR X id r) (ho : PE X o to) (ha : PA X (e :: es) t)
    (hbase : attributeBase o name X.env (eval o X.env) = eval o X.env := by rfl)
    (hfew : ((backTo cpos (starEach (e :: es) X.env)).all (fun x => !x.1) && (backToKw cpos (keywordEach [] X.env)).all (fun x => x.1.isSome)
      && decide ((e :: es).length + ([] : List Keyword).length + (if ([] : List Keyword).isEmpty then 0 else 1) < 30)) = true := by rfl)
    (hline : (apos.endLine == cpos.line) = true := by rfl) (hs : starEach (e :: es) X.env = (false, eval e X.env) :: starEach es X.env := by rfl) (hplain : (backTo cpos (starEach es X.env)).any (·.1) = false := by rfl) :
    PE X (.Call (.Attribute o name apos) (e :: es) [] cpos) (tBM X.K T r to t) := by
  intro pins s σ H Q I h
  refine wpAny_Call_method_late hbase hfew hline rfl (thn (ho pins s σ H _ I h) fun v s1 ⟨x, H1, I1, r1, ty, q1⟩ => ?_)
  obtain ⟨h1, h2⟩ := tyV_is I1 r1 ty
  refine ⟨T, id, pa, slot, hty, h1, h2, ?_⟩
  have hA := ha cpos pins s1 σ H1 _ I1 q1
  rw [hs] at hA ⊢
  refine Calls.callWith_builtin (by show (false || (backTo cpos (starEach es X.env)).any (·.1)) = false; rw [hplain] <;> rfl) (Calls.evalArgs_plain ?_)
  exact thn hA fun us s2 ⟨vs, H2, I2, r2, q2⟩ => hm pins s2 σ H2 x vs v us Q I2 r1 r2 q2
/- xs.append(e), list.index on a module's tuple .. are MtR facts of 06m -/
end
end L2

namespace L2
open PySem PySem.Spec PyProof.Rows

def MtM (X : Cx) (id : String) (r : V → List V → Hp → VK → Prop) : Prop :=
  ∀ (pins : List (Addr × Obj)) (s : Shared) (σ : St) (H : Hp) (x : V) (xs : List V) (v : Value) (us : List Value) (Q : VK), Inv X pins σ H s → RelV x v → Vals xs us → r x xs H Q →
    wpAny (model X.prog X.w) X.A (call (.builtin id) (v :: us)) (EP X pins σ Q) X.xe s

/-! ### lists of values -/
theorem Vals.one : ∀ {x : V} {us : List Value}, Vals [x] us → ∃ u, us = [u] ∧ RelV x u
  | _, _, .cons r .nil => ⟨_, rfl, r⟩
theorem Vals.two : ∀ {x y : V} {us : List Value}, Vals [x, y] us → ∃ u v, us = [u, v] ∧ RelV x u ∧ RelV y v
  | _, _, _, .cons r (.cons q .nil) => ⟨_, _, rfl, r, q⟩
theorem Vals.zero : ∀ {us : List Value}, Vals [] us → us = []
  | _, .nil => rfl
theorem Vals.dropLast {xs : List V} {us : List Value} (h : Vals xs us) : Vals xs.dropLast us.dropLast := by
  induction h with
  | nil => exact .nil
  | cons r t ih =>
    cases t with
    | nil => exact .nil
    | cons q t' => exact .cons r ih
theorem Vals.rep {xs : List V} {us : List Value} (h : Vals xs us) : ∀ k : Nat, Vals (List.replicate k xs).flatten (List.replicate k us).flatten
  | 0 => .nil
  | k + 1 => by
    rw [List.replicate_succ, List.replicate_succ, List.flatten_cons, List.flatten_cons]
    exact Vals.append h (Vals.rep h k)
theorem erase_last {α : Type} (l : List α) : l.eraseIdx (l.length - 1) = l.dropLast := by
  induction l with
  | nil => rfl
  | cons a r ih =>
    cases r with
    | nil => rfl
    | cons b r =>
      have e : (a :: b :: r).length - 1 = ((b :: r).length - 1) + 1 := by
        have h1 : (a :: b :: r).length = r.length + 2 := rfl
        have h2 : (b :: r).length = r.length + 1 := rfl
        omega
      rw [e, List.eraseIdx_cons_succ, ih]
      all_goals rfl
theorem foldl_rep (its : List Value) : ∀ (k : Nat) (acc : List Value),
    List.foldl (fun x1 x2 => x1 ++ x2) acc.toArray (List.replicate k its.toArray) = (acc ++ (List.replicate k its).flatten).toArray
  | 0, acc => by simp
  | k + 1, acc => by
    have e : acc.toArray ++ its.toArray = (acc ++ its).toArray := by simp
    have e2 : (acc ++ its) ++ (List.replicate k its).flatten = acc ++ (List.replicate (k + 1) its).flatten := by
      rw [List.replicate_succ, List.flatten_cons, List.append_assoc]
    rw [← e2, ← foldl_rep its k (acc ++ its), ← e, List.replicate_succ, List.foldl_cons]

section
variable {X : Cx} {pins : List (Addr × Obj)} {σ : St} {H : Hp} {s : Shared} {l b : Addr} {xs ys zs : List V}

/-! ### the two steps: a tracked list is rewritten, a new list is laid -/
theorem Inv.lset {its its' : List Value} {n : Nat} {f : Array Value → Array Value} {t' : Nat} (I : Inv X pins σ H s) (hH : H l = some (.lst xs))
    (e : s.heap.get? l = some { cls := .type "list", data := .seq its.toArray n }) (hf : f its.toArray = its'.toArray) (hv : Vals ys its') (hz : ys.length ≤ sizeLine) :
    Inv X pins σ (upd H l (.lst ys)) { s with heap := s.heap.update l (Obj.mapSeq f), toks := t' } := by
  have q := PySem.IsL.update e f
  rw [hf] at q
  refine I.write (x := l) (e := l) (by rw [hH]; exact trivial) (.inl rfl) (fun b' u hb hu => (Heap.get?_update_other s.heap (Obj.mapSeq f) (Ne.symm hb)).trans hu) ⟨_, q⟩ ?_
  exact ⟨hz, its', _, hv, q⟩
theorem Inv.lnew {its : List Value} {t' : Nat} (I : Inv X pins σ H s) (hv : Vals ys its) (hz : ys.length ≤ sizeLine) :
    Inv X pins σ (upd H s.heap.objs.size (.lst ys)) { s with heap := s.heap.push { cls := .type "list", data := .seq its.toArray }, toks := t' } :=
  I.laid (fun _ _ q => Heap.get?_push_of_some _ q) (Nat.le_refl _) ⟨hz, its, 0, hv, Heap.get?_push_size _ rfl⟩
theorem Inv.fresh (I : Inv X pins σ H s) : H s.heap.objs.size = none := I.hok.fresh (Nat.le_refl _)
theorem Inv.lstM (I : Inv X pins σ H s) (hH : H l = some (.lst xs)) : xs.length ≤ sizeLine ∧ ∃ (its : List Value) (n : Nat), Vals xs its ∧ xs.length = its.length ∧ s.heap.get? l = some { cls := .type "list", data := .seq its.toArray n } := by
  obtain ⟨z, its, n, r, e⟩ := I.hok l _ hH
  exact ⟨z, its, n, r, r.length, e⟩

theorem notLongL {n : Nat} (h : n ≤ sizeLine) : Builtin.List.listTooLong n = false := by
  unfold Builtin.List.listTooLong
  exact decide_eq_false (by omega)
end

section
variable {X : Cx}

/-! ### methods -/
def rAppend : V → List V → Hp → VK → Prop := fun x vs H Q => ∃ l xs y, x = .ref l ∧ vs = [y] ∧ H l = some (.lst xs) ∧ xs.length < sizeLine ∧ Q .non (upd H l (.lst (xs ++ [y])))
theorem mt_append : MtM X "list.append" rAppend := by
  intro pins s σ H x vs v us Q I rx rv h
  obtain ⟨l, xs, y, rfl, rfl, hH, hz, q⟩ := h
  cases rx
  obtain ⟨u, rfl, ru⟩ := rv.one
  obtain ⟨z, its, n, r, hl, e⟩ := I.lstM hH
  refine call_meets F.slot_list_append ⟨_, e, rfl⟩ F.entry_list_append (F.args_list_append_2 _ _) (PySem.list_append l its.toArray n u (by rw [List.size_toArray]; omega)) ⟨e, ?_⟩
  refine ⟨.non, _, I.lset (its' := its ++ [u]) hH e (by simp) (r.append (.cons ru .nil)) ?_, rfl, q⟩
  rw [List.length_append, List.length_singleton]
  omega

def rExtend : V → List V → Hp → VK → Prop := fun x vs H Q => ∃ l b xs zs, x = .ref l ∧ vs = [.ref b] ∧ H l = some (.lst xs) ∧ H b = some (.lst zs) ∧ xs.length + zs.length ≤ sizeLine ∧ Q .non (upd H l (.lst (xs ++ zs)))
theorem mt_extend : MtM X "list.extend" rExtend := by
  intro pins s σ H x vs v us Q I rx rv h
  obtain ⟨l, b, xs, zs, rfl, rfl, hH, hB, hz, q⟩ := h
  cases rx
  obtain ⟨u, rfl, ru⟩ := rv.one
  cases ru
  obtain ⟨z, its, n, r, hl, e⟩ := I.lstM hH
  obtain ⟨z2, its2, n2, r2, hl2, e2⟩ := I.lstM hB
  have hsz : its.toArray.size + its2.toArray.size ≤ sizeLine := by rw [List.size_toArray, List.size_toArray]; omega
  have hlong : ¬ (!its.toArray.isEmpty && Builtin.List.listTooLong (its.toArray.size + its2.toArray.size)) = true := by
    rw [notLongL hsz, Bool.and_false]
    exact Bool.false_ne_true
  refine call_meets F.slot_list_extend ⟨_, e, rfl⟩ F.entry_list_extend (F.args_list_extend_2 _ _)
    (AutoSeq1.list_extend_list_list_0 l its.toArray n b its2.toArray n2 hlong (by rw [List.size_toArray]; omega) (by omega)) ⟨e, e2, ?_⟩
  refine ⟨.non, _, I.lset (its' := its ++ its2) hH e (by simp) (r.append r2) ?_, rfl, q⟩
  rw [List.length_append]
  omega

def rPop : V → List V → Hp → VK → Prop := fun x vs H Q => ∃ l xs y, x = .ref l ∧ vs = [] ∧ H l = some (.lst xs) ∧ xs[xs.length - 1]? = some y ∧ Q y (upd H l (.lst xs.dropLast))
theorem mt_pop : MtM X "list.pop" rPop := by
  intro pins s σ H x vs v us Q I rx rv h
  obtain ⟨l, xs, y, rfl, rfl, hH, hy, q⟩ := h
  cases rx
  have hus := rv.zero
  subst hus
  obtain ⟨z, its, n, r, hl, e⟩ := I.lstM hH
  obtain ⟨u, hu, ru⟩ := r.get hy
  have hy' : its.toArray[its.toArray.size - 1]? = some u := by
    show its.toArray[its.length - 1]? = some u
    rw [← Array.getElem?_toList, ← hl]
    exact hu
  refine call_meets F.slot_list_pop ⟨_, e, rfl⟩ F.entry_list_pop (F.args_list_pop_1 _) (MeetsSeq.list_pop_last l its.toArray n u hy' (by rw [List.size_toArray]; omega)) ⟨e, ?_⟩
  refine ⟨y, _, I.lset (its' := its.dropLast) hH e ?_ r.dropLast ?_, ru, q⟩
  · show its.toArray.eraseIdxIfInBounds (its.toArray.size - 1) = its.dropLast.toArray
    rw [List.size_toArray, List.eraseIdxIfInBounds_toArray, erase_last]
  · rw [List.length_dropLast]
    omega

/-! ### list + list, list += list, list * int -/
def rCat : R2 := fun x y H Q => ∃ l b xs zs, x = .ref l ∧ y = .ref b ∧ H l = some (.lst xs) ∧ H b = some (.lst zs) ∧ xs.length + zs.length ≤ sizeLine ∧ ∀ p, H p = none → Q (.ref p) (upd H p (.lst (xs ++ zs)))
theorem op_cat : OpR X (binaryOp .Add) rCat := by
  intro pins s σ H x y v u Q I rx ry h
  obtain ⟨l, b, xs, zs, rfl, rfl, hH, hB, hz, q⟩ := h
  cases rx
  cases ry
  obtain ⟨z, its, n, r, hl, e⟩ := I.lstM hH
  obtain ⟨z2, its2, n2, r2, hl2, e2⟩ := I.lstM hB
  refine PySem.P.add_list e e2 ?_ (by rw [List.size_toArray, List.size_toArray]; omega)
  have ea : its.toArray ++ its2.toArray = (its ++ its2).toArray := by simp
  rw [ea]
  exact ⟨.ref _, _, I.lnew (t' := s.toks) (r.append r2) (by rw [List.length_append]; omega), rfl, q _ I.fresh⟩
/-- a list times an int (a negative one is nothing) -/
def rRep : R2 := fun x y H Q => ∃ l k xs, x = .ref l ∧ y = .int k ∧ H l = some (.lst xs) ∧ -(2 ^ 63) ≤ k ∧ k < 2 ^ 63 ∧ xs.length * k.toNat ≤ sizeLine ∧
  ∀ p, H p = none → Q (.ref p) (upd H p (.lst (List.replicate k.toNat xs).flatten))
theorem len_rep {α : Type} (xs : List α) (k : Nat) : (List.replicate k xs).flatten.length = k * xs.length := by
  induction k with
  | zero => simp
  | succ k ih => rw [List.replicate_succ, List.flatten_cons, List.length_append, ih, Nat.succ_mul, Nat.add_comm]
theorem op_rep : OpR X (binaryOp .Mult) rRep := by
  intro pins s σ H x y v u Q I rx ry h
  obtain ⟨l, k, xs, rfl, rfl, hH, h1, h2, hz, q⟩ := h
  cases rx
  obtain ⟨t, rfl⟩ := ry
  obtain ⟨z, its, n, r, hl, e⟩ := I.lstM hH
  have hlen : its.toArray.size * k.toNat ≤ sizeLine := by rw [List.size_toArray, ← hl]; exact hz
  have hcap : ¬ its.toArray.size * k.toNat > (2 ^ 63 - 1) / 8 := by
    have : (sizeLine : Nat) ≤ (2 ^ 63 - 1) / 8 := by decide
    omega
  have hfit : ¬ (!Builtin.List.listFitsIndex k) = true := by
    rw [fitsIndex_both h1 h2]
    exact Bool.false_ne_true
  have hlong : ¬ Builtin.List.listTooLong (its.toArray.size * k.toNat) = true := by
    rw [notLongL hlen]
    exact Bool.false_ne_true
  have hnew : List.foldl (fun x1 x2 => x1 ++ x2) #[] (List.replicate (if its.toArray.isEmpty = true then 0 else k.toNat) its.toArray) = (List.replicate k.toNat its).flatten.toArray := by
    have f0 : ∀ m : Nat, List.foldl (fun x1 x2 => x1 ++ x2) #[] (List.replicate m its.toArray) = (List.replicate m its).flatten.toArray := fun m => by
      have := foldl_rep its m []
      rw [List.nil_append] at this
      exact this
    rw [f0]
    cases its with
    | nil => simp
    | cons a r' => rw [if_neg (by simp)]
  refine wpAny_binaryOp_repeat_ref (T := "list") (U := "int") (by decide) ⟨_, e, rfl⟩ (fun s' => typeIs_int s' k t) noFill_list_mul F.fills_int_mul F.slot_int_rmul repeat_list F.slot_int_index.lookup
    (call_meets F.slot_int_rmul (typeIs_int s k t) F.entry_int_rmul (F.args_int_rmul_2 _ _) (int___rmul___int_list k t l its.toArray n)
      ⟨e, rfl, ⟨_, e, rfl⟩, call_meets F.slot_list_mul ⟨_, e, rfl⟩ F.entry_list_mul (F.args_list_mul_2 _ _) (AutoListH.list___mul___list_int_3 l its.toArray n k t hfit hcap hlong) ⟨e, ?_⟩⟩)
  rw [hnew]
  exact ⟨.ref _, _, I.lnew (t' := s.toks) (r.rep k.toNat) (by rw [len_rep, Nat.mul_comm]; exact hz), rfl, q _ I.fresh⟩

/-! ### del xs[i] -/
end

/-! ### xs[a:b] = ys -/
section
variable {prog : Program} {w : World} {A : Around} {E : Value → Shared → Prop} {s : Shared}
end

section
variable {X : Cx}
end
end L2

namespace L2
open PySem PySem.Spec PyProof.Rows

/-! ### lists of pairs as tables -/
section
variable {κ : Type} [DecidableEq κ]
def valV (kvs : List (κ × V)) (k : κ) : Option V := (kvs.find? fun kv => decide (kv.1 = k)).map (·.2)
/-- in its place, or at the end -/
def putK (kvs : List (κ × V)) (k : κ) (v : V) : List (κ × V) :=
  if (kvs.any fun kv => decide (kv.1 = k)) = true then kvs.map (fun kv => if kv.1 = k then (kv.1, v) else kv) else kvs ++ [(k, v)]
theorem valV_pos {p : κ × V} {r : List (κ × V)} {k : κ} (e : p.1 = k) : valV (p :: r) k = some p.2 := by simp [valV, List.find?_cons, e]
theorem valV_neg {p : κ × V} {r : List (κ × V)} {k : κ} (e : ¬ p.1 = k) : valV (p :: r) k = valV r k := by simp [valV, List.find?_cons, e]
theorem valV_any (k : κ) : ∀ kvs : List (κ × V), (kvs.any fun kv => decide (kv.1 = k)) = (valV kvs k).isSome
  | [] => rfl
  | p :: r => by
    rw [List.any_cons]
    by_cases e : p.1 = k
    · simp only [valV_pos e, decide_eq_true e, Bool.true_or, Option.isSome_some]
    · rw [valV_neg e, decide_eq_false e, Bool.false_or]; exact valV_any k r
theorem length_putK (kvs : List (κ × V)) (k : κ) (v : V) : (putK kvs k v).length ≤ kvs.length + 1 := by
  unfold putK
  split
  · rw [List.length_map]; omega
  · rw [List.length_append, List.length_cons, List.length_nil]; omega
theorem putK_new {kvs : List (κ × V)} {k : κ} (v : V) (h : valV kvs k = none) : putK kvs k v = kvs ++ [(k, v)] := by
  unfold putK
  rw [valV_any, h]
  exact if_neg (by decide)

theorem RelO.isSome_eq {o : Option V} {u : Option Value} (r : RelO o u) : o.isSome = u.isSome := by
  cases o with
  | none => cases u with
    | none => rfl
    | some _ => exact (show False from r).elim
  | some _ => cases u with
    | none => exact (show False from r).elim
    | some _ => rfl
theorem RelO.getD {o : Option V} {u : Option Value} {d : V} {d' : Value} (r : RelO o u) (rd : RelV d d') : RelV (o.getD d) (u.getD d') := by
  cases o with
  | none => cases u with
    | none => exact rd
    | some _ => exact (show False from r).elim
  | some _ => cases u with
    | none => exact (show False from r).elim
    | some _ => exact r

/-- raw tables of the same keys -/
theorem KV.val {kvs : List (κ × V)} {vs : List (κ × Value)} (r : KV kvs vs) (k : κ) : RelO (valV kvs k) (valueAt vs k) := by
  unfold KV at r
  induction r with
  | nil => exact True.intro
  | @cons p q ps qs h t ih =>
    obtain ⟨h1, h2⟩ := h
    by_cases e : p.1 = k
    · have e' : q.1 = k := h1.symm.trans e
      have b : valueAt (q :: qs) k = some q.2 := by simp [valueAt, List.find?_cons, e']
      rw [valV_pos e, b]; exact h2
    · have e' : ¬ q.1 = k := fun z => e (h1.trans z)
      have b : valueAt (q :: qs) k = valueAt qs k := by simp [valueAt, List.find?_cons, e']
      rw [valV_neg e, b]; exact ih
theorem KV.any {kvs : List (κ × V)} {vs : List (κ × Value)} (r : KV kvs vs) (k : κ) : (kvs.any fun kv => decide (kv.1 = k)) = vs.any fun kv => decide (kv.1 = k) := by
  unfold KV at r
  induction r with
  | nil => rfl
  | cons h t ih => rw [List.any_cons, List.any_cons, ih, h.1]
theorem KV.repl {kvs : List (κ × V)} {vs : List (κ × Value)} (r : KV kvs vs) (k : κ) {y : V} {u : Value} (ry : RelV y u) :
    KV (kvs.map fun kv => if kv.1 = k then (kv.1, y) else kv) (vs.map fun kv => if kv.1 = k then (kv.1, u) else kv) := by
  unfold KV at r ⊢
  induction r with
  | nil => exact .nil
  | @cons p q ps qs h t ih =>
    rw [List.map_cons, List.map_cons]
    refine .cons ?_ ih
    obtain ⟨h1, h2⟩ := h
    by_cases e : p.1 = k
    · rw [if_pos e, if_pos (h1.symm.trans e)]; exact ⟨h1, ry⟩
    · rw [if_neg e, if_neg (fun z => e (h1.trans z))]; exact ⟨h1, h2⟩
theorem KV.put {kvs : List (κ × V)} {vs : List (κ × Value)} (r : KV kvs vs) (k : κ) {y : V} {u : Value} (ry : RelV y u) : KV (putK kvs k y) (stored vs k u) := by
  unfold putK stored
  rw [r.any k]
  by_cases e : (vs.any fun kv => decide (kv.1 = k)) = true
  · rw [if_pos e, if_pos e]; exact r.repl k ry
  · rw [if_neg e, if_neg e]; exact Paired.snoc r ⟨rfl, ry⟩
theorem KV.keys {kvs : List (κ × V)} {vs : List (κ × Value)} (r : KV kvs vs) : kvs.map (·.1) = vs.map (·.1) := by
  unfold KV at r
  induction r with
  | nil => rfl
  | cons h t ih => rw [List.map_cons, List.map_cons, ih, h.1]
theorem KV.length {kvs : List (κ × V)} {vs : List (κ × Value)} (r : KV kvs vs) : kvs.length = vs.length := Paired.length r
end


/-! ### a tracked dict, its keys ints and texts or tuples of these -/
theorem kV_is {P : Program} {w : World} {k : Key} {u : Value} (r : RelV (kV k) u) : (mixKind P w).is k u = true := by
  cases k with
  | inl i => obtain ⟨t, e⟩ := (show ∃ t, u = Value.int i t from r); subst e; exact mixKind_int P w i t
  | inr x => obtain ⟨t, e⟩ := (show ∃ t, u = Value.str x t from r); subst e; exact mixKind_str P w x t
theorem items_are {P : Program} {w : World} : ∀ {ks : List Key} {us : List Value}, Vals (ks.map kV) us → ItemsAre (mixKind P w) ks us
  | [], _, r => by rw [List.map_nil] at r; cases r; exact .nil
  | k :: ks, _, r => by
    rw [List.map_cons] at r
    cases r with
    | cons h t => exact .cons (kV_is h) (items_are t)

/-- raw entries of a dict with tuple keys -/
abbrev KT (H : Hp) : List (List Key × V) → List (List Key × Addr × Value) → Prop := Paired fun p q => p.1 = q.1 ∧ H q.2.1 = some (.tup (p.1.map kV)) ∧ RelV p.2 q.2.2
theorem KT.val {H : Hp} {kvs : List (List Key × V)} {xs : List (List Key × Addr × Value)} (r : KT H kvs xs) (k : List Key) : RelO (valV kvs k) ((atKey xs k).map (·.2)) := by
  induction r with
  | nil => exact True.intro
  | @cons p q ps qs h t ih =>
    obtain ⟨h1, _, h2⟩ := h
    by_cases e : p.1 = k
    · have e' : q.1 = k := h1.symm.trans e
      have b : atKey (q :: qs) k = some q.2 := by simp [atKey, List.find?_cons, e']
      rw [valV_pos e, b]; exact h2
    · have e' : ¬ q.1 = k := fun z => e (h1.trans z)
      have b : atKey (q :: qs) k = atKey qs k := by simp [atKey, List.find?_cons, e']
      rw [valV_neg e, b]; exact ih
theorem KT.repl {H : Hp} {kvs : List (List Key × V)} {xs : List (List Key × Addr × Value)} (r : KT H kvs xs) (k : List Key) {y : V} {u : Value} (ry : RelV y u) :
    KT H (kvs.map fun kv => if kv.1 = k then (kv.1, y) else kv) (xs.map (putAt k u)) := by
  induction r with
  | nil => exact .nil
  | @cons p q ps qs h t ih =>
    rw [List.map_cons, List.map_cons]
    refine .cons ?_ ih
    obtain ⟨h1, h2, h3⟩ := h
    unfold putAt
    by_cases e : p.1 = k
    · rw [if_pos e, if_pos (h1.symm.trans e)]; exact ⟨h1, h2, ry⟩
    · rw [if_neg e, if_neg (fun z => e (h1.trans z))]; exact ⟨h1, h2, h3⟩
theorem KT.put {H : Hp} {kvs : List (List Key × V)} {xs : List (List Key × Addr × Value)} (r : KT H kvs xs) (k : List Key) {b : Addr} {y : V} {u : Value} (hb : H b = some (.tup (k.map kV))) (ry : RelV y u) :
    KT H (putK kvs k y) (storedH xs k b u) := by
  have e : (kvs.any fun kv => decide (kv.1 = k)) = (atKey xs k).isSome := by
    rw [valV_any, (r.val k).isSome_eq, Option.isSome_map]
  unfold putK storedH
  rw [e]
  by_cases q : (atKey xs k).isSome = true
  · rw [if_pos q, if_pos q]; exact r.repl k ry
  · rw [if_neg q, if_neg q]; exact Paired.snoc r ⟨rfl, hb, ry⟩
theorem KT.keeps {H H' : Hp} {kvs : List (List Key × V)} {xs : List (List Key × Addr × Value)} (r : KT H kvs xs) (ht : ∀ b ys, H b = some (.tup ys) → H' b = some (.tup ys)) : KT H' kvs xs :=
  Paired.mapP r fun _ _ z => ⟨z.1, ht _ _ z.2.1, z.2.2⟩

section
variable {P : Program} {w : World} {H : Hp} {h : Heap} {a : Addr}
theorem rd_of {u : HO} (ok : HOk P w H h) (e : Rd H a u) : ObjOk P w H h a u := e.ok ok
theorem dk_rd {kvs : List (Key × V)} (ok : HOk P w H h) (e : Rd H a (.dK kvs)) : kvs.length ≤ sizeLine ∧ (a == sysModules) = false ∧ ∃ vs, KV kvs vs ∧ h.DictOf (mixKind P w) a vs :=
  show ObjOk P w H h a (.dK kvs) from rd_of ok e
theorem dk_of {kvs : List (Key × V)} (ok : HOk P w H h) (e : H a = some (.dK kvs)) : kvs.length ≤ sizeLine ∧ (a == sysModules) = false ∧ ∃ vs, KV kvs vs ∧ h.DictOf (mixKind P w) a vs := dk_rd ok (.inl e)
/-- a tracked tuple of ints and texts is a key -/
theorem key_of {ks : List Key} (ok : HOk P w H h) (e : H a = some (.tup (ks.map kV))) : (tupleKind (mixKind P w)).is h ks a := by
  obtain ⟨_, its, r, o, h1, h2, n, h3⟩ := (show ObjOk P w H h a (.tup (ks.map kV)) from ok a _ e)
  exact ⟨o, its.toArray, n, h1, h2, h3, by simpa using items_are r⟩
theorem dt_rd {kvs : List (List Key × V)} (ok : HOk P w H h) (e : Rd H a (.dT kvs)) : kvs.length ≤ sizeLine ∧ (a == sysModules) = false ∧
    ∃ xs, KT H kvs xs ∧ h.DictOfH (tupleKind (mixKind P w)) a xs := by
  obtain ⟨z, y, xs, r, o, es, ep, h1, h2, h3, h4, h5⟩ := (show ObjOk P w H h a (.dT kvs) from rd_of ok e)
  refine ⟨z, y, xs, r, o, es, ep, h1, h2, h3, h4, fun x hx => ?_, h5⟩
  have all : ∀ {l : List (List Key × V)} {m : List (List Key × Addr × Value)}, KT H l m → ∀ x ∈ m, (tupleKind (mixKind P w)).is h x.1 x.2.1 := by
    intro l m q
    induction q with
    | nil => intro x hx; exact nomatch hx
    | @cons p q ps qs hq t ih =>
      intro x hx
      rcases List.mem_cons.mp hx with e | hx
      · subst e
        exact key_of ok (by rw [← hq.1]; exact hq.2.1)
      · exact ih x hx
  exact all r x hx
theorem dt_of {kvs : List (List Key × V)} (ok : HOk P w H h) (e : H a = some (.dT kvs)) : kvs.length ≤ sizeLine ∧ (a == sysModules) = false ∧
    ∃ xs, KT H kvs xs ∧ h.DictOfH (tupleKind (mixKind P w)) a xs := dt_rd ok (.inl e)
end

/-- what the dict at a holds at the key y -/
def DGet (H : Hp) (a : Addr) (y : V) (r : Option V) : Prop :=
  (∃ kvs k, Rd H a (.dK kvs) ∧ y = kV k ∧ r = valV kvs k) ∨ ∃ kvs k b, Rd H a (.dT kvs) ∧ y = .ref b ∧ H b = some (.tup (k.map kV)) ∧ r = valV kvs k
/-- the heap behind a[y] = v -/
def DPut (H : Hp) (a : Addr) (y v : V) (H' : Hp) : Prop :=
  (∃ kvs k, H a = some (.dK kvs) ∧ y = kV k ∧ kvs.length < sizeLine ∧ H' = upd H a (.dK (putK kvs k v))) ∨
  ∃ kvs k b, H a = some (.dT kvs) ∧ y = .ref b ∧ H b = some (.tup (k.map kV)) ∧ kvs.length < sizeLine ∧ H' = upd H a (.dT (putK kvs k v))
theorem DGet.k {H : Hp} {a : Addr} {kvs : List (Key × V)} {k : Key} (e : H a = some (.dK kvs)) : DGet H a (kV k) (valV kvs k) := .inl ⟨kvs, k, .inl e, rfl, rfl⟩
theorem DPut.k {H : Hp} {a : Addr} {kvs : List (Key × V)} {k : Key} {v : V} (e : H a = some (.dK kvs)) (hl : kvs.length < sizeLine) : DPut H a (kV k) v (upd H a (.dK (putK kvs k v))) := .inl ⟨kvs, k, e, rfl, hl, rfl⟩
section
variable {X : Cx} {pins : List (Addr × Obj)} {σ : St} {H : Hp} {s : Shared} {a : Addr} {y v : V} {u r : Value} {o : Option V} {A : Around} {E : Value → Shared → Prop}

theorem Inv.big (I : Inv X pins σ H s) : sysModules < s.heap.objs.size := by
  have h : mainGlobals < s.heap.objs.size := (I.mod.glob.keeps I.bk).lt
  exact Nat.lt_trans (by decide) h

/-- d[y], there -/
theorem d_getItem {Q : Value → Shared → Prop} (hu : A.units + 1 < cLine) (I : Inv X pins σ H s) (g : DGet H a y (some v)) (ry : RelV y u) (h : ∀ w' s', Inv X pins σ H s' → RelV v w' → Q w' s') :
    wpAny (model X.prog X.w) A (getItem (.ref a) u) Q E s := by
  rcases g with ⟨kvs, k, e, ey, l⟩ | ⟨kvs, k, b, e, ey, eb, l⟩
  · subst ey
    obtain ⟨z, hd, vs, rel, dd⟩ := dk_rd I.hok e
    obtain ⟨w', hw, rw'⟩ := RelO.some_of (v := v) (o := valueAt vs k) (by rw [l]; exact rel.val k)
    exact wpAny_getItem_of (kV_is ry) dd.mapOf hw (h w' _ (I.tok _) rw')
  · subst ey
    cases (show u = Value.ref b from ry)
    obtain ⟨z, hd, xs, rel, dd⟩ := dt_rd I.hok e
    obtain ⟨w', hw, rw'⟩ := RelO.some_of (v := v) (o := (atKey xs k).map (·.2)) (by rw [l]; exact rel.val k)
    obtain ⟨p, hp, hp2⟩ := Option.map_eq_some_iff.mp hw
    refine wpAny_getItem_heap (tupleKind_room_in1 hu) (key_of I.hok eb) dd hp ?_
    rw [hp2]
    exact h w' _ (I.tok _) rw'
/-- y in d -/
theorem d_in {Q : Value → Shared → Prop} (hu : A.units + 1 < cLine) (I : Inv X pins σ H s) (g : DGet H a y o) (ry : RelV y u) (h : ∀ s', Inv X pins σ H s' → Q (.bool o.isSome) s') :
    wpAny (model X.prog X.w) A (compareOp .In u (.ref a)) Q E s := by
  rcases g with ⟨kvs, k, e, ey, l⟩ | ⟨kvs, k, b, e, ey, eb, l⟩
  · subst ey
    obtain ⟨z, hd, vs, rel, dd⟩ := dk_rd I.hok e
    refine wpAny_in_of (kV_is ry) hd dd.mapOf ?_
    rw [← (rel.val k).isSome_eq, ← l]
    exact h _ (I.tok _)
  · subst ey
    cases (show u = Value.ref b from ry)
    obtain ⟨z, hd, xs, rel, dd⟩ := dt_rd I.hok e
    refine wpAny_in_heap (tupleKind_room_in1 hu) (key_of I.hok eb) hd dd ?_
    have q := (rel.val k).isSome_eq
    rw [Option.isSome_map] at q
    rw [← q, ← l]
    exact h _ (I.tok _)
theorem d_notIn {Q : Value → Shared → Prop} (hu : A.units + 1 < cLine) (I : Inv X pins σ H s) (g : DGet H a y o) (ry : RelV y u) (h : ∀ s', Inv X pins σ H s' → Q (.bool (!o.isSome)) s') :
    wpAny (model X.prog X.w) A (compareOp .NotIn u (.ref a)) Q E s := by
  rcases g with ⟨kvs, k, e, ey, l⟩ | ⟨kvs, k, b, e, ey, eb, l⟩
  · subst ey
    obtain ⟨z, hd, vs, rel, dd⟩ := dk_rd I.hok e
    refine wpAny_notIn_of (kV_is ry) hd dd.mapOf ?_
    rw [← (rel.val k).isSome_eq, ← l]
    exact h _ (I.tok _)
  · subst ey
    cases (show u = Value.ref b from ry)
    obtain ⟨z, hd, xs, rel, dd⟩ := dt_rd I.hok e
    refine wpAny_notIn_heap (tupleKind_room_in1 hu) (key_of I.hok eb) hd dd ?_
    have q := (rel.val k).isSome_eq
    rw [Option.isSome_map] at q
    rw [← q, ← l]
    exact h _ (I.tok _)
/-- a dict's object is replaced -/
theorem d_write {h' : Heap} {t' : Nat} {ob : HO} (I : Inv X pins σ H s) (mu : Mut (H a)) (hs : Heap.SameBut a s.heap h') (he : ∃ q, h'.get? a = some q) (new : ObjOk X.prog X.w (upd H a ob) h' a ob) :
    Inv X pins σ (upd H a ob) { s with heap := h', toks := t' } :=
  I.write (x := a) (e := a) mu (.inl rfl) (fun b q hb z => (hs.2 b hb).trans z) he new
theorem dk_new {P : Program} {w : World} {H' : Hp} {h' : Heap} {kvs : List (Key × V)} {vs : List (Key × Value)} (z : kvs.length ≤ sizeLine) (hd : (a == sysModules) = false) (rel : KV kvs vs) (dd : h'.DictOf (mixKind P w) a vs) :
    ObjOk P w H' h' a (.dK kvs) := ⟨z, hd, vs, rel, dd⟩
/-- d[y] = v -/
theorem d_setItem {H' : Hp} {Q : Unit → Shared → Prop} (hu : A.units + 1 < cLine) (I : Inv X pins σ H s) (g : DPut H a y v H') (ry : RelV y u) (rv : RelV v r) (h : ∀ s', Inv X pins σ H' s' → Q () s') :
    wpAny (model X.prog X.w) A (setItem (.ref a) u r) Q E s := by
  rcases g with ⟨kvs, k, e, ey, l, eH⟩ | ⟨kvs, k, b, e, ey, eb, l, eH⟩
  · subst ey eH
    obtain ⟨z, hd, vs, rel, dd⟩ := dk_of I.hok e
    have hz : vs.length ≤ sizeLine := by rw [← rel.length]; exact z
    have hl : (putK kvs k v).length ≤ sizeLine := by have := length_putK kvs k v; omega
    refine wpAny_setItem_pairs (hsz := hz) (kV_is ry) dd fun h' dd' hs => h _ ?_
    have he : ∃ q, h'.get? a = some q := let ⟨q, _, _, hq, _⟩ := dd'; ⟨q, hq⟩
    exact d_write I (by rw [e]; exact True.intro) hs he (dk_new hl hd (rel.put k rv) dd')
  · subst ey eH
    cases (show u = Value.ref b from ry)
    obtain ⟨z, hd, xs, rel, dd⟩ := dt_of I.hok e
    have hz : xs.length ≤ sizeLine := by rw [← Paired.length rel]; exact z
    have hl : (putK kvs k v).length ≤ sizeLine := by have := length_putK kvs k v; omega
    refine wpAny_setItem_heap (hsz := hz) (tupleKind_room_in1 hu) (key_of I.hok eb) dd fun h' dd' hs => h _ ?_
    obtain ⟨q, es, ep, hq, h2, h3, h4, _, h5⟩ := dd'
    refine d_write I (by rw [e]; exact True.intro) hs ⟨q, hq⟩ ⟨hl, hd, _, (rel.put k eb rv).keeps fun c ys ec => ?_, q, es, ep, hq, h2, h3, h4, h5⟩
    rw [upd_ne (ne_of ec e (fun z => nomatch z))]
    exact ec
end

section
variable {X : Cx} {pins : List (Addr × Obj)} {σ : St} {H : Hp} {s : Shared} {a : Addr} {kvs : List (Key × V)} {k : Key} {u : Value} {A : Around} {E : Value → Shared → Prop}
end


/-! ### readings and rules -/
/-- the element of a subscription, not a slice -/
def NoSl (i : Expr) : Prop := ∀ ov iv, subscripted i false ov iv = operate [ov, iv] (getItem ov iv)
theorem subD_of {prog : Program} {w : World} {A : Around} {E : Value → Shared → Prop} {s : Shared} {env : Env} {value slice : Expr} {pos : Pos} {T id : String} {Q : Value → Shared → Prop}
    (hl : typeLookup (.type T) "__getitem__" = pure (some (.builtin id))) (hs : NoSl slice)
    (h : wpAny (model prog w) A (eval value env) (fun o s₁ => wpAny (model prog w) A (eval slice env) (fun i s₂ => s₂.TypeIs o T ∧ wpAny (model prog w) A (getItem o i) Q E s₂) E s₁) E s) :
    wpAny (model prog w) A (eval (.Subscript value slice pos) env) Q E s := by
  refine Subscript_ (wpAny_mono h (fun o s₁ h₁ => wpAny_mono h₁ (fun i s₂ h₂ => ?_) fun _ _ x => x) fun _ _ x => x)
  obtain ⟨hT, h₂⟩ := h₂
  unfold subscriptTail
  refine wpAny_bind ?_
  rw [getitemInPython_of_ne hT.not_modules]
  refine wpAny_bind (wpAny_specialOf hT hl ?_)
  have fin : wpAny (model prog w) A (subscripted slice false o i) (fun r s₃ => wpAny (model prog w) A (letTemporaryGo value o r >>= fun _ => pure r) Q E s₃) E s₂ := by
    rw [hs o i]
    exact wpAny_operating (wpAny_mono h₂ (fun r s₃ h₃ => wpAny_bind (wpAny_letTemporaryGo (wpAny_pure h₃))) fun _ _ x => x)
  first
    | exact wpAny_pure (wpAny_bind fin)
    | exact wpAny_bind (wpAny_pure (wpAny_bind fin))
    | exact wpAny_bind fin

theorem dict_typeIs {X : Cx} {pins : List (Addr × Obj)} {σ : St} {H : Hp} {s : Shared} {a : Addr} {y : V} {o : Option V} (I : Inv X pins σ H s) (g : DGet H a y o) : s.TypeIs (.ref a) "dict" := by
  rcases g with ⟨kvs, k, e, _, _⟩ | ⟨kvs, k, b, e, _, _, _⟩
  · obtain ⟨_, _, vs, _, dd⟩ := dk_rd I.hok e
    exact dd.typeIs
  · obtain ⟨_, _, xs, _, dd⟩ := dt_rd I.hok e
    exact dd.typeIs
/-- d[y] -/
def tDGet (td ty : TE) : TE := fun σ H Q => td σ H fun x H1 => ty σ H1 fun y H2 => ∃ a v, x = .ref a ∧ DGet H2 a y (some v) ∧ Q v H2
/-- y in d, y not in d -/
def tDIn (ty td : TE) : TE := fun σ H Q => ty σ H fun y H1 => td σ H1 fun x H2 => ∃ a o, x = .ref a ∧ DGet H2 a y o ∧ Q (.bl o.isSome) H2
def tDNotIn (ty td : TE) : TE := fun σ H Q => ty σ H fun y H1 => td σ H1 fun x H2 => ∃ a o, x = .ref a ∧ DGet H2 a y o ∧ Q (.bl (!o.isSome)) H2
/-- d[y] = v -/
def sDPut (td ty tv : TE) : TS := fun D σ H => tv σ H fun v H1 => td σ H1 fun x H2 => ty σ H2 fun y H3 => ∃ a H4, x = .ref a ∧ DPut H3 a y v H4 ∧ D.nx σ H4
section
variable {X : Cx} {o i e value : Expr} {pos pos' tpos : Pos} {td ty tv : TE}
theorem pe_dget (hu : X.A.units + 1 < cLine) (ho : PE X o td) (hi : PE X i ty) (hs : NoSl i) : PE X (.Subscript o i pos) (tDGet td ty) := by
  intro pins s σ H Q I h
  refine subD_of PySem.F.slot_dict_getitem.lookup hs (thn (ho pins s σ H _ I h) fun u s1 ⟨x, H1, I1, rx, q1⟩ => thn (hi pins s1 σ H1 _ I1 q1) fun iv s2 ⟨y, H2, I2, ry, a, v, ex, g, q2⟩ => ?_)
  subst ex
  obtain rfl : u = Value.ref a := rx
  exact ⟨dict_typeIs I2 g, d_getItem hu I2 g ry fun w' s3 I3 rw' => ⟨v, H2, I3, rw', q2⟩⟩
theorem pc_din (hu : X.A.units + 1 < cLine) (hi : PE X i ty) (ho : PE X o td) : PC X .In i o (tDIn ty td) := by
  intro pins s σ H Q I h
  refine thn (hi pins s σ H _ I h) fun iv s1 ⟨y, H1, I1, ry, q1⟩ => thn (ho pins s1 σ H1 _ I1 q1) fun u s2 ⟨x, H2, I2, rx, a, ov, ex, g, q2⟩ => ?_
  subst ex
  obtain rfl : u = Value.ref a := rx
  exact d_in hu I2 g ry fun s3 I3 => ⟨.bl ov.isSome, H2, I3, rfl, q2⟩
theorem pc_dnotin (hu : X.A.units + 1 < cLine) (hi : PE X i ty) (ho : PE X o td) : PC X .NotIn i o (tDNotIn ty td) := by
  intro pins s σ H Q I h
  refine thn (hi pins s σ H _ I h) fun iv s1 ⟨y, H1, I1, ry, q1⟩ => thn (ho pins s1 σ H1 _ I1 q1) fun u s2 ⟨x, H2, I2, rx, a, ov, ex, g, q2⟩ => ?_
  subst ex
  obtain rfl : u = Value.ref a := rx
  exact d_notIn hu I2 g ry fun s3 I3 => ⟨.bl (!ov.isSome), H2, I3, rfl, q2⟩
theorem ps_dput (hu : X.A.units + 1 < cLine) (ho : PE X o td) (hi : PE X i ty) (hv : PE X value tv) (hs : swapsWith value (some (.Subscript o i pos')) pos.line X.env = pure false) :
    PS X (.Assign [.Subscript o i pos'] value pos) (sDPut td ty tv) := by
  intro pins s σ H D I h
  refine wpAny_Assign_Subscript (thn (hv pins s σ H _ I h) fun r s1 ⟨v, H1, I1, rv, q1⟩ => thn (ho pins s1 σ H1 _ I1 q1) fun u s2 ⟨x, H2, I2, rx, q2⟩ => thn (hi pins s2 σ H2 _ I2 q2) fun iv s3 ⟨y, H3, I3, ry, a, H4, ex, g, q3⟩ => ?_) hs
  subst ex
  obtain rfl : u = Value.ref a := rx
  exact d_setItem hu I3 g ry rv fun s4 I4 => ⟨σ, H4, I4, q3⟩
end


/-! ### displays -/
theorem dk_empty {P : Program} {w : World} {H : Hp} (h : Heap) (hb : sysModules < h.objs.size) : ObjOk P w H (h.push { cls := .type "dict", data := .dict #[] }) h.objs.size (.dK []) :=
  ⟨Nat.zero_le _, beq_eq_false_iff_ne.mpr (Ne.symm (Nat.ne_of_lt hb)), [], .nil, Heap.DictOf.new h⟩
/-- {}, to be a dict of the kind that is wanted -/
def tDNewK : TE := fun _ H Q => ∀ p, H p = none → Q (.ref p) (upd H p (.dK []))
section
variable {X : Cx} {pos : Pos}
theorem pe_dnewK : PE X (.Dict [] [] pos) tDNewK := fun pins s σ H Q I h =>
  wpAny_Dict_empty ⟨.ref s.heap.objs.size, _, I.laid (a := s.heap.objs.size) (o := .dK []) (t' := s.toks) (fun _ _ q => Heap.get?_push_of_some _ q) (Nat.le_refl _) (dk_empty s.heap I.big), rfl, h _ (I.hok.fresh (Nat.le_refl _))⟩
end

/-- the pairs of a display, from the left -/
def tPairs : List (TE × TE) → St → Hp → (List (V × V) → Hp → Prop) → Prop
  | [], _, H, Q => Q [] H
  | (tk, tv) :: r, σ, H, Q => tk σ H fun x H1 => tv σ H1 fun y H2 => tPairs r σ H2 fun ps H3 => Q ((x, y) :: ps) H3
abbrev VV : List (V × V) → List (Value × Value) → Prop := Paired fun p q => RelV p.1 q.1 ∧ RelV p.2 q.2
def PPs (X : Cx) (pos : Pos) (keys : List (Option Expr)) (values : List Expr) (trs : List (TE × TE)) : Prop :=
  ∀ (pins : List (Addr × Obj)) (s : Shared) (σ : St) (H : Hp) (Q : List (V × V) → Hp → Prop), Inv X pins σ H s → tPairs trs σ H Q →
    wpAny (model X.prog X.w) X.A (evalPairs (pairTrees keys values X.env pos)) (fun vs s' => ∃ ps H', Inv X pins σ H' s' ∧ VV ps vs ∧ Q ps H') X.xe s
theorem pps_nil {X : Cx} {pos : Pos} : PPs X pos [] [] [] := fun pins s σ H Q I h => pairTrees_nil_walk ⟨[], H, I, .nil, h⟩
theorem pps_cons {X : Cx} {pos : Pos} {k v : Expr} {ks : List (Option Expr)} {vs : List Expr} {tk tv : TE} {trs : List (TE × TE)} (hk : PE X k tk) (hv : PE X v tv) (hr : PPs X pos ks vs trs) :
    PPs X pos (some k :: ks) (v :: vs) ((tk, tv) :: trs) := fun pins s σ H Q I h =>
  pairTrees_cons_walk (thn (hk pins s σ H _ I h) fun u s1 ⟨x, H1, I1, rx, q1⟩ => thn (hv pins s1 σ H1 _ I1 q1) fun w2 s2 ⟨y, H2, I2, ry, q2⟩ =>
    thn (hr pins s2 σ H2 _ I2 q2) fun ws s3 ⟨ps, H3, I3, rel, q3⟩ => ⟨(x, y) :: ps, H3, I3, .cons ⟨rx, ry⟩ rel, q3⟩)

def mergeK (kvs more : List (Key × V)) : List (Key × V) := more.foldl (fun acc kv => putK acc kv.1 kv.2) kvs
theorem KV.merge : ∀ {more : List (Key × V)} {rs : List (Key × Value)} {kvs : List (Key × V)} {vs : List (Key × Value)}, KV more rs → KV kvs vs → KV (mergeK kvs more) (merged vs rs) := by
  intro more rs kvs vs r
  unfold KV at r
  induction r generalizing kvs vs with
  | nil => intro q; exact q
  | @cons p q ps qs h t ih =>
    intro r0
    have e : KV (putK kvs p.1 p.2) (stored vs q.1 q.2) := by
      have := r0.put p.1 h.2
      rw [← h.1]; exact this
    exact ih e
theorem length_mergeK : ∀ (more kvs : List (Key × V)), (mergeK kvs more).length ≤ kvs.length + more.length
  | [], kvs => by show kvs.length ≤ kvs.length + 0; omega
  | p :: r, kvs => by
    have h1 := length_mergeK r (putK kvs p.1 p.2)
    have h2 := length_putK kvs p.1 p.2
    show (mergeK (putK kvs p.1 p.2) r).length ≤ _
    rw [List.length_cons]; omega
theorem carries_of {P : Program} {w : World} : ∀ {kvs : List (Key × V)} {ws : List (Value × Value)}, VV (kvs.map fun kv => (kV kv.1, kv.2)) ws → ∃ rs, Carries (mixKind P w) ws rs ∧ KV kvs rs
  | [], _, r => by rw [List.map_nil] at r; cases r; exact ⟨[], True.intro, .nil⟩
  | p :: kvs, _, r => by
    rw [List.map_cons] at r
    cases r with
    | @cons a b as bs h t =>
      obtain ⟨rs, c, q⟩ := carries_of (P := P) (w := w) t
      obtain ⟨b1, b2⟩ := b
      exact ⟨(p.1, b2) :: rs, ⟨kV_is h.1, rfl, c⟩, .cons ⟨rfl, h.2⟩ q⟩
/-- {k: v, ..} with keys ints and texts; the new dict stands empty while the pairs are made -/
def tDisp (trs : List (TE × TE)) : TE := fun σ H Q => ∀ p, H p = none → tPairs trs σ (upd H p (.dK [])) fun ps H2 => H2 p = some (.dK []) ∧ ∃ kvs : List (Key × V), ps = kvs.map (fun kv => (kV kv.1, kv.2)) ∧ kvs.length ≤ 15 ∧ Q (.ref p) (upd H2 p (.dK (mergeK [] kvs)))
theorem pe_disp {X : Cx} {pos : Pos} {keys : List (Option Expr)} {values : List Expr} {trs : List (TE × TE)} (h : PPs X pos keys values trs) (hall : keys.all (·.isSome) = true) (hl : keys.length = values.length) (h0 : keys ≠ [])
    (h15 : keys.length ≤ 15) : PE X (.Dict keys values pos) (tDisp trs) := by
  intro pins s σ H Q I q
  have hn := I.hok.fresh (Nat.le_refl s.heap.objs.size)
  have I1 := I.laid (a := s.heap.objs.size) (o := .dK []) (h' := s.heap.push { cls := .type "dict", data := .dict #[] }) (t' := s.toks) (fun _ _ q => Heap.get?_push_of_some _ q) (Nat.le_refl _) (dk_empty s.heap I.big)
  refine wpAny_Dict_walk (knd := mixKind X.prog X.w) hall hl h0 h15 (thn (h pins _ σ _ _ I1 (q _ hn)) fun ws s2 ⟨ps, H2, I2, rel, e, kvs, ep, lk, q2⟩ => ?_)
  subst ep
  obtain ⟨rs, c, rk⟩ := carries_of (P := X.prog) (w := X.w) rel
  obtain ⟨z, hd, vs0, r0, dd⟩ := dk_of I2.hok e
  cases r0
  refine ⟨rs, c, dd, fun h' dd' hs => ⟨.ref s.heap.objs.size, _, ?_, rfl, q2⟩⟩
  have hz : (mergeK [] kvs).length ≤ sizeLine := by
    have h1 := length_mergeK kvs []
    rw [List.length_nil] at h1
    rw [sizeLine_eq]; omega
  have he : ∃ q, h'.get? s.heap.objs.size = some q := let ⟨q, _, _, hq, _⟩ := dd'; ⟨q, hq⟩
  exact d_write I2 (by rw [e]; exact True.intro) hs he (dk_new hz hd (rk.merge .nil) dd')


/-! ### methods -/
/-- a method call o.m(e) of a built-in, with one argument: what must be seen of the text -/
structure M1 (X : Cx) (o : Expr) (m : Str) (apos : Pos) (e : Expr) (cpos : Pos) : Prop where
  base : attributeBase o m X.env (eval o X.env) = eval o X.env
  few : ((backTo cpos (starEach [e] X.env)).all (fun x => !x.1) && (backToKw cpos (keywordEach [] X.env)).all (fun x => x.1.isSome)
    && decide (([e] : List Expr).length + ([] : List Keyword).length + (if ([] : List Keyword).isEmpty then 0 else 1) < 30)) = true
  line : (apos.endLine == cpos.line) = true
  trees : backTo cpos (starEach [e] X.env) = [(false, eval e X.env)]
structure M2 (X : Cx) (o : Expr) (m : Str) (apos : Pos) (e f : Expr) (cpos : Pos) : Prop where
  base : attributeBase o m X.env (eval o X.env) = eval o X.env
  few : ((backTo cpos (starEach [e, f] X.env)).all (fun x => !x.1) && (backToKw cpos (keywordEach [] X.env)).all (fun x => x.1.isSome)
    && decide (([e, f] : List Expr).length + ([] : List Keyword).length + (if ([] : List Keyword).isEmpty then 0 else 1) < 30)) = true
  line : (apos.endLine == cpos.line) = true
  trees : backTo cpos (starEach [e, f] X.env) = [(false, eval e X.env), (false, eval f X.env)]

/-- a is a dict, whatever its keys -/
def IsD (H : Hp) (a : Addr) : Prop := (∃ kvs, Rd H a (.dK kvs)) ∨ ∃ kvs, Rd H a (.dT kvs)
theorem isD_at {X : Cx} {pins : List (Addr × Obj)} {σ : St} {H : Hp} {s : Shared} {a : Addr} (I : Inv X pins σ H s) (d : IsD H a) :
    s.TypeIs (.ref a) "dict" ∧ (∀ b, Value.ref a = .ref b → ∃ ob, s.heap.get? b = some ob ∧ ob.dict = none) ∧ (a == sysModules) = false := by
  rcases d with ⟨kvs, e⟩ | ⟨kvs, e⟩
  · obtain ⟨_, hd, vs, _, dd⟩ := dk_rd I.hok e
    refine ⟨dd.typeIs, fun b q => ?_, hd⟩
    cases q
    obtain ⟨ob, _, _, h1, h2, _⟩ := dd
    exact ⟨ob, h1, h2.2.1⟩
  · obtain ⟨_, hd, xs, _, dd⟩ := dt_rd I.hok e
    refine ⟨dd.typeIs, fun b q => ?_, hd⟩
    cases q
    obtain ⟨ob, _, _, h1, h2, _⟩ := dd
    exact ⟨ob, h1, h2.2.1⟩

section
variable {X : Cx} {pins : List (Addr × Obj)} {σ : St} {H : Hp} {s : Shared} {a : Addr} {y d : V} {u r : Value} {o : Option V} {A : Around} {E : Value → Shared → Prop}
/-- d.get(y, x) -/
theorem d_get2 {Q : Value → Shared → Prop} (hu : A.units + 1 < cLine) (I : Inv X pins σ H s) (g : DGet H a y o) (ry : RelV y u) (rd : RelV d r) (h : ∀ w' s', Inv X pins σ H s' → RelV (o.getD d) w' → Q w' s') :
    wpAny (model X.prog X.w) A (call (.builtin "dict.get") [.ref a, u, r]) Q E s := by
  rcases g with ⟨kvs, k, e, ey, l⟩ | ⟨kvs, k, b, e, ey, eb, l⟩
  · subst ey
    obtain ⟨z, hd, vs, rel, dd⟩ := dk_rd I.hok e
    refine call_meetsIn PySem.F.slot_dict_get dd.typeIs PySem.F.entry_dict_get (PySem.F.args_dict_get_3 _ _ _) (meets_dict_get_default (mixKind X.prog X.w) a (kV_is ry) hd r) ⟨_, dd.mapOf, h _ _ (I.tok _) ?_⟩
    rw [l]
    exact (rel.val k).getD rd
  · subst ey
    cases (show u = Value.ref b from ry)
    obtain ⟨z, hd, xs, rel, dd⟩ := dt_rd I.hok e
    refine call_meetsIn PySem.F.slot_dict_get dd.typeIs PySem.F.entry_dict_get (PySem.F.args_dict_get_3 _ _ _) (meetsH_dict_get_default (tupleKind (mixKind X.prog X.w)) a b hd r) ⟨tupleKind_room_in1 hu, k, xs, key_of I.hok eb, dd, h _ _ (I.tok _) ?_⟩
    rw [l]
    exact (rel.val k).getD rd
end

def tDGet2 (td ty tx : TE) : TE := fun σ H Q => td σ H fun x H1 => ∃ a, x = .ref a ∧ IsD H1 a ∧ ty σ H1 fun y H2 => tx σ H2 fun z H3 => ∃ o, DGet H3 a y o ∧ Q (o.getD z) H3
section
variable {X : Cx} {o e f : Expr} {apos cpos : Pos} {td ty tx : TE}
theorem pe_dget2 (hu : X.A.units + 1 < cLine) (ho : PE X o td) (he : PE X e ty) (hf : PE X f tx) (m : M2 X o "get" apos e f cpos) : PE X (.Call (.Attribute o "get" apos) [e, f] [] cpos) (tDGet2 td ty tx) := by
  intro pins s σ H Q I h
  refine wpAny_Call_method m.base m.few m.line PySem.F.plainAttrs_dict PySem.F.slot_dict_get PySem.F.type_dict_get (thn (ho pins s σ H _ I h) fun u s1 ⟨x, H1, I1, rx, a, ex, d, q1⟩ => ?_)
  subst ex
  obtain rfl : u = Value.ref a := rx
  obtain ⟨t1, t2, _⟩ := isD_at I1 d
  refine ⟨t1, t2, ?_⟩
  rw [m.trees]
  refine Calls.callWith_builtin rfl (Calls.evalArgs_plain (Calls.spliced_cons (thn (he pins s1 σ H1 _ I1 q1) fun iv s2 ⟨y, H2, I2, ry, q2⟩ =>
    Calls.spliced_cons (thn (hf pins s2 σ H2 _ I2 q2) fun fv s3 ⟨z, H3, I3, rz, ov, g, q3⟩ => Calls.spliced_nil ?_))))
  exact d_get2 hu I3 g ry rz fun w' s4 I4 rw' => ⟨_, H3, I4, rw', q3⟩
end

/-! ### dict(d): a copy -/
section
variable {X : Cx} {pins : List (Addr × Obj)} {σ : St} {H : Hp} {s : Shared} {a : Addr} {kvs : List (Key × V)} {A : Around} {E : Value → Shared → Prop}
end


section
variable {X : Cx} {pins : List (Addr × Obj)} {σ : St} {H : Hp} {s : Shared} {a : Addr} {y : V} {u : Value} {A : Around} {E : Value → Shared → Prop}
end
end L2

namespace Att
open PySem PySem.W PySem.Calls PyProof.Rows

/-! ### the script -/
theorem ints_of_wellAll {P : Params} {h : Heap} : ∀ (ns : List Int) (vs : List Value), WellAll P h vs (ns.map WData.int) → IntsAre vs ns := by
  intro ns
  induction ns with
  | nil =>
    intro vs w
    rw [List.map_nil] at w
    cases w
    exact .nil
  | cons n ns ih =>
    intro vs w
    rw [List.map_cons] at w
    cases w with
    | cons a b =>
      cases a
      exact .cons _ _ (ih _ b)

theorem script_of {l : OpenLaw} {n : Nat} (hn : l.most = some n) {P : Params} {h : Heap} {args : List WData} {vals : List Value}
    (hpre : l.row.toRowW.claim.pre args = true) (hwl : WellAll P h vals args) :
    ∃ a vs ns, vals = [Value.ref a] ∧ args = [WData.list (ns.map WData.int)] ∧ h.get? a = some { cls := .type "list", data := .seq vs.toArray } ∧ IntsAre vs ns ∧ ns.length ≤ n := by
  have hsh : WShape.hasAll [] args [.list .int] = true := (pre_splitW hpre).1
  have hc : l.pre.holds [] { args := args } = true := (pre_splitW hpre).2
  obtain ⟨d, r, rfl, h1, h2⟩ := hasAllW_cons hsh
  obtain rfl := hasAllW_nil h2
  obtain ⟨xs, rfl, h3⟩ := hasW_list h1
  obtain ⟨ns, rfl⟩ := items_int h3
  have hlen : ns.length ≤ n := by
    unfold OpenLaw.pre at hc
    have h4 : (WTm.not (.lt (.lit (.int (n : Int))) (.len (.arg 0)))).holds [] { args := [.list (ns.map .int)] } = true := by
      have h4 := (holds_andW hc).1
      rw [hn] at h4
      exact h4
    have h5 := condW_of h4 (w_not (w_lt w_lit (w_len_list (w_arg rfl))))
    rw [List.length_map] at h5
    refine Nat.le_of_not_lt fun q => ?_
    have q' : (n : Int) < ((ns.length : Nat) : Int) := by omega
    first
      | (rw [decide_eq_true q'] at h5; exact absurd h5 (by decide))
      | (simp at h5; omega)
  cases hwl with
  | cons w1 w2 =>
    cases w2
    cases w1 with
    | list ho hall => exact ⟨_, _, ns, rfl, rfl, ho, ints_of_wellAll ns _ hall, hlen⟩

theorem post_true (l : OpenLaw) (args : List WData) : l.row.toRowW.claim.post args (.bool true) args = true :=
  postW_of (r := l.row.toRowW) (X := (true == true))
    (show WShape.has [] (.bool true) .bool = true by first | rfl | decide | simp [WShape.has, WShape.arms, WShape.armsAll])
    (show (WTm.eq .res (.lit (.bool true))).value [] { args := args, res := some (.bool true), after := args } = some (.bool (true == true)) from w_eq_bool (w_res rfl) w_lit) rfl

/-! ### the attachment: holds_open's last premise (the goal 'hc' behind k_head) from a wpAny of the law's body -/
/-- the same from a codeAny of the CALL (for a layer whose function contracts speak of calls) -/
theorem attach_call {l : OpenLaw} {n : Nat} {q : Program} {loose : List Str} {XP : (Str → Option Value) → Heap → Prop} {YP : World → Heap → Prop} {d : DefRec}
    (hn : l.most = some n) (hdf : d.params.defaults = [])
    (call : ∀ (w : World) (s₀ s₁ : Shared) (mg mb : Str → Option Value) (fa : Addr) (o : Obj) (pm cd doc : Value) (a : Addr) (vs : List Value) (ns : List Int),
      Ground q loose [] XP w s₀ mg mb s₁.heap → YP w s₁.heap →
      s₁.heap.get? fa = some o → o.data = .func (docDef d.name d.params d.body d.scope pm cd doc) → s₁.heap.CodeRec cd d.name → mg d.name = some (.ref fa) →
      s₁.heap.get? a = some { cls := .type "list", data := .seq vs.toArray } → IntsAre vs ns → ns.length ≤ n → s₁.gens = #[] →
      codeAny (model l.prog w) callerA (.call (.ref fa) ⟨[.ref a], []⟩) (fun r s' => r = .ok (.ret (.bool true)) ∧ OldK s₁.heap s'.heap ∧ s'.os = s₁.os ∧ AllBare s'.gens) s₁) :
    WalkO q loose XP YP l.row.toRowW d [] (fun f vs => PySem.call f vs) := by
  intro w s₀ s₁ mg mb G Y fa o pm cd doc dV kV ho hd hcd hD hmg hg args vals as hpre hlay hrd hwl hlo
  obtain rfl : dV = .none := Dflts.none hD hdf
  obtain rfl : kV = .none := Dflts.noKw hD
  obtain ⟨a, vs, ns, rfl, rfl, hobj, hints, hlen⟩ := script_of hn hpre hwl
  refine enter_call (codeAny_mono (call w s₀ s₁ mg mb fa o pm cd doc a vs ns G Y ho (fd_plain hd) hcd hmg hobj hints hlen hg) fun r s' hq => ?_)
  obtain ⟨rfl, h2, h3, h4⟩ := hq
  exact ⟨.inl ⟨.bool true, .bool true, [], rfl, fun _ => rfl, .bool true, post_true l _, fun _ => ⟨List.Pairwise.nil, fun _ hm => (nomatch hm)⟩⟩, h2, h3, h4⟩

/-! ### rules over ANY heap (no ledger) from facts about the written part K: the library's own take a ledger (News) for what they write -/
section
variable {prog : Program} {w : World} {A : Around} {E : Value → Shared → Prop} {s : Shared} {K : Frag}

/-! the whole heap as the ledger: makes every rule that writes through a ledger a rule over any heap -/
end
end Att

namespace L2
open PySem PySem.Spec PyProof.Rows

theorem vals_ints : ∀ {vs : List Value} {ns : List Int}, IntsAre vs ns → Vals (ns.map V.int) vs
  | _, _, .nil => .nil
  | _, _, .cons n t h => .cons ⟨t, rfl⟩ (vals_ints h)

/-- nothing is tracked but the script, known to the object (or it is an object of the module) -/
def Only (H : Hp) : Prop := ∀ b, H b = none ∨ ∃ o xs, H b = some (.frz o (.lst xs))

/-- THE HEAD: the law's promise, at the heap behind the top. F, the promise of the law's def, may use that base is part of the heap (so K.In base, base.Ns mainGlobals mg stand in Mod) -/
theorem law_call {P : Program} {w : World} {K : PySem.W.Frag} {mg mb : Str → Option Value} {CX : CXT} {k : Nat} {fa a : Addr} {fd : FuncData} {x : Str} {sp : Sp} {s₁ : Shared} {vs : List Value} {ns : List Int}
    (KX : K.In s₁.heap) (hns : s₁.heap.Ns mainGlobals mg) (hb : s₁.heap.Ns builtinsNs mb) (hbb : ∀ x : Str, x ≠ "__name__" → mb x = bootBuiltins x) (hlim : s₁.heap.NoLimit) (hg : s₁.gens = #[])
    (ha : s₁.heap.get? a = some { cls := .type "list", data := .seq vs.toArray }) (hi : IntsAre vs ns) (hl : ns.length ≤ sizeLine) (hr : Room k callerA)
    (F : ∀ base : Heap, K.In base → base.Ns mainGlobals mg → FnOk P w K mg base CX k fa fd [x] sp) (hbind : ∀ (s : Shared) (u : Value), BindsTo s fd ⟨[u], []⟩ [(x, u)])
    (hsp : ∀ H : Hp, Only H → SqL K H a (ns.map V.int) → sp [.ref a] H (fun v _ => v = .bl true) fun _ _ _ => False)
    (hCX : ∀ H e s', CX [] H s₁ (fun _ _ _ => False) e s' → False) :
    codeAny (model P w) callerA (.call (.ref fa) ⟨[.ref a], []⟩) (fun r s' => r = .ok (.ret (.bool true)) ∧ OldK s₁.heap s'.heap ∧ s'.os = s₁.os ∧ AllBare s'.gens) s₁ := by
  have rv := vals_ints hi
  have lenV := hi.length
  -- from an abstract heap in which nothing but the script may be tracked
  have core : ∀ H : Hp, Only H → SqL K H a (ns.map V.int) → HOk P w H s₁.heap → (∀ b, H b ≠ none → b = a) → (H a ≠ none → K.lookup a = none) →
      codeAny (model P w) callerA (.call (.ref fa) ⟨[.ref a], []⟩) (fun r s' => r = .ok (.ret (.bool true)) ∧ OldK s₁.heap s'.heap ∧ s'.os = s₁.os ∧ AllBare s'.gens) s₁ := by
    intro H hO hS hok hA hK
    have base_of : ∀ {b : Addr} {o : Obj}, s₁.heap.get? b = some o → H b = none → (hidT s₁.heap H).get? b = some o := fun e n => hidT_get e n
    have noA : ∀ {b : Addr} {o : Obj} {es : Array DictEntry} {ep : Nat}, s₁.heap.get? b = some o → o.data = .dict es ep → H b = none := fun {b o es ep} e d => by
      cases q : H b with
      | none => rfl
      | some u =>
        have e' : b = a := hA b (by rw [q]; simp)
        subst e'
        rw [ha] at e; cases e
        have d' : Data.seq vs.toArray _ = Data.dict es ep := d
        cases d'
    have nsK : ∀ {b : Addr} {m : Str → Option Value}, s₁.heap.Ns b m → (hidT s₁.heap H).Ns b m := fun {b m} ⟨o, es, ep, e, d, r⟩ => ⟨o, es, ep, base_of e (noA e d), d, r⟩
    have hKb : K.In (hidT s₁.heap H) := fun b o e => base_of (KX b o e) (by
      cases q : H b with
      | none => rfl
      | some u =>
        have e' : b = a := hA b (by rw [q]; simp)
        subst e'
        rw [hK (by rw [q]; simp)] at e; cases e)
    have hM : Mod K mg (hidT s₁.heap H) := ⟨hKb, nsK hns, ⟨mb, nsK hb, hbb⟩, let ⟨mc, h1, h2⟩ := hlim; ⟨mc, nsK h1, h2⟩⟩
    have e0 : Env0 P w K mg (hidT s₁.heap H) callerA [] s₁ H := ⟨rfl, hM, fun b o e => of_hidT e, Nat.le_of_eq (hidT_size _ _), trivial, fun b hb => absurd (show b ∈ ([] : List Addr) from hb) (by simp), hok, .of_eq hg⟩
    refine codeAny_mono ((F _ hKb (nsK hns)).run callerA [] s₁ H ⟨[.ref a], []⟩ [.ref a] [.ref a] _ _ hr e0 (hbind s₁ (.ref a)) (.cons rfl .nil) (hsp H hO hS)) fun r s' h => ?_
    cases r with
    | error e => exact (hCX H e s' h).elim
    | ok fl =>
      cases fl with
      | next => exact False.elim h
      | brk => exact False.elim h
      | cont => exact False.elim h
      | ret u =>
        obtain ⟨v, H', os, bare, un, hok', r', q⟩ := h
        have q' : v = .bl true := q
        subst q'
        obtain rfl : u = Value.bool true := r'
        refine ⟨rfl, OldK.of_keep fun b o e => ?_, os, bare⟩
        cases q : H b with
        | none => exact un.keep b o e q (by intro z; exact absurd (show b ∈ ([] : List Addr) from z) (by simp)) (by simp)
        | some u =>
          rcases hO b with z | ⟨ob, xs, z⟩
          · rw [q] at z; cases z
          · have z2 := un.frzs b ob _ z
            obtain ⟨e1, _⟩ := hok b _ z
            obtain ⟨e2, _⟩ := hok' b _ z2
            rw [e] at e1; cases e1
            exact e2
  cases hk : K.lookup a with
  | some o =>
    -- the script is one of the module's own objects
    have e := KX a o hk
    rw [ha] at e
    cases e
    refine core (fun _ => none) (fun _ => .inl rfl) (.inr ⟨_, vs.toArray, _, hk, rfl, rfl, rfl, by rw [List.size_toArray, lenV]; exact hl, by simpa using rv⟩) (fun b u z => by have z' : (none : Option HO) = some u := z; cases z') (fun b z => absurd rfl z) fun z => absurd rfl z
  | none =>
    refine core (fun b => if b = a then some (.frz { cls := .type "list", data := .seq vs.toArray } (.lst (ns.map V.int))) else none) (fun b => ?_) (.inl (.inr ⟨{ cls := .type "list", data := .seq vs.toArray }, if_pos rfl⟩)) (fun b u z => ?_) (fun b z => ?_) fun _ => hk
    · by_cases hb : b = a
      · exact .inr ⟨_, _, if_pos hb⟩
      · exact .inl (if_neg hb)
    · by_cases hb : b = a
      · have z' := (if_pos hb).symm.trans z
        cases z'
        subst hb
        exact ⟨ha, by rw [List.length_map]; exact hl, vs, _, rv, ha⟩
      · have z' := (if_neg hb).symm.trans z
        cases z'
    · by_cases hb : b = a
      · exact hb
      · exact absurd (if_neg hb) z
end L2

namespace L2
open PySem PySem.Spec PyProof.Rows

/-- the goal that k_head leaves (case hc), from the law's promise. F gives the function object fd (K's own) once, then the promise over every base -/
theorem walk_of {l : PySem.W.OpenLaw} {n k : Nat} {q : Program} {loose : List Str} {XP : (Str → Option Value) → Heap → Prop} {YP : World → Heap → Prop} {d : DefRec} {K : Params → PySem.W.Frag} {CX : World → CXT} {sp : World → Sp} {x : Str}
    (hn : l.most = some n) (hn2 : n ≤ sizeLine) (hdf : d.params.defaults = []) (hr : Room k callerA)
    (hY : ∀ (w : World) (h : Heap), YP w h → (K w.params).In h)
    (F : ∀ (w : World) (mg : Str → Option Value) (fa : Addr) (h : Heap), (K w.params).In h → h.Ns mainGlobals mg → mg d.name = some (.ref fa) →
      ∃ fd : FuncData, (∀ (s : Shared) (u : Value), BindsTo s fd ⟨[u], []⟩ [(x, u)]) ∧
        ∀ base : Heap, (K w.params).In base → base.Ns mainGlobals mg → FnOk l.prog w (K w.params) mg base (CX w) k fa fd [x] (sp w))
    (hsp : ∀ (w : World) (H : Hp) (a : Addr) (ns : List Int), ns.length ≤ n → Only H → SqL (K w.params) H a (ns.map V.int) → sp w [.ref a] H (fun v _ => v = .bl true) fun _ _ _ => False)
    (hCX : ∀ (w : World) (H : Hp) (s : Shared) (e : Value) (s' : Shared), CX w [] H s (fun _ _ _ => False) e s' → False) :
    PySem.W.WalkO q loose XP YP l.row.toRowW d [] (fun f vs => PySem.call f vs) := by
  refine Att.attach_call hn hdf fun w s₀ s₁ mg mb fa o pm cd doc a vs ns G Y ho hd hcd hmg hobj hints hlen hg => ?_
  have KX := hY w _ Y
  obtain ⟨fd, hb, hF⟩ := F w mg fa _ KX G.T.g hmg
  exact law_call KX G.T.g G.T.b G.T.builtins G.T.nolimit hg hobj hints (Nat.le_trans hlen hn2) hr hF hb (fun H hO hS => hsp w H a ns hlen hO hS) fun H e s' => hCX w H s₁ e s'
end L2

/-! SHORT WORDS over the layer: a def of the text, its body, what a loop and a test want. -/
namespace L2
open PySem PySem.Spec PyProof.Rows

/-! ### the text by places -/
def defArgs (s : Stmt) : Arguments := match s with
  | .FunctionDef _ a _ _ _ _ _ _ _ _ => a
  | _ => { posonlyargs := [], args := [], vararg := none, kwonlyargs := [], kw_defaults := [], kwarg := none, defaults := [] }
def defBody (s : Stmt) : List Stmt := match s with
  | .FunctionDef _ _ b _ _ _ _ _ _ _ => b
  | _ => []
def defScope (s : Stmt) : Scope := match s with
  | .FunctionDef _ _ _ _ _ _ sc _ _ _ => sc
  | _ => { kind := .function, names := [], isGenerator := false, isCoroutine := false }

/-! ### no exception leaves a def -/
abbrev CX0 : CXT := fun _ _ _ _ _ _ => False
abbrev E0 : XK := fun _ _ _ => False
theorem pass0 {X : Cx} : Passes CX0 X E0 := fun _ _ _ _ _ _ _ h => h.elim

/-! ### a def (or method) of the text as it stands behind the top -/
structure Fun (K : PySem.W.Frag) (x qual : Str) (st : Stmt) (f : Addr) (fd : FuncData) : Prop where
  ex : ∃ (oc : Value) (od : Option Addr) (kV doc pm : Value) (an : Option Addr) (cdv ct : Value) (osl : Array (Option Value)),
    fd = PySem.W.fnOf x qual (defArgs st) (defBody st) (defScope st) .none kV doc pm an cdv ct ∧ K.lookup f = some ⟨oc, od, .func fd, osl⟩ ∧ PySem.W.codeIn K cdv qual = true
  kp : PySem.W.keepIn K (.ref f) = true
section
variable {P : Program} {w : World} {K : PySem.W.Frag} {mg : Str → Option Value} {base : Heap}
/-- THE RULE for a def: its body as a term of rules, and the reading of that term -/
theorem Fun.ok {x qual : Str} {st : Stmt} {f : Addr} {fd : FuncData} {N ps : List Str} {k : Nat} {sp : Sp} (F : Fun K x qual st f fd) (S : FnScope N ps (defScope st)) (len : ∀ vs H Q E, sp vs H Q E → vs.length = ps.length)
    (hbody : ∀ (cdv : Value) (A : Around) (outer : List Env) (s : Shared) (H : Hp) (vs : List V) (Q : VK) (E : XK), Room k (A.deeper (envOfC qual (defScope st) s.heap.objs.size f cdv)) → sp vs H Q E →
      ∃ t, PSs (cxOf CX0 P w K mg base N qual (defScope st) f cdv A outer s H E).nox (defBody st) t ∧ t { nx := fun _ H' => Q .non H', rt := Q } (start N vs) H) : FnOk P w K mg base CX0 (k + 1) f fd ps sp := by
  obtain ⟨oc, od, kV, doc, pm, an, cdv, ct, osl, rfl, lk, hcd⟩ := F.ex
  refine fn_of lk hcd S len fun A outer s H vs Q E hr hsp => ?_
  obtain ⟨t, h, q⟩ := hbody cdv A outer s H vs Q E hr hsp
  exact ⟨t, h.nox, q⟩
/-- how its arguments bind (no defaults): h is «fun _ _ _ _ _ _ us hl => match us, hl with | [_, _], _ => rfl», one _ a parameter -/
theorem Fun.binds {x qual : Str} {st : Stmt} {f : Addr} {fd : FuncData} {ps : List Str} (F : Fun K x qual st f fd)
    (h : ∀ (kV doc pm : Value) (an : Option Addr) (cdv ct : Value) (us : List Value), us.length = ps.length → bindArgs (PySem.W.fnOf x qual (defArgs st) (defBody st) (defScope st) .none kV doc pm an cdv ct) ⟨us, []⟩ = pure (ps.zip us)) : Binds K fd ps [] := by
  obtain ⟨oc, od, kV, doc, pm, an, cdv, ct, osl, rfl, lk, hcd⟩ := F.ex
  exact .all (h kV doc pm an cdv ct)
theorem fun_mk {x qual : Str} {st : Stmt} {f : Addr} {oc : Value} {od an : Option Addr} {osl : Array (Option Value)} {kV doc pm cdv ct : Value} (l : K.lookup f = some ⟨oc, od, .func (PySem.W.fnOf x qual (defArgs st) (defBody st) (defScope st) .none kV doc pm an cdv ct), osl⟩)
    (c : PySem.W.codeIn K cdv qual = true) (k : PySem.W.keepIn K (.ref f) = true) : Fun K x qual st f (PySem.W.fnOf x qual (defArgs st) (defBody st) (defScope st) .none kV doc pm an cdv ct) := ⟨⟨oc, od, kV, doc, pm, an, cdv, ct, osl, rfl, l, c⟩, k⟩
end
theorem hu_of {A : Around} {k : Nat} (hr : Room k A) : A.units + 1 < cLine := Nat.lt_of_le_of_lt (Nat.add_le_add_left (by decide : 1 ≤ 64) _) hr.units
theorem small1000 {n : Nat} (h : n ≤ 1000) : n < sizeLine := Nat.lt_of_le_of_lt h (by decide)

/-! ### expressions in short: the name that stands in the i-th slot -/
section
variable {X : Cx}
theorem pv (i : Nat) {x : Str} {pos : Pos} (hN : X.N[i]? = some x := by rfl) (hv : Vis X.env.scope x := by first | exact Or.inl rfl | exact Or.inr (Or.inl rfl) | exact Or.inr (Or.inr rfl)) (hd : (x == ("__debug__" : Str)) = false := by decide)
    (hcd : (x == ("__classdict__" : Str)) = false := by decide) : PE X (.Name x pos) (tVar i) := pe_var hN hv hd hcd
end

/-! ### tests -/
theorem iteF {A B : Prop} (h : B) : if false = true then A else B := by
  rw [if_neg Bool.false_ne_true]
  exact h
theorem iteT {A B : Prop} (h : A) : if true = true then A else B := by
  rw [if_pos rfl]
  exact h
theorem ite2 {c A B : Prop} [Decidable c] (h1 : c → A) (h2 : ¬ c → B) : if c then A else B := by
  by_cases h : c
  · rw [if_pos h]
    exact h1 h
  · rw [if_neg h]
    exact h2 h
theorem iteNS {c A B : Prop} [Decidable c] (hc : c) (h : B) : if (!decide c) = true then A else B := by
  rw [decide_eq_true hc]
  exact iteF h

/-! ### heaps -/
/-- all that was tracked is as it was -/
def Same (H H' : Hp) : Prop := ∀ b o, H b = some o → H' b = some o
theorem Same.trans {H H1 H2 : Hp} (a : Same H H1) (b : Same H1 H2) : Same H H2 := fun c o h => b c o (a c o h)
theorem Same.free {H H' : Hp} (e : Same H H') {l : Addr} (h : H' l = Option.none) : H l = Option.none := by
  cases q : H l with
  | none => rfl
  | some o =>
    rw [e l o q] at h
    cases h
theorem Same.seq {K : PySem.W.Frag} {H H' : Hp} {a : Addr} {xs : List V} (e : Same H H') (h : SqL K H a xs) : SqL K H' a xs := by
  rcases h with (h | ⟨o, h⟩) | h
  · exact .inl (.inl (e _ _ h))
  · exact .inl (.inr ⟨o, e _ _ h⟩)
  · exact .inr h

/-! ### a dict's pairs: keys that differ -/
section
variable {κ : Type} [DecidableEq κ]
theorem valV_in {kvs : List (κ × V)} {k : κ} {v : V} (h : valV kvs k = some v) : k ∈ kvs.map (·.1) := by
  have q : (kvs.any fun kv => decide (kv.1 = k)) = true := by
    rw [valV_any, h]
    all_goals rfl
  obtain ⟨p, hp, e⟩ := List.any_eq_true.mp q
  exact List.mem_map.mpr ⟨p, hp, of_decide_eq_true e⟩
theorem nd_snoc : ∀ {l : List κ} {k : κ}, l.Nodup → ¬ k ∈ l → (l ++ [k]).Nodup
  | [], k, _, _ => by simp
  | a :: r, k, h, hk => by
    obtain ⟨h1, h2⟩ := List.nodup_cons.mp h
    show (a :: (r ++ [k])).Nodup
    refine List.nodup_cons.mpr ⟨fun m => ?_, nd_snoc h2 fun m => hk (List.mem_cons.mpr (Or.inr m))⟩
    rcases List.mem_append.mp m with q | q
    · exact h1 q
    · exact hk (List.mem_cons.mpr (Or.inl (List.mem_singleton.mp q).symm))
end
end L2
/-! SETS OF TEXTS: a set object with the members L -/
namespace SL
open PySem

def keyS : Value → Str
  | .str x _ => x
  | _ => Str.empty
def ElemS (w : World) (e : Int × Value) : Prop := ∃ k t, e = (hashStr w k, Value.str k t)
def SetL (w : World) (h : Heap) (a : Addr) (L : List Str) : Prop :=
  ∃ o es ep t, h.get? a = some o ∧ o.ExactSet ∧ o.data = .set es ep t ∧ (∀ e ∈ es.toList, ElemS w e) ∧ (es.toList.map fun e => keyS e.2).Perm L ∧ L.Nodup ∧ es.size < scanBound ∧ t.fits es.size = true
    ∧ t.led = (!w.params.followText "set-order") ∧ (t.plain = true → es.size = 0)

theorem put_led (t : SetTable) (j : Nat) : (t.put j).1.led = t.led := by
  unfold SetTable.put; first | rfl | (split <;> rfl) | (dsimp only; split <;> rfl)
theorem put_plain (t : SetTable) (j : Nat) : (t.put j).1.plain = t.plain := by
  unfold SetTable.put; first | rfl | (split <;> rfl) | (dsimp only; split <;> rfl)
theorem orStandIn_led (t : SetTable) (n : Nat) : (t.orStandIn n).led = t.led := by
  unfold SetTable.orStandIn; split <;> rfl
theorem orStandIn_plain (t : SetTable) (n : Nat) (h : t.plain = false) : (t.orStandIn n).plain = false := by
  unfold SetTable.orStandIn; split
  · exact h
  · rfl
theorem layNew_led (t : SetTable) (es : Array (Int × Value)) (h : Int) (x : Value) : (layNew t es h x).2.1.led = t.led := by
  unfold layNew
  split
  · dsimp only
    rw [orStandIn_led, put_led]
  · rfl
theorem layNew_plain (t : SetTable) (es : Array (Int × Value)) (h : Int) (x : Value) (hp : t.plain = false) : (layNew t es h x).2.1.plain = false := by
  unfold layNew
  split
  · dsimp only
    exact orStandIn_plain _ _ (by rw [put_plain]; exact hp)
  · rfl
theorem relaid_led {t t' : SetTable} {hs : Array Int} {n : Nat} {o : Array Nat} (e : t.relaid hs n = some (t', o)) : t'.led = t.led ∧ t'.plain = t.plain := by
  unfold SetTable.relaid SetTable.laid at e
  cases q : SetTable.layClean (SetTable.sizeAbove n - 1) hs with
  | none => rw [q] at e; cases e
  | some ow =>
    rw [q] at e
    simp only [Option.bind_eq_bind, Option.bind_some] at e
    have e := Option.some.inj e
    have e1 := congrArg Prod.fst e
    constructor
    · exact (congrArg SetTable.led e1).symm
    · exact (congrArg SetTable.plain e1).symm
theorem relayAll_led (t : SetTable) (es : Array (Int × Value)) (n : Nat) : (relayAll t es n).2.1.led = t.led := by
  unfold relayAll
  split
  · rename_i t' o e
    dsimp only
    split
    · exact (relaid_led e).1
    · rfl
  · rfl
theorem relayAll_plain (t : SetTable) (es : Array (Int × Value)) (n : Nat) (h : t.plain = false) : (relayAll t es n).2.1.plain = false := by
  unfold relayAll
  split
  · rename_i t' o e
    dsimp only
    split
    · rw [(relaid_led e).2]; exact h
    · rfl
  · rfl
end SL
namespace SL
open PySem

section
variable {prog : Program} {w : World} {A : Around} {E : Value → Shared → Prop} {s : Shared} {a : Addr} {L : List Str}

theorem ElemS.of {w : World} (prog : Program) {e : Int × Value} (h : ElemS w e) : (∃ k, (strKind prog w).is k e.2 = true ∧ e.1 = (strKind prog w).hash k) ∧ e.2.scannable = true := by
  obtain ⟨k, t, rfl⟩ := h
  exact ⟨⟨k, by simp [strKind, Value.isStrOf], rfl⟩, rfl⟩
theorem is_key {w : World} {prog : Program} {e : Int × Value} (h : ElemS w e) (k : Str) : (strKind prog w).is k e.2 = true ↔ keyS e.2 = k := by
  obtain ⟨x, t, rfl⟩ := h
  show Value.isStrOf k (.str x t) = true ↔ x = k
  constructor
  · intro q
    obtain ⟨u, e⟩ := Value.isStrOf_shape q
    injection e
  · intro e
    subst e
    simp [Value.isStrOf]
theorem elemsOf {w : World} (prog : Program) {l : List (Int × Value)} (h : ∀ e ∈ l, ElemS w e) : ElemsOf (strKind prog w) l := fun e he => (h e he).of prog

/-- as the library has it -/
theorem SetL.setOf (prog : Program) {h : Heap} (S : SetL w h a L) : h.SetOf (strKind prog w) a (fun k => decide (k ∈ L)) L.length := by
  obtain ⟨o, es, ep, t, ho, hex, hd, hel, hp, nd, hb, hf, _, _⟩ := S
  refine ⟨o, es, ep, t, ho, hex, hd, elemsOf prog hel, fun k => ?_, hb, hf, ?_⟩
  · rw [decide_eq_true_eq, ← hp.mem_iff, List.mem_map]
    exact ⟨fun ⟨e, he, q⟩ => ⟨e, he, (is_key (hel e he) k).mpr q⟩, fun ⟨e, he, q⟩ => ⟨e, he, (is_key (hel e he) k).mp q⟩⟩
  · have := hp.length_eq
    rw [List.length_map, Array.length_toList] at this
    exact this
theorem SetL.at {h h' : Heap} (S : SetL w h a L) (k : ∀ o, h.get? a = some o → h'.get? a = some o) : SetL w h' a L := by
  obtain ⟨o, es, ep, t, ho, r⟩ := S
  exact ⟨o, es, ep, t, k o ho, r⟩
theorem SetL.there {h : Heap} (S : SetL w h a L) : ∃ o, h.get? a = some o := by
  obtain ⟨o, es, ep, t, ho, r⟩ := S
  exact ⟨o, ho⟩
/-- a new set -/
theorem newSet_L {Q : Value → Shared → Prop}
    (h : ∀ h', SetL w h' s.heap.objs.size [] → (∀ b o, s.heap.get? b = some o → h'.get? b = some o) → Q (.ref s.heap.objs.size) { s with heap := h' }) :
    wpAny (model prog w) A (newSet (.type "set")) Q E s := by
  unfold newSet setsByText
  refine wpAny_bind (wpAny_bind (wpAny_askSetting (wpAny_pure ?_)))
  dsimp only
  simp only [newObj]
  refine wpAny_bind (wpAny_alloc (wpAny_pure (h _ ⟨_, #[], 0, _, Heap.get?_push_size _ rfl, ⟨rfl, rfl, rfl⟩, rfl, fun e he => by simp at he, .refl _, List.nodup_nil, by decide, by rfl, rfl, fun _ => rfl⟩ fun b o e => Heap.get?_push_of_some _ e)))

/-- the members behind one more -/
def addS (L : List Str) (x : Str) : List Str := if x ∈ L then L else L ++ [x]
theorem addS_nodup {L : List Str} {x : Str} (h : L.Nodup) : (addS L x).Nodup := by
  unfold addS
  split
  · exact h
  · rename_i hx
    rw [List.nodup_append]
    refine ⟨h, by simp, fun a ha b hb => ?_⟩
    rw [List.mem_singleton] at hb
    subst hb
    exact fun e => hx (e ▸ ha)
theorem mem_addS {L : List Str} {x y : Str} : y ∈ addS L x ↔ y ∈ L ∨ y = x := by
  unfold addS
  split
  · rename_i hx
    exact ⟨.inl, fun z => z.elim id fun e => e ▸ hx⟩
  · rw [List.mem_append, List.mem_singleton]

theorem addHashed_L {x : Str} {t₀ : Tok} {Q : Bool → Shared → Prop} (S : SetL w s.heap a L) (hroom : L.length + 1 < scanBound)
    (h : ∀ h', Heap.SameBut a s.heap h' → SetL w h' a (addS L x) → Q (!decide (x ∈ L)) { s with heap := h' }) :
    wpAny (model prog w) A (setAddHashed a (.str x t₀) (hashStr w x)) Q E s := by
  have hkey : (strKind prog w).is x (.str x t₀) = true := by simp [strKind, Value.isStrOf]
  obtain ⟨o, es, ep, t, ho, hex, hd, hel, hp, nd, hb, hf, hled, hpl⟩ := id S
  have hn : es.size = L.length := by
    have := hp.length_eq
    rw [List.length_map, Array.length_toList] at this
    exact this
  have hb1 : es.size + 1 < scanBound := by rw [hn]; exact hroom
  unfold setAddHashed setAddHashedIn
  refine wpAny_holding (wpAny_bind (wpAny_setState_of ho hd hf ?_))
  dsimp only
  rw [byScan_of (knd := strKind prog w) rfl hb (elemsOf prog hel)]
  simp only [↓reduceIte]
  unfold setAddByScan
  refine wpAny_bind ?_
  refine wpAny_bind (wpAny_rule ?_)
  refine wpAny_bind (wpAny_setScan_of (knd := strKind prog w) (k := x) hkey ho hd hf (elemsOf prog hel) ?_)
  cases hr : List.findIdx? (fun e => (strKind prog w).is x e.2) es.toList with
  | some j =>
    dsimp only
    obtain ⟨hj, hpj, _⟩ := List.findIdx?_eq_some_iff_getElem.mp hr
    have hx : x ∈ L := by
      rw [← hp.mem_iff, List.mem_map]
      exact ⟨_, List.getElem_mem hj, (is_key (hel _ (List.getElem_mem hj)) x).mp hpj⟩
    refine wpAny_pure (wpAny_pure ?_)
    have e : s = { s with heap := s.heap } := by cases s; rfl
    have q := h s.heap (Heap.SameBut.refl a s.heap) (by rw [addS, if_pos hx]; exact S)
    rw [decide_eq_true hx] at q
    rw [e]
    exact q
  | none =>
    dsimp only
    have hx : ¬ x ∈ L := by
      rw [← hp.mem_iff, List.mem_map]
      rintro ⟨e, he, q⟩
      have z := List.findIdx?_eq_none_iff.mp hr e he
      rw [(is_key (hel e he) x).mpr q] at z
      cases z
    have hgw : ∀ (b : Bool) {s₁ : Shared} {Q' : Unit → Shared → Prop}, Q' () s₁ → wpAny (model prog w) A (match b with | true => rule "set.scan.the-table-gave-way" | false => pure ()) Q' E s₁ :=
      fun b s₁ Q' hq => by cases b <;> first | exact wpAny_pure hq | exact wpAny_rule hq
    have hperm := layNew_perm t es (hashStr w x) (.str x t₀)
    have hfits := layNew_fits t es (hashStr w x) (.str x t₀)
    have hledN := layNew_led t es (hashStr w x) (.str x t₀)
    have hplN := layNew_plain t es (hashStr w x) (.str x t₀)
    generalize hL : layNew t es (hashStr w x) (.str x t₀) = L0 at hperm hfits hledN hplN ⊢
    obtain ⟨es1, t1, wasDummy, gave⟩ := L0
    dsimp only at hperm hfits hledN hplN ⊢
    rw [Array.toList_push] at hperm
    have hel1 : ∀ e ∈ es1.toList, ElemS w e := fun e he => by
      rcases List.mem_append.mp (hperm.mem_iff.mp he) with z | z
      · exact hel e z
      · rw [List.mem_singleton] at z
        exact ⟨x, t₀, z⟩
    have hp1 : (es1.toList.map fun e => keyS e.2).Perm (L ++ [x]) := by
      refine (hperm.map _).trans ?_
      rw [List.map_append]
      exact hp.append_right _
    have hsz1 : es1.size = es.size + 1 := by rw [← Array.length_toList, hperm.length_eq, List.length_append, Array.length_toList]; rfl
    have hb1' : es1.size < scanBound := by rw [hsz1]; exact hb1
    have nd1 : (L ++ [x]).Nodup := by
      have := addS_nodup (x := x) nd
      rw [addS, if_neg hx] at this
      exact this
    refine wpAny_bind (hgw _ ?_)
    -- the store, and the table laid anew
    have tail : ∀ t2 : SetTable, t2.fits es1.size = true → t2.led = t.led → t2.plain = false → wpAny (model prog w) A (do
        storeSet a es1 t2
        if (!wasDummy && t2.tooFull) = true then do
            (match (relayAll t2 es1 (SetTable.grown es1.size)).2.2 with | true => rule "set.scan.the-table-gave-way" | false => pure ())
            storeSet a (relayAll t2 es1 (SetTable.grown es1.size)).1 (relayAll t2 es1 (SetTable.grown es1.size)).2.1
            pure (some true)
          else pure (some true)) (fun r s' => r = some true ∧ ∃ h', s' = { s with heap := h' } ∧ Heap.SameBut a s.heap h' ∧ SetL w h' a (L ++ [x])) E s := by
      intro t2 f2 l2 p2
      refine wpAny_bind (wpAny_storeSet_of ho hd ?_ (fits_of_scanBound hb1'))
      have hsb1 := Heap.SameBut.update s.heap a (Obj.putSet es1 t2)
      have ho1 : (s.heap.update a (Obj.putSet es1 t2)).get? a = some { o with data := .set es1 (ep + 1) t2 } := by
        have := Heap.get?_update_self (Obj.putSet es1 t2) ho (by rw [putSet_of es1 t2 hd]; rfl)
        rw [putSet_of es1 t2 hd] at this; exact this
      have fin : ∀ {h1 : Heap} {o1 : Obj} {e2 : Array (Int × Value)} {n2 : Nat} {t3 : SetTable}, h1.get? a = some o1 → o1.ExactSet → o1.data = .set e2 n2 t3 → e2.toList.Perm es1.toList → t3.fits e2.size = true → t3.led = t.led → t3.plain = false → SetL w h1 a (L ++ [x]) := by
        intro h1 o1 e2 n2 t3 q1 q2 q3 pq q4 q5 q6
        refine ⟨o1, e2, n2, t3, q1, q2, q3, fun e he => hel1 e (pq.mem_iff.mp he), (pq.map _).trans hp1, nd1, ?_, q4, q5.trans hled, fun z => by rw [q6] at z; cases z⟩
        have : e2.size = es1.size := by rw [← Array.length_toList, pq.length_eq, Array.length_toList]
        rw [this]; exact hb1'
      split
      · have hpr := relayAll_perm t2 es1 (SetTable.grown es1.size)
        have hfr := relayAll_fits t2 es1 (SetTable.grown es1.size)
        have hlr := relayAll_led t2 es1 (SetTable.grown es1.size)
        have hplr := relayAll_plain t2 es1 (SetTable.grown es1.size) p2
        generalize hRl : relayAll t2 es1 (SetTable.grown es1.size) = Rl at hpr hfr hlr hplr ⊢
        obtain ⟨es2, t3, gave2⟩ := Rl
        dsimp only at hpr hfr hlr hplr ⊢
        have hsz : es2.size = es1.size := by rw [← Array.length_toList, hpr.length_eq, Array.length_toList]
        have hb2 : es2.size < scanBound := by rw [hsz]; exact hb1'
        refine wpAny_bind (hgw _ ?_)
        refine wpAny_bind (wpAny_storeSet_of ho1 rfl ?_ (fits_of_scanBound hb2))
        have ho2 := Heap.get?_update_self (Obj.putSet es2 t3) ho1 (by rw [putSet_of es2 t3 rfl]; rfl)
        rw [putSet_of es2 t3 rfl] at ho2
        exact wpAny_pure ⟨rfl, _, rfl, hsb1.trans (Heap.SameBut.update _ a _), fin ho2 hex rfl hpr hfr (hlr.trans l2) hplr⟩
      · exact wpAny_pure ⟨rfl, _, rfl, hsb1, fin ho1 hex rfl (.refl _) f2 l2 p2⟩
    have done : ∀ r s', (r = some true ∧ ∃ h', s' = { s with heap := h' } ∧ Heap.SameBut a s.heap h' ∧ SetL w h' a (L ++ [x])) → r = some true ∧ Q true s' := by
      rintro r s' ⟨rfl, h', rfl, hs, S'⟩
      have q := h h' hs (by rw [addS, if_neg hx]; exact S')
      rw [decide_eq_false hx] at q
      exact ⟨rfl, q⟩
    split
    · rename_i hp1'
      refine wpAny_bind ?_
      rw [hashByValue_scannable 8 (show (Value.str x t₀).scannable = true from rfl)]
      refine wpAny_pure ?_
      refine wpAny_mono (tail _ ?_ ?_ ?_) (fun r s' q => ?_) fun _ _ e => e
      · exact SetTable.fits_plain_off hfits
      · exact hledN
      · rfl
      · obtain ⟨rfl, q'⟩ := done r s' q
        exact wpAny_pure q'
    · rename_i hp1'
      refine wpAny_bind (wpAny_pure ?_)
      simp only [↓reduceIte]
      refine wpAny_mono (tail t1 hfits hledN (by cases z : t1.plain with | false => rfl | true => exact absurd z hp1')) (fun r s' q => ?_) fun _ _ e => e
      obtain ⟨rfl, q'⟩ := done r s' q
      exact wpAny_pure q'

theorem find_L {x : Str} {t₀ : Tok} {Q : Option Nat → Shared → Prop} (S : SetL w s.heap a L) (h : ∀ r : Option Nat, r.isSome = decide (x ∈ L) → Q r s) :
    wpAny (model prog w) A (setFind a (.str x t₀) (hashStr w x)) Q E s :=
  wpAny_setFind_of (knd := strKind prog w) (k := x) (by simp [strKind, Value.isStrOf]) rfl (S.setOf prog) h
end
end SL
namespace SL
open PySem PySem.Spec

/-- the members of the first i values, each once -/
def metS (val : Nat → Str) (i : Nat) : List Str := ((List.range i).map val).foldl addS []
theorem metS_succ (val : Nat → Str) (i : Nat) : metS val (i + 1) = addS (metS val i) (val i) := by
  unfold metS; rw [List.range_succ, List.map_append, List.foldl_append]; rfl
theorem addS_len (L : List Str) (x : Str) : (addS L x).length ≤ L.length + 1 := by
  unfold addS; split
  · omega
  · simp
theorem metS_len (val : Nat → Str) : ∀ i, (metS val i).length ≤ i
  | 0 => Nat.le_refl _
  | i + 1 => by
    rw [metS_succ]
    have := addS_len (metS val i) (val i)
    have := metS_len val i
    omega
/-- the members of a list, each once, in the order in which they come first -/
def onceS (ss : List Str) : List Str := ss.foldl addS []
theorem mem_foldS : ∀ (ss L : List Str) (x : Str), x ∈ ss.foldl addS L ↔ x ∈ L ∨ x ∈ ss
  | [], L, x => by simp
  | y :: r, L, x => by
    rw [List.foldl_cons, mem_foldS r, mem_addS, List.mem_cons, or_assoc]
theorem nodup_foldS : ∀ (ss L : List Str), L.Nodup → (ss.foldl addS L).Nodup
  | [], L, h => h
  | y :: r, L, h => nodup_foldS r _ (addS_nodup h)
theorem mem_onceS {ss : List Str} {x : Str} : x ∈ onceS ss ↔ x ∈ ss := by
  unfold onceS; rw [mem_foldS]; simp
theorem nodup_onceS (ss : List Str) : (onceS ss).Nodup := nodup_foldS ss [] List.nodup_nil
theorem len_foldS : ∀ (ss L : List Str), (ss.foldl addS L).length ≤ L.length + ss.length
  | [], L => by simp
  | y :: r, L => by
    have h1 := len_foldS r (addS L y)
    have h2 := addS_len L y
    rw [List.foldl_cons, List.length_cons]
    omega
theorem len_onceS (ss : List Str) : (onceS ss).length ≤ ss.length := by
  have := len_foldS ss []
  simpa [onceS] using this
theorem metS_once (ss : List Str) : metS (fun i => ss.getD i Str.empty) ss.length = onceS ss := by
  unfold metS onceS
  have e : (List.range ss.length).map (fun i => ss.getD i Str.empty) = ss := by
    apply List.ext_getElem
    · simp
    · intro i h1 h2
      simp only [List.getElem_map, List.getElem_range]
      rw [List.getD_eq_getElem?_getD, List.getElem?_eq_getElem h2]
      rfl
  rw [e]

section
variable {prog : Program} {w : World} {A : Around} {R : Result → Shared → Prop} {I : Addr} {fp wr : List Addr} {G : Array GenState → Array GenState → Prop} {n : Nat} {P : Nat → Value → Prop} {St : Nat → Shared → Prop}

theorem update_loop_L (W : WalksS prog w A.in1 I fp wr G n P St) (S : Addr) (hSf : S ∉ fp)
    (val : Nat → Str) (hval : ∀ i v, P i v → ∃ t, v = .str (val i) t) (hb : n + 1 < scanBound) :
    ∀ (k i : Nat) (s : Shared), n - i = k → i ≤ n → St i s → SetL w s.heap S (metS val i) →
      (∀ s', Moved (S :: wr) G s s' → SetL w s'.heap S (metS val n) → R (.ok (.ret .none)) s') →
      codeAny (model prog w) A (.builtin "set.update.loop" ⟨[.ref S, .ref I], []⟩) R s := by
  have hSw : S ∉ wr := fun h => hSf (W.sub _ h)
  have hsub : ∀ b ∈ wr, b ∈ S :: wr := fun b hb => List.mem_cons_of_mem _ hb
  intro k
  induction k with
  | zero =>
    intro i s hk hi hst hS hR
    have hin : i = n := by omega
    subst hin
    refine codeAny_builtin PyProof.Rows.F.entry_set_update_loop ?_
    rw [Around.under_plainId PyProof.Rows.F.plain_set_update_loop _]
    show wpAny _ A.in1 (pyNext (.ref I) >>= _) _ _ s
    refine wpAny_bind (W.done s _ _ hst fun s' hm => ?_)
    show wpAny _ A.in1 (ret Value.none) _ _ s'
    exact wpAny_pure (hR s' (hm.mono hsub) (hS.at fun o e => hm.heap S _ hSw e))
  | succ k ih =>
    intro i s hk hi hst hS hR
    have hlt : i < n := by omega
    refine codeAny_builtin PyProof.Rows.F.entry_set_update_loop ?_
    rw [Around.under_plainId PyProof.Rows.F.plain_set_update_loop _]
    show wpAny _ A.in1 (pyNext (.ref I) >>= _) _ _ s
    refine wpAny_bind (W.item i s _ _ hlt hst fun v s' hP hst' hm => ?_)
    obtain ⟨t, rfl⟩ := hval i v hP
    have hS' : SetL w s'.heap S (metS val i) := hS.at fun o e => hm.heap S _ hSw e
    show wpAny _ A.in1 (holding [Value.str (val i) t] (setAdd S (.str (val i) t)) >>= _) _ _ s'
    refine wpAny_bind (wpAny_holding ?_)
    unfold setAdd
    refine wpAny_holding ?_
    refine wpAny_bind ((strKind prog w).pyHash (k := val i) (by simp [strKind, Value.isStrOf]) ?_)
    have hroom : (metS val i).length + 1 < scanBound := by have := metS_len val i; omega
    refine addHashed_L (x := val i) (t₀ := t) (s := { s' with toks := s'.toks + 1 }) hS' hroom fun h' hsb hS2 => ?_
    rw [← metS_succ] at hS2
    refine wpAny_pure ⟨plainId_quiet PyProof.Rows.F.plain_set_update_loop _, ih (i + 1) _ (by omega) hlt (W.frame _ s' _ _ hst' (Nat.le_succ _) fun b hb o e => ?_) hS2 fun s'' hm'' hS'' => ?_⟩
    · rw [hsb.2 b (fun h : b = S => hSf (by rw [← h]; exact hb))]; exact e
    · refine hR s'' (Moved.trans W.gtrans ((hm.mono hsub).then_heap (Nat.le_succ _) fun b o hb e => ?_) hm'') hS''
      rw [hsb.2 b (fun h : b = S => hb (by rw [h]; exact List.mem_cons_self))]; exact e
end

section
variable {prog : Program} {w : World} {A : Around} {E : Value → Shared → Prop} {s : Shared}
abbrev newSetObj (w : World) : Obj := { cls := .type "set", dict := none, data := .set #[] 0 (.fresh 0 0 (!w.params.followText "set-order")) }
theorem fresh_L {h : Heap} {a : Addr} (e : h.get? a = some (newSetObj w)) : SetL w h a [] :=
  ⟨_, #[], 0, _, e, ⟨rfl, rfl, rfl⟩, rfl, fun e he => by simp at he, .refl _, List.nodup_nil, by decide, by rfl, rfl, fun _ => rfl⟩

theorem code_set_new_L (a : Value) {Q₁ : Value → Shared → Prop} (h : Q₁ (.ref s.heap.objs.size) { s with heap := s.heap.push (newSetObj w) }) :
    codeAny (model prog w) A (.call (.builtin "set.__new__") ⟨[.type "set", a], []⟩) (wants Q₁ E) s := by
  refine codeAny_of_tree ?_
  show wpAny _ A.in1 (do checkBuiltinCall "set.__new__" ⟨[.type "set", a], []⟩; again (.builtin "set.__new__" ⟨[.type "set", a], []⟩)) _ _ s
  refine wpAny_bind (wpAny_of_eq (F.newCall_set_1 a) (wpAny_pure ⟨plainId_quiet F.plain_set_new _, codeAny_builtin F.entry_set_new ?_⟩))
  rw [Around.under_plainId F.plain_set_new _]
  unfold Builtin.«set.__new__» Builtin.Frozenset.newClass
  have hsub := sub_set_self
  obtain ⟨hp, g, d, tk, os⟩ := s
  dsimp only
  wp_walk
  refine wpAny_askSetting (wpAny_pure ?_)
  dsimp only
  simp only [newObj]
  refine wpAny_bind (wpAny_alloc (wpAny_pure ?_))
  exact wpAny_pure h

set_option maxHeartbeats 8000000 in
/-- set(xs), xs a list of texts -/
theorem call_set_strs {l : Addr} {items : Array Value} {ss : List Str} {Q : Value → Shared → Prop}
    (hh : A.handled = none) (hl : s.heap.IsList l items) (hi : ∀ (i : Nat) (v : Value), items[i]? = some v → ∃ t, v = .str (ss.getD i Str.empty) t) (hn : items.size = ss.length) (hb : items.size + 1 < scanBound)
    (h : ∀ (h' : Heap) (tk : Nat), SetL w h' s.heap.objs.size (onceS ss) →
      (∀ b o, b < s.heap.objs.size → s.heap.get? b = some o → h'.get? b = some o) → Q (.ref s.heap.objs.size) { s with heap := h', toks := tk }) :
    wpAny (model prog w) A (call (.type "set") [.ref l]) Q E s := by
  obtain ⟨c, tl, hmro⟩ := F.called_set.mro
  have hmade := F.called_set.made
  have hsub := F.called_set.sub
  refine wpAny_call (codeAny_of_tree ?_)
  show wpAny _ _ (callAny (.type "set") _) _ _ _
  refine wpAny_pure ⟨Code.quiet_builtin _ (by decide +kernel), codeAny_builtin F.entry_type_call ?_⟩
  rw [Around.under_plain (weight_type_call_type "set" [.ref l] []) rfl]
  have h1 := F.called_set.notType
  have h2 := F.called_set.canCreate
  have hct := F.typeCall_set_1 (.ref l)
  repeat (any_goals (first | assumption | wp_step))
  refine codeAny_mono (code_set_new_L (.ref l) (E := E) (Q₁ := fun obj s₁ => obj = .ref s.heap.objs.size ∧ s₁ = { s with heap := s.heap.push (newSetObj w) }) ⟨rfl, rfl⟩) fun r s₁ hr => ?_
  cases r with
  | error e => exact hr
  | ok fl =>
    cases fl with
    | ret obj =>
      obtain ⟨rfl, rfl⟩ := hr
      have hS : (s.heap.push (newSetObj w)).get? s.heap.objs.size = some (newSetObj w) := Heap.get?_push_size _ rfl
      have hT : Shared.TypeIs { s with heap := s.heap.push (newSetObj w) } (.ref s.heap.objs.size) "set" := ⟨_, hS, rfl⟩
      have hli := F.called_set.init.lookup
      have hbi := F.called_set.init.bind (.ref s.heap.objs.size)
      repeat (any_goals (first | assumption | wp_step))
      refine codeAny_mono (codeAny_call_builtin (R := wants (fun r s₂ => r = .none ∧ ∃ h' tk, s₂ = { s with heap := h', toks := tk } ∧ SetL w h' s.heap.objs.size (onceS ss) ∧
          (∀ b o, b < s.heap.objs.size → s.heap.get? b = some o → h'.get? b = some o)) E) F.called_set.init.plain F.entry_set_init (check_set_init_1 hT ?_)) fun r₂ s₂ hr₂ => ?_
      · obtain ⟨ol, hol, hcl, nl, hdl⟩ := hl
        obtain ⟨ocls, odict, odata, oslots⟩ := ol
        simp only at hcl hdl
        subst hcl; subst hdl
        have hol' : (s.heap.push (newSetObj w)).get? l = some { cls := .type "list", dict := odict, data := .seq items nl, slots := oslots } := Heap.get?_push_of_some _ hol
        have hsls := F.sub_list_set
        have hslf := F.sub_list_frozenset
        have hne : (Value.type "list" == Value.type "dict") = false := by decide
        have hl1 : (s.heap.push (newSetObj w)).IsList l items := ⟨_, hol', rfl, nl, rfl⟩
        unfold Builtin.«set.__init__» noKeywords Builtin.Frozenset.updateFrom
        generalize hPI : pyIter = PI
        wp_walk
        subst hPI
        refine wpAny_pyIter_list hl1 ?_
        refine wpAny_bind (wpAny_runValue ?_)
        have hlS : l < s.heap.objs.size := Heap.lt_size hol
        have hh3 : A.in1.in1.in1.handled = none := by simp [hh]
        have hneI : l ≠ (s.heap.push (newSetObj w)).objs.size := by
          rw [Heap.size_push]; exact Nat.ne_of_lt (Nat.lt_succ_of_lt hlS)
        have hSf : s.heap.objs.size ∉ [(s.heap.push (newSetObj w)).objs.size, l] := by
          rw [Heap.size_push]; simp only [List.mem_cons, List.mem_singleton, List.not_mem_nil, or_false, not_or]
          exact ⟨Nat.ne_of_lt (Nat.lt_succ_self _), Nat.ne_of_gt hlS⟩
        refine update_loop_L ((Walks.list hh3 _ l hneI items).toS) s.heap.objs.size
          hSf (fun i => ss.getD i Str.empty) hi hb (items.size - 0) 0 _ (by omega) (Nat.zero_le _)
          ⟨⟨_, Heap.get?_push_size _ rfl, rfl, rfl⟩, (hl1.push _)⟩ ?hS0 ?hR
        case hS0 => exact fresh_L (Heap.get?_push_of_some _ hS)
        case hR =>
          intro s' hm hS'
          rw [hn, metS_once] at hS'
          obtain ⟨h', g', d', tk', os'⟩ := s'
          have eg : g' = s.gens := hm.gens
          have ed : d' = s.drawn := hm.drawn
          have eo : os' = s.os := hm.os
          subst eg; subst ed; subst eo
          show wpAny _ _ _ _ _ _
          refine wpAny_pure ?_
          show wpAny _ _ (ret Value.none) _ _ _
          refine wpAny_pure ⟨rfl, h', tk', rfl, hS', fun b o hb e => ?_⟩
          have hb1 : b ≠ s.heap.objs.size := Nat.ne_of_lt hb
          have hb2 : b ≠ (s.heap.push (newSetObj w)).objs.size := by
            rw [Heap.size_push]; exact Nat.ne_of_lt (Nat.lt_succ_of_lt hb)
          exact hm.heap b o (by simp only [List.mem_cons, List.mem_singleton, List.not_mem_nil, or_false, not_or]; exact ⟨hb1, hb2⟩) (Heap.get?_push_of_some _ (Heap.get?_push_of_some _ e))
      · cases r₂ with
        | error e => exact hr₂
        | ok fl₂ =>
          cases fl₂ with
          | ret r =>
            obtain ⟨rfl, h', tk, rfl, hS', hk'⟩ := hr₂
            repeat (any_goals (first | assumption | wp_step))
            exact h _ _ hS' hk'
          | _ => exact hr₂.elim
    | _ => exact hr.elim
end
end SL
namespace SL
open PySem

/-! ### orders -/
theorem eraseIdx_perm {α : Type} : ∀ (l : List α) (i : Nat) (h : i < l.length), (l[i] :: l.eraseIdx i).Perm l
  | [], i, h => by simp at h
  | x :: r, 0, h => .refl _
  | x :: r, i + 1, h => by
    have hi : i < r.length := by simpa using h
    have := eraseIdx_perm r i hi
    show (r[i] :: x :: r.eraseIdx i).Perm (x :: r)
    exact (List.Perm.swap _ _ _).trans (List.Perm.cons _ this)
theorem go_perm {α : Type} (next : Nat → Nat) : ∀ (fuel k : Nat) (left : List α) (out : Array α), left.length ≤ fuel → (pickOrder.go next fuel k left out).toList.Perm (out.toList ++ left)
  | 0, k, left, out, h => by
    have e : left = [] := List.length_eq_zero_iff.mp (by omega)
    subst e
    unfold pickOrder.go
    simp
  | fuel + 1, k, left, out, h => by
    unfold pickOrder.go
    cases e : left[next k % left.length]? with
    | none =>
      have hl : left.length = 0 := by
        rcases Nat.eq_zero_or_pos left.length with z | z
        · exact z
        · have := Nat.mod_lt (next k) z
          rw [List.getElem?_eq_getElem this] at e
          cases e
      have : left = [] := List.length_eq_zero_iff.mp hl
      subst this
      simp
    | some x =>
      dsimp only
      obtain ⟨hi, hx⟩ := List.getElem?_eq_some_iff.mp e
      have hlen : (left.eraseIdx (next k % left.length)).length ≤ fuel := by
        rw [List.length_eraseIdx_of_lt hi]; omega
      refine (go_perm next fuel (k + 1) _ (out.push x) hlen).trans ?_
      rw [Array.toList_push, List.append_assoc]
      refine List.Perm.append_left _ ?_
      have := eraseIdx_perm left _ hi
      rw [hx] at this
      exact this
theorem pickOrder_perm {α : Type} (next : Nat → Nat) (xs : Array α) : (pickOrder next xs).toList.Perm xs.toList := by
  unfold pickOrder
  have := go_perm next xs.size 0 xs.toList #[] (by simp)
  simpa using this

section
variable {M : Model} {A : Around} {E : Value → Shared → Prop}
theorem wpAny_choose {src : Source} {n : Nat} {s : Shared} {Q : Nat → Shared → Prop} (hn : n ≠ 0) (h : ∀ i, i < n → Q i { s with drawn := s.drawn.bump src }) : wpAny M A (choose src n) Q E s := by
  have hlt : M.w.draws src (s.drawn.get src) % n < n := Nat.mod_lt _ (Nat.pos_of_ne_zero hn)
  exact fun _ _ _ => ⟨hn, h _ hlt⟩
theorem drawOrder_perm {α : Type} : ∀ (n : Nat) (xs : List α) (s : Shared) {Q : List α → Shared → Prop}, xs.length = n → (∀ ys d, ys.Perm xs → Q ys { s with drawn := d }) → wpAny M A (drawOrder n xs) Q E s
  | 0, xs, s, Q, hl, h => by
    have e : xs = [] := List.length_eq_zero_iff.mp hl
    subst e
    exact wpAny_pure (h [] s.drawn (.refl _))
  | n + 1, [], s, Q, hl, h => by simp at hl
  | n + 1, x :: xs, s, Q, hl, h => by
    unfold drawOrder
    refine wpAny_bind (wpAny_choose (by simp) fun i hi => ?_)
    have e : (x :: xs)[i]? = some (x :: xs)[i] := List.getElem?_eq_getElem hi
    rw [e]
    dsimp only
    refine wpAny_bind (drawOrder_perm n _ _ ?_ fun ys d hp => wpAny_pure ?_)
    · rw [List.length_eraseIdx_of_lt hi]
      simp at hl ⊢
      exact hl
    · refine h _ d ?_
      exact (List.Perm.cons _ hp).trans (eraseIdx_perm (x :: xs) i hi)
end

/-! ### the table of at most one -/
theorem below_zero {xs : Array Nat} (h : xs.size ≤ 1) : SetTable.below xs 0 = 0 := by
  unfold SetTable.below
  rcases Nat.eq_zero_or_pos xs.size with z | z
  · rw [z]; rfl
  · have e : xs.size = 1 := by omega
    rw [e]
    unfold SetTable.below.go
    simp [SetTable.below.go]
theorem below_next {xs : Array Nat} (h : xs.size = 1) : SetTable.below xs (xs.getD 0 0 + 1) = 1 := by
  unfold SetTable.below
  rw [h]
  obtain ⟨j, hj⟩ : ∃ j, xs[0]? = some j := ⟨xs[0], Array.getElem?_eq_getElem (by omega)⟩
  have e1 : xs.getD 0 0 = j := by rw [Array.getD_eq_getD_getElem?, hj]; rfl
  have e2 : xs.getD 0 (j + 1) = j := by rw [Array.getD_eq_getD_getElem?, hj]; rfl
  rw [e1]
  unfold SetTable.below.go
  simp only [Nat.zero_lt_one, if_true, Nat.zero_add, show 1 / 2 = 0 from rfl, e2, Nat.lt_succ_self]
  unfold SetTable.below.go
  rfl

/-! ### the iterator of a set -/
theorem slot_si_next : Slot "set_iterator" "__next__" "set_iterator.__next__" :=
  .of (owner := "set_iterator") (n := "__next__") (by rw [typeLookup_type, builtinLookup_eq_fast]; kernel_rfl) (by decide +kernel) (by decide +kernel) (by decide +kernel)
    (by first | exact .inl (by decide +kernel) | exact .inr (by decide +kernel)) (by rw [isSubtype_type]; kernel_rfl)
theorem entry_si_next : entryFor table "set_iterator.__next__" = some Builtin.«set_iterator.__next__» := entryFor_of_tree (by kernel_rfl)
theorem owner_si : Manifest.owners.lookup (String.ofList ['r', 'o', 't', 'a', 'r', 'e', 't', 'i', '_', 't', 'e', 's'].reverse) = some Manifest.sig_set_iterator := by kernel_rfl
theorem args_si_next (a : Value) : argsOk "set_iterator.__next__" ⟨[a], []⟩ := by
  unfold argsOk; rw [signature?_of (id := "set_iterator.__next__") (n := ['_', '_', 't', 'x', 'e', 'n', '_', '_']) (o := ['r', 'o', 't', 'a', 'r', 'e', 't', 'i', '_', 't', 'e', 's']) (by kernel_rfl) owner_si]; kernel_rfl
theorem slot_si_iter : Slot "set_iterator" "__iter__" "set_iterator.__iter__" :=
  .of (owner := "set_iterator") (n := "__iter__") (by rw [typeLookup_type, builtinLookup_eq_fast]; kernel_rfl) (by decide +kernel) (by decide +kernel) (by decide +kernel)
    (by first | exact .inl (by decide +kernel) | exact .inr (by decide +kernel)) (by rw [isSubtype_type]; kernel_rfl)
theorem entry_si_iter : entryFor table "set_iterator.__iter__" = some Builtin.«dict_keyiterator.__iter__» := entryFor_alias (id' := "dict_keyiterator.__iter__") (by kernel_rfl) rfl (by decide +kernel) (by kernel_rfl)
theorem args_si_iter (a : Value) : argsOk "set_iterator.__iter__" ⟨[a], []⟩ := by
  unfold argsOk; rw [signature?_of (id := "set_iterator.__iter__") (n := ['_', '_', 'r', 'e', 't', 'i', '_', '_']) (o := ['r', 'o', 't', 'a', 'r', 'e', 't', 'i', '_', 't', 'e', 's']) (by kernel_rfl) owner_si]; kernel_rfl
theorem entry_set_iter : entryFor table "set.__iter__" = some Builtin.«frozenset.__iter__» := entryFor_alias (id' := "frozenset.__iter__") (by kernel_rfl) rfl (by decide +kernel) (by kernel_rfl)

/-- how the iterator at I stands, i members given of those in the order vs; tp: the tuple of places (or the set itself) -/
inductive SIt (w : World) (h : Heap) (I a tp : Addr) (vs : List Value) (i : Nat) : Prop where
  | txt {o : Obj} {es : Array (Int × Value)} {ep : Nat} {t : SetTable} {sl : Int} (ho : h.get? a = some o) (hd : o.data = .set es ep t) (hf : t.fits es.size = true) (by_ : w.params.followText "set-order" = true)
      (hv : vs = (pickOrder (w.params.setOrder a ep) es).toList.map (·.2)) (hI : h.get? I = some { cls := .type "set_iterator", data := .fields #[.int sl 0, .int i 0, .ref a, .int es.size 0, .int ep 0] }) : SIt w h I a tp vs i
  | drw {o : Obj} {es : Array (Int × Value)} {ep : Nat} {t : SetTable} {ps : List Nat} (ho : h.get? a = some o) (hd : o.data = .set es ep t) (hf : t.fits es.size = true)
      (hv : vs.map some = ps.map fun p => (es[p]?).map (·.2)) (ht : h.get? tp = some { cls := .type "tuple", data := .seq (ps.map fun (p : Nat) => rawInt p).toArray })
      (hI : h.get? I = some { cls := .type "set_iterator", data := .fields #[.ref tp, .int i 0, .ref a, .int es.size 0, .int ep 0] }) : SIt w h I a tp vs i
  | one {o : Obj} {es : Array (Int × Value)} {ep : Nat} {t : SetTable} (ho : h.get? a = some o) (hd : o.data = .set es ep t) (hf : t.fits es.size = true) (by_ : w.params.followText "set-order" = false) (hl : t.led = true) (hz : es.size ≤ 1)
      (hv : vs = es.toList.map (·.2)) (hI : h.get? I = some { cls := .type "set_iterator", data := .fields #[.int (if i = 0 then 0 else (t.place.getD 0 0 : Nat) + 1) 0, .int i 0, .ref a, .int es.size 0, .int ep 0] }) : SIt w h I a tp vs i

theorem SIt.keep {w : World} {h h' : Heap} {I a tp : Addr} {vs : List Value} {i : Nat} (x : SIt w h I a tp vs i) (k : ∀ b ∈ [I, a, tp], ∀ o, h.get? b = some o → h'.get? b = some o) : SIt w h' I a tp vs i := by
  have kI := k I (by simp)
  have ka := k a (by simp)
  have kt := k tp (by simp)
  cases x with
  | txt ho hd hf b hv hI => exact .txt (ka _ ho) hd hf b hv (kI _ hI)
  | drw ho hd hf hv ht hI => exact .drw (ka _ ho) hd hf hv (kt _ ht) (kI _ hI)
  | one ho hd hf b hl hz hv hI => exact .one (ka _ ho) hd hf b hl hz hv (kI _ hI)
theorem SIt.typeIs {w : World} {s : Shared} {I a tp : Addr} {vs : List Value} {i : Nat} (x : SIt w s.heap I a tp vs i) : s.TypeIs (.ref I) "set_iterator" := by
  cases x with
  | txt ho hd hf b hv hI => exact ⟨_, hI, rfl⟩
  | drw ho hd hf hv ht hI => exact ⟨_, hI, rfl⟩
  | one ho hd hf b hl hz hv hI => exact ⟨_, hI, rfl⟩

section
variable {prog : Program} {w : World} {A : Around} {E : Value → Shared → Prop} {s : Shared} {I a tp : Addr} {vs : List Value} {i : Nat}

theorem setWalk_txt {o : Obj} {es : Array (Int × Value)} {ep : Nat} {t : SetTable} {Q : Array (Int × Value) → Shared → Prop} (ho : s.heap.get? a = some o) (hd : o.data = .set es ep t) (hf : t.fits es.size = true) (b : w.params.followText "set-order" = true)
    (h : Q (pickOrder (w.params.setOrder a ep) es) s) : wpAny (model prog w) A (setWalk a) Q E s := by
  unfold setWalk setsByText
  refine wpAny_bind (wpAny_setState_of ho hd hf ?_)
  dsimp only
  refine wpAny_bind (wpAny_bind (wpAny_askSetting (wpAny_pure ?_)))
  show wpAny _ _ (if (w.params.followText "set-order") = true then _ else _) _ _ _
  rw [if_pos b]
  exact wpAny_bind (wpAny_askSetting (wpAny_pure h))

/-- the next member -/
theorem si_item {v : Value} {Q : Option Value → Shared → Prop} (x : SIt w s.heap I a tp vs i) (hIa : I ≠ a) (hIt : I ≠ tp) (hv : vs[i]? = some v)
    (h : ∀ h', SIt w h' I a tp vs (i + 1) → (∀ b o, b ≠ I → s.heap.get? b = some o → h'.get? b = some o) → Q (some v) { s with heap := h' }) : wpAny (model prog w) A (pyNext (.ref I)) Q E s := by
  unfold pyNext
  refine wpAny_bind (wpAny_attempt (wpAny_callSpecial?_slot (name := Str.ofString "__next__") x.typeIs slot_si_next
    (wpAny_call_entry slot_si_next x.typeIs entry_si_next ?_ (args_si_next _))))
  unfold Builtin.«set_iterator.__next__»
  refine wpAny_bind (wpAny_pure ?_)
  cases x with
  | @txt o es ep t sl ho hd hf b hve hI =>
    refine wpAny_bind (wpAny_fieldsOf hI rfl ?_)
    dsimp only
    refine wpAny_bind (wpAny_setEntries_of ho hd hf ?_)
    rw [if_neg (by simp)]
    unfold setNext setsByText
    refine wpAny_bind (wpAny_bind (wpAny_setState_of ho hd hf ?_))
    dsimp only
    refine wpAny_bind (wpAny_bind (wpAny_askSetting (wpAny_pure ?_)))
    show wpAny _ _ (if (w.params.followText "set-order") = true then _ else _) _ _ _
    rw [if_pos b, if_neg (by simp)]
    refine wpAny_bind (setWalk_txt ho hd hf b (wpAny_pure ?_))
    have e : ((pickOrder (w.params.setOrder a ep) es)[(i : Int).toNat]?).map (fun e => (e.2, (sl).toNat)) = some (v, sl.toNat) := by
      rw [hve, List.getElem?_map, Array.getElem?_toList] at hv
      rw [Int.toNat_natCast]
      cases q : (pickOrder (w.params.setOrder a ep) es)[i]? with
      | none => rw [q] at hv; cases hv
      | some z =>
        rw [q] at hv
        have hv : some z.2 = some v := hv
        injection hv with hv
        rw [← hv]; rfl
    rw [e]
    dsimp only
    refine wpAny_bind (wpAny_setField hI rfl (by simp) ?_)
    have hI1 := Heap.get?_update_self (Obj.mapFields (·.setIfInBounds 0 (rawInt sl.toNat))) hI rfl
    refine wpAny_bind (wpAny_setField hI1 rfl (by simp [Obj.mapFields]) ?_)
    have hI2 := Heap.get?_update_self (Obj.mapFields (·.setIfInBounds 1 (rawInt ((i : Int) + 1)))) hI1 rfl
    have oth : ∀ b o, b ≠ I → s.heap.get? b = some o → ((s.heap.update I (Obj.mapFields (·.setIfInBounds 0 (rawInt sl.toNat)))).update I (Obj.mapFields (·.setIfInBounds 1 (rawInt ((i : Int) + 1))))).get? b = some o := fun b o hb e =>
      (Heap.get?_update_other _ _ (Ne.symm hb)).trans ((Heap.get?_update_other _ _ (Ne.symm hb)).trans e)
    refine wpAny_pure ⟨_, rfl, wpAny_pure (h _ (.txt (oth _ _ (Ne.symm hIa) ho) hd hf b hve (sl := sl.toNat) ?_) oth)⟩
    exact hI2
  | @drw o es ep t ps ho hd hf hve ht hI =>
    refine wpAny_bind (wpAny_fieldsOf hI rfl ?_)
    dsimp only
    refine wpAny_bind (wpAny_setEntries_of ho hd hf ?_)
    rw [if_neg (by simp)]
    refine wpAny_bind (wpAny_seqItems ht rfl ?_)
    dsimp only
    have hp : ∃ p, ps[i]? = some p ∧ ∃ e, es[p]? = some e ∧ e.2 = v := by
      have q := congrArg (fun l => l[i]?) hve
      simp only [List.getElem?_map] at q
      rw [hv] at q
      cases z : ps[i]? with
      | none => rw [z] at q; cases q
      | some p =>
        rw [z] at q
        have q : some (some v) = some ((es[p]?).map (·.2)) := q
        injection q with q
        cases y : es[p]? with
        | none => rw [y] at q; cases q
        | some e =>
          rw [y] at q
          have q : some v = some e.2 := q
          injection q with q
          exact ⟨p, rfl, e, y, q.symm⟩
    obtain ⟨p, hps, e, he, rfl⟩ := hp
    have e1 : ((ps.map fun (p : Nat) => rawInt p).toArray)[(i : Int).toNat]? = some (rawInt p) := by
      rw [Int.toNat_natCast, List.getElem?_toArray, List.getElem?_map, hps]; rfl
    rw [e1]
    show wpAny _ _ (setNextDrawn a (p : Int).toNat (ep : Int).toNat >>= _) _ _ _
    unfold setNextDrawn
    refine wpAny_bind (wpAny_bind (wpAny_setState_of ho hd hf ?_))
    dsimp only
    rw [if_neg (by simp), Int.toNat_natCast, he]
    dsimp only
    refine wpAny_pure ?_
    refine wpAny_bind (wpAny_setField hI rfl (by simp) ?_)
    have hI2 := Heap.get?_update_self (Obj.mapFields (·.setIfInBounds 1 (rawInt ((i : Int) + 1)))) hI rfl
    have oth : ∀ b o, b ≠ I → s.heap.get? b = some o → (s.heap.update I (Obj.mapFields (·.setIfInBounds 1 (rawInt ((i : Int) + 1))))).get? b = some o := fun b o hb e =>
      (Heap.get?_update_other _ _ (Ne.symm hb)).trans e
    refine wpAny_pure ⟨_, rfl, wpAny_pure (h _ (.drw (oth _ _ (Ne.symm hIa) ho) hd hf hve (oth _ _ (Ne.symm hIt) ht) ?_) oth)⟩
    exact hI2
  | @one o es ep t ho hd hf b hl hz hve hI =>
    have h0 : i = 0 ∧ ∃ e, es[0]? = some e ∧ e.2 = v ∧ es.size = 1 := by
      rw [hve, List.getElem?_map, Array.getElem?_toList] at hv
      cases q : es[i]? with
      | none => rw [q] at hv; cases hv
      | some e =>
        rw [q] at hv
        have hv : some e.2 = some v := hv
        injection hv with hv
        obtain ⟨hlt, _⟩ := Array.getElem?_eq_some_iff.mp q
        have : i = 0 := by omega
        subst this
        exact ⟨rfl, e, q, hv, by omega⟩
    obtain ⟨rfl, e, he, rfl, hsz⟩ := h0
    have hpl : t.place.size = 1 := by
      simp only [SetTable.fits, Bool.and_eq_true, beq_iff_eq] at hf
      rw [hf.1, hsz]
    obtain ⟨j, hj⟩ : ∃ j, t.place[0]? = some j := ⟨t.place[0], Array.getElem?_eq_getElem (by omega)⟩
    have hjd : t.place.getD 0 0 = j := by
      rw [Array.getD_eq_getD_getElem?, hj]; rfl
    refine wpAny_bind (wpAny_fieldsOf hI rfl ?_)
    dsimp only
    refine wpAny_bind (wpAny_setEntries_of ho hd hf ?_)
    rw [if_neg (by simp)]
    unfold setNext setsByText
    refine wpAny_bind (wpAny_bind (wpAny_setState_of ho hd hf ?_))
    dsimp only
    refine wpAny_bind (wpAny_bind (wpAny_askSetting (wpAny_pure ?_)))
    show wpAny _ _ (if (w.params.followText "set-order") = true then _ else _) _ _ _
    rw [if_neg (by rw [b]; decide)]
    refine wpAny_ite_split (fun hab => absurd (show (!t.plain && decide (es.size > 1)) = true from hab) (by rw [hsz]; simp)) fun _ => ?_
    refine wpAny_bind ?_
    show wpAny _ _ (if (!t.led && !es.isEmpty) = true then _ else _) _ _ _
    rw [if_neg (by rw [hl]; simp)]
    refine wpAny_pure ?_
    show wpAny (model prog w) A.in1 (pure (match es[SetTable.below t.place 0]?, t.place[SetTable.below t.place 0]? with
          | some (_, x), some j => some (x, j + 1)
          | _, _ => none)) _ _ _
    rw [below_zero (by omega), he, hj]
    refine wpAny_pure ?_
    dsimp only
    refine wpAny_bind (wpAny_setField hI rfl (by simp) ?_)
    have hI1 := Heap.get?_update_self (Obj.mapFields (·.setIfInBounds 0 (rawInt ((j + 1 : Nat) : Int)))) hI rfl
    refine wpAny_bind (wpAny_setField hI1 rfl (by simp [Obj.mapFields]) ?_)
    have hI2 := Heap.get?_update_self (Obj.mapFields (·.setIfInBounds 1 (rawInt (((0 : Nat) : Int) + 1)))) hI1 rfl
    have oth : ∀ b o, b ≠ I → s.heap.get? b = some o → ((s.heap.update I (Obj.mapFields (·.setIfInBounds 0 (rawInt ((j + 1 : Nat) : Int))))).update I (Obj.mapFields (·.setIfInBounds 1 (rawInt (((0 : Nat) : Int) + 1))))).get? b = some o := fun b o hb e =>
      (Heap.get?_update_other _ _ (Ne.symm hb)).trans ((Heap.get?_update_other _ _ (Ne.symm hb)).trans e)
    refine wpAny_pure ⟨_, rfl, wpAny_pure (h _ (.one (oth _ _ (Ne.symm hIa) ho) hd hf b hl hz hve ?_) oth)⟩
    rw [hjd]
    exact hI2

/-- behind the last member -/
theorem si_done {Q : Option Value → Shared → Prop} (hh : A.handled = none) (x : SIt w s.heap I a tp vs i) (hv : vs.length = i)
    (h : ∀ h', (∀ b o, b ≠ I → s.heap.get? b = some o → h'.get? b = some o) → Q none { s with heap := h' }) : wpAny (model prog w) A (pyNext (.ref I)) Q E s := by
  unfold pyNext
  refine wpAny_bind (wpAny_attempt (wpAny_callSpecial?_slot (name := Str.ofString "__next__") x.typeIs slot_si_next
    (wpAny_call_entry slot_si_next x.typeIs entry_si_next ?_ (args_si_next _))))
  unfold Builtin.«set_iterator.__next__»
  refine wpAny_bind (wpAny_pure ?_)
  -- the end: StopIteration
  have fin : ∀ (h1 : Heap), (∀ b o, b ≠ I → s.heap.get? b = some o → h1.get? b = some o) → wpAny (model prog w) A.in1 (newExc (.type "StopIteration") [] >>= fun e => raiseNew e)
      (fun fin s' => ∃ v, fin = PySem.Fin.done (Flow.ret v) ∧ wpAny (model prog w) A (pure (some v)) Q E s')
      (fun e s' => wpAny (model prog w) A (do if ← isInstance e (.type "StopIteration") then pure none else throw e) Q E s') { s with heap := h1 } := by
    intro h1 k
    refine wpAny_bind ?_
    simp only [newExc, newTuple]
    refine wpAny_bind (wpAny_newObj_type ?_ (by size_fits))
    refine wpAny_bind (m := firstArgMember _ _) (wpAny_of_eq (a := Value.none) (by first | rfl | (simp only [firstArgMember]; rfl)) ?_)
    refine wpAny_newObj_type ?_ (by size_fits)
    simp only [raiseNew]
    refine wpAny_bind (wpAny_handled ?_)
    rw [show A.in1.handled = none from hh]
    refine wpAny_bind (wpAny_pure (wpAny_throw ?_))
    refine wpAny_bind (wpAny_isInstance (T := "StopIteration") (b := true) ⟨_, Heap.get?_push_size _ rfl, rfl⟩ isSubtype_stop ?_)
    exact wpAny_pure (h _ fun b o hb e => Heap.get?_push_of_some _ (Heap.get?_push_of_some _ (k b o hb e)))
  have oth1 : ∀ (f : Obj → Obj) b o, b ≠ I → s.heap.get? b = some o → (s.heap.update I f).get? b = some o := fun f b o hb e => (Heap.get?_update_other _ _ (Ne.symm hb)).trans e
  cases x with
  | @txt o es ep t sl ho hd hf b hve hI =>
    refine wpAny_bind (wpAny_fieldsOf hI rfl ?_)
    dsimp only
    refine wpAny_bind (wpAny_setEntries_of ho hd hf ?_)
    rw [if_neg (by simp)]
    unfold setNext setsByText
    refine wpAny_bind (wpAny_bind (wpAny_setState_of ho hd hf ?_))
    dsimp only
    refine wpAny_bind (wpAny_bind (wpAny_askSetting (wpAny_pure ?_)))
    show wpAny _ _ (if (w.params.followText "set-order") = true then _ else _) _ _ _
    rw [if_pos b, if_neg (by simp)]
    refine wpAny_bind (setWalk_txt ho hd hf b (wpAny_pure ?_))
    have e : (pickOrder (w.params.setOrder a ep) es)[(i : Int).toNat]? = none := by
      rw [Int.toNat_natCast]
      refine Array.getElem?_eq_none ?_
      rw [← Array.length_toList, ← hv, hve, List.length_map]
      exact Nat.le_refl _
    rw [e]
    show wpAny _ _ (setField (.ref I) 2 .none >>= _) _ _ _
    refine wpAny_bind (wpAny_setField hI rfl (by simp) ?_)
    exact fin _ (oth1 _)
  | @drw o es ep t ps ho hd hf hve ht hI =>
    refine wpAny_bind (wpAny_fieldsOf hI rfl ?_)
    dsimp only
    refine wpAny_bind (wpAny_setEntries_of ho hd hf ?_)
    rw [if_neg (by simp)]
    refine wpAny_bind (wpAny_seqItems ht rfl ?_)
    dsimp only
    have hl : ps.length = i := by
      have := congrArg List.length hve
      rw [List.length_map, List.length_map] at this
      omega
    have e1 : ((ps.map fun (p : Nat) => rawInt p).toArray)[(i : Int).toNat]? = none := by
      rw [Int.toNat_natCast]
      refine Array.getElem?_eq_none ?_
      simp [hl]
    rw [e1]
    dsimp only
    refine wpAny_bind (wpAny_setField hI rfl (by simp) ?_)
    have hI1 := Heap.get?_update_self (Obj.mapFields (·.setIfInBounds 0 (rawInt 0))) hI rfl
    refine wpAny_bind (wpAny_setField hI1 rfl (by simp [Obj.mapFields]) ?_)
    exact fin _ fun b o hb e => (Heap.get?_update_other _ _ (Ne.symm hb)).trans (oth1 _ b o hb e)
  | @one o es ep t ho hd hf b hl hz hve hI =>
    have hsz : es.size = i := by rw [← hv, hve, List.length_map, Array.length_toList]
    have hpl : t.place.size = es.size := by
      simp only [SetTable.fits, Bool.and_eq_true, beq_iff_eq] at hf
      exact hf.1
    refine wpAny_bind (wpAny_fieldsOf hI rfl ?_)
    dsimp only
    refine wpAny_bind (wpAny_setEntries_of ho hd hf ?_)
    rw [if_neg (by simp)]
    unfold setNext setsByText
    refine wpAny_bind (wpAny_bind (wpAny_setState_of ho hd hf ?_))
    dsimp only
    refine wpAny_bind (wpAny_bind (wpAny_askSetting (wpAny_pure ?_)))
    show wpAny _ _ (if (w.params.followText "set-order") = true then _ else _) _ _ _
    rw [if_neg (by rw [b]; decide)]
    refine wpAny_ite_split (fun hab => absurd (show (!t.plain && decide (es.size > 1)) = true from hab) (by
      have : decide (es.size > 1) = false := decide_eq_false (by omega)
      rw [this]; simp)) fun _ => ?_
    refine wpAny_bind ?_
    show wpAny _ _ (if (!t.led && !es.isEmpty) = true then _ else _) _ _ _
    rw [if_neg (by rw [hl]; simp)]
    refine wpAny_pure ?_
    have e : es[SetTable.below t.place (if i = 0 then (0 : Int) else (t.place.getD 0 0 : Nat) + 1).toNat]? = none := by
      refine Array.getElem?_eq_none ?_
      rcases Nat.eq_zero_or_pos i with z | z
      · omega
      · have h1 : t.place.size = 1 := by omega
        rw [if_neg (by omega)]
        rw [show (((t.place.getD 0 0 : Nat) : Int) + 1).toNat = t.place.getD 0 0 + 1 from by omega, below_next h1]
        exact hz
    rw [e]
    refine wpAny_pure ?_
    show wpAny _ _ (setField (.ref I) 2 .none >>= _) _ _ _
    refine wpAny_bind (wpAny_setField hI rfl (by simp) ?_)
    exact fin _ (oth1 _)

theorem si_self {Q : Value → Shared → Prop} (x : SIt w s.heap I a tp vs i) (h : Q (.ref I) s) : wpAny (model prog w) A (pyIter (.ref I)) Q E s := by
  refine wpAny_pyIter_slot x.typeIs slot_si_iter (wpAny_call_entry slot_si_iter x.typeIs entry_si_iter ?_ (args_si_iter _))
  show wpAny _ _ (ret (.ref I)) _ _ s
  exact wpAny_pure ⟨_, rfl, "set_iterator", _, x.typeIs, slot_si_next.lookup, h⟩

/-- as the library walks it -/
theorem walks_set (hh : A.handled = none) (hIa : I ≠ a) (hIt : I ≠ tp) : Walks prog w A I [I, a, tp] [I] vs.length (fun i v => vs[i]? = some v) (fun i h => SIt w h I a tp vs i) where
  sub := fun b hb => by simp at hb; simp [hb]
  frame := fun _ _ _ st hk => st.keep hk
  item := fun i s Q E hi st hQ => by
    refine si_item st hIa hIt (List.getElem?_eq_getElem hi) fun h' st' k => hQ _ h' s.toks (List.getElem?_eq_getElem hi) st' fun b o hb e => k b o (fun z => hb (by simp [z])) e
  done := fun s Q E st hQ => si_done hh st rfl fun h' k => hQ h' s.toks fun b o hb e => k b o (fun z => hb (by simp [z])) e
  self := fun _ _ _ _ st hQ => si_self st hQ
end
end SL
namespace SL
open PySem PyProof.Rows

/-! ### texts in order -/
def leS (a b : Str) : Bool := !decide (b.cps.toList < a.cps.toList)
theorem leS_total (a b : Str) : (leS a b || leS b a) = true := by
  unfold leS
  by_cases h : b.cps.toList < a.cps.toList
  · have : ¬ a.cps.toList < b.cps.toList := fun z => List.lt_irrefl _ (List.lt_trans h z)
    simp [this]
  · simp [h]
theorem leS_trans (a b c : Str) (h1 : leS a b = true) (h2 : leS b c = true) : leS a c = true := by
  unfold leS at *
  simp only [Bool.not_eq_true', decide_eq_false_iff_not] at *
  have h1 : a.cps.toList ≤ b.cps.toList := List.not_lt.mp h1
  have h2 : b.cps.toList ≤ c.cps.toList := List.not_lt.mp h2
  exact List.not_lt.mpr (List.le_trans h1 h2)
theorem str_ext {a b : Str} (h : a.cps.toList = b.cps.toList) : a = b := by
  cases a; cases b
  simp only [Str.mk.injEq]
  exact Array.toList_inj.mp h
theorem leS_anti (a b : Str) (h1 : leS a b = true) (h2 : leS b a = true) : a = b := by
  unfold leS at *
  simp only [Bool.not_eq_true', decide_eq_false_iff_not] at *
  exact str_ext (List.le_antisymm (List.not_lt.mp h1) (List.not_lt.mp h2))
/-- the texts of a list in order -/
def srt (l : List Str) : List Str := l.mergeSort leS
theorem srt_perm (l : List Str) : (srt l).Perm l := List.mergeSort_perm l leS
theorem srt_pw (l : List Str) : (srt l).Pairwise (fun a b => leS a b = true) := List.pairwise_mergeSort leS_trans leS_total l
theorem pw_eq {l l' : List Str} (h : l.Pairwise (fun a b => leS a b = true)) (h' : l'.Pairwise (fun a b => leS a b = true)) (p : l.Perm l') : l = l' :=
  List.Perm.eq_of_pairwise (fun a b _ _ => leS_anti a b) h h' p
theorem srt_eq {l l' : List Str} (h : l'.Pairwise (fun a b => leS a b = true)) (p : l'.Perm l) : l' = srt l := pw_eq h (srt_pw l) (p.trans (srt_perm l).symm)
theorem srt_congr {l l' : List Str} (p : l.Perm l') : srt l = srt l' := srt_eq (srt_pw l) ((srt_perm l).trans p)
theorem mem_srt {l : List Str} {x : Str} : x ∈ srt l ↔ x ∈ l := (srt_perm l).mem_iff
theorem len_srt (l : List Str) : (srt l).length = l.length := (srt_perm l).length_eq
theorem nodup_srt {l : List Str} (h : l.Nodup) : (srt l).Nodup := (srt_perm l).nodup_iff.mpr h
/-- two lists without a member twice, of the same members, are the same in order -/
theorem perm_of_mem {l l' : List Str} (h : l.Nodup) (h' : l'.Nodup) (e : ∀ x, x ∈ l ↔ x ∈ l') : l.Perm l' := (List.perm_ext_iff_of_nodup h h').mpr e
theorem srt_mem {l l' : List Str} (h : l.Nodup) (h' : l'.Nodup) (e : ∀ x, x ∈ l ↔ x ∈ l') : srt l = srt l' := srt_congr (perm_of_mem h h' e)

theorem out_pw {vs : List Value} {ss : List Str} (hS : StrsAre vs ss) {xs : Array Keyed} (hp : xs.Perm (pairsOf vs)) (hs : SortedToK PyProof.Rows.strKind xs (pairsOf vs).size) : StrsAre (xs.map (·.2)).toList (srt ss) := by
  have hl : xs.toList.Perm (vs.zip vs) := by rw [← pairsOf_toList]; exact Array.perm_iff_toList_perm.mp hp
  have hmem : ∀ p, p ∈ xs.toList → p.1 = p.2 ∧ p.1 ∈ vs := fun p hp' => mem_zip_self (hl.mem_iff.mp hp')
  have h1 : StrsAre (xs.map (·.2)).toList (xs.toList.map (fun p => strOf p.1)) := by
    have e : (xs.map (·.2)).toList = xs.toList.map (·.1) := by
      rw [Array.toList_map]; exact List.map_congr_left fun p hp' => (hmem p hp').1.symm
    rw [e]
    have h1 := strsAre_map (xs.toList.map (·.1)) (by
      intro v hv
      obtain ⟨p, hp', rfl⟩ := List.mem_map.mp hv
      exact hS.all _ (hmem p hp').2)
    rwa [List.map_map] at h1
  have h2 : (xs.toList.map (fun p => strOf p.1)).Perm ss := by
    have h1 := hl.map (fun p => strOf p.1)
    have e2 : (vs.zip vs).map (fun p => strOf p.1) = ss := by
      have : (vs.zip vs).map (fun p => strOf p.1) = ((vs.zip vs).map Prod.fst).map strOf := by rw [List.map_map]; rfl
      rw [this, List.map_fst_zip (Nat.le_refl _), hS.strs]
    rwa [e2] at h1
  have h3 : (xs.toList.map (fun p => strOf p.1)).Pairwise (fun a b => leS a b = true) := by
    rw [List.pairwise_iff_getElem]
    intro i j hi hj hij
    have hi' : i < xs.size := by simpa using hi
    have hj' : j < xs.size := by simpa using hj
    have h1 := hs i j (Nat.le_of_lt hij) (by rw [← hp.size_eq]; exact hj')
    obtain ⟨x, t, ex⟩ := hS.all _ (hmem xs[i] (by simp)).2
    obtain ⟨y, u, ey⟩ := hS.all _ (hmem xs[j] (by simp)).2
    rw [KK_str hi' (x := x) (t := t) (q := xs[i].2) (Prod.ext ex rfl), KK_str hj' (x := y) (t := u) (q := xs[j].2) (Prod.ext ey rfl)] at h1
    change decide (y.cps.toList < x.cps.toList) = false at h1
    simp only [List.getElem_map, Array.getElem_toList]
    rw [show strOf xs[i].1 = x by rw [ex]; rfl, show strOf xs[j].1 = y by rw [ey]; rfl]
    unfold leS
    rw [h1]
    rfl
  rw [← srt_eq h3 h2]
  exact h1

section
variable {prog : Program} {w : World} {A : Around} {E : Value → Shared → Prop} {s : Shared}

/-- sorted(x), x anything whose items are texts -/
theorem sorted_of {x : Value} {Q : Value → Shared → Prop} (hcol : wpAny (model prog w) A.in1 (collect x) (fun vs s₁ => ∃ ss, StrsAre vs ss ∧ vs.length < 64 ∧
      ∀ (out : List Value) (e : Nat) (h' : Heap), StrsAre out (srt ss) → (∀ b o, s₁.heap.get? b = some o → h'.get? b = some o) → h'.get? s₁.heap.objs.size = some { cls := .type "list", data := .seq out.toArray e } → Q (.ref s₁.heap.objs.size) { s₁ with heap := h' }) E s) :
    wpAny (model prog w) A (call (.builtin "sorted") [x]) Q E s := by
  refine Calls.call_function_entry kind_sorted plain_sorted entry_sorted (args_sorted1 _) ?_
  unfold Builtin.«sorted»
  refine wpAny_bind (m := checkCount "sorted" 1 1 _) (wpAny_pure ?_)
  refine wpAny_bind (wpAny_mono hcol (fun vs s₁ h₁ => ?_) fun _ _ e => e)
  obtain ⟨ss, hS, h64, fin⟩ := h₁
  refine wpAny_bind (wpAny_newList ?_ (by rw [sizeLine_eq]; omega))
  have hoL : (s₁.heap.push (seqObj "list" vs.toArray 0)).get? s₁.heap.objs.size = some (seqObj "list" vs.toArray 0) := Heap.get?_push_size _ rfl
  show wpAny _ _ _ _ _ { s₁ with heap := s₁.heap.push (seqObj "list" vs.toArray 0) }
  refine wpAny_bind (wpAny_holding (wpAny_call_entry slot_list_sort ⟨_, hoL, rfl⟩ entry_list_sort (list_sort_treeK strKind_oneLt hoL hS.keysOf (fun v₁ v₂ rest e => keyKind_strs (by rw [← e]; exact hS)) h64 fun st' a1 a2 => ⟨_, rfl, ?_⟩) (args_list_sort _)))
  obtain ⟨e, he⟩ := sortedHeap_at (out := (arrOf st').map (·.2)) hoL
  refine wpAny_pure ⟨_, rfl, fin _ e _ (out_pw hS a1 a2) (fun b o q => ?_) (by rw [Array.toArray_toList]; exact he)⟩
  have hlt := Heap.lt_size q
  rw [sortedHeap_old (Nat.ne_of_lt hlt) (by rw [size_push']; exact Nat.lt_succ_of_lt hlt)]
  exact Heap.get?_push_of_some _ q
end
end SL
namespace SL
open PySem PyProof.Rows

theorem hintSet {prog : Program} {w : World} {A : Around} {E : Value → Shared → Prop} {s : Shared} {r : Addr} {Q : Bool → Shared → Prop} (hT : s.TypeIs (.ref r) "set") (h : Q false s) : wpAny (model prog w) A (Builtin.List.listLengthHint (.ref r)) Q E s := by
  unfold Builtin.List.listLengthHint
  refine wpAny_bind (wpAny_specialOf hT PySem.F.slot_set_len.lookup ?_)
  generalize hid : ("set.__len__" : String) = id0
  wp_delta
  rw [show splitId id0 = some ("set", "__len__") from by subst hid; decide +kernel]
  subst hid
  refine wpAny_bind (wpAny_isInstance (T := "set") (b := true) hT (by rw [isSubtype_type]; kernel_rfl) ?_)
  refine wpAny_ite_split (fun hab => absurd hab (by decide)) (fun _ => ?_)
  refine wpAny_ite_split (fun _ => ?_) (fun hab => absurd (by decide +kernel) hab)
  refine wpAny_bind (wpAny_typeOf hT ?_)
  exact wpAny_pure h

/-- the members in some order -/
structure OrdS (vs : List Value) (L : List Str) : Prop where
  str : ∀ v ∈ vs, ∃ x t, v = Value.str x t
  perm : (vs.map keyS).Perm L

theorem OrdS.of {w : World} {es : Array (Int × Value)} {L : List Str} (hel : ∀ e ∈ es.toList, ElemS w e) (hp : (es.toList.map fun e => keyS e.2).Perm L) {vs : List Value} (h : vs.Perm (es.toList.map (·.2))) : OrdS vs L := by
  refine ⟨fun v hv => ?_, ?_⟩
  · obtain ⟨e, he, rfl⟩ := List.mem_map.mp (h.mem_iff.mp hv)
    obtain ⟨k, t, rfl⟩ := hel e he
    exact ⟨k, t, rfl⟩
  · refine (h.map keyS).trans ?_
    rw [List.map_map]
    exact hp

theorem moved_eq {wr : List Addr} {s s' : Shared} (hm : Moved wr (fun a b => b = a) s s') : s' = { s with heap := s'.heap, toks := s'.toks } := by
  obtain ⟨h', g', d', tk', os'⟩ := s'
  have eg : g' = s.gens := hm.gens
  have ed : d' = s.drawn := hm.drawn
  have eo : os' = s.os := hm.os
  subst eg; subst ed; subst eo
  rfl

section
variable {prog : Program} {w : World} {A : Around} {E : Value → Shared → Prop} {s : Shared} {a : Addr} {L : List Str}

theorem SetL.typeIs (S : SetL w s.heap a L) : s.TypeIs (.ref a) "set" := by
  obtain ⟨o, es, ep, t, ho, hex, _⟩ := S
  exact ⟨o, ho, hex.1⟩

theorem map_range {es : Array (Int × Value)} : (List.range es.size).map (fun p => ((es[p]?).map (·.2)).getD Value.none) = es.toList.map (·.2) := by
  apply List.ext_getElem
  · simp
  · intro i h1 h2
    have hi : i < es.size := by simpa using h1
    simp [hi]

/-- iter(set) -/
theorem iter_set {Q : Value → Shared → Prop} (S : SetL w s.heap a L)
    (h : ∀ (I tp : Addr) (vs : List Value) (h' : Heap) (d : Drawn), SIt w h' I a tp vs 0 → I ≠ a → I ≠ tp → s.heap.objs.size ≤ I → (tp = a ∨ s.heap.objs.size ≤ tp) → I < h'.objs.size → tp < h'.objs.size → OrdS vs L → (∀ b o, s.heap.get? b = some o → h'.get? b = some o) → Q (.ref I) { s with heap := h', drawn := d }) :
    wpAny (model prog w) A (pyIter (.ref a)) Q E s := by
  have hT := S.typeIs
  obtain ⟨o, es, ep, t, ho, hex, hd, hel, hp, nd, hb, hf, hled, hpl⟩ := S
  have halt : a < s.heap.objs.size := Heap.lt_size ho
  have hsl : es.size ≤ sizeLine := fits_of_scanBound hb
  refine wpAny_pyIter_slot hT PySem.F.slot_set_iter (wpAny_call_entry PySem.F.slot_set_iter hT entry_set_iter ?_ (PySem.F.args_set_iter_1 _))
  unfold Builtin.«frozenset.__iter__»
  refine wpAny_bind (wpAny_pure ?_)
  refine wpAny_bind ?_
  unfold Builtin.Frozenset.sizeOf
  refine wpAny_bind (wpAny_setEntries_of ho hd hf (wpAny_pure ?_))
  unfold setDrawn setsByText
  refine wpAny_bind (wpAny_bind (wpAny_setState_of ho hd hf ?_))
  dsimp only
  refine wpAny_bind (wpAny_bind (wpAny_askSetting (wpAny_pure ?_)))
  refine wpAny_pure ?_
  -- the last step, for any iterator object
  have fin : ∀ (first : Value) (h1 : Heap) (d : Drawn) (tp : Addr) (vs : List Value), (∀ b o, s.heap.get? b = some o → h1.get? b = some o) → s.heap.objs.size ≤ h1.objs.size → (tp = a ∨ s.heap.objs.size ≤ tp) → tp < h1.objs.size → OrdS vs L →
      (∀ h', (∀ b o, h1.get? b = some o → h'.get? b = some o) → h'.get? h1.objs.size = some { cls := .type "set_iterator", data := .fields #[first, rawInt 0, .ref a, rawInt es.size, rawInt ep] } → SIt w h' h1.objs.size a tp vs 0) →
      wpAny (model prog w) A.in1 (do ret (← newFields "set_iterator" [first, rawInt 0, .ref a, rawInt es.size, rawInt (← setEpoch a)])) (fun fin s' => ∃ it, fin = PySem.Fin.done (.ret it) ∧ ∃ (T : String) (id : Value), s'.TypeIs it T ∧ typeLookup (.type T) "__next__" = pure (some id) ∧ Q it s') (fun e s' => E e s') { s with heap := h1, drawn := d } := by
    intro first h1 d tp vs k1 hsz htp htl ho2 mk
    refine wpAny_bind (wpAny_setEpoch_of (k1 _ _ ho) hd hf ?_)
    unfold newFields
    refine wpAny_bind (wpAny_newObj_type ?_ (by size_fits))
    have hI : (h1.push { cls := .type "set_iterator", data := .fields #[first, rawInt 0, .ref a, rawInt es.size, rawInt ep] }).get? h1.objs.size = some { cls := .type "set_iterator", data := .fields #[first, rawInt 0, .ref a, rawInt es.size, rawInt ep] } := Heap.get?_push_size _ rfl
    refine wpAny_pure ⟨_, rfl, "set_iterator", _, ⟨_, hI, rfl⟩, slot_si_next.lookup, ?_⟩
    refine h h1.objs.size tp vs _ d (mk _ (fun b o e => Heap.get?_push_of_some _ e) hI) (Ne.symm (Nat.ne_of_lt (Nat.lt_of_lt_of_le halt hsz))) (Ne.symm (Nat.ne_of_lt htl)) hsz htp ?_ ?_ ho2 fun b o e => Heap.get?_push_of_some _ (k1 b o e)
    · show h1.objs.size < (h1.push _).objs.size
      rw [Heap.size_push]; exact Nat.lt_succ_self _
    · show tp < (h1.push _).objs.size
      rw [Heap.size_push]; exact Nat.lt_succ_of_lt htl
  by_cases b : w.params.followText "set-order" = true
  · -- by the text
    refine wpAny_ite_split (fun hab => absurd (show (!(w.params.followText "set-order") && (!t.plain && decide (es.size > 1))) = true from hab) (by rw [b]; simp)) fun _ => ?_
    refine wpAny_bind (wpAny_pure ?_)
    refine fin (rawInt 0) s.heap s.drawn a _ (fun _ _ e => e) (Nat.le_refl _) (.inl rfl) halt (OrdS.of hel hp ((pickOrder_perm (w.params.setOrder a ep) es).map (·.2))) fun h' k hI => ?_
    exact .txt (sl := 0) (k _ _ ho) hd hf b rfl hI
  · have b : w.params.followText "set-order" = false := by simpa using b
    refine wpAny_ite_split (fun hab => ?_) (fun hab => ?_)
    · refine wpAny_bind (drawOrder_perm _ _ _ (List.length_range) fun ps d hps => ?_)
      have hlen : ps.length = es.size := by rw [hps.length_eq, List.length_range]
      refine wpAny_bind (wpAny_newTuple ?_ (by rw [List.length_map, hlen]; exact hsl))
      have hv : ((ps.map fun p => ((es[p]?).map (·.2)).getD Value.none).map some) = ps.map fun p => (es[p]?).map (·.2) := by
        rw [List.map_map]
        refine List.map_congr_left fun p hpm => ?_
        have hlt : p < es.size := List.mem_range.mp (hps.mem_iff.mp hpm)
        simp [hlt]
      refine fin _ _ d s.heap.objs.size (ps.map fun p => ((es[p]?).map (·.2)).getD Value.none) (fun _ _ e => Heap.get?_push_of_some _ e) (by rw [Heap.size_push]; exact Nat.le_succ _) (.inr (Nat.le_refl _)) (by rw [Heap.size_push]; exact Nat.lt_succ_self _)
        (OrdS.of hel hp (by rw [← map_range]; exact hps.map _)) fun h' k hI => ?_
      exact .drw (k _ _ (Heap.get?_push_of_some _ ho)) hd hf hv (k _ _ (Heap.get?_push_size _ rfl)) hI
    · refine wpAny_bind (wpAny_pure ?_)
      have hdr : ¬ (!t.plain && decide (es.size > 1)) = true := fun z => hab (show (!(w.params.followText "set-order") && (!t.plain && decide (es.size > 1))) = true by rw [b, z]; rfl)
      have hz : es.size ≤ 1 := by
        rcases Nat.lt_or_ge 1 es.size with z | z
        · cases q : t.plain with
          | true => have := hpl q; omega
          | false =>
            rw [q] at hdr
            simp at hdr
            omega
        · exact z
      refine fin (rawInt 0) s.heap s.drawn a _ (fun _ _ e => e) (Nat.le_refl _) (.inl rfl) halt (OrdS.of hel hp (.refl _)) fun h' k hI => ?_
      exact .one (k _ _ ho) hd hf b (by rw [hled, b]; rfl) hz rfl hI

/-- the members of a set, collected -/
theorem collect_set {Q : List Value → Shared → Prop} (hh : A.handled = none) (S : SetL w s.heap a L)
    (h : ∀ (vs : List Value) (h' : Heap) (tk : Nat) (d : Drawn), OrdS vs L → (∀ b o, s.heap.get? b = some o → h'.get? b = some o) → Q vs { s with heap := h', toks := tk, drawn := d }) :
    wpAny (model prog w) A (collect (.ref a)) Q E s := by
  obtain ⟨oa, hoa⟩ := S.there
  have halt : a < s.heap.objs.size := Heap.lt_size hoa
  have hLs : L.length ≤ sizeLine := by
    obtain ⟨o, es, ep, t, ho, hex, hd, hel, hp, nd, hb, _⟩ := id S
    have := hp.length_eq
    rw [List.length_map, Array.length_toList] at this
    rw [← this]
    exact fits_of_scanBound hb
  unfold collect
  refine wpAny_bind (wpAny_runValue (codeAny_builtin entry_proto_collect' ?_))
  rw [Around.under_plainId PySem.F.plain_proto_collect _]
  show wpAny _ A.in1 (newList [] >>= fun l => again (.builtin "list.__iadd__" ⟨[l, .ref a], []⟩)) _ _ s
  refine wpAny_bind (wpAny_newObj_type ?_)
  refine wpAny_pure ⟨plainId_quiet PySem.F.plain_list_iadd _, codeAny_builtin entry_list_iadd' ?_⟩
  rw [Around.under_plainId PySem.F.plain_list_iadd _]
  have hS₁ : (s.heap.push { cls := .type "list", data := .seq ([] : List Value).toArray }).get? s.heap.objs.size = some { cls := .type "list", data := .seq #[] } := Heap.get?_push_size _ rfl
  generalize hs1 : s.heap.push { cls := .type "list", data := .seq ([] : List Value).toArray } = h1 at hS₁
  have k1 : ∀ b o, s.heap.get? b = some o → h1.get? b = some o := fun b o e => by rw [← hs1]; exact Heap.get?_push_of_some _ e
  have z1 : h1.objs.size = s.heap.objs.size + 1 := by rw [← hs1, Heap.size_push]
  have S1 : SetL w h1 a L := S.at fun o e => k1 _ _ e
  show wpAny _ A.in1 (Builtin.List.listExtendWith (.ref s.heap.objs.size) (.ref a) (.ref s.heap.objs.size)) _ _ { s with heap := h1 }
  unfold Builtin.List.listExtendWith
  have hT1 : Shared.TypeIs { s with heap := h1 } (.ref a) "set" := SetL.typeIs (s := { s with heap := h1 }) S1
  refine wpAny_bind (wpAny_typeOf hT1 ?_)
  have e1 : Builtin.List.listSameRef (.ref s.heap.objs.size) (.ref a) = false := by simp [Builtin.List.listSameRef, Ne.symm (Nat.ne_of_lt halt)]
  have e2 : (Value.type "set" == Value.type "list") = false := by decide
  have e3 : (Value.type "set" == Value.type "tuple") = false := by decide
  simp only [e1, e2, e3, Bool.or_false, Bool.false_eq_true, if_false]
  refine wpAny_bind (iter_set (s := { s with heap := h1 }) S1 fun I tp vs h2 d st hIa hIt hI htp hIl htl hO k2 => ?_)
  have hI : h1.objs.size ≤ I := hI
  rw [z1] at hI
  have hvl : vs.length ≤ sizeLine := by
    have := hO.perm.length_eq
    rw [List.length_map] at this
    rw [this]; exact hLs
  have hT2 : Shared.TypeIs { s with heap := h2, drawn := d } (.ref a) "set" := SetL.typeIs (s := { s with heap := h2, drawn := d }) (S1.at fun o e => k2 _ _ e)
  refine wpAny_bind (wpAny_holding (hintSet hT2 ?_))
  have hSf : s.heap.objs.size ∉ [I, a, tp] := by
    simp only [List.mem_cons, List.not_mem_nil, or_false, not_or]
    refine ⟨by omega, Ne.symm (Nat.ne_of_lt halt), ?_⟩
    rcases htp with z | z
    · rw [z]; exact Ne.symm (Nat.ne_of_lt halt)
    · have z : h1.objs.size ≤ tp := z
      rw [z1] at z
      omega
  have hh2 : A.in1.handled = none := hh
  -- the loop
  have key : ∀ (h3 : Heap) (c tk : Nat), SIt w h3 I a tp vs 0 → (∀ b o, b ≠ s.heap.objs.size → h2.get? b = some o → h3.get? b = some o) → h3.get? s.heap.objs.size = some { cls := .type "list", data := .seq #[] c } →
      codeAny (model prog w) A (.builtin "list.extend.loop" ⟨[.ref s.heap.objs.size, .ref I, .ref s.heap.objs.size], []⟩)
        (fun (q : Result) (s' : Shared) => ∃ (h' : Heap) (tk : Nat) (acc' : Array Value) (c' : Nat), q = .ok (.ret (.ref s.heap.objs.size)) ∧ s' = { s with heap := h', toks := tk, drawn := d } ∧
          (∀ b o, s.heap.get? b = some o → h'.get? b = some o) ∧ h'.get? s.heap.objs.size = some { cls := .type "list", dict := none, data := .seq acc' c', slots := #[] } ∧ acc'.toList = vs)
        { s with heap := h3, toks := tk, drawn := d } := by
    intro h3 c tk st3 k3 hS3
    refine codeAny_extend_loopS (walks_set (A := A.in1) hh2 hIa hIt).toS hvl _ hSf _ vs.length 0 _ #[] c rfl (Nat.zero_le _) st3 hS3 (ItemsOf.nil _) fun s' acc' c' hm hS' hacc => ?_
    refine ⟨s'.heap, s'.toks, acc', c', rfl, ?_, fun b o e => ?_, hS', ?_⟩
    · exact moved_eq hm
    · have hb : b < s.heap.objs.size := Heap.lt_size e
      refine hm.heap b o (fun z => ?_) (k3 b o (Nat.ne_of_lt hb) (k2 b o (k1 b o e)))
      simp only [List.mem_cons, List.not_mem_nil, or_false] at z
      have hI0 : s.heap.objs.size < I := by omega
      rcases z with z | z
      · exact absurd z (Nat.ne_of_lt hb)
      · exact absurd (z ▸ hb) (Nat.not_lt.mpr (Nat.le_of_lt hI0))
    · apply List.ext_getElem?
      intro j
      rcases Nat.lt_or_ge j vs.length with z | z
      · have hj : j < acc'.size := by rw [hacc.1]; exact z
        have q := hacc.2 j acc'[j] (Array.getElem?_eq_getElem hj)
        rw [Array.getElem?_toList, Array.getElem?_eq_getElem hj]
        exact q.symm
      · rw [List.getElem?_eq_none z, List.getElem?_eq_none (by rw [Array.length_toList, hacc.1]; exact z)]
  have hS2 : h2.get? s.heap.objs.size = some { cls := .type "list", data := .seq #[] } := k2 _ _ hS₁
  refine wpAny_ite_split (fun _ => ?_) (fun _ => ?_)
  · refine wpAny_bind (wpAny_rule ?_)
    refine wpAny_bind ?_
    show wpAny _ _ (updateSeq s.heap.objs.size (·.push .none) >>= fun _ => updateSeq s.heap.objs.size (·.pop)) _ _ _
    refine wpAny_bind (wpAny_updateSeq hS2 rfl ?_)
    have hS3 := Heap.get?_update_self (Obj.mapSeq (·.push Value.none)) hS2 rfl
    refine wpAny_updateSeq (hz := by seq_fits) hS3 rfl ?_
    have hS4 := Heap.get?_update_self (Obj.mapSeq (·.pop)) hS3 rfl
    have oth : ∀ b o, b ≠ s.heap.objs.size → h2.get? b = some o → ((h2.update s.heap.objs.size (Obj.mapSeq (·.push Value.none))).update s.heap.objs.size (Obj.mapSeq (·.pop))).get? b = some o := fun b o hb e =>
      (Heap.get?_update_other _ _ (Ne.symm hb)).trans ((Heap.get?_update_other _ _ (Ne.symm hb)).trans e)
    refine wpAny_pure ⟨plainId_quiet PySem.F.plain_extend_loop _, codeAny_mono (key _ _ s.toks (st.keep fun b hb o e => oth b o (fun z => hSf (z ▸ hb)) e) oth hS4) fun q s' y => ?_⟩
    obtain ⟨h', tk, acc', c', rfl, rfl, k, hS', rfl⟩ := y
    show wpAny _ A (load s.heap.objs.size >>= _) _ _ _
    refine wpAny_bind (wpAny_load hS' ?_)
    exact wpAny_pure (h _ h' tk d hO k)
  · refine wpAny_pure ⟨plainId_quiet PySem.F.plain_extend_loop _, codeAny_mono (key h2 _ s.toks st (fun _ _ _ e => e) hS2) fun q s' y => ?_⟩
    obtain ⟨h', tk, acc', c', rfl, rfl, k, hS', rfl⟩ := y
    show wpAny _ A (load s.heap.objs.size >>= _) _ _ _
    refine wpAny_bind (wpAny_load hS' ?_)
    exact wpAny_pure (h _ h' tk d hO k)
end
end SL
namespace SL
open PySem PyProof.Rows

theorem entry_set_sub : entryFor table "set.__sub__" = some Builtin.«frozenset.__sub__» := entryFor_alias (id' := "frozenset.__sub__") (by kernel_rfl) rfl (by decide +kernel) (by kernel_rfl)
theorem sub_set_set : isSubtype (.type "set") (.type "set") = pure true := by rw [isSubtype_type]; kernel_rfl

section
variable {prog : Program} {w : World} {A : Around} {E : Value → Shared → Prop} {s : Shared} {a b r : Addr} {L M : List Str}

/-- the entries of a set -/
def EntL (w : World) (es : List (Int × Value)) (L : List Str) : Prop := (∀ e ∈ es, ElemS w e) ∧ (es.map fun e => keyS e.2).Perm L
theorem SetL.data {h : Heap} (S : SetL w h a L) : ∃ o es ep t, h.get? a = some o ∧ o.data = .set es ep t ∧ t.fits es.size = true ∧ EntL w es.toList L ∧ t.led = (!w.params.followText "set-order") ∧ (t.plain = true → es.size = 0) ∧ es.size = L.length := by
  obtain ⟨o, es, ep, t, ho, hex, hd, hel, hp, nd, hb, hf, hled, hpl⟩ := S
  have := hp.length_eq
  rw [List.length_map, Array.length_toList] at this
  exact ⟨o, es, ep, t, ho, hd, hf, ⟨hel, hp⟩, hled, hpl, this⟩

theorem quiet_sets : ∀ {as : List Addr} {s : Shared}, (∀ x ∈ as, ∃ L, SetL w s.heap x L) → ∀ {Q : Bool → Shared → Prop}, Q true s → wpAny (model prog w) A (setsQuiet as) Q E s := by
  intro as s hS Q h
  unfold setsQuiet
  refine wpAny_bind (wpAny_forIn_list _ (fun rest (r : Option Bool × Unit) s' => r = (none, ()) ∧ s' = s ∧ ∀ x ∈ rest, ∃ L, SetL w s.heap x L) _ ?_ ?_ as _ ⟨rfl, rfl, hS⟩)
  · rintro x rest r s' ⟨rfl, rfl, hr⟩
    obtain ⟨L', S'⟩ := hr x (List.mem_cons_self ..)
    obtain ⟨o, es, ep, t, ho, hd, hf, hE, _, _, _⟩ := S'.data
    refine wpAny_bind (wpAny_setEntries_of ho hd hf ?_)
    refine wpAny_bind (wpAny_forIn_array' _ (fun rest (r : Option Bool × Unit) s'' => r = (none, ()) ∧ s'' = s' ∧ ∀ e ∈ rest, ElemS w e) _ ?_ ?_ es _ ⟨rfl, rfl, hE.1⟩)
    · rintro e rest r s'' ⟨rfl, rfl, he⟩
      obtain ⟨k, tk, rfl⟩ := he e (List.mem_cons_self ..)
      exact wpAny_pure ⟨rfl, rfl, fun e' h' => he e' (List.mem_cons_of_mem _ h')⟩
    · rintro r s'' ⟨rfl, rfl, _⟩
      exact wpAny_pure ⟨rfl, rfl, fun y hy => hr y (List.mem_cons_of_mem _ hy)⟩
  · rintro r s' ⟨rfl, rfl, _⟩
    exact wpAny_pure h

/-- the entries of a set, walked while another, empty one is to be filled -/
theorem walkUnseen_L {others : List Addr} {Q : Array (Int × Value) → Shared → Prop} (S : SetL w s.heap a L) (F : SetL w s.heap r []) (hne : a ≠ r) (ho : ∀ x ∈ others, ∃ L, SetL w s.heap x L)
    (h : ∀ (es : Array (Int × Value)) (h' : Heap) (d : Drawn), EntL w es.toList L → Heap.SameBut r s.heap h' → SetL w h' r [] → Q es { s with heap := h', drawn := d }) :
    wpAny (model prog w) A (setWalkUnseen a others (some r)) Q E s := by
  obtain ⟨o, es, ep, t, hoa, hd, hf, hE, hled, hpl, hn⟩ := S.data
  unfold setWalkUnseen setsByText
  refine wpAny_bind (wpAny_setState_of hoa hd hf ?_)
  dsimp only
  refine wpAny_bind (wpAny_bind (wpAny_askSetting (wpAny_pure ?_)))
  have walk : (w.params.followText "set-order" = true ∨ es.size ≤ 1) → wpAny (model prog w) A (setWalk a) Q E s := by
    intro hc
    unfold setWalk setsByText
    refine wpAny_bind (wpAny_setState_of hoa hd hf ?_)
    dsimp only
    refine wpAny_bind (wpAny_bind (wpAny_askSetting (wpAny_pure ?_)))
    refine wpAny_ite_split (fun hb => ?_) (fun hb => ?_)
    · refine wpAny_bind (wpAny_askSetting (wpAny_pure ?_))
      have p := pickOrder_perm (w.params.setOrder a ep) es
      exact h _ s.heap s.drawn ⟨fun e he => hE.1 e (p.mem_iff.mp he), (p.map _).trans hE.2⟩ (.refl ..) F
    · have hz : es.size ≤ 1 := hc.resolve_left hb
      refine wpAny_ite_split (fun hab => absurd (show (!t.plain && decide (es.size > 1)) = true from hab) (by
        have : decide (es.size > 1) = false := decide_eq_false (by omega)
        rw [this]; simp)) fun _ => ?_
      refine wpAny_bind ?_
      show wpAny _ _ (if (!t.led && decide (es.size > 1)) = true then _ else _) _ _ _
      rw [if_neg (by
        have : decide (es.size > 1) = false := decide_eq_false (by omega)
        rw [this]; simp)]
      exact wpAny_pure (wpAny_pure (h es s.heap s.drawn hE (.refl ..) F))
  refine wpAny_ite_split (fun hab => ?_) (fun hab => ?_)
  · have hab : ((w.params.followText "set-order" || (t.led && t.plain)) || decide (es.size ≤ 1)) = true := hab
    refine wpAny_mono (walk ?_) (fun _ _ q => ?_) fun _ _ e => e
    · by_cases b : w.params.followText "set-order" = true
      · exact .inl b
      · right
        cases q : t.plain with
        | true => have := hpl q; omega
        | false =>
          rw [q] at hab
          simp at hab
          rcases hab with z | z
          · exact absurd z b
          · exact z
    · first | exact wpAny_pure q | exact q
  · refine wpAny_bind (quiet_sets (as := a :: others) (fun x hx => ?_) ?_)
    · rcases List.mem_cons.mp hx with rfl | hx
      · exact ⟨L, S⟩
      · exact ho x hx
    · simp only [Bool.not_true, Bool.false_eq_true, if_false]
      refine wpAny_bind (wpAny_rule ?_)
      obtain ⟨of, ef, epf, tf, hof, hexf, hdf, helf, hpf, ndf, hbf, hff, hledf, hplf⟩ := id F
      refine wpAny_bind (wpAny_setState_of hof hdf hff ?_)
      dsimp only
      have hz : ef.size = 0 := by
        have := hpf.length_eq
        rw [List.length_map, Array.length_toList] at this
        exact this
      refine wpAny_ite_split (fun _ => ?_) (fun _ => ?_)
      · refine wpAny_bind (wpAny_storeSet_of hof hdf ?_ (by omega))
        have ho2 := Heap.get?_update_self (Obj.putSet ef { tf with led := tf.led && t.led, plain := tf.plain && t.plain }) hof (by rw [putSet_of ef _ hdf]; rfl)
        rw [putSet_of ef _ hdf] at ho2
        refine wpAny_pure (h es _ s.drawn hE (Heap.SameBut.update ..) ⟨_, ef, epf + 1, _, ho2, hexf, rfl, helf, hpf, ndf, hbf, ?_, ?_, fun _ => hz⟩)
        · cases tf; exact hff
        · show (tf.led && t.led) = _
          rw [hledf, hled, Bool.and_self]
      · exact wpAny_pure (h es s.heap s.drawn hE (.refl ..) F)

/-- the members of L that are not in M -/
def minusS (es : List (Int × Value)) (M : List Str) (acc : List Str) : List Str := es.foldl (fun acc e => if keyS e.2 ∈ M then acc else addS acc (keyS e.2)) acc
theorem minus_mem (M : List Str) : ∀ (es : List (Int × Value)) (acc : List Str) (x : Str), x ∈ minusS es M acc ↔ x ∈ acc ∨ (x ∈ es.map (fun e => keyS e.2) ∧ ¬ x ∈ M)
  | [], acc, x => by simp [minusS]
  | e :: r, acc, x => by
    have ih := minus_mem M r (if keyS e.2 ∈ M then acc else addS acc (keyS e.2)) x
    show x ∈ minusS r M (if keyS e.2 ∈ M then acc else addS acc (keyS e.2)) ↔ _
    rw [ih, List.map_cons, List.mem_cons]
    by_cases h : keyS e.2 ∈ M
    · rw [if_pos h]
      constructor
      · rintro (z | ⟨z, y⟩)
        · exact .inl z
        · exact .inr ⟨.inr z, y⟩
      · rintro (z | ⟨rfl | z, y⟩)
        · exact .inl z
        · exact absurd h y
        · exact .inr ⟨z, y⟩
    · rw [if_neg h, mem_addS]
      constructor
      · rintro ((z | rfl) | ⟨z, y⟩)
        · exact .inl z
        · exact .inr ⟨.inl rfl, h⟩
        · exact .inr ⟨.inr z, y⟩
      · rintro (z | ⟨rfl | z, y⟩)
        · exact .inl (.inl z)
        · exact .inl (.inr rfl)
        · exact .inr ⟨z, y⟩
theorem minus_nodup (M : List Str) : ∀ (es : List (Int × Value)) (acc : List Str), acc.Nodup → (minusS es M acc).Nodup
  | [], acc, h => h
  | e :: r, acc, h => by
    refine minus_nodup M r _ ?_
    show (if keyS e.2 ∈ M then acc else addS acc (keyS e.2)).Nodup
    split
    · exact h
    · exact addS_nodup h
theorem minus_len (M : List Str) : ∀ (es : List (Int × Value)) (acc : List Str), (minusS es M acc).length ≤ acc.length + es.length
  | [], acc => by simp [minusS]
  | e :: r, acc => by
    have ih := minus_len M r (if keyS e.2 ∈ M then acc else addS acc (keyS e.2))
    show (minusS r M (if keyS e.2 ∈ M then acc else addS acc (keyS e.2))).length ≤ _
    have h2 := addS_len acc (keyS e.2)
    rw [List.length_cons]
    split at ih <;> simp_all <;> omega

theorem setFits {h : Heap} (S : SetL w h a L) : L.length < scanBound := by
  obtain ⟨o, es, ep, t, ho, hex, hd, hel, hp, nd, hb, _⟩ := S
  have := hp.length_eq
  rw [List.length_map, Array.length_toList] at this
  omega

theorem anySet {Q : Bool → Shared → Prop} (S : SetL w s.heap a L) (h : Q true s) : wpAny (model prog w) A (Builtin.Frozenset.isAnySet (.ref a)) Q E s := by
  unfold Builtin.Frozenset.isAnySet
  refine wpAny_bind (wpAny_isInstance S.typeIs sub_set_set ?_)
  exact wpAny_pure h
theorem baseOf_L {Q : Value → Shared → Prop} (S : SetL w s.heap a L) (h : Q (.type "set") s) : wpAny (model prog w) A (Builtin.Frozenset.baseOf a) Q E s := by
  unfold Builtin.Frozenset.baseOf
  refine wpAny_bind (wpAny_isInstance S.typeIs sub_set_set ?_)
  exact wpAny_pure h
theorem sizeOf_L {Q : Nat → Shared → Prop} (S : SetL w s.heap a L) (h : Q L.length s) : wpAny (model prog w) A (Builtin.Frozenset.sizeOf a) Q E s := by
  obtain ⟨oa, esa, epa, ta, hoa, hda, hfa, _, _, _, hna⟩ := S.data
  unfold Builtin.Frozenset.sizeOf
  refine wpAny_bind (wpAny_setEntries_of hoa hda hfa (wpAny_pure ?_))
  rw [hna]
  exact h

/-- set - set, the first not four times as large -/
theorem diff_L {Q : Value → Shared → Prop} (S : SetL w s.heap a L) (T : SetL w s.heap b M) (hsm : L.length / 4 ≤ M.length)
    (h : ∀ (D : List Str) (h' : Heap) (tk : Nat) (d : Drawn), D.Nodup → (∀ x, x ∈ D ↔ x ∈ L ∧ ¬ x ∈ M) → SetL w h' s.heap.objs.size D → (∀ b o, s.heap.get? b = some o → h'.get? b = some o) → Q (.ref s.heap.objs.size) { s with heap := h', toks := tk, drawn := d }) :
    wpAny (model prog w) A (binaryOp .Sub (.ref a) (.ref b)) Q E s := by
  refine wpAny_binaryOp_same S.typeIs T.typeIs PySem.F.fills_set_sub PySem.F.slot_set_sub ?_
  refine wpAny_call_entry PySem.F.slot_set_sub S.typeIs entry_set_sub ?_ (PySem.F.args_set_sub_2 _ _)
  obtain ⟨oa, esa, epa, ta, hoa, hda, hfa, hEa, _, _, hna⟩ := S.data
  obtain ⟨ob, esb, epb, tb, hob, hdb, hfb, hEb, _, _, hnb⟩ := T.data
  have lta := Heap.lt_size hoa
  have ltb := Heap.lt_size hob
  show wpAny _ _ (do
    let (self, other) ← Builtin.Frozenset.slot1 "__sub__" ⟨[.ref a, .ref b], []⟩
    let (l, r) := if false then (other, self) else (self, other)
    if !(← Builtin.Frozenset.isAnySet l <&&> Builtin.Frozenset.isAnySet r) then rule s!"frozenset.__sub__.declined"; return ← ret .notImplemented
    ret (← Builtin.Frozenset.difference s!"frozenset.__sub__" (← Builtin.Frozenset.addrOf l) r)) _ _ s
  refine wpAny_bind (wpAny_pure ?_)
  show wpAny _ _ (do
    let d ← Builtin.Frozenset.isAnySet (.ref a) <&&> Builtin.Frozenset.isAnySet (.ref b)
    if (!d) = true then do rule (toString "frozenset.__sub__.declined"); ret .notImplemented
    else do
      let x ← Builtin.Frozenset.addrOf (.ref a)
      let y ← Builtin.Frozenset.difference (toString "frozenset.__sub__") x (.ref b)
      ret y) _ _ s
  refine wpAny_bind ?_
  refine wpAny_bind (anySet S ?_)
  refine anySet T ?_
  rw [if_neg (by decide)]
  refine wpAny_bind (wpAny_pure ?_)
  refine wpAny_bind ?_
  unfold Builtin.Frozenset.difference
  refine wpAny_bind (anySet T ?_)
  simp only [Bool.not_true, Bool.false_eq_true, if_false, Bool.false_and, if_true]
  refine wpAny_bind (wpAny_pure ?_)
  refine wpAny_bind (sizeOf_L T ?_)
  refine wpAny_bind (sizeOf_L S ?_)
  rw [if_neg (by omega)]
  refine wpAny_bind (baseOf_L S ?_)
  refine wpAny_bind (newSet_L fun h1 F1 k1 => ?_)
  refine wpAny_bind (wpAny_pure ?_)
  have S1 : SetL w h1 a L := S.at fun o e => k1 _ _ e
  have T1 : SetL w h1 b M := T.at fun o e => k1 _ _ e
  have hna1 : a ≠ s.heap.objs.size := Nat.ne_of_lt lta
  have hnb1 : b ≠ s.heap.objs.size := Nat.ne_of_lt ltb
  refine wpAny_bind (wpAny_setEpoch_of (k1 _ _ hoa) hda hfa ?_)
  refine wpAny_bind (wpAny_holding ?_)
  have hlen : L.length < scanBound := setFits S
  refine wpAny_bind (walkUnseen_L (s := { s with heap := h1 }) S1 F1 hna1 (fun x hx => ?_) fun es h2 d hE sb2 F2 => ?_)
  · simp only [List.mem_cons, List.not_mem_nil, or_false] at hx
    rcases hx with rfl | rfl
    · exact ⟨M, T1⟩
    · exact ⟨[], F1⟩
  have hel : es.toList.length = L.length := by
    have := hE.2.length_eq
    rw [List.length_map] at this
    exact this
  have hoa2 : h2.get? a = some oa := sb2.extBut _ _ hna1 (k1 _ _ hoa)
  refine wpAny_bind (wpAny_forIn_array' _ (fun rest (_ : PUnit) s' => ∃ (done : List (Int × Value)) (h3 : Heap) (tk : Nat), es.toList = done ++ rest ∧ s' = { s with heap := h3, toks := tk, drawn := d } ∧
      SetL w h3 s.heap.objs.size (minusS done M []) ∧ (∀ x o, x ≠ s.heap.objs.size → h2.get? x = some o → h3.get? x = some o)) _ ?_ ?_ es _ ⟨[], h2, s.toks, rfl, rfl, F2, fun _ _ _ e => e⟩)
  · rintro e rest u s' ⟨done, h3, tk, hsp, rfl, F3, k3⟩
    obtain ⟨k, tk', rfl⟩ := hE.1 e (by rw [hsp]; simp)
    have T3 : SetL w h3 b M := T1.at fun o e => k3 _ _ hnb1 (sb2.extBut _ _ hnb1 e)
    have hdl : (minusS done M []).length + 1 < scanBound := by
      have h1 := minus_len M done []
      have h2 : done.length + (rest.length + 1) = L.length := by rw [← hel, hsp]; simp
      simp at h1
      omega
    have step : ∀ (h4 : Heap) (tk4 : Nat) (P : ForInStep PUnit → Shared → Prop), (∀ x o, x ≠ s.heap.objs.size → h2.get? x = some o → h4.get? x = some o) → P (.yield PUnit.unit) { s with heap := h4, toks := tk4, drawn := d } →
        wpAny (model prog w) A.in1 (do Builtin.Frozenset.unchanged (toString "frozenset.__sub__") a epa; pure (ForInStep.yield PUnit.unit)) P E { s with heap := h4, toks := tk4, drawn := d } := by
      intro h4 tk4 P k4 hP
      refine wpAny_bind ?_
      unfold Builtin.Frozenset.unchanged
      refine wpAny_bind (wpAny_setEpoch_of (k4 _ _ hna1 hoa2) hda hfa ?_)
      rw [if_neg (by simp)]
      exact wpAny_pure (wpAny_pure hP)
    have em : minusS (done ++ [(hashStr w k, Value.str k tk')]) M [] = if k ∈ M then minusS done M [] else addS (minusS done M []) k := by
      unfold minusS
      rw [List.foldl_append]
      rfl
    refine wpAny_bind (wpAny_holding ?_)
    refine wpAny_bind (find_L (s := { s with heap := h3, toks := tk, drawn := d }) T3 fun o ho => ?_)
    refine wpAny_bind (wpAny_pure ?_)
    by_cases hk : k ∈ M
    · rw [if_neg (by rw [ho, decide_eq_true hk]; decide)]
      refine wpAny_pure (step h3 tk _ k3 ⟨done ++ [(hashStr w k, Value.str k tk')], h3, tk, by rw [hsp]; simp, rfl, ?_, k3⟩)
      rw [em, if_pos hk]
      exact F3
    · rw [if_pos (by rw [ho, decide_eq_false hk]; rfl)]
      refine wpAny_bind (addHashed_L (s := { s with heap := h3, toks := tk, drawn := d }) F3 hdl fun h4 sb4 F4 => ?_)
      have k4 : ∀ x o, x ≠ s.heap.objs.size → h2.get? x = some o → h4.get? x = some o := fun x o hx e => sb4.extBut _ _ hx (k3 x o hx e)
      refine wpAny_pure (step h4 tk _ k4 ⟨done ++ [(hashStr w k, Value.str k tk')], h4, tk, by rw [hsp]; simp, rfl, ?_, k4⟩)
      rw [em, if_neg hk]
      exact F4
  · rintro u s' ⟨done, h3, tk, hsp, rfl, F3, k3⟩
    have hsp : es.toList = done := by rw [hsp]; simp
    subst hsp
    refine wpAny_pure (wpAny_pure (wpAny_pure ⟨_, rfl, (by intro z; cases z), h _ h3 tk d (minus_nodup M _ _ List.nodup_nil) (fun x => ?_) F3 fun x o e => ?_⟩))
    · rw [minus_mem]
      rw [hE.2.mem_iff]
      simp
    · have hlt : x ≠ s.heap.objs.size := Nat.ne_of_lt (Heap.lt_size e)
      exact k3 x o hlt (sb2.extBut _ _ hlt (k1 x o e))
end
end SL
/-! LIST COMPREHENSIONS over the hand layer: [elt for target in iter (if c)] -/
namespace L2
open PySem PySem.Spec PyProof.Rows

section
variable {prog : Program} {w : World} {A : Around} {R : Result → Shared → Prop} {s : Shared}
/-- the loop of a comprehension, any target -/
theorem compLoop_any {elt target iter : Expr} {ifs : List Expr} {scope : Scope} {pos : Pos} {it acc : Value} {env : Env} (I : Nat → Shared → Prop)
    (turn : ∀ n s, I n s → wpAny (model prog w) A (pyNext it) (fun r s₁ => match r with
      | none => R (.ok .next) s₁
      | some v => wpAny (model prog w) A (letOwnedTupleGo target it v) (fun _ s₁' => wpAny (model prog w) A (assign target env v) (fun _ s₂ =>
          wpAny (model prog w) A (forIn ifs true fun c r => if r = true then do let ok ← isTrue c env (eval c env); pure (ForInStep.yield ok) else pure (ForInStep.yield r)) (fun ok s₃ =>
            if ok = true then wpAny (model prog w) A (eval elt env) (fun x s₄ =>
              wpAny (model prog w) A (call (.builtin "list.append") [acc, x]) (fun _ s₅ => ∃ m, m < n ∧ I m s₅) (fun _ _ => False) s₄) (fun _ _ => False) s₃
            else ∃ m, m < n ∧ I m s₃) (fun _ _ => False) s₂) (fun _ _ => False) s₁') (fun _ _ => False) s₁) (fun _ _ => False) s)
    (n : Nat) (h : I n s) :
    codeAny (model prog w) A (.compLoop (.ListComp elt [⟨target, iter, ifs, 0⟩] scope pos) 0 it acc env) R s := by
  refine codeAny_loop rfl I (fun n s hI => ?_) n h
  show wpAny _ A ((compTurn (.ListComp elt [⟨target, iter, ifs, 0⟩] scope pos) 0 it acc env).onRaise (fun x => do noteFrame x env; theTreesLotGoes x)) _ _ s
  refine wpAny_noted ?_
  rw [compTurn_list]
  refine wpAny_bind (wpAny_standAt (wpAny_bind (wpAny_mono (turn n s hI) (fun r s₁ h₁ => ?_) fun _ _ h' => h'.elim)))
  cases r with
  | none => exact wpAny_pure h₁
  | some v =>
    refine wpAny_bind (wpAny_mono h₁ (fun _ s₁' h₁' => ?_) fun _ _ h' => h'.elim)
    refine wpAny_bind (wpAny_mono h₁' (fun _ s₂ h₂ => wpAny_bind (wpAny_mono h₂ (fun ok s₃ h₃ => ?_) fun _ _ h' => h'.elim)) fun _ _ h' => h'.elim)
    cases ok with
    | false => exact wpAny_pure ⟨rfl, h₃⟩
    | true =>
      exact wpAny_bind (wpAny_bind (wpAny_mono h₃ (fun x s₄ h₄ => wpAny_bind (wpAny_mono h₄ (fun _ s₅ h₅ => wpAny_pure (wpAny_pure ⟨rfl, h₅⟩)) fun _ _ h' => h'.elim)) fun _ _ h' => h'.elim))
end

/-- the tests of a comprehension: none, or one -/
def PIf (X : Cx) (ifs : List Expr) (t : TT) : Prop :=
  ∀ (pins : List (Addr × Obj)) (s : Shared) (σ : St) (H : Hp) (Q : Bool → Hp → Prop), Inv X pins σ H s → t σ H Q →
    wpAny (model X.prog X.w) X.A (forIn ifs true fun c r => if r = true then do let ok ← isTrue c X.env (eval c X.env); pure (ForInStep.yield ok) else pure (ForInStep.yield r)) (TP X pins σ Q) X.xe s
def tTrue : TT := fun _ H Q => Q true H
theorem pif_nil {X : Cx} : PIf X [] tTrue := fun _ _ _ H _ I h => wpAny_tests_nil ⟨H, I, h⟩
theorem pif_one {X : Cx} {c : Expr} {t : TT} (h : PT X c t) : PIf X [c] t := fun pins s σ H Q I hw => wpAny_tests_one (h pins s σ H Q I hw)

/-- what the block's names hold at its start: its own nothing, the outer ones what they hold outside -/
def selSt (sel : List (Option Nat)) (σ : St) : St := sel.map fun o => match o with
  | some i => (σ[i]?).join
  | none => none

/-- the block's context -/
def cxIn (X : Cx) (scope : Scope) (cl : List (Str × Addr)) (N : List Str) (s₃ : Shared) (H₃ : Hp) (fp : List Addr) : Cx where
  prog := X.prog
  w := X.w
  K := X.K
  mg := X.mg
  base := X.base
  A := X.A
  N := N
  s₀ := s₃
  H₀ := H₃
  env := compEnvC scope cl s₃.heap.objs.size X.env
  outer := X.stack
  stack := X.stack
  ex := fp
  fn := fun _ => false
  calm := X.calm
  pn := []
  xe := fun _ _ => False

/-- what must be seen of the text: the block's scope, its names, the cells that it takes -/
structure CompIn (X : Cx) (scope : Scope) (cl : List (Str × Addr)) (N : List Str) (sel : List (Option Nat)) : Prop where
  clos : closureFor scope X.env = pure cl
  nocell : ∀ y ∈ scope.names, y.2 ≠ .cell
  kind : scope.kind = .function
  locs : ∀ y ∈ scope.names, y.2 = .local → scope.names.lookup y.1 = some .local
  cells : ∀ x c, cl.lookup x = some c → X.env.cells.lookup x = some c
  has : ∀ x, (Vis (relabel scope X.env) x ∧ (relabel scope X.env).names.lookup x ≠ some .local) → ∃ c, cl.lookup x = some c
  len : sel.length = N.length
  names : ∀ (j i : Nat), sel[j]? = some (some i) → ∃ x, X.N[i]? = some x ∧ N[j]? = some x ∧ (Vis X.env.scope x ∧ X.env.scope.names.lookup x ≠ some .local) ∧ (relabel scope X.env).names.lookup x ≠ some .local


/-- the turns of a comprehension: W is kept from turn to turn; the new list stands at D -/
def CompG (sel : List (Option Nat)) (J : It) (D : Addr) (g : TG) (tc : TT) (te : TE) (σ : St) (H1 : Hp) (Q : VK) : Prop :=
  ∃ W : Nat → Nat → St → Hp → Prop, (∃ m, W 0 m (selSt sel σ) (upd H1 D (.lst []))) ∧ ∀ i m τ H2, W i m τ H2 →
    (J.stop i H2 ∧ Q (.ref D) H2) ∨ (J.go i H2 ∧ ∃ N : St → Hp → Prop, (∀ τ' H', N τ' H' → ∃ m', m' < m ∧ W (i + 1) m' τ' H') ∧ ∀ x H3, J.yld i H2 x H3 → g x τ H3 fun τ2 H4 => tc τ2 H4 fun b H5 =>
      if b = true then te τ2 H5 fun y H6 => ∃ ys, H6 D = some (.lst ys) ∧ ys.length < sizeLine ∧ N τ2 (upd H6 D (.lst (ys ++ [y])))
      else N τ2 H5)
/-- [elt for target in iter if c] -/
def tComp (sel : List (Option Nat)) (wi : TI) (g : TG) (tc : TT) (te : TE) : TE := fun σ H Q => wi σ H fun J H1 => ∀ D, H1 D = none → CompG sel J D g tc te σ H1 Q

theorem selSt_get {sel : List (Option Nat)} {σ : St} {j : Nat} {v : V} (h : (selSt sel σ)[j]? = some (some v)) : ∃ i, sel[j]? = some (some i) ∧ σ[i]? = some (some v) := by
  unfold selSt at h
  rw [List.getElem?_map] at h
  cases e : sel[j]? with
  | none => rw [e] at h; cases h
  | some o =>
    rw [e] at h
    cases o with
    | none => cases h
    | some i =>
      refine ⟨i, rfl, ?_⟩
      have h : (σ[i]?).join = some v := by simpa using h
      cases q : σ[i]? with
      | none => rw [q] at h; cases h
      | some o =>
        rw [q] at h
        have h : o = some v := h
        rw [h]

section
variable {X : Cx} {pins : List (Addr × Obj)} {σ : St} {H : Hp} {s : Shared} {scope : Scope} {cl : List (Str × Addr)} {N : List Str} {sel : List (Option Nat)}

/-- the block's context stands -/
theorem CompIn.ok (C : CompIn X scope cl N sel) {s₃ : Shared} {H₃ : Hp} {fp : List Addr} (I : Inv X pins σ H₃ s₃) (hf : ∀ b ∈ fp, FpOk X pins H₃ b) (hlt : ∀ b ∈ fp, b < s₃.heap.objs.size) : (cxIn X scope cl N s₃ H₃ fp).Ok where
  mod := I.ok.mod
  kind := C.kind
  glob := I.ok.glob
  blt := I.ok.blt
  above := Nat.le_refl _
  inj := fun x y c h1 h2 => I.ok.inj x y c (C.cells x c h1) (C.cells y c h2)
  has := fun x hx => C.has x (by
    rcases hx with k | k
    · exact ⟨.inr (.inl k), by rw [show (relabel scope X.env).names.lookup x = some .cell from k]; decide⟩
    · exact ⟨.inr (.inr k), by rw [show (relabel scope X.env).names.lookup x = some .free from k]; decide⟩)
  cab := fun x c h => absurd (show false = true from h) (by decide)
  hd := I.ok.hd
  frames := I.ok.frames
  stk := .inl rfl
  exf := fun b hb => ⟨Nat.ne_of_lt (hlt b hb), fun x c h => (hf b hb).2.2.2.2.1 x c (C.cells x c h)⟩
  bs := I.bs
  bsz := Nat.le_trans I.ok.bsz I.sz
  noex := fun b o e hb => by
    rcases (hf b hb).2.2.2.1 with z | z
    · exact I.ok.noex b o e z
    · exact absurd (Nat.lt_of_lt_of_le (Heap.lt_size (I.ok.bs b o e).1) z) (Nat.lt_irrefl _)
  exfs := fun b hb z => by
    rcases List.mem_cons.mp (I.stkSub b z) with e | e
    · exact (hf b hb).2.1 e
    · exact (hf b hb).2.2.1 e
  funs := I.stack
  frf := I.stkFree

/-- the block begins -/
theorem CompIn.start (C : CompIn X scope cl N sel) {s₃ : Shared} {H₃ : Hp} {fp : List Addr} {h' : Heap} (I : Inv X pins σ H₃ s₃) (hf : ∀ b ∈ fp, FpOk X pins H₃ b) (hlt : ∀ b ∈ fp, b < s₃.heap.objs.size)
    (hn : h'.Ns s₃.heap.objs.size (fun _ => none)) (k : ∀ b o, s₃.heap.get? b = some o → h'.get? b = some o) (tk : Nat) : Inv (cxIn X scope cl N s₃ H₃ fp) [] (selSt sel σ) H₃ { s₃ with heap := h', toks := tk } := by
  refine ⟨C.ok I hf hlt, rfl, I.bare, Un.kept k, ⟨_, hn, fun j x v h1 h2 h3 => ?_⟩, fun x c h => ?_, I.hok.fresh (Nat.le_refl _), fun x c h => I.freeC x c (C.cells x c h), fun p hp => absurd (show p ∈ ([] : List (Addr × Obj)) from hp) (by simp), I.hok.kept k, ?_⟩
  · obtain ⟨i, e1, e2⟩ := selSt_get h2
    obtain ⟨y, n1, n2, ⟨vis, nl⟩, nl'⟩ := C.names j i e1
    have e : x = y := by
      have z : N[j]? = some x := h1
      rw [n2] at z
      exact (Option.some.inj z).symm
    subst e
    obtain ⟨m, hm, hl⟩ := I.loc
    obtain ⟨u, r, l⟩ := hl i x v n1 e2 vis
    rcases l with ⟨k1, _⟩ | ⟨_, c, hc, hcell⟩
    · exact absurd k1 nl
    · refine ⟨u, r, .inr ⟨?_, ?_⟩⟩
      · rcases h3 with z | z | z
        · exact absurd z nl'
        · exact .inl z
        · exact .inr z
      · obtain ⟨c', hc'⟩ := C.has x ⟨h3, nl'⟩
        have e := C.cells x c' hc'
        rw [hc] at e
        cases e
        obtain ⟨o, ho, hd⟩ := hcell
        exact ⟨c, hc', o, k c o ho, hd⟩
  · obtain ⟨v, o, ho, hd⟩ := I.cell x c (C.cells x c h)
    exact ⟨v, o, k c o ho, hd⟩
  · unfold selSt
    rw [List.length_map]
    exact C.len

/-- behind the block: the outer state again; the block's own names may go -/
theorem CompIn.back (C : CompIn X scope cl N sel) {s₃ s' : Shared} {H₃ H' : Hp} {fp : List Addr} {τ : St} {pl : List (Addr × Obj)} (I : Inv X pins σ H₃ s₃) (hf : ∀ b ∈ fp, FpOk X pins H₃ b)
    (J : Inv (cxIn X scope cl N s₃ H₃ fp) pl τ H' s') {h' : Heap} (hs : Heap.SameBut s₃.heap.objs.size s'.heap h') : Inv X pins σ H' { s' with heap := h' } := by
  have fr : H' s₃.heap.objs.size = none := J.free
  have lt : ∀ b o, s₃.heap.get? b = some o → b ≠ s₃.heap.objs.size := fun b o e => Nat.ne_of_lt (Heap.lt_size e)
  have u : Un (frs X.stack) fp H₃ H' s₃.heap h' := by
    have u0 : Un (frs X.stack) fp H₃ H' s₃.heap s'.heap := J.base
    exact ⟨fun b o e n h1 h2 => hs.extBut b o (lt b o e) (u0.keep b o e n h1 h2), fun b o e n h1 h2 => by
        obtain ⟨sl, q⟩ := u0.slot b o e n h1 h2
        exact ⟨sl, hs.extBut b _ (lt b o e) q⟩, u0.free, fun b o e h1 => by
        obtain ⟨o', q⟩ := u0.there b o e h1
        exact ⟨o', hs.extBut b _ (lt b o e) q⟩, u0.tups, u0.frzs, u0.tbls⟩
  refine I.call' (s' := { s' with heap := h' }) (ch := fp) J.os u (fun a o e => ?_) J.bare fun b hb => ⟨(hf b hb).2.2.2.1, (hf b hb).2.1, (hf b hb).2.2.2.2.1, (hf b hb).2.2.2.2.2⟩
  have ne : ∀ b x, H' b = some x → b ≠ s₃.heap.objs.size := fun b x q z => by rw [z, fr] at q; cases q
  refine (J.hok a o e).stay (fun b u hb q => hs.extBut b u ?_ q) (fun _ q => q) fun _ _ q => q
  rcases hb with z | z
  · rw [z]; exact ne a o e
  · exact ne b _ z

/-- the whole of it, ahead of what becomes of the list -/
theorem comp_core (C : CompIn X scope cl N sel) {tg iter elt : Expr} {ifs : List Expr} {wi : TI} {g : TG} {tc : TT} {te : TE} {pos : Pos} (hc : X.calm = true) (hi : PI X tg iter wi)
    (hg : ∀ s₃ H₃ fp, PG (cxIn X scope cl N s₃ H₃ fp) tg g) (ht : ∀ s₃ H₃ fp, PIf (cxIn X scope cl N s₃ H₃ fp) ifs tc) (he : ∀ s₃ H₃ fp, PE (cxIn X scope cl N s₃ H₃ fp) elt te)
    {RR : Value → Addr → Result → Shared → Prop} {R : VK} (I : Inv X pins σ H s) (h : tComp sel wi g tc te σ H R)
    (fin : ∀ D C' H' s' m, R (.ref D) H' → s'.heap.Ns C' m → FpOk X pins H' C' → (∀ h', Heap.SameBut C' s'.heap h' → Inv X pins σ H' { s' with heap := h' }) → RR (.ref D) C' (.ok .next) s') :
    wpAny (model X.prog X.w) X.A (eval iter X.env) (fun x s₁ => wpAny (model X.prog X.w) X.A (pyIter x) (fun it s₂ => wpAny (model X.prog X.w) X.A (newList []) (fun acc s₃ =>
      wpAny (model X.prog X.w) X.A (newFunctionEnv scope X.env.globals cl [] X.env.qual none .none (some X.env)) (fun cenv s₄ =>
        codeAny (model X.prog X.w) X.A (.compStart (.ListComp elt [⟨tg, iter, ifs, 0⟩] scope pos) 0 it acc { cenv with scope := relabel scope X.env }) (RR acc cenv.locals) s₄) X.xe s₃) X.xe s₂) X.xe s₁) X.xe s := by
  refine thn (hi pins s σ H _ I h) fun v s1 h1 => thn h1 fun itv s2 h2 => ?_
  obtain ⟨it, fp, tn, J, H2, e, I2, T, st2, f2, hD⟩ := h2
  subst e
  have frD : H2 s2.heap.objs.size = none := I2.fresh
  obtain ⟨W, ⟨m0, w0⟩, turn⟩ := hD s2.heap.objs.size frD
  refine wpAny_newObj_type ?_
  have I3 : Inv X pins σ (upd H2 s2.heap.objs.size (.lst [])) { s2 with heap := s2.heap.push { cls := .type "list", data := .seq ([] : List Value).toArray }, toks := s2.toks } := I2.lnew (its := []) .nil (Nat.zero_le _)
  have lt2 : ∀ b ∈ fp, b < s2.heap.objs.size := fun b hb => by
    obtain ⟨o, e, _⟩ := T.obj _ _ st2 b hb
    exact Heap.lt_size e
  have f3 : ∀ b ∈ fp, FpOk X pins (upd H2 s2.heap.objs.size (.lst [])) b := fun b hb => ⟨by rw [upd_ne (Nat.ne_of_lt (lt2 b hb))]; exact (f2 b hb).1, (f2 b hb).2⟩
  generalize eH : upd H2 s2.heap.objs.size (.lst []) = H3 at I3 f3 w0
  have hD3 : H3 s2.heap.objs.size = some (.lst []) := by rw [← eH]; exact upd_same
  generalize es : ({ s2 with heap := s2.heap.push { cls := .type "list", data := .seq ([] : List Value).toArray }, toks := s2.toks } : Shared) = s3 at I3
  have st3 : tn 0 s3.heap := by
    rw [← es]
    exact T.keep _ _ _ st2 fun b _ o e => Heap.get?_push_of_some _ e
  have lt3 : ∀ b ∈ fp, b < s3.heap.objs.size := fun b hb => by
    obtain ⟨o, e, _⟩ := T.obj _ _ st3 b hb
    exact Heap.lt_size e
  refine wpAny_newFunctionEnv C.nocell (fun x hx => by simp at hx) (fun h4 hn4 hs4 => ?_) C.kind
  have k4 : ∀ b o, s3.heap.get? b = some o → h4.get? b = some o := fun b o e => hs4.extBut b o (Nat.ne_of_lt (Heap.lt_size e)) (Heap.get?_push_of_some _ e)
  have I4 := C.start (tk := s3.toks + ([] : List (Str × Value)).length) I3 f3 lt3 (by simpa using hn4) k4
  have st4 : tn 0 h4 := T.keep _ _ _ st3 fun b _ o e => k4 b o e
  have stat : ∀ {H' : Hp}, (∀ b ∈ fp, H' b = none) → ∀ b ∈ fp, FpOk (cxIn X scope cl N s3 H3 fp) [] H' b := fun hn b hb =>
    ⟨hn b hb, Nat.ne_of_lt (lt3 b hb), (C.ok I3 f3 lt3).exfs b hb, .inl hb, fun x c h => (f3 b hb).2.2.2.2.1 x c (C.cells x c h), fun p hp => absurd (show p ∈ ([] : List (Addr × Obj)) from hp) (by simp)⟩
  have loop : codeAny (model X.prog X.w) X.A (.compLoop (.ListComp elt [⟨tg, iter, ifs, 0⟩] scope pos) 0 (.ref it) (.ref s2.heap.objs.size) (compEnvC scope cl s3.heap.objs.size X.env)) (RR (.ref s2.heap.objs.size) s3.heap.objs.size)
      { s3 with heap := h4, toks := s3.toks + ([] : List (Str × Value)).length } := by
    refine compLoop_any (fun n s' => ∃ i τ H', Inv (cxIn X scope cl N s3 H3 fp) [] τ H' s' ∧ tn i s'.heap ∧ (∀ b ∈ fp, H' b = none) ∧ W i n τ H') ?_ m0 ⟨0, selSt sel σ, H3, I4, st4, fun b hb => (f3 b hb).1, w0⟩
    rintro n s5 ⟨i, τ5, H5, I5, st5, fr5, w5⟩
    rcases turn i n τ5 H5 w5 with ⟨stop, q⟩ | ⟨go, Nx, hNx, step⟩
    · refine thn (T.done (cxIn X scope cl N s3 H3 fp) rfl rfl rfl hc i [] s5 τ5 H5 _ I5 (stat fr5) st5 stop) fun r s6 ⟨hr, I6⟩ => ?_
      subst hr
      obtain ⟨m6, hn6, _⟩ := id I6.loc
      exact fin _ _ H5 s6 m6 q hn6 (I3.fpOk (Nat.le_refl _) I6.free) fun h' hs' => C.back I3 f3 I6 hs'
    · refine thn (T.item (cxIn X scope cl N s3 H3 fp) rfl rfl rfl hc i [] s5 τ5 H5 _ I5 (stat fr5) st5 go) fun r s6 ⟨u, hr, h6⟩ => ?_
      subst hr
      refine thn h6 fun _ s7 ⟨x, H7, I7, r7, y7, st7, fr7⟩ => ?_
      have I7' := I7.pinned (stat fr7) (T.obj _ _ st7)
      have keepT : ∀ {τ' : St} {H' : Hp} {s' : Shared}, Inv (cxIn X scope cl N s3 H3 fp) ([] ++ pinsAt fp s7.heap) τ' H' s' → tn (i + 1) s'.heap ∧ ∀ b ∈ fp, H' b = none := fun {τ' H' s'} Iz =>
        ⟨T.keep _ _ _ st7 fun b hb o e => (Iz.pin (b, o) (List.mem_append_right _ (List.mem_append_right _ (mem_pinsAt hb e)))).1, fun b hb => by
          obtain ⟨o, e, d⟩ := T.obj _ _ st7 b hb
          exact (Iz.pin (b, o) (List.mem_append_right _ (List.mem_append_right _ (mem_pinsAt hb e)))).2.1⟩
      refine thn (hg s3 H3 fp _ s7 τ5 H7 x u _ I7' r7 (step x H7 y7)) fun _ s8 ⟨τ8, H8, I8, q8⟩ => ?_
      refine thn (ht s3 H3 fp _ s8 τ8 H8 _ I8 q8) fun ok s9 ⟨H9, I9, q9⟩ => ?_
      cases ok with
      | false =>
        obtain ⟨m', hm, w9⟩ := hNx _ _ (show Nx τ8 H9 from q9)
        exact ⟨m', hm, i + 1, τ8, H9, I9.unpinned, (keepT I9).1, (keepT I9).2, w9⟩
      | true =>
        have q9 : te τ8 H9 _ := q9
        refine thn (he s3 H3 fp _ s9 τ8 H9 _ I9 q9) fun y s10 ⟨yv, H10, I10, r10, q10⟩ => ?_
        obtain ⟨ys, hys, hl, n10⟩ := q10
        obtain ⟨m', hm, w10⟩ := hNx _ _ n10
        refine thn (mt_append (X := cxIn X scope cl N s3 H3 fp) _ s10 τ8 H10 (.ref s2.heap.objs.size) [yv] (.ref s2.heap.objs.size) [y] (fun _ H' => W (i + 1) m' τ8 H') I10 rfl (.cons r10 .nil) ⟨_, ys, yv, rfl, rfl, hys, hl, w10⟩) fun _ s11 ⟨_, H11, I11, _, w11⟩ => ?_
        exact ⟨m', hm, i + 1, τ8, H11, I11.unpinned, (keepT I11).1, (keepT I11).2, w11⟩
  exact codeAny_compStart_list loop (T.self X.A 0 _ _ _ st4 loop)

/-- [elt for target in iter if c] as a value -/
theorem pe_comp (C : CompIn X scope cl N sel) {tg iter elt : Expr} {ifs : List Expr} {wi : TI} {g : TG} {tc : TT} {te : TE} {pos : Pos} (hc : X.calm = true) (hi : PI X tg iter wi)
    (hg : ∀ s₃ H₃ fp, PG (cxIn X scope cl N s₃ H₃ fp) tg g) (ht : ∀ s₃ H₃ fp, PIf (cxIn X scope cl N s₃ H₃ fp) ifs tc) (he : ∀ s₃ H₃ fp, PE (cxIn X scope cl N s₃ H₃ fp) elt te)
    (hs : ∀ x, foldedSetIterable iter X.env x = pure x := by intro _; rfl) : PE X (.ListComp elt [⟨tg, iter, ifs, 0⟩] scope pos) (tComp sel wi g tc te) := by
  intro pins s σ H Q I h
  rw [eval_ListComp]
  refine wpAny_comprehension_free (use := none) rfl hs C.clos C.kind C.locs (comp_core C hc hi hg ht he I h (R := Q) fun D C' H' s' m q hn _ back => ?_)
  exact ⟨m, hn, fun h' hs' => ⟨.ref D, H', back h' hs', rfl, q⟩⟩

/-- name = [elt for target in iter if c] -/
theorem ps_setcomp (C : CompIn X scope cl N sel) {tg iter elt : Expr} {ifs : List Expr} {wi : TI} {g : TG} {tc : TT} {te : TE} {pos spos py : Pos} {y : Str} {k : Nat} (hc : X.calm = true) (hN : X.N.Nodup) (hk : X.N[k]? = some y) (hy : Loc X.env.scope y) (hi : PI X tg iter wi)
    (hg : ∀ s₃ H₃ fp, PG (cxIn X scope cl N s₃ H₃ fp) tg g) (ht : ∀ s₃ H₃ fp, PIf (cxIn X scope cl N s₃ H₃ fp) ifs tc) (he : ∀ s₃ H₃ fp, PE (cxIn X scope cl N s₃ H₃ fp) elt te)
    (hsw : swapsWith (.ListComp elt [⟨tg, iter, ifs, 0⟩] scope pos) (some (.Name y py)) spos.line X.env = pure true := by rfl)
    (hs : ∀ x, foldedSetIterable iter X.env x = pure x := by intro _; rfl) (hf : X.fn y = true ∨ X.env.scope.names.lookup y = some .local := by first | exact .inl rfl | exact .inr rfl | assumption) :
    PS X (.Assign [.Name y py] (.ListComp elt [⟨tg, iter, ifs, 0⟩] scope pos) spos) (tAsg (tComp sel wi g tc te) (gName k)) := by
  intro pins s σ H D I h
  rw [exec_Assign_Name_used _ _ _ _ hsw]
  refine wpAny_bind (wpAny_standAt (wpAny_bind ?_))
  show wpAny _ X.A (do let _ ← comprehension (.ListComp elt [⟨tg, iter, ifs, 0⟩] scope pos) scope X.env _ (newList []) false (eval iter X.env) (some (assign (.Name y py) X.env))) _ _ s
  refine wpAny_bind (wpAny_mono (wpAny_comprehension_free (use := some (assign (.Name y py) X.env)) (Q := fun _ s' => SP X pins D .next s') rfl hs C.clos C.kind C.locs
    (comp_core C hc hi hg ht he I h (R := fun x H1 => D.nx (σ.set k (some x)) H1) fun D' C' H' s' m q hn fC back => ?_)) (fun _ s' hq => wpAny_pure (wpAny_pure hq)) fun _ _ e => e)
  show wpAny (model X.prog X.w) X.A (assign (.Name y py) X.env (.ref D')) _ _ s'
  have I' : Inv X pins σ H' s' := back s'.heap (.refl ..)
  obtain ⟨oC, hoC, hdC⟩ : ∃ o, s'.heap.get? C' = some o ∧ ∀ v, o.data ≠ .cell v := by
    obtain ⟨o, es, ep, ho, hd, _⟩ := id hn
    exact ⟨o, ho, fun v z => by rw [hd] at z; cases z⟩
  have I'' : Inv X (pins ++ [(C', oC)]) σ H' s' := I'.pins_of fun p hp => by
    rcases List.mem_append.mp hp with z | z
    · exact I'.pin p (List.mem_append_right _ z)
    · have e : p = (C', oC) := by simpa using z
      subst e
      exact ⟨hoC, fC.1, fC.2.1, fC.2.2.1, hdC⟩
  refine wpAny_assign_Name (store_ok I'' hN hk hy (v := .ref D') rfl (fun s2 I2 => ?_) hf)
  have p2 := I2.pin (C', oC) (List.mem_append_right _ (List.mem_append_right _ (by simp)))
  refine ⟨m, ?_, fun h' hs' => ⟨σ.set k (some (.ref D')), H', ?_, q⟩⟩
  · obtain ⟨o, es, ep, ho, r⟩ := hn
    rw [hoC] at ho; cases ho
    exact ⟨oC, es, ep, p2.1, r⟩
  · exact I2.unpinned.turned (t' := s2.toks) (fun b o hb e => hs'.extBut b o hb e) fC.1 fC.2.1 fC.2.2.2.1 fC.2.2.2.2.1 fC.2.2.2.2.2
end
end L2
/-! RULES over the hand layer: sets of texts, sorted, all, sum, walks over dicts -/
namespace L2
open PySem PySem.Spec PyProof.Rows
open SL (SetL onceS srt setFits)

section
variable {X : Cx} {pins : List (Addr × Obj)} {σ : St} {H : Hp} {s : Shared}
theorem Inv.draw (I : Inv X pins σ H s) (d : Drawn) : Inv X pins σ H { s with drawn := d } := ⟨I.ok, I.os, I.bare, I.base, I.loc, I.cell, I.free, I.freeC, I.pin, I.hok, I.len⟩

theorem strs_of : ∀ {ss : List Str} {us : List Value}, Vals (ss.map V.str) us → StrsAre us ss
  | [], us, h => by cases h; exact .nil
  | x :: r, us, h => by
    cases h with
    | cons e t =>
      obtain ⟨tk, rfl⟩ := e
      exact .cons x tk (strs_of t)
theorem vals_strs : ∀ {us : List Value} {ss : List Str}, StrsAre us ss → Vals (ss.map V.str) us
  | _, _, .nil => .nil
  | _, _, .cons x t h => .cons ⟨t, rfl⟩ (vals_strs h)
theorem strsAre_len {us : List Value} {ss : List Str} (h : StrsAre us ss) : us.length = ss.length := by
  have := (vals_strs h).length
  rw [List.length_map] at this
  exact this.symm
theorem strsAre_get : ∀ {us : List Value} {ss : List Str}, StrsAre us ss → ∀ (i : Nat) (v : Value), us[i]? = some v → ∃ t, v = .str (ss.getD i Str.empty) t
  | _, _, .nil, i, v, h => by simp at h
  | _, _, .cons x t r, 0, v, h => by simp at h; exact ⟨t, by rw [← h]; rfl⟩
  | _, _, .cons x t r, i + 1, v, h => by
    simp only [List.getElem?_cons_succ] at h
    obtain ⟨t', e⟩ := strsAre_get r i v h
    exact ⟨t', by rw [e]; rfl⟩

/-- a set of texts at a -/
def setO (w : World) (a : Addr) (L : List Str) : HO := .ext fun h => SetL w h a L
theorem setO_ok {P : Program} {w : World} {H : Hp} {h : Heap} {a : Addr} {L : List Str} (S : SetL w h a L) : ObjOk P w H h a (setO w a L) := ⟨S, S.there, fun _ _ S k => S.at k⟩
theorem Inv.setL {a : Addr} {L : List Str} (I : Inv X pins σ H s) (h : H a = some (setO X.w a L)) : SetL X.w s.heap a L := (I.hok a _ h).1
theorem Inv.newList {its : List Value} {ys : List V} {n : Nat} {h' : Heap} {a : Addr} {tk : Nat} (I : Inv X pins σ H s) (k : ∀ b o, s.heap.get? b = some o → h'.get? b = some o) (ha : s.heap.objs.size ≤ a) (e : h'.get? a = some { cls := .type "list", data := .seq its.toArray n }) (r : Vals ys its) (hz : ys.length ≤ sizeLine) :
    Inv X pins σ (upd H a (.lst ys)) { s with heap := h', toks := tk } := I.laid (t' := tk) k ha (show ObjOk X.prog X.w _ h' _ (.lst ys) from ⟨hz, its, n, r, e⟩)
end

section
variable {X : Cx}
/-- set(xs), a list of texts -/
theorem call_set (hc : X.calm = true) : CallR X (.type "set") (fun xs H Q => ∃ p ss, xs = [.ref p] ∧ SqL X.K H p (ss.map V.str) ∧ ss.length + 1 < scanBound ∧ ∀ q, H q = none → Q (.ref q) (upd H q (setO X.w q (onceS ss)))) := by
  intro pins s σ H xs us Q I r h
  obtain ⟨p, ss, rfl, hq, hb, q⟩ := h
  obtain ⟨u, rfl, rx⟩ := vals1 r
  cases rx
  obtain ⟨its, r', pl, hz⟩ := I.list hq
  have hS := strs_of r'
  have hl := strsAre_len hS
  refine SL.call_set_strs (I.ok.hd hc) pl.isList (ss := ss) (fun i v e => strsAre_get hS i v (by simpa using e)) (by simpa using hl) (by simp only [List.size_toArray]; omega) fun h' tk S k => ?_
  exact ⟨.ref _, _, I.laid (t' := tk) (fun b o e => k b o (Heap.lt_size e) e) (Nat.le_refl _) (setO_ok S), rfl, q _ I.fresh⟩

/-- set - set -/
theorem op_diff : OpR X (binaryOp .Sub) (fun x y H Q => ∃ a b L M, x = .ref a ∧ y = .ref b ∧ H a = some (setO X.w a L) ∧ H b = some (setO X.w b M) ∧ L.length / 4 ≤ M.length ∧
    ∀ q D, H q = none → D.Nodup → (∀ z, z ∈ D ↔ z ∈ L ∧ ¬ z ∈ M) → Q (.ref q) (upd H q (setO X.w q D))) := by
  intro pins s σ H x y v u Q I rx ry h
  obtain ⟨a, b, L, M, rfl, rfl, h1, h2, hl, q⟩ := h
  cases rx
  cases ry
  refine SL.diff_L (I.setL h1) (I.setL h2) hl fun D h' tk d nd hm S k => ?_
  have J : Inv X pins σ (upd H s.heap.objs.size (setO X.w s.heap.objs.size D)) { s with heap := h', toks := tk } := I.laid (t' := tk) k (Nat.le_refl _) (setO_ok S)
  exact ⟨.ref _, _, J.draw d, rfl, q _ D I.fresh nd hm⟩

/-- sorted(xs): a list of texts, a set of texts, a dict whose keys are texts -/
def SrtV (X : Cx) (H : Hp) (p : Addr) (ss : List Str) : Prop := SqL X.K H p (ss.map V.str) ∨ H p = some (setO X.w p ss) ∨ ∃ kvs, H p = some (.dK kvs) ∧ kvs.map (·.1) = ss.map Sum.inr
theorem call_sorted (hc : X.calm = true) : CallR X (.builtin "sorted") (fun xs H Q => ∃ p ss, xs = [.ref p] ∧ SrtV X H p ss ∧ ss.length < 64 ∧ ∀ q, H q = none → Q (.ref q) (upd H q (.lst ((srt ss).map V.str)))) := by
  intro pins s σ H xs us Q I r h
  obtain ⟨p, ss, rfl, hq, h64, q⟩ := h
  obtain ⟨u, rfl, rx⟩ := vals1 r
  cases rx
  have hh : X.A.in1.handled = none := I.ok.hd hc
  have hz : ((srt ss).map V.str).length ≤ sizeLine := by rw [List.length_map, SL.len_srt, sizeLine_eq]; omega
  have fin : ∀ (vs : List Value) (ss' : List Str) (h1 : Heap) (tk : Nat) (d : Drawn), StrsAre vs ss' → ss'.Perm ss → (∀ b o, s.heap.get? b = some o → h1.get? b = some o) →
      ∃ ss, StrsAre vs ss ∧ vs.length < 64 ∧ ∀ (out : List Value) (e : Nat) (h' : Heap), StrsAre out (srt ss) → (∀ b o, h1.get? b = some o → h'.get? b = some o) → h'.get? h1.objs.size = some { cls := .type "list", data := .seq out.toArray e } →
        EP X pins σ Q (.ref h1.objs.size) { s with heap := h', toks := tk, drawn := d } := by
    intro vs ss' h1 tk d hS hp k
    have I1 : Inv X pins σ H { s with heap := h1, toks := tk } := I.kept (t' := tk) k
    refine ⟨ss', hS, by rw [strsAre_len hS, hp.length_eq]; exact h64, fun out e h' hO k' he => ?_⟩
    rw [SL.srt_congr hp] at hO
    have J := I1.newList (tk := tk) k' (Nat.le_refl _) he (vals_strs hO) hz
    exact ⟨.ref _, _, J.draw d, rfl, q _ I1.fresh⟩
  refine SL.sorted_of ?_
  rcases hq with hq | hq | ⟨kvs, hq, hk⟩
  · obtain ⟨its, r', pl, hz'⟩ := I.list hq
    have hS := strs_of r'
    refine collect_list pl.isList ?_
    refine fin its ss _ s.toks s.drawn hS (.refl _) (fun b o e => ?_)
    refine (Heap.get?_update_other _ _ ?_).trans (Heap.get?_push_of_some _ e)
    exact Ne.symm (Nat.ne_of_lt (Heap.lt_size e))
  · refine SL.collect_set hh (I.setL hq) fun vs h' tk d hO k => ?_
    have hS := strsAre_map vs hO.str
    have e : vs.map strOf = vs.map SL.keyS := List.map_congr_left fun v hv => by
      obtain ⟨x, t, rfl⟩ := hO.str v hv
      rfl
    exact fin vs _ h' tk d hS (by rw [e]; exact hO.perm) k
  · obtain ⟨z, hsm, vs, rel, dd⟩ := dk_of I.hok hq
    obtain ⟨ep, hat⟩ := dd.dictAt
    have hlen : vs.length = ss.length := by
      have h1 := rel.length
      have h2 := congrArg List.length hk
      rw [List.length_map, List.length_map] at h2
      omega
    refine PySem.W.kdu_collect (PySem.W.kdl_dict (knd := mixKind X.prog X.w) (kvs := vs) (ep := ep) hsm) hh hat (by rw [hlen, sizeLine_eq]; omega) fun h' tk acc k hacc => ?_
    have hS : StrsAre acc.toList ss := by
      have hks : vs.map (·.1) = ss.map Sum.inr := by rw [← rel.keys]; exact hk
      have hst : ∀ (j : Nat) (v : Value), acc[j]? = some v → ∃ t, v = .str (ss.getD j Str.empty) t := fun j v e => by
        obtain ⟨k', x, h1, h2⟩ := hacc.2 j v e
        have h3 := congrArg (fun l => l[j]?) hks
        simp only [List.getElem?_map, h1] at h3
        cases q3 : ss[j]? with
        | none => rw [q3] at h3; cases h3
        | some y =>
          rw [q3] at h3
          have h3 : some k' = some (Sum.inr y) := h3
          injection h3 with h3
          subst h3
          obtain ⟨t, rfl⟩ := Value.isStrOf_shape (x := y) (v := v) h2
          exact ⟨t, by rw [List.getD_eq_getElem?_getD, q3]; rfl⟩
      have ha : ∀ v, v ∈ acc.toList → ∃ x t, v = Value.str x t := fun v hv => by
        obtain ⟨j, hj, e⟩ := List.mem_iff_getElem.mp hv
        obtain ⟨t, e'⟩ := hst j v (by rw [← Array.getElem?_toList, List.getElem?_eq_getElem hj, e])
        exact ⟨_, t, e'⟩
      have h4 := strsAre_map acc.toList ha
      have h5 : acc.toList.map strOf = ss := by
        apply List.ext_getElem?
        intro j
        rw [List.getElem?_map, Array.getElem?_toList]
        cases q4 : acc[j]? with
        | none =>
          have : ss.length ≤ j := by
            rw [Array.getElem?_eq_none_iff] at q4
            rw [hacc.1, hlen] at q4
            exact q4
          rw [List.getElem?_eq_none this]
          rfl
        | some v =>
          obtain ⟨t, rfl⟩ := hst j v q4
          have hj : j < ss.length := by
            obtain ⟨hlt, _⟩ := Array.getElem?_eq_some_iff.mp q4
            rw [hacc.1, hlen] at hlt
            exact hlt
          rw [List.getD_eq_getElem?_getD, List.getElem?_eq_getElem hj]
          rfl
      rw [h5] at h4
      exact h4
    exact fin _ ss h' tk s.drawn hS (.refl _) k

/-- all(xs), a list of bools -/
theorem call_all (hc : X.calm = true) : CallR X (.builtin "all") (fun xs H Q => ∃ (p : Addr) (bs : List Bool), xs = [.ref p] ∧ SqL X.K H p (bs.map V.bl) ∧ Q (.bl (bs.all id)) H) := by
  intro pins s σ H xs us Q I r h
  obtain ⟨p, bs, rfl, hq, q⟩ := h
  obtain ⟨u, rfl, rx⟩ := vals1 r
  cases rx
  obtain ⟨its, r', pl, hz⟩ := I.list hq
  have hplt : p < s.heap.objs.size := by
    obtain ⟨o, n, e, _⟩ := pl
    exact Heap.lt_size e
  have hb : ∀ (i : Nat) (v : Value), its.toArray[i]? = some v → v = .bool (bs.getD i true) ∧ i < bs.length := fun i v e => by
    have e : its[i]? = some v := by simpa using e
    cases q1 : (bs.map V.bl)[i]? with
    | none =>
      have := Vals.none_of r' q1
      rw [this] at e; cases e
    | some x =>
      obtain ⟨u, h1, h2⟩ := Vals.get r' q1
      rw [e] at h1; cases h1
      rw [List.getElem?_map] at q1
      cases q2 : bs[i]? with
      | none => rw [q2] at q1; cases q1
      | some b =>
        rw [q2] at q1
        have q1 : some (V.bl b) = some x := q1
        injection q1 with q1
        subst q1
        cases h2
        rw [List.getD_eq_getElem?_getD, q2]
        exact ⟨rfl, (List.getElem?_eq_some_iff.mp q2).1⟩
  have hl : its.length = bs.length := by
    have := r'.length
    rw [List.length_map] at this
    exact this.symm
  refine call_all_walk (wpAny_pyIter_list pl.isList ?_)
  refine ⟨s.heap.objs.size, _, _, _, _, _, fun i => bs.getD i true, rfl, Walks.list (show X.A.in1.handled = none from I.ok.hd hc) s.heap.objs.size p (Nat.ne_of_lt hplt) its.toArray, ⟨⟨_, Heap.get?_push_size _ rfl, rfl, rfl⟩, pl.isList.push _⟩, ?_, fun h' tk k => ?_⟩
  · intro i v s' Q' E' hP h'
    obtain ⟨rfl, _⟩ := hb i v hP
    exact wpAny_truthy_bool h'
  · have e : ((List.range its.toArray.size).all fun i => bs.getD i true) = bs.all id := by
      rw [List.size_toArray, hl, Bool.eq_iff_iff, List.all_eq_true, List.all_eq_true]
      constructor
      · intro z b hb'
        obtain ⟨i, hi, e⟩ := List.mem_iff_getElem.mp hb'
        have := z i (List.mem_range.mpr hi)
        rw [List.getD_eq_getElem?_getD, List.getElem?_eq_getElem hi] at this
        rw [← e]; exact this
      · intro z i hi
        have hi := List.mem_range.mp hi
        rw [List.getD_eq_getElem?_getD, List.getElem?_eq_getElem hi]
        exact z _ (List.getElem_mem hi)
    rw [e]
    refine ⟨.bl _, H, I.kept (t' := tk) fun b o z => ?_, rfl, q⟩
    exact k b o (by simp only [List.mem_singleton]; exact Nat.ne_of_lt (Heap.lt_size z)) (Heap.get?_push_of_some _ z)

theorem preSum_eq (ns : List Int) : ∀ n, n ≤ ns.length → preSum (fun i => ns.getD i 0) n = (ns.take n).sum
  | 0, _ => rfl
  | n + 1, h => by
    show preSum _ n + ns.getD n 0 = _
    rw [preSum_eq ns n (by omega), List.take_succ, List.sum_append, List.getD_eq_getElem?_getD, List.getElem?_eq_getElem (by omega)]
    simp
/-- sum(xs), a list of ints -/
theorem call_sum (hc : X.calm = true) : CallR X (.builtin "sum") (fun xs H Q => ∃ (p : Addr) (ns : List Int), xs = [.ref p] ∧ SqL X.K H p (ns.map V.int) ∧ Q (.int ns.sum) H) := by
  intro pins s σ H xs us Q I r h
  obtain ⟨p, ns, rfl, hq, q⟩ := h
  obtain ⟨u, rfl, rx⟩ := vals1 r
  cases rx
  obtain ⟨its, r', pl, hz⟩ := I.list hq
  have hI := intsAre_of r'
  have hplt : p < s.heap.objs.size := by
    obtain ⟨o, n, e, _⟩ := pl
    exact Heap.lt_size e
  have hl : its.length = ns.length := hI.length
  refine call_sum_walkAnyS (wpAny_pyIter_list pl.isList ?_)
  refine ⟨s.heap.objs.size, _, _, _, _, _, _, fun i => ns.getD i 0, rfl, (Walks.list (show X.A.in1.handled = none from I.ok.hd hc) s.heap.objs.size p (Nat.ne_of_lt hplt) its.toArray).toS, ⟨⟨_, Heap.get?_push_size _ rfl, rfl, rfl⟩, pl.isList.push _⟩, fun b hb => ?_, fun i v e => IntsAre.int_at hI i v (by simpa using e), fun s' t' hm => ?_⟩
  · simp only [List.mem_cons, List.not_mem_nil, or_false] at hb
    show b < (s.heap.push _).objs.size
    rw [Heap.size_push]
    rcases hb with rfl | rfl
    · exact Nat.lt_succ_self _
    · exact Nat.lt_succ_of_lt hplt
  · have e : preSum (fun i => ns.getD i 0) its.toArray.size = ns.sum := by
      rw [List.size_toArray, hl, preSum_eq ns _ (Nat.le_refl _), List.take_length]
    rw [e, SL.moved_eq hm]
    refine ⟨.int _, H, I.kept (t' := s'.toks) fun b o z => ?_, ⟨_, rfl⟩, q⟩
    exact hm.heap b o (by simp only [List.mem_singleton]; exact Nat.ne_of_lt (Heap.lt_size z)) (Heap.get?_push_of_some _ z)
end
end L2
/-! RULES: walks over dicts, items, isinstance, == of lists, rows -/
namespace L2
open PySem PySem.Spec PyProof.Rows
open SL (SetL onceS srt setFits)

/-! ### for k in d: d is frozen from then on -/
def Itd (o : Obj) (d : Addr) (kvs : List (Key × V)) : It :=
  ⟨fun i H => H d = some (.frz o (.dK kvs)) ∧ i < kvs.length, fun i H x H' => H' = H ∧ ∃ k v, kvs[i]? = some (k, v) ∧ x = kV k, fun i H => H d = some (.frz o (.dK kvs)) ∧ kvs.length ≤ i⟩
theorem rel_key {P : Program} {w : World} {k : Key} {u : Value} (h : (mixKind P w).is k u = true) : RelV (kV k) u := by
  rcases keyIs_shape (k := k) (v := u) h with ⟨i, t, rfl, rfl⟩ | ⟨x, t, rfl, rfl⟩
  · exact ⟨t, rfl⟩
  · exact ⟨t, rfl⟩
theorem turn_dict {P : Program} {w : World} {K : PySem.W.Frag} {tg : Expr} (d it : Addr) (o : Obj) (kvs : List (Key × V)) (n ep : Nat) (hn : n = kvs.length) (hep : ∃ es, o.data = .dict es ep) : Turn P w K tg (Itd o d kvs) [it] it (fun i h => h.IsKeyIter it d i n ep) where
  mem := by simp
  obj := fun i h st b hb => by
    have e : b = it := by simpa using hb
    subst e
    obtain ⟨o', ho, hc, hd⟩ := st
    exact ⟨o', ho, fun v z => by rw [hd] at z; cases z⟩
  keep := fun i h h' st k => by
    obtain ⟨o', ho, r⟩ := st
    exact ⟨o', k it (by simp) o' ho, r⟩
  item := by
    intro X hP hw hK hc i pins s σ H E I f st go
    subst hP; subst hw; subst hK
    obtain ⟨e, hi⟩ := go
    obtain ⟨ho, ob⟩ := I.hok d _ e
    obtain ⟨z, hsm, vs, rel, o2, es2, ep2, h1, h2, h3, h4, h5, h6⟩ := ob
    rw [ho] at h1; cases h1
    obtain ⟨es, hes⟩ := hep
    rw [hes] at h3
    injection h3 with h3 h3'
    subst h3'
    have hvl : vs.length = n := by rw [hn, ← rel.length]
    have hat : s.heap.DictAt (mixKind X.prog X.w) d vs ep := ⟨o, es2, ho, h2, by rw [hes, h3], h4, h5, h6⟩
    subst hvl
    obtain ⟨kv, hkv⟩ : ∃ kv, kvs[i]? = some kv := ⟨kvs[i], List.getElem?_eq_getElem hi⟩
    have hvi : ∃ u, vs[i]? = some (kv.1, u) := by
      have hk := congrArg (fun l => l[i]?) rel.keys
      simp only [List.getElem?_map, hkv] at hk
      cases q : vs[i]? with
      | none => rw [q] at hk; cases hk
      | some p =>
        rw [q] at hk
        have hk : some kv.1 = some p.1 := hk
        injection hk with hk
        exact ⟨p.2, by rw [hk]⟩
    obtain ⟨u, hu⟩ := hvi
    have hf := f it (by simp)
    refine wpAny_pyNext_dict_item st hat hu fun key h' hkey st' hs => ?_
    obtain ⟨oi, hoi, hci, hdi⟩ := id st'
    refine ⟨key, rfl, go_of (n := "dict_keyiterator") hoi hci hdi (by decide) ?_⟩
    exact ⟨kV kv.1, H, I.turned (t' := s.toks) (fun b o hb e => hs.extBut b o hb e) hf.1 hf.2.1 hf.2.2.2.1 hf.2.2.2.2.1 hf.2.2.2.2.2, rel_key hkey, ⟨rfl, kv.1, kv.2, hkv, rfl⟩, st', fun b hb => by
      have e : b = it := by simpa using hb
      subst e
      exact hf.1⟩
  done := by
    intro X hP hw hK hc i pins s σ H E I f st stop
    subst hP; subst hw; subst hK
    obtain ⟨e, hi⟩ := stop
    obtain ⟨ho, ob⟩ := I.hok d _ e
    obtain ⟨z, hsm, vs, rel, o2, es2, ep2, h1, h2, h3, h4, h5, h6⟩ := ob
    rw [ho] at h1; cases h1
    obtain ⟨es, hes⟩ := hep
    rw [hes] at h3
    injection h3 with h3 h3'
    subst h3'
    have hvl : vs.length = n := by rw [hn, ← rel.length]
    have hat : s.heap.DictAt (mixKind X.prog X.w) d vs ep := ⟨o, es2, ho, h2, by rw [hes, h3], h4, h5, h6⟩
    subst hvl
    have hf := f it (by simp)
    refine wpAny_pyNext_dict_end (I.ok.hd hc) st hat (List.getElem?_eq_none (by rw [← rel.length]; exact hi)) fun h' hs => ?_
    exact ⟨rfl, I.turned (t' := s.toks) (fun b o hb e => hs b o hb e) hf.1 hf.2.1 hf.2.2.2.1 hf.2.2.2.2.1 hf.2.2.2.2.2⟩
  self := fun A i s Q E st h => wpAny_pyIter_keyiter st h
def iDict (tl : TE) : TI := fun σ H R => tl σ H fun x H1 => ∃ d kvs, x = .ref d ∧ H1 d = some (.dK kvs) ∧ ∀ o, R (Itd o d kvs) (upd H1 d (.frz o (.dK kvs)))
section
variable {X : Cx} {tg : Expr}
theorem Inv.freeze {pins : List (Addr × Obj)} {σ : St} {H : Hp} {s : Shared} {d : Addr} {kvs : List (Key × V)} {o : Obj} (I : Inv X pins σ H s) (e : H d = some (.dK kvs)) (ho : s.heap.get? d = some o) : Inv X pins σ (upd H d (.frz o (.dK kvs))) s := by
  have mu : Mut (H d) := by rw [e]; trivial
  have hok : HOk X.prog X.w (upd H d (.frz o (.dK kvs))) s.heap := I.hok.write mu (.inl rfl) (fun _ _ _ q => q) ⟨o, ho⟩ ⟨ho, (I.hok d _ e).stay (fun _ _ _ q => q) (fun b q => by
      rw [upd_ne (fun z => by rw [z, e] at q; cases q)]; exact q) fun b xs q => by rw [upd_ne (fun z => by rw [z, e] at q; cases q)]; exact q⟩
  have := I.un (t' := s.toks) (h' := s.heap) (H' := upd H d (.frz o (.dK kvs))) (Un.write mu (.inl rfl) (fun _ _ _ q => q) ⟨o, ho⟩) hok
  exact this
theorem pi_dict {l : Expr} {tl : TE} (hl : PE X l tl) : PI X tg l (iDict tl) := by
  intro pins s σ H R I h
  refine thn (hl pins s σ H _ I h) fun v s1 ⟨x, H1, I1, r1, q1⟩ => ?_
  obtain ⟨d, kvs, rfl, hd, q⟩ := q1
  cases r1
  obtain ⟨z, hsm, vs, rel, dd⟩ := dk_of I1.hok hd
  obtain ⟨ep, hat⟩ := dd.dictAt
  obtain ⟨o, es, ho, h2, h3, h4⟩ := id hat
  refine wpAny_pyIter_dict hsm hat ?_
  have I2 := I1.freeze hd ho
  have I3 : Inv X pins σ (upd H1 d (.frz o (.dK kvs))) { s1 with heap := s1.heap.push { cls := .type "dict_keyiterator", data := .fields #[.ref d, .int 0 0, .int vs.length 0, .int ep 0] } } := I2.kept (t' := s1.toks) fun b o e => Heap.get?_push_of_some _ e
  refine ⟨s1.heap.objs.size, [s1.heap.objs.size], _, Itd o d kvs, _, rfl, I3, turn_dict d s1.heap.objs.size o kvs vs.length ep rel.length.symm ⟨es, h3⟩, ⟨_, Heap.get?_push_size _ rfl, rfl, rfl⟩, fun b hb => ?_, q o⟩
  have e : b = s1.heap.objs.size := by simpa using hb
  subst e
  exact I2.fpOk (Nat.le_refl _) I2.fresh

/-- the form one uses: over the keys of a dict -/
theorem for_dict {o : Obj} {d : Addr} {kvs : List (Key × V)} {g : TG} {tb : TS} {D : Ends} {σ : St} {H : Hp} (Pv : Nat → St → Hp → Prop) (h0 : Pv 0 σ H) (hl : ∀ i σ H, Pv i σ H → H d = some (.frz o (.dK kvs)))
    (hs : ∀ i k v σ H, kvs[i]? = some (k, v) → Pv i σ H → g (kV k) σ H fun σ2 H2 => tb { D with nx := Pv (i + 1), ct := Pv (i + 1), bk := D.nx } σ2 H2) (hd : ∀ σ H, Pv kvs.length σ H → D.nx σ H) :
    ∃ W : Nat → Nat → St → Hp → Prop, (∃ m, W 0 m σ H) ∧ ∀ i m σ H, W i m σ H →
      ((Itd o d kvs).stop i H ∧ D.nx σ H) ∨ ((Itd o d kvs).go i H ∧ ∃ N : St → Hp → Prop, (∀ σ' H', N σ' H' → ∃ m', m' < m ∧ W (i + 1) m' σ' H') ∧ ∀ x H', (Itd o d kvs).yld i H x H' → g x σ H' fun σ2 H2 => tb { D with nx := N, ct := N, bk := D.nx } σ2 H2) := by
  refine ⟨fun i m σ H => Pv i σ H ∧ i ≤ kvs.length ∧ m = kvs.length - i, ⟨_, h0, Nat.zero_le _, rfl⟩, fun i m σ H ⟨p, hi, hm⟩ => ?_⟩
  rcases Nat.lt_or_ge i kvs.length with hlt | hge
  · refine .inr ⟨⟨hl i σ H p, hlt⟩, Pv (i + 1), fun σ' H' n => ⟨kvs.length - (i + 1), by omega, n, hlt, rfl⟩, fun x H' y => ?_⟩
    obtain ⟨rfl, k, v, e, rfl⟩ := y
    exact hs i k v σ _ e p
  · have e : i = kvs.length := by omega
    subst e
    exact .inl ⟨⟨hl _ σ H p, Nat.le_refl _⟩, hd σ H p⟩

/-! ### d.items(), list(d.items()) -/
/-- the view of a dict's pairs -/
def viewO (v d : Addr) : HO := .ext fun h => h.IsItemsView v d
theorem mt_items : MtR X "dict.items" (fun x xs H Q => ∃ d kvs, x = .ref d ∧ xs = [] ∧ H d = some (.dK kvs) ∧ ∀ v, H v = none → Q (.ref v) (upd H v (viewO v d))) := by
  intro pins s σ H x xs v us Q I rx r h
  obtain ⟨d, kvs, rfl, rfl, hd, q⟩ := h
  cases rx
  cases r
  obtain ⟨z, hsm, vs, rel, dd⟩ := dk_of I.hok hd
  refine call_meetsIn PySem.F.slot_dict_items dd.typeIs PySem.F.entry_dict_items (PySem.F.args_dict_items_1 _) (meets_dict_items (mixKind X.prog X.w) d hsm) ⟨⟨vs, dd⟩, ?_⟩
  have J : Inv X pins σ (upd H s.heap.objs.size (viewO s.heap.objs.size d)) { s with heap := s.heap.push { cls := .type "dict_items", data := .fields #[.ref d] } } := I.laid (t' := s.toks) (fun b o e => Heap.get?_push_of_some _ e) (Nat.le_refl _)
    ⟨⟨_, Heap.get?_push_size _ rfl, rfl, rfl⟩, ⟨_, Heap.get?_push_size _ rfl⟩, fun h1 h2 ⟨o, ho, e⟩ k => ⟨o, k o ho, e⟩⟩
  exact ⟨.ref _, _, J, rfl, q _ I.fresh⟩
end
end L2
namespace L2
open PySem PySem.Spec PyProof.Rows
open SL (SetL onceS srt setFits)
section
variable {X : Cx}
/-- many new objects are laid and tracked -/
theorem Inv.grow {pins : List (Addr × Obj)} {σ : St} {H H' : Hp} {s : Shared} {h' : Heap} {t' : Nat} (I : Inv X pins σ H s) (k : ∀ b o, s.heap.get? b = some o → h'.get? b = some o) (old : ∀ b, b < s.heap.objs.size → H' b = H b)
    (new : ∀ b o, s.heap.objs.size ≤ b → H' b = some o → ObjOk X.prog X.w H' h' b o) : Inv X pins σ H' { s with heap := h', toks := t' } := by
  have up : ∀ b o, H b = some o → H' b = some o := fun b o e => by rw [old b (I.hok.lt e)]; exact e
  refine I.un (t' := t') ⟨fun b o e _ _ _ => k b o e, fun b o e _ _ _ => ⟨o.slots, k b o e⟩, fun b o e n _ => by rw [old b (Heap.lt_size e)]; exact n, fun b o e _ => ⟨o, k b o e⟩, fun b xs e => up b _ e, fun b o u e => up b _ e, fun b ps e => ⟨#[], by rw [up b _ e]; simp⟩⟩ fun b o e => ?_
  rcases Nat.lt_or_ge b s.heap.objs.size with hlt | hge
  · rw [old b hlt] at e
    exact (I.hok b o e).stay (fun c u _ q => k c u q) (fun c q => up c _ q) fun c xs q => up c _ q
  · exact new b o hge e

/-- the pairs at the addresses as -/
def pairsH (H : Hp) (as : List Addr) (kvs : List (Key × V)) : Hp := fun b => match (as.zip kvs).find? (fun p => decide (p.1 = b)) with
  | some p => some (.tup [kV p.2.1, p.2.2])
  | none => H b
theorem pairsH_out {H : Hp} {as : List Addr} {kvs : List (Key × V)} {b : Addr} (h : ¬ b ∈ as) : pairsH H as kvs b = H b := by
  unfold pairsH
  have : (as.zip kvs).find? (fun p => decide (p.1 = b)) = none := by
    rw [List.find?_eq_none]
    intro p hp
    simp only [decide_eq_true_eq]
    intro e
    exact h (e ▸ (List.of_mem_zip hp).1)
  rw [this]
theorem pairsH_in {H : Hp} : ∀ {as : List Addr} {kvs : List (Key × V)} {j : Nat} {a : Addr} {k : Key} {v : V}, as.Nodup → as[j]? = some a → kvs[j]? = some (k, v) → pairsH H as kvs a = some (.tup [kV k, v]) := by
  intro as kvs j a k v nd h1 h2
  have hz : (as.zip kvs)[j]? = some (a, (k, v)) := by
    rw [List.getElem?_zip_eq_some]; exact ⟨h1, h2⟩
  have key : ∀ (l : List (Addr × Key × V)), (l.map (·.1)).Nodup → ∀ (j : Nat) (p : Addr × Key × V), l[j]? = some p → l.find? (fun q => decide (q.1 = p.1)) = some p := by
    intro l
    induction l with
    | nil => intro _ j p e; simp at e
    | cons x r ih =>
      intro nd' j p e
      rw [List.map_cons, List.nodup_cons] at nd'
      cases j with
      | zero =>
        simp at e
        subst e
        simp [List.find?_cons]
      | succ j =>
        simp only [List.getElem?_cons_succ] at e
        have hne : ¬ x.1 = p.1 := fun z => nd'.1 (z ▸ List.mem_map.mpr ⟨p, List.mem_of_getElem? e, rfl⟩)
        rw [List.find?_cons, decide_eq_false hne]
        exact ih nd'.2 j p e
  have nd' : ((as.zip kvs).map (·.1)).Nodup := by
    have e : (as.zip kvs).map (·.1) = as.take (min as.length kvs.length) := by
      apply List.ext_getElem?
      intro i
      rw [List.getElem?_map, List.getElem?_take]
      by_cases hi : i < min as.length kvs.length
      · rw [if_pos hi]
        have hi1 : i < as.length := by omega
        have hi2 : i < kvs.length := by omega
        rw [List.getElem?_eq_getElem (by rw [List.length_zip]; exact hi), List.getElem?_eq_getElem hi1]
        simp
      · rw [if_neg hi, List.getElem?_eq_none (by rw [List.length_zip]; omega)]
        rfl
    rw [e]
    exact nd.sublist (List.take_sublist _ _)
  unfold pairsH
  rw [key _ nd' j (a, (k, v)) hz]
/-- list(v), v the view of a dict's pairs -/
theorem call_listItems (hc : X.calm = true) : CallR X (.type "list") (fun xs H Q => ∃ v d kvs, xs = [.ref v] ∧ H v = some (viewO v d) ∧ H d = some (.dK kvs) ∧
    ∀ (l : Addr) (as : List Addr) (H' : Hp), H l = none → as.length = kvs.length → (∀ b o, H b = some o → H' b = some o) → H' l = some (.lst (as.map V.ref)) → (∀ (j : Nat) (a : Addr) (k : Key) (x : V), as[j]? = some a → kvs[j]? = some (k, x) → H' a = some (.tup [kV k, x])) → Q (.ref l) H') := by
  intro pins s σ H xs us Q I r h
  obtain ⟨v, d, kvs, rfl, hv, hd, q⟩ := h
  obtain ⟨u, rfl, rx⟩ := vals1 r
  cases rx
  obtain ⟨z, hsm, vs, rel, dd⟩ := dk_of I.hok hd
  obtain ⟨ep, hat⟩ := dd.dictAt
  have hview : s.heap.IsItemsView v d := (I.hok v _ hv).1
  refine PySem.W.kdx_call (knd := mixKind X.prog X.w) (I.ok.hd hc) hview hat (by rw [← rel.length]; exact z) fun h' tk acc c as k hl hla hG hacc => ?_
  have hlen : as.length = kvs.length := by rw [hla, rel.length]
  have ndA : as.Nodup := hG.rise.imp fun hab => Nat.ne_of_lt hab
  have abv : ∀ a ∈ as, s.heap.objs.size < a := hG.above
  have nl : ¬ s.heap.objs.size ∈ as := fun z => Nat.lt_irrefl _ (abv _ z)
  let H' := pairsH (upd H s.heap.objs.size (.lst (as.map V.ref))) as kvs
  have hH'l : H' s.heap.objs.size = some (.lst (as.map V.ref)) := (pairsH_out nl).trans upd_same
  have hold : ∀ b, b < s.heap.objs.size → H' b = H b := fun b hb => by
    have n1 : ¬ b ∈ as := fun z => by have := abv b z; exact absurd hb (Nat.not_lt.mpr (Nat.le_of_lt this))
    exact (pairsH_out n1).trans (upd_ne (Nat.ne_of_lt hb))
  have hin : ∀ (j : Nat) (a : Addr) (k : Key) (x : V), as[j]? = some a → kvs[j]? = some (k, x) → H' a = some (.tup [kV k, x]) := fun j a k x e1 e2 => pairsH_in ndA e1 e2
  have J : Inv X pins σ H' { s with heap := h', toks := tk } := by
    refine I.grow (t' := tk) k hold fun b o hb e => ?_
    by_cases hbl : b = s.heap.objs.size
    · subst hbl
      rw [hH'l] at e
      cases e
      have hv : Vals (as.map V.ref) acc.toList := by
        rw [hacc]
        clear hl hla hG hacc hlen ndA abv nl hH'l hold hin
        induction as with
        | nil => exact .nil
        | cons a r ih => exact .cons rfl ih
      refine ⟨by rw [List.length_map, hlen]; exact z, acc.toList, c, hv, ?_⟩
      rw [Array.toArray_toList]
      exact hl
    · by_cases hba : b ∈ as
      · obtain ⟨j, hj⟩ := List.mem_iff_getElem?.mp hba
        have hjl : j < kvs.length := by
          rw [← hlen]; exact (List.getElem?_eq_some_iff.mp hj).1
        have e2 := hin j b kvs[j].1 kvs[j].2 hj (List.getElem?_eq_getElem hjl)
        rw [e2] at e
        cases e
        obtain ⟨key, k', x, h1, h2, h3⟩ := hG.pairs j b hj
        have hr : k' = kvs[j].1 ∧ RelV kvs[j].2 x := by
          have key : ∀ {l₁ : List (Key × V)} {l₂ : List (Key × Value)}, KV l₁ l₂ → ∀ (j : Nat) (p : Key × V) (q : Key × Value), l₁[j]? = some p → l₂[j]? = some q → p.1 = q.1 ∧ RelV p.2 q.2 := by
            intro l₁ l₂ r
            induction r with
            | nil => intro j p q e; simp at e
            | cons h _ ih =>
              intro j p q e1 e2
              cases j with
              | zero => simp at e1 e2; subst e1; subst e2; exact h
              | succ j => exact ih j p q (by simpa using e1) (by simpa using e2)
          have := key rel j kvs[j] (k', x) (List.getElem?_eq_getElem hjl) h1
          exact ⟨this.1.symm, this.2⟩
        obtain ⟨rfl, hr⟩ := hr
        refine ⟨by show 2 ≤ sizeLine; rw [sizeLine_eq]; decide, [key, x], .cons (rel_key h2) (.cons hr .nil), ?_⟩
        exact ⟨_, h3, rfl, _, rfl⟩
      · have : H' b = H b := (pairsH_out hba).trans (upd_ne hbl)
        rw [this] at e
        exact absurd (I.hok.lt e) (Nat.not_lt.mpr hb)
  exact ⟨.ref _, H', J, rfl, q _ as H' I.fresh hlen (fun b o e => by rw [hold b (I.hok.lt e)]; exact e) hH'l hin⟩

/-! ### isinstance -/
theorem call_isi : CallR X (.builtin "isinstance") (fun xs H Q => ∃ x c t b, xs = [x, .ty c] ∧ TyOf X.K H x t ∧ PySem.W.kitOne X.K t (.type c) = some b ∧ Q (.bl b) H) := by
  intro pins s σ H xs us Q I r h
  obtain ⟨x, c, t, b, rfl, ty, e, q⟩ := h
  obtain ⟨u, w', rfl, rx, ry⟩ := vals2 r
  cases ry
  exact isinst_ok I rx ty e fun tk => ⟨.bl b, H, I.tok tk, rfl, q⟩
/-- isinstance(x, (c, ..)) -/
theorem call_isiT : CallR X (.builtin "isinstance") (fun xs H Q => ∃ (x : V) (tp : Addr) (cs : List String) (t : Value) (b : Bool), xs = [x, .ref tp] ∧ H tp = some (.tup (cs.map V.ty)) ∧ TyOf X.K H x t ∧ PySem.W.kitAny X.K t (cs.map Value.type) = some b ∧ Q (.bl b) H) := by
  intro pins s σ H xs us Q I r h
  obtain ⟨x, tp, cs, t, b, rfl, htp, ty, e, q⟩ := h
  obtain ⟨u, w', rfl, rx, ry⟩ := vals2 r
  cases ry
  obtain ⟨_, its, rv, ⟨o, ho, hoc, n, hod⟩⟩ := I.hok tp _ htp
  have ei : its = cs.map Value.type := by
    clear e htp ho hod
    have : ∀ (cs : List String) (its : List Value), Vals (cs.map V.ty) its → its = cs.map Value.type := by
      intro cs
      induction cs with
      | nil => intro its h; cases h; rfl
      | cons c r ih =>
        intro its h
        cases h with
        | cons h1 h2 =>
          have h1 : _ = Value.type c := h1
          rw [h1, ih _ h2]; rfl
    exact this cs its rv
  obtain ⟨oc, od, odt, osl⟩ := o
  simp only at hoc hod
  subst hoc; subst hod
  rw [ei] at ho
  have fin : ∀ tk, EP X pins σ Q (.bool b) { s with toks := tk } := fun tk => ⟨.bl b, H, I.tok tk, rfl, q⟩
  cases ty with
  | non => cases (show u = Value.none from rx); exact PySem.W.kia_tup PySem.W.kitx_none I.kIn True.intro ho e (fun z => nomatch z) fin
  | bl y => cases (show u = Value.bool y from rx); exact PySem.W.kia_tup PySem.W.kitx_bool I.kIn True.intro ho e (fun z => nomatch z) fin
  | int i => obtain ⟨t, q⟩ := (show ∃ t, u = Value.int i t from rx); cases q; exact PySem.W.kia_tup PySem.W.kitx_int I.kIn True.intro ho e (fun z => nomatch z) fin
  | str y => obtain ⟨t, q⟩ := (show ∃ t, u = Value.str y t from rx); cases q; exact PySem.W.kia_tup PySem.W.kitx_str I.kIn True.intro ho e (fun z => nomatch z) fin
  | flt y => obtain ⟨t, q⟩ := (show ∃ t, u = Value.float y t from rx); cases q; exact PySem.W.kia_tup PySem.W.kitx_float I.kIn True.intro ho e (fun z => nomatch z) fin
  | @lst a xs ea =>
    cases (show u = Value.ref a from rx)
    obtain ⟨_, _, n, _, h1⟩ := (show ObjOk X.prog X.w H s.heap a (.lst xs) from I.hok a _ ea)
    exact PySem.W.kia_tup PySem.W.kitx_list I.kIn ⟨_, h1, rfl⟩ ho e (fun z => nomatch z) fin
  | @frz a ob xs ea =>
    cases (show u = Value.ref a from rx)
    obtain ⟨_, _, _, n, _, h1⟩ := (show ObjOk X.prog X.w H s.heap a (.frz ob (.lst xs)) from I.hok a _ ea)
    exact PySem.W.kia_tup PySem.W.kitx_list I.kIn ⟨_, h1, rfl⟩ ho e (fun z => nomatch z) fin
  | @tup a xs ea =>
    cases (show u = Value.ref a from rx)
    obtain ⟨_, _, _, p⟩ := (show ObjOk X.prog X.w H s.heap a (.tup xs) from I.hok a _ ea)
    obtain ⟨o, h1, h2, _⟩ := p
    exact PySem.W.kia_tup PySem.W.kitx_tuple I.kIn ⟨o, h1, h2⟩ ho e (fun z => nomatch z) fin
  | @dK a kvs ea =>
    cases (show u = Value.ref a from rx)
    obtain ⟨_, _, vs, _, p⟩ := (show ObjOk X.prog X.w H s.heap a (.dK kvs) from I.hok a _ ea)
    obtain ⟨o, es, ep, h1, h2, _⟩ := p
    exact PySem.W.kia_tup PySem.W.kitx_dict I.kIn ⟨o, h1, h2.1⟩ ho e (fun z => nomatch z) fin
  | @dT a kvs ea =>
    cases (show u = Value.ref a from rx)
    obtain ⟨_, _, xs, _, o, es, ep, h1, h2, _⟩ := (show ObjOk X.prog X.w H s.heap a (.dT kvs) from I.hok a _ ea)
    exact PySem.W.kia_tup PySem.W.kitx_dict I.kIn ⟨o, h1, h2.1⟩ ho e (fun z => nomatch z) fin
  | @ins a C dx fs ea cl ha hn htk hm =>
    cases (show u = Value.ref a from rx)
    obtain ⟨mA, O, _⟩ := ins_get I.hok ea
    obtain ⟨od, J, _⟩ := O.look
    exact PySem.W.kia_tup (PySem.W.kitx_own (cl.get _) cl.hd ha hn htk hm) I.kIn J ho e (fun z => nomatch z) fin

/-! ### == and != of lists -/
/-- xs == [], xs != [] (the second list empty) -/
theorem op_eqNil (hu : X.A.units < cLine) : OpR X (compareOp .Eq) (fun x y H Q => ∃ a b xs, x = .ref a ∧ y = .ref b ∧ SqL X.K H a xs ∧ SqL X.K H b [] ∧ Q (.bl xs.isEmpty) H) := by
  intro pins s σ H x y v u Q I rx ry h
  obtain ⟨a, b, xs, rfl, rfl, h1, h2, q⟩ := h
  cases rx
  cases ry
  obtain ⟨its, r, pl, hz⟩ := I.list h1
  obtain ⟨its2, r2, pl2, hz2⟩ := I.list h2
  cases r2
  have hl := r.length
  cases xs with
  | nil =>
    cases r
    refine SeqAt.eq_listAt (e := fun _ => true) pl.isList pl2.isList rfl hu (fun j h1 h2 => absurd h1 (by simp)) ?_
    exact ⟨.bl true, H, I, rfl, q⟩
  | cons x xr =>
    refine SeqAt.eq_list_lengthsAt pl.isList pl2.isList ?_ hu ?_
    · simp only [List.size_toArray]
      rw [← hl]
      simp
    · exact ⟨.bl false, H, I, rfl, q⟩
end
end L2
namespace L2
open PySem PySem.Spec PyProof.Rows
open SL (SetL onceS srt setFits)
section
variable {X : Cx}
theorem op_neNil (hu : X.A.units < cLine) : OpR X (compareOp .NotEq) (fun x y H Q => ∃ a b xs, x = .ref a ∧ y = .ref b ∧ SqL X.K H a xs ∧ SqL X.K H b [] ∧ Q (.bl (!xs.isEmpty)) H) := by
  intro pins s σ H x y v u Q I rx ry h
  obtain ⟨a, b, xs, rfl, rfl, h1, h2, q⟩ := h
  cases rx
  cases ry
  obtain ⟨its, r, pl, hz⟩ := I.list h1
  obtain ⟨its2, r2, pl2, hz2⟩ := I.list h2
  cases r2
  have hl := r.length
  cases xs with
  | nil =>
    cases r
    refine SeqAt.RcNeAt.lists (e := fun _ => true) pl.isList pl2.isList rfl hu (fun j h1 h2 => absurd h1 (by simp)) X.prog X.w _ _ ?_
    exact ⟨.bl false, H, I, rfl, q⟩
  | cons x xr =>
    refine SeqAt.RcNeAt.lists_lengths pl.isList pl2.isList ?_ hu X.prog X.w _ _ ?_
    · simp only [List.size_toArray]
      rw [← hl]
      simp
    · exact ⟨.bl true, H, I, rfl, q⟩
end

/-! ### rows in the heap -/
abbrev Row := Str × List Str
def StrsAt (H : Hp) (a : Addr) (ss : List Str) : Prop := H a = some (.lst (ss.map V.str))
def RowAt (H : Hp) (v : V) (p : Row) : Prop := ∃ t b, v = .ref t ∧ H t = some (.tup [.str p.1, .ref b]) ∧ StrsAt H b p.2
def RowsAt (H : Hp) (a : Addr) (R : List Row) : Prop := ∃ vs, H a = some (.lst vs) ∧ Paired (RowAt H) vs R
theorem StrsAt.mono {H H' : Hp} (e : Same H H') {a : Addr} {ss : List Str} (h : StrsAt H a ss) : StrsAt H' a ss := e _ _ h
theorem RowAt.mono {H H' : Hp} (e : Same H H') {v : V} {p : Row} (h : RowAt H v p) : RowAt H' v p := by
  obtain ⟨t, b, h1, h2, h3⟩ := h
  exact ⟨t, b, h1, e _ _ h2, h3.mono e⟩
theorem RowsAt.mono {H H' : Hp} (e : Same H H') {a : Addr} {R : List Row} (h : RowsAt H a R) : RowsAt H' a R := by
  obtain ⟨vs, h1, h2⟩ := h
  exact ⟨vs, e _ _ h1, Paired.mapP h2 fun _ _ q => q.mono e⟩
theorem paired_get {α β : Type} {F : α → β → Prop} : ∀ {l₁ : List α} {l₂ : List β}, Paired F l₁ l₂ → ∀ (i : Nat) (x : α), l₁[i]? = some x → ∃ y, l₂[i]? = some y ∧ F x y
  | _, _, .nil, i, x, e => by simp at e
  | _, _, .cons h _, 0, x, e => by simp at e; subst e; exact ⟨_, rfl, h⟩
  | _, _, .cons _ t, i + 1, x, e => by
    obtain ⟨y, h1, h2⟩ := paired_get t i x (by simpa using e)
    exact ⟨y, by simpa using h1, h2⟩
theorem paired_snoc {α β : Type} {F : α → β → Prop} : ∀ {l₁ : List α} {l₂ : List β}, Paired F l₁ l₂ → ∀ {x : α} {y : β}, F x y → Paired F (l₁ ++ [x]) (l₂ ++ [y])
  | _, _, .nil, x, y, h => .cons h .nil
  | _, _, .cons h t, x, y, h' => .cons h (paired_snoc t h')
theorem Same.upd {H : Hp} {a : Addr} {o : HO} (h : H a = none) : Same H (upd H a o) := fun b u e => by rw [upd_ne (ne_of_none e h)]; exact e
/-- written at a place that was not there at the start -/
theorem Same.updS {H H1 : Hp} {a : Addr} {o : HO} (e : Same H H1) (h : H a = none) : Same H (L2.upd H1 a o) := fun b u q => by rw [upd_ne (ne_of_none q h)]; exact e b u q

section
variable {A : Around} {s : Shared} {P : Program} {w : World} {H : Hp}
theorem eqAt_strs (A : Around) (s : Shared) : ∀ {ss rs : List Str} {us vs : List Value}, Vals (ss.map V.str) us → Vals (rs.map V.str) vs → ∀ (j : Nat) (h1 : j < us.toArray.size) (h2 : j < vs.toArray.size), SeqAt.EqAt A s us.toArray[j] vs.toArray[j] (decide (ss[j]? = rs[j]?)) := by
  intro ss rs us vs r1 r2 j h1 h2
  have e1 : us[j]? = some us.toArray[j] := by rw [← List.getElem?_toArray, Array.getElem?_eq_getElem h1]
  have e2 : vs[j]? = some vs.toArray[j] := by rw [← List.getElem?_toArray, Array.getElem?_eq_getElem h2]
  have l1 := r1.length
  have l2 := r2.length
  rw [List.length_map] at l1 l2
  have hj1 : j < ss.length := by rw [l1]; simpa using h1
  have hj2 : j < rs.length := by rw [l2]; simpa using h2
  obtain ⟨u, hu, ru⟩ := Vals.get r1 (i := j) (x := .str ss[j]) (by rw [List.getElem?_map, List.getElem?_eq_getElem hj1]; rfl)
  obtain ⟨v, hv, rv⟩ := Vals.get r2 (i := j) (x := .str rs[j]) (by rw [List.getElem?_map, List.getElem?_eq_getElem hj2]; rfl)
  rw [e1] at hu; cases hu
  rw [e2] at hv; cases hv
  have := eqAt_V (A := A) (s := s) ru rv rfl rfl
  have e : decide (ss[j]? = rs[j]?) = eqV (.str ss[j]) (.str rs[j]) := by
    rw [List.getElem?_eq_getElem hj1, List.getElem?_eq_getElem hj2]
    show _ = (ss[j] == rs[j])
    by_cases z : ss[j] = rs[j]
    · rw [z]; simp
    · rw [decide_eq_false (fun q => z (Option.some.inj q))]
      exact (beq_eq_false_iff_ne.mpr z).symm
  rw [e]
  exact this
theorem all_decide {ss rs : List Str} (hl : ss.length = rs.length) : ((List.range ss.length).all fun j => decide (ss[j]? = rs[j]?)) = decide (ss = rs) := by
  rw [Bool.eq_iff_iff, List.all_eq_true, decide_eq_true_eq]
  constructor
  · intro h
    apply List.ext_getElem?
    intro j
    rcases Nat.lt_or_ge j ss.length with z | z
    · exact of_decide_eq_true (h j (List.mem_range.mpr z))
    · rw [List.getElem?_eq_none z, List.getElem?_eq_none (by omega)]
  · intro h j _
    rw [h]; simp
/-- two rows at two places -/
theorem eqAt_row {t t' b b' : Addr} {l l' : Str} {r r' : List Str} (ok : HOk P w H s.heap) (hu1 : A.units < cLine) (hu2 : A.in1.units < cLine) (h1 : H t = some (.tup [.str l, .ref b])) (h2 : StrsAt H b r) (h1' : H t' = some (.tup [.str l', .ref b'])) (h2' : StrsAt H b' r') (ht : t ≠ t') (hb : b ≠ b') :
    SeqAt.EqAt A s (.ref t) (.ref t') (decide ((l, r) = (l', r'))) := by
  obtain ⟨_, its, rv, tp⟩ := ok t _ h1
  obtain ⟨_, its', rv', tp'⟩ := ok t' _ h1'
  obtain ⟨_, us, n, ru, eu⟩ := ok b _ h2
  obtain ⟨_, us', n', ru', eu'⟩ := ok b' _ h2'
  obtain ⟨x1, x2, rfl, rx1, rx2⟩ : ∃ x1 x2, its = [x1, x2] ∧ RelV (.str l) x1 ∧ RelV (.ref b) x2 := Vals.two rv
  obtain ⟨y1, y2, rfl, ry1, ry2⟩ : ∃ x1 x2, its' = [x1, x2] ∧ RelV (.str l') x1 ∧ RelV (.ref b') x2 := Vals.two rv'
  cases rx2
  cases ry2
  have l1 : us.length = r.length := by have := ru.length; rw [List.length_map] at this; exact this.symm
  have l2 : us'.length = r'.length := by have := ru'.length; rw [List.length_map] at this; exact this.symm
  have il : s.heap.IsList b us.toArray := ⟨_, eu, rfl, n, rfl⟩
  have il' : s.heap.IsList b' us'.toArray := ⟨_, eu', rfl, n', rfl⟩
  have eL : SeqAt.EqAt A.in1 s (.ref b) (.ref b') (decide (r = r')) := by
    refine SeqAt.EqAt.of_refs hb ?_
    by_cases hl : r.length = r'.length
    · have := SeqAt.RcAt.lists (A := A.in1) (e := fun j => decide (r[j]? = r'[j]?)) il il' (by simp [l1, l2, hl]) hu2 (fun j h1 h2 => eqAt_strs _ _ ru ru' j h1 h2)
      rw [List.size_toArray, l1, all_decide hl] at this
      exact this
    · have e : decide (r = r') = false := decide_eq_false fun z => hl (by rw [z])
      rw [e]
      exact SeqAt.RcAt.lists_lengths (A := A.in1) il il' (by simp [l1, l2, hl]) hu2
  have eS : SeqAt.EqAt A.in1 s x1 y1 (decide (l = l')) := by
    have := eqAt_V (A := A.in1) (s := s) rx1 ry1 rfl rfl
    have e : eqV (.str l) (.str l') = decide (l = l') := by
      show (l == l') = _
      by_cases z : l = l'
      · rw [z]; simp
      · rw [decide_eq_false z]; exact beq_eq_false_iff_ne.mpr z
    rw [e] at this
    exact this
  refine SeqAt.EqAt.of_refs ht ?_
  have := SeqAt.RcAt.tuples (A := A) (e := fun j => if j = 0 then decide (l = l') else decide (r = r')) tp tp' hu1 (fun j h1 h2 => by
    have hj : j < 2 := h1
    rcases j with _ | _ | j
    · exact eS
    · exact eL
    · omega)
  have e2 : ((List.range (min ([x1, Value.ref b] : List Value).toArray.size ([y1, Value.ref b'] : List Value).toArray.size)).all (fun j => if j = 0 then decide (l = l') else decide (r = r')) && ([x1, Value.ref b] : List Value).toArray.size == ([y1, Value.ref b'] : List Value).toArray.size) = decide ((l, r) = (l', r')) := by
    show ((decide (l = l') && (decide (r = r') && true)) && true) = _
    by_cases z1 : l = l'
    · by_cases z2 : r = r'
      · subst z1; subst z2; simp
      · simp [z1, z2]
    · simp [z1]
  rw [e2] at this
  exact this
end

/-- is the row at this value the row p -/
def rowIs (H : Hp) (p : Row) : Value → Bool
  | .ref t => match H t with
    | some (.tup [.str l, .ref b]) => match H b with
      | some (.lst xs) => decide (l = p.1 ∧ xs = p.2.map V.str)
      | _ => false
    | _ => false
  | _ => false
theorem map_str_inj {a b : List Str} (h : a.map V.str = b.map V.str) : a = b := by
  induction a generalizing b with
  | nil => cases b with | nil => rfl | cons _ _ => cases h
  | cons x r ih => cases b with
    | nil => cases h
    | cons y q =>
      rw [List.map_cons, List.map_cons] at h
      injection h with h1 h2
      injection h1 with h1
      rw [h1, ih h2]
theorem rowIs_of {H : Hp} {p p' : Row} {t b : Addr} (h1 : H t = some (.tup [.str p'.1, .ref b])) (h2 : StrsAt H b p'.2) : rowIs H p (.ref t) = decide (p' = p) := by
  have h2 : H b = some (.lst (p'.2.map V.str)) := h2
  unfold rowIs
  dsimp only
  rw [h1]
  dsimp only
  rw [h2]
  dsimp only
  by_cases z : p' = p
  · subst z; simp
  · rw [decide_eq_false z, decide_eq_false]
    rintro ⟨e1, e2⟩
    exact z (Prod.ext e1 (map_str_inj e2))

section
variable {X : Cx}
/-- a new row not in the rows -/
theorem op_notInRows (hu1 : X.A.in1.units < cLine) (hu2 : X.A.in1.in1.units < cLine) : OpR X (compareOp .NotIn) (fun x y H Q => ∃ (t b a : Addr) (p : Row) (R : List Row), x = .ref t ∧ y = .ref a ∧ H t = some (.tup [.str p.1, .ref b]) ∧ StrsAt H b p.2 ∧
    (∃ vs, H a = some (.lst vs) ∧ Paired (RowAt H) vs R ∧ ∀ v ∈ vs, ∀ t' b' l', v = .ref t' → H t' = some (.tup [.str l', .ref b']) → t' ≠ t ∧ b' ≠ b) ∧ Q (.bl (!decide (p ∈ R))) H) := by
  intro pins s σ H x y v u Q I rx ry h
  obtain ⟨t, b, a, p, R, rfl, rfl, h1, h2, ⟨vs, h3, h4, h5⟩, q⟩ := h
  cases rx
  cases ry
  obtain ⟨_, its, n, rv, e⟩ := I.hok a _ h3
  have il : s.heap.IsList a its.toArray := ⟨_, e, rfl, n, rfl⟩
  have key : ∀ {vs : List V} {its : List Value} {R : List Row}, Vals vs its → Paired (RowAt H) vs R → (∀ v ∈ vs, ∀ t' b' l', v = .ref t' → H t' = some (.tup [.str l', .ref b']) → t' ≠ t ∧ b' ≠ b) →
      (∀ z ∈ its, SeqAt.EqAt X.A.in1 s z (.ref t) (rowIs H p z)) ∧ its.any (rowIs H p) = decide (p ∈ R) := by
    intro vs its R rv
    induction rv generalizing R with
    | nil => intro h4 _; cases h4; exact ⟨fun z hz => (by cases hz), by simp⟩
    | @cons v u vr ur hvu _ ih =>
      intro h4 h5
      cases h4 with
      | @cons _ p' _ Rr hp hrest =>
        obtain ⟨hf, ha⟩ := ih hrest fun v hv => h5 v (List.mem_cons_of_mem _ hv)
        obtain ⟨t', b', rfl, g1, g2⟩ := hp
        cases hvu
        obtain ⟨nt, nb⟩ := h5 _ (List.mem_cons_self ..) t' b' p'.1 rfl g1
        have ee := eqAt_row (A := X.A.in1) I.hok hu1 hu2 g1 g2 h1 h2 nt nb
        have er := rowIs_of (p := p) g1 g2
        refine ⟨fun z hz => ?_, ?_⟩
        · rcases List.mem_cons.mp hz with e | hz
          · subst e
            rw [er]
            exact ee
          · exact hf z hz
        · rw [List.any_cons, er, ha, Bool.eq_iff_iff, Bool.or_eq_true, decide_eq_true_eq, decide_eq_true_eq, decide_eq_true_eq, List.mem_cons]
          exact ⟨fun z => z.imp Eq.symm id, fun z => z.imp Eq.symm id⟩
  obtain ⟨hf, ha⟩ := key rv h4 h5
  refine SeqAt.notIn_listAt (rowIs H p) il (fun z hz => hf z (by simpa using hz)) ⟨.bl _, H, I, rfl, ?_⟩
  rw [show its.toArray.any (rowIs H p) = its.any (rowIs H p) by simp, ha]
  exact q
end
end L2
namespace L2
open PySem PySem.Spec PyProof.Rows
/-! ### comprehensions in short -/
theorem lookup_mem {α β : Type} [BEq α] [LawfulBEq α] : ∀ {l : List (α × β)} {a : α} {b : β}, l.lookup a = some b → (a, b) ∈ l
  | [], _, _, h => by cases h
  | (x, y) :: r, a, b, h => by
    rw [List.lookup_cons] at h
    cases e : a == x with
    | true =>
      rw [e] at h
      have h : some y = some b := h
      injection h with h
      rw [eq_of_beq e, h]
      exact List.mem_cons_self ..
    | false =>
      rw [e] at h
      exact List.mem_cons_of_mem _ (lookup_mem h)
/-- no outer name is asked in the block -/
theorem CompIn.plain {X : Cx} {scope : Scope} {N : List Str} (hall : scope.names.all (fun y => y.2 == .local) = true) (hk : scope.kind = .function) (hl : ∀ y ∈ scope.names, y.2 = .local → scope.names.lookup y.1 = some .local) : CompIn X scope [] N (List.replicate N.length none) where
  clos := closureFor_none fun y hy => by
    have := List.all_eq_true.mp hall y hy
    intro z
    rw [z] at this
    exact absurd this (by decide)
  nocell := fun y hy z => by
    have := List.all_eq_true.mp hall y hy
    rw [z] at this
    exact absurd this (by decide)
  kind := hk
  locs := hl
  cells := fun x c h => by cases h
  has := fun x ⟨v, n⟩ => by
    exfalso
    have e : (relabel scope X.env).names = scope.names := map_eq_self fun y hy => by
      obtain ⟨a, k⟩ := y
      have h : (k == NameKind.local) = true := List.all_eq_true.mp hall (a, k) hy
      have h : k = .local := eq_of_beq h
      subst h
      rfl
    have key : ∀ kd : NameKind, (relabel scope X.env).names.lookup x = some kd → kd = .local := fun kd h => by
      rw [e] at h
      have := List.all_eq_true.mp hall _ (lookup_mem h)
      exact eq_of_beq this
    rcases v with z | z | z
    · exact n z
    · cases key _ z
    · cases key _ z
  len := by simp
  names := fun j i h => by
    rw [List.getElem?_replicate] at h
    split at h <;> cases h

section
variable {sel : List (Option Nat)} {g : TG} {tc : TT} {te : TE} {σ : St} {H : Hp} {Q : VK}
/-- over a list that the block leaves as it is; Pv: turn, the block's names, heap; the new list stands at D -/
theorem comp_list {K : PySem.W.Frag} {a D : Addr} {xs : List V} (Pv : Nat → St → Hp → Prop) (h0 : Pv 0 (selSt sel σ) (upd H D (.lst [])))
    (hl : ∀ i τ H1, Pv i τ H1 → SqL K H1 a xs)
    (hs : ∀ i x τ H1, xs[i]? = some x → Pv i τ H1 → g x τ H1 fun τ2 H4 => tc τ2 H4 fun b H5 => if b = true then te τ2 H5 fun y H6 => ∃ ys, H6 D = some (.lst ys) ∧ ys.length < sizeLine ∧ Pv (i + 1) τ2 (upd H6 D (.lst (ys ++ [y]))) else Pv (i + 1) τ2 H5)
    (hd : ∀ τ H1, Pv xs.length τ H1 → Q (.ref D) H1) :
    CompG sel (Itl K a) D g tc te σ H Q := by
  refine ⟨fun i m τ H1 => Pv i τ H1 ∧ i ≤ xs.length ∧ m = xs.length - i, ⟨_, h0, Nat.zero_le _, rfl⟩, ?_⟩
  rintro i m τ H2 ⟨p, hi, hm⟩
  have sq := hl i τ H2 p
  rcases Nat.lt_or_ge i xs.length with hlt | hge
  · refine .inr ⟨⟨xs, xs[i], sq, List.getElem?_eq_getElem hlt⟩, Pv (i + 1), fun τ' H' n => ⟨xs.length - (i + 1), by omega, n, hlt, rfl⟩, ?_⟩
    rintro x H3 ⟨rfl, hx⟩
    exact hs i x τ _ (hx xs sq) p
  · have e : i = xs.length := by omega
    subst e
    exact .inl ⟨⟨xs, sq, Nat.le_refl _⟩, hd τ H2 p⟩
/-- one name, no test -/
theorem comp_list1 {K : PySem.W.Frag} {a D : Addr} {xs : List V} {n : Nat} (Pv : Nat → St → Hp → Prop) (h0 : Pv 0 (selSt sel σ) (upd H D (.lst [])))
    (hl : ∀ i τ H1, Pv i τ H1 → SqL K H1 a xs)
    (hs : ∀ i x τ H1, xs[i]? = some x → Pv i τ H1 → te (τ.set n (some x)) H1 fun y H6 => ∃ ys, H6 D = some (.lst ys) ∧ ys.length < sizeLine ∧ Pv (i + 1) (τ.set n (some x)) (upd H6 D (.lst (ys ++ [y]))))
    (hd : ∀ τ H1, Pv xs.length τ H1 → Q (.ref D) H1) : CompG sel (Itl K a) D (gName n) tTrue te σ H Q :=
  comp_list Pv h0 hl (fun i x τ H1 e p => iteT (B := Pv (i + 1) (τ.set n (some x)) H1) (hs i x τ H1 e p)) hd
/-- one name, a test -/
theorem comp_listT {K : PySem.W.Frag} {a D : Addr} {xs : List V} {n : Nat} (Pv : Nat → St → Hp → Prop) (h0 : Pv 0 (selSt sel σ) (upd H D (.lst [])))
    (hl : ∀ i τ H1, Pv i τ H1 → SqL K H1 a xs)
    (hs : ∀ i x τ H1, xs[i]? = some x → Pv i τ H1 → tc (τ.set n (some x)) H1 fun b H5 => if b = true then te (τ.set n (some x)) H5 fun y H6 => ∃ ys, H6 D = some (.lst ys) ∧ ys.length < sizeLine ∧ Pv (i + 1) (τ.set n (some x)) (upd H6 D (.lst (ys ++ [y]))) else Pv (i + 1) (τ.set n (some x)) H5)
    (hd : ∀ τ H1, Pv xs.length τ H1 → Q (.ref D) H1) : CompG sel (Itl K a) D (gName n) tc te σ H Q :=
  comp_list Pv h0 hl hs hd
end
end L2
namespace L2
open PySem PySem.Spec PyProof.Rows
theorem lookup_mapk {β : Type} (g : Str → NameKind → NameKind) : ∀ (l : List (Str × NameKind)) (x : Str), (l.map fun y => (y.1, g y.1 y.2)).lookup x = (l.lookup x).map (g x)
  | [], x => rfl
  | (n, k) :: r, x => by
    rw [List.map_cons, List.lookup_cons, List.lookup_cons]
    cases e : x == n with
    | true =>
      dsimp only
      rw [eq_of_beq e]; rfl
    | false => exact lookup_mapk (β := β) g r x
theorem relabel_lookup (scope : Scope) (env : Env) (x : Str) : (relabel scope env).names.lookup x = (scope.names.lookup x).map fun k => if (k == NameKind.free && env.scope.kind == .function && env.kindOf x == some .cell) = true then NameKind.cell else k := by
  have e : (relabel scope env).names = scope.names.map fun y => (y.1, (fun n k => if (k == NameKind.free && env.scope.kind == .function && env.kindOf n == some .cell) = true then NameKind.cell else k) y.1 y.2) := by
    unfold relabel
    refine List.map_congr_left fun y _ => ?_
    obtain ⟨n, k⟩ := y
    dsimp only
    split <;> rfl
  rw [e, lookup_mapk (β := Unit) (fun n k => if (k == NameKind.free && env.scope.kind == .function && env.kindOf n == some .cell) = true then NameKind.cell else k)]
/-- the block asks the outer names fr, which stand in cells -/
theorem CompIn.free {X : Cx} {scope : Scope} {cl : List (Str × Addr)} {N : List Str} {sel : List (Option Nat)} (fr : List Str) (clos : closureFor scope X.env = pure cl) (hk : scope.kind = .function) (hek : X.env.scope.kind = .function)
    (hn : ∀ y ∈ scope.names, y.2 = .local ∨ (y.2 = .free ∧ y.1 ∈ fr)) (hl : ∀ y ∈ scope.names, y.2 = .local → scope.names.lookup y.1 = some .local)
    (hfr : ∀ x ∈ fr, X.env.kindOf x = some .cell ∧ scope.names.lookup x = some .free ∧ ∃ c, cl.lookup x = some c ∧ X.env.cells.lookup x = some c) (hcl : ∀ y ∈ cl, y.1 ∈ fr)
    (hlen : sel.length = N.length) (hsel : ∀ (j i : Nat), sel[j]? = some (some i) → ∃ x ∈ fr, X.N[i]? = some x ∧ N[j]? = some x) : CompIn X scope cl N sel where
  clos := clos
  nocell := fun y hy z => by
    rcases hn y hy with e | ⟨e, _⟩
    · rw [e] at z; cases z
    · rw [e] at z; cases z
  kind := hk
  locs := hl
  cells := fun x c h => by
    obtain ⟨_, _, c', h1, h2⟩ := hfr x (hcl _ (lookup_mem h))
    rw [h] at h1
    cases h1
    exact h2
  has := fun x ⟨v, n⟩ => by
    have key : ∀ kd : NameKind, (relabel scope X.env).names.lookup x = some kd → kd ≠ .local → ∃ c, cl.lookup x = some c := fun kd h hne => by
      rw [relabel_lookup] at h
      cases q : scope.names.lookup x with
      | none => rw [q] at h; cases h
      | some k0 =>
        rw [q] at h
        rcases hn _ (lookup_mem q) with e | ⟨_, e⟩
        · have e : k0 = .local := e
          subst e
          have h : some NameKind.local = some kd := h
          injection h with h
          exact absurd h.symm hne
        · obtain ⟨_, _, c, h1, _⟩ := hfr x e
          exact ⟨c, h1⟩
    rcases v with z | z | z
    · exact absurd z n
    · exact key _ z (by decide)
    · exact key _ z (by decide)
  len := hlen
  names := fun j i h => by
    obtain ⟨x, hx, h1, h2⟩ := hsel j i h
    obtain ⟨k1, k2, _⟩ := hfr x hx
    have k1 : X.env.scope.names.lookup x = some .cell := k1
    refine ⟨x, h1, h2, ⟨.inr (.inl k1), by rw [k1]; decide⟩, ?_⟩
    rw [relabel_lookup, k2]
    show some (if _ then _ else _) ≠ _
    split <;> decide
end L2
/-! GRAMMARS: rows, the sorts that can be made, reached, begun -/
namespace Gram
variable {α : Type} [DecidableEq α]

/-- what has a tree whose words are all of W -/
inductive Made (R : List (α × List α)) (W : α → Prop) : α → Prop
  | mk {l : α} {r : List α} : (l, r) ∈ R → (∀ s, s ∈ r → ¬ W s → Made R W s) → Made R W l

theorem made_of_closed {R : List (α × List α)} {W : α → Prop} {ks : List α} (closed : ∀ l r, (l, r) ∈ R → (∀ s, s ∈ r → W s ∨ s ∈ ks) → l ∈ ks) : ∀ {x : α}, Made R W x → x ∈ ks := by
  intro x h
  induction h with
  | mk hm _ ih =>
    refine closed _ _ hm fun s hs => ?_
    by_cases w : W s
    · exact .inl w
    · exact .inr (ih s hs w)
theorem made_step {R : List (α × List α)} {W : α → Prop} {ks : List α} (sound : ∀ x, x ∈ ks → Made R W x) {l : α} {r : List α} (hm : (l, r) ∈ R) (h : ∀ s, s ∈ r → W s ∨ s ∈ ks) : Made R W l :=
  .mk hm fun s hs nw => sound s ((h s hs).resolve_left nw)
theorem Made.left {R : List (α × List α)} {W : α → Prop} {x : α} (h : Made R W x) : x ∈ R.map (·.1) := by
  cases h with
  | mk hm _ => exact List.mem_map.mpr ⟨_, hm, rfl⟩
theorem Made.mono {R : List (α × List α)} {W W' : α → Prop} (hw : ∀ x, W x → W' x) {x : α} (h : Made R W x) : Made R W' x := by
  induction h with
  | mk hm _ ih => exact .mk hm fun s hs nw => ih s hs fun z => nw (hw s z)

/-- what the links lead to -/
inductive Reach (f : α → List α) (a : α) : α → Prop
  | refl : Reach f a a
  | step {b c : α} : Reach f a b → c ∈ f b → Reach f a c
theorem Reach.head {f : α → List α} {a c b : α} (hc : c ∈ f a) (h : Reach f c b) : Reach f a b := by
  induction h with
  | refl => exact .step .refl hc
  | step _ hd ih => exact .step ih hd
theorem reach_of_closed {f : α → List α} {a : α} {ks : List α} (h0 : a ∈ ks) (closed : ∀ x, x ∈ ks → ∀ y, y ∈ f x → y ∈ ks) {b : α} (h : Reach f a b) : b ∈ ks := by
  induction h with
  | refl => exact h0
  | step _ hc ih => exact closed _ ih _ hc
theorem Reach.congr {f g : α → List α} (e : ∀ x y, y ∈ f x → y ∈ g x) {a b : α} (h : Reach f a b) : Reach g a b := by
  induction h with
  | refl => exact .refl
  | step _ hc ih => exact .step ih (e _ _ hc)

/-- the signs that have nothing ahead of them but such of E -/
def lead (E : List α) : List α → List α
  | [] => []
  | s :: r => s :: (if s ∈ E then lead E r else [])
theorem lead_sub (E : List α) : ∀ (r : List α) (x : α), x ∈ lead E r → x ∈ r
  | [], x, h => h
  | s :: r, x, h => by
    unfold lead at h
    rcases List.mem_cons.mp h with e | h
    · exact List.mem_cons.mpr (.inl e)
    · split at h
      · exact List.mem_cons.mpr (.inr (lead_sub E r x h))
      · cases h
theorem lead_congr {E E' : List α} (h : ∀ x, x ∈ E ↔ x ∈ E') : ∀ r : List α, lead E r = lead E' r
  | [] => rfl
  | s :: r => by
    unfold lead
    rw [lead_congr h r]
    by_cases z : s ∈ E
    · rw [if_pos z, if_pos ((h s).mp z)]
    · rw [if_neg z, if_neg fun y => z ((h s).mpr y)]
theorem lead_len (E : List α) : ∀ r : List α, (lead E r).length ≤ r.length
  | [] => Nat.le_refl _
  | s :: r => by
    unfold lead
    have := lead_len E r
    split
    · simp; omega
    · simp

def sorts (R : List (α × List α)) : List α := R.map (·.1)

/-- the word w can begin the sort -/
inductive Beg (R : List (α × List α)) (E : List α) : α → α → Prop
  | word {l w : α} {r : List α} : (l, r) ∈ R → w ∈ lead E r → ¬ w ∈ sorts R → Beg R E l w
  | sort {l b w : α} {r : List α} : (l, r) ∈ R → b ∈ lead E r → b ∈ sorts R → Beg R E b w → Beg R E l w

def own (R : List (α × List α)) (E : List α) (l : α) : List α := R.flatMap fun p => if p.1 = l then (lead E p.2).filter (fun s => ¬ s ∈ sorts R) else []
def links (R : List (α × List α)) (E : List α) (l : α) : List α := R.flatMap fun p => if p.1 = l then (lead E p.2).filter (fun s => s ∈ sorts R) else []
theorem mem_own {R : List (α × List α)} {E : List α} {l w : α} : w ∈ own R E l ↔ ∃ r, (l, r) ∈ R ∧ w ∈ lead E r ∧ ¬ w ∈ sorts R := by
  unfold own
  rw [List.mem_flatMap]
  constructor
  · rintro ⟨⟨l', r⟩, hm, h⟩
    split at h
    · rename_i e
      have e : l' = l := e
      subst e
      obtain ⟨h1, h2⟩ := List.mem_filter.mp h
      exact ⟨r, hm, h1, of_decide_eq_true h2⟩
    · cases h
  · rintro ⟨r, hm, h1, h2⟩
    refine ⟨(l, r), hm, ?_⟩
    rw [if_pos rfl]
    exact List.mem_filter.mpr ⟨h1, decide_eq_true h2⟩
theorem mem_links {R : List (α × List α)} {E : List α} {l w : α} : w ∈ links R E l ↔ ∃ r, (l, r) ∈ R ∧ w ∈ lead E r ∧ w ∈ sorts R := by
  unfold links
  rw [List.mem_flatMap]
  constructor
  · rintro ⟨⟨l', r⟩, hm, h⟩
    split at h
    · rename_i e
      have e : l' = l := e
      subst e
      obtain ⟨h1, h2⟩ := List.mem_filter.mp h
      exact ⟨r, hm, h1, of_decide_eq_true h2⟩
    · cases h
  · rintro ⟨r, hm, h1, h2⟩
    refine ⟨(l, r), hm, ?_⟩
    rw [if_pos rfl]
    exact List.mem_filter.mpr ⟨h1, decide_eq_true h2⟩

theorem beg_iff {R : List (α × List α)} {E : List α} {a w : α} : (∃ b, Reach (links R E) a b ∧ w ∈ own R E b) ↔ Beg R E a w := by
  constructor
  · rintro ⟨b, hr, hw⟩
    obtain ⟨r, hm, h1, h2⟩ := mem_own.mp hw
    have hb : Beg R E b w := .word hm h1 h2
    clear hw hm h1 h2
    induction hr with
    | refl => exact hb
    | step _ hc ih =>
      obtain ⟨r', hm', h1', h2'⟩ := mem_links.mp hc
      exact ih (.sort hm' h1' h2' hb)
  · intro h
    induction h with
    | word hm h1 h2 => exact ⟨_, .refl, mem_own.mpr ⟨_, hm, h1, h2⟩⟩
    | sort hm h1 h2 _ ih =>
      obtain ⟨b, hr, hw⟩ := ih
      exact ⟨b, Reach.head (mem_links.mpr ⟨_, hm, h1, h2⟩) hr, hw⟩

theorem beg_of_closed {R : List (α × List α)} {E : List α} {F : α → List α} (cw : ∀ l r w, (l, r) ∈ R → w ∈ lead E r → ¬ w ∈ sorts R → w ∈ F l)
    (cs : ∀ l r b w, (l, r) ∈ R → b ∈ lead E r → b ∈ sorts R → w ∈ F b → w ∈ F l) {l w : α} (h : Beg R E l w) : w ∈ F l := by
  induction h with
  | word hm h1 h2 => exact cw _ _ _ hm h1 h2
  | sort hm h1 h2 _ ih => exact cs _ _ _ _ hm h1 h2 ih
theorem Beg.sign {R : List (α × List α)} {E : List α} {l w : α} (h : Beg R E l w) : ¬ w ∈ sorts R ∧ ∃ p ∈ R, w ∈ p.2 := by
  induction h with
  | word hm h1 h2 => exact ⟨h2, _, hm, lead_sub _ _ _ h1⟩
  | sort _ _ _ _ ih => exact ih

/-! ### counting -/
theorem nodup_len : ∀ {l m : List α}, l.Nodup → (∀ x, x ∈ l → x ∈ m) → l.length ≤ m.length
  | [], m, _, _ => Nat.zero_le _
  | x :: r, m, nd, h => by
    obtain ⟨hx, nd'⟩ := List.nodup_cons.mp nd
    have hm : x ∈ m := h x (List.mem_cons_self ..)
    have h2 : r.length ≤ (m.erase x).length := nodup_len nd' fun y hy => by
      have : y ≠ x := fun e => hx (e ▸ hy)
      exact (List.mem_erase_of_ne this).mpr (h y (List.mem_cons_of_mem _ hy))
    rw [List.length_erase_of_mem hm] at h2
    have : 0 < m.length := List.length_pos_of_mem hm
    simp only [List.length_cons]
    omega
end Gram
namespace Nw
open PySem L2
open SL (onceS srt)
def top (i : Nat) : Stmt := PySem.Challenge.pw_nextword_k02_words_behind.main.body.getD i (.Pass ⟨0, 0, 0, 0⟩)
abbrev sSortsOf : Stmt := top 5
theorem scSortsOf : FnScope ["rows"] ["rows"] (defScope sSortsOf) := ⟨rfl, rfl, rfl, by decide +kernel, rfl, by decide +kernel, by decide +kernel⟩
/-- what is asked of the module's names: the built-ins are not hidden -/
structure Txt (mg : Str → Option Value) : Prop where
  srt : mg "sorted" = none
  set : mg "set" = none
  all : mg "all" = none
  lst : mg "list" = none
  tup : mg "tuple" = none
  str : mg "str" = none
  bl : mg "bool" = none
  int : mg "int" = none
  len : mg "len" = none
  rng : mg "range" = none
  isi : mg "isinstance" = none
  abs : mg "abs" = none
  sum : mg "sum" = none
/-- rows of few and short ones -/
structure Small (R : List Row) : Prop where
  len : R.length ≤ 14
  wid : ∀ p ∈ R, p.2.length ≤ 20
  few : ∃ U : List Str, U.length ≤ 40 ∧ ∀ p ∈ R, ∀ x ∈ p.2, x ∈ U
  dif : (onceS (R.flatMap (·.2))).length / 4 ≤ (onceS (R.map (·.1))).length
  ne : R ≠ []
theorem flat_len : ∀ {R : List Row}, (∀ p ∈ R, p.2.length ≤ 20) → (R.flatMap (·.2)).length ≤ 20 * R.length
  | [], _ => by simp
  | p :: r, h => by
    have h1 := h p (List.mem_cons_self ..)
    have h2 := flat_len (R := r) fun q hq => h q (List.mem_cons_of_mem _ hq)
    rw [List.flatMap_cons, List.length_append, List.length_cons]
    omega
theorem Small.signs {R : List Row} (S : Small R) : (R.flatMap (·.2)).length ≤ 280 := by
  have := flat_len S.wid
  have := S.len
  omega
theorem mem_signs {R : List Row} {x : Str} : x ∈ R.flatMap (·.2) ↔ ∃ p ∈ R, x ∈ p.2 := List.mem_flatMap
/-- what is of the rows' signs, each once, is few -/
theorem Small.fewS {R : List Row} (S : Small R) {D : List Str} (nd : D.Nodup) (h : ∀ z ∈ D, ∃ p ∈ R, z ∈ p.2) : D.length ≤ 40 := by
  obtain ⟨U, hU, hm⟩ := S.few
  exact Nat.le_trans (Gram.nodup_len nd fun z hz => by obtain ⟨p, hp, hz'⟩ := h z hz; exact hm p hp z hz') hU
/-- a def of the text that may be called -/
structure Def (P : Program) (w : World) (K : PySem.W.Frag) (mg : Str → Option Value) (base : Heap) (x : Str) (k : Nat) (ps : List Str) (sp : Sp) : Prop where
  ex : ∃ f fd, mg x = some (.ref f) ∧ PySem.W.keepIn K (.ref f) = true ∧ FnOk P w K mg base CX0 k f fd ps sp ∧ Binds K fd ps []
theorem pe_def {X : Cx} {x : Str} {k : Nat} {ps : List Str} {sp : Sp} {p pos : Pos} {e : Expr} {es : List Expr} {t : TA} (D : Def X.prog X.w X.K X.mg X.base x k ps sp) (hr : Room k X.A) (hg : Gl X x) (ha : PA X (e :: es) t) (hdb : (x == ("__debug__" : Str)) = false := by decide)
    (he : starEach (e :: es) X.env = (false, eval e X.env) :: starEach es X.env := by rfl) (hpl : (backTo pos (starEach es X.env)).any (·.1) = false := by rfl) : PE X (.Call (.Name x p) (e :: es) [] pos) (tCall sp [] E0 t) := by
  obtain ⟨f, fd, h1, h2, h3, h4⟩ := D.ex
  exact pe_call h3 hr hg h1 h2 h4 .nil pass0 ha hdb he hpl
def spSortsOf : Sp := fun vs H Q _ => ∃ (a : Addr) (R : List Row), vs = [.ref a] ∧ RowsAt H a R ∧ Small R ∧ ∀ q H', Same H H' → H q = none → StrsAt H' q (srt (onceS (R.map (·.1)))) → Q (.ref q) H'
section
variable {P : Program} {w : World} {K : PySem.W.Frag} {mg : Str → Option Value} {base : Heap}
theorem ok_sortsOf {f : Addr} {fd : FuncData} (F : Fun K "sorts_of" "sorts_of" sSortsOf f fd) (T : Txt mg) : FnOk P w K mg base CX0 1 f fd ["rows"] spSortsOf := by
  refine F.ok scSortsOf (fun vs H Q E h => ?_) (fun cdv A outer s H vs Q E hr h => ?_)
  · obtain ⟨a, R, rfl, _⟩ := h
    rfl
  · obtain ⟨a, R, rfl, hR, hsm, k⟩ := h
    have hn : R.length < 64 := by have := hsm.len; omega
    refine ⟨_, pss_one (ps_ret (pe_callB (call_sorted rfl) (by rfl) T.srt PyProof.Rows.boot_sorted (pa_cons
      (pe_callTy (call_set rfl) (by rfl) T.set (by decide +kernel) (pa_cons
        (pe_comp (CompIn.plain (N := ["row"]) (by rfl) (by rfl) (by decide)) rfl (pi_list (pv 0)) (fun s₃ H₃ fp => pg_name (i := 0) (show (["row"] : List Str).Nodup by decide) rfl (Or.inl rfl)) (fun s₃ H₃ fp => pif_nil)
          (fun s₃ H₃ fp => pe_ix (r := rIxT K) ix_tup (pv 0) pe_int (fun _ _ => rfl))) pa_nil)) pa_nil))), ?_⟩
    obtain ⟨vs, hv, hp⟩ := hR
    have hlen : vs.length = R.length := Paired.length hp
    refine ⟨_, rfl, a, rfl, ⟨vs, SqL.of hv⟩, fun D hD => comp_list1 (K := K) (xs := vs) (fun i τ H1 => (∃ o, τ = [o]) ∧ H1 = upd H D (.lst ((R.take i).map fun p => V.str p.1))) ⟨⟨_, rfl⟩, rfl⟩ ?_ ?_ ?_⟩
    · rintro i τ H1 ⟨_, rfl⟩
      exact (Same.upd hD).seq (SqL.of hv)
    · rintro i x τ H1 hx ⟨⟨o, rfl⟩, rfl⟩
      obtain ⟨p, hpi, t, b, rfl, ht, hb⟩ := paired_get hp i x hx
      have hil : i < R.length := (List.getElem?_eq_some_iff.mp hpi).1
      refine ⟨_, rfl, t, _, 0, _, rfl, rfl, SqT.of (Same.upd hD _ _ ht), atI_nat (j := 0) rfl, _, upd_same, ?_, ⟨_, rfl⟩, ?_⟩
      · rw [List.length_map, List.length_take]
        exact small1000 (by omega)
      · rw [upd_upd, List.take_succ, hpi, List.map_append]
        rfl
    · rintro τ H1 ⟨_, rfl⟩
      rw [hlen, List.take_length]
      have em : (R.map fun p => V.str p.1) = (R.map (·.1)).map V.str := by rw [List.map_map]; rfl
      rw [em]
      refine ⟨D, R.map (·.1), rfl, SqL.of upd_same, ?_, fun q hq => ?_⟩
      · rw [List.length_map]
        unfold scanBound
        omega
      · refine ⟨q, onceS (R.map (·.1)), rfl, .inr (.inl upd_same), ?_, fun q2 hq2 => ?_⟩
        · have := SL.len_onceS (R.map (·.1))
          rw [List.length_map] at this
          omega
        · have s1 := (Same.upd (o := .lst ((R.map (·.1)).map V.str)) hD)
          have n1 : H q = none := s1.free hq
          have s2 : Same H (upd (upd H D (.lst ((R.map (·.1)).map V.str))) q (setO w q (onceS (R.map (·.1))))) := s1.trans (Same.upd hq)
          exact k q2 _ (s2.trans (Same.upd hq2)) (s2.free hq2) upd_same
end
end Nw
namespace Nw
open PySem L2
open SL (onceS srt)
abbrev sWordsOf : Stmt := top 6
theorem scWordsOf : FnScope ["rows", "signs", "row"] ["rows"] (defScope sWordsOf) := ⟨rfl, rfl, rfl, by decide +kernel, rfl, by decide +kernel, by decide +kernel⟩
def spWordsOf : Sp := fun vs H Q _ => ∃ (a : Addr) (R : List Row), vs = [.ref a] ∧ RowsAt H a R ∧ Small R ∧ ∀ q ws H', Same H H' → H q = none → (∀ z, z ∈ ws ↔ (∃ p ∈ R, z ∈ p.2) ∧ ¬ z ∈ R.map (·.1)) → StrsAt H' q ws → Q (.ref q) H'
section
variable {P : Program} {w : World} {K : PySem.W.Frag} {mg : Str → Option Value} {base : Heap}
theorem ok_wordsOf {f : Addr} {fd : FuncData} (F : Fun K "words_of" "words_of" sWordsOf f fd) (T : Txt mg) (D1 : Def P w K mg base "sorts_of" 1 ["rows"] spSortsOf) : FnOk P w K mg base CX0 2 f fd ["rows"] spWordsOf := by
  refine F.ok scWordsOf (fun vs H Q E h => ?_) (fun cdv A outer s H vs Q E hr h => ?_)
  · obtain ⟨a, R, rfl, _⟩ := h
    rfl
  · obtain ⟨a, R, rfl, hR, hsm, k⟩ := h
    refine ⟨_, pss_cons (ps_set (i := 1) scWordsOf.nd rfl (Or.inl rfl) (pe_lst pa_nil))
      (pss_cons (ps_for PassesOwn.never rfl (pi_list (pv 0)) (pg_name (i := 2) scWordsOf.nd rfl (Or.inl rfl))
        (pss_one (ps_expr (pe_bm PySem.F.plainAttrs_list PySem.F.slot_list_extend PySem.F.type_list_extend mt_extend (pv 1) (pa_cons (pe_ix ix_tup (pv 2) pe_int (fun _ _ => rfl)) pa_nil)))))
      (pss_one (ps_ret (pe_callB (call_sorted rfl) (by rfl) T.srt PyProof.Rows.boot_sorted (pa_cons
        (pe_op op_diff (pe_callTy (call_set rfl) (by rfl) T.set (by decide +kernel) (pa_cons (pv 1) pa_nil))
          (pe_callTy (call_set rfl) (by rfl) T.set (by decide +kernel) (pa_cons (pe_def D1 hr (by rfl) (pa_cons (pv 0) pa_nil)) pa_nil))) pa_nil))))), ?_⟩
    obtain ⟨vs, hv, hp⟩ := id hR
    have hlen : vs.length = R.length := Paired.length hp
    refine ⟨by decide, fun l hl => ?_⟩
    have s0 : Same H (upd H l (.lst [])) := Same.upd hl
    refine ⟨_, rfl, a, rfl, ⟨_, s0.seq (SqL.of hv)⟩, for_list (K := K) (a := a) (xs := vs) (fun i σ H1 => (∃ o, σ = [some (.ref a), some (.ref l), o]) ∧ H1 = upd H l (.lst (((R.take i).flatMap (·.2)).map V.str))) ⟨⟨_, rfl⟩, rfl⟩ ?_ ?_ ?_⟩
    · rintro i σ H1 _ ⟨_, rfl⟩
      exact (Same.upd hl).seq (SqL.of hv)
    · rintro i x σ H1 hx ⟨⟨o, rfl⟩, rfl⟩
      obtain ⟨p, hpi, t, b, rfl, ht, hb⟩ := paired_get hp i x hx
      have hil : i < R.length := (List.getElem?_eq_some_iff.mp hpi).1
      have sl := Same.upd (o := HO.lst (((R.take i).flatMap (·.2)).map V.str)) hl
      refine ⟨_, rfl, .inl ⟨rfl, _, SqL.of upd_same⟩, _, rfl, t, _, 1, _, rfl, rfl, SqT.of (sl _ _ ht), atI_nat (j := 1) rfl, l, b, _, _, rfl, rfl, upd_same, sl _ _ hb, ?_, ⟨_, rfl⟩, ?_⟩
      · have h1 := flat_len (R := R.take i) fun q hq => hsm.wid q (List.mem_of_mem_take hq)
        have h2 := hsm.wid p (List.mem_of_getElem? hpi)
        have h3 := hsm.len
        rw [List.length_take] at h1
        rw [List.length_map, List.length_map]
        exact Nat.le_of_lt (small1000 (by omega))
      · rw [upd_upd, List.take_succ, hpi, List.flatMap_append, List.map_append]
        simp
    · rintro σ H1 ⟨⟨o, rfl⟩, rfl⟩
      rw [hlen, List.take_length]
      have sg := hsm.signs
      have s1 := Same.upd (o := HO.lst ((R.flatMap (·.2)).map V.str)) hl
      refine ⟨_, rfl, l, R.flatMap (·.2), rfl, SqL.of upd_same, by unfold scanBound; omega, fun q1 hq1 => ?_⟩
      have s2 := s1.trans (Same.upd (o := setO w q1 (onceS (R.flatMap (·.2)))) hq1)
      refine ⟨_, rfl, a, R, rfl, hR.mono s2, hsm, fun q2 H2 s3 n2 hS => ?_⟩
      have hso : (srt (onceS (R.map (·.1)))).length ≤ 14 := by
        rw [SL.len_srt]
        have := SL.len_onceS (R.map (·.1))
        rw [List.length_map] at this
        have := hsm.len
        omega
      refine ⟨q2, _, rfl, SqL.of hS, by unfold scanBound; omega, fun q3 hq3 => ?_⟩
      have h1 : H2 q1 = some (setO w q1 (onceS (R.flatMap (·.2)))) := s3 _ _ upd_same
      have s4 := Same.upd (H := H2) (o := setO w q3 (onceS (srt (onceS (R.map (·.1)))))) hq3
      have hon : (onceS (srt (onceS (R.map (·.1))))).length = (onceS (R.map (·.1))).length := by
        have := SL.perm_of_mem (SL.nodup_onceS (srt (onceS (R.map (·.1))))) (SL.nodup_onceS (R.map (·.1))) fun x => by rw [SL.mem_onceS, SL.mem_srt]
        exact this.length_eq
      refine ⟨q1, q3, _, _, rfl, rfl, s4 _ _ h1, upd_same, by rw [hon]; exact hsm.dif, fun q4 D hq4 nd hm => ?_⟩
      have hD : ∀ z, z ∈ D ↔ (∃ p ∈ R, z ∈ p.2) ∧ ¬ z ∈ R.map (·.1) := fun z => by
        rw [hm z, SL.mem_onceS, mem_signs, SL.mem_onceS, SL.mem_srt, SL.mem_onceS]
      refine ⟨q4, D, rfl, .inr (.inl upd_same), ?_, fun q5 hq5 => ?_⟩
      · have := hsm.fewS nd fun z hz => ((hD z).mp hz).1
        omega
      · have s5 : Same H (upd (upd H2 q3 (setO w q3 (onceS (srt (onceS (R.map (·.1))))))) q4 (setO w q4 D)) := ((s2.trans s3).trans s4).trans (Same.upd hq4)
        exact k q5 (srt D) _ (s5.trans (Same.upd hq5)) (s5.free hq5) (fun z => by rw [SL.mem_srt, hD z]) upd_same
end
end Nw
namespace Nw
open PySem L2
open SL (onceS srt)
abbrev sFirst : Stmt := top 7
theorem scFirst : FnScope ["rows"] ["rows"] (defScope sFirst) := ⟨rfl, rfl, rfl, by decide +kernel, rfl, by decide +kernel, by decide +kernel⟩
def spFirst : Sp := fun vs H Q _ => ∃ (a : Addr) (p : Row) (R : List Row), vs = [.ref a] ∧ RowsAt H a (p :: R) ∧ Q (.str p.1) H
abbrev sMade : Stmt := top 8
theorem scMade : FnScope ["rows", "words", "made", "grown", "left", "right"] ["rows", "words"] (defScope sMade) := ⟨rfl, rfl, rfl, by decide +kernel, rfl, by decide +kernel, by decide +kernel⟩
def spMade : Sp := fun vs H Q _ => ∃ (a b : Addr) (R : List Row) (ws : List Str), vs = [.ref a, .ref b] ∧ RowsAt H a R ∧ Small R ∧ StrsAt H b ws ∧ ∀ q ms H', Same H H' → H q = none → ms.Nodup → (∀ z, z ∈ ms ↔ Gram.Made R (· ∈ ws) z) → StrsAt H' q (srt ms) → Q (.ref q) H'
/-- a dict of marks -/
def kd (ms : List Str) : List (Key × V) := ms.map fun m => ((Sum.inr m : Key), V.bl true)
theorem kd_val : ∀ (ms : List Str) (x : Str), valV (kd ms) (Sum.inr x : Key) = if x ∈ ms then some (V.bl true) else none
  | [], x => rfl
  | m :: r, x => by
    show valV (((Sum.inr m : Key), V.bl true) :: kd r) (Sum.inr x) = _
    by_cases e : m = x
    · subst e
      rw [valV_pos rfl, if_pos (List.mem_cons_self ..)]
    · rw [valV_neg (fun z => e (Sum.inr.inj z)), kd_val r x]
      by_cases h : x ∈ r
      · rw [if_pos h, if_pos (List.mem_cons_of_mem _ h)]
      · rw [if_neg h, if_neg fun z => (List.mem_cons.mp z).elim (fun q => e q.symm) h]
theorem kd_put {ms : List Str} {x : Str} (h : ¬ x ∈ ms) : putK (kd ms) (Sum.inr x : Key) (V.bl true) = kd (ms ++ [x]) := by
  rw [putK_new _ (by rw [kd_val, if_neg h])]
  unfold kd
  rw [List.map_append]
  rfl
theorem kd_keys (ms : List Str) : (kd ms).map (·.1) = ms.map Sum.inr := by
  unfold kd
  rw [List.map_map]
  rfl
theorem inV_strs (x : Str) : ∀ ws : List Str, inV (.str x) (ws.map V.str) = decide (x ∈ ws)
  | [] => rfl
  | y :: r => by
    have ih := inV_strs x r
    unfold inV at ih ⊢
    rw [List.map_cons, List.any_cons, ih]
    show ((y == x) || decide (x ∈ r)) = _
    by_cases e : y = x
    · subst e; simp
    · have e1 : (y == x) = false := beq_eq_false_iff_ne.mpr e
      have e2 : ¬ x = y := fun z => e z.symm
      simp [e1, e2]
theorem flat_strs : ∀ ws : List Str, (ws.map V.str).all flatV = true
  | [] => rfl
  | _ :: r => flat_strs r
/-- the rows i on, each as it stands -/
theorem rowAt_get {H : Hp} {vs : List V} {R : List Row} (hp : Paired (RowAt H) vs R) {i : Nat} {x : V} (hx : vs[i]? = some x) : ∃ p t b, R[i]? = some p ∧ x = .ref t ∧ H t = some (.tup [.str p.1, .ref b]) ∧ StrsAt H b p.2 := by
  obtain ⟨p, hpi, t, b, rfl, ht, hb⟩ := paired_get hp i x hx
  exact ⟨p, t, b, hpi, rfl, ht, hb⟩
section
variable {P : Program} {w : World} {K : PySem.W.Frag} {mg : Str → Option Value} {base : Heap}
theorem ok_first {f : Addr} {fd : FuncData} (F : Fun K "first_sort" "first_sort" sFirst f fd) : FnOk P w K mg base CX0 1 f fd ["rows"] spFirst := by
  refine F.ok scFirst (fun vs H Q E h => ?_) (fun cdv A outer s H vs Q E hr h => ?_)
  · obtain ⟨a, p, R, rfl, _⟩ := h
    rfl
  · obtain ⟨a, p, R, rfl, hR, k⟩ := h
    refine ⟨_, pss_one (ps_ret (pe_ix ix_tup (pe_ix ix_list (pv 0) pe_int (fun _ _ => rfl)) pe_int (fun _ _ => rfl))), ?_⟩
    obtain ⟨vs, hv, hp⟩ := hR
    cases hp with
    | @cons v _ vr _ h1 h2 =>
      obtain ⟨t, b, rfl, ht, hb⟩ := h1
      exact ⟨_, rfl, a, _, 0, _, rfl, rfl, SqL.of hv, atI_nat (j := 0) rfl, t, _, 0, _, rfl, rfl, SqT.of ht, atI_nat (j := 0) rfl, k⟩
theorem ok_made {f : Addr} {fd : FuncData} (F : Fun K "sorts_made_of" "sorts_made_of" sMade f fd) (T : Txt mg) : FnOk P w K mg base CX0 1 f fd ["rows", "words"] spMade := by
  refine F.ok scMade (fun vs H Q E h => ?_) (fun cdv A outer s H vs Q E hr h => ?_)
  · obtain ⟨a, b, R, ws, rfl, _⟩ := h
    rfl
  · obtain ⟨a, b, R, ws, rfl, hR, hsm, hW, k⟩ := h
    have hu := hu_of hr
    refine ⟨_, pss_cons (ps_set (i := 2) scMade.nd rfl (Or.inr rfl) pe_dnewK)
      (pss_cons (ps_set (i := 3) scMade.nd rfl (Or.inl rfl) pe_bl)
      (pss_cons (ps_while PassesOwn.never (pt_val (pv 3))
        (pss_cons (ps_set (i := 3) scMade.nd rfl (Or.inl rfl) pe_bl)
        (pss_one (ps_for PassesOwn.never rfl (pi_list (pv 0)) (pg_tup (n := 2) rfl (pgs_cons (pg_name (i := 4) scMade.nd rfl (Or.inl rfl)) (pgs_cons (pg_name (i := 5) scMade.nd rfl (Or.inl rfl)) pgs_nil)))
          (pss_one (ps_if (PW.pt (pw_and (pt_cmp (pc_dnotin hu (pv 4) (pv 2))) (pw_and1 (pt_val (pe_callB (call_all rfl) (by rfl) T.all PyProof.Rows.boot_all (pa_cons
              (pe_comp (CompIn.free (N := ["sign", "words", "made"]) (sel := [none, some 1, some 2]) ["words", "made"] (by rfl) (by rfl) (by rfl) ?c1 ?c2 ?c3 ?c4 (by rfl) ?c5) rfl (pi_list (pv 5)) (fun s₃ H₃ fp => pg_name (i := 0) (show (["sign", "words", "made"] : List Str).Nodup by decide) rfl (Or.inl rfl)) (fun s₃ H₃ fp => pif_nil)
                (fun s₃ H₃ fp => pe_or (pe_cmpR (r := rIn K false) op_in_seq (pv 0) (pv 1) (by with_unfolding_all rfl)) (pe_one (pe_cmp (pc_din (X := cxIn _ _ _ _ _ _ _) hu (pv 0) (pv 2)))))) pa_nil))))))
            (pss_cons (ps_dput hu (pv 2) (pv 4) pe_bl rfl) (pss_one (ps_set (i := 3) scMade.nd rfl (Or.inl rfl) pe_bl))) pss_nil))))))
      (pss_one (ps_ret (pe_callB (call_sorted rfl) (by rfl) T.srt PyProof.Rows.boot_sorted (pa_cons (pv 2) pa_nil)))))), ?_⟩
    case c1 => decide
    case c2 => decide
    case c3 =>
      intro x hx
      rcases List.mem_cons.mp hx with rfl | hx
      · exact ⟨rfl, rfl, _, rfl, rfl⟩
      · rcases List.mem_cons.mp hx with rfl | hx
        · exact ⟨rfl, rfl, _, rfl, rfl⟩
        · cases hx
    case c4 =>
      intro y hy
      rcases List.mem_cons.mp hy with rfl | hy
      · exact List.mem_cons_self ..
      · rcases List.mem_cons.mp hy with rfl | hy
        · exact List.mem_cons_of_mem _ (List.mem_cons_self ..)
        · cases hy
    case c5 =>
      intro j i h
      rcases j with _ | _ | _ | j
      · cases h
      · cases h; exact ⟨"words", List.mem_cons_self .., rfl, rfl⟩
      · cases h; exact ⟨"made", List.mem_cons_of_mem _ (List.mem_cons_self ..), rfl, rfl⟩
      · cases h
    obtain ⟨vs, hv, hp⟩ := id hR
    have hlen : vs.length = R.length := Paired.length hp
    have hRl := hsm.len
    intro d hd
    -- while grown
    refine ⟨fun m σ H1 => ∃ ms g l r, σ = [some (.ref a), some (.ref b), some (.ref d), some (.bl g), l, r] ∧ Same H H1 ∧ H1 d = some (.dK (kd ms)) ∧ ms.Nodup ∧ (∀ x ∈ ms, Gram.Made R (· ∈ ws) x) ∧
        (g = false → ∀ l r, (l, r) ∈ R → (∀ s ∈ r, s ∈ ws ∨ s ∈ ms) → l ∈ ms) ∧ m = (if g = true then 1 else 0) + 2 * (R.length - ms.length),
      ⟨_, [], true, none, none, rfl, Same.upd hd, upd_same, List.nodup_nil, fun x hx => (by cases hx), fun z => (by cases z), rfl⟩, ?_⟩
    rintro m0 σ H1 ⟨ms0, g0, l0, r0, rfl, s1, hd1, nd0, so0, cl0, rfl⟩
    refine ⟨_, rfl, g0, rfl, ?_⟩
    have lenR : ∀ {ms : List Str}, ms.Nodup → (∀ x ∈ ms, Gram.Made R (· ∈ ws) x) → ms.length ≤ R.length := fun nd so => by
      have := Gram.nodup_len nd fun x hx => (so x hx).left
      rw [List.length_map] at this
      exact this
    cases g0 with
    | false =>
      refine iteF ?_
      have cl := cl0 rfl
      have l14 := lenR nd0 so0
      refine ⟨_, rfl, d, ms0, rfl, .inr (.inr ⟨_, hd1, kd_keys ms0⟩), by omega, fun q hq => ?_⟩
      exact k q ms0 _ (s1.trans (Same.upd hq)) (s1.free hq) nd0 (fun z => ⟨so0 z, fun h => Gram.made_of_closed cl h⟩) upd_same
    | true =>
      refine iteT ?_
      refine ⟨fun σ H2 => ∃ ms g l r, σ = [some (.ref a), some (.ref b), some (.ref d), some (.bl g), l, r] ∧ Same H H2 ∧ H2 d = some (.dK (kd ms)) ∧ ms.Nodup ∧ (∀ x ∈ ms, Gram.Made R (· ∈ ws) x) ∧
          (g = false → ms = ms0 ∧ ∀ l r, (l, r) ∈ R → (∀ s ∈ r, s ∈ ws ∨ s ∈ ms0) → l ∈ ms0) ∧ (g = true → ms0.length < ms.length), ?_, ?_⟩
      · rintro σ' H' ⟨ms, g, l, r, rfl, s2, hd2, nd, so, cf, ct⟩
        have l14 := lenR nd so
        refine ⟨(if g = true then 1 else 0) + 2 * (R.length - ms.length), ?_, ms, g, l, r, rfl, s2, hd2, nd, so, fun z => ?_, rfl⟩
        · rw [if_pos rfl]
          cases g with
          | true =>
            have := ct rfl
            rw [if_pos rfl]
            omega
          | false =>
            have := (cf rfl).1
            rw [if_neg (by decide), this]
            omega
        · obtain ⟨e, cl⟩ := cf z
          rw [e]
          exact cl
      -- grown = False; for left, right in rows
      refine ⟨_, rfl, a, rfl, ⟨_, s1.seq (SqL.of hv)⟩, for_list (K := K) (a := a) (xs := vs)
        (fun i σ H2 => ∃ ms g l r, σ = [some (.ref a), some (.ref b), some (.ref d), some (.bl g), l, r] ∧ Same H H2 ∧ H2 d = some (.dK (kd ms)) ∧ ms.Nodup ∧ (∀ x ∈ ms, Gram.Made R (· ∈ ws) x) ∧ ms0.length ≤ ms.length ∧
          (g = false → ms = ms0 ∧ ∀ j l r, j < i → R[j]? = some (l, r) → (∀ s ∈ r, s ∈ ws ∨ s ∈ ms0) → l ∈ ms0) ∧ (g = true → ms0.length < ms.length))
        ⟨ms0, false, l0, r0, rfl, s1, hd1, nd0, so0, Nat.le_refl _, fun _ => ⟨rfl, fun j l r hj => absurd hj (Nat.not_lt_zero _)⟩, fun z => (by cases z)⟩ ?_ ?_ ?_⟩
      · rintro i σ H2 _ ⟨_, _, _, _, _, s2, _⟩
        exact s2.seq (SqL.of hv)
      · rintro i x σ H2 hx ⟨ms, g, l, r, rfl, s2, hd2, nd, so, le, cf, ct⟩
        obtain ⟨p, t, c, hpi, rfl, ht, hc⟩ := rowAt_get hp hx
        have hpm : (p.1, p.2) ∈ R := List.mem_of_getElem? hpi
        refine ⟨t, _, rfl, SqT.of (s2 _ _ ht), rfl, _, _, rfl, _, _, rfl, rfl, ?_⟩
        -- left not in made
        refine ⟨_, rfl, _, rfl, d, _, rfl, DGet.k (k := Sum.inr p.1) hd2, _, rfl, ?_⟩
        rw [kd_val]
        by_cases hin : p.1 ∈ ms
        · rw [if_pos hin]
          refine iteF (iteF ?_)
          refine ⟨ms, g, _, _, rfl, s2, hd2, nd, so, le, fun z => ?_, ct⟩
          obtain ⟨e, cl⟩ := cf z
          refine ⟨e, fun j l r hj hR' hs => ?_⟩
          rcases Nat.lt_or_ge j i with q | q
          · exact cl j l r q hR' hs
          · have : j = i := by omega
            subst this
            rw [hpi] at hR'
            cases hR'
            rw [← e]; exact hin
        · rw [if_neg hin]
          refine iteT ?_
          -- all([sign in words or sign in made for sign in right])
          have hc2 : H2 c = some (.lst (p.2.map V.str)) := s2 _ _ hc
          have hw2 : H2 b = some (.lst (ws.map V.str)) := s2 _ _ hW
          refine ⟨_, rfl, c, rfl, ⟨_, SqL.of hc2⟩, fun D hD => comp_list1 (K := K) (xs := p.2.map V.str)
            (fun i τ H3 => (∃ o, τ = [o, some (.ref b), some (.ref d)]) ∧ H3 = upd H2 D (.lst ((p.2.take i).map fun s => V.bl (decide (s ∈ ws ∨ s ∈ ms))))) ⟨⟨_, rfl⟩, rfl⟩ ?_ ?_ ?_⟩
          · rintro i τ H3 ⟨_, rfl⟩
            exact (Same.upd hD).seq (SqL.of hc2)
          · rintro i x τ H3 hx ⟨⟨o, rfl⟩, rfl⟩
            obtain ⟨sg, hsg, rfl⟩ : ∃ sg, p.2[i]? = some sg ∧ V.str sg = x := by
              rw [List.getElem?_map] at hx
              cases e : p.2[i]? with
              | none => rw [e] at hx; cases hx
              | some sg => rw [e] at hx; exact ⟨sg, rfl, Option.some.inj hx⟩
            have sD := Same.upd (o := HO.lst ((p.2.take i).map fun s => V.bl (decide (s ∈ ws ∨ s ∈ ms)))) hD
            have hil : i < p.2.length := (List.getElem?_eq_some_iff.mp hsg).1
            have fin : ∀ bo : Bool, bo = decide (sg ∈ ws ∨ sg ∈ ms) → ∃ ys, upd H2 D (.lst ((p.2.take i).map fun s => V.bl (decide (s ∈ ws ∨ s ∈ ms)))) D = some (.lst ys) ∧ ys.length < sizeLine ∧
                (∃ o', [some (V.str sg), some (V.ref b), some (V.ref d)] = [o', some (.ref b), some (.ref d)]) ∧ upd (upd H2 D (.lst ((p.2.take i).map fun s => V.bl (decide (s ∈ ws ∨ s ∈ ms))))) D (.lst (ys ++ [V.bl bo])) = upd H2 D (.lst ((p.2.take (i + 1)).map fun s => V.bl (decide (s ∈ ws ∨ s ∈ ms)))) := by
              rintro bo rfl
              refine ⟨_, upd_same, ?_, ⟨_, rfl⟩, ?_⟩
              · rw [List.length_map, List.length_take]
                have := hsm.wid p (List.mem_of_getElem? hpi)
                exact small1000 (by omega)
              · rw [upd_upd, List.take_succ, hsg, List.map_append]
                rfl
            refine ⟨_, rfl, _, rfl, b, _, rfl, .inl (SqL.of (sD _ _ hw2)), rfl, flat_strs ws, _, rfl, ?_⟩
            rw [inV_strs]
            by_cases hin1 : sg ∈ ws
            · rw [decide_eq_true hin1]
              refine iteT (fin true ?_)
              rw [decide_eq_true (.inl hin1)]
            · rw [decide_eq_false hin1]
              refine iteF ?_
              refine ⟨_, rfl, _, rfl, d, _, rfl, DGet.k (k := Sum.inr sg) (sD _ _ hd2), ?_⟩
              rw [kd_val]
              by_cases hin2 : sg ∈ ms
              · rw [if_pos hin2]
                exact fin true (by rw [decide_eq_true (.inr hin2)])
              · rw [if_neg hin2]
                exact fin false (by rw [decide_eq_false]; rintro (z | z); exact hin1 z; exact hin2 z)
          · rintro τ H3 ⟨_, rfl⟩
            rw [List.length_map, List.take_length]
            have sD := Same.upd (o := HO.lst (p.2.map fun s => V.bl (decide (s ∈ ws ∨ s ∈ ms)))) hD
            have s3 : Same H _ := s2.trans sD
            refine ⟨D, p.2.map fun s => decide (s ∈ ws ∨ s ∈ ms), rfl, SqL.of (by rw [upd_same, List.map_map]; rfl), _, rfl, ?_⟩
            have hall : ((p.2.map fun s => decide (s ∈ ws ∨ s ∈ ms)).all id = true) ↔ ∀ s ∈ p.2, s ∈ ws ∨ s ∈ ms := by
              rw [List.all_map, List.all_eq_true]
              exact ⟨fun h s hs => of_decide_eq_true (h s hs), fun h s hs => decide_eq_true (h s hs)⟩
            cases hb : (p.2.map fun s => decide (s ∈ ws ∨ s ∈ ms)).all id with
            | true =>
              refine iteT ?_
              have ha := hall.mp hb
              have l14 := lenR nd so
              have hd3 : upd H2 D (.lst (p.2.map fun s => V.bl (decide (s ∈ ws ∨ s ∈ ms)))) d = some (.dK (kd ms)) := sD _ _ hd2
              refine ⟨_, rfl, _, rfl, d, _, rfl, DPut.k (k := Sum.inr p.1) hd3 (by unfold kd; rw [List.length_map]; exact small1000 (by omega)), ?_⟩
              rw [kd_put hin]
              refine ⟨ms ++ [p.1], true, _, _, rfl, s3.updS hd, upd_same, nd_snoc nd hin, fun x hx => ?_, by rw [List.length_append]; omega, fun z => (by cases z), fun _ => by rw [List.length_append, List.length_singleton]; omega⟩
              rcases List.mem_append.mp hx with q | q
              · exact so x q
              · rw [List.mem_singleton.mp q]
                exact Gram.made_step so hpm ha
            | false =>
              refine iteF ?_
              refine ⟨ms, g, _, _, rfl, s3, sD _ _ hd2, nd, so, le, fun z => ?_, ct⟩
              obtain ⟨e, cl⟩ := cf z
              refine ⟨e, fun j l r hj hR' hs => ?_⟩
              rcases Nat.lt_or_ge j i with q | q
              · exact cl j l r q hR' hs
              · have : j = i := by omega
                subst this
                rw [hpi] at hR'
                cases hR'
                exfalso
                have := hall.mpr (by rw [e]; exact hs)
                rw [hb] at this
                cases this
      · rintro σ H2 ⟨ms, g, l, r, rfl, s2, hd2, nd, so, le, cf, ct⟩
        rw [hlen] at cf
        refine ⟨ms, g, l, r, rfl, s2, hd2, nd, so, fun z => ?_, ct⟩
        obtain ⟨e, cl⟩ := cf z
        refine ⟨e, fun l r hm hs => ?_⟩
        obtain ⟨j, hj⟩ := List.mem_iff_getElem?.mp hm
        exact cl j l r (List.getElem?_eq_some_iff.mp hj).1 hj hs
end
end Nw
namespace Nw
open PySem L2
open SL (onceS srt)
/-! ### a dict of lists of texts -/
abbrev Tab := List (Str × List Str)
def EntAt (H : Hp) (kv : Key × V) (e : Str × List Str) : Prop := kv.1 = Sum.inr e.1 ∧ ∃ l, kv.2 = .ref l ∧ StrsAt H l e.2
def DictL (H : Hp) (a : Addr) (f : Tab) : Prop := ∃ kvs, Rd H a (.dK kvs) ∧ Paired (EntAt H) kvs f
def getL (f : Tab) (x : Str) : List Str := (f.lookup x).getD []
theorem rd_mono {H H' : Hp} (e : Same H H') {a : Addr} {u : HO} (h : Rd H a u) : Rd H' a u := by
  rcases h with h | ⟨o, h⟩
  · exact .inl (e _ _ h)
  · exact .inr ⟨o, e _ _ h⟩
theorem DictL.mono {H H' : Hp} (e : Same H H') {a : Addr} {f : Tab} (h : DictL H a f) : DictL H' a f := by
  obtain ⟨kvs, h1, h2⟩ := h
  exact ⟨kvs, rd_mono e h1, Paired.mapP h2 fun _ _ ⟨q1, l, q2, q3⟩ => ⟨q1, l, q2, e _ _ q3⟩⟩
theorem ent_val {H : Hp} : ∀ {kvs : List (Key × V)} {f : Tab}, Paired (EntAt H) kvs f → ∀ (x : Str), (f.lookup x = none ∧ valV kvs (Sum.inr x : Key) = none) ∨ ∃ ys l, f.lookup x = some ys ∧ valV kvs (Sum.inr x : Key) = some (.ref l) ∧ StrsAt H l ys
  | _, _, .nil, x => .inl ⟨rfl, rfl⟩
  | _, _, @Paired.cons _ _ _ kv e _ _ ⟨h1, l, h2, h3⟩ t, x => by
    obtain ⟨k, v⟩ := kv
    obtain ⟨n, ys⟩ := e
    have h1 : k = Sum.inr n := h1
    have h2 : v = .ref l := h2
    subst h1; subst h2
    rw [List.lookup_cons]
    by_cases q : n = x
    · subst q
      right
      refine ⟨ys, l, ?_, valV_pos rfl, h3⟩
      simp
    · have q' : (x == n) = false := beq_eq_false_iff_ne.mpr fun z => q z.symm
      rw [q', valV_neg (fun z => q (Sum.inr.inj z))]
      exact ent_val t x
theorem lookup_keys : ∀ {f : Tab} {x : Str}, x ∈ f.map (·.1) → ∃ ys, f.lookup x = some ys ∧ (x, ys) ∈ f
  | [], x, h => by cases h
  | (n, ys) :: r, x, h => by
    rw [List.lookup_cons]
    cases e : x == n with
    | true =>
      have e := eq_of_beq e
      subst e
      exact ⟨ys, rfl, List.mem_cons_self ..⟩
    | false =>
      rcases List.mem_cons.mp h with z | z
      · rw [z] at e
        simp at e
      · obtain ⟨ys', h1, h2⟩ := lookup_keys z
        exact ⟨ys', h1, List.mem_cons_of_mem _ h2⟩
/-- d[x] -/
theorem DictL.get {H : Hp} {a : Addr} {f : Tab} (h : DictL H a f) {x : Str} (hx : x ∈ f.map (·.1)) : ∃ l, DGet H a (.str x) (some (.ref l)) ∧ StrsAt H l (getL f x) := by
  obtain ⟨kvs, h1, h2⟩ := h
  obtain ⟨ys, e, _⟩ := lookup_keys hx
  rcases ent_val h2 x with ⟨z, _⟩ | ⟨ys', l, z, v, hl⟩
  · rw [e] at z; cases z
  · refine ⟨l, .inl ⟨kvs, Sum.inr x, h1, rfl, v.symm⟩, ?_⟩
    unfold getL
    rw [z]
    exact hl
/-- what is still to be opened -/
def wsum (f : Tab) (ms : List Str) : Nat := (f.map fun e => if e.1 ∈ ms then 0 else e.2.length).sum
theorem wsum_le : ∀ (f : Tab) (ms : List Str), wsum f ms ≤ (f.map fun e => e.2.length).sum
  | [], _ => Nat.le_refl _
  | e :: r, ms => by
    have := wsum_le r ms
    unfold wsum at this ⊢
    rw [List.map_cons, List.sum_cons, List.map_cons, List.sum_cons]
    split <;> omega
theorem wsum_out : ∀ {f : Tab} {ms : List Str} {x : Str}, ¬ x ∈ f.map (·.1) → wsum f (ms ++ [x]) = wsum f ms
  | [], _, _, _ => rfl
  | e :: r, ms, x, h => by
    have h1 : ¬ e.1 = x := fun z => h (by rw [← z]; exact List.mem_cons_self ..)
    have h2 := wsum_out (f := r) (ms := ms) (x := x) fun z => h (List.mem_cons_of_mem _ z)
    unfold wsum at h2 ⊢
    rw [List.map_cons, List.sum_cons, List.map_cons, List.sum_cons, h2]
    have : (e.1 ∈ ms ++ [x]) ↔ e.1 ∈ ms := by rw [List.mem_append, List.mem_singleton]; exact ⟨fun z => z.resolve_right h1, .inl⟩
    by_cases z : e.1 ∈ ms
    · rw [if_pos z, if_pos (this.mpr z)]
    · rw [if_neg z, if_neg fun q => z (this.mp q)]
theorem wsum_in : ∀ {f : Tab} {ms : List Str} {x : Str}, (f.map (·.1)).Nodup → x ∈ f.map (·.1) → ¬ x ∈ ms → wsum f (ms ++ [x]) + (getL f x).length = wsum f ms
  | [], _, _, _, h, _ => by cases h
  | e :: r, ms, x, nd, h, hx => by
    rw [List.map_cons, List.nodup_cons] at nd
    obtain ⟨n, ys⟩ := e
    by_cases q : n = x
    · subst q
      have h1 := wsum_out (f := r) (ms := ms) (x := n) nd.1
      unfold wsum at h1 ⊢
      rw [List.map_cons, List.sum_cons, List.map_cons, List.sum_cons, h1]
      have : getL ((n, ys) :: r) n = ys := by unfold getL; simp
      rw [this, if_pos (by simp), if_neg hx]
      show 0 + _ + ys.length = ys.length + _
      omega
    · have hr : x ∈ r.map (·.1) := by
        rcases List.mem_cons.mp h with z | z
        · exact absurd z.symm q
        · exact z
      have h1 := wsum_in (f := r) nd.2 hr hx
      have q' : (x == n) = false := beq_eq_false_iff_ne.mpr fun z => q z.symm
      have : getL ((n, ys) :: r) x = getL r x := by unfold getL; rw [List.lookup_cons, q']
      rw [this]
      unfold wsum at h1 ⊢
      rw [List.map_cons, List.sum_cons, List.map_cons, List.sum_cons]
      have e2 : (n ∈ ms ++ [x]) ↔ n ∈ ms := by rw [List.mem_append, List.mem_singleton]; exact ⟨fun z => z.resolve_right q, .inl⟩
      by_cases z : n ∈ ms
      · rw [if_pos z, if_pos (e2.mpr z)]
        omega
      · rw [if_neg z, if_neg fun q => z (e2.mp q)]
        show ys.length + _ + _ = ys.length + _
        omega
theorem mem_concat {wi : List Str} {here y : Str} : y ∈ wi.concat here ↔ y ∈ wi ∨ y ∈ [here] := by rw [List.concat_eq_append, List.mem_append]
/-- a table whose lists hold keys alone -/
structure Links (f : Tab) : Prop where
  nd : (f.map (·.1)).Nodup
  cl : ∀ e ∈ f, ∀ y ∈ e.2, y ∈ f.map (·.1)
  len : f.length ≤ 14
  sz : (f.map fun e => e.2.length).sum ≤ 10000

abbrev sReach : Stmt := top 9
theorem scReach : FnScope ["links", "sort", "reached", "waiting", "here"] ["links", "sort"] (defScope sReach) := ⟨rfl, rfl, rfl, by decide +kernel, rfl, by decide +kernel, by decide +kernel⟩
def spReach : Sp := fun vs H Q _ => ∃ (a : Addr) (x : Str) (f : Tab), vs = [.ref a, .str x] ∧ DictL H a f ∧ Links f ∧ x ∈ f.map (·.1) ∧ ∀ q ms H', Same H H' → H q = none → ms.Nodup → (∀ z, z ∈ ms ↔ Gram.Reach (getL f) x z) → StrsAt H' q (srt ms) → Q (.ref q) H'
theorem big_line {n : Nat} (h : n ≤ 20000) : n ≤ sizeLine := by rw [PySem.sizeLine_eq]; omega
section
variable {P : Program} {w : World} {K : PySem.W.Frag} {mg : Str → Option Value} {base : Heap}
theorem ok_reach {f : Addr} {fd : FuncData} (F : Fun K "sorts_reached" "sorts_reached" sReach f fd) (T : Txt mg) : FnOk P w K mg base CX0 1 f fd ["links", "sort"] spReach := by
  refine F.ok scReach (fun vs H Q E h => ?_) (fun cdv A outer s H vs Q E hr h => ?_)
  · obtain ⟨a, x, f, rfl, _⟩ := h
    rfl
  · obtain ⟨a, x, f, rfl, hL, hf, hx, k⟩ := h
    have hu := hu_of hr
    refine ⟨_, pss_cons (ps_set (i := 2) scReach.nd rfl (Or.inl rfl) pe_dnewK)
      (pss_cons (ps_set (i := 3) scReach.nd rfl (Or.inl rfl) (pe_lst (pa_cons (pv 1) pa_nil)))
      (pss_cons (ps_while PassesOwn.never (pt_truth (pv 3) (fun _ => rfl))
        (pss_cons (ps_set (i := 4) scReach.nd rfl (Or.inl rfl) (pe_bm0 PySem.F.plainAttrs_list PySem.F.slot_list_pop PySem.F.type_list_pop mt_pop (pv 3)))
        (pss_one (ps_if (pt_cmp (pc_dnotin hu (pv 4) (pv 2)))
          (pss_cons (ps_dput hu (pv 2) (pv 4) pe_bl rfl)
          (pss_one (ps_expr (pe_bm PySem.F.plainAttrs_list PySem.F.slot_list_extend PySem.F.type_list_extend mt_extend (pv 3) (pa_cons (pe_dget hu (pv 0) (pv 4) (fun _ _ => rfl)) pa_nil)))))
          pss_nil))))
      (pss_one (ps_ret (pe_callB (call_sorted rfl) (by rfl) T.srt PyProof.Rows.boot_sorted (pa_cons (pv 2) pa_nil)))))), ?_⟩
    intro d hd
    refine ⟨_, rfl, (show 1 ≤ sizeLine by decide), fun wl hwl => ?_⟩
    have hwd : H wl = none := (Same.upd (o := HO.dK []) hd).free hwl
    have ndw : wl ≠ d := fun z => by rw [z, upd_same] at hwl; cases hwl
    have hfl := hf.len
    refine ⟨fun m σ H1 => ∃ ms ws o, σ = [some (.ref a), some (.str x), some (.ref d), some (.ref wl), o] ∧ Same H H1 ∧ H1 d = some (.dK (kd ms)) ∧ StrsAt H1 wl ws ∧ ms.Nodup ∧ (∀ z ∈ ms, z ∈ f.map (·.1) ∧ Gram.Reach (getL f) x z) ∧
        (∀ z ∈ ws, z ∈ f.map (·.1) ∧ Gram.Reach (getL f) x z) ∧ (x ∈ ms ∨ x ∈ ws) ∧ (∀ z ∈ ms, ∀ y ∈ getL f z, y ∈ ms ∨ y ∈ ws) ∧ m = ws.length + wsum f ms ∧ m ≤ 1 + (f.map fun e => e.2.length).sum,
      ⟨_, [], [x], none, rfl, (Same.upd hd).trans (Same.upd hwl), by rw [upd_ne (Ne.symm ndw), upd_same]; rfl, upd_same, List.nodup_nil, fun z hz => (by cases hz), fun z hz => by
        rw [List.mem_singleton.mp hz]; exact ⟨hx, .refl⟩, .inr (List.mem_cons_self ..), fun z hz => (by cases hz), rfl, by have := wsum_le f []; simp only [List.length_singleton]; omega⟩, ?_⟩
    rintro m σ H1 ⟨ms, ws, o, rfl, s1, hd1, hw1, nd, so, sw, st, cl, rfl, hm⟩
    refine ⟨_, rfl, _, .inl ⟨_, SqL.of hw1, rfl⟩, ?_⟩
    have lenM : ms.length ≤ f.length := by
      have := Gram.nodup_len nd fun z hz => (so z hz).1
      rw [List.length_map] at this
      exact this
    rcases List.eq_nil_or_concat ws with rfl | ⟨wi, here, rfl⟩
    · refine iteF ?_
      refine ⟨_, rfl, d, ms, rfl, .inr (.inr ⟨_, hd1, kd_keys ms⟩), by omega, fun q hq => ?_⟩
      refine k q ms _ (s1.trans (Same.upd hq)) (s1.free hq) nd (fun z => ⟨fun h => (so z h).2, fun h => ?_⟩) upd_same
      refine Gram.reach_of_closed (st.resolve_right (by intro z; cases z)) (fun z hz y hy => (cl z hz y hy).resolve_right (by intro z; cases z)) h
    · have e0 : (!((wi.concat here).map V.str).isEmpty) = true := by simp
      rw [e0]
      refine iteT ?_
      have hw1 : H1 wl = some (.lst ((wi.map V.str) ++ [V.str here])) := by
        have := hw1
        unfold StrsAt at this
        rw [this]
        simp
      obtain ⟨hk, hre⟩ := sw here (by simp)
      have nwd : H1 wl ≠ H1 d := by rw [hw1, hd1]; intro z; cases z
      have hwld : wl ≠ d := ndw
      have s2 : Same H (upd H1 wl (.lst (wi.map V.str))) := s1.updS hwd
      have hd2 : upd H1 wl (.lst (wi.map V.str)) d = some (.dK (kd ms)) := by rw [upd_ne (Ne.symm hwld)]; exact hd1
      refine ⟨fun σ H2 => ∃ ms' ws' o, σ = [some (.ref a), some (.str x), some (.ref d), some (.ref wl), o] ∧ Same H H2 ∧ H2 d = some (.dK (kd ms')) ∧ StrsAt H2 wl ws' ∧ ms'.Nodup ∧ (∀ z ∈ ms', z ∈ f.map (·.1) ∧ Gram.Reach (getL f) x z) ∧
        (∀ z ∈ ws', z ∈ f.map (·.1) ∧ Gram.Reach (getL f) x z) ∧ (x ∈ ms' ∨ x ∈ ws') ∧ (∀ z ∈ ms', ∀ y ∈ getL f z, y ∈ ms' ∨ y ∈ ws') ∧ ws'.length + wsum f ms' + 1 = (wi.concat here).length + wsum f ms, ?_, ?_⟩
      · rintro σ' H' ⟨ms', ws', o', rfl, q1, q2, q3, q4, q5, q6, q7, q8, q9⟩
        exact ⟨_, by omega, ms', ws', o', rfl, q1, q2, q3, q4, q5, q6, q7, q8, rfl, by omega⟩
      refine ⟨_, rfl, .inl ⟨rfl, _, SqL.of hw1⟩, wl, _, V.str here, rfl, rfl, hw1, by simp, ?_⟩
      rw [List.dropLast_concat]
      refine ⟨_, rfl, _, rfl, d, _, rfl, DGet.k (k := Sum.inr here) hd2, _, rfl, ?_⟩
      rw [kd_val]
      by_cases hin : here ∈ ms
      · rw [if_pos hin]
        refine iteF ?_
        refine ⟨ms, wi, _, rfl, s2, hd2, upd_same, nd, so, fun z hz => sw z (by simp [hz]), ?_, fun z hz y hy => ?_, by simp; omega⟩
        · rcases st with z | z
          · exact .inl z
          · rcases mem_concat.mp z with q | q
            · exact .inr q
            · exact .inl (by rw [List.mem_singleton.mp q]; exact hin)
        · rcases cl z hz y hy with q | q
          · exact .inl q
          · rcases mem_concat.mp q with q | q
            · exact .inr q
            · exact .inl (by rw [List.mem_singleton.mp q]; exact hin)
      · rw [if_neg hin]
        refine iteT ?_
        refine ⟨_, rfl, _, rfl, d, _, rfl, DPut.k (k := Sum.inr here) hd2 (by unfold kd; rw [List.length_map]; exact small1000 (by omega)), ?_⟩
        rw [kd_put hin]
        have s3 : Same H (upd (upd H1 wl (.lst (wi.map V.str))) d (.dK (kd (ms ++ [here])))) := s2.updS hd
        have hw3 : upd (upd H1 wl (.lst (wi.map V.str))) d (.dK (kd (ms ++ [here]))) wl = some (.lst (wi.map V.str)) := by rw [upd_ne hwld, upd_same]
        obtain ⟨l, hg, hl⟩ := (hL.mono s3).get hk
        have hws := wsum_in (ms := ms) hf.nd hk hin
        have hgl : ∀ y ∈ getL f here, y ∈ f.map (·.1) ∧ Gram.Reach (getL f) x y := fun y hy => by
          refine ⟨?_, .step hre hy⟩
          obtain ⟨ys, e1, e2⟩ := lookup_keys hk
          unfold getL at hy
          rw [e1] at hy
          exact hf.cl _ e2 y hy
        refine ⟨_, rfl, .inl ⟨rfl, _, SqL.of hw3⟩, _, rfl, _, rfl, a, _, rfl, hg, wl, l, _, _, rfl, rfl, hw3, hl, ?_, ?_⟩
        · rw [List.length_map, List.length_map]
          have := hf.sz
          simp only [List.length_concat] at hm
          exact big_line (by omega)
        · refine ⟨ms ++ [here], wi ++ getL f here, _, rfl, s3.updS hwd, ?_, ?_, nd_snoc nd hin, fun z hz => ?_, fun z hz => ?_, ?_, fun z hz y hy => ?_, ?_⟩
          · rw [upd_ne (Ne.symm hwld), upd_same]
          · unfold StrsAt
            rw [upd_same, List.map_append]
          · rcases List.mem_append.mp hz with q | q
            · exact so z q
            · rw [List.mem_singleton.mp q]; exact ⟨hk, hre⟩
          · rcases List.mem_append.mp hz with q | q
            · exact sw z (by simp [q])
            · exact hgl z q
          · rcases st with z | z
            · exact .inl (List.mem_append_left _ z)
            · rcases mem_concat.mp z with q | q
              · exact .inr (List.mem_append_left _ q)
              · exact .inl (List.mem_append_right _ q)
          · rcases List.mem_append.mp hz with q | q
            · rcases cl z q y hy with r | r
              · exact .inl (List.mem_append_left _ r)
              · rcases mem_concat.mp r with r | r
                · exact .inr (List.mem_append_left _ r)
                · exact .inl (List.mem_append_right _ r)
            · rw [List.mem_singleton.mp q] at hy
              exact .inr (List.mem_append_right _ hy)
          · simp only [List.length_append, List.length_concat]
            omega
end
end Nw
namespace Nw
open PySem L2
open SL (onceS srt)
/-! ### a dict of lists that are being filled -/
abbrev KA := List (Str × Addr)
def kvsOf (ka : KA) : List (Key × V) := ka.map fun e => ((Sum.inr e.1 : Key), V.ref e.2)
/-- the places of the lists: new, apart -/
structure Ka (H : Hp) (d : Addr) (ka : KA) : Prop where
  ndk : (ka.map (·.1)).Nodup
  nda : (ka.map (·.2)).Nodup
  ne : ∀ e ∈ ka, e.2 ≠ d
  fr : ∀ e ∈ ka, H e.2 = none
  frd : H d = none
structure TabV (H : Hp) (d : Addr) (ka : KA) (v : Str → List Str) : Prop where
  dk : H d = some (.dK (kvsOf ka))
  at_ : ∀ e ∈ ka, H e.2 = some (.lst ((v e.1).map V.str))
theorem kvs_val : ∀ {ka : KA}, (ka.map (·.1)).Nodup → ∀ (x : Str), (¬ x ∈ ka.map (·.1) ∧ valV (kvsOf ka) (Sum.inr x : Key) = none) ∨ ∃ a, (x, a) ∈ ka ∧ valV (kvsOf ka) (Sum.inr x : Key) = some (.ref a)
  | [], _, x => .inl ⟨fun h => (by cases h), rfl⟩
  | (n, a) :: r, nd, x => by
    rw [List.map_cons, List.nodup_cons] at nd
    show _ ∨ ∃ a', (x, a') ∈ (n, a) :: r ∧ valV (((Sum.inr n : Key), V.ref a) :: kvsOf r) (Sum.inr x) = some (.ref a')
    by_cases q : n = x
    · subst q
      exact .inr ⟨a, List.mem_cons_self .., valV_pos rfl⟩
    · have e : valV (((Sum.inr n : Key), V.ref a) :: kvsOf r) (Sum.inr x : Key) = valV (kvsOf r) (Sum.inr x : Key) := valV_neg fun z => q (Sum.inr.inj z)
      rcases kvs_val nd.2 x with ⟨h1, h2⟩ | ⟨a', h1, h2⟩
      · left
        refine ⟨fun z => ?_, by show valV (((Sum.inr n : Key), V.ref a) :: kvsOf r) (Sum.inr x) = none; rw [e]; exact h2⟩
        rcases List.mem_cons.mp z with z | z
        · exact q z.symm
        · exact h1 z
      · right
        exact ⟨a', List.mem_cons_of_mem _ h1, by rw [e]; exact h2⟩
theorem TabV.get {H H0 : Hp} {d : Addr} {ka : KA} {v : Str → List Str} (h : TabV H d ka v) (g : Ka H0 d ka) {x : Str} (hx : x ∈ ka.map (·.1)) : ∃ a, (x, a) ∈ ka ∧ DGet H d (.str x) (some (.ref a)) ∧ H a = some (.lst ((v x).map V.str)) := by
  rcases kvs_val g.ndk x with ⟨z, _⟩ | ⟨a, h1, h2⟩
  · exact absurd hx z
  · exact ⟨a, h1, .inl ⟨_, Sum.inr x, .inl h.dk, rfl, h2.symm⟩, h.at_ _ h1⟩
theorem TabV.has {H H0 : Hp} {d : Addr} {ka : KA} {v : Str → List Str} (h : TabV H d ka v) (g : Ka H0 d ka) (x : Str) : ∃ o, DGet H d (.str x) o ∧ o.isSome = decide (x ∈ ka.map (·.1)) := by
  refine ⟨_, DGet.k (k := Sum.inr x) h.dk, ?_⟩
  rcases kvs_val g.ndk x with ⟨z, h2⟩ | ⟨a, h1, h2⟩
  · rw [h2, decide_eq_false z]; rfl
  · rw [h2, decide_eq_true (List.mem_map.mpr ⟨_, h1, rfl⟩)]; rfl
/-- what lies elsewhere is changed -/
theorem TabV.keep {H H' : Hp} {d : Addr} {ka : KA} {v : Str → List Str} (h : TabV H d ka v) (k : Same H H') : TabV H' d ka v := ⟨k _ _ h.dk, fun e he => k _ _ (h.at_ e he)⟩
theorem TabV.congr {H : Hp} {d : Addr} {ka : KA} {v v' : Str → List Str} (h : TabV H d ka v) (e : ∀ x ∈ ka.map (·.1), v x = v' x) : TabV H d ka v' :=
  ⟨h.dk, fun y hy => by rw [← e y.1 (List.mem_map.mpr ⟨y, hy, rfl⟩)]; exact h.at_ y hy⟩
theorem addr_inj : ∀ {ka : KA}, (ka.map (·.2)).Nodup → ∀ {x y : Str} {a : Addr}, (x, a) ∈ ka → (y, a) ∈ ka → x = y
  | [], _, _, _, _, h, _ => by cases h
  | (n, b) :: r, nd, x, y, a, h1, h2 => by
    rw [List.map_cons, List.nodup_cons] at nd
    rcases List.mem_cons.mp h1 with e1 | e1
    · rcases List.mem_cons.mp h2 with e2 | e2
      · cases e1; cases e2; rfl
      · cases e1
        exact absurd (List.mem_map.mpr ⟨_, e2, rfl⟩) nd.1
    · rcases List.mem_cons.mp h2 with e2 | e2
      · cases e2
        exact absurd (List.mem_map.mpr ⟨_, e1, rfl⟩) nd.1
      · exact addr_inj nd.2 e1 e2
/-- the list at x grows -/
theorem TabV.app {H H0 : Hp} {d : Addr} {ka : KA} {v : Str → List Str} (h : TabV H d ka v) (g : Ka H0 d ka) {x : Str} {a : Addr} (ha : (x, a) ∈ ka) (more : List Str) :
    TabV (upd H a (.lst ((v x ++ more).map V.str))) d ka (fun y => if y = x then v x ++ more else v y) := by
  refine ⟨by rw [upd_ne (Ne.symm (g.ne _ ha))]; exact h.dk, fun e he => ?_⟩
  obtain ⟨y, b⟩ := e
  by_cases q : b = a
  · subst q
    have : y = x := addr_inj g.nda he ha
    subst this
    rw [upd_same, if_pos rfl]
  · rw [upd_ne q]
    have : y ≠ x := fun z => by
      subst z
      apply q
      have key : ∀ {ka : KA}, (ka.map (·.1)).Nodup → ∀ {y : Str} {a b : Addr}, (y, a) ∈ ka → (y, b) ∈ ka → b = a := by
        intro ka
        induction ka with
        | nil => intro _ y a b h; cases h
        | cons p r ih =>
          intro nd y a b h1 h2
          rw [List.map_cons, List.nodup_cons] at nd
          rcases List.mem_cons.mp h1 with e1 | e1
          · rcases List.mem_cons.mp h2 with e2 | e2
            · rw [← e1] at e2; exact (Prod.mk.inj e2).2
            · exact absurd (List.mem_map.mpr ⟨_, e2, by rw [← e1]⟩) nd.1
          · rcases List.mem_cons.mp h2 with e2 | e2
            · exact absurd (List.mem_map.mpr ⟨_, e1, by rw [← e2]⟩) nd.1
            · exact ih nd.2 e1 e2
      exact key g.ndk ha he
    show H b = some (.lst ((if y = x then v x ++ more else v y).map V.str))
    rw [if_neg this]
    exact h.at_ _ he
/-- one more, empty list -/
theorem TabV.new {H H0 : Hp} {d p : Addr} {ka : KA} {v : Str → List Str} {x : Str} (h : TabV H d ka v) (g : Ka H0 d ka) (hx : ¬ x ∈ ka.map (·.1)) (hp : H p = none) (hv : v x = []) :
    TabV (upd (upd H p (.lst [])) d (.dK (putK (kvsOf ka) (Sum.inr x : Key) (.ref p)))) d (ka ++ [(x, p)]) v := by
  have hpd : p ≠ d := fun z => by rw [z, h.dk] at hp; cases hp
  refine ⟨?_, fun e he => ?_⟩
  · rw [upd_same]
    congr 2
    rw [putK_new]
    · unfold kvsOf; rw [List.map_append]; rfl
    · rcases kvs_val g.ndk x with ⟨_, h2⟩ | ⟨a, h1, _⟩
      · exact h2
      · exact absurd (List.mem_map.mpr ⟨_, h1, rfl⟩) hx
  · rcases List.mem_append.mp he with q | q
    · have : e.2 ≠ p := fun z => by rw [← z, h.at_ e q] at hp; cases hp
      rw [upd_ne (g.ne e q), upd_ne this]
      exact h.at_ e q
    · rw [List.mem_singleton.mp q]
      show upd (upd H p (.lst [])) d _ p = _
      rw [upd_ne hpd, upd_same]
      show _ = some (HO.lst ((v x).map V.str))
      rw [hv]; rfl
theorem Ka.new {H0 H : Hp} {d p : Addr} {ka : KA} {x : Str} (g : Ka H0 d ka) (hx : ¬ x ∈ ka.map (·.1)) (hp0 : H0 p = none) (hpd : p ≠ d) (hpa : ¬ p ∈ ka.map (·.2)) : Ka H0 d (ka ++ [(x, p)]) where
  ndk := by rw [List.map_append]; exact nd_snoc g.ndk hx
  nda := by rw [List.map_append]; exact nd_snoc g.nda hpa
  ne := fun e he => by
    rcases List.mem_append.mp he with q | q
    · exact g.ne e q
    · rw [List.mem_singleton.mp q]; exact hpd
  fr := fun e he => by
    rcases List.mem_append.mp he with q | q
    · exact g.fr e q
    · rw [List.mem_singleton.mp q]; exact hp0
  frd := g.frd
def tabOf (ka : KA) (v : Str → List Str) : Tab := ka.map fun e => (e.1, v e.1)
theorem tabOf_keys (ka : KA) (v : Str → List Str) : (tabOf ka v).map (·.1) = ka.map (·.1) := by unfold tabOf; rw [List.map_map]; rfl
theorem TabV.dictL {H : Hp} {d : Addr} {ka : KA} {v : Str → List Str} (h : TabV H d ka v) : DictL H d (tabOf ka v) := by
  refine ⟨kvsOf ka, .inl h.dk, ?_⟩
  have : ∀ (l : KA), (∀ e ∈ l, H e.2 = some (.lst ((v e.1).map V.str))) → Paired (EntAt H) (kvsOf l) (tabOf l v) := by
    intro l
    induction l with
    | nil => intro _; exact .nil
    | cons e r ih => intro q; exact .cons ⟨rfl, e.2, rfl, q e (List.mem_cons_self ..)⟩ (ih fun z hz => q z (List.mem_cons_of_mem _ hz))
  exact this ka h.at_
theorem getL_tabOf (v : Str → List Str) (x : Str) : ∀ (ka : KA), getL (tabOf ka v) x = if x ∈ ka.map (·.1) then v x else []
  | [] => rfl
  | (n, a) :: r => by
    have ih := getL_tabOf v x r
    unfold getL tabOf at ih ⊢
    rw [List.map_cons, List.lookup_cons, List.map_cons]
    cases e : x == n with
    | true =>
      have e := eq_of_beq e
      subst e
      simp
    | false =>
      have : x ≠ n := fun z => by rw [z] at e; simp at e
      dsimp only
      rw [ih]
      by_cases q : x ∈ r.map (·.1)
      · rw [if_pos q, if_pos (List.mem_cons_of_mem _ q)]
      · rw [if_neg q, if_neg fun z => (List.mem_cons.mp z).elim this q]
theorem sum_tabOf {ka : KA} {v : Str → List Str} {b : Nat} (h : ∀ e ∈ ka, (v e.1).length ≤ b) : ((tabOf ka v).map fun e => e.2.length).sum ≤ b * ka.length := by
  induction ka with
  | nil => simp [tabOf]
  | cons e r ih =>
    have h1 := h e (List.mem_cons_self ..)
    have h2 := ih fun z hz => h z (List.mem_cons_of_mem _ hz)
    unfold tabOf at h2 ⊢
    rw [List.map_cons, List.map_cons, List.sum_cons, List.length_cons]
    show (v e.1).length + _ ≤ _
    rw [Nat.mul_succ]
    omega
end Nw
namespace Nw
open PySem L2
open SL (onceS srt)
/-- the sorts in order -/
def sortsIn (R : List Row) : List Str := srt (onceS (R.map (·.1)))
theorem mem_sortsIn {R : List Row} {x : Str} : x ∈ sortsIn R ↔ x ∈ R.map (·.1) := by unfold sortsIn; rw [SL.mem_srt, SL.mem_onceS]
theorem nd_sortsIn (R : List Row) : (sortsIn R).Nodup := SL.nodup_srt (SL.nodup_onceS _)
theorem len_sortsIn (R : List Row) : (sortsIn R).length ≤ R.length := by
  unfold sortsIn
  rw [SL.len_srt]
  have := SL.len_onceS (R.map (·.1))
  rw [List.length_map] at this
  exact this
theorem addr_ne {H : Hp} {d : Addr} {ka : KA} {v : Str → List Str} (h : TabV H d ka v) {p : Addr} (hp : H p = none) : ¬ p ∈ ka.map (·.2) := fun z => by
  obtain ⟨e, he, rfl⟩ := List.mem_map.mp z
  rw [h.at_ e he] at hp
  cases hp
theorem ka_mem {ka : KA} {ss : List Str} {i : Nat} {x : Str} (hk : ka.map (·.1) = ss.take i) (nd : ss.Nodup) (hx : ss[i]? = some x) : ¬ x ∈ ka.map (·.1) := by
  rw [hk]
  intro z
  obtain ⟨j, hj⟩ := List.mem_iff_getElem?.mp z
  rw [List.getElem?_take] at hj
  split at hj
  · rename_i hlt
    have := nodup_ix nd hj hx
    omega
  · cases hj
theorem strs_get {ss : List Str} {i : Nat} {x : V} (hx : (ss.map V.str)[i]? = some x) : ∃ y, ss[i]? = some y ∧ x = .str y := by
  rw [List.getElem?_map] at hx
  cases e : ss[i]? with
  | none => rw [e] at hx; cases hx
  | some sg => rw [e] at hx; exact ⟨sg, rfl, (Option.some.inj hx).symm⟩
abbrev sLists : Stmt := top 15
theorem scLists : FnScope ["rows", "lists", "sort"] ["rows"] (defScope sLists) := ⟨rfl, rfl, rfl, by decide +kernel, rfl, by decide +kernel, by decide +kernel⟩
def spLists : Sp := fun vs H Q _ => ∃ (a : Addr) (R : List Row), vs = [.ref a] ∧ RowsAt H a R ∧ Small R ∧ ∀ d ka H', Same H H' → Ka H d ka → ka.map (·.1) = sortsIn R → TabV H' d ka (fun _ => []) → Q (.ref d) H'
/-- the links of all signs of the rows -/
def rl (R : List Row) (x : Str) : List Str := R.flatMap fun p => if p.1 = x then p.2.filter (fun s => decide (s ∈ R.map (·.1))) else []
theorem mem_rl {R : List Row} {x y : Str} : y ∈ rl R x ↔ ∃ r, (x, r) ∈ R ∧ y ∈ r ∧ y ∈ R.map (·.1) := by
  unfold rl
  rw [List.mem_flatMap]
  constructor
  · rintro ⟨⟨l, r⟩, hm, h⟩
    split at h
    · rename_i e
      have e : l = x := e
      subst e
      obtain ⟨h1, h2⟩ := List.mem_filter.mp h
      exact ⟨r, hm, h1, of_decide_eq_true h2⟩
    · cases h
  · rintro ⟨r, hm, h1, h2⟩
    refine ⟨(x, r), hm, ?_⟩
    rw [if_pos rfl]
    exact List.mem_filter.mpr ⟨h1, decide_eq_true h2⟩
theorem flatif_len {R : List Row} {x : Str} {g : List Str → List Str} (hg : ∀ r, (g r).length ≤ r.length) (hw : ∀ p ∈ R, p.2.length ≤ 20) : (R.flatMap fun p => if p.1 = x then g p.2 else []).length ≤ 20 * R.length := by
  induction R with
  | nil => simp
  | cons p r ih =>
    have h1 := ih fun q hq => hw q (List.mem_cons_of_mem _ hq)
    have h2 := hw p (List.mem_cons_self ..)
    have h3 := hg p.2
    rw [List.flatMap_cons, List.length_append, List.length_cons]
    split
    · omega
    · rw [List.length_nil]; omega
abbrev sTrees : Stmt := top 10
theorem scTrees : FnScope ["rows", "links", "sort", "left", "right"] ["rows"] (defScope sTrees) := ⟨rfl, rfl, rfl, by decide +kernel, rfl, by decide +kernel, by decide +kernel⟩
def spTrees : Sp := fun vs H Q _ => ∃ (a : Addr) (p : Row) (R : List Row), vs = [.ref a] ∧ RowsAt H a (p :: R) ∧ Small (p :: R) ∧ ∀ q ms H', Same H H' → H q = none → ms.Nodup → (∀ z, z ∈ ms ↔ Gram.Reach (rl (p :: R)) p.1 z) → StrsAt H' q (srt ms) → Q (.ref q) H'
section
variable {P : Program} {w : World} {K : PySem.W.Frag} {mg : Str → Option Value} {base : Heap}
theorem ok_lists {f : Addr} {fd : FuncData} (F : Fun K "lists_by_sort" "lists_by_sort" sLists f fd) (T : Txt mg) (D1 : Def P w K mg base "sorts_of" 1 ["rows"] spSortsOf) : FnOk P w K mg base CX0 2 f fd ["rows"] spLists := by
  refine F.ok scLists (fun vs H Q E h => ?_) (fun cdv A outer s H vs Q E hr h => ?_)
  · obtain ⟨a, R, rfl, _⟩ := h
    rfl
  · obtain ⟨a, R, rfl, hR, hsm, k⟩ := h
    have hu := hu_of hr
    refine ⟨_, pss_cons (ps_set (i := 1) scLists.nd rfl (Or.inl rfl) pe_dnewK)
      (pss_cons (ps_for PassesOwn.never rfl (pi_list (pe_def D1 hr (by rfl) (pa_cons (pv 0) pa_nil))) (pg_name (i := 2) scLists.nd rfl (Or.inl rfl))
        (pss_one (ps_dput hu (pv 1) (pv 2) (pe_lst pa_nil) rfl)))
      (pss_one (ps_ret (pv 1)))), ?_⟩
    intro d hd
    have hl14 := len_sortsIn R
    have hR14 := hsm.len
    refine ⟨_, rfl, a, R, rfl, hR.mono (Same.upd hd), hsm, fun q H1 s1 n1 hS => ?_⟩
    have hS : H1 q = some (.lst ((sortsIn R).map V.str)) := hS
    have s01 : Same H H1 := (Same.upd hd).trans s1
    have hqd : q ≠ d := fun z => by rw [z, upd_same] at n1; cases n1
    refine ⟨q, rfl, ⟨_, SqL.of hS⟩, for_list (K := K) (a := q) (xs := (sortsIn R).map V.str)
      (fun i σ H2 => ∃ ka o, σ = [some (.ref a), some (.ref d), o] ∧ Same H H2 ∧ H2 q = some (.lst ((sortsIn R).map V.str)) ∧ Ka H d ka ∧ ka.map (·.1) = (sortsIn R).take i ∧ TabV H2 d ka (fun _ => []))
      ⟨[], none, rfl, s01, hS, ⟨List.nodup_nil, List.nodup_nil, fun e he => (by cases he), fun e he => (by cases he), hd⟩, rfl, ⟨s1 _ _ upd_same, fun e he => (by cases he)⟩⟩ ?_ ?_ ?_⟩
    · rintro i σ H2 _ ⟨_, _, _, _, h, _⟩
      exact SqL.of h
    · rintro i x σ H2 hx ⟨ka, o, rfl, s2, hq2, gk, hk, tv⟩
      obtain ⟨y, hy, rfl⟩ := strs_get hx
      have hny := ka_mem hk (nd_sortsIn R) hy
      refine ⟨by decide, fun p hp => ?_⟩
      have hpd : p ≠ d := fun z => by rw [z, tv.dk] at hp; cases hp
      have hpq : p ≠ q := fun z => by rw [z, hq2] at hp; cases hp
      have hp0 : H p = none := s2.free hp
      have hkl : ka.length ≤ 14 := by
        have := congrArg List.length hk
        rw [List.length_map, List.length_take] at this
        omega
      refine ⟨_, rfl, _, rfl, d, _, rfl, DPut.k (k := Sum.inr y) (kvs := kvsOf ka) (by rw [upd_ne (Ne.symm hpd)]; exact tv.dk) (by unfold kvsOf; rw [List.length_map]; exact small1000 (by omega)), ?_⟩
      refine ⟨ka ++ [(y, p)], _, rfl, (s2.trans (Same.upd hp)).updS hd, ?_, gk.new (H := H2) hny hp0 hpd (addr_ne tv hp), ?_, tv.new gk hny hp rfl⟩
      · rw [upd_ne hqd, upd_ne (Ne.symm hpq)]
        exact hq2
      · rw [List.map_append, hk, List.take_succ, hy]
        rfl
    · rintro σ H2 ⟨ka, o, rfl, s2, hq2, gk, hk, tv⟩
      rw [List.length_map, List.take_length] at hk
      exact ⟨_, rfl, k d ka H2 s2 gk hk tv⟩
theorem ok_trees {f : Addr} {fd : FuncData} (F : Fun K "sorts_in_trees_of_lines" "sorts_in_trees_of_lines" sTrees f fd) (T : Txt mg) (D1 : Def P w K mg base "sorts_of" 1 ["rows"] spSortsOf) (D2 : Def P w K mg base "sorts_reached" 1 ["links", "sort"] spReach)
    (D3 : Def P w K mg base "first_sort" 1 ["rows"] spFirst) : FnOk P w K mg base CX0 2 f fd ["rows"] spTrees := by
  refine F.ok scTrees (fun vs H Q E h => ?_) (fun cdv A outer s H vs Q E hr h => ?_)
  · obtain ⟨a, p, R, rfl, _⟩ := h
    rfl
  · obtain ⟨a, p0, R0, rfl, hR, hsm, k⟩ := h
    have hu := hu_of hr
    refine ⟨_, pss_cons (ps_set (i := 1) scTrees.nd rfl (Or.inr rfl) pe_dnewK)
      (pss_cons (ps_for PassesOwn.never rfl (pi_list (pe_def D1 hr (by rfl) (pa_cons (pv 0) pa_nil))) (pg_name (i := 2) scTrees.nd rfl (Or.inl rfl))
        (pss_one (ps_dput hu (pv 1) (pv 2) (pe_lst pa_nil) rfl)))
      (pss_cons (ps_for PassesOwn.never rfl (pi_list (pv 0)) (pg_tup (n := 2) rfl (pgs_cons (pg_name (i := 3) scTrees.nd rfl (Or.inl rfl)) (pgs_cons (pg_name (i := 4) scTrees.nd rfl (Or.inl rfl)) pgs_nil)))
        (pss_one (ps_expr (pe_bm PySem.F.plainAttrs_list PySem.F.slot_list_extend PySem.F.type_list_extend mt_extend (pe_dget hu (pv 1) (pv 3) (fun _ _ => rfl)) (pa_cons
          (pe_comp (CompIn.free (N := ["sign", "links"]) (sel := [none, some 1]) ["links"] (by rfl) (by rfl) (by rfl) ?c1 ?c2 ?c3 ?c4 (by rfl) ?c5) rfl (pi_list (pv 4)) (fun s₃ H₃ fp => pg_name (i := 0) (show (["sign", "links"] : List Str).Nodup by decide) rfl (Or.inl rfl))
            (fun s₃ H₃ fp => pif_one (pt_cmp (pc_din (X := cxIn _ _ _ _ _ _ _) hu (pv 0) (pv 1)))) (fun s₃ H₃ fp => pv 0)) pa_nil)))))
      (pss_one (ps_ret (pe_def D2 hr (by rfl) (pa_cons (pv 1) (pa_cons (pe_def D3 hr (by rfl) (pa_cons (pv 0) pa_nil)) pa_nil))))))), ?_⟩
    case c1 => decide
    case c2 => decide
    case c3 =>
      intro x hx
      rcases List.mem_cons.mp hx with rfl | hx
      · exact ⟨rfl, rfl, _, rfl, rfl⟩
      · cases hx
    case c4 =>
      intro y hy
      rcases List.mem_cons.mp hy with rfl | hy
      · exact List.mem_cons_self ..
      · cases hy
    case c5 =>
      intro j i h
      rcases j with _ | _ | j
      · cases h
      · cases h; exact ⟨"links", List.mem_cons_self .., rfl, rfl⟩
      · cases h
    generalize hRR : p0 :: R0 = R at hR hsm k
    intro d hd
    have hl14 := len_sortsIn R
    have hR14 := hsm.len
    refine ⟨_, rfl, a, R, rfl, hR.mono (Same.upd hd), hsm, fun q H1 s1 n1 hS => ?_⟩
    have hS : H1 q = some (.lst ((sortsIn R).map V.str)) := hS
    have s01 : Same H H1 := (Same.upd hd).trans s1
    have hqd : q ≠ d := fun z => by rw [z, upd_same] at n1; cases n1
    refine ⟨q, rfl, ⟨_, SqL.of hS⟩, for_list (K := K) (a := q) (xs := (sortsIn R).map V.str)
      (fun i σ H2 => ∃ ka o, σ = [some (.ref a), some (.ref d), o, none, none] ∧ Same H H2 ∧ H2 q = some (.lst ((sortsIn R).map V.str)) ∧ Ka H d ka ∧ ka.map (·.1) = (sortsIn R).take i ∧ TabV H2 d ka (fun _ => []))
      ⟨[], none, rfl, s01, hS, ⟨List.nodup_nil, List.nodup_nil, fun e he => (by cases he), fun e he => (by cases he), hd⟩, rfl, ⟨s1 _ _ upd_same, fun e he => (by cases he)⟩⟩ ?_ ?_ ?_⟩
    · rintro i σ H2 _ ⟨_, _, _, _, h, _⟩
      exact SqL.of h
    · rintro i x σ H2 hx ⟨ka, o, rfl, s2, hq2, gk, hk, tv⟩
      obtain ⟨y, hy, rfl⟩ := strs_get hx
      have hny := ka_mem hk (nd_sortsIn R) hy
      refine ⟨by decide, fun p hp => ?_⟩
      have hpd : p ≠ d := fun z => by rw [z, tv.dk] at hp; cases hp
      have hpq : p ≠ q := fun z => by rw [z, hq2] at hp; cases hp
      have hp0 : H p = none := s2.free hp
      have hkl : ka.length ≤ 14 := by
        have := congrArg List.length hk
        rw [List.length_map, List.length_take] at this
        omega
      refine ⟨_, rfl, _, rfl, d, _, rfl, DPut.k (k := Sum.inr y) (kvs := kvsOf ka) (by rw [upd_ne (Ne.symm hpd)]; exact tv.dk) (by unfold kvsOf; rw [List.length_map]; exact small1000 (by omega)), ?_⟩
      refine ⟨ka ++ [(y, p)], _, rfl, (s2.trans (Same.upd hp)).updS hd, ?_, gk.new (H := H2) hny hp0 hpd (addr_ne tv hp), ?_, tv.new gk hny hp rfl⟩
      · rw [upd_ne hqd, upd_ne (Ne.symm hpq)]
        exact hq2
      · rw [List.map_append, hk, List.take_succ, hy]
        rfl
    · rintro σ H2 ⟨ka, o, rfl, s2, hq2, gk, hk, tv⟩
      rw [List.length_map, List.take_length] at hk
      have hkm : ∀ x, x ∈ ka.map (·.1) ↔ x ∈ R.map (·.1) := fun x => by rw [hk, mem_sortsIn]
      obtain ⟨vs, hv, hp⟩ := id hR
      have hlen : vs.length = R.length := Paired.length hp
      refine ⟨_, rfl, a, rfl, ⟨_, s2.seq (SqL.of hv)⟩, for_list (K := K) (a := a) (xs := vs)
        (fun i σ H3 => ∃ o1 o2 o3, σ = [some (.ref a), some (.ref d), o1, o2, o3] ∧ Same H H3 ∧ TabV H3 d ka (fun x => (R.take i).flatMap fun p => if p.1 = x then p.2.filter (fun s => decide (s ∈ R.map (·.1))) else []))
        ⟨_, _, _, rfl, s2, tv⟩ ?_ ?_ ?_⟩
      · rintro i σ H3 _ ⟨_, _, _, _, s3, _⟩
        exact s3.seq (SqL.of hv)
      · rintro i x σ H3 hx ⟨o1, o2, o3, rfl, s3, tv3⟩
        obtain ⟨p, t, c, hpi, rfl, ht, hc⟩ := rowAt_get hp hx
        have hpm : (p.1, p.2) ∈ R := List.mem_of_getElem? hpi
        have hpw := hsm.wid p hpm
        have hil : i < R.length := (List.getElem?_eq_some_iff.mp hpi).1
        have hpk : p.1 ∈ ka.map (·.1) := (hkm _).mpr (List.mem_map.mpr ⟨_, hpm, rfl⟩)
        obtain ⟨al, hal, hg, hll⟩ := tv3.get gk hpk
        refine ⟨t, _, rfl, SqT.of (s3 _ _ ht), rfl, _, _, rfl, _, _, rfl, rfl, ?_⟩
        have hc3 : H3 c = some (.lst (p.2.map V.str)) := s3 _ _ hc
        refine ⟨_, rfl, _, rfl, d, _, rfl, hg, .inl ⟨rfl, _, SqL.of hll⟩, _, rfl, c, rfl, ⟨_, SqL.of hc3⟩, fun D hD => comp_listT (K := K) (xs := p.2.map V.str)
          (fun i τ H4 => (∃ o, τ = [o, some (.ref d)]) ∧ H4 = upd H3 D (.lst (((p.2.take i).filter (fun s => decide (s ∈ R.map (·.1)))).map V.str))) ⟨⟨_, rfl⟩, rfl⟩ ?_ ?_ ?_⟩
        · rintro i τ H4 ⟨_, rfl⟩
          exact (Same.upd hD).seq (SqL.of hc3)
        · rintro j x τ H4 hx ⟨⟨o, rfl⟩, rfl⟩
          obtain ⟨y, hy, rfl⟩ := strs_get hx
          have sD := Same.upd (o := HO.lst (((p.2.take j).filter (fun s => decide (s ∈ R.map (·.1)))).map V.str)) hD
          obtain ⟨o', g', ho'⟩ := (tv3.keep sD).has gk y
          refine ⟨_, rfl, _, rfl, d, o', rfl, g', _, rfl, ?_⟩
          rw [ho']
          have hjl : j < p.2.length := (List.getElem?_eq_some_iff.mp hy).1
          have hle : ((p.2.take j).filter (fun s => decide (s ∈ R.map (·.1)))).length ≤ p.2.length := Nat.le_trans (List.length_filter_le _ _) (by rw [List.length_take]; omega)
          by_cases hyk : y ∈ R.map (·.1)
          · rw [decide_eq_true ((hkm y).mpr hyk)]
            refine iteT ⟨_, rfl, _, upd_same, by rw [List.length_map]; exact small1000 (by omega), ⟨_, rfl⟩, ?_⟩
            rw [upd_upd, List.take_succ, hy, List.filter_append, List.map_append]
            have : (some y).toList.filter (fun s => decide (s ∈ R.map (·.1))) = [y] := by
              show List.filter (fun s => decide (s ∈ R.map (·.1))) [y] = [y]
              rw [List.filter_cons, if_pos (decide_eq_true hyk)]
              rfl
            rw [this]
            rfl
          · rw [decide_eq_false fun z => hyk ((hkm y).mp z)]
            refine iteF ⟨⟨_, rfl⟩, ?_⟩
            rw [List.take_succ, hy, List.filter_append]
            have : (some y).toList.filter (fun s => decide (s ∈ R.map (·.1))) = [] := by
              show List.filter (fun s => decide (s ∈ R.map (·.1))) [y] = []
              rw [List.filter_cons, if_neg (by rw [decide_eq_false hyk]; decide)]
              rfl
            rw [this, List.append_nil]
        · rintro τ H4 ⟨_, rfl⟩
          rw [List.length_map, List.take_length]
          have sD := Same.upd (o := HO.lst ((p.2.filter (fun s => decide (s ∈ R.map (·.1)))).map V.str)) hD
          have hll4 := sD _ _ hll
          have hfl := List.length_filter_le (fun s => decide (s ∈ R.map (·.1))) p.2
          refine ⟨al, D, _, _, rfl, rfl, hll4, upd_same, ?_, ⟨_, _, _, rfl, (s3.trans sD).updS (gk.fr _ hal), ?_⟩⟩
          · rw [List.length_map, List.length_map]
            have := flatif_len (R := R.take i) (x := p.1) (g := fun r => r.filter (fun s => decide (s ∈ R.map (·.1)))) (fun r => List.length_filter_le _ _) fun q hq => hsm.wid q (List.mem_of_mem_take hq)
            rw [List.length_take] at this
            exact Nat.le_of_lt (small1000 (by omega))
          · have := (tv3.keep sD).app gk hal (p.2.filter (fun s => decide (s ∈ R.map (·.1))))
            rw [← List.map_append]
            refine this.congr fun y hy => ?_
            rw [List.take_succ, hpi, List.flatMap_append]
            by_cases q : y = p.1
            · subst q
              rw [if_pos rfl]
              show _ = _ ++ ((if p.1 = p.1 then p.2.filter (fun s => decide (s ∈ R.map (·.1))) else []) ++ [])
              rw [if_pos rfl, List.append_nil]
            · rw [if_neg q]
              show _ = _ ++ ((if p.1 = y then p.2.filter (fun s => decide (s ∈ R.map (·.1))) else []) ++ [])
              rw [if_neg fun z => q z.symm, List.append_nil, List.append_nil]
      · rintro σ H3 ⟨o1, o2, o3, rfl, s3, tv3⟩
        rw [hlen, List.take_length] at tv3
        have tv3 : TabV H3 d ka (rl R) := tv3
        have hg : ∀ x, getL (tabOf ka (rl R)) x = rl R x := fun x => by
          rw [getL_tabOf]
          by_cases q : x ∈ ka.map (·.1)
          · rw [if_pos q]
          · rw [if_neg q]
            symm
            apply List.eq_nil_iff_forall_not_mem.mpr
            intro y hy
            obtain ⟨r, hm, _⟩ := mem_rl.mp hy
            exact q ((hkm x).mpr (List.mem_map.mpr ⟨_, hm, rfl⟩))
        subst hRR
        refine ⟨_, rfl, _, rfl, a, p0, R0, rfl, hR.mono s3, ?_⟩
        refine ⟨d, p0.1, tabOf ka (rl (p0 :: R0)), rfl, tv3.dictL, ⟨?_, ?_, ?_, ?_⟩, ?_, ?_⟩
        · rw [tabOf_keys]; exact gk.ndk
        · intro e he y hy
          rw [tabOf_keys, hkm]
          unfold tabOf at he
          obtain ⟨z, hz, rfl⟩ := List.mem_map.mp he
          obtain ⟨r, _, _, h⟩ := mem_rl.mp hy
          exact h
        · have := congrArg List.length (tabOf_keys ka (rl (p0 :: R0)))
          have h2 := congrArg List.length hk
          rw [List.length_map, List.length_map] at this
          rw [List.length_map] at h2
          omega
        · have := sum_tabOf (ka := ka) (v := rl (p0 :: R0)) (b := 280) fun e he => by
            have := flatif_len (R := p0 :: R0) (x := e.1) (g := fun r => r.filter (fun s => decide (s ∈ (p0 :: R0).map (·.1)))) (fun r => List.length_filter_le _ _) hsm.wid
            unfold rl
            omega
          have h2 := congrArg List.length hk
          rw [List.length_map] at h2
          have : 280 * ka.length ≤ 280 * 14 := Nat.mul_le_mul_left _ (by omega)
          omega
        · rw [tabOf_keys, hkm]
          exact List.mem_cons_self ..
        · intro q5 ms H5 s5 n5 nd5 hm5 hS5
          refine k q5 ms H5 (s3.trans s5) (s3.free n5) nd5 (fun z => ?_) hS5
          rw [hm5 z]
          exact ⟨fun h => h.congr fun x y hy => by rw [hg] at hy; exact hy, fun h => h.congr fun x y hy => by rw [hg]; exact hy⟩
end
end Nw
namespace Nw
open PySem L2
open SL (onceS srt)
/-- a word of the rows -/
def Word (R : List Row) (z : Str) : Prop := (∃ p ∈ R, z ∈ p.2) ∧ ¬ z ∈ R.map (·.1)
def fstOf : List Row → Str
  | p :: _ => p.1
  | [] => Str.empty
/-- rows that are not refused -/
structure Good (R : List Row) : Prop where
  small : Small R
  made : ∀ x ∈ R.map (·.1), Gram.Made R (Word R) x
  reach : ∀ x ∈ R.map (·.1), Gram.Reach (rl R) (fstOf R) x
abbrev sCheck : Stmt := top 11
theorem scCheck : FnScope ["rows", "ended", "sort", "used"] ["rows"] (defScope sCheck) := ⟨rfl, rfl, rfl, by decide +kernel, rfl, by decide +kernel, by decide +kernel⟩
def spCheck : Sp := fun vs H Q _ => ∃ (a : Addr) (R : List Row), vs = [.ref a] ∧ RowsAt H a R ∧ Good R ∧ ∀ H', Same H H' → Q .non H'
abbrev sEmpty : Stmt := top 13
theorem scEmpty : FnScope ["rows"] ["rows"] (defScope sEmpty) := ⟨rfl, rfl, rfl, by decide +kernel, rfl, by decide +kernel, by decide +kernel⟩
def spEmpty : Sp := fun vs H Q _ => ∃ (a : Addr) (R : List Row), vs = [.ref a] ∧ RowsAt H a R ∧ Good R ∧ ∀ q ms H', Same H H' → H q = none → ms.Nodup → (∀ z, z ∈ ms ↔ Gram.Made R (fun _ => False) z) → StrsAt H' q (srt ms) → Q (.ref q) H'
abbrev sLead : Stmt := top 16
theorem scLead : FnScope ["signs", "empties", "leading", "sign"] ["signs", "empties"] (defScope sLead) := ⟨rfl, rfl, rfl, by decide +kernel, rfl, by decide +kernel, by decide +kernel⟩
def spLead : Sp := fun vs H Q _ => ∃ (a b : Addr) (r es : List Str), vs = [.ref a, .ref b] ∧ StrsAt H a r ∧ StrsAt H b es ∧ r.length ≤ 900 ∧ ∀ q H', Same H H' → H q = none → StrsAt H' q (Gram.lead es r) → Q (.ref q) H'
theorem lead_stop : ∀ {es r : List Str} {i : Nat} {x : Str}, (∀ s ∈ r.take i, s ∈ es) → r[i]? = some x → ¬ x ∈ es → Gram.lead es r = r.take (i + 1)
  | es, [], i, x, _, h, _ => by simp at h
  | es, s :: r, 0, x, _, h, hx => by
    simp at h
    subst h
    unfold Gram.lead
    rw [if_neg hx]
    rfl
  | es, s :: r, i + 1, x, ha, h, hx => by
    have hs : s ∈ es := ha s (by simp)
    unfold Gram.lead
    rw [if_pos hs, lead_stop (i := i) (fun y hy => ha y (by rw [List.take_succ_cons]; exact List.mem_cons_of_mem _ hy)) (by simpa using h) hx]
    rfl
theorem lead_all : ∀ {es r : List Str}, (∀ s ∈ r, s ∈ es) → Gram.lead es r = r
  | es, [], _ => rfl
  | es, s :: r, h => by
    unfold Gram.lead
    rw [if_pos (h s (List.mem_cons_self ..)), lead_all fun y hy => h y (List.mem_cons_of_mem _ hy)]
section
variable {P : Program} {w : World} {K : PySem.W.Frag} {mg : Str → Option Value} {base : Heap}
theorem ok_lead {f : Addr} {fd : FuncData} (F : Fun K "leading_signs" "leading_signs" sLead f fd) : FnOk P w K mg base CX0 1 f fd ["signs", "empties"] spLead := by
  refine F.ok scLead (fun vs H Q E h => ?_) (fun cdv A outer s H vs Q E hr h => ?_)
  · obtain ⟨a, b, r, es, rfl, _⟩ := h
    rfl
  · obtain ⟨a, b, r, es, rfl, hA, hB, hl, k⟩ := h
    refine ⟨_, pss_cons (ps_set (i := 2) scLead.nd rfl (Or.inl rfl) (pe_lst pa_nil))
      (pss_cons (ps_for PassesOwn.never rfl (pi_list (pv 0)) (pg_name (i := 3) scLead.nd rfl (Or.inl rfl))
        (pss_cons (ps_expr (pe_bm PySem.F.plainAttrs_list PySem.F.slot_list_append PySem.F.type_list_append mt_append (pv 2) (pa_cons (pv 3) pa_nil)))
        (pss_one (ps_if (pt_cmpR op_notIn_seq (pv 3) (pv 1) (by with_unfolding_all rfl)) (pss_one ps_break) pss_nil))))
      (pss_one (ps_ret (pv 2)))), ?_⟩
    refine ⟨by decide, fun q hq => ?_⟩
    refine ⟨_, rfl, a, rfl, ⟨_, SqL.of (Same.upd hq _ _ hA)⟩, for_list (K := K) (a := a) (xs := r.map V.str)
      (fun i σ H1 => (∃ o, σ = [some (.ref a), some (.ref b), some (.ref q), o]) ∧ H1 = upd H q (.lst ((r.take i).map V.str)) ∧ ∀ s ∈ r.take i, s ∈ es) ⟨⟨_, rfl⟩, rfl, fun s hs => (by cases hs)⟩ ?_ ?_ ?_⟩
    · rintro i σ H1 _ ⟨_, rfl, _⟩
      exact SqL.of (Same.upd hq _ _ hA)
    · rintro i x σ H1 hx ⟨⟨o, rfl⟩, rfl, hall⟩
      obtain ⟨y, hy, rfl⟩ := strs_get hx
      have hil : i < r.length := (List.getElem?_eq_some_iff.mp hy).1
      refine ⟨_, rfl, .inl ⟨rfl, _, SqL.of upd_same⟩, _, rfl, q, _, _, rfl, rfl, upd_same, by rw [List.length_map, List.length_take]; exact small1000 (by omega), ?_⟩
      rw [upd_upd]
      have et : (r.take i).map V.str ++ [V.str y] = (r.take (i + 1)).map V.str := by rw [List.take_succ, hy, List.map_append]; rfl
      rw [et]
      refine ⟨_, rfl, _, rfl, b, _, rfl, .inl (SqL.of (Same.upd hq _ _ hB)), rfl, flat_strs es, _, rfl, ?_⟩
      show if (!inV (.str y) (es.map V.str)) = true then _ else _
      rw [inV_strs]
      by_cases hin : y ∈ es
      · rw [decide_eq_true hin]
        refine iteF ⟨⟨_, rfl⟩, rfl, fun s hs => ?_⟩
        rw [List.take_succ, hy] at hs
        rcases List.mem_append.mp hs with z | z
        · exact hall s z
        · have : s = y := by simpa using z
          rw [this]; exact hin
      · rw [decide_eq_false hin]
        refine iteT ?_
        refine ⟨_, rfl, k q _ (Same.upd hq) hq ?_⟩
        rw [lead_stop hall hy hin]
        exact upd_same
    · rintro σ H1 ⟨⟨o, rfl⟩, rfl, hall⟩
      rw [List.length_map, List.take_length] at hall
      refine ⟨_, rfl, k q _ (Same.upd hq) hq ?_⟩
      rw [lead_all hall, List.length_map, List.take_length]
      exact upd_same
theorem ok_check {f : Addr} {fd : FuncData} (F : Fun K "check_rows" "check_rows" sCheck f fd) (D1 : Def P w K mg base "sorts_of" 1 ["rows"] spSortsOf) (D2 : Def P w K mg base "words_of" 2 ["rows"] spWordsOf)
    (D3 : Def P w K mg base "sorts_made_of" 1 ["rows", "words"] spMade) (D4 : Def P w K mg base "sorts_in_trees_of_lines" 2 ["rows"] spTrees) : FnOk P w K mg base CX0 3 f fd ["rows"] spCheck := by
  refine F.ok scCheck (fun vs H Q E h => ?_) (fun cdv A outer s H vs Q E hr h => ?_)
  · obtain ⟨a, R, rfl, _⟩ := h
    rfl
  · obtain ⟨a, R, rfl, hR, hg, k⟩ := h
    have hr1 : Room 1 _ := hr.mono (by decide)
    refine ⟨_, pss_cons (ps_set (i := 1) scCheck.nd rfl (Or.inl rfl) (pe_def D3 hr1 (by rfl) (pa_cons (pv 0) (pa_cons (pe_def D2 hr (by rfl) (pa_cons (pv 0) pa_nil)) pa_nil))))
      (pss_cons (ps_for PassesOwn.never rfl (pi_list (pe_def D1 hr1 (by rfl) (pa_cons (pv 0) pa_nil))) (pg_name (i := 2) scCheck.nd rfl (Or.inl rfl))
        (pss_one (ps_if (pt_cmpR op_notIn_seq (pv 2) (pv 1) (by with_unfolding_all rfl)) pss_never pss_nil)))
      (pss_cons (ps_set (i := 3) scCheck.nd rfl (Or.inl rfl) (pe_def D4 hr (by rfl) (pa_cons (pv 0) pa_nil)))
      (pss_one (ps_for PassesOwn.never rfl (pi_list (pe_def D1 hr1 (by rfl) (pa_cons (pv 0) pa_nil))) (pg_name (i := 2) scCheck.nd rfl (Or.inl rfl))
        (pss_one (ps_if (pt_cmpR op_notIn_seq (pv 2) (pv 3) (by with_unfolding_all rfl)) pss_never pss_nil)))))), ?_⟩
    refine ⟨_, rfl, _, rfl, a, R, rfl, hR, hg.small, fun q1 ws H1 s1 n1 hw hS1 => ?_⟩
    refine ⟨a, q1, R, ws, rfl, hR.mono s1, hg.small, hS1, fun q2 ms H2 s2 n2 nd2 hm2 hS2 => ?_⟩
    have s12 := s1.trans s2
    have hme : ∀ x ∈ R.map (·.1), x ∈ srt ms := fun x hx => by
      rw [SL.mem_srt, hm2 x]
      exact (hg.made x hx).mono fun z hz => (hw z).mpr hz
    refine ⟨_, rfl, a, R, rfl, hR.mono s12, hg.small, fun q3 H3 s3 n3 hS3 => ?_⟩
    have s13 := s12.trans s3
    have hS3 : H3 q3 = some (.lst ((sortsIn R).map V.str)) := hS3
    refine ⟨q3, rfl, ⟨_, SqL.of hS3⟩, for_list (K := K) (a := q3) (xs := (sortsIn R).map V.str) (fun i σ H' => (∃ o, σ = [some (.ref a), some (.ref q2), o, none]) ∧ H' = H3) ⟨⟨_, rfl⟩, rfl⟩ ?_ ?_ ?_⟩
    · rintro i σ H' _ ⟨_, rfl⟩
      exact SqL.of hS3
    · rintro i x σ H' hx ⟨⟨o, rfl⟩, rfl⟩
      obtain ⟨y, hy, rfl⟩ := strs_get hx
      refine ⟨_, rfl, _, rfl, q2, _, rfl, .inl (SqL.of (s3 _ _ hS2)), rfl, flat_strs _, _, rfl, ?_⟩
      show if (!inV (.str y) ((srt ms).map V.str)) = true then _ else _
      rw [inV_strs, decide_eq_true (hme y (mem_sortsIn.mp (List.mem_of_getElem? hy)))]
      exact iteF ⟨⟨_, rfl⟩, rfl⟩
    · rintro σ H' ⟨⟨o, rfl⟩, rfl⟩
      have hRne : ∃ p R', R = p :: R' := by
        cases R with
        | nil => exact absurd rfl hg.small.ne
        | cons p R' => exact ⟨p, R', rfl⟩
      obtain ⟨p, R', rfl⟩ := hRne
      refine ⟨_, rfl, a, p, R', rfl, hR.mono s13, hg.small, fun q4 ms' H4 s4 n4 nd4 hm4 hS4 => ?_⟩
      have s14 := s13.trans s4
      have hru : ∀ x ∈ (p :: R').map (·.1), x ∈ srt ms' := fun x hx => by
        rw [SL.mem_srt, hm4 x]
        exact hg.reach x hx
      refine ⟨_, rfl, a, p :: R', rfl, hR.mono s14, hg.small, fun q5 H5 s5 n5 hS5 => ?_⟩
      have s15 := s14.trans s5
      have hS5 : H5 q5 = some (.lst ((sortsIn (p :: R')).map V.str)) := hS5
      refine ⟨q5, rfl, ⟨_, SqL.of hS5⟩, for_list (K := K) (a := q5) (xs := (sortsIn (p :: R')).map V.str) (fun i σ H' => (∃ o, σ = [some (.ref a), some (.ref q2), o, some (.ref q4)]) ∧ H' = H5) ⟨⟨_, rfl⟩, rfl⟩ ?_ ?_ ?_⟩
      · rintro i σ H' _ ⟨_, rfl⟩
        exact SqL.of hS5
      · rintro i x σ H' hx ⟨⟨o, rfl⟩, rfl⟩
        obtain ⟨y, hy, rfl⟩ := strs_get hx
        refine ⟨_, rfl, _, rfl, q4, _, rfl, .inl (SqL.of (s5 _ _ hS4)), rfl, flat_strs _, _, rfl, ?_⟩
        show if (!inV (.str y) ((srt ms').map V.str)) = true then _ else _
        rw [inV_strs, decide_eq_true (hru y (mem_sortsIn.mp (List.mem_of_getElem? hy)))]
        exact iteF ⟨⟨_, rfl⟩, rfl⟩
      · rintro σ H' ⟨⟨o, rfl⟩, rfl⟩
        exact k _ s15
theorem ok_empty {f : Addr} {fd : FuncData} (F : Fun K "empty_sorts" "empty_sorts" sEmpty f fd) (D1 : Def P w K mg base "check_rows" 3 ["rows"] spCheck) (D3 : Def P w K mg base "sorts_made_of" 1 ["rows", "words"] spMade) : FnOk P w K mg base CX0 4 f fd ["rows"] spEmpty := by
  refine F.ok scEmpty (fun vs H Q E h => ?_) (fun cdv A outer s H vs Q E hr h => ?_)
  · obtain ⟨a, R, rfl, _⟩ := h
    rfl
  · obtain ⟨a, R, rfl, hR, hg, k⟩ := h
    have hr1 : Room 1 _ := hr.mono (by decide)
    refine ⟨_, pss_cons (ps_expr (pe_def D1 hr (by rfl) (pa_cons (pv 0) pa_nil)))
      (pss_one (ps_ret (pe_def D3 hr1 (by rfl) (pa_cons (pv 0) (pa_cons (pe_lst pa_nil) pa_nil))))), ?_⟩
    refine ⟨_, rfl, a, R, rfl, hR, hg, fun H1 s1 => ?_⟩
    refine ⟨_, rfl, by decide, fun q1 hq1 => ?_⟩
    have s2 := s1.trans (Same.upd (o := HO.lst []) hq1)
    refine ⟨a, q1, R, [], rfl, hR.mono s2, hg.small, upd_same, fun q2 ms H2 s3 n2 nd hm hS => ?_⟩
    refine k q2 ms H2 (s2.trans s3) (s2.free n2) nd (fun z => ?_) hS
    rw [hm z]
    exact ⟨fun h => h.mono fun _ q => (by cases q), fun h => h.mono fun _ q => q.elim⟩
end
end Nw
namespace Nw
open PySem L2
open SL (onceS srt)
/-- the texts of which P holds, in order -/
def Canon (P : Str → Prop) (L : List Str) : Prop := ∃ D, L = srt D ∧ D.Nodup ∧ ∀ z, z ∈ D ↔ P z
theorem Canon.eq {P P' : Str → Prop} {L L' : List Str} (h : Canon P L) (h' : Canon P' L') (e : ∀ z, P z ↔ P' z) : L = L' := by
  obtain ⟨D, rfl, nd, hm⟩ := h
  obtain ⟨D', rfl, nd', hm'⟩ := h'
  exact SL.srt_mem nd nd' fun z => (hm z).trans ((e z).trans (hm' z).symm)
/-- a dict, its lists in the heap -/
def DictR (H : Hp) (a : Addr) (f : Tab) : Prop := ∃ kvs, H a = some (.dK kvs) ∧ Paired (EntAt H) kvs f
theorem DictR.mono {H H' : Hp} (e : Same H H') {a : Addr} {f : Tab} (h : DictR H a f) : DictR H' a f := by
  obtain ⟨kvs, h1, h2⟩ := h
  exact ⟨kvs, e _ _ h1, Paired.mapP h2 fun _ _ ⟨q1, l, q2, q3⟩ => ⟨q1, l, q2, e _ _ q3⟩⟩
abbrev sGath : Stmt := top 19
theorem scGath : FnScope ["own", "links", "words", "sort", "found", "other"] ["own", "links"] (defScope sGath) := ⟨rfl, rfl, rfl, by decide +kernel, rfl, by decide +kernel, by decide +kernel⟩
def spGath : Sp := fun vs H Q _ => ∃ (a b : Addr) (f1 f2 : Tab), vs = [.ref a, .ref b] ∧ a ≠ b ∧ DictR H a f1 ∧ DictR H b f2 ∧ Links f2 ∧ f1.map (·.1) = f2.map (·.1) ∧ (f1.map fun e => e.2.length).sum ≤ 4000 ∧ (∃ U : List Str, U.length ≤ 40 ∧ ∀ e ∈ f1, ∀ z ∈ e.2, z ∈ U) ∧
  ∀ d res H', (∀ x o, H x = some o → x ≠ a → H' x = some o) → H d = none → DictR H' d res → res.map (·.1) = f1.map (·.1) → (∀ e ∈ res, Canon (fun z => ∃ y, Gram.Reach (getL f2) e.1 y ∧ z ∈ getL f1 y) e.2) → Q (.ref d) H'
theorem flat_getL {f : Tab} : ∀ {ks : List Str}, ks.Nodup → (∀ k ∈ ks, k ∈ f.map (·.1)) → (f.map (·.1)).Nodup → (ks.flatMap (getL f)).length ≤ (f.map fun e => e.2.length).sum := by
  intro ks nd hk ndf
  have h : ∀ {ks ms : List Str}, (∀ k ∈ ks, k ∈ f.map (·.1)) → (ms ++ ks).Nodup → (ks.flatMap (getL f)).length + wsum f (ms ++ ks) = wsum f ms := by
    intro ks
    induction ks with
    | nil => intro ms _ _; simp
    | cons x r ih =>
      intro ms hk nd
      have hx := hk x (List.mem_cons_self ..)
      have nd' : ((ms ++ [x]) ++ r).Nodup := by rw [List.append_assoc]; exact nd
      have h1 := ih (ms := ms ++ [x]) (fun y hy => hk y (List.mem_cons_of_mem _ hy)) nd'
      have hxm : ¬ x ∈ ms := by
        rw [List.nodup_append] at nd
        intro z
        exact nd.2.2 x z x (List.mem_cons_self ..) rfl
      have h2 := wsum_in ndf hx hxm
      rw [List.append_assoc] at h1
      rw [List.flatMap_cons, List.length_append]
      show _ + wsum f (ms ++ ([x] ++ r)) = _
      omega
  have h1 := h (ks := ks) (ms := []) hk (by simpa using nd)
  have h2 := wsum_le f []
  omega
section
variable {P : Program} {w : World} {K : PySem.W.Frag} {mg : Str → Option Value} {base : Heap}
theorem ok_gath {f : Addr} {fd : FuncData} (F : Fun K "gathered" "gathered" sGath f fd) (T : Txt mg) (D2 : Def P w K mg base "sorts_reached" 1 ["links", "sort"] spReach) : FnOk P w K mg base CX0 2 f fd ["own", "links"] spGath := by
  refine F.ok scGath (fun vs H Q E h => ?_) (fun cdv A outer s H vs Q E hr h => ?_)
  · obtain ⟨a, b, f1, f2, rfl, _⟩ := h
    rfl
  · obtain ⟨a, b, f1, f2, rfl, hab, hO, hL, hlk, hkeys, hsz, ⟨U, hU, hUm⟩, k⟩ := h
    have hu := hu_of hr
    refine ⟨_, pss_cons (ps_set (i := 2) scGath.nd rfl (Or.inl rfl) pe_dnewK)
      (pss_cons (ps_for PassesOwn.never rfl (pi_dict (pv 0)) (pg_name (i := 3) scGath.nd rfl (Or.inl rfl))
        (pss_cons (ps_set (i := 4) scGath.nd rfl (Or.inl rfl) (pe_lst pa_nil))
        (pss_cons (ps_for PassesOwn.never rfl (pi_list (pe_def D2 hr (by rfl) (pa_cons (pv 1) (pa_cons (pv 3) pa_nil)))) (pg_name (i := 5) scGath.nd rfl (Or.inl rfl))
          (pss_one (ps_expr (pe_bm PySem.F.plainAttrs_list PySem.F.slot_list_extend PySem.F.type_list_extend mt_extend (pv 4) (pa_cons (pe_dget hu (pv 0) (pv 5) (fun _ _ => rfl)) pa_nil)))))
        (pss_one (ps_dput hu (pv 2) (pv 3) (pe_callB (call_sorted rfl) (by rfl) T.srt PyProof.Rows.boot_sorted (pa_cons (pe_callTy (call_set rfl) (by rfl) T.set (by decide +kernel) (pa_cons (pv 4) pa_nil)) pa_nil)) rfl)))))
      (pss_one (ps_ret (pv 2)))), ?_⟩
    intro d hd
    obtain ⟨kvs, ha, hp⟩ := hO
    obtain ⟨kvs2, hb, hp2⟩ := hL
    have had : a ≠ d := fun z => by rw [z, hd] at ha; cases ha
    have hl14 := hlk.len
    have hkl : kvs.length = f1.length := Paired.length hp
    have hfl : f1.length = f2.length := by have := congrArg List.length hkeys; rw [List.length_map, List.length_map] at this; exact this
    refine ⟨_, rfl, a, kvs, rfl, by rw [upd_ne had]; exact ha, fun o => ?_⟩
    -- from here own is frozen
    generalize hH1 : upd (upd H d (.dK [])) a (.frz o (.dK kvs)) = H1
    have x1 : ∀ x ob, H x = some ob → x ≠ a → H1 x = some ob := fun x ob e hx => by
      rw [← hH1, upd_ne hx, upd_ne (ne_of_none e hd)]; exact e
    have ha1 : H1 a = some (.frz o (.dK kvs)) := by rw [← hH1, upd_same]
    have hd1 : H1 d = some (.dK []) := by rw [← hH1, upd_ne (Ne.symm had), upd_same]
    have fr1 : ∀ x, H1 x = none → H x = none := fun x e => by
      rw [← hH1] at e
      by_cases q : x = a
      · rw [q, upd_same] at e; cases e
      · rw [upd_ne q] at e
        exact (Same.upd hd).free e
    have ent : ∀ {kv : Key × V} {e : Str × List Str}, EntAt H kv e → EntAt H1 kv e := fun {kv e} ⟨q1, l, q2, q3⟩ => ⟨q1, l, q2, x1 _ _ q3 fun z => by
      have q3 : H l = some _ := q3
      rw [z, ha] at q3; cases q3⟩
    have hO1 : DictL H1 a f1 := ⟨kvs, .inr ⟨o, ha1⟩, Paired.mapP hp fun _ _ q => ent q⟩
    have hL1 : DictL H1 b f2 := ⟨kvs2, .inl (x1 _ _ hb (Ne.symm hab)), Paired.mapP hp2 fun _ _ q => ent q⟩
    refine for_dict (o := o) (d := a) (kvs := kvs) (fun i σ H2 => ∃ (ka : KA) (v : Str → List Str) (o1 o2 o3 : Option V), σ = [some (.ref a), some (.ref b), some (.ref d), o1, o2, o3] ∧ (∀ x ob, H1 x = some ob → x ≠ d → H2 x = some ob) ∧
        Ka H d ka ∧ ka.map (·.1) = (f1.map (·.1)).take i ∧ TabV H2 d ka v ∧ ∀ x ∈ ka.map (·.1), Canon (fun z => ∃ y, Gram.Reach (getL f2) x y ∧ z ∈ getL f1 y) (v x))
      ⟨[], fun _ => [], none, none, none, rfl, fun _ _ e _ => e, ⟨List.nodup_nil, List.nodup_nil, fun e he => (by cases he), fun e he => (by cases he), hd⟩, rfl, ⟨hd1, fun e he => (by cases he)⟩, fun x hx => (by cases hx)⟩ ?_ ?_ ?_
    · rintro i σ H2 ⟨ka, v, o1, o2, o3, rfl, x2, _⟩
      exact x2 _ _ ha1 had
    · rintro i kk vv σ H2 hi ⟨ka, v, o1, o2, o3, rfl, x2, gk, hk, tv, hc⟩
      obtain ⟨e, hei, he1, he2⟩ := paired_get hp i _ hi
      have he1 : kk = Sum.inr e.1 := he1
      subst he1
      have hkx : (f1.map (·.1))[i]? = some e.1 := by rw [List.getElem?_map, hei]; rfl
      have ndk : (f1.map (·.1)).Nodup := by rw [hkeys]; exact hlk.nd
      have hnx := ka_mem hk ndk hkx
      have hex : e.1 ∈ f2.map (·.1) := by rw [← hkeys]; exact List.mem_of_getElem? hkx
      have hS2 : ∀ {H3 : Hp}, Same H2 H3 → DictL H3 a f1 ∧ DictL H3 b f2 := fun {H3} s3 => by
        have fz : ∀ x ob, H1 x = some ob → x ≠ d → H3 x = some ob := fun x ob q hx => s3 _ _ (x2 x ob q hx)
        have ne_d : ∀ {l : Addr} {ss : List Str}, StrsAt H1 l ss → l ≠ d := fun {l ss} q z => by
          have q : H1 l = some _ := q
          rw [z, hd1] at q; cases q
        have en : ∀ {kv : Key × V} {e : Str × List Str}, EntAt H1 kv e → EntAt H3 kv e := fun {kv e} ⟨q1, l, q2, q3⟩ => ⟨q1, l, q2, fz _ _ q3 (ne_d q3)⟩
        refine ⟨⟨kvs, .inr ⟨o, fz _ _ ha1 had⟩, Paired.mapP hp fun _ _ q => en (ent q)⟩, ⟨kvs2, .inl (fz _ _ (x1 _ _ hb (Ne.symm hab)) fun z => ?_), Paired.mapP hp2 fun _ _ q => en (ent q)⟩⟩
        rw [z, hd] at hb; cases hb
      -- found = []
      refine ⟨by decide, fun fl hfl0 => ?_⟩
      have hfd : fl ≠ d := fun z => by rw [z, tv.dk] at hfl0; cases hfl0
      have s2' := Same.upd (o := HO.lst []) hfl0
      refine ⟨_, rfl, _, rfl, b, e.1, f2, rfl, (hS2 s2').2, hlk, hex, fun q3 ms H3 s3 n3 nd3 hm3 hS3 => ?_⟩
      have s23 : Same H2 H3 := s2'.trans s3
      have hS3 : H3 q3 = some (.lst ((srt ms).map V.str)) := hS3
      have hf3 : H3 fl = some (.lst []) := s3 _ _ upd_same
      have hq3f : q3 ≠ fl := fun z => by rw [z, hf3] at hS3; injection hS3 with q; injection q with q; rw [z, upd_same] at n3; cases n3
      have hmk : ∀ z ∈ srt ms, z ∈ f1.map (·.1) := fun z hz => by
        rw [hkeys]
        have hr := (hm3 z).mp (SL.mem_srt.mp hz)
        refine Gram.reach_of_closed (ks := f2.map (·.1)) hex (fun x hx y hy => ?_) hr
        obtain ⟨ys, e1, e2⟩ := lookup_keys hx
        unfold getL at hy
        rw [e1] at hy
        exact hlk.cl _ e2 y hy
      refine ⟨q3, rfl, ⟨_, SqL.of hS3⟩, for_list (K := K) (a := q3) (xs := (srt ms).map V.str)
        (fun j σ H4 => (∃ o4, σ = [some (.ref a), some (.ref b), some (.ref d), some (.str e.1), some (.ref fl), o4]) ∧ H4 = upd H3 fl (.lst ((((srt ms).take j).flatMap (getL f1)).map V.str))) ⟨⟨_, rfl⟩, ?_⟩ ?_ ?_ ?_⟩
      · funext x
        unfold upd
        split
        · rename_i q; rw [q, hf3]; rfl
        · rfl
      · rintro j σ H4 _ ⟨_, rfl⟩
        exact SqL.of (by rw [upd_ne hq3f]; exact hS3)
      · rintro j x σ H4 hx ⟨⟨o4, rfl⟩, rfl⟩
        obtain ⟨y, hy, rfl⟩ := strs_get hx
        have hyk := hmk y (List.mem_of_getElem? hy)
        have s4 : Same H2 (upd H3 fl (.lst ((((srt ms).take j).flatMap (getL f1)).map V.str))) := s23.updS hfl0
        obtain ⟨l, hg, hl⟩ := (hS2 s4).1.get hyk
        refine ⟨_, rfl, .inl ⟨rfl, _, SqL.of upd_same⟩, _, rfl, _, rfl, a, _, rfl, hg, fl, l, _, _, rfl, rfl, upd_same, hl, ?_, ⟨_, rfl⟩, ?_⟩
        · have h1 := flat_getL (f := f1) (ks := (srt ms).take (j + 1)) ((SL.nodup_srt nd3).sublist (List.take_sublist _ _)) (fun z hz => hmk z (List.mem_of_mem_take hz)) ndk
          rw [List.take_succ, hy, List.flatMap_append, List.length_append] at h1
          have e2 : ((some y).toList.flatMap (getL f1)).length = (getL f1 y).length := by simp
          rw [e2] at h1
          rw [List.length_map, List.length_map]
          exact big_line (by omega)
        · rw [upd_upd, List.take_succ, hy, List.flatMap_append, List.map_append]
          simp
      · rintro σ H4 ⟨⟨o4, rfl⟩, rfl⟩
        rw [List.length_map, List.take_length]
        generalize hfo : (srt ms).flatMap (getL f1) = fo
        have hfo4 : fo.length ≤ 4000 := by
          have := flat_getL (f := f1) (ks := srt ms) (SL.nodup_srt nd3) hmk ndk
          rw [hfo] at this
          omega
        have hfm : ∀ z, z ∈ fo ↔ ∃ y, Gram.Reach (getL f2) e.1 y ∧ z ∈ getL f1 y := fun z => by
          rw [← hfo, List.mem_flatMap]
          exact ⟨fun ⟨y, h1, h2⟩ => ⟨y, (hm3 y).mp (SL.mem_srt.mp h1), h2⟩, fun ⟨y, h1, h2⟩ => ⟨y, SL.mem_srt.mpr ((hm3 y).mpr h1), h2⟩⟩
        have hfU : ∀ z ∈ onceS fo, z ∈ U := fun z hz => by
          obtain ⟨y, h1, h2⟩ := (hfm z).mp (SL.mem_onceS.mp hz)
          have hyk := hmk y (SL.mem_srt.mpr ((hm3 y).mpr h1))
          obtain ⟨ys, e1, e2⟩ := lookup_keys hyk
          unfold getL at h2
          rw [e1] at h2
          exact hUm _ e2 z h2
        have h40 : (onceS fo).length ≤ 40 := Nat.le_trans (Gram.nodup_len (SL.nodup_onceS fo) hfU) hU
        have s4 : Same H2 (upd H3 fl (.lst (fo.map V.str))) := s23.updS hfl0
        refine ⟨_, rfl, fl, fo, rfl, SqL.of upd_same, by unfold scanBound; omega, fun q5 hq5 => ?_⟩
        refine ⟨q5, onceS fo, rfl, .inr (.inl upd_same), by omega, fun q6 hq6 => ?_⟩
        have s6 : Same H2 (upd (upd (upd H3 fl (.lst (fo.map V.str))) q5 (setO w q5 (onceS fo))) q6 (.lst ((srt (onceS fo)).map V.str))) := (s4.trans (Same.upd hq5)).trans (Same.upd hq6)
        have n6 : H2 q6 = none := (s4.trans (Same.upd hq5)).free hq6
        have hq6d : q6 ≠ d := fun z => by rw [z, tv.dk] at n6; cases n6
        have hq6a : ¬ q6 ∈ ka.map (·.2) := addr_ne tv n6
        have hq6H : H q6 = none := fr1 _ (by
          cases q : H1 q6 with
          | none => rfl
          | some ob => rw [x2 _ _ q hq6d] at n6; cases n6)
        have hkal : ka.length ≤ 14 := by
          have := congrArg List.length hk
          rw [List.length_map, List.length_take, List.length_map] at this
          omega
        have tv6 := tv.keep s6
        refine ⟨_, rfl, _, rfl, d, _, rfl, DPut.k (k := Sum.inr e.1) (kvs := kvsOf ka) tv6.dk (by unfold kvsOf; rw [List.length_map]; exact small1000 (by omega)), ?_⟩
        refine ⟨ka ++ [(e.1, q6)], fun y => if y = e.1 then srt (onceS fo) else v y, _, _, _, rfl, fun x ob q hx => ?_, gk.new (H := H2) hnx hq6H hq6d hq6a, ?_, ⟨?_, fun z hz => ?_⟩, fun x hx => ?_⟩
        · rw [upd_ne hx]
          exact s6 _ _ (x2 x ob q hx)
        · rw [List.map_append, hk, List.take_succ, hkx]
          rfl
        · rw [upd_same]
          congr 2
          rw [putK_new]
          · unfold kvsOf; rw [List.map_append]; rfl
          · rcases kvs_val gk.ndk e.1 with ⟨_, h2⟩ | ⟨a', h1, _⟩
            · exact h2
            · exact absurd (List.mem_map.mpr ⟨_, h1, rfl⟩) hnx
        · rcases List.mem_append.mp hz with q | q
          · have hne : z.1 ≠ e.1 := fun y => hnx (y ▸ List.mem_map.mpr ⟨z, q, rfl⟩)
            rw [upd_ne (gk.ne z q)]
            exact (tv6.at_ z q).trans (by rw [if_neg hne])
          · rw [List.mem_singleton.mp q]
            dsimp only
            rw [upd_ne hq6d, if_pos rfl]
            exact upd_same
        · rw [List.map_append] at hx
          rcases List.mem_append.mp hx with q | q
          · have hne : x ≠ e.1 := fun y => hnx (y ▸ q)
            show Canon _ (if x = e.1 then _ else v x)
            rw [if_neg hne]
            exact hc x q
          · have : x = e.1 := by simpa using q
            subst this
            show Canon _ (if e.1 = e.1 then _ else v e.1)
            rw [if_pos rfl]
            exact ⟨onceS fo, rfl, SL.nodup_onceS fo, fun z => by rw [SL.mem_onceS]; exact hfm z⟩
    · rintro σ H2 ⟨ka, v, o1, o2, o3, rfl, x2, gk, hk, tv, hc⟩
      rw [hkl, ← List.length_map (f := (·.1)), List.take_length] at hk
      refine ⟨_, rfl, k d (tabOf ka v) H2 (fun x ob e hx => x2 _ _ (x1 x ob e hx) (ne_of_none e hd)) hd ?_ ?_ fun e he => ?_⟩
      · obtain ⟨kv, h1, h2⟩ := tv.dictL
        refine ⟨kvsOf ka, tv.dk, ?_⟩
        rcases h1 with h1 | ⟨_, h1⟩
        · rw [tv.dk] at h1
          cases h1
          exact h2
        · rw [tv.dk] at h1; cases h1
      · rw [tabOf_keys, hk]
      · unfold tabOf at he
        obtain ⟨z, hz, rfl⟩ := List.mem_map.mp he
        exact hc z.1 (List.mem_map.mpr ⟨z, hz, rfl⟩)
end
end Nw
namespace Nw
open PySem L2
open SL (onceS srt)
/-- a word that can begin a sort -/
def Begin (R : List Row) (x z : Str) : Prop := ∃ es, (∀ y, y ∈ es ↔ Gram.Made R (fun _ => False) y) ∧ Gram.Beg R es x z
theorem beg_congr {R : List Row} {es es' : List Str} (h : ∀ x, x ∈ es ↔ x ∈ es') {x z : Str} (b : Gram.Beg R es x z) : Gram.Beg R es' x z := by
  induction b with
  | word hm h1 h2 => exact .word hm (by rw [← Gram.lead_congr h]; exact h1) h2
  | sort hm h1 h2 _ ih => exact .sort hm (by rw [← Gram.lead_congr h]; exact h1) h2 ih
theorem begin_iff {R : List Row} {es : List Str} (h : ∀ y, y ∈ es ↔ Gram.Made R (fun _ => False) y) {x z : Str} : Begin R x z ↔ Gram.Beg R es x z :=
  ⟨fun ⟨es', h', b⟩ => beg_congr (fun y => (h' y).trans (h y).symm) b, fun b => ⟨es, h, b⟩⟩
/-- written elsewhere -/
theorem TabV.keepU {H : Hp} {d a : Addr} {o : HO} {ka : KA} {v : Str → List Str} (h : TabV H d ka v) (h1 : a ≠ d) (h2 : ¬ a ∈ ka.map (·.2)) : TabV (upd H a o) d ka v :=
  ⟨by rw [upd_ne (Ne.symm h1)]; exact h.dk, fun e he => by
    have ne : e.2 ≠ a := fun z => h2 (List.mem_map.mpr ⟨e, he, z⟩)
    rw [upd_ne ne]; exact h.at_ e he⟩
abbrev sWtb : Stmt := top 14
theorem scWtb : FnScope ["rows", "empties", "own", "links", "left", "right", "sign"] ["rows"] (defScope sWtb) := ⟨rfl, rfl, rfl, by decide +kernel, rfl, by decide +kernel, by decide +kernel⟩
def spWtb : Sp := fun vs H Q _ => ∃ (a : Addr) (R : List Row), vs = [.ref a] ∧ RowsAt H a R ∧ Good R ∧ ∀ d res H', Same H H' → H d = none → DictR H' d res → res.map (·.1) = sortsIn R → (∀ e ∈ res, Canon (Begin R e.1) e.2) → Q (.ref d) H'
/-- what the rows so far give -/
def gat (g : List Str → List Str) (R : List Row) (x : Str) : List Str := R.flatMap fun p => if p.1 = x then g p.2 else []
theorem gat_snoc (g : List Str → List Str) {R : List Row} {i : Nat} {p : Row} (h : R[i]? = some p) (x : Str) : gat g (R.take (i + 1)) x = gat g (R.take i) x ++ (if p.1 = x then g p.2 else []) := by
  unfold gat
  rw [List.take_succ, h, List.flatMap_append]
  show _ ++ ((if p.1 = x then g p.2 else []) ++ []) = _
  rw [List.append_nil]
section
variable {P : Program} {w : World} {K : PySem.W.Frag} {mg : Str → Option Value} {base : Heap}
theorem ok_wtb {f : Addr} {fd : FuncData} (F : Fun K "words_to_begin" "words_to_begin" sWtb f fd) (D1 : Def P w K mg base "empty_sorts" 4 ["rows"] spEmpty) (D2 : Def P w K mg base "lists_by_sort" 2 ["rows"] spLists)
    (D3 : Def P w K mg base "leading_signs" 1 ["signs", "empties"] spLead) (D4 : Def P w K mg base "gathered" 2 ["own", "links"] spGath) : FnOk P w K mg base CX0 5 f fd ["rows"] spWtb := by
  refine F.ok scWtb (fun vs H Q E h => ?_) (fun cdv A outer s H vs Q E hr h => ?_)
  · obtain ⟨a, R, rfl, _⟩ := h
    rfl
  · obtain ⟨a, R, rfl, hR, hg, k⟩ := h
    have hu := hu_of hr
    have hr2 : Room 2 _ := hr.mono (by decide)
    have hr1 : Room 1 _ := hr.mono (by decide)
    refine ⟨_, pss_cons (ps_set (i := 1) scWtb.nd rfl (Or.inl rfl) (pe_def D1 hr (by rfl) (pa_cons (pv 0) pa_nil)))
      (pss_cons (ps_set (i := 2) scWtb.nd rfl (Or.inl rfl) (pe_def D2 hr2 (by rfl) (pa_cons (pv 0) pa_nil)))
      (pss_cons (ps_set (i := 3) scWtb.nd rfl (Or.inl rfl) (pe_def D2 hr2 (by rfl) (pa_cons (pv 0) pa_nil)))
      (pss_cons (ps_for PassesOwn.never rfl (pi_list (pv 0)) (pg_tup (n := 2) rfl (pgs_cons (pg_name (i := 4) scWtb.nd rfl (Or.inl rfl)) (pgs_cons (pg_name (i := 5) scWtb.nd rfl (Or.inl rfl)) pgs_nil)))
        (pss_one (ps_for PassesOwn.never rfl (pi_list (pe_def D3 hr1 (by rfl) (pa_cons (pv 5) (pa_cons (pv 1) pa_nil)))) (pg_name (i := 6) scWtb.nd rfl (Or.inl rfl))
          (pss_one (ps_if (pt_cmp (pc_din hu (pv 6) (pv 3)))
            (pss_one (ps_expr (pe_bm PySem.F.plainAttrs_list PySem.F.slot_list_append PySem.F.type_list_append mt_append (pe_dget hu (pv 3) (pv 4) (fun _ _ => rfl)) (pa_cons (pv 6) pa_nil))))
            (pss_one (ps_expr (pe_bm PySem.F.plainAttrs_list PySem.F.slot_list_append PySem.F.type_list_append mt_append (pe_dget hu (pv 2) (pv 4) (fun _ _ => rfl)) (pa_cons (pv 6) pa_nil)))))))))
      (pss_one (ps_ret (pe_def D4 hr2 (by rfl) (pa_cons (pv 2) (pa_cons (pv 3) pa_nil)))))))), ?_⟩
    obtain ⟨vs, hv, hp⟩ := id hR
    have hlen : vs.length = R.length := Paired.length hp
    have hR14 := hg.small.len
    refine ⟨_, rfl, a, R, rfl, hR, hg, fun qe ms H1 s1 n1 nd1 hm1 hS1 => ?_⟩
    generalize hes : srt ms = es at hS1
    have hem : ∀ y, y ∈ es ↔ Gram.Made R (fun _ => False) y := fun y => by rw [← hes, SL.mem_srt]; exact hm1 y
    refine ⟨_, rfl, a, R, rfl, hR.mono s1, hg.small, fun d1 ka1 H2 s2 g1 hk1 tv1 => ?_⟩
    have s12 := s1.trans s2
    refine ⟨_, rfl, a, R, rfl, hR.mono s12, hg.small, fun d2 ka2 H3 s3 g2 hk2 tv2 => ?_⟩
    have s13 := s12.trans s3
    have tv1' := tv1.keep s3
    have hkm1 : ∀ x, x ∈ ka1.map (·.1) ↔ x ∈ R.map (·.1) := fun x => by rw [hk1, mem_sortsIn]
    have hkm2 : ∀ x, x ∈ ka2.map (·.1) ↔ x ∈ R.map (·.1) := fun x => by rw [hk2, mem_sortsIn]
    -- the places lie apart
    have frH1 : ∀ {x : Addr}, H1 x = none → H x = none := fun {x} e => s1.free e
    have ap2 : ∀ e ∈ ka2, e.2 ≠ d1 ∧ ¬ e.2 ∈ ka1.map (·.2) := fun e he => by
      have := g2.fr e he
      exact ⟨fun z => (by rw [z, tv1.dk] at this; cases this), addr_ne tv1 this⟩
    have ap1 : ∀ e ∈ ka1, e.2 ≠ d2 ∧ ¬ e.2 ∈ ka2.map (·.2) := fun e he => by
      refine ⟨fun z => ?_, fun z => ?_⟩
      · have := g2.frd
        rw [← z, tv1.at_ e he] at this; cases this
      · obtain ⟨e', he', q⟩ := List.mem_map.mp z
        have := g2.fr e' he'
        rw [q, tv1.at_ e he] at this; cases this
    have hd12 : d1 ≠ d2 := fun z => by
      have := g2.frd
      rw [← z, tv1.dk] at this; cases this
    have gH1 : ∀ e ∈ ka1, H e.2 = none := fun e he => frH1 (g1.fr e he)
    have gH2 : ∀ e ∈ ka2, H e.2 = none := fun e he => s12.free (g2.fr e he)
    refine ⟨_, rfl, a, rfl, ⟨_, s13.seq (SqL.of hv)⟩, for_list (K := K) (a := a) (xs := vs)
      (fun i σ H4 => (∃ o1 o2 o3, σ = [some (.ref a), some (.ref qe), some (.ref d1), some (.ref d2), o1, o2, o3]) ∧ Same H H4 ∧ StrsAt H4 qe es ∧
        TabV H4 d1 ka1 (gat (fun r => (Gram.lead es r).filter (fun s => ¬ s ∈ R.map (·.1))) (R.take i)) ∧ TabV H4 d2 ka2 (gat (fun r => (Gram.lead es r).filter (fun s => s ∈ R.map (·.1))) (R.take i)))
      ⟨⟨_, _, _, rfl⟩, s13, s3 _ _ (s2 _ _ hS1), tv1', tv2⟩ ?_ ?_ ?_⟩
    · rintro i σ H4 _ ⟨_, s4, _⟩
      exact s4.seq (SqL.of hv)
    · rintro i x σ H4 hx ⟨⟨o1, o2, o3, rfl⟩, s4, hE4, t1, t2⟩
      obtain ⟨p, t, c, hpi, rfl, ht, hc⟩ := rowAt_get hp hx
      have hpm : (p.1, p.2) ∈ R := List.mem_of_getElem? hpi
      have hpw := hg.small.wid p hpm
      have hil : i < R.length := (List.getElem?_eq_some_iff.mp hpi).1
      have hpl : p.1 ∈ R.map (·.1) := List.mem_map.mpr ⟨_, hpm, rfl⟩
      refine ⟨t, _, rfl, SqT.of (s4 _ _ ht), rfl, _, _, rfl, _, _, rfl, rfl, ?_⟩
      refine ⟨_, rfl, _, rfl, c, qe, p.2, es, rfl, s4 _ _ hc, hE4, by omega, fun ql H5 s5 n5 hl5 => ?_⟩
      generalize hld : Gram.lead es p.2 = ld at hl5
      have hldl : ld.length ≤ 20 := by rw [← hld]; exact Nat.le_trans (Gram.lead_len es p.2) hpw
      have s45 := s4.trans s5
      have nqe : ql ≠ qe := fun z => by
        have q : H4 qe = some _ := hE4
        rw [← z, n5] at q; cases q
      refine ⟨ql, rfl, ⟨_, SqL.of hl5⟩, for_list (K := K) (a := ql) (xs := ld.map V.str)
        (fun j σ H6 => (∃ o3, σ = [some (.ref a), some (.ref qe), some (.ref d1), some (.ref d2), some (.str p.1), some (.ref c), o3]) ∧ Same H H6 ∧ StrsAt H6 qe es ∧ StrsAt H6 ql ld ∧
          TabV H6 d1 ka1 (fun x => gat (fun r => (Gram.lead es r).filter (fun s => ¬ s ∈ R.map (·.1))) (R.take i) x ++ (if p.1 = x then (ld.take j).filter (fun s => ¬ s ∈ R.map (·.1)) else [])) ∧
          TabV H6 d2 ka2 (fun x => gat (fun r => (Gram.lead es r).filter (fun s => s ∈ R.map (·.1))) (R.take i) x ++ (if p.1 = x then (ld.take j).filter (fun s => s ∈ R.map (·.1)) else [])))
        ⟨⟨_, rfl⟩, s45, s5 _ _ hE4, hl5, (t1.keep s5).congr fun x _ => by simp, (t2.keep s5).congr fun x _ => by simp⟩ ?_ ?_ ?_⟩
      · rintro j σ H6 _ ⟨_, _, _, h, _⟩
        exact SqL.of h
      · rintro j x σ H6 hx ⟨⟨o3, rfl⟩, s6, hE6, hl6, u1, u2⟩
        obtain ⟨y, hy, rfl⟩ := strs_get hx
        have hjl : j < ld.length := (List.getElem?_eq_some_iff.mp hy).1
        obtain ⟨o', g', ho'⟩ := u2.has g2 y
        refine ⟨_, rfl, _, rfl, d2, o', rfl, g', _, rfl, ?_⟩
        rw [ho']
        have fitl : ∀ (g : Str → Bool), (gat (fun r => (Gram.lead es r).filter g) (R.take i) p.1 ++ (if p.1 = p.1 then (ld.take j).filter g else [])).length ≤ 900 := fun g => by
          have h1 := flatif_len (R := R.take i) (x := p.1) (g := fun r => (Gram.lead es r).filter g) (fun r => Nat.le_trans (List.length_filter_le _ _) (Gram.lead_len es r)) fun q hq => hg.small.wid q (List.mem_of_mem_take hq)
          have h2 : ((ld.take j).filter g).length ≤ 20 := Nat.le_trans (List.length_filter_le _ _) (by rw [List.length_take]; omega)
          rw [if_pos rfl, List.length_append]
          have h3 : (gat (fun r => (Gram.lead es r).filter g) (R.take i) p.1).length ≤ 20 * (R.take i).length := h1
          rw [List.length_take] at h3
          omega
        -- what the two functions become
        have grow : ∀ (g : Str → Bool), g y = true → ∀ x, (if x = p.1 then (gat (fun r => (Gram.lead es r).filter g) (R.take i) p.1 ++ (if p.1 = p.1 then (ld.take j).filter g else [])) ++ [y] else (gat (fun r => (Gram.lead es r).filter g) (R.take i) x ++ (if p.1 = x then (ld.take j).filter g else []))) =
            gat (fun r => (Gram.lead es r).filter g) (R.take i) x ++ (if p.1 = x then (ld.take (j + 1)).filter g else []) := fun g hgy x => by
          by_cases q : x = p.1
          · subst q
            rw [if_pos rfl, if_pos rfl, if_pos rfl, List.take_succ, hy, List.filter_append, List.append_assoc]
            congr 2
            show [y] = List.filter g [y]
            rw [List.filter_cons, if_pos hgy]; rfl
          · rw [if_neg q, if_neg fun z => q z.symm, if_neg fun z => q z.symm]
        have stay : ∀ (g : Str → Bool), g y = false → ∀ x, gat (fun r => (Gram.lead es r).filter g) (R.take i) x ++ (if p.1 = x then (ld.take j).filter g else []) = gat (fun r => (Gram.lead es r).filter g) (R.take i) x ++ (if p.1 = x then (ld.take (j + 1)).filter g else []) := fun g hgy x => by
          rw [List.take_succ, hy, List.filter_append]
          have : List.filter g (some y).toList = [] := by
            show List.filter g [y] = []
            rw [List.filter_cons, if_neg (by rw [hgy]; decide)]; rfl
          rw [this, List.append_nil]
        by_cases hys : y ∈ R.map (·.1)
        · rw [decide_eq_true ((hkm2 y).mpr hys)]
          refine iteT ?_
          obtain ⟨al, hal, hgl, hll⟩ := u2.get g2 ((hkm2 p.1).mpr hpl)
          refine ⟨_, rfl, _, rfl, d2, _, rfl, hgl, .inl ⟨rfl, _, SqL.of hll⟩, _, rfl, al, _, _, rfl, rfl, hll, by rw [List.length_map]; exact small1000 (Nat.le_trans (fitl _) (by decide)), ?_⟩
          have ae : ∀ (L : List Str), L.map V.str ++ [V.str y] = (L ++ [y]).map V.str := fun L => by rw [List.map_append]; rfl
          rw [ae]
          have nal := ap2 _ hal
          refine ⟨⟨_, rfl⟩, s6.updS (gH2 _ hal), ?_, ?_, (u1.keepU nal.1 nal.2).congr fun x _ => stay _ (by simp [hys]) x, (u2.app g2 hal [y]).congr fun x _ => grow _ (by simp [hys]) x⟩
          · have : qe ≠ al := fun z => by
              have q := g2.fr _ hal
              have q1 : H2 qe = some _ := s2 _ _ hS1
              rw [z] at q1
              rw [q1] at q; cases q
            show upd H6 al _ qe = _
            rw [upd_ne this]; exact hE6
          · have : ql ≠ al := fun z => by
              have q : H4 al = some _ := t2.at_ _ hal
              rw [← z, n5] at q; cases q
            show upd H6 al _ ql = _
            rw [upd_ne this]; exact hl6
        · rw [decide_eq_false fun z => hys ((hkm2 y).mp z)]
          refine iteF ?_
          obtain ⟨al, hal, hgl, hll⟩ := u1.get g1 ((hkm1 p.1).mpr hpl)
          refine ⟨_, rfl, _, rfl, d1, _, rfl, hgl, .inl ⟨rfl, _, SqL.of hll⟩, _, rfl, al, _, _, rfl, rfl, hll, by rw [List.length_map]; exact small1000 (Nat.le_trans (fitl _) (by decide)), ?_⟩
          have ae : ∀ (L : List Str), L.map V.str ++ [V.str y] = (L ++ [y]).map V.str := fun L => by rw [List.map_append]; rfl
          rw [ae]
          have nal := ap1 _ hal
          refine ⟨⟨_, rfl⟩, s6.updS (gH1 _ hal), ?_, ?_, (u1.app g1 hal [y]).congr fun x _ => grow _ (by simp [hys]) x, (u2.keepU nal.1 nal.2).congr fun x _ => stay _ (by simp [hys]) x⟩
          · have : qe ≠ al := fun z => by
              have q := g1.fr _ hal
              have q1 : H1 qe = some _ := hS1
              rw [z] at q1
              rw [q1] at q; cases q
            show upd H6 al _ qe = _
            rw [upd_ne this]; exact hE6
          · have : ql ≠ al := fun z => by
              have q : H4 al = some _ := t1.at_ _ hal
              rw [← z, n5] at q; cases q
            show upd H6 al _ ql = _
            rw [upd_ne this]; exact hl6
      · rintro σ H6 ⟨⟨o3, rfl⟩, s6, hE6, hl6, u1, u2⟩
        rw [List.length_map, List.take_length] at u1 u2
        refine ⟨⟨_, _, _, rfl⟩, s6, hE6, u1.congr fun x _ => ?_, u2.congr fun x _ => ?_⟩
        · rw [gat_snoc _ hpi, hld]
        · rw [gat_snoc _ hpi, hld]
    · rintro σ H4 ⟨⟨o1, o2, o3, rfl⟩, s4, hE4, t1, t2⟩
      rw [hlen, List.take_length] at t1 t2
      have e1 : ∀ x, gat (fun r => (Gram.lead es r).filter (fun s => ¬ s ∈ R.map (·.1))) R x = Gram.own R es x := fun x => rfl
      have e2 : ∀ x, gat (fun r => (Gram.lead es r).filter (fun s => s ∈ R.map (·.1))) R x = Gram.links R es x := fun x => rfl
      have gO : ∀ x, getL (tabOf ka1 (Gram.own R es)) x = Gram.own R es x := fun x => by
        rw [getL_tabOf]
        by_cases q : x ∈ ka1.map (·.1)
        · rw [if_pos q]
        · rw [if_neg q]
          symm
          apply List.eq_nil_iff_forall_not_mem.mpr
          intro y hy
          obtain ⟨r, hm, _⟩ := Gram.mem_own.mp hy
          exact q ((hkm1 x).mpr (List.mem_map.mpr ⟨_, hm, rfl⟩))
      have gL : ∀ x, getL (tabOf ka2 (Gram.links R es)) x = Gram.links R es x := fun x => by
        rw [getL_tabOf]
        by_cases q : x ∈ ka2.map (·.1)
        · rw [if_pos q]
        · rw [if_neg q]
          symm
          apply List.eq_nil_iff_forall_not_mem.mpr
          intro y hy
          obtain ⟨r, hm, _⟩ := Gram.mem_links.mp hy
          exact q ((hkm2 x).mpr (List.mem_map.mpr ⟨_, hm, rfl⟩))
      have hkl : ∀ {ka : KA}, ka.map (·.1) = sortsIn R → ka.length ≤ 14 := fun {ka} h => by
        have := congrArg List.length h
        rw [List.length_map] at this
        have := len_sortsIn R
        omega
      have dR : ∀ {d : Addr} {ka : KA} {v : Str → List Str}, TabV H4 d ka v → DictR H4 d (tabOf ka v) := fun {d ka v} tv => by
        obtain ⟨kv, h1, h2⟩ := tv.dictL
        refine ⟨kvsOf ka, tv.dk, ?_⟩
        rcases h1 with h1 | ⟨_, h1⟩
        · rw [tv.dk] at h1
          cases h1
          exact h2
        · rw [tv.dk] at h1; cases h1
      have szb : ∀ (g : Str → Bool) (x : Str), (gat (fun r => (Gram.lead es r).filter g) R x).length ≤ 280 := fun g x => by
        have h1 := flatif_len (R := R) (x := x) (g := fun r => (Gram.lead es r).filter g) (fun r => Nat.le_trans (List.length_filter_le _ _) (Gram.lead_len es r)) hg.small.wid
        have h3 : (gat (fun r => (Gram.lead es r).filter g) R x).length ≤ 20 * R.length := h1
        omega
      obtain ⟨U, hU, hUm⟩ := hg.small.few
      refine ⟨_, rfl, _, rfl, d1, d2, tabOf ka1 (Gram.own R es), tabOf ka2 (Gram.links R es), rfl, hd12, dR t1, dR t2, ⟨?_, ?_, ?_, ?_⟩, ?_, ?_, ⟨U, hU, ?_⟩, ?_⟩
      · rw [tabOf_keys]; exact g2.ndk
      · intro e he y hy
        rw [tabOf_keys, hkm2]
        unfold tabOf at he
        obtain ⟨z, hz, rfl⟩ := List.mem_map.mp he
        obtain ⟨r, _, _, h⟩ := Gram.mem_links.mp hy
        exact h
      · have := congrArg List.length (tabOf_keys ka2 (Gram.links R es))
        rw [List.length_map, List.length_map] at this
        have := hkl hk2
        omega
      · have := sum_tabOf (ka := ka2) (v := Gram.links R es) (b := 280) fun e he => szb _ _
        have h2 : 280 * ka2.length ≤ 280 * 14 := Nat.mul_le_mul_left _ (hkl hk2)
        omega
      · rw [tabOf_keys, tabOf_keys, hk1, hk2]
      · have := sum_tabOf (ka := ka1) (v := Gram.own R es) (b := 280) fun e he => szb _ _
        have h2 : 280 * ka1.length ≤ 280 * 14 := Nat.mul_le_mul_left _ (hkl hk1)
        omega
      · intro e he z hz
        unfold tabOf at he
        obtain ⟨y, hy, rfl⟩ := List.mem_map.mp he
        obtain ⟨r, hm, h1, _⟩ := Gram.mem_own.mp hz
        exact hUm _ hm z (Gram.lead_sub _ _ _ h1)
      · intro d res H5 x5 n5 hD hkr hcan
        refine k d res H5 (fun b o e => x5 b o (s4 _ _ e) (ne_of_none e (frH1 g1.frd))) (s4.free n5) hD (by rw [hkr, tabOf_keys, hk1]) fun e he => ?_
        obtain ⟨D, h1, h2, h3⟩ := hcan e he
        refine ⟨D, h1, h2, fun z => ?_⟩
        rw [h3 z, begin_iff hem, ← Gram.beg_iff]
        constructor
        · rintro ⟨y, q1, q2⟩
          refine ⟨y, q1.congr fun x y hy => ?_, ?_⟩
          · rw [gL] at hy; exact hy
          · rw [gO] at q2; exact q2
        · rintro ⟨y, q1, q2⟩
          refine ⟨y, q1.congr fun x y hy => ?_, ?_⟩
          · rw [gL]; exact hy
          · rw [gO]; exact q2
end
end Nw
namespace Nw
open PySem L2
open SL (onceS srt)
/-! ### data -/
inductive D where
  | str (s : Str)
  | int (i : Int)
  | tup (ds : List D)
  | lst (ds : List D)
mutual
def D.sz : D → Nat
  | .str _ => 1
  | .int _ => 1
  | .tup ds => 1 + D.szs ds
  | .lst ds => 1 + D.szs ds
def D.szs : List D → Nat
  | [] => 0
  | d :: r => D.sz d + D.szs r
end
theorem D.szs_app : ∀ (a b : List D), D.szs (a ++ b) = D.szs a + D.szs b
  | [], b => by simp [D.szs]
  | d :: r, b => by
    show D.sz d + D.szs (r ++ b) = D.sz d + D.szs r + D.szs b
    rw [D.szs_app r b]; omega
theorem D.sz_pos (d : D) : 1 ≤ d.sz := by cases d <;> simp [D.sz] <;> omega
theorem D.len_szs : ∀ ds : List D, ds.length ≤ D.szs ds
  | [] => Nat.le_refl _
  | d :: r => by
    have := D.sz_pos d
    have := D.len_szs r
    show r.length + 1 ≤ D.sz d + D.szs r
    omega
/-- the datum d stands at v -/
inductive Rep (H : Hp) : V → D → Prop
  | str (s : Str) : Rep H (.str s) (.str s)
  | int (i : Int) : Rep H (.int i) (.int i)
  | tup {a : Addr} {xs : List V} {ds : List D} : H a = some (.tup xs) → xs.length = ds.length → (∀ (i : Nat) (x : V) (d : D), xs[i]? = some x → ds[i]? = some d → Rep H x d) → Rep H (.ref a) (.tup ds)
  | lst {a : Addr} {xs : List V} {ds : List D} : H a = some (.lst xs) → xs.length = ds.length → (∀ (i : Nat) (x : V) (d : D), xs[i]? = some x → ds[i]? = some d → Rep H x d) → Rep H (.ref a) (.lst ds)
abbrev sSo : Stmt := top 35
theorem scSo : FnScope ["_law_found", "_law_due", "_law_todo", "_law_one", "_law_other", "_law_k"] ["_law_found", "_law_due"] (defScope sSo) := ⟨rfl, rfl, rfl, by decide +kernel, rfl, by decide +kernel, by decide +kernel⟩
def spSo : Sp := fun vs H Q _ => ∃ (x y : V) (d : D), vs = [x, y] ∧ Rep H x d ∧ Rep H y d ∧ d.sz ≤ 10000 ∧ ∀ H', Same H H' → Q (.bl true) H'
/-- a pair of the same datum, which stood at the start already -/
def PairAt (H H1 : Hp) (v : V) (d : D) : Prop := ∃ t x y, v = .ref t ∧ H1 t = some (.tup [x, y]) ∧ Rep H x d ∧ Rep H y d
theorem bt_list : bootBuiltins "list" = some (.type "list") := by decide +kernel
theorem bt_tuple : bootBuiltins "tuple" = some (.type "tuple") := by decide +kernel
theorem bt_str : bootBuiltins "str" = some (.type "str") := by decide +kernel
theorem bt_bool : bootBuiltins "bool" = some (.type "bool") := by decide +kernel
theorem bt_int : bootBuiltins "int" = some (.type "int") := by decide +kernel
theorem boot_isinstance : bootBuiltins "isinstance" = some (.builtin "isinstance") := by decide +kernel
section
variable {K : PySem.W.Frag}
theorem kAny_str : PySem.W.kitAny K (.type "str") (["list", "tuple"].map Value.type) = some false := by rfl
theorem kAny_int : PySem.W.kitAny K (.type "int") (["list", "tuple"].map Value.type) = some false := by rfl
theorem kAny_list : PySem.W.kitAny K (.type "list") (["list", "tuple"].map Value.type) = some true := by rfl
theorem kAny_tup : PySem.W.kitAny K (.type "tuple") (["list", "tuple"].map Value.type) = some true := by rfl
theorem k_ll : PySem.W.kitOne K (.type "list") (.type "list") = some true := by rfl
theorem k_lt : PySem.W.kitOne K (.type "list") (.type "tuple") = some false := by rfl
theorem k_tl : PySem.W.kitOne K (.type "tuple") (.type "list") = some false := by rfl
theorem k_tt : PySem.W.kitOne K (.type "tuple") (.type "tuple") = some true := by rfl
theorem k_ss : PySem.W.kitOne K (.type "str") (.type "str") = some true := by rfl
theorem k_is : PySem.W.kitOne K (.type "int") (.type "str") = some false := by rfl
theorem k_ib : PySem.W.kitOne K (.type "int") (.type "bool") = some false := by rfl
theorem k_ii : PySem.W.kitOne K (.type "int") (.type "int") = some true := by rfl
end
section
variable {P : Program} {w : World} {K : PySem.W.Frag} {mg : Str → Option Value} {base : Heap}
theorem ok_so {f : Addr} {fd : FuncData} (F : Fun K "_law_so" "_law_so" sSo f fd) (T : Txt mg) : FnOk P w K mg base CX0 1 f fd ["_law_found", "_law_due"] spSo := by
  refine F.ok scSo (fun vs H Q E h => ?_) (fun cdv A outer s H vs Q E hr h => ?_)
  · obtain ⟨x, y, d, rfl, _⟩ := h
    rfl
  · obtain ⟨x0, y0, d0, rfl, hx0, hy0, hsz, k⟩ := h
    have hu := hu_of hr
    have hu0 : (A.deeper (PyProof.Rows.envOfC "_law_so" (defScope sSo) s.heap.objs.size f cdv)).units < cLine := Nat.lt_of_succ_lt hu
    refine ⟨_, pss_cons (ps_set (i := 2) scSo.nd rfl (Or.inl rfl) (pe_lst (pa_cons (pe_tup (pa_cons (pv 0) (pa_cons (pv 1) pa_nil))) pa_nil)))
      (pss_cons (ps_while PassesOwn.never (pt_cmpR (op_neNil hu0) (pv 2) (pe_lst pa_nil) (nomark _))
        (pss_cons (ps_asg (pe_bm0 PySem.F.plainAttrs_list PySem.F.slot_list_pop PySem.F.type_list_pop mt_pop (pv 2)) (pg_tup (n := 2) rfl (pgs_cons (pg_name (i := 3) scSo.nd rfl (Or.inl rfl)) (pgs_cons (pg_name (i := 4) scSo.nd rfl (Or.inl rfl)) pgs_nil))))
        (pss_one (ps_if (pt_val (pe_callB call_isiT (by rfl) T.isi boot_isinstance (pa_cons (pv 4) (pa_cons (pe_tup (pa_cons (pe_bltn (v := .ty "list") (by rfl) T.lst bt_list rfl) (pa_cons (pe_bltn (v := .ty "tuple") (by rfl) T.tup bt_tuple rfl) pa_nil))) pa_nil))))
          (pss_cons (ps_if (pt_cmpR op_ne (pe_callB call_isi (by rfl) T.isi boot_isinstance (pa_cons (pv 3) (pa_cons (pe_bltn (v := .ty "list") (by rfl) T.lst bt_list rfl) pa_nil))) (pe_callB call_isi (by rfl) T.isi boot_isinstance (pa_cons (pv 4) (pa_cons (pe_bltn (v := .ty "list") (by rfl) T.lst bt_list rfl) pa_nil))) (nomark _)) pss_never pss_nil)
          (pss_cons (ps_if (pt_cmpR op_ne (pe_callB call_isi (by rfl) T.isi boot_isinstance (pa_cons (pv 3) (pa_cons (pe_bltn (v := .ty "tuple") (by rfl) T.tup bt_tuple rfl) pa_nil))) (pe_callB call_isi (by rfl) T.isi boot_isinstance (pa_cons (pv 4) (pa_cons (pe_bltn (v := .ty "tuple") (by rfl) T.tup bt_tuple rfl) pa_nil))) (nomark _)) pss_never pss_nil)
          (pss_cons (ps_if (pt_cmpR op_ne (pe_callB call_len_seq (by rfl) T.len PySem.boot_len (pa_cons (pv 3) pa_nil)) (pe_callB call_len_seq (by rfl) T.len PySem.boot_len (pa_cons (pv 4) pa_nil)) (nomark _)) pss_never pss_nil)
          (pss_one (ps_for PassesOwn.never rfl (pi_range1 (by rfl) T.rng (pa_cons (pe_callB call_len_seq (by rfl) T.len PySem.boot_len (pa_cons (pv 4) pa_nil)) pa_nil)) (pg_name (i := 5) scSo.nd rfl (Or.inl rfl))
            (pss_one (ps_expr (pe_bm PySem.F.plainAttrs_list PySem.F.slot_list_append PySem.F.type_list_append mt_append (pv 2) (pa_cons (pe_tup (pa_cons (pe_ix ix_seq (pv 3) (pv 5) (fun _ _ => rfl)) (pa_cons (pe_ix ix_seq (pv 4) (pv 5) (fun _ _ => rfl)) pa_nil))) pa_nil)))))))))
          (pss_one (ps_if (pt_val (pe_callB call_isi (by rfl) T.isi boot_isinstance (pa_cons (pv 4) (pa_cons (pe_bltn (v := .ty "str") (by rfl) T.str bt_str rfl) pa_nil))))
            (pss_one (ps_if (PW.pt (pw_or (pt_not (pt_val (pe_callB call_isi (by rfl) T.isi boot_isinstance (pa_cons (pv 3) (pa_cons (pe_bltn (v := .ty "str") (by rfl) T.str bt_str rfl) pa_nil))))) (pw_or1 (pt_cmpR op_ne (pv 3) (pv 4) (nomark _))))) pss_never pss_nil))
            (pss_one (ps_if (pt_val (pe_callB call_isi (by rfl) T.isi boot_isinstance (pa_cons (pv 4) (pa_cons (pe_bltn (v := .ty "bool") (by rfl) T.bl bt_bool rfl) pa_nil)))) pss_never
              (pss_one (ps_if (pt_cmpR op_isN (pv 4) pe_non (nomark _)) pss_never
                (pss_one (ps_if (PW.pt (pw_or (pt_not (pt_val (pe_callB call_isi (by rfl) T.isi boot_isinstance (pa_cons (pv 3) (pa_cons (pe_bltn (v := .ty "int") (by rfl) T.int bt_int rfl) pa_nil)))))
                  (pw_or (pt_val (pe_callB call_isi (by rfl) T.isi boot_isinstance (pa_cons (pv 3) (pa_cons (pe_bltn (v := .ty "bool") (by rfl) T.bl bt_bool rfl) pa_nil)))) (pw_or1 (pt_cmpR op_ne (pv 3) (pv 4) (nomark _)))))) pss_never pss_nil))))))))))))
      (pss_one (ps_ret pe_bl))), ?_⟩
    refine ⟨_, rfl, _, rfl, (show 2 ≤ sizeLine by decide), fun t0 ht0 => ⟨(show 1 ≤ sizeLine by decide), fun tl htl => ?_⟩⟩
    have s0 : Same H (upd H t0 (.tup [x0, y0])) := Same.upd ht0
    have htlH : H tl = none := s0.free htl
    refine ⟨fun m σ H1 => ∃ ts vs o1 o2 o3, σ = [some x0, some y0, some (.ref tl), o1, o2, o3] ∧ Same H H1 ∧ H1 tl = some (.lst vs) ∧ Paired (PairAt H H1) vs ts ∧ m = D.szs ts ∧ m ≤ 10000,
      ⟨_, [d0], _, none, none, none, rfl, s0.trans (Same.upd htl), upd_same, .cons ⟨t0, x0, y0, rfl, by rw [upd_ne (ne_of_none (upd_same (H := H)) htl)]; exact upd_same, hx0, hy0⟩ .nil, rfl, by show d0.sz + 0 ≤ _; omega⟩, ?_⟩
    rintro m σ H1 ⟨ts, vs, o1, o2, o3, rfl, s1, hl1, hp1, rfl, hm⟩
    refine ⟨_, rfl, by decide, fun qn hqn => ?_⟩
    have hqt : tl ≠ qn := ne_of_none hl1 hqn
    have sn : Same H1 (upd H1 qn (.lst [])) := Same.upd hqn
    refine ⟨tl, qn, vs, rfl, rfl, SqL.of (sn _ _ hl1), SqL.of upd_same, _, rfl, ?_⟩
    rcases List.eq_nil_or_concat vs with rfl | ⟨vi, vl, rfl⟩
    · exact iteF (k _ (s1.trans sn))
    · rw [show (!(vi.concat vl).isEmpty) = true by simp]
      refine iteT ?_
      -- the last pair
      obtain ⟨ti, dl, rfl, hpi, hpl⟩ : ∃ ti dl, ts = ti ++ [dl] ∧ Paired (PairAt H H1) vi ti ∧ PairAt H H1 vl dl := by
        have key : ∀ {vi : List V} {ts : List D}, Paired (PairAt H H1) (vi ++ [vl]) ts → ∃ ti dl, ts = ti ++ [dl] ∧ Paired (PairAt H H1) vi ti ∧ PairAt H H1 vl dl := by
          intro vi
          induction vi with
          | nil =>
            intro ts h
            cases h with
            | cons h1 h2 => cases h2; exact ⟨[], _, rfl, .nil, h1⟩
          | cons v r ih =>
            intro ts h
            cases h with
            | cons h1 h2 =>
              obtain ⟨ti, dl, rfl, q1, q2⟩ := ih h2
              exact ⟨_ :: ti, dl, rfl, .cons h1 q1, q2⟩
        exact key (by rw [← List.concat_eq_append]; exact hp1)
      obtain ⟨t, x, y, rfl, ht, hx, hy⟩ := hpl
      have hsz2 : D.szs (ti ++ [dl]) = D.szs ti + dl.sz := by rw [D.szs_app]; rfl
      have s1n := s1.trans sn
      generalize hH2 : upd H1 qn (.lst []) = H2 at sn s1n
      have hl2 : H2 tl = some (.lst (vi ++ [V.ref t])) := by rw [← List.concat_eq_append]; exact sn _ _ hl1
      refine ⟨fun σ H4 => ∃ ts' vs' o1 o2 o3, σ = [some x0, some y0, some (.ref tl), o1, o2, o3] ∧ Same H H4 ∧ H4 tl = some (.lst vs') ∧ Paired (PairAt H H4) vs' ts' ∧ D.szs ts' < D.szs (ti ++ [dl]), ?_, ?_⟩
      · rintro σ' H4 ⟨ts', vs', o1, o2, o3, rfl, q1, q2, q3, q4⟩
        exact ⟨_, q4, ts', vs', o1, o2, o3, rfl, q1, q2, q3, rfl, by omega⟩
      refine ⟨_, rfl, .inl ⟨rfl, _, SqL.of hl2⟩, tl, _, V.ref t, rfl, rfl, hl2, by simp, ?_⟩
      rw [List.dropLast_concat]
      -- behind the pop
      generalize hH3 : upd H2 tl (.lst vi) = H3
      have s3 : Same H H3 := by rw [← hH3]; exact s1n.updS htlH
      have keepT : ∀ {H4 : Hp} {b : Addr} {xs : List V}, (∀ z o, H2 z = some o → z ≠ tl → H4 z = some o) → H1 b = some (.tup xs) → H4 b = some (.tup xs) := fun {H4 b xs} h e => by
        have e2 := sn _ _ e
        refine h _ _ e2 fun z => ?_
        rw [z, hl2] at e2; cases e2
      have x3 : ∀ z o, H2 z = some o → z ≠ tl → H3 z = some o := fun z o e hz => by rw [← hH3, upd_ne hz]; exact e
      have hl3 : H3 tl = some (.lst vi) := by rw [← hH3, upd_same]
      have ht3 : H3 t = some (.tup [x, y]) := keepT x3 ht
      have keepP : ∀ {H4 : Hp}, (∀ z o, H2 z = some o → z ≠ tl → H4 z = some o) → Paired (PairAt H H4) vi ti := fun {H4} h => Paired.mapP hpi fun _ _ ⟨t', x', y', q1, q2, q3, q4⟩ => ⟨t', x', y', q1, keepT h q2, q3, q4⟩
      have same3 : ∀ {H4 : Hp}, Same H3 H4 → ∀ z o, H2 z = some o → z ≠ tl → H4 z = some o := fun {H4} h z o e hz => h _ _ (x3 z o e hz)
      refine ⟨t, _, rfl, SqT.of ht3, rfl, x, _, rfl, y, _, rfl, rfl, ?_⟩
      refine ⟨_, rfl, (show 2 ≤ sizeLine by decide), fun tp htp => ?_⟩
      have s4 : Same H3 (upd H3 tp (.tup [.ty "list", .ty "tuple"])) := Same.upd htp
      generalize hH4 : upd H3 tp (.tup [.ty "list", .ty "tuple"]) = H4 at s4
      have htp4 : H4 tp = some (.tup (["list", "tuple"].map V.ty)) := by rw [← hH4]; exact upd_same
      have s34 := s3.trans s4
      have hl4 : H4 tl = some (.lst vi) := s4 _ _ hl3
      have done : ∀ o3' : Option V, ∃ ts' vs' o1 o2 o3, [some x0, some y0, some (V.ref tl), some x, some y, o3'] = [some x0, some y0, some (.ref tl), o1, o2, o3] ∧ Same H H4 ∧ H4 tl = some (.lst vs') ∧ Paired (PairAt H H4) vs' ts' ∧ D.szs ts' < D.szs (ti ++ [dl]) := fun _ =>
        ⟨ti, vi, _, _, _, rfl, s34, hl4, keepP (same3 s4), by rw [hsz2]; have := D.sz_pos dl; omega⟩
      -- the data that have parts
      have parts : ∀ (b : Bool) (ax ay : Addr) (xs ys : List V) (ds : List D), x = .ref ax → y = .ref ay → dl.sz = 1 + D.szs ds → xs.length = ds.length → ys.length = ds.length →
          (∀ (i : Nat) (u : V) (d : D), xs[i]? = some u → ds[i]? = some d → Rep H u d) → (∀ (i : Nat) (u : V) (d : D), ys[i]? = some u → ds[i]? = some d → Rep H u d) →
          (if b = true then H ax = some (.tup xs) ∧ H ay = some (.tup ys) else H ax = some (.lst xs) ∧ H ay = some (.lst ys)) → ∃ tn : String, (∀ H5, Same H H5 → TyOf K H5 (.ref ax) (.type tn) ∧ TyOf K H5 (.ref ay) (.type tn)) ∧
            PySem.W.kitAny K (.type tn) (["list", "tuple"].map Value.type) = some true ∧ PySem.W.kitOne K (.type tn) (.type "list") = some (!b) ∧ PySem.W.kitOne K (.type tn) (.type "tuple") = some b ∧
            (∀ H5, Same H H5 → (SqL K H5 ax xs ∨ SqT K H5 ax xs) ∧ (SqL K H5 ay ys ∨ SqT K H5 ay ys)) ∧
            (∀ (H5 : Hp) (i : Nat) (u : V) (Q : VK), Same H H5 → xs[i]? = some u → Q u H5 → rIx K (.ref ax) (.int (0 + (i : Int))) H5 Q) ∧ (∀ (H5 : Hp) (i : Nat) (u : V) (Q : VK), Same H H5 → ys[i]? = some u → Q u H5 → rIx K (.ref ay) (.int (0 + (i : Int))) H5 Q) := by
        intro b ax ay xs ys ds _ _ _ _ _ _ _ hb
        cases b with
        | true =>
          obtain ⟨h1, h2⟩ := hb
          refine ⟨"tuple", fun H5 e => ⟨TyOf.tup (e _ _ h1), TyOf.tup (e _ _ h2)⟩, kAny_tup, k_tl, k_tt, fun H5 e => ⟨.inr (SqT.of (e _ _ h1)), .inr (SqT.of (e _ _ h2))⟩, fun H5 i u Q e hi q => ?_, fun H5 i u Q e hi q => ?_⟩
          · exact .inr (.inl ⟨ax, xs, _, u, rfl, rfl, SqT.of (e _ _ h1), by rw [Int.zero_add]; exact atI_nat hi, q⟩)
          · exact .inr (.inl ⟨ay, ys, _, u, rfl, rfl, SqT.of (e _ _ h2), by rw [Int.zero_add]; exact atI_nat hi, q⟩)
        | false =>
          obtain ⟨h1, h2⟩ := hb
          refine ⟨"list", fun H5 e => ⟨TyOf.lst (e _ _ h1), TyOf.lst (e _ _ h2)⟩, kAny_list, k_ll, k_lt, fun H5 e => ⟨.inl (SqL.of (e _ _ h1)), .inl (SqL.of (e _ _ h2))⟩, fun H5 i u Q e hi q => ?_, fun H5 i u Q e hi q => ?_⟩
          · exact .inl ⟨ax, xs, _, u, rfl, rfl, SqL.of (e _ _ h1), by rw [Int.zero_add]; exact atI_nat hi, q⟩
          · exact .inl ⟨ay, ys, _, u, rfl, rfl, SqL.of (e _ _ h2), by rw [Int.zero_add]; exact atI_nat hi, q⟩
      have kinds : (∃ s, x = .str s ∧ y = .str s) ∨ (∃ i, x = .int i ∧ y = .int i) ∨ ∃ (b : Bool) (ax ay : Addr) (xs ys : List V) (ds : List D), x = .ref ax ∧ y = .ref ay ∧ dl.sz = 1 + D.szs ds ∧ xs.length = ds.length ∧ ys.length = ds.length ∧
          (∀ (i : Nat) (u : V) (d : D), xs[i]? = some u → ds[i]? = some d → Rep H u d) ∧ (∀ (i : Nat) (u : V) (d : D), ys[i]? = some u → ds[i]? = some d → Rep H u d) ∧
          (if b = true then H ax = some (.tup xs) ∧ H ay = some (.tup ys) else H ax = some (.lst xs) ∧ H ay = some (.lst ys)) := by
        cases hy with
        | str sy => cases hx with | str => exact .inl ⟨_, rfl, rfl⟩
        | int i => cases hx with | int => exact .inr (.inl ⟨_, rfl, rfl⟩)
        | tup h1 h2 h3 => cases hx with | tup g1 g2 g3 => exact .inr (.inr ⟨true, _, _, _, _, _, rfl, rfl, rfl, g2, h2, g3, h3, g1, h1⟩)
        | lst h1 h2 h3 => cases hx with | lst g1 g2 g3 => exact .inr (.inr ⟨false, _, _, _, _, _, rfl, rfl, rfl, g2, h2, g3, h3, g1, h1⟩)
      rcases kinds with ⟨sy, rfl, rfl⟩ | ⟨iy, rfl, rfl⟩ | ⟨b, ax, ay, xs, ys, ds, ex, ey, esz, lx, ly, rx, ry, hb⟩
      · refine ⟨.str sy, tp, ["list", "tuple"], _, _, rfl, htp4, TyOf.str _, kAny_str, _, rfl, iteF ?_⟩
        refine ⟨_, rfl, _, _, _, _, rfl, TyOf.str _, k_ss, _, rfl, iteT ?_⟩
        refine ⟨_, rfl, _, _, _, _, rfl, TyOf.str _, k_ss, _, rfl, iteF ?_⟩
        exact ⟨_, rfl, _, rfl, rfl, _, rfl, iteNS rfl (done _)⟩
      · refine ⟨.int iy, tp, ["list", "tuple"], _, _, rfl, htp4, TyOf.int _, kAny_int, _, rfl, iteF ?_⟩
        refine ⟨_, rfl, _, _, _, _, rfl, TyOf.int _, k_is, _, rfl, iteF ?_⟩
        refine ⟨_, rfl, _, _, _, _, rfl, TyOf.int _, k_ib, _, rfl, iteF ?_⟩
        refine ⟨_, rfl, rfl, _, rfl, iteF ?_⟩
        refine ⟨_, rfl, _, _, _, _, rfl, TyOf.int _, k_ii, _, rfl, iteF ?_⟩
        refine ⟨_, rfl, _, _, _, _, rfl, TyOf.int _, k_ib, _, rfl, iteF ?_⟩
        exact ⟨_, rfl, _, rfl, rfl, _, rfl, iteNS rfl (done _)⟩
      · obtain ⟨tn, ty, ka, kl, kt, sq, ix1, ix2⟩ := parts b ax ay xs ys ds ex ey esz lx ly rx ry hb
        subst ex; subst ey
        obtain ⟨ty1, ty2⟩ := ty H4 s34
        obtain ⟨sq1, sq2⟩ := sq H4 s34
        have hlen : xs.length = ys.length := lx.trans ly.symm
        have hds : ds.length ≤ 10000 := by
          have := D.len_szs ds
          omega
        refine ⟨.ref ay, tp, ["list", "tuple"], _, _, rfl, htp4, ty2, ka, _, rfl, iteT ?_⟩
        refine ⟨_, rfl, _, _, _, _, rfl, ty1, kl, _, rfl, _, _, _, _, rfl, ty2, kl, rfl, _, rfl, iteNS rfl ?_⟩
        refine ⟨_, rfl, _, _, _, _, rfl, ty1, kt, _, rfl, _, _, _, _, rfl, ty2, kt, rfl, _, rfl, iteNS rfl ?_⟩
        refine ⟨_, rfl, ax, _, rfl, sq1, _, rfl, ay, _, rfl, sq2, rfl, _, rfl, iteNS (by rw [hlen]) ?_⟩
        refine ⟨_, rfl, ay, _, rfl, sq2, _, rfl, by omega, by omega, for_range (n := (ys.length : Int).toNat) (fun i σ H5 => ∃ vs' o3, σ = [some x0, some y0, some (.ref tl), some (.ref ax), some (.ref ay), o3] ∧ Same H H5 ∧ H5 tl = some (.lst vs') ∧ Paired (PairAt H H5) vs' (ti ++ ds.take i))
          ⟨vi, _, rfl, s34, hl4, by rw [List.take_zero, List.append_nil]; exact keepP (same3 s4)⟩ ?_ ?_⟩
        · rintro i σ H5 hi ⟨vs', o3', rfl, s5, hl5, hp5⟩
          have hi' : i < ds.length := by rw [Int.toNat_natCast] at hi; omega
          have hxi : xs[i]? = some xs[i] := List.getElem?_eq_getElem (by omega)
          have hyi : ys[i]? = some ys[i] := List.getElem?_eq_getElem (by omega)
          have hdi : ds[i]? = some ds[i] := List.getElem?_eq_getElem hi'
          have hvl : vs'.length ≤ 20000 := by
            have h1 := Paired.length hp5
            rw [List.length_append, List.length_take] at h1
            have h2 := D.len_szs ti
            omega
          refine ⟨_, rfl, .inl ⟨rfl, _, SqL.of hl5⟩, _, rfl, _, rfl, ix1 H5 i _ _ s5 hxi ?_⟩
          refine ⟨_, rfl, _, rfl, ix2 H5 i _ _ s5 hyi ⟨(show 2 ≤ sizeLine by decide), fun p hp => ?_⟩⟩
          have hpt : tl ≠ p := ne_of_none hl5 hp
          have sp : Same H5 (upd H5 p (.tup [xs[i], ys[i]])) := Same.upd hp
          refine ⟨tl, vs', _, rfl, rfl, sp _ _ hl5, Nat.lt_of_le_of_lt hvl (by rw [PySem.sizeLine_eq]; decide), vs' ++ [.ref p], _, rfl, (s5.trans sp).updS htlH, upd_same, ?_⟩
          have kt5 : ∀ {b : Addr} {us : List V}, H5 b = some (.tup us) → upd (upd H5 p (.tup [xs[i], ys[i]])) tl (.lst (vs' ++ [.ref p])) b = some (.tup us) := fun {b us} e => by
            have e2 := sp _ _ e
            rw [upd_ne fun z => by rw [z, hl5] at e; cases e]
            exact e2
          rw [List.take_succ, hdi, ← List.append_assoc]
          refine paired_snoc (Paired.mapP hp5 fun _ _ ⟨t', x', y', q1, q2, q3, q4⟩ => ⟨t', x', y', q1, kt5 q2, q3, q4⟩) ⟨p, _, _, rfl, ?_, rx i _ _ hxi hdi, ry i _ _ hyi hdi⟩
          rw [upd_ne (Ne.symm hpt), upd_same]
        · rintro σ H5 ⟨vs', o3', rfl, s5, hl5, hp5⟩
          rw [Int.toNat_natCast, ly, List.take_length] at hp5
          exact ⟨_, vs', _, _, _, rfl, s5, hl5, hp5, by rw [hsz2, D.szs_app]; omega⟩
end
end Nw
namespace Nw
open PySem L2
open SL (onceS srt)
abbrev sAll : Stmt := top 27
theorem scAll : FnScope ["_law_rows"] ["_law_rows"] (defScope sAll) := ⟨rfl, rfl, rfl, by decide +kernel, rfl, by decide +kernel, by decide +kernel⟩
abbrev sWless : Stmt := top 28
theorem scWless : FnScope ["_law_rows", "_law_found", "_law_turn", "_law_left", "_law_right", "_law_rest"] ["_law_rows"] (defScope sWless) := ⟨rfl, rfl, rfl, by decide +kernel, rfl, by decide +kernel, by decide +kernel⟩
def spWless : Sp := fun vs H Q _ => ∃ (a : Addr) (R : List Row), vs = [.ref a] ∧ RowsAt H a R ∧ Small R ∧ ∀ q ms H', Same H H' → H q = none → ms.Nodup → (∀ z, z ∈ ms ↔ Gram.Made R (fun _ => False) z) → StrsAt H' q (srt ms) → Q (.ref q) H'
def ClosedE (R : List Row) (ms : List Str) : Prop := ∀ l r, (l, r) ∈ R → (∀ s ∈ r, s ∈ ms) → l ∈ ms
theorem pigeon {ms L : List Str} (nd : ms.Nodup) (h : ∀ x ∈ ms, x ∈ L) (hl : L.length ≤ ms.length) : ∀ x ∈ L, x ∈ ms := fun x hx => by
  by_cases q : x ∈ ms
  · exact q
  · exfalso
    have := Gram.nodup_len (l := x :: ms) (m := L) (List.nodup_cons.mpr ⟨q, nd⟩) fun y hy => by
      rcases List.mem_cons.mp hy with e | e
      · rw [e]; exact hx
      · exact h y e
    rw [List.length_cons] at this
    omega
abbrev sCan : Stmt := top 29
theorem scCan : FnScope ["_law_rows", "_law_signs", "_law_empty", "_law_found", "_law_words", "_law_sign"] ["_law_rows", "_law_signs", "_law_empty", "_law_found"] (defScope sCan) := ⟨rfl, rfl, rfl, by decide +kernel, rfl, by decide +kernel, by decide +kernel⟩
/-- the words that can begin the signs, as far as is known -/
def cb (es : List Str) (f : Tab) (r : List Str) : List Str := (Gram.lead es r).flatMap fun s => (f.lookup s).getD [s]
def spCan : Sp := fun vs H Q _ => ∃ (x : V) (a b c : Addr) (r es : List Str) (f : Tab), vs = [x, .ref a, .ref b, .ref c] ∧ StrsAt H a r ∧ StrsAt H b es ∧ DictL H c f ∧ r.length ≤ 20 ∧ (∀ e ∈ f, e.2.length ≤ 40) ∧ ∀ q H', Same H H' → H q = none → StrsAt H' q (cb es f r) → Q (.ref q) H'
theorem lookup_in {f : Tab} {x : Str} {ys : List Str} (h : f.lookup x = some ys) : (x, ys) ∈ f := lookup_mem h
theorem cb_len {es : List Str} {f : Tab} (hf : ∀ e ∈ f, e.2.length ≤ 40) : ∀ (l : List Str), (l.flatMap fun s => (f.lookup s).getD [s]).length ≤ 40 * l.length
  | [] => by simp
  | s :: r => by
    have ih := cb_len (es := es) hf r
    rw [List.flatMap_cons, List.length_append, List.length_cons]
    have : ((f.lookup s).getD [s]).length ≤ 40 := by
      cases e : f.lookup s with
      | none => simp
      | some ys => exact hf _ (lookup_in e)
    omega
section
variable {P : Program} {w : World} {K : PySem.W.Frag} {mg : Str → Option Value} {base : Heap}
theorem ok_all {f : Addr} {fd : FuncData} (F : Fun K "_law_all_sorts" "_law_all_sorts" sAll f fd) (T : Txt mg) : FnOk P w K mg base CX0 1 f fd ["_law_rows"] spSortsOf := by
  refine F.ok scAll (fun vs H Q E h => ?_) (fun cdv A outer s H vs Q E hr h => ?_)
  · obtain ⟨a, R, rfl, _⟩ := h
    rfl
  · obtain ⟨a, R, rfl, hR, hsm, k⟩ := h
    have hn : R.length < 64 := by have := hsm.len; omega
    refine ⟨_, pss_one (ps_ret (pe_callB (call_sorted rfl) (by rfl) T.srt PyProof.Rows.boot_sorted (pa_cons
      (pe_callTy (call_set rfl) (by rfl) T.set (by decide +kernel) (pa_cons
        (pe_comp (CompIn.plain (N := ["_law_row"]) (by rfl) (by rfl) (by decide)) rfl (pi_list (pv 0)) (fun s₃ H₃ fp => pg_name (i := 0) (show (["_law_row"] : List Str).Nodup by decide) rfl (Or.inl rfl)) (fun s₃ H₃ fp => pif_nil)
          (fun s₃ H₃ fp => pe_ix (r := rIxT K) ix_tup (pv 0) pe_int (fun _ _ => rfl))) pa_nil)) pa_nil))), ?_⟩
    obtain ⟨vs, hv, hp⟩ := hR
    have hlen : vs.length = R.length := Paired.length hp
    refine ⟨_, rfl, a, rfl, ⟨vs, SqL.of hv⟩, fun D hD => comp_list1 (K := K) (xs := vs) (fun i τ H1 => (∃ o, τ = [o]) ∧ H1 = upd H D (.lst ((R.take i).map fun p => V.str p.1))) ⟨⟨_, rfl⟩, rfl⟩ ?_ ?_ ?_⟩
    · rintro i τ H1 ⟨_, rfl⟩
      exact (Same.upd hD).seq (SqL.of hv)
    · rintro i x τ H1 hx ⟨⟨o, rfl⟩, rfl⟩
      obtain ⟨p, hpi, t, b, rfl, ht, hb⟩ := paired_get hp i x hx
      have hil : i < R.length := (List.getElem?_eq_some_iff.mp hpi).1
      refine ⟨_, rfl, t, _, 0, _, rfl, rfl, SqT.of (Same.upd hD _ _ ht), atI_nat (j := 0) rfl, _, upd_same, ?_, ⟨_, rfl⟩, ?_⟩
      · rw [List.length_map, List.length_take]
        exact small1000 (by omega)
      · rw [upd_upd, List.take_succ, hpi, List.map_append]
        rfl
    · rintro τ H1 ⟨_, rfl⟩
      rw [hlen, List.take_length]
      have em : (R.map fun p => V.str p.1) = (R.map (·.1)).map V.str := by rw [List.map_map]; rfl
      rw [em]
      refine ⟨D, R.map (·.1), rfl, SqL.of upd_same, ?_, fun q hq => ?_⟩
      · rw [List.length_map]
        unfold scanBound
        omega
      · refine ⟨q, onceS (R.map (·.1)), rfl, .inr (.inl upd_same), ?_, fun q2 hq2 => ?_⟩
        · have := SL.len_onceS (R.map (·.1))
          rw [List.length_map] at this
          omega
        · have s1 := (Same.upd (o := .lst ((R.map (·.1)).map V.str)) hD)
          have n1 : H q = none := s1.free hq
          have s2 : Same H (upd (upd H D (.lst ((R.map (·.1)).map V.str))) q (setO w q (onceS (R.map (·.1))))) := s1.trans (Same.upd hq)
          exact k q2 _ (s2.trans (Same.upd hq2)) (s2.free hq2) upd_same
theorem ok_wless {f : Addr} {fd : FuncData} (F : Fun K "_law_wordless" "_law_wordless" sWless f fd) (T : Txt mg) : FnOk P w K mg base CX0 1 f fd ["_law_rows"] spWless := by
  refine F.ok scWless (fun vs H Q E h => ?_) (fun cdv A outer s H vs Q E hr h => ?_)
  · obtain ⟨a, R, rfl, _⟩ := h
    rfl
  · obtain ⟨a, R, rfl, hR, hsm, k⟩ := h
    have hu := hu_of hr
    have hu0 : (A.deeper (PyProof.Rows.envOfC "_law_wordless" (defScope sWless) s.heap.objs.size f cdv)).units < cLine := Nat.lt_of_succ_lt hu
    refine ⟨_, pss_cons (ps_set (i := 1) scWless.nd rfl (Or.inr rfl) (pe_lst pa_nil))
      (pss_cons (ps_for PassesOwn.never rfl (pi_range1 (by rfl) T.rng (pa_cons (pe_callB call_len_seq (by rfl) T.len PySem.boot_len (pa_cons (pv 0) pa_nil)) pa_nil)) (pg_name (i := 2) scWless.nd rfl (Or.inl rfl))
        (pss_one (ps_for PassesOwn.never rfl (pi_list (pv 0)) (pg_tup (n := 2) rfl (pgs_cons (pg_name (i := 3) scWless.nd rfl (Or.inl rfl)) (pgs_cons (pg_name (i := 4) scWless.nd rfl (Or.inl rfl)) pgs_nil)))
          (pss_cons (ps_setcomp (k := 5) (CompIn.free (N := ["_law_sign", "_law_found"]) (sel := [none, some 1]) ["_law_found"] (by rfl) (by rfl) (by rfl) ?c1 ?c2 ?c3 ?c4 (by rfl) ?c5) rfl scWless.nd rfl (Or.inl rfl) (pi_list (pv 4)) (fun s₃ H₃ fp => pg_name (i := 0) (show (["_law_sign", "_law_found"] : List Str).Nodup by decide) rfl (Or.inl rfl))
              (fun s₃ H₃ fp => pif_one (pt_cmpR (r := rIn K true) op_notIn_seq (pv 0) (pv 1) (by with_unfolding_all rfl))) (fun s₃ H₃ fp => pv 0))
          (pss_one (ps_if (PW.pt (pw_and (pt_cmpR op_notIn_seq (pv 3) (pv 1) (by with_unfolding_all rfl)) (pw_and1 (pt_cmpR (op_eqNil hu0) (pv 5) (pe_lst pa_nil) (nomark _)))))
            (pss_one (ps_expr (pe_bm PySem.F.plainAttrs_list PySem.F.slot_list_append PySem.F.type_list_append mt_append (pv 1) (pa_cons (pv 3) pa_nil)))) pss_nil))))))
      (pss_one (ps_ret (pe_callB (call_sorted rfl) (by rfl) T.srt PyProof.Rows.boot_sorted (pa_cons (pv 1) pa_nil))))), ?_⟩
    case c1 => decide
    case c2 => decide
    case c3 =>
      intro x hx
      rcases List.mem_cons.mp hx with rfl | hx
      · exact ⟨rfl, rfl, _, rfl, rfl⟩
      · cases hx
    case c4 =>
      intro y hy
      rcases List.mem_cons.mp hy with rfl | hy
      · exact List.mem_cons_self ..
      · cases hy
    case c5 =>
      intro j i h
      rcases j with _ | _ | j
      · cases h
      · cases h; exact ⟨"_law_found", List.mem_cons_self .., rfl, rfl⟩
      · cases h
    obtain ⟨vs, hv, hp⟩ := id hR
    have hlen : vs.length = R.length := Paired.length hp
    have hR14 := hsm.len
    refine ⟨by decide, fun fl hfl => ?_⟩
    have s0 := Same.upd (o := HO.lst []) hfl
    have lenR : ∀ {ms : List Str}, ms.Nodup → (∀ x ∈ ms, Gram.Made R (fun _ => False) x) → ms.length ≤ R.length := fun nd so => by
      have := Gram.nodup_len nd fun x hx => (so x hx).left
      rw [List.length_map] at this
      exact this
    refine ⟨_, rfl, a, _, rfl, .inl (SqL.of (s0 _ _ hv)), _, rfl, by omega, by omega, for_range (n := (vs.length : Int).toNat)
      (fun t σ H1 => ∃ ms o1 o2 o3 o4, σ = [some (.ref a), some (.ref fl), o1, o2, o3, o4] ∧ Same H H1 ∧ StrsAt H1 fl ms ∧ ms.Nodup ∧ (∀ x ∈ ms, Gram.Made R (fun _ => False) x) ∧ (ClosedE R ms ∨ t ≤ ms.length))
      ⟨[], _, _, _, _, rfl, s0, upd_same, List.nodup_nil, fun x hx => (by cases hx), .inr (Nat.le_refl _)⟩ ?_ ?_⟩
    · rintro t σ H1 ht ⟨ms0, o1, o2, o3, o4, rfl, s1, hf1, nd0, so0, alt0⟩
      refine ⟨_, rfl, a, rfl, ⟨_, s1.seq (SqL.of hv)⟩, for_list (K := K) (a := a) (xs := vs)
        (fun i σ H2 => ∃ ms o1 o2 o3 o4, σ = [some (.ref a), some (.ref fl), o1, o2, o3, o4] ∧ Same H H2 ∧ StrsAt H2 fl ms ∧ ms.Nodup ∧ (∀ x ∈ ms, Gram.Made R (fun _ => False) x) ∧ (ClosedE R ms0 → ms = ms0) ∧
          ((ms = ms0 ∧ ∀ j l r, j < i → R[j]? = some (l, r) → (∀ s ∈ r, s ∈ ms0) → l ∈ ms0) ∨ ms0.length < ms.length))
        ⟨ms0, _, _, _, _, rfl, s1, hf1, nd0, so0, fun _ => rfl, .inl ⟨rfl, fun j l r hj => absurd hj (Nat.not_lt_zero _)⟩⟩ ?_ ?_ ?_⟩
      · rintro i σ H2 _ ⟨_, _, _, _, _, _, s2, _⟩
        exact s2.seq (SqL.of hv)
      · rintro i x σ H2 hx ⟨ms, p1, p2, p3, p4, rfl, s2, hf2, nd, so, cl, alt⟩
        obtain ⟨p, tt, c, hpi, rfl, htt, hc⟩ := rowAt_get hp hx
        have hpm : (p.1, p.2) ∈ R := List.mem_of_getElem? hpi
        have hpw := hsm.wid p hpm
        refine ⟨tt, _, rfl, SqT.of (s2 _ _ htt), rfl, _, _, rfl, _, _, rfl, rfl, ?_⟩
        have hc2 : H2 c = some (.lst (p.2.map V.str)) := s2 _ _ hc
        have hf2' : H2 fl = some (.lst (ms.map V.str)) := hf2
        refine ⟨_, rfl, c, rfl, ⟨_, SqL.of hc2⟩, fun D hD => comp_listT (K := K) (xs := p.2.map V.str)
          (fun j τ H3 => (∃ o, τ = [o, some (.ref fl)]) ∧ H3 = upd H2 D (.lst (((p.2.take j).filter (fun s => !decide (s ∈ ms))).map V.str))) ⟨⟨_, rfl⟩, rfl⟩ ?_ ?_ ?_⟩
        · rintro j τ H3 ⟨_, rfl⟩
          exact (Same.upd hD).seq (SqL.of hc2)
        · rintro j x τ H3 hx ⟨⟨o, rfl⟩, rfl⟩
          obtain ⟨y, hy, rfl⟩ := strs_get hx
          have sD := Same.upd (o := HO.lst (((p.2.take j).filter (fun s => !decide (s ∈ ms))).map V.str)) hD
          have hjl : j < p.2.length := (List.getElem?_eq_some_iff.mp hy).1
          have hle : ((p.2.take j).filter (fun s => !decide (s ∈ ms))).length ≤ p.2.length := Nat.le_trans (List.length_filter_le _ _) (by rw [List.length_take]; omega)
          refine ⟨_, rfl, _, rfl, fl, _, rfl, .inl (SqL.of (sD _ _ hf2')), rfl, flat_strs ms, _, rfl, ?_⟩
          show if (!inV (.str y) (ms.map V.str)) = true then _ else _
          rw [inV_strs]
          by_cases hyk : y ∈ ms
          · rw [decide_eq_true hyk]
            refine iteF ⟨⟨_, rfl⟩, ?_⟩
            rw [List.take_succ, hy, List.filter_append]
            have : List.filter (fun s => !decide (s ∈ ms)) (some y).toList = [] := by
              show List.filter (fun s => !decide (s ∈ ms)) [y] = []
              rw [List.filter_cons, if_neg (by rw [decide_eq_true hyk]; decide)]; rfl
            rw [this, List.append_nil]
          · rw [decide_eq_false hyk]
            refine iteT ⟨_, rfl, _, upd_same, by rw [List.length_map]; exact small1000 (by omega), ⟨_, rfl⟩, ?_⟩
            rw [upd_upd, List.take_succ, hy, List.filter_append, List.map_append]
            have : List.filter (fun s => !decide (s ∈ ms)) (some y).toList = [y] := by
              show List.filter (fun s => !decide (s ∈ ms)) [y] = [y]
              rw [List.filter_cons, if_pos (by rw [decide_eq_false hyk]; rfl)]; rfl
            rw [this]
            rfl
        · rintro τ H3 ⟨_, rfl⟩
          rw [List.length_map, List.take_length]
          have sD := Same.upd (o := HO.lst ((p.2.filter (fun s => !decide (s ∈ ms))).map V.str)) hD
          have s3 := s2.trans sD
          have hf3 := sD _ _ hf2'
          -- a way on without a change
          have same : (p.1 ∈ ms ∨ ¬ ∀ s ∈ p.2, s ∈ ms) → ((ms = ms0 ∧ ∀ j l r, j < i + 1 → R[j]? = some (l, r) → (∀ s ∈ r, s ∈ ms0) → l ∈ ms0) ∨ ms0.length < ms.length) := fun h => by
            rcases alt with ⟨e, q⟩ | q
            · left
              refine ⟨e, fun j l r hj hR' hs => ?_⟩
              rcases Nat.lt_or_ge j i with z | z
              · exact q j l r z hR' hs
              · have : j = i := by omega
                subst this
                rw [hpi] at hR'
                cases hR'
                rcases h with h | h
                · rw [← e]; exact h
                · exact absurd (by rw [e]; exact hs) h
            · exact .inr q
          refine ⟨_, rfl, _, rfl, fl, _, rfl, .inl (SqL.of hf3), rfl, flat_strs ms, _, rfl, ?_⟩
          show if (!inV (.str p.1) (ms.map V.str)) = true then _ else _
          rw [inV_strs]
          by_cases hin : p.1 ∈ ms
          · rw [decide_eq_true hin]
            exact iteF (iteF ⟨ms, _, _, _, _, rfl, s3, hf3, nd, so, cl, same (.inl hin)⟩)
          · rw [decide_eq_false hin]
            refine iteT ?_
            refine ⟨_, rfl, by decide, fun qn hqn => ?_⟩
            have sn := Same.upd (o := HO.lst []) hqn
            have s4 := s3.trans sn
            have hf4 := sn _ _ hf3
            refine ⟨D, qn, _, rfl, rfl, SqL.of (sn _ _ upd_same), SqL.of upd_same, _, rfl, ?_⟩
            by_cases hall : ∀ s ∈ p.2, s ∈ ms
            · have e : p.2.filter (fun s => !decide (s ∈ ms)) = [] := by
                rw [List.filter_eq_nil_iff]
                intro s hs
                rw [decide_eq_true (hall s hs)]
                decide
              have e2 : ((p.2.filter (fun s => !decide (s ∈ ms))).map V.str).isEmpty = true := by rw [e]; rfl
              rw [e2]
              refine iteT ?_
              have l14 := lenR nd so
              refine ⟨_, rfl, .inl ⟨rfl, _, SqL.of hf4⟩, _, rfl, fl, _, _, rfl, rfl, hf4, by rw [List.length_map]; exact small1000 (by omega), ?_⟩
              refine ⟨ms ++ [p.1], _, _, _, _, rfl, s4.updS hfl, ?_, nd_snoc nd hin, fun x hx => ?_, fun hcl => ?_, .inr ?_⟩
              · unfold StrsAt
                rw [upd_same, List.map_append]
                rfl
              · rcases List.mem_append.mp hx with q | q
                · exact so x q
                · rw [List.mem_singleton.mp q]
                  exact Gram.made_step so hpm fun s hs => .inr (hall s hs)
              · have e2 := cl hcl
                exact absurd (by rw [e2] at hall ⊢; exact hcl _ _ hpm hall) hin
              · rcases alt with ⟨e2, _⟩ | q
                · rw [e2, List.length_append, List.length_singleton]; omega
                · rw [List.length_append]; omega
            · have e : (p.2.filter (fun s => !decide (s ∈ ms))) ≠ [] := fun z => by
                apply hall
                intro s hs
                rw [List.filter_eq_nil_iff] at z
                have := z s hs
                by_cases q : s ∈ ms
                · exact q
                · rw [decide_eq_false q] at this
                  exact absurd rfl this
              have e2 : ((p.2.filter (fun s => !decide (s ∈ ms))).map V.str).isEmpty = false := by
                cases q : p.2.filter (fun s => !decide (s ∈ ms)) with
                | nil => exact absurd q e
                | cons _ _ => rfl
              rw [e2]
              exact iteF ⟨ms, _, _, _, _, rfl, s4, hf4, nd, so, cl, same (.inr hall)⟩
      · rintro σ H2 ⟨ms, p1, p2, p3, p4, rfl, s2, hf2, nd, so, cl, alt⟩
        refine ⟨ms, _, _, _, _, rfl, s2, hf2, nd, so, ?_⟩
        rcases alt with ⟨e, q⟩ | q
        · left
          subst e
          intro l r hm hs
          obtain ⟨j, hj⟩ := List.mem_iff_getElem?.mp hm
          rw [hlen] at q
          exact q j l r (List.getElem?_eq_some_iff.mp hj).1 hj hs
        · rcases alt0 with z | z
          · left
            rw [cl z]; exact z
          · right; omega
    · rintro σ H1 ⟨ms, o1, o2, o3, o4, rfl, s1, hf1, nd, so, alt⟩
      have hcl : ClosedE R ms := by
        rcases alt with z | z
        · exact z
        · intro l r hm hs
          rw [Int.toNat_natCast, hlen] at z
          exact pigeon nd (fun x hx => (so x hx).left) (by rw [List.length_map]; exact z) l (List.mem_map.mpr ⟨_, hm, rfl⟩)
      have l14 := lenR nd so
      refine ⟨_, rfl, fl, ms, rfl, .inl (SqL.of hf1), by omega, fun q hq => ?_⟩
      refine k q ms _ (s1.trans (Same.upd hq)) (s1.free hq) nd (fun z => ⟨so z, fun h => ?_⟩) upd_same
      exact Gram.made_of_closed (fun l r hm hs => hcl l r hm fun s hs' => (hs s hs').resolve_left id) h
theorem ok_can {f : Addr} {fd : FuncData} (F : Fun K "_law_can_begin" "_law_can_begin" sCan f fd) : FnOk P w K mg base CX0 1 f fd ["_law_rows", "_law_signs", "_law_empty", "_law_found"] spCan := by
  refine F.ok scCan (fun vs H Q E h => ?_) (fun cdv A outer s H vs Q E hr h => ?_)
  · obtain ⟨x, a, b, c, r, es, f, rfl, _⟩ := h
    rfl
  · obtain ⟨x, a, b, c, r, es, f, rfl, hA, hB, hC, hl, hf40, k⟩ := h
    have hu := hu_of hr
    refine ⟨_, pss_cons (ps_set (i := 4) scCan.nd rfl (Or.inl rfl) (pe_lst pa_nil))
      (pss_cons (ps_for PassesOwn.never rfl (pi_list (pv 1)) (pg_name (i := 5) scCan.nd rfl (Or.inl rfl))
        (pss_cons (ps_set (i := 4) scCan.nd rfl (Or.inl rfl) (pe_op op_cat (pv 4) (pe_dget2 hu (pv 3) (pv 5) (pe_lst (pa_cons (pv 5) pa_nil)) ⟨rfl, rfl, rfl, rfl⟩)))
        (pss_one (ps_if (pt_cmpR op_notIn_seq (pv 5) (pv 2) (by with_unfolding_all rfl)) (pss_one (ps_ret (pv 4))) pss_nil))))
      (pss_one (ps_ret (pv 4)))), ?_⟩
    refine ⟨by decide, fun q0 hq0 => ?_⟩
    have s0 := Same.upd (o := HO.lst []) hq0
    refine ⟨_, rfl, a, rfl, ⟨_, SqL.of (s0 _ _ hA)⟩, for_list (K := K) (a := a) (xs := r.map V.str)
      (fun i σ H1 => ∃ q o, σ = [some x, some (.ref a), some (.ref b), some (.ref c), some (.ref q), o] ∧ Same H H1 ∧ H q = none ∧ StrsAt H1 q ((r.take i).flatMap fun s => (f.lookup s).getD [s]) ∧ ∀ s ∈ r.take i, s ∈ es)
      ⟨q0, _, rfl, s0, hq0, upd_same, fun s hs => (by cases hs)⟩ ?_ ?_ ?_⟩
    · rintro i σ H1 _ ⟨_, _, _, s1, _⟩
      exact SqL.of (s1 _ _ hA)
    · rintro i v σ H1 hx ⟨q, o, rfl, s1, hq, hS, hall⟩
      obtain ⟨y, hy, rfl⟩ := strs_get hx
      have hil : i < r.length := (List.getElem?_eq_some_iff.mp hy).1
      refine ⟨_, rfl, _, rfl, c, rfl, ?_, _, rfl, _, rfl, (show 1 ≤ sizeLine by decide), fun q1 hq1 => ?_⟩
      · obtain ⟨kvs, h1, _⟩ := hC.mono s1
        exact .inl ⟨kvs, h1⟩
      have sq1 := Same.upd (o := HO.lst [.str y]) hq1
      have s2 := s1.trans sq1
      obtain ⟨kvs, h1, h2⟩ := hC.mono s2
      -- the list that get gives
      obtain ⟨o', l, hg, hv, hl'⟩ : ∃ o' l, DGet (upd H1 q1 (.lst [.str y])) c (.str y) o' ∧ o'.getD (.ref q1) = .ref l ∧ StrsAt (upd H1 q1 (.lst [.str y])) l ((f.lookup y).getD [y]) := by
        rcases ent_val h2 y with ⟨e1, e2⟩ | ⟨ys, l, e1, e2, e3⟩
        · refine ⟨none, q1, .inl ⟨kvs, Sum.inr y, h1, rfl, e2.symm⟩, rfl, ?_⟩
          rw [e1]
          exact upd_same
        · refine ⟨some (.ref l), l, .inl ⟨kvs, Sum.inr y, h1, rfl, e2.symm⟩, rfl, ?_⟩
          rw [e1]
          exact e3
      refine ⟨o', hg, ?_⟩
      rw [hv]
      have hS2 := sq1 _ _ hS
      have hb1 := cb_len (es := es) hf40 (r.take i)
      have hb2 := cb_len (es := es) hf40 [y]
      rw [List.flatMap_cons, List.flatMap_nil, List.append_nil] at hb2
      rw [List.length_take] at hb1
      refine ⟨q, l, _, _, rfl, rfl, hS2, hl', by rw [List.length_map, List.length_map]; simp only [List.length_singleton] at hb2; exact big_line (by omega), fun q2 hq2 => ?_⟩
      have s3 := s2.trans (Same.upd (o := HO.lst (((r.take i).flatMap fun s => (f.lookup s).getD [s]).map V.str ++ ((f.lookup y).getD [y]).map V.str)) hq2)
      have hS3 : StrsAt (upd (upd H1 q1 (.lst [.str y])) q2 (.lst (((r.take i).flatMap fun s => (f.lookup s).getD [s]).map V.str ++ ((f.lookup y).getD [y]).map V.str))) q2 ((r.take (i + 1)).flatMap fun s => (f.lookup s).getD [s]) := by
        unfold StrsAt
        rw [upd_same, List.take_succ, hy, List.flatMap_append, List.map_append]
        simp
      refine ⟨_, rfl, _, rfl, b, _, rfl, .inl (SqL.of (s3 _ _ hB)), rfl, flat_strs es, _, rfl, ?_⟩
      show if (!inV (.str y) (es.map V.str)) = true then _ else _
      rw [inV_strs]
      by_cases hin : y ∈ es
      · rw [decide_eq_true hin]
        refine iteF ⟨q2, _, rfl, s3, s2.free hq2, hS3, fun s hs => ?_⟩
        rw [List.take_succ, hy] at hs
        rcases List.mem_append.mp hs with z | z
        · exact hall s z
        · have : s = y := by simpa using z
          rw [this]; exact hin
      · rw [decide_eq_false hin]
        refine iteT ⟨_, rfl, k q2 _ s3 (s2.free hq2) ?_⟩
        unfold cb
        rw [lead_stop hall hy hin]
        exact hS3
    · rintro σ H1 ⟨q, o, rfl, s1, hq, hS, hall⟩
      rw [List.length_map, List.take_length] at hall hS
      refine ⟨_, rfl, k q _ s1 hq ?_⟩
      unfold cb
      rw [lead_all hall]
      exact hS
end
end Nw
namespace Nw
open PySem L2
open SL (onceS srt)
/-! ### a dict of lists, by a function -/
def tabF (ks : List Str) (v : Str → List Str) : Tab := ks.map fun x => (x, v x)
theorem tabF_keys (ks : List Str) (v : Str → List Str) : (tabF ks v).map (·.1) = ks := by
  induction ks with
  | nil => rfl
  | cons x r ih => show x :: (tabF r v).map (·.1) = _; rw [ih]
theorem tabF_lookup (v : Str → List Str) (x : Str) : ∀ ks : List Str, (tabF ks v).lookup x = if x ∈ ks then some (v x) else none
  | [] => rfl
  | k :: r => by
    have ih := tabF_lookup v x r
    show List.lookup x ((k, v k) :: tabF r v) = _
    rw [List.lookup_cons]
    cases e : x == k with
    | true =>
      have e := eq_of_beq e
      subst e
      simp
    | false =>
      have ne : x ≠ k := fun z => by rw [z] at e; simp at e
      dsimp only
      rw [ih]
      by_cases q : x ∈ r
      · rw [if_pos q, if_pos (List.mem_cons_of_mem _ q)]
      · rw [if_neg q, if_neg fun z => (List.mem_cons.mp z).elim ne q]
def setV (v : Str → List Str) (x : Str) (ys : List Str) : Str → List Str := fun y => if y = x then ys else v y
theorem setV_same {v : Str → List Str} {x : Str} {ys : List Str} : setV v x ys x = ys := if_pos rfl
theorem setV_ne {v : Str → List Str} {x y : Str} {ys : List Str} (h : y ≠ x) : setV v x ys y = v y := if_neg h
theorem paired_put {H H' : Hp} {l : Addr} {x : Str} {ys : List Str} {v : Str → List Str} (hl : StrsAt H' l ys) (hk : ∀ l' ss, StrsAt H l' ss → StrsAt H' l' ss) :
    ∀ {ks : List Str} {kvs : List (Key × V)}, Paired (EntAt H) kvs (tabF ks v) → Paired (EntAt H') (kvs.map fun kv => if kv.1 = (Sum.inr x : Key) then (kv.1, V.ref l) else kv) (tabF ks (setV v x ys))
  | [], _, .nil => .nil
  | k :: r, _, @Paired.cons _ _ _ kv _ kr _ ⟨h1, l', h2, h3⟩ t => by
    obtain ⟨kk, vv⟩ := kv
    have h1 : kk = Sum.inr k := h1
    have h2 : vv = .ref l' := h2
    subst h1; subst h2
    show Paired (EntAt H') (((if (Sum.inr k : Key) = Sum.inr x then ((Sum.inr k : Key), V.ref l) else ((Sum.inr k : Key), V.ref l'))) :: _) ((k, setV v x ys k) :: tabF r (setV v x ys))
    refine .cons ?_ (paired_put hl hk t)
    by_cases q : k = x
    · subst q
      rw [if_pos rfl, setV_same]
      exact ⟨rfl, l, rfl, hl⟩
    · rw [if_neg fun z => q (Sum.inr.inj z), setV_ne q]
      exact ⟨rfl, l', rfl, hk _ _ h3⟩
theorem strs_ne {H : Hp} {d l : Addr} {kvs : List (Key × V)} {ss : List Str} (hd : H d = some (.dK kvs)) (h : StrsAt H l ss) : l ≠ d := fun z => by
  have h : H l = some _ := h
  rw [z, hd] at h; cases h
theorem DictR.put {H : Hp} {d l : Addr} {ks : List Str} {v : Str → List Str} {x : Str} {ys : List Str} {kvs : List (Key × V)} (hd : H d = some (.dK kvs)) (hp : Paired (EntAt H) kvs (tabF ks v)) (hx : x ∈ ks) (hl : StrsAt H l ys) :
    DictR (upd H d (.dK (putK kvs (Sum.inr x : Key) (.ref l)))) d (tabF ks (setV v x ys)) := by
  refine ⟨_, upd_same, ?_⟩
  have e : putK kvs (Sum.inr x : Key) (V.ref l) = kvs.map fun kv => if kv.1 = (Sum.inr x : Key) then (kv.1, V.ref l) else kv := by
    unfold putK
    rw [if_pos]
    rw [valV_any]
    rcases ent_val hp x with ⟨z, _⟩ | ⟨ys', l', _, z, _⟩
    · rw [tabF_lookup, if_pos hx] at z; cases z
    · rw [z]; rfl
  have ex : ∀ l' ss, StrsAt H l' ss → StrsAt (upd H d (.dK (putK kvs (Sum.inr x : Key) (.ref l)))) l' ss := fun l' ss h => by
    unfold StrsAt
    rw [upd_ne (strs_ne hd h)]
    exact h
  have := paired_put (v := v) (x := x) (ex _ _ hl) ex hp
  rw [← e] at this
  exact this
theorem DictR.add {H : Hp} {d l : Addr} {ks : List Str} {v : Str → List Str} {x : Str} {kvs : List (Key × V)} (hd : H d = some (.dK kvs)) (hp : Paired (EntAt H) kvs (tabF ks v)) (hx : ¬ x ∈ ks) (hl : StrsAt H l (v x)) :
    DictR (upd H d (.dK (putK kvs (Sum.inr x : Key) (.ref l)))) d (tabF (ks ++ [x]) v) := by
  refine ⟨_, upd_same, ?_⟩
  have ex : ∀ l' ss, StrsAt H l' ss → StrsAt (upd H d (.dK (putK kvs (Sum.inr x : Key) (.ref l)))) l' ss := fun l' ss h => by
    unfold StrsAt
    rw [upd_ne (strs_ne hd h)]
    exact h
  have e : putK kvs (Sum.inr x : Key) (V.ref l) = kvs ++ [((Sum.inr x : Key), V.ref l)] := by
    apply putK_new
    rcases ent_val hp x with ⟨_, z⟩ | ⟨ys', l', z, _, _⟩
    · exact z
    · rw [tabF_lookup, if_neg hx] at z; cases z
  have e2 : tabF (ks ++ [x]) v = tabF ks v ++ [(x, v x)] := by unfold tabF; rw [List.map_append]; rfl
  rw [e2]
  have h1 : Paired (EntAt (upd H d (.dK (putK kvs (Sum.inr x : Key) (.ref l))))) kvs (tabF ks v) := Paired.mapP hp fun _ _ ⟨q1, l', q2, q3⟩ => ⟨q1, l', q2, ex _ _ q3⟩
  have h2 := paired_snoc h1 (x := ((Sum.inr x : Key), V.ref l)) (y := (x, v x)) ⟨rfl, l, rfl, ex _ _ hl⟩
  rw [← e] at h2
  exact h2
theorem DictR.l {H : Hp} {d : Addr} {f : Tab} (h : DictR H d f) : DictL H d f := by
  obtain ⟨kvs, h1, h2⟩ := h
  exact ⟨kvs, .inl h1, h2⟩
/-- how much is found -/
def tot (ks : List Str) (v : Str → List Str) : Nat := (ks.map fun x => (v x).length).sum
theorem tot_set : ∀ {ks : List Str} {v : Str → List Str} {x : Str} {ys : List Str}, ks.Nodup → x ∈ ks → tot ks (setV v x ys) + (v x).length = tot ks v + ys.length
  | [], _, _, _, _, h => by cases h
  | k :: r, v, x, ys, nd, h => by
    rw [List.nodup_cons] at nd
    show (setV v x ys k).length + tot r (setV v x ys) + _ = (v k).length + tot r v + _
    by_cases q : k = x
    · subst q
      have e : tot r (setV v k ys) = tot r v := by
        unfold tot
        congr 1
        apply List.map_congr_left
        intro y hy
        have : y ≠ k := fun z => nd.1 (z ▸ hy)
        rw [setV_ne this]
      rw [setV_same, e]
      omega
    · have hr : x ∈ r := (List.mem_cons.mp h).resolve_left fun z => q z.symm
      have ih := tot_set (v := v) (ys := ys) nd.2 hr
      rw [setV_ne q]
      omega
theorem tot_le {v : Str → List Str} {b : Nat} : ∀ {ks : List Str}, (∀ x ∈ ks, (v x).length ≤ b) → tot ks v ≤ b * ks.length
  | [], _ => by simp [tot]
  | k :: r, h => by
    have h1 := h k (List.mem_cons_self ..)
    have h2 := tot_le (v := v) (b := b) (ks := r) fun x hx => h x (List.mem_cons_of_mem _ hx)
    show (v k).length + tot r v ≤ b * (r.length + 1)
    rw [Nat.mul_succ]
    omega
structure Snd (R : List Row) (es ks : List Str) (v : Str → List Str) : Prop where
  nd : ∀ x ∈ ks, (v x).Nodup
  so : ∀ x ∈ ks, ∀ z ∈ v x, Gram.Beg R es x z
theorem Snd.len {R : List Row} {es ks : List Str} {v : Str → List Str} (h : Snd R es ks v) (S : Small R) {x : Str} (hx : x ∈ ks) : (v x).length ≤ 40 := S.fewS (h.nd x hx) fun z hz => (h.so x hx z hz).sign.2
theorem Snd.add {R : List Row} {es ks : List Str} {v : Str → List Str} (h : Snd R es ks v) {x z : Str} (hz : ¬ z ∈ v x) (hb : Gram.Beg R es x z) : Snd R es ks (setV v x (v x ++ [z])) where
  nd := fun y hy => by
    by_cases q : y = x
    · subst q; rw [setV_same]; exact nd_snoc (h.nd y hy) hz
    · rw [setV_ne q]; exact h.nd y hy
  so := fun y hy u hu => by
    by_cases q : y = x
    · subst q
      rw [setV_same] at hu
      rcases List.mem_append.mp hu with r | r
      · exact h.so y hy u r
      · rw [List.mem_singleton.mp r]; exact hb
    · rw [setV_ne q] at hu
      exact h.so y hy u hu
/-- a turn would bring nothing -/
def Clo (R : List Row) (es ks : List Str) (v : Str → List Str) : Prop := ∀ l r, (l, r) ∈ R → ∀ z ∈ cb es (tabF ks v) r, z ∈ v l
theorem mem_cb {es : List Str} {f : Tab} {r : List Str} {z : Str} : z ∈ cb es f r ↔ ∃ s ∈ Gram.lead es r, z ∈ (f.lookup s).getD [s] := List.mem_flatMap
theorem cb_sound {R : List Row} {es ks : List Str} {v : Str → List Str} (h : Snd R es ks v) (hk : ∀ x, x ∈ ks ↔ x ∈ R.map (·.1)) {l : Str} {r : List Str} (hm : (l, r) ∈ R) {z : Str} (hz : z ∈ cb es (tabF ks v) r) : Gram.Beg R es l z := by
  obtain ⟨s, hs, hz⟩ := mem_cb.mp hz
  rw [tabF_lookup] at hz
  by_cases q : s ∈ ks
  · rw [if_pos q] at hz
    exact .sort hm hs ((hk s).mp q) (h.so s q z hz)
  · rw [if_neg q] at hz
    have : z = s := by simpa using hz
    subst this
    exact .word hm hs fun w => q ((hk z).mpr w)
theorem clo_all {R : List Row} {es ks : List Str} {v : Str → List Str} (h : Clo R es ks v) (hk : ∀ x, x ∈ ks ↔ x ∈ R.map (·.1)) {l z : Str} (hb : Gram.Beg R es l z) : z ∈ v l := by
  refine Gram.beg_of_closed (F := v) (fun l r w hm hw hn => h l r hm w (mem_cb.mpr ⟨w, hw, ?_⟩)) (fun l r b w hm hb hs hw => h l r hm w (mem_cb.mpr ⟨b, hb, ?_⟩)) hb
  · rw [tabF_lookup, if_neg fun q => hn ((hk w).mp q)]
    exact List.mem_singleton.mpr rfl
  · rw [tabF_lookup, if_pos ((hk b).mpr hs)]
    exact hw
abbrev sBegun : Stmt := top 30
theorem scBegun : FnScope ["_law_rows", "_law_empty", "_law_found", "_law_left", "_law_going", "_law_right", "_law_word"] ["_law_rows"] (defScope sBegun) := ⟨rfl, rfl, rfl, by decide +kernel, rfl, by decide +kernel, by decide +kernel⟩
def spBegun : Sp := fun vs H Q _ => ∃ (a : Addr) (R : List Row), vs = [.ref a] ∧ RowsAt H a R ∧ Small R ∧
  ∀ d res H', Same H H' → H d = none → DictR H' d res → res.map (·.1) = sortsIn R → (∀ e ∈ res, e.2.Nodup ∧ ∀ z, z ∈ e.2 ↔ Begin R e.1 z) → Q (.ref d) H'
section
variable {P : Program} {w : World} {K : PySem.W.Frag} {mg : Str → Option Value} {base : Heap}
theorem ok_begun {f : Addr} {fd : FuncData} (F : Fun K "_law_begun_by" "_law_begun_by" sBegun f fd) (D1 : Def P w K mg base "_law_wordless" 1 ["_law_rows"] spWless) (D2 : Def P w K mg base "_law_all_sorts" 1 ["_law_rows"] spSortsOf)
    (D3 : Def P w K mg base "_law_can_begin" 1 ["_law_rows", "_law_signs", "_law_empty", "_law_found"] spCan) : FnOk P w K mg base CX0 2 f fd ["_law_rows"] spBegun := by
  refine F.ok scBegun (fun vs H Q E h => ?_) (fun cdv A outer s H vs Q E hr h => ?_)
  · obtain ⟨a, R, rfl, _⟩ := h
    rfl
  · obtain ⟨a, R, rfl, hR, hsm, k⟩ := h
    have hu := hu_of hr
    refine ⟨_, pss_cons (ps_set (i := 1) scBegun.nd rfl (Or.inl rfl) (pe_def D1 hr (by rfl) (pa_cons (pv 0) pa_nil)))
      (pss_cons (ps_set (i := 2) scBegun.nd rfl (Or.inl rfl) pe_dnewK)
      (pss_cons (ps_for PassesOwn.never rfl (pi_list (pe_def D2 hr (by rfl) (pa_cons (pv 0) pa_nil))) (pg_name (i := 3) scBegun.nd rfl (Or.inl rfl))
        (pss_one (ps_dput hu (pv 2) (pv 3) (pe_lst pa_nil) rfl)))
      (pss_cons (ps_set (i := 4) scBegun.nd rfl (Or.inl rfl) pe_bl)
      (pss_cons (ps_while PassesOwn.never (pt_val (pv 4))
        (pss_cons (ps_set (i := 4) scBegun.nd rfl (Or.inl rfl) pe_bl)
        (pss_one (ps_for PassesOwn.never rfl (pi_list (pv 0)) (pg_tup (n := 2) rfl (pgs_cons (pg_name (i := 3) scBegun.nd rfl (Or.inl rfl)) (pgs_cons (pg_name (i := 5) scBegun.nd rfl (Or.inl rfl)) pgs_nil)))
          (pss_one (ps_for PassesOwn.never rfl (pi_list (pe_def D3 hr (by rfl) (pa_cons (pv 0) (pa_cons (pv 5) (pa_cons (pv 1) (pa_cons (pv 2) pa_nil)))))) (pg_name (i := 6) scBegun.nd rfl (Or.inl rfl))
            (pss_one (ps_if (pt_cmpR op_notIn_seq (pv 6) (pe_dget hu (pv 2) (pv 3) (fun _ _ => rfl)) (by with_unfolding_all rfl))
              (pss_cons (ps_dput hu (pv 2) (pv 3) (pe_op op_cat (pe_dget hu (pv 2) (pv 3) (fun _ _ => rfl)) (pe_lst (pa_cons (pv 6) pa_nil))) rfl)
              (pss_one (ps_set (i := 4) scBegun.nd rfl (Or.inl rfl) pe_bl)))
              pss_nil)))))))) 
      (pss_one (ps_ret (pv 2))))))), ?_⟩
    obtain ⟨vs, hv, hp⟩ := id hR
    have hlen : vs.length = R.length := Paired.length hp
    have hR14 := hsm.len
    refine ⟨_, rfl, a, R, rfl, hR, hsm, fun qe ms HA sA nA ndm hmm hSA => ?_⟩
    intro d hd
    have hdH : H d = none := sA.free hd
    have s0 := Same.upd (o := HO.dK []) hd
    refine ⟨_, rfl, a, R, rfl, (hR.mono sA).mono s0, hsm, fun q HB sB nB hSB => ?_⟩
    have hks : ∀ x, x ∈ sortsIn R ↔ x ∈ R.map (·.1) := fun x => mem_sortsIn
    have hlk := len_sortsIn R
    have hSB : HB q = some (.lst ((sortsIn R).map V.str)) := hSB
    have hqd : q ≠ d := fun z => by rw [z, upd_same] at nB; cases nB
    refine ⟨q, rfl, ⟨_, SqL.of hSB⟩, for_list (K := K) (a := q) (xs := (sortsIn R).map V.str)
      (fun i σ H1 => (∃ o1 o2 o3 o4, σ = [some (.ref a), some (.ref qe), some (.ref d), o1, o2, o3, o4]) ∧ Same HA H1 ∧ H1 q = some (.lst ((sortsIn R).map V.str)) ∧ DictR H1 d (tabF ((sortsIn R).take i) fun _ => []))
      ⟨⟨_, _, _, _, rfl⟩, s0.trans sB, hSB, [], sB _ _ upd_same, .nil⟩ ?_ ?_ ?_⟩
    · rintro i σ H1 _ ⟨_, _, h1, _⟩
      exact SqL.of h1
    · rintro i x σ H1 hx ⟨⟨o1, o2, o3, o4, rfl⟩, s1, hq1, kvs, hd1, hp1⟩
      obtain ⟨y, hy, rfl⟩ := strs_get hx
      have hlp : kvs.length = ((sortsIn R).take i).length := by
        have := Paired.length hp1
        rw [this]; unfold tabF; rw [List.length_map]
      have hny : ¬ y ∈ (sortsIn R).take i := fun z => by
        obtain ⟨j, hj⟩ := List.mem_iff_getElem?.mp z
        have hji : j < i := by
          have := (List.getElem?_eq_some_iff.mp hj).1
          rw [List.length_take] at this; omega
        rw [List.getElem?_take_of_lt hji] at hj
        have := nodup_ix (nd_sortsIn R) hj hy
        omega
      refine ⟨by decide, fun p hp0 => ?_⟩
      have sp := Same.upd (o := HO.lst []) hp0
      refine ⟨_, rfl, _, rfl, d, _, rfl, DPut.k (k := Sum.inr y) (sp _ _ hd1) (by rw [hlp, List.length_take]; exact small1000 (by omega)), ?_⟩
      refine ⟨⟨_, _, _, _, rfl⟩, (s1.trans sp).updS hd, by rw [upd_ne hqd]; exact sp _ _ hq1, ?_⟩
      have hp2 : Paired (EntAt (upd H1 p (.lst []))) kvs (tabF ((sortsIn R).take i) fun _ => []) := Paired.mapP hp1 fun _ _ ⟨z1, l, z2, z3⟩ => ⟨z1, l, z2, sp _ _ z3⟩
      have := DictR.add (sp _ _ hd1) hp2 hny (l := p) upd_same
      rw [List.take_succ, hy]
      exact this
    · rintro σ H1 ⟨⟨o1, o2, o3, o4, rfl⟩, s1, _, hD1⟩
      rw [List.length_map, List.take_length] at hD1
      have hem : ∀ y, y ∈ srt ms ↔ Gram.Made R (fun _ => False) y := fun y => SL.mem_srt.trans (hmm y)
      refine ⟨fun m σ H2 => ∃ v g o1 o2 o3, σ = [some (.ref a), some (.ref qe), some (.ref d), o1, some (.bl g), o2, o3] ∧ Same HA H2 ∧ DictR H2 d (tabF (sortsIn R) v) ∧ Snd R (srt ms) (sortsIn R) v ∧ (g = false → Clo R (srt ms) (sortsIn R) v) ∧
          m = (if g = true then 1 + (40 * (sortsIn R).length - tot (sortsIn R) v) else 0),
        ⟨_, fun _ => [], true, _, _, _, rfl, s1, hD1, ⟨fun _ _ => List.nodup_nil, fun _ _ z hz => (by cases hz)⟩, fun z => (by cases z), rfl⟩, ?_⟩
      clear hD1 s1
      rintro m σ H2 ⟨v, g, o1, o2, o3, rfl, s2, hD2, snd, clo, rfl⟩
      refine ⟨_, rfl, _, rfl, ?_⟩
      cases g with
      | false =>
        refine iteF ⟨_, rfl, k d _ H2 (sA.trans s2) hdH hD2 (tabF_keys _ _) fun e he => ?_⟩
        unfold tabF at he
        obtain ⟨x, hx, rfl⟩ := List.mem_map.mp he
        refine ⟨snd.nd x hx, fun z => ?_⟩
        rw [begin_iff hem]
        exact ⟨snd.so x hx z, fun hb => clo_all (clo rfl) hks hb⟩
      | true =>
        refine iteT ⟨fun σ H3 => ∃ v' g o1 o2 o3, σ = [some (.ref a), some (.ref qe), some (.ref d), o1, some (.bl g), o2, o3] ∧ Same HA H3 ∧ DictR H3 d (tabF (sortsIn R) v') ∧ Snd R (srt ms) (sortsIn R) v' ∧ (g = false → Clo R (srt ms) (sortsIn R) v') ∧
          (g = true → tot (sortsIn R) v < tot (sortsIn R) v'), ?_, ?_⟩
        · rintro σ' H3 ⟨v', g, p1, p2, p3, rfl, q1, q2, q3, q4, q5⟩
          refine ⟨_, ?_, v', g, p1, p2, p3, rfl, q1, q2, q3, q4, rfl⟩
          cases g with
          | false => simp only [if_true]; rw [if_neg (by decide)]; omega
          | true =>
            have h1 := q5 rfl
            have h2 := tot_le (v := v') (b := 40) (ks := sortsIn R) fun x hx => q3.len hsm hx
            simp only [if_true]
            omega
        · have hvA := sA _ _ hv
          have hpA : Paired (RowAt HA) vs R := Paired.mapP hp fun _ _ q => q.mono sA
          refine ⟨_, rfl, a, rfl, ⟨_, SqL.of (s2 _ _ hvA)⟩, for_list (K := K) (a := a) (xs := vs)
            (fun i σ H3 => ∃ v' g o1 o2 o3, σ = [some (.ref a), some (.ref qe), some (.ref d), o1, some (.bl g), o2, o3] ∧ Same HA H3 ∧ DictR H3 d (tabF (sortsIn R) v') ∧ Snd R (srt ms) (sortsIn R) v' ∧
              (g = false → v' = v ∧ ∀ j l r, j < i → R[j]? = some (l, r) → ∀ z ∈ cb (srt ms) (tabF (sortsIn R) v) r, z ∈ v l) ∧ (g = true → tot (sortsIn R) v < tot (sortsIn R) v'))
            ⟨v, false, _, _, _, rfl, s2, hD2, snd, fun _ => ⟨rfl, fun j l r hj => absurd hj (Nat.not_lt_zero _)⟩, fun z => (by cases z)⟩ ?_ ?_ ?_⟩
          · rintro i σ H3 _ ⟨_, _, _, _, _, _, s3, _⟩
            exact SqL.of (s3 _ _ hvA)
          · rintro i x σ H3 hx ⟨v1, g1, o1, o2, o3, rfl, s3, hD3, snd1, alt1, inc1⟩
            obtain ⟨p, tt, c, hpi, rfl, htt, hc⟩ := rowAt_get hpA hx
            have hpm : (p.1, p.2) ∈ R := List.mem_of_getElem? hpi
            have hpw := hsm.wid p hpm
            have hpl : p.1 ∈ sortsIn R := (hks _).mpr (List.mem_map.mpr ⟨p, hpm, rfl⟩)
            refine ⟨tt, _, rfl, SqT.of (s3 _ _ htt), rfl, _, _, rfl, _, _, rfl, rfl, ?_⟩
            refine ⟨_, rfl, _, rfl, _, rfl, _, rfl, _, c, qe, d, p.2, srt ms, tabF (sortsIn R) v1, rfl, s3 _ _ hc, s3 _ _ hSA, hD3.l, hpw, ?_, fun ql H4 s4 n4 hS4 => ?_⟩
            · intro e he
              unfold tabF at he
              obtain ⟨x, hx, rfl⟩ := List.mem_map.mp he
              exact snd1.len hsm hx
            generalize hW : cb (srt ms) (tabF (sortsIn R) v1) p.2 = W at hS4
            have hWs : ∀ z ∈ W, Gram.Beg R (srt ms) p.1 z := fun z hz => cb_sound snd1 hks hpm (by rw [hW]; exact hz)
            have hS4 : H4 ql = some (.lst (W.map V.str)) := hS4
            have hD4 := hD3.mono s4
            have hqld : ql ≠ d := by
              obtain ⟨kvs, z, _⟩ := hD4
              exact strs_ne z hS4
            refine ⟨ql, rfl, ⟨_, SqL.of hS4⟩, for_list (K := K) (a := ql) (xs := W.map V.str)
              (fun j σ H5 => ∃ v' g o3, σ = [some (.ref a), some (.ref qe), some (.ref d), some (.str p.1), some (.bl g), some (.ref c), o3] ∧ Same HA H5 ∧ H5 ql = some (.lst (W.map V.str)) ∧ DictR H5 d (tabF (sortsIn R) v') ∧ Snd R (srt ms) (sortsIn R) v' ∧
                (g = false → g1 = false ∧ v' = v1 ∧ ∀ z ∈ W.take j, z ∈ v1 p.1) ∧ (g = true → tot (sortsIn R) v < tot (sortsIn R) v'))
              ⟨v1, g1, _, rfl, s3.trans s4, hS4, hD4, snd1, fun z => ⟨z, rfl, fun z hz => (by cases hz)⟩, inc1⟩ ?_ ?_ ?_⟩
            · rintro j σ H5 _ ⟨_, _, _, _, _, z, _⟩
              exact SqL.of z
            · rintro j x σ H5 hx ⟨v2, g2, o4, rfl, s5, hq5, hD5, snd2, alt2, inc2⟩
              obtain ⟨y, hy, rfl⟩ := strs_get hx
              obtain ⟨kvs, hd5, hp5⟩ := id hD5
              obtain ⟨l, hg5, hl5⟩ := hD5.l.get (x := p.1) (by rw [tabF_keys]; exact hpl)
              have egl : getL (tabF (sortsIn R) v2) p.1 = v2 p.1 := by unfold getL; rw [tabF_lookup, if_pos hpl]; rfl
              rw [egl] at hl5
              refine ⟨_, rfl, _, rfl, _, rfl, d, _, rfl, hg5, l, _, rfl, .inl (SqL.of hl5), rfl, flat_strs _, _, rfl, ?_⟩
              show if (!inV (.str y) ((v2 p.1).map V.str)) = true then _ else _
              rw [inV_strs]
              by_cases hin : y ∈ v2 p.1
              · rw [decide_eq_true hin]
                refine iteF ⟨v2, g2, _, rfl, s5, hq5, hD5, snd2, fun z => ?_, inc2⟩
                obtain ⟨e1, e2, e3⟩ := alt2 z
                refine ⟨e1, e2, fun u hu => ?_⟩
                rw [List.take_succ, hy] at hu
                rcases List.mem_append.mp hu with r | r
                · exact e3 u r
                · have : u = y := by simpa using r
                  rw [this, ← e2]; exact hin
              · rw [decide_eq_false hin]
                refine iteT ?_
                have hl40 := snd2.len hsm hpl
                refine ⟨_, rfl, _, rfl, d, _, rfl, hg5, _, rfl, (show 1 ≤ sizeLine by decide), fun p1 hp1 => ?_⟩
                have sp1 := Same.upd (o := HO.lst [V.str y]) hp1
                refine ⟨l, p1, _, _, rfl, rfl, sp1 _ _ hl5, upd_same, by rw [List.length_map]; exact big_line (by simp; omega), fun p2 hp2 => ?_⟩
                have sp2 := Same.upd (o := HO.lst ((v2 p.1).map V.str ++ [V.str y])) hp2
                have sp := sp1.trans sp2
                have hd6 := sp _ _ hd5
                have hp6 : Paired (EntAt (upd (upd H5 p1 (.lst [V.str y])) p2 (.lst ((v2 p.1).map V.str ++ [V.str y])))) kvs (tabF (sortsIn R) v2) := Paired.mapP hp5 fun _ _ ⟨z1, l, z2, z3⟩ => ⟨z1, l, z2, sp _ _ z3⟩
                have hl6 : StrsAt (upd (upd H5 p1 (.lst [V.str y])) p2 (.lst ((v2 p.1).map V.str ++ [V.str y]))) p2 (v2 p.1 ++ [y]) := by
                  unfold StrsAt
                  rw [upd_same, List.map_append]
                  rfl
                have hkl : kvs.length < sizeLine := by
                  have := Paired.length hp5
                  unfold tabF at this
                  rw [List.length_map] at this
                  exact small1000 (by omega)
                refine ⟨_, rfl, _, rfl, d, _, rfl, DPut.k (k := Sum.inr p.1) hd6 hkl, ?_⟩
                have htot := tot_set (v := v2) (ys := v2 p.1 ++ [y]) (nd_sortsIn R) hpl
                rw [List.length_append, List.length_singleton] at htot
                refine ⟨setV v2 p.1 (v2 p.1 ++ [y]), true, _, rfl, (s5.trans sp).updS hd, by rw [upd_ne hqld]; exact sp _ _ hq5, DictR.put hd6 hp6 hpl hl6, snd2.add hin (hWs y (List.mem_of_getElem? hy)), fun z => (by cases z), fun _ => ?_⟩
                cases g2 with
                | true => have := inc2 rfl; omega
                | false =>
                  obtain ⟨e1, e2, _⟩ := alt2 rfl
                  subst e2
                  obtain ⟨e3, _⟩ := alt1 e1
                  rw [← e3]; omega
            · rintro σ H5 ⟨v2, g2, o4, rfl, s5, hq5, hD5, snd2, alt2, inc2⟩
              refine ⟨v2, g2, _, _, _, rfl, s5, hD5, snd2, fun z => ?_, inc2⟩
              obtain ⟨e1, e2, e3⟩ := alt2 z
              rw [List.length_map, List.take_length] at e3
              obtain ⟨e4, e5⟩ := alt1 e1
              refine ⟨e2.trans e4, fun j l r hj hR' u hu => ?_⟩
              rcases Nat.lt_or_ge j i with h | h
              · exact e5 j l r h hR' u hu
              · have : j = i := by omega
                subst this
                rw [hpi] at hR'
                cases hR'
                rw [← e4]
                refine e3 u ?_
                rw [← hW, e4]
                exact hu
          · rintro σ H3 ⟨v1, g1, o1, o2, o3, rfl, s3, hD3, snd1, alt1, inc1⟩
            refine ⟨v1, g1, _, _, _, rfl, s3, hD3, snd1, fun z => ?_, inc1⟩
            obtain ⟨e1, e2⟩ := alt1 z
            subst e1
            intro l r hm u hu
            obtain ⟨j, hj⟩ := List.mem_iff_getElem?.mp hm
            exact e2 j l r (by rw [hlen]; exact (List.getElem?_eq_some_iff.mp hj).1) hj u hu
end
end Nw
namespace L2
open PySem PySem.Spec PyProof.Rows
section
variable {X : Cx} {st : Stmt} {rest : List Stmt} {t u : TS}
/-- a statement and what follows, with what holds between them -/
def tMid (t u : TS) : TS := fun D σ H => ∃ N : St → Hp → Prop, t { D with nx := N } σ H ∧ ∀ σ' H', N σ' H' → u D σ' H'
theorem pss_mid (h1 : PS X st t) (h2 : PSs X rest u) : PSs X (st :: rest) (tMid t u) := by
  intro pins s σ H D I h
  obtain ⟨N, h, k⟩ := h
  refine wpAny_execs_cons (thn (h1 pins s σ H { D with nx := N } I h) fun f s1 q => ?_)
  cases f with
  | next =>
    obtain ⟨σ', H', I', q⟩ := q
    exact h2 pins s1 σ' H' D I' (k _ _ q)
  | ret v => exact q
  | brk => exact q
  | cont => exact q
end
theorem star_cons {e : Expr} {es : List Expr} {env : Env} (h : ∀ a p, e ≠ .Starred a p) : starEach (e :: es) env = (false, eval e env) :: starEach es env := by
  rw [starEach]
  intro a p z
  exact h a p z
/-- an item that is not starred: by its kind alone -/
theorem pa_c {X : Cx} {e : Expr} {es : List Expr} {te : TE} {t : TA} (ha : PE X e te) (hr : PA X es t) (hs : ∀ a p, e ≠ Expr.Starred a p := by intro _ _ h; cases h) : PA X (e :: es) (tCons te t) := pa_cons ha hr (star_cons hs)
/-- a method with one argument -/
theorem pe_bm1 {X : Cx} {o e : Expr} {to : TE} {t : TA} {name : Str} {apos cpos : Pos} {T id : String} {r : V → List V → Hp → VK → Prop} (pa : PlainAttrs T) (slot : Slot T name id) (hty : typeOf (.builtin id) = pure (.type "method_descriptor")) (hm : MtR X id r) (ho : PE X o to) (ha : PA X [e] t)
    (hbase : attributeBase o name X.env (eval o X.env) = eval o X.env := by rfl) (hline : (apos.endLine == cpos.line) = true := by rfl) (hs : ∀ a p, e ≠ Expr.Starred a p := by intro _ _ h; cases h) : PE X (.Call (.Attribute o name apos) [e] [] cpos) (tBM X.K T r to t) :=
  pe_bm pa slot hty hm ho ha hbase (by rw [star_cons hs]; rfl) hline (star_cons hs) rfl
theorem str_len_cat (a b : Str) : (a ++ b).length = a.length + b.length := by
  show (a.cps ++ b.cps).size = a.cps.size + b.cps.size
  rw [Array.size_append]
end L2
namespace Nw
open PySem L2
open SL (onceS srt)
abbrev sAny : Stmt := top 32
theorem scAny : FnScope ["_law_cell", "_law_left", "_law_word"] ["_law_cell"] (defScope sAny) := ⟨rfl, rfl, rfl, by decide +kernel, rfl, by decide +kernel, by decide +kernel⟩
def spAny : Sp := fun vs H Q _ => ∃ (c : Int), vs = [.int c] ∧ ∀ z : Str, z.length ≤ 40 → Q (.str z) H
abbrev sRoom : Stmt := top 33
theorem scRoom : FnScope ["_law_script", "_law_most", "_law_bound"] ["_law_script", "_law_most", "_law_bound"] (defScope sRoom) := ⟨rfl, rfl, rfl, by decide +kernel, rfl, by decide +kernel, by decide +kernel⟩
def spRoom (K : PySem.W.Frag) : Sp := fun vs H Q _ => ∃ (a : Addr) (xs : List V) (x y : V), vs = [.ref a, x, y] ∧ SqL K H a xs ∧ xs.length ≤ 63 ∧ Q x H
theorem boot_abs : bootBuiltins "abs" = some (.builtin "abs") := by decide +kernel
/-- one of a text's signs -/
theorem at_mod {α : Type} {xs : List α} {n : Int} (hn : n = (xs.length : Int)) (h0 : 0 < n) (c : Int) : ∃ (j : Nat) (v : α), xs[j]? = some v ∧ c % n = (j : Int) ∧ atI xs (c % n) = some v := by
  have h1 := Int.emod_nonneg c (Int.ne_of_gt h0)
  have h2 := Int.emod_lt_of_pos c h0
  obtain ⟨j, hj⟩ := Int.eq_ofNat_of_zero_le h1
  have hjl : j < xs.length := by omega
  have hg : xs[j]? = some xs[j] := List.getElem?_eq_getElem hjl
  exact ⟨j, xs[j], hg, hj, by rw [hj]; exact atI_nat hg⟩
theorem pow_step {l : Int} {e : Nat} (h0 : 0 ≤ l) (h : l < 26 ^ e) (h1 : 0 ≤ l / 26 - 1) : ∃ e', e = e' + 1 ∧ l / 26 - 1 < 26 ^ e' := by
  cases e with
  | zero => simp at h; omega
  | succ e =>
    refine ⟨e, rfl, ?_⟩
    rw [Int.pow_succ] at h
    generalize (26 : Int) ^ e = p at *
    omega
section
variable {P : Program} {w : World} {K : PySem.W.Frag} {mg : Str → Option Value} {base : Heap}
theorem ok_room {f : Addr} {fd : FuncData} (F : Fun K "_law_room" "_law_room" sRoom f fd) (T : Txt mg) : FnOk P w K mg base CX0 1 f fd ["_law_script", "_law_most", "_law_bound"] (spRoom K) := by
  refine F.ok scRoom (fun vs H Q E h => ?_) (fun cdv A outer s H vs Q E hr h => ?_)
  · obtain ⟨a, xs, x, y, rfl, _⟩ := h
    rfl
  · obtain ⟨a, xs, x, y, rfl, hx, hl, k⟩ := h
    refine ⟨_, pss_cons (ps_if (pt_cmpR op_gt (pe_callB call_len_seq (by rfl) T.len PySem.boot_len (pa_cons (pv 0) pa_nil)) pe_int (nomark _)) pss_never pss_nil) (pss_one (ps_ret (pv 1))), ?_⟩
    refine ⟨_, rfl, a, xs, rfl, .inl hx, _, _, rfl, rfl, _, rfl, ?_⟩
    rw [decide_eq_false (by omega)]
    exact iteF ⟨_, rfl, k⟩
theorem ok_any {f : Addr} {fd : FuncData} (F : Fun K "_law_any_word" "_law_any_word" sAny f fd) (T : Txt mg) : FnOk P w K mg base CX0 1 f fd ["_law_cell"] spAny := by
  refine F.ok scAny (fun vs H Q E h => ?_) (fun cdv A outer s H vs Q E hr h => ?_)
  · obtain ⟨c, rfl, _⟩ := h
    rfl
  · obtain ⟨c, rfl, k⟩ := h
    refine ⟨_, pss_cons (ps_set (i := 1) scAny.nd rfl (Or.inl rfl) (pe_op op_mod (pe_callB call_abs (by rfl) T.abs boot_abs (pa_cons (pv 0) pa_nil)) (pe_op op_pow pe_int pe_int)))
      (pss_cons (ps_set (i := 2) scAny.nd rfl (Or.inl rfl) pe_str)
      (pss_cons (ps_while PassesOwn.never (pt_cmpR op_ge (pv 1) pe_int (nomark _))
        (pss_cons (ps_set (i := 2) scAny.nd rfl (Or.inl rfl) (pe_op op_add_str (pe_ix (r := rIxS) ix_str pe_str (pe_op op_mod (pv 1) pe_int) (fun _ _ => rfl)) (pv 2)))
        (pss_one (ps_set (i := 1) scAny.nd rfl (Or.inl rfl) (pe_op op_sub (pe_op op_fdiv (pv 1) pe_int) pe_int)))))
      (pss_one (ps_ret (pv 2))))), ?_⟩
    refine ⟨_, rfl, c, rfl, _, _, rfl, rfl, ⟨by decide, by decide, by decide⟩, _, _, rfl, rfl, (show (0 : Int) < (10 : Int) ^ (39 : Int).toNat by decide +kernel), ?_⟩
    show tSeq _ _ _ _ _
    dsimp only
    generalize hn : (if c < 0 then -c else c) = n
    have b0 := Int.emod_nonneg n (show (10 : Int) ^ (39 : Int).toNat ≠ 0 by decide +kernel)
    have b1 := Int.emod_lt_of_pos n (show (0 : Int) < (10 : Int) ^ (39 : Int).toNat by decide +kernel)
    have b2 : (10 : Int) ^ (39 : Int).toNat < 26 ^ 28 := by decide +kernel
    generalize n % (10 : Int) ^ (39 : Int).toNat = l0 at b0 b1
    refine ⟨fun m σ H1 => ∃ (l : Int) (z : Str), σ = [some (.int c), some (.int l), some (.str z)] ∧ H1 = H ∧ m = (l + 1).toNat ∧ ((l < 0 ∧ z.length ≤ 30) ∨ (0 ≤ l ∧ ∃ e, l < 26 ^ e ∧ z.length + e ≤ 29)),
      ⟨_, l0, "", rfl, rfl, rfl, .inr ⟨b0, 28, Int.lt_trans b1 b2, by decide⟩⟩, ?_⟩
    rintro m σ H1 ⟨l, z, rfl, rfl, rfl, alt⟩
    refine ⟨_, rfl, _, _, rfl, rfl, _, rfl, ?_⟩
    by_cases hl : 0 ≤ l
    · rw [decide_eq_true hl]
      obtain ⟨_, e, he, hz⟩ := alt.resolve_left fun q => by omega
      refine iteT ⟨fun σ H2 => ∃ (l' : Int) (z' : Str), σ = [some (.int c), some (.int l'), some (.str z')] ∧ H2 = H1 ∧ l' < l ∧ ((l' < 0 ∧ z'.length ≤ 30) ∨ (0 ≤ l' ∧ ∃ e, l' < 26 ^ e ∧ z'.length + e ≤ 29)), ?_, ?_⟩
      · rintro σ' H2 ⟨l', z', rfl, rfl, q1, q2⟩
        exact ⟨_, by omega, l', z', rfl, rfl, rfl, q2⟩
      · obtain ⟨j, ch, hj, _, hat⟩ := at_mod (xs := (Str.ofString "abcdefghijklmnopqrstuvwxyz").cps.toList) (n := 26) (by decide +kernel) (by decide) l
        have hlen : ((⟨#[ch]⟩ : Str) ++ z).length = 1 + z.length := str_len_cat _ _
        refine ⟨_, rfl, _, _, rfl, rfl, (show (0 : Int) < 26 by decide), _, _, ch, rfl, rfl, by decide +kernel, hat, _, rfl, _, _, rfl, rfl, ?_, ?_⟩
        · show 1 + z.length ≤ _
          exact big_line (by omega)
        refine ⟨_, rfl, _, _, rfl, rfl, ⟨by decide, by decide⟩, _, _, rfl, rfl, l / 26 - 1, _, rfl, rfl, by omega, ?_⟩
        rcases Int.lt_or_le (l / 26 - 1) 0 with q | q
        · exact .inl ⟨q, by rw [hlen]; omega⟩
        · obtain ⟨e', rfl, h2⟩ := pow_step hl he q
          exact .inr ⟨q, e', h2, by rw [hlen]; omega⟩
    · rw [decide_eq_false hl]
      refine iteF ⟨_, rfl, k z ?_⟩
      rcases alt with q | q
      · omega
      · exact absurd q.1 hl
end
end Nw
/-! THE RULES once more, over predicates that are not opened while a large term is put together -/
namespace L2
open PySem PySem.Spec PyProof.Rows
@[irreducible] def PEi (X : Cx) (e : Expr) (t : TE) : Prop := PE X e t
@[irreducible] def PTi (X : Cx) (e : Expr) (t : TT) : Prop := PT X e t
@[irreducible] def PAi (X : Cx) (es : List Expr) (t : TA) : Prop := PA X es t
@[irreducible] def PSi (X : Cx) (st : Stmt) (t : TS) : Prop := PS X st t
@[irreducible] def PSsi (X : Cx) (st : List Stmt) (t : TS) : Prop := PSs X st t
@[irreducible] def PPsi (X : Cx) (pos : Pos) (ks : List (Option Expr)) (vs : List Expr) (trs : List (TE × TE)) : Prop := PPs X pos ks vs trs
section
variable {X : Cx} {e a b c : Expr} {es : List Expr} {te ta tb : TE} {tt : TT} {tA : TA} {st : Stmt} {sts : List Stmt} {t u : TS} {pos p : Pos}
theorem PEi.of (h : PE X e te) : PEi X e te := by unfold PEi; exact h
theorem PEi.to (h : PEi X e te) : PE X e te := by unfold PEi at h; exact h
theorem PTi.of (h : PT X e tt) : PTi X e tt := by unfold PTi; exact h
theorem PTi.to (h : PTi X e tt) : PT X e tt := by unfold PTi at h; exact h
theorem PAi.of (h : PA X es tA) : PAi X es tA := by unfold PAi; exact h
theorem PAi.to (h : PAi X es tA) : PA X es tA := by unfold PAi at h; exact h
theorem PSi.of (h : PS X st t) : PSi X st t := by unfold PSi; exact h
theorem PSi.to (h : PSi X st t) : PS X st t := by unfold PSi at h; exact h
theorem PSsi.of (h : PSs X sts t) : PSsi X sts t := by unfold PSsi; exact h
theorem PSsi.to (h : PSsi X sts t) : PSs X sts t := by unfold PSsi at h; exact h
theorem PPsi.of {ks : List (Option Expr)} {vs : List Expr} {trs : List (TE × TE)} (h : PPs X pos ks vs trs) : PPsi X pos ks vs trs := by unfold PPsi; exact h
theorem PPsi.to {ks : List (Option Expr)} {vs : List Expr} {trs : List (TE × TE)} (h : PPsi X pos ks vs trs) : PPs X pos ks vs trs := by unfold PPsi at h; exact h
theorem ie_int {i j pos} : PEi X (.Constant (.int i) j pos) (tC (.int i)) := .of pe_int
theorem ie_str {x j pos} : PEi X (.Constant (.str x) j pos) (tC (.str x)) := .of pe_str
theorem iv (i : Nat) {x : Str} {pos : Pos} (hN : X.N[i]? = some x := by rfl) (hv : Vis X.env.scope x := by first | exact Or.inl rfl | exact Or.inr (Or.inl rfl) | exact Or.inr (Or.inr rfl)) (hd : (x == ("__debug__" : Str)) = false := by decide)
    (hcd : (x == ("__classdict__" : Str)) = false := by decide) : PEi X (.Name x pos) (tVar i) := .of (pe_var hN hv hd hcd)
theorem ia_nil : PAi X [] tNil := .of pa_nil
theorem ia_c (ha : PEi X e te) (hr : PAi X es tA) (hs : ∀ a p, e ≠ Expr.Starred a p := by intro _ _ h; cases h) : PAi X (e :: es) (tCons te tA) := .of (pa_c ha.to hr.to hs)
theorem ie_lst (h : PAi X es tA) : PEi X (.List es pos) (tLst tA) := .of (pe_lst h.to)
theorem ie_tup {x1} (h : PAi X es tA) : PEi X (.Tuple es x1 pos) (tTup tA) := .of (pe_tup h.to)
theorem ie_op {op : Operator} {r : R2} (ho : OpR X (binaryOp op) r) (ha : PEi X a ta) (hb : PEi X b tb) : PEi X (.BinOp a op b pos) (tOp r ta tb) := .of (pe_op ho ha.to hb.to)
theorem ie_ix {r : R2} (hr : IxR X r) (ha : PEi X a ta) (hb : PEi X b tb) (hs : PlainIx b) : PEi X (.Subscript a b pos) (tOp r ta tb) := .of (pe_ix hr ha.to hb.to hs)
theorem it_cmpR {op : CmpOp} {r : R2} (ho : OpR X (compareOp op) r) (ha : PEi X a ta) (hb : PEi X b tb) (hm : behindInMarks op b = false) : PTi X (.Compare a [op] [b] pos) (tTest (tOp r ta tb)) := .of (pt_cmpR ho ha.to hb.to hm)
theorem it_val (h : PEi X e te) (he : ∀ whole, isTrue e X.env whole = (do let v ← whole; standAt e.pos; holding [v] (truthy v)) := by intro _; rfl) : PTi X e (tB te) := .of (pt_val h.to he)
theorem ie_callB {x : Str} {id : String} {r : List V → Hp → VK → Prop} (hc : CallR X (.builtin id) r) (hg : Gl X x) (hm : X.mg x = none) (hv : bootBuiltins x = some (.builtin id)) (ha : PAi X [e] tA) (hn : x ≠ "__name__" := by decide) (hdb : (x == ("__debug__" : Str)) = false := by decide)
    (hs : ∀ a p, e ≠ Expr.Starred a p := by intro _ _ h; cases h) : PEi X (.Call (.Name x p) [e] [] pos) (tCB r tA) := .of (pe_callB hc hg hm hv ha.to hn hdb (star_cons hs) rfl)
theorem ie_def {x : Str} {k : Nat} {ps : List Str} {sp : Sp} (D : Nw.Def X.prog X.w X.K X.mg X.base x k ps sp) (hr : Room k X.A) (hg : Gl X x) (ha : PAi X (e :: es) tA) (hdb : (x == ("__debug__" : Str)) = false := by decide)
    (hs : ∀ a p, e ≠ Expr.Starred a p := by intro _ _ h; cases h) (hpl : (backTo pos (starEach es X.env)).any (·.1) = false := by rfl) : PEi X (.Call (.Name x p) (e :: es) [] pos) (tCall sp [] E0 tA) := .of (Nw.pe_def D hr hg ha.to hdb (star_cons hs) hpl)
theorem ie_bm {o : Expr} {to : TE} {name : Str} {apos cpos : Pos} {T id : String} {r : V → List V → Hp → VK → Prop} (pa : PlainAttrs T) (slot : Slot T name id) (hty : typeOf (.builtin id) = pure (.type "method_descriptor")) (hm : MtR X id r) (ho : PEi X o to) (ha : PAi X [e] tA)
    (hbase : attributeBase o name X.env (eval o X.env) = eval o X.env := by rfl) (hline : (apos.endLine == cpos.line) = true := by rfl) (hs : ∀ a p, e ≠ Expr.Starred a p := by intro _ _ h; cases h) : PEi X (.Call (.Attribute o name apos) [e] [] cpos) (tBM X.K T r to tA) := .of (pe_bm1 pa slot hty hm ho.to ha.to hbase hline hs)
theorem is_set {i : Nat} {x : Str} {pos' : Pos} (hN : X.N.Nodup) (hi : X.N[i]? = some x) (hx : Loc X.env.scope x) (he : PEi X e te) (hs : swapsWith e (some (.Name x pos')) pos.line X.env = pure false := by rfl) (hf : X.fn x = true ∨ X.env.scope.names.lookup x = some .local := by first | exact .inl rfl | exact .inr rfl | assumption) :
    PSi X (.Assign [.Name x pos'] e pos) (tAsg te (gName i)) := .of (ps_set hN hi hx he.to hs hf)
theorem is_expr (he : PEi X e te) (hs : swapsWith e none pos.line X.env = pure false := by rfl) : PSi X (.Expr e pos) (tDrop te) := .of (ps_expr he.to hs)
theorem is_ret (he : PEi X e te) : PSi X (.Return (some e) pos) (tRet te) := .of (ps_ret he.to)
theorem is_if {a b : List Stmt} (hc : PTi X c tt) (ha : PSsi X a t) (hb : PSsi X b u) : PSi X (.If c a b pos) (tIfS tt t u) := .of (ps_if hc.to ha.to hb.to)
theorem is_for {tg iter : Expr} {body : List Stmt} {wi : TI} {g : TG} {tb : TS} (hp : PassesOwn (model X.prog X.w) X.A X.env X.xe) (hc : X.calm = true) (hi : PI X tg iter wi) (hg : PG X tg g) (hb : PSsi X body tb)
    (hs : ∀ x, foldedSetIterable iter X.env x = pure x := by intro _; rfl) : PSi X (.For tg iter body [] pos) (tFor wi g tb) := .of (ps_for hp hc hi hg hb.to hs)
theorem iss_nil : PSsi X [] tNext := .of pss_nil
theorem iss_one (h : PSi X st t) : PSsi X [st] t := .of (pss_one h.to)
theorem iss_cons (h1 : PSi X st t) (h2 : PSsi X sts u) : PSsi X (st :: sts) (tSeq t u) := .of (pss_cons h1.to h2.to)
theorem iss_mid (h1 : PSi X st t) (h2 : PSsi X sts u) : PSsi X (st :: sts) (tMid t u) := .of (pss_mid h1.to h2.to)
theorem exI {Q : TS → Prop} (h : ∃ t, PSsi X sts t ∧ Q t) : ∃ t, PSs X sts t ∧ Q t := by
  obtain ⟨t, h1, h2⟩ := h
  exact ⟨t, h1.to, h2⟩
theorem ips_nil : PPsi X pos [] [] [] := .of pps_nil
theorem ips_cons {k v : Expr} {ks : List (Option Expr)} {vs : List Expr} {tk tv : TE} {trs : List (TE × TE)} (hk : PEi X k tk) (hv : PEi X v tv) (hr : PPsi X pos ks vs trs) : PPsi X pos (some k :: ks) (v :: vs) ((tk, tv) :: trs) := .of (pps_cons hk.to hv.to hr.to)
theorem ie_disp {keys : List (Option Expr)} {values : List Expr} {trs : List (TE × TE)} (h : PPsi X pos keys values trs) (hall : keys.all (·.isSome) = true) (hl : keys.length = values.length) (h0 : keys ≠ []) (h15 : keys.length ≤ 15) : PEi X (.Dict keys values pos) (tDisp trs) := .of (pe_disp h.to hall hl h0 h15)
end
end L2
namespace Nw
open PySem L2
open SL (onceS srt)
abbrev sDrawn : Stmt := top 26
theorem scDrawn : FnScope ["_law_cells", "_law_wild", "_law_rows", "_law_k", "_law_word", "_law_left", "_law_rights", "_law_row"] ["_law_cells", "_law_wild"] (defScope sDrawn) := ⟨rfl, rfl, rfl, by decide +kernel, rfl, by decide +kernel, by decide +kernel⟩
def base3 : List Row := [("S", ["s", "A"]), ("A", ["t", "B"]), ("B", ["u"])]
def lefts3 : List Str := ["S", "A", "B"]
def signs7 : List Str := ["S", "A", "B", "s", "t", "u", "x"]
/-- rows as they are drawn: the first three, and at most k others, of at most k other words -/
structure Drawn (k : Nat) (R : List Row) : Prop where
  sh : ∃ more, R = base3 ++ more ∧ more.length ≤ k
  lf : ∀ p ∈ R, p.1 ∈ lefts3
  wd : ∀ p ∈ R, p.2.length ≤ 14
  sg : ∃ U : List Str, U.length ≤ k ∧ ∀ p ∈ R, ∀ x ∈ p.2, x ∈ U ++ signs7
theorem drawn0 : Drawn 0 base3 where
  sh := ⟨[], rfl, Nat.le_refl _⟩
  lf := by decide +kernel
  wd := by decide +kernel
  sg := ⟨[], Nat.le_refl _, by decide +kernel⟩
theorem Drawn.stay {k : Nat} {R : List Row} (h : Drawn k R) : Drawn (k + 1) R where
  sh := let ⟨m, e, q⟩ := h.sh; ⟨m, e, by omega⟩
  lf := h.lf
  wd := h.wd
  sg := let ⟨U, e, q⟩ := h.sg; ⟨U, by omega, q⟩
theorem Drawn.add {k : Nat} {R : List Row} (h : Drawn k R) {p : Row} {w : Str} (h1 : p.1 ∈ lefts3) (h2 : p.2.length ≤ 14) (h3 : ∀ x ∈ p.2, x = w ∨ x ∈ signs7) : Drawn (k + 1) (R ++ [p]) where
  sh := let ⟨m, e, q⟩ := h.sh; ⟨m ++ [p], by rw [e, List.append_assoc], by rw [List.length_append, List.length_singleton]; omega⟩
  lf := fun q hq => by
    rcases List.mem_append.mp hq with z | z
    · exact h.lf q z
    · rw [List.mem_singleton.mp z]; exact h1
  wd := fun q hq => by
    rcases List.mem_append.mp hq with z | z
    · exact h.wd q z
    · rw [List.mem_singleton.mp z]; exact h2
  sg := let ⟨U, e, q⟩ := h.sg; ⟨w :: U, by rw [List.length_cons]; omega, fun p' hp x hx => by
    rcases List.mem_append.mp hp with z | z
    · exact List.mem_cons_of_mem _ (q p' z x hx)
    · rw [List.mem_singleton.mp z] at hx
      rcases h3 x hx with r | r
      · rw [r]; exact List.mem_cons_self ..
      · exact List.mem_cons_of_mem _ (List.mem_append_right _ r)⟩
def spDrawn : Sp := fun vs H Q _ => ∃ (a : Addr) (ns : List Int), vs = [.ref a, .bl true] ∧ H a = some (.lst (ns.map V.int)) ∧ ns.length ≤ 4 ∧ ∀ q R H', Same H H' → RowsAt H' q R → Drawn 4 R → Q (.ref q) H'
/-! ### lists that may be chosen -/
def ChAt (H0 H : Hp) (r : Addr) (v : V) (ss : List Str) : Prop := ∃ b, v = .ref b ∧ StrsAt H b ss ∧ H0 b = none ∧ b ≠ r
def Chs (H0 H : Hp) (r : Addr) (sss : List (List Str)) : Prop := ∃ vs, H r = some (.lst vs) ∧ Paired (ChAt H0 H r) vs sss ∧ H0 r = none
theorem ChAt.mono {H0 H H' : Hp} {r : Addr} {v : V} {ss : List Str} (s : Same H H') (h : ChAt H0 H r v ss) : ChAt H0 H' r v ss := by
  obtain ⟨b, h1, h2, h3, h4⟩ := h
  exact ⟨b, h1, s _ _ h2, h3, h4⟩
theorem Chs.mono {H0 H H' : Hp} {r : Addr} {sss : List (List Str)} (s : Same H H') (h : Chs H0 H r sss) : Chs H0 H' r sss := by
  obtain ⟨vs, h1, h2, h3⟩ := h
  exact ⟨vs, s _ _ h1, Paired.mapP h2 fun _ _ q => q.mono s, h3⟩
/-- a list there, before the list of them is made -/
def NewAt (H0 H : Hp) (v : V) (ss : List Str) : Prop := ∃ b, v = .ref b ∧ StrsAt H b ss ∧ H0 b = none
theorem NewAt.mono {H0 H H' : Hp} {v : V} {ss : List Str} (s : Same H H') (h : NewAt H0 H v ss) : NewAt H0 H' v ss := by
  obtain ⟨b, h1, h2, h3⟩ := h
  exact ⟨b, h1, s _ _ h2, h3⟩
theorem NewAt.mk {H0 H : Hp} {p : Addr} (s : Same H0 H) (hp : H p = none) (ss : List Str) {xs : List V} (e : xs = ss.map V.str) : NewAt H0 (upd H p (.lst xs)) (.ref p) ss :=
  ⟨p, rfl, by subst e; exact upd_same, s.free hp⟩
theorem Chs.mk {H0 H : Hp} {r : Addr} {vs : List V} {sss : List (List Str)} (s : Same H0 H) (h : Paired (NewAt H0 H) vs sss) (hr : H r = none) : Chs H0 (upd H r (.lst vs)) r sss := by
  refine ⟨vs, upd_same, Paired.mapP h fun _ _ ⟨b, h1, h2, h3⟩ => ?_, s.free hr⟩
  have ne : b ≠ r := ne_of_none h2 hr
  exact ⟨b, h1, Same.upd hr _ _ h2, h3, ne⟩
theorem Chs.app {H0 H : Hp} {r p : Addr} {ss : List Str} {sss : List (List Str)} (h : Chs H0 H r sss) (hp : StrsAt H p ss) (h0 : H0 p = none) (hne : p ≠ r) : ∃ vs, H r = some (.lst vs) ∧ vs.length = sss.length ∧ Chs H0 (upd H r (.lst (vs ++ [.ref p]))) r (sss ++ [ss]) := by
  obtain ⟨vs, h1, h2, h3⟩ := h
  refine ⟨vs, h1, Paired.length h2, vs ++ [.ref p], upd_same, ?_, h3⟩
  refine paired_snoc (Paired.mapP h2 fun _ _ ⟨b, q1, q2, q3, q4⟩ => ⟨b, q1, ?_, q3, q4⟩) ⟨p, rfl, ?_, h0, hne⟩
  · unfold StrsAt; rw [upd_ne hne]; exact hp
  · unfold StrsAt; rw [upd_ne q4]; exact q2
theorem paired_cat {α β : Type} {F : α → β → Prop} : ∀ {l₁ : List α} {l₂ : List β} {m₁ : List α} {m₂ : List β}, Paired F l₁ l₂ → Paired F m₁ m₂ → Paired F (l₁ ++ m₁) (l₂ ++ m₂)
  | _, _, _, _, .nil, h => h
  | _, _, _, _, .cons a t, h => .cons a (paired_cat t h)
theorem Chs.cat {H0 H : Hp} {r r' p : Addr} {xss yss : List (List Str)} (s : Same H0 H) (h : Chs H0 H r xss) (h' : Chs H0 H r' yss) (hp : H p = none) : ∃ xs ys, H r = some (.lst xs) ∧ H r' = some (.lst ys) ∧ xs.length = xss.length ∧ ys.length = yss.length ∧ Chs H0 (upd H p (.lst (xs ++ ys))) p (xss ++ yss) := by
  obtain ⟨xs, h1, h2, h3⟩ := h
  obtain ⟨ys, k1, k2, k3⟩ := h'
  refine ⟨xs, ys, h1, k1, Paired.length h2, Paired.length k2, xs ++ ys, upd_same, ?_, s.free hp⟩
  have key : ∀ {r : Addr} {v : V} {ss : List Str}, ChAt H0 H r v ss → ChAt H0 (upd H p (.lst (xs ++ ys))) p v ss := fun {r v ss} ⟨b, q1, q2, q3, q4⟩ => ⟨b, q1, Same.upd hp _ _ q2, q3, ne_of_none q2 hp⟩
  exact paired_cat (Paired.mapP h2 fun _ _ q => key q) (Paired.mapP k2 fun _ _ q => key q)
def chs (w : Str) (n : Nat) : List (List Str) := [[], [w], [w, "A"], [w, "B", "x"], [w, "S", "x"], [w, "A", "x", "B"], w :: List.replicate n "x", ["A", w], ["B", "A"], ["t", w], ["u"], ["A", "B", w]]
theorem chs_ok (w : Str) {n : Nat} (hn : n ≤ 13) : ∀ ss ∈ chs w n, ss.length ≤ 14 ∧ ∀ x ∈ ss, x = w ∨ x ∈ signs7 := by
  have m1 : (("A" : Str)) ∈ signs7 := by decide +kernel
  have m2 : (("B" : Str)) ∈ signs7 := by decide +kernel
  have m3 : (("S" : Str)) ∈ signs7 := by decide +kernel
  have m4 : (("x" : Str)) ∈ signs7 := by decide +kernel
  have m5 : (("t" : Str)) ∈ signs7 := by decide +kernel
  have m6 : (("u" : Str)) ∈ signs7 := by decide +kernel
  intro ss hs
  unfold chs at hs
  simp only [List.mem_cons, List.not_mem_nil, or_false] at hs
  rcases hs with rfl | rfl | rfl | rfl | rfl | rfl | rfl | rfl | rfl | rfl | rfl | rfl
  all_goals refine ⟨?_, fun x hx => ?_⟩
  all_goals first
    | (cases hx; done)
    | (simp only [List.length_cons, List.length_nil, List.length_replicate]; omega)
    | (simp only [List.mem_cons, List.not_mem_nil, or_false, List.mem_replicate] at hx
       rcases hx with rfl | rfl | rfl | rfl <;> simp_all)
    | (simp only [List.mem_cons, List.not_mem_nil, or_false, List.mem_replicate] at hx
       rcases hx with rfl | rfl | rfl <;> simp_all)
    | (simp only [List.mem_cons, List.not_mem_nil, or_false, List.mem_replicate] at hx
       rcases hx with rfl | rfl <;> simp_all)
    | (simp only [List.mem_cons, List.not_mem_nil, or_false, List.mem_replicate] at hx
       rcases hx with rfl | ⟨_, rfl⟩ <;> simp_all)
    | (simp only [List.mem_cons, List.not_mem_nil, or_false, List.mem_replicate] at hx
       simp_all)
theorem rows_ne {H : Hp} {vs : List V} {R : List Row} (h : Paired (RowAt H) vs R) (hR : R ≠ []) {ar b : Addr} {ss : List Str} (ha : H ar = some (.lst vs)) (hb : StrsAt H b ss) : b ≠ ar := fun z => by
  have hb : H b = some _ := hb
  rw [z, ha] at hb
  injection hb with hb
  injection hb with hb
  cases h with
  | nil => exact hR rfl
  | cons h1 h2 =>
    obtain ⟨t, b, rfl, _⟩ := h1
    cases ss with
    | nil => cases hb
    | cons x r => injection hb with q; cases q
end Nw
namespace Nw
open PySem L2
open SL (onceS srt)
theorem rep_str (x : Str) : ∀ n : Nat, (List.replicate n [V.str x]).flatten = (List.replicate n x).map V.str
  | 0 => rfl
  | n + 1 => by
    rw [List.replicate_succ, List.flatten_cons, rep_str x n, List.replicate_succ]
    rfl
theorem ints_get {ns : List Int} {i : Nat} (h : i < ns.length) : (ns.map V.int)[i]? = some (.int (ns[i]'h)) := by
  rw [List.getElem?_map, List.getElem?_eq_getElem h]; rfl
theorem zero_nat (i : Nat) : (0 : Int) + (i : Int) = (i : Int) := Int.zero_add _
section
variable {P : Program} {w : World} {K : PySem.W.Frag} {mg : Str → Option Value} {base : Heap}
theorem ok_drawn {f : Addr} {fd : FuncData} (F : Fun K "_law_drawn_rows" "_law_drawn_rows" sDrawn f fd) (T : Txt mg) (D1 : Def P w K mg base "_law_any_word" 1 ["_law_cell"] spAny) : FnOk P w K mg base CX0 2 f fd ["_law_cells", "_law_wild"] spDrawn := by
  refine F.ok scDrawn (fun vs H Q E h => ?_) (fun cdv A outer s H vs Q E hr h => ?_)
  · obtain ⟨a, ns, rfl, _⟩ := h
    rfl
  · obtain ⟨a, ns, rfl, hA, hl4, k⟩ := h
    have hu1 : (A.deeper (PyProof.Rows.envOfC "_law_drawn_rows" (defScope sDrawn) s.heap.objs.size f cdv)).in1.units < cLine := hu_of hr
    have hu2 : (A.deeper (PyProof.Rows.envOfC "_law_drawn_rows" (defScope sDrawn) s.heap.objs.size f cdv)).in1.in1.units < cLine := Nat.lt_of_le_of_lt (Nat.add_le_add_left (by decide : 2 ≤ 64) _) hr.units
    refine exI ⟨_, iss_mid (is_set (i := 2) scDrawn.nd rfl (Or.inl rfl) (ie_lst (ia_c (ie_tup (ia_c ie_str (ia_c (ie_lst (ia_c ie_str (ia_c ie_str ia_nil))) ia_nil)))
        (ia_c (ie_tup (ia_c ie_str (ia_c (ie_lst (ia_c ie_str (ia_c ie_str ia_nil))) ia_nil))) (ia_c (ie_tup (ia_c ie_str (ia_c (ie_lst (ia_c ie_str ia_nil)) ia_nil))) ia_nil)))))
      (iss_cons (is_for PassesOwn.never rfl (pi_range1 (by rfl) T.rng (pa_c (pe_callB call_len_seq (by rfl) T.len PySem.boot_len (pa_c (pv 0) pa_nil)) pa_nil)) (pg_name (i := 3) scDrawn.nd rfl (Or.inl rfl))
        (iss_cons (is_set (i := 4) scDrawn.nd rfl (Or.inl rfl) (ie_ix (r := rIxL K) ix_list (ie_lst (ia_c ie_str (ia_c ie_str (ia_c ie_str (ia_c ie_str (ia_c ie_str ia_nil)))))) (ie_op op_mod (iv 3) ie_int) (fun _ _ => rfl)))
        (iss_mid (is_if (it_cmpR op_eq (ie_op op_mod (ie_ix (r := rIxL K) ix_list (iv 0) (iv 3) (fun _ _ => rfl)) ie_int) ie_int (nomark _))
          (iss_one (is_set (i := 4) scDrawn.nd rfl (Or.inl rfl) (ie_op op_add_str (ie_op op_add_str ie_str (ie_def D1 hr (by rfl) (ia_c (ie_op op_fdiv (ie_ix (r := rIxL K) ix_list (iv 0) (iv 3) (fun _ _ => rfl)) ie_int) ia_nil))) (ie_ix (r := rIxS) ix_str ie_str (ie_op op_mod (iv 3) ie_int) (fun _ _ => rfl)))))
          iss_nil)
        (iss_cons (is_set (i := 5) scDrawn.nd rfl (Or.inl rfl) (ie_ix (r := rIxL K) ix_list (ie_lst (ia_c ie_str (ia_c ie_str (ia_c ie_str ia_nil)))) (ie_op op_mod (ie_ix (r := rIxL K) ix_list (iv 0) (iv 3) (fun _ _ => rfl)) ie_int) (fun _ _ => rfl)))
        (iss_mid (is_set (i := 6) scDrawn.nd rfl (Or.inl rfl) (ie_lst (ia_c (ie_lst ia_nil) (ia_c (ie_lst (ia_c (iv 4) ia_nil)) (ia_c (ie_lst (ia_c (iv 4) (ia_c ie_str ia_nil))) (ia_c (ie_lst (ia_c (iv 4) (ia_c ie_str (ia_c ie_str ia_nil))))
          (ia_c (ie_lst (ia_c (iv 4) (ia_c ie_str (ia_c ie_str ia_nil)))) ia_nil)))))))
        (iss_mid (is_expr (ie_bm PySem.F.plainAttrs_list PySem.F.slot_list_append PySem.F.type_list_append mt_append (iv 6) (ia_c (ie_lst (ia_c (iv 4) (ia_c ie_str (ia_c ie_str (ia_c ie_str ia_nil))))) ia_nil)))
        (iss_mid (is_expr (ie_bm PySem.F.plainAttrs_list PySem.F.slot_list_append PySem.F.type_list_append mt_append (iv 6) (ia_c (ie_op op_cat (ie_lst (ia_c (iv 4) ia_nil)) (ie_op op_rep (ie_lst (ia_c ie_str ia_nil))
          (ie_op op_mod (ie_op op_fdiv (ie_ix (r := rIxL K) ix_list (iv 0) (iv 3) (fun _ _ => rfl)) ie_int) ie_int))) ia_nil)))
        (iss_mid (is_if (it_val (iv 1))
          (iss_mid (is_set (i := 6) scDrawn.nd rfl (Or.inl rfl) (ie_op op_cat (iv 6) (ie_lst (ia_c (ie_lst (ia_c ie_str (ia_c (iv 4) ia_nil))) (ia_c (ie_lst (ia_c ie_str (ia_c ie_str ia_nil)))
            (ia_c (ie_lst (ia_c ie_str (ia_c (iv 4) ia_nil))) (ia_c (ie_lst (ia_c ie_str ia_nil)) ia_nil)))))))
          (iss_one (is_expr (ie_bm PySem.F.plainAttrs_list PySem.F.slot_list_append PySem.F.type_list_append mt_append (iv 6) (ia_c (ie_lst (ia_c ie_str (ia_c ie_str (ia_c (iv 4) ia_nil)))) ia_nil)))))
          iss_nil)
        (iss_mid (is_set (i := 7) scDrawn.nd rfl (Or.inl rfl) (ie_tup (ia_c (iv 5) (ia_c (ie_ix (r := rIxL K) ix_list (iv 6) (ie_op op_mod (ie_op op_fdiv (ie_ix (r := rIxL K) ix_list (iv 0) (iv 3) (fun _ _ => rfl)) ie_int)
          (ie_callB call_len_seq (by rfl) T.len PySem.boot_len (ia_c (iv 6) ia_nil))) (fun _ _ => rfl)) ia_nil))))
        (iss_one (is_if (it_cmpR (op_notInRows hu1 hu2) (iv 7) (iv 2) (by with_unfolding_all rfl))
          (iss_one (is_expr (ie_bm PySem.F.plainAttrs_list PySem.F.slot_list_append PySem.F.type_list_append mt_append (iv 2) (ia_c (iv 7) ia_nil)))) iss_nil)))))))))))
      (iss_one (is_ret (iv 2)))), ?_⟩
    -- the first three rows
    refine ⟨fun σ H1 => ∃ ar vs, σ = [some (.ref a), some (.bl true), some (.ref ar), none, none, none, none, none] ∧ H ar = none ∧ Same H H1 ∧ H1 ar = some (.lst vs) ∧ Paired (RowAt H1) vs base3, ?_, ?_⟩
    · refine ⟨(show 2 ≤ sizeLine by decide), fun b1 hb1 => ⟨(show 2 ≤ sizeLine by decide), fun t1 ht1 => ⟨(show 2 ≤ sizeLine by decide), fun b2 hb2 => ⟨(show 2 ≤ sizeLine by decide), fun t2 ht2 =>
        ⟨(show 1 ≤ sizeLine by decide), fun b3 hb3 => ⟨(show 2 ≤ sizeLine by decide), fun t3 ht3 => ⟨(show 3 ≤ sizeLine by decide), fun ar har => ?_⟩⟩⟩⟩⟩⟩⟩
      have s1 := Same.upd (o := HO.lst [V.str "s", V.str "A"]) hb1
      have s2 := Same.upd (o := HO.tup [V.str "S", V.ref b1]) ht1
      have s3 := Same.upd (o := HO.lst [V.str "t", V.str "B"]) hb2
      have s4 := Same.upd (o := HO.tup [V.str "A", V.ref b2]) ht2
      have s5 := Same.upd (o := HO.lst [V.str "u"]) hb3
      have s6 := Same.upd (o := HO.tup [V.str "B", V.ref b3]) ht3
      have s7 := Same.upd (o := HO.lst [V.ref t1, V.ref t2, V.ref t3]) har
      have s67 := s6.trans s7
      have s57 := s5.trans s67
      have s47 := s4.trans s57
      have s37 := s3.trans s47
      have s27 := s2.trans s37
      refine ⟨ar, [V.ref t1, V.ref t2, V.ref t3], rfl, ((((((s1.trans s2).trans s3).trans s4).trans s5).trans s6)).free har, s1.trans s27, upd_same, ?_⟩
      exact .cons ⟨t1, b1, rfl, s37 _ _ upd_same, s27 _ _ upd_same⟩ (.cons ⟨t2, b2, rfl, s57 _ _ upd_same, s47 _ _ upd_same⟩ (.cons ⟨t3, b3, rfl, s7 _ _ upd_same, s67 _ _ upd_same⟩ .nil))
    · rintro σ H1 ⟨ar, vs0, rfl, har, s1, hv0, hp0⟩
      refine ⟨_, rfl, a, _, rfl, .inl (SqL.of (s1 _ _ hA)), _, rfl, ?_, ?_, for_range (n := (((ns.map V.int).length : Nat) : Int).toNat)
        (fun i σ H2 => ∃ vs R o3 o4 o5 o6 o7, σ = [some (.ref a), some (.bl true), some (.ref ar), o3, o4, o5, o6, o7] ∧ Same H H2 ∧ H2 ar = some (.lst vs) ∧ Paired (RowAt H2) vs R ∧ Drawn i R)
        ⟨vs0, base3, _, _, _, _, _, rfl, s1, hv0, hp0, drawn0⟩ ?_ ?_⟩
      · rw [List.length_map]; omega
      · rw [List.length_map]; omega
      · rintro i σ H2 hi ⟨vs, R, o3, o4, o5, o6, o7, rfl, s2, hv2, hp2, dr⟩
        have hi : i < ns.length := by rw [List.length_map] at hi; simpa using hi
        have hA2 := s2 _ _ hA
        generalize hc : ns[i]'hi = c
        have hat : atI (ns.map V.int) ((0 : Int) + (i : Int)) = some (.int c) := by rw [zero_nat, ← hc]; exact atI_nat (ints_get hi)
        have cell : ∀ {H3 : Hp} {Q : VK}, Same H2 H3 → Q (.int c) H3 → rIxL K (.ref a) (.int (0 + (i : Int))) H3 Q := fun {H3 Q} s q => ⟨a, _, _, _, rfl, rfl, SqL.of (s _ _ hA2), hat, q⟩
        -- the word
        refine ⟨(show 5 ≤ sizeLine by decide), fun p0 hp0 => ?_⟩
        obtain ⟨_, w0, hw0, _, hat0⟩ := at_mod (xs := [V.str "a", V.str "Q", V.str "st", V.str "d", V.str "e"]) (n := 5) (by decide) (by decide) (0 + (i : Int))
        obtain ⟨ws0, rfl⟩ : ∃ z, w0 = V.str z := by
          have hm := List.mem_of_getElem? hw0
          simp only [List.mem_cons, List.not_mem_nil, or_false] at hm
          rcases hm with rfl | rfl | rfl | rfl | rfl <;> exact ⟨_, rfl⟩
        have sp0 := Same.upd (o := HO.lst [V.str "a", V.str "Q", V.str "st", V.str "d", V.str "e"]) hp0
        refine ⟨_, rfl, _, _, rfl, rfl, (show (0 : Int) < 5 by decide), p0, _, _, _, rfl, rfl, SqL.of upd_same, hat0, ?_⟩
        refine ⟨fun σ H3 => ∃ z : Str, σ = [some (.ref a), some (.bl true), some (.ref ar), some (.int (0 + (i : Int))), some (.str z), o5, o6, o7] ∧ Same H2 H3, ?_, ?_⟩
        · refine ⟨_, rfl, _, rfl, cell sp0 ⟨_, _, rfl, rfl, (show (0 : Int) < 7 by decide), rfl, _, rfl, ?_⟩⟩
          refine ite2 (fun _ => ?_) fun _ => ⟨ws0, rfl, sp0⟩
          refine ⟨_, rfl, _, rfl, cell sp0 ⟨_, _, rfl, rfl, ⟨by decide, by decide⟩, _, rfl, fun z hz => ?_⟩⟩
          obtain ⟨_, ch, _, _, hat1⟩ := at_mod (xs := (Str.ofString "abcde").cps.toList) (n := 5) (by decide +kernel) (by decide) (0 + (i : Int))
          refine ⟨_, _, rfl, rfl, ?_, _, rfl, _, _, rfl, rfl, (show (0 : Int) < 5 by decide), _, _, ch, rfl, rfl, by decide +kernel, hat1, _, _, rfl, rfl, ?_, ⟨_, rfl, sp0⟩⟩
          · show 1 + z.length ≤ _
            exact big_line (by omega)
          · rw [str_len_cat]
            show 1 + z.length + 1 ≤ _
            exact big_line (by omega)
        · rintro σ H3 ⟨z, rfl, s3⟩
          -- the left
          refine ⟨(show 3 ≤ sizeLine by decide), fun p1 hp1 => ?_⟩
          obtain ⟨_, l0, hl0, _, hat2⟩ := at_mod (xs := [V.str "S", V.str "A", V.str "B"]) (n := 3) (by decide) (by decide) c
          obtain ⟨l, rfl, hl⟩ : ∃ l, l0 = V.str l ∧ l ∈ lefts3 := by
            have hm := List.mem_of_getElem? hl0
            simp only [List.mem_cons, List.not_mem_nil, or_false] at hm
            rcases hm with rfl | rfl | rfl
            · exact ⟨_, rfl, by decide +kernel⟩
            · exact ⟨_, rfl, by decide +kernel⟩
            · exact ⟨_, rfl, by decide +kernel⟩
          have sp1 := s3.trans (Same.upd (o := HO.lst [V.str "S", V.str "A", V.str "B"]) hp1)
          refine ⟨_, rfl, _, rfl, cell sp1 ⟨_, _, rfl, rfl, (show (0 : Int) < 3 by decide), p1, _, _, _, rfl, rfl, SqL.of upd_same, hat2, ?_⟩⟩
          -- the rights
          refine ⟨fun σ H4 => ∃ r, σ = [some (.ref a), some (.bl true), some (.ref ar), some (.int (0 + (i : Int))), some (.str z), some (.str l), some (.ref r), o7] ∧ Same H2 H4 ∧ Chs H2 H4 r [[], [z], [z, "A"], [z, "B", "x"], [z, "S", "x"]], ?_, ?_⟩
          · generalize upd H3 p1 (HO.lst [V.str "S", V.str "A", V.str "B"]) = H4 at sp1
            refine ⟨(show 0 ≤ sizeLine by decide), fun b1 hb1 => ⟨_, rfl, (show 1 ≤ sizeLine by decide), fun b2 hb2 => ⟨_, rfl, (show 2 ≤ sizeLine by decide), fun b3 hb3 => ⟨_, rfl, (show 3 ≤ sizeLine by decide), fun b4 hb4 => ⟨_, rfl, (show 3 ≤ sizeLine by decide), fun b5 hb5 =>
              ⟨(show 5 ≤ sizeLine by decide), fun r hr0 => ?_⟩⟩⟩⟩⟩⟩
            have t1 := Same.upd (o := HO.lst []) hb1
            have t2 := Same.upd (o := HO.lst [V.str z]) hb2
            have t3 := Same.upd (o := HO.lst [V.str z, V.str "A"]) hb3
            have t4 := Same.upd (o := HO.lst [V.str z, V.str "B", V.str "x"]) hb4
            have t5 := Same.upd (o := HO.lst [V.str z, V.str "S", V.str "x"]) hb5
            have u1 := sp1.trans t1
            have u2 := u1.trans t2
            have u3 := u2.trans t3
            have u4 := u3.trans t4
            have u5 := u4.trans t5
            refine ⟨r, rfl, u5.trans (Same.upd hr0), Chs.mk u5 ?_ hr0⟩
            exact .cons ((NewAt.mk sp1 hb1 [] rfl).mono (((t2.trans t3).trans t4).trans t5)) (.cons ((NewAt.mk u1 hb2 [z] rfl).mono ((t3.trans t4).trans t5)) (.cons ((NewAt.mk u2 hb3 [z, "A"] rfl).mono (t4.trans t5))
              (.cons ((NewAt.mk u3 hb4 [z, "B", "x"] rfl).mono t5) (.cons (NewAt.mk u4 hb5 [z, "S", "x"] rfl) .nil))))
          · rintro σ H4 ⟨r, rfl, s4, ch4⟩
            refine ⟨fun σ H5 => σ = [some (.ref a), some (.bl true), some (.ref ar), some (.int (0 + (i : Int))), some (.str z), some (.str l), some (.ref r), o7] ∧ Same H2 H5 ∧ Chs H2 H5 r [[], [z], [z, "A"], [z, "B", "x"], [z, "S", "x"], [z, "A", "x", "B"]], ?_, ?_⟩
            · obtain ⟨vr, hvr, _, hr2⟩ := id ch4
              refine ⟨_, rfl, .inl ⟨rfl, _, SqL.of hvr⟩, _, rfl, (show 4 ≤ sizeLine by decide), fun p hp => ?_⟩
              have t := Same.upd (o := HO.lst [V.str z, V.str "A", V.str "x", V.str "B"]) hp
              obtain ⟨vr', h1, h2, h3⟩ := (ch4.mono t).app (p := p) (ss := [z, "A", "x", "B"]) upd_same (s4.free hp) (Ne.symm (ne_of_none hvr hp))
              exact ⟨r, _, _, rfl, rfl, h1, by rw [h2]; exact small1000 (show 5 ≤ 1000 by decide), rfl, (s4.trans t).updS hr2, h3⟩
            · rintro σ H5 ⟨rfl, s5, ch5⟩
              clear ch4 s4 H4
              obtain ⟨n, hn, hn13⟩ : ∃ n : Nat, c / 49 % 14 = (n : Int) ∧ n ≤ 13 := by
                have h1 := Int.emod_nonneg (c / 49) (show (14 : Int) ≠ 0 by decide)
                have h2 := Int.emod_lt_of_pos (c / 49) (show (0 : Int) < 14 by decide)
                obtain ⟨n, hn⟩ := Int.eq_ofNat_of_zero_le h1
                exact ⟨n, hn, by omega⟩
              refine ⟨fun σ H6 => σ = [some (.ref a), some (.bl true), some (.ref ar), some (.int (0 + (i : Int))), some (.str z), some (.str l), some (.ref r), o7] ∧ Same H2 H6 ∧ Chs H2 H6 r [[], [z], [z, "A"], [z, "B", "x"], [z, "S", "x"], [z, "A", "x", "B"], z :: List.replicate n "x"], ?_, ?_⟩
              · obtain ⟨vr, hvr, _, hr2⟩ := id ch5
                refine ⟨_, rfl, .inl ⟨rfl, _, SqL.of hvr⟩, _, rfl, (show 1 ≤ sizeLine by decide), fun b1 hb1 => ⟨(show 1 ≤ sizeLine by decide), fun b2 hb2 => ?_⟩⟩
                have t1 := Same.upd (o := HO.lst [V.str z]) hb1
                have t2 := Same.upd (o := HO.lst [V.str "x"]) hb2
                refine ⟨_, rfl, _, rfl, cell ((s5.trans t1).trans t2) ⟨_, _, rfl, rfl, ⟨by decide, by decide⟩, _, _, rfl, rfl, (show (0 : Int) < 14 by decide), b2, (n : Int), [V.str "x"], rfl, congrArg V.int hn, upd_same, by omega, by omega, big_line (by rw [Int.toNat_natCast, List.length_singleton]; omega), ?_⟩⟩
                rw [Int.toNat_natCast, rep_str]
                intro b3 hb3
                have t3 := Same.upd (o := HO.lst ((List.replicate n ("x" : Str)).map V.str)) hb3
                refine ⟨b1, b3, _, _, rfl, rfl, t3 _ _ (t2 _ _ upd_same), upd_same, ?_, fun b4 hb4 => ?_⟩
                · show 1 + _ ≤ _
                  rw [List.length_map, List.length_replicate]
                  exact big_line (by omega)
                have t4 := Same.upd (o := HO.lst ([V.str z] ++ (List.replicate n ("x" : Str)).map V.str)) hb4
                have u := ((t1.trans t2).trans t3)
                obtain ⟨vr', h1, h2, h3⟩ := (ch5.mono (u.trans t4)).app (p := b4) (ss := z :: List.replicate n "x") upd_same ((s5.trans u).free hb4) (Ne.symm (ne_of_none (u _ _ hvr) hb4))
                exact ⟨r, _, _, rfl, rfl, h1, by rw [h2]; exact small1000 (show 6 ≤ 1000 by decide), rfl, (s5.trans (u.trans t4)).updS hr2, h3⟩
              · rintro σ H6 ⟨rfl, s6, ch6⟩
                clear ch5 s5 H5
                refine ⟨fun σ H7 => ∃ r, σ = [some (.ref a), some (.bl true), some (.ref ar), some (.int (0 + (i : Int))), some (.str z), some (.str l), some (.ref r), o7] ∧ Same H2 H7 ∧ Chs H2 H7 r (chs z n), ?_, ?_⟩
                · refine ⟨_, rfl, _, rfl, iteT ?_⟩
                  refine ⟨fun σ H7 => ∃ r, σ = [some (.ref a), some (.bl true), some (.ref ar), some (.int (0 + (i : Int))), some (.str z), some (.str l), some (.ref r), o7] ∧ Same H2 H7 ∧ Chs H2 H7 r [[], [z], [z, "A"], [z, "B", "x"], [z, "S", "x"], [z, "A", "x", "B"], z :: List.replicate n "x", ["A", z], ["B", "A"], ["t", z], ["u"]], ?_, ?_⟩
                  · refine ⟨_, rfl, _, rfl, (show 2 ≤ sizeLine by decide), fun b1 hb1 => ⟨(show 2 ≤ sizeLine by decide), fun b2 hb2 => ⟨_, rfl, (show 2 ≤ sizeLine by decide), fun b3 hb3 => ⟨(show 1 ≤ sizeLine by decide), fun b4 hb4 => ⟨(show 4 ≤ sizeLine by decide), fun r2 hr2 => ?_⟩⟩⟩⟩⟩
                    have t1 := Same.upd (o := HO.lst [V.str "A", V.str z]) hb1
                    have t2 := Same.upd (o := HO.lst [V.str "B", V.str "A"]) hb2
                    have t3 := Same.upd (o := HO.lst [V.str "t", V.str z]) hb3
                    have t4 := Same.upd (o := HO.lst [V.str "u"]) hb4
                    have t5 := Same.upd (o := HO.lst [V.ref b1, V.ref b2, V.ref b3, V.ref b4]) hr2
                    have u1 := s6.trans t1
                    have u2 := u1.trans t2
                    have u3 := u2.trans t3
                    have u4 := u3.trans t4
                    have cr2 : Chs H2 _ r2 [["A", z], ["B", "A"], ["t", z], ["u"]] := Chs.mk (vs := [V.ref b1, V.ref b2, V.ref b3, V.ref b4]) u4 (.cons ((NewAt.mk s6 hb1 ["A", z] rfl).mono ((t2.trans t3).trans t4)) (.cons ((NewAt.mk u1 hb2 ["B", "A"] rfl).mono (t3.trans t4)) (.cons ((NewAt.mk u2 hb3 ["t", z] rfl).mono t4)
                      (.cons (NewAt.mk u3 hb4 ["u"] rfl) .nil)))) hr2
                    have cr1 := ch6.mono ((((t1.trans t2).trans t3).trans t4).trans t5)
                    obtain ⟨xs, hx1, hx2, _⟩ := id cr1
                    obtain ⟨ys, hy1, hy2, _⟩ := id cr2
                    have lx := Paired.length hx2
                    have ly := Paired.length hy2
                    refine ⟨r, r2, xs, ys, rfl, rfl, hx1, hy1, by rw [lx, ly]; exact big_line (by simp), fun r3 hr3 => ?_⟩
                    obtain ⟨xs', ys', e1, e2, _, _, hcc⟩ := Chs.cat (u4.trans t5) cr1 cr2 hr3
                    rw [hx1] at e1
                    rw [hy1] at e2
                    cases e1; cases e2
                    exact ⟨r3, rfl, (u4.trans t5).trans (Same.upd hr3), hcc⟩
                  · rintro σ H7 ⟨r', rfl, s7, ch7⟩
                    obtain ⟨vr, hvr, _, hr2⟩ := id ch7
                    refine ⟨_, rfl, .inl ⟨rfl, _, SqL.of hvr⟩, _, rfl, (show 3 ≤ sizeLine by decide), fun p hp => ?_⟩
                    have t := Same.upd (o := HO.lst [V.str "A", V.str "B", V.str z]) hp
                    obtain ⟨vr', h1, h2, h3⟩ := (ch7.mono t).app (p := p) (ss := ["A", "B", z]) upd_same (s7.free hp) (Ne.symm (ne_of_none hvr hp))
                    exact ⟨r', _, _, rfl, rfl, h1, by rw [h2]; exact small1000 (show 11 ≤ 1000 by decide), r', rfl, (s7.trans t).updS hr2, h3⟩
                · rintro σ H7 ⟨r', rfl, s7, ch7⟩
                  clear ch6 s6 H6
                  refine ⟨fun σ H8 => ∃ t b ss, σ = [some (.ref a), some (.bl true), some (.ref ar), some (.int (0 + (i : Int))), some (.str z), some (.str l), some (.ref r'), some (.ref t)] ∧ Same H2 H8 ∧ H8 t = some (.tup [.str l, .ref b]) ∧ StrsAt H8 b ss ∧ H2 t = none ∧ H2 b = none ∧ ss ∈ chs z n, ?_, ?_⟩
                  · obtain ⟨vr, hvr, hpr, hr2⟩ := id ch7
                    have hlr : vr.length = 12 := Paired.length hpr
                    obtain ⟨j, vj, hj, _, hatj⟩ := at_mod (xs := vr) (n := (vr.length : Int)) rfl (by omega) (c / 3)
                    obtain ⟨ss, hss, b, rfl, hb, hb0, _⟩ := paired_get hpr j vj hj
                    refine ⟨_, rfl, _, rfl, _, rfl, _, rfl, cell s7 ⟨_, _, rfl, rfl, ⟨by decide, by decide⟩, _, rfl, r', vr, rfl, .inl (SqL.of hvr), _, _, rfl, rfl, (show (0 : Int) < (vr.length : Int) by omega), r', vr, _, _, rfl, rfl, SqL.of hvr, hatj, (show 2 ≤ sizeLine by decide), fun t ht => ?_⟩⟩
                    have st := Same.upd (o := HO.tup [V.str l, V.ref b]) ht
                    exact ⟨t, b, ss, rfl, s7.trans st, upd_same, st _ _ hb, s7.free ht, hb0, List.mem_of_getElem? hss⟩
                  · rintro σ H8 ⟨t, b, ss, rfl, s8, ht8, hb8, ht0, hb0, hss⟩
                    have hv8 := s8 _ _ hv2
                    have hp8 : Paired (RowAt H8) vs R := Paired.mapP hp2 fun _ _ q => q.mono s8
                    obtain ⟨hs14, hsg⟩ := chs_ok z hn13 ss hss
                    have hRne : R ≠ [] := by
                      obtain ⟨m, e, _⟩ := dr.sh
                      rw [e]; intro q; cases q
                    have fresh : ∀ v ∈ vs, ∀ t' b' l', v = .ref t' → H8 t' = some (.tup [.str l', .ref b']) → t' ≠ t ∧ b' ≠ b := fun v hv t' b' l' e1 e2 => by
                      obtain ⟨ix, hix⟩ := List.mem_iff_getElem?.mp hv
                      obtain ⟨p, _, t2, b2, e3, q1, q2⟩ := paired_get hp2 ix v hix
                      rw [e1] at e3
                      cases e3
                      have q3 := s8 _ _ q1
                      rw [e2] at q3
                      cases q3
                      exact ⟨ne_of_none q1 ht0, ne_of_none q2 hb0⟩
                    refine ⟨_, rfl, _, rfl, t, b, ar, (l, ss), R, rfl, rfl, ht8, hb8, ⟨vs, hv8, hp8, fresh⟩, _, rfl, ?_⟩
                    by_cases hin : (l, ss) ∈ R
                    · rw [decide_eq_true hin]
                      exact iteF ⟨vs, R, _, _, _, _, _, rfl, s2.trans s8, hv8, hp8, dr.stay⟩
                    · rw [decide_eq_false hin]
                      have hlen : vs.length ≤ 20 := by
                        have h1 := Paired.length hp2
                        obtain ⟨m, e, hm⟩ := dr.sh
                        have : R.length = 3 + m.length := by rw [e, List.length_append]; rfl
                        omega
                      refine iteT ⟨_, rfl, .inl ⟨rfl, _, SqL.of hv8⟩, _, rfl, ar, _, _, rfl, rfl, hv8, small1000 (by omega), vs ++ [V.ref t], R ++ [(l, ss)], _, _, _, _, _, rfl, (s2.trans s8).updS har, upd_same, ?_, dr.add hl hs14 hsg⟩
                      have nt : ∀ {t' : Addr} {xs : List V}, H8 t' = some (.tup xs) → t' ≠ ar := fun {t' xs} e q => by rw [q, hv8] at e; cases e
                      have nb : ∀ {b' : Addr} {rs : List Str}, StrsAt H8 b' rs → b' ≠ ar := fun {b' rs} e => rows_ne hp8 hRne hv8 e
                      refine paired_snoc (Paired.mapP hp8 fun _ _ ⟨t', b', q1, q2, q3⟩ => ⟨t', b', q1, ?_, ?_⟩) ⟨t, b, rfl, ?_, ?_⟩
                      · rw [upd_ne (nt ht8)]; exact ht8
                      · unfold StrsAt; rw [upd_ne (nb hb8)]; exact hb8
                      · rw [upd_ne (nt q2)]; exact q2
                      · unfold StrsAt; rw [upd_ne (nb q3)]; exact q3
      · rintro σ H2 ⟨vs, R, o3, o4, o5, o6, o7, rfl, s2, hv2, hp2, dr⟩
        rw [List.length_map, Int.toNat_natCast] at dr
        refine ⟨_, rfl, k ar R H2 s2 ⟨vs, hv2, hp2⟩ ?_⟩
        exact ⟨let ⟨m, e, q⟩ := dr.sh; ⟨m, e, by omega⟩, dr.lf, dr.wd, let ⟨U, e, q⟩ := dr.sg; ⟨U, by omega, q⟩⟩
end
end Nw
namespace Nw
open PySem L2
open SL (onceS srt)
abbrev sRen : Stmt := top 34
theorem scRen : FnScope ["_law_rows", "_law_cell", "_law_first", "_law_second", "_law_names", "_law_made", "_law_left", "_law_right", "_law_inner"] ["_law_rows", "_law_cell"] (defScope sRen) := ⟨rfl, rfl, rfl, by decide +kernel, rfl, by decide +kernel, by decide +kernel⟩
abbrev Ren := List (Str × Str)
def ren1 : Ren := [("S", "First"), ("A", "Then"), ("B", "And"), ("C", "Part")]
def ren2 : Ren := [("S", "Sab"), ("A", "Tab"), ("B", "Sob"), ("C", "Sat")]
def gOf (f : Ren) (x : Str) : Str := (f.lookup x).getD x
def reRow (f : Ren) (p : Row) : Row := (gOf f p.1, p.2.map (gOf f))
def kvR (f : Ren) : List (Key × V) := f.map fun e => ((Sum.inr e.1 : Key), V.str e.2)
theorem kvR_val (x : Str) : ∀ f : Ren, valV (kvR f) (Sum.inr x : Key) = (f.lookup x).map V.str
  | [] => rfl
  | (n, y) :: r => by
    show valV (((Sum.inr n : Key), V.str y) :: kvR r) (Sum.inr x) = _
    rw [List.lookup_cons]
    by_cases q : n = x
    · subst q
      rw [valV_pos rfl]
      simp
    · have q' : (x == n) = false := beq_eq_false_iff_ne.mpr fun z => q z.symm
      rw [q', valV_neg (fun z => q (Sum.inr.inj z)), kvR_val x r]
theorem mergeK_new : ∀ (more kvs : List (Key × V)), ((kvs ++ more).map (·.1)).Nodup → mergeK kvs more = kvs ++ more
  | [], kvs, _ => (List.append_nil kvs).symm
  | e :: r, kvs, nd => by
    show mergeK (putK kvs e.1 e.2) r = _
    have hn : valV kvs e.1 = none := by
      cases q : valV kvs e.1 with
      | none => rfl
      | some v =>
        have hm := valV_in q
        rw [List.map_append, List.nodup_append] at nd
        exact absurd rfl (nd.2.2 _ hm _ (by rw [List.map_cons]; exact List.mem_cons_self ..))
    rw [putK_new _ hn, mergeK_new r (kvs ++ [(e.1, e.2)]) (by rw [List.append_assoc]; exact nd), List.append_assoc]
    rfl
theorem pmapM {α β : Type} {F G : α → β → Prop} : ∀ {l₁ : List α} {l₂ : List β}, Paired F l₁ l₂ → (∀ a b, a ∈ l₁ → F a b → G a b) → Paired G l₁ l₂
  | _, _, .nil, _ => .nil
  | _, _, .cons h t, f => .cons (f _ _ (List.mem_cons_self ..) h) (pmapM t fun a b m => f a b (List.mem_cons_of_mem _ m))
def spRen : Sp := fun vs H Q _ => ∃ (a : Addr) (c : Int) (R : List Row), vs = [.ref a, .int c] ∧ RowsAt H a R ∧ R.length ≤ 20 ∧ (∀ p ∈ R, p.2.length ≤ 20) ∧ ∀ q f H', Same H H' → (f = [] ∨ f = ren1 ∨ f = ren2) → RowsAt H' q (R.map (reRow f)) → Q (.ref q) H'
section
variable {P : Program} {w : World} {K : PySem.W.Frag} {mg : Str → Option Value} {base : Heap}
theorem ok_ren {f : Addr} {fd : FuncData} (F : Fun K "_law_renamed" "_law_renamed" sRen f fd) : FnOk P w K mg base CX0 1 f fd ["_law_rows", "_law_cell"] spRen := by
  refine F.ok scRen (fun vs H Q E h => ?_) (fun cdv A outer s H vs Q E hr h => ?_)
  · obtain ⟨a, c, R, rfl, _⟩ := h
    rfl
  · obtain ⟨a, c, R, rfl, hR, hl20, hw20, k⟩ := h
    have hu := hu_of hr
    refine exI ⟨_, iss_cons (is_set (i := 2) scRen.nd rfl (Or.inl rfl) (ie_disp (ips_cons ie_str ie_str (ips_cons ie_str ie_str (ips_cons ie_str ie_str (ips_cons ie_str ie_str ips_nil)))) rfl rfl (by intro z; cases z) (by decide)))
      (iss_mid (is_set (i := 3) scRen.nd rfl (Or.inl rfl) (ie_disp (ips_cons ie_str ie_str (ips_cons ie_str ie_str (ips_cons ie_str ie_str (ips_cons ie_str ie_str ips_nil)))) rfl rfl (by intro z; cases z) (by decide)))
      (iss_mid (is_set (i := 4) scRen.nd rfl (Or.inr rfl) (ie_ix (r := rIxL K) ix_list (ie_lst (ia_c (.of pe_dnewK) (ia_c (iv 2) (ia_c (iv 3) ia_nil)))) (ie_op op_mod (iv 1) ie_int) (fun _ _ => rfl)))
      (iss_cons (is_set (i := 5) scRen.nd rfl (Or.inl rfl) (ie_lst ia_nil))
      (iss_cons (is_for PassesOwn.never rfl (pi_list (pv 0)) (pg_tup (n := 2) rfl (pgs_cons (pg_name (i := 6) scRen.nd rfl (Or.inl rfl)) (pgs_cons (pg_name (i := 7) scRen.nd rfl (Or.inl rfl)) pgs_nil)))
        (iss_cons (.of (ps_setcomp (k := 8) (CompIn.free (N := ["_law_sign", "_law_names"]) (sel := [none, some 4]) ["_law_names"] (by rfl) (by rfl) (by rfl) ?c1 ?c2 ?c3 ?c4 (by rfl) ?c5) rfl scRen.nd rfl (Or.inl rfl) (pi_list (pv 7)) (fun s₃ H₃ fp => pg_name (i := 0) (show (["_law_sign", "_law_names"] : List Str).Nodup by decide) rfl (Or.inl rfl))
            (fun s₃ H₃ fp => pif_nil) (fun s₃ H₃ fp => pe_dget2 (X := cxIn _ _ _ _ _ _ _) hu (pv 1) (pv 0) (pv 0) ⟨rfl, rfl, rfl, rfl⟩)))
        (iss_one (is_expr (ie_bm PySem.F.plainAttrs_list PySem.F.slot_list_append PySem.F.type_list_append mt_append (iv 5) (ia_c (ie_tup (ia_c (.of (pe_dget2 hu (pv 4) (pv 6) (pv 6) ⟨rfl, rfl, rfl, rfl⟩)) (ia_c (iv 8) ia_nil))) ia_nil))))))
      (iss_one (is_ret (iv 5))))))), ?_⟩
    case c1 => decide
    case c2 => decide
    case c3 =>
      intro x hx
      rcases List.mem_cons.mp hx with rfl | hx
      · exact ⟨rfl, rfl, _, rfl, rfl⟩
      · cases hx
    case c4 =>
      intro y hy
      rcases List.mem_cons.mp hy with rfl | hy
      · exact List.mem_cons_self ..
      · cases hy
    case c5 =>
      intro j i h
      rcases j with _ | _ | j
      · cases h
      · cases h; exact ⟨"_law_names", List.mem_cons_self .., rfl, rfl⟩
      · cases h
    have m1 : mergeK [] (kvR ren1) = kvR ren1 := mergeK_new _ _ (by decide +kernel)
    have m2 : mergeK [] (kvR ren2) = kvR ren2 := mergeK_new _ _ (by decide +kernel)
    obtain ⟨vs, hv, hp⟩ := id hR
    have hlen : vs.length = R.length := Paired.length hp
    refine fun d1 hd1 => ⟨upd_same, kvR ren1, rfl, by decide, ?_⟩
    rw [m1, upd_upd]
    have s1 := Same.upd (o := HO.dK (kvR ren1)) hd1
    refine ⟨fun σ H1 => ∃ d2, σ = [some (.ref a), some (.int c), some (.ref d1), some (.ref d2), none, none, none, none, none] ∧ Same H H1 ∧ H1 d1 = some (.dK (kvR ren1)) ∧ H1 d2 = some (.dK (kvR ren2)), ?_, ?_⟩
    · refine fun d2 hd2 => ⟨upd_same, kvR ren2, rfl, by decide, ?_⟩
      rw [m2, upd_upd]
      have s2 := Same.upd (o := HO.dK (kvR ren2)) hd2
      exact ⟨d2, rfl, s1.trans s2, s2 _ _ upd_same, upd_same⟩
    rintro σ H1 ⟨d2, rfl, s1, h1, h2⟩
    refine ⟨fun σ H2 => ∃ dn f, σ = [some (.ref a), some (.int c), some (.ref d1), some (.ref d2), some (.ref dn), none, none, none, none] ∧ Same H H2 ∧ (f = [] ∨ f = ren1 ∨ f = ren2) ∧ H2 dn = some (.dK (kvR f)), ?_, ?_⟩
    · refine fun d0 hd0 => ⟨_, rfl, _, rfl, (show 3 ≤ sizeLine by decide), fun p hp0 => ?_⟩
      have t1 := Same.upd (o := HO.dK []) hd0
      have t2 := Same.upd (o := HO.lst [V.ref d0, V.ref d1, V.ref d2]) hp0
      obtain ⟨j, v, hj, _, hat⟩ := at_mod (xs := [V.ref d0, V.ref d1, V.ref d2]) (n := 3) (by rfl) (by decide) c
      refine ⟨_, rfl, _, _, rfl, rfl, (show (0 : Int) < 3 by decide), p, _, _, v, rfl, rfl, SqL.of upd_same, hat, ?_⟩
      have sf := (s1.trans t1).trans t2
      have hm := List.mem_of_getElem? hj
      simp only [List.mem_cons, List.not_mem_nil, or_false] at hm
      rcases hm with rfl | rfl | rfl
      · exact ⟨d0, [], rfl, sf, .inl rfl, t2 _ _ upd_same⟩
      · exact ⟨d1, ren1, rfl, sf, .inr (.inl rfl), t2 _ _ (t1 _ _ h1)⟩
      · exact ⟨d2, ren2, rfl, sf, .inr (.inr rfl), t2 _ _ (t1 _ _ h2)⟩
    rintro σ H2 ⟨dn, f, rfl, s2, hf, hdn⟩
    refine ⟨by decide, fun q hq => ?_⟩
    have hqH : H q = none := s2.free hq
    have sq := Same.upd (o := HO.lst []) hq
    have get : ∀ {H3 : Hp} (x : Str), H3 dn = some (.dK (kvR f)) → ∃ o, DGet H3 dn (.str x) o ∧ o.getD (.str x) = .str (gOf f x) := fun {H3} x h => by
      refine ⟨_, DGet.k (k := Sum.inr x) h, ?_⟩
      rw [kvR_val]
      unfold gOf
      cases f.lookup x <;> rfl
    have hvs := s2 _ _ hv
    refine ⟨_, rfl, a, rfl, ⟨_, SqL.of (sq _ _ hvs)⟩, for_list (K := K) (a := a) (xs := vs)
      (fun i σ H3 => ∃ us o6 o7 o8, σ = [some (.ref a), some (.int c), some (.ref d1), some (.ref d2), some (.ref dn), some (.ref q), o6, o7, o8] ∧ Same H2 H3 ∧ H3 q = some (.lst us) ∧ Paired (RowAt H3) us ((R.take i).map (reRow f)) ∧ ∀ v ∈ us, ∃ t b l, v = .ref t ∧ H3 t = some (.tup [.str l, .ref b]) ∧ b ≠ q)
      ⟨[], _, _, _, rfl, sq, upd_same, .nil, fun v hv => (by cases hv)⟩ ?_ ?_ ?_⟩
    · rintro i σ H3 _ ⟨_, _, _, _, _, s3, _⟩
      exact SqL.of (s3 _ _ hvs)
    · rintro i x σ H3 hx ⟨us, o6, o7, o8, rfl, s3, hq3, hp3, hn3⟩
      obtain ⟨p, tt, cc, hpi, rfl, htt, hcc⟩ := rowAt_get hp hx
      have hpm : p ∈ R := List.mem_of_getElem? hpi
      have hil : i < R.length := (List.getElem?_eq_some_iff.mp hpi).1
      have hpw := hw20 p hpm
      have s23 := s2.trans s3
      have hc3 : H3 cc = some (.lst (p.2.map V.str)) := s23 _ _ hcc
      have hdn3 := s3 _ _ hdn
      refine ⟨tt, _, rfl, SqT.of (s23 _ _ htt), rfl, _, _, rfl, _, _, rfl, rfl, ?_⟩
      refine ⟨_, rfl, cc, rfl, ⟨_, SqL.of hc3⟩, fun D hD => comp_list1 (K := K) (xs := p.2.map V.str) (fun j τ H4 => (∃ o, τ = [o, some (.ref dn)]) ∧ H4 = upd H3 D (.lst (((p.2.take j).map (gOf f)).map V.str))) ⟨⟨_, rfl⟩, rfl⟩ ?_ ?_ ?_⟩
      · rintro j τ H4 ⟨_, rfl⟩
        exact (Same.upd hD).seq (SqL.of hc3)
      · rintro j x τ H4 hx ⟨⟨o, rfl⟩, rfl⟩
        obtain ⟨y, hy, rfl⟩ := strs_get hx
        have hjl : j < p.2.length := (List.getElem?_eq_some_iff.mp hy).1
        have sD := Same.upd (o := HO.lst (((p.2.take j).map (gOf f)).map V.str)) hD
        obtain ⟨o', g1, g2⟩ := get y (sD _ _ hdn3)
        refine ⟨_, rfl, dn, rfl, .inl ⟨_, .inl (sD _ _ hdn3)⟩, _, rfl, _, rfl, o', g1, ?_⟩
        rw [g2]
        refine ⟨_, upd_same, ?_, ⟨_, rfl⟩, ?_⟩
        · rw [List.length_map, List.length_map, List.length_take]
          exact small1000 (by omega)
        · rw [upd_upd, List.take_succ, hy, List.map_append, List.map_append]
          rfl
      · rintro τ H4 ⟨_, rfl⟩
        rw [List.length_map, List.take_length]
        have sD := Same.upd (o := HO.lst ((p.2.map (gOf f)).map V.str)) hD
        have hq4 := sD _ _ hq3
        have hDq : D ≠ q := Ne.symm (ne_of_none hq3 hD)
        obtain ⟨o', g1, g2⟩ := get p.1 (sD _ _ hdn3)
        refine ⟨_, rfl, .inl ⟨rfl, _, SqL.of hq4⟩, _, rfl, dn, rfl, .inl ⟨_, .inl (sD _ _ hdn3)⟩, _, rfl, _, rfl, o', g1, ?_⟩
        rw [g2]
        refine ⟨_, rfl, (show 2 ≤ sizeLine by decide), fun t ht => ?_⟩
        have st := Same.upd (o := HO.tup [V.str (gOf f p.1), V.ref D]) ht
        have sDt := sD.trans st
        have hq5 := st _ _ hq4
        have htq : t ≠ q := Ne.symm (ne_of_none hq4 ht)
        have hus : us.length ≤ 20 := by
          have := Paired.length hp3
          rw [List.length_map, List.length_take] at this
          omega
        refine ⟨q, _, _, rfl, rfl, hq5, small1000 (by omega), us ++ [V.ref t], _, _, _, rfl, (s3.trans sDt).updS hq, upd_same, ?_, ?_⟩
        · rw [List.take_succ, hpi, List.map_append]
          refine paired_snoc (pmapM hp3 fun v r hm ⟨t', b', q1, q2, q3⟩ => ⟨t', b', q1, ?_, ?_⟩) ⟨t, D, rfl, ?_, ?_⟩
          · rw [upd_ne htq]; exact upd_same
          · unfold StrsAt; rw [upd_ne hDq]; exact st _ _ upd_same
          · have : t' ≠ q := fun z => by rw [z, hq3] at q2; cases q2
            rw [upd_ne this]; exact sDt _ _ q2
          · obtain ⟨t2, b2, l2, e1, e2, e3⟩ := hn3 v hm
            rw [q1] at e1; cases e1
            rw [q2] at e2; cases e2
            unfold StrsAt
            rw [upd_ne e3]; exact sDt _ _ q3
        · intro v hv'
          rcases List.mem_append.mp hv' with z | z
          · obtain ⟨t', b', l', e1, e2, e3⟩ := hn3 v z
            refine ⟨t', b', l', e1, ?_, e3⟩
            have : t' ≠ q := fun z => by rw [z, hq3] at e2; cases e2
            rw [upd_ne this]; exact sDt _ _ e2
          · rw [List.mem_singleton.mp z]
            refine ⟨t, D, gOf f p.1, rfl, ?_, hDq⟩
            rw [upd_ne htq]; exact upd_same
    · rintro σ H3 ⟨us, o6, o7, o8, rfl, s3, hq3, hp3, _⟩
      rw [hlen, List.take_length] at hp3
      exact ⟨_, rfl, k q f H3 (s2.trans s3) hf ⟨us, hq3, hp3⟩⟩
end
end Nw
namespace Nw
open PySem L2
open SL (onceS srt)
/-! ### the rows that are drawn are not refused -/
structure GF (g : Str → Str) : Prop where
  s : g "s" = "s"
  t : g "t" = "t"
  u : g "u" = "u"
  nd : [g "S", g "A", g "B"].Nodup
  ns : ¬ ("s" : Str) ∈ [g "S", g "A", g "B"]
  nt : ¬ ("t" : Str) ∈ [g "S", g "A", g "B"]
  nu : ¬ ("u" : Str) ∈ [g "S", g "A", g "B"]
theorem gf_of {f : Ren} (hf : f = [] ∨ f = ren1 ∨ f = ren2) : GF (gOf f) := by
  rcases hf with rfl | rfl | rfl
  all_goals exact ⟨by decide +kernel, by decide +kernel, by decide +kernel, by decide +kernel, by decide +kernel, by decide +kernel, by decide +kernel⟩
theorem good_of {R : List Row} (h : Drawn 4 R) {f : Ren} (hf : f = [] ∨ f = ren1 ∨ f = ren2) : Good (R.map (reRow f)) := by
  have G := gf_of hf
  obtain ⟨more, rfl, hm⟩ := h.sh
  obtain ⟨U, hU, hUm⟩ := h.sg
  generalize hg : gOf f = g at G
  have er : ∀ p : Row, reRow f p = (g p.1, p.2.map g) := fun p => by unfold reRow; rw [hg]
  have mem : ∀ {p : Row}, p ∈ base3 → (g p.1, p.2.map g) ∈ (base3 ++ more).map (reRow f) := fun {p} hp => List.mem_map.mpr ⟨p, List.mem_append_left _ hp, er p⟩
  have mS : (g "S", [g "s", g "A"]) ∈ (base3 ++ more).map (reRow f) := mem (p := ("S", ["s", "A"])) (by decide +kernel)
  have mA : (g "A", [g "t", g "B"]) ∈ (base3 ++ more).map (reRow f) := mem (p := ("A", ["t", "B"])) (by decide +kernel)
  have mB : (g "B", [g "u"]) ∈ (base3 ++ more).map (reRow f) := mem (p := ("B", ["u"])) (by decide +kernel)
  have lf : ∀ x ∈ ((base3 ++ more).map (reRow f)).map (·.1), x ∈ [g "S", g "A", g "B"] := fun x hx => by
    obtain ⟨p', hp', rfl⟩ := List.mem_map.mp hx
    obtain ⟨p, hp, rfl⟩ := List.mem_map.mp hp'
    rw [er]
    have := h.lf p hp
    show g p.1 ∈ [g "S", g "A", g "B"]
    unfold lefts3 at this
    simp only [List.mem_cons, List.not_mem_nil, or_false] at this ⊢
    rcases this with e | e | e
    · exact .inl (by rw [e])
    · exact .inr (.inl (by rw [e]))
    · exact .inr (.inr (by rw [e]))
  have inL : ∀ x ∈ [g "S", g "A", g "B"], x ∈ ((base3 ++ more).map (reRow f)).map (·.1) := fun x hx => by
    simp only [List.mem_cons, List.not_mem_nil, or_false] at hx
    rcases hx with e | e | e
    · rw [e]; exact List.mem_map.mpr ⟨_, mS, rfl⟩
    · rw [e]; exact List.mem_map.mpr ⟨_, mA, rfl⟩
    · rw [e]; exact List.mem_map.mpr ⟨_, mB, rfl⟩
  have sg : ∀ p ∈ (base3 ++ more).map (reRow f), ∀ x ∈ p.2, x ∈ (U ++ signs7).map g := fun p' hp' x hx => by
    obtain ⟨p, hp, rfl⟩ := List.mem_map.mp hp'
    rw [er] at hx
    obtain ⟨y, hy, rfl⟩ := List.mem_map.mp hx
    exact List.mem_map.mpr ⟨y, hUm p hp y hy, rfl⟩
  have lU : ((U ++ signs7).map g).length ≤ 11 := by
    rw [List.length_map, List.length_append]
    show U.length + 7 ≤ 11
    omega
  have sm : Small ((base3 ++ more).map (reRow f)) := by
    refine ⟨?_, fun p' hp' => ?_, ⟨_, Nat.le_trans lU (by decide), sg⟩, ?_, ?_⟩
    · rw [List.length_map, List.length_append]
      show 3 + more.length ≤ 14
      omega
    · obtain ⟨p, hp, rfl⟩ := List.mem_map.mp hp'
      rw [er]
      have := h.wd p hp
      show (p.2.map g).length ≤ 20
      rw [List.length_map]
      omega
    · have h1 : (onceS (((base3 ++ more).map (reRow f)).flatMap (·.2))).length ≤ 11 := Nat.le_trans (Gram.nodup_len (SL.nodup_onceS _) fun x hx => by
        rw [SL.mem_onceS] at hx
        obtain ⟨p, hp, hx'⟩ := List.mem_flatMap.mp hx
        exact sg p hp x hx') lU
      have h2 : 3 ≤ (onceS (((base3 ++ more).map (reRow f)).map (·.1))).length := Gram.nodup_len G.nd fun x hx => by
        rw [SL.mem_onceS]
        exact inL x hx
      omega
    · intro z
      cases z
  have wd : ∀ {x : Str} {p : Row}, p ∈ (base3 ++ more).map (reRow f) → x ∈ p.2 → ¬ x ∈ [g "S", g "A", g "B"] → Word ((base3 ++ more).map (reRow f)) x := fun {x p} hp hx hn => ⟨⟨p, hp, hx⟩, fun z => hn (lf x z)⟩
  have wu := wd mB (x := "u") (by rw [G.u]; exact List.mem_cons_self ..) G.nu
  have wt := wd mA (x := "t") (by rw [G.t]; exact List.mem_cons_self ..) G.nt
  have ws := wd mS (x := "s") (by rw [G.s]; exact List.mem_cons_self ..) G.ns
  have MB : Gram.Made ((base3 ++ more).map (reRow f)) (Word ((base3 ++ more).map (reRow f))) (g "B") := .mk mB fun s hs nw => by
    rw [List.mem_singleton.mp hs, G.u] at nw
    exact absurd wu nw
  have MA : Gram.Made ((base3 ++ more).map (reRow f)) (Word ((base3 ++ more).map (reRow f))) (g "A") := .mk mA fun s hs nw => by
    rcases List.mem_cons.mp hs with e | e
    · rw [e, G.t] at nw
      exact absurd wt nw
    · rw [List.mem_singleton.mp e]; exact MB
  have MS : Gram.Made ((base3 ++ more).map (reRow f)) (Word ((base3 ++ more).map (reRow f))) (g "S") := .mk mS fun s hs nw => by
    rcases List.mem_cons.mp hs with e | e
    · rw [e, G.s] at nw
      exact absurd ws nw
    · rw [List.mem_singleton.mp e]; exact MA
  have fst : fstOf ((base3 ++ more).map (reRow f)) = g "S" := by
    show (reRow f ("S", ["s", "A"])).1 = _
    rw [er]
  have RA : Gram.Reach (rl ((base3 ++ more).map (reRow f))) (g "S") (g "A") := .step .refl (mem_rl.mpr ⟨_, mS, List.mem_cons_of_mem _ (List.mem_cons_self ..), inL _ (List.mem_cons_of_mem _ (List.mem_cons_self ..))⟩)
  have RB : Gram.Reach (rl ((base3 ++ more).map (reRow f))) (g "S") (g "B") := .step RA (mem_rl.mpr ⟨_, mA, List.mem_cons_of_mem _ (List.mem_cons_self ..), inL _ (List.mem_cons_of_mem _ (List.mem_cons_of_mem _ (List.mem_cons_self ..)))⟩)
  refine ⟨sm, fun x hx => ?_, fun x hx => ?_⟩
  · have := lf x hx
    simp only [List.mem_cons, List.not_mem_nil, or_false] at this
    rcases this with e | e | e
    · rw [e]; exact MS
    · rw [e]; exact MA
    · rw [e]; exact MB
  · have := lf x hx
    rw [fst]
    simp only [List.mem_cons, List.not_mem_nil, or_false] at this
    rcases this with e | e | e
    · rw [e]; exact .refl
    · rw [e]; exact RA
    · rw [e]; exact RB
/-! ### what stands in the heap, as data -/
def dStrs (ss : List Str) : D := .lst (ss.map D.str)
def dRow (p : Row) : D := .tup [.str p.1, dStrs p.2]
def dRows (R : List Row) : D := .lst (R.map dRow)
theorem rep_strs {H : Hp} {a : Addr} {ss : List Str} (h : StrsAt H a ss) : Rep H (.ref a) (dStrs ss) :=
  .lst h (by rw [List.length_map, List.length_map]) fun i x d h1 h2 => by
    rw [List.getElem?_map] at h1 h2
    cases e : ss[i]? with
    | none => rw [e] at h1; cases h1
    | some y =>
      rw [e] at h1 h2
      cases h1; cases h2
      exact .str y
theorem rep_row {H : Hp} {v : V} {p : Row} (h : RowAt H v p) : Rep H v (dRow p) := by
  obtain ⟨t, b, rfl, h1, h2⟩ := h
  refine .tup h1 rfl fun i x d e1 e2 => ?_
  rcases i with _ | _ | i
  · cases e1; cases e2; exact .str _
  · cases e1; cases e2; exact rep_strs h2
  · cases e1
theorem rep_rows {H : Hp} {a : Addr} {R : List Row} (h : RowsAt H a R) : Rep H (.ref a) (dRows R) := by
  obtain ⟨vs, h1, h2⟩ := h
  refine .lst h1 (by rw [List.length_map]; exact Paired.length h2) fun i x d e1 e2 => ?_
  obtain ⟨p, hp, hr⟩ := paired_get h2 i x e1
  rw [List.getElem?_map, hp] at e2
  cases e2
  exact rep_row hr
theorem sz_strs (ss : List Str) : (dStrs ss).sz = 1 + ss.length := by
  show 1 + D.szs (ss.map D.str) = _
  congr 1
  induction ss with
  | nil => rfl
  | cons x r ih => show 1 + D.szs (r.map D.str) = r.length + 1; rw [ih]; omega
theorem sz_rows {b : Nat} : ∀ {R : List Row}, (∀ p ∈ R, p.2.length ≤ b) → (dRows R).sz ≤ 1 + (b + 3) * R.length
  | [], _ => by simp [dRows, D.sz, D.szs]
  | p :: r, h => by
    have h1 := h p (List.mem_cons_self ..)
    have h2 := sz_rows (b := b) (R := r) fun q hq => h q (List.mem_cons_of_mem _ hq)
    have e : (dRows (p :: r)).sz = (dRow p).sz + (dRows r).sz := by
      show 1 + (D.sz (dRow p) + D.szs (r.map dRow)) = D.sz (dRow p) + (1 + D.szs (r.map dRow))
      omega
    have e2 : (dRow p).sz = 3 + p.2.length := by
      show 1 + (1 + ((dStrs p.2).sz + 0)) = _
      rw [sz_strs]; omega
    rw [e, e2, List.length_cons, Nat.mul_succ]
    omega
end Nw
/-! for i, x in enumerate(xs) -/
namespace L2
open PySem PySem.Spec PyProof.Rows
section
variable {X : Cx}
/-- records of ours have turned, and a new object is laid and tracked -/
theorem Inv.turnNew {pins : List (Addr × Obj)} {σ : St} {H : Hp} {s : Shared} {h' : Heap} {fp : List Addr} {a : Addr} {o : HO} {t' : Nat} (I : Inv X pins σ H s) (k : ∀ b u, b ∉ fp → s.heap.get? b = some u → h'.get? b = some u) (hf : ∀ b ∈ fp, FpOk X pins H b) (ha : s.heap.objs.size ≤ a)
    (new : ObjOk X.prog X.w (upd H a o) h' a o) : Inv X pins σ (upd H a o) { s with heap := h', toks := t' } := by
  have hn : H a = none := I.hok.fresh ha
  have nit : ∀ b u, H b = some u → b ∉ fp := fun b u e z => by rw [(hf b z).1] at e; cases e
  have up : ∀ b u, H b = some u → upd H a o b = some u := fun b u e => by rw [upd_ne (ne_of_none e hn)]; exact e
  refine I.step (g' := s.gens) (d' := s.drawn) (ch := fp) (fun b hb => ?_) (fun b o _ _ hc e _ => k b o hc e) (fun b o _ _ hc e _ => ⟨o.slots, k b o hc e⟩) (fun b o' hc e n => ?_)
    (fun b o hc e => ⟨o, k b o hc e⟩) (fun b xs e => up b _ e) (fun b o' u e => up b _ e) (fun b ps e => ⟨#[], by rw [up b _ e]; simp⟩) (fun m hm => ?_) (fun b u e => ?_) I.bare
  · obtain ⟨f0, f1, f2, f3, f4, f5⟩ := hf b hb
    exact ⟨f3, f1, f4, f5⟩
  · rw [upd_ne (Nat.ne_of_lt (Nat.lt_of_lt_of_le (Heap.lt_size e) ha))]; exact n
  · obtain ⟨o, es, ep, ho, r⟩ := hm
    exact ⟨o, es, ep, k _ o (fun z => (hf _ z).2.1 rfl) ho, r⟩
  · by_cases q : b = a
    · subst q
      rw [upd_same] at e
      cases e
      exact new
    · rw [upd_ne q] at e
      refine (I.hok b u e).stay (fun c v hc q => k c v ?_ q) (fun c q => up c _ q) fun c xs q => up c _ q
      rcases hc with z | z
      · rw [z]; exact nit b u e
      · exact nit c _ z
end
def Ite (K : PySem.W.Frag) (a : Addr) : It :=
  ⟨fun i H => ∃ xs x, SqL K H a xs ∧ xs[i]? = some x, fun i H v H' => ∃ t x, H t = none ∧ v = .ref t ∧ H' = upd H t (.tup [.int i, x]) ∧ ∀ xs, SqL K H a xs → xs[i]? = some x, fun i H => ∃ xs, SqL K H a xs ∧ xs.length ≤ i⟩
theorem turn_enum {P : Program} {w : World} {K : PySem.W.Frag} {elts : List Expr} {x1} {pos : Pos} (a e it : Addr) (hne : e ≠ it) : Turn P w K (.Tuple elts x1 pos) (Ite K a) [e, it] e (fun i h => ∃ old, IsEnum h e it (i : Nat) old ∧ h.IsListIter it a i) where
  mem := by simp
  obj := fun i h st b hb => by
    obtain ⟨old, he, hi⟩ := st
    rcases List.mem_cons.mp hb with z | z
    · subst z
      exact ⟨_, he, fun v q => by
        have q : Data.fields _ = Data.cell v := q
        cases q⟩
    · have z : b = it := by simpa using z
      subst z
      obtain ⟨o, e, c, d⟩ := hi
      exact ⟨o, e, fun v q => by rw [d] at q; cases q⟩
  keep := fun i h h' st k => by
    obtain ⟨old, he, hi⟩ := st
    exact ⟨old, k e (by simp) _ he, hi.at fun o q => k it (by simp) o q⟩
  item := by
    intro X hP hw hK hc i pins s σ H E I hf st hg
    subst hP hw hK
    obtain ⟨old, he, hi⟩ := st
    obtain ⟨xs, x, hq, hx⟩ := hg
    obtain ⟨its, rv, p, hz⟩ := I.list hq
    obtain ⟨u, hu, ru⟩ := rv.get hx
    refine wpAny_pyNext_enum_item he hi p.isList (x := u) (by simpa using hu) hne fun h1 heo hit1 ht1 hz1 hk1 => ?_
    refine ⟨_, rfl, wpAny_letOwnedTupleGo_enum heo fun h2 he2 hs2 => ?_⟩
    replace hs2 : Heap.SameBut e h1 h2 := hs2
    have helt : e < s.heap.objs.size := Heap.lt_size he
    have ht2 : h2.get? s.heap.objs.size = some { cls := .type "tuple", data := .seq #[.int i s.toks, u] } := (hs2.2 _ (Nat.ne_of_gt helt)).trans ht1
    have I1 : Inv X pins σ (upd H s.heap.objs.size (.tup [.int i, x])) { s with heap := h2, toks := s.toks + 1 } := by
      refine I.turnNew (fp := [e, it]) (fun b o hb q => ?_) hf (Nat.le_refl _) ?_
      · have hbe : b ≠ e := fun z => hb (by simp [z])
        have hbi : b ≠ it := fun z => hb (by simp [z])
        exact (hs2.2 b hbe).trans (hk1 b o hbe hbi q)
      · exact ⟨(show 2 ≤ sizeLine by decide), [.int i s.toks, u], .cons ⟨_, rfl⟩ (.cons ru .nil), ⟨_, ht2, rfl, _, rfl⟩⟩
    refine ⟨.ref s.heap.objs.size, _, I1, rfl, ⟨_, x, I.fresh, rfl, rfl, fun ys hy => by rw [I.list_inj hy hq]; exact hx⟩, ⟨u, ?_, (hit1.extBut hs2.extBut (Ne.symm hne))⟩, fun b hb => ?_⟩
    · have : ((i + 1 : Nat) : Int) = (i : Int) + 1 := by push_cast; rfl
      rw [this]; exact he2
    · have f0 := (hf b hb).1
      have hlt : b < s.heap.objs.size := by
        rcases List.mem_cons.mp hb with z | z
        · rw [z]; exact helt
        · have z : b = it := by simpa using z
          rw [z]
          obtain ⟨o, q, _⟩ := hi
          exact Heap.lt_size q
      rw [upd_ne (Nat.ne_of_lt hlt)]
      exact f0
  done := by
    intro X hP hw hK hc i pins s σ H E I hf st hg
    subst hP hw hK
    obtain ⟨old, he, hi⟩ := st
    obtain ⟨xs, hq, hx⟩ := hg
    obtain ⟨its, rv, p, hz⟩ := I.list hq
    obtain ⟨f0, f1, f2, f3, f4, f5⟩ := hf it (by simp)
    have hl := rv.length
    exact wpAny_pyNext_enum_end (I.ok.hd hc) he hi p.isList (by simp; omega) fun h' eb => ⟨rfl, I.turned (t' := s.toks) (fun b o hb e => eb b o hb e) f0 f1 f3 f4 f5⟩
  self := fun _ _ _ _ _ st h => by
    obtain ⟨old, he, _⟩ := st
    exact wpAny_pyIter_enum he h
def iEnum (K : PySem.W.Frag) (ta : TA) : TI := fun σ H R => ta σ H fun vs H1 => ∃ a, vs = [.ref a] ∧ (∃ xs, SqL K H1 a xs) ∧ R (Ite K a) H1
theorem boot_enum : bootBuiltins "enumerate" = some (.type "enumerate") := by decide +kernel
theorem pi_enum {X : Cx} {elts : List Expr} {x1} {tpos : Pos} {a : Expr} {ta : TA} {p pos : Pos} (hg : Gl X "enumerate") (hm : X.mg "enumerate" = none) (ha : PA X [a] ta) (hs : starEach [a] X.env = [(false, eval a X.env)] := by rfl) : PI X (.Tuple elts x1 tpos) (.Call (.Name "enumerate" p) [a] [] pos) (iEnum X.K ta) := by
  intro pins s σ H R I h
  refine Call_ (ld_blt I hg hm boot_enum (PyProof.Rows.callWith_type1 (thn (ha pos pins s σ H _ I h) fun us s1 ⟨vs, H1, I1, r1, q1⟩ => ?_) hs rfl))
  obtain ⟨l, e, ⟨xs, hq⟩, q⟩ := q1
  subst e
  cases r1 with
  | cons r rr =>
    cases rr
    cases r
    obtain ⟨its, rv, pl, hz⟩ := I1.list hq
    refine call_enumerate_list pl.isList fun h' he hi hz' hk => ?_
    refine wpAny_pyIter_enum he ?_
    have I2 : Inv X pins σ H1 { s1 with heap := h' } := I1.kept (t' := s1.toks) hk
    refine ⟨s1.heap.objs.size + 1, [s1.heap.objs.size + 1, s1.heap.objs.size], _, _, H1, rfl, I2, turn_enum l _ _ (Nat.succ_ne_self _), ⟨.none, he, hi⟩, fun b hb => ?_, q⟩
    have hb' : s1.heap.objs.size ≤ b := by
      rcases List.mem_cons.mp hb with z | z
      · rw [z]; exact Nat.le_succ _
      · have z : b = s1.heap.objs.size := by simpa using z
        rw [z]; exact Nat.le_refl _
    exact I1.fpOk hb' (I1.hok.fresh hb')
/-- the form one uses -/
theorem for_enum {K : PySem.W.Frag} {a : Addr} {xs : List V} {g : TG} {tb : TS} {D : Ends} {σ : St} {H : Hp} (Pv : Nat → St → Hp → Prop) (h0 : Pv 0 σ H) (hl : ∀ i σ H, i ≤ xs.length → Pv i σ H → SqL K H a xs)
    (hs : ∀ i x t σ H, xs[i]? = some x → Pv i σ H → H t = none → g (.ref t) σ (upd H t (.tup [.int i, x])) fun σ2 H2 => tb { D with nx := Pv (i + 1), ct := Pv (i + 1), bk := D.nx } σ2 H2) (hd : ∀ σ H, Pv xs.length σ H → D.nx σ H) :
    ∃ W : Nat → Nat → St → Hp → Prop, (∃ m, W 0 m σ H) ∧ ∀ i m σ H, W i m σ H →
      ((Ite K a).stop i H ∧ D.nx σ H) ∨ ((Ite K a).go i H ∧ ∃ N : St → Hp → Prop, (∀ σ' H', N σ' H' → ∃ m', m' < m ∧ W (i + 1) m' σ' H') ∧ ∀ x H', (Ite K a).yld i H x H' → g x σ H' fun σ2 H2 => tb { D with nx := N, ct := N, bk := D.nx } σ2 H2) := by
  refine ⟨fun i m σ H => Pv i σ H ∧ i ≤ xs.length ∧ m = xs.length - i, ⟨_, h0, Nat.zero_le _, rfl⟩, fun i m σ H ⟨p, hi, hm⟩ => ?_⟩
  have sq := hl i σ H hi p
  rcases Nat.lt_or_ge i xs.length with hlt | hge
  · refine .inr ⟨⟨xs, xs[i], sq, List.getElem?_eq_getElem hlt⟩, Pv (i + 1), fun σ' H' n => ⟨xs.length - (i + 1), by omega, n, hlt, rfl⟩, fun x H' y => ?_⟩
    obtain ⟨t, z, ht, rfl, rfl, hx⟩ := y
    exact hs i z t σ H (hx xs sq) p ht
  · have e : i = xs.length := by omega
    subst e
    exact .inl ⟨⟨xs, sq, Nat.le_refl _⟩, hd σ H p⟩
end L2
namespace Nw
open PySem L2
open SL (onceS srt)
abbrev sCbe : Stmt := top 17
theorem scCbe : FnScope ["signs", "empties"] ["signs", "empties"] (defScope sCbe) := ⟨rfl, rfl, rfl, by decide +kernel, rfl, by decide +kernel, by decide +kernel⟩
def spCbe : Sp := fun vs H Q _ => ∃ (a b : Addr) (r es : List Str), vs = [.ref a, .ref b] ∧ StrsAt H a r ∧ StrsAt H b es ∧ r.length ≤ 20 ∧ ∀ H', Same H H' → Q (.bl (r.all fun s => decide (s ∈ es))) H'
abbrev sWbs : Stmt := top 18
theorem scWbs : FnScope ["signs", "empties", "begins", "words", "sign"] ["signs", "empties", "begins"] (defScope sWbs) := ⟨rfl, rfl, rfl, by decide +kernel, rfl, by decide +kernel, by decide +kernel⟩
def spWbs : Sp := fun vs H Q _ => ∃ (a b c : Addr) (r es : List Str) (f : Tab), vs = [.ref a, .ref b, .ref c] ∧ StrsAt H a r ∧ StrsAt H b es ∧ DictL H c f ∧ r.length ≤ 20 ∧ (∀ e ∈ f, e.2.length ≤ 40) ∧ (∃ U : List Str, U.length ≤ 40 ∧ ∀ z ∈ cb es f r, z ∈ U) ∧
  ∀ q H', Same H H' → H q = none → StrsAt H' q (srt (onceS (cb es f r))) → Q (.ref q) H'
section
variable {P : Program} {w : World} {K : PySem.W.Frag} {mg : Str → Option Value} {base : Heap}
theorem ok_cbe {f : Addr} {fd : FuncData} (F : Fun K "can_be_empty" "can_be_empty" sCbe f fd) (T : Txt mg) : FnOk P w K mg base CX0 1 f fd ["signs", "empties"] spCbe := by
  refine F.ok scCbe (fun vs H Q E h => ?_) (fun cdv A outer s H vs Q E hr h => ?_)
  · obtain ⟨a, b, r, es, rfl, _⟩ := h
    rfl
  · obtain ⟨a, b, r, es, rfl, hA, hB, hl, k⟩ := h
    refine ⟨_, pss_one (ps_ret (pe_callB (call_all rfl) (by rfl) T.all PyProof.Rows.boot_all (pa_cons
      (pe_comp (CompIn.free (N := ["sign", "empties"]) (sel := [none, some 1]) ["empties"] (by rfl) (by rfl) (by rfl) ?c1 ?c2 ?c3 ?c4 (by rfl) ?c5) rfl (pi_list (pv 0)) (fun s₃ H₃ fp => pg_name (i := 0) (show (["sign", "empties"] : List Str).Nodup by decide) rfl (Or.inl rfl)) (fun s₃ H₃ fp => pif_nil)
        (fun s₃ H₃ fp => pe_cmpR (r := rIn K false) op_in_seq (pv 0) (pv 1) (by with_unfolding_all rfl))) pa_nil))), ?_⟩
    case c1 => decide
    case c2 => decide
    case c3 =>
      intro x hx
      rcases List.mem_cons.mp hx with rfl | hx
      · exact ⟨rfl, rfl, _, rfl, rfl⟩
      · cases hx
    case c4 =>
      intro y hy
      rcases List.mem_cons.mp hy with rfl | hy
      · exact List.mem_cons_self ..
      · cases hy
    case c5 =>
      intro j i h
      rcases j with _ | _ | j
      · cases h
      · cases h; exact ⟨"empties", List.mem_cons_self .., rfl, rfl⟩
      · cases h
    have hA : H a = some (.lst (r.map V.str)) := hA
    have hB : H b = some (.lst (es.map V.str)) := hB
    refine ⟨_, rfl, a, rfl, ⟨_, SqL.of hA⟩, fun D hD => comp_list1 (K := K) (xs := r.map V.str) (fun j τ H4 => (∃ o, τ = [o, some (.ref b)]) ∧ H4 = upd H D (.lst (((r.take j).map fun s => decide (s ∈ es)).map V.bl))) ⟨⟨_, rfl⟩, rfl⟩ ?_ ?_ ?_⟩
    · rintro j τ H4 ⟨_, rfl⟩
      exact (Same.upd hD).seq (SqL.of hA)
    · rintro j x τ H4 hx ⟨⟨o, rfl⟩, rfl⟩
      obtain ⟨y, hy, rfl⟩ := strs_get hx
      have hjl : j < r.length := (List.getElem?_eq_some_iff.mp hy).1
      have sD := Same.upd (o := HO.lst (((r.take j).map fun s => decide (s ∈ es)).map V.bl)) hD
      refine ⟨_, rfl, _, rfl, b, _, rfl, .inl (SqL.of (sD _ _ hB)), rfl, flat_strs es, _, upd_same, ?_, ⟨_, rfl⟩, ?_⟩
      · rw [List.length_map, List.length_map, List.length_take]
        exact small1000 (by omega)
      · rw [upd_upd, List.take_succ, hy, List.map_append, List.map_append]
        show upd H D (.lst (_ ++ [V.bl (inV (.str y) (es.map V.str))])) = _
        rw [inV_strs]
        rfl
    · rintro τ H4 ⟨_, rfl⟩
      rw [List.length_map, List.take_length]
      refine ⟨D, r.map fun s => decide (s ∈ es), rfl, SqL.of upd_same, ?_⟩
      have e : ((r.map fun s => decide (s ∈ es)).all id) = r.all fun s => decide (s ∈ es) := by rw [List.all_map]; rfl
      rw [e]
      exact k _ (Same.upd hD)
theorem ok_wbs {f : Addr} {fd : FuncData} (F : Fun K "words_to_begin_signs" "words_to_begin_signs" sWbs f fd) (T : Txt mg) (D1 : Def P w K mg base "leading_signs" 1 ["signs", "empties"] spLead) : FnOk P w K mg base CX0 2 f fd ["signs", "empties", "begins"] spWbs := by
  refine F.ok scWbs (fun vs H Q E h => ?_) (fun cdv A outer s H vs Q E hr h => ?_)
  · obtain ⟨a, b, c, r, es, f, rfl, _⟩ := h
    rfl
  · obtain ⟨a, b, c, r, es, f, rfl, hA, hB, hC, hl, hf40, ⟨U, hU, hUm⟩, k⟩ := h
    have hu := hu_of hr
    refine ⟨_, pss_cons (ps_set (i := 3) scWbs.nd rfl (Or.inl rfl) (pe_lst pa_nil))
      (pss_cons (ps_for PassesOwn.never rfl (pi_list (pe_def D1 hr (by rfl) (pa_cons (pv 0) (pa_cons (pv 1) pa_nil)))) (pg_name (i := 4) scWbs.nd rfl (Or.inl rfl))
        (pss_one (ps_expr (pe_bm PySem.F.plainAttrs_list PySem.F.slot_list_extend PySem.F.type_list_extend mt_extend (pv 3) (pa_cons (pe_dget2 hu (pv 2) (pv 4) (pe_lst (pa_cons (pv 4) pa_nil)) ⟨rfl, rfl, rfl, rfl⟩) pa_nil)))))
      (pss_one (ps_ret (pe_callB (call_sorted rfl) (by rfl) T.srt PyProof.Rows.boot_sorted (pa_cons (pe_callTy (call_set rfl) (by rfl) T.set (by decide +kernel) (pa_cons (pv 3) pa_nil)) pa_nil))))), ?_⟩
    refine ⟨by decide, fun wl hwl => ?_⟩
    have s0 := Same.upd (o := HO.lst []) hwl
    refine ⟨_, rfl, _, rfl, a, b, r, es, rfl, s0 _ _ hA, s0 _ _ hB, by omega, fun ql H1 s1 n1 hS1 => ?_⟩
    have s01 := s0.trans s1
    have hS1 : H1 ql = some (.lst ((Gram.lead es r).map V.str)) := hS1
    have hql : ql ≠ wl := fun z => by rw [z, upd_same] at n1; cases n1
    have hll := Gram.lead_len es r
    refine ⟨ql, rfl, ⟨_, SqL.of hS1⟩, for_list (K := K) (a := ql) (xs := (Gram.lead es r).map V.str)
      (fun i σ H2 => (∃ o, σ = [some (.ref a), some (.ref b), some (.ref c), some (.ref wl), o]) ∧ Same H H2 ∧ H2 ql = some (.lst ((Gram.lead es r).map V.str)) ∧ StrsAt H2 wl (((Gram.lead es r).take i).flatMap fun s => (f.lookup s).getD [s]))
      ⟨⟨_, rfl⟩, s01, hS1, s1 _ _ upd_same⟩ ?_ ?_ ?_⟩
    · rintro i σ H2 _ ⟨_, _, h, _⟩
      exact SqL.of h
    · rintro i x σ H2 hx ⟨⟨o, rfl⟩, s2, hq2, hw2⟩
      obtain ⟨y, hy, rfl⟩ := strs_get hx
      have hil : i < (Gram.lead es r).length := (List.getElem?_eq_some_iff.mp hy).1
      have hw2' : H2 wl = some (.lst ((((Gram.lead es r).take i).flatMap fun s => (f.lookup s).getD [s]).map V.str)) := hw2
      refine ⟨_, rfl, .inl ⟨rfl, _, SqL.of hw2'⟩, _, rfl, c, rfl, ?_, _, rfl, _, rfl, (show 1 ≤ sizeLine by decide), fun q1 hq1 => ?_⟩
      · obtain ⟨kvs, h1, _⟩ := hC.mono s2
        exact .inl ⟨kvs, h1⟩
      have sq1 := Same.upd (o := HO.lst [.str y]) hq1
      have s3 := s2.trans sq1
      obtain ⟨kvs, h1, h2⟩ := hC.mono s3
      obtain ⟨o', l, hg, hv, hl'⟩ : ∃ o' l, DGet (upd H2 q1 (.lst [.str y])) c (.str y) o' ∧ o'.getD (.ref q1) = .ref l ∧ StrsAt (upd H2 q1 (.lst [.str y])) l ((f.lookup y).getD [y]) := by
        rcases ent_val h2 y with ⟨e1, e2⟩ | ⟨ys, l, e1, e2, e3⟩
        · refine ⟨none, q1, .inl ⟨kvs, Sum.inr y, h1, rfl, e2.symm⟩, rfl, ?_⟩
          rw [e1]
          exact upd_same
        · refine ⟨some (.ref l), l, .inl ⟨kvs, Sum.inr y, h1, rfl, e2.symm⟩, rfl, ?_⟩
          rw [e1]
          exact e3
      refine ⟨o', hg, ?_⟩
      rw [hv]
      have hb1 := cb_len (es := es) hf40 ((Gram.lead es r).take i)
      have hb2 := cb_len (es := es) hf40 [y]
      rw [List.flatMap_cons, List.flatMap_nil, List.append_nil] at hb2
      rw [List.length_take] at hb1
      simp only [List.length_singleton] at hb2
      refine ⟨wl, l, _, _, rfl, rfl, sq1 _ _ hw2', hl', by rw [List.length_map, List.length_map]; exact big_line (by omega), ⟨_, rfl⟩, s3.updS hwl, by rw [upd_ne hql]; exact sq1 _ _ hq2, ?_⟩
      unfold StrsAt
      rw [upd_same, List.take_succ, hy, List.flatMap_append, List.map_append]
      simp
    · rintro σ H2 ⟨⟨o, rfl⟩, s2, hq2, hw2⟩
      rw [List.length_map, List.take_length] at hw2
      have hw2 : StrsAt H2 wl (cb es f r) := hw2
      have hb1 : (cb es f r).length ≤ 40 * (Gram.lead es r).length := cb_len (es := es) hf40 (Gram.lead es r)
      refine ⟨_, rfl, wl, cb es f r, rfl, SqL.of hw2, by unfold scanBound; omega, fun q hq => ?_⟩
      refine ⟨q, onceS (cb es f r), rfl, .inr (.inl upd_same), ?_, fun q2 hq2 => ?_⟩
      · have := Gram.nodup_len (SL.nodup_onceS (cb es f r)) fun z hz => hUm z (SL.mem_onceS.mp hz)
        omega
      · have s3 := s2.trans (Same.upd (o := setO w q (onceS (cb es f r))) hq)
        exact k q2 _ (s3.trans (Same.upd hq2)) (s3.free hq2) upd_same
end
end Nw
namespace Nw
open PySem L2
open SL (onceS srt)
/-! ### what comes behind a sort -/
/-- x stands in a row of l, rest behind it -/
def Oc (R : List Row) (x : Str) (rest : List Str) (l : Str) : Prop := ∃ r j, (l, r) ∈ R ∧ r[j]? = some x ∧ rest = r.drop (j + 1)
def DoneO (R : List Row) (i j : Nat) (x : Str) (rest : List Str) (l : Str) : Prop := ∃ i' j' p, (i' < i ∨ (i' = i ∧ j' < j)) ∧ R[i']? = some p ∧ p.2[j']? = some x ∧ rest = p.2.drop (j' + 1) ∧ l = p.1
theorem doneO_zero {R : List Row} {x : Str} {rest : List Str} {l : Str} : ¬ DoneO R 0 0 x rest l := by
  rintro ⟨i', j', p, h, _⟩
  omega
theorem doneO_succ {R : List Row} {i j : Nat} {p : Row} {x y : Str} {rest : List Str} {l : Str} (hp : R[i]? = some p) (hy : p.2[j]? = some y) : DoneO R i (j + 1) x rest l ↔ DoneO R i j x rest l ∨ (x = y ∧ rest = p.2.drop (j + 1) ∧ l = p.1) := by
  constructor
  · rintro ⟨i', j', p', h, h1, h2, h3, h4⟩
    by_cases q : i' = i ∧ j' = j
    · obtain ⟨rfl, rfl⟩ := q
      rw [hp] at h1; cases h1
      rw [hy] at h2; cases h2
      exact .inr ⟨rfl, h3, h4⟩
    · exact .inl ⟨i', j', p', by omega, h1, h2, h3, h4⟩
  · rintro (⟨i', j', p', h, h1, h2, h3, h4⟩ | ⟨rfl, h3, h4⟩)
    · exact ⟨i', j', p', by omega, h1, h2, h3, h4⟩
    · exact ⟨i, j, p, .inr ⟨rfl, by omega⟩, hp, hy, h3, h4⟩
theorem doneO_row {R : List Row} {i : Nat} {p : Row} {x : Str} {rest : List Str} {l : Str} (hp : R[i]? = some p) : DoneO R (i + 1) 0 x rest l ↔ DoneO R i p.2.length x rest l := by
  constructor
  · rintro ⟨i', j', p', h, h1, h2, h3, h4⟩
    refine ⟨i', j', p', ?_, h1, h2, h3, h4⟩
    rcases Nat.lt_or_ge i' i with z | z
    · exact .inl z
    · have e : i' = i := by omega
      subst e
      rw [hp] at h1; cases h1
      exact .inr ⟨rfl, (List.getElem?_eq_some_iff.mp h2).1⟩
  · rintro ⟨i', j', p', h, h1, h2, h3, h4⟩
    exact ⟨i', j', p', .inl (by omega), h1, h2, h3, h4⟩
theorem doneO_all {R : List Row} {x : Str} {rest : List Str} {l : Str} : DoneO R R.length 0 x rest l ↔ Oc R x rest l := by
  constructor
  · rintro ⟨i', j', p', h, h1, h2, h3, rfl⟩
    exact ⟨p'.2, j', List.mem_of_getElem? h1, h2, h3⟩
  · rintro ⟨r, j, hm, h2, h3⟩
    obtain ⟨i, hi⟩ := List.mem_iff_getElem?.mp hm
    exact ⟨i, j, (l, r), .inl (List.getElem?_eq_some_iff.mp hi).1, hi, h2, h3, rfl⟩
theorem Oc.row {R : List Row} {x : Str} {rest : List Str} {l : Str} (h : Oc R x rest l) : ∃ r, (l, r) ∈ R ∧ ∀ s ∈ rest, s ∈ r := by
  obtain ⟨r, j, hm, _, rfl⟩ := h
  exact ⟨r, hm, fun s hs => List.mem_of_mem_drop hs⟩
/-- a word that can begin these signs -/
def Wd (R : List Row) (es rest : List Str) (z : Str) : Prop := ∃ s ∈ Gram.lead es rest, (s ∈ R.map (·.1) ∧ Begin R s z) ∨ (¬ s ∈ R.map (·.1) ∧ z = s)
theorem cb_iff {R : List Row} {es rest : List Str} {f : Tab} (hk : f.map (·.1) = sortsIn R) (hc : ∀ e ∈ f, ∀ z, z ∈ e.2 ↔ Begin R e.1 z) {z : Str} : z ∈ cb es f rest ↔ Wd R es rest z := by
  rw [mem_cb]
  unfold Wd
  have key : ∀ s, z ∈ (f.lookup s).getD [s] ↔ (s ∈ R.map (·.1) ∧ Begin R s z) ∨ (¬ s ∈ R.map (·.1) ∧ z = s) := fun s => by
    by_cases q : s ∈ R.map (·.1)
    · obtain ⟨ys, e1, e2⟩ := lookup_keys (f := f) (x := s) (by rw [hk]; exact mem_sortsIn.mpr q)
      rw [e1]
      show z ∈ ys ↔ _
      rw [hc _ e2 z]
      exact ⟨fun h => .inl ⟨q, h⟩, fun h => h.elim (·.2) fun w => absurd q w.1⟩
    · have e : f.lookup s = none := by
        cases e : f.lookup s with
        | none => rfl
        | some ys =>
          have := lookup_mem e
          exact absurd (mem_sortsIn.mp (by rw [← hk]; exact List.mem_map.mpr ⟨_, this, rfl⟩)) q
      rw [e]
      show z ∈ [s] ↔ _
      rw [List.mem_singleton]
      exact ⟨fun h => .inr ⟨q, h⟩, fun h => h.elim (fun w => absurd w.1 q) (·.2)⟩
  exact ⟨fun ⟨s, h1, h2⟩ => ⟨s, h1, (key s).mp h2⟩, fun ⟨s, h1, h2⟩ => ⟨s, h1, (key s).mpr h2⟩⟩
theorem Wd.sign {R : List Row} {es rest : List Str} {z : Str} (h : Wd R es rest z) {r : List Str} {l : Str} (hm : (l, r) ∈ R) (hs : ∀ s ∈ rest, s ∈ r) : ∃ p ∈ R, z ∈ p.2 := by
  obtain ⟨s, h1, ⟨_, es', _, hb⟩ | ⟨_, rfl⟩⟩ := h
  · exact hb.sign.2
  · exact ⟨_, hm, hs _ (Gram.lead_sub _ _ _ h1)⟩
theorem Wd.congr {R : List Row} {es es' rest : List Str} (h : ∀ x, x ∈ es ↔ x ∈ es') {z : Str} (w : Wd R es rest z) : Wd R es' rest z := by
  unfold Wd at *
  rw [← Gram.lead_congr h]
  exact w
inductive Beh (R : List Row) (es : List Str) : Str → Str → Prop
  | fin : Beh R es (fstOf R) ""
  | word {l x z : Str} {rest : List Str} : Oc R x rest l → x ∈ R.map (·.1) → Wd R es rest z → Beh R es x z
  | up {l x z : Str} {rest : List Str} : Oc R x rest l → x ∈ R.map (·.1) → (∀ s ∈ rest, s ∈ es) → Beh R es l z → Beh R es x z
def Behind (R : List Row) (x z : Str) : Prop := ∃ es, (∀ y, y ∈ es ↔ Gram.Made R (fun _ => False) y) ∧ Beh R es x z
theorem beh_congr {R : List Row} {es es' : List Str} (h : ∀ x, x ∈ es ↔ x ∈ es') {x z : Str} (b : Beh R es x z) : Beh R es' x z := by
  induction b with
  | fin => exact .fin
  | word h1 h2 h3 => exact .word h1 h2 (h3.congr h)
  | up h1 h2 h3 _ ih => exact .up h1 h2 (fun s hs => (h s).mp (h3 s hs)) ih
theorem behind_iff {R : List Row} {es : List Str} (h : ∀ y, y ∈ es ↔ Gram.Made R (fun _ => False) y) {x z : Str} : Behind R x z ↔ Beh R es x z :=
  ⟨fun ⟨es', h', b⟩ => beh_congr (fun y => (h' y).trans (h y).symm) b, fun b => ⟨es, h, b⟩⟩
theorem beh_iff {R : List Row} {es : List Str} {o k : Str → List Str} (hf : fstOf R ∈ R.map (·.1)) (ho : ∀ x z, z ∈ o x ↔ x ∈ R.map (·.1) ∧ ((x = fstOf R ∧ z = "") ∨ ∃ rest l, Oc R x rest l ∧ Wd R es rest z))
    (hk : ∀ x y, y ∈ k x ↔ x ∈ R.map (·.1) ∧ ∃ rest, Oc R x rest y ∧ ∀ s ∈ rest, s ∈ es) {x z : Str} : (∃ y, Gram.Reach k x y ∧ z ∈ o y) ↔ Beh R es x z := by
  constructor
  · rintro ⟨y, hr, hz⟩
    have hb : Beh R es y z := by
      obtain ⟨hy, ⟨rfl, rfl⟩ | ⟨rest, l, h1, h2⟩⟩ := (ho y z).mp hz
      · exact .fin
      · exact .word h1 hy h2
    clear hz
    induction hr with
    | refl => exact hb
    | step _ hc ih =>
      obtain ⟨hy, rest, h1, h2⟩ := (hk _ _).mp hc
      exact ih (.up h1 hy h2 hb)
  · intro h
    induction h with
    | fin => exact ⟨_, .refl, (ho _ _).mpr ⟨hf, .inl ⟨rfl, rfl⟩⟩⟩
    | word h1 h2 h3 => exact ⟨_, .refl, (ho _ _).mpr ⟨h2, .inr ⟨_, _, h1, h3⟩⟩⟩
    | up h1 h2 h3 _ ih =>
      obtain ⟨y, hr, hz⟩ := ih
      exact ⟨y, Gram.Reach.head ((hk _ _).mpr ⟨h2, _, h1, h3⟩) hr, hz⟩
theorem Beh.sign {R : List Row} {es : List Str} {x z : Str} (h : Beh R es x z) : z = "" ∨ ∃ p ∈ R, z ∈ p.2 := by
  induction h with
  | fin => exact .inl rfl
  | word h1 _ h3 =>
    obtain ⟨r, hm, hs⟩ := h1.row
    exact .inr (h3.sign hm hs)
  | up _ _ _ _ ih => exact ih
theorem Canon.congr {P P' : Str → Prop} {L : List Str} (h : Canon P L) (e : ∀ z, P z ↔ P' z) : Canon P' L := by
  obtain ⟨D, h1, h2, h3⟩ := h
  exact ⟨D, h1, h2, fun z => (h3 z).trans (e z)⟩
theorem Canon.mem {P : Str → Prop} {L : List Str} (h : Canon P L) (z : Str) : z ∈ L ↔ P z := by
  obtain ⟨D, rfl, h2, h3⟩ := h
  rw [SL.mem_srt]
  exact h3 z
/-- few rows, and short -/
structure Tight (R : List Row) : Prop where
  len : R.length ≤ 7
  wid : ∀ p ∈ R, p.2.length ≤ 14
  few : ∃ U : List Str, U.length ≤ 11 ∧ ∀ p ∈ R, ∀ x ∈ p.2, x ∈ U
theorem Tight.fewS {R : List Row} (S : Tight R) {D : List Str} (nd : D.Nodup) (h : ∀ z ∈ D, ∃ p ∈ R, z ∈ p.2) : D.length ≤ 11 := by
  obtain ⟨U, hU, hm⟩ := S.few
  exact Nat.le_trans (Gram.nodup_len nd fun z hz => by obtain ⟨p, hp, hz'⟩ := h z hz; exact hm p hp z hz') hU
theorem tot_tabOf (ka : KA) (v : Str → List Str) : ((tabOf ka v).map fun e => e.2.length).sum = tot (ka.map (·.1)) v := by
  unfold tabOf tot
  rw [List.map_map, List.map_map]
  rfl
theorem cut_drop (r : List Str) (k : Nat) : cutV (r.map V.str) (some ((k : Nat) : Int)) none = (r.drop k).map V.str := by
  unfold cutV
  rw [HT.sIx_none, HT.sIx_nat, List.length_map]
  rcases Nat.lt_or_ge r.length k with z | z
  · rw [Nat.min_eq_right (by omega), Nat.sub_self, List.take_zero, List.drop_eq_nil_of_le (by omega)]
    rfl
  · rw [Nat.min_eq_left z, List.take_of_length_le (by rw [List.length_drop, List.length_map]; omega), List.map_drop]
end Nw
namespace Nw
open PySem L2
open SL (onceS srt)
/-- what the two tables hold, so far in the rows -/
structure WI (R : List Row) (es : List Str) (i j : Nat) (o k : Str → List Str) : Prop where
  ow : ∀ x z, z ∈ o x ↔ x ∈ R.map (·.1) ∧ ((x = fstOf R ∧ z = "") ∨ ∃ rest l, DoneO R i j x rest l ∧ Wd R es rest z)
  lk : ∀ x y, y ∈ k x ↔ x ∈ R.map (·.1) ∧ ∃ rest, DoneO R i j x rest y ∧ ∀ s ∈ rest, s ∈ es
  so : tot (sortsIn R) o ≤ 1 + 11 * (14 * i + j)
  sk : tot (sortsIn R) k ≤ 14 * i + j
theorem tot_nil (ks : List Str) : tot ks (fun _ => []) = 0 := by
  unfold tot
  induction ks with
  | nil => rfl
  | cons x r ih => rw [List.map_cons, List.sum_cons, ih]; rfl
theorem WI.zero {R : List Row} {es : List Str} (hf : fstOf R ∈ R.map (·.1)) : WI R es 0 0 (setV (fun _ => []) (fstOf R) (([] : List Str) ++ [("" : Str)])) (fun _ => []) := by
  refine ⟨fun x z => ?_, fun x y => ?_, ?_, ?_⟩
  · constructor
    · intro h
      by_cases q : x = fstOf R
      · subst q
        rw [setV_same] at h
        exact ⟨hf, .inl ⟨rfl, by simpa using h⟩⟩
      · rw [setV_ne q] at h; cases h
    · rintro ⟨hx, ⟨rfl, rfl⟩ | ⟨rest, l, h, _⟩⟩
      · rw [setV_same]; simp
      · exact absurd h doneO_zero
  · constructor
    · intro h; cases h
    · rintro ⟨_, rest, h, _⟩
      exact absurd h doneO_zero
  · have := tot_set (v := fun _ => []) (ys := ([] : List Str) ++ [("" : Str)]) (nd_sortsIn R) (mem_sortsIn.mpr hf)
    rw [tot_nil] at this
    simp only [List.length_nil, List.length_append, List.length_singleton] at this
    omega
  · rw [tot_nil]; omega
theorem WI.skip {R : List Row} {es : List Str} {i j : Nat} {o k : Str → List Str} {p : Row} {y : Str} (h : WI R es i j o k) (hp : R[i]? = some p) (hy : p.2[j]? = some y) (n : ¬ y ∈ R.map (·.1)) : WI R es i (j + 1) o k := by
  refine ⟨fun x z => ?_, fun x z => ?_, by have := h.so; omega, by have := h.sk; omega⟩
  · rw [h.ow]
    constructor
    · rintro ⟨hx, h1 | ⟨rest, l, h1, h2⟩⟩
      · exact ⟨hx, .inl h1⟩
      · exact ⟨hx, .inr ⟨rest, l, (doneO_succ hp hy).mpr (.inl h1), h2⟩⟩
    · rintro ⟨hx, h1 | ⟨rest, l, h1, h2⟩⟩
      · exact ⟨hx, .inl h1⟩
      · rcases (doneO_succ hp hy).mp h1 with h1 | ⟨e, _⟩
        · exact ⟨hx, .inr ⟨rest, l, h1, h2⟩⟩
        · exact absurd (e ▸ hx) n
  · rw [h.lk]
    constructor
    · rintro ⟨hx, rest, h1, h2⟩
      exact ⟨hx, rest, (doneO_succ hp hy).mpr (.inl h1), h2⟩
    · rintro ⟨hx, rest, h1, h2⟩
      rcases (doneO_succ hp hy).mp h1 with h1 | ⟨e, _⟩
      · exact ⟨hx, rest, h1, h2⟩
      · exact absurd (e ▸ hx) n
theorem WI.row {R : List Row} {es : List Str} {i : Nat} {o k : Str → List Str} {p : Row} (h : WI R es i p.2.length o k) (hp : R[i]? = some p) (hw : p.2.length ≤ 14) : WI R es (i + 1) 0 o k := by
  refine ⟨fun x z => ?_, fun x z => ?_, by have := h.so; omega, by have := h.sk; omega⟩
  · rw [h.ow]
    simp only [doneO_row hp]
  · rw [h.lk]
    simp only [doneO_row hp]
theorem WI.step {R : List Row} {es : List Str} {i j : Nat} {o k k' : Str → List Str} {p : Row} {y : Str} (h : WI R es i j o k) (hp : R[i]? = some p) (hy : p.2[j]? = some y) (hys : y ∈ R.map (·.1))
    {ws : List Str} (hw : ∀ z, z ∈ ws ↔ Wd R es (p.2.drop (j + 1)) z) (hl : ws.length ≤ 11)
    (hk : ((∀ s ∈ p.2.drop (j + 1), s ∈ es) ∧ k' = setV k y (k y ++ [p.1])) ∨ ((¬ ∀ s ∈ p.2.drop (j + 1), s ∈ es) ∧ k' = k)) : WI R es i (j + 1) (setV o y (o y ++ ws)) k' := by
  refine ⟨fun x z => ?_, fun x z => ?_, ?_, ?_⟩
  · by_cases q : x = y
    · subst q
      rw [setV_same, List.mem_append, h.ow, hw]
      constructor
      · rintro (⟨hx, h1 | ⟨rest, l, h1, h2⟩⟩ | h1)
        · exact ⟨hx, .inl h1⟩
        · exact ⟨hx, .inr ⟨rest, l, (doneO_succ hp hy).mpr (.inl h1), h2⟩⟩
        · exact ⟨hys, .inr ⟨_, _, (doneO_succ hp hy).mpr (.inr ⟨rfl, rfl, rfl⟩), h1⟩⟩
      · rintro ⟨hx, h1 | ⟨rest, l, h1, h2⟩⟩
        · exact .inl ⟨hx, .inl h1⟩
        · rcases (doneO_succ hp hy).mp h1 with h1 | ⟨_, e, _⟩
          · exact .inl ⟨hx, .inr ⟨rest, l, h1, h2⟩⟩
          · rw [e] at h2; exact .inr h2
    · rw [setV_ne q, h.ow]
      constructor
      · rintro ⟨hx, h1 | ⟨rest, l, h1, h2⟩⟩
        · exact ⟨hx, .inl h1⟩
        · exact ⟨hx, .inr ⟨rest, l, (doneO_succ hp hy).mpr (.inl h1), h2⟩⟩
      · rintro ⟨hx, h1 | ⟨rest, l, h1, h2⟩⟩
        · exact ⟨hx, .inl h1⟩
        · rcases (doneO_succ hp hy).mp h1 with h1 | ⟨e, _⟩
          · exact ⟨hx, .inr ⟨rest, l, h1, h2⟩⟩
          · exact absurd e q
  · rcases hk with ⟨ha, rfl⟩ | ⟨ha, rfl⟩
    · by_cases q : x = y
      · subst q
        rw [setV_same, List.mem_append, h.lk, List.mem_singleton]
        constructor
        · rintro (⟨hx, rest, h1, h2⟩ | rfl)
          · exact ⟨hx, rest, (doneO_succ hp hy).mpr (.inl h1), h2⟩
          · exact ⟨hys, _, (doneO_succ hp hy).mpr (.inr ⟨rfl, rfl, rfl⟩), ha⟩
        · rintro ⟨hx, rest, h1, h2⟩
          rcases (doneO_succ hp hy).mp h1 with h1 | ⟨_, _, e⟩
          · exact .inl ⟨hx, rest, h1, h2⟩
          · exact .inr e
      · rw [setV_ne q, h.lk]
        constructor
        · rintro ⟨hx, rest, h1, h2⟩
          exact ⟨hx, rest, (doneO_succ hp hy).mpr (.inl h1), h2⟩
        · rintro ⟨hx, rest, h1, h2⟩
          rcases (doneO_succ hp hy).mp h1 with h1 | ⟨e, _⟩
          · exact ⟨hx, rest, h1, h2⟩
          · exact absurd e q
    · rw [h.lk]
      constructor
      · rintro ⟨hx, rest, h1, h2⟩
        exact ⟨hx, rest, (doneO_succ hp hy).mpr (.inl h1), h2⟩
      · rintro ⟨hx, rest, h1, h2⟩
        rcases (doneO_succ hp hy).mp h1 with h1 | ⟨_, e, _⟩
        · exact ⟨hx, rest, h1, h2⟩
        · rw [e] at h2; exact absurd h2 ha
  · have := tot_set (v := o) (ys := o y ++ ws) (nd_sortsIn R) (mem_sortsIn.mpr hys)
    rw [List.length_append] at this
    have := h.so
    omega
  · rcases hk with ⟨ha, rfl⟩ | ⟨ha, rfl⟩
    · have := tot_set (v := k) (ys := k y ++ [p.1]) (nd_sortsIn R) (mem_sortsIn.mpr hys)
      rw [List.length_append, List.length_singleton] at this
      have := h.sk
      omega
    · have := h.sk
      omega
theorem tot_one {ks : List Str} {v : Str → List Str} {x : Str} (h : x ∈ ks) : (v x).length ≤ tot ks v := by
  unfold tot
  induction ks with
  | nil => cases h
  | cons y r ih =>
    rw [List.map_cons, List.sum_cons]
    rcases List.mem_cons.mp h with e | e
    · rw [e]; omega
    · have := ih e; omega
abbrev sWbh : Stmt := top 22
theorem scWbh : FnScope ["rows", "empties", "begins", "own", "links", "left", "right", "place", "sign", "rest"] ["rows"] (defScope sWbh) := ⟨rfl, rfl, rfl, by decide +kernel, rfl, by decide +kernel, by decide +kernel⟩
def spWbh : Sp := fun vs H Q _ => ∃ (a : Addr) (R : List Row), vs = [.ref a] ∧ RowsAt H a R ∧ Good R ∧ Tight R ∧ ∀ d res H', Same H H' → H d = none → DictR H' d res → res.map (·.1) = sortsIn R → (∀ e ∈ res, Canon (Behind R e.1) e.2) → Q (.ref d) H'
section
variable {P : Program} {w : World} {K : PySem.W.Frag} {mg : Str → Option Value} {base : Heap}
theorem ok_wbh {f : Addr} {fd : FuncData} (F : Fun K "words_behind" "words_behind" sWbh f fd) (T : Txt mg) (hEn : mg "enumerate" = none) {uE : Value} (hE : mg "END" = some uE) (rE : RelV (.str "") uE)
    (D1 : Def P w K mg base "empty_sorts" 4 ["rows"] spEmpty) (D2 : Def P w K mg base "words_to_begin" 5 ["rows"] spWtb) (D3 : Def P w K mg base "lists_by_sort" 2 ["rows"] spLists)
    (D4 : Def P w K mg base "first_sort" 1 ["rows"] spFirst) (D5 : Def P w K mg base "words_to_begin_signs" 2 ["signs", "empties", "begins"] spWbs) (D6 : Def P w K mg base "can_be_empty" 1 ["signs", "empties"] spCbe)
    (D7 : Def P w K mg base "gathered" 2 ["own", "links"] spGath) : FnOk P w K mg base CX0 6 f fd ["rows"] spWbh := by
  refine F.ok scWbh (fun vs H Q E h => ?_) (fun cdv A outer s H vs Q E hr h => ?_)
  · obtain ⟨a, R, rfl, _⟩ := h
    rfl
  · obtain ⟨a, R, rfl, hR, hg, ht, k⟩ := h
    have hu := hu_of hr
    have hr4 : Room 4 _ := hr.mono (by decide)
    have hr2 : Room 2 _ := hr.mono (by decide)
    have hr1 : Room 1 _ := hr.mono (by decide)
    refine ⟨_, pss_cons (ps_set (i := 1) scWbh.nd rfl (Or.inl rfl) (pe_def D1 hr4 (by rfl) (pa_cons (pv 0) pa_nil)))
      (pss_cons (ps_set (i := 2) scWbh.nd rfl (Or.inl rfl) (pe_def D2 hr (by rfl) (pa_cons (pv 0) pa_nil)))
      (pss_cons (ps_set (i := 3) scWbh.nd rfl (Or.inl rfl) (pe_def D3 hr2 (by rfl) (pa_cons (pv 0) pa_nil)))
      (pss_cons (ps_set (i := 4) scWbh.nd rfl (Or.inl rfl) (pe_def D3 hr2 (by rfl) (pa_cons (pv 0) pa_nil)))
      (pss_cons (ps_expr (pe_bm PySem.F.plainAttrs_list PySem.F.slot_list_append PySem.F.type_list_append mt_append (pe_dget hu (pv 3) (pe_def D4 hr1 (by rfl) (pa_cons (pv 0) pa_nil)) (fun _ _ => rfl)) (pa_cons (pe_glob (by rfl) hE rE) pa_nil)))
      (pss_cons (ps_for PassesOwn.never rfl (pi_list (pv 0)) (pg_tup (n := 2) rfl (pgs_cons (pg_name (i := 5) scWbh.nd rfl (Or.inl rfl)) (pgs_cons (pg_name (i := 6) scWbh.nd rfl (Or.inl rfl)) pgs_nil)))
        (pss_one (ps_for PassesOwn.never rfl (pi_enum (by rfl) hEn (pa_cons (pv 6) pa_nil)) (pg_tup (n := 2) rfl (pgs_cons (pg_name (i := 7) scWbh.nd rfl (Or.inl rfl)) (pgs_cons (pg_name (i := 8) scWbh.nd rfl (Or.inl rfl)) pgs_nil)))
          (pss_one (ps_if (pt_cmp (pc_din hu (pv 8) (pv 3)))
            (pss_cons (ps_set (i := 9) scWbh.nd rfl (Or.inl rfl) (pe_slice sl_list (pv 6) (po_some (pe_op op_add (pv 7) pe_int)) po_none))
            (pss_cons (ps_expr (pe_bm PySem.F.plainAttrs_list PySem.F.slot_list_extend PySem.F.type_list_extend mt_extend (pe_dget hu (pv 3) (pv 8) (fun _ _ => rfl)) (pa_cons (pe_def D5 hr2 (by rfl) (pa_cons (pv 9) (pa_cons (pv 1) (pa_cons (pv 2) pa_nil)))) pa_nil)))
            (pss_one (ps_if (pt_val (pe_def D6 hr1 (by rfl) (pa_cons (pv 9) (pa_cons (pv 1) pa_nil))))
              (pss_one (ps_expr (pe_bm PySem.F.plainAttrs_list PySem.F.slot_list_append PySem.F.type_list_append mt_append (pe_dget hu (pv 4) (pv 8) (fun _ _ => rfl)) (pa_cons (pv 5) pa_nil))))
              pss_nil))))
            pss_nil)))))
      (pss_one (ps_ret (pe_def D7 hr2 (by rfl) (pa_cons (pv 3) (pa_cons (pv 4) pa_nil)))))))))), ?_⟩
    have hR7 := ht.len
    have hne : ∃ p R', R = p :: R' := by
      cases R with
      | nil => exact absurd rfl hg.small.ne
      | cons p R' => exact ⟨p, R', rfl⟩
    have hf : fstOf R ∈ R.map (·.1) := by
      obtain ⟨p, R', rfl⟩ := hne
      exact List.mem_cons_self ..
    refine ⟨_, rfl, a, R, rfl, hR, hg, fun qe ms H1 s1 n1 nd1 hm1 hS1 => ?_⟩
    generalize hes : srt ms = es at hS1
    have hem : ∀ y, y ∈ es ↔ Gram.Made R (fun _ => False) y := fun y => by rw [← hes, SL.mem_srt]; exact hm1 y
    refine ⟨_, rfl, a, R, rfl, hR.mono s1, hg, fun db fb Hb s2 nb hB hkB hcB => ?_⟩
    have s12 := s1.trans s2
    have hcB' : ∀ e ∈ fb, ∀ z, z ∈ e.2 ↔ Begin R e.1 z := fun e he z => (hcB e he).mem z
    have wd : ∀ {rest : List Str} {z : Str}, z ∈ cb es fb rest ↔ Wd R es rest z := fun {rest z} => cb_iff hkB hcB'
    have fb40 : ∀ e ∈ fb, e.2.length ≤ 40 := fun e he => by
      obtain ⟨D, h1, h2, h3⟩ := hcB e he
      rw [h1, SL.len_srt]
      exact Nat.le_trans (ht.fewS h2 fun z hz => by
        obtain ⟨_, _, hb⟩ := (h3 z).mp hz
        exact hb.sign.2) (by decide)
    have hEb : StrsAt Hb qe es := s2 _ _ hS1
    have hRb := hR.mono s12
    obtain ⟨vs, hv, hp⟩ := id hRb
    have hlen : vs.length = R.length := Paired.length hp
    refine ⟨_, rfl, a, R, rfl, hRb, hg.small, fun d1 ka1 H2 s3 g1 hk1 tv1 => ?_⟩
    refine ⟨_, rfl, a, R, rfl, hRb.mono s3, hg.small, fun d2 ka2 H3 s4 g2 hk2 tv2 => ?_⟩
    have s34 := s3.trans s4
    have tv1' := tv1.keep s4
    have hkm1 : ∀ x, x ∈ ka1.map (·.1) ↔ x ∈ R.map (·.1) := fun x => by rw [hk1, mem_sortsIn]
    have hkm2 : ∀ x, x ∈ ka2.map (·.1) ↔ x ∈ R.map (·.1) := fun x => by rw [hk2, mem_sortsIn]
    have ap2 : ∀ e ∈ ka2, e.2 ≠ d1 ∧ ¬ e.2 ∈ ka1.map (·.2) := fun e he => by
      have := g2.fr e he
      exact ⟨fun z => (by rw [z, tv1.dk] at this; cases this), addr_ne tv1 this⟩
    have ap1 : ∀ e ∈ ka1, e.2 ≠ d2 ∧ ¬ e.2 ∈ ka2.map (·.2) := fun e he => by
      refine ⟨fun z => ?_, fun z => ?_⟩
      · have := g2.frd
        rw [← z, tv1.at_ e he] at this; cases this
      · obtain ⟨e', he', q⟩ := List.mem_map.mp z
        have := g2.fr e' he'
        rw [q, tv1.at_ e he] at this; cases this
    have hd12 : d1 ≠ d2 := fun z => by
      have := g2.frd
      rw [← z, tv1.dk] at this; cases this
    have gH1 : ∀ e ∈ ka1, Hb e.2 = none := g1.fr
    have gH2 : ∀ e ∈ ka2, Hb e.2 = none := fun e he => s3.free (g2.fr e he)
    have ae : ∀ (L : List Str) (y : Str), L.map V.str ++ [V.str y] = (L ++ [y]).map V.str := fun L y => by rw [List.map_append]; rfl
    -- own[first].append(END)
    obtain ⟨al, hal, hgl, hll⟩ := tv1'.get g1 ((hkm1 (fstOf R)).mpr hf)
    have hfst : ∃ p R', R = p :: R' ∧ fstOf R = p.1 := by
      obtain ⟨p, R', rfl⟩ := hne
      exact ⟨p, R', rfl, rfl⟩
    obtain ⟨p0, R', e0, ef⟩ := hfst
    refine ⟨_, rfl, _, rfl, a, p0, R', rfl, by rw [← e0]; exact hRb.mono s34, ?_⟩
    rw [← ef]
    refine ⟨d1, _, rfl, hgl, .inl ⟨rfl, _, SqL.of hll⟩, al, _, _, rfl, rfl, hll, by exact small1000 (by decide), ?_⟩
    have tv1a : TabV (upd H3 al (.lst ((([] : List Str) ++ [("" : Str)]).map V.str))) d1 ka1 (setV (fun _ => []) (fstOf R) (([] : List Str) ++ [("" : Str)])) := tv1'.app g1 hal [""]
    have tv2a : TabV (upd H3 al (.lst ((([] : List Str) ++ [("" : Str)]).map V.str))) d2 ka2 (fun _ => []) := tv2.keepU (ap1 _ hal).1 (ap1 _ hal).2
    have s5 : Same Hb (upd H3 al (.lst ((([] : List Str) ++ [("" : Str)]).map V.str))) := s34.updS (gH1 _ hal)
    have hwb0 := WI.zero (es := es) hf
    refine ⟨_, rfl, a, rfl, ⟨_, s5.seq (SqL.of hv)⟩, for_list (K := K) (a := a) (xs := vs)
      (fun i σ H4 => ∃ o k, (∃ o1 o2 o3 o4 o5, σ = [some (.ref a), some (.ref qe), some (.ref db), some (.ref d1), some (.ref d2), o1, o2, o3, o4, o5]) ∧ Same Hb H4 ∧ TabV H4 d1 ka1 o ∧ TabV H4 d2 ka2 k ∧ WI R es i 0 o k)
      ⟨_, _, ⟨_, _, _, _, _, rfl⟩, s5, tv1a, tv2a, hwb0⟩ ?_ ?_ ?_⟩
    · rintro i σ H4 _ ⟨_, _, _, s6, _⟩
      exact s6.seq (SqL.of hv)
    · rintro i x σ H4 hx ⟨o, kk, ⟨o1, o2, o3, o4, o5, rfl⟩, s6, t1, t2, wi⟩
      obtain ⟨p, t, c, hpi, rfl, htp, hc⟩ := rowAt_get hp hx
      have hpm : (p.1, p.2) ∈ R := List.mem_of_getElem? hpi
      have hpw := ht.wid p hpm
      have hil : i < R.length := (List.getElem?_eq_some_iff.mp hpi).1
      have hpl : p.1 ∈ R.map (·.1) := List.mem_map.mpr ⟨_, hpm, rfl⟩
      have hc : Hb c = some (.lst (p.2.map V.str)) := hc
      refine ⟨t, _, rfl, SqT.of (s6 _ _ htp), rfl, _, _, rfl, _, _, rfl, rfl, ?_⟩
      refine ⟨_, rfl, c, rfl, ⟨_, SqL.of (s6 _ _ hc)⟩, for_enum (K := K) (a := c) (xs := p.2.map V.str)
        (fun j σ H5 => ∃ o k, (∃ o3 o4 o5, σ = [some (.ref a), some (.ref qe), some (.ref db), some (.ref d1), some (.ref d2), some (.str p.1), some (.ref c), o3, o4, o5]) ∧ Same Hb H5 ∧ TabV H5 d1 ka1 o ∧ TabV H5 d2 ka2 k ∧ WI R es i j o k)
        ⟨_, _, ⟨_, _, _, rfl⟩, s6, t1, t2, wi⟩ ?_ ?_ ?_⟩
      · rintro j σ H5 _ ⟨_, _, _, s7, _⟩
        exact SqL.of (s7 _ _ hc)
      · rintro j x tt σ H5 hx ⟨o, kk, ⟨o3, o4, o5, rfl⟩, s7, u1, u2, wi⟩ htt
        obtain ⟨y, hy, rfl⟩ := strs_get hx
        have hjl : j < p.2.length := (List.getElem?_eq_some_iff.mp hy).1
        have stt := Same.upd (o := HO.tup [V.int j, V.str y]) htt
        generalize hH6 : upd H5 tt (.tup [V.int j, V.str y]) = H6 at stt
        have htt6 : H6 tt = some (.tup [V.int j, V.str y]) := by rw [← hH6, upd_same]
        replace u1 := u1.keep stt
        replace u2 := u2.keep stt
        replace s7 := s7.trans stt
        refine ⟨tt, _, rfl, SqT.of htt6, rfl, _, _, rfl, _, _, rfl, rfl, ?_⟩
        obtain ⟨o', g', ho'⟩ := u1.has g1 y
        refine ⟨_, rfl, _, rfl, d1, o', rfl, g', _, rfl, ?_⟩
        rw [ho']
        by_cases hys : y ∈ R.map (·.1)
        · rw [decide_eq_true ((hkm1 y).mpr hys)]
          refine iteT ?_
          refine ⟨_, rfl, _, rfl, _, _, rfl, rfl, _, rfl, c, _, rfl, SqL.of (s7 _ _ hc), fun q hq => ?_⟩
          have ecut : cutV (p.2.map V.str) (some ((j : Int) + 1)) none = (p.2.drop (j + 1)).map V.str := cut_drop p.2 (j + 1)
          rw [ecut]
          have hqa : ∀ e ∈ ka1, q ≠ e.2 := fun e he z => by
            have := u1.at_ e he
            rw [← z, hq] at this; cases this
          have sq := Same.upd (o := HO.lst ((p.2.drop (j + 1)).map V.str)) hq
          generalize hH7 : upd H6 q (.lst ((p.2.drop (j + 1)).map V.str)) = H7 at sq
          have hq7 : StrsAt H7 q (p.2.drop (j + 1)) := by unfold StrsAt; rw [← hH7, upd_same]
          replace u1 := u1.keep sq
          replace u2 := u2.keep sq
          have s8 := s7.trans sq
          obtain ⟨al, hal, hgl, hll⟩ := u1.get g1 ((hkm1 y).mpr hys)
          have hrl : (p.2.drop (j + 1)).length ≤ 14 := by rw [List.length_drop]; omega
          obtain ⟨U, hU, hUm⟩ := ht.few
          have hrs : ∀ s ∈ p.2.drop (j + 1), s ∈ p.2 := fun s hs => List.mem_of_mem_drop hs
          refine ⟨_, rfl, _, rfl, d1, _, rfl, hgl, .inl ⟨rfl, _, SqL.of hll⟩, _, rfl, _, rfl, _, rfl, q, qe, db, p.2.drop (j + 1), es, fb, rfl, hq7, s8 _ _ hEb, (hB.mono s8).l, by omega, fb40, ⟨U, by omega, fun z hz => ?_⟩, fun qw H8 s9 n9 hw9 => ?_⟩
          · obtain ⟨p', hp', hz'⟩ := (wd.mp hz).sign hpm hrs
            exact hUm p' hp' z hz'
          generalize hws : srt (onceS (cb es fb (p.2.drop (j + 1)))) = ws at hw9
          have hwm : ∀ z, z ∈ ws ↔ Wd R es (p.2.drop (j + 1)) z := fun z => by rw [← hws, SL.mem_srt, SL.mem_onceS]; exact wd
          have hwl : ws.length ≤ 11 := by
            rw [← hws, SL.len_srt]
            exact ht.fewS (SL.nodup_onceS _) fun z hz => (wd.mp (SL.mem_onceS.mp hz)).sign hpm hrs
          have hw9 : H8 qw = some (.lst (ws.map V.str)) := hw9
          have s10 := s8.trans s9
          replace u1 := u1.keep s9
          replace u2 := u2.keep s9
          have hll8 := s9 _ _ hll
          have so := wi.so
          have oy := tot_one (v := o) (mem_sortsIn.mpr hys)
          have kyl := tot_one (v := kk) (mem_sortsIn.mpr hys)
          have sk := wi.sk
          refine ⟨al, qw, _, _, rfl, rfl, hll8, hw9, by rw [List.length_map, List.length_map]; exact big_line (by omega), ?_⟩
          rw [← List.map_append]
          have u1b : TabV (upd H8 al (.lst ((o y ++ ws).map V.str))) d1 ka1 (setV o y (o y ++ ws)) := u1.app g1 hal ws
          have u2b : TabV (upd H8 al (.lst ((o y ++ ws).map V.str))) d2 ka2 kk := u2.keepU (ap1 _ hal).1 (ap1 _ hal).2
          have s11 : Same Hb (upd H8 al (.lst ((o y ++ ws).map V.str))) := s10.updS (gH1 _ hal)
          have hq9 : StrsAt (upd H8 al (.lst ((o y ++ ws).map V.str))) q (p.2.drop (j + 1)) := by
            unfold StrsAt
            rw [upd_ne (hqa _ hal)]
            exact s9 _ _ hq7
          generalize hH9 : upd H8 al (.lst ((o y ++ ws).map V.str)) = H9 at u1b u2b s11 hq9
          refine ⟨_, rfl, _, rfl, q, qe, p.2.drop (j + 1), es, rfl, hq9, s11 _ _ hEb, by omega, fun H10 s12' => ⟨_, rfl, ?_⟩⟩
          replace u1b := u1b.keep s12'
          replace u2b := u2b.keep s12'
          have s13 := s11.trans s12'
          by_cases hall : ∀ s ∈ p.2.drop (j + 1), s ∈ es
          · have e : ((p.2.drop (j + 1)).all fun s => decide (s ∈ es)) = true := List.all_eq_true.mpr fun s hs => decide_eq_true (hall s hs)
            rw [e]
            refine iteT ?_
            obtain ⟨bl, hbl, hgb, hlb⟩ := u2b.get g2 ((hkm2 y).mpr hys)
            refine ⟨_, rfl, _, rfl, d2, _, rfl, hgb, .inl ⟨rfl, _, SqL.of hlb⟩, _, rfl, bl, _, _, rfl, rfl, hlb, by rw [List.length_map]; exact small1000 (by omega), ?_⟩
            rw [ae]
            exact ⟨_, _, ⟨_, _, _, rfl⟩, s13.updS (gH2 _ hbl), u1b.keepU (ap2 _ hbl).1 (ap2 _ hbl).2, u2b.app g2 hbl [p.1], wi.step hpi hy hys hwm hwl (.inl ⟨hall, rfl⟩)⟩
          · have e : ((p.2.drop (j + 1)).all fun s => decide (s ∈ es)) = false := by
              cases q : ((p.2.drop (j + 1)).all fun s => decide (s ∈ es)) with
              | false => rfl
              | true => exact absurd (fun s hs => of_decide_eq_true (List.all_eq_true.mp q s hs)) hall
            rw [e]
            exact iteF ⟨_, _, ⟨_, _, _, rfl⟩, s13, u1b, u2b, wi.step hpi hy hys hwm hwl (.inr ⟨hall, rfl⟩)⟩
        · rw [decide_eq_false fun z => hys ((hkm1 y).mp z)]
          exact iteF ⟨_, _, ⟨_, _, _, rfl⟩, s7, u1, u2, wi.skip hpi hy hys⟩
      · rintro σ H5 ⟨o, kk, ⟨o3, o4, o5, rfl⟩, s7, u1, u2, wi⟩
        rw [List.length_map] at wi
        exact ⟨_, _, ⟨_, _, _, _, _, rfl⟩, s7, u1, u2, wi.row hpi hpw⟩
    · rintro σ H4 ⟨o, kk, ⟨o1, o2, o3, o4, o5, rfl⟩, s6, t1, t2, wi⟩
      rw [hlen] at wi
      have ho : ∀ x z, z ∈ o x ↔ x ∈ R.map (·.1) ∧ ((x = fstOf R ∧ z = "") ∨ ∃ rest l, Oc R x rest l ∧ Wd R es rest z) := fun x z => by
        rw [wi.ow]
        simp only [doneO_all]
      have hkk : ∀ x y, y ∈ kk x ↔ x ∈ R.map (·.1) ∧ ∃ rest, Oc R x rest y ∧ ∀ s ∈ rest, s ∈ es := fun x y => by
        rw [wi.lk]
        simp only [doneO_all]
      have gO : ∀ x, getL (tabOf ka1 o) x = o x := fun x => by
        rw [getL_tabOf]
        by_cases q : x ∈ ka1.map (·.1)
        · rw [if_pos q]
        · rw [if_neg q]
          symm
          apply List.eq_nil_iff_forall_not_mem.mpr
          intro y hy
          exact q ((hkm1 x).mpr ((ho x y).mp hy).1)
      have gL : ∀ x, getL (tabOf ka2 kk) x = kk x := fun x => by
        rw [getL_tabOf]
        by_cases q : x ∈ ka2.map (·.1)
        · rw [if_pos q]
        · rw [if_neg q]
          symm
          apply List.eq_nil_iff_forall_not_mem.mpr
          intro y hy
          exact q ((hkm2 x).mpr ((hkk x y).mp hy).1)
      have hkl : ∀ {ka : KA}, ka.map (·.1) = sortsIn R → ka.length ≤ 14 := fun {ka} h => by
        have := congrArg List.length h
        rw [List.length_map] at this
        have := len_sortsIn R
        omega
      have dR : ∀ {d : Addr} {ka : KA} {v : Str → List Str}, TabV H4 d ka v → DictR H4 d (tabOf ka v) := fun {d ka v} tv => by
        obtain ⟨kv, h1, h2⟩ := tv.dictL
        refine ⟨kvsOf ka, tv.dk, ?_⟩
        rcases h1 with h1 | ⟨_, h1⟩
        · rw [tv.dk] at h1
          cases h1
          exact h2
        · rw [tv.dk] at h1; cases h1
      obtain ⟨U, hU, hUm⟩ := ht.few
      refine ⟨_, rfl, _, rfl, d1, d2, tabOf ka1 o, tabOf ka2 kk, rfl, hd12, dR t1, dR t2, ⟨?_, ?_, ?_, ?_⟩, ?_, ?_, ⟨"" :: U, by rw [List.length_cons]; omega, ?_⟩, ?_⟩
      · rw [tabOf_keys]; exact g2.ndk
      · intro e he y hy
        rw [tabOf_keys, hkm2]
        unfold tabOf at he
        obtain ⟨z, hz, rfl⟩ := List.mem_map.mp he
        obtain ⟨_, rest, h1, _⟩ := (hkk _ _).mp hy
        obtain ⟨r, hm, _⟩ := h1.row
        exact List.mem_map.mpr ⟨_, hm, rfl⟩
      · have := congrArg List.length (tabOf_keys ka2 kk)
        rw [List.length_map, List.length_map] at this
        have := hkl hk2
        omega
      · rw [tot_tabOf, hk2]
        have := wi.sk
        omega
      · rw [tabOf_keys, tabOf_keys, hk1, hk2]
      · rw [tot_tabOf, hk1]
        have := wi.so
        omega
      · intro e he z hz
        unfold tabOf at he
        obtain ⟨y, hy, rfl⟩ := List.mem_map.mp he
        obtain ⟨_, ⟨_, rfl⟩ | ⟨rest, l, h1, h2⟩⟩ := (ho _ _).mp hz
        · exact List.mem_cons_self ..
        · obtain ⟨r, hm, hs⟩ := h1.row
          obtain ⟨p', hp', hz'⟩ := h2.sign hm hs
          exact List.mem_cons_of_mem _ (hUm p' hp' z hz')
      · intro d res H5 x5 n5 hD hkr hcan
        refine k d res H5 (fun b o e => x5 b o (s6 _ _ (s12 _ _ e)) (ne_of_none e (s12.free g1.frd))) (s12.free (s6.free n5)) hD (by rw [hkr, tabOf_keys, hk1]) fun e he => (hcan e he).congr fun z => ?_
        rw [behind_iff hem, ← beh_iff hf ho hkk]
        constructor
        · rintro ⟨y, q1, q2⟩
          refine ⟨y, q1.congr fun x y hy => ?_, ?_⟩
          · rw [gL] at hy; exact hy
          · rw [gO] at q2; exact q2
        · rintro ⟨y, q1, q2⟩
          refine ⟨y, q1.congr fun x y hy => ?_, ?_⟩
          · rw [gL]; exact hy
          · rw [gO]; exact q2
end
end Nw
namespace Nw
open PySem L2
open SL (onceS srt)
abbrev sBehinds : Stmt := top 24
theorem scBehinds : FnScope ["rows"] ["rows"] (defScope sBehinds) := ⟨rfl, rfl, rfl, by decide +kernel, rfl, by decide +kernel, by decide +kernel⟩
/-- a list of pairs of a text and a list of texts, as rows stand -/
def spBehinds : Sp := fun vs H Q _ => ∃ (a : Addr) (R : List Row), vs = [.ref a] ∧ RowsAt H a R ∧ Good R ∧ Tight R ∧ ∀ d res H', Same H H' → RowsAt H' d res → res.map (·.1) = sortsIn R → (∀ e ∈ res, Canon (Behind R e.1) e.2) → Q (.ref d) H'
theorem rows_items {H1 H3 : Hp} (s : Same H1 H3) : ∀ {kvs : List (Key × V)} {res : Tab} {as : List Addr}, Paired (EntAt H1) kvs res → as.length = kvs.length → (∀ (j : Nat) (a : Addr) (k : Key) (x : V), as[j]? = some a → kvs[j]? = some (k, x) → H3 a = some (.tup [kV k, x])) → Paired (RowAt H3) (as.map V.ref) res := by
  intro kvs res as h
  induction h generalizing as with
  | nil =>
    intro hl _
    have : as = [] := List.length_eq_zero_iff.mp hl
    subst this
    exact .nil
  | @cons kv e kr rr he _ ih =>
    intro hl ht
    cases as with
    | nil => simp at hl
    | cons b ar =>
      obtain ⟨q1, ll, q2, q3⟩ := he
      obtain ⟨kk, xx⟩ := kv
      have q1 : kk = Sum.inr e.1 := q1
      have q2 : xx = .ref ll := q2
      subst q1; subst q2
      refine .cons ⟨b, ll, rfl, ?_, s _ _ q3⟩ (ih (by simpa using hl) fun j a k x e1 e2 => ht (j + 1) a k x (by simpa using e1) (by simpa using e2))
      exact ht 0 b _ _ rfl rfl
section
variable {P : Program} {w : World} {K : PySem.W.Frag} {mg : Str → Option Value} {base : Heap}
theorem ok_behinds {f : Addr} {fd : FuncData} (F : Fun K "behinds" "behinds" sBehinds f fd) (T : Txt mg) (D1 : Def P w K mg base "words_behind" 6 ["rows"] spWbh) : FnOk P w K mg base CX0 7 f fd ["rows"] spBehinds := by
  refine F.ok scBehinds (fun vs H Q E h => ?_) (fun cdv A outer s H vs Q E hr h => ?_)
  · obtain ⟨a, R, rfl, _⟩ := h
    rfl
  · obtain ⟨a, R, rfl, hR, hg, ht, k⟩ := h
    refine ⟨_, pss_one (ps_ret (pe_callTy (call_listItems rfl) (by rfl) T.lst (by decide +kernel) (pa_cons (pe_bm0 PySem.F.plainAttrs_dict PySem.F.slot_dict_items PySem.F.type_dict_items mt_items (pe_def D1 hr (by rfl) (pa_cons (pv 0) pa_nil))) pa_nil))), ?_⟩
    refine ⟨_, rfl, a, R, rfl, hR, hg, ht, fun d res H1 s1 n1 hD hk hc => ?_⟩
    obtain ⟨kvs, hd, hp⟩ := hD
    refine ⟨.inr (.inr (.inl ⟨rfl, .inl ⟨_, hd⟩⟩)), d, kvs, rfl, rfl, hd, fun v hv => ?_⟩
    have s2 := Same.upd (o := viewO v d) hv
    refine ⟨v, d, kvs, rfl, upd_same, s2 _ _ hd, fun l as H3 n3 hla s3 hl ht => ?_⟩
    have s3 : Same _ H3 := s3
    exact k l res H3 ((s1.trans s2).trans s3) ⟨_, hl, rows_items (s2.trans s3) hp hla ht⟩ hk hc
end
end Nw
namespace Nw
open PySem L2
open SL (onceS srt)
structure SndB (R : List Row) (es ks : List Str) (v : Str → List Str) : Prop where
  nd : ∀ x ∈ ks, (v x).Nodup
  so : ∀ x ∈ ks, ∀ z ∈ v x, Beh R es x z
  fi : ("" : Str) ∈ v (fstOf R)
theorem SndB.len {R : List Row} {es ks : List Str} {v : Str → List Str} (h : SndB R es ks v) (S : Small R) {x : Str} (hx : x ∈ ks) : (v x).length ≤ 41 := by
  obtain ⟨U, hU, hm⟩ := S.few
  have := Gram.nodup_len (m := ("" : Str) :: U) (h.nd x hx) fun z hz => by
    rcases (h.so x hx z hz).sign with e | ⟨p, hp, hz'⟩
    · rw [e]; exact List.mem_cons_self ..
    · exact List.mem_cons_of_mem _ (hm p hp z hz')
  rw [List.length_cons] at this
  omega
theorem SndB.add {R : List Row} {es ks : List Str} {v : Str → List Str} (h : SndB R es ks v) {x z : Str} (hz : ¬ z ∈ v x) (hb : Beh R es x z) : SndB R es ks (setV v x (v x ++ [z])) where
  nd := fun y hy => by
    by_cases q : y = x
    · subst q; rw [setV_same]; exact nd_snoc (h.nd y hy) hz
    · rw [setV_ne q]; exact h.nd y hy
  so := fun y hy u hu => by
    by_cases q : y = x
    · subst q
      rw [setV_same] at hu
      rcases List.mem_append.mp hu with r | r
      · exact h.so y hy u r
      · rw [List.mem_singleton.mp r]; exact hb
    · rw [setV_ne q] at hu
      exact h.so y hy u hu
  fi := by
    by_cases q : fstOf R = x
    · rw [← q, setV_same]; exact List.mem_append_left _ h.fi
    · rw [setV_ne q]; exact h.fi
/-- a turn at this place would bring nothing -/
def ClP (es : List Str) (f : Tab) (v : Str → List Str) (x : Str) (rest : List Str) (l : Str) : Prop := (∀ z ∈ cb es f rest, z ∈ v x) ∧ ((∀ s ∈ rest, s ∈ es) → ∀ z ∈ v l, z ∈ v x)
def ClB (R : List Row) (es : List Str) (f : Tab) (v : Str → List Str) : Prop := ∀ x rest l, Oc R x rest l → x ∈ R.map (·.1) → ClP es f v x rest l
theorem clB_all {R : List Row} {es : List Str} {f : Tab} {v : Str → List Str} (hk : f.map (·.1) = sortsIn R) (hc : ∀ e ∈ f, ∀ z, z ∈ e.2 ↔ Begin R e.1 z) (h : ClB R es f v) (hf : ("" : Str) ∈ v (fstOf R)) {x z : Str} (hb : Beh R es x z) : z ∈ v x := by
  induction hb with
  | fin => exact hf
  | word h1 h2 h3 => exact (h _ _ _ h1 h2).1 _ ((cb_iff hk hc).mpr h3)
  | up h1 h2 h3 _ ih => exact (h _ _ _ h1 h2).2 h3 _ ih
abbrev sCome : Stmt := top 31
theorem scCome : FnScope ["_law_rows", "_law_empty", "_law_starts", "_law_found", "_law_left", "_law_going", "_law_right", "_law_k", "_law_words", "_law_word"] ["_law_rows"] (defScope sCome) := ⟨rfl, rfl, rfl, by decide +kernel, rfl, by decide +kernel, by decide +kernel⟩
def spCome : Sp := fun vs H Q _ => ∃ (a : Addr) (R : List Row), vs = [.ref a] ∧ RowsAt H a R ∧ Small R ∧
  ∀ d res H', Same H H' → H d = none → DictR H' d res → res.map (·.1) = sortsIn R → (∀ e ∈ res, e.2.Nodup ∧ ∀ z, z ∈ e.2 ↔ Behind R e.1 z) → Q (.ref d) H'
section
variable {P : Program} {w : World} {K : PySem.W.Frag} {mg : Str → Option Value} {base : Heap}
theorem ok_come {f : Addr} {fd : FuncData} (F : Fun K "_law_come_behind" "_law_come_behind" sCome f fd) (T : Txt mg) (D1 : Def P w K mg base "_law_wordless" 1 ["_law_rows"] spWless) (D2 : Def P w K mg base "_law_begun_by" 2 ["_law_rows"] spBegun) (D3 : Def P w K mg base "_law_all_sorts" 1 ["_law_rows"] spSortsOf)
    (D4 : Def P w K mg base "_law_can_begin" 1 ["_law_rows", "_law_signs", "_law_empty", "_law_found"] spCan) : FnOk P w K mg base CX0 3 f fd ["_law_rows"] spCome := by
  refine F.ok scCome (fun vs H Q E h => ?_) (fun cdv A outer s H vs Q E hr h => ?_)
  · obtain ⟨a, R, rfl, _⟩ := h
    rfl
  · obtain ⟨a, R, rfl, hR, hsm, k⟩ := h
    have hu := hu_of hr
    have hu0 : (A.deeper (PyProof.Rows.envOfC "_law_come_behind" (defScope sCome) s.heap.objs.size f cdv)).units < cLine := Nat.lt_of_succ_lt hu
    have hr1 : Room 1 _ := hr.mono (by decide)
    refine ⟨_, pss_mid (ps_set (i := 1) scCome.nd rfl (Or.inr rfl) (pe_def D1 hr1 (by rfl) (pa_c (pv 0) pa_nil)))
      (pss_mid (ps_set (i := 2) scCome.nd rfl (Or.inl rfl) (pe_def D2 hr (by rfl) (pa_c (pv 0) pa_nil)))
      (pss_cons (ps_set (i := 3) scCome.nd rfl (Or.inl rfl) pe_dnewK)
      (pss_mid (ps_for PassesOwn.never rfl (pi_list (pe_def D3 hr1 (by rfl) (pa_c (pv 0) pa_nil))) (pg_name (i := 4) scCome.nd rfl (Or.inl rfl))
        (pss_one (ps_dput hu (pv 3) (pv 4) (pe_lst pa_nil) rfl)))
      (pss_mid (ps_dput hu (pv 3) (pe_ix ix_tup (pe_ix ix_list (pv 0) pe_int (fun _ _ => rfl)) pe_int (fun _ _ => rfl)) (pe_lst (pa_c pe_str pa_nil)) rfl)
      (pss_cons (ps_set (i := 5) scCome.nd rfl (Or.inl rfl) pe_bl)
      (pss_cons (ps_while PassesOwn.never (pt_val (pv 5))
        (pss_cons (ps_set (i := 5) scCome.nd rfl (Or.inl rfl) pe_bl)
        (pss_one (ps_for PassesOwn.never rfl (pi_list (pv 0)) (pg_tup (n := 2) rfl (pgs_cons (pg_name (i := 4) scCome.nd rfl (Or.inl rfl)) (pgs_cons (pg_name (i := 6) scCome.nd rfl (Or.inl rfl)) pgs_nil)))
          (pss_one (ps_for PassesOwn.never rfl (pi_range1 (by rfl) T.rng (pa_c (pe_callB call_len_seq (by rfl) T.len PySem.boot_len (pa_c (pv 6) pa_nil)) pa_nil)) (pg_name (i := 7) scCome.nd rfl (Or.inl rfl))
            (pss_mid (ps_set (i := 8) scCome.nd rfl (Or.inl rfl) (pe_def D4 hr1 (by rfl) (pa_c (pv 0) (pa_c (pe_slice sl_list (pv 6) (po_some (pe_op op_add (pv 7) pe_int)) po_none) (pa_c (pv 1) (pa_c (pv 2) pa_nil))))))
            (pss_mid (ps_if (pt_cmpR (op_eqNil hu0) (pe_comp (CompIn.free (N := ["_law_sign", "_law_empty"]) (sel := [none, some 1]) ["_law_empty"] (by rfl) (by rfl) (by rfl) ?c1 ?c2 ?c3 ?c4 (by rfl) ?c5) rfl (pi_list (pe_slice sl_list (pv 6) (po_some (pe_op op_add (pv 7) pe_int)) po_none)) (fun s₃ H₃ fp => pg_name (i := 0) (show (["_law_sign", "_law_empty"] : List Str).Nodup by decide) rfl (Or.inl rfl))
                (fun s₃ H₃ fp => pif_one (pt_cmpR (r := rIn K true) op_notIn_seq (pv 0) (pv 1) (by with_unfolding_all rfl))) (fun s₃ H₃ fp => pv 0)) (pe_lst pa_nil) (nomark _))
              (pss_one (ps_set (i := 8) scCome.nd rfl (Or.inl rfl) (pe_op op_cat (pv 8) (pe_dget hu (pv 3) (pv 4) (fun _ _ => rfl))))) pss_nil)
            (pss_one (ps_for PassesOwn.never rfl (pi_list (pv 8)) (pg_name (i := 9) scCome.nd rfl (Or.inl rfl))
              (pss_one (ps_if (PW.pt (pw_and (pt_cmp (pc_din hu (pe_ix ix_list (pv 6) (pv 7) (fun _ _ => rfl)) (pv 3))) (pw_and1 (pt_cmpR op_notIn_seq (pv 9) (pe_dget hu (pv 3) (pe_ix ix_list (pv 6) (pv 7) (fun _ _ => rfl)) (fun _ _ => rfl)) (by with_unfolding_all rfl)))))
                (pss_cons (ps_dput hu (pv 3) (pe_ix ix_list (pv 6) (pv 7) (fun _ _ => rfl)) (pe_op op_cat (pe_dget hu (pv 3) (pe_ix ix_list (pv 6) (pv 7) (fun _ _ => rfl)) (fun _ _ => rfl)) (pe_lst (pa_c (pv 9) pa_nil))) rfl)
                (pss_one (ps_set (i := 5) scCome.nd rfl (Or.inl rfl) pe_bl)))
                pss_nil))))))))))))
      (pss_one (ps_ret (pv 3))))))))), ?_⟩
    case c1 => decide
    case c2 => decide
    case c3 =>
      intro x hx
      rcases List.mem_cons.mp hx with rfl | hx
      · exact ⟨rfl, rfl, _, rfl, rfl⟩
      · cases hx
    case c4 =>
      intro y hy
      rcases List.mem_cons.mp hy with rfl | hy
      · exact List.mem_cons_self ..
      · cases hy
    case c5 =>
      intro j i h
      rcases j with _ | _ | j
      · cases h
      · cases h; exact ⟨"_law_empty", List.mem_cons_self .., rfl, rfl⟩
      · cases h
    have hR14 := hsm.len
    -- empty
    refine ⟨fun σ H1 => ∃ qe es, σ = [some (.ref a), some (.ref qe), none, none, none, none, none, none, none, none] ∧ Same H H1 ∧ (∀ y, y ∈ es ↔ Gram.Made R (fun _ => False) y) ∧ StrsAt H1 qe es, ?_, ?_⟩
    · exact ⟨_, rfl, a, R, rfl, hR, hsm, fun qe ms H1 s1 _ _ hm hS => ⟨qe, srt ms, rfl, s1, fun y => SL.mem_srt.trans (hm y), hS⟩⟩
    rintro σ H1 ⟨qe, es, rfl, s1, hem, hE1⟩
    -- starts
    refine ⟨fun σ HA => ∃ st fs, σ = [some (.ref a), some (.ref qe), some (.ref st), none, none, none, none, none, none, none] ∧ Same H1 HA ∧ DictR HA st fs ∧ fs.map (·.1) = sortsIn R ∧ ∀ e ∈ fs, e.2.Nodup ∧ ∀ z, z ∈ e.2 ↔ Begin R e.1 z, ?_, ?_⟩
    · exact ⟨_, rfl, a, R, rfl, hR.mono s1, hsm, fun d res H7 s7 _ hd hk hc => ⟨d, res, rfl, s7, hd, hk, hc⟩⟩
    rintro σ HA ⟨st, fs, rfl, s2, hF, hkF, hcF⟩
    have sA := s1.trans s2
    have hEA : StrsAt HA qe es := s2 _ _ hE1
    have hRA := hR.mono sA
    have hcF' : ∀ e ∈ fs, ∀ z, z ∈ e.2 ↔ Begin R e.1 z := fun e he => (hcF e he).2
    have fs40 : ∀ e ∈ fs, e.2.length ≤ 40 := fun e he => hsm.fewS (hcF e he).1 fun z hz => by
      obtain ⟨_, _, hb⟩ := ((hcF e he).2 z).mp hz
      exact hb.sign.2
    obtain ⟨vs, hvA, hpA⟩ := id hRA
    have hlen : vs.length = R.length := Paired.length hpA
    -- found
    intro d hd
    have hdH : H d = none := sA.free hd
    have s0 := Same.upd (o := HO.dK []) hd
    have hks : ∀ x, x ∈ sortsIn R ↔ x ∈ R.map (·.1) := fun x => mem_sortsIn
    have hlk := len_sortsIn R
    refine ⟨fun σ H1 => (∃ o1, σ = [some (.ref a), some (.ref qe), some (.ref st), some (.ref d), o1, none, none, none, none, none]) ∧ Same HA H1 ∧ DictR H1 d (tabF (sortsIn R) fun _ => []), ?_, ?_⟩
    · refine ⟨_, rfl, a, R, rfl, hRA.mono s0, hsm, fun q HB sB nB hSB => ?_⟩
      have hSB : HB q = some (.lst ((sortsIn R).map V.str)) := hSB
      have hqd : q ≠ d := fun z => by rw [z, upd_same] at nB; cases nB
      refine ⟨q, rfl, ⟨_, SqL.of hSB⟩, for_list (K := K) (a := q) (xs := (sortsIn R).map V.str)
        (fun i σ H1 => (∃ o1, σ = [some (.ref a), some (.ref qe), some (.ref st), some (.ref d), o1, none, none, none, none, none]) ∧ Same HA H1 ∧ H1 q = some (.lst ((sortsIn R).map V.str)) ∧ DictR H1 d (tabF ((sortsIn R).take i) fun _ => []))
        ⟨⟨_, rfl⟩, s0.trans sB, hSB, [], sB _ _ upd_same, .nil⟩ ?_ ?_ ?_⟩
      · rintro i σ H1 _ ⟨_, _, h1, _⟩
        exact SqL.of h1
      · rintro i x σ H1 hx ⟨⟨o1, rfl⟩, s1, hq1, kvs, hd1, hp1⟩
        obtain ⟨y, hy, rfl⟩ := strs_get hx
        have hlp : kvs.length = ((sortsIn R).take i).length := by
          have := Paired.length hp1
          rw [this]; unfold tabF; rw [List.length_map]
        have hny : ¬ y ∈ (sortsIn R).take i := fun z => by
          obtain ⟨j, hj⟩ := List.mem_iff_getElem?.mp z
          have hji : j < i := by
            have := (List.getElem?_eq_some_iff.mp hj).1
            rw [List.length_take] at this; omega
          rw [List.getElem?_take_of_lt hji] at hj
          have := nodup_ix (nd_sortsIn R) hj hy
          omega
        refine ⟨by decide, fun p hp0 => ?_⟩
        have sp := Same.upd (o := HO.lst []) hp0
        refine ⟨_, rfl, _, rfl, d, _, rfl, DPut.k (k := Sum.inr y) (sp _ _ hd1) (by rw [hlp, List.length_take]; exact small1000 (by omega)), ?_⟩
        refine ⟨⟨_, rfl⟩, (s1.trans sp).updS hd, by rw [upd_ne hqd]; exact sp _ _ hq1, ?_⟩
        have hp2 : Paired (EntAt (upd H1 p (.lst []))) kvs (tabF ((sortsIn R).take i) fun _ => []) := Paired.mapP hp1 fun _ _ ⟨z1, l, z2, z3⟩ => ⟨z1, l, z2, sp _ _ z3⟩
        have := DictR.add (sp _ _ hd1) hp2 hny (l := p) upd_same
        rw [List.take_succ, hy]
        exact this
      · rintro σ H1 ⟨⟨o1, rfl⟩, s1, _, hD1⟩
        rw [List.length_map, List.take_length] at hD1
        exact ⟨⟨_, rfl⟩, s1, hD1⟩
    rintro σ H3 ⟨⟨o1, rfl⟩, s3, hD3⟩
    -- found[first] = ['']
    have hfst : ∃ p R', R = p :: R' ∧ fstOf R = p.1 := by
      cases R with
      | nil => exact absurd rfl hsm.ne
      | cons p R' => exact ⟨p, R', rfl, rfl⟩
    have hf : fstOf R ∈ R.map (·.1) := by
      obtain ⟨p, R', e, e'⟩ := hfst
      rw [e', e]
      exact List.mem_cons_self ..
    refine ⟨fun σ H4 => (∃ o1, σ = [some (.ref a), some (.ref qe), some (.ref st), some (.ref d), o1, none, none, none, none, none]) ∧ Same HA H4 ∧ DictR H4 d (tabF (sortsIn R) (setV (fun _ => []) (fstOf R) [""])), ?_, ?_⟩
    · refine ⟨(show 1 ≤ sizeLine by decide), fun p hp0 => ?_⟩
      have sp := Same.upd (o := HO.lst [V.str ""]) hp0
      obtain ⟨r0, R', e0, ef⟩ := hfst
      have h0 : R[0]? = some r0 := by rw [e0]; rfl
      have hv0 : ∃ x0, vs[0]? = some x0 := ⟨_, List.getElem?_eq_getElem (by rw [hlen, e0]; exact Nat.succ_pos _)⟩
      obtain ⟨x0, hv0⟩ := hv0
      obtain ⟨p0, t0, b0, hp0', rfl, ht0, hb0⟩ := rowAt_get hpA hv0
      rw [h0] at hp0'
      cases hp0'
      obtain ⟨kvs, hd3, hp3⟩ := id hD3
      have hkl : kvs.length < sizeLine := by
        have := Paired.length hp3
        unfold tabF at this
        rw [List.length_map] at this
        exact small1000 (by omega)
      have s3p := s3.trans sp
      refine ⟨_, rfl, _, rfl, a, _, 0, _, rfl, rfl, SqL.of (s3p _ _ hvA), atI_nat (j := 0) hv0, t0, _, 0, _, rfl, rfl, SqT.of (s3p _ _ ht0), atI_nat (j := 0) rfl, d, _, rfl, DPut.k (k := Sum.inr r0.1) (sp _ _ hd3) hkl, ?_⟩
      have hp4 : Paired (EntAt (upd H3 p (.lst [V.str ""]))) kvs (tabF (sortsIn R) fun _ => []) := Paired.mapP hp3 fun _ _ ⟨z1, l, z2, z3⟩ => ⟨z1, l, z2, sp _ _ z3⟩
      refine ⟨⟨_, rfl⟩, s3p.updS hd, ?_⟩
      rw [← ef]
      exact DictR.put (l := p) (ys := [""]) (sp _ _ hd3) hp4 ((hks _).mpr hf) upd_same
    clear hD3 s3
    rintro σ H4 ⟨⟨o2, rfl⟩, s4, hD4⟩
    have snd0 : SndB R es (sortsIn R) (setV (fun _ => []) (fstOf R) [""]) := by
      refine ⟨fun x hx => ?_, fun x hx z hz => ?_, ?_⟩
      · by_cases q : x = fstOf R
        · rw [q, setV_same]; exact List.nodup_cons.mpr ⟨fun h => (by cases h), List.nodup_nil⟩
        · rw [setV_ne q]; exact List.nodup_nil
      · by_cases q : x = fstOf R
        · rw [q, setV_same] at hz
          rw [q, List.mem_singleton.mp hz]
          exact .fin
        · rw [setV_ne q] at hz; cases hz
      · rw [setV_same]; exact List.mem_cons_self ..
    refine ⟨fun m σ H2 => ∃ v g o1 o2 o3 o4 o5, σ = [some (.ref a), some (.ref qe), some (.ref st), some (.ref d), o1, some (.bl g), o2, o3, o4, o5] ∧ Same HA H2 ∧ DictR H2 d (tabF (sortsIn R) v) ∧ SndB R es (sortsIn R) v ∧ (g = false → ClB R es fs v) ∧
        m = (if g = true then 1 + (41 * (sortsIn R).length - tot (sortsIn R) v) else 0),
      ⟨_, _, true, _, _, _, _, _, rfl, s4, hD4, snd0, fun z => (by cases z), rfl⟩, ?_⟩
    clear hD4 s4
    rintro m σ H2 ⟨v, g, o1, o2, o3, o4, o5, rfl, s2', hD2, snd, clo, rfl⟩
    refine ⟨_, rfl, _, rfl, ?_⟩
    cases g with
    | false =>
      refine iteF ⟨_, rfl, k d _ H2 (sA.trans s2') hdH hD2 (tabF_keys _ _) fun e he => ?_⟩
      unfold tabF at he
      obtain ⟨x, hx, rfl⟩ := List.mem_map.mp he
      refine ⟨snd.nd x hx, fun z => ?_⟩
      rw [behind_iff hem]
      exact ⟨snd.so x hx z, fun hb => clB_all hkF hcF' (clo rfl) snd.fi hb⟩
    | true =>
      refine iteT ⟨fun σ H3 => ∃ v' g o1 o2 o3 o4 o5, σ = [some (.ref a), some (.ref qe), some (.ref st), some (.ref d), o1, some (.bl g), o2, o3, o4, o5] ∧ Same HA H3 ∧ DictR H3 d (tabF (sortsIn R) v') ∧ SndB R es (sortsIn R) v' ∧ (g = false → ClB R es fs v') ∧
        (g = true → tot (sortsIn R) v < tot (sortsIn R) v'), ?_, ?_⟩
      · rintro σ' H3 ⟨v', g, p1, p2, p3, p4, p5, rfl, q1, q2, q3, q4, q5⟩
        refine ⟨_, ?_, v', g, p1, p2, p3, p4, p5, rfl, q1, q2, q3, q4, rfl⟩
        cases g with
        | false => simp only [if_true]; rw [if_neg (by decide)]; omega
        | true =>
          have h1 := q5 rfl
          have h2 := tot_le (v := v') (b := 41) (ks := sortsIn R) fun x hx => q3.len hsm hx
          simp only [if_true]
          omega
      · refine ⟨_, rfl, a, rfl, ⟨_, SqL.of (s2' _ _ hvA)⟩, for_list (K := K) (a := a) (xs := vs)
          (fun i σ H3 => ∃ v' g o1 o2 o3 o4 o5, σ = [some (.ref a), some (.ref qe), some (.ref st), some (.ref d), o1, some (.bl g), o2, o3, o4, o5] ∧ Same HA H3 ∧ DictR H3 d (tabF (sortsIn R) v') ∧ SndB R es (sortsIn R) v' ∧
            (g = false → v' = v ∧ ∀ x rest l, DoneO R i 0 x rest l → x ∈ R.map (·.1) → ClP es fs v x rest l) ∧ (g = true → tot (sortsIn R) v < tot (sortsIn R) v'))
          ⟨v, false, _, _, _, _, _, rfl, s2', hD2, snd, fun _ => ⟨rfl, fun x rest l h => absurd h doneO_zero⟩, fun z => (by cases z)⟩ ?_ ?_ ?_⟩
        · rintro i σ H3 _ ⟨_, _, _, _, _, _, _, _, s3, _⟩
          exact SqL.of (s3 _ _ hvA)
        · rintro i x σ H3 hx ⟨v1, g1, o1, o2, o3, o4, o5, rfl, s3, hD3, snd1, alt1, inc1⟩
          obtain ⟨p, tt, c, hpi, rfl, htt, hc⟩ := rowAt_get hpA hx
          have hpm : (p.1, p.2) ∈ R := List.mem_of_getElem? hpi
          have hpw := hsm.wid p hpm
          have hpl : p.1 ∈ sortsIn R := (hks _).mpr (List.mem_map.mpr ⟨p, hpm, rfl⟩)
          have hc : HA c = some (.lst (p.2.map V.str)) := hc
          refine ⟨tt, _, rfl, SqT.of (s3 _ _ htt), rfl, _, _, rfl, _, _, rfl, rfl, ?_⟩
          have hlm : (p.2.map V.str).length = p.2.length := List.length_map ..
          refine ⟨_, rfl, c, _, rfl, .inl (SqL.of (s3 _ _ hc)), _, rfl, by rw [hlm]; omega, by rw [hlm]; omega, for_range (n := (((p.2.map V.str).length : Nat) : Int).toNat)
            (fun j σ H4 => ∃ v' g o3 o4 o5, σ = [some (.ref a), some (.ref qe), some (.ref st), some (.ref d), some (.str p.1), some (.bl g), some (.ref c), o3, o4, o5] ∧ Same HA H4 ∧ DictR H4 d (tabF (sortsIn R) v') ∧ SndB R es (sortsIn R) v' ∧
              (g = false → v' = v ∧ ∀ x rest l, DoneO R i j x rest l → x ∈ R.map (·.1) → ClP es fs v x rest l) ∧ (g = true → tot (sortsIn R) v < tot (sortsIn R) v'))
            ⟨v1, g1, _, _, _, rfl, s3, hD3, snd1, alt1, inc1⟩ ?_ ?_⟩
          · clear hD3 snd1 alt1 inc1 s3 v1 g1
            rintro j σ H4 hj ⟨v1, g1, o3, o4, o5, rfl, s4, hD4, snd1, alt1, inc1⟩
            rw [Int.toNat_natCast, hlm] at hj
            have e0j : (0 : Int) + (j : Int) = (j : Int) := Int.zero_add _
            rw [e0j]
            obtain ⟨y, hy⟩ : ∃ y, p.2[j]? = some y := ⟨_, List.getElem?_eq_getElem hj⟩
            have hyv : (p.2.map V.str)[j]? = some (V.str y) := by rw [List.getElem?_map, hy]; rfl
            have ecut : cutV (p.2.map V.str) (some ((j : Int) + 1)) none = (p.2.drop (j + 1)).map V.str := cut_drop p.2 (j + 1)
            have oc : Oc R y (p.2.drop (j + 1)) p.1 := ⟨p.2, j, hpm, hy, rfl⟩
            generalize hrest : p.2.drop (j + 1) = rest at ecut oc
            have hrl : rest.length ≤ 20 := by rw [← hrest, List.length_drop]; omega
            have cbl : (cb es fs rest).length ≤ 40 * 20 := Nat.le_trans (cb_len (es := es) fs40 (Gram.lead es rest)) (Nat.mul_le_mul_left _ (Nat.le_trans (Gram.lead_len es rest) hrl))
            -- words
            refine ⟨fun σ H5 => ∃ qw, σ = [some (.ref a), some (.ref qe), some (.ref st), some (.ref d), some (.str p.1), some (.bl g1), some (.ref c), some (.int j), some (.ref qw), o5] ∧ Same H4 H5 ∧ StrsAt H5 qw (cb es fs rest), ?_, ?_⟩
            · refine ⟨_, rfl, _, rfl, _, rfl, _, _, rfl, rfl, _, rfl, c, _, rfl, SqL.of (s4 _ _ hc), fun q hq => ?_⟩
              rw [ecut]
              have sq := Same.upd (o := HO.lst (rest.map V.str)) hq
              have s4q := s4.trans sq
              exact ⟨_, rfl, _, rfl, _, q, qe, st, rest, es, fs, rfl, upd_same, s4q _ _ hEA, (hF.mono s4q).l, hrl, fs40, fun qw H5 s5 _ hS5 => ⟨qw, rfl, sq.trans s5, hS5⟩⟩
            rintro σ H5 ⟨qw, rfl, s5, hW5⟩
            have hD5 := hD4.mono s5
            have s45 := s4.trans s5
            -- and what comes behind the left one
            refine ⟨fun σ H6 => ∃ qw W, σ = [some (.ref a), some (.ref qe), some (.ref st), some (.ref d), some (.str p.1), some (.bl g1), some (.ref c), some (.int j), some (.ref qw), o5] ∧ Same H4 H6 ∧ StrsAt H6 qw W ∧ ∀ z, z ∈ W ↔ z ∈ cb es fs rest ∨ ((∀ s ∈ rest, s ∈ es) ∧ z ∈ v1 p.1), ?_, ?_⟩
            · refine ⟨_, rfl, _, rfl, _, _, rfl, rfl, _, rfl, c, _, rfl, SqL.of (s45 _ _ hc), fun q hq => ?_⟩
              rw [ecut]
              have sq := Same.upd (o := HO.lst (rest.map V.str)) hq
              generalize hHq : upd H5 q (.lst (rest.map V.str)) = Hq at sq
              have hqq : Hq q = some (.lst (rest.map V.str)) := by rw [← hHq, upd_same]
              have hEq : Hq qe = some (.lst (es.map V.str)) := sq _ _ (s45 _ _ hEA)
              refine ⟨q, rfl, ⟨_, SqL.of hqq⟩, fun D hD => comp_listT (K := K) (xs := rest.map V.str)
                (fun j τ H7 => (∃ o, τ = [o, some (.ref qe)]) ∧ H7 = upd Hq D (.lst (((rest.take j).filter (fun s => !decide (s ∈ es))).map V.str))) ⟨⟨_, rfl⟩, rfl⟩ ?_ ?_ ?_⟩
              · rintro j τ H7 ⟨_, rfl⟩
                exact (Same.upd hD).seq (SqL.of hqq)
              · rintro j x τ H7 hx ⟨⟨o, rfl⟩, rfl⟩
                obtain ⟨y, hy, rfl⟩ := strs_get hx
                have sD := Same.upd (o := HO.lst (((rest.take j).filter (fun s => !decide (s ∈ es))).map V.str)) hD
                have hle : ((rest.take j).filter (fun s => !decide (s ∈ es))).length ≤ rest.length := Nat.le_trans (List.length_filter_le _ _) (by rw [List.length_take]; omega)
                refine ⟨_, rfl, _, rfl, qe, _, rfl, .inl (SqL.of (sD _ _ hEq)), rfl, flat_strs es, _, rfl, ?_⟩
                show if (!inV (.str y) (es.map V.str)) = true then _ else _
                rw [inV_strs]
                by_cases hyk : y ∈ es
                · rw [decide_eq_true hyk]
                  refine iteF ⟨⟨_, rfl⟩, ?_⟩
                  rw [List.take_succ, hy, List.filter_append]
                  have : List.filter (fun s => !decide (s ∈ es)) (some y).toList = [] := by
                    show List.filter (fun s => !decide (s ∈ es)) [y] = []
                    rw [List.filter_cons, if_neg (by rw [decide_eq_true hyk]; decide)]; rfl
                  rw [this, List.append_nil]
                · rw [decide_eq_false hyk]
                  refine iteT ⟨_, rfl, _, upd_same, by rw [List.length_map]; exact small1000 (by omega), ⟨_, rfl⟩, ?_⟩
                  rw [upd_upd, List.take_succ, hy, List.filter_append, List.map_append]
                  have : List.filter (fun s => !decide (s ∈ es)) (some y).toList = [y] := by
                    show List.filter (fun s => !decide (s ∈ es)) [y] = [y]
                    rw [List.filter_cons, if_pos (by rw [decide_eq_false hyk]; rfl)]; rfl
                  rw [this]
                  rfl
              · rintro τ H7 ⟨_, rfl⟩
                rw [List.length_map, List.take_length]
                have sD := Same.upd (o := HO.lst ((rest.filter (fun s => !decide (s ∈ es))).map V.str)) hD
                refine ⟨by decide, fun qn hqn => ?_⟩
                have sn := Same.upd (o := HO.lst []) hqn
                have s7 : Same H5 _ := (sq.trans sD).trans sn
                refine ⟨D, qn, _, rfl, rfl, SqL.of (sn _ _ upd_same), SqL.of upd_same, _, rfl, ?_⟩
                by_cases hall : ∀ s ∈ rest, s ∈ es
                · have e : rest.filter (fun s => !decide (s ∈ es)) = [] := by
                    rw [List.filter_eq_nil_iff]
                    intro s hs
                    rw [decide_eq_true (hall s hs)]
                    decide
                  have e2 : ((rest.filter (fun s => !decide (s ∈ es))).map V.str).isEmpty = true := by rw [e]; rfl
                  rw [e2]
                  refine iteT ?_
                  obtain ⟨l, hg7, hl7⟩ := (hD5.mono s7).l.get (x := p.1) (by rw [tabF_keys]; exact hpl)
                  have egl : getL (tabF (sortsIn R) v1) p.1 = v1 p.1 := by unfold getL; rw [tabF_lookup, if_pos hpl]; rfl
                  rw [egl] at hl7
                  have l41 := snd1.len hsm hpl
                  refine ⟨_, rfl, _, rfl, _, rfl, d, _, rfl, hg7, qw, l, _, _, rfl, rfl, s7 _ _ hW5, hl7, by rw [List.length_map, List.length_map]; exact big_line (by omega), fun p2 hp2 => ?_⟩
                  refine ⟨p2, cb es fs rest ++ v1 p.1, rfl, (s5.trans s7).trans (Same.upd hp2), ?_, fun z => ?_⟩
                  · unfold StrsAt
                    rw [upd_same, List.map_append]
                  · rw [List.mem_append]
                    exact ⟨fun h => h.imp_right fun h => ⟨hall, h⟩, fun h => h.imp_right (·.2)⟩
                · have e2 : ((rest.filter (fun s => !decide (s ∈ es))).map V.str).isEmpty = false := by
                    cases q : ((rest.filter (fun s => !decide (s ∈ es))).map V.str).isEmpty with
                    | false => rfl
                    | true =>
                      have q := List.isEmpty_iff.mp q
                      rw [List.map_eq_nil_iff, List.filter_eq_nil_iff] at q
                      exfalso
                      apply hall
                      intro s hs
                      have := q s hs
                      by_cases z : s ∈ es
                      · exact z
                      · rw [decide_eq_false z] at this; exact absurd rfl this
                  rw [e2]
                  refine iteF ⟨qw, cb es fs rest, rfl, s5.trans s7, s7 _ _ hW5, fun z => ?_⟩
                  exact ⟨.inl, fun h => h.elim id fun h => absurd h.1 hall⟩
            clear hW5 hD5 s45 s5 H5 qw
            rintro σ H5 ⟨qw, W, rfl, s5, hW5, hWm⟩
            have hWs : y ∈ R.map (·.1) → ∀ z ∈ W, Beh R es y z := fun hys z hz => by
              rcases (hWm z).mp hz with h | ⟨h1, h2⟩
              · exact .word oc hys ((cb_iff hkF hcF').mp h)
              · exact .up oc hys h1 (snd1.so p.1 hpl z h2)
            have hW5 : H5 qw = some (.lst (W.map V.str)) := hW5
            have hD5 := hD4.mono s5
            have hqwd : qw ≠ d := by
              obtain ⟨kvs, z, _⟩ := hD5
              exact strs_ne z hW5
            refine ⟨_, rfl, qw, rfl, ⟨_, SqL.of hW5⟩, for_list (K := K) (a := qw) (xs := W.map V.str)
              (fun n σ H6 => ∃ v' g o5, σ = [some (.ref a), some (.ref qe), some (.ref st), some (.ref d), some (.str p.1), some (.bl g), some (.ref c), some (.int j), some (.ref qw), o5] ∧ Same HA H6 ∧ H6 qw = some (.lst (W.map V.str)) ∧ DictR H6 d (tabF (sortsIn R) v') ∧ SndB R es (sortsIn R) v' ∧
                (g = false → g1 = false ∧ v' = v1 ∧ (y ∈ R.map (·.1) → ∀ z ∈ W.take n, z ∈ v1 y)) ∧ (g = true → tot (sortsIn R) v < tot (sortsIn R) v'))
              ⟨v1, g1, _, rfl, s4.trans s5, hW5, hD5, snd1, fun z => ⟨z, rfl, fun _ z hz => (by cases hz)⟩, inc1⟩ ?_ ?_ ?_⟩
            · rintro n σ H6 _ ⟨_, _, _, _, _, z, _⟩
              exact SqL.of z
            · rintro n x σ H6 hx ⟨v2, g2, o6, rfl, s6, hq6, hD6, snd2, alt2, inc2⟩
              obtain ⟨u, hun, rfl⟩ := strs_get hx
              obtain ⟨kvs, hd6, hp6⟩ := id hD6
              have hix : ∀ {H' : Hp}, Same HA H' → SqL K H' c (p.2.map V.str) := fun s => SqL.of (s _ _ hc)
              have hat : atI (p.2.map V.str) (j : Int) = some (V.str y) := atI_nat hyv
              have hhas : ∃ o, DGet H6 d (.str y) o ∧ o.isSome = decide (y ∈ R.map (·.1)) := by
                rcases ent_val hp6 y with ⟨z1, z2⟩ | ⟨ys, l, z1, z2, z3⟩
                · refine ⟨none, .inl ⟨kvs, Sum.inr y, .inl hd6, rfl, z2.symm⟩, ?_⟩
                  rw [tabF_lookup] at z1
                  have : ¬ y ∈ R.map (·.1) := fun h => by rw [if_pos ((hks y).mpr h)] at z1; cases z1
                  rw [decide_eq_false this]; rfl
                · refine ⟨some (.ref l), .inl ⟨kvs, Sum.inr y, .inl hd6, rfl, z2.symm⟩, ?_⟩
                  rw [tabF_lookup] at z1
                  have : y ∈ R.map (·.1) := Classical.byContradiction fun h => by rw [if_neg fun q => h ((hks y).mp q)] at z1; cases z1
                  rw [decide_eq_true this]; rfl
              obtain ⟨oo, hgo, hoo⟩ := hhas
              refine ⟨_, rfl, _, rfl, c, _, j, _, rfl, rfl, hix s6, hat, _, rfl, d, oo, rfl, hgo, _, rfl, ?_⟩
              rw [hoo]
              by_cases hys : y ∈ R.map (·.1)
              · rw [decide_eq_true hys]
                refine iteT ?_
                have hyk := (hks y).mpr hys
                obtain ⟨l, hg6, hl6⟩ := hD6.l.get (x := y) (by rw [tabF_keys]; exact hyk)
                have egl : getL (tabF (sortsIn R) v2) y = v2 y := by unfold getL; rw [tabF_lookup, if_pos hyk]; rfl
                rw [egl] at hl6
                refine ⟨_, rfl, _, rfl, _, rfl, _, rfl, c, _, j, _, rfl, rfl, hix s6, hat, d, _, rfl, hg6, l, _, rfl, .inl (SqL.of hl6), rfl, flat_strs _, _, rfl, ?_⟩
                show if (!inV (.str u) ((v2 y).map V.str)) = true then _ else _
                rw [inV_strs]
                by_cases hin : u ∈ v2 y
                · rw [decide_eq_true hin]
                  refine iteF ⟨v2, g2, _, rfl, s6, hq6, hD6, snd2, fun z => ?_, inc2⟩
                  obtain ⟨e1, e2, e3⟩ := alt2 z
                  refine ⟨e1, e2, fun hy' w' hw' => ?_⟩
                  rw [List.take_succ, hun] at hw'
                  rcases List.mem_append.mp hw' with r | r
                  · exact e3 hy' w' r
                  · have : w' = u := by simpa using r
                    rw [this, ← e2]; exact hin
                · rw [decide_eq_false hin]
                  refine iteT ?_
                  have hl41 := snd2.len hsm hyk
                  refine ⟨_, rfl, _, rfl, _, rfl, c, _, j, _, rfl, rfl, hix s6, hat, d, _, rfl, hg6, _, rfl, (show 1 ≤ sizeLine by decide), fun p1 hp1 => ?_⟩
                  have sp1 := Same.upd (o := HO.lst [V.str u]) hp1
                  refine ⟨l, p1, _, _, rfl, rfl, sp1 _ _ hl6, upd_same, by rw [List.length_map]; exact big_line (by simp; omega), fun p2 hp2 => ?_⟩
                  have sp2 := Same.upd (o := HO.lst ((v2 y).map V.str ++ [V.str u])) hp2
                  have sp := sp1.trans sp2
                  have hd7 := sp _ _ hd6
                  have hp7 : Paired (EntAt (upd (upd H6 p1 (.lst [V.str u])) p2 (.lst ((v2 y).map V.str ++ [V.str u])))) kvs (tabF (sortsIn R) v2) := Paired.mapP hp6 fun _ _ ⟨z1, l, z2, z3⟩ => ⟨z1, l, z2, sp _ _ z3⟩
                  have hl7 : StrsAt (upd (upd H6 p1 (.lst [V.str u])) p2 (.lst ((v2 y).map V.str ++ [V.str u]))) p2 (v2 y ++ [u]) := by
                    unfold StrsAt
                    rw [upd_same, List.map_append]
                    rfl
                  have hkl : kvs.length < sizeLine := by
                    have := Paired.length hp6
                    unfold tabF at this
                    rw [List.length_map] at this
                    exact small1000 (by omega)
                  refine ⟨_, rfl, _, rfl, _, rfl, c, _, j, _, rfl, rfl, hix (s6.trans sp), hat, d, _, rfl, DPut.k (k := Sum.inr y) hd7 hkl, ?_⟩
                  have htot := tot_set (v := v2) (ys := v2 y ++ [u]) (nd_sortsIn R) hyk
                  rw [List.length_append, List.length_singleton] at htot
                  refine ⟨setV v2 y (v2 y ++ [u]), true, _, rfl, (s6.trans sp).updS hd, by rw [upd_ne hqwd]; exact sp _ _ hq6, DictR.put hd7 hp7 hyk hl7, snd2.add hin (hWs hys u (List.mem_of_getElem? hun)), fun z => (by cases z), fun _ => ?_⟩
                  cases g2 with
                  | true => have := inc2 rfl; omega
                  | false =>
                    obtain ⟨e1, e2, _⟩ := alt2 rfl
                    subst e2
                    obtain ⟨e3, _⟩ := alt1 e1
                    rw [← e3]; omega
              · rw [decide_eq_false hys]
                refine iteF (iteF ⟨v2, g2, _, rfl, s6, hq6, hD6, snd2, fun z => ?_, inc2⟩)
                obtain ⟨e1, e2, e3⟩ := alt2 z
                exact ⟨e1, e2, fun hy' => absurd hy' hys⟩
            · rintro σ H6 ⟨v2, g2, o6, rfl, s6, hq6, hD6, snd2, alt2, inc2⟩
              refine ⟨v2, g2, _, _, _, rfl, s6, hD6, snd2, fun z => ?_, inc2⟩
              obtain ⟨e1, e2, e3⟩ := alt2 z
              rw [List.length_map, List.take_length] at e3
              obtain ⟨e4, e5⟩ := alt1 e1
              refine ⟨e2.trans e4, fun x rs l hdn hx' => ?_⟩
              rcases (doneO_succ hpi hy).mp hdn with h | ⟨ex, er, el⟩
              · exact e5 x rs l h hx'
              · rw [hrest] at er
                subst ex; subst er; subst el
                rw [e4] at e3 hWm
                exact ⟨fun z hz => e3 hx' z ((hWm z).mpr (.inl hz)), fun ha z hz => e3 hx' z ((hWm z).mpr (.inr ⟨ha, hz⟩))⟩
          · rintro σ H4 ⟨v2, g2, o3', o4', o5', rfl, s4, hD4, snd2, alt2, inc2⟩
            rw [Int.toNat_natCast, hlm] at alt2
            refine ⟨v2, g2, _, _, _, _, _, rfl, s4, hD4, snd2, fun z => ?_, inc2⟩
            obtain ⟨e1, e2⟩ := alt2 z
            exact ⟨e1, fun x rs l hdn hx' => e2 x rs l ((doneO_row hpi).mp hdn) hx'⟩
        · rintro σ H3 ⟨v1, g1, o1, o2, o3, o4, o5, rfl, s3, hD3, snd1, alt1, inc1⟩
          refine ⟨v1, g1, _, _, _, _, _, rfl, s3, hD3, snd1, fun z => ?_, inc1⟩
          obtain ⟨e1, e2⟩ := alt1 z
          subst e1
          rw [hlen] at e2
          exact fun x rs l ho hx' => e2 x rs l (doneO_all.mpr ho) hx'
end
end Nw
namespace L2
open PySem PySem.Spec PyProof.Rows
/-- as CompIn.free, where the block also asks names of the module -/
theorem CompIn.freeG {X : Cx} {scope : Scope} {cl : List (Str × Addr)} {N : List Str} {sel : List (Option Nat)} (fr : List Str) (clos : closureFor scope X.env = pure cl) (hk : scope.kind = .function) (hek : X.env.scope.kind = .function)
    (hn : ∀ y ∈ scope.names, y.2 = .local ∨ y.2 = .globalImplicit ∨ (y.2 = .free ∧ y.1 ∈ fr)) (hl : ∀ y ∈ scope.names, y.2 = .local → scope.names.lookup y.1 = some .local)
    (hfr : ∀ x ∈ fr, X.env.kindOf x = some .cell ∧ scope.names.lookup x = some .free ∧ ∃ c, cl.lookup x = some c ∧ X.env.cells.lookup x = some c) (hcl : ∀ y ∈ cl, y.1 ∈ fr)
    (hlen : sel.length = N.length) (hsel : ∀ (j i : Nat), sel[j]? = some (some i) → ∃ x ∈ fr, X.N[i]? = some x ∧ N[j]? = some x) : CompIn X scope cl N sel where
  clos := clos
  nocell := fun y hy z => by
    rcases hn y hy with e | e | ⟨e, _⟩
    · rw [e] at z; cases z
    · rw [e] at z; cases z
    · rw [e] at z; cases z
  kind := hk
  locs := hl
  cells := fun x c h => by
    obtain ⟨_, _, c', h1, h2⟩ := hfr x (hcl _ (lookup_mem h))
    rw [h] at h1
    cases h1
    exact h2
  has := fun x ⟨v, n⟩ => by
    have key : ∀ kd : NameKind, (relabel scope X.env).names.lookup x = some kd → kd ≠ .local → kd ≠ .globalImplicit → ∃ c, cl.lookup x = some c := fun kd h hne hng => by
      rw [relabel_lookup] at h
      cases q : scope.names.lookup x with
      | none => rw [q] at h; cases h
      | some k0 =>
        rw [q] at h
        rcases hn _ (lookup_mem q) with e | e | ⟨_, e⟩
        · have e : k0 = .local := e
          subst e
          have h : some NameKind.local = some kd := h
          injection h with h
          exact absurd h.symm hne
        · have e : k0 = .globalImplicit := e
          subst e
          have h : some NameKind.globalImplicit = some kd := h
          injection h with h
          exact absurd h.symm hng
        · obtain ⟨_, _, c, h1, _⟩ := hfr x e
          exact ⟨c, h1⟩
    rcases v with z | z | z
    · exact absurd z n
    · exact key _ z (by decide) (by decide)
    · exact key _ z (by decide) (by decide)
  len := hlen
  names := fun j i h => by
    obtain ⟨x, hx, h1, h2⟩ := hsel j i h
    obtain ⟨k1, k2, _⟩ := hfr x hx
    have k1 : X.env.scope.names.lookup x = some .cell := k1
    refine ⟨x, h1, h2, ⟨.inr (.inl k1), by rw [k1]; decide⟩, ?_⟩
    rw [relabel_lookup, k2]
    show some (if _ then _ else _) ≠ _
    split <;> decide
def rSrtL (K : PySem.W.Frag) : List V → Hp → VK → Prop := fun xs H Q => ∃ (p : Addr) (ss : List Str), xs = [.ref p] ∧ SqL K H p (ss.map V.str) ∧ ss.length < 64 ∧ ∀ q, H q = none → Q (.ref q) (upd H q (.lst ((SL.srt ss).map V.str)))
theorem call_sortedL {X : Cx} (hc : X.calm = true) : CallR X (.builtin "sorted") (rSrtL X.K) := fun pins s σ H xs us Q I r ⟨p, ss, e, h1, h2, h3⟩ => call_sorted hc pins s σ H xs us Q I r ⟨p, ss, e, .inl h1, h2, h3⟩
def rListOf (K : PySem.W.Frag) : List V → Hp → VK → Prop := fun xs H Q => ∃ p ys, xs = [.ref p] ∧ (SqL K H p ys ∨ SqT K H p ys) ∧ ∀ l, H l = none → Q (.ref l) (upd H l (.lst ys))
theorem call_listOf {X : Cx} : CallR X (.type "list") (rListOf X.K) := call_list_of
end L2
namespace Nw
open PySem L2
open SL (onceS srt)
/-! ### rows that are being made -/
structure RowsB (H : Hp) (D : Addr) (us : List V) (R : List Row) : Prop where
  at_ : H D = some (.lst us)
  pr : Paired (RowAt H) us R
  ne : ∀ v ∈ us, ∃ t b l, v = .ref t ∧ H t = some (.tup [.str l, .ref b]) ∧ b ≠ D
theorem RowsB.nil {H : Hp} {D : Addr} : RowsB (upd H D (.lst [])) D [] [] := ⟨upd_same, .nil, fun v hv => (by cases hv)⟩
theorem RowsB.mono {H H' : Hp} {D : Addr} {us : List V} {R : List Row} (h : RowsB H D us R) (s : Same H H') : RowsB H' D us R :=
  ⟨s _ _ h.at_, Paired.mapP h.pr fun _ _ q => q.mono s, fun v hv => let ⟨t, b, l, e1, e2, e3⟩ := h.ne v hv; ⟨t, b, l, e1, s _ _ e2, e3⟩⟩
theorem RowsB.snoc {H : Hp} {D t b : Addr} {us : List V} {R : List Row} {l : Str} {ss : List Str} (h : RowsB H D us R) (ht : H t = some (.tup [.str l, .ref b])) (hb : StrsAt H b ss) (hn : b ≠ D) : RowsB (upd H D (.lst (us ++ [.ref t]))) D (us ++ [.ref t]) (R ++ [(l, ss)]) := by
  have nt : ∀ {t' : Addr} {xs : List V}, H t' = some (.tup xs) → t' ≠ D := fun {t' xs} e z => by rw [z, h.at_] at e; cases e
  refine ⟨upd_same, paired_snoc (pmapM h.pr fun v r hm ⟨t', b', q1, q2, q3⟩ => ⟨t', b', q1, ?_, ?_⟩) ⟨t, b, rfl, ?_, ?_⟩, fun v hv => ?_⟩
  · rw [upd_ne (nt ht)]; exact ht
  · unfold StrsAt; rw [upd_ne hn]; exact hb
  · rcases List.mem_append.mp hv with z | z
    · obtain ⟨t', b', l', e1, e2, e3⟩ := h.ne v z
      exact ⟨t', b', l', e1, by rw [upd_ne (nt e2)]; exact e2, e3⟩
    · rw [List.mem_singleton.mp z]
      exact ⟨t, b, l, rfl, by rw [upd_ne (nt ht)]; exact ht, hn⟩
  · rw [upd_ne (nt q2)]; exact q2
  · obtain ⟨t2, b2, l2, e1, e2, e3⟩ := h.ne v hm
    rw [q1] at e1; cases e1
    rw [q2] at e2; cases e2
    unfold StrsAt
    rw [upd_ne e3]; exact q3
theorem RowsB.rows {H : Hp} {D : Addr} {us : List V} {R : List Row} (h : RowsB H D us R) : RowsAt H D R := ⟨us, h.at_, h.pr⟩
theorem cut_ints (ns : List Int) (k : Nat) : ∃ ms : List Int, cutV (ns.map V.int) none (some (k : Int)) = ms.map V.int ∧ ms.length ≤ k := by
  refine ⟨ns.take (min k ns.length), ?_, ?_⟩
  · unfold cutV
    rw [HT.sIx_none, HT.sIx_nat, List.length_map, List.drop_zero, Nat.sub_zero, List.map_take]
  · rw [List.length_take]; omega
theorem rows_eq {F : Str → List Str} : ∀ {res : List Row}, (∀ e ∈ res, e.2 = F e.1) → res = (res.map (·.1)).map fun x => (x, F x)
  | [], _ => rfl
  | e :: r, h => by
    have h1 := h e (List.mem_cons_self ..)
    have h2 := rows_eq (F := F) (res := r) fun z hz => h z (List.mem_cons_of_mem _ hz)
    rw [List.map_cons, List.map_cons, ← h2, ← h1]
theorem tight_of {R : List Row} (h : Drawn 4 R) (f : Ren) : Tight (R.map (reRow f)) := by
  obtain ⟨more, rfl, hm⟩ := h.sh
  obtain ⟨U, hU, hUm⟩ := h.sg
  refine ⟨?_, fun p' hp' => ?_, (U ++ signs7).map (gOf f), ?_, fun p' hp' x hx => ?_⟩
  · rw [List.length_map, List.length_append]
    show 3 + more.length ≤ 7
    omega
  · obtain ⟨p, hp, rfl⟩ := List.mem_map.mp hp'
    have := h.wd p hp
    show (p.2.map (gOf f)).length ≤ 14
    rw [List.length_map]
    exact this
  · rw [List.length_map, List.length_append]
    show U.length + 7 ≤ 11
    omega
  · obtain ⟨p, hp, rfl⟩ := List.mem_map.mp hp'
    obtain ⟨y, hy, rfl⟩ := List.mem_map.mp (show x ∈ p.2.map (gOf f) from hx)
    exact List.mem_map.mpr ⟨y, hUm p hp y hy, rfl⟩
abbrev sLaw : Stmt := top 36
theorem scLaw : FnScope ["_law_script", "_law_rows", "_law_handed", "_law_told", "_law_behind", "_law_due"] ["_law_script"] (defScope sLaw) := ⟨rfl, rfl, rfl, by decide +kernel, rfl, by decide +kernel, by decide +kernel⟩
def spLaw (K : PySem.W.Frag) : Sp := fun vs H Q _ => ∃ (a : Addr) (ns : List Int), vs = [.ref a] ∧ SqL K H a (ns.map V.int) ∧ ns.length ≤ 63 ∧ ∀ H', Q (.bl true) H'
theorem boot_sum : bootBuiltins "sum" = some (.builtin "sum") := by decide +kernel
section
variable {P : Program} {w : World} {K : PySem.W.Frag} {mg : Str → Option Value} {base : Heap}
theorem ok_law {f : Addr} {fd : FuncData} (F : Fun K "law" "law" sLaw f fd) (T : Txt mg) (dDrawn : Def P w K mg base "_law_drawn_rows" 2 ["_law_cells", "_law_wild"] spDrawn) (dRoom : Def P w K mg base "_law_room" 1 ["_law_script", "_law_most", "_law_bound"] (spRoom K))
    (dRen : Def P w K mg base "_law_renamed" 1 ["_law_rows", "_law_cell"] spRen) (dSo : Def P w K mg base "_law_so" 1 ["_law_found", "_law_due"] spSo)
    (dBehinds : Def P w K mg base "behinds" 7 ["rows"] spBehinds) (dCome : Def P w K mg base "_law_come_behind" 3 ["_law_rows"] spCome)
    (dAll : Def P w K mg base "_law_all_sorts" 1 ["_law_rows"] spSortsOf) : FnOk P w K mg base CX0 8 f fd ["_law_script"] (spLaw K) := by
  refine F.ok scLaw (fun vs H Q E h => ?_) (fun cdv A outer s H vs Q E hr h => ?_)
  · obtain ⟨a, ns, rfl, _⟩ := h
    rfl
  · obtain ⟨a, ns, rfl, hS, hl63, k⟩ := h
    have hu := hu_of hr
    have hr3 : Room 3 _ := hr.mono (by decide)
    have hr2 : Room 2 _ := hr.mono (by decide)
    have hr1 : Room 1 _ := hr.mono (by decide)
    refine ⟨_, pss_mid (ps_set (i := 1) scLaw.nd rfl (Or.inl rfl) (pe_def dDrawn hr2 (by rfl) (pa_c (pe_slice sl_list (pv 0) po_none (po_some (pe_def dRoom hr1 (by rfl) (pa_c (pv 0) (pa_c pe_int (pa_c pe_int pa_nil)))))) (pa_c pe_bl pa_nil))))
      (pss_mid (ps_set (i := 1) scLaw.nd rfl (Or.inl rfl) (pe_def dRen hr1 (by rfl) (pa_c (pv 1) (pa_c (pe_callB (call_sum rfl) (by rfl) T.sum boot_sum (pa_c (pe_slice sl_list (pv 0) po_none (po_some pe_int)) pa_nil)) pa_nil))))
      (pss_mid (ps_setcomp (k := 2) (CompIn.freeG (N := ["_law_row"]) (sel := [none]) [] (by rfl) (by rfl) (by rfl) (by decide) (by decide) (by intro x hx; cases hx) (by intro y hy; cases hy) (by rfl) ?c6) rfl scLaw.nd rfl (Or.inl rfl) (pi_list (pv 1)) (fun s₃ H₃ fp => pg_name (i := 0) (show (["_law_row"] : List Str).Nodup by decide) rfl (Or.inl rfl)) (fun s₃ H₃ fp => pif_nil)
        (fun s₃ H₃ fp => pe_tup (pa_c (pe_ix (r := rIxT K) ix_tup (pv 0) pe_int (fun _ _ => rfl)) (pa_c (pe_callTy (X := cxIn _ _ _ _ _ _ _) (T := "list") (r := rListOf K) call_listOf (by rfl) T.lst (by decide +kernel) (pa_c (pe_ix (r := rIxT K) ix_tup (pv 0) pe_int (fun _ _ => rfl)) pa_nil)) pa_nil))))
      (pss_mid (ps_set (i := 3) scLaw.nd rfl (Or.inl rfl) (pe_def dBehinds hr (by rfl) (pa_c (pv 2) pa_nil)))
      (pss_mid (ps_set (i := 4) scLaw.nd rfl (Or.inr rfl) (pe_def dCome hr3 (by rfl) (pa_c (pv 1) pa_nil)))
      (pss_mid (ps_setcomp (k := 5) (CompIn.freeG (N := ["_law_left", "_law_behind"]) (sel := [none, some 4]) ["_law_behind"] (by rfl) (by rfl) (by rfl) ?c1 ?c2 ?c3 ?c4 (by rfl) ?c5) rfl scLaw.nd rfl (Or.inl rfl) (pi_list (pe_def dAll hr1 (by rfl) (pa_c (pv 1) pa_nil)))
        (fun s₃ H₃ fp => pg_name (i := 0) (show (["_law_left", "_law_behind"] : List Str).Nodup by decide) rfl (Or.inl rfl)) (fun s₃ H₃ fp => pif_nil)
        (fun s₃ H₃ fp => pe_tup (pa_c (pv 0) (pa_c (pe_callB (X := cxIn _ _ _ _ _ _ _) (r := rSrtL K) (call_sortedL rfl) (by rfl) T.srt PyProof.Rows.boot_sorted (pa_c (pe_dget (X := cxIn _ _ _ _ _ _ _) hu (pv 1) (pv 0) (fun _ _ => rfl)) pa_nil)) pa_nil))))
      (pss_one (ps_ret (pe_and (pe_def dSo hr1 (by rfl) (pa_c (pv 3) (pa_c (pv 5) pa_nil))) (pe_one (pe_def dSo hr1 (by rfl) (pa_c (pv 2) (pa_c (pv 1) pa_nil)))))))))))), ?_⟩
    case c6 =>
      intro j i h
      rcases j with _ | j
      · cases h
      · cases h
    case c1 => decide
    case c2 => decide
    case c3 =>
      intro x hx
      rcases List.mem_cons.mp hx with rfl | hx
      · exact ⟨rfl, rfl, _, rfl, rfl⟩
      · cases hx
    case c4 =>
      intro y hy
      rcases List.mem_cons.mp hy with rfl | hy
      · exact List.mem_cons_self ..
      · cases hy
    case c5 =>
      intro j i h
      rcases j with _ | _ | j
      · cases h
      · cases h; exact ⟨"_law_behind", List.mem_cons_self .., rfl, rfl⟩
      · cases h
    -- drawn
    refine ⟨fun σ H1 => ∃ q R, σ = [some (.ref a), some (.ref q), none, none, none, none] ∧ Same H H1 ∧ RowsAt H1 q R ∧ Drawn 4 R, ?_, ?_⟩
    · refine ⟨_, rfl, _, rfl, a, _, .int 4, .int 7, rfl, hS, by rw [List.length_map]; exact hl63, 4, rfl, a, _, rfl, hS, fun p hp => ?_⟩
      obtain ⟨ms, e, hm⟩ := cut_ints ns 4
      have e : cutV (ns.map V.int) none (some 4) = ms.map V.int := e
      rw [e]
      refine ⟨p, ms, rfl, upd_same, hm, fun q R H' s' hR dr => ⟨q, R, rfl, (Same.upd hp).trans s', hR, dr⟩⟩
    rintro σ H1 ⟨q0, R0, rfl, s1, hR0, dr⟩
    -- renamed
    refine ⟨fun σ H2 => ∃ q R, σ = [some (.ref a), some (.ref q), none, none, none, none] ∧ Same H H2 ∧ RowsAt H2 q R ∧ Good R ∧ Tight R, ?_, ?_⟩
    · obtain ⟨ms, e, hm⟩ := cut_ints ns 2
      have e : cutV (ns.map V.int) none (some 2) = ms.map V.int := e
      have hS1 := s1.seq hS
      refine ⟨_, rfl, _, rfl, 2, rfl, a, _, rfl, hS1, fun p hp => ?_⟩
      rw [e]
      have sp := Same.upd (o := HO.lst (ms.map V.int)) hp
      have hlR : R0.length ≤ 20 := by
        obtain ⟨m, e, hm⟩ := dr.sh
        rw [e, List.length_append]
        show 3 + m.length ≤ 20
        omega
      refine ⟨p, ms, rfl, SqL.of upd_same, q0, _, R0, rfl, hR0.mono sp, hlR, fun p hp => Nat.le_trans (dr.wd p hp) (by decide), fun q f H' s' hf hR => ?_⟩
      exact ⟨q, _, rfl, (s1.trans sp).trans s', hR, good_of dr hf, tight_of dr f⟩
    clear dr hR0 s1 R0 q0 H1
    rintro σ H2 ⟨q, R, rfl, s2, hR, gd, tg⟩
    have sm := gd.small
    have hR14 := sm.len
    obtain ⟨vs, hv, hp⟩ := id hR
    have hlen : vs.length = R.length := Paired.length hp
    -- handed in
    refine ⟨fun σ H3 => ∃ h, σ = [some (.ref a), some (.ref q), some (.ref h), none, none, none] ∧ Same H2 H3 ∧ RowsAt H3 h R, ?_, ?_⟩
    · refine ⟨_, rfl, q, rfl, ⟨_, SqL.of hv⟩, fun D hD => comp_list1 (K := K) (xs := vs) (fun i τ H3 => (∃ o, τ = [o]) ∧ Same H2 H3 ∧ ∃ us, RowsB H3 D us (R.take i)) ⟨⟨_, rfl⟩, Same.upd hD, [], RowsB.nil⟩ ?_ ?_ ?_⟩
      · rintro i τ H3 ⟨_, s3, _⟩
        exact SqL.of (s3 _ _ hv)
      · rintro i x τ H3 hx ⟨⟨o, rfl⟩, s3, us, rb⟩
        obtain ⟨p, t, b, hpi, rfl, ht, hb⟩ := rowAt_get hp hx
        have ht3 := s3 _ _ ht
        have hb3 : H3 b = some (.lst (p.2.map V.str)) := s3 _ _ hb
        have hil : i < R.length := (List.getElem?_eq_some_iff.mp hpi).1
        refine ⟨_, rfl, t, _, 0, _, rfl, rfl, SqT.of ht3, atI_nat (j := 0) rfl, _, rfl, t, _, 1, _, rfl, rfl, SqT.of ht3, atI_nat (j := 1) rfl, b, _, rfl, .inl (SqL.of hb3), fun l hl => ⟨(show 2 ≤ sizeLine by decide), fun t' ht' => ?_⟩⟩
        have sl := Same.upd (o := HO.lst (p.2.map V.str)) hl
        have st := Same.upd (o := HO.tup [V.str p.1, V.ref l]) ht'
        have rb' := rb.mono (sl.trans st)
        have hlD : l ≠ D := Ne.symm (ne_of_none rb.at_ hl)
        have hus : us.length ≤ 20 := by
          have := Paired.length rb.pr
          rw [List.length_take] at this
          omega
        refine ⟨us, rb'.at_, small1000 (by omega), ⟨_, rfl⟩, (s3.trans (sl.trans st)).updS hD, us ++ [.ref t'], ?_⟩
        rw [List.take_succ, hpi]
        exact rb'.snoc upd_same (st _ _ upd_same) hlD
      · rintro τ H3 ⟨_, s3, us, rb⟩
        rw [hlen, List.take_length] at rb
        exact ⟨D, rfl, s3, rb.rows⟩
    rintro σ H3 ⟨h, rfl, s3, hH⟩
    -- told
    refine ⟨fun σ H6 => ∃ d res, σ = [some (.ref a), some (.ref q), some (.ref h), some (.ref d), none, none] ∧ Same H3 H6 ∧ RowsAt H6 d res ∧ res.map (·.1) = sortsIn R ∧ ∀ e ∈ res, Canon (Behind R e.1) e.2, ?_, ?_⟩
    · exact ⟨_, rfl, h, R, rfl, hH, gd, tg, fun d res H6 s6 hd hk hc => ⟨d, res, rfl, s6, hd, hk, hc⟩⟩
    rintro σ H6 ⟨d, res, rfl, s6, hT, hk, hc⟩
    have s26 := s3.trans s6
    -- behind
    refine ⟨fun σ H7 => ∃ st f2, σ = [some (.ref a), some (.ref q), some (.ref h), some (.ref d), some (.ref st), none] ∧ Same H6 H7 ∧ DictR H7 st f2 ∧ f2.map (·.1) = sortsIn R ∧ ∀ e ∈ f2, e.2.Nodup ∧ ∀ z, z ∈ e.2 ↔ Behind R e.1 z, ?_, ?_⟩
    · exact ⟨_, rfl, q, R, rfl, hR.mono s26, sm, fun d res H7 s7 _ hd hk hc => ⟨d, res, rfl, s7, hd, hk, hc⟩⟩
    rintro σ H7 ⟨st, f2, rfl, s7, hD7, hk2, hc2⟩
    have s27 := s26.trans s7
    have fin : ∀ x ∈ sortsIn R, (getL f2 x).Nodup ∧ ∀ z, z ∈ getL f2 x ↔ Behind R x z := fun x hx => by
      obtain ⟨ys, e1, e2⟩ := lookup_keys (f := f2) (x := x) (by rw [hk2]; exact hx)
      unfold getL
      rw [e1]
      exact hc2 _ e2
    have l40 : ∀ x ∈ sortsIn R, (getL f2 x).length ≤ 40 := fun x hx => by
      obtain ⟨U, hU, hUm⟩ := tg.few
      have := Gram.nodup_len (m := ("" : Str) :: U) (fin x hx).1 fun z hz => by
        obtain ⟨es, _, hb⟩ := ((fin x hx).2 z).mp hz
        rcases hb.sign with e | ⟨p, hp, hz'⟩
        · rw [e]; exact List.mem_cons_self ..
        · exact List.mem_cons_of_mem _ (hUm p hp z hz')
      rw [List.length_cons] at this
      omega
    have lks := len_sortsIn R
    have eres : res = (sortsIn R).map fun x => (x, srt (getL f2 x)) := by
      rw [← hk]
      refine rows_eq (F := fun x => srt (getL f2 x)) fun e he => ?_
      have hx : e.1 ∈ sortsIn R := by rw [← hk]; exact List.mem_map.mpr ⟨e, he, rfl⟩
      exact (hc e he).eq (P' := Behind R e.1) ⟨_, rfl, (fin e.1 hx).1, (fin e.1 hx).2⟩ fun _ => Iff.rfl
    -- due
    refine ⟨fun σ H8 => ∃ du, σ = [some (.ref a), some (.ref q), some (.ref h), some (.ref d), some (.ref st), some (.ref du)] ∧ Same H7 H8 ∧ RowsAt H8 du res, ?_, ?_⟩
    · refine ⟨_, rfl, q, R, rfl, hR.mono s27, sm, fun ql H8 s8 n8 hS8 => ?_⟩
      have hS8 : H8 ql = some (.lst ((sortsIn R).map V.str)) := hS8
      refine ⟨ql, rfl, ⟨_, SqL.of hS8⟩, fun D hD => comp_list1 (K := K) (xs := (sortsIn R).map V.str) (fun i τ H9 => (∃ o, τ = [o, some (.ref st)]) ∧ Same H8 H9 ∧ ∃ us, RowsB H9 D us (((sortsIn R).take i).map fun x => (x, srt (getL f2 x)))) ⟨⟨_, rfl⟩, Same.upd hD, [], RowsB.nil⟩ ?_ ?_ ?_⟩
      · rintro i τ H9 ⟨_, s9, _⟩
        exact SqL.of (s9 _ _ hS8)
      · rintro i x τ H9 hx ⟨⟨o, rfl⟩, s9, us, rb⟩
        obtain ⟨y, hy, rfl⟩ := strs_get hx
        have hym : y ∈ sortsIn R := List.mem_of_getElem? hy
        have hil : i < (sortsIn R).length := (List.getElem?_eq_some_iff.mp hy).1
        obtain ⟨l, hg, hl⟩ := ((hD7.mono s8).mono s9).l.get (x := y) (by rw [hk2]; exact hym)
        refine ⟨_, rfl, _, rfl, _, rfl, st, _, rfl, hg, l, getL f2 y, rfl, SqL.of hl, by have := l40 y hym; omega, fun q' hq' => ⟨(show 2 ≤ sizeLine by decide), fun t' ht' => ?_⟩⟩
        have sl := Same.upd (o := HO.lst ((srt (getL f2 y)).map V.str)) hq'
        have st' := Same.upd (o := HO.tup [V.str y, V.ref q']) ht'
        have rb' := rb.mono (sl.trans st')
        have hlD : q' ≠ D := Ne.symm (ne_of_none rb.at_ hq')
        have hus : us.length ≤ 20 := by
          have := Paired.length rb.pr
          rw [List.length_map, List.length_take] at this
          omega
        refine ⟨us, rb'.at_, small1000 (by omega), ⟨_, rfl⟩, (s9.trans (sl.trans st')).updS hD, us ++ [.ref t'], ?_⟩
        rw [List.take_succ, hy, List.map_append]
        exact rb'.snoc upd_same (st' _ _ upd_same) hlD
      · rintro τ H9 ⟨_, s9, us, rb⟩
        rw [List.length_map, List.take_length, ← eres] at rb
        exact ⟨D, rfl, s8.trans s9, rb.rows⟩
    rintro σ H8 ⟨du, rfl, s8, hDu⟩
    have lres : res.length ≤ R.length := by
      have := congrArg List.length hk
      rw [List.length_map] at this
      omega
    have w40 : ∀ p ∈ res, p.2.length ≤ 40 := fun p hp => by
      rw [eres] at hp
      obtain ⟨x, hx, rfl⟩ := List.mem_map.mp hp
      show (srt (getL f2 x)).length ≤ 40
      rw [SL.len_srt]
      exact l40 x hx
    have z1 := sz_rows w40
    have z2 := sz_rows sm.wid
    have m1 : (40 + 3) * res.length ≤ 43 * 14 := Nat.mul_le_mul_left _ (by omega)
    have m2 : (20 + 3) * R.length ≤ 23 * 14 := Nat.mul_le_mul_left _ hR14
    refine ⟨_, rfl, _, rfl, _, _, dRows res, rfl, rep_rows (hT.mono (s7.trans s8)), rep_rows hDu, by omega, fun H9 s9 => ⟨_, rfl, iteT ?_⟩⟩
    refine ⟨_, rfl, _, rfl, _, _, dRows R, rfl, rep_rows (hH.mono ((s6.trans s7).trans (s8.trans s9))), rep_rows (hR.mono (s27.trans (s8.trans s9))), by omega, fun H10 s10 => k H10⟩
end
end Nw
namespace Nw
open PySem L2
/-! ### what the top has written -/
structure Got (K : PySem.W.Frag) (x : Str) (st : Stmt) : Prop where
  ex : ∃ f fd, PySem.W.nsIn K mainGlobals x = some (some (.ref f)) ∧ Fun K x x st f fd
theorem got_mk {K : PySem.W.Frag} {x : Str} {st : Stmt} {f : Addr} {oc : Value} {od an : Option Addr} {osl : Array (Option Value)} {kV doc pm cdv ct : Value} (a : PySem.W.nsIn K mainGlobals x = some (some (.ref f)))
    (l : K.lookup f = some ⟨oc, od, .func (PySem.W.fnOf x x (defArgs st) (defBody st) (defScope st) .none kV doc pm an cdv ct), osl⟩) (c : PySem.W.codeIn K cdv x = true) (k : PySem.W.keepIn K (.ref f) = true) : Got K x st := ⟨_, _, a, fun_mk l c k⟩
theorem Got.def {P : Program} {w : World} {K : PySem.W.Frag} {mg : Str → Option Value} {base h : Heap} {x : Str} {st : Stmt} {k : Nat} {ps : List Str} {sp : Sp} (g : Got K x st) (X : K.In h) (G : h.Ns mainGlobals mg)
    (b : ∀ {f fd}, Fun K x x st f fd → Binds K fd ps []) (ok : ∀ {f fd}, Fun K x x st f fd → FnOk P w K mg base CX0 k f fd ps sp) : Def P w K mg base x k ps sp := by
  obtain ⟨f, fd, a, F⟩ := g.ex
  exact ⟨f, fd, PySem.W.mg_of X G a, F.kp, ok F, b F⟩
/-- the module's names that are not there -/
structure Bare (K : PySem.W.Frag) : Prop where
  srt : PySem.W.nsIn K mainGlobals "sorted" = some none
  set : PySem.W.nsIn K mainGlobals "set" = some none
  all : PySem.W.nsIn K mainGlobals "all" = some none
  lst : PySem.W.nsIn K mainGlobals "list" = some none
  tup : PySem.W.nsIn K mainGlobals "tuple" = some none
  str : PySem.W.nsIn K mainGlobals "str" = some none
  bl : PySem.W.nsIn K mainGlobals "bool" = some none
  int : PySem.W.nsIn K mainGlobals "int" = some none
  len : PySem.W.nsIn K mainGlobals "len" = some none
  rng : PySem.W.nsIn K mainGlobals "range" = some none
  isi : PySem.W.nsIn K mainGlobals "isinstance" = some none
  abs : PySem.W.nsIn K mainGlobals "abs" = some none
  sum : PySem.W.nsIn K mainGlobals "sum" = some none
theorem Bare.txt {K : PySem.W.Frag} {h : Heap} {mg : Str → Option Value} (b : Bare K) (X : K.In h) (G : h.Ns mainGlobals mg) : Txt mg where
  srt := PySem.W.mg_none_of X G b.srt
  set := PySem.W.mg_none_of X G b.set
  all := PySem.W.mg_none_of X G b.all
  lst := PySem.W.mg_none_of X G b.lst
  tup := PySem.W.mg_none_of X G b.tup
  str := PySem.W.mg_none_of X G b.str
  bl := PySem.W.mg_none_of X G b.bl
  int := PySem.W.mg_none_of X G b.int
  len := PySem.W.mg_none_of X G b.len
  rng := PySem.W.mg_none_of X G b.rng
  isi := PySem.W.mg_none_of X G b.isi
  abs := PySem.W.mg_none_of X G b.abs
  sum := PySem.W.mg_none_of X G b.sum
theorem all_mk {l : PySem.W.OpenLaw} {w : World} {K : PySem.W.Frag} {h : Heap} {mg : Str → Option Value} {fa : Addr} (X : K.In h) (G : h.Ns mainGlobals mg) (hfa : mg "law" = some (.ref fa)) (B : Bare K) (B2 : PySem.W.nsIn K mainGlobals "enumerate" = some none) {tE : Nat} (B3 : PySem.W.nsIn K mainGlobals "END" = some (some (.str "" tE)))
    (g_sorts_of : Got K "sorts_of" sSortsOf)
    (g_words_of : Got K "words_of" sWordsOf)
    (g_first_sort : Got K "first_sort" sFirst)
    (g_sorts_made_of : Got K "sorts_made_of" sMade)
    (g_sorts_reached : Got K "sorts_reached" sReach)
    (g_sorts_in_trees_of_lines : Got K "sorts_in_trees_of_lines" sTrees)
    (g_check_rows : Got K "check_rows" sCheck)
    (g_empty_sorts : Got K "empty_sorts" sEmpty)
    (g_lists_by_sort : Got K "lists_by_sort" sLists)
    (g_leading_signs : Got K "leading_signs" sLead)
    (g_gathered : Got K "gathered" sGath)
    (g_words_to_begin : Got K "words_to_begin" sWtb)
    (g_can_be_empty : Got K "can_be_empty" sCbe)
    (g_words_to_begin_signs : Got K "words_to_begin_signs" sWbs)
    (g_words_behind : Got K "words_behind" sWbh)
    (g_behinds : Got K "behinds" sBehinds)
    (g__law_any_word : Got K "_law_any_word" sAny)
    (g__law_drawn_rows : Got K "_law_drawn_rows" sDrawn)
    (g__law_all_sorts : Got K "_law_all_sorts" sAll)
    (g__law_wordless : Got K "_law_wordless" sWless)
    (g__law_can_begin : Got K "_law_can_begin" sCan)
    (g__law_begun_by : Got K "_law_begun_by" sBegun)
    (g__law_come_behind : Got K "_law_come_behind" sCome)
    (g__law_room : Got K "_law_room" sRoom)
    (g__law_renamed : Got K "_law_renamed" sRen)
    (g__law_so : Got K "_law_so" sSo)
    (g_law : Got K "law" sLaw) : ∃ fd : FuncData, (∀ (s : Shared) (v : Value), BindsTo s fd ⟨[v], []⟩ [("_law_script", v)]) ∧ ∀ base : Heap, K.In base → base.Ns mainGlobals mg → FnOk l.prog w K mg base CX0 8 fa fd ["_law_script"] (spLaw K) := by
  obtain ⟨f, fd, a4, F⟩ := g_law.ex
  have e := hfa.symm.trans (PySem.W.mg_of X G a4)
  cases e
  have T := B.txt X G
  have hEn := PySem.W.mg_none_of X G B2
  have hE := PySem.W.mg_of X G B3
  have rE : RelV (.str "") (Value.str "" tE) := ⟨_, rfl⟩
  refine ⟨fd, ?_, fun base _ _ => ?_⟩
  · obtain ⟨oc, od, kV, doc, pm, an, cdv, ct, osl, rfl, lk, hcd⟩ := F.ex
    exact fun s v => .of_eq rfl
  have d_sorts_of : Def l.prog w K mg base "sorts_of" 1 ["rows"] spSortsOf := g_sorts_of.def X G (fun F => F.binds fun _ _ _ _ _ _ us hl => match us, hl with | [_], _ => rfl) (fun F => ok_sortsOf F T)
  have d_words_of : Def l.prog w K mg base "words_of" 2 ["rows"] spWordsOf := g_words_of.def X G (fun F => F.binds fun _ _ _ _ _ _ us hl => match us, hl with | [_], _ => rfl) (fun F => ok_wordsOf F T d_sorts_of)
  have d_first_sort : Def l.prog w K mg base "first_sort" 1 ["rows"] spFirst := g_first_sort.def X G (fun F => F.binds fun _ _ _ _ _ _ us hl => match us, hl with | [_], _ => rfl) (fun F => ok_first F)
  have d_sorts_made_of : Def l.prog w K mg base "sorts_made_of" 1 ["rows", "words"] spMade := g_sorts_made_of.def X G (fun F => F.binds fun _ _ _ _ _ _ us hl => match us, hl with | [_, _], _ => rfl) (fun F => ok_made F T)
  have d_sorts_reached : Def l.prog w K mg base "sorts_reached" 1 ["links", "sort"] spReach := g_sorts_reached.def X G (fun F => F.binds fun _ _ _ _ _ _ us hl => match us, hl with | [_, _], _ => rfl) (fun F => ok_reach F T)
  have d_sorts_in_trees_of_lines : Def l.prog w K mg base "sorts_in_trees_of_lines" 2 ["rows"] spTrees := g_sorts_in_trees_of_lines.def X G (fun F => F.binds fun _ _ _ _ _ _ us hl => match us, hl with | [_], _ => rfl) (fun F => ok_trees F T d_sorts_of d_sorts_reached d_first_sort)
  have d_check_rows : Def l.prog w K mg base "check_rows" 3 ["rows"] spCheck := g_check_rows.def X G (fun F => F.binds fun _ _ _ _ _ _ us hl => match us, hl with | [_], _ => rfl) (fun F => ok_check F d_sorts_of d_words_of d_sorts_made_of d_sorts_in_trees_of_lines)
  have d_empty_sorts : Def l.prog w K mg base "empty_sorts" 4 ["rows"] spEmpty := g_empty_sorts.def X G (fun F => F.binds fun _ _ _ _ _ _ us hl => match us, hl with | [_], _ => rfl) (fun F => ok_empty F d_check_rows d_sorts_made_of)
  have d_lists_by_sort : Def l.prog w K mg base "lists_by_sort" 2 ["rows"] spLists := g_lists_by_sort.def X G (fun F => F.binds fun _ _ _ _ _ _ us hl => match us, hl with | [_], _ => rfl) (fun F => ok_lists F T d_sorts_of)
  have d_leading_signs : Def l.prog w K mg base "leading_signs" 1 ["signs", "empties"] spLead := g_leading_signs.def X G (fun F => F.binds fun _ _ _ _ _ _ us hl => match us, hl with | [_, _], _ => rfl) (fun F => ok_lead F)
  have d_gathered : Def l.prog w K mg base "gathered" 2 ["own", "links"] spGath := g_gathered.def X G (fun F => F.binds fun _ _ _ _ _ _ us hl => match us, hl with | [_, _], _ => rfl) (fun F => ok_gath F T d_sorts_reached)
  have d_words_to_begin : Def l.prog w K mg base "words_to_begin" 5 ["rows"] spWtb := g_words_to_begin.def X G (fun F => F.binds fun _ _ _ _ _ _ us hl => match us, hl with | [_], _ => rfl) (fun F => ok_wtb F d_empty_sorts d_lists_by_sort d_leading_signs d_gathered)
  have d_can_be_empty : Def l.prog w K mg base "can_be_empty" 1 ["signs", "empties"] spCbe := g_can_be_empty.def X G (fun F => F.binds fun _ _ _ _ _ _ us hl => match us, hl with | [_, _], _ => rfl) (fun F => ok_cbe F T)
  have d_words_to_begin_signs : Def l.prog w K mg base "words_to_begin_signs" 2 ["signs", "empties", "begins"] spWbs := g_words_to_begin_signs.def X G (fun F => F.binds fun _ _ _ _ _ _ us hl => match us, hl with | [_, _, _], _ => rfl) (fun F => ok_wbs F T d_leading_signs)
  have d_words_behind : Def l.prog w K mg base "words_behind" 6 ["rows"] spWbh := g_words_behind.def X G (fun F => F.binds fun _ _ _ _ _ _ us hl => match us, hl with | [_], _ => rfl) (fun F => ok_wbh F T hEn hE rE d_empty_sorts d_words_to_begin d_lists_by_sort d_first_sort d_words_to_begin_signs d_can_be_empty d_gathered)
  have d_behinds : Def l.prog w K mg base "behinds" 7 ["rows"] spBehinds := g_behinds.def X G (fun F => F.binds fun _ _ _ _ _ _ us hl => match us, hl with | [_], _ => rfl) (fun F => ok_behinds F T d_words_behind)
  have d__law_any_word : Def l.prog w K mg base "_law_any_word" 1 ["_law_cell"] spAny := g__law_any_word.def X G (fun F => F.binds fun _ _ _ _ _ _ us hl => match us, hl with | [_], _ => rfl) (fun F => ok_any F T)
  have d__law_drawn_rows : Def l.prog w K mg base "_law_drawn_rows" 2 ["_law_cells", "_law_wild"] spDrawn := g__law_drawn_rows.def X G (fun F => F.binds fun _ _ _ _ _ _ us hl => match us, hl with | [_, _], _ => rfl) (fun F => ok_drawn F T d__law_any_word)
  have d__law_all_sorts : Def l.prog w K mg base "_law_all_sorts" 1 ["_law_rows"] spSortsOf := g__law_all_sorts.def X G (fun F => F.binds fun _ _ _ _ _ _ us hl => match us, hl with | [_], _ => rfl) (fun F => ok_all F T)
  have d__law_wordless : Def l.prog w K mg base "_law_wordless" 1 ["_law_rows"] spWless := g__law_wordless.def X G (fun F => F.binds fun _ _ _ _ _ _ us hl => match us, hl with | [_], _ => rfl) (fun F => ok_wless F T)
  have d__law_can_begin : Def l.prog w K mg base "_law_can_begin" 1 ["_law_rows", "_law_signs", "_law_empty", "_law_found"] spCan := g__law_can_begin.def X G (fun F => F.binds fun _ _ _ _ _ _ us hl => match us, hl with | [_, _, _, _], _ => rfl) (fun F => ok_can F)
  have d__law_begun_by : Def l.prog w K mg base "_law_begun_by" 2 ["_law_rows"] spBegun := g__law_begun_by.def X G (fun F => F.binds fun _ _ _ _ _ _ us hl => match us, hl with | [_], _ => rfl) (fun F => ok_begun F d__law_wordless d__law_all_sorts d__law_can_begin)
  have d__law_come_behind : Def l.prog w K mg base "_law_come_behind" 3 ["_law_rows"] spCome := g__law_come_behind.def X G (fun F => F.binds fun _ _ _ _ _ _ us hl => match us, hl with | [_], _ => rfl) (fun F => ok_come F T d__law_wordless d__law_begun_by d__law_all_sorts d__law_can_begin)
  have d__law_room : Def l.prog w K mg base "_law_room" 1 ["_law_script", "_law_most", "_law_bound"] (spRoom K) := g__law_room.def X G (fun F => F.binds fun _ _ _ _ _ _ us hl => match us, hl with | [_, _, _], _ => rfl) (fun F => ok_room F T)
  have d__law_renamed : Def l.prog w K mg base "_law_renamed" 1 ["_law_rows", "_law_cell"] spRen := g__law_renamed.def X G (fun F => F.binds fun _ _ _ _ _ _ us hl => match us, hl with | [_, _], _ => rfl) (fun F => ok_ren F)
  have d__law_so : Def l.prog w K mg base "_law_so" 1 ["_law_found", "_law_due"] spSo := g__law_so.def X G (fun F => F.binds fun _ _ _ _ _ _ us hl => match us, hl with | [_, _], _ => rfl) (fun F => ok_so F T)
  exact ok_law F T d__law_drawn_rows d__law_room d__law_renamed d__law_so d_behinds d__law_come_behind d__law_all_sorts
theorem walk {l : PySem.W.OpenLaw} {q : Program} {loose : List Str} {XP : (Str → Option Value) → Heap → Prop} {YP : World → Heap → Prop} {d : DefRec} {K : Params → PySem.W.Frag} (hn : l.most = some 63) (hdf : d.params.defaults = [])
    (hY : ∀ (w : World) (h : Heap), YP w h → (K w.params).In h)
    (F : ∀ (w : World) (mg : Str → Option Value) (fa : Addr) (h : Heap), (K w.params).In h → h.Ns mainGlobals mg → mg d.name = some (.ref fa) →
      ∃ fd : FuncData, (∀ (s : Shared) (u : Value), BindsTo s fd ⟨[u], []⟩ [("_law_script", u)]) ∧ ∀ base : Heap, (K w.params).In base → base.Ns mainGlobals mg → FnOk l.prog w (K w.params) mg base CX0 8 fa fd ["_law_script"] (spLaw (K w.params))) :
    PySem.W.WalkO q loose XP YP l.row.toRowW d [] (fun f vs => PySem.call f vs) :=
  L2.walk_of (n := 63) (k := 8) (x := "_law_script") (CX := fun _ => CX0) (sp := fun w => spLaw (K w.params)) hn (by decide) hdf ⟨rfl, by decide, by decide⟩ hY F (fun _ _ a ns hl _ hS => ⟨a, ns, rfl, hS, hl, fun _ => rfl⟩) fun _ _ _ _ _ z => z
end Nw
open PySem PySem.W PyProof.Rows
set_option maxRecDepth 100000 in
set_option maxHeartbeats 0 in
theorem PySem.Challenge.cw_nextword_k02_words_behind_holds : PySem.Challenge.rw_nextword_k02_words_behind.Holds := by
  w_on; o_law; k_head; (case hw => w_witness2)
  k_fill
  refine Nw.walk (l := PySem.Challenge.rw_nextword_k02_words_behind) rfl rfl (fun w h Y => PySem.W.kIn_of Y) ?F
  case F =>
    intro w mg fa h KX G hmg
    refine' Nw.all_mk KX G hmg ?hbare ?hbare2 ?hbare3 ?hgot0 ?hgot1 ?hgot2 ?hgot3 ?hgot4 ?hgot5 ?hgot6 ?hgot7 ?hgot8 ?hgot9 ?hgot10 ?hgot11 ?hgot12 ?hgot13 ?hgot14 ?hgot15 ?hgot16 ?hgot17 ?hgot18 ?hgot19 ?hgot20 ?hgot21 ?hgot22 ?hgot23 ?hgot24 ?hgot25 ?hgot26
    (case hbare => exact ⟨by k_is, by k_is, by k_is, by k_is, by k_is, by k_is, by k_is, by k_is, by k_is, by k_is, by k_is, by k_is, by k_is⟩)
    (case hbare2 => k_is)
    (case hbare3 => k_is)
    (case hgot0 => refine' Nw.got_mk ?a ?l ?c ?k; (case a => k_is); (case l => k_is); (case c => k_is); (case k => k_is))
    (case hgot1 => refine' Nw.got_mk ?a ?l ?c ?k; (case a => k_is); (case l => k_is); (case c => k_is); (case k => k_is))
    (case hgot2 => refine' Nw.got_mk ?a ?l ?c ?k; (case a => k_is); (case l => k_is); (case c => k_is); (case k => k_is))
    (case hgot3 => refine' Nw.got_mk ?a ?l ?c ?k; (case a => k_is); (case l => k_is); (case c => k_is); (case k => k_is))
    (case hgot4 => refine' Nw.got_mk ?a ?l ?c ?k; (case a => k_is); (case l => k_is); (case c => k_is); (case k => k_is))
    (case hgot5 => refine' Nw.got_mk ?a ?l ?c ?k; (case a => k_is); (case l => k_is); (case c => k_is); (case k => k_is))
    (case hgot6 => refine' Nw.got_mk ?a ?l ?c ?k; (case a => k_is); (case l => k_is); (case c => k_is); (case k => k_is))
    (case hgot7 => refine' Nw.got_mk ?a ?l ?c ?k; (case a => k_is); (case l => k_is); (case c => k_is); (case k => k_is))
    (case hgot8 => refine' Nw.got_mk ?a ?l ?c ?k; (case a => k_is); (case l => k_is); (case c => k_is); (case k => k_is))
    (case hgot9 => refine' Nw.got_mk ?a ?l ?c ?k; (case a => k_is); (case l => k_is); (case c => k_is); (case k => k_is))
    (case hgot10 => refine' Nw.got_mk ?a ?l ?c ?k; (case a => k_is); (case l => k_is); (case c => k_is); (case k => k_is))
    (case hgot11 => refine' Nw.got_mk ?a ?l ?c ?k; (case a => k_is); (case l => k_is); (case c => k_is); (case k => k_is))
    (case hgot12 => refine' Nw.got_mk ?a ?l ?c ?k; (case a => k_is); (case l => k_is); (case c => k_is); (case k => k_is))
    (case hgot13 => refine' Nw.got_mk ?a ?l ?c ?k; (case a => k_is); (case l => k_is); (case c => k_is); (case k => k_is))
    (case hgot14 => refine' Nw.got_mk ?a ?l ?c ?k; (case a => k_is); (case l => k_is); (case c => k_is); (case k => k_is))
    (case hgot15 => refine' Nw.got_mk ?a ?l ?c ?k; (case a => k_is); (case l => k_is); (case c => k_is); (case k => k_is))
    (case hgot16 => refine' Nw.got_mk ?a ?l ?c ?k; (case a => k_is); (case l => k_is); (case c => k_is); (case k => k_is))
    (case hgot17 => refine' Nw.got_mk ?a ?l ?c ?k; (case a => k_is); (case l => k_is); (case c => k_is); (case k => k_is))
    (case hgot18 => refine' Nw.got_mk ?a ?l ?c ?k; (case a => k_is); (case l => k_is); (case c => k_is); (case k => k_is))
    (case hgot19 => refine' Nw.got_mk ?a ?l ?c ?k; (case a => k_is); (case l => k_is); (case c => k_is); (case k => k_is))
    (case hgot20 => refine' Nw.got_mk ?a ?l ?c ?k; (case a => k_is); (case l => k_is); (case c => k_is); (case k => k_is))
    (case hgot21 => refine' Nw.got_mk ?a ?l ?c ?k; (case a => k_is); (case l => k_is); (case c => k_is); (case k => k_is))
    (case hgot22 => refine' Nw.got_mk ?a ?l ?c ?k; (case a => k_is); (case l => k_is); (case c => k_is); (case k => k_is))
    (case hgot23 => refine' Nw.got_mk ?a ?l ?c ?k; (case a => k_is); (case l => k_is); (case c => k_is); (case k => k_is))
    (case hgot24 => refine' Nw.got_mk ?a ?l ?c ?k; (case a => k_is); (case l => k_is); (case c => k_is); (case k => k_is))
    (case hgot25 => refine' Nw.got_mk ?a ?l ?c ?k; (case a => k_is); (case l => k_is); (case c => k_is); (case k => k_is))
    (case hgot26 => refine' Nw.got_mk ?a ?l ?c ?k; (case a => k_is); (case l => k_is); (case c => k_is); (case k => k_is))
