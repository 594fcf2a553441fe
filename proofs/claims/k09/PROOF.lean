import PyProof.Rows.All
import Wide.All
import OpenK.AllK
import Wide.FinOn
import PyProof.EqAt
import PyProof.EqKinds
import PyProof.TupleCall
import PyProof.SetKind
import PyProof.DictKinds
import PyProof.Rows.SetFrom
import PyProof.FactsAll.set
import PyProof.WalksS
import PyProof.CollectWalk
import PyProof.Seq
import PyProof.WalkLemmas
import PyProof.Rows.SortStr
import PyProof.Rows.SortWalk
import PyProof.Tail
import PyProof.NeKinds
import PyProof.Rows.StrJoin2
import PyProof.StrWalks
import PyProof.StrBlockG
import PyProof.ExcBaseAll.ValueError
import PyProof.Rows.CatchOwn
import PyProof.ExcArgsOwn
import PyProof.ExcAttrAll.ValueError
import PyProof.IsiH_list
import PyProof.FString4
import PyProof.StrLawsRepr
import PyProof.SliceStr2
import PyProof.StrLawsIn
import PyProof.StrLawsTight
import PyProof.StrLawsChain
import PyProof.Rows.StrSplitJoin
import Lean
import PySem.Challenge.RW_nextword_k09_whole_rows_on_lines
set_option Elab.async false
set_option linter.all false
set_option maxRecDepth 100000
set_option maxHeartbeats 4000000
/-! THE HAND LAYER, for ints, bools, texts, own classes, LISTS and tuples (index, slices, in, append, pop ..), calls, loops. Paste it whole ahead of your own text; what your proof does not reach may be deleted. -/
namespace L2
open PySem PySem.Spec PyProof.Rows

/-- a key: an int or a str -/
abbrev Key := Sum Int Str
def keyIs : Key → Value → Bool
  | .inl k, v => Value.isInt k v
  | .inr x, v => Value.isStrOf x v
def keyH (w : World) : Key → Int
  | .inl k => hashInt k
  | .inr x => hashStr w x
theorem keyIs_shape : ∀ {k : Key} {v : Value}, keyIs k v = true → (∃ i t, k = Sum.inl i ∧ v = Value.int i t) ∨ (∃ x t, k = Sum.inr x ∧ v = Value.str x t)
  | .inl i, v, h => by
    obtain ⟨t, e⟩ := Value.isInt_shape (k := i) (v := v) h
    exact .inl ⟨i, t, rfl, e⟩
  | .inr x, v, h => by
    obtain ⟨t, e⟩ := Value.isStrOf_shape (x := x) (v := v) h
    exact .inr ⟨x, t, rfl, e⟩
theorem key_ll (a b : Int) : decide ((Sum.inl a : Key) = Sum.inl b) = (a == b) := by
  by_cases e : a = b
  · subst e; simp
  · have h : ¬ (Sum.inl a : Key) = Sum.inl b := fun q => e (Sum.inl.inj q)
    rw [decide_eq_false h]
    exact (beq_eq_false_iff_ne.mpr e).symm
theorem key_rr (a b : Str) : decide ((Sum.inr a : Key) = Sum.inr b) = decide (a = b) := by
  by_cases e : a = b
  · subst e; simp
  · have h : ¬ (Sum.inr a : Key) = Sum.inr b := fun q => e (Sum.inr.inj q)
    rw [decide_eq_false h, decide_eq_false e]
theorem key_lr (a : Int) (b : Str) : decide ((Sum.inl a : Key) = Sum.inr b) = false := decide_eq_false (fun q => nomatch q)
theorem key_rl (a : Str) (b : Int) : decide ((Sum.inr a : Key) = Sum.inl b) = false := decide_eq_false (fun q => nomatch q)

def mixKind (prog : Program) (w : World) : PySem.KeyKind prog w Key where
  is := keyIs
  hash := keyH w
  inj := fun v a b ha hb => by
    rcases keyIs_shape ha with ⟨i, t, rfl, rfl⟩ | ⟨x, t, rfl, rfl⟩
    · rcases keyIs_shape hb with ⟨j, u, rfl, e⟩ | ⟨y, u, rfl, e⟩
      · injection e with e1 _; rw [e1]
      · exact nomatch e
    · rcases keyIs_shape hb with ⟨j, u, rfl, e⟩ | ⟨y, u, rfl, e⟩
      · exact nomatch e
      · injection e with e1 _; rw [e1]
  byValue := fun k v h => by
    rcases keyIs_shape h with ⟨i, t, rfl, rfl⟩ | ⟨x, t, rfl, rfl⟩ <;> rfl
  pyHash := fun hv h => by
    rcases keyIs_shape hv with ⟨i, t, rfl, rfl⟩ | ⟨x, t, rfl, rfl⟩
    · exact wpAny_pyHash_int h
    · exact wpAny_pyHash_str h
  eqBool := fun hu hv h => by
    rcases keyIs_shape hu with ⟨i, t, rfl, rfl⟩ | ⟨x, t, rfl, rfl⟩
    · rcases keyIs_shape hv with ⟨j, u, rfl, rfl⟩ | ⟨y, u, rfl, rfl⟩
      · rw [key_ll] at h; exact wpAny_eqBool_int h
      · rw [key_lr] at h; exact SeqAt.EqAt.int_str i t y u _ _ _ _ h
    · rcases keyIs_shape hv with ⟨j, u, rfl, rfl⟩ | ⟨y, u, rfl, rfl⟩
      · rw [key_rl] at h; exact SeqAt.EqAt.str_int x t j u _ _ _ _ h
      · rw [key_rr] at h; exact wpAny_eqBool_str h
  «strs» := fun k x t v h => by
    rcases keyIs_shape h with ⟨i, u, rfl, e⟩ | ⟨y, u, rfl, e⟩
    · exact nomatch e
    · injection e with e1 _
      subst e1
      cases v <;> rfl

end L2

namespace L2
open PySem PySem.Spec PyProof.Rows

/-- a value, without the heap -/
inductive V where
  | non | bl (b : Bool) | int (i : Int) | str (x : Str) | byt (b : Array UInt8) | flt (b : UInt64) | ref (a : Addr) | ty (n : String)
  deriving DecidableEq

def RelV : V → Value → Prop
  | .non, u => u = Value.none
  | .bl b, u => u = Value.bool b
  | .int i, u => ∃ t, u = Value.int i t
  | .str x, u => ∃ t, u = Value.str x t
  | .byt b, u => ∃ t, u = Value.bytes b t
  | .flt b, u => ∃ t, u = Value.float b t
  | .ref a, u => u = Value.ref a
  | .ty n, u => u = Value.type n

abbrev Vals : List V → List Value → Prop := Paired RelV
theorem Vals.length {xs : List V} {us : List Value} (r : Vals xs us) : xs.length = us.length := Paired.length r
theorem Vals.get : ∀ {xs : List V} {us : List Value} {i : Nat} {x : V}, Vals xs us → xs[i]? = some x → ∃ u, us[i]? = some u ∧ RelV x u
  | _, _, _, _, .nil, e => by simp at e
  | _, _, 0, _, .cons r _, e => by simp at e; subst e; exact ⟨_, rfl, r⟩
  | _, _, i + 1, x, .cons _ t, e => by
    obtain ⟨u, h1, h2⟩ := Vals.get (i := i) (x := x) t (by simpa using e)
    exact ⟨u, by simpa using h1, h2⟩
theorem Vals.append : ∀ {xs ys : List V} {us ws : List Value}, Vals xs us → Vals ys ws → Vals (xs ++ ys) (us ++ ws)
  | _, _, _, _, .nil, s => s
  | _, _, _, _, .cons r t, s => .cons r (Vals.append t s)
theorem Vals.take : ∀ {xs : List V} {us : List Value} (n : Nat), Vals xs us → Vals (xs.take n) (us.take n)
  | _, _, 0, _ => .nil
  | _, _, _ + 1, .nil => .nil
  | _, _, n + 1, .cons r t => .cons r (Vals.take n t)
theorem Vals.drop : ∀ {xs : List V} {us : List Value} (n : Nat), Vals xs us → Vals (xs.drop n) (us.drop n)
  | _, _, 0, r => r
  | _, _, _ + 1, .nil => .nil
  | _, _, n + 1, .cons _ t => Vals.drop n t
theorem Vals.none_of : ∀ {xs : List V} {us : List Value} {i : Nat}, Vals xs us → xs[i]? = none → us[i]? = none := fun {xs us i} r e => by
  have h1 := r.length
  have h2 : xs.length ≤ i := List.getElem?_eq_none_iff.mp e
  exact List.getElem?_eq_none_iff.mpr (by omega)

def RelO : Option V → Option Value → Prop
  | some v, some u => RelV v u
  | none, none => True
  | _, _ => False
def KV {κ : Type} : List (κ × V) → List (κ × Value) → Prop := Paired fun (p : κ × V) (q : κ × Value) => p.1 = q.1 ∧ RelV p.2 q.2

/-- a key of a dict (00_mix): an int or a text -/
def kV : Key → V
  | .inl i => .int i
  | .inr x => .str x

/-- what stands at a tracked address -/
inductive HO where
  /-- a list -/
  | lst (xs : List V)
  /-- a tuple (never changes) -/
  | tup (xs : List V)
  /-- a dict whose keys are ints and texts; one whose keys are tuples of ints and texts (the empty one is both) -/
  | dK (kvs : List (Key × V)) | dT (kvs : List (List Key × V))
  /-- a set of ints: its members, its size -/
  | set (S : Int → Bool) (n : Nat)
  /-- an instance of the class at C, its dict at dx, its attributes -/
  | ins (C dx : Addr) (fs : List (Str × V))
  /-- the dict of the instance at x -/
  | own (x : Addr)
  /-- the dict of an exception -/
  | xd (fs : List (Str × V))
  /-- a bound method, f of x -/
  | met (f x : Addr)
  /-- a range object lo, lo + 1, .. below hi -/
  | rng (lo hi : Int)
  /-- a thing that is known to the object (the script; a dict while a loop walks it): read, never written while it is so -/
  | frz (o : Obj) (u : HO)
  /-- a code object's table -/
  | tbl (ps : Array Value)
  /-- any other thing, by what is true of its one object (a def of one's own: SetO a S n := HO.ext fun h => ..) -/
  | ext (φ : Heap → Prop)

abbrev Hp := Addr → Option HO
def upd (H : Hp) (a : Addr) (o : HO) : Hp := fun b => if b = a then some o else H b
theorem upd_same {H : Hp} {a : Addr} {o : HO} : upd H a o a = some o := by unfold upd; rw [if_pos rfl]
theorem upd_ne {H : Hp} {a b : Addr} {o : HO} (h : b ≠ a) : upd H a o b = H b := by unfold upd; rw [if_neg h]
theorem upd_upd {H : Hp} {a : Addr} {o u : HO} : upd (upd H a o) a u = upd H a u := by
  funext b; unfold upd; split <;> rfl
theorem ne_of_none {H : Hp} {a b : Addr} {o : HO} (h : H a = some o) (h' : H b = none) : a ≠ b := by
  intro e; subst e; rw [h] at h'; cases h'

section
variable (P : Program) (w : World)
def ObjOk (H : Hp) (h : Heap) (a : Addr) : HO → Prop
  | .lst xs => xs.length ≤ sizeLine ∧ ∃ (its : List Value) (n : Nat), Vals xs its ∧ h.get? a = some { cls := .type "list", data := .seq its.toArray n }
  | .tup xs => xs.length ≤ sizeLine ∧ ∃ its : List Value, Vals xs its ∧ IsTup h a its.toArray
  | .dK kvs => kvs.length ≤ sizeLine ∧ (a == sysModules) = false ∧ ∃ vs, KV kvs vs ∧ h.DictOf (mixKind P w) a vs
  | .dT kvs => kvs.length ≤ sizeLine ∧ (a == sysModules) = false ∧ ∃ xs : List (List Key × Addr × Value),
      Paired (fun (p : List Key × V) (q : List Key × Addr × Value) => p.1 = q.1 ∧ H q.2.1 = some (.tup (p.1.map kV)) ∧ RelV p.2 q.2.2) kvs xs ∧
      ∃ o es ep, h.get? a = some o ∧ o.ExactDict ∧ o.data = .dict es ep ∧ es.toList = xs.map (entryOfKey (tupleKind (mixKind P w))) ∧ (xs.map (·.1)).Nodup
  | .set S n => h.SetOf (intKind P w) a S n
  | .ins C dx fs => H dx = some (.own a) ∧ fs.length ≤ 1000 ∧ dx ≠ a ∧ h.get? a = some (PySem.W.instObj C dx) ∧
      ∃ mA, h.Ns1 dx mA ∧ (∀ f, RelO (fs.lookup f) (mA f)) ∧ PySem.Within mA (fs.map (·.1))
  | .own _ => ∃ o, h.get? a = some o
  | .xd fs => ∃ mA, h.Ns1 a mA ∧ ∀ f, RelO (fs.lookup f) (mA f)
  | .rng lo hi => ∃ t u v, h.get? a = some { cls := .type "range", data := .fields #[.int lo t, .int hi u, .int 1 v] }
  | .frz o u => h.get? a = some o ∧ ObjOk H h a u
  | .tbl ps => h.get? a = some { cls := .none, data := .fields ps }
  | .met f x => h.get? a = some (PySem.W.methodObj (.ref f) (.ref x))
  | .ext φ => φ h ∧ (∃ o, h.get? a = some o) ∧ ∀ h1 h2 : Heap, φ h1 → (∀ o, h1.get? a = some o → h2.get? a = some o) → φ h2
/-- the abstract heap is held -/
def HOk (H : Hp) (h : Heap) : Prop := ∀ a o, H a = some o → ObjOk P w H h a o
end

section
variable {P : Program} {w : World} {H H' : Hp} {h h' : Heap} {a : Addr} {o : HO}
theorem ObjOk.lt (x : ObjOk P w H h a o) : a < h.objs.size := by
  cases o with
  | lst xs => obtain ⟨_, _, _, _, e⟩ := x; exact Heap.lt_size e
  | tup xs => obtain ⟨_, _, _, p⟩ := x; exact p.lt
  | dK kvs => obtain ⟨_, _, _, _, o, _, _, e, _⟩ := x; exact Heap.lt_size e
  | dT kvs => obtain ⟨_, _, _, _, o, _, _, e, _⟩ := x; exact Heap.lt_size e
  | set S n => obtain ⟨o, _, _, _, e, _⟩ := x; exact Heap.lt_size e
  | ins C dx fs => obtain ⟨_, _, _, e, _⟩ := x; exact Heap.lt_size e
  | own y => obtain ⟨_, e⟩ := x; exact Heap.lt_size e
  | xd fs => obtain ⟨_, ⟨_, _, _, e, _⟩, _⟩ := x; exact Heap.lt_size e
  | rng lo hi => obtain ⟨_, _, _, e⟩ := x; exact Heap.lt_size e
  | frz ob u => obtain ⟨e, _⟩ := x; exact Heap.lt_size e
  | tbl ps => exact Heap.lt_size (show h.get? a = some _ from x)
  | met f y => exact Heap.lt_size (show h.get? a = some _ from x)
  | ext φ => obtain ⟨_, ⟨_, e⟩, _⟩ := x; exact Heap.lt_size e
theorem Paired.mapP {α β : Type} {F G : α → β → Prop} : ∀ {l₁ : List α} {l₂ : List β}, Paired F l₁ l₂ → (∀ a b, F a b → G a b) → Paired G l₁ l₂
  | _, _, .nil, _ => .nil
  | _, _, .cons r t, f => .cons (f _ _ r) (Paired.mapP t f)
/-- what an object's description leans on: its own object, its own dict, the tuples -/
theorem ObjOk.stay (x : ObjOk P w H h a o) (k : ∀ b u, (b = a ∨ H b = some (.own a)) → h.get? b = some u → h'.get? b = some u)
    (ho : ∀ b, H b = some (.own a) → H' b = some (.own a)) (ht : ∀ b xs, H b = some (.tup xs) → H' b = some (.tup xs)) : ObjOk P w H' h' a o := by
  induction o with
  | lst xs => obtain ⟨z, its, n, r, e⟩ := x; exact ⟨z, its, n, r, k _ _ (.inl rfl) e⟩
  | tup xs => obtain ⟨z, its, r, ob, e, c⟩ := x; exact ⟨z, its, r, ob, k _ _ (.inl rfl) e, c⟩
  | dK kvs => obtain ⟨z, y, vs, r, ob, es, ep, e, c⟩ := x; exact ⟨z, y, vs, r, ob, es, ep, k _ _ (.inl rfl) e, c⟩
  | dT kvs =>
    obtain ⟨z, y, xs, r, ob, es, ep, e, c⟩ := x
    exact ⟨z, y, xs, Paired.mapP r fun p q z => ⟨z.1, ht _ _ z.2.1, z.2.2⟩, ob, es, ep, k _ _ (.inl rfl) e, c⟩
  | set S n => obtain ⟨ob, es, ep, t, e, c⟩ := x; exact ⟨ob, es, ep, t, k _ _ (.inl rfl) e, c⟩
  | ins C dx fs =>
    obtain ⟨d, z, ne, e, mA, ⟨od, es, ep, e2, c⟩, r⟩ := x
    exact ⟨ho _ d, z, ne, k _ _ (.inl rfl) e, mA, ⟨od, es, ep, k _ _ (.inr d) e2, c⟩, r⟩
  | own y => obtain ⟨ob, e⟩ := x; exact ⟨ob, k _ _ (.inl rfl) e⟩
  | xd fs => obtain ⟨mA, ⟨od, es, ep, e, c⟩, r⟩ := x; exact ⟨mA, ⟨od, es, ep, k _ _ (.inl rfl) e, c⟩, r⟩
  | rng lo hi => obtain ⟨t, u, v, e⟩ := x; exact ⟨t, u, v, k _ _ (.inl rfl) e⟩
  | frz ob u ih => obtain ⟨e, q⟩ := x; exact ⟨k _ _ (.inl rfl) e, ih q⟩
  | tbl ps =>
    have e : h.get? a = some { cls := .none, data := .fields ps } := x
    show h'.get? a = some { cls := .none, data := .fields ps }
    exact k a _ (.inl rfl) e
  | met f y =>
    have e : h.get? a = some (PySem.W.methodObj (.ref f) (.ref y)) := x
    show h'.get? a = some (PySem.W.methodObj (.ref f) (.ref y))
    exact k a _ (.inl rfl) e
  | ext φ => obtain ⟨p, ⟨o, e⟩, st⟩ := x; exact ⟨st _ _ p fun o q => k _ _ (.inl rfl) q, ⟨o, k _ _ (.inl rfl) e⟩, st⟩
theorem HOk.lt (x : HOk P w H h) (e : H a = some o) : a < h.objs.size := (x a o e).lt
theorem HOk.fresh (x : HOk P w H h) (e : h.objs.size ≤ a) : H a = none := by
  cases q : H a with
  | none => rfl
  | some u => exact absurd (Nat.lt_of_lt_of_le (x.lt q) e) (Nat.lt_irrefl _)
/-- every object of the heap is kept -/
theorem HOk.kept (x : HOk P w H h) (k : ∀ b u, h.get? b = some u → h'.get? b = some u) : HOk P w H h' := fun a o e =>
  (x a o e).stay (fun b u _ q => k b u q) (fun _ q => q) fun _ _ q => q
/-- a new object is laid and tracked -/
theorem HOk.laid (x : HOk P w H h) (k : ∀ b u, h.get? b = some u → h'.get? b = some u) (hp : h.objs.size ≤ a) (new : ObjOk P w (upd H a o) h' a o) : HOk P w (upd H a o) h' := fun b u e => by
  have hn := x.fresh hp
  by_cases hb : b = a
  · subst hb; rw [upd_same] at e; cases e; exact new
  · rw [upd_ne hb] at e
    exact (x b u e).stay (fun c v _ q => k c v q) (fun c q => by rw [upd_ne (ne_of_none q hn)]; exact q) fun c xs q => by rw [upd_ne (ne_of_none q hn)]; exact q
end

/-- what may be read as u: it is u, or a known u -/
def Rd (H : Hp) (a : Addr) (u : HO) : Prop := H a = some u ∨ ∃ o, H a = some (.frz o u)
theorem Rd.ok {P : Program} {w : World} {H : Hp} {h : Heap} {a : Addr} {u : HO} (r : Rd H a u) (x : HOk P w H h) : ObjOk P w H h a u := by
  rcases r with r | ⟨o, r⟩
  · exact x a u r
  · obtain ⟨_, q⟩ := x a _ r
    exact q
/-- what may be written -/
def Mut : Option HO → Prop
  | some (.lst _) => True
  | some (.dK _) => True
  | some (.dT _) => True
  | some (.set _ _) => True
  | some (.ins _ _ _) => True
  | some (.ext _) => True
  | _ => False
section
variable {P : Program} {w : World} {H : Hp} {h h' : Heap} {x e : Addr} {o' : HO}
/-- the object at e is changed: x itself, or the dict of the instance x -/
theorem HOk.write (ok : HOk P w H h) (mu : Mut (H x)) (he : e = x ∨ H e = some (.own x)) (k : ∀ b u, b ≠ e → h.get? b = some u → h'.get? b = some u) (heo : ∃ u, h'.get? e = some u)
    (new : ObjOk P w (upd H x o') h' x o') : HOk P w (upd H x o') h' := fun b u q => by
  have nown : ∀ c y, H c = some (.own y) → c ≠ x := fun c y r z => by subst z; rw [r] at mu; exact mu
  have ntup : ∀ c xs, H c = some (.tup xs) → c ≠ x := fun c xs r z => by subst z; rw [r] at mu; exact mu
  by_cases hb : b = x
  · subst hb; rw [upd_same] at q; cases q; exact new
  · rw [upd_ne hb] at q
    by_cases hbe : b = e
    · have q' : H b = some (.own x) := by
        rcases he with z | z
        · exact absurd (hbe.trans z) hb
        · rw [hbe]; exact z
      rw [q] at q'; cases q'
      obtain ⟨v, hv⟩ := heo
      exact ⟨v, by rw [hbe]; exact hv⟩
    · refine (ok b u q).stay (fun c v hc r => k c v ?_ r) (fun c r => by rw [upd_ne (nown c b r)]; exact r) fun c xs r => by rw [upd_ne (ntup c xs r)]; exact r
      rcases hc with rfl | hc
      · exact hbe
      · rintro rfl
        rcases he with z | z
        · exact nown c b hc z
        · rw [hc] at z; cases z; exact hb rfl
end

/-! ### kept unless tracked; of the frames at fs (the callers') the slots may change (an exception that passes writes there); of the records at ex (iterators) nothing is said -/
structure Un (fs ex : List Addr) (H H' : Hp) (h h' : Heap) : Prop where
  keep : ∀ b o, h.get? b = some o → H b = none → b ∉ fs → b ∉ ex → h'.get? b = some o
  slot : ∀ b o, h.get? b = some o → H b = none → b ∈ fs → b ∉ ex → ∃ sl, h'.get? b = some { o with slots := sl }
  free : ∀ b o, h.get? b = some o → H b = none → b ∉ ex → H' b = none
  there : ∀ b o, h.get? b = some o → b ∉ ex → ∃ o', h'.get? b = some o'
  tups : ∀ b xs, H b = some (.tup xs) → H' b = some (.tup xs)
  frzs : ∀ b o u, H b = some (.frz o u) → H' b = some (.frz o u)
  tbls : ∀ b ps, H b = some (.tbl ps) → ∃ more, H' b = some (.tbl (ps ++ more))
section
variable {fs fs' ex ex' : List Addr} {H H1 H2 : Hp} {h h1 h2 h' : Heap} {a x e : Addr} {o : HO}
theorem Un.any (u : Un fs ex H H1 h h1) {b : Addr} {ob : Obj} (q : h.get? b = some ob) (n : H b = none) (hx : b ∉ ex) : ∃ sl, h1.get? b = some { ob with slots := sl } := by
  by_cases hb : b ∈ fs
  · exact u.slot b ob q n hb hx
  · exact ⟨ob.slots, u.keep b ob q n hb hx⟩
theorem Un.kept (k : ∀ b u, h.get? b = some u → h'.get? b = some u) : Un fs ex H H h h' :=
  ⟨fun b ob q _ _ _ => k b ob q, fun b ob q _ _ _ => ⟨ob.slots, k b ob q⟩, fun _ _ _ n _ => n, fun b ob q _ => ⟨ob, k b ob q⟩, fun _ _ q => q, fun _ _ _ q => q, fun _ ps q => ⟨#[], by rw [q]; simp⟩⟩
theorem Un.refl : Un fs ex H H h h := Un.kept fun _ _ q => q
theorem Un.laid (k : ∀ b u, h.get? b = some u → h'.get? b = some u) (hp : h.objs.size ≤ a) (hn : H a = none) : Un fs ex H (upd H a o) h h' where
  keep := fun b u q _ _ _ => k b u q
  slot := fun b u q _ _ _ => ⟨u.slots, k b u q⟩
  free := fun b u q n _ => by rw [upd_ne (Nat.ne_of_lt (Nat.lt_of_lt_of_le (Heap.lt_size q) hp))]; exact n
  there := fun b u q _ => ⟨u, k b u q⟩
  tups := fun b xs q => by rw [upd_ne (ne_of_none q hn)]; exact q
  frzs := fun b u xs q => by rw [upd_ne (ne_of_none q hn)]; exact q
  tbls := fun b ps q => ⟨#[], by rw [upd_ne (ne_of_none q hn), q]; simp⟩
theorem Un.write (mu : Mut (H x)) (he : e = x ∨ H e = some (.own x)) (k : ∀ b u, b ≠ e → h.get? b = some u → h'.get? b = some u) (heo : ∃ u, h'.get? e = some u) : Un fs ex H (upd H x o) h h' := by
  have hx : ∀ b, H b = none → b ≠ x := fun b n z => by subst z; rw [n] at mu; exact mu
  have hb : ∀ b, H b = none → b ≠ e := fun b n z => by
    subst z
    rcases he with r | r
    · exact hx b n r
    · rw [n] at r; cases r
  have hm : ∀ b u, H b = some u → ¬ Mut (some u) → b ≠ x := fun b u q nm z => by subst z; rw [q] at mu; exact nm mu
  refine ⟨fun b u q n _ _ => k b u (hb b n) q, fun b u q n _ _ => ⟨u.slots, k b u (hb b n) q⟩, fun b u q n _ => by rw [upd_ne (hx b n)]; exact n, fun b u q _ => ?_,
    fun b xs q => by rw [upd_ne (hm b _ q fun z => z)]; exact q, fun b u xs q => by rw [upd_ne (hm b _ q fun z => z)]; exact q, fun b ps q => ⟨#[], by rw [upd_ne (hm b _ q fun z => z), q]; simp⟩⟩
  by_cases hbe : b = e
  · subst hbe; exact heo
  · exact ⟨u, k b u hbe q⟩
end

/-! ### the heap without what is tracked -/
def trk (h : Heap) (H : Hp) : List Addr := (List.range h.objs.size).filter fun a => (H a).isSome
def hidT (h : Heap) (H : Hp) : Heap := PySem.W.hideAll h (trk h H)
theorem hidT_size (h : Heap) (H : Hp) : (hidT h H).objs.size = h.objs.size := PySem.W.hideAll_size _ _
theorem hidT_get {h : Heap} {H : Hp} {b : Addr} {o : Obj} (e : h.get? b = some o) (n : H b = none) : (hidT h H).get? b = some o :=
  PySem.W.hideAll_get _ e fun hm => by
    have q : (H b).isSome = true := (List.mem_filter.mp hm).2
    rw [n] at q; simp at q
theorem of_hidT {h : Heap} {H : Hp} {b : Addr} {o : Obj} (e : (hidT h H).get? b = some o) : h.get? b = some o ∧ H b = none := by
  have e' : h.get? b = some o := PySem.W.of_hideAll (trk h H) e
  refine ⟨e', ?_⟩
  cases q : H b with
  | none => rfl
  | some x =>
    have hm : b ∈ trk h H := List.mem_filter.mpr ⟨List.mem_range.mpr (Heap.lt_size e'), by simp [q]⟩
    have z : (hidT h H).get? b = none := PySem.W.hideAll_none (trk h H) hm
    rw [z] at e; cases e

/-! ### OpenK's ledger, filled with every new object but one -/
end L2

namespace L2
open PySem PySem.Spec PyProof.Rows

/-- the module's facts, over the base: the heap at the law's entry without what is tracked there -/
structure Mod (K : PySem.W.Frag) (mg : Str → Option Value) (base : Heap) : Prop where
  kin : K.In base
  glob : base.Ns mainGlobals mg
  blt : ∃ mb, base.Ns builtinsNs mb ∧ ∀ x : Str, x ≠ "__name__" → mb x = bootBuiltins x
  nolimit : base.NoLimit

/-- the context: a def's body (or a comprehension's block) running. base: fixed through the whole law; s₀, H₀: the entry; outer: the frames whose slots others may change (a def's callers); stack: all frames that run;
   ex: iterators that were made ahead of the entry and are walked here (a comprehension's); fn: the names whose cells were made at the entry (a def: all; a comprehension's block: its own); calm: not within an except suite; pn: pins that every state bears; xe: what is wanted of an exception that leaves the code -/
structure Cx where
  prog : Program
  w : World
  K : PySem.W.Frag
  mg : Str → Option Value
  base : Heap
  A : Around
  N : List Str
  s₀ : Shared
  H₀ : Hp
  env : Env
  outer : List Env
  stack : List Env
  ex : List Addr
  fn : Str → Bool
  calm : Bool
  pn : List (Addr × Obj)
  xe : Value → Shared → Prop
/-- the callers' frames -/
def frs (l : List Env) : List Addr := l.filterMap (·.frame)
abbrev Cx.fs (X : Cx) : List Addr := frs X.outer

def Vis (sc : Scope) (x : Str) : Prop := sc.names.lookup x = some .local ∨ sc.names.lookup x = some .cell ∨ sc.names.lookup x = some .free
def Loc (sc : Scope) (x : Str) : Prop := sc.names.lookup x = some .local ∨ sc.names.lookup x = some .cell
def Look (env : Env) (h : Heap) (m : Str → Option Value) (x : Str) (u : Value) : Prop :=
  (env.kindOf x = some .local ∧ m x = some u) ∨ ((env.kindOf x = some .cell ∨ env.kindOf x = some .free) ∧ ∃ c, env.cells.lookup x = some c ∧ h.IsCell c (some u))

structure Cx.Ok (X : Cx) : Prop where
  mod : Mod X.K X.mg X.base
  kind : X.env.scope.kind = .function
  glob : X.env.globals = mainGlobals
  blt : X.env.builtins = builtinsNs
  above : X.s₀.heap.objs.size ≤ X.env.locals
  inj : ∀ x y c, X.env.cells.lookup x = some c → X.env.cells.lookup y = some c → x = y
  has : ∀ x, (X.env.kindOf x = some .cell ∨ X.env.kindOf x = some .free) → ∃ c, X.env.cells.lookup x = some c
  cab : ∀ x c, X.fn x = true → X.env.cells.lookup x = some c → X.s₀.heap.objs.size ≤ c
  hd : X.calm = true → X.A.handled = none
  frames : X.A.frames = some X.stack
  stk : X.stack = X.outer ∨ (X.stack = X.env :: X.outer ∧ X.env.frame = some X.env.locals)
  exf : ∀ b ∈ X.ex, b ≠ X.env.locals ∧ ∀ x c, X.env.cells.lookup x = some c → c ≠ b
  bs : ∀ b o, X.base.get? b = some o → X.s₀.heap.get? b = some o ∧ X.H₀ b = none
  bsz : X.base.objs.size ≤ X.s₀.heap.objs.size
  noex : ∀ b o, X.base.get? b = some o → b ∉ X.ex
  exfs : ∀ b ∈ X.ex, b ∉ X.fs
  funs : X.s₀.heap.FunFrames X.base X.outer
  frf : ∀ b ∈ X.fs, X.H₀ b = none

structure Inv (X : Cx) (pins : List (Addr × Obj)) (σ : List (Option V)) (H : Hp) (s : Shared) : Prop where
  ok : X.Ok
  os : s.os = X.s₀.os
  bare : AllBare s.gens
  base : Un X.fs X.ex X.H₀ H X.s₀.heap s.heap
  loc : ∃ m, s.heap.Ns X.env.locals m ∧ ∀ (i : Nat) (x : Str) (v : V), X.N[i]? = some x → σ[i]? = some (some v) → Vis X.env.scope x → ∃ u, RelV v u ∧ Look X.env s.heap m x u
  cell : ∀ x c, X.env.cells.lookup x = some c → ∃ v, s.heap.IsCell c v
  free : H X.env.locals = none
  freeC : ∀ x c, X.env.cells.lookup x = some c → H c = none
  pin : ∀ p ∈ X.pn ++ pins, s.heap.get? p.1 = some p.2 ∧ H p.1 = none ∧ p.1 ≠ X.env.locals ∧ p.1 ∉ X.fs ∧ ∀ v, p.2.data ≠ .cell v
  hok : HOk X.prog X.w H s.heap
  len : σ.length = X.N.length

section
variable {X : Cx} {pins : List (Addr × Obj)} {σ : List (Option V)} {H H' : Hp} {s : Shared} {h' : Heap}

theorem Cx.Ok.nofr (ok : X.Ok) {b : Addr} {o : Obj} (e : X.base.get? b = some o) : b ∉ X.fs := fun hb => by
  have := (ok.funs.mem hb).1
  rw [e] at this; cases this
theorem Inv.bs (I : Inv X pins σ H s) : ∀ b o, X.base.get? b = some o → s.heap.get? b = some o ∧ H b = none := fun b o e =>
  ⟨I.base.keep b o (I.ok.bs b o e).1 (I.ok.bs b o e).2 (I.ok.nofr e) (I.ok.noex b o e), I.base.free b o (I.ok.bs b o e).1 (I.ok.bs b o e).2 (I.ok.noex b o e)⟩
theorem Inv.bk (I : Inv X pins σ H s) : ∀ b o, X.base.get? b = some o → s.heap.get? b = some o := fun b o e => (I.bs b o e).1
theorem Inv.mod (I : Inv X pins σ H s) : Mod X.K X.mg X.base := I.ok.mod
theorem Inv.kIn (I : Inv X pins σ H s) : X.K.In s.heap := I.ok.mod.kin.keeps I.bk
theorem Inv.lt (I : Inv X pins σ H s) : X.env.locals < s.heap.objs.size := let ⟨_, hn, _⟩ := I.loc; hn.lt
theorem Inv.sz (I : Inv X pins σ H s) : X.s₀.heap.objs.size ≤ s.heap.objs.size := Nat.le_trans I.ok.above (Nat.le_of_lt I.lt)
theorem Inv.nofs (I : Inv X pins σ H s) {a : Addr} (h : s.heap.objs.size ≤ a) : a ∉ X.fs := fun hb => by
  obtain ⟨_, o, ho, _⟩ := I.ok.funs.mem hb
  exact absurd (Nat.lt_of_lt_of_le (Heap.lt_size ho) (Nat.le_trans I.sz h)) (Nat.lt_irrefl _)
theorem Inv.cne (I : Inv X pins σ H s) : ∀ x c, X.env.cells.lookup x = some c → c ≠ X.env.locals := fun x c e z => by
  obtain ⟨v, o, ho, hd⟩ := I.cell x c e
  obtain ⟨m, ⟨o', es, ep, ho', hd', _⟩, _⟩ := I.loc
  rw [z, ho'] at ho; cases ho; rw [hd'] at hd; cases hd
theorem Inv.funs (I : Inv X pins σ H s) : s.heap.FunFrames X.base X.outer := by
  have all : ∀ (l : List Env), (∀ b ∈ frs l, b ∈ X.fs) → X.s₀.heap.FunFrames X.base l → s.heap.FunFrames X.base l := by
    intro l
    induction l with
    | nil => intro _ _; trivial
    | cons env r ih =>
      intro hs hl
      obtain ⟨hk, ⟨L, o, hf, hn, ho, hd⟩, hr⟩ := hl
      have hL : L ∈ X.fs := hs L (by unfold frs; rw [List.filterMap_cons, hf]; exact List.mem_cons_self)
      obtain ⟨sl, e⟩ := I.base.slot L o ho (I.ok.frf L hL) hL fun z => I.ok.exfs L z hL
      exact ⟨hk, ⟨L, _, hf, hn, e, hd⟩, ih (fun b hb => hs b (by unfold frs; rw [List.filterMap_cons, hf]; exact List.mem_cons_of_mem _ hb)) hr⟩
  exact all X.outer (fun _ hb => hb) I.ok.funs

/-- the frames that run, for a call -/
theorem Inv.stack (I : Inv X pins σ H s) : s.heap.FunFrames X.base X.stack := by
  rcases I.ok.stk with e | ⟨e, hf⟩
  · rw [e]; exact I.funs
  · rw [e]
    obtain ⟨m, hn, _⟩ := I.loc
    refine .cons (by rw [I.ok.kind]; decide) hf hn ?_ I.funs
    exact Heap.get?_none_of_le (Nat.le_trans I.ok.bsz I.ok.above)
theorem Inv.stkSub (I : Inv X pins σ H s) : ∀ b ∈ frs X.stack, b ∈ X.env.locals :: X.fs := fun b hb => by
  rcases I.ok.stk with e | ⟨e, hf⟩
  · rw [e] at hb; exact List.mem_cons_of_mem _ hb
  · rw [e] at hb
    unfold frs at hb
    rw [List.filterMap_cons, hf] at hb
    exact hb
theorem Inv.stkFree (I : Inv X pins σ H s) : ∀ b ∈ frs X.stack, H b = none := fun b hb => by
  rcases List.mem_cons.mp (I.stkSub b hb) with e | hb
  · rw [e]; exact I.free
  · obtain ⟨_, o, ho, _⟩ := I.ok.funs.mem hb
    exact I.base.free b o ho (I.ok.frf b hb) fun z => I.ok.exfs b z hb

/-- THE STEP: the untracked objects but the frame and the records at ch are kept (the callers' frames up to slots), the frame's map is kept, the new abstract heap is held -/
theorem Inv.step {g' : Array GenState} {t' : Nat} {d' : Drawn} {ch : List Addr} (I : Inv X pins σ H s)
    (hch : ∀ b ∈ ch, (b ∈ X.ex ∨ X.s₀.heap.objs.size ≤ b) ∧ b ≠ X.env.locals ∧ (∀ x c, X.env.cells.lookup x = some c → c ≠ b) ∧ ∀ p ∈ X.pn ++ pins, p.1 ≠ b)
    (keep : ∀ b o, b ≠ X.env.locals → b ∉ X.fs → b ∉ ch → s.heap.get? b = some o → H b = none → h'.get? b = some o)
    (slot : ∀ b o, b ≠ X.env.locals → b ∈ X.fs → b ∉ ch → s.heap.get? b = some o → H b = none → ∃ sl, h'.get? b = some { o with slots := sl }) (free : ∀ b o, b ∉ ch → s.heap.get? b = some o → H b = none → H' b = none)
    (there : ∀ b o, b ∉ ch → s.heap.get? b = some o → ∃ o', h'.get? b = some o')
    (tups : ∀ b xs, H b = some (.tup xs) → H' b = some (.tup xs)) (frzs : ∀ b o u, H b = some (.frz o u) → H' b = some (.frz o u)) (tbls : ∀ b ps, H b = some (.tbl ps) → ∃ more, H' b = some (.tbl (ps ++ more)))
    (ns : ∀ m, s.heap.Ns X.env.locals m → h'.Ns X.env.locals m) (hok : HOk X.prog X.w H' h') (hg : AllBare g') :
    Inv X pins σ H' { s with heap := h', gens := g', drawn := d', toks := t' } := by
  have neL : ∀ b o, X.s₀.heap.get? b = some o → b ≠ X.env.locals := fun b o e => Nat.ne_of_lt (Nat.lt_of_lt_of_le (Heap.lt_size e) I.ok.above)
  have neC : ∀ b o, X.s₀.heap.get? b = some o → b ∉ X.ex → b ∉ ch := fun b o e hx hb => by
    rcases (hch b hb).1 with z | z
    · exact hx z
    · exact absurd (Nat.lt_of_lt_of_le (Heap.lt_size e) z) (Nat.lt_irrefl _)
  have cellK : ∀ x c, X.env.cells.lookup x = some c → ∀ v, s.heap.IsCell c v → h'.IsCell c v := fun x c e v ⟨o, ho, hd⟩ => by
    have nch : c ∉ ch := fun z => (hch c z).2.2.1 x c e rfl
    by_cases hc : c ∈ X.fs
    · obtain ⟨sl, q⟩ := slot c o (I.cne x c e) hc nch ho (I.freeC x c e)
      exact ⟨_, q, hd⟩
    · exact ⟨o, keep c o (I.cne x c e) hc nch ho (I.freeC x c e), hd⟩
  refine ⟨I.ok, I.os, hg, ⟨fun b o e n hb hx => ?_, fun b o e n hb hx => ?_, fun b o e n hx => ?_, fun b o e hx => ?_, fun b xs e => tups b xs (I.base.tups b xs e), fun b o xs e => frzs b o xs (I.base.frzs b o xs e), fun b ps e => ?_⟩, ?_, fun x c e => ?_, ?_, fun x c e => ?_, fun p hp => ?_, hok, I.len⟩
  · exact keep b o (neL b o e) hb (neC b o e hx) (I.base.keep b o e n hb hx) (I.base.free b o e n hx)
  · obtain ⟨sl, e1⟩ := I.base.slot b o e n hb hx
    obtain ⟨sl', e2⟩ := slot b _ (neL b o e) hb (neC b o e hx) e1 (I.base.free b o e n hx)
    exact ⟨sl', e2⟩
  · obtain ⟨o', e1⟩ := I.base.there b o e hx
    exact free b o' (neC b o e hx) e1 (I.base.free b o e n hx)
  · obtain ⟨o', e1⟩ := I.base.there b o e hx
    exact there b o' (neC b o e hx) e1
  · obtain ⟨m1, e1⟩ := I.base.tbls b ps e
    obtain ⟨m2, e2⟩ := tbls b _ e1
    exact ⟨m1 ++ m2, by rw [e2, Array.append_assoc]⟩
  · obtain ⟨m, hn, hl⟩ := I.loc
    refine ⟨m, ns m hn, fun i x v e1 e2 e3 => ?_⟩
    obtain ⟨u, r, l⟩ := hl i x v e1 e2 e3
    refine ⟨u, r, ?_⟩
    rcases l with l | ⟨k, c, e, z⟩
    · exact .inl l
    · exact .inr ⟨k, c, e, cellK x c e _ z⟩
  · obtain ⟨v, z⟩ := I.cell x c e
    exact ⟨v, cellK x c e v z⟩
  · obtain ⟨m, ⟨o, _, _, ho, _⟩, _⟩ := I.loc
    exact free _ o (fun z => (hch _ z).2.1 rfl) ho I.free
  · obtain ⟨v, o, ho, hd⟩ := I.cell x c e
    exact free c o (fun z => (hch c z).2.2.1 x c e rfl) ho (I.freeC x c e)
  · obtain ⟨e, n, ne, nf, d⟩ := I.pin p hp
    have nch : p.1 ∉ ch := fun z => (hch p.1 z).2.2.2 p hp rfl
    exact ⟨keep p.1 p.2 ne nf nch e n, free p.1 p.2 nch e n, ne, nf, d⟩
/-- .. where the frame's own object is kept too -/
theorem Inv.un {t' : Nat} (I : Inv X pins σ H s) (u : Un X.fs [] H H' s.heap h') (hok : HOk X.prog X.w H' h') : Inv X pins σ H' { s with heap := h', toks := t' } := by
  obtain ⟨m, ⟨o, es, ep, ho, r⟩, _⟩ := id I.loc
  obtain ⟨sl, hL⟩ := u.any ho I.free (by simp)
  exact I.step (g' := s.gens) (d' := s.drawn) (ch := []) (fun _ z => nomatch z) (fun b o _ hb _ e n => u.keep b o e n hb (by simp)) (fun b o _ hb _ e n => u.slot b o e n hb (by simp)) (fun b o _ e n => u.free b o e n (by simp)) (fun b o _ e => u.there b o e (by simp)) u.tups u.frzs u.tbls (fun m' hm => by
    obtain ⟨o', es', ep', ho', r'⟩ := hm
    rw [ho] at ho'; cases ho'
    exact ⟨_, es', ep', hL, r'⟩) hok I.bare
/-- behind a call (or a comprehension's block): the slots of this frame may have changed too, the records at ch may have turned -/
theorem Inv.call {g' : Array GenState} {t' : Nat} {d' : Drawn} {ch : List Addr} (I : Inv X pins σ H s) (u : Un (frs X.stack) ch H H' s.heap h') (hok : HOk X.prog X.w H' h') (hg : AllBare g')
    (hch : ∀ b ∈ ch, (b ∈ X.ex ∨ X.s₀.heap.objs.size ≤ b) ∧ b ≠ X.env.locals ∧ (∀ x c, X.env.cells.lookup x = some c → c ≠ b) ∧ ∀ p ∈ X.pn ++ pins, p.1 ≠ b) :
    Inv X pins σ H' { s with heap := h', gens := g', drawn := d', toks := t' } := by
  obtain ⟨m, ⟨o, es, ep, ho, r⟩, _⟩ := id I.loc
  obtain ⟨sl, hL⟩ := u.any ho I.free fun z => (hch _ z).2.1 rfl
  exact I.step (ch := ch) hch (fun b o hL hb hc e n => u.keep b o e n (fun z => (List.mem_cons.mp (I.stkSub b z)).elim hL hb) hc) (fun b o _ _ hc e n => u.any e n hc) (fun b o hc e n => u.free b o e n hc) (fun b o hc e => u.there b o e hc) u.tups u.frzs u.tbls (fun m' hm => by
    obtain ⟨o', es', ep', ho', r'⟩ := hm
    rw [ho] at ho'; cases ho'
    exact ⟨_, es', ep', hL, r'⟩) hok hg
/-- an untracked record of ours (an iterator) has turned -/
theorem Inv.turned {t' : Nat} {it : Addr} (I : Inv X pins σ H s) (k : ∀ b o, b ≠ it → s.heap.get? b = some o → h'.get? b = some o) (hn : H it = none) (hL : it ≠ X.env.locals)
    (h1 : it ∈ X.ex ∨ X.s₀.heap.objs.size ≤ it) (h2 : ∀ x c, X.env.cells.lookup x = some c → c ≠ it) (h3 : ∀ p ∈ X.pn ++ pins, p.1 ≠ it) : Inv X pins σ H { s with heap := h', toks := t' } := by
  have nit : ∀ b u, H b = some u → b ≠ it := fun b u e z => by rw [z, hn] at e; cases e
  refine I.step (g' := s.gens) (d' := s.drawn) (ch := [it]) (fun b hb => ?_) (fun b o _ _ hc e _ => k b o (fun z => hc (by simp [z])) e) (fun b o _ _ hc e _ => ⟨o.slots, k b o (fun z => hc (by simp [z])) e⟩) (fun _ _ _ _ n => n)
    (fun b o hc e => ⟨o, k b o (fun z => hc (by simp [z])) e⟩) (fun _ _ e => e) (fun _ _ _ e => e) (fun b ps e => ⟨#[], by rw [e]; simp⟩) (fun m hm => ?_) (fun b u e => ?_) I.bare
  · have e : b = it := by simpa using hb
    subst e
    exact ⟨h1, hL, h2, h3⟩
  · obtain ⟨o, es, ep, ho, r⟩ := hm
    exact ⟨o, es, ep, k _ o (Ne.symm hL) ho, r⟩
  · refine (I.hok b u e).stay (fun c v hc q => k c v ?_ q) (fun _ q => q) fun _ _ q => q
    rcases hc with z | z
    · rw [z]; exact nit b u e
    · exact nit c _ z
theorem Inv.tok (I : Inv X pins σ H s) (t : Nat) : Inv X pins σ H { s with toks := t } := I.un (h' := s.heap) (t' := t) Un.refl I.hok
/-- all objects kept -/
theorem Inv.kept {t' : Nat} (I : Inv X pins σ H s) (k : ∀ b u, s.heap.get? b = some u → h'.get? b = some u) : Inv X pins σ H { s with heap := h', toks := t' } := I.un (Un.kept k) (I.hok.kept k)
/-- a new object laid and tracked -/
theorem Inv.laid {a : Addr} {o : HO} {t' : Nat} (I : Inv X pins σ H s) (k : ∀ b u, s.heap.get? b = some u → h'.get? b = some u) (hp : s.heap.objs.size ≤ a) (new : ObjOk X.prog X.w (upd H a o) h' a o) :
    Inv X pins σ (upd H a o) { s with heap := h', toks := t' } := I.un (Un.laid k hp (I.hok.fresh hp)) (I.hok.laid k hp new)
/-- an object written -/
theorem Inv.write {x e : Addr} {o : HO} {t' : Nat} (I : Inv X pins σ H s) (mu : Mut (H x)) (he : e = x ∨ H e = some (.own x)) (k : ∀ b u, b ≠ e → s.heap.get? b = some u → h'.get? b = some u) (heo : ∃ u, h'.get? e = some u)
    (new : ObjOk X.prog X.w (upd H x o) h' x o) : Inv X pins σ (upd H x o) { s with heap := h', toks := t' } := I.un (Un.write mu he k heo) (I.hok.write mu he k heo new)
theorem Inv.pins_of {pins' : List (Addr × Obj)} (I : Inv X pins σ H s) (h : ∀ p ∈ pins', s.heap.get? p.1 = some p.2 ∧ H p.1 = none ∧ p.1 ≠ X.env.locals ∧ p.1 ∉ X.fs ∧ ∀ v, p.2.data ≠ .cell v) : Inv X pins' σ H s :=
  ⟨I.ok, I.os, I.bare, I.base, I.loc, I.cell, I.free, I.freeC, fun p hp => (List.mem_append.mp hp).elim (fun z => I.pin p (List.mem_append_left _ z)) (h p), I.hok, I.len⟩

theorem nodup_ix {N : List Str} (hN : N.Nodup) {i j : Nat} {x : Str} (a : N[i]? = some x) (b : N[j]? = some x) : i = j := by
  obtain ⟨h1, e1⟩ := List.getElem?_eq_some_iff.mp a
  obtain ⟨h2, e2⟩ := List.getElem?_eq_some_iff.mp b
  exact (List.getElem_inj hN).mp (e1.trans e2.symm)

/-- a name is stored; what changed -/
theorem store_ok2 {M : Model} {A : Around} {E : Value → Shared → Prop} {i : Nat} {x : Str} {v : V} {u : Value} {Q : Unit → Shared → Prop} (I : Inv X pins σ H s) (hN : X.N.Nodup) (hi : X.N[i]? = some x) (hx : Loc X.env.scope x) (r : RelV v u)
    (h : ∀ s', Inv X pins (σ.set i (some v)) H s' → (∃ a, Heap.SameBut a s.heap s'.heap ∧ (a = X.env.locals ∨ X.env.cells.lookup x = some a)) → Q () s') (hf : X.fn x = true ∨ X.env.scope.names.lookup x = some .local := by first | exact .inl rfl | exact .inr rfl | assumption) : wpAny M A (storeName X.env x u) Q E s := by
  obtain ⟨m, hn, hl⟩ := id I.loc
  have hcls : (X.env.scope.kind == .class || (X.env.scope.kind == .module && X.env.locals != X.env.globals)) = false := by rw [I.ok.kind]; rfl
  have hiσ : i < σ.length := by rw [I.len]; exact (List.getElem?_eq_some_iff.mp hi).1
  have cne := I.cne
  have tracked : ∀ {a : Addr} {h' : Heap}, (∃ o, s.heap.get? a = some o ∧ H a = none) → Heap.SameBut a s.heap h' → HOk X.prog X.w H h' := fun {a h'} ha hs b ob e => by
    obtain ⟨_, _, hfree⟩ := ha
    refine (I.hok b ob e).stay (fun c w' hc q => (hs.2 c ?_).trans q) (fun _ q => q) fun _ _ q => q
    rintro rfl
    rcases hc with rfl | hc
    · rw [hfree] at e; cases e
    · rw [hfree] at hc; cases hc
  rcases hx with hk | hk
  · refine wpAny_storeName_local hk hn (fun h' hn' hs => ?_) hcls
    obtain ⟨oL, _, _, hoL, _⟩ := id hn
    refine h _ ⟨I.ok, I.os, I.bare, ⟨fun b o e n hb hx => ?_, fun b o e n hb hx => ?_, I.base.free, fun b o e hx => ?_, I.base.tups, I.base.frzs, I.base.tbls⟩, ⟨_, hn', fun j y v' e1 e2 e3 => ?_⟩, fun y c e => ?_, I.free, I.freeC, fun p hp => ?_, tracked ⟨oL, hoL, I.free⟩ hs, by simpa using I.len⟩ ⟨_, hs, .inl rfl⟩
    · exact (hs.2 b (Nat.ne_of_lt (Nat.lt_of_lt_of_le (Heap.lt_size e) I.ok.above))).trans (I.base.keep b o e n hb hx)
    · obtain ⟨sl, e1⟩ := I.base.slot b o e n hb hx
      exact ⟨sl, (hs.2 b (Nat.ne_of_lt (Nat.lt_of_lt_of_le (Heap.lt_size e) I.ok.above))).trans e1⟩
    · obtain ⟨o', e1⟩ := I.base.there b o e hx
      exact ⟨o', (hs.2 b (Nat.ne_of_lt (Nat.lt_of_lt_of_le (Heap.lt_size e) I.ok.above))).trans e1⟩
    · by_cases hj : j = i
      · subst hj
        rw [hi] at e1; cases e1
        rw [List.getElem?_set_self hiσ] at e2
        cases e2
        exact ⟨u, r, .inl ⟨hk, by simp⟩⟩
      · rw [List.getElem?_set_ne (Ne.symm hj)] at e2
        obtain ⟨u', r', q⟩ := hl j y v' e1 e2 e3
        refine ⟨u', r', ?_⟩
        rcases q with ⟨k, e⟩ | ⟨k, c, e, z⟩
        · refine .inl ⟨k, ?_⟩
          have : y ≠ x := fun e => hj (nodup_ix hN e1 (e ▸ hi))
          simp [this, e]
        · exact .inr ⟨k, c, e, z.sameBut hs (cne y c e)⟩
    · obtain ⟨w', z⟩ := I.cell y c e
      exact ⟨w', z.sameBut hs (cne y c e)⟩
    · obtain ⟨e, n, ne, nf, d⟩ := I.pin p hp
      exact ⟨(hs.2 p.1 ne).trans e, n, ne, nf, d⟩
  · have hfn : X.fn x = true := by
      rcases hf with z | z
      · exact z
      · rw [z] at hk; cases hk
    obtain ⟨c, hc⟩ := I.ok.has x (.inl hk)
    obtain ⟨w', z⟩ := I.cell x c hc
    refine wpAny_storeName_cell I.ok.kind hk hc z (fun h' hc' hs => ?_)
    obtain ⟨oc, hoc, hocd⟩ := id z
    refine h { s with heap := h' } ⟨I.ok, I.os, I.bare, ⟨fun b o e n hb hx => ?_, fun b o e n hb hx => ?_, I.base.free, fun b o e hx => ?_, I.base.tups, I.base.frzs, I.base.tbls⟩, ⟨m, hn.sameBut hs (Ne.symm (cne x c hc)), fun j y v' e1 e2 e3 => ?_⟩, fun y c' e => ?_, I.free, I.freeC, fun p hp => ?_, tracked ⟨oc, hoc, I.freeC x c hc⟩ hs, by simpa using I.len⟩ ⟨c, hs, .inr hc⟩
    · exact (hs.2 b (Nat.ne_of_lt (Nat.lt_of_lt_of_le (Heap.lt_size e) (I.ok.cab x c hfn hc)))).trans (I.base.keep b o e n hb hx)
    · obtain ⟨sl, e1⟩ := I.base.slot b o e n hb hx
      exact ⟨sl, (hs.2 b (Nat.ne_of_lt (Nat.lt_of_lt_of_le (Heap.lt_size e) (I.ok.cab x c hfn hc)))).trans e1⟩
    · obtain ⟨o', e1⟩ := I.base.there b o e hx
      exact ⟨o', (hs.2 b (Nat.ne_of_lt (Nat.lt_of_lt_of_le (Heap.lt_size e) (I.ok.cab x c hfn hc)))).trans e1⟩
    · by_cases hj : j = i
      · subst hj
        rw [hi] at e1; cases e1
        rw [List.getElem?_set_self hiσ] at e2
        cases e2
        exact ⟨u, r, .inr ⟨.inl hk, c, hc, hc'⟩⟩
      · rw [List.getElem?_set_ne (Ne.symm hj)] at e2
        obtain ⟨u', r', q⟩ := hl j y v' e1 e2 e3
        refine ⟨u', r', ?_⟩
        rcases q with q | ⟨k, c', e, z'⟩
        · exact .inl q
        · refine .inr ⟨k, c', e, z'.sameBut hs ?_⟩
          rintro rfl
          exact hj (nodup_ix hN e1 (I.ok.inj _ _ _ e hc ▸ hi))
    · by_cases hcc : c' = c
      · subst hcc; exact ⟨_, hc'⟩
      · obtain ⟨w2, z2⟩ := I.cell y c' e
        exact ⟨w2, z2.sameBut hs hcc⟩
    · obtain ⟨e, n, ne, nf, d⟩ := I.pin p hp
      refine ⟨(hs.2 p.1 ?_).trans e, n, ne, nf, d⟩
      intro q
      rw [q, hoc] at e
      have q' : oc = p.2 := Option.some.inj e
      exact d w' (by rw [← q']; exact hocd)
theorem store_ok {M : Model} {A : Around} {E : Value → Shared → Prop} {i : Nat} {x : Str} {v : V} {u : Value} {Q : Unit → Shared → Prop} (I : Inv X pins σ H s) (hN : X.N.Nodup) (hi : X.N[i]? = some x) (hx : Loc X.env.scope x) (r : RelV v u)
    (h : ∀ s', Inv X pins (σ.set i (some v)) H s' → Q () s') (hf : X.fn x = true ∨ X.env.scope.names.lookup x = some .local := by first | exact .inl rfl | exact .inr rfl | assumption) : wpAny M A (storeName X.env x u) Q E s :=
  store_ok2 I hN hi hx r (fun s' I' _ => h s' I') hf
/-- behind a call or a block, the state as it is -/
theorem Inv.call' {s' : Shared} {ch : List Addr} (I : Inv X pins σ H s) (ho : s'.os = s.os) (u : Un (frs X.stack) ch H H' s.heap s'.heap) (hok : HOk X.prog X.w H' s'.heap) (hg : AllBare s'.gens)
    (hch : ∀ b ∈ ch, (b ∈ X.ex ∨ X.s₀.heap.objs.size ≤ b) ∧ b ≠ X.env.locals ∧ (∀ x c, X.env.cells.lookup x = some c → c ≠ b) ∧ ∀ p ∈ X.pn ++ pins, p.1 ≠ b) : Inv X pins σ H' s' := by
  obtain ⟨h', g', d', t', o'⟩ := s'
  have e : o' = s.os := ho
  subst e
  exact I.call (g' := g') (t' := t') (d' := d') u hok hg hch
end

/-! ### the judgements -/
/-- an exception: its class, its own dict's address (where it has one), the abstract heap behind it -/
abbrev XK := Value → Option Addr → Hp → Prop
abbrev St := List (Option V)
abbrev VK := V → Hp → Prop
/-- an expression's reading; a test's; an argument list's -/
abbrev TE := St → Hp → VK → Prop
abbrev TT := St → Hp → (Bool → Hp → Prop) → Prop
abbrev TA := St → Hp → (List V → Hp → Prop) → Prop
/-- what is wanted behind a statement -/
structure Ends where
  nx : St → Hp → Prop
  rt : VK
  bk : St → Hp → Prop := fun _ _ => False
  ct : St → Hp → Prop := fun _ _ => False
abbrev TS := Ends → St → Hp → Prop

def EP (X : Cx) (pins : List (Addr × Obj)) (σ : St) (Q : VK) (u : Value) (s' : Shared) : Prop := ∃ v H', Inv X pins σ H' s' ∧ RelV v u ∧ Q v H'
def TP (X : Cx) (pins : List (Addr × Obj)) (σ : St) (Q : Bool → Hp → Prop) (b : Bool) (s' : Shared) : Prop := ∃ H', Inv X pins σ H' s' ∧ Q b H'
def AP (X : Cx) (pins : List (Addr × Obj)) (σ : St) (Q : List V → Hp → Prop) (us : List Value) (s' : Shared) : Prop := ∃ vs H', Inv X pins σ H' s' ∧ Vals vs us ∧ Q vs H'
def SP (X : Cx) (pins : List (Addr × Obj)) (D : Ends) (f : Flow) (s' : Shared) : Prop :=
  match f with
  | .next => ∃ σ' H', Inv X pins σ' H' s' ∧ D.nx σ' H'
  | .brk => ∃ σ' H', Inv X pins σ' H' s' ∧ D.bk σ' H'
  | .cont => ∃ σ' H', Inv X pins σ' H' s' ∧ D.ct σ' H'
  | .ret u => ∃ v σ' H', Inv X pins σ' H' s' ∧ RelV v u ∧ D.rt v H'

def PE (X : Cx) (e : Expr) (t : TE) : Prop :=
  ∀ (pins : List (Addr × Obj)) (s : Shared) (σ : St) (H : Hp) (Q : VK), Inv X pins σ H s → t σ H Q → wpAny (model X.prog X.w) X.A (eval e X.env) (EP X pins σ Q) X.xe s
def PT (X : Cx) (e : Expr) (t : TT) : Prop :=
  ∀ (pins : List (Addr × Obj)) (s : Shared) (σ : St) (H : Hp) (Q : Bool → Hp → Prop), Inv X pins σ H s → t σ H Q → wpAny (model X.prog X.w) X.A (isTrue e X.env (eval e X.env)) (TP X pins σ Q) X.xe s
/-- a test whatever its 'whole' is (and, or) -/
def PW (X : Cx) (e : Expr) (t : TT) : Prop :=
  ∀ (whole : Sem Value) (pins : List (Addr × Obj)) (s : Shared) (σ : St) (H : Hp) (Q : Bool → Hp → Prop), Inv X pins σ H s → t σ H Q → wpAny (model X.prog X.w) X.A (isTrue e X.env whole) (TP X pins σ Q) X.xe s
theorem PW.pt {X : Cx} {e : Expr} {t : TT} (h : PW X e t) : PT X e t := h _
/-- an argument list (no star), from the left -/
def PA (X : Cx) (es : List Expr) (t : TA) : Prop :=
  ∀ (pos : Pos) (pins : List (Addr × Obj)) (s : Shared) (σ : St) (H : Hp) (Q : List V → Hp → Prop), Inv X pins σ H s → t σ H Q → wpAny (model X.prog X.w) X.A (spliced (backTo pos (starEach es X.env))) (AP X pins σ Q) X.xe s
def PS (X : Cx) (st : Stmt) (t : TS) : Prop :=
  ∀ (pins : List (Addr × Obj)) (s : Shared) (σ : St) (H : Hp) (D : Ends), Inv X pins σ H s → t D σ H → wpAny (model X.prog X.w) X.A (exec st X.env) (SP X pins D) X.xe s
def PSs (X : Cx) (st : List Stmt) (t : TS) : Prop :=
  ∀ (pins : List (Addr × Obj)) (s : Shared) (σ : St) (H : Hp) (D : Ends), Inv X pins σ H s → t D σ H → wpAny (model X.prog X.w) X.A (execs st X.env) (SP X pins D) X.xe s
/-- weaken the end -/
theorem thn {α : Type} {t : Sem α} {Q Q' : α → Shared → Prop} {M : Model} {A : Around} {E : Value → Shared → Prop} {s : Shared} (h : wpAny M A t Q E s) (hQ : ∀ a s, Q a s → Q' a s) : wpAny M A t Q' E s := wpAny_mono h hQ fun _ _ x => x
end L2

namespace L2
open PySem PySem.Spec PyProof.Rows
section
variable {X : Cx}

/-! ### names and constants -/
def tVar (i : Nat) : TE := fun σ H Q => ∃ v, σ[i]? = some (some v) ∧ Q v H
def tC (v : V) : TE := fun _ H Q => Q v H
theorem pe_var {i : Nat} {x : Str} {pos : Pos} (hN : X.N[i]? = some x) (hv : Vis X.env.scope x) (hd : (x == ("__debug__" : Str)) = false := by decide) (hcd : (x == ("__classdict__" : Str)) = false := by decide) : PE X (.Name x pos) (tVar i) := by
  intro pins s σ H Q I h
  obtain ⟨v, e, h⟩ := h
  obtain ⟨m, hn, hl⟩ := I.loc
  obtain ⟨u, r, l⟩ := hl i x v hN e hv
  have fin : EP X pins σ Q u s := ⟨v, H, I, r, h⟩
  rcases l with ⟨hk, hm⟩ | ⟨hk, c, hc, hcell⟩
  · exact wpAny_Name (wpAny_loadName_local I.ok.kind hk hn hm fin) hd
  · rcases hk with hk | hk
    · exact wpAny_Name (wpAny_loadName_cell I.ok.kind hk hc hcell fin) hd
    · exact wpAny_Name (wpAny_loadName_free I.ok.kind hk hc hcell fin hcd) hd
theorem pe_int {i j pos} : PE X (.Constant (.int i) j pos) (tC (.int i)) := fun _ _ _ H _ I h => wpAny_Constant_int ⟨.int i, H, I.tok _, ⟨_, rfl⟩, h⟩
theorem pe_bl {b j pos} : PE X (.Constant (.bool b) j pos) (tC (.bl b)) := fun _ _ _ H _ I h => Constant_bool ⟨.bl b, H, I, rfl, h⟩
theorem pe_non {j pos} : PE X (.Constant .none j pos) (tC .non) := fun _ _ _ H _ I h => Constant_none ⟨.non, H, I, rfl, h⟩
theorem pe_str {x j pos} : PE X (.Constant (.str x) j pos) (tC (.str x)) := fun _ _ _ H _ I h => Calls.Constant_str ⟨.str x, H, I.tok _, ⟨_, rfl⟩, h⟩

/-- a global name of the def -/
def Gl (X : Cx) (x : Str) : Prop := X.env.kindOf x = some .globalImplicit
theorem ld_glob {E : Value → Shared → Prop} {pins : List (Addr × Obj)} {s : Shared} {σ : St} {H : Hp} {x : Str} {u : Value} {pos : Pos} {Q : Value → Shared → Prop} (I : Inv X pins σ H s) (hg : Gl X x) (hm : X.mg x = some u) (h : Q u s)
    (hd : (x == ("__debug__" : Str)) = false := by decide) : wpAny (model X.prog X.w) X.A (eval (.Name x pos) X.env) Q E s :=
  Calls.Name_function_global I.ok.kind hg (Calls.loadGlobal_global (by rw [I.ok.glob]; exact I.mod.glob.keeps I.bk) hm h) hd
theorem ld_blt {E : Value → Shared → Prop} {pins : List (Addr × Obj)} {s : Shared} {σ : St} {H : Hp} {x : Str} {u : Value} {pos : Pos} {Q : Value → Shared → Prop} (I : Inv X pins σ H s) (hg : Gl X x) (hm : X.mg x = none) (hv : bootBuiltins x = some u) (h : Q u s)
    (hn : x ≠ "__name__" := by decide) (hd : (x == ("__debug__" : Str)) = false := by decide) : wpAny (model X.prog X.w) X.A (eval (.Name x pos) X.env) Q E s := by
  obtain ⟨mb, h1, h2⟩ := I.mod.blt
  exact Calls.Name_function_global I.ok.kind hg (Calls.loadGlobal_builtin (by rw [I.ok.glob]; exact I.mod.glob.keeps I.bk) hm (by rw [I.ok.blt]; exact h1.keeps I.bk) ((h2 x hn).trans hv) h) hd
/-- a module's constant, a class, a function, as a value -/
theorem pe_glob {x : Str} {v : V} {u : Value} {pos : Pos} (hg : Gl X x) (hm : X.mg x = some u) (r : RelV v u) (hd : (x == ("__debug__" : Str)) = false := by decide) : PE X (.Name x pos) (tC v) :=
  fun _ _ _ H _ I h => ld_glob I hg hm ⟨v, H, I, r, h⟩ hd
theorem pe_bltn {x : Str} {v : V} {u : Value} {pos : Pos} (hg : Gl X x) (hm : X.mg x = none) (hv : bootBuiltins x = some u) (r : RelV v u) (hn : x ≠ "__name__" := by decide) (hd : (x == ("__debug__" : Str)) = false := by decide) : PE X (.Name x pos) (tC v) :=
  fun _ _ _ H _ I h => ld_blt I hg hm hv ⟨v, H, I, r, h⟩ hn hd

/-! ### arithmetic -/
variable {a b : Expr} {ta tb : TE} {pos : Pos}
/-! ### comparisons -/
/-- a comparison as a value, as a test -/
def tB (t : TE) : TT := fun σ H Q => t σ H fun x H1 => ∃ c, x = .bl c ∧ Q c H1
/-- an expression whose value is a bool, as a test -/
theorem pt_val {e : Expr} {t : TE} (h : PE X e t) (he : ∀ whole, isTrue e X.env whole = (do let v ← whole; standAt e.pos; holding [v] (truthy v)) := by intro _; rfl) : PT X e (tB t) := by
  intro pins s σ H Q I hw
  refine isTrue_plain (thn (h pins s σ H _ I hw) fun v s1 ⟨x, H1, I1, r1, q1⟩ => ?_) (he _)
  obtain ⟨d, rfl, q⟩ := q1
  cases r1
  exact wpAny_truthy_bool ⟨H1, I1, q⟩

/-! ### and, or, not -/
variable {tA tB' : TT} {rest : List Expr}
def tAnd (t u : TT) : TT := fun σ H Q => t σ H fun c H1 => if c = true then u σ H1 Q else Q false H1
def tOr (t u : TT) : TT := fun σ H Q => t σ H fun c H1 => if c = true then Q true H1 else u σ H1 Q
def tNot (t : TT) : TT := fun σ H Q => t σ H fun c H1 => Q (!c) H1
theorem pw_and1 (ha : PT X a tA) : PW X (.BoolOp .And [a] pos) tA := by
  intro wh pins s σ H Q I h
  refine isTrue_and (thn (ha pins s σ H Q I h) fun c s1 e => ?_)
  cases c with
  | true => exact isTrue_and_nil e
  | false => exact e
theorem pw_or1 (ha : PT X a tA) : PW X (.BoolOp .Or [a] pos) tA := by
  intro wh pins s σ H Q I h
  refine isTrue_or (thn (ha pins s σ H Q I h) fun c s1 e => ?_)
  cases c with
  | false => exact isTrue_or_nil e
  | true => exact e
theorem pw_and (ha : PT X a tA) (hb : PW X (.BoolOp .And (b :: rest) pos) tB') : PW X (.BoolOp .And (a :: b :: rest) pos) (tAnd tA tB') := by
  intro wh pins s σ H Q I h
  refine isTrue_and (thn (ha pins s σ H _ I h) fun c s1 ⟨H1, I1, q1⟩ => ?_)
  cases c with
  | true => exact hb wh pins s1 σ H1 Q I1 q1
  | false => exact ⟨H1, I1, q1⟩
theorem pw_or (ha : PT X a tA) (hb : PW X (.BoolOp .Or (b :: rest) pos) tB') : PW X (.BoolOp .Or (a :: b :: rest) pos) (tOr tA tB') := by
  intro wh pins s σ H Q I h
  refine isTrue_or (thn (ha pins s σ H _ I h) fun c s1 ⟨H1, I1, q1⟩ => ?_)
  cases c with
  | true => exact ⟨H1, I1, q1⟩
  | false => exact hb wh pins s1 σ H1 Q I1 q1
theorem pt_not (ha : PT X a tA) : PT X (.UnaryOp .Not a pos) (tNot tA) := by
  intro pins s σ H Q I h
  exact isTrue_not (ha pins s σ H (fun c H1 => Q (!c) H1) I h)
/-- .. as values (bools) -/
def tAndV (ta tb : TE) : TE := fun σ H Q => ta σ H fun x H1 => ∃ c, x = .bl c ∧ if c = true then tb σ H1 Q else Q (.bl false) H1
def tNotV (ta : TE) : TE := fun σ H Q => ta σ H fun x H1 => ∃ c, x = .bl c ∧ Q (.bl (!c)) H1
theorem pe_one {op} {t : TE} (h : PE X a t) : PE X (.BoolOp op [a] pos) t := fun pins s σ H Q I hw => BoolOp_one (h pins s σ H Q I hw)
theorem pe_and (ha : PE X a ta) (hb : PE X (.BoolOp .And (b :: rest) pos) tb) : PE X (.BoolOp .And (a :: b :: rest) pos) (tAndV ta tb) := by
  intro pins s σ H Q I h
  refine BoolOp_and (thn (ha pins s σ H _ I h) fun v s1 ⟨x, H1, I1, r1, q1⟩ => ?_)
  obtain ⟨c, rfl, q1⟩ := q1
  cases r1
  refine wpAny_truthy_bool ?_
  cases c with
  | true => exact hb pins s1 σ H1 Q I1 q1
  | false => exact ⟨.bl false, H1, I1, rfl, q1⟩
theorem pe_not (ha : PE X a ta) : PE X (.UnaryOp .Not a pos) (tNotV ta) := by
  intro pins s σ H Q I h
  refine UnaryOp_ (thn (ha pins s σ H _ I h) fun v s1 ⟨x, H1, I1, r1, q1⟩ => ?_)
  obtain ⟨c, rfl, q1⟩ := q1
  cases r1
  exact not_of (wpAny_truthy_bool ⟨.bl (!c), H1, I1, rfl, q1⟩)
end
end L2

namespace L2
open PySem PySem.Spec PyProof.Rows

/-! ### a list, a tuple that is read: tracked, frozen, or an object of the module -/
def SqL (K : PySem.W.Frag) (H : Hp) (a : Addr) (xs : List V) : Prop :=
  Rd H a (.lst xs) ∨
    ∃ (o : Obj) (its : Array Value) (n : Nat), K.lookup a = some o ∧ o.cls = .type "list" ∧ o.dict = none ∧ o.data = .seq its n ∧ its.size ≤ sizeLine ∧ Vals xs its.toList
def SqT (K : PySem.W.Frag) (H : Hp) (a : Addr) (xs : List V) : Prop :=
  Rd H a (.tup xs) ∨
    ∃ (o : Obj) (its : Array Value) (n : Nat), K.lookup a = some o ∧ o.cls = .type "tuple" ∧ o.data = .seq its n ∧ its.size ≤ sizeLine ∧ Vals xs its.toList
def absV : Value → Option V
  | .none => some .non
  | .bool b => some (.bl b)
  | .int i _ => some (.int i)
  | .str x _ => some (.str x)
  | .bytes b _ => some (.byt b)
  | .float b _ => some (.flt b)
  | .ref a => some (.ref a)
  | .type n => some (.ty n)
  | _ => none
theorem RelV.abs {x : V} {u : Value} (r : RelV x u) : absV u = some x := by
  cases x with
  | non => cases r; rfl
  | bl _ => cases r; rfl
  | int _ => obtain ⟨t, rfl⟩ := r; rfl
  | str _ => obtain ⟨t, rfl⟩ := r; rfl
  | byt _ => obtain ⟨t, rfl⟩ := r; rfl
  | flt _ => obtain ⟨t, rfl⟩ := r; rfl
  | ref _ => cases r; rfl
  | ty _ => cases r; rfl
theorem RelV.inj {x y : V} {u : Value} (r : RelV x u) (q : RelV y u) : x = y := Option.some.inj (r.abs.symm.trans q.abs)
theorem Vals.inj : ∀ {xs ys : List V} {us : List Value}, Vals xs us → Vals ys us → xs = ys
  | _, _, _, .nil, .nil => rfl
  | _, _, _, .cons r t, .cons r' t' => by rw [r.inj r', Vals.inj t t']
section
variable {X : Cx} {pins : List (Addr × Obj)} {σ : St} {H : Hp} {s : Shared} {a : Addr} {xs ys : List V}
theorem SqL.of {K : PySem.W.Frag} (h : H a = some (.lst xs)) : SqL K H a xs := .inl (.inl h)
theorem SqT.of {K : PySem.W.Frag} (h : H a = some (.tup xs)) : SqT K H a xs := .inl (.inl h)
theorem Inv.list (I : Inv X pins σ H s) (h : SqL X.K H a xs) : ∃ its : List Value, Vals xs its ∧ PlainL s.heap a its.toArray ∧ xs.length ≤ sizeLine := by
  rcases h with h | ⟨o, its, n, hk, hc, hd, hs, hz, r⟩
  · obtain ⟨z, its, n, r, e⟩ := h.ok I.hok
    exact ⟨its, r, ⟨_, n, e, rfl, rfl, rfl⟩, z⟩
  · refine ⟨its.toList, r, ⟨o, n, I.kIn a o hk, hc, hd, by simpa using hs⟩, ?_⟩
    have e := r.length
    simp only [Array.length_toList] at e
    omega
theorem Inv.tuple (I : Inv X pins σ H s) (h : SqT X.K H a xs) : ∃ its : List Value, Vals xs its ∧ IsTup s.heap a its.toArray ∧ xs.length ≤ sizeLine := by
  rcases h with h | ⟨o, its, n, hk, hc, hs, hz, r⟩
  · obtain ⟨z, its, r, p⟩ := h.ok I.hok
    exact ⟨its, r, p, z⟩
  · refine ⟨its.toList, r, ⟨o, I.kIn a o hk, hc, n, by simpa using hs⟩, ?_⟩
    have e := r.length
    simp only [Array.length_toList] at e
    omega
theorem Inv.list_inj (I : Inv X pins σ H s) (h : SqL X.K H a xs) (h' : SqL X.K H a ys) : xs = ys := by
  obtain ⟨its, r, ⟨o, n, e, _, _, d⟩, _⟩ := I.list h
  obtain ⟨its', r', ⟨o', n', e', _, _, d'⟩, _⟩ := I.list h'
  rw [e] at e'; cases e'
  rw [d] at d'
  injection d' with d1 _
  have : its = its' := by simpa using congrArg Array.toList d1
  subst this
  exact r.inj r'
end

/-! ### another wish about exceptions -/
abbrev Cx.wish (X : Cx) (E : Value → Shared → Prop) : Cx := { X with xe := E }
/-- no exception leaves -/
abbrev Cx.nox (X : Cx) : Cx := X.wish fun _ _ => False
theorem Cx.Ok.wish {X : Cx} (ok : X.Ok) (E : Value → Shared → Prop) : (X.wish E).Ok :=
  ⟨ok.mod, ok.kind, ok.glob, ok.blt, ok.above, ok.inj, ok.has, ok.cab, ok.hd, ok.frames, ok.stk, ok.exf, ok.bs, ok.bsz, ok.noex, ok.exfs, ok.funs, ok.frf⟩
theorem Cx.Ok.unwish {X : Cx} {E : Value → Shared → Prop} (ok : (X.wish E).Ok) : X.Ok :=
  ⟨ok.mod, ok.kind, ok.glob, ok.blt, ok.above, ok.inj, ok.has, ok.cab, ok.hd, ok.frames, ok.stk, ok.exf, ok.bs, ok.bsz, ok.noex, ok.exfs, ok.funs, ok.frf⟩
section
variable {X : Cx} {pins : List (Addr × Obj)} {σ : St} {H : Hp} {s : Shared} {E : Value → Shared → Prop}
theorem Inv.wish (I : Inv X pins σ H s) (E : Value → Shared → Prop) : Inv (X.wish E) pins σ H s := ⟨I.ok.wish E, I.os, I.bare, I.base, I.loc, I.cell, I.free, I.freeC, I.pin, I.hok, I.len⟩
theorem Inv.unwish (I : Inv (X.wish E) pins σ H s) : Inv X pins σ H s := ⟨I.ok.unwish, I.os, I.bare, I.base, I.loc, I.cell, I.free, I.freeC, I.pin, I.hok, I.len⟩
theorem SP.unwish {D : Ends} {f : Flow} {s' : Shared} (h : SP (X.wish E) pins D f s') : SP X pins D f s' := by
  cases f with
  | next => obtain ⟨σ', H', I, q⟩ := h; exact ⟨σ', H', I.unwish, q⟩
  | brk => obtain ⟨σ', H', I, q⟩ := h; exact ⟨σ', H', I.unwish, q⟩
  | cont => obtain ⟨σ', H', I, q⟩ := h; exact ⟨σ', H', I.unwish, q⟩
  | ret u => obtain ⟨v, σ', H', I, r, q⟩ := h; exact ⟨v, σ', H', I.unwish, r, q⟩
theorem PSs.nox {st : List Stmt} {t : TS} (h : PSs X.nox st t) : PSs X st t := fun pins s σ H D I hw =>
  wpAny_mono (h pins s σ H D (I.wish _) hw) (fun _ _ q => q.unwish) fun _ _ z => False.elim z
end

/-! ### blocks and small statements -/
section
variable {X : Cx} {st : Stmt} {rest : List Stmt} {t u : TS} {e : Expr} {te : TE} {pos : Pos}
def tNext : TS := fun D σ H => D.nx σ H
def tSeq (t u : TS) : TS := fun D σ H => t { D with nx := u D } σ H
theorem pss_nil : PSs X [] tNext := fun _ _ σ H _ I h => wpAny_execs_nil ⟨σ, H, I, h⟩
theorem pss_cons (h1 : PS X st t) (h2 : PSs X rest u) : PSs X (st :: rest) (tSeq t u) := by
  intro pins s σ H D I h
  refine wpAny_execs_cons (thn (h1 pins s σ H { D with nx := u D } I h) fun f s1 q => ?_)
  cases f with
  | next =>
    obtain ⟨σ', H', I', q⟩ := q
    exact h2 pins s1 σ' H' D I' q
  | ret v => exact q
  | brk => exact q
  | cont => exact q
theorem pss_one (h1 : PS X st t) : PSs X [st] t := by
  intro pins s σ H D I h
  refine wpAny_execs_cons (thn (h1 pins s σ H D I h) fun f s1 q => ?_)
  cases f with
  | next => exact wpAny_execs_nil q
  | ret v => exact q
  | brk => exact q
  | cont => exact q
/-- in a def's body nothing is shown -/
theorem Inv.quiet {pins : List (Addr × Obj)} {σ : St} {H : Hp} {s : Shared} (I : Inv X pins σ H s) : interactive X.env = false := by simp [interactive, I.ok.kind]
/-- an expression whose value is dropped -/
def tDrop (te : TE) : TS := fun D σ H => te σ H fun _ H1 => D.nx σ H1
theorem ps_expr (he : PE X e te) (hs : swapsWith e none pos.line X.env = pure false := by rfl) : PS X (.Expr e pos) (tDrop te) := by
  intro pins s σ H D I h
  exact wpAny_Expr_any (thn (he pins s σ H _ I h) fun v s1 ⟨x, H1, I1, r1, q1⟩ => ⟨σ, H1, I1, q1⟩) I.quiet hs
def tRet (te : TE) : TS := fun D σ H => te σ H D.rt
theorem ps_ret (he : PE X e te) : PS X (.Return (some e) pos) (tRet te) := by
  intro pins s σ H D I h
  exact wpAny_Return_some (thn (he pins s σ H _ I h) fun v s1 ⟨x, H1, I1, r1, q1⟩ => ⟨x, σ, H1, I1, r1, q1⟩)
def tIfS (c : TT) (t u : TS) : TS := fun D σ H => c σ H fun b H1 => if b = true then t D σ H1 else u D σ H1
theorem ps_if {c : Expr} {a b : List Stmt} {tc : TT} (hc : PT X c tc) (ha : PSs X a t) (hb : PSs X b u) : PS X (.If c a b pos) (tIfS tc t u) := by
  intro pins s σ H D I h
  refine wpAny_If (thn (hc pins s σ H _ I h) fun d s1 ⟨H1, I1, q1⟩ => ?_)
  cases d with
  | true => exact ha pins s1 σ H1 D I1 q1
  | false => exact hb pins s1 σ H1 D I1 q1
/-- code that the proof never comes to -/
def tNever : TS := fun _ _ _ => False
theorem pss_never {sts : List Stmt} : PSs X sts tNever := fun _ _ _ _ _ _ h => h.elim
end

/-! ### targets -/
abbrev TG := V → St → Hp → (St → Hp → Prop) → Prop
abbrev TGs := List V → St → Hp → (St → Hp → Prop) → Prop
def PG (X : Cx) (target : Expr) (t : TG) : Prop :=
  ∀ (pins : List (Addr × Obj)) (s : Shared) (σ : St) (H : Hp) (v : V) (u : Value) (Q : St → Hp → Prop), Inv X pins σ H s → RelV v u → t v σ H Q →
    wpAny (model X.prog X.w) X.A (assign target X.env u) (fun _ s' => ∃ σ' H', Inv X pins σ' H' s' ∧ Q σ' H') X.xe s
/-- several targets, one after another -/
def PGs (X : Cx) (ts : List Expr) (t : TGs) : Prop :=
  ∀ (pins : List (Addr × Obj)) (s : Shared) (σ : St) (H : Hp) (vs : List V) (us : List Value) (Q : St → Hp → Prop), Inv X pins σ H s → Vals vs us → t vs σ H Q →
    wpAny (model X.prog X.w) X.A (assignInOrder ((assignEach ts X.env).map (·.2)) us) (fun _ s' => ∃ σ' H', Inv X pins σ' H' s' ∧ Q σ' H') X.xe s
section
variable {X : Cx} {pos : Pos}
def gName (i : Nat) : TG := fun v σ H Q => Q (σ.set i (some v)) H
theorem pg_name {i : Nat} {x : Str} (hN : X.N.Nodup) (hi : X.N[i]? = some x) (hx : Loc X.env.scope x) (hf : X.fn x = true ∨ X.env.scope.names.lookup x = some .local := by first | exact .inl rfl | exact .inr rfl | assumption) : PG X (.Name x pos) (gName i) := by
  intro pins s σ H v u Q I r h
  exact wpAny_assign_Name (store_ok I hN hi hx r (fun s' I' => ⟨_, H, I', h⟩) hf)
def gNil : TGs := fun vs σ H Q => vs = [] ∧ Q σ H
def gCons (t : TG) (u : TGs) : TGs := fun vs σ H Q => ∃ v r, vs = v :: r ∧ t v σ H fun σ' H' => u r σ' H' Q
theorem pgs_nil : PGs X [] gNil := by
  intro pins s σ H vs us Q I r h
  obtain ⟨e, h⟩ := h
  subst e
  cases r
  exact assignInOrder_nil ⟨σ, H, I, h⟩
theorem pgs_cons {e : Expr} {es : List Expr} {t : TG} {u : TGs} (h1 : PG X e t) (h2 : PGs X es u)
    (hs : (assignEach (e :: es) X.env).map (·.2) = assign e X.env :: (assignEach es X.env).map (·.2) := by rfl) : PGs X (e :: es) (gCons t u) := by
  intro pins s σ H vs us Q I r h
  obtain ⟨v, vr, e1, h⟩ := h
  subst e1
  cases r with
  | cons r rr =>
    rw [hs]
    refine assignInOrder_cons (thn (h1 pins s σ H _ _ _ I r h) fun _ s1 ⟨σ1, H1, I1, q1⟩ => ?_)
    exact h2 pins s1 σ1 H1 _ _ Q I1 rr q1
/-- (a, b, ..) = a tuple of that length -/
def gTup (K : PySem.W.Frag) (n : Nat) (t : TGs) : TG := fun v σ H Q => ∃ a xs, v = .ref a ∧ SqT K H a xs ∧ xs.length = n ∧ t xs σ H Q
theorem pg_tup {es : List Expr} {k : Nat} {t : TGs} {n : Nat} (hc : X.calm = true) (h : PGs X es t)
    (hn : (assignEach es X.env).length = n := by rfl) (hst : (assignEach es X.env).findIdx? (·.1) = none := by rfl) : PG X (.Tuple es k pos) (gTup X.K n t) := by
  intro pins s σ H v u Q I r hw
  obtain ⟨a, xs, e1, hq, hl, hw⟩ := hw
  subst e1
  cases r
  obtain ⟨its, rv, ht, hz⟩ := I.tuple hq
  refine assign_Tuple_tuple (I.ok.hd hc) ht (by simp [hn, ← hl, rv.length]) hst fun h' hx => ?_
  have I1 : Inv X pins σ H { s with heap := h' } := I.kept (t' := s.toks) fun b o e => hx b o (Nat.ne_of_lt (Heap.lt_size e)) e
  exact h pins _ σ H xs _ Q I1 (by simpa using rv) hw
/-- target = value -/
def tAsg (te : TE) (g : TG) : TS := fun D σ H => te σ H fun x H1 => g x σ H1 D.nx
theorem ps_asg {tg e : Expr} {te : TE} {g : TG} (he : PE X e te) (hg : PG X tg g) (hs : swapsWithSole [tg] e pos.line X.env = pure false := by rfl) (hw : swappedStores [tg] e X.env = pure none := by rfl)
    (h1 : (assignEach [tg] X.env).map (·.2) = [assign tg X.env] := by rfl) : PS X (.Assign [tg] e pos) (tAsg te g) := by
  intro pins s σ H D I h
  refine wpAny_Assign_stores (thn (he pins s σ H _ I h) fun v s1 ⟨x, H1, I1, r1, q1⟩ => ?_) hs hw
  rw [h1]
  exact thn (hg pins s1 σ H1 x v _ I1 r1 q1) fun _ s2 q => q
/-- name = value -/
theorem ps_set {i : Nat} {x : Str} {e : Expr} {te : TE} {pos' : Pos} (hN : X.N.Nodup) (hi : X.N[i]? = some x) (hx : Loc X.env.scope x) (he : PE X e te) (hs : swapsWith e (some (.Name x pos')) pos.line X.env = pure false := by rfl) (hf : X.fn x = true ∨ X.env.scope.names.lookup x = some .local := by first | exact .inl rfl | exact .inr rfl | assumption) :
    PS X (.Assign [.Name x pos'] e pos) (tAsg te (gName i)) := by
  intro pins s σ H D I h
  refine wpAny_Assign_Name (thn (he pins s σ H _ I h) fun v s1 ⟨y, H1, I1, r1, q1⟩ => ?_) hs
  exact store_ok I1 hN hi hx r1 (fun s2 I2 => ⟨_, H1, I2, q1⟩) hf
end

/-! ### while -/
section
variable {X : Cx} {pos : Pos}
/-- the invariant W with its measure -/
def tWhile (c : TT) (tb : TS) : TS := fun D σ H => ∃ W : Nat → St → Hp → Prop, (∃ m, W m σ H) ∧ ∀ m σ H, W m σ H →
  c σ H fun b H1 => if b = true then ∃ N : St → Hp → Prop, (∀ σ' H', N σ' H' → ∃ m', m' < m ∧ W m' σ' H') ∧ tb { D with nx := N, ct := N, bk := D.nx } σ H1 else D.nx σ H1
theorem ps_while {c : Expr} {body : List Stmt} {tc : TT} {tb : TS} (hp : PassesOwn (model X.prog X.w) X.A X.env X.xe) (hc : PT X c tc) (hb : PSs X body tb) : PS X (.While c body [] pos) (tWhile tc tb) := by
  intro pins s σ H D I h
  obtain ⟨W, ⟨m0, w0⟩, turn⟩ := h
  refine wpAny_While (codeAny_whileLoop (fun n s' => ∃ σ' H', Inv X pins σ' H' s' ∧ W n σ' H') ?_ m0 ⟨σ, H, I, w0⟩)
  rintro n s1 ⟨σ1, H1, I1, w1⟩
  refine wpAny_passesOwn hp (thn (hc pins s1 σ1 H1 _ I1 (turn n σ1 H1 w1)) fun b s2 ⟨H2, I2, q2⟩ => ?_)
  cases b with
  | true =>
    obtain ⟨N, hN, q2⟩ := q2
    rw [if_pos rfl]
    refine wpAny_passesOwn hp (thn (hb pins s2 σ1 H2 _ I2 q2) fun f s3 q3 => ?_)
    cases f with
    | next =>
      obtain ⟨σ3, H3, I3, n3⟩ := q3
      obtain ⟨m', hm, w3⟩ := hN σ3 H3 n3
      exact ⟨m', hm, σ3, H3, I3, w3⟩
    | cont =>
      obtain ⟨σ3, H3, I3, n3⟩ := q3
      obtain ⟨m', hm, w3⟩ := hN σ3 H3 n3
      exact ⟨m', hm, σ3, H3, I3, w3⟩
    | brk => exact q3
    | ret v => exact q3
  | false =>
    rw [if_neg Bool.false_ne_true]
    exact wpAny_execs_nil ⟨σ1, H2, I2, q2⟩
end

/-! ### what a loop or a comprehension walks -/
/-- at turn i: it yields x (the heap may grow), or it stops -/
structure It where
  go : Nat → Hp → Prop
  yld : Nat → Hp → V → Hp → Prop
  stop : Nat → Hp → Prop
/-- the iterator's own objects may turn: they are not the frame's, not pinned, younger than the entry (or a comprehension's own) -/
def FpOk (X : Cx) (pins : List (Addr × Obj)) (H : Hp) (b : Addr) : Prop :=
  H b = none ∧ b ≠ X.env.locals ∧ b ∉ X.fs ∧ (b ∈ X.ex ∨ X.s₀.heap.objs.size ≤ b) ∧ (∀ x c, X.env.cells.lookup x = some c → c ≠ b) ∧ ∀ p ∈ X.pn ++ pins, p.1 ≠ b
theorem Inv.fpOk {X : Cx} {pins : List (Addr × Obj)} {σ : St} {H H' : Hp} {s : Shared} {b : Addr} (I : Inv X pins σ H s) (hb : s.heap.objs.size ≤ b) (hn : H' b = none) : FpOk X pins H' b := by
  refine ⟨hn, Nat.ne_of_gt (Nat.lt_of_lt_of_le I.lt hb), I.nofs hb, .inr (Nat.le_trans I.sz hb), fun x c e z => ?_, fun p hp z => ?_⟩
  · obtain ⟨v, q⟩ := I.cell x c e
    exact absurd (Nat.lt_of_lt_of_le q.lt (by rw [z]; exact hb)) (Nat.lt_irrefl _)
  · exact absurd (Nat.lt_of_lt_of_le (Heap.lt_size (I.pin p hp).1) (by rw [z]; exact hb)) (Nat.lt_irrefl _)
structure Turn (P : Program) (w : World) (K : PySem.W.Frag) (tg : Expr) (J : It) (fp : List Addr) (it : Addr) (tn : Nat → Heap → Prop) : Prop where
  mem : it ∈ fp
  obj : ∀ i h, tn i h → ∀ b ∈ fp, ∃ o, h.get? b = some o ∧ ∀ v, o.data ≠ .cell v
  keep : ∀ i h h', tn i h → (∀ b ∈ fp, ∀ o, h.get? b = some o → h'.get? b = some o) → tn i h'
  item : ∀ (X : Cx), X.prog = P → X.w = w → X.K = K → X.calm = true → ∀ (i : Nat) (pins : List (Addr × Obj)) (s : Shared) (σ : St) (H : Hp) (E : Value → Shared → Prop), Inv X pins σ H s → (∀ b ∈ fp, FpOk X pins H b) → tn i s.heap → J.go i H →
    wpAny (model P w) X.A (pyNext (.ref it)) (fun r s1 => ∃ u, r = some u ∧
      wpAny (model P w) X.A (letOwnedTupleGo tg (.ref it) u) (fun _ s2 => ∃ x H', Inv X pins σ H' s2 ∧ RelV x u ∧ J.yld i H x H' ∧ tn (i + 1) s2.heap ∧ ∀ b ∈ fp, H' b = none) E s1) E s
  done : ∀ (X : Cx), X.prog = P → X.w = w → X.K = K → X.calm = true → ∀ (i : Nat) (pins : List (Addr × Obj)) (s : Shared) (σ : St) (H : Hp) (E : Value → Shared → Prop), Inv X pins σ H s → (∀ b ∈ fp, FpOk X pins H b) → tn i s.heap → J.stop i H →
    wpAny (model P w) X.A (pyNext (.ref it)) (fun r s1 => r = none ∧ Inv X pins σ H s1) E s
  self : ∀ (A : Around) (i : Nat) (s : Shared) (Q : Value → Shared → Prop) (E : Value → Shared → Prop), tn i s.heap → Q (.ref it) s → wpAny (model P w) A (pyIter (.ref it)) Q E s
abbrev TI := St → Hp → (It → Hp → Prop) → Prop
/-- an iterator has come -/
def PIE (X : Cx) (pins : List (Addr × Obj)) (σ : St) (tg : Expr) (R : It → Hp → Prop) (itv : Value) (s2 : Shared) : Prop :=
  ∃ (it : Addr) (fp : List Addr) (tn : Nat → Heap → Prop) (J : It) (H' : Hp), itv = .ref it ∧ Inv X pins σ H' s2 ∧ Turn X.prog X.w X.K tg J fp it tn ∧ tn 0 s2.heap ∧ (∀ b ∈ fp, FpOk X pins H' b) ∧ R J H'
def PI (X : Cx) (tg iter : Expr) (wi : TI) : Prop :=
  ∀ (pins : List (Addr × Obj)) (s : Shared) (σ : St) (H : Hp) (R : It → Hp → Prop), Inv X pins σ H s → wi σ H R →
    wpAny (model X.prog X.w) X.A (eval iter X.env) (fun v s1 => wpAny (model X.prog X.w) X.A (pyIter v) (PIE X pins σ tg R) X.xe s1) X.xe s

/-- the step ahead of the store is nothing for an iterator that keeps no tuple -/
theorem go_of {M : Model} {A : Around} {E : Value → Shared → Prop} {s : Shared} {tg : Expr} {it : Addr} {u : Value} {o : Obj} {n : String} {vs : Array Value} {Q : Unit → Shared → Prop} (ho : s.heap.get? it = some o) (hc : o.cls = .type n) (hd : o.data = .fields vs)
    (hn : ["enumerate", "zip", "dict_itemiterator", "dict_reverseitemiterator", "odict_iterator", "itertools.zip_longest", "itertools.pairwise"].contains n = false) (hQ : Q () s) : wpAny M A (letOwnedTupleGo tg (.ref it) u) Q E s := by
  unfold letOwnedTupleGo
  cases tg <;> first
    | exact wpAny_pure hQ
    | (cases u <;> first
        | exact wpAny_pure hQ
        | (refine wpAny_bind (wpAny_load ho ?_)
           rw [hc, hd]
           show wpAny M A (if (["enumerate", "zip", "dict_itemiterator", "dict_reverseitemiterator", "odict_iterator", "itertools.zip_longest", "itertools.pairwise"].contains n && vs[0]? == some (rawInt _)) = true then _ else _) Q E s
           rw [if_neg (by intro h; rw [hn, Bool.false_and] at h; cases h)]
           exact wpAny_pure hQ))

/-- the list at a, as it stands at each turn (a loop may append to it) -/
def Itl (K : PySem.W.Frag) (a : Addr) : It :=
  ⟨fun i H => ∃ xs x, SqL K H a xs ∧ xs[i]? = some x, fun i H x H' => H' = H ∧ ∀ xs, SqL K H a xs → xs[i]? = some x, fun i H => ∃ xs, SqL K H a xs ∧ xs.length ≤ i⟩
/-- lo, lo + 1, .. (n of them) -/
def Itr (lo : Int) (n : Nat) : It := ⟨fun i _ => i < n, fun i H x H' => H' = H ∧ x = .int (lo + i), fun i _ => n ≤ i⟩
theorem turn_list {P : Program} {w : World} {K : PySem.W.Frag} {tg : Expr} (a it : Addr) : Turn P w K tg (Itl K a) [it] it (fun i h => h.IsListIter it a i) where
  mem := by simp
  obj := fun i h st b hb => by
    have e : b = it := by simpa using hb
    subst e
    obtain ⟨o, e, c, d⟩ := st
    exact ⟨o, e, fun v z => by rw [d] at z; cases z⟩
  keep := fun i h h' st k => st.at fun o e => k it (by simp) o e
  item := by
    intro X hP hw hK hc i pins s σ H E I hf st hg
    subst hP hw hK
    obtain ⟨xs, x, hq, hx⟩ := hg
    obtain ⟨its, rv, p, hz⟩ := I.list hq
    obtain ⟨u, hu, ru⟩ := rv.get hx
    obtain ⟨f0, f1, f2, f3, f4, f5⟩ := hf it (by simp)
    refine wpAny_pyNext_list_item st p.isList (x := u) (by simpa using hu) fun h' st' sb => ?_
    have I1 : Inv X pins σ H { s with heap := h' } := I.turned (t' := s.toks) (fun b o hb e => (sb.2 b hb).trans e) f0 f1 f3 f4 f5
    obtain ⟨o, e, c, d⟩ := id st'
    exact ⟨u, rfl, go_of (s := { s with heap := h' }) e c d (by decide) ⟨x, H, I1, ru, ⟨rfl, fun ys hy => by rw [I.list_inj hy hq]; exact hx⟩, st', fun b hb => (hf b hb).1⟩⟩
  done := by
    intro X hP hw hK hc i pins s σ H E I hf st hg
    subst hP hw hK
    obtain ⟨xs, hq, hx⟩ := hg
    obtain ⟨its, rv, p, hz⟩ := I.list hq
    obtain ⟨f0, f1, f2, f3, f4, f5⟩ := hf it (by simp)
    have hl := rv.length
    exact wpAny_pyNext_list_end (I.ok.hd hc) st p.isList (by simp; omega) fun h' eb => ⟨rfl, I.turned (t' := s.toks) (fun b o hb e => eb b o hb e) f0 f1 f3 f4 f5⟩
  self := fun _ _ _ _ _ st h => wpAny_pyIter_listiter st h
theorem turn_range {P : Program} {w : World} {K : PySem.W.Frag} {tg : Expr} (it : Addr) (lo : Int) (n : Nat) : Turn P w K tg (Itr lo n) [it] it (fun i h => IsRangeIter h it (lo + (i : Nat) * 1) ((n : Int) - (i : Nat)) 1) where
  mem := by simp
  obj := fun i h st b hb => by
    have e : b = it := by simpa using hb
    subst e
    exact ⟨_, st, fun v z => by
      have z' : Data.fields _ = Data.cell v := z
      cases z'⟩
  keep := fun i h h' st k => k it (by simp) _ st
  item := by
    intro X hP hw hK hc i pins s σ H E I hf st hg
    subst hP hw hK
    obtain ⟨f0, f1, f2, f3, f4, f5⟩ := hf it (by simp)
    have W := Walks.range (prog := X.prog) (w := X.w) (I.ok.hd hc) it lo 1 n
    refine W.item i s _ _ hg st fun v h' tk hv st' kk => ?_
    obtain ⟨t, rfl⟩ := hv
    have I1 : Inv X pins σ H { s with heap := h', toks := tk } := I.turned (fun b o hb e => kk b o (by simpa using hb) e) f0 f1 f3 f4 f5
    refine ⟨_, rfl, go_of (s := { s with heap := h', toks := tk }) (n := "range_iterator") st' rfl rfl (by decide) ⟨.int (lo + i), H, I1, ⟨t, ?_⟩, ⟨rfl, rfl⟩, st', fun b hb => (hf b hb).1⟩⟩
    rw [Int.mul_one]
  done := by
    intro X hP hw hK hc i pins s σ H E I hf st hg
    subst hP hw hK
    obtain ⟨f0, f1, f2, f3, f4, f5⟩ := hf it (by simp)
    exact wpAny_pyNext_range_end (I.ok.hd hc) st (by have : n ≤ i := hg; omega) fun h' eb => ⟨rfl, I.turned (t' := s.toks) (fun b o hb e => eb b o hb e) f0 f1 f3 f4 f5⟩
  self := fun _ _ _ _ _ st h => wpAny_pyIter_rangeiter st h
end L2

namespace L2
open PySem PySem.Spec PyProof.Rows
section
variable {X : Cx} {tg : Expr}
def iList (K : PySem.W.Frag) (tl : TE) : TI := fun σ H R => tl σ H fun x H1 => ∃ a, x = .ref a ∧ (∃ xs, SqL K H1 a xs) ∧ R (Itl K a) H1
theorem pi_list {l : Expr} {tl : TE} (hl : PE X l tl) : PI X tg l (iList X.K tl) := by
  intro pins s σ H R I h
  refine thn (hl pins s σ H _ I h) fun v s1 ⟨x, H1, I1, r1, q1⟩ => ?_
  obtain ⟨a, e, ⟨xs, hq⟩, q⟩ := q1
  subst e
  cases r1
  obtain ⟨its, rv, p, hz⟩ := I1.list hq
  refine wpAny_pyIter_list p.isList ?_
  refine ⟨s1.heap.objs.size, [s1.heap.objs.size], _, _, H1, rfl, I1.kept (t' := s1.toks) fun b o e => Heap.get?_push_of_some _ e, turn_list a _, ⟨_, Heap.get?_push_size _ rfl, rfl, rfl⟩, fun b hb => ?_, q⟩
  have e : b = s1.heap.objs.size := by simpa using hb
  subst e
  exact I1.fpOk (Nat.le_refl _) (I1.hok.fresh (Nat.le_refl _))
/-- a range object just made, walked -/
theorem range_it {pins : List (Addr × Obj)} {σ : St} {H : Hp} {s : Shared} {R : It → Hp → Prop} {E : Value → Shared → Prop} {lo hi : Int} {t u v : Tok} {tk : Nat} (I : Inv X pins σ H s) (h1 : -(2 ^ 62) ≤ lo) (h2 : lo < 2 ^ 62) (h3 : -(2 ^ 62) ≤ hi) (h4 : hi < 2 ^ 62)
    (q : R (Itr lo (hi - lo).toNat) H) : wpAny (model X.prog X.w) X.A (pyIter (.ref s.heap.objs.size)) (PIE X pins σ tg R) E { s with heap := s.heap.push { cls := .type "range", data := .fields #[.int lo t, .int hi u, .int 1 v] }, toks := tk } := by
  refine wpAny_pyIter_range (IsRange.new ..) (small_one h1 h2 h3 h4) ?_
  have I1 : Inv X pins σ H { s with heap := s.heap.push { cls := .type "range", data := .fields #[.int lo t, .int hi u, .int 1 v] }, toks := tk } := I.kept fun b o e => Heap.get?_push_of_some _ e
  refine ⟨(s.heap.push { cls := .type "range", data := .fields #[.int lo t, .int hi u, .int 1 v] }).objs.size, [(s.heap.push { cls := .type "range", data := .fields #[.int lo t, .int hi u, .int 1 v] }).objs.size], _, _, H, rfl,
    I1.kept (t' := tk) fun b o e => Heap.get?_push_of_some _ e, turn_range _ lo (hi - lo).toNat, ?_, fun b hb => ?_, q⟩
  · have e1 : lo + ((0 : Nat) : Int) * 1 = lo := by simp
    have e2 : (((hi - lo).toNat : Nat) : Int) - ((0 : Nat) : Int) = Builtin.Range.rangeSize lo hi 1 := by rw [rangeSize_one]; split <;> omega
    show IsRangeIter _ _ (lo + ((0 : Nat) : Int) * 1) ((((hi - lo).toNat : Nat) : Int) - ((0 : Nat) : Int)) 1
    rw [e1, e2]
    exact Heap.get?_push_size _ rfl
  · have e : b = (s.heap.push { cls := .type "range", data := .fields #[.int lo t, .int hi u, .int 1 v] }).objs.size := by simpa using hb
    subst e
    exact I1.fpOk (Nat.le_refl _) (I1.hok.fresh (Nat.le_refl _))
def iRng1 (ta : TA) : TI := fun σ H R => ta σ H fun vs H1 => ∃ j : Int, vs = [.int j] ∧ -(2 ^ 62) ≤ j ∧ j < 2 ^ 62 ∧ R (Itr 0 j.toNat) H1
theorem pi_range1 {a : Expr} {ta : TA} {p pos : Pos} (hg : Gl X "range") (hm : X.mg "range" = none) (ha : PA X [a] ta) (hs : starEach [a] X.env = [(false, eval a X.env)] := by rfl) : PI X tg (.Call (.Name "range" p) [a] [] pos) (iRng1 ta) := by
  intro pins s σ H R I h
  refine Call_ (ld_blt I hg hm boot_range (PyProof.Rows.callWith_type1 (thn (ha pos pins s σ H _ I h) fun us s1 ⟨vs, H1, I1, r1, q1⟩ => ?_) hs rfl))
  obtain ⟨j, e, q1, q2, q⟩ := q1
  subst e
  cases r1 with
  | cons r rr =>
    cases rr
    obtain ⟨t, rfl⟩ := r
    exact call_range_1 (range_it I1 (by omega) (by omega) q1 q2 (by simpa using q))
/-! ### for -/
/-- W: the invariant by the turn and a measure; N: what the body is to reach -/
def tFor (wi : TI) (g : TG) (tb : TS) : TS := fun D σ H => wi σ H fun J H1 => ∃ W : Nat → Nat → St → Hp → Prop, (∃ m, W 0 m σ H1) ∧ ∀ i m σ H, W i m σ H →
  (J.stop i H ∧ D.nx σ H) ∨ (J.go i H ∧ ∃ N : St → Hp → Prop, (∀ σ' H', N σ' H' → ∃ m', m' < m ∧ W (i + 1) m' σ' H') ∧ ∀ x H', J.yld i H x H' → g x σ H' fun σ2 H2 => tb { D with nx := N, ct := N, bk := D.nx } σ2 H2)
/-- the records at fp as they stand -/
def pinsAt (fp : List Addr) (h : Heap) : List (Addr × Obj) := fp.filterMap fun b => (h.get? b).map fun o => (b, o)
theorem mem_pinsAt {fp : List Addr} {h : Heap} {b : Addr} {o : Obj} (hb : b ∈ fp) (e : h.get? b = some o) : (b, o) ∈ pinsAt fp h := List.mem_filterMap.mpr ⟨b, hb, by rw [e]; rfl⟩
theorem of_pinsAt {fp : List Addr} {h : Heap} {p : Addr × Obj} (hp : p ∈ pinsAt fp h) : p.1 ∈ fp ∧ h.get? p.1 = some p.2 := by
  obtain ⟨b, hb, e⟩ := List.mem_filterMap.mp hp
  cases q : h.get? b with
  | none => rw [q] at e; cases e
  | some o =>
    rw [q] at e
    have e' : (b, o) = p := Option.some.inj e
    subst e'
    exact ⟨hb, q⟩
theorem Inv.pinned {pins : List (Addr × Obj)} {σ : St} {H : Hp} {s : Shared} {fp : List Addr} (I : Inv X pins σ H s) (hf : ∀ b ∈ fp, FpOk X pins H b) (ho : ∀ b ∈ fp, ∃ o, s.heap.get? b = some o ∧ ∀ v, o.data ≠ .cell v) : Inv X (pins ++ pinsAt fp s.heap) σ H s :=
  I.pins_of fun p hp => (List.mem_append.mp hp).elim (fun z => I.pin p (List.mem_append_right _ z)) fun z => by
    obtain ⟨hb, e⟩ := of_pinsAt z
    obtain ⟨f0, f1, f2, _⟩ := hf p.1 hb
    obtain ⟨o, e', d⟩ := ho p.1 hb
    rw [e] at e'; cases e'
    exact ⟨e, f0, f1, f2, d⟩
theorem Inv.unpinned {pins pl : List (Addr × Obj)} {σ : St} {H : Hp} {s : Shared} (I : Inv X (pins ++ pl) σ H s) : Inv X pins σ H s := I.pins_of fun p hp => I.pin p (List.mem_append_right _ (List.mem_append_left _ hp))
theorem ps_for {iter : Expr} {body : List Stmt} {wi : TI} {g : TG} {tb : TS} {pos : Pos} (hp : PassesOwn (model X.prog X.w) X.A X.env X.xe) (hc : X.calm = true) (hi : PI X tg iter wi) (hg : PG X tg g) (hb : PSs X body tb)
    (hs : ∀ x, foldedSetIterable iter X.env x = pure x := by intro _; rfl) : PS X (.For tg iter body [] pos) (tFor wi g tb) := by
  intro pins s σ H D I h
  refine wpAny_For (thn (hi pins s σ H _ I h) fun v s1 h1 => thn h1 fun itv s2 h2 => ?_) hs
  obtain ⟨it, fp, tn, J, H2, e, I2, T, st2, f2, W, ⟨m0, w0⟩, turn⟩ := h2
  subst e
  -- what stays true of the iterator's objects through the loop
  have stat : ∀ {H' : Hp}, (∀ b ∈ fp, H' b = none) → ∀ b ∈ fp, FpOk X pins H' b := fun hn b hb => ⟨hn b hb, (f2 b hb).2⟩
  refine codeAny_forLoop_any (fun n s' => ∃ i σ' H', Inv X pins σ' H' s' ∧ tn i s'.heap ∧ (∀ b ∈ fp, H' b = none) ∧ W i n σ' H') ?_ m0 ⟨0, σ, H2, I2, st2, fun b hb => (f2 b hb).1, w0⟩
  rintro n s3 ⟨i, σ3, H3, I3, st3, fr3, w3⟩
  rcases turn i n σ3 H3 w3 with ⟨stop, qn⟩ | ⟨go, N, hN, step⟩
  · refine wpAny_passesOwn hp (thn (T.done X rfl rfl rfl hc i pins s3 σ3 H3 X.xe I3 (stat fr3) st3 stop) fun r s4 ⟨hr, I4⟩ => ?_)
    subst hr
    exact wpAny_execs_nil ⟨σ3, H3, I4, qn⟩
  · refine wpAny_passesOwn hp (thn (T.item X rfl rfl rfl hc i pins s3 σ3 H3 X.xe I3 (stat fr3) st3 go) fun r s4 ⟨u, hr, h4⟩ => ?_)
    subst hr
    refine wpAny_passesOwn hp (thn h4 fun _ s5 ⟨x, H5, I5, r5, y5, st5, fr5⟩ => ?_)
    have I5' := I5.pinned (stat fr5) (T.obj _ _ st5)
    refine wpAny_passesOwn hp (thn (hg _ s5 σ3 H5 x u _ I5' r5 (step x H5 y5)) fun _ s6 ⟨σ6, H6, I6, q6⟩ => ?_)
    refine wpAny_passesOwn hp (thn (hb _ s6 σ6 H6 _ I6 q6) fun f s7 q7 => ?_)
    have again : ∀ {σ7 : St} {H7 : Hp}, Inv X (pins ++ pinsAt fp s5.heap) σ7 H7 s7 → N σ7 H7 → ∃ m, m < n ∧ ∃ i σ' H', Inv X pins σ' H' s7 ∧ tn i s7.heap ∧ (∀ b ∈ fp, H' b = none) ∧ W i m σ' H' := fun {σ7 H7} I7 n7 => by
      obtain ⟨m', hm, w7⟩ := hN σ7 H7 n7
      refine ⟨m', hm, i + 1, σ7, H7, I7.unpinned, T.keep _ _ _ st5 fun b hb o e => (I7.pin (b, o) (List.mem_append_right _ (List.mem_append_right _ (mem_pinsAt hb e)))).1, fun b hb => ?_, w7⟩
      obtain ⟨o, e, d⟩ := T.obj _ _ st5 b hb
      exact (I7.pin (b, o) (List.mem_append_right _ (List.mem_append_right _ (mem_pinsAt hb e)))).2.1
    cases f with
    | next => obtain ⟨σ7, H7, I7, n7⟩ := q7; exact again I7 n7
    | cont => obtain ⟨σ7, H7, I7, n7⟩ := q7; exact again I7 n7
    | brk => obtain ⟨σ7, H7, I7, q7⟩ := q7; exact ⟨σ7, H7, I7.unpinned, q7⟩
    | ret v => obtain ⟨x7, σ7, H7, I7, r7, q7⟩ := q7; exact ⟨x7, σ7, H7, I7.unpinned, r7, q7⟩
end

/-! ### the forms one uses -/
/-- over a list that the body leaves as it is -/
theorem for_list {K : PySem.W.Frag} {a : Addr} {xs : List V} {g : TG} {tb : TS} {D : Ends} {σ : St} {H : Hp} (Pv : Nat → St → Hp → Prop) (h0 : Pv 0 σ H) (hl : ∀ i σ H, i ≤ xs.length → Pv i σ H → SqL K H a xs)
    (hs : ∀ i x σ H, xs[i]? = some x → Pv i σ H → g x σ H fun σ2 H2 => tb { D with nx := Pv (i + 1), ct := Pv (i + 1), bk := D.nx } σ2 H2) (hd : ∀ σ H, Pv xs.length σ H → D.nx σ H) :
    ∃ W : Nat → Nat → St → Hp → Prop, (∃ m, W 0 m σ H) ∧ ∀ i m σ H, W i m σ H →
      ((Itl K a).stop i H ∧ D.nx σ H) ∨ ((Itl K a).go i H ∧ ∃ N : St → Hp → Prop, (∀ σ' H', N σ' H' → ∃ m', m' < m ∧ W (i + 1) m' σ' H') ∧ ∀ x H', (Itl K a).yld i H x H' → g x σ H' fun σ2 H2 => tb { D with nx := N, ct := N, bk := D.nx } σ2 H2) := by
  refine ⟨fun i m σ H => m = xs.length - i ∧ i ≤ xs.length ∧ Pv i σ H, ⟨xs.length, by simp, Nat.zero_le _, h0⟩, ?_⟩
  rintro i m σ H ⟨rfl, hi, p⟩
  have q := hl i σ H hi p
  by_cases hlt : i < xs.length
  · refine .inr ⟨⟨xs, xs[i], q, by simp [hlt]⟩, Pv (i + 1), fun σ' H' p' => ⟨xs.length - (i + 1), by omega, rfl, hlt, p'⟩, fun x H' y => ?_⟩
    obtain ⟨e, y⟩ := y
    subst e
    exact hs i x σ _ (y xs q) p
  · have e : i = xs.length := by omega
    subst e
    exact .inl ⟨⟨xs, q, Nat.le_refl _⟩, hd σ H p⟩
theorem for_range {lo : Int} {n : Nat} {g : TG} {tb : TS} {D : Ends} {σ : St} {H : Hp} (Pv : Nat → St → Hp → Prop) (h0 : Pv 0 σ H)
    (hs : ∀ i σ H, i < n → Pv i σ H → g (.int (lo + i)) σ H fun σ2 H2 => tb { D with nx := Pv (i + 1), ct := Pv (i + 1), bk := D.nx } σ2 H2) (hd : ∀ σ H, Pv n σ H → D.nx σ H) :
    ∃ W : Nat → Nat → St → Hp → Prop, (∃ m, W 0 m σ H) ∧ ∀ i m σ H, W i m σ H →
      ((Itr lo n).stop i H ∧ D.nx σ H) ∨ ((Itr lo n).go i H ∧ ∃ N : St → Hp → Prop, (∀ σ' H', N σ' H' → ∃ m', m' < m ∧ W (i + 1) m' σ' H') ∧ ∀ x H', (Itr lo n).yld i H x H' → g x σ H' fun σ2 H2 => tb { D with nx := N, ct := N, bk := D.nx } σ2 H2) := by
  refine ⟨fun i m σ H => m = n - i ∧ i ≤ n ∧ Pv i σ H, ⟨n, by simp, Nat.zero_le _, h0⟩, ?_⟩
  rintro i m σ H ⟨rfl, hi, p⟩
  by_cases hlt : i < n
  · refine .inr ⟨hlt, Pv (i + 1), fun σ' H' p' => ⟨n - (i + 1), by omega, rfl, hlt, p'⟩, fun x H' y => ?_⟩
    obtain ⟨e, y⟩ := y
    subst e y
    exact hs i σ _ hlt p
  · have e : i = n := by omega
    subst e
    exact .inl ⟨Nat.le_refl _, hd σ H p⟩
end L2

namespace L2
open PySem PySem.Spec PyProof.Rows

abbrev R2 := V → V → Hp → VK → Prop
/-- a two-place operation on values: f is binaryOp op, inplaceOp op or compareOp op -/
def OpR (X : Cx) (f : Value → Value → Sem Value) (r : R2) : Prop :=
  ∀ (pins : List (Addr × Obj)) (s : Shared) (σ : St) (H : Hp) (x y : V) (v u : Value) (Q : VK), Inv X pins σ H s → RelV x v → RelV y u → r x y H Q →
    wpAny (model X.prog X.w) X.A (f v u) (EP X pins σ Q) X.xe s
/-- a one-place operation -/
def UnR (X : Cx) (f : Value → Sem Value) (r : V → Hp → VK → Prop) : Prop :=
  ∀ (pins : List (Addr × Obj)) (s : Shared) (σ : St) (H : Hp) (x : V) (v : Value) (Q : VK), Inv X pins σ H s → RelV x v → r x H Q →
    wpAny (model X.prog X.w) X.A (f v) (EP X pins σ Q) X.xe s
/-- a call of a value that is known (a builtin, a type) with values -/
def CallR (X : Cx) (f : Value) (r : List V → Hp → VK → Prop) : Prop :=
  ∀ (pins : List (Addr × Obj)) (s : Shared) (σ : St) (H : Hp) (xs : List V) (us : List Value) (Q : VK), Inv X pins σ H s → Vals xs us → r xs H Q →
    wpAny (model X.prog X.w) X.A (call f us) (EP X pins σ Q) X.xe s
def tOp (r : R2) (ta tb : TE) : TE := fun σ H Q => ta σ H fun x H1 => tb σ H1 fun y H2 => r x y H2 Q
def tUn (r : V → Hp → VK → Prop) (ta : TE) : TE := fun σ H Q => ta σ H fun x H1 => r x H1 Q
/-- ints in, under C, and a value out -/
def rI (C : Int → Int → Prop) (g : Int → Int → V) : R2 := fun x y H Q => ∃ i j, x = .int i ∧ y = .int j ∧ C i j ∧ Q (g i j) H
def rI0 (g : Int → Int → V) : R2 := fun x y H Q => ∃ i j, x = .int i ∧ y = .int j ∧ Q (g i j) H
def rU (g : Int → V) : V → Hp → VK → Prop := fun x H Q => ∃ i, x = .int i ∧ Q (g i) H

section
variable {X : Cx} {a b c : Expr} {ta tb tc : TE} {pos : Pos}

theorem binT (ha : PE X a ta) (hb : PE X b tb) {pins : List (Addr × Obj)} {s : Shared} {σ : St} {H : Hp} {R : V → V → Hp → Prop} (I : Inv X pins σ H s)
    (h : ta σ H fun x H1 => tb σ H1 fun y H2 => R x y H2) {Q : Value → Shared → Prop} {f : Value → Value → Sem Value}
    (hf : ∀ v u s2 x y H2, Inv X pins σ H2 s2 → RelV x v → RelV y u → R x y H2 → wpAny (model X.prog X.w) X.A (f v u) Q X.xe s2) :
    wpAny (model X.prog X.w) X.A (eval a X.env) (fun v s₁ => wpAny (model X.prog X.w) X.A (eval b X.env) (fun u s₂ => wpAny (model X.prog X.w) X.A (f v u) Q X.xe s₂) X.xe s₁) X.xe s := by
  refine thn (ha pins s σ H _ I h) fun v s1 ⟨x, H1, I1, r1, q1⟩ => ?_
  refine thn (hb pins s1 σ H1 _ I1 q1) fun u s2 ⟨y, H2, I2, r2, q2⟩ => ?_
  exact hf v u s2 x y H2 I2 r1 r2 q2

theorem pe_op {op : Operator} {r : R2} (ho : OpR X (binaryOp op) r) (ha : PE X a ta) (hb : PE X b tb) : PE X (.BinOp a op b pos) (tOp r ta tb) := by
  intro pins s σ H Q I h
  exact wpAny_BinOp (binT ha hb I h fun v u s2 x y H2 I2 rx ry q => ho pins s2 σ H2 x y v u Q I2 rx ry q)
theorem pe_un {op : UnaryOp} {r : V → Hp → VK → Prop} (ho : UnR X (unaryOp op) r) (ha : PE X a ta) : PE X (.UnaryOp op a pos) (tUn r ta) := by
  intro pins s σ H Q I h
  exact UnaryOp_ (thn (ha pins s σ H _ I h) fun v s1 ⟨x, H1, I1, r1, q1⟩ => ho pins s1 σ H1 x v Q I1 r1 q1)
/-! ### ints -/
theorem opI {f : Value → Value → Sem Value} {C : Int → Int → Prop} {g : Int → Int → Int}
    (rule : ∀ (i j : Int) (t u : Tok) (s : Shared) (Q : Value → Shared → Prop) (E : Value → Shared → Prop), C i j → Q (.int (g i j) s.toks) { s with toks := s.toks + 1 } → wpAny (model X.prog X.w) X.A (f (.int i t) (.int j u)) Q E s) :
    OpR X f (rI C fun i j => .int (g i j)) := by
  intro pins s σ H x y v u Q I rx ry h
  obtain ⟨i, j, rfl, rfl, hc, q⟩ := h
  obtain ⟨t, rfl⟩ := rx
  obtain ⟨t', rfl⟩ := ry
  exact rule i j t t' s _ _ hc ⟨.int (g i j), H, I.tok _, ⟨_, rfl⟩, q⟩
theorem opI0 {f : Value → Value → Sem Value} {g : Int → Int → Int}
    (rule : ∀ (i j : Int) (t u : Tok) (s : Shared) (Q : Value → Shared → Prop) (E : Value → Shared → Prop), Q (.int (g i j) s.toks) { s with toks := s.toks + 1 } → wpAny (model X.prog X.w) X.A (f (.int i t) (.int j u)) Q E s) :
    OpR X f (rI0 fun i j => .int (g i j)) := by
  intro pins s σ H x y v u Q I rx ry h
  obtain ⟨i, j, rfl, rfl, q⟩ := h
  obtain ⟨t, rfl⟩ := rx
  obtain ⟨t', rfl⟩ := ry
  exact rule i j t t' s _ _ ⟨.int (g i j), H, I.tok _, ⟨_, rfl⟩, q⟩
theorem opB0 {f : Value → Value → Sem Value} {g : Int → Int → Bool}
    (rule : ∀ (i j : Int) (t u : Tok) (s : Shared) (Q : Value → Shared → Prop) (E : Value → Shared → Prop), Q (.bool (g i j)) s → wpAny (model X.prog X.w) X.A (f (.int i t) (.int j u)) Q E s) :
    OpR X f (rI0 fun i j => .bl (g i j)) := by
  intro pins s σ H x y v u Q I rx ry h
  obtain ⟨i, j, rfl, rfl, q⟩ := h
  obtain ⟨t, rfl⟩ := rx
  obtain ⟨t', rfl⟩ := ry
  exact rule i j t t' s _ _ ⟨.bl (g i j), H, I, rfl, q⟩

def CDiv (i j : Int) : Prop := 0 < j ∧ j < 1073741824
def CPow (i j : Int) : Prop := 0 ≤ j ∧ j ≤ 1000000 ∧ i.natAbs < 2 ^ 64
def CMul (i j : Int) : Prop := (-(2 ^ 64) < i ∧ i < 2 ^ 64) ∨ (-(2 ^ 64) < j ∧ j < 2 ^ 64)
theorem CMul.ok {i j : Int} (h : CMul i j) : IntMulOk i j := by
  rcases h with ⟨h1, h2⟩ | ⟨h1, h2⟩
  · exact .of_left (intBits_le_64 h1 h2)
  · exact .of_right (intBits_le_64 h1 h2)
theorem op_add : OpR X (binaryOp .Add) (rI0 fun i j => .int (i + j)) := opI0 fun _ _ _ _ _ _ _ q => add_int q
theorem op_sub : OpR X (binaryOp .Sub) (rI0 fun i j => .int (i - j)) := opI0 fun _ _ _ _ _ _ _ q => sub_int q
theorem op_mul : OpR X (binaryOp .Mult) (rI CMul fun i j => .int (i * j)) := opI fun _ _ _ _ _ _ _ hc q => mul_int q hc.ok
/-- // by a positive divisor -/
theorem op_fdiv : OpR X (binaryOp .FloorDiv) (rI CDiv fun i j => .int (i / j)) := opI fun i j _ _ _ _ _ hc q => by
  have h1 : (0 : Int) < j := hc.1
  have h2 : j < 1073741824 := hc.2
  exact floordiv_int (by omega) (by rw [Int.fdiv_eq_ediv_of_nonneg i (by omega)]; exact q) (.inl (PyProof.noPylong_small (by omega)))
/-- % by a positive divisor of any size -/
theorem op_mod : OpR X (binaryOp .Mod) (rI (fun _ j => 0 < j) fun i j => .int (i % j)) := opI fun i j _ _ _ _ _ hc q => by
  have h1 : (0 : Int) < j := hc
  exact mod_int' (by omega) (by rw [Int.fmod_eq_emod_of_nonneg i (by omega)]; exact q)
theorem op_pow : OpR X (binaryOp .Pow) (rI CPow fun i j => .int (i ^ j.toNat)) := opI fun _ _ _ _ _ _ _ hc q => pow_int_small hc.1 hc.2.1 hc.2.2 q
theorem unI {f : Value → Sem Value} {g : Int → Int}
    (rule : ∀ (i : Int) (t : Tok) (s : Shared) (Q : Value → Shared → Prop) (E : Value → Shared → Prop), Q (.int (g i) s.toks) { s with toks := s.toks + 1 } → wpAny (model X.prog X.w) X.A (f (.int i t)) Q E s) :
    UnR X f (rU fun i => .int (g i)) := by
  intro pins s σ H x v Q I rx h
  obtain ⟨i, rfl, q⟩ := h
  obtain ⟨t, rfl⟩ := rx
  exact rule i t s _ _ ⟨.int (g i), H, I.tok _, ⟨_, rfl⟩, q⟩
theorem un_neg : UnR X (unaryOp .USub) (rU fun i => .int (-i)) := unI fun _ _ _ _ _ q => neg_int q
/-! ### bools among ints: n += (a < b) -/
end

/-! ### comparisons -/
/-- the scalars that == tells apart as data does -/
def scal : V → V → Bool
  | .non, .non => true | .non, .int _ => true | .int _, .non => true | .non, .bl _ => true | .bl _, .non => true | .non, .str _ => true | .str _, .non => true
  | .int _, .int _ => true | .bl _, .bl _ => true | .str _, .str _ => true | .byt _, .byt _ => true
  | .int _, .str _ => true | .str _, .int _ => true | .bl _, .str _ => true | .str _, .bl _ => true
  | _, _ => false
def rEq : R2 := fun x y H Q => scal x y = true ∧ Q (.bl (decide (x = y))) H
def rNe : R2 := fun x y H Q => scal x y = true ∧ Q (.bl (!decide (x = y))) H

theorem dec_int {i j : Int} : decide (V.int i = V.int j) = (i == j) := by
  rw [Bool.eq_iff_iff]
  simp
theorem dec_bl {i j : Bool} : decide (V.bl i = V.bl j) = (i == j) := by
  rw [Bool.eq_iff_iff]
  simp
theorem dec_str {i j : Str} : decide (V.str i = V.str j) = (i == j) := by
  rw [Bool.eq_iff_iff]
  simp
theorem dec_byt {i j : Array UInt8} : decide (V.byt i = V.byt j) = (i.toList == j.toList) := by
  rw [Bool.eq_iff_iff]
  cases i
  cases j
  simp

section
variable {X : Cx} {a b c : Expr} {ta tb tc : TE} {pos : Pos}
theorem fin_bl {pins : List (Addr × Obj)} {σ : St} {H : Hp} {s : Shared} {Q : VK} {k k' : Bool} (I : Inv X pins σ H s) (q : Q (.bl k) H) (e : k = k') : EP X pins σ Q (.bool k') s := by
  subst e
  exact ⟨.bl k, H, I, rfl, q⟩
theorem op_eq : OpR X (compareOp .Eq) rEq := by
  intro pins s σ H x y v u Q I rx ry h
  obtain ⟨hs, q⟩ := h
  cases x with
  | non =>
    cases rx
    cases y with
    | non => cases ry; exact PySem.EqNone.eq_none_none (fin_bl I q (by simp))
    | bl j => cases ry; exact PySem.EqNone.eq_none_bool (fin_bl I q (by simp))
    | int j => obtain ⟨t', rfl⟩ := ry; exact PySem.EqNone.eq_none_int (fin_bl I q (by simp))
    | str j => obtain ⟨t', rfl⟩ := ry; exact PySem.EqNone.eq_none_str (fin_bl I q (by simp))
    | _ => exact absurd (show false = true from hs) Bool.false_ne_true
  | bl i =>
    cases rx
    cases y with
    | non => cases ry; exact PySem.EqNone.eq_bool_none (fin_bl I q (by simp))
    | bl j => cases ry; exact eq_bool (fin_bl I q dec_bl)
    | str j => obtain ⟨t', rfl⟩ := ry; exact PySem.EqMixed.eq_bool_str (fin_bl I q (by simp))
    | _ => exact absurd (show false = true from hs) Bool.false_ne_true
  | int i =>
    obtain ⟨t, rfl⟩ := rx
    cases y with
    | non => cases ry; exact PySem.EqNone.eq_int_none (fin_bl I q (by simp))
    | int j => obtain ⟨t', rfl⟩ := ry; exact eq_int (fin_bl I q dec_int)
    | str j => obtain ⟨t', rfl⟩ := ry; exact PySem.EqMixed.eq_int_str (fin_bl I q (by simp))
    | _ => exact absurd (show false = true from hs) Bool.false_ne_true
  | str i =>
    obtain ⟨t, rfl⟩ := rx
    cases y with
    | non => cases ry; exact PySem.EqNone.eq_str_none (fin_bl I q (by simp))
    | bl j => cases ry; exact PySem.EqMixed.eq_str_bool (fin_bl I q (by simp))
    | int j => obtain ⟨t', rfl⟩ := ry; exact PySem.EqMixed.eq_str_int (fin_bl I q (by simp))
    | str j => obtain ⟨t', rfl⟩ := ry; exact eq_str (fin_bl I q dec_str)
    | _ => exact absurd (show false = true from hs) Bool.false_ne_true
  | byt i =>
    obtain ⟨t, rfl⟩ := rx
    cases y with
    | byt j => obtain ⟨t', rfl⟩ := ry; exact PySem.W.eq_bytes (fin_bl I q dec_byt)
    | _ => exact absurd (show false = true from hs) Bool.false_ne_true
  | _ => cases y <;> exact absurd (show false = true from hs) Bool.false_ne_true
theorem op_ne : OpR X (compareOp .NotEq) rNe := by
  intro pins s σ H x y v u Q I rx ry h
  obtain ⟨hs, q⟩ := h
  cases x with
  | non =>
    cases rx
    cases y with
    | non => cases ry; exact PySem.EqNone.ne_none_none (fin_bl I q (by simp))
    | bl j => cases ry; exact PySem.EqNone.ne_none_bool (fin_bl I q (by simp))
    | int j => obtain ⟨t', rfl⟩ := ry; exact PySem.EqNone.ne_none_int (fin_bl I q (by simp))
    | str j => obtain ⟨t', rfl⟩ := ry; exact PySem.EqNone.ne_none_str (fin_bl I q (by simp))
    | _ => exact absurd (show false = true from hs) Bool.false_ne_true
  | bl i =>
    cases rx
    cases y with
    | non => cases ry; exact PySem.EqNone.ne_bool_none (fin_bl I q (by simp))
    | bl j => cases ry; exact ne_bool (fin_bl I q (congrArg not dec_bl))
    | str j => obtain ⟨t', rfl⟩ := ry; exact PySem.EqMixed.ne_bool_str (fin_bl I q (by simp))
    | _ => exact absurd (show false = true from hs) Bool.false_ne_true
  | int i =>
    obtain ⟨t, rfl⟩ := rx
    cases y with
    | non => cases ry; exact PySem.EqNone.ne_int_none (fin_bl I q (by simp))
    | int j => obtain ⟨t', rfl⟩ := ry; exact ne_int (fin_bl I q (congrArg not dec_int))
    | str j => obtain ⟨t', rfl⟩ := ry; exact PySem.EqMixed.ne_int_str (fin_bl I q (by simp))
    | _ => exact absurd (show false = true from hs) Bool.false_ne_true
  | str i =>
    obtain ⟨t, rfl⟩ := rx
    cases y with
    | non => cases ry; exact PySem.EqNone.ne_str_none (fin_bl I q (by simp))
    | bl j => cases ry; exact PySem.EqMixed.ne_str_bool (fin_bl I q (by simp))
    | int j => obtain ⟨t', rfl⟩ := ry; exact PySem.EqMixed.ne_str_int (fin_bl I q (by simp))
    | str j => obtain ⟨t', rfl⟩ := ry; exact ne_str (fin_bl I q (congrArg not dec_str))
    | _ => exact absurd (show false = true from hs) Bool.false_ne_true
  | byt i =>
    obtain ⟨t, rfl⟩ := rx
    cases y with
    | byt j => obtain ⟨t', rfl⟩ := ry; exact PySem.W.ne_bytes (fin_bl I q (congrArg not dec_byt))
    | _ => exact absurd (show false = true from hs) Bool.false_ne_true
  | _ => cases y <;> exact absurd (show false = true from hs) Bool.false_ne_true

theorem op_lt : OpR X (compareOp .Lt) (rI0 fun i j => .bl (decide (i < j))) := opB0 fun _ _ _ _ _ _ _ q => lt_int q
theorem op_gt : OpR X (compareOp .Gt) (rI0 fun i j => .bl (decide (j < i))) := opB0 fun _ _ _ _ _ _ _ q => gt_int q
theorem op_ge : OpR X (compareOp .GtE) (rI0 fun i j => .bl (decide (j ≤ i))) := opB0 fun _ _ _ _ _ _ _ q => ge_int q
/-- the one string within the other -/
theorem op_in_str : OpR X (compareOp .In) (fun x y H Q => ∃ i j, x = .str i ∧ y = .str j ∧ Q (.bl (!(Builtin.Str.occurrences j i 0 j.length 1).isEmpty)) H) := by
  intro pins s σ H x y v u Q I rx ry h
  obtain ⟨i, j, rfl, rfl, q⟩ := h
  obtain ⟨t, rfl⟩ := rx
  obtain ⟨t', rfl⟩ := ry
  exact in_str (fin_bl I q rfl)

/-- is None, is not None: the right side a value none -/
theorem op_isN : OpR X (compareOp .Is) (fun x y H Q => y = .non ∧ Q (.bl (decide (x = .non))) H) := by
  intro pins s σ H x y v u Q I rx ry h
  obtain ⟨rfl, q⟩ := h
  cases ry
  refine is_none_gen (fin_bl I q ?_)
  cases x <;> first
    | (cases rx; rfl)
    | (obtain ⟨t, rfl⟩ := rx; rfl)
theorem nomark (b : Expr) {op : CmpOp} (h : op ≠ .In := by decide) (h2 : op ≠ .NotIn := by decide) : behindInMarks op b = false := by
  have e1 : (op == CmpOp.In) = false := by cases op <;> first | rfl | exact absurd rfl h
  have e2 : (op == CmpOp.NotIn) = false := by cases op <;> first | rfl | exact absurd rfl h2
  cases b <;> simp [behindInMarks, e1, e2]
/-- a comparison as a value; hm: nomark b, or (for in, not in) by with_unfolding_all rfl -/
theorem pe_cmpR {op : CmpOp} {r : R2} (ho : OpR X (compareOp op) r) (ha : PE X a ta) (hb : PE X b tb) (hm : behindInMarks op b = false) : PE X (.Compare a [op] [b] pos) (tOp r ta tb) := by
  intro pins s σ H Q I h
  exact wpAny_Compare1 (binT ha hb I h fun v u s2 x y H2 I2 rx ry q => ho pins s2 σ H2 x y v u Q I2 rx ry q) hm
/-- a reading of a value as a test -/
def tTest (t : TE) : TT := fun σ H Q => t σ H fun x H' => ∃ k, x = .bl k ∧ Q k H'
theorem pt_cmpR {op : CmpOp} {r : R2} (ho : OpR X (compareOp op) r) (ha : PE X a ta) (hb : PE X b tb) (hm : behindInMarks op b = false) : PT X (.Compare a [op] [b] pos) (tTest (tOp r ta tb)) := by
  intro pins s σ H Q I h
  refine wpAny_isTrue_Compare1 (thn (ha pins s σ H _ I h) fun v s1 ⟨x, H1, I1, r1, q1⟩ => thn (hb pins s1 σ H1 _ I1 q1) fun u s2 ⟨y, H2, I2, r2, q2⟩ =>
    thn (ho pins s2 σ H2 x y v u _ I2 r1 r2 q2) fun c s3 ⟨z, H3, I3, r3, k, e, q3⟩ => ?_) hm
  subst e
  cases r3
  exact wpAny_truthy_bool ⟨H3, I3, q3⟩
/-! ### truth -/
theorem line63 : (sizeLine : Nat) < 2 ^ 63 := by rw [sizeLine_eq]; decide
/-! ### strs and bytes -/
theorem op_add_str : OpR X (binaryOp .Add) (fun x y H Q => ∃ i j, x = .str i ∧ y = .str j ∧ i.length + j.length ≤ sizeLine ∧ Q (.str (i ++ j)) H) := by
  intro pins s σ H x y v u Q I rx ry h
  obtain ⟨i, j, rfl, rfl, hz, q⟩ := h
  obtain ⟨t, rfl⟩ := rx
  obtain ⟨t', rfl⟩ := ry
  exact add_str (fun t' tk => ⟨.str (i ++ j), H, I.tok _, ⟨_, rfl⟩, q⟩) hz
/-! ### scalar builtins, by CallR -/
theorem vals1 {x : V} {us : List Value} (r : Vals [x] us) : ∃ u, us = [u] ∧ RelV x u := by
  cases r with
  | cons r1 r2 => cases r2; exact ⟨_, rfl, r1⟩
theorem vals2 {x y : V} {us : List Value} (r : Vals [x, y] us) : ∃ u w', us = [u, w'] ∧ RelV x u ∧ RelV y w' := by
  cases r with
  | cons r1 r2 =>
    cases r2 with
    | cons r3 r4 => cases r4; exact ⟨_, _, rfl, r1, r3⟩
theorem call_abs : CallR X (.builtin "abs") (fun xs H Q => ∃ i, xs = [.int i] ∧ Q (.int (if i < 0 then -i else i)) H) := by
  intro pins s σ H xs us Q I r h
  obtain ⟨i, rfl, q⟩ := h
  obtain ⟨u, rfl, t, rfl⟩ := vals1 r
  exact call_abs_int fun u tk => ⟨.int (if i < 0 then -i else i), H, I.tok _, ⟨_, rfl⟩, q⟩
theorem call_int1 : CallR X (.type "int") (fun xs H Q => (∃ i, xs = [.int i] ∧ Q (.int i) H) ∨ ∃ k, xs = [.bl k] ∧ Q (.int (if k then 1 else 0)) H) := by
  intro pins s σ H xs us Q I r h
  rcases h with ⟨i, rfl, q⟩ | ⟨k, rfl, q⟩
  · obtain ⟨u, rfl, t, rfl⟩ := vals1 r
    exact call_int_int ⟨.int i, H, I, ⟨_, rfl⟩, q⟩
  · obtain ⟨u, rfl, r1⟩ := vals1 r
    cases r1
    exact call_int_bool ⟨.int (if k then 1 else 0), H, I.tok _, ⟨_, rfl⟩, q⟩
end
end L2

namespace L2
open PySem PySem.Spec PyProof.Rows

/-! ### an instance, its attributes a map -/
structure ObjM (h : Heap) (x dx C : Addr) (mA : Str → Option Value) : Prop where
  obj : h.get? x = some (PySem.W.instObj C dx)
  ns : h.Ns1 dx mA
  ne : dx ≠ x

theorem lookIn_ns {h : Heap} {dx : Addr} {mA : Str → Option Value} (n : h.Ns1 dx mA) : ∃ od, h.get? dx = some od ∧ ∀ name, PySem.W.lookIn name od = some (mA name) := by
  obtain ⟨o, es, ep, ho, hd, hk, _, hm⟩ := n
  refine ⟨o, ho, fun name => ?_⟩
  have e := hm name
  unfold nsFind findBy at e
  rw [← Array.find?_toList] at e
  unfold PySem.W.lookIn
  rw [hd]
  dsimp only
  split
  · rename_i y q
    rw [q] at e
    exact congrArg some e
  · rename_i q
    rw [q] at e
    have a : es.toList.any (·.refKey) = false := by
      rw [List.any_eq_false]
      intro y hy
      obtain ⟨z, t, hkey⟩ := hk y (Array.mem_toList_iff.mp hy)
      simp [DictEntry.refKey, hkey]
    have a' : ¬ es.toList.any (·.refKey) = true := by rw [a]; exact Bool.false_ne_true
    rw [if_neg a']
    exact congrArg some e

theorem ObjM.look {h : Heap} {x dx C : Addr} {mA : Str → Option Value} (I : ObjM h x dx C mA) : ∃ od, PySem.W.InstAt h x (PySem.W.instObj C dx) C (some od) ∧ ∀ name, PySem.W.lookIn name od = some (mA name) :=
  let ⟨od, ho, hl⟩ := lookIn_ns I.ns
  ⟨od, ⟨I.obj, rfl, rfl, ho⟩, hl⟩

section
variable {prog : Program} {w : World} {A : Around} {E : Value → Shared → Prop} {s : Shared} {K : PySem.W.Frag} {x dx C f : Addr} {mA : Str → Option Value} {name : Str} {v : Value}

end

/-! ### the attributes as a list of pairs -/
section
variable {P : Program} {w : World} {H H' : Hp} {h h' : Heap} {a C dx : Addr} {fs fs' : List (Str × V)}
theorem ins_get (hok : HOk P w H h) (e : H a = some (.ins C dx fs)) : ∃ mA, ObjM h a dx C mA ∧ (∀ f, RelO (fs.lookup f) (mA f)) ∧ PySem.Within mA (fs.map (·.1)) ∧ fs.length ≤ 1000 ∧ H dx = some (.own a) := by
  obtain ⟨d, z, ne, ob, mA, n, r, q⟩ := (show ObjOk P w H h a (.ins C dx fs) from hok a _ e)
  exact ⟨mA, ⟨ob, n, ne⟩, r, q, z, d⟩
end

/-! ### what of the text a class must have -/
structure Cls (K : PySem.W.Frag) (C : Addr) : Prop where
  pg : PySem.W.plainGet K C Str.empty = true
  hd : PySem.W.hasDictIn K C = true
  po : PySem.W.plainOver K C = true
  sa : PySem.W.findIn K (.ref C) "__setattr__" = some (some (.builtin "object.__setattr__"))
theorem Cls.get {K : PySem.W.Frag} {C : Addr} (c : Cls K C) (f : Str) : PySem.W.plainGet K C f = true := c.pg
section
variable {X : Cx} {pins : List (Addr × Obj)} {σ : St} {H : Hp} {s : Shared} {a C dx : Addr} {fs : List (Str × V)} {f : Str} {v : V} {A : Around} {E : Value → Shared → Prop}

end

/-! ### readings and rules -/
section
variable {X : Cx} {o e value : Expr} {f : Str} {pos pos' tpos : Pos} {ta tv : TE}
end

/-! ### isinstance -/
section
variable {X : Cx} {pins : List (Addr × Obj)} {σ : St} {H : Hp} {s : Shared} {A : Around} {E : Value → Shared → Prop} {Q : Value → Shared → Prop} {c : Value} {b : Bool}
/-- the type of a value, as the fragment's deciders take it; for an instance its class -/
inductive TyOf (K : PySem.W.Frag) (H : Hp) : V → Value → Prop where
  | non : TyOf K H .non (.type "NoneType")
  | bl (x : Bool) : TyOf K H (.bl x) (.type "bool")
  | int (i : Int) : TyOf K H (.int i) (.type "int")
  | str (x : Str) : TyOf K H (.str x) (.type "str")
  | flt (x : UInt64) : TyOf K H (.flt x) (.type "float")
  | lst {a : Addr} {xs : List V} (e : H a = some (.lst xs)) : TyOf K H (.ref a) (.type "list")
  | frz {a : Addr} {o : Obj} {xs : List V} (e : H a = some (.frz o (.lst xs))) : TyOf K H (.ref a) (.type "list")
  | tup {a : Addr} {xs : List V} (e : H a = some (.tup xs)) : TyOf K H (.ref a) (.type "tuple")
  | dK {a : Addr} {kvs : List (Key × V)} (e : H a = some (.dK kvs)) : TyOf K H (.ref a) (.type "dict")
  | dT {a : Addr} {kvs : List (List Key × V)} (e : H a = some (.dT kvs)) : TyOf K H (.ref a) (.type "dict")
  | ins {a C dx : Addr} {fs : List (Str × V)} (e : H a = some (.ins C dx fs)) (cl : Cls K C) (ha : PySem.W.findIn K (.ref C) "__class__" = some (some (.builtin "object.__class__")))
      (hn : PySem.W.specialIn K (.builtin "object.__class__") "__get__" = some (some (.builtin "getset_descriptor.__get__"))) (htk : PySem.W.takesIn K (.builtin "object.__class__") = some true)
      (hm : PySem.W.mroIn K C (.type "object") = some true) : TyOf K H (.ref a) (.ref C)
/-- isinstance(x, c) for one class c, a built-in or an own one: kitOne's answer -/
theorem isinst_ok {x : V} {u t : Value} (I : Inv X pins σ H s) (rx : RelV x u) (ty : TyOf X.K H x t) (e : PySem.W.kitOne X.K t c = some b) (h : ∀ tk, Q (.bool b) { s with toks := tk }) :
    wpAny (model X.prog X.w) A (call (.builtin "isinstance") [u, c]) Q E s := by
  cases ty with
  | non => cases (show u = Value.none from rx); exact PySem.W.kia_one PySem.W.kitx_none I.kIn True.intro e (fun z => nomatch z) h
  | bl y => cases (show u = Value.bool y from rx); exact PySem.W.kia_one PySem.W.kitx_bool I.kIn True.intro e (fun z => nomatch z) h
  | int i => obtain ⟨t, q⟩ := (show ∃ t, u = Value.int i t from rx); cases q; exact PySem.W.kia_one PySem.W.kitx_int I.kIn True.intro e (fun z => nomatch z) h
  | str y => obtain ⟨t, q⟩ := (show ∃ t, u = Value.str y t from rx); cases q; exact PySem.W.kia_one PySem.W.kitx_str I.kIn True.intro e (fun z => nomatch z) h
  | flt y => obtain ⟨t, q⟩ := (show ∃ t, u = Value.float y t from rx); cases q; exact PySem.W.kia_one PySem.W.kitx_float I.kIn True.intro e (fun z => nomatch z) h
  | @lst a xs ea =>
    cases (show u = Value.ref a from rx)
    obtain ⟨_, _, n, _, h1⟩ := (show ObjOk X.prog X.w H s.heap a (.lst xs) from I.hok a _ ea)
    exact PySem.W.kia_one PySem.W.kitx_list I.kIn ⟨_, h1, rfl⟩ e (fun z => nomatch z) h
  | @frz a ob xs ea =>
    cases (show u = Value.ref a from rx)
    obtain ⟨_, _, _, n, _, h1⟩ := (show ObjOk X.prog X.w H s.heap a (.frz ob (.lst xs)) from I.hok a _ ea)
    exact PySem.W.kia_one PySem.W.kitx_list I.kIn ⟨_, h1, rfl⟩ e (fun z => nomatch z) h
  | @tup a xs ea =>
    cases (show u = Value.ref a from rx)
    obtain ⟨_, _, _, p⟩ := (show ObjOk X.prog X.w H s.heap a (.tup xs) from I.hok a _ ea)
    obtain ⟨o, h1, h2, _⟩ := p
    exact PySem.W.kia_one PySem.W.kitx_tuple I.kIn ⟨o, h1, h2⟩ e (fun z => nomatch z) h
  | @dK a kvs ea =>
    cases (show u = Value.ref a from rx)
    obtain ⟨_, _, vs, _, p⟩ := (show ObjOk X.prog X.w H s.heap a (.dK kvs) from I.hok a _ ea)
    obtain ⟨o, es, ep, h1, h2, _⟩ := p
    exact PySem.W.kia_one PySem.W.kitx_dict I.kIn ⟨o, h1, h2.1⟩ e (fun z => nomatch z) h
  | @dT a kvs ea =>
    cases (show u = Value.ref a from rx)
    obtain ⟨_, _, xs, _, o, es, ep, h1, h2, _⟩ := (show ObjOk X.prog X.w H s.heap a (.dT kvs) from I.hok a _ ea)
    exact PySem.W.kia_one PySem.W.kitx_dict I.kIn ⟨o, h1, h2.1⟩ e (fun z => nomatch z) h
  | @ins a C dx fs ea cl ha hn htk hm =>
    cases (show u = Value.ref a from rx)
    obtain ⟨mA, O, _⟩ := ins_get I.hok ea
    obtain ⟨od, J, _⟩ := O.look
    exact PySem.W.kia_one (PySem.W.kitx_own (cl.get _) cl.hd ha hn htk hm) I.kIn J e (fun z => nomatch z) h
end
end L2

namespace L2
open PySem PySem.Spec PyProof.Rows

/-! ### room -/
structure Room (k : Nat) (A : Around) : Prop where
  hd : A.handled = none
  dp : A.depth + 3 * k + 5 < recursionLimit
  un : A.units + 16 * k + 200 < cLine
theorem Room.mono {j k : Nat} {A : Around} (r : Room k A) (h : j ≤ k) : Room j A := ⟨r.hd, by have := r.dp; omega, by have := r.un; omega⟩
theorem Room.deeper {k : Nat} {A : Around} (r : Room (k + 1) A) (env : Env) : Room k (A.deeper env) :=
  ⟨r.hd, by have := r.dp; show A.depth + 1 + 3 * k + 5 < _; omega, by have := r.un; show A.units + 3 + 16 * k + 200 < _; omega⟩
theorem Room.depth {k : Nat} {A : Around} (r : Room k A) : A.depth < recursionLimit := by have := r.dp; omega
theorem Room.units {k : Nat} {A : Around} (r : Room k A) : A.units + 64 < cLine := by have := r.un; omega
/-! ### argument lists and displays -/
def tNil : TA := fun _ H Q => Q [] H
def tCons (ta : TE) (tr : TA) : TA := fun σ H Q => ta σ H fun x H1 => tr σ H1 fun xs H2 => Q (x :: xs) H2
section
variable {X : Cx} {e : Expr} {es : List Expr} {te : TE} {t : TA} {pos : Pos}
theorem pa_nil : PA X [] tNil := fun _ _ _ _ H Q I h => Calls.spliced_nil ⟨[], H, I, .nil, h⟩
theorem pa_cons (ha : PE X e te) (hr : PA X es t) (hs : starEach (e :: es) X.env = (false, eval e X.env) :: starEach es X.env := by rfl) : PA X (e :: es) (tCons te t) := by
  intro pos pins s σ H Q I h
  rw [hs]
  show wpAny _ _ (spliced ((false, eval e X.env) :: backTo pos (starEach es X.env))) _ _ s
  refine Calls.spliced_cons (thn (ha pins s σ H _ I h) fun u s1 ⟨x, H1, I1, r1, q1⟩ => ?_)
  exact thn (hr pos pins s1 σ H1 _ I1 q1) fun us s2 ⟨xs, H2, I2, r2, q2⟩ => ⟨x :: xs, H2, I2, .cons r1 r2, q2⟩

/-- a tuple, a list of written items -/
def tTup (t : TA) : TE := fun σ H Q => t σ H fun xs H1 => xs.length ≤ sizeLine ∧ ∀ p, H1 p = none → Q (.ref p) (upd H1 p (.tup xs))
def tLst (t : TA) : TE := fun σ H Q => t σ H fun xs H1 => xs.length ≤ sizeLine ∧ ∀ p, H1 p = none → Q (.ref p) (upd H1 p (.lst xs))
theorem pe_tup {x1} (h : PA X es t) : PE X (.Tuple es x1 pos) (tTup t) := by
  intro pins s σ H Q I hq
  refine wpAny_Tuple_spliced (thn (h pos pins s σ H _ I hq) fun us s1 ⟨xs, H1, I1, r, z, q⟩ => ⟨by rw [← r.length]; exact z, ?_⟩)
  have hf : H1 s1.heap.objs.size = none := I1.hok.fresh (Nat.le_refl _)
  refine ⟨.ref s1.heap.objs.size, upd H1 s1.heap.objs.size (.tup xs), I1.laid (t' := s1.toks) (fun b u e => Heap.get?_push_of_some _ e) (Nat.le_refl _) ?_, rfl, q _ hf⟩
  exact ⟨z, us, r, ⟨_, Heap.get?_push_size _ rfl, rfl, _, rfl⟩⟩
theorem pe_lst (h : PA X es t) : PE X (.List es pos) (tLst t) := by
  intro pins s σ H Q I hq
  refine wpAny_List_spliced (thn (h pos pins s σ H _ I hq) fun us s1 ⟨xs, H1, I1, r, z, q⟩ => ⟨by rw [← r.length]; exact z, ?_⟩)
  have hf : H1 s1.heap.objs.size = none := I1.hok.fresh (Nat.le_refl _)
  refine ⟨.ref s1.heap.objs.size, upd H1 s1.heap.objs.size (.lst xs), I1.laid (t' := s1.toks) (fun b u e => Heap.get?_push_of_some _ e) (Nat.le_refl _) ?_, rfl, q _ hf⟩
  exact ⟨z, us, 0, r, Heap.get?_push_size _ rfl⟩
end

/-! ### what a def promises -/
/-- a def's promise: the bound arguments in the parameters' order, the heap, the wanted end, the wanted exception -/
abbrev Sp := List V → Hp → VK → XK → Prop
/-- how an exception lies behind a call (file 08 gives it): the callers' frames, abstract heap and state ahead of the call, the wish, the exception, the state -/
abbrev CXT := List Env → Hp → Shared → XK → Value → Shared → Prop

/-- the state at a call -/
structure Env0 (P : Program) (w : World) (K : PySem.W.Frag) (mg : Str → Option Value) (base : Heap) (A : Around) (outer : List Env) (s : Shared) (H : Hp) : Prop where
  frames : A.frames = some outer
  mod : Mod K mg base
  bs : ∀ b o, base.get? b = some o → s.heap.get? b = some o ∧ H b = none
  bsz : base.objs.size ≤ s.heap.objs.size
  funs : s.heap.FunFrames base outer
  frf : ∀ b ∈ frs outer, H b = none
  hok : HOk P w H s.heap
  bare : AllBare s.gens
/-- a call's end -/
def CE (outer : List Env) (P : Program) (w : World) (H : Hp) (s : Shared) (Q : VK) (u : Value) (s' : Shared) : Prop :=
  ∃ v H', s'.os = s.os ∧ AllBare s'.gens ∧ Un (frs outer) [] H H' s.heap s'.heap ∧ HOk P w H' s'.heap ∧ RelV v u ∧ Q v H'
def CR (CX : CXT) (outer : List Env) (P : Program) (w : World) (H : Hp) (s : Shared) (Q : VK) (E : XK) (r : Result) (s' : Shared) : Prop :=
  match r with
  | .ok (.ret u) => CE outer P w H s Q u s'
  | .ok _ => False
  | .error e => CX outer H s E e s'
structure FnOk (P : Program) (w : World) (K : PySem.W.Frag) (mg : Str → Option Value) (base : Heap) (CX : CXT) (k : Nat) (f : Addr) (fd : FuncData) (ps : List Str) (sp : Sp) : Prop where
  len : ∀ vs H Q E, sp vs H Q E → vs.length = ps.length
  run : ∀ (A : Around) (outer : List Env) (s : Shared) (H : Hp) (args : Args) (us : List Value) (vs : List V) (Q : VK) (E : XK), Room k A → Env0 P w K mg base A outer s H → BindsTo s fd args (ps.zip us) → Vals vs us → sp vs H Q E →
    codeAny (model P w) A (.call (.ref f) args) (CR CX outer P w H s Q E) s
section
variable {X : Cx} {pins : List (Addr × Obj)} {σ : St} {H : Hp} {s s' : Shared}
/-- from a body: what a callee wants -/
theorem Inv.env0 (I : Inv X pins σ H s) : Env0 X.prog X.w X.K X.mg X.base X.A X.stack s H :=
  ⟨I.ok.frames, I.ok.mod, I.bs, Nat.le_trans I.ok.bsz I.sz, I.stack, I.stkFree, I.hok, I.bare⟩
/-- behind a call -/
theorem Inv.after {Q : VK} {u : Value} (I : Inv X pins σ H s) (h : CE X.stack X.prog X.w H s Q u s') : EP X pins σ Q u s' := by
  obtain ⟨v, H', os, bare, un, hok, r, q⟩ := h
  obtain ⟨hh, g, d, t, os'⟩ := s'
  obtain rfl : os' = s.os := os
  exact ⟨v, H', I.call (h' := hh) (g' := g) (d' := d) (t' := t) (ch := []) un hok bare (fun b z => absurd z (by simp)), r, q⟩
end

/-! ### calls -/
/-- f(..): the written arguments, then the defaults dvs; E: what is wanted of an exception -/
def tCall (sp : Sp) (dvs : List V) (E : XK) (t : TA) : TE := fun σ H Q => t σ H fun vs H1 => sp (vs ++ dvs) H1 Q E
/-- how the parameters are bound: us the positional arguments, kw the keywords' values by name, ds the defaults that fill up -/
def Binds (K : PySem.W.Frag) (fd : FuncData) (ps : List Str) (ds : List Value) : Prop :=
  ∀ (s : Shared) (us : List Value), K.In s.heap → (us ++ ds).length = ps.length → BindsTo s fd ⟨us, []⟩ (ps.zip (us ++ ds))
/-- every parameter is given -/
theorem Binds.all {K : PySem.W.Frag} {fd : FuncData} {ps : List Str} (h : ∀ us : List Value, us.length = ps.length → bindArgs fd ⟨us, []⟩ = pure (ps.zip us)) : Binds K fd ps [] := fun s us _ hl => by
  rw [List.append_nil] at hl ⊢
  exact .of_eq (h us hl)

/-- an exception of a callee reaches what this body wants of exceptions -/
def Passes (CX : CXT) (X : Cx) (E : XK) : Prop := ∀ (pins : List (Addr × Obj)) (σ : St) (H : Hp) (s : Shared) (e : Value) (s' : Shared), Inv X pins σ H s → CX X.stack H s E e s' → X.xe e s'

section
variable {X : Cx} {CX : CXT} {k : Nat} {f C : Addr} {fd : FuncData} {ps : List Str} {sp : Sp} {dvs : List V} {ds : List Value} {E : XK} {x m : Str} {p pos apos : Pos} {e o : Expr} {es : List Expr} {ta : TE} {t : TA}

/-- the callee runs -/
theorem run_fn {pins : List (Addr × Obj)} {σ : St} {H : Hp} {s : Shared} {Q : VK} {us : List Value} {vs : List V} (F : FnOk X.prog X.w X.K X.mg X.base CX k f fd ps sp) (hr : Room k X.A) (hb : Binds X.K fd ps ds) (hd : Vals dvs ds) (hx : Passes CX X E)
    (I : Inv X pins σ H s) (r : Vals vs us) (h : sp (vs ++ dvs) H Q E) : wpAny (model X.prog X.w) X.A (call (.ref f) us) (EP X pins σ Q) X.xe s := by
  have r2 : Vals (vs ++ dvs) (us ++ ds) := r.append hd
  have hl : (us ++ ds).length = ps.length := by rw [← r2.length]; exact F.len _ _ _ _ h
  refine wpAny_call (codeAny_mono (F.run X.A X.stack s H ⟨us, []⟩ (us ++ ds) (vs ++ dvs) Q E hr I.env0 (hb s us I.kIn hl) r2 h) fun r s' hq => ?_)
  cases r with
  | error e => exact hx pins σ H s e s' I hq
  | ok fl =>
    cases fl with
    | ret u => exact I.after hq
    | next => exact False.elim hq
    | brk => exact False.elim hq
    | cont => exact False.elim hq

theorem pe_call (F : FnOk X.prog X.w X.K X.mg X.base CX k f fd ps sp) (hr : Room k X.A) (hg : Gl X x) (hm : X.mg x = some (.ref f)) (hk : PySem.W.keepIn X.K (.ref f) = true) (hb : Binds X.K fd ps ds) (hd : Vals dvs ds) (hx : Passes CX X E)
    (ha : PA X (e :: es) t) (hdb : (x == ("__debug__" : Str)) = false := by decide) (he : starEach (e :: es) X.env = (false, eval e X.env) :: starEach es X.env := by rfl) (hpl : (backTo pos (starEach es X.env)).any (·.1) = false := by rfl) :
    PE X (.Call (.Name x p) (e :: es) [] pos) (tCall sp dvs E t) := by
  intro pins s σ H Q I h
  refine wpAny_Call_Name_kw (ld_glob I hg hm ?_ hdb)
  refine PySem.W.callWith_K (h₀ := X.base) I.ok.mod.kin hk (thn (ha pos pins s σ H _ I h) fun us s1 ⟨vs, H1, I1, r, q⟩ => ⟨I1.kIn, ?_⟩) he hpl
  exact run_fn F hr hb hd hx I1 r q
end

/-! ### keywords -/
section
variable {X : Cx} {CX : CXT} {k : Nat} {f C : Addr} {fd : FuncData} {ps ks : List Str} {sp : Sp} {E : XK} {x m : Str} {p pos apos kpos : Pos} {e o : Expr} {es : List Expr} {kws : List Keyword} {te ta : TE} {t tk : TA} {nm : Option Str}
variable {g : List Value → List Value → List Value} {gV : List V → List V → List V}
end

/-! ### a def's body keeps its promise -/
/-- names: the parameters first -/
structure FnScope (N P : List Str) (sc : Scope) : Prop where
  kind : sc.kind = .function
  co : sc.isCoroutine = false
  gen : sc.isGenerator = false
  nd : N.Nodup
  pre : N.take P.length = P
  par : ∀ x ∈ P, sc.names.lookup x = some .local ∨ sc.names.lookup x = some .cell
  nofree : ∀ y ∈ sc.names, y.2 ≠ .free

theorem bindL_out {kindOf : Str → Option NameKind} {x : Str} : ∀ {binds : List (Str × Value)} {m : Str → Option Value}, (∀ v, (x, v) ∉ binds) → bindL kindOf binds m x = m x
  | [], _, _ => rfl
  | (n, v) :: r, m, h => by
    unfold bindL
    rw [bindL_out fun w hw => h w (List.mem_cons_of_mem _ hw)]
    split
    · have : x ≠ n := by rintro rfl; exact h v List.mem_cons_self
      simp [this]
    · rfl
theorem bindC_out {kindOf : Str → Option NameKind} {x : Str} : ∀ {binds : List (Str × Value)} {m : Str → Option Value}, (∀ v, (x, v) ∉ binds) → bindC kindOf binds m x = m x
  | [], _, _ => rfl
  | (n, v) :: r, m, h => by
    unfold bindC
    rw [bindC_out fun w hw => h w (List.mem_cons_of_mem _ hw)]
    split
    · rfl
    · have : x ≠ n := by rintro rfl; exact h v List.mem_cons_self
      simp [this]
theorem bindL_get {kindOf : Str → Option NameKind} {x : Str} {v : Value} : ∀ {P : List Str} {vs : List Value} {i : Nat} {m : Str → Option Value}, P.Nodup → P[i]? = some x → vs[i]? = some v → kindOf x = some .local →
    bindL kindOf (P.zip vs) m x = some v
  | [], _, _, _, _, h, _, _ => by simp at h
  | _ :: _, [], _, _, _, _, h, _ => by simp at h
  | p :: P, w :: vs, 0, m, nd, h1, h2, hk => by
    simp at h1 h2; subst h1; subst h2
    show bindL kindOf ((p, w) :: P.zip vs) m p = _
    unfold bindL
    rw [bindL_out fun v hv => (List.nodup_cons.mp nd).1 (List.of_mem_zip hv).1, if_pos hk]
    simp
  | p :: P, w :: vs, i + 1, m, nd, h1, h2, hk => by
    show bindL kindOf ((p, w) :: P.zip vs) m x = _
    unfold bindL
    exact bindL_get (i := i) (List.nodup_cons.mp nd).2 (by simpa using h1) (by simpa using h2) hk
theorem bindC_get {kindOf : Str → Option NameKind} {x : Str} {v : Value} : ∀ {P : List Str} {vs : List Value} {i : Nat} {m : Str → Option Value}, P.Nodup → P[i]? = some x → vs[i]? = some v → kindOf x ≠ some .local →
    bindC kindOf (P.zip vs) m x = some v
  | [], _, _, _, _, h, _, _ => by simp at h
  | _ :: _, [], _, _, _, _, h, _ => by simp at h
  | p :: P, w :: vs, 0, m, nd, h1, h2, hk => by
    simp at h1 h2; subst h1; subst h2
    show bindC kindOf ((p, w) :: P.zip vs) m p = _
    unfold bindC
    rw [bindC_out fun v hv => (List.nodup_cons.mp nd).1 (List.of_mem_zip hv).1, if_neg hk]
    simp
  | p :: P, w :: vs, i + 1, m, nd, h1, h2, hk => by
    show bindC kindOf ((p, w) :: P.zip vs) m x = _
    unfold bindC
    exact bindC_get (i := i) (List.nodup_cons.mp nd).2 (by simpa using h1) (by simpa using h2) hk

/-- the names' values at the entry -/
def start (N : List Str) (vs : List V) : St := vs.map some ++ List.replicate (N.length - vs.length) none

/-- the context of a def's body, at its entry; an exception leaves the frame, then lies as CX says -/
def cxOf (CX : CXT) (P : Program) (w : World) (K : PySem.W.Frag) (mg : Str → Option Value) (base : Heap) (N : List Str) (qual : Str) (scope : Scope) (f : Addr) (cd : Value) (A : Around) (outer : List Env) (s : Shared) (H : Hp) (E : XK) : Cx where
  prog := P
  w := w
  K := K
  mg := mg
  base := base
  A := A.deeper (envOfC qual scope s.heap.objs.size f cd)
  N := N
  s₀ := s
  H₀ := H
  env := envOfC qual scope s.heap.objs.size f cd
  outer := outer
  stack := envOfC qual scope s.heap.objs.size f cd :: outer
  ex := []
  calm := true
  fn := fun _ => true
  pn := []
  xe := fun e s' => wpAny (model P w) (A.deeper (envOfC qual scope s.heap.objs.size f cd)) (leaving (envOfC qual scope s.heap.objs.size f cd) e) (fun _ s'' => CX outer H s E e s'') (fun e' s'' => CX outer H s E e' s'') s'

theorem cell_has {sc : Scope} {n : Nat} {x : Str} (h : sc.names.lookup x = some .cell) : ∃ c, (cellsFrom n sc.names []).lookup x = some c := by
  have q := PySem.W.cellsFrom_some sc.names n [] (.inl h)
  exact Option.isSome_iff_exists.mp q

theorem inv_start {CX : CXT} {P : Program} {w : World} {K : PySem.W.Frag} {mg : Str → Option Value} {base : Heap} {N ps : List Str} {qual : Str} {scope : Scope} {f : Addr} {cd : Value} {A : Around} {outer : List Env} {s s1 : Shared} {H : Hp} {E : XK} {us : List Value} {vs : List V}
    (S : FnScope N ps scope) (hd : A.handled = none) (e0 : Env0 P w K mg base A outer s H) (hl : vs.length = ps.length) (r : Vals vs us)
    (x : InCallC s s.heap.objs.size (bindL (envOfC qual scope s.heap.objs.size f cd).kindOf (ps.zip us) fun _ => none) (cellsFrom (s.heap.objs.size + 1) scope.names []) (bindC (envOfC qual scope s.heap.objs.size f cd).kindOf (ps.zip us) fun _ => none) s1) :
    Inv (cxOf CX P w K mg base N qual scope f cd A outer s H E) [] (start N vs) H s1 := by
  have hpl : ps.length ≤ N.length := by have := congrArg List.length S.pre; rw [List.length_take] at this; omega
  obtain ⟨h1, tk, rfl, hk⟩ := x.done
  have noA : ∀ b : Addr, b ∉ (cxOf CX P w K mg base N qual scope f cd A outer s H E).ex := fun b z => absurd (show b ∈ ([] : List Addr) from z) (by simp)
  refine ⟨⟨e0.mod, S.kind, rfl, rfl, Nat.le_refl _, fun y z c h1 h2 => ?_, fun y hy => ?_, fun y c _ h => ?_, fun _ => hd, Around.frames_deeper e0.frames, .inr ⟨rfl, rfl⟩, fun b z => absurd z (noA b), e0.bs, e0.bsz, fun b _ _ => noA b, fun b z => absurd z (noA b), e0.funs, e0.frf⟩,
    rfl, e0.bare, Un.kept hk, ⟨_, x.toInCall.ns, fun i y v h1 h2 h3 => ?_⟩, fun y c h => ⟨_, x.cell y c h⟩, e0.hok.fresh (Nat.le_refl _), fun y c h => ?_, fun p hp => absurd (show p ∈ ([] : List (Addr × Obj)) from hp) (by simp), e0.hok.kept hk, ?_⟩
  · exact name_of_addr x.apart (PySem.mem_of_lookup h1) (PySem.mem_of_lookup h2)
  · have hy : scope.names.lookup y = some .cell ∨ scope.names.lookup y = some .free := hy
    rcases hy with hy | hy
    · exact cell_has hy
    · exact absurd rfl (S.nofree _ (PySem.mem_of_lookup hy))
  · exact Nat.le_of_lt (x.above y c (PySem.mem_of_lookup h))
  · have hi : i < vs.length := by
      unfold start at h2
      by_cases hi : i < vs.length
      · exact hi
      · rw [List.getElem?_append_right (by simpa using hi)] at h2
        rw [List.getElem?_replicate] at h2
        split at h2 <;> cases h2
    have ha : vs[i]? = some v := by
      unfold start at h2
      rw [List.getElem?_append_left (by simpa using hi), List.getElem?_map] at h2
      cases e : vs[i]? with
      | none => rw [e] at h2; cases h2
      | some a => rw [e] at h2; cases h2; rfl
    obtain ⟨u, hu, rv⟩ := r.get ha
    have hp : ps[i]? = some y := by
      rw [← S.pre, List.getElem?_take_of_lt (by omega)]; exact h1
    have ndP : ps.Nodup := by rw [← S.pre]; exact S.nd.sublist (List.take_sublist _ _)
    refine ⟨u, rv, ?_⟩
    rcases S.par y (List.mem_of_getElem? hp) with k | k
    · exact .inl ⟨k, bindL_get ndP hp hu k⟩
    · obtain ⟨c, e⟩ := cell_has (n := s.heap.objs.size + 1) k
      refine .inr ⟨.inl k, c, e, ?_⟩
      have q := x.cell y c e
      rw [bindC_get ndP hp hu (by show scope.names.lookup y ≠ _; rw [k]; decide)] at q
      exact q
  · exact e0.hok.fresh (Nat.le_of_lt (x.above y c (PySem.mem_of_lookup h)))
  · unfold start
    show _ = N.length
    rw [List.length_append, List.length_map, List.length_replicate]
    omega

/-- THE RULE: a def (or a method) of the text, by its body. The body's reading t is chosen for each entry; it is run at the parameters' values -/
theorem fn_of {CX : CXT} {P : Program} {w : World} {K : PySem.W.Frag} {mg : Str → Option Value} {base : Heap} {k : Nat} {f : Addr} {name qual : Str} {params : Arguments} {body : List Stmt} {scope : Scope} {dV kV doc pm cdv ct oc : Value} {an od : Option Addr}
    {osl : Array (Option Value)} {N ps : List Str} {sp : Sp} (lk : K.lookup f = some ⟨oc, od, .func (PySem.W.fnOf name qual params body scope dV kV doc pm an cdv ct), osl⟩) (hcd : PySem.W.codeIn K cdv qual = true) (S : FnScope N ps scope)
    (len : ∀ vs H Q E, sp vs H Q E → vs.length = ps.length)
    (hbody : ∀ (A : Around) (outer : List Env) (s : Shared) (H : Hp) (vs : List V) (Q : VK) (E : XK), Room k (A.deeper (envOfC qual scope s.heap.objs.size f cdv)) → sp vs H Q E →
      ∃ t, PSs (cxOf CX P w K mg base N qual scope f cdv A outer s H E) body t ∧ t { nx := fun _ H' => Q .non H', rt := Q } (start N vs) H) :
    FnOk P w K mg base CX (k + 1) f (PySem.W.fnOf name qual params body scope dV kV doc pm an cdv ct) ps sp := by
  refine ⟨len, fun A outer s H args us vs Q E hr e0 hb r hsp => ?_⟩
  have hl := len _ _ _ _ hsp
  have KX : K.In s.heap := e0.mod.kin.keeps fun b o e => (e0.bs b o e).1
  have lim : s.heap.NoLimit := e0.mod.nolimit.keeps fun b o e => (e0.bs b o e).1
  have hkind : ∀ y ∈ ps.zip us, scope.names.lookup y.1 = some .local ∨ (scope.names.lookup y.1 = some .cell ∧ ((cellsFrom (s.heap.objs.size + 1) scope.names []).lookup y.1).isSome = true) := fun ⟨n, v⟩ hy => by
    rcases S.par n (List.of_mem_zip hy).1 with q | q
    · exact .inl q
    · exact .inr ⟨q, PySem.W.cellsFrom_some _ _ _ (.inl q)⟩
  refine codeAny_call_function hr.depth (KX _ _ lk) rfl S.co S.gen rfl (PySem.W.codeRec_of KX hcd) (hb _ _ _ _ ?_)
  refine wpAny_newFunctionEnv_cells S.kind hkind fun env he s1 x => ?_
  subst he
  refine ⟨lim.keeps x.toInCall.keep, codeAny_func ?_⟩
  obtain ⟨t, ht, hq⟩ := hbody A outer s H vs Q E (hr.deeper _) hsp
  have I : Inv (cxOf CX P w K mg base N qual scope f cdv A outer s H E) [] (start N vs) H s1 := inv_start S hr.hd e0 hl r x
  refine wpAny_mono (ht [] s1 (start N vs) H _ I hq) (fun fl s' hs => ?_) fun e s' hs => hs
  have fin : ∀ {σ' : St} {H' : Hp} {v : V} {u : Value}, Inv (cxOf CX P w K mg base N qual scope f cdv A outer s H E) [] σ' H' s' → RelV v u → Q v H' → CE outer P w H s Q u s' :=
    fun {σ' H' v u} J rv q => ⟨v, H', J.os, J.bare, J.base, J.hok, rv, q⟩
  cases fl with
  | ret u =>
    obtain ⟨v, σ', H', J, rv, q⟩ := hs
    exact fin J rv q
  | next =>
    obtain ⟨σ', H', J, q⟩ := hs
    exact fin (v := V.non) (u := Value.none) J rfl q
  | brk =>
    obtain ⟨_, _, _, q⟩ := hs
    exact False.elim q
  | cont =>
    obtain ⟨_, _, _, q⟩ := hs
    exact False.elim q
end L2

namespace L2
open PySem PySem.Spec PyProof.Rows
section
variable {X : Cx} {x : Str} {p pos : Pos} {e : Expr} {es : List Expr} {t : TA} {id T : String} {r : List V → Hp → VK → Prop}

def tCB (r : List V → Hp → VK → Prop) (t : TA) : TE := fun σ H Q => t σ H fun vs H1 => r vs H1 Q
/-- f(e, ..), f a built-in function -/
theorem pe_callB (hc : CallR X (.builtin id) r) (hg : Gl X x) (hm : X.mg x = none) (hv : bootBuiltins x = some (.builtin id)) (ha : PA X (e :: es) t) (hn : x ≠ "__name__" := by decide) (hdb : (x == ("__debug__" : Str)) = false := by decide)
    (he : starEach (e :: es) X.env = (false, eval e X.env) :: starEach es X.env := by rfl) (hpl : (backTo pos (starEach es X.env)).any (·.1) = false := by rfl) : PE X (.Call (.Name x p) (e :: es) [] pos) (tCB r t) := by
  intro pins s σ H Q I h
  refine wpAny_Call_Name_kw (ld_blt I hg hm hv ?_ hn hdb)
  exact PyProof.Rows.callWith_builtin1 (thn (ha pos pins s σ H _ I h) fun us s1 ⟨vs, H1, I1, r1, q1⟩ => hc pins s1 σ H1 vs us Q I1 r1 q1) he hpl
/-- T(e, ..), T a built-in type -/
theorem pe_callTy (hc : CallR X (.type T) r) (hg : Gl X x) (hm : X.mg x = none) (hv : bootBuiltins x = some (.type T)) (ha : PA X (e :: es) t) (hn : x ≠ "__name__" := by decide) (hdb : (x == ("__debug__" : Str)) = false := by decide)
    (he : starEach (e :: es) X.env = (false, eval e X.env) :: starEach es X.env := by rfl) (hpl : (backTo pos (starEach es X.env)).any (·.1) = false := by rfl) : PE X (.Call (.Name x p) (e :: es) [] pos) (tCB r t) := by
  intro pins s σ H Q I h
  refine wpAny_Call_Name_kw (ld_blt I hg hm hv ?_ hn hdb)
  exact PyProof.Rows.callWith_type1 (thn (ha pos pins s σ H _ I h) fun us s1 ⟨vs, H1, I1, r1, q1⟩ => hc pins s1 σ H1 vs us Q I1 r1 q1) he hpl
end
end L2

namespace HT
open PySem PyProof.Rows

section
open PySem.SeqAt
open PySem.MeetsSeq PySem.MeetsSeq2 PySem.MeetsSeq3

end

section
variable {prog : Program} {w : World} {A : Around} {E : Value → Shared → Prop} {s : Shared}

/-! ### t[a:b], not the whole -/
/-- a slice's bound as a place among n (d where it is left out) -/
def sIx (n d : Nat) : Option Int → Nat
  | none => d
  | some v => if v < 0 then (v + (n : Int)).toNat else min v.toNat n
theorem sIx_none (n d : Nat) : sIx n d none = d := rfl
theorem sIx_nat (n d k : Nat) : sIx n d (some (k : Int)) = min k n := by
  show (if (k : Int) < 0 then ((k : Int) + (n : Int)).toNat else min (k : Int).toNat n) = min k n
  rw [if_neg (by omega), Int.toNat_natCast]
end
end HT

namespace L2
open PySem PySem.Spec PyProof.Rows

/-! ### the parts of a slice -/
abbrev TO := St → Hp → (Option Int → Hp → Prop) → Prop
/-- a slice's part (left out, or an int) -/
def PO (X : Cx) (e : Option Expr) (t : TO) : Prop :=
  ∀ (pins : List (Addr × Obj)) (s : Shared) (σ : St) (H : Hp) (Q : Option Int → Hp → Prop), Inv X pins σ H s → t σ H Q →
    wpAny (model X.prog X.w) X.A (evalPart e X.env) (fun u s' => ∃ o H', Inv X pins σ H' s' ∧ IsPart u o ∧ Q o H') X.xe s
def tNoPart : TO := fun _ H Q => Q none H
def tPart (t : TE) : TO := fun σ H Q => t σ H fun x H1 => ∃ i, x = .int i ∧ Q (some i) H1

section
variable {X : Cx} {e : Expr} {te : TE} {lo hi : Option Expr} {tl th : TO} {pos p2 : Pos}

theorem po_none : PO X none tNoPart := by
  intro pins s σ H Q I h
  rw [evalPart_none]
  exact wpAny_pure ⟨none, H, I, .none, h⟩
theorem po_some (h : PE X e te) : PO X (some e) (tPart te) := by
  intro pins s σ H Q I hw
  rw [evalPart_some]
  refine thn (h pins s σ H _ I hw) fun u s1 ⟨x, H1, I1, r1, q1⟩ => ?_
  obtain ⟨i, rfl, q⟩ := q1
  obtain ⟨t, rfl⟩ := r1
  exact ⟨some i, H1, I1, .int i t, q⟩

/-- what a slice of a value is, by values: the slice object stands at sl -/
def SlR (X : Cx) (r : V → Option Int → Option Int → Hp → VK → Prop) : Prop :=
  ∀ (pins : List (Addr × Obj)) (s : Shared) (σ : St) (H : Hp) (x : V) (v vl vu : Value) (lo hi : Option Int) (sl : Addr) (Q : VK), Inv X pins σ H s → RelV x v → s.heap.IsSliceOf sl vl vu .none → IsPart vl lo → IsPart vu hi → r x lo hi H Q →
    ∃ T id, typeLookup (.type T) "__getitem__" = pure (some (.builtin id)) ∧ s.TypeIs v T ∧ wpAny (model X.prog X.w) X.A (getItem v (.ref sl)) (EP X pins σ Q) X.xe s
def tSl (r : V → Option Int → Option Int → Hp → VK → Prop) (te : TE) (tl th : TO) : TE := fun σ H Q => te σ H fun x H1 => tl σ H1 fun l H2 => th σ H2 fun u H3 => r x l u H3 Q
/-- a[lo:hi], any a -/
theorem pe_slice {r : V → Option Int → Option Int → Hp → VK → Prop} (hr : SlR X r) (he : PE X e te) (hl : PO X lo tl) (hu : PO X hi th) : PE X (.Subscript e (.Slice lo hi none p2) pos) (tSl r te tl th) := by
  intro pins s σ H Q I h
  refine Subscript_ (thn (he pins s σ H _ I h) fun v s1 ⟨x, H1, I1, r1, q1⟩ => ?_)
  refine wpAny_Slice (thn (hl pins s1 σ H1 _ I1 q1) fun vl s2 ⟨l, H2, I2, pl, q2⟩ => thn (hu pins s2 σ H2 _ I2 q2) fun vu s3 ⟨u, H3, I3, pu, q3⟩ => ?_)
  rw [evalPart_none]
  refine wpAny_pure ?_
  have I4 : Inv X pins σ H3 { s3 with heap := s3.heap.push { cls := .type "slice", data := .fields #[vl, vu, .none] } } := I3.kept (t' := s3.toks) fun b ob q => Heap.get?_push_of_some _ q
  obtain ⟨T, id, hT, ht, hg⟩ := hr pins { s3 with heap := s3.heap.push { cls := .type "slice", data := .fields #[vl, vu, .none] } } σ H3 x v vl vu l u s3.heap.objs.size Q I4 r1 (Heap.IsSliceOf.new ..) pl pu q3
  show wpAny (model X.prog X.w) X.A (subscriptTail e (.Slice lo hi none p2) v (.ref s3.heap.objs.size)) (EP X pins σ Q) X.xe { s3 with heap := s3.heap.push { cls := .type "slice", data := .fields #[vl, vu, .none] } }
  exact tail_any (ops := [.ref s3.heap.objs.size, v]) ht hT hg (by with_unfolding_all rfl)

/-- the items of xs[lo:hi] -/
def cutV (xs : List V) (lo hi : Option Int) : List V := (xs.drop (HT.sIx xs.length 0 lo)).take (HT.sIx xs.length xs.length hi - HT.sIx xs.length 0 lo)
theorem cutV_length (xs : List V) (lo hi : Option Int) : (cutV xs lo hi).length ≤ xs.length := by
  unfold cutV
  rw [List.length_take, List.length_drop]
  omega
/-! ### t < u, t + u -/
end
end L2

namespace L2
open PySem PySem.Spec PyProof.Rows

/-! ### places -/
/-- the place that an index of any sign means -/
def ixN (n : Nat) (i : Int) : Option Nat := if 0 ≤ i then (if i < n then some i.toNat else none) else if -(n : Int) ≤ i then some (i + n).toNat else none
def atI {α : Type} (xs : List α) (i : Int) : Option α := (ixN xs.length i).bind fun j => xs[j]?
theorem ixN_seq {n : Nat} {i : Int} {j : Nat} (h : ixN n i = some j) : seqIndex? i n = some j ∧ j < n ∧ -(n : Int) ≤ i ∧ i < n := by
  unfold ixN at h
  by_cases h0 : 0 ≤ i
  · rw [if_pos h0] at h
    by_cases h1 : i < n
    · rw [if_pos h1] at h
      have e : i.toNat = j := Option.some.inj h
      exact ⟨by rw [seqIndex_of h0 h1, e], by omega, by omega, h1⟩
    · rw [if_neg h1] at h; cases h
  · rw [if_neg h0] at h
    by_cases h1 : -(n : Int) ≤ i
    · rw [if_pos h1] at h
      have e : (i + n).toNat = j := Option.some.inj h
      exact ⟨by rw [seqIndex_neg (by omega) h1, e], by omega, h1, by omega⟩
    · rw [if_neg h1] at h; cases h
theorem atI_get {α : Type} {xs : List α} {i : Int} {v : α} (h : atI xs i = some v) : ∃ j, seqIndex? i xs.length = some j ∧ xs[j]? = some v ∧ j < xs.length ∧ -(xs.length : Int) ≤ i ∧ i < xs.length := by
  unfold atI at h
  cases e : ixN xs.length i with
  | none => rw [e] at h; cases h
  | some j =>
    rw [e] at h
    obtain ⟨h1, h2, h3, h4⟩ := ixN_seq e
    exact ⟨j, h1, h, h2, h3, h4⟩
theorem atI_nat {α : Type} {xs : List α} {j : Nat} {v : α} (h : xs[j]? = some v) : atI xs (j : Int) = some v := by
  have hj : j < xs.length := (List.getElem?_eq_some_iff.mp h).1
  have e : ixN xs.length (j : Int) = some j := by
    unfold ixN
    rw [if_pos (by omega), if_pos (by omega)]; simp
  unfold atI; rw [e]; exact h
/-! ### what may be subscripted -/
/-- what stands as an index of a plain subscript -/
def PlainIx (b : Expr) : Prop := ∀ o i, subscripted b false o i = operate [o, i] (getItem o i)
/-- a subscript by values -/
def IxR (X : Cx) (r : R2) : Prop :=
  ∀ (value slice : Expr) (pins : List (Addr × Obj)) (s : Shared) (σ : St) (H : Hp) (x y : V) (v u : Value) (Q : VK), Inv X pins σ H s → RelV x v → RelV y u → r x y H Q →
    subscripted slice false v u = operate [v, u] (getItem v u) → wpAny (model X.prog X.w) X.A (subscriptTail value slice v u) (EP X pins σ Q) X.xe s
/-- a call of a builtin's method by values: the receiver, the arguments -/
def MtR (X : Cx) (id : String) (r : V → List V → Hp → VK → Prop) : Prop :=
  ∀ (pins : List (Addr × Obj)) (s : Shared) (σ : St) (H : Hp) (x : V) (xs : List V) (v : Value) (us : List Value) (Q : VK), Inv X pins σ H s → RelV x v → Vals xs us → r x xs H Q →
    wpAny (model X.prog X.w) X.A (call (.builtin id) (v :: us)) (EP X pins σ Q) X.xe s
section
variable {X : Cx} {a b : Expr} {ta tb : TE} {pos : Pos}
theorem IxR.or {r r' : R2} (h : IxR X r) (h' : IxR X r') : IxR X (fun x y H Q => r x y H Q ∨ r' x y H Q) := by
  intro value slice pins s σ H x y v u Q I rx ry q hs
  rcases q with q | q
  · exact h value slice pins s σ H x y v u Q I rx ry q hs
  · exact h' value slice pins s σ H x y v u Q I rx ry q hs
/-- a[b] -/
theorem pe_ix {r : R2} (hr : IxR X r) (ha : PE X a ta) (hb : PE X b tb) (hs : PlainIx b) : PE X (.Subscript a b pos) (tOp r ta tb) := by
  intro pins s σ H Q I h
  exact Subscript_ (binT ha hb I h fun v u s2 x y H2 I2 rx ry q => hr a b pins s2 σ H2 x y v u Q I2 rx ry q (hs _ _))

def rIxL (K : PySem.W.Frag) : R2 := fun x y H Q => ∃ p xs i v, x = .ref p ∧ y = .int i ∧ SqL K H p xs ∧ atI xs i = some v ∧ Q v H
def rIxT (K : PySem.W.Frag) : R2 := fun x y H Q => ∃ p xs i v, x = .ref p ∧ y = .int i ∧ SqT K H p xs ∧ atI xs i = some v ∧ Q v H
def rIxS : R2 := fun x y H Q => ∃ z i c, x = .str z ∧ y = .int i ∧ z.length ≤ sizeLine ∧ atI z.cps.toList i = some c ∧ Q (.str ⟨#[c]⟩) H
theorem ix_list : IxR X (rIxL X.K) := by
  intro value slice pins s σ H x y v u Q I rx ry h hs
  obtain ⟨p, xs, i, z, rfl, rfl, hq, he, q⟩ := h
  cases rx
  obtain ⟨t, rfl⟩ := ry
  obtain ⟨its, r, pl, hz⟩ := I.list hq
  obtain ⟨j, h1, h2, h3, h4, h5⟩ := atI_get he
  obtain ⟨w, ew, rw'⟩ := r.get h2
  have hl := r.length
  have hn := line63
  have fin : EP X pins σ Q w s := ⟨z, H, I, rw', q⟩
  by_cases h0 : 0 ≤ i
  · have hj : i.toNat = j := by
      rw [seqIndex_of h0 h5] at h1
      exact Option.some.inj h1
    exact item_listR pl.isList h0 (by omega) (by rw [hj]; simpa using ew) fin hs
  · have hj : (i + (its.toArray.size : Int)).toNat = j := by
      rw [seqIndex_neg (by omega) h4] at h1
      rw [List.size_toArray, ← hl]
      exact Option.some.inj h1
    exact subscriptTail_builtinR (x := w) pl.isList.typeIs slot_list_getitem.lookup
      (wpAny_getItem_list_neg (Q := fun r s' => r = w ∧ EP X pins σ Q r s') pl.isList (by omega) (by rw [List.size_toArray] <;> omega) (by omega) (by rw [hj]; simpa using ew) ⟨rfl, fin⟩) hs
theorem ix_tup : IxR X (rIxT X.K) := by
  intro value slice pins s σ H x y v u Q I rx ry h hs
  obtain ⟨p, xs, i, z, rfl, rfl, hq, he, q⟩ := h
  cases rx
  obtain ⟨t, rfl⟩ := ry
  obtain ⟨its, r, pl, hz⟩ := I.tuple hq
  obtain ⟨j, h1, h2, h3, h4, h5⟩ := atI_get he
  obtain ⟨w, ew, rw'⟩ := r.get h2
  have hl := r.length
  have hn := line63
  have fin : EP X pins σ Q w s := ⟨z, H, I, rw', q⟩
  exact subscriptTail_builtinR (x := w) pl.typeIs slot_tuple_getitem.lookup
    (getItem_tuple (j := j) (Q := fun r s' => r = w ∧ EP X pins σ Q r s') pl (by omega) (by omega) (by rw [List.size_toArray, ← hl]; exact h1) (by simpa using ew) ⟨rfl, fin⟩) hs
theorem ix_str : IxR X rIxS := by
  intro value slice pins s σ H x y v u Q I rx ry h hs
  obtain ⟨z, i, c, rfl, rfl, hz, he, q⟩ := h
  obtain ⟨t, rfl⟩ := rx
  obtain ⟨t', rfl⟩ := ry
  obtain ⟨j, h1, h2, h3, h4, h5⟩ := atI_get he
  have hl : z.cps.toList.length = z.length := by simp [Str.length]
  rw [hl] at h1 h4 h5
  have hn := line63
  exact tail_any (typeIs_str s z t) slot_str_getitem.lookup (getItem_str (c := c) (by
    have e1 : decide (i < -(2 ^ 63 : Int)) = false := decide_eq_false (by omega)
    have e2 : decide (i ≥ 2 ^ 63) = false := decide_eq_false (by omega)
    rw [e1, e2, Bool.or_false]) (by rw [h1]; simpa using h2) ⟨.str ⟨#[c]⟩, H, I.tok _, ⟨_, rfl⟩, q⟩) hs
/-- list, tuple or str -/
def rIx (K : PySem.W.Frag) : R2 := fun x y H Q => rIxL K x y H Q ∨ rIxT K x y H Q ∨ rIxS x y H Q
theorem ix_seq : IxR X (rIx X.K) := ix_list.or (ix_tup.or ix_str)

/-! ### xs[i] = v, any sign -/
/-! ### slices -/
theorem slice_bounds (lo hi : Option Int) (n : Nat) : (sliceBounds lo hi none n).1 = ((HT.sIx n 0 lo : Nat) : Int) ∧ (sliceBounds lo hi none n).2.1 = ((HT.sIx n n hi : Nat) : Int) ∧ (sliceBounds lo hi none n).2.2 = 1 := by
  refine ⟨?_, ?_, rfl⟩
  · cases lo with
    | none => simp [sliceBounds, HT.sIx]
    | some i =>
      simp only [sliceBounds, HT.sIx, Option.getD_none, show (1 : Int) > 0 by decide, if_true]
      by_cases h : i < 0
      · simp only [h, if_true] <;> omega
      · simp only [h, if_false] <;> omega
  · cases hi with
    | none => simp [sliceBounds, HT.sIx]
    | some i =>
      simp only [sliceBounds, HT.sIx, Option.getD_none, show (1 : Int) > 0 by decide, if_true]
      by_cases h : i < 0
      · simp only [h, if_true] <;> omega
      · simp only [h, if_false] <;> omega
theorem slicePick_cut (its : List Value) (lo hi : Option Int) : slicePick its.toArray lo hi none = ((its.drop (HT.sIx its.length 0 lo)).take (HT.sIx its.length its.length hi - HT.sIx its.length 0 lo)).toArray := by
  obtain ⟨h1, h2, h3⟩ := slice_bounds lo hi its.toArray.size
  unfold slicePick
  rw [h1, h2, h3]
  simp only [sliceRange_one, pick_run, List.size_toArray] <;> rfl
/-- xs[lo:hi] of a list: a new list -/
def rSlL (K : PySem.W.Frag) : V → Option Int → Option Int → Hp → VK → Prop := fun x lo hi H Q => ∃ a xs, x = .ref a ∧ SqL K H a xs ∧ ∀ p, H p = none → Q (.ref p) (upd H p (.lst (cutV xs lo hi)))
theorem sl_list : SlR X (rSlL X.K) := by
  intro pins s σ H x v vl vu lo hi sl Q I rx hs pl pu h
  obtain ⟨a, xs, rfl, hx, q⟩ := h
  cases rx
  obtain ⟨its, r, ht, hz⟩ := I.list hx
  have hlen := r.length
  refine ⟨"list", _, slot_list_getitem.lookup, ht.isList.typeIs, ?_⟩
  refine wpAny_getItem_list_slice ht.isList hs pl pu .none (by simp) ?_ (by rw [List.size_toArray] <;> omega)
  rw [slicePick_cut, ← hlen]
  refine ⟨.ref s.heap.objs.size, _, I.laid (t' := s.toks) (o := .lst (cutV xs lo hi)) (fun b ob q => Heap.get?_push_of_some _ q) (Nat.le_refl _) ?_, rfl, q _ (I.hok.fresh (Nat.le_refl _))⟩
  exact ⟨Nat.le_trans (cutV_length xs lo hi) hz, _, 0, (r.drop (HT.sIx xs.length 0 lo)).take (HT.sIx xs.length xs.length hi - HT.sIx xs.length 0 lo), Heap.get?_push_size _ rfl⟩

/-! ### in, not in: flat items -/
theorem op_notIn_str : OpR X (compareOp .NotIn) (fun x y H Q => ∃ i j, x = .str i ∧ y = .str j ∧ Q (.bl (!(!(Builtin.Str.occurrences j i 0 j.length 1).isEmpty))) H) := by
  intro pins s σ H x y v u Q I rx ry h
  obtain ⟨i, j, rfl, rfl, q⟩ := h
  obtain ⟨t, rfl⟩ := rx
  obtain ⟨t', rfl⟩ := ry
  exact notIn_str ⟨.bl _, H, I, rfl, q⟩

/-! ### len, list(x), tuple(x) of any list or tuple that is read -/
theorem call_len_seq : CallR X (.builtin "len") (fun xs H Q => ∃ p ys, xs = [.ref p] ∧ (SqL X.K H p ys ∨ SqT X.K H p ys) ∧ Q (.int ys.length) H) := by
  intro pins s σ H xs us Q I r h
  obtain ⟨p, ys, rfl, hq, q⟩ := h
  obtain ⟨u, rfl, rx⟩ := vals1 r
  cases rx
  have hn := line63
  rcases hq with hq | hq
  · obtain ⟨its, r', pl, hz⟩ := I.list hq
    have hlen := r'.length
    exact Calls.call_len_list pl.isList (by simp only [List.size_toArray] <;> omega) ⟨.int ys.length, H, I.tok _, ⟨s.toks + 1, by rw [List.size_toArray, hlen]⟩, q⟩
  · obtain ⟨its, r', pl, hz⟩ := I.tuple hq
    have hlen := r'.length
    exact len_tuple pl (by simp only [List.size_toArray] <;> omega) ⟨.int ys.length, H, I.tok _, ⟨s.toks + 1, by rw [List.size_toArray, hlen]⟩, q⟩
theorem call_len_str : CallR X (.builtin "len") (fun xs H Q => ∃ z, xs = [.str z] ∧ z.length ≤ sizeLine ∧ Q (.int z.length) H) := by
  intro pins s σ H xs us Q I r h
  obtain ⟨z, rfl, hz, q⟩ := h
  obtain ⟨u, rfl, t, rfl⟩ := vals1 r
  have hn := line63
  exact len_str (by omega) ⟨.int z.length, H, I.tok _, ⟨_, rfl⟩, q⟩
theorem call_list_of : CallR X (.type "list") (fun xs H Q => ∃ p ys, xs = [.ref p] ∧ (SqL X.K H p ys ∨ SqT X.K H p ys) ∧ ∀ l, H l = none → Q (.ref l) (upd H l (.lst ys))) := by
  intro pins s σ H xs us Q I r h
  obtain ⟨p, ys, rfl, hq, q⟩ := h
  obtain ⟨u, rfl, rx⟩ := vals1 r
  cases rx
  have fin : ∀ (its : List Value), Vals ys its → ys.length ≤ sizeLine → ∀ (h' : Heap) (c' : Nat), (∀ b o', s.heap.get? b = some o' → h'.get? b = some o') →
      h'.get? s.heap.objs.size = some { cls := .type "list", dict := none, data := .seq its.toArray c', slots := #[] } → EP X pins σ Q (.ref s.heap.objs.size) { s with heap := h' } := fun its r' hz h' c' kp e =>
    ⟨.ref s.heap.objs.size, _, I.laid (t' := s.toks) kp (Nat.le_refl _) (show ObjOk X.prog X.w _ h' _ (.lst ys) from ⟨hz, its, c', r', e⟩), rfl, q _ (I.hok.fresh (Nat.le_refl _))⟩
  rcases hq with hq | hq
  · obtain ⟨its, r', pl, hz⟩ := I.list hq
    have hlen := r'.length
    obtain ⟨o, ho, hc, n, hd⟩ := pl.isList
    exact call_list_seq p (.inl rfl) ho hc hd (fun h' c' kp e => fin its r' hz h' c' kp e) (by simp only [List.size_toArray] <;> omega)
  · obtain ⟨its, r', pl, hz⟩ := I.tuple hq
    have hlen := r'.length
    obtain ⟨o, ho, hc, n, hd⟩ := pl
    exact call_list_seq p (.inr rfl) ho hc hd (fun h' c' kp e => fin its r' hz h' c' kp e) (by simp only [List.size_toArray] <;> omega)
/-! ### the call of a builtin's method: o.m(..) -/
/-- the value is of that builtin type -/
def tyV (K : PySem.W.Frag) (T : String) (x : V) (H : Hp) : Prop := match x with
  | .str _ => T = "str"
  | .int _ => T = "int"
  | .ref p => (T = "list" ∧ ∃ xs, SqL K H p xs) ∨ (T = "tuple" ∧ ∃ o, K.lookup p = some o ∧ o.cls = .type "tuple" ∧ o.dict = none) ∨
      (T = "dict" ∧ ((∃ kvs, H p = some (.dK kvs)) ∨ ∃ kvs, H p = some (.dT kvs))) ∨ (T = "set" ∧ ∃ S n, H p = some (.set S n))
  | _ => False
theorem tyV_is {pins : List (Addr × Obj)} {σ : St} {H : Hp} {s : Shared} {T : String} {x : V} {v : Value} (I : Inv X pins σ H s) (r : RelV x v) (ty : tyV X.K T x H) :
    s.TypeIs v T ∧ ∀ a, v = .ref a → ∃ ob, s.heap.get? a = some ob ∧ ob.dict = none := by
  cases x with
  | str z =>
    obtain ⟨t, rfl⟩ := r
    cases (show T = "str" from ty)
    exact ⟨typeIs_str s z t, fun _ e => nomatch e⟩
  | int i =>
    obtain ⟨t, rfl⟩ := r
    cases (show T = "int" from ty)
    exact ⟨typeIs_int s i t, fun _ e => nomatch e⟩
  | ref p =>
    cases r
    rcases ty with ⟨rfl, xs, hq⟩ | ⟨rfl, o, hk, hc, hd⟩ | ⟨rfl, hk⟩ | ⟨rfl, S, n, hk⟩
    · obtain ⟨its, _, pl, _⟩ := I.list hq
      refine ⟨pl.isList.typeIs, fun a e => ?_⟩
      cases e
      obtain ⟨o, n, e, c, hd, _⟩ := pl
      exact ⟨o, e, hd⟩
    · refine ⟨⟨o, I.kIn p o hk, hc⟩, fun a e => ?_⟩
      cases e
      exact ⟨o, I.kIn _ o hk, hd⟩
    · have z : ∃ o, s.heap.get? p = some o ∧ o.ExactDict := by
        rcases hk with ⟨kvs, hk⟩ | ⟨kvs, hk⟩
        · obtain ⟨_, _, _, _, o, _, _, e, ex, _⟩ := I.hok p _ hk
          exact ⟨o, e, ex⟩
        · obtain ⟨_, _, _, _, o, _, _, e, ex, _⟩ := I.hok p _ hk
          exact ⟨o, e, ex⟩
      obtain ⟨o, e, ex⟩ := z
      refine ⟨⟨o, e, ex.1⟩, fun a e2 => ?_⟩
      cases e2
      exact ⟨o, e, ex.2.1⟩
    · obtain ⟨o, _, _, _, e, ex, _⟩ := I.hok p _ hk
      refine ⟨⟨o, e, ex.1⟩, fun a e2 => ?_⟩
      cases e2
      exact ⟨o, e, ex.2.1⟩
  | _ => exact False.elim ty
def tBM0 (K : PySem.W.Frag) (T : String) (r : V → List V → Hp → VK → Prop) (to : TE) : TE := fun σ H Q => to σ H fun x H1 => tyV K T x H1 ∧ r x [] H1 Q
def tBM (K : PySem.W.Frag) (T : String) (r : V → List V → Hp → VK → Prop) (to : TE) (t : TA) : TE := fun σ H Q => to σ H fun x H1 => tyV K T x H1 ∧ t σ H1 fun xs H2 => r x xs H2 Q
variable {o e : Expr} {es : List Expr} {to : TE} {t : TA} {name : Str} {apos cpos : Pos} {T id : String} {r : V → List V → Hp → VK → Prop}
theorem pe_bm0 (pa : PlainAttrs T) (slot : Slot T name id) (hty : typeOf (.builtin id) = pure (.type "method_descriptor")) (hm : MtR X id r) (ho : PE X o to)
    (hbase : attributeBase o name X.env (eval o X.env) = eval o X.env := by rfl) (hline : (apos.endLine == cpos.line) = true := by rfl) : PE X (.Call (.Attribute o name apos) [] [] cpos) (tBM0 X.K T r to) := by
  intro pins s σ H Q I h
  refine wpAny_Call_method0_late hbase hline (thn (ho pins s σ H _ I h) fun v s1 ⟨x, H1, I1, r1, ty, q1⟩ => ?_)
  obtain ⟨h1, h2⟩ := tyV_is I1 r1 ty
  exact ⟨T, id, pa, slot, hty, h1, h2, Calls.callWith_builtin rfl (PySem.evalArgs_none (hm pins s1 σ H1 x [] v [] Q I1 r1 .nil q1))⟩
theorem pe_bm (pa : PlainAttrs T) (slot : Slot T name id) (hty : typeOf (.builtin id) = pure (.type "method_descriptor")) (hm : MtR X id r) (ho : PE X o to) (ha : PA X (e :: es) t)
    (hbase : attributeBase o name X.env (eval o X.env) = eval o X.env := by rfl)
    (hfew : ((backTo cpos (starEach (e :: es) X.env)).all (fun x => !x.1) && (backToKw cpos (keywordEach [] X.env)).all (fun x => x.1.isSome)
      && decide ((e :: es).length + ([] : List Keyword).length + (if ([] : List Keyword).isEmpty then 0 else 1) < 30)) = true := by rfl)
    (hline : (apos.endLine == cpos.line) = true := by rfl) (hs : starEach (e :: es) X.env = (false, eval e X.env) :: starEach es X.env := by rfl) (hplain : (backTo cpos (starEach es X.env)).any (·.1) = false := by rfl) :
    PE X (.Call (.Attribute o name apos) (e :: es) [] cpos) (tBM X.K T r to t) := by
  intro pins s σ H Q I h
  refine wpAny_Call_method_late hbase hfew hline rfl (thn (ho pins s σ H _ I h) fun v s1 ⟨x, H1, I1, r1, ty, q1⟩ => ?_)
  obtain ⟨h1, h2⟩ := tyV_is I1 r1 ty
  refine ⟨T, id, pa, slot, hty, h1, h2, ?_⟩
  have hA := ha cpos pins s1 σ H1 _ I1 q1
  rw [hs] at hA ⊢
  refine Calls.callWith_builtin (by show (false || (backTo cpos (starEach es X.env)).any (·.1)) = false; rw [hplain] <;> rfl) (Calls.evalArgs_plain ?_)
  exact thn hA fun us s2 ⟨vs, H2, I2, r2, q2⟩ => hm pins s2 σ H2 x vs v us Q I2 r1 r2 q2
/- xs.append(e), list.index on a module's tuple .. are MtR facts of 06m -/
end
end L2

namespace L2
open PySem PySem.Spec PyProof.Rows

def MtM (X : Cx) (id : String) (r : V → List V → Hp → VK → Prop) : Prop :=
  ∀ (pins : List (Addr × Obj)) (s : Shared) (σ : St) (H : Hp) (x : V) (xs : List V) (v : Value) (us : List Value) (Q : VK), Inv X pins σ H s → RelV x v → Vals xs us → r x xs H Q →
    wpAny (model X.prog X.w) X.A (call (.builtin id) (v :: us)) (EP X pins σ Q) X.xe s

/-! ### lists of values -/
theorem Vals.one : ∀ {x : V} {us : List Value}, Vals [x] us → ∃ u, us = [u] ∧ RelV x u
  | _, _, .cons r .nil => ⟨_, rfl, r⟩
theorem Vals.zero : ∀ {us : List Value}, Vals [] us → us = []
  | _, .nil => rfl
theorem Vals.dropLast {xs : List V} {us : List Value} (h : Vals xs us) : Vals xs.dropLast us.dropLast := by
  induction h with
  | nil => exact .nil
  | cons r t ih =>
    cases t with
    | nil => exact .nil
    | cons q t' => exact .cons r ih
theorem Vals.rep {xs : List V} {us : List Value} (h : Vals xs us) : ∀ k : Nat, Vals (List.replicate k xs).flatten (List.replicate k us).flatten
  | 0 => .nil
  | k + 1 => by
    rw [List.replicate_succ, List.replicate_succ, List.flatten_cons, List.flatten_cons]
    exact Vals.append h (Vals.rep h k)
theorem erase_last {α : Type} (l : List α) : l.eraseIdx (l.length - 1) = l.dropLast := by
  induction l with
  | nil => rfl
  | cons a r ih =>
    cases r with
    | nil => rfl
    | cons b r =>
      have e : (a :: b :: r).length - 1 = ((b :: r).length - 1) + 1 := by
        have h1 : (a :: b :: r).length = r.length + 2 := rfl
        have h2 : (b :: r).length = r.length + 1 := rfl
        omega
      rw [e, List.eraseIdx_cons_succ, ih]
      all_goals rfl
theorem foldl_rep (its : List Value) : ∀ (k : Nat) (acc : List Value),
    List.foldl (fun x1 x2 => x1 ++ x2) acc.toArray (List.replicate k its.toArray) = (acc ++ (List.replicate k its).flatten).toArray
  | 0, acc => by simp
  | k + 1, acc => by
    have e : acc.toArray ++ its.toArray = (acc ++ its).toArray := by simp
    have e2 : (acc ++ its) ++ (List.replicate k its).flatten = acc ++ (List.replicate (k + 1) its).flatten := by
      rw [List.replicate_succ, List.flatten_cons, List.append_assoc]
    rw [← e2, ← foldl_rep its k (acc ++ its), ← e, List.replicate_succ, List.foldl_cons]

section
variable {X : Cx} {pins : List (Addr × Obj)} {σ : St} {H : Hp} {s : Shared} {l b : Addr} {xs ys zs : List V}

/-! ### the two steps: a tracked list is rewritten, a new list is laid -/
theorem Inv.lset {its its' : List Value} {n : Nat} {f : Array Value → Array Value} {t' : Nat} (I : Inv X pins σ H s) (hH : H l = some (.lst xs))
    (e : s.heap.get? l = some { cls := .type "list", data := .seq its.toArray n }) (hf : f its.toArray = its'.toArray) (hv : Vals ys its') (hz : ys.length ≤ sizeLine) :
    Inv X pins σ (upd H l (.lst ys)) { s with heap := s.heap.update l (Obj.mapSeq f), toks := t' } := by
  have q := PySem.IsL.update e f
  rw [hf] at q
  refine I.write (x := l) (e := l) (by rw [hH]; exact trivial) (.inl rfl) (fun b' u hb hu => (Heap.get?_update_other s.heap (Obj.mapSeq f) (Ne.symm hb)).trans hu) ⟨_, q⟩ ?_
  exact ⟨hz, its', _, hv, q⟩
theorem Inv.lnew {its : List Value} {t' : Nat} (I : Inv X pins σ H s) (hv : Vals ys its) (hz : ys.length ≤ sizeLine) :
    Inv X pins σ (upd H s.heap.objs.size (.lst ys)) { s with heap := s.heap.push { cls := .type "list", data := .seq its.toArray }, toks := t' } :=
  I.laid (fun _ _ q => Heap.get?_push_of_some _ q) (Nat.le_refl _) ⟨hz, its, 0, hv, Heap.get?_push_size _ rfl⟩
theorem Inv.fresh (I : Inv X pins σ H s) : H s.heap.objs.size = none := I.hok.fresh (Nat.le_refl _)
theorem Inv.lstM (I : Inv X pins σ H s) (hH : H l = some (.lst xs)) : xs.length ≤ sizeLine ∧ ∃ (its : List Value) (n : Nat), Vals xs its ∧ xs.length = its.length ∧ s.heap.get? l = some { cls := .type "list", data := .seq its.toArray n } := by
  obtain ⟨z, its, n, r, e⟩ := I.hok l _ hH
  exact ⟨z, its, n, r, r.length, e⟩

theorem notLongL {n : Nat} (h : n ≤ sizeLine) : Builtin.List.listTooLong n = false := by
  unfold Builtin.List.listTooLong
  exact decide_eq_false (by omega)
end

section
variable {X : Cx}

/-! ### methods -/
def rAppend : V → List V → Hp → VK → Prop := fun x vs H Q => ∃ l xs y, x = .ref l ∧ vs = [y] ∧ H l = some (.lst xs) ∧ xs.length < sizeLine ∧ Q .non (upd H l (.lst (xs ++ [y])))
theorem mt_append : MtM X "list.append" rAppend := by
  intro pins s σ H x vs v us Q I rx rv h
  obtain ⟨l, xs, y, rfl, rfl, hH, hz, q⟩ := h
  cases rx
  obtain ⟨u, rfl, ru⟩ := rv.one
  obtain ⟨z, its, n, r, hl, e⟩ := I.lstM hH
  refine call_meets F.slot_list_append ⟨_, e, rfl⟩ F.entry_list_append (F.args_list_append_2 _ _) (PySem.list_append l its.toArray n u (by rw [List.size_toArray]; omega)) ⟨e, ?_⟩
  refine ⟨.non, _, I.lset (its' := its ++ [u]) hH e (by simp) (r.append (.cons ru .nil)) ?_, rfl, q⟩
  rw [List.length_append, List.length_singleton]
  omega

def rPop : V → List V → Hp → VK → Prop := fun x vs H Q => ∃ l xs y, x = .ref l ∧ vs = [] ∧ H l = some (.lst xs) ∧ xs[xs.length - 1]? = some y ∧ Q y (upd H l (.lst xs.dropLast))
theorem mt_pop : MtM X "list.pop" rPop := by
  intro pins s σ H x vs v us Q I rx rv h
  obtain ⟨l, xs, y, rfl, rfl, hH, hy, q⟩ := h
  cases rx
  have hus := rv.zero
  subst hus
  obtain ⟨z, its, n, r, hl, e⟩ := I.lstM hH
  obtain ⟨u, hu, ru⟩ := r.get hy
  have hy' : its.toArray[its.toArray.size - 1]? = some u := by
    show its.toArray[its.length - 1]? = some u
    rw [← Array.getElem?_toList, ← hl]
    exact hu
  refine call_meets F.slot_list_pop ⟨_, e, rfl⟩ F.entry_list_pop (F.args_list_pop_1 _) (MeetsSeq.list_pop_last l its.toArray n u hy' (by rw [List.size_toArray]; omega)) ⟨e, ?_⟩
  refine ⟨y, _, I.lset (its' := its.dropLast) hH e ?_ r.dropLast ?_, ru, q⟩
  · show its.toArray.eraseIdxIfInBounds (its.toArray.size - 1) = its.dropLast.toArray
    rw [List.size_toArray, List.eraseIdxIfInBounds_toArray, erase_last]
  · rw [List.length_dropLast]
    omega

/-! ### list + list, list += list, list * int -/
def rCat : R2 := fun x y H Q => ∃ l b xs zs, x = .ref l ∧ y = .ref b ∧ H l = some (.lst xs) ∧ H b = some (.lst zs) ∧ xs.length + zs.length ≤ sizeLine ∧ ∀ p, H p = none → Q (.ref p) (upd H p (.lst (xs ++ zs)))
theorem op_cat : OpR X (binaryOp .Add) rCat := by
  intro pins s σ H x y v u Q I rx ry h
  obtain ⟨l, b, xs, zs, rfl, rfl, hH, hB, hz, q⟩ := h
  cases rx
  cases ry
  obtain ⟨z, its, n, r, hl, e⟩ := I.lstM hH
  obtain ⟨z2, its2, n2, r2, hl2, e2⟩ := I.lstM hB
  refine PySem.P.add_list e e2 ?_ (by rw [List.size_toArray, List.size_toArray]; omega)
  have ea : its.toArray ++ its2.toArray = (its ++ its2).toArray := by simp
  rw [ea]
  exact ⟨.ref _, _, I.lnew (t' := s.toks) (r.append r2) (by rw [List.length_append]; omega), rfl, q _ I.fresh⟩
/-- a list times an int (a negative one is nothing) -/
def rRep : R2 := fun x y H Q => ∃ l k xs, x = .ref l ∧ y = .int k ∧ H l = some (.lst xs) ∧ -(2 ^ 63) ≤ k ∧ k < 2 ^ 63 ∧ xs.length * k.toNat ≤ sizeLine ∧
  ∀ p, H p = none → Q (.ref p) (upd H p (.lst (List.replicate k.toNat xs).flatten))
theorem len_rep {α : Type} (xs : List α) (k : Nat) : (List.replicate k xs).flatten.length = k * xs.length := by
  induction k with
  | zero => simp
  | succ k ih => rw [List.replicate_succ, List.flatten_cons, List.length_append, ih, Nat.succ_mul, Nat.add_comm]
theorem op_rep : OpR X (binaryOp .Mult) rRep := by
  intro pins s σ H x y v u Q I rx ry h
  obtain ⟨l, k, xs, rfl, rfl, hH, h1, h2, hz, q⟩ := h
  cases rx
  obtain ⟨t, rfl⟩ := ry
  obtain ⟨z, its, n, r, hl, e⟩ := I.lstM hH
  have hlen : its.toArray.size * k.toNat ≤ sizeLine := by rw [List.size_toArray, ← hl]; exact hz
  have hcap : ¬ its.toArray.size * k.toNat > (2 ^ 63 - 1) / 8 := by
    have : (sizeLine : Nat) ≤ (2 ^ 63 - 1) / 8 := by decide
    omega
  have hfit : ¬ (!Builtin.List.listFitsIndex k) = true := by
    rw [fitsIndex_both h1 h2]
    exact Bool.false_ne_true
  have hlong : ¬ Builtin.List.listTooLong (its.toArray.size * k.toNat) = true := by
    rw [notLongL hlen]
    exact Bool.false_ne_true
  have hnew : List.foldl (fun x1 x2 => x1 ++ x2) #[] (List.replicate (if its.toArray.isEmpty = true then 0 else k.toNat) its.toArray) = (List.replicate k.toNat its).flatten.toArray := by
    have f0 : ∀ m : Nat, List.foldl (fun x1 x2 => x1 ++ x2) #[] (List.replicate m its.toArray) = (List.replicate m its).flatten.toArray := fun m => by
      have := foldl_rep its m []
      rw [List.nil_append] at this
      exact this
    rw [f0]
    cases its with
    | nil => simp
    | cons a r' => rw [if_neg (by simp)]
  refine wpAny_binaryOp_repeat_ref (T := "list") (U := "int") (by decide) ⟨_, e, rfl⟩ (fun s' => typeIs_int s' k t) noFill_list_mul F.fills_int_mul F.slot_int_rmul repeat_list F.slot_int_index.lookup
    (call_meets F.slot_int_rmul (typeIs_int s k t) F.entry_int_rmul (F.args_int_rmul_2 _ _) (int___rmul___int_list k t l its.toArray n)
      ⟨e, rfl, ⟨_, e, rfl⟩, call_meets F.slot_list_mul ⟨_, e, rfl⟩ F.entry_list_mul (F.args_list_mul_2 _ _) (AutoListH.list___mul___list_int_3 l its.toArray n k t hfit hcap hlong) ⟨e, ?_⟩⟩)
  rw [hnew]
  exact ⟨.ref _, _, I.lnew (t' := s.toks) (r.rep k.toNat) (by rw [len_rep, Nat.mul_comm]; exact hz), rfl, q _ I.fresh⟩

/-! ### del xs[i] -/
end

/-! ### xs[a:b] = ys -/
section
variable {prog : Program} {w : World} {A : Around} {E : Value → Shared → Prop} {s : Shared}
end

section
variable {X : Cx}
end
end L2

namespace L2
open PySem PySem.Spec PyProof.Rows

/-! ### lists of pairs as tables -/
section
variable {κ : Type} [DecidableEq κ]
end


/-! ### a tracked dict, its keys ints and texts or tuples of these -/
section
variable {P : Program} {w : World} {H : Hp} {h : Heap} {a : Addr}
end

section
variable {X : Cx} {pins : List (Addr × Obj)} {σ : St} {H : Hp} {s : Shared} {a : Addr} {y v : V} {u r : Value} {o : Option V} {A : Around} {E : Value → Shared → Prop}

end

section
variable {X : Cx} {pins : List (Addr × Obj)} {σ : St} {H : Hp} {s : Shared} {a : Addr} {kvs : List (Key × V)} {k : Key} {u : Value} {A : Around} {E : Value → Shared → Prop}
end


/-! ### readings and rules -/
section
variable {X : Cx} {o i e value : Expr} {pos pos' tpos : Pos} {td ty tv : TE}
end


/-! ### displays -/
section
variable {X : Cx} {pos : Pos}
end

/-! ### methods -/
section
variable {X : Cx} {pins : List (Addr × Obj)} {σ : St} {H : Hp} {s : Shared} {a : Addr} {y d : V} {u r : Value} {o : Option V} {A : Around} {E : Value → Shared → Prop}
end

section
variable {X : Cx} {o e f : Expr} {apos cpos : Pos} {td ty tx : TE}
end

/-! ### dict(d): a copy -/
section
variable {X : Cx} {pins : List (Addr × Obj)} {σ : St} {H : Hp} {s : Shared} {a : Addr} {kvs : List (Key × V)} {A : Around} {E : Value → Shared → Prop}
end


section
variable {X : Cx} {pins : List (Addr × Obj)} {σ : St} {H : Hp} {s : Shared} {a : Addr} {y : V} {u : Value} {A : Around} {E : Value → Shared → Prop}
end
end L2

namespace Att
open PySem PySem.W PySem.Calls PyProof.Rows

/-! ### the script -/
theorem ints_of_wellAll {P : Params} {h : Heap} : ∀ (ns : List Int) (vs : List Value), WellAll P h vs (ns.map WData.int) → IntsAre vs ns := by
  intro ns
  induction ns with
  | nil =>
    intro vs w
    rw [List.map_nil] at w
    cases w
    exact .nil
  | cons n ns ih =>
    intro vs w
    rw [List.map_cons] at w
    cases w with
    | cons a b =>
      cases a
      exact .cons _ _ (ih _ b)

theorem script_of {l : OpenLaw} {n : Nat} (hn : l.most = some n) {P : Params} {h : Heap} {args : List WData} {vals : List Value}
    (hpre : l.row.toRowW.claim.pre args = true) (hwl : WellAll P h vals args) :
    ∃ a vs ns, vals = [Value.ref a] ∧ args = [WData.list (ns.map WData.int)] ∧ h.get? a = some { cls := .type "list", data := .seq vs.toArray } ∧ IntsAre vs ns ∧ ns.length ≤ n := by
  have hsh : WShape.hasAll [] args [.list .int] = true := (pre_splitW hpre).1
  have hc : l.pre.holds [] { args := args } = true := (pre_splitW hpre).2
  obtain ⟨d, r, rfl, h1, h2⟩ := hasAllW_cons hsh
  obtain rfl := hasAllW_nil h2
  obtain ⟨xs, rfl, h3⟩ := hasW_list h1
  obtain ⟨ns, rfl⟩ := items_int h3
  have hlen : ns.length ≤ n := by
    unfold OpenLaw.pre at hc
    have h4 : (WTm.not (.lt (.lit (.int (n : Int))) (.len (.arg 0)))).holds [] { args := [.list (ns.map .int)] } = true := by
      have h4 := (holds_andW hc).1
      rw [hn] at h4
      exact h4
    have h5 := condW_of h4 (w_not (w_lt w_lit (w_len_list (w_arg rfl))))
    rw [List.length_map] at h5
    refine Nat.le_of_not_lt fun q => ?_
    have q' : (n : Int) < ((ns.length : Nat) : Int) := by omega
    first
      | (rw [decide_eq_true q'] at h5; exact absurd h5 (by decide))
      | (simp at h5; omega)
  cases hwl with
  | cons w1 w2 =>
    cases w2
    cases w1 with
    | list ho hall => exact ⟨_, _, ns, rfl, rfl, ho, ints_of_wellAll ns _ hall, hlen⟩

theorem post_true (l : OpenLaw) (args : List WData) : l.row.toRowW.claim.post args (.bool true) args = true :=
  postW_of (r := l.row.toRowW) (X := (true == true))
    (show WShape.has [] (.bool true) .bool = true by first | rfl | decide | simp [WShape.has, WShape.arms, WShape.armsAll])
    (show (WTm.eq .res (.lit (.bool true))).value [] { args := args, res := some (.bool true), after := args } = some (.bool (true == true)) from w_eq_bool (w_res rfl) w_lit) rfl

/-! ### the attachment: holds_open's last premise (the goal 'hc' behind k_head) from a wpAny of the law's body -/
/-- the same from a codeAny of the CALL (for a layer whose function contracts speak of calls) -/
theorem attach_call {l : OpenLaw} {n : Nat} {q : Program} {loose : List Str} {XP : (Str → Option Value) → Heap → Prop} {YP : World → Heap → Prop} {d : DefRec}
    (hn : l.most = some n) (hdf : d.params.defaults = [])
    (call : ∀ (w : World) (s₀ s₁ : Shared) (mg mb : Str → Option Value) (fa : Addr) (o : Obj) (pm cd doc : Value) (a : Addr) (vs : List Value) (ns : List Int),
      Ground q loose [] XP w s₀ mg mb s₁.heap → YP w s₁.heap →
      s₁.heap.get? fa = some o → o.data = .func (docDef d.name d.params d.body d.scope pm cd doc) → s₁.heap.CodeRec cd d.name → mg d.name = some (.ref fa) →
      s₁.heap.get? a = some { cls := .type "list", data := .seq vs.toArray } → IntsAre vs ns → ns.length ≤ n → s₁.gens = #[] →
      codeAny (model l.prog w) callerA (.call (.ref fa) ⟨[.ref a], []⟩) (fun r s' => r = .ok (.ret (.bool true)) ∧ OldK s₁.heap s'.heap ∧ s'.os = s₁.os ∧ AllBare s'.gens) s₁) :
    WalkO q loose XP YP l.row.toRowW d [] (fun f vs => PySem.call f vs) := by
  intro w s₀ s₁ mg mb G Y fa o pm cd doc dV kV ho hd hcd hD hmg hg args vals as hpre hlay hrd hwl hlo
  obtain rfl : dV = .none := Dflts.none hD hdf
  obtain rfl : kV = .none := Dflts.noKw hD
  obtain ⟨a, vs, ns, rfl, rfl, hobj, hints, hlen⟩ := script_of hn hpre hwl
  refine enter_call (codeAny_mono (call w s₀ s₁ mg mb fa o pm cd doc a vs ns G Y ho (fd_plain hd) hcd hmg hobj hints hlen hg) fun r s' hq => ?_)
  obtain ⟨rfl, h2, h3, h4⟩ := hq
  exact ⟨.inl ⟨.bool true, .bool true, [], rfl, fun _ => rfl, .bool true, post_true l _, fun _ => ⟨List.Pairwise.nil, fun _ hm => (nomatch hm)⟩⟩, h2, h3, h4⟩

/-! ### rules over ANY heap (no ledger) from facts about the written part K: the library's own take a ledger (News) for what they write -/
section
variable {prog : Program} {w : World} {A : Around} {E : Value → Shared → Prop} {s : Shared} {K : Frag}

/-! the whole heap as the ledger: makes every rule that writes through a ledger a rule over any heap -/
end
end Att

namespace L2
open PySem PySem.Spec PyProof.Rows

theorem vals_ints : ∀ {vs : List Value} {ns : List Int}, IntsAre vs ns → Vals (ns.map V.int) vs
  | _, _, .nil => .nil
  | _, _, .cons n t h => .cons ⟨t, rfl⟩ (vals_ints h)

/-- nothing is tracked but the script, known to the object (or it is an object of the module) -/
def Only (H : Hp) : Prop := ∀ b, H b = none ∨ ∃ o xs, H b = some (.frz o (.lst xs))

/-- THE HEAD: the law's promise, at the heap behind the top. F, the promise of the law's def, may use that base is part of the heap (so K.In base, base.Ns mainGlobals mg stand in Mod) -/
theorem law_call {P : Program} {w : World} {K : PySem.W.Frag} {mg mb : Str → Option Value} {CX : CXT} {k : Nat} {fa a : Addr} {fd : FuncData} {x : Str} {sp : Sp} {s₁ : Shared} {vs : List Value} {ns : List Int}
    (KX : K.In s₁.heap) (hns : s₁.heap.Ns mainGlobals mg) (hb : s₁.heap.Ns builtinsNs mb) (hbb : ∀ x : Str, x ≠ "__name__" → mb x = bootBuiltins x) (hlim : s₁.heap.NoLimit) (hg : s₁.gens = #[])
    (ha : s₁.heap.get? a = some { cls := .type "list", data := .seq vs.toArray }) (hi : IntsAre vs ns) (hl : ns.length ≤ sizeLine) (hr : Room k callerA)
    (F : ∀ base : Heap, K.In base → base.Ns mainGlobals mg → FnOk P w K mg base CX k fa fd [x] sp) (hbind : ∀ (s : Shared) (u : Value), BindsTo s fd ⟨[u], []⟩ [(x, u)])
    (hsp : ∀ H : Hp, Only H → SqL K H a (ns.map V.int) → sp [.ref a] H (fun v _ => v = .bl true) fun _ _ _ => False)
    (hCX : ∀ H e s', CX [] H s₁ (fun _ _ _ => False) e s' → False) :
    codeAny (model P w) callerA (.call (.ref fa) ⟨[.ref a], []⟩) (fun r s' => r = .ok (.ret (.bool true)) ∧ OldK s₁.heap s'.heap ∧ s'.os = s₁.os ∧ AllBare s'.gens) s₁ := by
  have rv := vals_ints hi
  have lenV := hi.length
  -- from an abstract heap in which nothing but the script may be tracked
  have core : ∀ H : Hp, Only H → SqL K H a (ns.map V.int) → HOk P w H s₁.heap → (∀ b, H b ≠ none → b = a) → (H a ≠ none → K.lookup a = none) →
      codeAny (model P w) callerA (.call (.ref fa) ⟨[.ref a], []⟩) (fun r s' => r = .ok (.ret (.bool true)) ∧ OldK s₁.heap s'.heap ∧ s'.os = s₁.os ∧ AllBare s'.gens) s₁ := by
    intro H hO hS hok hA hK
    have base_of : ∀ {b : Addr} {o : Obj}, s₁.heap.get? b = some o → H b = none → (hidT s₁.heap H).get? b = some o := fun e n => hidT_get e n
    have noA : ∀ {b : Addr} {o : Obj} {es : Array DictEntry} {ep : Nat}, s₁.heap.get? b = some o → o.data = .dict es ep → H b = none := fun {b o es ep} e d => by
      cases q : H b with
      | none => rfl
      | some u =>
        have e' : b = a := hA b (by rw [q]; simp)
        subst e'
        rw [ha] at e; cases e
        have d' : Data.seq vs.toArray _ = Data.dict es ep := d
        cases d'
    have nsK : ∀ {b : Addr} {m : Str → Option Value}, s₁.heap.Ns b m → (hidT s₁.heap H).Ns b m := fun {b m} ⟨o, es, ep, e, d, r⟩ => ⟨o, es, ep, base_of e (noA e d), d, r⟩
    have hKb : K.In (hidT s₁.heap H) := fun b o e => base_of (KX b o e) (by
      cases q : H b with
      | none => rfl
      | some u =>
        have e' : b = a := hA b (by rw [q]; simp)
        subst e'
        rw [hK (by rw [q]; simp)] at e; cases e)
    have hM : Mod K mg (hidT s₁.heap H) := ⟨hKb, nsK hns, ⟨mb, nsK hb, hbb⟩, let ⟨mc, h1, h2⟩ := hlim; ⟨mc, nsK h1, h2⟩⟩
    have e0 : Env0 P w K mg (hidT s₁.heap H) callerA [] s₁ H := ⟨rfl, hM, fun b o e => of_hidT e, Nat.le_of_eq (hidT_size _ _), trivial, fun b hb => absurd (show b ∈ ([] : List Addr) from hb) (by simp), hok, .of_eq hg⟩
    refine codeAny_mono ((F _ hKb (nsK hns)).run callerA [] s₁ H ⟨[.ref a], []⟩ [.ref a] [.ref a] _ _ hr e0 (hbind s₁ (.ref a)) (.cons rfl .nil) (hsp H hO hS)) fun r s' h => ?_
    cases r with
    | error e => exact (hCX H e s' h).elim
    | ok fl =>
      cases fl with
      | next => exact False.elim h
      | brk => exact False.elim h
      | cont => exact False.elim h
      | ret u =>
        obtain ⟨v, H', os, bare, un, hok', r', q⟩ := h
        have q' : v = .bl true := q
        subst q'
        obtain rfl : u = Value.bool true := r'
        refine ⟨rfl, OldK.of_keep fun b o e => ?_, os, bare⟩
        cases q : H b with
        | none => exact un.keep b o e q (by intro z; exact absurd (show b ∈ ([] : List Addr) from z) (by simp)) (by simp)
        | some u =>
          rcases hO b with z | ⟨ob, xs, z⟩
          · rw [q] at z; cases z
          · have z2 := un.frzs b ob _ z
            obtain ⟨e1, _⟩ := hok b _ z
            obtain ⟨e2, _⟩ := hok' b _ z2
            rw [e] at e1; cases e1
            exact e2
  cases hk : K.lookup a with
  | some o =>
    -- the script is one of the module's own objects
    have e := KX a o hk
    rw [ha] at e
    cases e
    refine core (fun _ => none) (fun _ => .inl rfl) (.inr ⟨_, vs.toArray, _, hk, rfl, rfl, rfl, by rw [List.size_toArray, lenV]; exact hl, by simpa using rv⟩) (fun b u z => by have z' : (none : Option HO) = some u := z; cases z') (fun b z => absurd rfl z) fun z => absurd rfl z
  | none =>
    refine core (fun b => if b = a then some (.frz { cls := .type "list", data := .seq vs.toArray } (.lst (ns.map V.int))) else none) (fun b => ?_) (.inl (.inr ⟨{ cls := .type "list", data := .seq vs.toArray }, if_pos rfl⟩)) (fun b u z => ?_) (fun b z => ?_) fun _ => hk
    · by_cases hb : b = a
      · exact .inr ⟨_, _, if_pos hb⟩
      · exact .inl (if_neg hb)
    · by_cases hb : b = a
      · have z' := (if_pos hb).symm.trans z
        cases z'
        subst hb
        exact ⟨ha, by rw [List.length_map]; exact hl, vs, _, rv, ha⟩
      · have z' := (if_neg hb).symm.trans z
        cases z'
    · by_cases hb : b = a
      · exact hb
      · exact absurd (if_neg hb) z
end L2

namespace L2
open PySem PySem.Spec PyProof.Rows

/-- the goal that k_head leaves (case hc), from the law's promise. F gives the function object fd (K's own) once, then the promise over every base -/
theorem walk_of {l : PySem.W.OpenLaw} {n k : Nat} {q : Program} {loose : List Str} {XP : (Str → Option Value) → Heap → Prop} {YP : World → Heap → Prop} {d : DefRec} {K : Params → PySem.W.Frag} {CX : World → CXT} {sp : World → Sp} {x : Str}
    (hn : l.most = some n) (hn2 : n ≤ sizeLine) (hdf : d.params.defaults = []) (hr : Room k callerA)
    (hY : ∀ (w : World) (h : Heap), YP w h → (K w.params).In h)
    (F : ∀ (w : World) (mg : Str → Option Value) (fa : Addr) (h : Heap), (K w.params).In h → h.Ns mainGlobals mg → mg d.name = some (.ref fa) →
      ∃ fd : FuncData, (∀ (s : Shared) (u : Value), BindsTo s fd ⟨[u], []⟩ [(x, u)]) ∧
        ∀ base : Heap, (K w.params).In base → base.Ns mainGlobals mg → FnOk l.prog w (K w.params) mg base (CX w) k fa fd [x] (sp w))
    (hsp : ∀ (w : World) (H : Hp) (a : Addr) (ns : List Int), ns.length ≤ n → Only H → SqL (K w.params) H a (ns.map V.int) → sp w [.ref a] H (fun v _ => v = .bl true) fun _ _ _ => False)
    (hCX : ∀ (w : World) (H : Hp) (s : Shared) (e : Value) (s' : Shared), CX w [] H s (fun _ _ _ => False) e s' → False) :
    PySem.W.WalkO q loose XP YP l.row.toRowW d [] (fun f vs => PySem.call f vs) := by
  refine Att.attach_call hn hdf fun w s₀ s₁ mg mb fa o pm cd doc a vs ns G Y ho hd hcd hmg hobj hints hlen hg => ?_
  have KX := hY w _ Y
  obtain ⟨fd, hb, hF⟩ := F w mg fa _ KX G.T.g hmg
  exact law_call KX G.T.g G.T.b G.T.builtins G.T.nolimit hg hobj hints (Nat.le_trans hlen hn2) hr hF hb (fun H hO hS => hsp w H a ns hlen hO hS) fun H e s' => hCX w H s₁ e s'
end L2

/-! SHORT WORDS over the layer: a def of the text, its body, what a loop and a test want. -/
namespace L2
open PySem PySem.Spec PyProof.Rows

/-! ### the text by places -/
def defArgs (s : Stmt) : Arguments := match s with
  | .FunctionDef _ a _ _ _ _ _ _ _ _ => a
  | _ => { posonlyargs := [], args := [], vararg := none, kwonlyargs := [], kw_defaults := [], kwarg := none, defaults := [] }
def defBody (s : Stmt) : List Stmt := match s with
  | .FunctionDef _ _ b _ _ _ _ _ _ _ => b
  | _ => []
def defScope (s : Stmt) : Scope := match s with
  | .FunctionDef _ _ _ _ _ _ sc _ _ _ => sc
  | _ => { kind := .function, names := [], isGenerator := false, isCoroutine := false }

/-! ### no exception leaves a def -/
abbrev CX0 : CXT := fun _ _ _ _ _ _ => False
abbrev E0 : XK := fun _ _ _ => False
theorem pass0 {X : Cx} : Passes CX0 X E0 := fun _ _ _ _ _ _ _ h => h.elim

/-! ### a def (or method) of the text as it stands behind the top -/
structure Fun (K : PySem.W.Frag) (x qual : Str) (st : Stmt) (f : Addr) (fd : FuncData) : Prop where
  ex : ∃ (oc : Value) (od : Option Addr) (kV doc pm : Value) (an : Option Addr) (cdv ct : Value) (osl : Array (Option Value)),
    fd = PySem.W.fnOf x qual (defArgs st) (defBody st) (defScope st) .none kV doc pm an cdv ct ∧ K.lookup f = some ⟨oc, od, .func fd, osl⟩ ∧ PySem.W.codeIn K cdv qual = true
  kp : PySem.W.keepIn K (.ref f) = true
section
variable {P : Program} {w : World} {K : PySem.W.Frag} {mg : Str → Option Value} {base : Heap}
/-- THE RULE for a def: its body as a term of rules, and the reading of that term -/
theorem Fun.ok {x qual : Str} {st : Stmt} {f : Addr} {fd : FuncData} {N ps : List Str} {k : Nat} {sp : Sp} (F : Fun K x qual st f fd) (S : FnScope N ps (defScope st)) (len : ∀ vs H Q E, sp vs H Q E → vs.length = ps.length)
    (hbody : ∀ (cdv : Value) (A : Around) (outer : List Env) (s : Shared) (H : Hp) (vs : List V) (Q : VK) (E : XK), Room k (A.deeper (envOfC qual (defScope st) s.heap.objs.size f cdv)) → sp vs H Q E →
      ∃ t, PSs (cxOf CX0 P w K mg base N qual (defScope st) f cdv A outer s H E).nox (defBody st) t ∧ t { nx := fun _ H' => Q .non H', rt := Q } (start N vs) H) : FnOk P w K mg base CX0 (k + 1) f fd ps sp := by
  obtain ⟨oc, od, kV, doc, pm, an, cdv, ct, osl, rfl, lk, hcd⟩ := F.ex
  refine fn_of lk hcd S len fun A outer s H vs Q E hr hsp => ?_
  obtain ⟨t, h, q⟩ := hbody cdv A outer s H vs Q E hr hsp
  exact ⟨t, h.nox, q⟩
/-- how its arguments bind (no defaults): h is «fun _ _ _ _ _ _ us hl => match us, hl with | [_, _], _ => rfl», one _ a parameter -/
theorem Fun.binds {x qual : Str} {st : Stmt} {f : Addr} {fd : FuncData} {ps : List Str} (F : Fun K x qual st f fd)
    (h : ∀ (kV doc pm : Value) (an : Option Addr) (cdv ct : Value) (us : List Value), us.length = ps.length → bindArgs (PySem.W.fnOf x qual (defArgs st) (defBody st) (defScope st) .none kV doc pm an cdv ct) ⟨us, []⟩ = pure (ps.zip us)) : Binds K fd ps [] := by
  obtain ⟨oc, od, kV, doc, pm, an, cdv, ct, osl, rfl, lk, hcd⟩ := F.ex
  exact .all (h kV doc pm an cdv ct)
theorem fun_mk {x qual : Str} {st : Stmt} {f : Addr} {oc : Value} {od an : Option Addr} {osl : Array (Option Value)} {kV doc pm cdv ct : Value} (l : K.lookup f = some ⟨oc, od, .func (PySem.W.fnOf x qual (defArgs st) (defBody st) (defScope st) .none kV doc pm an cdv ct), osl⟩)
    (c : PySem.W.codeIn K cdv qual = true) (k : PySem.W.keepIn K (.ref f) = true) : Fun K x qual st f (PySem.W.fnOf x qual (defArgs st) (defBody st) (defScope st) .none kV doc pm an cdv ct) := ⟨⟨oc, od, kV, doc, pm, an, cdv, ct, osl, rfl, l, c⟩, k⟩
end
theorem hu_of {A : Around} {k : Nat} (hr : Room k A) : A.units + 1 < cLine := Nat.lt_of_le_of_lt (Nat.add_le_add_left (by decide : 1 ≤ 64) _) hr.units
theorem small1000 {n : Nat} (h : n ≤ 1000) : n < sizeLine := Nat.lt_of_le_of_lt h (by decide)

/-! ### expressions in short: the name that stands in the i-th slot -/
section
variable {X : Cx}
theorem pv (i : Nat) {x : Str} {pos : Pos} (hN : X.N[i]? = some x := by rfl) (hv : Vis X.env.scope x := by first | exact Or.inl rfl | exact Or.inr (Or.inl rfl) | exact Or.inr (Or.inr rfl)) (hd : (x == ("__debug__" : Str)) = false := by decide)
    (hcd : (x == ("__classdict__" : Str)) = false := by decide) : PE X (.Name x pos) (tVar i) := pe_var hN hv hd hcd
end

/-! ### tests -/
theorem iteF {A B : Prop} (h : B) : if false = true then A else B := by
  rw [if_neg Bool.false_ne_true]
  exact h
theorem iteT {A B : Prop} (h : A) : if true = true then A else B := by
  rw [if_pos rfl]
  exact h
theorem iteNS {c A B : Prop} [Decidable c] (hc : c) (h : B) : if (!decide c) = true then A else B := by
  rw [decide_eq_true hc]
  exact iteF h

/-! ### heaps -/
/-- all that was tracked is as it was -/
def Same (H H' : Hp) : Prop := ∀ b o, H b = some o → H' b = some o
theorem Same.trans {H H1 H2 : Hp} (a : Same H H1) (b : Same H1 H2) : Same H H2 := fun c o h => b c o (a c o h)
theorem Same.free {H H' : Hp} (e : Same H H') {l : Addr} (h : H' l = Option.none) : H l = Option.none := by
  cases q : H l with
  | none => rfl
  | some o =>
    rw [e l o q] at h
    cases h
theorem Same.seq {K : PySem.W.Frag} {H H' : Hp} {a : Addr} {xs : List V} (e : Same H H') (h : SqL K H a xs) : SqL K H' a xs := by
  rcases h with (h | ⟨o, h⟩) | h
  · exact .inl (.inl (e _ _ h))
  · exact .inl (.inr ⟨o, e _ _ h⟩)
  · exact .inr h

/-! ### a dict's pairs: keys that differ -/
section
variable {κ : Type} [DecidableEq κ]
end
end L2
/-! SETS OF TEXTS: a set object with the members L -/
namespace SL
open PySem

end SL
namespace SL
open PySem

section
variable {prog : Program} {w : World} {A : Around} {E : Value → Shared → Prop} {s : Shared} {a : Addr} {L : List Str}

end
end SL
namespace SL
open PySem PySem.Spec

section
variable {prog : Program} {w : World} {A : Around} {R : Result → Shared → Prop} {I : Addr} {fp wr : List Addr} {G : Array GenState → Array GenState → Prop} {n : Nat} {P : Nat → Value → Prop} {St : Nat → Shared → Prop}

end

section
variable {prog : Program} {w : World} {A : Around} {E : Value → Shared → Prop} {s : Shared}
end
end SL
namespace SL
open PySem

/-! ### orders -/
section
variable {M : Model} {A : Around} {E : Value → Shared → Prop}
end

/-! ### the table of at most one -/
/-! ### the iterator of a set -/
section
variable {prog : Program} {w : World} {A : Around} {E : Value → Shared → Prop} {s : Shared} {I a tp : Addr} {vs : List Value} {i : Nat}

end
end SL
namespace SL
open PySem PyProof.Rows

/-! ### texts in order -/
section
variable {prog : Program} {w : World} {A : Around} {E : Value → Shared → Prop} {s : Shared}

end
end SL
namespace SL
open PySem PyProof.Rows

section
variable {prog : Program} {w : World} {A : Around} {E : Value → Shared → Prop} {s : Shared} {a : Addr} {L : List Str}

end
end SL
namespace SL
open PySem PyProof.Rows

section
variable {prog : Program} {w : World} {A : Around} {E : Value → Shared → Prop} {s : Shared} {a b r : Addr} {L M : List Str}

end
end SL
/-! LIST COMPREHENSIONS over the hand layer: [elt for target in iter (if c)] -/
namespace L2
open PySem PySem.Spec PyProof.Rows

section
variable {prog : Program} {w : World} {A : Around} {R : Result → Shared → Prop} {s : Shared}
/-- the loop of a comprehension, any target -/
theorem compLoop_any {elt target iter : Expr} {ifs : List Expr} {scope : Scope} {pos : Pos} {it acc : Value} {env : Env} (I : Nat → Shared → Prop)
    (turn : ∀ n s, I n s → wpAny (model prog w) A (pyNext it) (fun r s₁ => match r with
      | none => R (.ok .next) s₁
      | some v => wpAny (model prog w) A (letOwnedTupleGo target it v) (fun _ s₁' => wpAny (model prog w) A (assign target env v) (fun _ s₂ =>
          wpAny (model prog w) A (forIn ifs true fun c r => if r = true then do let ok ← isTrue c env (eval c env); pure (ForInStep.yield ok) else pure (ForInStep.yield r)) (fun ok s₃ =>
            if ok = true then wpAny (model prog w) A (eval elt env) (fun x s₄ =>
              wpAny (model prog w) A (call (.builtin "list.append") [acc, x]) (fun _ s₅ => ∃ m, m < n ∧ I m s₅) (fun _ _ => False) s₄) (fun _ _ => False) s₃
            else ∃ m, m < n ∧ I m s₃) (fun _ _ => False) s₂) (fun _ _ => False) s₁') (fun _ _ => False) s₁) (fun _ _ => False) s)
    (n : Nat) (h : I n s) :
    codeAny (model prog w) A (.compLoop (.ListComp elt [⟨target, iter, ifs, 0⟩] scope pos) 0 it acc env) R s := by
  refine codeAny_loop rfl I (fun n s hI => ?_) n h
  show wpAny _ A ((compTurn (.ListComp elt [⟨target, iter, ifs, 0⟩] scope pos) 0 it acc env).onRaise (fun x => do noteFrame x env; theTreesLotGoes x)) _ _ s
  refine wpAny_noted ?_
  rw [compTurn_list]
  refine wpAny_bind (wpAny_standAt (wpAny_bind (wpAny_mono (turn n s hI) (fun r s₁ h₁ => ?_) fun _ _ h' => h'.elim)))
  cases r with
  | none => exact wpAny_pure h₁
  | some v =>
    refine wpAny_bind (wpAny_mono h₁ (fun _ s₁' h₁' => ?_) fun _ _ h' => h'.elim)
    refine wpAny_bind (wpAny_mono h₁' (fun _ s₂ h₂ => wpAny_bind (wpAny_mono h₂ (fun ok s₃ h₃ => ?_) fun _ _ h' => h'.elim)) fun _ _ h' => h'.elim)
    cases ok with
    | false => exact wpAny_pure ⟨rfl, h₃⟩
    | true =>
      exact wpAny_bind (wpAny_bind (wpAny_mono h₃ (fun x s₄ h₄ => wpAny_bind (wpAny_mono h₄ (fun _ s₅ h₅ => wpAny_pure (wpAny_pure ⟨rfl, h₅⟩)) fun _ _ h' => h'.elim)) fun _ _ h' => h'.elim))
end

/-- the tests of a comprehension: none, or one -/
def PIf (X : Cx) (ifs : List Expr) (t : TT) : Prop :=
  ∀ (pins : List (Addr × Obj)) (s : Shared) (σ : St) (H : Hp) (Q : Bool → Hp → Prop), Inv X pins σ H s → t σ H Q →
    wpAny (model X.prog X.w) X.A (forIn ifs true fun c r => if r = true then do let ok ← isTrue c X.env (eval c X.env); pure (ForInStep.yield ok) else pure (ForInStep.yield r)) (TP X pins σ Q) X.xe s
def tTrue : TT := fun _ H Q => Q true H
theorem pif_nil {X : Cx} : PIf X [] tTrue := fun _ _ _ H _ I h => wpAny_tests_nil ⟨H, I, h⟩
/-- what the block's names hold at its start: its own nothing, the outer ones what they hold outside -/
def selSt (sel : List (Option Nat)) (σ : St) : St := sel.map fun o => match o with
  | some i => (σ[i]?).join
  | none => none

/-- the block's context -/
def cxIn (X : Cx) (scope : Scope) (cl : List (Str × Addr)) (N : List Str) (s₃ : Shared) (H₃ : Hp) (fp : List Addr) : Cx where
  prog := X.prog
  w := X.w
  K := X.K
  mg := X.mg
  base := X.base
  A := X.A
  N := N
  s₀ := s₃
  H₀ := H₃
  env := compEnvC scope cl s₃.heap.objs.size X.env
  outer := X.stack
  stack := X.stack
  ex := fp
  fn := fun _ => false
  calm := X.calm
  pn := []
  xe := fun _ _ => False

/-- what must be seen of the text: the block's scope, its names, the cells that it takes -/
structure CompIn (X : Cx) (scope : Scope) (cl : List (Str × Addr)) (N : List Str) (sel : List (Option Nat)) : Prop where
  clos : closureFor scope X.env = pure cl
  nocell : ∀ y ∈ scope.names, y.2 ≠ .cell
  kind : scope.kind = .function
  locs : ∀ y ∈ scope.names, y.2 = .local → scope.names.lookup y.1 = some .local
  cells : ∀ x c, cl.lookup x = some c → X.env.cells.lookup x = some c
  has : ∀ x, (Vis (relabel scope X.env) x ∧ (relabel scope X.env).names.lookup x ≠ some .local) → ∃ c, cl.lookup x = some c
  len : sel.length = N.length
  names : ∀ (j i : Nat), sel[j]? = some (some i) → ∃ x, X.N[i]? = some x ∧ N[j]? = some x ∧ (Vis X.env.scope x ∧ X.env.scope.names.lookup x ≠ some .local) ∧ (relabel scope X.env).names.lookup x ≠ some .local


/-- the turns of a comprehension: W is kept from turn to turn; the new list stands at D -/
def CompG (sel : List (Option Nat)) (J : It) (D : Addr) (g : TG) (tc : TT) (te : TE) (σ : St) (H1 : Hp) (Q : VK) : Prop :=
  ∃ W : Nat → Nat → St → Hp → Prop, (∃ m, W 0 m (selSt sel σ) (upd H1 D (.lst []))) ∧ ∀ i m τ H2, W i m τ H2 →
    (J.stop i H2 ∧ Q (.ref D) H2) ∨ (J.go i H2 ∧ ∃ N : St → Hp → Prop, (∀ τ' H', N τ' H' → ∃ m', m' < m ∧ W (i + 1) m' τ' H') ∧ ∀ x H3, J.yld i H2 x H3 → g x τ H3 fun τ2 H4 => tc τ2 H4 fun b H5 =>
      if b = true then te τ2 H5 fun y H6 => ∃ ys, H6 D = some (.lst ys) ∧ ys.length < sizeLine ∧ N τ2 (upd H6 D (.lst (ys ++ [y])))
      else N τ2 H5)
/-- [elt for target in iter if c] -/
def tComp (sel : List (Option Nat)) (wi : TI) (g : TG) (tc : TT) (te : TE) : TE := fun σ H Q => wi σ H fun J H1 => ∀ D, H1 D = none → CompG sel J D g tc te σ H1 Q

theorem selSt_get {sel : List (Option Nat)} {σ : St} {j : Nat} {v : V} (h : (selSt sel σ)[j]? = some (some v)) : ∃ i, sel[j]? = some (some i) ∧ σ[i]? = some (some v) := by
  unfold selSt at h
  rw [List.getElem?_map] at h
  cases e : sel[j]? with
  | none => rw [e] at h; cases h
  | some o =>
    rw [e] at h
    cases o with
    | none => cases h
    | some i =>
      refine ⟨i, rfl, ?_⟩
      have h : (σ[i]?).join = some v := by simpa using h
      cases q : σ[i]? with
      | none => rw [q] at h; cases h
      | some o =>
        rw [q] at h
        have h : o = some v := h
        rw [h]

section
variable {X : Cx} {pins : List (Addr × Obj)} {σ : St} {H : Hp} {s : Shared} {scope : Scope} {cl : List (Str × Addr)} {N : List Str} {sel : List (Option Nat)}

/-- the block's context stands -/
theorem CompIn.ok (C : CompIn X scope cl N sel) {s₃ : Shared} {H₃ : Hp} {fp : List Addr} (I : Inv X pins σ H₃ s₃) (hf : ∀ b ∈ fp, FpOk X pins H₃ b) (hlt : ∀ b ∈ fp, b < s₃.heap.objs.size) : (cxIn X scope cl N s₃ H₃ fp).Ok where
  mod := I.ok.mod
  kind := C.kind
  glob := I.ok.glob
  blt := I.ok.blt
  above := Nat.le_refl _
  inj := fun x y c h1 h2 => I.ok.inj x y c (C.cells x c h1) (C.cells y c h2)
  has := fun x hx => C.has x (by
    rcases hx with k | k
    · exact ⟨.inr (.inl k), by rw [show (relabel scope X.env).names.lookup x = some .cell from k]; decide⟩
    · exact ⟨.inr (.inr k), by rw [show (relabel scope X.env).names.lookup x = some .free from k]; decide⟩)
  cab := fun x c h => absurd (show false = true from h) (by decide)
  hd := I.ok.hd
  frames := I.ok.frames
  stk := .inl rfl
  exf := fun b hb => ⟨Nat.ne_of_lt (hlt b hb), fun x c h => (hf b hb).2.2.2.2.1 x c (C.cells x c h)⟩
  bs := I.bs
  bsz := Nat.le_trans I.ok.bsz I.sz
  noex := fun b o e hb => by
    rcases (hf b hb).2.2.2.1 with z | z
    · exact I.ok.noex b o e z
    · exact absurd (Nat.lt_of_lt_of_le (Heap.lt_size (I.ok.bs b o e).1) z) (Nat.lt_irrefl _)
  exfs := fun b hb z => by
    rcases List.mem_cons.mp (I.stkSub b z) with e | e
    · exact (hf b hb).2.1 e
    · exact (hf b hb).2.2.1 e
  funs := I.stack
  frf := I.stkFree

/-- the block begins -/
theorem CompIn.start (C : CompIn X scope cl N sel) {s₃ : Shared} {H₃ : Hp} {fp : List Addr} {h' : Heap} (I : Inv X pins σ H₃ s₃) (hf : ∀ b ∈ fp, FpOk X pins H₃ b) (hlt : ∀ b ∈ fp, b < s₃.heap.objs.size)
    (hn : h'.Ns s₃.heap.objs.size (fun _ => none)) (k : ∀ b o, s₃.heap.get? b = some o → h'.get? b = some o) (tk : Nat) : Inv (cxIn X scope cl N s₃ H₃ fp) [] (selSt sel σ) H₃ { s₃ with heap := h', toks := tk } := by
  refine ⟨C.ok I hf hlt, rfl, I.bare, Un.kept k, ⟨_, hn, fun j x v h1 h2 h3 => ?_⟩, fun x c h => ?_, I.hok.fresh (Nat.le_refl _), fun x c h => I.freeC x c (C.cells x c h), fun p hp => absurd (show p ∈ ([] : List (Addr × Obj)) from hp) (by simp), I.hok.kept k, ?_⟩
  · obtain ⟨i, e1, e2⟩ := selSt_get h2
    obtain ⟨y, n1, n2, ⟨vis, nl⟩, nl'⟩ := C.names j i e1
    have e : x = y := by
      have z : N[j]? = some x := h1
      rw [n2] at z
      exact (Option.some.inj z).symm
    subst e
    obtain ⟨m, hm, hl⟩ := I.loc
    obtain ⟨u, r, l⟩ := hl i x v n1 e2 vis
    rcases l with ⟨k1, _⟩ | ⟨_, c, hc, hcell⟩
    · exact absurd k1 nl
    · refine ⟨u, r, .inr ⟨?_, ?_⟩⟩
      · rcases h3 with z | z | z
        · exact absurd z nl'
        · exact .inl z
        · exact .inr z
      · obtain ⟨c', hc'⟩ := C.has x ⟨h3, nl'⟩
        have e := C.cells x c' hc'
        rw [hc] at e
        cases e
        obtain ⟨o, ho, hd⟩ := hcell
        exact ⟨c, hc', o, k c o ho, hd⟩
  · obtain ⟨v, o, ho, hd⟩ := I.cell x c (C.cells x c h)
    exact ⟨v, o, k c o ho, hd⟩
  · unfold selSt
    rw [List.length_map]
    exact C.len

/-- behind the block: the outer state again; the block's own names may go -/
theorem CompIn.back (C : CompIn X scope cl N sel) {s₃ s' : Shared} {H₃ H' : Hp} {fp : List Addr} {τ : St} {pl : List (Addr × Obj)} (I : Inv X pins σ H₃ s₃) (hf : ∀ b ∈ fp, FpOk X pins H₃ b)
    (J : Inv (cxIn X scope cl N s₃ H₃ fp) pl τ H' s') {h' : Heap} (hs : Heap.SameBut s₃.heap.objs.size s'.heap h') : Inv X pins σ H' { s' with heap := h' } := by
  have fr : H' s₃.heap.objs.size = none := J.free
  have lt : ∀ b o, s₃.heap.get? b = some o → b ≠ s₃.heap.objs.size := fun b o e => Nat.ne_of_lt (Heap.lt_size e)
  have u : Un (frs X.stack) fp H₃ H' s₃.heap h' := by
    have u0 : Un (frs X.stack) fp H₃ H' s₃.heap s'.heap := J.base
    exact ⟨fun b o e n h1 h2 => hs.extBut b o (lt b o e) (u0.keep b o e n h1 h2), fun b o e n h1 h2 => by
        obtain ⟨sl, q⟩ := u0.slot b o e n h1 h2
        exact ⟨sl, hs.extBut b _ (lt b o e) q⟩, u0.free, fun b o e h1 => by
        obtain ⟨o', q⟩ := u0.there b o e h1
        exact ⟨o', hs.extBut b _ (lt b o e) q⟩, u0.tups, u0.frzs, u0.tbls⟩
  refine I.call' (s' := { s' with heap := h' }) (ch := fp) J.os u (fun a o e => ?_) J.bare fun b hb => ⟨(hf b hb).2.2.2.1, (hf b hb).2.1, (hf b hb).2.2.2.2.1, (hf b hb).2.2.2.2.2⟩
  have ne : ∀ b x, H' b = some x → b ≠ s₃.heap.objs.size := fun b x q z => by rw [z, fr] at q; cases q
  refine (J.hok a o e).stay (fun b u hb q => hs.extBut b u ?_ q) (fun _ q => q) fun _ _ q => q
  rcases hb with z | z
  · rw [z]; exact ne a o e
  · exact ne b _ z

/-- the whole of it, ahead of what becomes of the list -/
theorem comp_core (C : CompIn X scope cl N sel) {tg iter elt : Expr} {ifs : List Expr} {wi : TI} {g : TG} {tc : TT} {te : TE} {pos : Pos} (hc : X.calm = true) (hi : PI X tg iter wi)
    (hg : ∀ s₃ H₃ fp, PG (cxIn X scope cl N s₃ H₃ fp) tg g) (ht : ∀ s₃ H₃ fp, PIf (cxIn X scope cl N s₃ H₃ fp) ifs tc) (he : ∀ s₃ H₃ fp, PE (cxIn X scope cl N s₃ H₃ fp) elt te)
    {RR : Value → Addr → Result → Shared → Prop} {R : VK} (I : Inv X pins σ H s) (h : tComp sel wi g tc te σ H R)
    (fin : ∀ D C' H' s' m, R (.ref D) H' → s'.heap.Ns C' m → FpOk X pins H' C' → (∀ h', Heap.SameBut C' s'.heap h' → Inv X pins σ H' { s' with heap := h' }) → RR (.ref D) C' (.ok .next) s') :
    wpAny (model X.prog X.w) X.A (eval iter X.env) (fun x s₁ => wpAny (model X.prog X.w) X.A (pyIter x) (fun it s₂ => wpAny (model X.prog X.w) X.A (newList []) (fun acc s₃ =>
      wpAny (model X.prog X.w) X.A (newFunctionEnv scope X.env.globals cl [] X.env.qual none .none (some X.env)) (fun cenv s₄ =>
        codeAny (model X.prog X.w) X.A (.compStart (.ListComp elt [⟨tg, iter, ifs, 0⟩] scope pos) 0 it acc { cenv with scope := relabel scope X.env }) (RR acc cenv.locals) s₄) X.xe s₃) X.xe s₂) X.xe s₁) X.xe s := by
  refine thn (hi pins s σ H _ I h) fun v s1 h1 => thn h1 fun itv s2 h2 => ?_
  obtain ⟨it, fp, tn, J, H2, e, I2, T, st2, f2, hD⟩ := h2
  subst e
  have frD : H2 s2.heap.objs.size = none := I2.fresh
  obtain ⟨W, ⟨m0, w0⟩, turn⟩ := hD s2.heap.objs.size frD
  refine wpAny_newObj_type ?_
  have I3 : Inv X pins σ (upd H2 s2.heap.objs.size (.lst [])) { s2 with heap := s2.heap.push { cls := .type "list", data := .seq ([] : List Value).toArray }, toks := s2.toks } := I2.lnew (its := []) .nil (Nat.zero_le _)
  have lt2 : ∀ b ∈ fp, b < s2.heap.objs.size := fun b hb => by
    obtain ⟨o, e, _⟩ := T.obj _ _ st2 b hb
    exact Heap.lt_size e
  have f3 : ∀ b ∈ fp, FpOk X pins (upd H2 s2.heap.objs.size (.lst [])) b := fun b hb => ⟨by rw [upd_ne (Nat.ne_of_lt (lt2 b hb))]; exact (f2 b hb).1, (f2 b hb).2⟩
  generalize eH : upd H2 s2.heap.objs.size (.lst []) = H3 at I3 f3 w0
  have hD3 : H3 s2.heap.objs.size = some (.lst []) := by rw [← eH]; exact upd_same
  generalize es : ({ s2 with heap := s2.heap.push { cls := .type "list", data := .seq ([] : List Value).toArray }, toks := s2.toks } : Shared) = s3 at I3
  have st3 : tn 0 s3.heap := by
    rw [← es]
    exact T.keep _ _ _ st2 fun b _ o e => Heap.get?_push_of_some _ e
  have lt3 : ∀ b ∈ fp, b < s3.heap.objs.size := fun b hb => by
    obtain ⟨o, e, _⟩ := T.obj _ _ st3 b hb
    exact Heap.lt_size e
  refine wpAny_newFunctionEnv C.nocell (fun x hx => by simp at hx) (fun h4 hn4 hs4 => ?_) C.kind
  have k4 : ∀ b o, s3.heap.get? b = some o → h4.get? b = some o := fun b o e => hs4.extBut b o (Nat.ne_of_lt (Heap.lt_size e)) (Heap.get?_push_of_some _ e)
  have I4 := C.start (tk := s3.toks + ([] : List (Str × Value)).length) I3 f3 lt3 (by simpa using hn4) k4
  have st4 : tn 0 h4 := T.keep _ _ _ st3 fun b _ o e => k4 b o e
  have stat : ∀ {H' : Hp}, (∀ b ∈ fp, H' b = none) → ∀ b ∈ fp, FpOk (cxIn X scope cl N s3 H3 fp) [] H' b := fun hn b hb =>
    ⟨hn b hb, Nat.ne_of_lt (lt3 b hb), (C.ok I3 f3 lt3).exfs b hb, .inl hb, fun x c h => (f3 b hb).2.2.2.2.1 x c (C.cells x c h), fun p hp => absurd (show p ∈ ([] : List (Addr × Obj)) from hp) (by simp)⟩
  have loop : codeAny (model X.prog X.w) X.A (.compLoop (.ListComp elt [⟨tg, iter, ifs, 0⟩] scope pos) 0 (.ref it) (.ref s2.heap.objs.size) (compEnvC scope cl s3.heap.objs.size X.env)) (RR (.ref s2.heap.objs.size) s3.heap.objs.size)
      { s3 with heap := h4, toks := s3.toks + ([] : List (Str × Value)).length } := by
    refine compLoop_any (fun n s' => ∃ i τ H', Inv (cxIn X scope cl N s3 H3 fp) [] τ H' s' ∧ tn i s'.heap ∧ (∀ b ∈ fp, H' b = none) ∧ W i n τ H') ?_ m0 ⟨0, selSt sel σ, H3, I4, st4, fun b hb => (f3 b hb).1, w0⟩
    rintro n s5 ⟨i, τ5, H5, I5, st5, fr5, w5⟩
    rcases turn i n τ5 H5 w5 with ⟨stop, q⟩ | ⟨go, Nx, hNx, step⟩
    · refine thn (T.done (cxIn X scope cl N s3 H3 fp) rfl rfl rfl hc i [] s5 τ5 H5 _ I5 (stat fr5) st5 stop) fun r s6 ⟨hr, I6⟩ => ?_
      subst hr
      obtain ⟨m6, hn6, _⟩ := id I6.loc
      exact fin _ _ H5 s6 m6 q hn6 (I3.fpOk (Nat.le_refl _) I6.free) fun h' hs' => C.back I3 f3 I6 hs'
    · refine thn (T.item (cxIn X scope cl N s3 H3 fp) rfl rfl rfl hc i [] s5 τ5 H5 _ I5 (stat fr5) st5 go) fun r s6 ⟨u, hr, h6⟩ => ?_
      subst hr
      refine thn h6 fun _ s7 ⟨x, H7, I7, r7, y7, st7, fr7⟩ => ?_
      have I7' := I7.pinned (stat fr7) (T.obj _ _ st7)
      have keepT : ∀ {τ' : St} {H' : Hp} {s' : Shared}, Inv (cxIn X scope cl N s3 H3 fp) ([] ++ pinsAt fp s7.heap) τ' H' s' → tn (i + 1) s'.heap ∧ ∀ b ∈ fp, H' b = none := fun {τ' H' s'} Iz =>
        ⟨T.keep _ _ _ st7 fun b hb o e => (Iz.pin (b, o) (List.mem_append_right _ (List.mem_append_right _ (mem_pinsAt hb e)))).1, fun b hb => by
          obtain ⟨o, e, d⟩ := T.obj _ _ st7 b hb
          exact (Iz.pin (b, o) (List.mem_append_right _ (List.mem_append_right _ (mem_pinsAt hb e)))).2.1⟩
      refine thn (hg s3 H3 fp _ s7 τ5 H7 x u _ I7' r7 (step x H7 y7)) fun _ s8 ⟨τ8, H8, I8, q8⟩ => ?_
      refine thn (ht s3 H3 fp _ s8 τ8 H8 _ I8 q8) fun ok s9 ⟨H9, I9, q9⟩ => ?_
      cases ok with
      | false =>
        obtain ⟨m', hm, w9⟩ := hNx _ _ (show Nx τ8 H9 from q9)
        exact ⟨m', hm, i + 1, τ8, H9, I9.unpinned, (keepT I9).1, (keepT I9).2, w9⟩
      | true =>
        have q9 : te τ8 H9 _ := q9
        refine thn (he s3 H3 fp _ s9 τ8 H9 _ I9 q9) fun y s10 ⟨yv, H10, I10, r10, q10⟩ => ?_
        obtain ⟨ys, hys, hl, n10⟩ := q10
        obtain ⟨m', hm, w10⟩ := hNx _ _ n10
        refine thn (mt_append (X := cxIn X scope cl N s3 H3 fp) _ s10 τ8 H10 (.ref s2.heap.objs.size) [yv] (.ref s2.heap.objs.size) [y] (fun _ H' => W (i + 1) m' τ8 H') I10 rfl (.cons r10 .nil) ⟨_, ys, yv, rfl, rfl, hys, hl, w10⟩) fun _ s11 ⟨_, H11, I11, _, w11⟩ => ?_
        exact ⟨m', hm, i + 1, τ8, H11, I11.unpinned, (keepT I11).1, (keepT I11).2, w11⟩
  exact codeAny_compStart_list loop (T.self X.A 0 _ _ _ st4 loop)

/-- [elt for target in iter if c] as a value -/
theorem pe_comp (C : CompIn X scope cl N sel) {tg iter elt : Expr} {ifs : List Expr} {wi : TI} {g : TG} {tc : TT} {te : TE} {pos : Pos} (hc : X.calm = true) (hi : PI X tg iter wi)
    (hg : ∀ s₃ H₃ fp, PG (cxIn X scope cl N s₃ H₃ fp) tg g) (ht : ∀ s₃ H₃ fp, PIf (cxIn X scope cl N s₃ H₃ fp) ifs tc) (he : ∀ s₃ H₃ fp, PE (cxIn X scope cl N s₃ H₃ fp) elt te)
    (hs : ∀ x, foldedSetIterable iter X.env x = pure x := by intro _; rfl) : PE X (.ListComp elt [⟨tg, iter, ifs, 0⟩] scope pos) (tComp sel wi g tc te) := by
  intro pins s σ H Q I h
  rw [eval_ListComp]
  refine wpAny_comprehension_free (use := none) rfl hs C.clos C.kind C.locs (comp_core C hc hi hg ht he I h (R := Q) fun D C' H' s' m q hn _ back => ?_)
  exact ⟨m, hn, fun h' hs' => ⟨.ref D, H', back h' hs', rfl, q⟩⟩

/-- name = [elt for target in iter if c] -/
theorem ps_setcomp (C : CompIn X scope cl N sel) {tg iter elt : Expr} {ifs : List Expr} {wi : TI} {g : TG} {tc : TT} {te : TE} {pos spos py : Pos} {y : Str} {k : Nat} (hc : X.calm = true) (hN : X.N.Nodup) (hk : X.N[k]? = some y) (hy : Loc X.env.scope y) (hi : PI X tg iter wi)
    (hg : ∀ s₃ H₃ fp, PG (cxIn X scope cl N s₃ H₃ fp) tg g) (ht : ∀ s₃ H₃ fp, PIf (cxIn X scope cl N s₃ H₃ fp) ifs tc) (he : ∀ s₃ H₃ fp, PE (cxIn X scope cl N s₃ H₃ fp) elt te)
    (hsw : swapsWith (.ListComp elt [⟨tg, iter, ifs, 0⟩] scope pos) (some (.Name y py)) spos.line X.env = pure true := by rfl)
    (hs : ∀ x, foldedSetIterable iter X.env x = pure x := by intro _; rfl) (hf : X.fn y = true ∨ X.env.scope.names.lookup y = some .local := by first | exact .inl rfl | exact .inr rfl | assumption) :
    PS X (.Assign [.Name y py] (.ListComp elt [⟨tg, iter, ifs, 0⟩] scope pos) spos) (tAsg (tComp sel wi g tc te) (gName k)) := by
  intro pins s σ H D I h
  rw [exec_Assign_Name_used _ _ _ _ hsw]
  refine wpAny_bind (wpAny_standAt (wpAny_bind ?_))
  show wpAny _ X.A (do let _ ← comprehension (.ListComp elt [⟨tg, iter, ifs, 0⟩] scope pos) scope X.env _ (newList []) false (eval iter X.env) (some (assign (.Name y py) X.env))) _ _ s
  refine wpAny_bind (wpAny_mono (wpAny_comprehension_free (use := some (assign (.Name y py) X.env)) (Q := fun _ s' => SP X pins D .next s') rfl hs C.clos C.kind C.locs
    (comp_core C hc hi hg ht he I h (R := fun x H1 => D.nx (σ.set k (some x)) H1) fun D' C' H' s' m q hn fC back => ?_)) (fun _ s' hq => wpAny_pure (wpAny_pure hq)) fun _ _ e => e)
  show wpAny (model X.prog X.w) X.A (assign (.Name y py) X.env (.ref D')) _ _ s'
  have I' : Inv X pins σ H' s' := back s'.heap (.refl ..)
  obtain ⟨oC, hoC, hdC⟩ : ∃ o, s'.heap.get? C' = some o ∧ ∀ v, o.data ≠ .cell v := by
    obtain ⟨o, es, ep, ho, hd, _⟩ := id hn
    exact ⟨o, ho, fun v z => by rw [hd] at z; cases z⟩
  have I'' : Inv X (pins ++ [(C', oC)]) σ H' s' := I'.pins_of fun p hp => by
    rcases List.mem_append.mp hp with z | z
    · exact I'.pin p (List.mem_append_right _ z)
    · have e : p = (C', oC) := by simpa using z
      subst e
      exact ⟨hoC, fC.1, fC.2.1, fC.2.2.1, hdC⟩
  refine wpAny_assign_Name (store_ok I'' hN hk hy (v := .ref D') rfl (fun s2 I2 => ?_) hf)
  have p2 := I2.pin (C', oC) (List.mem_append_right _ (List.mem_append_right _ (by simp)))
  refine ⟨m, ?_, fun h' hs' => ⟨σ.set k (some (.ref D')), H', ?_, q⟩⟩
  · obtain ⟨o, es, ep, ho, r⟩ := hn
    rw [hoC] at ho; cases ho
    exact ⟨oC, es, ep, p2.1, r⟩
  · exact I2.unpinned.turned (t' := s2.toks) (fun b o hb e => hs'.extBut b o hb e) fC.1 fC.2.1 fC.2.2.2.1 fC.2.2.2.2.1 fC.2.2.2.2.2
end
end L2
/-! RULES over the hand layer: sets of texts, sorted, all, sum, walks over dicts -/
namespace L2
open PySem PySem.Spec PyProof.Rows

section
variable {X : Cx} {pins : List (Addr × Obj)} {σ : St} {H : Hp} {s : Shared}
theorem strs_of : ∀ {ss : List Str} {us : List Value}, Vals (ss.map V.str) us → StrsAre us ss
  | [], us, h => by cases h; exact .nil
  | x :: r, us, h => by
    cases h with
    | cons e t =>
      obtain ⟨tk, rfl⟩ := e
      exact .cons x tk (strs_of t)
theorem vals_strs : ∀ {us : List Value} {ss : List Str}, StrsAre us ss → Vals (ss.map V.str) us
  | _, _, .nil => .nil
  | _, _, .cons x t h => .cons ⟨t, rfl⟩ (vals_strs h)
end

section
variable {X : Cx}
/-- all(xs), a list of bools -/
theorem call_all (hc : X.calm = true) : CallR X (.builtin "all") (fun xs H Q => ∃ (p : Addr) (bs : List Bool), xs = [.ref p] ∧ SqL X.K H p (bs.map V.bl) ∧ Q (.bl (bs.all id)) H) := by
  intro pins s σ H xs us Q I r h
  obtain ⟨p, bs, rfl, hq, q⟩ := h
  obtain ⟨u, rfl, rx⟩ := vals1 r
  cases rx
  obtain ⟨its, r', pl, hz⟩ := I.list hq
  have hplt : p < s.heap.objs.size := by
    obtain ⟨o, n, e, _⟩ := pl
    exact Heap.lt_size e
  have hb : ∀ (i : Nat) (v : Value), its.toArray[i]? = some v → v = .bool (bs.getD i true) ∧ i < bs.length := fun i v e => by
    have e : its[i]? = some v := by simpa using e
    cases q1 : (bs.map V.bl)[i]? with
    | none =>
      have := Vals.none_of r' q1
      rw [this] at e; cases e
    | some x =>
      obtain ⟨u, h1, h2⟩ := Vals.get r' q1
      rw [e] at h1; cases h1
      rw [List.getElem?_map] at q1
      cases q2 : bs[i]? with
      | none => rw [q2] at q1; cases q1
      | some b =>
        rw [q2] at q1
        have q1 : some (V.bl b) = some x := q1
        injection q1 with q1
        subst q1
        cases h2
        rw [List.getD_eq_getElem?_getD, q2]
        exact ⟨rfl, (List.getElem?_eq_some_iff.mp q2).1⟩
  have hl : its.length = bs.length := by
    have := r'.length
    rw [List.length_map] at this
    exact this.symm
  refine call_all_walk (wpAny_pyIter_list pl.isList ?_)
  refine ⟨s.heap.objs.size, _, _, _, _, _, fun i => bs.getD i true, rfl, Walks.list (show X.A.in1.handled = none from I.ok.hd hc) s.heap.objs.size p (Nat.ne_of_lt hplt) its.toArray, ⟨⟨_, Heap.get?_push_size _ rfl, rfl, rfl⟩, pl.isList.push _⟩, ?_, fun h' tk k => ?_⟩
  · intro i v s' Q' E' hP h'
    obtain ⟨rfl, _⟩ := hb i v hP
    exact wpAny_truthy_bool h'
  · have e : ((List.range its.toArray.size).all fun i => bs.getD i true) = bs.all id := by
      rw [List.size_toArray, hl, Bool.eq_iff_iff, List.all_eq_true, List.all_eq_true]
      constructor
      · intro z b hb'
        obtain ⟨i, hi, e⟩ := List.mem_iff_getElem.mp hb'
        have := z i (List.mem_range.mpr hi)
        rw [List.getD_eq_getElem?_getD, List.getElem?_eq_getElem hi] at this
        rw [← e]; exact this
      · intro z i hi
        have hi := List.mem_range.mp hi
        rw [List.getD_eq_getElem?_getD, List.getElem?_eq_getElem hi]
        exact z _ (List.getElem_mem hi)
    rw [e]
    refine ⟨.bl _, H, I.kept (t' := tk) fun b o z => ?_, rfl, q⟩
    exact k b o (by simp only [List.mem_singleton]; exact Nat.ne_of_lt (Heap.lt_size z)) (Heap.get?_push_of_some _ z)

end
end L2
/-! RULES: walks over dicts, items, isinstance, == of lists, rows -/
namespace L2
open PySem PySem.Spec PyProof.Rows

/-! ### for k in d: d is frozen from then on -/
section
variable {X : Cx} {tg : Expr}
/-! ### d.items(), list(d.items()) -/
end
end L2
namespace L2
open PySem PySem.Spec PyProof.Rows
section
variable {X : Cx}
/-! ### isinstance -/
theorem call_isi : CallR X (.builtin "isinstance") (fun xs H Q => ∃ x c t b, xs = [x, .ty c] ∧ TyOf X.K H x t ∧ PySem.W.kitOne X.K t (.type c) = some b ∧ Q (.bl b) H) := by
  intro pins s σ H xs us Q I r h
  obtain ⟨x, c, t, b, rfl, ty, e, q⟩ := h
  obtain ⟨u, w', rfl, rx, ry⟩ := vals2 r
  cases ry
  exact isinst_ok I rx ty e fun tk => ⟨.bl b, H, I.tok tk, rfl, q⟩
/-- isinstance(x, (c, ..)) -/
theorem call_isiT : CallR X (.builtin "isinstance") (fun xs H Q => ∃ (x : V) (tp : Addr) (cs : List String) (t : Value) (b : Bool), xs = [x, .ref tp] ∧ H tp = some (.tup (cs.map V.ty)) ∧ TyOf X.K H x t ∧ PySem.W.kitAny X.K t (cs.map Value.type) = some b ∧ Q (.bl b) H) := by
  intro pins s σ H xs us Q I r h
  obtain ⟨x, tp, cs, t, b, rfl, htp, ty, e, q⟩ := h
  obtain ⟨u, w', rfl, rx, ry⟩ := vals2 r
  cases ry
  obtain ⟨_, its, rv, ⟨o, ho, hoc, n, hod⟩⟩ := I.hok tp _ htp
  have ei : its = cs.map Value.type := by
    clear e htp ho hod
    have : ∀ (cs : List String) (its : List Value), Vals (cs.map V.ty) its → its = cs.map Value.type := by
      intro cs
      induction cs with
      | nil => intro its h; cases h; rfl
      | cons c r ih =>
        intro its h
        cases h with
        | cons h1 h2 =>
          have h1 : _ = Value.type c := h1
          rw [h1, ih _ h2]; rfl
    exact this cs its rv
  obtain ⟨oc, od, odt, osl⟩ := o
  simp only at hoc hod
  subst hoc; subst hod
  rw [ei] at ho
  have fin : ∀ tk, EP X pins σ Q (.bool b) { s with toks := tk } := fun tk => ⟨.bl b, H, I.tok tk, rfl, q⟩
  cases ty with
  | non => cases (show u = Value.none from rx); exact PySem.W.kia_tup PySem.W.kitx_none I.kIn True.intro ho e (fun z => nomatch z) fin
  | bl y => cases (show u = Value.bool y from rx); exact PySem.W.kia_tup PySem.W.kitx_bool I.kIn True.intro ho e (fun z => nomatch z) fin
  | int i => obtain ⟨t, q⟩ := (show ∃ t, u = Value.int i t from rx); cases q; exact PySem.W.kia_tup PySem.W.kitx_int I.kIn True.intro ho e (fun z => nomatch z) fin
  | str y => obtain ⟨t, q⟩ := (show ∃ t, u = Value.str y t from rx); cases q; exact PySem.W.kia_tup PySem.W.kitx_str I.kIn True.intro ho e (fun z => nomatch z) fin
  | flt y => obtain ⟨t, q⟩ := (show ∃ t, u = Value.float y t from rx); cases q; exact PySem.W.kia_tup PySem.W.kitx_float I.kIn True.intro ho e (fun z => nomatch z) fin
  | @lst a xs ea =>
    cases (show u = Value.ref a from rx)
    obtain ⟨_, _, n, _, h1⟩ := (show ObjOk X.prog X.w H s.heap a (.lst xs) from I.hok a _ ea)
    exact PySem.W.kia_tup PySem.W.kitx_list I.kIn ⟨_, h1, rfl⟩ ho e (fun z => nomatch z) fin
  | @frz a ob xs ea =>
    cases (show u = Value.ref a from rx)
    obtain ⟨_, _, _, n, _, h1⟩ := (show ObjOk X.prog X.w H s.heap a (.frz ob (.lst xs)) from I.hok a _ ea)
    exact PySem.W.kia_tup PySem.W.kitx_list I.kIn ⟨_, h1, rfl⟩ ho e (fun z => nomatch z) fin
  | @tup a xs ea =>
    cases (show u = Value.ref a from rx)
    obtain ⟨_, _, _, p⟩ := (show ObjOk X.prog X.w H s.heap a (.tup xs) from I.hok a _ ea)
    obtain ⟨o, h1, h2, _⟩ := p
    exact PySem.W.kia_tup PySem.W.kitx_tuple I.kIn ⟨o, h1, h2⟩ ho e (fun z => nomatch z) fin
  | @dK a kvs ea =>
    cases (show u = Value.ref a from rx)
    obtain ⟨_, _, vs, _, p⟩ := (show ObjOk X.prog X.w H s.heap a (.dK kvs) from I.hok a _ ea)
    obtain ⟨o, es, ep, h1, h2, _⟩ := p
    exact PySem.W.kia_tup PySem.W.kitx_dict I.kIn ⟨o, h1, h2.1⟩ ho e (fun z => nomatch z) fin
  | @dT a kvs ea =>
    cases (show u = Value.ref a from rx)
    obtain ⟨_, _, xs, _, o, es, ep, h1, h2, _⟩ := (show ObjOk X.prog X.w H s.heap a (.dT kvs) from I.hok a _ ea)
    exact PySem.W.kia_tup PySem.W.kitx_dict I.kIn ⟨o, h1, h2.1⟩ ho e (fun z => nomatch z) fin
  | @ins a C dx fs ea cl ha hn htk hm =>
    cases (show u = Value.ref a from rx)
    obtain ⟨mA, O, _⟩ := ins_get I.hok ea
    obtain ⟨od, J, _⟩ := O.look
    exact PySem.W.kia_tup (PySem.W.kitx_own (cl.get _) cl.hd ha hn htk hm) I.kIn J ho e (fun z => nomatch z) fin

/-! ### == and != of lists -/
end
end L2
namespace L2
open PySem PySem.Spec PyProof.Rows
section
variable {X : Cx}
theorem op_neNil (hu : X.A.units < cLine) : OpR X (compareOp .NotEq) (fun x y H Q => ∃ a b xs, x = .ref a ∧ y = .ref b ∧ SqL X.K H a xs ∧ SqL X.K H b [] ∧ Q (.bl (!xs.isEmpty)) H) := by
  intro pins s σ H x y v u Q I rx ry h
  obtain ⟨a, b, xs, rfl, rfl, h1, h2, q⟩ := h
  cases rx
  cases ry
  obtain ⟨its, r, pl, hz⟩ := I.list h1
  obtain ⟨its2, r2, pl2, hz2⟩ := I.list h2
  cases r2
  have hl := r.length
  cases xs with
  | nil =>
    cases r
    refine SeqAt.RcNeAt.lists (e := fun _ => true) pl.isList pl2.isList rfl hu (fun j h1 h2 => absurd h1 (by simp)) X.prog X.w _ _ ?_
    exact ⟨.bl false, H, I, rfl, q⟩
  | cons x xr =>
    refine SeqAt.RcNeAt.lists_lengths pl.isList pl2.isList ?_ hu X.prog X.w _ _ ?_
    · simp only [List.size_toArray]
      rw [← hl]
      simp
    · exact ⟨.bl true, H, I, rfl, q⟩
end

/-! ### rows in the heap -/
abbrev Row := Str × List Str
def StrsAt (H : Hp) (a : Addr) (ss : List Str) : Prop := H a = some (.lst (ss.map V.str))
def RowAt (H : Hp) (v : V) (p : Row) : Prop := ∃ t b, v = .ref t ∧ H t = some (.tup [.str p.1, .ref b]) ∧ StrsAt H b p.2
def RowsAt (H : Hp) (a : Addr) (R : List Row) : Prop := ∃ vs, H a = some (.lst vs) ∧ Paired (RowAt H) vs R
theorem StrsAt.mono {H H' : Hp} (e : Same H H') {a : Addr} {ss : List Str} (h : StrsAt H a ss) : StrsAt H' a ss := e _ _ h
theorem RowAt.mono {H H' : Hp} (e : Same H H') {v : V} {p : Row} (h : RowAt H v p) : RowAt H' v p := by
  obtain ⟨t, b, h1, h2, h3⟩ := h
  exact ⟨t, b, h1, e _ _ h2, h3.mono e⟩
theorem paired_get {α β : Type} {F : α → β → Prop} : ∀ {l₁ : List α} {l₂ : List β}, Paired F l₁ l₂ → ∀ (i : Nat) (x : α), l₁[i]? = some x → ∃ y, l₂[i]? = some y ∧ F x y
  | _, _, .nil, i, x, e => by simp at e
  | _, _, .cons h _, 0, x, e => by simp at e; subst e; exact ⟨_, rfl, h⟩
  | _, _, .cons _ t, i + 1, x, e => by
    obtain ⟨y, h1, h2⟩ := paired_get t i x (by simpa using e)
    exact ⟨y, by simpa using h1, h2⟩
theorem paired_snoc {α β : Type} {F : α → β → Prop} : ∀ {l₁ : List α} {l₂ : List β}, Paired F l₁ l₂ → ∀ {x : α} {y : β}, F x y → Paired F (l₁ ++ [x]) (l₂ ++ [y])
  | _, _, .nil, x, y, h => .cons h .nil
  | _, _, .cons h t, x, y, h' => .cons h (paired_snoc t h')
theorem Same.upd {H : Hp} {a : Addr} {o : HO} (h : H a = none) : Same H (upd H a o) := fun b u e => by rw [upd_ne (ne_of_none e h)]; exact e
/-- written at a place that was not there at the start -/
theorem Same.updS {H H1 : Hp} {a : Addr} {o : HO} (e : Same H H1) (h : H a = none) : Same H (L2.upd H1 a o) := fun b u q => by rw [upd_ne (ne_of_none q h)]; exact e b u q

section
variable {A : Around} {s : Shared} {P : Program} {w : World} {H : Hp}
end

section
variable {X : Cx}
end
end L2
namespace L2
open PySem PySem.Spec PyProof.Rows
/-! ### comprehensions in short -/
theorem lookup_mem {α β : Type} [BEq α] [LawfulBEq α] : ∀ {l : List (α × β)} {a : α} {b : β}, l.lookup a = some b → (a, b) ∈ l
  | [], _, _, h => by cases h
  | (x, y) :: r, a, b, h => by
    rw [List.lookup_cons] at h
    cases e : a == x with
    | true =>
      rw [e] at h
      have h : some y = some b := h
      injection h with h
      rw [eq_of_beq e, h]
      exact List.mem_cons_self ..
    | false =>
      rw [e] at h
      exact List.mem_cons_of_mem _ (lookup_mem h)
theorem trueT {σ : St} {H : Hp} {A B : Hp → Prop} (h : A H) : tTrue σ H (fun b H' => if b = true then A H' else B H') := by
  show if true = true then A H else B H
  rw [if_pos rfl]
  exact h
section
variable {sel : List (Option Nat)} {g : TG} {tc : TT} {te : TE} {σ : St} {H : Hp} {Q : VK}
/-- over a list that the block leaves as it is; Pv: turn, the block's names, heap; the new list stands at D -/
theorem comp_list {K : PySem.W.Frag} {a D : Addr} {xs : List V} (Pv : Nat → St → Hp → Prop) (h0 : Pv 0 (selSt sel σ) (upd H D (.lst [])))
    (hl : ∀ i τ H1, Pv i τ H1 → SqL K H1 a xs)
    (hs : ∀ i x τ H1, xs[i]? = some x → Pv i τ H1 → g x τ H1 fun τ2 H4 => tc τ2 H4 fun b H5 => if b = true then te τ2 H5 fun y H6 => ∃ ys, H6 D = some (.lst ys) ∧ ys.length < sizeLine ∧ Pv (i + 1) τ2 (upd H6 D (.lst (ys ++ [y]))) else Pv (i + 1) τ2 H5)
    (hd : ∀ τ H1, Pv xs.length τ H1 → Q (.ref D) H1) :
    CompG sel (Itl K a) D g tc te σ H Q := by
  refine ⟨fun i m τ H1 => Pv i τ H1 ∧ i ≤ xs.length ∧ m = xs.length - i, ⟨_, h0, Nat.zero_le _, rfl⟩, ?_⟩
  rintro i m τ H2 ⟨p, hi, hm⟩
  have sq := hl i τ H2 p
  rcases Nat.lt_or_ge i xs.length with hlt | hge
  · refine .inr ⟨⟨xs, xs[i], sq, List.getElem?_eq_getElem hlt⟩, Pv (i + 1), fun τ' H' n => ⟨xs.length - (i + 1), by omega, n, hlt, rfl⟩, ?_⟩
    rintro x H3 ⟨rfl, hx⟩
    exact hs i x τ _ (hx xs sq) p
  · have e : i = xs.length := by omega
    subst e
    exact .inl ⟨⟨xs, sq, Nat.le_refl _⟩, hd τ H2 p⟩
/-- one name, no test -/
theorem comp_list1 {K : PySem.W.Frag} {a D : Addr} {xs : List V} {n : Nat} (Pv : Nat → St → Hp → Prop) (h0 : Pv 0 (selSt sel σ) (upd H D (.lst [])))
    (hl : ∀ i τ H1, Pv i τ H1 → SqL K H1 a xs)
    (hs : ∀ i x τ H1, xs[i]? = some x → Pv i τ H1 → te (τ.set n (some x)) H1 fun y H6 => ∃ ys, H6 D = some (.lst ys) ∧ ys.length < sizeLine ∧ Pv (i + 1) (τ.set n (some x)) (upd H6 D (.lst (ys ++ [y]))))
    (hd : ∀ τ H1, Pv xs.length τ H1 → Q (.ref D) H1) : CompG sel (Itl K a) D (gName n) tTrue te σ H Q :=
  comp_list Pv h0 hl (fun i x τ H1 e p => iteT (B := Pv (i + 1) (τ.set n (some x)) H1) (hs i x τ H1 e p)) hd
end
end L2
namespace L2
open PySem PySem.Spec PyProof.Rows
theorem lookup_mapk {β : Type} (g : Str → NameKind → NameKind) : ∀ (l : List (Str × NameKind)) (x : Str), (l.map fun y => (y.1, g y.1 y.2)).lookup x = (l.lookup x).map (g x)
  | [], x => rfl
  | (n, k) :: r, x => by
    rw [List.map_cons, List.lookup_cons, List.lookup_cons]
    cases e : x == n with
    | true =>
      dsimp only
      rw [eq_of_beq e]; rfl
    | false => exact lookup_mapk (β := β) g r x
theorem relabel_lookup (scope : Scope) (env : Env) (x : Str) : (relabel scope env).names.lookup x = (scope.names.lookup x).map fun k => if (k == NameKind.free && env.scope.kind == .function && env.kindOf x == some .cell) = true then NameKind.cell else k := by
  have e : (relabel scope env).names = scope.names.map fun y => (y.1, (fun n k => if (k == NameKind.free && env.scope.kind == .function && env.kindOf n == some .cell) = true then NameKind.cell else k) y.1 y.2) := by
    unfold relabel
    refine List.map_congr_left fun y _ => ?_
    obtain ⟨n, k⟩ := y
    dsimp only
    split <;> rfl
  rw [e, lookup_mapk (β := Unit) (fun n k => if (k == NameKind.free && env.scope.kind == .function && env.kindOf n == some .cell) = true then NameKind.cell else k)]
end L2
/-! GRAMMARS: rows, the sorts that can be made, reached, begun -/
namespace Gram
variable {α : Type} [DecidableEq α]

/-! ### counting -/
end Gram
/-! texts: join, split, the signs one by one, parts; lists: insert -/
namespace L2
open PySem PySem.Spec PyProof.Rows PySem.Builtin PySem.Builtin.Str
section
variable {X : Cx}
/-! ### sep.join(list of texts) -/
def rJoin (K : PySem.W.Frag) : V → List V → Hp → VK → Prop := fun x vs H Q => ∃ sep l ys, x = .str sep ∧ vs = [.ref l] ∧ SqL K H l (ys.map V.str) ∧ (ys.map (·.length)).sum + ys.length * sep.length ≤ 16777216 ∧ Q (.str (Txt.join sep ys)) H
theorem mt_join : MtR X "str.join" (rJoin X.K) := by
  intro pins s σ H x vs v us Q I rx rv h
  obtain ⟨sep, l, ys, rfl, rfl, hq, hok, q⟩ := h
  obtain ⟨t, rfl⟩ := rx
  obtain ⟨u, rfl, ru⟩ := rv.one
  cases ru
  obtain ⟨its, r, pl, hz⟩ := I.list hq
  exact join_list (items := its.toArray) pl.isList (ys := ys) (strs_of r) hok fun t' k => ⟨.str _, H, I.tok k, ⟨_, rfl⟩, q⟩
/-! ### x.split(sep) -/
def rSplit : V → List V → Hp → VK → Prop := fun x vs H Q => ∃ y sep, x = .str y ∧ vs = [.str sep] ∧ (sep.length == 0) = false ∧ y.length ≤ sizeLine ∧ (Txt.split y sep).length ≤ sizeLine ∧ ∀ p, H p = none → Q (.ref p) (upd H p (.lst ((Txt.split y sep).map V.str)))
theorem strsAre_strValues : ∀ l : List (Str × Tok), StrsAre (strValues l) (l.map (·.1))
  | [] => .nil
  | (y, t) :: r => .cons y t (strsAre_strValues r)
theorem mt_split : MtR X "str.split" rSplit := by
  intro pins s σ H x vs v us Q I rx rv h
  obtain ⟨y, sep, rfl, rfl, hs, hx, hn, q⟩ := h
  obtain ⟨t, rfl⟩ := rx
  obtain ⟨w, rfl, ru⟩ := rv.one
  obtain ⟨u, rfl⟩ := ru
  have key : ∀ (l : List (Str × Tok)) (k : Nat), l.map (·.1) = Txt.split y sep → EP X pins σ Q (.ref s.heap.objs.size) { s with toks := k, heap := s.heap.push { cls := .type "list", data := .seq (strValues l).toArray } } := fun l k e => by
    refine ⟨.ref s.heap.objs.size, upd H s.heap.objs.size (.lst ((Txt.split y sep).map V.str)), I.lnew (its := strValues l) (by rw [← e]; exact vals_strs (strsAre_strValues l)) (by rw [List.length_map]; exact hn), rfl, q _ I.fresh⟩
  cases h1 : (decide (y.length < sep.length) || decide (strKind y < strKind sep))
  · cases hf : (occurrences y sep 0 y.length (y.length + 1)).isEmpty
    · have es : Txt.split y sep = partsBetween y (occurrences y sep 0 y.length (y.length + 1)) sep.length := by
        unfold Txt.split
        rw [if_neg (ne_true_of_eq_false h1), if_neg (ne_true_of_eq_false hf)]
      refine call_meets F.slot_str_split (typeIs_str _ _ _) F.entry_str_split (F.args_str_split_2 _ _) (meets_str_split_sep y sep t u h1 hs hf hx (by rw [← es]; exact hn)) ?_
      show wants _ _ _ { s with toks := _, heap := s.heap.push { cls := .type "list", data := .seq (strsFrom s.toks (partsBetween y (occurrences y sep 0 y.length (y.length + 1)) sep.length)).toArray } }
      rw [strsFrom_eq]
      exact key (numbered s.toks _) _ ((numbered_texts _ _).trans es.symm)
    · have es : Txt.split y sep = [y] := by
        unfold Txt.split
        rw [if_neg (ne_true_of_eq_false h1), if_pos hf]
      exact call_meets F.slot_str_split (typeIs_str _ _ _) F.entry_str_split (F.args_str_split_2 _ _) (meets_str_split_not_found y sep t u h1 hs hf) (key [(y, t)] s.toks es.symm)
  · have es : Txt.split y sep = [y] := by
      unfold Txt.split
      rw [if_pos h1]
    exact call_meets F.slot_str_split (typeIs_str _ _ _) F.entry_str_split (F.args_str_split_2 _ _) (meets_str_split_cannot_occur y sep t u h1) (key [(y, t)] s.toks es.symm)
/-! ### the signs of a text, one by one -/
def Its (x : Str) : It := ⟨fun i _ => i < x.cps.size, fun i H v H' => H' = H ∧ ∃ c, x.cps[i]? = some c ∧ v = .str ⟨#[c]⟩, fun i _ => x.cps.size ≤ i⟩
theorem turn_str {P : Program} {w : World} {K : PySem.W.Frag} {tg : Expr} (it : Addr) (ty : String) (x : Str) (t : Tok) (ha : ty = "str_ascii_iterator" ∨ ty = "str_iterator") : Turn P w K tg (Its x) [it] it (fun i h => h.IsStrIter it ty x t i) where
  mem := by simp
  obj := fun i h st b hb => by
    have e : b = it := by simpa using hb
    subst e
    obtain ⟨o, e, c, d⟩ := st
    exact ⟨o, e, fun v z => by rw [d] at z; cases z⟩
  keep := fun i h h' st k => by
    obtain ⟨o, e, r⟩ := st
    exact ⟨o, k it (by simp) o e, r⟩
  item := by
    intro X hP hw hK hc i pins s σ H E I hf st hg
    subst hP hw hK
    have hg : i < x.cps.size := hg
    obtain ⟨f0, f1, f2, f3, f4, f5⟩ := hf it (by simp)
    have fin : ∀ h', h'.IsStrIter it ty x t (i + 1) → Heap.SameBut it s.heap h' → ∃ u, some (Value.str ⟨#[x.cps[i]]⟩ s.toks) = some u ∧ wpAny (model X.prog X.w) X.A (letOwnedTupleGo tg (.ref it) u) (fun _ s2 => ∃ v H', Inv X pins σ H' s2 ∧ RelV v u ∧ (Its x).yld i H v H' ∧ s2.heap.IsStrIter it ty x t (i + 1) ∧ ∀ b ∈ [it], H' b = none) E { s with heap := h', toks := s.toks + 1 } := fun h' st' sb => by
      have I1 : Inv X pins σ H { s with heap := h', toks := s.toks + 1 } := I.turned (t' := s.toks + 1) (fun b o hb e => (sb.2 b hb).trans e) f0 f1 f3 f4 f5
      obtain ⟨o, e, c, d⟩ := id st'
      refine ⟨_, rfl, go_of (s := { s with heap := h', toks := s.toks + 1 }) e c d ?_ ⟨.str ⟨#[x.cps[i]]⟩, H, I1, ⟨_, rfl⟩, ⟨rfl, x.cps[i], by simp [hg], rfl⟩, st', fun b hb => (hf b hb).1⟩⟩
      rcases ha with rfl | rfl <;> decide
    rcases ha with rfl | rfl
    · exact wpAny_pyNext_ascii_item st (c := x.cps[i]) (by simp [hg]) fun h' st' sb => fin h' st' sb
    · exact wpAny_pyNext_wide_item st (c := x.cps[i]) (by simp [hg]) fun h' st' sb => fin h' st' sb
  done := by
    intro X hP hw hK hc i pins s σ H E I hf st hg
    subst hP hw hK
    have hg : x.cps.size ≤ i := hg
    obtain ⟨f0, f1, f2, f3, f4, f5⟩ := hf it (by simp)
    rcases ha with rfl | rfl
    · exact wpAny_pyNext_ascii_end (I.ok.hd hc) st (by simp; omega) fun h' eb => ⟨rfl, I.turned (t' := s.toks) (fun b o hb e => eb b o hb e) f0 f1 f3 f4 f5⟩
    · exact wpAny_pyNext_wide_end (I.ok.hd hc) st (by simp; omega) fun h' eb => ⟨rfl, I.turned (t' := s.toks) (fun b o hb e => eb b o hb e) f0 f1 f3 f4 f5⟩
  self := fun _ _ _ _ _ st h => by
    rcases ha with rfl | rfl
    · exact wpAny_pyIter_striter_ascii st h
    · exact wpAny_pyIter_striter_wide st h
def iStr (te : TE) : TI := fun σ H R => te σ H fun v H1 => ∃ x, v = .str x ∧ R (Its x) H1
theorem pi_str {tg l : Expr} {tl : TE} (hl : PE X l tl) : PI X tg l (iStr tl) := by
  intro pins s σ H R I h
  refine thn (hl pins s σ H _ I h) fun v s1 ⟨y, H1, I1, r1, x, e, q⟩ => ?_
  subst e
  obtain ⟨t, rfl⟩ := r1
  have fp : ∀ (b : Addr), b ∈ [s1.heap.objs.size] → FpOk X pins H1 b := fun b hb => by
    have e : b = s1.heap.objs.size := by simpa using hb
    subst e
    exact I1.fpOk (Nat.le_refl _) I1.fresh
  cases ha : x.cps.all (· < 128)
  · refine wpAny_pyIter_wide ha ?_
    exact ⟨s1.heap.objs.size, [s1.heap.objs.size], _, _, H1, rfl, I1.kept (t' := s1.toks) (fun b o q => Heap.get?_push_of_some _ q), turn_str _ "str_iterator" x t (.inr rfl), ⟨_, Heap.get?_push_size _ rfl, rfl, rfl⟩, fp, q⟩
  · refine wpAny_pyIter_ascii ha ?_
    exact ⟨s1.heap.objs.size, [s1.heap.objs.size], _, _, H1, rfl, I1.kept (t' := s1.toks) (fun b o q => Heap.get?_push_of_some _ q), turn_str _ "str_ascii_iterator" x t (.inl rfl), ⟨_, Heap.get?_push_size _ rfl, rfl, rfl⟩, fp, q⟩
/-- the form one uses -/
theorem for_str {x : Str} {g : TG} {tb : TS} {D : Ends} {σ : St} {H : Hp} (Pv : Nat → St → Hp → Prop) (h0 : Pv 0 σ H)
    (hs : ∀ i c σ H, x.cps[i]? = some c → Pv i σ H → g (.str ⟨#[c]⟩) σ H fun σ2 H2 => tb { D with nx := Pv (i + 1), ct := Pv (i + 1), bk := D.nx } σ2 H2) (hd : ∀ σ H, Pv x.cps.size σ H → D.nx σ H) :
    ∃ W : Nat → Nat → St → Hp → Prop, (∃ m, W 0 m σ H) ∧ ∀ i m σ H, W i m σ H →
      ((Its x).stop i H ∧ D.nx σ H) ∨ ((Its x).go i H ∧ ∃ N : St → Hp → Prop, (∀ σ' H', N σ' H' → ∃ m', m' < m ∧ W (i + 1) m' σ' H') ∧ ∀ y H', (Its x).yld i H y H' → g y σ H' fun σ2 H2 => tb { D with nx := N, ct := N, bk := D.nx } σ2 H2) := by
  refine ⟨fun i m σ H => Pv i σ H ∧ i ≤ x.cps.size ∧ m = x.cps.size - i, ⟨_, h0, Nat.zero_le _, rfl⟩, fun i m σ H ⟨p, hi, hm⟩ => ?_⟩
  rcases Nat.lt_or_ge i x.cps.size with hlt | hge
  · refine .inr ⟨hlt, Pv (i + 1), fun σ' H' n => ⟨x.cps.size - (i + 1), by omega, n, hlt, rfl⟩, fun y H' z => ?_⟩
    obtain ⟨rfl, c, hc, rfl⟩ := z
    exact hs i c σ _ hc p
  · have e : i = x.cps.size := by omega
    subst e
    exact .inl ⟨Nat.le_refl _, hd σ H p⟩
end
end L2
/-! exceptions of own classes: raised in a def, passed on, caught -/
namespace L2
open PySem PySem.Spec PyProof.Rows PySem.W
section
variable {P : Program} {w : World} {H H' : Hp} {h h' : Heap} {a : Addr} {o : HO}
theorem ObjOk.there (x : ObjOk P w H h a o) : ∃ ob, h.get? a = some ob := by
  cases o with
  | lst xs => obtain ⟨_, _, _, _, e⟩ := x; exact ⟨_, e⟩
  | tup xs => obtain ⟨_, _, _, ob, e, _⟩ := x; exact ⟨_, e⟩
  | dK kvs => obtain ⟨_, _, _, _, o, _, _, e, _⟩ := x; exact ⟨_, e⟩
  | dT kvs => obtain ⟨_, _, _, _, o, _, _, e, _⟩ := x; exact ⟨_, e⟩
  | set S n => obtain ⟨o, _, _, _, e, _⟩ := x; exact ⟨_, e⟩
  | ins C dx fs => obtain ⟨_, _, _, e, _⟩ := x; exact ⟨_, e⟩
  | own y => exact x
  | xd fs => obtain ⟨_, ⟨_, _, _, e, _⟩, _⟩ := x; exact ⟨_, e⟩
  | rng lo hi => obtain ⟨_, _, _, e⟩ := x; exact ⟨_, e⟩
  | frz ob u => obtain ⟨e, _⟩ := x; exact ⟨_, e⟩
  | tbl ps => exact ⟨_, x⟩
  | met f y => exact ⟨_, x⟩
  | ext φ => obtain ⟨_, e, _⟩ := x; exact e
end
/-- the exception at e, of class cls, its first entry at T -/
def TracedT (h : Heap) (e T : Addr) (cls fl : Value) : Prop := ∃ oe vs oT ts a0, h.get? e = some oe ∧ (oe.cls = cls ∧ vs[0]? = some a0) ∧ oe.data = .fields vs ∧ vs[1]? = some (.ref T) ∧ T ≠ e ∧ h.get? T = some oT ∧ oT.data = .fields ts ∧ ts[3]? = some fl
/-- an exception comes out of a call -/
def CXW (P : Program) (w : World) : CXT := fun outer H s E e s' => ∃ ea T cls H', e = .ref ea ∧ s'.os = s.os ∧ AllBare s'.gens ∧ Un (frs outer) [] H H' s.heap s'.heap ∧ HOk P w H' s'.heap ∧ s.heap.get? ea = none ∧ s.heap.get? T = none ∧ H' ea = none ∧ H' T = none ∧
  TracedT s'.heap ea T cls .none ∧ E cls none H'
/-- all but the frames and the exception's own -/
abbrev allBut (h : Heap) (l : List Env) (e T : Addr) : Heap := hideAll h (frs l ++ [e, T])
theorem mem_frs {l : List Env} {env : Env} {a : Addr} (h : env ∈ l) (e : env.frame = some a) : a ∈ frs l := List.mem_filterMap.mpr ⟨env, h, e⟩
theorem fly_of {base h : Heap} {l : List Env} {e T : Addr} {cls fl : Value} (ff : h.FunFrames base l) (t : TracedT h e T cls fl) : ∃ a0, (allBut h l e T).StaysIn h ∧ (allBut h l e T).get? e = none ∧ h.FunFrames (allBut h l e T) l ∧ h.TracedAtW (allBut h l e T) e cls a0 fl := by
  obtain ⟨oe, vs, oT, ts, a0, h1, h2, h3, h4, h5, h6, h7, h8⟩ := t
  refine ⟨a0, fun b o q => of_hideAll _ q, hideAll_none _ (by simp), funFrames_hide ff fun env he a ea => List.mem_append_left _ (mem_frs he ea), oe, vs, T, oT, ts, h1, h2, h3, h4, hideAll_none _ (by simp), h5, h6, h7, h8⟩
section
variable {P : Program} {w : World} {H H' : Hp} {h0 h h' base : Heap} {l : List Env} {e T : Addr}
theorem fly_un (u : Un (frs l) [] H H' h0 h) (hok : HOk P w H' h) (ff : h.FunFrames base l) (fr : ∀ b ∈ frs l, H' b = none) (f1 : h0.get? e = none) (f2 : h0.get? T = none) (n1 : H' e = none) (n2 : H' T = none)
    (st : (allBut h l e T).StaysIn h') (up : h.UpToSlots h') : Un (frs l) [] H H' h0 h' ∧ HOk P w H' h' := by
  have kp : ∀ b o, b ∉ frs l → b ≠ e → b ≠ T → h.get? b = some o → h'.get? b = some o := fun b o n0 n1 n2 q => st b o (hideAll_get _ q (by
    intro z
    rcases List.mem_append.mp z with z | z
    · exact n0 z
    · simp at z
      exact z.elim n1 n2))
  have sl : ∀ b o, b ∈ frs l → h.get? b = some o → ∃ s, h'.get? b = some { o with slots := s } := fun b o hb q => by
    obtain ⟨_, o', q', hn⟩ := ff.mem hb
    rw [q] at q'; cases q'
    exact up b o q hn
  have ne : ∀ b o, h0.get? b = some o → b ≠ e ∧ b ≠ T := fun b o q => ⟨fun z => (by rw [z, f1] at q; cases q), fun z => (by rw [z, f2] at q; cases q)⟩
  refine ⟨⟨fun b o q n hb hx => kp b o hb (ne b o q).1 (ne b o q).2 (u.keep b o q n hb hx), fun b o q n hb hx => ?_, u.free, fun b o q hx => ?_, u.tups, u.frzs, u.tbls⟩, fun a o q => ?_⟩
  · obtain ⟨s1, e1⟩ := u.slot b o q n hb hx
    obtain ⟨s2, e2⟩ := sl b _ hb e1
    exact ⟨s2, e2⟩
  · obtain ⟨o', e1⟩ := u.there b o q hx
    by_cases hb : b ∈ frs l
    · obtain ⟨s2, e2⟩ := sl b _ hb e1
      exact ⟨_, e2⟩
    · exact ⟨o', kp b o' hb (ne b o q).1 (ne b o q).2 e1⟩
  · have nb : ∀ b x, H' b = some x → b ∉ frs l ∧ b ≠ e ∧ b ≠ T := fun b x q => ⟨fun z => (by rw [fr b z] at q; cases q), fun z => (by rw [z, n1] at q; cases q), fun z => (by rw [z, n2] at q; cases q)⟩
    refine (hok a o q).stay (fun b v hb qb => ?_) (fun _ z => z) fun _ _ z => z
    have : ∃ x, H' b = some x := by
      rcases hb with z | z
      · rw [z]; exact ⟨_, q⟩
      · exact ⟨_, z⟩
    obtain ⟨x, hx⟩ := this
    obtain ⟨m1, m2, m3⟩ := nb b x hx
    exact kp b v m1 m2 m3 qb
/-- the entry that has come is new -/
theorem fly_new (u : Un (frs l) [] H H' h0 h) (hok : HOk P w H' h) (ff : h.FunFrames base l) (fr : ∀ b ∈ frs l, H' b = none) (f2 : h0.get? T = none) (n2 : H' T = none) (up : h.UpToSlots h') {T' : Addr} (b0 : (allBut h l e T).get? T' = none) (ne : T' ≠ e)
    {oT : Obj} {ts : Array Value} (t1 : h'.get? T' = some oT) (t2 : oT.data = .fields ts) : h0.get? T' = none ∧ H' T' = none := by
  have key : ∀ o, h.get? T' = some o → T' = T := fun o q => Classical.byContradiction fun nT => by
    by_cases hb : T' ∈ frs l
    · obtain ⟨_, o', q', hn⟩ := ff.mem hb
      obtain ⟨s, e⟩ := up T' o' q' hn
      rw [t1] at e
      cases e
      exact hn ts t2
    · have := hideAll_get (frs l ++ [e, T]) q (by
        intro z
        rcases List.mem_append.mp z with z | z
        · exact hb z
        · simp at z
          exact z.elim ne nT)
      rw [b0] at this; cases this
  constructor
  · cases q : h0.get? T' with
    | none => rfl
    | some o =>
      obtain ⟨o', e1⟩ := u.there T' o q (by simp)
      have := key o' e1
      subst this
      rw [f2] at q; cases q
  · cases q : H' T' with
    | none => rfl
    | some x =>
      obtain ⟨o', e1⟩ := (hok T' x q).there
      have := key o' e1
      subst this
      rw [n2] at q; cases q
end
/-- a state of the caller behind a callee's exception, as the callee left it -/
theorem Inv.flown {X : Cx} {pins : List (Addr × Obj)} {σ : St} {H H' : Hp} {s s' : Shared} (I : Inv X pins σ H s) (os : s'.os = s.os) (bare : AllBare s'.gens) (un : Un (frs X.stack) [] H H' s.heap s'.heap) (hok : HOk X.prog X.w H' s'.heap) : Inv X pins σ H' s' := by
  obtain ⟨hh, g, d, t, os'⟩ := s'
  obtain rfl : os' = s.os := os
  exact I.call (h' := hh) (g' := g) (d' := d) (t' := t) (ch := []) un hok bare (fun b z => absurd z (by simp))
theorem traced_of {B h : Heap} {e : Addr} {cls a0 fl : Value} (t : h.TracedAtW B e cls a0 fl) : ∃ T, B.get? T = none ∧ T ≠ e ∧ TracedT h e T cls fl ∧ ∃ oT ts, h.get? T = some oT ∧ oT.data = .fields ts := by
  obtain ⟨oe, vs, T, oT, ts, h1, h2, h3, h4, h5, h6, h7, h8, h9⟩ := t
  exact ⟨T, h5, h6, ⟨oe, vs, oT, ts, a0, h1, h2, h3, h4, h6, h7, h8, h9⟩, oT, ts, h7, h8⟩
section
variable {M : Model} {A : Around} {E : Value → Shared → Prop} {s : Shared}
theorem note_congr {e : Value} {env env' : Env} (h : env.frame = env'.frame) : noteFrame e env = noteFrame e env' := by
  unfold noteFrame PySem.frameOf
  rw [h]
/-- the frame is noted, whatever was said before -/
theorem note_any {base : Heap} {env : Env} {outer : List Env} {L e : Addr} {cls a0 fl : Value} {Q : Unit → Shared → Prop} (hfr : A.frames = some (env :: outer)) (hf : env.frame = some L) (f1 : base.StaysIn s.heap) (f2 : base.get? e = none) (f3 : s.heap.FunFrames base (env :: outer))
    (f4 : s.heap.TracedAtW base e cls a0 fl) (hQ : ∀ h', Heap.HeldW base (env :: outer) e cls a0 L h' → s.heap.UpToSlots h' → Q () { s with heap := h' }) : wpAny M A (noteFrame (.ref e) env) Q E s := by
  by_cases q : fl = rawInt L
  · subst q
    exact wpAny_noteFrame_againW hf f4 (by
      obtain ⟨hh, g, d, t, os⟩ := s
      exact hQ hh ⟨f1, f2, f3, f4⟩ (.refl _))
  · obtain ⟨oe, vs, T, oT, ts, he, ⟨hcls, h0⟩, hd, h1, hnT, hTe, hT, hdT, h3⟩ := f4
    subst hcls
    unfold noteFrame
    simp only [hf]
    refine wpAny_bind (wpAny_field he hd h1 ?_)
    rw [if_pos (show (Value.ref T != Value.none) = true from by simp)]
    refine wpAny_bind (wpAny_field hT hdT h3 ?_)
    rw [if_neg (show ¬ ((fl == rawInt L) = true) from by simpa using q)]
    refine wpAny_bind (wpAny_setField hT hdT (Array.getElem?_eq_some_iff.mp h3).1 ?_)
    have other : ∀ b, b ≠ T → (s.heap.update T (Obj.mapFields (·.setIfInBounds 3 Value.none))).get? b = s.heap.get? b := fun b hb => Heap.get?_update_other _ _ (Ne.symm hb)
    have noRecord : ∀ b o, s.heap.get? b = some o → (∀ vs, o.data ≠ .fields vs) → b ≠ T := fun b o hb hnf q => by
      rw [q, hT] at hb; injection hb with hb; subst hb; exact hnf ts hdT
    refine wpAny_entryW hfr (f3.of_keeps fun b o hb hnf => ⟨o, (other b (noRecord b o hb hnf)).trans hb, rfl⟩) hf ((other e (Ne.symm hTe)).trans he)
      (fun b o hbo => (other b fun q => by rw [q, hnT] at hbo; cases hbo).trans (f1 b o hbo)) f2 hd (Array.getElem?_eq_some_iff.mp h1).1 h0
      fun h' ⟨x1, x2, x3, x4⟩ => hQ h' ⟨x1, f2, x2, x3⟩ fun b o hb hnf => x4 b o ((other b (noRecord b o hb hnf)).trans hb) hnf
theorem leaves_any {base : Heap} {env : Env} {outer : List Env} {L e : Addr} {cls a0 fl : Value} {Q : Unit → Shared → Prop} (hfr : A.frames = some (env :: outer)) (hf : env.frame = some L) (f1 : base.StaysIn s.heap) (f2 : base.get? e = none) (f3 : s.heap.FunFrames base (env :: outer))
    (f4 : s.heap.TracedAtW base e cls a0 fl) (hQ : ∀ h', Heap.FlyingW base (env :: outer) e cls a0 h' → s.heap.UpToSlots h' → Q () { s with heap := h' }) : wpAny M A (leaving env (.ref e)) Q E s := by
  unfold leaving
  refine wpAny_bind (note_any hfr hf f1 f2 f3 f4 fun h1 hh up1 => ?_)
  exact wpAny_landsW hh fun h2 fl2 up2 => hQ h2 fl2 (up1.trans up2)
end
section
variable {P : Program} {w : World} {K : PySem.W.Frag} {mg : Str → Option Value} {base : Heap} {N : List Str} {qual : Str} {scope : Scope} {f : Addr} {cd : Value} {A : Around} {outer : List Env} {s : Shared} {H : Hp} {E : XK}
abbrev cxW (P : Program) (w : World) (K : PySem.W.Frag) (mg : Str → Option Value) (base : Heap) (N : List Str) (qual : Str) (scope : Scope) (f : Addr) (cd : Value) (A : Around) (outer : List Env) (s : Shared) (H : Hp) (E : XK) : Cx := cxOf (CXW P w) P w K mg base N qual scope f cd A outer s H E
/-- a def whose body may raise -/
theorem Fun.okW {x qual : Str} {st : Stmt} {f : Addr} {fd : FuncData} {N ps : List Str} {k : Nat} {sp : Sp} (F : Fun K x qual st f fd) (S : FnScope N ps (defScope st)) (len : ∀ vs H Q E, sp vs H Q E → vs.length = ps.length)
    (hbody : ∀ (cdv : Value) (A : Around) (outer : List Env) (s : Shared) (H : Hp) (vs : List V) (Q : VK) (E : XK), Room k (A.deeper (envOfC qual (defScope st) s.heap.objs.size f cdv)) → sp vs H Q E →
      ∃ t, PSs (cxW P w K mg base N qual (defScope st) f cdv A outer s H E) (defBody st) t ∧ t { nx := fun _ H' => Q .non H', rt := Q } (start N vs) H) : FnOk P w K mg base (CXW P w) (k + 1) f fd ps sp := by
  obtain ⟨oc, od, kV, doc, pm, an, cdv, ct, osl, rfl, lk, hcd⟩ := F.ex
  refine fn_of lk hcd S len fun A outer s H vs Q E hr hsp => ?_
  obtain ⟨t, h, q⟩ := hbody cdv A outer s H vs Q E hr hsp
  exact ⟨t, h, q⟩
end
/-! ### raise -/
/-- the class stands as an own exception's class of K -/
theorem exc_obj {K : Frag} {h : Heap} {C : Addr} {bmB : List Value} {newId : String} (X : K.In h) (q : excIn K C bmB newId = true) :
    ∃ bm N nm qn bs hdct sn sub ab col dd k0 k1 k2 k3 k5 mN, h.get? C = some (excClassObj nm qn C N bs bm hdct sn sub ab col dd k0 k1 k2 k3 k5 newId) ∧ h.Ns N mN ∧ mN "__init__" = none ∧ OwnTail h bmB bm := by
  unfold excIn at q
  split at q
  · rename_i dd cd sl ho
    split at q
    · rename_i C' bm k0 k1 k2 k3 n k5 hm hs
      simp only [Bool.and_eq_true, beq_iff_eq, Bool.not_eq_true'] at q
      obtain ⟨⟨⟨⟨⟨rfl, rfl⟩, hdel⟩, ht⟩, hok⟩, hni⟩ := q
      obtain ⟨nm, bs, mro, ns, qn, hd, sn, sub, ab, col, del⟩ := cd
      dsimp only at hm hdel hok hni
      subst hm hdel
      have hsl : sl = #[k0, k1, k2, k3, some (.builtin n), k5] := by
        obtain ⟨l⟩ := sl
        simp only at hs
        rw [hs]
      subst hsl
      exact ⟨bm, ns, nm, qn, bs, hd, sn, sub, ab, col, dd, k0, k1, k2, k3, k5, _, X _ _ ho, .of_isNs (isNs_of_in X hok), nsMap_none_of_in X hok hni, tail_of_in X ht⟩
    · cases q
  · cases q
def tRaise (cls : Value) (E : XK) (t : TA) : TS := fun _ σ H => t σ H fun vs H1 => vs.length ≤ 1000 ∧ E cls none H1
section
variable {P : Program} {w : World} {K : PySem.W.Frag} {mg : Str → Option Value} {base : Heap} {N : List Str} {qual : Str} {scope : Scope} {f : Addr} {cd : Value} {A : Around} {outer : List Env} {s : Shared} {H : Hp} {E : XK}
theorem ps_raise {x : Str} {C : Addr} {bmB : List Value} {B newId initId : String} {np cpos pos : Pos} {e₀ : Expr} {rest : List Expr} {t : TA} (FB : ExcBaseFacts B newId initId bmB) (hc : excIn K C bmB newId = true) (hm : mg x = some (.ref C))
    (hg : Gl (cxW P w K mg base N qual scope f cd A outer s H E) x) (ha : PA (cxW P w K mg base N qual scope f cd A outer s H E) (e₀ :: rest) t) (hdb : (x == ("__debug__" : Str)) = false := by decide)
    (he : starEach (e₀ :: rest) (cxW P w K mg base N qual scope f cd A outer s H E).env = (false, eval e₀ (cxW P w K mg base N qual scope f cd A outer s H E).env) :: starEach rest (cxW P w K mg base N qual scope f cd A outer s H E).env := by rfl)
    (hpl : (backTo cpos (starEach rest (cxW P w K mg base N qual scope f cd A outer s H E).env)).any (·.1) = false := by rfl) :
    PS (cxW P w K mg base N qual scope f cd A outer s H E) (.Raise (some (.Call (.Name x np) (e₀ :: rest) [] cpos)) none pos) (tRaise (.ref C) E t) := by
  intro pins s1 σ H1 D I h
  obtain ⟨bm, NN, nm, qn, bs, hdct, sn, sub, ab, col, dd, k0, k1, k2, k3, k5, mN, hC, hN, hni, T⟩ := exc_obj I.ok.mod.kin hc
  refine wpAny_Raise_call_subT (C := C) (nm := nm) (q := qn) (N := NN) (bs := bs) (bm := bm) (hdct := hdct) (sn := sn) (sub := sub) (ab := ab) (col := col) (dd := dd) (k0 := k0) (k1 := k1) (k2 := k2) (k3 := k3) (k5 := k5)
    FB (mN := mN) (T.hasType FB.hasBase) (I.ok.hd rfl) (by rw [he]; show (false || (backTo cpos (starEach rest _)).any (·.1)) = false; rw [hpl]; rfl) hni (ld_glob I hg hm ⟨rfl, ?_⟩ hdb)
  have hA := ha cpos pins s1 σ H1 _ I h
  rw [he] at hA ⊢
  refine Calls.evalArgs_plain (thn hA fun us s2 ⟨vs, H2, I2, r2, hz, q2⟩ => ⟨rfl, ?_, I2.bk _ _ hC, hN.keeps I2.bk, T.keeps I2.bk, fun h' e mk => ?_⟩)
  · rw [← r2.length]
    exact Nat.le_of_lt (small1000 hz)
  · have ff := I2.stack
    have gone : ∀ b, s2.heap.get? b = none → H2 b = none := fun b q => by
      cases z : H2 b with
      | none => rfl
      | some o =>
        obtain ⟨o', e'⟩ := (I2.hok b o z).there
        rw [q] at e'; cases e'
    refine wpAny_leaves_madeW (s := { s2 with heap := h' }) (base := allBut s2.heap (cxW P w K mg base N qual scope f cd A outer s H E).stack e e) (h := s2.heap) I.ok.frames rfl (fun b o q => of_hideAll _ q) (funFrames_hide ff fun env he a ea => List.mem_append_left _ (mem_frs he ea)) mk fun h'' t' fl tup tn up => ?_
    have up2 : s2.heap.UpToSlots h'' := (Heap.UpToSlots.of_keeps mk.keeps).trans up
    obtain ⟨u2, hok2⟩ := fly_un (Un.refl (fs := frs (cxW P w K mg base N qual scope f cd A outer s H E).stack) (ex := []) (H := H2) (h := s2.heap)) I2.hok ff I2.stkFree mk.new mk.new (gone _ mk.new) (gone _ mk.new) fl.1 up2
    have I3 : Inv (cxW P w K mg base N qual scope f cd A outer s H E) pins σ H2 { s2 with heap := h'' } := I2.flown (s' := { s2 with heap := h'' }) rfl I2.bare u2 hok2
    obtain ⟨T', b0, neT, tr', oT, ts, t1, t2⟩ := traced_of fl.2.2.2.at
    obtain ⟨g1, g2⟩ := fly_new (Un.refl (fs := frs (cxW P w K mg base N qual scope f cd A outer s H E).stack) (ex := []) (H := H2) (h := s2.heap)) I2.hok ff I2.stkFree mk.new (gone _ mk.new) up2 b0 neT t1 t2
    have old : ∀ b, s2.heap.get? b = none → s.heap.get? b = none := fun b q => by
      cases z : s.heap.get? b with
      | none => rfl
      | some o =>
        obtain ⟨o', e'⟩ := I2.base.there b o z (by simp [cxOf])
        rw [q] at e'; cases e'
    exact ⟨e, T', _, H2, rfl, I3.os, I3.bare, I3.base, I3.hok, old _ mk.new, old _ g1, gone _ mk.new, g2, tr', q2⟩
end
end L2
/-! try -/
namespace L2
open PySem PySem.Spec PyProof.Rows PySem.W
/-- an exception has come to a statement of this frame -/
def Fl (X : Cx) (pins : List (Addr × Obj)) (Ex : Value → St → Hp → Prop) (e : Value) (s' : Shared) : Prop :=
  ∃ ea T cls fl σ H1 H' s1, e = .ref ea ∧ Inv X pins σ H1 s1 ∧ s'.os = s1.os ∧ AllBare s'.gens ∧ Un (frs X.stack) [] H1 H' s1.heap s'.heap ∧ HOk X.prog X.w H' s'.heap ∧ s1.heap.get? ea = none ∧ s1.heap.get? T = none ∧ H' ea = none ∧ H' T = none ∧
    TracedT s'.heap ea T cls fl ∧ Ex cls σ H'
abbrev XS := Ends → (Value → St → Hp → Prop) → St → Hp → Prop
/-- a statement that may raise -/
def PX (X : Cx) (st : Stmt) (t : XS) : Prop := ∀ (pins : List (Addr × Obj)) (s : Shared) (σ : St) (H : Hp) (D : Ends) (Ex : Value → St → Hp → Prop) (We : Value → Shared → Prop), (∀ e s', Fl X pins Ex e s' → We e s') → Inv X pins σ H s → t D Ex σ H →
  wpAny (model X.prog X.w) X.A (exec st X.env) (SP X pins D) We s
section
variable {X : Cx} {k : Nat} {f : Addr} {fd : FuncData} {ps : List Str} {sp : Sp} {x : Str} {p pos : Pos} {e : Expr} {es : List Expr} {t : TA}
theorem call_x (hx0 : ∀ e s, ¬ X.xe e s) (F : FnOk X.prog X.w X.K X.mg X.base (CXW X.prog X.w) k f fd ps sp) (hr : Room k X.A) (hg : Gl X x) (hm : X.mg x = some (.ref f)) (hk : PySem.W.keepIn X.K (.ref f) = true) (hb : Binds X.K fd ps [])
    (ha : PA X (e :: es) t) (hdb : (x == ("__debug__" : Str)) = false) (he : starEach (e :: es) X.env = (false, eval e X.env) :: starEach es X.env) (hpl : (backTo pos (starEach es X.env)).any (·.1) = false)
    {pins : List (Addr × Obj)} {s : Shared} {σ : St} {H : Hp} {Q : VK} {Ex : Value → St → Hp → Prop} {We : Value → Shared → Prop} (hw : ∀ e s', Fl X pins Ex e s' → We e s') (I : Inv X pins σ H s)
    (h : t σ H fun vs H1 => sp (vs ++ []) H1 Q fun cls _ H' => Ex cls σ H') : wpAny (model X.prog X.w) X.A (eval (.Call (.Name x p) (e :: es) [] pos) X.env) (EP X pins σ Q) We s := by
  refine wpAny_Call_Name_kw (ld_glob I hg hm ?_ hdb)
  refine PySem.W.callWith_K (h₀ := X.base) I.ok.mod.kin hk (wpAny_mono (ha pos pins s σ H _ I h) (fun us s1 ⟨vs, H1, I1, r, q⟩ => ⟨I1.kIn, ?_⟩) fun e s q => absurd q (hx0 e s)) he hpl
  have r2 : Vals (vs ++ []) (us ++ []) := r.append .nil
  have hl : (us ++ []).length = ps.length := by rw [← r2.length]; exact F.len _ _ _ _ q
  refine wpAny_call (codeAny_mono (F.run X.A X.stack s1 H1 ⟨us, []⟩ (us ++ []) (vs ++ []) Q _ hr I1.env0 (hb s1 us I1.kIn hl) r2 q) fun r s' hq => ?_)
  cases r with
  | error e =>
    obtain ⟨ea, T, cls, H', rfl, os, bare, un, hok, f1, f2, n1, n2, tr, hE⟩ := hq
    exact hw _ _ ⟨ea, T, cls, .none, σ, H1, H', s1, rfl, I1, os, bare, un, hok, f1, f2, n1, n2, tr, hE⟩
  | ok fl =>
    cases fl with
    | ret u => exact I1.after hq
    | next => exact False.elim hq
    | brk => exact False.elim hq
    | cont => exact False.elim hq
/-- name = f(..), where f may raise -/
theorem px_set {i : Nat} {y : Str} {py spos : Pos} (hx0 : ∀ e s, ¬ X.xe e s) (hN : X.N.Nodup) (hi : X.N[i]? = some y) (hy : Loc X.env.scope y) (F : FnOk X.prog X.w X.K X.mg X.base (CXW X.prog X.w) k f fd ps sp) (hr : Room k X.A) (hg : Gl X x) (hm : X.mg x = some (.ref f))
    (hk : PySem.W.keepIn X.K (.ref f) = true) (hb : Binds X.K fd ps []) (ha : PA X (e :: es) t) (hdb : (x == ("__debug__" : Str)) = false := by decide) (he : starEach (e :: es) X.env = (false, eval e X.env) :: starEach es X.env := by rfl) (hpl : (backTo pos (starEach es X.env)).any (·.1) = false := by rfl)
    (hs : swapsWith (.Call (.Name x p) (e :: es) [] pos) (some (.Name y py)) spos.line X.env = pure false := by rfl) (hf : X.fn y = true ∨ X.env.scope.names.lookup y = some .local := by first | exact .inl rfl | exact .inr rfl | assumption) :
    PX X (.Assign [.Name y py] (.Call (.Name x p) (e :: es) [] pos) spos) (fun D Ex σ H => t σ H fun vs H1 => sp (vs ++ []) H1 (fun v H2 => D.nx (σ.set i (some v)) H2) fun cls _ H' => Ex cls σ H') := by
  intro pins s σ H D Ex We hw I h
  refine wpAny_Assign_Name (wpAny_mono (call_x hx0 F hr hg hm hk hb ha hdb he hpl hw I h) (fun v s1 ⟨y, H1, I1, r1, q1⟩ => ?_) fun _ _ q => q) hs
  exact store_ok I1 hN hi hy r1 (fun s2 I2 => ⟨_, H1, I2, q1⟩) hf
/-- f(..) as a statement, where f may raise -/
theorem px_expr {spos : Pos} (hx0 : ∀ e s, ¬ X.xe e s) (F : FnOk X.prog X.w X.K X.mg X.base (CXW X.prog X.w) k f fd ps sp) (hr : Room k X.A) (hg : Gl X x) (hm : X.mg x = some (.ref f))
    (hk : PySem.W.keepIn X.K (.ref f) = true) (hb : Binds X.K fd ps []) (ha : PA X (e :: es) t) (hdb : (x == ("__debug__" : Str)) = false := by decide) (he : starEach (e :: es) X.env = (false, eval e X.env) :: starEach es X.env := by rfl) (hpl : (backTo pos (starEach es X.env)).any (·.1) = false := by rfl)
    (hs : swapsWith (.Call (.Name x p) (e :: es) [] pos) none spos.line X.env = pure false := by rfl) :
    PX X (.Expr (.Call (.Name x p) (e :: es) [] pos) spos) (fun D Ex σ H => t σ H fun vs H1 => sp (vs ++ []) H1 (fun v H2 => D.nx σ H2) fun cls _ H' => Ex cls σ H') := by
  intro pins s σ H D Ex We hw I h
  exact wpAny_Expr_any (wpAny_mono (call_x hx0 F hr hg hm hk hb ha hdb he hpl hw I h) (fun v s1 ⟨y, H1, I1, r1, q1⟩ => ⟨σ, H1, I1, q1⟩) fun _ _ q => q) I.quiet hs
end
/-! ### the suite of a handler -/
def cxH (X : Cx) (ea : Addr) (oe : Obj) : Cx := { X with A := X.A.mark (some (.ref ea)), calm := false, pn := X.pn ++ [(ea, oe)], xe := fun _ _ => False }
section
variable {X : Cx} {pins : List (Addr × Obj)} {σ : St} {H : Hp} {s : Shared} {ea : Addr} {oe : Obj}
theorem Cx.Ok.toH (ok : X.Ok) : (cxH X ea oe).Ok :=
  ⟨ok.mod, ok.kind, ok.glob, ok.blt, ok.above, ok.inj, ok.has, ok.cab, fun z => absurd (show false = true from z) (by decide), ok.frames, ok.stk, ok.exf, ok.bs, ok.bsz, ok.noex, ok.exfs, ok.funs, ok.frf⟩
theorem Inv.toH (I : Inv X pins σ H s) (h1 : s.heap.get? ea = some oe) (h2 : H ea = none) (h3 : ea ≠ X.env.locals) (h4 : ea ∉ X.fs) (h5 : ∀ v, oe.data ≠ .cell v) : Inv (cxH X ea oe) pins σ H s :=
  ⟨I.ok.toH, I.os, I.bare, I.base, I.loc, I.cell, I.free, I.freeC, fun p hp => by
    rcases List.mem_append.mp hp with hp | hp
    · rcases List.mem_append.mp hp with hp | hp
      · exact I.pin p (List.mem_append_left _ hp)
      · have e : p = (ea, oe) := by simpa using hp
        subst e
        exact ⟨h1, h2, h3, h4, h5⟩
    · exact I.pin p (List.mem_append_right _ hp), I.hok, I.len⟩
theorem Inv.ofH (ok : X.Ok) (I : Inv (cxH X ea oe) pins σ H s) : Inv X pins σ H s :=
  ⟨ok, I.os, I.bare, I.base, I.loc, I.cell, I.free, I.freeC, fun p hp => I.pin p (by
    rcases List.mem_append.mp hp with hp | hp
    · exact List.mem_append_left _ (List.mem_append_left _ hp)
    · exact List.mem_append_right _ hp), I.hok, I.len⟩
theorem SP.ofH (ok : X.Ok) {D : Ends} {f : Flow} {s' : Shared} (h : SP (cxH X ea oe) pins D f s') : SP X pins D f s' := by
  cases f with
  | next => obtain ⟨σ', H', I, q⟩ := h; exact ⟨σ', H', I.ofH ok, q⟩
  | brk => obtain ⟨σ', H', I, q⟩ := h; exact ⟨σ', H', I.ofH ok, q⟩
  | cont => obtain ⟨σ', H', I, q⟩ := h; exact ⟨σ', H', I.ofH ok, q⟩
  | ret u => obtain ⟨v, σ', H', I, r, q⟩ := h; exact ⟨v, σ', H', I.ofH ok, r, q⟩
end
section
variable {M : Model} {A : Around} {E : Value → Shared → Prop}
variable {nm q nm' q' : Str} {C N C' N' : Addr} {bs bm bs' bm' : List Value} {hdct hdct' : Bool} {sn sn' : List Str} {sub sub' : List Value} {ab ab' : Bool} {col col' : Option Bool} {dd dd' : Option Addr} {k0 k1 k2 k3 k5 k0' k1' k2' k3' k5' : Option Value} {newId newId' : String}
/-- the exception's class is C, the handler's C', a base of it or itself -/
theorem excMatches_up {h : Heap} {g : Array GenState} {d : Drawn} {t : Nat} {os : OsState} {e : Addr} {oe : Obj} {Q : Bool → Shared → Prop}
    (hC : h.get? C = some (excClassObj nm q C N bs bm hdct sn sub ab col dd k0 k1 k2 k3 k5 newId)) (hC' : h.get? C' = some (excClassObj nm' q' C' N' bs' bm' hdct' sn' sub' ab' col' dd' k0' k1' k2' k3' k5' newId')) (he : h.get? e = some oe) (hcls : oe.cls = .ref C)
    (hbase : bm'.contains (.type "BaseException") = true) (hin : (Value.ref C :: bm).contains (.ref C') = true) (hq : Q true ⟨h, g, d, t, os⟩) : wpAny M A (excMatches (.ref e) (.ref C')) Q E ⟨h, g, d, t, os⟩ := by
  have hcB : (Value.ref C' :: bm').contains (.type "BaseException") = true := by rw [List.contains_cons, hbase, Bool.or_true]
  have f := tc_notTuple
  unfold excMatches
  repeat (first | (with_reducible refine wpAny_loadPart_at he ?_; rw [hcls]) | with_reducible refine wpAny_loadPart_at hC' ?_ | (with_reducible refine wpAny_isSubtype_exc hC' ?_; rw [hcB]) | (with_reducible refine wpAny_isSubtype_exc hC ?_; rw [hin]) | wp_step)
  exact hq
end
end L2
namespace L2
open PySem PySem.Spec PyProof.Rows PySem.W
/-- C' is C or a base of C -/
def upIn (K : Frag) (C C' : Addr) : Bool := match K.lookup C with
  | some ⟨_, _, .cls cd, _⟩ => cd.mro.contains (.ref C')
  | _ => false
theorem up_of {K : Frag} {h : Heap} {C C' N : Addr} {nm q : Str} {bs bm : List Value} {hdct : Bool} {sn : List Str} {sub : List Value} {ab : Bool} {col : Option Bool} {dd : Option Addr} {k0 k1 k2 k3 k5 : Option Value} {newId : String} (X : K.In h) (e : upIn K C C' = true)
    (hC : h.get? C = some (excClassObj nm q C N bs bm hdct sn sub ab col dd k0 k1 k2 k3 k5 newId)) : (Value.ref C :: bm).contains (.ref C') = true := by
  unfold upIn at e
  split at e
  · rename_i ho
    have := X _ _ ho
    rw [hC] at this
    cases this
    exact e
  · cases e
/-- what stands when a handler is looked for -/
structure Land (X : Cx) (pins : List (Addr × Obj)) (σ : St) (H' : Hp) (ea : Addr) (cls : Value) (s : Shared) : Prop where
  inv : Inv X pins σ H' s
  fly : ∃ base a0, Heap.FlyingW base X.stack ea cls a0 s.heap ∧ (∀ h', base.StaysIn h' → s.heap.UpToSlots h' → Inv X pins σ H' { s with heap := h' })
  nl : ea ≠ X.env.locals
  nf : ea ∉ X.fs
  nt : H' ea = none
theorem land {X : Cx} {pins : List (Addr × Obj)} {Ex : Value → St → Hp → Prop} {e : Value} {s' : Shared} {L : Addr} (hst : X.stack = X.env :: X.outer) (hf : X.env.frame = some L) (h : Fl X pins Ex e s') {Q : Unit → Shared → Prop} {E : Value → Shared → Prop}
    (k : ∀ ea cls σ H' h2, e = .ref ea → Land X pins σ H' ea cls { s' with heap := h2 } → Ex cls σ H' → Q () { s' with heap := h2 }) :
    wpAny (model X.prog X.w) X.A (noteFrame e X.env) (fun _ s₂ => wpAny (model X.prog X.w) X.A (setFlight e none) Q E s₂) E s' := by
  obtain ⟨ea, T, cls, fl, σ, H1, H', s1, rfl, I1, os, bare, un, hok, f1, f2, n1, n2, tr, hE⟩ := h
  have I' := I1.flown os bare un hok
  have ff := I'.stack
  obtain ⟨a0, g1, g2, g3, g4⟩ := fly_of ff tr
  have hfr : X.A.frames = some (X.env :: X.outer) := by rw [← hst]; exact I1.ok.frames
  generalize hB : allBut s'.heap X.stack ea T = B at g1 g2 g3 g4
  rw [hst] at g3
  refine note_any hfr hf g1 g2 g3 g4 fun h1 hh up1 => ?_
  refine wpAny_landsW (s := { s' with heap := h1 }) hh fun h2 fl2 up2 => ?_
  have up := up1.trans up2
  have again : ∀ h', B.StaysIn h' → s'.heap.UpToSlots h' → Inv X pins σ H' { s' with heap := h' } := fun h' st u => by
    rw [← hB] at st
    obtain ⟨u2, hok2⟩ := fly_un un hok ff I'.stkFree f1 f2 n1 n2 st u
    exact I1.flown (s' := { s' with heap := h' }) os bare u2 hok2
  refine k ea cls σ H' h2 rfl ⟨again h2 fl2.1 up, ⟨_, a0, by rw [hst]; exact fl2, fun h' st u => again h' st (up.trans u)⟩, fun z => ?_, fun z => ?_, n1⟩ hE
  · obtain ⟨m, ⟨o, es, ep, ho, _⟩, _⟩ := I1.loc
    rw [← z, f1] at ho; cases ho
  · obtain ⟨_, o, ho, _⟩ := I1.funs.mem z
    rw [f1] at ho; cases ho
section
variable {X : Cx} {st : Stmt} {tb : XS} {x : Str} {np hpos pos : Pos} {b₀ : Stmt} {ss : List Stmt} {C C' : Addr} {bmB bmB' : List Value} {newId newId' : String} {ts : TS}
/-- try: st / except x: suite -/
theorem ps_try {L : Addr} (hx0 : ∀ e s, ¬ X.xe e s) (hst : X.stack = X.env :: X.outer) (hf : X.env.frame = some L) (hb : PX X st tb) (hc : excIn X.K C bmB newId = true) (hc' : excIn X.K C' bmB' newId' = true) (hup : upIn X.K C C' = true)
    (hbase : bmB'.contains (.type "BaseException") = true) (hm : X.mg x = some (.ref C')) (hg : Gl X x) (hs : ∀ ea oe, oe.cls = .ref C → PSs (cxH X ea oe) (b₀ :: ss) ts) (hdb : (x == ("__debug__" : Str)) = false := by decide) :
    PS X (.Try [st] [.ExceptHandler (some (.Name x np)) none (b₀ :: ss) hpos] [] [] pos) (fun D σ H => tb D (fun cls σ' H' => cls = .ref C ∧ ts D σ' H') σ H) := by
  intro pins s σ H D I h
  refine wpAny_Try_except (wpAny_execs_cons (wpAny_mono (hb pins s σ H D (fun cls σ' H' => cls = .ref C ∧ ts D σ' H')
    (fun e s₁ => wpAny (model X.prog X.w) X.A (noteFrame e X.env) (fun _ s₂ => wpAny (model X.prog X.w) X.A (setFlight e none) (fun _ s₃ => wpAny (model X.prog X.w) X.A (handleBy e X.env [.ExceptHandler (some (.Name x np)) none (b₀ :: ss) hpos]) (SP X pins D) X.xe s₃) X.xe s₂) X.xe s₁)
    (fun e s' q => ?_) I h) (fun f s1 q => ?_) fun _ _ q => q))
  · refine land hst hf q fun ea cls σ' H' h2 he l hE => ?_
    subst he
    obtain ⟨rfl, hts⟩ := hE
    have ok := l.inv.ok
    obtain ⟨base, a0, fl, again⟩ := l.fly
    obtain ⟨ob, hob, hobc⟩ := fl.there
    obtain ⟨bm, NN, nm, qn, bs, hdct, sn, sub, ab, col, dd, k0, k1, k2, k3, k5, mN, hC, hN, hni, T⟩ := exc_obj l.inv.kIn hc
    obtain ⟨bm', NN', nm', qn', bs', hdct', sn', sub', ab', col', dd', k0', k1', k2', k3', k5', mN', hC', hN', hni', T'⟩ := exc_obj l.inv.kIn hc'
    have hnc : ∀ v, ob.data ≠ .cell v := fun v z => by
      obtain ⟨oe, vs, ho, _, hd, _⟩ := fl.first
      rw [hob] at ho; cases ho
      rw [hd] at z; cases z
    have IH : Inv (cxH X ea ob) pins σ' H' { s' with heap := h2 } := l.inv.toH hob l.nt l.nl l.nf hnc
    refine wpAny_handleBy_cons (codeAny_handlers_test (ld_glob (X := cxH X ea ob) IH hg hm ?_ hdb)) (by intro q; cases q)
    refine excMatches_up hC hC' hob hobc (T'.hasType hbase) (up_of l.inv.kIn hup hC) (codeAny_handlers_suite ?_)
    refine lands_againW (s := { s' with heap := h2 }) fl fun h3 fl3 up3 => ?_
    have I3 := again h3 fl3.1 up3
    obtain ⟨oe, vs, ho, hcl, hd, _⟩ := fl3.first
    have J : Inv (cxH X ea oe) pins σ' H' { s' with heap := h3 } := I3.toH ho l.nt l.nl l.nf (fun v z => by rw [hd] at z; cases z)
    exact wpAny_mono (hs ea oe hcl pins { s' with heap := h3 } σ' H' D J hts) (fun f s4 q => q.ofH ok) fun _ _ q => q.elim
  · cases f with
    | next => exact wpAny_execs_nil (wpAny_execs_nil q)
    | brk => exact q
    | cont => exact q
    | ret u => exact q
/-- a state of which the names are forgotten -/
theorem Inv.forget {pins : List (Addr × Obj)} {σ : St} {H : Hp} {s : Shared} {h' : Heap} {m' : Str → Option Value} {tk : Nat} (I : Inv X pins σ H s) (hn : h'.Ns X.env.locals m') (hs : Heap.SameBut X.env.locals s.heap h') : Inv X pins (List.replicate X.N.length none) H { s with heap := h', toks := tk } := by
  have hf := I.free
  have keepN : ∀ b o, b ≠ X.env.locals → s.heap.get? b = some o → h'.get? b = some o := fun b o hb e => hs.extBut b o hb e
  have I0 : Inv X pins (List.replicate X.N.length none) H s := ⟨I.ok, I.os, I.bare, I.base, (by
    obtain ⟨m, hm, _⟩ := I.loc
    exact ⟨m, hm, fun i x v _ h2 => by rw [List.getElem?_replicate] at h2; split at h2 <;> cases h2⟩), I.cell, I.free, I.freeC, I.pin, I.hok, List.length_replicate ..⟩
  refine ⟨I.ok, I.os, I.bare, ?_, ⟨m', hn, fun i x v _ h2 => by rw [List.getElem?_replicate] at h2; split at h2 <;> cases h2⟩, fun x c e => ?_, I.free, I.freeC, fun p hp => ?_, ?_, List.length_replicate ..⟩
  · have neL : ∀ b o, X.s₀.heap.get? b = some o → b ≠ X.env.locals := fun b o e => Nat.ne_of_lt (Nat.lt_of_lt_of_le (Heap.lt_size e) I.ok.above)
    exact ⟨fun b o e n h1 h2 => keepN b o (neL b o e) (I.base.keep b o e n h1 h2), fun b o e n h1 h2 => by
      obtain ⟨sl, q⟩ := I.base.slot b o e n h1 h2
      exact ⟨sl, keepN b _ (neL b o e) q⟩, I.base.free, fun b o e h1 => by
      obtain ⟨o', q⟩ := I.base.there b o e h1
      exact ⟨o', keepN b _ (neL b o e) q⟩, I.base.tups, I.base.frzs, I.base.tbls⟩
  · obtain ⟨v, o, ho, hd⟩ := I.cell x c e
    exact ⟨v, o, keepN c o (I.cne x c e) ho, hd⟩
  · obtain ⟨e, n, ne, nf, d⟩ := I.pin p hp
    exact ⟨keepN p.1 p.2 ne e, n, ne, nf, d⟩
  · intro a o e
    have ne : ∀ b x, H b = some x → b ≠ X.env.locals := fun b x q z => by rw [z, hf] at q; cases q
    refine (I.hok a o e).stay (fun b u hb q => keepN b u ?_ q) (fun _ q => q) fun _ _ q => q
    rcases hb with z | z
    · rw [z]; exact ne a o e
    · exact ne b _ z
/-- try: st / except x as n: suite, a suite that returns -/
theorem ps_tryAs {L : Addr} {n : Str} {i : Nat} {tsA : Addr → TS} (hx0 : ∀ e s, ¬ X.xe e s) (hst : X.stack = X.env :: X.outer) (hf : X.env.frame = some L) (hb : PX X st tb) (hc : excIn X.K C bmB newId = true) (hc' : excIn X.K C' bmB' newId' = true) (hup : upIn X.K C C' = true)
    (hbase : bmB'.contains (.type "BaseException") = true) (hm : X.mg x = some (.ref C')) (hg : Gl X x) (hN : X.N.Nodup) (hi : X.N[i]? = some n) (hl : X.env.kindOf n = some .local) (hs : ∀ ea oe, oe.cls = .ref C → PSs (cxH X ea oe) (b₀ :: ss) (tsA ea)) (hdb : (x == ("__debug__" : Str)) = false := by decide) :
    PS X (.Try [st] [.ExceptHandler (some (.Name x np)) (some n) (b₀ :: ss) hpos] [] [] pos) (fun D σ H => tb D (fun cls σ' H' => cls = .ref C ∧ ∀ ea, H' ea = none → tsA ea { nx := fun _ _ => False, rt := D.rt } (σ'.set i (some (.ref ea))) H') σ H) := by
  intro pins s σ H D I h
  refine wpAny_Try_except (wpAny_execs_cons (wpAny_mono (hb pins s σ H D (fun cls σ' H' => cls = .ref C ∧ ∀ ea, H' ea = none → tsA ea { nx := fun _ _ => False, rt := D.rt } (σ'.set i (some (.ref ea))) H')
    (fun e s₁ => wpAny (model X.prog X.w) X.A (noteFrame e X.env) (fun _ s₂ => wpAny (model X.prog X.w) X.A (setFlight e none) (fun _ s₃ => wpAny (model X.prog X.w) X.A (handleBy e X.env [.ExceptHandler (some (.Name x np)) (some n) (b₀ :: ss) hpos]) (SP X pins D) X.xe s₃) X.xe s₂) X.xe s₁)
    (fun e s' q => ?_) I h) (fun f s1 q => ?_) fun _ _ q => q))
  · refine land hst hf q fun ea cls σ' H' h2 he l hE => ?_
    subst he
    obtain ⟨rfl, hts⟩ := hE
    have ok := l.inv.ok
    obtain ⟨base, a0, fl, again⟩ := l.fly
    obtain ⟨ob, hob, hobc⟩ := fl.there
    obtain ⟨bm, NN, nm, qn, bs, hdct, sn, sub, ab, col, dd, k0, k1, k2, k3, k5, mN, hC, hN', hni, T⟩ := exc_obj l.inv.kIn hc
    obtain ⟨bm', NN', nm', qn', bs', hdct', sn', sub', ab', col', dd', k0', k1', k2', k3', k5', mN', hC', hN'', hni', T'⟩ := exc_obj l.inv.kIn hc'
    have hnc : ∀ v, ob.data ≠ .cell v := fun v z => by
      obtain ⟨oe, vs, ho, _, hd, _⟩ := fl.first
      rw [hob] at ho; cases ho
      rw [hd] at z; cases z
    have IH : Inv (cxH X ea ob) pins σ' H' { s' with heap := h2 } := l.inv.toH hob l.nt l.nl l.nf hnc
    refine wpAny_handleBy_cons (codeAny_handlers_test (ld_glob (X := cxH X ea ob) IH hg hm ?_ hdb)) (by intro q; cases q)
    refine excMatches_up hC hC' hob hobc (T'.hasType hbase) (up_of l.inv.kIn hup hC) (codeAny_handlers_suite_as ?_)
    refine lands_againW (s := { s' with heap := h2 }) fl fun h3 fl3 up3 => ?_
    have I3 := again h3 fl3.1 up3
    obtain ⟨oe, vs, ho, hcl, hd, _⟩ := fl3.first
    have J : Inv (cxH X ea oe) pins σ' H' { s' with heap := h3 } := I3.toH ho l.nt l.nl l.nf (fun v z => by rw [hd] at z; cases z)
    refine store_ok (X := cxH X ea oe) (v := .ref ea) J hN hi (.inl hl) rfl (fun s4 J4 => ?_) (.inr hl)
    refine wpAny_mono (hs ea oe hcl pins s4 _ H' { nx := fun _ _ => False, rt := D.rt } J4 (hts ea l.nt)) (fun f s5 q => ?_) fun _ _ q => q.elim
    cases f with
    | next => obtain ⟨_, _, _, q⟩ := q; exact q.elim
    | brk => obtain ⟨_, _, _, q⟩ := q; exact q.elim
    | cont => obtain ⟨_, _, _, q⟩ := q; exact q.elim
    | ret u =>
      obtain ⟨v, σ5, H5, I5, r5, q5⟩ := q
      have I5' := I5.ofH ok
      obtain ⟨m5, hm5, _⟩ := I5'.loc
      exact wpAny_nameGoes hl hm5 (by rw [ok.kind]; rfl) fun h6 m6 hn6 hs6 => ⟨v, _, H5, I5'.forget hn6 hs6, r5, q5⟩
  · cases f with
    | next => exact wpAny_execs_nil (wpAny_execs_nil q)
    | brk => exact q
    | cont => exact q
    | ret u => exact q
end
end L2
/-! a comprehension whose element may raise -/
namespace L2
open PySem PySem.Spec PyProof.Rows PySem.W
section
variable {P : Program} {w : World} {H H' : Hp} {h0 h h' base : Heap} {fs : List Addr} {l : List Env} {e T : Addr}
theorem fly_unG (u : Un fs [] H H' h0 h) (hok : HOk P w H' h) (ff : h.FunFrames base l) (sup : ∀ b ∈ fs, b ∈ frs l) (sub : ∀ b ∈ frs l, b ∉ fs → h0.get? b = none) (fr : ∀ b ∈ frs l, H' b = none) (f1 : h0.get? e = none) (f2 : h0.get? T = none) (n1 : H' e = none) (n2 : H' T = none)
    (st : (allBut h l e T).StaysIn h') (up : h.UpToSlots h') : Un fs [] H H' h0 h' ∧ HOk P w H' h' := by
  have kp : ∀ b o, b ∉ frs l → b ≠ e → b ≠ T → h.get? b = some o → h'.get? b = some o := fun b o n0 n1 n2 q => st b o (hideAll_get _ q (by
    intro z
    rcases List.mem_append.mp z with z | z
    · exact n0 z
    · simp at z
      exact z.elim n1 n2))
  have sl : ∀ b o, b ∈ frs l → h.get? b = some o → ∃ s, h'.get? b = some { o with slots := s } := fun b o hb q => by
    obtain ⟨_, o', q', hn⟩ := ff.mem hb
    rw [q] at q'; cases q'
    exact up b o q hn
  have ne : ∀ b o, h0.get? b = some o → b ≠ e ∧ b ≠ T := fun b o q => ⟨fun z => (by rw [z, f1] at q; cases q), fun z => (by rw [z, f2] at q; cases q)⟩
  have nfr : ∀ b o, h0.get? b = some o → b ∉ fs → b ∉ frs l := fun b o q hb z => by
    have := sub b z hb
    rw [q] at this; cases this
  refine ⟨⟨fun b o q n hb hx => kp b o (nfr b o q hb) (ne b o q).1 (ne b o q).2 (u.keep b o q n hb hx), fun b o q n hb hx => ?_, u.free, fun b o q hx => ?_, u.tups, u.frzs, u.tbls⟩, fun a o q => ?_⟩
  · obtain ⟨s1, e1⟩ := u.slot b o q n hb hx
    obtain ⟨s2, e2⟩ := sl b _ (sup b hb) e1
    exact ⟨s2, e2⟩
  · obtain ⟨o', e1⟩ := u.there b o q hx
    by_cases hb : b ∈ fs
    · obtain ⟨s2, e2⟩ := sl b _ (sup b hb) e1
      exact ⟨_, e2⟩
    · exact ⟨o', kp b o' (nfr b o q hb) (ne b o q).1 (ne b o q).2 e1⟩
  · have nb : ∀ b x, H' b = some x → b ∉ frs l ∧ b ≠ e ∧ b ≠ T := fun b x q => ⟨fun z => (by rw [fr b z] at q; cases q), fun z => (by rw [z, n1] at q; cases q), fun z => (by rw [z, n2] at q; cases q)⟩
    refine (hok a o q).stay (fun b v hb qb => ?_) (fun _ z => z) fun _ _ z => z
    have : ∃ x, H' b = some x := by
      rcases hb with z | z
      · rw [z]; exact ⟨_, q⟩
      · exact ⟨_, z⟩
    obtain ⟨x, hx⟩ := this
    obtain ⟨m1, m2, m3⟩ := nb b x hx
    exact kp b v m1 m2 m3 qb
theorem fly_newG (hok : HOk P w H' h) (ff : h.FunFrames base l) (n2 : H' T = none) (up : h.UpToSlots h') {T' : Addr} (b0 : (allBut h l e T).get? T' = none) (ne : T' ≠ e) {oT : Obj} {ts : Array Value} (t1 : h'.get? T' = some oT) (t2 : oT.data = .fields ts) :
    (∀ o, h.get? T' = some o → T' = T) ∧ H' T' = none := by
  have key : ∀ o, h.get? T' = some o → T' = T := fun o q => Classical.byContradiction fun nT => by
    by_cases hb : T' ∈ frs l
    · obtain ⟨_, o', q', hn⟩ := ff.mem hb
      obtain ⟨s, e⟩ := up T' o' q' hn
      rw [t1] at e
      cases e
      exact hn ts t2
    · have := hideAll_get (frs l ++ [e, T]) q (by
        intro z
        rcases List.mem_append.mp z with z | z
        · exact hb z
        · simp at z
          exact z.elim ne nT)
      rw [b0] at this; cases this
  refine ⟨key, ?_⟩
  cases q : H' T' with
  | none => rfl
  | some x =>
    obtain ⟨o', e1⟩ := (hok T' x q).there
    have := key o' e1
    subst this
    rw [n2] at q; cases q
end
section
variable {P : Program} {w : World} {K : PySem.W.Frag} {mg : Str → Option Value} {base : Heap} {N : List Str} {qual : Str} {scope : Scope} {f : Addr} {cd : Value} {A : Around} {outer : List Env} {s : Shared} {H : Hp} {E : XK}
/-- out of a def's body, from a state ahead of which the exception's entries changed -/
theorem leave_from {pins : List (Addr × Obj)} {σ : St} {H' : Hp} {s2 s' : Shared} {ea T : Addr} {cls fl : Value} (I : Inv (cxW P w K mg base N qual scope f cd A outer s H E) pins σ H' s2) (os : s'.os = s2.os) (bare : AllBare s'.gens)
    (st : (allBut s2.heap (cxW P w K mg base N qual scope f cd A outer s H E).stack ea T).StaysIn s'.heap) (up : s2.heap.UpToSlots s'.heap) (f1 : s.heap.get? ea = none) (f2 : s.heap.get? T = none) (n1 : H' ea = none) (n2 : H' T = none) (tr : TracedT s'.heap ea T cls fl) (hE : E cls none H') :
    (cxW P w K mg base N qual scope f cd A outer s H E).xe (.ref ea) s' := by
  have ff := I.stack
  have ffB : s2.heap.FunFrames (allBut s2.heap (cxW P w K mg base N qual scope f cd A outer s H E).stack ea T) (cxW P w K mg base N qual scope f cd A outer s H E).stack := funFrames_hide ff fun env he a ea => List.mem_append_left _ (mem_frs he ea)
  obtain ⟨oe, vs, oT, ts, a0, h1, h2, h3, h4, h5, h6, h7, h8⟩ := tr
  refine leaves_any I.ok.frames rfl st (hideAll_none _ (by simp)) (ffB.of_keeps fun b o hb hnf => ?_) ⟨oe, vs, T, oT, ts, h1, h2, h3, h4, hideAll_none _ (by simp), h5, h6, h7, h8⟩ (fl := fl) (a0 := a0) fun h' fl' up' => ?_
  · obtain ⟨sl, q⟩ := up b o hb hnf
    exact ⟨_, q, rfl⟩
  have upA := up.trans up'
  have own : ∀ b ∈ frs (cxW P w K mg base N qual scope f cd A outer s H E).stack, b ∉ (cxW P w K mg base N qual scope f cd A outer s H E).fs → s.heap.get? b = none := fun b hb nb => by
    rcases List.mem_cons.mp (I.stkSub b hb) with z | z
    · cases q : s.heap.get? b with
      | none => rfl
      | some o =>
        have h1 := Heap.lt_size q
        have h2 : s.heap.objs.size ≤ (cxW P w K mg base N qual scope f cd A outer s H E).env.locals := I.ok.above
        rw [z] at h1
        exact absurd (Nat.lt_of_lt_of_le h1 h2) (Nat.lt_irrefl _)
    · exact absurd z nb
  obtain ⟨u2, hok2⟩ := fly_unG (fs := (cxW P w K mg base N qual scope f cd A outer s H E).fs) I.base I.hok ff (fun b hb => by
    show b ∈ frs (_ :: outer)
    unfold frs
    rw [List.filterMap_cons]
    exact List.mem_cons_of_mem _ hb) own I.stkFree f1 f2 n1 n2 fl'.1 upA
  obtain ⟨T', b0, neT, tr', oT', ts', t1, t2⟩ := traced_of fl'.2.2.2.at
  obtain ⟨g1, g2⟩ := fly_newG I.hok ff n2 upA b0 neT t1 t2
  have g3 : s.heap.get? T' = none := by
    cases q : s.heap.get? T' with
    | none => rfl
    | some o =>
      obtain ⟨o', e⟩ := I.base.there T' o q (by simp [cxOf])
      have := g1 o' e
      subst this
      rw [f2] at q; cases q
  have fl2 : h'.FunFrames (allBut s2.heap (cxW P w K mg base N qual scope f cd A outer s H E).stack ea T) (cxW P w K mg base N qual scope f cd A outer s H E).stack := fl'.2.2.1
  exact ⟨ea, T', cls, H', rfl, os.trans I.os, bare, u2, hok2, f1, g3, n1, g2, tr', hE⟩
end
section
variable {prog : Program} {w : World} {A : Around} {R : Result → Shared → Prop} {s : Shared}
/-- the loop of a comprehension, any target; an exception may leave it -/
theorem compLoop_anyE {elt target iter : Expr} {ifs : List Expr} {scope : Scope} {pos : Pos} {it acc : Value} {env : Env} (I : Nat → Shared → Prop)
    (turn : ∀ n s, I n s → wpAny (model prog w) A (pyNext it) (fun r s₁ => match r with
      | none => R (.ok .next) s₁
      | some v => wpAny (model prog w) A (letOwnedTupleGo target it v) (fun _ s₁' => wpAny (model prog w) A (assign target env v) (fun _ s₂ =>
          wpAny (model prog w) A (forIn ifs true fun c r => if r = true then do let ok ← isTrue c env (eval c env); pure (ForInStep.yield ok) else pure (ForInStep.yield r)) (fun ok s₃ =>
            if ok = true then wpAny (model prog w) A (eval elt env) (fun x s₄ =>
              wpAny (model prog w) A (call (.builtin "list.append") [acc, x]) (fun _ s₅ => ∃ m, m < n ∧ I m s₅) (notedBy (model prog w) A env fun e s' => R (.error e) s') s₄) (notedBy (model prog w) A env fun e s' => R (.error e) s') s₃
            else ∃ m, m < n ∧ I m s₃) (notedBy (model prog w) A env fun e s' => R (.error e) s') s₂) (notedBy (model prog w) A env fun e s' => R (.error e) s') s₁') (notedBy (model prog w) A env fun e s' => R (.error e) s') s₁) (notedBy (model prog w) A env fun e s' => R (.error e) s') s)
    (n : Nat) (h : I n s) :
    codeAny (model prog w) A (.compLoop (.ListComp elt [⟨target, iter, ifs, 0⟩] scope pos) 0 it acc env) R s := by
  refine codeAny_loop rfl I (fun n s hI => ?_) n h
  show wpAny _ A ((compTurn (.ListComp elt [⟨target, iter, ifs, 0⟩] scope pos) 0 it acc env).onRaise (fun x => do noteFrame x env; theTreesLotGoes x)) _ _ s
  refine wpAny_noted ?_
  rw [compTurn_list]
  refine wpAny_bind (wpAny_standAt (wpAny_bind (wpAny_mono (turn n s hI) (fun r s₁ h₁ => ?_) fun _ _ h' => h')))
  cases r with
  | none => exact wpAny_pure h₁
  | some v =>
    refine wpAny_bind (wpAny_mono h₁ (fun _ s₁' h₁' => ?_) fun _ _ h' => h')
    refine wpAny_bind (wpAny_mono h₁' (fun _ s₂ h₂ => wpAny_bind (wpAny_mono h₂ (fun ok s₃ h₃ => ?_) fun _ _ h' => h')) fun _ _ h' => h')
    cases ok with
    | false => exact wpAny_pure ⟨rfl, h₃⟩
    | true =>
      exact wpAny_bind (wpAny_bind (wpAny_mono h₃ (fun x s₄ h₄ => wpAny_bind (wpAny_mono h₄ (fun _ s₅ h₅ => wpAny_pure (wpAny_pure ⟨rfl, h₅⟩)) fun _ _ h' => h')) fun _ _ h' => h'))
end
/-! ### the comprehension in a def that may raise -/
section
variable {P : Program} {w : World} {K : PySem.W.Frag} {mg : Str → Option Value} {base : Heap} {NN : List Str} {qual : Str} {dscope : Scope} {f : Addr} {cd : Value} {A : Around} {outer : List Env} {s0 : Shared} {H0 : Hp} {E : XK}
variable {pins : List (Addr × Obj)} {σ : St} {H : Hp} {s : Shared} {scope : Scope} {cl : List (Str × Addr)} {N : List Str} {sel : List (Option Nat)}
/-- an exception of the block reaches the def's own end -/
theorem block_out {X : Cx} (hX : X = cxW P w K mg base NN qual dscope f cd A outer s0 H0 E) (C : CompIn X scope cl N sel) {s₃ : Shared} {H₃ : Hp} {fp : List Addr} (I : Inv X pins σ H₃ s₃) (hf : ∀ b ∈ fp, FpOk X pins H₃ b) {Q : Value → Shared → Prop} {acc : Value} :
    Passes (CXW P w) ((cxIn X scope cl N s₃ H₃ fp).wish (notedBy (model P w) X.A (compEnvC scope cl s₃.heap.objs.size X.env) fun e s' => compPost (model P w) X.A X.xe none Q acc s₃.heap.objs.size (.error e) s')) E := by
  intro pl τ H1 s1 e s' J h
  obtain ⟨ea, T, cls, H', rfl, os, bare, un, hok, f1, f2, n1, n2, tr, hE⟩ := h
  have J0 : Inv (cxIn X scope cl N s₃ H₃ fp) pl τ H1 s1 := J.unwish
  have hP : X.prog = P := by rw [hX]; rfl
  have hw : X.w = w := by rw [hX]; rfl
  have hst : X.stack = X.env :: outer := by rw [hX]; rfl
  have hfm : X.env.frame = some X.env.locals := by rw [hX]; rfl
  have hok0 : HOk X.prog X.w H' s'.heap := by rw [hP, hw]; exact hok
  have un : Un (frs X.stack) [] H1 H' s1.heap s'.heap := un
  have J1 := J0.flown os bare un hok0
  have ff : s'.heap.FunFrames X.base X.stack := J1.stack
  have fr : ∀ b ∈ frs X.stack, H' b = none := J1.stkFree
  obtain ⟨a0, g1, g2, g3, g4⟩ := fly_of ff tr
  have hfr : X.A.frames = some (X.env :: outer) := by rw [← hst]; exact I.ok.frames
  show wpAny (model P w) X.A (noteFrame (.ref ea) (compEnvC scope cl s₃.heap.objs.size X.env)) _ _ s'
  rw [note_congr (e := .ref ea) (env := compEnvC scope cl s₃.heap.objs.size X.env) (env' := X.env) rfl]
  generalize hB : allBut s'.heap X.stack ea T = B at g1 g2 g3 g4
  rw [hst] at g3
  refine note_any hfr hfm g1 g2 g3 g4 fun h1 hh up1 => ?_
  obtain ⟨u2, hok2⟩ := fly_un un hok0 ff fr f1 f2 n1 n2 (by rw [hB]; exact hh.1) up1
  have J2 : Inv (cxIn X scope cl N s₃ H₃ fp) pl τ H' { s' with heap := h1 } := J0.flown (s' := { s' with heap := h1 }) os bare u2 hok2
  obtain ⟨T1, b0, neT, tr1, oT, ts, t1, t2⟩ := traced_of hh.2.2.2
  rw [← hB] at b0
  obtain ⟨q1, q2⟩ := fly_newG hok0 ff n2 up1 b0 neT t1 t2
  have q3 : s1.heap.get? T1 = none := by
    cases q : s1.heap.get? T1 with
    | none => rfl
    | some o =>
      obtain ⟨o', e⟩ := un.there T1 o q (by simp)
      have := q1 o' e
      subst this
      rw [f2] at q; cases q
  obtain ⟨m2, hm2, _⟩ := id J2.loc
  refine ⟨m2, hm2, fun h2 hs2 cenv _ => ?_⟩
  have I2 : Inv X pins σ H' { s' with heap := h2 } := C.back I hf J2 hs2
  have neC : ∀ b, s1.heap.get? b = none → b ≠ s₃.heap.objs.size := fun b q z => by
    obtain ⟨m, ⟨o, es, ep, ho, _⟩, _⟩ := J0.loc
    have ho : s1.heap.get? s₃.heap.objs.size = some o := ho
    rw [← z, q] at ho; cases ho
  have kC : ∀ b o, b ≠ s₃.heap.objs.size → h1.get? b = some o → h2.get? b = some o := fun b o hb q => hs2.extBut b o hb q
  obtain ⟨oe, vs, oT1, ts1, a1, e1, e2, e3, e4, e5, e6, e7, e8⟩ := tr1
  have e1' := kC _ _ (neC ea f1) e1
  have e6' := kC _ _ (neC T1 q3) e6
  -- passed on
  unfold PySem.passOn
  refine wpAny_bind (wpAny_field (s := { s' with heap := h2 }) e1' e3 e4 ?_)
  rw [if_neg (show ¬ ((Value.ref T1 == Value.none) = true) from by simp)]
  refine wpAny_bind ?_
  unfold setFlight
  refine wpAny_bind (wpAny_field (s := { s' with heap := h2 }) e1' e3 e4 ?_)
  rw [if_pos (show (Value.ref T1 != Value.none) = true from by simp)]
  refine wpAny_setField (s := { s' with heap := h2 }) e6' e7 (Array.getElem?_eq_some_iff.mp e8).1 (wpAny_throw ?_)
  have other : ∀ b (g : Obj → Obj), b ≠ T1 → (h2.update T1 g).get? b = h2.get? b := fun b g hb => Heap.get?_update_other _ _ (Ne.symm hb)
  have hsz3 : 3 < ts1.size := (Array.getElem?_eq_some_iff.mp e8).1
  have old : ∀ b, s1.heap.get? b = none → s0.heap.get? b = none := fun b q => by
    cases z : s0.heap.get? b with
    | none => rfl
    | some o =>
      have hI : ∃ o', s₃.heap.get? b = some o' := I.base.there b o (by rw [hX]; exact z) (by rw [hX]; simp [cxOf])
      obtain ⟨o', z'⟩ := hI
      have nfp : b ∉ fp := fun hb => by
        rcases (hf b hb).2.2.2.1 with y | y
        · rw [hX] at y; simp [cxOf] at y
        · have := Heap.lt_size z
          rw [hX] at y
          exact absurd (Nat.lt_of_lt_of_le this y) (Nat.lt_irrefl _)
      obtain ⟨o'', z''⟩ := J0.base.there b o' z' nfp
      rw [q] at z''; cases z''
  subst hX
  refine leave_from (s2 := { s' with heap := h2 }) (T := T1) (cls := cls) (fl := (cenv.frame.elim Value.none fun f => rawInt f)) I2 rfl bare (fun b o q => ?_) (fun b o q hn => ?_) (old _ f1) (old _ q3) n1 q2 ?_ hE
  · have nb : b ≠ T1 := fun z => by
      rw [z, hideAll_none _ (by simp)] at q
      cases q
    exact (other b _ nb).trans (of_hideAll _ q)
  · have nb : b ≠ T1 := fun z => by
      have q : h2.get? b = some o := q
      rw [z, e6'] at q; cases q
      exact hn ts1 e7
    exact ⟨o.slots, (other b _ nb).trans q⟩
  · refine ⟨oe, vs, _, _, a1, (other ea _ (Ne.symm e5)).trans e1', e2, e3, e4, e5, Heap.get?_update_self _ e6' (Obj.isFreed_of_fields (Obj.data_mapFields e7 _)), Obj.data_mapFields e7 _, by simp [hsz3]⟩
/-- the whole of it, ahead of what becomes of the list -/
theorem comp_coreE {X : Cx} (C : CompIn X scope cl N sel) {tg iter elt : Expr} {ifs : List Expr} {wi : TI} {g : TG} {tc : TT} {te : TE} {pos : Pos} (hc : X.calm = true) (hi : PI X tg iter wi)
    (hg : ∀ s₃ H₃ fp We, PG ((cxIn X scope cl N s₃ H₃ fp).wish We) tg g) (ht : ∀ s₃ H₃ fp We, PIf ((cxIn X scope cl N s₃ H₃ fp).wish We) ifs tc)
    {RR : Value → Addr → Result → Shared → Prop} {R : VK}
    (he : ∀ s₃ H₃ fp acc, Inv X pins σ H₃ s₃ → (∀ b ∈ fp, FpOk X pins H₃ b) → PE ((cxIn X scope cl N s₃ H₃ fp).wish (notedBy (model X.prog X.w) X.A (compEnvC scope cl s₃.heap.objs.size X.env) fun e s' => RR acc s₃.heap.objs.size (.error e) s')) elt te) (I : Inv X pins σ H s) (h : tComp sel wi g tc te σ H R)
    (fin : ∀ D C' H' s' m, R (.ref D) H' → s'.heap.Ns C' m → FpOk X pins H' C' → (∀ h', Heap.SameBut C' s'.heap h' → Inv X pins σ H' { s' with heap := h' }) → RR (.ref D) C' (.ok .next) s') :
    wpAny (model X.prog X.w) X.A (eval iter X.env) (fun x s₁ => wpAny (model X.prog X.w) X.A (pyIter x) (fun it s₂ => wpAny (model X.prog X.w) X.A (newList []) (fun acc s₃ =>
      wpAny (model X.prog X.w) X.A (newFunctionEnv scope X.env.globals cl [] X.env.qual none .none (some X.env)) (fun cenv s₄ =>
        codeAny (model X.prog X.w) X.A (.compStart (.ListComp elt [⟨tg, iter, ifs, 0⟩] scope pos) 0 it acc { cenv with scope := relabel scope X.env }) (RR acc cenv.locals) s₄) X.xe s₃) X.xe s₂) X.xe s₁) X.xe s := by
  refine thn (hi pins s σ H _ I h) fun v s1 h1 => thn h1 fun itv s2 h2 => ?_
  obtain ⟨it, fp, tn, J, H2, e, I2, T, st2, f2, hD⟩ := h2
  subst e
  have frD : H2 s2.heap.objs.size = none := I2.fresh
  obtain ⟨W, ⟨m0, w0⟩, turn⟩ := hD s2.heap.objs.size frD
  refine wpAny_newObj_type ?_
  have I3 : Inv X pins σ (upd H2 s2.heap.objs.size (.lst [])) { s2 with heap := s2.heap.push { cls := .type "list", data := .seq ([] : List Value).toArray }, toks := s2.toks } := I2.lnew (its := []) .nil (Nat.zero_le _)
  have lt2 : ∀ b ∈ fp, b < s2.heap.objs.size := fun b hb => by
    obtain ⟨o, e, _⟩ := T.obj _ _ st2 b hb
    exact Heap.lt_size e
  have f3 : ∀ b ∈ fp, FpOk X pins (upd H2 s2.heap.objs.size (.lst [])) b := fun b hb => ⟨by rw [upd_ne (Nat.ne_of_lt (lt2 b hb))]; exact (f2 b hb).1, (f2 b hb).2⟩
  generalize eH : upd H2 s2.heap.objs.size (.lst []) = H3 at I3 f3 w0
  have hD3 : H3 s2.heap.objs.size = some (.lst []) := by rw [← eH]; exact upd_same
  generalize es : ({ s2 with heap := s2.heap.push { cls := .type "list", data := .seq ([] : List Value).toArray }, toks := s2.toks } : Shared) = s3 at I3
  have st3 : tn 0 s3.heap := by
    rw [← es]
    exact T.keep _ _ _ st2 fun b _ o e => Heap.get?_push_of_some _ e
  have lt3 : ∀ b ∈ fp, b < s3.heap.objs.size := fun b hb => by
    obtain ⟨o, e, _⟩ := T.obj _ _ st3 b hb
    exact Heap.lt_size e
  refine wpAny_newFunctionEnv C.nocell (fun x hx => by simp at hx) (fun h4 hn4 hs4 => ?_) C.kind
  have k4 : ∀ b o, s3.heap.get? b = some o → h4.get? b = some o := fun b o e => hs4.extBut b o (Nat.ne_of_lt (Heap.lt_size e)) (Heap.get?_push_of_some _ e)
  have I4 := C.start (tk := s3.toks + ([] : List (Str × Value)).length) I3 f3 lt3 (by simpa using hn4) k4
  have st4 : tn 0 h4 := T.keep _ _ _ st3 fun b _ o e => k4 b o e
  have stat : ∀ {H' : Hp}, (∀ b ∈ fp, H' b = none) → ∀ b ∈ fp, FpOk (cxIn X scope cl N s3 H3 fp) [] H' b := fun hn b hb =>
    ⟨hn b hb, Nat.ne_of_lt (lt3 b hb), (C.ok I3 f3 lt3).exfs b hb, .inl hb, fun x c h => (f3 b hb).2.2.2.2.1 x c (C.cells x c h), fun p hp => absurd (show p ∈ ([] : List (Addr × Obj)) from hp) (by simp)⟩
  have loop : codeAny (model X.prog X.w) X.A (.compLoop (.ListComp elt [⟨tg, iter, ifs, 0⟩] scope pos) 0 (.ref it) (.ref s2.heap.objs.size) (compEnvC scope cl s3.heap.objs.size X.env)) (RR (.ref s2.heap.objs.size) s3.heap.objs.size)
      { s3 with heap := h4, toks := s3.toks + ([] : List (Str × Value)).length } := by
    refine compLoop_anyE (fun n s' => ∃ i τ H', Inv (cxIn X scope cl N s3 H3 fp) [] τ H' s' ∧ tn i s'.heap ∧ (∀ b ∈ fp, H' b = none) ∧ W i n τ H') ?_ m0 ⟨0, selSt sel σ, H3, I4, st4, fun b hb => (f3 b hb).1, w0⟩
    rintro n s5 ⟨i, τ5, H5, I5, st5, fr5, w5⟩
    rcases turn i n τ5 H5 w5 with ⟨stop, q⟩ | ⟨go, Nx, hNx, step⟩
    · refine thn (T.done (cxIn X scope cl N s3 H3 fp) rfl rfl rfl hc i [] s5 τ5 H5 _ I5 (stat fr5) st5 stop) fun r s6 ⟨hr, I6⟩ => ?_
      subst hr
      obtain ⟨m6, hn6, _⟩ := id I6.loc
      exact fin _ _ H5 s6 m6 q hn6 (I3.fpOk (Nat.le_refl _) I6.free) fun h' hs' => C.back I3 f3 I6 hs'
    · refine thn (T.item (cxIn X scope cl N s3 H3 fp) rfl rfl rfl hc i [] s5 τ5 H5 _ I5 (stat fr5) st5 go) fun r s6 ⟨u, hr, h6⟩ => ?_
      subst hr
      refine thn h6 fun _ s7 ⟨x, H7, I7, r7, y7, st7, fr7⟩ => ?_
      have I7' := I7.pinned (stat fr7) (T.obj _ _ st7)
      have keepT : ∀ {τ' : St} {H' : Hp} {s' : Shared}, Inv (cxIn X scope cl N s3 H3 fp) ([] ++ pinsAt fp s7.heap) τ' H' s' → tn (i + 1) s'.heap ∧ ∀ b ∈ fp, H' b = none := fun {τ' H' s'} Iz =>
        ⟨T.keep _ _ _ st7 fun b hb o e => (Iz.pin (b, o) (List.mem_append_right _ (List.mem_append_right _ (mem_pinsAt hb e)))).1, fun b hb => by
          obtain ⟨o, e, d⟩ := T.obj _ _ st7 b hb
          exact (Iz.pin (b, o) (List.mem_append_right _ (List.mem_append_right _ (mem_pinsAt hb e)))).2.1⟩
      refine thn (hg s3 H3 fp _ _ s7 τ5 H7 x u _ (I7'.wish (notedBy (model X.prog X.w) X.A (compEnvC scope cl s3.heap.objs.size X.env) fun e s' => RR (.ref s2.heap.objs.size) s3.heap.objs.size (.error e) s')) r7 (step x H7 y7)) fun _ s8 ⟨τ8, H8, I8, q8⟩ => ?_
      refine thn (ht s3 H3 fp _ _ s8 τ8 H8 _ I8 q8) fun ok s9 ⟨H9, I9, q9⟩ => ?_
      cases ok with
      | false =>
        obtain ⟨m', hm, w9⟩ := hNx _ _ (show Nx τ8 H9 from q9)
        exact ⟨m', hm, i + 1, τ8, H9, I9.unwish.unpinned, (keepT I9.unwish).1, (keepT I9.unwish).2, w9⟩
      | true =>
        have q9 : te τ8 H9 _ := q9
        refine thn (he s3 H3 fp _ I3 f3 _ s9 τ8 H9 _ I9 q9) fun y s10 ⟨yv, H10, I10, r10, q10⟩ => ?_
        obtain ⟨ys, hys, hl, n10⟩ := q10
        obtain ⟨m', hm, w10⟩ := hNx _ _ n10
        refine thn (mt_append (X := (cxIn X scope cl N s3 H3 fp).wish _) _ s10 τ8 H10 (.ref s2.heap.objs.size) [yv] (.ref s2.heap.objs.size) [y] (fun _ H' => W (i + 1) m' τ8 H') I10 rfl (.cons r10 .nil) ⟨_, ys, yv, rfl, rfl, hys, hl, w10⟩) fun _ s11 ⟨_, H11, I11, _, w11⟩ => ?_
        exact ⟨m', hm, i + 1, τ8, H11, I11.unwish.unpinned, (keepT I11.unwish).1, (keepT I11.unwish).2, w11⟩
  exact codeAny_compStart_list loop (T.self X.A 0 _ _ _ st4 loop)

/-- [f(..) for target in iter if c] as a value, in a def that may raise -/
theorem pe_compW {tg iter elt : Expr} {ifs : List Expr} {wi : TI} {g : TG} {tc : TT} {te : TE} {pos : Pos} (C : CompIn (cxW P w K mg base NN qual dscope f cd A outer s0 H0 E) scope cl N sel) (hi : PI (cxW P w K mg base NN qual dscope f cd A outer s0 H0 E) tg iter wi)
    (hg : ∀ s₃ H₃ fp We, PG ((cxIn (cxW P w K mg base NN qual dscope f cd A outer s0 H0 E) scope cl N s₃ H₃ fp).wish We) tg g) (ht : ∀ s₃ H₃ fp We, PIf ((cxIn (cxW P w K mg base NN qual dscope f cd A outer s0 H0 E) scope cl N s₃ H₃ fp).wish We) ifs tc)
    (he : ∀ s₃ H₃ fp We, Passes (CXW P w) ((cxIn (cxW P w K mg base NN qual dscope f cd A outer s0 H0 E) scope cl N s₃ H₃ fp).wish We) E → PE ((cxIn (cxW P w K mg base NN qual dscope f cd A outer s0 H0 E) scope cl N s₃ H₃ fp).wish We) elt te)
    (hs : ∀ x, foldedSetIterable iter (cxW P w K mg base NN qual dscope f cd A outer s0 H0 E).env x = pure x := by intro _; rfl) : PE (cxW P w K mg base NN qual dscope f cd A outer s0 H0 E) (.ListComp elt [⟨tg, iter, ifs, 0⟩] scope pos) (tComp sel wi g tc te) := by
  intro pins s σ H Q I h
  rw [eval_ListComp]
  refine wpAny_comprehension_free (use := none) rfl hs C.clos C.kind C.locs (comp_coreE C rfl hi hg ht (fun s₃ H₃ fp acc I3 f3 => he s₃ H₃ fp _ (block_out rfl C I3 f3)) I h (R := Q) fun D C' H' s' m q hn _ back => ?_)
  exact ⟨m, hn, fun h' hs' => ⟨.ref D, H', back h' hs', rfl, q⟩⟩
end
end L2
/-! isinstance of an exception of an own class -/
namespace L2
open PySem PySem.Spec PyProof.Rows PySem.W
section
variable {prog : Program} {w : World} {A : Around} {E : Value → Shared → Prop} {h : Heap} {g : Array GenState} {d : Drawn} {t : Nat} {os : OsState} {a : Addr} {o : Obj} {K : Frag}
  {nm q : Str} {C N : Addr} {bs bm bmB : List Value} {hdct : Bool} {sn : List Str} {sub : List Value} {ab : Bool} {col : Option Bool} {dd : Option Addr} {k0 k1 k2 k3 k5 : Option Value} {B newId : String}
theorem class_get_exc {R : Result → Shared → Prop} (hC : h.get? C = some (excClassObj nm q C N bs bm hdct sn sub ab col dd k0 k1 k2 k3 k5 newId)) (hob : bm.contains (.type "object") = true) (hx : h.get? a = some o) (hc : o.cls = .ref C) (hq : R (.ok (.ret (.ref C))) ⟨h, g, d, t, os⟩) :
    codeAny (model prog w) A (.call (.builtin "getset_descriptor.__get__") ⟨[.builtin "object.__class__", .ref a, .ref C], []⟩) R ⟨h, g, d, t, os⟩ := by
  have hT5 : (⟨h, g, d, t, os⟩ : Shared).TypeIs (.builtin "object.__class__") "getset_descriptor" := PySem.F.typeOf_object_class
  have hcB : (Value.ref C :: bm).contains (.type (".".intercalate ("object.__class__".cutAt '.').dropLast)) = true := by
    rw [PySem.F.owner_object_class, List.contains_cons, hob]; rfl
  refine codeAny_call_builtin PySem.F.slot_gs_get.plain PySem.F.entry_gs_get (PySem.F.slot_gs_get.check _ _ _ _ _ _ _ _ hT5 (PySem.F.args_gs_get _ _ _) ?_)
  repeat (any_goals (first | assumption | (with_reducible refine wpAny_loadPart_at hx ?_; rw [hc]) | (with_reducible refine wpAny_isSubtype_exc hC ?_; rw [hcB]) | wp_step))
  refine ⟨Code.quiet_builtin _ (by decide +kernel), codeAny_builtin PySem.F.entry_object_class ?_⟩
  repeat (any_goals (first | assumption | (with_reducible refine wpAny_loadPart_at hx ?_; rw [hc]) | wp_step))
theorem class_entry_exc {tk : Tok} {Q : Fin → Shared → Prop} (L1 : Looks (model prog w) h (typeLookup (.ref C) "__class__") (some (.builtin "object.__class__"))) (hC : h.get? C = some (excClassObj nm q C N bs bm hdct sn sub ab col dd k0 k1 k2 k3 k5 newId)) (hob : bm.contains (.type "object") = true) (hx : h.get? a = some o) (hc : o.cls = .ref C)
    (hq : Q (.done (.ret (.ref C))) ⟨h, g, d, t, os⟩) : wpAny (model prog w) A (Builtin.«object.__getattribute__» ⟨[.ref a, .str "__class__" tk], []⟩) Q E ⟨h, g, d, t, os⟩ := by
  have hT5 : (⟨h, g, d, t, os⟩ : Shared).TypeIs (.builtin "object.__class__") "getset_descriptor" := PySem.F.typeOf_object_class
  have f5 := PySem.F.typeOf_object_class
  have f6 := PySem.F.slot_gs_get.lookup
  have f7 := PySem.F.slot_gs_set.lookup
  repeat (any_goals (first | assumption | (with_reducible refine wpAny_loadPart_at hx ?_; rw [hc]) | with_reducible refine L1.at ?_ | wp_step))
  refine class_get_exc hC hob hx hc ?_
  repeat (any_goals (first | assumption | wp_step))
theorem check_ga_exc {M : Model} {nameV : Value} {Q : Unit → Shared → Prop} (hC : h.get? C = some (excClassObj nm q C N bs bm hdct sn sub ab col dd k0 k1 k2 k3 k5 newId)) (hbe : bm.contains (.type "BaseException") = true)
    (hx : h.get? a = some o) (hc : o.cls = .ref C) (hq : Q () ⟨h, g, d, t, os⟩) : wpAny M A (checkBuiltinCall "BaseException.__getattribute__" ⟨[.ref a, nameV], []⟩) Q E ⟨h, g, d, t, os⟩ := by
  have hk : builtinKind "BaseException.__getattribute__" = some .slot := by decide +kernel
  have hsplit : splitId "BaseException.__getattribute__" = some ("BaseException", "__getattribute__") := by decide +kernel
  have hcB : (Value.ref C :: bm).contains (.type "BaseException") = true := by rw [List.contains_cons, hbe]; rfl
  have ha := PySem.F.args_bexc_ga (.ref a) nameV
  simp only [checkBuiltinCall, hk, hsplit]
  refine wpAny_bind ?_
  · unfold isInstance
    repeat (first | (with_reducible refine wpAny_loadPart_at hx ?_; rw [hc]) | (with_reducible refine wpAny_isSubtype_exc hC ?_; rw [hcB]) | wp_step)
    exact hq
theorem class_attr_exc {Q : Option Value → Shared → Prop} (FB : ExcAttrBase B bmB) (L0 : Looks (model prog w) h (typeLookup (.ref C) "__getattribute__") (some (.builtin "BaseException.__getattribute__"))) (L2 : Looks (model prog w) h (typeLookup (.ref C) "__getattr__") none)
    (L1 : Looks (model prog w) h (typeLookup (.ref C) "__class__") (some (.builtin "object.__class__"))) (hC : h.get? C = some (excClassObj nm q C N bs bm hdct sn sub ab col dd k0 k1 k2 k3 k5 newId)) (hob : bm.contains (.type "object") = true) (hbe : bm.contains (.type "BaseException") = true)
    (hx : h.get? a = some o) (hc : o.cls = .ref C) (hq : Q (some (.ref C)) ⟨h, g, d, t + 1, os⟩) : wpAny (model prog w) A (getAttr? (.ref a) "__class__") Q E ⟨h, g, d, t, os⟩ := by
  have call : ∀ {A : Around} {tk : Tok} {t : Nat} {R : Result → Shared → Prop}, R (.ok (.ret (.ref C))) ⟨h, g, d, t, os⟩ → codeAny (model prog w) A (.call (.builtin "BaseException.__getattribute__") ⟨[.ref a, .str "__class__" tk], []⟩) R ⟨h, g, d, t, os⟩ := fun hq =>
    codeAny_call_builtin FB.ga.plain PySem.F.entry_bexc_ga (check_ga_exc hC hbe hx hc (class_entry_exc L1 hC hob hx hc hq))
  have f3 := FB.ga.bind (.ref a)
  have hx2 : (Value.builtin "BaseException.__getattribute__" == Value.builtin "object.__getattribute__") = false := by decide +kernel
  have hx1 : (onTheHeap (Value.ref C) && Value.builtin "BaseException.__getattribute__" == Value.builtin "object.__getattribute__") = false := by rw [hx2]; rfl
  unfold getAttr? getAttrBy? getAttrBy
  repeat (any_goals (first | assumption | (with_reducible refine wpAny_loadPart_at hx ?_; rw [hc]) | with_reducible refine L0.at ?_ | with_reducible refine L2.at ?_ | wp_step))
  refine call ?_
  repeat (any_goals (first | assumption | wp_step))
end
/-- what K says of the class of an own exception -/
structure ExcK (K : Frag) (C : Addr) (bmB : List Value) (newId : String) : Prop where
  ex : excIn K C bmB newId = true
  ga : findIn K (.ref C) "__getattribute__" = some (some (.builtin "BaseException.__getattribute__"))
  gt : findIn K (.ref C) "__getattr__" = some none
  cl : findIn K (.ref C) "__class__" = some (some (.builtin "object.__class__"))
theorem kitx_exc {K : Frag} {C a : Addr} {B newId : String} {bmB : List Value} (FB : ExcAttrBase B bmB) (hob : bmB.contains (.type "object") = true) (Z : ExcK K C bmB newId) : KitX K (.ref a) (.ref C) (fun h => ∃ o, h.get? a = some o ∧ o.cls = .ref C) where
  ty := fun M h _ ⟨o, h1, h2⟩ => h2 ▸ (Looks.ld h1).andThen .now
  it := fun M h X _ => by
    obtain ⟨bm, NN, nm, qn, bs, hdct, sn, sub, ab, col, dd, k0, k1, k2, k3, k5, mN, hC, hN, hni, T⟩ := exc_obj X Z.ex
    intro A' Q' E' s' k q
    unfold isType loadHead
    exact wpAny_bind (wpAny_loadPart (k _ _ hC) (wpAny_pure q))
  ne := fun h tp dd its n sl X htp => by
    obtain ⟨bm, NN, nm, qn, bs, hdct, sn, sub, ab, col, dd', k0, k1, k2, k3, k5, mN, hC, hN, hni, T⟩ := exc_obj X Z.ex
    refine Bool.eq_false_iff.mpr fun q => ?_
    have e : C = tp := Value.ref.inj (beq_iff_eq.mp q)
    subst e
    rw [hC] at htp
    have z := congrArg Obj.data (Option.some.inj htp)
    exact absurd z (by intro z; cases z)
  ca := fun {prog w A E Q s} X ⟨o, h1, h2⟩ k => by
    obtain ⟨bm, NN, nm, qn, bs, hdct, sn, sub, ab, col, dd, k0, k1, k2, k3, k5, mN, hC, hN, hni, T⟩ := exc_obj X Z.ex
    obtain ⟨hh, g, d, t, os⟩ := s
    exact class_attr_exc FB (looks_findIn X Z.ga) (looks_findIn X Z.gt) (looks_findIn X Z.cl) hC (T.hasType hob) (T.hasType FB.hasBase) h1 h2 k
section
variable {X : Cx}
/-- isinstance(e, C') of the exception that is handled -/
theorem call_isiX {ea C : Addr} {oe : Obj} {B newId : String} {bmB : List Value} (FB : ExcAttrBase B bmB) (hob : bmB.contains (.type "object") = true) (Z : ExcK X.K C bmB newId) (hp : (ea, oe) ∈ X.pn) (hcl : oe.cls = .ref C) :
    CallR X (.builtin "isinstance") (fun xs H Q => ∃ c b, xs = [.ref ea, c] ∧ ((∃ C', c = .ref C' ∧ kitOne X.K (.ref C) (.ref C') = some b) ∨ (∃ T, c = .ty T ∧ kitOne X.K (.ref C) (.type T) = some b)) ∧ Q (.bl b) H) := by
  intro pins s σ H xs us Q I r h
  obtain ⟨c, b, rfl, hk, q⟩ := h
  obtain ⟨u, w', rfl, rx, ry⟩ := vals2 r
  cases rx
  have hpin := I.pin (ea, oe) (List.mem_append_left _ hp)
  rcases hk with ⟨C', rfl, e⟩ | ⟨T, rfl, e⟩
  · cases ry
    exact kia_one (kitx_exc FB hob Z) I.kIn ⟨oe, hpin.1, hcl⟩ e (by intro z; cases z) fun tk => ⟨.bl b, H, I.tok tk, rfl, q⟩
  · cases ry
    exact kia_one (kitx_exc FB hob Z) I.kIn ⟨oe, hpin.1, hcl⟩ e (by intro z; cases z) fun tk => ⟨.bl b, H, I.tok tk, rfl, q⟩
end
end L2
namespace L2
open PySem PySem.Spec PyProof.Rows PySem.Builtin PySem.Builtin.Str
section
variable {X : Cx}
/-! ### f'..{x!r}..' -/
def tJs : List TE → Str → TE
  | [], acc => fun _ H Q => acc.length ≤ sizeLine ∧ Q (.str acc) H
  | t :: r, acc => fun σ H Q => t σ H fun v H1 => ∃ y, v = .str y ∧ (acc ++ y).length ≤ sizeLine ∧ tJs r (acc ++ y) σ H1 Q
inductive PEs (X : Cx) : List Expr → List TE → Prop
  | nil : PEs X [] []
  | cons {e : Expr} {es : List Expr} {t : TE} {ts : List TE} : PE X e t → PEs X es ts → PEs X (e :: es) (t :: ts)
theorem joins_of {es : List Expr} {ts : List TE} (h : PEs X es ts) : ∀ {pins : List (Addr × Obj)} {s : Shared} {σ : St} {H : Hp} {Q : VK} {acc : Str}, Inv X pins σ H s → tJs ts acc σ H Q →
    Joins (model X.prog X.w) X.A X.xe (evalEach es X.env) acc (fun out s₁ => out.length ≤ sizeLine ∧ EP X pins σ Q (.str out s₁.toks) { s₁ with toks := s₁.toks + 1 }) s := by
  induction h with
  | nil => intro pins s σ H Q acc I h; exact ⟨h.1, .str acc, H, I.tok _, ⟨_, rfl⟩, h.2⟩
  | cons he _ ih =>
    intro pins s σ H Q acc I h
    show wpAny _ _ (eval _ X.env) _ _ s
    refine thn (he pins s σ H _ I h) fun v s1 ⟨x, H1, I1, r1, y, e, hz, q⟩ => ?_
    subst e
    obtain ⟨t, rfl⟩ := r1
    exact ⟨y, t, rfl, hz, ih I1 q⟩
theorem pe_fstr {e1 e2 : Expr} {es : List Expr} {ts : List TE} {pos : Pos} (h : PEs X (e1 :: e2 :: es) ts) : PE X (.JoinedStr (e1 :: e2 :: es) pos) (tJs ts Str.empty) := fun pins s σ H Q I hw => wpAny_JoinedStr (joins_of h I hw)
theorem pe_repr {e : Expr} {te : TE} {pos : Pos} (he : PE X e te) : PE X (.FormattedValue e 114 none pos) (fun σ H Q => te σ H fun v H1 => ∃ x, v = .str x ∧ (reprText x).length ≤ sizeLine ∧ Q (.str (reprText x)) H1) := by
  intro pins s σ H Q I h
  refine wpAny_FormattedValue_repr (thn (he pins s σ H _ I h) fun v s1 ⟨y, H1, I1, r1, x, e, hz, q⟩ => ?_)
  subst e
  obtain ⟨t, rfl⟩ := r1
  exact pyReprObj_str (wpAny_formatField_str ⟨.str _, H1, I1.tok _, ⟨_, rfl⟩, q⟩ ⟨.str _, H1, (I1.tok _).tok _, ⟨_, rfl⟩, q⟩ hz) hz
/-! ### x[lo:hi] of a text -/
def rSlS : V → Option Int → Option Int → Hp → VK → Prop := fun x lo hi H Q => ∃ z, x = .str z ∧ z.length ≤ sizeLine ∧ ∀ y, y.length ≤ z.length → (∀ c ∈ y.cps.toList, c ∈ z.cps.toList) → Q (.str y) H
theorem slice_mem (x : Str) (l u st : Option (Int × Tok)) : ∀ c ∈ ((slicePicked x l u st).filterMap (x.cps[·]?)), c ∈ x.cps.toList := fun c hc => by
  obtain ⟨i, _, h⟩ := List.mem_filterMap.mp hc
  obtain ⟨hi, e⟩ := Array.getElem?_eq_some_iff.mp h
  rw [← e]
  exact Array.getElem_mem_toList hi
theorem sl_str : SlR X rSlS := by
  intro pins s σ H x v vl vu lo hi sl Q I rx hs pl pu h
  obtain ⟨z, rfl, hz, q⟩ := h
  obtain ⟨t, rfl⟩ := rx
  refine ⟨"str", _, F.slot_str_getitem.lookup, typeIs_str _ _ _, ?_⟩
  obtain ⟨l, el⟩ : ∃ l : Option (Int × Tok), vl = partValue l := by
    cases pl with
    | none => exact ⟨none, rfl⟩
    | int i t => exact ⟨some (i, t), rfl⟩
  obtain ⟨u, eu⟩ : ∃ l : Option (Int × Tok), vu = partValue l := by
    cases pu with
    | none => exact ⟨none, rfl⟩
    | int i t => exact ⟨some (i, t), rfl⟩
  subst el; subst eu
  have fin : ∀ (y : Str) (t' : Tok) (k : Nat), y.length ≤ z.length → (∀ c ∈ y.cps.toList, c ∈ z.cps.toList) → EP X pins σ Q (.str y t') { s with toks := k } := fun y t' k h1 h2 => ⟨.str y, H, I.tok k, ⟨_, rfl⟩, q y h1 h2⟩
  refine wpAny_getItem_str_slice (l := l) (u := u) (st := none) hs rfl ?_
  have hle : ((slicePicked z l u none).filterMap (z.cps[·]?)).length ≤ z.length := by
    exact Nat.le_trans (List.length_filterMap_le ..) (by unfold slicePicked; exact indices_len_le (l.map fun p : Int × Tok => p.1) (u.map fun p : Int × Tok => p.1) z.length)
  unfold sliceMade
  split
  · exact fin z t s.toks (Nat.le_refl _) (fun c hc => hc)
  · refine ⟨?_, fin _ _ _ ?_ ?_⟩
    · exact Nat.le_trans hle hz
    · exact hle
    · exact slice_mem z l u none
/-! ### xs.insert(i, y) -/
def rInsert : V → List V → Hp → VK → Prop := fun x vs H Q => ∃ l xs k y, x = .ref l ∧ vs = [.int ((k : Nat) : Int), y] ∧ H l = some (.lst xs) ∧ xs.length < sizeLine ∧ k ≤ xs.length ∧ Q .non (upd H l (.lst (xs.take k ++ y :: xs.drop k)))
theorem mt_insert : MtM X "list.insert" rInsert := by
  intro pins s σ H x vs v us Q I rx rv h
  obtain ⟨l, xs, k, y, rfl, rfl, hH, hz, hk, q⟩ := h
  cases rx
  obtain ⟨w1, w2, rfl, r1, r2⟩ := vals2 rv
  obtain ⟨tk, rfl⟩ := r1
  obtain ⟨z, its, n, r, hl, e⟩ := I.lstM hH
  have hfit : ∀ i : Int, i = (k : Int) → Builtin.List.listFitsIndex i = true := fun i hi => by
    have h1 : xs.length ≤ 16777216 := by rw [← PySem.sizeLine_eq]; exact z
    unfold Builtin.List.listFitsIndex
    rw [Bool.and_eq_true]
    constructor
    · exact decide_eq_true (by omega)
    · exact decide_eq_true (by omega)
  generalize hi : ((k : Nat) : Int) = i at *
  have hf := hfit i rfl
  refine call_meets F.slot_list_insert ⟨_, e, rfl⟩ F.entry_list_insert (F.args_list_insert_3 _ _ _) (AutoSeq1.list_insert_list_int_val_1 l its.toArray n i tk w2 (by simp [hf]) (by rw [List.size_toArray]; omega)) ⟨e, ?_⟩
  · refine ⟨.non, _, I.lset (its' := its.take k ++ w2 :: its.drop k) hH e ?_ ((r.take k).append (.cons r2 (r.drop k))) ?_, rfl, q⟩
    · have e1 : i.toNat = k := by omega
      show (its.toArray.extract 0 (if i < 0 then (i + (its.toArray.size : Int)).toNat else min i.toNat its.toArray.size)).push w2 ++ its.toArray.extract (if i < 0 then (i + (its.toArray.size : Int)).toNat else min i.toNat its.toArray.size) = _
      rw [if_neg (by omega), e1, List.size_toArray, Nat.min_eq_left (by omega)]
      simp
      rw [List.take_of_length_le (by rw [List.length_drop]; omega)]
    · rw [List.length_append, List.length_take, List.length_cons, List.length_drop]
      omega
end
section
variable {sel : List (Option Nat)} {g : TG} {tc : TT} {te : TE} {σ : St} {H : Hp} {Q : VK}
/-- a comprehension over a range -/
theorem comp_range {D : Addr} {lo : Int} {n : Nat} (Pv : Nat → St → Hp → Prop) (h0 : Pv 0 (selSt sel σ) (upd H D (.lst [])))
    (hs : ∀ i τ H1, i < n → Pv i τ H1 → g (.int (lo + i)) τ H1 fun τ2 H4 => tc τ2 H4 fun b H5 => if b = true then te τ2 H5 fun y H6 => ∃ ys, H6 D = some (.lst ys) ∧ ys.length < sizeLine ∧ Pv (i + 1) τ2 (upd H6 D (.lst (ys ++ [y]))) else Pv (i + 1) τ2 H5)
    (hd : ∀ τ H1, Pv n τ H1 → Q (.ref D) H1) : CompG sel (Itr lo n) D g tc te σ H Q := by
  refine ⟨fun i m τ H1 => Pv i τ H1 ∧ i ≤ n ∧ m = n - i, ⟨_, h0, Nat.zero_le _, rfl⟩, ?_⟩
  rintro i m τ H2 ⟨p, hi, hm⟩
  rcases Nat.lt_or_ge i n with hlt | hge
  · refine .inr ⟨hlt, Pv (i + 1), fun τ' H' z => ⟨n - (i + 1), by omega, z, hlt, rfl⟩, ?_⟩
    rintro x H3 ⟨rfl, rfl⟩
    exact hs i τ _ hlt p
  · have e : i = n := by omega
    subst e
    exact .inl ⟨Nat.le_refl _, hd τ H2 p⟩
/-- a comprehension over the signs of a text -/
theorem comp_str {D : Addr} {x : Str} (Pv : Nat → St → Hp → Prop) (h0 : Pv 0 (selSt sel σ) (upd H D (.lst [])))
    (hs : ∀ i c τ H1, x.cps[i]? = some c → Pv i τ H1 → g (.str ⟨#[c]⟩) τ H1 fun τ2 H4 => tc τ2 H4 fun b H5 => if b = true then te τ2 H5 fun y H6 => ∃ ys, H6 D = some (.lst ys) ∧ ys.length < sizeLine ∧ Pv (i + 1) τ2 (upd H6 D (.lst (ys ++ [y]))) else Pv (i + 1) τ2 H5)
    (hd : ∀ τ H1, Pv x.cps.size τ H1 → Q (.ref D) H1) : CompG sel (Its x) D g tc te σ H Q := by
  refine ⟨fun i m τ H1 => Pv i τ H1 ∧ i ≤ x.cps.size ∧ m = x.cps.size - i, ⟨_, h0, Nat.zero_le _, rfl⟩, ?_⟩
  rintro i m τ H2 ⟨p, hi, hm⟩
  rcases Nat.lt_or_ge i x.cps.size with hlt | hge
  · refine .inr ⟨hlt, Pv (i + 1), fun τ' H' z => ⟨x.cps.size - (i + 1), by omega, z, hlt, rfl⟩, ?_⟩
    rintro y H3 ⟨rfl, c, hc, rfl⟩
    exact hs i c τ _ hc p
  · have e : i = x.cps.size := by omega
    subst e
    exact .inl ⟨Nat.le_refl _, hd τ H2 p⟩
theorem comp_str1 {D : Addr} {x : Str} {n : Nat} (Pv : Nat → St → Hp → Prop) (h0 : Pv 0 (selSt sel σ) (upd H D (.lst [])))
    (hs : ∀ i c τ H1, x.cps[i]? = some c → Pv i τ H1 → te (τ.set n (some (.str ⟨#[c]⟩))) H1 fun y H6 => ∃ ys, H6 D = some (.lst ys) ∧ ys.length < sizeLine ∧ Pv (i + 1) (τ.set n (some (.str ⟨#[c]⟩))) (upd H6 D (.lst (ys ++ [y]))))
    (hd : ∀ τ H1, Pv x.cps.size τ H1 → Q (.ref D) H1) : CompG sel (Its x) D (gName n) tTrue te σ H Q :=
  comp_str Pv h0 (fun i c τ H1 e p => iteT (B := Pv (i + 1) (τ.set n (some (.str ⟨#[c]⟩))) H1) (hs i c τ H1 e p)) hd
theorem comp_range1 {D : Addr} {lo : Int} {m n : Nat} (Pv : Nat → St → Hp → Prop) (h0 : Pv 0 (selSt sel σ) (upd H D (.lst [])))
    (hs : ∀ i τ H1, i < m → Pv i τ H1 → te (τ.set n (some (.int (lo + i)))) H1 fun y H6 => ∃ ys, H6 D = some (.lst ys) ∧ ys.length < sizeLine ∧ Pv (i + 1) (τ.set n (some (.int (lo + i)))) (upd H6 D (.lst (ys ++ [y]))))
    (hd : ∀ τ H1, Pv m τ H1 → Q (.ref D) H1) : CompG sel (Itr lo m) D (gName n) tTrue te σ H Q :=
  comp_range Pv h0 (fun i τ H1 e p => iteT (B := Pv (i + 1) (τ.set n (some (.int (lo + i)))) H1) (hs i τ H1 e p)) hd
end
end L2
/-! rows on lines, as texts -/
namespace Nt
open PySem PySem.Builtin PySem.Builtin.Str L2
def isLet (c : Nat) : Bool := (decide (65 ≤ c) && decide (c ≤ 90)) || (decide (97 ≤ c) && decide (c ≤ 122))
def LET : Str := "ABCDEFGHIJKLMNOPQRSTUVWXYZabcdefghijklmnopqrstuvwxyz"
def LET2 : Str := "abcdefghijklmnopqrstuvwxyzABCDEFGHIJKLMNOPQRSTUVWXYZ"
theorem mem_LET (c : Nat) : decide (c ∈ LET.cps.toList) = isLet c := by
  have e : LET.cps.toList = List.range' 65 26 ++ List.range' 97 26 := by decide +kernel
  rw [e, Bool.eq_iff_iff, decide_eq_true_eq, List.mem_append, List.mem_range'_1, List.mem_range'_1]
  unfold isLet
  simp only [Bool.or_eq_true, Bool.and_eq_true, decide_eq_true_eq]
  omega
theorem mem_LET2 (c : Nat) : decide (c ∈ LET2.cps.toList) = isLet c := by
  have e : LET2.cps.toList = List.range' 97 26 ++ List.range' 65 26 := by decide +kernel
  rw [e, Bool.eq_iff_iff, decide_eq_true_eq, List.mem_append, List.mem_range'_1, List.mem_range'_1]
  unfold isLet
  simp only [Bool.or_eq_true, Bool.and_eq_true, decide_eq_true_eq]
  omega
/-- a sign: some letters -/
def Sg (x : Str) : Bool := !decide (x.length = 0) && x.cps.toList.all isLet
abbrev BL : Str := " "
abbrev MK : Str := ">"
theorem sg_let {x : Str} (h : Sg x = true) : ∀ c ∈ x.cps.toList, isLet c = true := by
  unfold Sg at h
  rw [Bool.and_eq_true] at h
  exact fun c hc => List.all_eq_true.mp h.2 c hc
theorem let_bounds {c : Nat} (h : isLet c = true) : 65 ≤ c ∧ c ≤ 122 := by
  unfold isLet at h
  simp only [Bool.or_eq_true, Bool.and_eq_true, decide_eq_true_eq] at h
  omega
theorem sg_bl {x : Str} (h : Sg x = true) : ¬ (32 : Nat) ∈ x.cps.toList := fun z => by
  have := (let_bounds (sg_let h _ z)).1
  omega
/-! ### join and split -/
theorem str_ext {x y : Str} (h : x.cps.toList = y.cps.toList) : x = y := by
  obtain ⟨a⟩ := x
  obtain ⟨b⟩ := y
  have : a = b := by
    apply Array.ext'
    exact h
  rw [this]
/-- texts without the blank, each behind a blank -/
theorem join_list : ∀ (x : Str) (r : List Str), (Str.join BL (x :: r)).cps.toList = x.cps.toList ++ r.flatMap fun y => 32 :: y.cps.toList
  | x, [] => by show x.cps.toList = _; simp
  | x, y :: r => by
    have ih := join_list y r
    show (x ++ BL ++ Str.join BL (y :: r)).cps.toList = _
    show (x.cps ++ BL.cps ++ (Str.join BL (y :: r)).cps).toList = _
    have e : BL.cps = #[32] := by decide +kernel
    rw [Array.toList_append, Array.toList_append, ih, e, List.flatMap_cons]
    simp
theorem cut_inj {a a' b b' : List Nat} (ha : ¬ (32 : Nat) ∈ a) (ha' : ¬ (32 : Nat) ∈ a') (hb : b = [] ∨ ∃ t, b = 32 :: t) (hb' : b' = [] ∨ ∃ t, b' = 32 :: t) (h : a ++ b = a' ++ b') : a = a' ∧ b = b' := by
  induction a generalizing a' with
  | nil =>
    cases a' with
    | nil => exact ⟨rfl, h⟩
    | cons c r =>
      rcases hb with rfl | ⟨t, rfl⟩
      · cases h
      · injection h with h1 _
        exact absurd (by rw [h1]; exact List.mem_cons_self ..) ha'
  | cons c r ih =>
    cases a' with
    | nil =>
      rcases hb' with rfl | ⟨t, rfl⟩
      · cases h
      · injection h with h1 _
        exact absurd (by rw [← h1]; exact List.mem_cons_self ..) ha
    | cons c' r' =>
      injection h with h1 h2
      obtain ⟨e1, e2⟩ := ih (fun z => ha (List.mem_cons_of_mem _ z)) (fun z => ha' (List.mem_cons_of_mem _ z)) h2
      exact ⟨by rw [h1, e1], e2⟩
theorem flat_head (r : List Str) : (r.flatMap fun y => 32 :: y.cps.toList) = [] ∨ ∃ t, (r.flatMap fun y => 32 :: y.cps.toList) = 32 :: t := by
  cases r with
  | nil => exact .inl rfl
  | cons y r => exact .inr ⟨_, rfl⟩
theorem flat_inj : ∀ {r r' : List Str}, (∀ y ∈ r, ¬ (32 : Nat) ∈ y.cps.toList) → (∀ y ∈ r', ¬ (32 : Nat) ∈ y.cps.toList) → (r.flatMap fun y => 32 :: y.cps.toList) = (r'.flatMap fun y => 32 :: y.cps.toList) → r = r'
  | [], [], _, _, _ => rfl
  | [], _ :: _, _, _, h => by simp at h
  | _ :: _, [], _, _, h => by simp at h
  | y :: r, y' :: r', h1, h2, h => by
    rw [List.flatMap_cons, List.flatMap_cons] at h
    injection h with _ h
    obtain ⟨e1, e2⟩ := cut_inj (h1 y (List.mem_cons_self ..)) (h2 y' (List.mem_cons_self ..)) (flat_head r) (flat_head r') h
    rw [str_ext e1, flat_inj (fun z hz => h1 z (List.mem_cons_of_mem _ hz)) (fun z hz => h2 z (List.mem_cons_of_mem _ hz)) e2]
theorem join_inj {x x' : Str} {r r' : List Str} (h1 : ∀ y ∈ x :: r, ¬ (32 : Nat) ∈ y.cps.toList) (h2 : ∀ y ∈ x' :: r', ¬ (32 : Nat) ∈ y.cps.toList) (h : Str.join BL (x :: r) = Str.join BL (x' :: r')) : x :: r = x' :: r' := by
  have h := congrArg (fun z : Str => z.cps.toList) h
  simp only [join_list] at h
  obtain ⟨e1, e2⟩ := cut_inj (h1 x (List.mem_cons_self ..)) (h2 x' (List.mem_cons_self ..)) (flat_head r) (flat_head r') h
  rw [str_ext e1, flat_inj (fun z hz => h1 z (List.mem_cons_of_mem _ hz)) (fun z hz => h2 z (List.mem_cons_of_mem _ hz)) e2]
theorem BL_eq : BL = ⟨#[32]⟩ := by decide +kernel
theorem split_ne (x : Str) : Txt.split x BL ≠ [] := by
  unfold Txt.split
  split
  · simp
  · split
    · simp
    · rw [StrLaws.partsBetween_eq]
      obtain ⟨p, r, e⟩ := StrLaws.partsFrom_ne x BL.length 0 (occurrences x BL 0 x.length (x.length + 1))
      rw [e]; simp
theorem split_join {x : Str} {r : List Str} (h : ∀ y ∈ x :: r, ¬ (32 : Nat) ∈ y.cps.toList) : Txt.split (Txt.join BL (x :: r)) BL = x :: r := by
  have e : Txt.join BL (x :: r) = Str.join BL (x :: r) := StrLaws.glued_eq_join BL (x :: r)
  rw [e]
  have h1 := StrLaws.join_split (Str.join BL (x :: r)) BL
  have h2 := StrLaws.split_free (Str.join BL (x :: r)) 32
  rw [← BL_eq] at h2
  cases q : Txt.split (Str.join BL (x :: r)) BL with
  | nil => exact absurd q (split_ne _)
  | cons y t =>
    rw [q] at h1 h2
    exact join_inj h2 h h1
/-! ### a row on a line -/
def parse (x : Str) : Option Row :=
  match Txt.split x BL with
  | a :: b :: r => if b = MK ∧ ((a :: r).all Sg = true) then some (a, r) else none
  | _ => none
def line (p : Row) : Str := Txt.join BL (p.1 :: MK :: p.2)
theorem parse_line {p : Row} (h1 : Sg p.1 = true) (h2 : ∀ s ∈ p.2, Sg s = true) : parse (line p) = some p := by
  unfold parse line
  rw [split_join (x := p.1) (r := MK :: p.2)]
  · dsimp only
    rw [if_pos ⟨rfl, List.all_eq_true.mpr fun s hs => by
      rcases List.mem_cons.mp hs with e | e
      · rw [e]; exact h1
      · exact h2 s e⟩]
  · intro y hy
    rcases List.mem_cons.mp hy with e | e
    · rw [e]; exact sg_bl h1
    · rcases List.mem_cons.mp e with e | e
      · rw [e]; decide +kernel
      · exact sg_bl (h2 y e)
theorem split_len (x : Str) : (Txt.split x BL).length ≤ x.length + 1 := by
  have := PyProof.Rows.split_weight x BL (by decide +kernel)
  omega
theorem line_len (p : Row) : (line p).length ≤ (p.1 :: MK :: p.2).length + ((p.1 :: MK :: p.2).map (·.length)).sum := by
  unfold line
  have e : Txt.join BL (p.1 :: MK :: p.2) = Str.join BL (p.1 :: MK :: p.2) := StrLaws.glued_eq_join BL _
  rw [e]
  have := StrLaws.join_length_le BL (p.1 :: MK :: p.2)
  have h1 : BL.length = 1 := by decide +kernel
  rw [h1] at this
  omega
end Nt
namespace L2
open PySem PySem.Spec PyProof.Rows
section
variable {X : Cx} {st : Stmt} {rest : List Stmt} {t u : TS}
/-- a statement and what follows, with what holds between them -/
def tMid (t u : TS) : TS := fun D σ H => ∃ N : St → Hp → Prop, t { D with nx := N } σ H ∧ ∀ σ' H', N σ' H' → u D σ' H'
theorem pss_mid (h1 : PS X st t) (h2 : PSs X rest u) : PSs X (st :: rest) (tMid t u) := by
  intro pins s σ H D I h
  obtain ⟨N, h, k⟩ := h
  refine wpAny_execs_cons (thn (h1 pins s σ H { D with nx := N } I h) fun f s1 q => ?_)
  cases f with
  | next =>
    obtain ⟨σ', H', I', q⟩ := q
    exact h2 pins s1 σ' H' D I' (k _ _ q)
  | ret v => exact q
  | brk => exact q
  | cont => exact q
end
theorem star_cons {e : Expr} {es : List Expr} {env : Env} (h : ∀ a p, e ≠ .Starred a p) : starEach (e :: es) env = (false, eval e env) :: starEach es env := by
  rw [starEach]
  intro a p z
  exact h a p z
/-- an item that is not starred: by its kind alone -/
theorem pa_c {X : Cx} {e : Expr} {es : List Expr} {te : TE} {t : TA} (ha : PE X e te) (hr : PA X es t) (hs : ∀ a p, e ≠ Expr.Starred a p := by intro _ _ h; cases h) : PA X (e :: es) (tCons te t) := pa_cons ha hr (star_cons hs)
/-- a method with one argument -/
theorem pe_bm1 {X : Cx} {o e : Expr} {to : TE} {t : TA} {name : Str} {apos cpos : Pos} {T id : String} {r : V → List V → Hp → VK → Prop} (pa : PlainAttrs T) (slot : Slot T name id) (hty : typeOf (.builtin id) = pure (.type "method_descriptor")) (hm : MtR X id r) (ho : PE X o to) (ha : PA X [e] t)
    (hbase : attributeBase o name X.env (eval o X.env) = eval o X.env := by rfl) (hline : (apos.endLine == cpos.line) = true := by rfl) (hs : ∀ a p, e ≠ Expr.Starred a p := by intro _ _ h; cases h) : PE X (.Call (.Attribute o name apos) [e] [] cpos) (tBM X.K T r to t) :=
  pe_bm pa slot hty hm ho ha hbase (by rw [star_cons hs]; rfl) hline (star_cons hs) rfl
theorem str_len_cat (a b : Str) : (a ++ b).length = a.length + b.length := by
  show (a.cps ++ b.cps).size = a.cps.size + b.cps.size
  rw [Array.size_append]
end L2
namespace L2
open PySem PySem.Spec PyProof.Rows
/-- as CompIn.free, where the block also asks names of the module -/
theorem CompIn.freeG {X : Cx} {scope : Scope} {cl : List (Str × Addr)} {N : List Str} {sel : List (Option Nat)} (fr : List Str) (clos : closureFor scope X.env = pure cl) (hk : scope.kind = .function) (hek : X.env.scope.kind = .function)
    (hn : ∀ y ∈ scope.names, y.2 = .local ∨ y.2 = .globalImplicit ∨ (y.2 = .free ∧ y.1 ∈ fr)) (hl : ∀ y ∈ scope.names, y.2 = .local → scope.names.lookup y.1 = some .local)
    (hfr : ∀ x ∈ fr, X.env.kindOf x = some .cell ∧ scope.names.lookup x = some .free ∧ ∃ c, cl.lookup x = some c ∧ X.env.cells.lookup x = some c) (hcl : ∀ y ∈ cl, y.1 ∈ fr)
    (hlen : sel.length = N.length) (hsel : ∀ (j i : Nat), sel[j]? = some (some i) → ∃ x ∈ fr, X.N[i]? = some x ∧ N[j]? = some x) : CompIn X scope cl N sel where
  clos := clos
  nocell := fun y hy z => by
    rcases hn y hy with e | e | ⟨e, _⟩
    · rw [e] at z; cases z
    · rw [e] at z; cases z
    · rw [e] at z; cases z
  kind := hk
  locs := hl
  cells := fun x c h => by
    obtain ⟨_, _, c', h1, h2⟩ := hfr x (hcl _ (lookup_mem h))
    rw [h] at h1
    cases h1
    exact h2
  has := fun x ⟨v, n⟩ => by
    have key : ∀ kd : NameKind, (relabel scope X.env).names.lookup x = some kd → kd ≠ .local → kd ≠ .globalImplicit → ∃ c, cl.lookup x = some c := fun kd h hne hng => by
      rw [relabel_lookup] at h
      cases q : scope.names.lookup x with
      | none => rw [q] at h; cases h
      | some k0 =>
        rw [q] at h
        rcases hn _ (lookup_mem q) with e | e | ⟨_, e⟩
        · have e : k0 = .local := e
          subst e
          have h : some NameKind.local = some kd := h
          injection h with h
          exact absurd h.symm hne
        · have e : k0 = .globalImplicit := e
          subst e
          have h : some NameKind.globalImplicit = some kd := h
          injection h with h
          exact absurd h.symm hng
        · obtain ⟨_, _, c, h1, _⟩ := hfr x e
          exact ⟨c, h1⟩
    rcases v with z | z | z
    · exact absurd z n
    · exact key _ z (by decide) (by decide)
    · exact key _ z (by decide) (by decide)
  len := hlen
  names := fun j i h => by
    obtain ⟨x, hx, h1, h2⟩ := hsel j i h
    obtain ⟨k1, k2, _⟩ := hfr x hx
    have k1 : X.env.scope.names.lookup x = some .cell := k1
    refine ⟨x, h1, h2, ⟨.inr (.inl k1), by rw [k1]; decide⟩, ?_⟩
    rw [relabel_lookup, k2]
    show some (if _ then _ else _) ≠ _
    split <;> decide
def rListOf (K : PySem.W.Frag) : List V → Hp → VK → Prop := fun xs H Q => ∃ p ys, xs = [.ref p] ∧ (SqL K H p ys ∨ SqT K H p ys) ∧ ∀ l, H l = none → Q (.ref l) (upd H l (.lst ys))
theorem call_listOf {X : Cx} : CallR X (.type "list") (rListOf X.K) := call_list_of
end L2
namespace Nw
open PySem L2
def top (i : Nat) : Stmt := PySem.Challenge.pw_nextword_k09_whole_rows_on_lines.main.body.getD i (.Pass ⟨0, 0, 0, 0⟩)
/-- what is asked of the module's names: the built-ins are not hidden -/
structure Txt (mg : Str → Option Value) : Prop where
  srt : mg "sorted" = none
  set : mg "set" = none
  all : mg "all" = none
  lst : mg "list" = none
  tup : mg "tuple" = none
  str : mg "str" = none
  bl : mg "bool" = none
  int : mg "int" = none
  len : mg "len" = none
  rng : mg "range" = none
  isi : mg "isinstance" = none
  abs : mg "abs" = none
  sum : mg "sum" = none
/-- a def of the text that may be called -/
structure Def (P : Program) (w : World) (K : PySem.W.Frag) (mg : Str → Option Value) (base : Heap) (x : Str) (k : Nat) (ps : List Str) (sp : Sp) : Prop where
  ex : ∃ f fd, mg x = some (.ref f) ∧ PySem.W.keepIn K (.ref f) = true ∧ FnOk P w K mg base CX0 k f fd ps sp ∧ Binds K fd ps []
theorem pe_def {X : Cx} {x : Str} {k : Nat} {ps : List Str} {sp : Sp} {p pos : Pos} {e : Expr} {es : List Expr} {t : TA} (D : Def X.prog X.w X.K X.mg X.base x k ps sp) (hr : Room k X.A) (hg : Gl X x) (ha : PA X (e :: es) t) (hdb : (x == ("__debug__" : Str)) = false := by decide)
    (he : starEach (e :: es) X.env = (false, eval e X.env) :: starEach es X.env := by rfl) (hpl : (backTo pos (starEach es X.env)).any (·.1) = false := by rfl) : PE X (.Call (.Name x p) (e :: es) [] pos) (tCall sp [] E0 t) := by
  obtain ⟨f, fd, h1, h2, h3, h4⟩ := D.ex
  exact pe_call h3 hr hg h1 h2 h4 .nil pass0 ha hdb he hpl
/-- .. one that may raise -/
structure DefW (P : Program) (w : World) (K : PySem.W.Frag) (mg : Str → Option Value) (base : Heap) (x : Str) (k : Nat) (ps : List Str) (sp : Sp) : Prop where
  ex : ∃ f fd, mg x = some (.ref f) ∧ PySem.W.keepIn K (.ref f) = true ∧ FnOk P w K mg base (CXW P w) k f fd ps sp ∧ Binds K fd ps []
theorem big_line {n : Nat} (h : n ≤ 20000) : n ≤ sizeLine := by rw [PySem.sizeLine_eq]; omega
theorem strs_get {ss : List Str} {i : Nat} {x : V} (hx : (ss.map V.str)[i]? = some x) : ∃ y, ss[i]? = some y ∧ x = .str y := by
  rw [List.getElem?_map] at hx
  cases e : ss[i]? with
  | none => rw [e] at hx; cases hx
  | some sg => rw [e] at hx; exact ⟨sg, rfl, (Option.some.inj hx).symm⟩
theorem pmapM {α β : Type} {F G : α → β → Prop} : ∀ {l₁ : List α} {l₂ : List β}, Paired F l₁ l₂ → (∀ a b, a ∈ l₁ → F a b → G a b) → Paired G l₁ l₂
  | _, _, .nil, _ => .nil
  | _, _, .cons h t, f => .cons (f _ _ (List.mem_cons_self ..) h) (pmapM t fun a b m => f a b (List.mem_cons_of_mem _ m))
/-! ### rows that are being made -/
structure RowsB (H : Hp) (D : Addr) (us : List V) (R : List Row) : Prop where
  at_ : H D = some (.lst us)
  pr : Paired (RowAt H) us R
  ne : ∀ v ∈ us, ∃ t b l, v = .ref t ∧ H t = some (.tup [.str l, .ref b]) ∧ b ≠ D
theorem RowsB.nil {H : Hp} {D : Addr} : RowsB (upd H D (.lst [])) D [] [] := ⟨upd_same, .nil, fun v hv => (by cases hv)⟩
theorem RowsB.mono {H H' : Hp} {D : Addr} {us : List V} {R : List Row} (h : RowsB H D us R) (s : Same H H') : RowsB H' D us R :=
  ⟨s _ _ h.at_, Paired.mapP h.pr fun _ _ q => q.mono s, fun v hv => let ⟨t, b, l, e1, e2, e3⟩ := h.ne v hv; ⟨t, b, l, e1, s _ _ e2, e3⟩⟩
theorem RowsB.snoc {H : Hp} {D t b : Addr} {us : List V} {R : List Row} {l : Str} {ss : List Str} (h : RowsB H D us R) (ht : H t = some (.tup [.str l, .ref b])) (hb : StrsAt H b ss) (hn : b ≠ D) : RowsB (upd H D (.lst (us ++ [.ref t]))) D (us ++ [.ref t]) (R ++ [(l, ss)]) := by
  have nt : ∀ {t' : Addr} {xs : List V}, H t' = some (.tup xs) → t' ≠ D := fun {t' xs} e z => by rw [z, h.at_] at e; cases e
  refine ⟨upd_same, paired_snoc (pmapM h.pr fun v r hm ⟨t', b', q1, q2, q3⟩ => ⟨t', b', q1, ?_, ?_⟩) ⟨t, b, rfl, ?_, ?_⟩, fun v hv => ?_⟩
  · rw [upd_ne (nt ht)]; exact ht
  · unfold StrsAt; rw [upd_ne hn]; exact hb
  · rcases List.mem_append.mp hv with z | z
    · obtain ⟨t', b', l', e1, e2, e3⟩ := h.ne v z
      exact ⟨t', b', l', e1, by rw [upd_ne (nt e2)]; exact e2, e3⟩
    · rw [List.mem_singleton.mp z]
      exact ⟨t, b, l, rfl, by rw [upd_ne (nt ht)]; exact ht, hn⟩
  · rw [upd_ne (nt q2)]; exact q2
  · obtain ⟨t2, b2, l2, e1, e2, e3⟩ := h.ne v hm
    rw [q1] at e1; cases e1
    rw [q2] at e2; cases e2
    unfold StrsAt
    rw [upd_ne e3]; exact q3
theorem RowsB.rows {H : Hp} {D : Addr} {us : List V} {R : List Row} (h : RowsB H D us R) : RowsAt H D R := ⟨us, h.at_, h.pr⟩
end Nw
/-! THE RULES once more, over predicates that are not opened while a large term is put together -/
namespace L2
open PySem PySem.Spec PyProof.Rows
@[irreducible] def PEi (X : Cx) (e : Expr) (t : TE) : Prop := PE X e t
@[irreducible] def PAi (X : Cx) (es : List Expr) (t : TA) : Prop := PA X es t
@[irreducible] def PSi (X : Cx) (st : Stmt) (t : TS) : Prop := PS X st t
@[irreducible] def PSsi (X : Cx) (st : List Stmt) (t : TS) : Prop := PSs X st t
section
variable {X : Cx} {e a b c : Expr} {es : List Expr} {te ta tb : TE} {tt : TT} {tA : TA} {st : Stmt} {sts : List Stmt} {t u : TS} {pos p : Pos}
theorem PEi.of (h : PE X e te) : PEi X e te := by unfold PEi; exact h
theorem PEi.to (h : PEi X e te) : PE X e te := by unfold PEi at h; exact h
theorem PAi.of (h : PA X es tA) : PAi X es tA := by unfold PAi; exact h
theorem PAi.to (h : PAi X es tA) : PA X es tA := by unfold PAi at h; exact h
theorem PSi.of (h : PS X st t) : PSi X st t := by unfold PSi; exact h
theorem PSi.to (h : PSi X st t) : PS X st t := by unfold PSi at h; exact h
theorem PSsi.of (h : PSs X sts t) : PSsi X sts t := by unfold PSsi; exact h
theorem PSsi.to (h : PSsi X sts t) : PSs X sts t := by unfold PSsi at h; exact h
theorem ie_str {x j pos} : PEi X (.Constant (.str x) j pos) (tC (.str x)) := .of pe_str
theorem iv (i : Nat) {x : Str} {pos : Pos} (hN : X.N[i]? = some x := by rfl) (hv : Vis X.env.scope x := by first | exact Or.inl rfl | exact Or.inr (Or.inl rfl) | exact Or.inr (Or.inr rfl)) (hd : (x == ("__debug__" : Str)) = false := by decide)
    (hcd : (x == ("__classdict__" : Str)) = false := by decide) : PEi X (.Name x pos) (tVar i) := .of (pe_var hN hv hd hcd)
theorem ia_nil : PAi X [] tNil := .of pa_nil
theorem ia_c (ha : PEi X e te) (hr : PAi X es tA) (hs : ∀ a p, e ≠ Expr.Starred a p := by intro _ _ h; cases h) : PAi X (e :: es) (tCons te tA) := .of (pa_c ha.to hr.to hs)
theorem ie_lst (h : PAi X es tA) : PEi X (.List es pos) (tLst tA) := .of (pe_lst h.to)
theorem ie_op {op : Operator} {r : R2} (ho : OpR X (binaryOp op) r) (ha : PEi X a ta) (hb : PEi X b tb) : PEi X (.BinOp a op b pos) (tOp r ta tb) := .of (pe_op ho ha.to hb.to)
theorem ie_bm {o : Expr} {to : TE} {name : Str} {apos cpos : Pos} {T id : String} {r : V → List V → Hp → VK → Prop} (pa : PlainAttrs T) (slot : Slot T name id) (hty : typeOf (.builtin id) = pure (.type "method_descriptor")) (hm : MtR X id r) (ho : PEi X o to) (ha : PAi X [e] tA)
    (hbase : attributeBase o name X.env (eval o X.env) = eval o X.env := by rfl) (hline : (apos.endLine == cpos.line) = true := by rfl) (hs : ∀ a p, e ≠ Expr.Starred a p := by intro _ _ h; cases h) : PEi X (.Call (.Attribute o name apos) [e] [] cpos) (tBM X.K T r to tA) := .of (pe_bm1 pa slot hty hm ho.to ha.to hbase hline hs)
theorem is_set {i : Nat} {x : Str} {pos' : Pos} (hN : X.N.Nodup) (hi : X.N[i]? = some x) (hx : Loc X.env.scope x) (he : PEi X e te) (hs : swapsWith e (some (.Name x pos')) pos.line X.env = pure false := by rfl) (hf : X.fn x = true ∨ X.env.scope.names.lookup x = some .local := by first | exact .inl rfl | exact .inr rfl | assumption) :
    PSi X (.Assign [.Name x pos'] e pos) (tAsg te (gName i)) := .of (ps_set hN hi hx he.to hs hf)
theorem is_expr (he : PEi X e te) (hs : swapsWith e none pos.line X.env = pure false := by rfl) : PSi X (.Expr e pos) (tDrop te) := .of (ps_expr he.to hs)
theorem iss_one (h : PSi X st t) : PSsi X [st] t := .of (pss_one h.to)
theorem iss_mid (h1 : PSi X st t) (h2 : PSsi X sts u) : PSsi X (st :: sts) (tMid t u) := .of (pss_mid h1.to h2.to)
theorem exI {Q : TS → Prop} (h : ∃ t, PSsi X sts t ∧ Q t) : ∃ t, PSs X sts t ∧ Q t := by
  obtain ⟨t, h1, h2⟩ := h
  exact ⟨t, h1.to, h2⟩
theorem ie_lst8 {x0 x1 x2 x3 x4 x5 x6 x7 : Str} {j0 j1 j2 j3 j4 j5 j6 j7} {p0 p1 p2 p3 p4 p5 p6 p7 : Pos} : PEi X (.List [.Constant (.str x0) j0 p0, .Constant (.str x1) j1 p1, .Constant (.str x2) j2 p2, .Constant (.str x3) j3 p3, .Constant (.str x4) j4 p4, .Constant (.str x5) j5 p5, .Constant (.str x6) j6 p6, .Constant (.str x7) j7 p7] pos) (tLst (tCons (tC (.str x0)) (tCons (tC (.str x1)) (tCons (tC (.str x2)) (tCons (tC (.str x3)) (tCons (tC (.str x4)) (tCons (tC (.str x5)) (tCons (tC (.str x6)) (tCons (tC (.str x7)) tNil))))))))) := by
  refine ie_lst ?_
  iterate 8 refine ia_c ie_str ?_
  exact ia_nil
theorem ie_lst10 {x0 x1 x2 x3 x4 x5 x6 x7 x8 x9 : Str} {j0 j1 j2 j3 j4 j5 j6 j7 j8 j9} {p0 p1 p2 p3 p4 p5 p6 p7 p8 p9 : Pos} : PEi X (.List [.Constant (.str x0) j0 p0, .Constant (.str x1) j1 p1, .Constant (.str x2) j2 p2, .Constant (.str x3) j3 p3, .Constant (.str x4) j4 p4, .Constant (.str x5) j5 p5, .Constant (.str x6) j6 p6, .Constant (.str x7) j7 p7, .Constant (.str x8) j8 p8, .Constant (.str x9) j9 p9] pos) (tLst (tCons (tC (.str x0)) (tCons (tC (.str x1)) (tCons (tC (.str x2)) (tCons (tC (.str x3)) (tCons (tC (.str x4)) (tCons (tC (.str x5)) (tCons (tC (.str x6)) (tCons (tC (.str x7)) (tCons (tC (.str x8)) (tCons (tC (.str x9)) tNil))))))))))) := by
  refine ie_lst ?_
  iterate 10 refine ia_c ie_str ?_
  exact ia_nil
theorem ie_lst4 {x0 x1 x2 x3 : Str} {j0 j1 j2 j3} {p0 p1 p2 p3 : Pos} : PEi X (.List [.Constant (.str x0) j0 p0, .Constant (.str x1) j1 p1, .Constant (.str x2) j2 p2, .Constant (.str x3) j3 p3] pos) (tLst (tCons (tC (.str x0)) (tCons (tC (.str x1)) (tCons (tC (.str x2)) (tCons (tC (.str x3)) tNil))))) := by
  refine ie_lst ?_
  iterate 4 refine ia_c ie_str ?_
  exact ia_nil
end
end L2
namespace Nw
open PySem L2
/-! ### data -/
inductive D where
  | str (s : Str)
  | int (i : Int)
  | tup (ds : List D)
  | lst (ds : List D)
mutual
def D.sz : D → Nat
  | .str _ => 1
  | .int _ => 1
  | .tup ds => 1 + D.szs ds
  | .lst ds => 1 + D.szs ds
def D.szs : List D → Nat
  | [] => 0
  | d :: r => D.sz d + D.szs r
end
theorem D.szs_app : ∀ (a b : List D), D.szs (a ++ b) = D.szs a + D.szs b
  | [], b => by simp [D.szs]
  | d :: r, b => by
    show D.sz d + D.szs (r ++ b) = D.sz d + D.szs r + D.szs b
    rw [D.szs_app r b]; omega
theorem D.sz_pos (d : D) : 1 ≤ d.sz := by cases d <;> simp [D.sz] <;> omega
theorem D.len_szs : ∀ ds : List D, ds.length ≤ D.szs ds
  | [] => Nat.le_refl _
  | d :: r => by
    have := D.sz_pos d
    have := D.len_szs r
    show r.length + 1 ≤ D.sz d + D.szs r
    omega
/-- the datum d stands at v -/
inductive Rep (H : Hp) : V → D → Prop
  | str (s : Str) : Rep H (.str s) (.str s)
  | int (i : Int) : Rep H (.int i) (.int i)
  | tup {a : Addr} {xs : List V} {ds : List D} : H a = some (.tup xs) → xs.length = ds.length → (∀ (i : Nat) (x : V) (d : D), xs[i]? = some x → ds[i]? = some d → Rep H x d) → Rep H (.ref a) (.tup ds)
  | lst {a : Addr} {xs : List V} {ds : List D} : H a = some (.lst xs) → xs.length = ds.length → (∀ (i : Nat) (x : V) (d : D), xs[i]? = some x → ds[i]? = some d → Rep H x d) → Rep H (.ref a) (.lst ds)
abbrev sSo : Stmt := top 21
theorem scSo : FnScope ["_law_found", "_law_due", "_law_todo", "_law_one", "_law_other", "_law_k"] ["_law_found", "_law_due"] (defScope sSo) := ⟨rfl, rfl, rfl, by decide +kernel, rfl, by decide +kernel, by decide +kernel⟩
def spSo : Sp := fun vs H Q _ => ∃ (x y : V) (d : D), vs = [x, y] ∧ Rep H x d ∧ Rep H y d ∧ d.sz ≤ 10000 ∧ ∀ H', Same H H' → Q (.bl true) H'
/-- a pair of the same datum, which stood at the start already -/
def PairAt (H H1 : Hp) (v : V) (d : D) : Prop := ∃ t x y, v = .ref t ∧ H1 t = some (.tup [x, y]) ∧ Rep H x d ∧ Rep H y d
theorem bt_list : bootBuiltins "list" = some (.type "list") := by decide +kernel
theorem bt_tuple : bootBuiltins "tuple" = some (.type "tuple") := by decide +kernel
theorem bt_str : bootBuiltins "str" = some (.type "str") := by decide +kernel
theorem bt_bool : bootBuiltins "bool" = some (.type "bool") := by decide +kernel
theorem bt_int : bootBuiltins "int" = some (.type "int") := by decide +kernel
theorem boot_isinstance : bootBuiltins "isinstance" = some (.builtin "isinstance") := by decide +kernel
section
variable {K : PySem.W.Frag}
theorem kAny_str : PySem.W.kitAny K (.type "str") (["list", "tuple"].map Value.type) = some false := by rfl
theorem kAny_int : PySem.W.kitAny K (.type "int") (["list", "tuple"].map Value.type) = some false := by rfl
theorem kAny_list : PySem.W.kitAny K (.type "list") (["list", "tuple"].map Value.type) = some true := by rfl
theorem kAny_tup : PySem.W.kitAny K (.type "tuple") (["list", "tuple"].map Value.type) = some true := by rfl
theorem k_ll : PySem.W.kitOne K (.type "list") (.type "list") = some true := by rfl
theorem k_lt : PySem.W.kitOne K (.type "list") (.type "tuple") = some false := by rfl
theorem k_tl : PySem.W.kitOne K (.type "tuple") (.type "list") = some false := by rfl
theorem k_tt : PySem.W.kitOne K (.type "tuple") (.type "tuple") = some true := by rfl
theorem k_ss : PySem.W.kitOne K (.type "str") (.type "str") = some true := by rfl
theorem k_is : PySem.W.kitOne K (.type "int") (.type "str") = some false := by rfl
theorem k_ib : PySem.W.kitOne K (.type "int") (.type "bool") = some false := by rfl
theorem k_ii : PySem.W.kitOne K (.type "int") (.type "int") = some true := by rfl
end
section
variable {P : Program} {w : World} {K : PySem.W.Frag} {mg : Str → Option Value} {base : Heap}
theorem ok_so {f : Addr} {fd : FuncData} (F : Fun K "_law_so" "_law_so" sSo f fd) (T : Txt mg) : FnOk P w K mg base CX0 1 f fd ["_law_found", "_law_due"] spSo := by
  refine F.ok scSo (fun vs H Q E h => ?_) (fun cdv A outer s H vs Q E hr h => ?_)
  · obtain ⟨x, y, d, rfl, _⟩ := h
    rfl
  · obtain ⟨x0, y0, d0, rfl, hx0, hy0, hsz, k⟩ := h
    have hu := hu_of hr
    have hu0 : (A.deeper (PyProof.Rows.envOfC "_law_so" (defScope sSo) s.heap.objs.size f cdv)).units < cLine := Nat.lt_of_succ_lt hu
    refine ⟨_, pss_cons (ps_set (i := 2) scSo.nd rfl (Or.inl rfl) (pe_lst (pa_cons (pe_tup (pa_cons (pv 0) (pa_cons (pv 1) pa_nil))) pa_nil)))
      (pss_cons (ps_while PassesOwn.never (pt_cmpR (op_neNil hu0) (pv 2) (pe_lst pa_nil) (nomark _))
        (pss_cons (ps_asg (pe_bm0 PySem.F.plainAttrs_list PySem.F.slot_list_pop PySem.F.type_list_pop mt_pop (pv 2)) (pg_tup (n := 2) rfl (pgs_cons (pg_name (i := 3) scSo.nd rfl (Or.inl rfl)) (pgs_cons (pg_name (i := 4) scSo.nd rfl (Or.inl rfl)) pgs_nil))))
        (pss_one (ps_if (pt_val (pe_callB call_isiT (by rfl) T.isi boot_isinstance (pa_cons (pv 4) (pa_cons (pe_tup (pa_cons (pe_bltn (v := .ty "list") (by rfl) T.lst bt_list rfl) (pa_cons (pe_bltn (v := .ty "tuple") (by rfl) T.tup bt_tuple rfl) pa_nil))) pa_nil))))
          (pss_cons (ps_if (pt_cmpR op_ne (pe_callB call_isi (by rfl) T.isi boot_isinstance (pa_cons (pv 3) (pa_cons (pe_bltn (v := .ty "list") (by rfl) T.lst bt_list rfl) pa_nil))) (pe_callB call_isi (by rfl) T.isi boot_isinstance (pa_cons (pv 4) (pa_cons (pe_bltn (v := .ty "list") (by rfl) T.lst bt_list rfl) pa_nil))) (nomark _)) pss_never pss_nil)
          (pss_cons (ps_if (pt_cmpR op_ne (pe_callB call_isi (by rfl) T.isi boot_isinstance (pa_cons (pv 3) (pa_cons (pe_bltn (v := .ty "tuple") (by rfl) T.tup bt_tuple rfl) pa_nil))) (pe_callB call_isi (by rfl) T.isi boot_isinstance (pa_cons (pv 4) (pa_cons (pe_bltn (v := .ty "tuple") (by rfl) T.tup bt_tuple rfl) pa_nil))) (nomark _)) pss_never pss_nil)
          (pss_cons (ps_if (pt_cmpR op_ne (pe_callB call_len_seq (by rfl) T.len PySem.boot_len (pa_cons (pv 3) pa_nil)) (pe_callB call_len_seq (by rfl) T.len PySem.boot_len (pa_cons (pv 4) pa_nil)) (nomark _)) pss_never pss_nil)
          (pss_one (ps_for PassesOwn.never rfl (pi_range1 (by rfl) T.rng (pa_cons (pe_callB call_len_seq (by rfl) T.len PySem.boot_len (pa_cons (pv 4) pa_nil)) pa_nil)) (pg_name (i := 5) scSo.nd rfl (Or.inl rfl))
            (pss_one (ps_expr (pe_bm PySem.F.plainAttrs_list PySem.F.slot_list_append PySem.F.type_list_append mt_append (pv 2) (pa_cons (pe_tup (pa_cons (pe_ix ix_seq (pv 3) (pv 5) (fun _ _ => rfl)) (pa_cons (pe_ix ix_seq (pv 4) (pv 5) (fun _ _ => rfl)) pa_nil))) pa_nil)))))))))
          (pss_one (ps_if (pt_val (pe_callB call_isi (by rfl) T.isi boot_isinstance (pa_cons (pv 4) (pa_cons (pe_bltn (v := .ty "str") (by rfl) T.str bt_str rfl) pa_nil))))
            (pss_one (ps_if (PW.pt (pw_or (pt_not (pt_val (pe_callB call_isi (by rfl) T.isi boot_isinstance (pa_cons (pv 3) (pa_cons (pe_bltn (v := .ty "str") (by rfl) T.str bt_str rfl) pa_nil))))) (pw_or1 (pt_cmpR op_ne (pv 3) (pv 4) (nomark _))))) pss_never pss_nil))
            (pss_one (ps_if (pt_val (pe_callB call_isi (by rfl) T.isi boot_isinstance (pa_cons (pv 4) (pa_cons (pe_bltn (v := .ty "bool") (by rfl) T.bl bt_bool rfl) pa_nil)))) pss_never
              (pss_one (ps_if (pt_cmpR op_isN (pv 4) pe_non (nomark _)) pss_never
                (pss_one (ps_if (PW.pt (pw_or (pt_not (pt_val (pe_callB call_isi (by rfl) T.isi boot_isinstance (pa_cons (pv 3) (pa_cons (pe_bltn (v := .ty "int") (by rfl) T.int bt_int rfl) pa_nil)))))
                  (pw_or (pt_val (pe_callB call_isi (by rfl) T.isi boot_isinstance (pa_cons (pv 3) (pa_cons (pe_bltn (v := .ty "bool") (by rfl) T.bl bt_bool rfl) pa_nil)))) (pw_or1 (pt_cmpR op_ne (pv 3) (pv 4) (nomark _)))))) pss_never pss_nil))))))))))))
      (pss_one (ps_ret pe_bl))), ?_⟩
    refine ⟨_, rfl, _, rfl, (show 2 ≤ sizeLine by decide), fun t0 ht0 => ⟨(show 1 ≤ sizeLine by decide), fun tl htl => ?_⟩⟩
    have s0 : Same H (upd H t0 (.tup [x0, y0])) := Same.upd ht0
    have htlH : H tl = none := s0.free htl
    refine ⟨fun m σ H1 => ∃ ts vs o1 o2 o3, σ = [some x0, some y0, some (.ref tl), o1, o2, o3] ∧ Same H H1 ∧ H1 tl = some (.lst vs) ∧ Paired (PairAt H H1) vs ts ∧ m = D.szs ts ∧ m ≤ 10000,
      ⟨_, [d0], _, none, none, none, rfl, s0.trans (Same.upd htl), upd_same, .cons ⟨t0, x0, y0, rfl, by rw [upd_ne (ne_of_none (upd_same (H := H)) htl)]; exact upd_same, hx0, hy0⟩ .nil, rfl, by show d0.sz + 0 ≤ _; omega⟩, ?_⟩
    rintro m σ H1 ⟨ts, vs, o1, o2, o3, rfl, s1, hl1, hp1, rfl, hm⟩
    refine ⟨_, rfl, by decide, fun qn hqn => ?_⟩
    have hqt : tl ≠ qn := ne_of_none hl1 hqn
    have sn : Same H1 (upd H1 qn (.lst [])) := Same.upd hqn
    refine ⟨tl, qn, vs, rfl, rfl, SqL.of (sn _ _ hl1), SqL.of upd_same, _, rfl, ?_⟩
    rcases List.eq_nil_or_concat vs with rfl | ⟨vi, vl, rfl⟩
    · exact iteF (k _ (s1.trans sn))
    · rw [show (!(vi.concat vl).isEmpty) = true by simp]
      refine iteT ?_
      -- the last pair
      obtain ⟨ti, dl, rfl, hpi, hpl⟩ : ∃ ti dl, ts = ti ++ [dl] ∧ Paired (PairAt H H1) vi ti ∧ PairAt H H1 vl dl := by
        have key : ∀ {vi : List V} {ts : List D}, Paired (PairAt H H1) (vi ++ [vl]) ts → ∃ ti dl, ts = ti ++ [dl] ∧ Paired (PairAt H H1) vi ti ∧ PairAt H H1 vl dl := by
          intro vi
          induction vi with
          | nil =>
            intro ts h
            cases h with
            | cons h1 h2 => cases h2; exact ⟨[], _, rfl, .nil, h1⟩
          | cons v r ih =>
            intro ts h
            cases h with
            | cons h1 h2 =>
              obtain ⟨ti, dl, rfl, q1, q2⟩ := ih h2
              exact ⟨_ :: ti, dl, rfl, .cons h1 q1, q2⟩
        exact key (by rw [← List.concat_eq_append]; exact hp1)
      obtain ⟨t, x, y, rfl, ht, hx, hy⟩ := hpl
      have hsz2 : D.szs (ti ++ [dl]) = D.szs ti + dl.sz := by rw [D.szs_app]; rfl
      have s1n := s1.trans sn
      generalize hH2 : upd H1 qn (.lst []) = H2 at sn s1n
      have hl2 : H2 tl = some (.lst (vi ++ [V.ref t])) := by rw [← List.concat_eq_append]; exact sn _ _ hl1
      refine ⟨fun σ H4 => ∃ ts' vs' o1 o2 o3, σ = [some x0, some y0, some (.ref tl), o1, o2, o3] ∧ Same H H4 ∧ H4 tl = some (.lst vs') ∧ Paired (PairAt H H4) vs' ts' ∧ D.szs ts' < D.szs (ti ++ [dl]), ?_, ?_⟩
      · rintro σ' H4 ⟨ts', vs', o1, o2, o3, rfl, q1, q2, q3, q4⟩
        exact ⟨_, q4, ts', vs', o1, o2, o3, rfl, q1, q2, q3, rfl, by omega⟩
      refine ⟨_, rfl, .inl ⟨rfl, _, SqL.of hl2⟩, tl, _, V.ref t, rfl, rfl, hl2, by simp, ?_⟩
      rw [List.dropLast_concat]
      -- behind the pop
      generalize hH3 : upd H2 tl (.lst vi) = H3
      have s3 : Same H H3 := by rw [← hH3]; exact s1n.updS htlH
      have keepT : ∀ {H4 : Hp} {b : Addr} {xs : List V}, (∀ z o, H2 z = some o → z ≠ tl → H4 z = some o) → H1 b = some (.tup xs) → H4 b = some (.tup xs) := fun {H4 b xs} h e => by
        have e2 := sn _ _ e
        refine h _ _ e2 fun z => ?_
        rw [z, hl2] at e2; cases e2
      have x3 : ∀ z o, H2 z = some o → z ≠ tl → H3 z = some o := fun z o e hz => by rw [← hH3, upd_ne hz]; exact e
      have hl3 : H3 tl = some (.lst vi) := by rw [← hH3, upd_same]
      have ht3 : H3 t = some (.tup [x, y]) := keepT x3 ht
      have keepP : ∀ {H4 : Hp}, (∀ z o, H2 z = some o → z ≠ tl → H4 z = some o) → Paired (PairAt H H4) vi ti := fun {H4} h => Paired.mapP hpi fun _ _ ⟨t', x', y', q1, q2, q3, q4⟩ => ⟨t', x', y', q1, keepT h q2, q3, q4⟩
      have same3 : ∀ {H4 : Hp}, Same H3 H4 → ∀ z o, H2 z = some o → z ≠ tl → H4 z = some o := fun {H4} h z o e hz => h _ _ (x3 z o e hz)
      refine ⟨t, _, rfl, SqT.of ht3, rfl, x, _, rfl, y, _, rfl, rfl, ?_⟩
      refine ⟨_, rfl, (show 2 ≤ sizeLine by decide), fun tp htp => ?_⟩
      have s4 : Same H3 (upd H3 tp (.tup [.ty "list", .ty "tuple"])) := Same.upd htp
      generalize hH4 : upd H3 tp (.tup [.ty "list", .ty "tuple"]) = H4 at s4
      have htp4 : H4 tp = some (.tup (["list", "tuple"].map V.ty)) := by rw [← hH4]; exact upd_same
      have s34 := s3.trans s4
      have hl4 : H4 tl = some (.lst vi) := s4 _ _ hl3
      have done : ∀ o3' : Option V, ∃ ts' vs' o1 o2 o3, [some x0, some y0, some (V.ref tl), some x, some y, o3'] = [some x0, some y0, some (.ref tl), o1, o2, o3] ∧ Same H H4 ∧ H4 tl = some (.lst vs') ∧ Paired (PairAt H H4) vs' ts' ∧ D.szs ts' < D.szs (ti ++ [dl]) := fun _ =>
        ⟨ti, vi, _, _, _, rfl, s34, hl4, keepP (same3 s4), by rw [hsz2]; have := D.sz_pos dl; omega⟩
      -- the data that have parts
      have parts : ∀ (b : Bool) (ax ay : Addr) (xs ys : List V) (ds : List D), x = .ref ax → y = .ref ay → dl.sz = 1 + D.szs ds → xs.length = ds.length → ys.length = ds.length →
          (∀ (i : Nat) (u : V) (d : D), xs[i]? = some u → ds[i]? = some d → Rep H u d) → (∀ (i : Nat) (u : V) (d : D), ys[i]? = some u → ds[i]? = some d → Rep H u d) →
          (if b = true then H ax = some (.tup xs) ∧ H ay = some (.tup ys) else H ax = some (.lst xs) ∧ H ay = some (.lst ys)) → ∃ tn : String, (∀ H5, Same H H5 → TyOf K H5 (.ref ax) (.type tn) ∧ TyOf K H5 (.ref ay) (.type tn)) ∧
            PySem.W.kitAny K (.type tn) (["list", "tuple"].map Value.type) = some true ∧ PySem.W.kitOne K (.type tn) (.type "list") = some (!b) ∧ PySem.W.kitOne K (.type tn) (.type "tuple") = some b ∧
            (∀ H5, Same H H5 → (SqL K H5 ax xs ∨ SqT K H5 ax xs) ∧ (SqL K H5 ay ys ∨ SqT K H5 ay ys)) ∧
            (∀ (H5 : Hp) (i : Nat) (u : V) (Q : VK), Same H H5 → xs[i]? = some u → Q u H5 → rIx K (.ref ax) (.int (0 + (i : Int))) H5 Q) ∧ (∀ (H5 : Hp) (i : Nat) (u : V) (Q : VK), Same H H5 → ys[i]? = some u → Q u H5 → rIx K (.ref ay) (.int (0 + (i : Int))) H5 Q) := by
        intro b ax ay xs ys ds _ _ _ _ _ _ _ hb
        cases b with
        | true =>
          obtain ⟨h1, h2⟩ := hb
          refine ⟨"tuple", fun H5 e => ⟨TyOf.tup (e _ _ h1), TyOf.tup (e _ _ h2)⟩, kAny_tup, k_tl, k_tt, fun H5 e => ⟨.inr (SqT.of (e _ _ h1)), .inr (SqT.of (e _ _ h2))⟩, fun H5 i u Q e hi q => ?_, fun H5 i u Q e hi q => ?_⟩
          · exact .inr (.inl ⟨ax, xs, _, u, rfl, rfl, SqT.of (e _ _ h1), by rw [Int.zero_add]; exact atI_nat hi, q⟩)
          · exact .inr (.inl ⟨ay, ys, _, u, rfl, rfl, SqT.of (e _ _ h2), by rw [Int.zero_add]; exact atI_nat hi, q⟩)
        | false =>
          obtain ⟨h1, h2⟩ := hb
          refine ⟨"list", fun H5 e => ⟨TyOf.lst (e _ _ h1), TyOf.lst (e _ _ h2)⟩, kAny_list, k_ll, k_lt, fun H5 e => ⟨.inl (SqL.of (e _ _ h1)), .inl (SqL.of (e _ _ h2))⟩, fun H5 i u Q e hi q => ?_, fun H5 i u Q e hi q => ?_⟩
          · exact .inl ⟨ax, xs, _, u, rfl, rfl, SqL.of (e _ _ h1), by rw [Int.zero_add]; exact atI_nat hi, q⟩
          · exact .inl ⟨ay, ys, _, u, rfl, rfl, SqL.of (e _ _ h2), by rw [Int.zero_add]; exact atI_nat hi, q⟩
      have kinds : (∃ s, x = .str s ∧ y = .str s) ∨ (∃ i, x = .int i ∧ y = .int i) ∨ ∃ (b : Bool) (ax ay : Addr) (xs ys : List V) (ds : List D), x = .ref ax ∧ y = .ref ay ∧ dl.sz = 1 + D.szs ds ∧ xs.length = ds.length ∧ ys.length = ds.length ∧
          (∀ (i : Nat) (u : V) (d : D), xs[i]? = some u → ds[i]? = some d → Rep H u d) ∧ (∀ (i : Nat) (u : V) (d : D), ys[i]? = some u → ds[i]? = some d → Rep H u d) ∧
          (if b = true then H ax = some (.tup xs) ∧ H ay = some (.tup ys) else H ax = some (.lst xs) ∧ H ay = some (.lst ys)) := by
        cases hy with
        | str sy => cases hx with | str => exact .inl ⟨_, rfl, rfl⟩
        | int i => cases hx with | int => exact .inr (.inl ⟨_, rfl, rfl⟩)
        | tup h1 h2 h3 => cases hx with | tup g1 g2 g3 => exact .inr (.inr ⟨true, _, _, _, _, _, rfl, rfl, rfl, g2, h2, g3, h3, g1, h1⟩)
        | lst h1 h2 h3 => cases hx with | lst g1 g2 g3 => exact .inr (.inr ⟨false, _, _, _, _, _, rfl, rfl, rfl, g2, h2, g3, h3, g1, h1⟩)
      rcases kinds with ⟨sy, rfl, rfl⟩ | ⟨iy, rfl, rfl⟩ | ⟨b, ax, ay, xs, ys, ds, ex, ey, esz, lx, ly, rx, ry, hb⟩
      · refine ⟨.str sy, tp, ["list", "tuple"], _, _, rfl, htp4, TyOf.str _, kAny_str, _, rfl, iteF ?_⟩
        refine ⟨_, rfl, _, _, _, _, rfl, TyOf.str _, k_ss, _, rfl, iteT ?_⟩
        refine ⟨_, rfl, _, _, _, _, rfl, TyOf.str _, k_ss, _, rfl, iteF ?_⟩
        exact ⟨_, rfl, _, rfl, rfl, _, rfl, iteNS rfl (done _)⟩
      · refine ⟨.int iy, tp, ["list", "tuple"], _, _, rfl, htp4, TyOf.int _, kAny_int, _, rfl, iteF ?_⟩
        refine ⟨_, rfl, _, _, _, _, rfl, TyOf.int _, k_is, _, rfl, iteF ?_⟩
        refine ⟨_, rfl, _, _, _, _, rfl, TyOf.int _, k_ib, _, rfl, iteF ?_⟩
        refine ⟨_, rfl, rfl, _, rfl, iteF ?_⟩
        refine ⟨_, rfl, _, _, _, _, rfl, TyOf.int _, k_ii, _, rfl, iteF ?_⟩
        refine ⟨_, rfl, _, _, _, _, rfl, TyOf.int _, k_ib, _, rfl, iteF ?_⟩
        exact ⟨_, rfl, _, rfl, rfl, _, rfl, iteNS rfl (done _)⟩
      · obtain ⟨tn, ty, ka, kl, kt, sq, ix1, ix2⟩ := parts b ax ay xs ys ds ex ey esz lx ly rx ry hb
        subst ex; subst ey
        obtain ⟨ty1, ty2⟩ := ty H4 s34
        obtain ⟨sq1, sq2⟩ := sq H4 s34
        have hlen : xs.length = ys.length := lx.trans ly.symm
        have hds : ds.length ≤ 10000 := by
          have := D.len_szs ds
          omega
        refine ⟨.ref ay, tp, ["list", "tuple"], _, _, rfl, htp4, ty2, ka, _, rfl, iteT ?_⟩
        refine ⟨_, rfl, _, _, _, _, rfl, ty1, kl, _, rfl, _, _, _, _, rfl, ty2, kl, rfl, _, rfl, iteNS rfl ?_⟩
        refine ⟨_, rfl, _, _, _, _, rfl, ty1, kt, _, rfl, _, _, _, _, rfl, ty2, kt, rfl, _, rfl, iteNS rfl ?_⟩
        refine ⟨_, rfl, ax, _, rfl, sq1, _, rfl, ay, _, rfl, sq2, rfl, _, rfl, iteNS (by rw [hlen]) ?_⟩
        refine ⟨_, rfl, ay, _, rfl, sq2, _, rfl, by omega, by omega, for_range (n := (ys.length : Int).toNat) (fun i σ H5 => ∃ vs' o3, σ = [some x0, some y0, some (.ref tl), some (.ref ax), some (.ref ay), o3] ∧ Same H H5 ∧ H5 tl = some (.lst vs') ∧ Paired (PairAt H H5) vs' (ti ++ ds.take i))
          ⟨vi, _, rfl, s34, hl4, by rw [List.take_zero, List.append_nil]; exact keepP (same3 s4)⟩ ?_ ?_⟩
        · rintro i σ H5 hi ⟨vs', o3', rfl, s5, hl5, hp5⟩
          have hi' : i < ds.length := by rw [Int.toNat_natCast] at hi; omega
          have hxi : xs[i]? = some xs[i] := List.getElem?_eq_getElem (by omega)
          have hyi : ys[i]? = some ys[i] := List.getElem?_eq_getElem (by omega)
          have hdi : ds[i]? = some ds[i] := List.getElem?_eq_getElem hi'
          have hvl : vs'.length ≤ 20000 := by
            have h1 := Paired.length hp5
            rw [List.length_append, List.length_take] at h1
            have h2 := D.len_szs ti
            omega
          refine ⟨_, rfl, .inl ⟨rfl, _, SqL.of hl5⟩, _, rfl, _, rfl, ix1 H5 i _ _ s5 hxi ?_⟩
          refine ⟨_, rfl, _, rfl, ix2 H5 i _ _ s5 hyi ⟨(show 2 ≤ sizeLine by decide), fun p hp => ?_⟩⟩
          have hpt : tl ≠ p := ne_of_none hl5 hp
          have sp : Same H5 (upd H5 p (.tup [xs[i], ys[i]])) := Same.upd hp
          refine ⟨tl, vs', _, rfl, rfl, sp _ _ hl5, Nat.lt_of_le_of_lt hvl (by rw [PySem.sizeLine_eq]; decide), vs' ++ [.ref p], _, rfl, (s5.trans sp).updS htlH, upd_same, ?_⟩
          have kt5 : ∀ {b : Addr} {us : List V}, H5 b = some (.tup us) → upd (upd H5 p (.tup [xs[i], ys[i]])) tl (.lst (vs' ++ [.ref p])) b = some (.tup us) := fun {b us} e => by
            have e2 := sp _ _ e
            rw [upd_ne fun z => by rw [z, hl5] at e; cases e]
            exact e2
          rw [List.take_succ, hdi, ← List.append_assoc]
          refine paired_snoc (Paired.mapP hp5 fun _ _ ⟨t', x', y', q1, q2, q3, q4⟩ => ⟨t', x', y', q1, kt5 q2, q3, q4⟩) ⟨p, _, _, rfl, ?_, rx i _ _ hxi hdi, ry i _ _ hyi hdi⟩
          rw [upd_ne (Ne.symm hpt), upd_same]
        · rintro σ H5 ⟨vs', o3', rfl, s5, hl5, hp5⟩
          rw [Int.toNat_natCast, ly, List.take_length] at hp5
          exact ⟨_, vs', _, _, _, rfl, s5, hl5, hp5, by rw [hsz2, D.szs_app]; omega⟩
end
end Nw
namespace Nw
open PySem L2 Nt
/-- the module's own texts -/
structure Own9 (mg : Str → Option Value) : Prop where
  lt : ∃ u, mg "LETTERS" = some u ∧ RelV (.str LET) u
  mar : ∃ u, mg "MARK" = some u ∧ RelV (.str MK) u
abbrev sSign : Stmt := top 8
theorem scSign : FnScope ["text"] ["text"] (defScope sSign) := ⟨rfl, rfl, rfl, by decide +kernel, rfl, by decide +kernel, by decide +kernel⟩
def spSign : Sp := fun vs H Q _ => ∃ (x : Str), vs = [.str x] ∧ x.length ≤ 1000 ∧ ∀ H', Same H H' → Q (.bl (Sg x)) H'
theorem str_empty {x : Str} : x = "" ↔ x.length = 0 := by
  constructor
  · rintro rfl; rfl
  · intro h
    obtain ⟨a⟩ := x
    have h : a.size = 0 := h
    have : a = #[] := Array.eq_empty_of_size_eq_zero h
    rw [this]
    decide +kernel
section
variable {P : Program} {w : World} {K : PySem.W.Frag} {mg : Str → Option Value} {base : Heap}
theorem ok_sign {f : Addr} {fd : FuncData} (F : Fun K "is_sign" "is_sign" sSign f fd) (T : Txt mg) (O : Own9 mg) : FnOk P w K mg base CX0 1 f fd ["text"] spSign := by
  obtain ⟨uL, hL, rL⟩ := O.lt
  refine F.ok scSign (fun vs H Q E h => ?_) (fun cdv A outer s H vs Q E hr h => ?_)
  · obtain ⟨x, rfl, _⟩ := h
    rfl
  · obtain ⟨x, rfl, hx, k⟩ := h
    refine ⟨_, pss_one (ps_ret (pe_and (pe_cmpR op_ne (pv 0) pe_str (nomark _)) (pe_one (pe_callB (call_all rfl) (by rfl) T.all PyProof.Rows.boot_all (pa_c
      (pe_comp (CompIn.freeG (N := ["letter"]) (sel := [none]) [] (by rfl) (by rfl) (by rfl) (by decide) (by decide) (by intro x hx; cases hx) (by intro y hy; cases hy) (by rfl) ?c6) rfl (pi_str (pv 0)) (fun s₃ H₃ fp => pg_name (i := 0) (show (["letter"] : List Str).Nodup by decide) rfl (Or.inl rfl)) (fun s₃ H₃ fp => pif_nil)
        (fun s₃ H₃ fp => pe_cmpR op_in_str (pv 0) (pe_glob (X := cxIn _ _ _ _ _ _ _) (by rfl) hL rL) (by with_unfolding_all rfl))) pa_nil))))), ?_⟩
    case c6 =>
      intro j i h
      rcases j with _ | j
      · cases h
      · cases h
    refine ⟨_, rfl, rfl, _, rfl, ?_⟩
    by_cases h0 : x = ""
    · have e : decide (V.str x = V.str (Str.ofString "")) = true := decide_eq_true (by rw [h0])
      rw [e]
      have e2 : Sg x = false := by
        unfold Sg
        rw [decide_eq_true (str_empty.mp h0)]
        rfl
      refine iteF ?_
      rw [← e2]
      exact k H (fun _ _ z => z)
    · have e : decide (V.str x = V.str (Str.ofString "")) = false := decide_eq_false fun z => h0 (by injection z)
      rw [e]
      refine iteT ⟨_, rfl, x, rfl, fun D hD => comp_str1 (fun i τ H1 => (∃ o, τ = [o]) ∧ H1 = upd H D (.lst (((x.cps.toList.take i).map isLet).map V.bl))) ⟨⟨_, rfl⟩, rfl⟩ ?_ ?_⟩
      · rintro i c τ H1 hc ⟨⟨o, rfl⟩, rfl⟩
        have hc' : x.cps.toList[i]? = some c := by rw [Array.getElem?_toList]; exact hc
        have hil : i < x.cps.toList.length := (List.getElem?_eq_some_iff.mp hc').1
        have hlx : x.cps.toList.length ≤ 1000 := by rw [Array.length_toList]; exact hx
        refine ⟨_, rfl, _, _, rfl, rfl, _, upd_same, ?_, ⟨_, rfl⟩, ?_⟩
        · rw [List.length_map, List.length_map, List.length_take]
          exact small1000 (by omega)
        · rw [upd_upd, List.take_succ, hc', List.map_append, List.map_append]
          show upd H D (.lst (_ ++ [V.bl (!(Builtin.Str.occurrences LET ⟨#[c]⟩ 0 LET.length 1).isEmpty)])) = _
          rw [StrLaws.found_one, mem_LET]
          rfl
      · rintro τ H1 ⟨_, rfl⟩
        have e3 : x.cps.toList.take x.cps.size = x.cps.toList := by rw [← Array.length_toList]; exact List.take_length
        rw [e3]
        refine ⟨D, x.cps.toList.map isLet, rfl, SqL.of upd_same, ?_⟩
        have e4 : ((x.cps.toList.map isLet).all id) = Sg x := by
          unfold Sg
          rw [decide_eq_false fun z => h0 (str_empty.mpr z), List.all_map]
          rfl
        rw [e4]
        exact k _ (Same.upd hD)
end
end Nw
namespace Nw
open PySem L2 Nt
/-- a row of short signs -/
structure RowOk (p : Row) : Prop where
  l : Sg p.1 = true
  r : ∀ s ∈ p.2, Sg s = true
  ll : p.1.length ≤ 50
  rl : ∀ s ∈ p.2, s.length ≤ 50
  n : p.2.length ≤ 16
theorem sum_le {b : Nat} : ∀ {l : List Str}, (∀ s ∈ l, s.length ≤ b) → (l.map (·.length)).sum ≤ b * l.length
  | [], _ => by simp
  | s :: r, h => by
    have h1 := h s (List.mem_cons_self ..)
    have h2 := sum_le (b := b) (l := r) fun z hz => h z (List.mem_cons_of_mem _ hz)
    rw [List.map_cons, List.sum_cons, List.length_cons, Nat.mul_succ]
    omega
theorem RowOk.sum {p : Row} (h : RowOk p) : ((p.1 :: MK :: p.2).map (·.length)).sum ≤ 900 := by
  have := sum_le (b := 50) (l := p.1 :: MK :: p.2) fun s hs => by
    rcases List.mem_cons.mp hs with e | e
    · rw [e]; exact h.ll
    · rcases List.mem_cons.mp e with e | e
      · rw [e]; decide +kernel
      · exact h.rl s e
  have h2 := h.n
  rw [List.length_cons, List.length_cons] at this
  omega
theorem RowOk.line {p : Row} (h : RowOk p) : (line p).length ≤ 1000 := by
  have h1 := line_len p
  have h2 := h.sum
  have h3 := h.n
  rw [List.length_cons, List.length_cons] at h1
  omega
theorem RowOk.parse {p : Row} (h : RowOk p) : parse (Nt.line p) = some p := parse_line h.l h.r
abbrev sShown : Stmt := top 11
theorem scShown : FnScope ["rows"] ["rows"] (defScope sShown) := ⟨rfl, rfl, rfl, by decide +kernel, rfl, by decide +kernel, by decide +kernel⟩
def spShown : Sp := fun vs H Q _ => ∃ (a : Addr) (R : List Row), vs = [.ref a] ∧ RowsAt H a R ∧ R.length ≤ 60 ∧ (∀ p ∈ R, RowOk p) ∧ ∀ q H', Same H H' → H q = none → StrsAt H' q (R.map line) → Q (.ref q) H'
section
variable {P : Program} {w : World} {K : PySem.W.Frag} {mg : Str → Option Value} {base : Heap}
theorem ok_shown {f : Addr} {fd : FuncData} (F : Fun K "shown" "shown" sShown f fd) (T : Txt mg) (O : Own9 mg) : FnOk P w K mg base CX0 1 f fd ["rows"] spShown := by
  obtain ⟨uM, hM, rM⟩ := O.mar
  refine F.ok scShown (fun vs H Q E h => ?_) (fun cdv A outer s H vs Q E hr h => ?_)
  · obtain ⟨a, R, rfl, _⟩ := h
    rfl
  · obtain ⟨a, R, rfl, hR, hn, hok, k⟩ := h
    refine ⟨_, pss_one (ps_ret (pe_comp (g := gTup K 2 (gCons (gName 0) (gCons (gName 1) gNil))) (te := tBM K "str" (rJoin K) (tC (.str " ")) (tCons (tOp rCat (tLst (tCons (tVar 0) (tCons (tC (.str MK)) tNil))) (tVar 1)) tNil)) (CompIn.freeG (N := ["left", "right"]) (sel := [none, none]) [] (by rfl) (by rfl) (by rfl) (by decide) (by decide) (by intro x hx; cases hx) (by intro y hy; cases hy) (by rfl) ?c6) rfl (pi_list (pv 0))
      (fun s₃ H₃ fp => pg_tup (n := 2) rfl (pgs_cons (pg_name (i := 0) (show (["left", "right"] : List Str).Nodup by decide) rfl (Or.inl rfl)) (pgs_cons (pg_name (i := 1) (show (["left", "right"] : List Str).Nodup by decide) rfl (Or.inl rfl)) pgs_nil))) (fun s₃ H₃ fp => pif_nil)
      (fun s₃ H₃ fp => pe_bm1 PySem.F.plainAttrs_str PySem.F.slot_str_join PySem.F.type_str_join mt_join pe_str (pa_c (pe_op op_cat (pe_lst (pa_c (pv 0) (pa_c (pe_glob (by rfl) (by exact hM) (by exact rM)) pa_nil))) (pv 1)) pa_nil)))), ?_⟩
    case c6 =>
      intro j i h
      rcases j with _ | _ | j
      · cases h
      · cases h
      · cases h
    obtain ⟨vs, hv, hp⟩ := hR
    have hlen : vs.length = R.length := Paired.length hp
    refine ⟨_, rfl, a, rfl, ⟨vs, SqL.of hv⟩, fun D hD => comp_list (K := K) (xs := vs) (fun i τ H1 => (∃ o1 o2, τ = [o1, o2]) ∧ Same H H1 ∧ H1 D = some (.lst (((R.take i).map line).map V.str))) ⟨⟨_, _, rfl⟩, Same.upd hD, upd_same⟩ ?_ ?_ ?_⟩
    · rintro i τ H1 ⟨_, s1, _⟩
      exact SqL.of (s1 _ _ hv)
    · rintro i x τ H1 hx ⟨⟨o1, o2, rfl⟩, s1, hD1⟩
      obtain ⟨p, hpi, t, b, rfl, ht, hb⟩ := paired_get hp i x hx
      have hil : i < R.length := (List.getElem?_eq_some_iff.mp hpi).1
      have hpo := hok p (List.mem_of_getElem? hpi)
      have hb1 : H1 b = some (.lst (p.2.map V.str)) := s1 _ _ hb
      refine ⟨t, _, rfl, SqT.of (s1 _ _ ht), rfl, _, _, rfl, _, _, rfl, rfl, trueT ?_⟩
      refine ⟨rfl, _, rfl, (show 2 ≤ sizeLine by decide), fun q1 hq1 => ?_⟩
      have sq1 := Same.upd (o := HO.lst [V.str p.1, V.str MK]) hq1
      refine ⟨_, rfl, q1, b, _, _, rfl, rfl, upd_same, sq1 _ _ hb1, ?_, fun q2 hq2 => ?_⟩
      · rw [List.length_map]
        have := hpo.n
        exact big_line (by simp; omega)
      · have sq2 := Same.upd (o := HO.lst ([V.str p.1, V.str MK] ++ p.2.map V.str)) hq2
        have s3 := s1.trans (sq1.trans sq2)
        refine ⟨_, q2, p.1 :: MK :: p.2, rfl, rfl, SqL.of upd_same, ?_, _, (sq1.trans sq2) _ _ hD1, ?_, ⟨_, _, rfl⟩, s3.updS hD, ?_⟩
        · have h1 := hpo.sum
          have h2 := hpo.n
          have h3 : (Str.ofString " ").length = 1 := by decide +kernel
          rw [h3, List.length_cons, List.length_cons]
          omega
        · rw [List.length_map, List.length_map, List.length_take]
          exact small1000 (by omega)
        · rw [upd_same, List.take_succ, hpi, List.map_append, List.map_append]
          rfl
    · rintro τ H1 ⟨_, s1, hD1⟩
      rw [hlen, List.take_length] at hD1
      exact k D H1 s1 hD hD1
end
end Nw
namespace Nw
open PySem L2 Nt
abbrev bmV : List Value := [.type "ValueError", .type "Exception", .type "BaseException", .type "object"]
abbrev nwV : String := "ValueError.__new__"
theorem cut_dropS (r : List Str) (k : Nat) : cutV (r.map V.str) (some ((k : Nat) : Int)) none = (r.drop k).map V.str := by
  unfold cutV
  rw [HT.sIx_none, HT.sIx_nat, List.length_map]
  rcases Nat.lt_or_ge r.length k with z | z
  · rw [Nat.min_eq_right (by omega), Nat.sub_self, List.take_zero, List.drop_eq_nil_of_le (by omega)]
    rfl
  · rw [Nat.min_eq_left z, List.take_of_length_le (by rw [List.length_drop, List.length_map]; omega), List.map_drop]
theorem cut_takeS (r : List Str) (k : Nat) : cutV (r.map V.str) none (some ((k : Nat) : Int)) = (r.take k).map V.str := by
  unfold cutV
  rw [HT.sIx_none, HT.sIx_nat, List.length_map, List.drop_zero, Nat.sub_zero, List.map_take]
  rcases Nat.lt_or_ge r.length k with z | z
  · rw [Nat.min_eq_right (by omega), List.take_of_length_le (by rw [List.length_map]; omega), List.take_of_length_le (by rw [List.length_map]; omega)]
  · rw [Nat.min_eq_left z]
theorem fits {a b : Str} (h : a.length + b.length ≤ 100000) : (a ++ b).length ≤ sizeLine := by
  rw [str_len_cat, PySem.sizeLine_eq]; omega
/-- a short text of plain signs -/
structure TxOk (x : Str) : Prop where
  n : x.length ≤ 1000
  c : ∀ c ∈ x.cps.toList, c < 128
theorem TxOk.repr {x : Str} (h : TxOk x) : (reprText x).length ≤ 10002 := by
  have := StrLaws.reprText_len x fun c hc => Nat.lt_of_lt_of_le (h.c c hc) (by decide)
  have := h.n
  omega
theorem part_ok {x y : Str} (h : TxOk x) (hy : y ∈ Txt.split x BL) : TxOk y := by
  have h1 := StrLaws.join_split x BL
  refine ⟨Nat.le_trans (PyProof.Rows.part_short hy) h.n, fun c hc => ?_⟩
  cases e : Txt.split x BL with
  | nil => rw [e] at hy; cases hy
  | cons a r =>
    rw [e] at h1 hy
    refine h.c c ?_
    rw [← h1, join_list]
    rcases List.mem_cons.mp hy with z | z
    · rw [← z]; exact List.mem_append_left _ hc
    · exact List.mem_append_right _ (List.mem_flatMap.mpr ⟨y, z, List.mem_cons_of_mem _ hc⟩)
abbrev sRR : Stmt := top 13
theorem scRR : FnScope ["text", "pieces", "signs", "sign"] ["text"] (defScope sRR) := ⟨rfl, rfl, rfl, by decide +kernel, rfl, by decide +kernel, by decide +kernel⟩
def spRR (C : Addr) : Sp := fun vs H Q E => ∃ (x : Str), vs = [.str x] ∧ TxOk x ∧ (∀ p, parse x = some p → ∀ t b H', Same H H' → H t = none → H b = none → H' t = some (.tup [.str p.1, .ref b]) → StrsAt H' b p.2 → Q (.ref t) H') ∧ (parse x = none → ∀ H', Same H H' → E (.ref C) none H')
section
variable {P : Program} {w : World} {K : PySem.W.Frag} {mg : Str → Option Value} {base : Heap}
theorem ok_rr {f C : Addr} {fd : FuncData} (F : Fun K "read_row" "read_row" sRR f fd) (T : Txt mg) (O : Own9 mg) (hz : PySem.W.excIn K C bmV nwV = true) (hNR : mg "NoRow" = some (.ref C)) (D1 : Def P w K mg base "is_sign" 1 ["text"] spSign) : FnOk P w K mg base (CXW P w) 2 f fd ["text"] (spRR C) := by
  obtain ⟨uM, hM, rM⟩ := O.mar
  refine F.okW scRR (fun vs H Q E h => ?_) (fun cdv A outer s H vs Q E hr h => ?_)
  · obtain ⟨x, rfl, _⟩ := h
    rfl
  · obtain ⟨x, rfl, hx, kq, ke⟩ := h
    refine ⟨_, pss_mid (ps_set (i := 1) scRR.nd rfl (Or.inl rfl) (pe_bm1 PySem.F.plainAttrs_str PySem.F.slot_str_split PySem.F.type_str_split mt_split (pv 0) (pa_c pe_str pa_nil)))
      (pss_mid (ps_if (PW.pt (pw_or (pt_cmpR op_lt (pe_callB call_len_seq (by rfl) T.len PySem.boot_len (pa_c (pv 1) pa_nil)) pe_int (nomark _)) (pw_or1 (pt_cmpR op_ne (pe_ix ix_list (pv 1) pe_int (fun _ _ => rfl)) (pe_glob (by rfl) (by exact hM) (by exact rM)) (nomark _)))))
        (pss_one (ps_raise PySem.F.excBase_ValueError hz hNR (by rfl) (pa_c (pe_fstr (.cons (pe_repr (pv 0)) (.cons pe_str (.cons (pe_repr (pe_glob (by rfl) (by exact hM) (by exact rM))) (.cons pe_str .nil))))) pa_nil))) pss_nil)
      (pss_mid (ps_set (i := 2) scRR.nd rfl (Or.inl rfl) (pe_op op_cat (pe_slice sl_list (pv 1) po_none (po_some pe_int)) (pe_slice sl_list (pv 1) (po_some pe_int) po_none)))
      (pss_mid (ps_for PassesOwn.leaving rfl (pi_list (pv 2)) (pg_name (i := 3) scRR.nd rfl (Or.inl rfl))
        (pss_one (ps_if (pt_not (pt_val (pe_def D1 hr (by rfl) (pa_c (pv 3) pa_nil))))
          (pss_one (ps_raise PySem.F.excBase_ValueError hz hNR (by rfl) (pa_c (pe_fstr (.cons (pe_repr (pv 3)) (.cons pe_str (.cons (pe_repr (pv 0)) (.cons pe_str .nil))))) pa_nil))) pss_nil)))
      (pss_one (ps_ret (pe_tup (pa_c (pe_ix ix_list (pv 2) pe_int (fun _ _ => rfl)) (pa_c (pe_slice sl_list (pv 2) (po_some pe_int) po_none) pa_nil)))))))), ?_⟩
    have hBL1 : (BL.length == 0) = false := by decide +kernel
    have hsl := split_len x
    have hx1 := hx.n
    have rx := hx.repr
    have rM' : (reprText MK).length ≤ 10002 := TxOk.repr ⟨by decide +kernel, by decide +kernel⟩
    have e0 : Str.empty.length = 0 := rfl
    have e1 : (Str.ofString " has no ").length = 8 := by decide +kernel
    have e2 : (Str.ofString " behind its first sign").length = 22 := by decide +kernel
    have e3 : (Str.ofString " in ").length = 4 := by decide +kernel
    have e4 : (Str.ofString " is no sign").length = 11 := by decide +kernel
    generalize hps : Txt.split x BL = ps at hsl
    have hpk : ∀ y ∈ ps, TxOk y := fun y hy => part_ok hx (by rw [hps]; exact hy)
    -- pieces
    refine ⟨fun σ H1 => ∃ q, σ = [some (.str x), some (.ref q), none, none] ∧ Same H H1 ∧ StrsAt H1 q ps, ?_, ?_⟩
    · refine ⟨_, rfl, rfl, x, BL, rfl, rfl, hBL1, big_line (by omega), by rw [hps]; exact big_line (by omega), fun p hp => ?_⟩
      rw [hps]
      exact ⟨p, rfl, Same.upd hp, upd_same⟩
    rintro σ H1 ⟨q, rfl, s1, hq1⟩
    have hq1' : H1 q = some (.lst (ps.map V.str)) := hq1
    -- no mark
    have raise1 : parse x = none → tRaise (.ref C) E (tCons (tJs [fun σ H Q => tVar 0 σ H fun v H1 => ∃ x, v = .str x ∧ (reprText x).length ≤ sizeLine ∧ Q (.str (reprText x)) H1, tC (.str " has no "), fun σ H Q => tC (.str MK) σ H fun v H1 => ∃ x, v = .str x ∧ (reprText x).length ≤ sizeLine ∧ Q (.str (reprText x)) H1, tC (.str " behind its first sign")] Str.empty) tNil)
        { nx := fun σ H2 => ∃ b r a, ps = a :: b :: r ∧ b = MK ∧ σ = [some (.str x), some (.ref q), none, none] ∧ H2 = H1, rt := Q } [some (.str x), some (.ref q), none, none] H1 := fun hn => by
      refine ⟨_, rfl, x, rfl, big_line (by omega), _, rfl, fits ?_, _, rfl, fits ?_, _, rfl, big_line (by omega), _, rfl, fits ?_, _, rfl, fits ?_, ?_, (show 1 ≤ 1000 by decide), ke hn H1 s1⟩
      all_goals (first | rw [PySem.sizeLine_eq] | skip)
      all_goals (simp only [str_len_cat, e0, e1, e2]; omega)
    refine ⟨fun σ H2 => ∃ b r a, ps = a :: b :: r ∧ b = MK ∧ σ = [some (.str x), some (.ref q), none, none] ∧ H2 = H1, ?_, ?_⟩
    · refine ⟨_, rfl, q, _, rfl, .inl (SqL.of hq1'), _, _, rfl, rfl, _, rfl, ?_⟩
      rw [List.length_map]
      by_cases hl : ps.length < 2
      · rw [decide_eq_true (by omega)]
        refine iteT (iteT (raise1 ?_))
        unfold parse
        rw [hps]
        rcases ps with _ | ⟨a, _ | ⟨b, r⟩⟩
        · rfl
        · rfl
        · simp at hl; omega
      · rw [decide_eq_false (by omega)]
        refine iteF ?_
        obtain ⟨a, b, r, rfl⟩ : ∃ a b r, ps = a :: b :: r := by
          rcases ps with _ | ⟨a, _ | ⟨b, r⟩⟩
          · simp at hl
          · simp at hl
          · exact ⟨a, b, r, rfl⟩
        refine ⟨_, rfl, q, _, 1, _, rfl, rfl, SqL.of hq1', atI_nat (j := 1) rfl, rfl, _, rfl, ?_⟩
        by_cases hb : b = MK
        · rw [show decide (V.str b = V.str MK) = true from decide_eq_true (by rw [hb])]
          exact iteF ⟨b, r, a, rfl, hb, rfl, rfl⟩
        · rw [show decide (V.str b = V.str MK) = false from decide_eq_false fun z => hb (by injection z)]
          refine iteT (raise1 ?_)
          unfold parse
          rw [hps]
          dsimp only
          rw [if_neg fun z => hb z.1]
    rintro σ H2 ⟨b, r, a, rfl, rfl, rfl, rfl⟩
    -- signs
    have hpar : parse x = if (a :: r).all Sg = true then some (a, r) else none := by
      unfold parse
      rw [hps]
      dsimp only
      by_cases z : (a :: r).all Sg = true
      · rw [if_pos z, if_pos ⟨rfl, z⟩]
      · rw [if_neg z, if_neg fun y => z y.2]
    have hsg : ∀ y ∈ a :: r, TxOk y := fun y hy => hpk y (by
      rcases List.mem_cons.mp hy with e | e
      · rw [e]; exact List.mem_cons_self ..
      · exact List.mem_cons_of_mem _ (List.mem_cons_of_mem _ e))
    have hrl : r.length ≤ 1000 := by
      rw [List.length_cons, List.length_cons] at hsl
      omega
    refine ⟨fun σ H3 => ∃ g, σ = [some (.str x), some (.ref q), some (.ref g), none] ∧ Same H H3 ∧ StrsAt H3 g (a :: r), ?_, ?_⟩
    · refine ⟨_, rfl, 1, rfl, q, _, rfl, SqL.of hq1', fun p1 hp1 => ?_⟩
      have c1 : cutV ((a :: MK :: r).map V.str) none (some 1) = [a].map V.str := cut_takeS (a :: MK :: r) 1
      rw [c1]
      have sp1 := Same.upd (o := HO.lst ([a].map V.str)) hp1
      refine ⟨_, rfl, 2, rfl, q, _, rfl, SqL.of (sp1 _ _ hq1'), fun p2 hp2 => ?_⟩
      have c2 : cutV ((a :: MK :: r).map V.str) (some 2) none = r.map V.str := cut_dropS (a :: MK :: r) 2
      rw [c2]
      have sp2 := Same.upd (o := HO.lst (r.map V.str)) hp2
      refine ⟨p1, p2, _, _, rfl, rfl, sp2 _ _ upd_same, upd_same, ?_, fun p3 hp3 => ?_⟩
      · rw [List.length_map]
        exact big_line (by simp; omega)
      · exact ⟨p3, rfl, ((s1.trans sp1).trans sp2).trans (Same.upd hp3), by unfold StrsAt; rw [upd_same]; rfl⟩
    rintro σ H3 ⟨g, rfl, s3, hg3⟩
    -- each one
    refine ⟨fun σ H4 => (∃ o, σ = [some (.str x), some (.ref q), some (.ref g), o]) ∧ Same H3 H4 ∧ (a :: r).all Sg = true, ?_, ?_⟩
    · refine ⟨_, rfl, g, rfl, ⟨_, SqL.of hg3⟩, for_list (K := K) (a := g) (xs := (a :: r).map V.str)
        (fun i σ H4 => (∃ o, σ = [some (.str x), some (.ref q), some (.ref g), o]) ∧ Same H3 H4 ∧ ∀ s ∈ (a :: r).take i, Sg s = true) ⟨⟨_, rfl⟩, fun _ _ z => z, fun s hs => (by cases hs)⟩ ?_ ?_ ?_⟩
      · rintro i σ H4 _ ⟨_, s4, _⟩
        exact SqL.of (s4 _ _ hg3)
      · rintro i y σ H4 hy ⟨⟨o, rfl⟩, s4, hall⟩
        obtain ⟨z, hz', rfl⟩ := strs_get hy
        have hzm : z ∈ a :: r := List.mem_of_getElem? hz'
        have hzo := hsg z hzm
        have rz := hzo.repr
        refine ⟨_, rfl, z, rfl, hzo.n, fun H5 s5 => ⟨_, rfl, ?_⟩⟩
        by_cases hs : Sg z = true
        · rw [hs]
          refine iteF ⟨⟨_, rfl⟩, s4.trans s5, fun s hs' => ?_⟩
          rw [List.take_succ, hz'] at hs'
          rcases List.mem_append.mp hs' with e | e
          · exact hall s e
          · have : s = z := by simpa using e
            rw [this]; exact hs
        · have hs0 : Sg z = false := by cases h : Sg z with | false => rfl | true => exact absurd h hs
          rw [hs0]
          have hn : parse x = none := by
            rw [hpar, if_neg fun y => hs (List.all_eq_true.mp y z hzm)]
          refine iteT ⟨_, rfl, z, rfl, big_line (by omega), _, rfl, fits ?_, _, rfl, fits ?_, _, rfl, x, rfl, big_line (by omega), _, rfl, fits ?_, _, rfl, fits ?_, ?_, (show 1 ≤ 1000 by decide), ke hn H5 ((s3.trans s4).trans s5)⟩
          all_goals (first | rw [PySem.sizeLine_eq] | skip)
          all_goals (simp only [str_len_cat, e0, e3, e4]; omega)
      · rintro σ H4 ⟨⟨o, rfl⟩, s4, hall⟩
        rw [List.length_map, List.take_length] at hall
        exact ⟨⟨_, rfl⟩, s4, List.all_eq_true.mpr hall⟩
    rintro σ H4 ⟨⟨o, rfl⟩, s4, hall⟩
    have hg4 : H4 g = some (.lst ((a :: r).map V.str)) := s4 _ _ hg3
    have hsome : parse x = some (a, r) := by rw [hpar, if_pos hall]
    refine ⟨_, rfl, g, _, 0, _, rfl, rfl, SqL.of hg4, atI_nat (j := 0) rfl, _, rfl, 1, rfl, g, _, rfl, SqL.of hg4, fun p1 hp1 => ?_⟩
    have c3 : cutV ((a :: r).map V.str) (some 1) none = r.map V.str := cut_dropS (a :: r) 1
    rw [c3]
    refine ⟨(show 2 ≤ sizeLine by decide), fun t ht => ?_⟩
    have sp1 := Same.upd (o := HO.lst (r.map V.str)) hp1
    have st := Same.upd (o := HO.tup [V.str a, V.ref p1]) ht
    have s34 := s3.trans s4
    exact kq _ hsome t p1 _ (s34.trans (sp1.trans st)) (s34.free (sp1.free ht)) (s34.free hp1) upd_same (st _ _ upd_same)
end
end Nw
namespace Nw
open PySem L2 Nt
abbrev sRRs : Stmt := top 12
theorem scRRs : FnScope ["texts"] ["texts"] (defScope sRRs) := ⟨rfl, rfl, rfl, by decide +kernel, rfl, by decide +kernel, by decide +kernel⟩
/-- rows whose lists are new -/
def RowsN (H0 H : Hp) (q : Addr) (R : List Row) : Prop := ∃ us, H q = some (.lst us) ∧ Paired (fun v p => ∃ t b, v = .ref t ∧ H t = some (.tup [.str p.1, .ref b]) ∧ StrsAt H b p.2 ∧ H0 b = none) us R
theorem RowsN.at {H0 H : Hp} {q : Addr} {R : List Row} (h : RowsN H0 H q R) : RowsAt H q R := by
  obtain ⟨us, h1, h2⟩ := h
  exact ⟨us, h1, Paired.mapP h2 fun _ _ ⟨t, b, e1, e2, e3, _⟩ => ⟨t, b, e1, e2, e3⟩⟩
theorem RowsN.mono {H0 H H' : Hp} {q : Addr} {R : List Row} (h : RowsN H0 H q R) (s : Same H H') : RowsN H0 H' q R := by
  obtain ⟨us, h1, h2⟩ := h
  exact ⟨us, s _ _ h1, Paired.mapP h2 fun _ _ ⟨t, b, e1, e2, e3, e4⟩ => ⟨t, b, e1, s _ _ e2, s _ _ e3, e4⟩⟩
/-- a list of long ago is written -/
theorem RowsN.upd {H0 H : Hp} {q l : Addr} {R : List Row} {xs ys : List V} (h : RowsN H0 H q R) (hq : H0 q = none) (hl0 : H0 l = some (.lst xs)) (hl : ∃ zs, H l = some (.lst zs)) : RowsN H0 (upd H l (.lst ys)) q R := by
  obtain ⟨us, h1, h2⟩ := h
  obtain ⟨zs, hl⟩ := hl
  have ne : ∀ b, H0 b = none → b ≠ l := fun b e z => by rw [z, hl0] at e; cases e
  refine ⟨us, by rw [upd_ne (ne q hq)]; exact h1, Paired.mapP h2 fun _ _ ⟨t, b, e1, e2, e3, e4⟩ => ⟨t, b, e1, ?_, ?_, e4⟩⟩
  · rw [upd_ne fun z => by rw [z, hl] at e2; cases e2]; exact e2
  · unfold StrsAt; rw [upd_ne (ne b e4)]; exact e3
def spRRs (C : Addr) : Sp := fun vs H Q E => ∃ (a : Addr) (ts : List Str), vs = [.ref a] ∧ StrsAt H a ts ∧ ts.length ≤ 60 ∧ (∀ x ∈ ts, TxOk x) ∧ (∀ R, ts.map parse = R.map some → ∀ q H', Same H H' → H q = none → RowsN H H' q R → Q (.ref q) H') ∧ ((∃ x ∈ ts, parse x = none) → ∀ H', Same H H' → E (.ref C) none H')
section
variable {P : Program} {w : World} {K : PySem.W.Frag} {mg : Str → Option Value} {base : Heap}
theorem ok_rrs {f C : Addr} {fd : FuncData} (F : Fun K "read_rows" "read_rows" sRRs f fd) (D1 : DefW P w K mg base "read_row" 2 ["text"] (spRR C)) : FnOk P w K mg base (CXW P w) 3 f fd ["texts"] (spRRs C) := by
  obtain ⟨f1, fd1, hm1, hk1, F1, hb1⟩ := D1.ex
  refine F.okW scRRs (fun vs H Q E h => ?_) (fun cdv A outer s H vs Q E hr h => ?_)
  · obtain ⟨a, ts, rfl, _⟩ := h
    rfl
  · obtain ⟨a, ts, rfl, hT, hn, hx, kq, ke⟩ := h
    refine ⟨_, pss_one (ps_ret (pe_compW (g := gName 0) (te := tCall (spRR C) [] E (tCons (tVar 0) tNil)) (CompIn.freeG (N := ["text"]) (sel := [none]) [] (by rfl) (by rfl) (by rfl) (by decide) (by decide) (by intro x hx; cases hx) (by intro y hy; cases hy) (by rfl) ?c6) (pi_list (pv 0))
      (fun s₃ H₃ fp We => pg_name (i := 0) (show (["text"] : List Str).Nodup by decide) rfl (Or.inl rfl)) (fun s₃ H₃ fp We => pif_nil)
      (fun s₃ H₃ fp We hp => pe_call F1 hr (by rfl) hm1 hk1 hb1 .nil hp (pa_c (pv 0) pa_nil)))), ?_⟩
    case c6 =>
      intro j i h
      rcases j with _ | j
      · cases h
      · cases h
    have hT : H a = some (.lst (ts.map V.str)) := hT
    refine ⟨_, rfl, a, rfl, ⟨_, SqL.of hT⟩, fun D hD => comp_list1 (K := K) (xs := ts.map V.str) (fun i τ H1 => (∃ o, τ = [o]) ∧ Same H H1 ∧ ∃ us R, RowsB H1 D us R ∧ (∀ v ∈ us, ∃ t b l, v = .ref t ∧ H1 t = some (.tup [.str l, .ref b]) ∧ H b = none) ∧ (ts.take i).map parse = R.map some) ⟨⟨_, rfl⟩, Same.upd hD, [], [], RowsB.nil, (fun v hv => by cases hv), rfl⟩ ?_ ?_ ?_⟩
    · rintro i τ H1 ⟨_, s1, _⟩
      exact SqL.of (s1 _ _ hT)
    · rintro i y τ H1 hy ⟨⟨o, rfl⟩, s1, us, R, rb, hfr, hpr⟩
      obtain ⟨x, hxi, rfl⟩ := strs_get hy
      have hxm : x ∈ ts := List.mem_of_getElem? hxi
      refine ⟨_, rfl, x, rfl, hx x hxm, fun p hp t b H2 s2 nt nb ht hb => ?_, fun hnn H2 s2 => ke ⟨x, hxm, hnn⟩ H2 (s1.trans s2)⟩
      have rb' := rb.mono s2
      have hbD : b ≠ D := Ne.symm (ne_of_none rb.at_ nb)
      have hil : i < ts.length := (List.getElem?_eq_some_iff.mp hxi).1
      have hus : us.length = R.length := Paired.length rb.pr
      have hRl : R.length = (ts.take i).length := by
        have := congrArg List.length hpr
        rw [List.length_map, List.length_map] at this
        exact this.symm
      rw [List.length_take] at hRl
      refine ⟨us, rb'.at_, small1000 (by omega), ⟨_, rfl⟩, (s1.trans s2).updS hD, us ++ [.ref t], R ++ [(p.1, p.2)], rb'.snoc ht hb hbD, fun v hv => ?_, ?_⟩
      · have nt' : ∀ {t' : Addr} {xs : List V}, H2 t' = some (.tup xs) → t' ≠ D := fun {t' xs} e z => by rw [z, rb'.at_] at e; cases e
        rcases List.mem_append.mp hv with z | z
        · obtain ⟨t', b', l', e1, e2, e3⟩ := hfr v z
          exact ⟨t', b', l', e1, by rw [upd_ne (nt' (s2 _ _ e2))]; exact s2 _ _ e2, e3⟩
        · rw [List.mem_singleton.mp z]
          exact ⟨t, b, _, rfl, by rw [upd_ne (nt' ht)]; exact ht, s1.free nb⟩
      rw [List.take_succ, hxi, List.map_append, hpr, List.map_append]
      show _ ++ [parse x] = _ ++ [some (p.1, p.2)]
      rw [hp]
    · rintro τ H1 ⟨_, s1, us, R, rb, hfr, hpr⟩
      rw [List.length_map, List.take_length] at hpr
      refine kq R hpr D H1 s1 hD ⟨us, rb.at_, pmapM rb.pr fun v p hv ⟨t, b, e1, e2, e3⟩ => ⟨t, b, e1, e2, e3, ?_⟩⟩
      obtain ⟨t', b', l', e1', e2', e3'⟩ := hfr v hv
      rw [e1] at e1'; cases e1'
      rw [e2] at e2'; cases e2'
      exact e3'
end
end Nw
namespace Nw
open PySem L2 Nt
abbrev sAt : Stmt := top 15
theorem scAt : FnScope ["_law_script", "_law_k"] ["_law_script", "_law_k"] (defScope sAt) := ⟨rfl, rfl, rfl, by decide +kernel, rfl, by decide +kernel, by decide +kernel⟩
def spAt (K : PySem.W.Frag) : Sp := fun vs H Q _ => ∃ (a : Addr) (ns : List Int) (k : Nat), vs = [.ref a, .int (k : Int)] ∧ SqL K H a (ns.map V.int) ∧ ∀ c : Int, Q (.int c) H
abbrev sAny : Stmt := top 17
theorem scAny : FnScope ["_law_cell", "_law_left", "_law_word"] ["_law_cell"] (defScope sAny) := ⟨rfl, rfl, rfl, by decide +kernel, rfl, by decide +kernel, by decide +kernel⟩
def spAny : Sp := fun vs H Q _ => ∃ (c : Int), vs = [.int c] ∧ ∀ z : Str, z.length ≤ 40 → Sg z = true → Q (.str z) H
theorem boot_abs : bootBuiltins "abs" = some (.builtin "abs") := by decide +kernel
theorem at_mod {α : Type} {xs : List α} {n : Int} (hn : n = (xs.length : Int)) (h0 : 0 < n) (c : Int) : ∃ (j : Nat) (v : α), xs[j]? = some v ∧ c % n = (j : Int) ∧ atI xs (c % n) = some v := by
  have h1 := Int.emod_nonneg c (Int.ne_of_gt h0)
  have h2 := Int.emod_lt_of_pos c h0
  obtain ⟨j, hj⟩ := Int.eq_ofNat_of_zero_le h1
  have hjl : j < xs.length := by omega
  have hg : xs[j]? = some xs[j] := List.getElem?_eq_getElem hjl
  exact ⟨j, xs[j], hg, hj, by rw [hj]; exact atI_nat hg⟩
theorem pow_step {l : Int} {e : Nat} (h0 : 0 ≤ l) (h : l < 26 ^ e) (h1 : 0 ≤ l / 26 - 1) : ∃ e', e = e' + 1 ∧ l / 26 - 1 < 26 ^ e' := by
  cases e with
  | zero => simp at h; omega
  | succ e =>
    refine ⟨e, rfl, ?_⟩
    rw [Int.pow_succ] at h
    generalize (26 : Int) ^ e = p at *
    omega
theorem abc_let : ∀ c ∈ (Str.ofString "abcdefghijklmnopqrstuvwxyz").cps.toList, isLet c = true := by decide +kernel
theorem cons_toList (c : Nat) (z : Str) : ((⟨#[c]⟩ : Str) ++ z).cps.toList = c :: z.cps.toList := by
  show ((#[c] : Array Nat) ++ z.cps).toList = _
  simp
theorem sg_of {z : Str} (h1 : 1 ≤ z.length) (h2 : ∀ c ∈ z.cps.toList, isLet c = true) : Sg z = true := by
  unfold Sg
  rw [decide_eq_false (by omega)]
  exact List.all_eq_true.mpr h2
section
variable {P : Program} {w : World} {K : PySem.W.Frag} {mg : Str → Option Value} {base : Heap}
theorem ok_at {f : Addr} {fd : FuncData} (F : Fun K "_law_at" "_law_at" sAt f fd) (T : Txt mg) : FnOk P w K mg base CX0 1 f fd ["_law_script", "_law_k"] (spAt K) := by
  refine F.ok scAt (fun vs H Q E h => ?_) (fun cdv A outer s H vs Q E hr h => ?_)
  · obtain ⟨a, ns, k, rfl, _⟩ := h
    rfl
  · obtain ⟨a, ns, j, rfl, hS, k⟩ := h
    refine ⟨_, pss_cons (ps_if (pt_cmpR op_lt (pv 1) (pe_callB call_len_seq (by rfl) T.len PySem.boot_len (pa_cons (pv 0) pa_nil)) (nomark _)) (pss_one (ps_ret (pe_ix ix_list (pv 0) (pv 1) (fun _ _ => rfl)))) pss_nil) (pss_one (ps_ret pe_int)), ?_⟩
    refine ⟨_, rfl, _, rfl, a, _, rfl, .inl hS, _, _, rfl, rfl, _, rfl, ?_⟩
    rw [List.length_map]
    by_cases hl : j < ns.length
    · rw [decide_eq_true (by omega)]
      have hg : (ns.map V.int)[j]? = some (V.int ns[j]) := by rw [List.getElem?_map, List.getElem?_eq_getElem hl]; rfl
      exact iteT ⟨_, rfl, _, rfl, a, _, _, _, rfl, rfl, hS, atI_nat hg, k _⟩
    · rw [decide_eq_false (by omega)]
      exact iteF (k 0)
theorem ok_any {f : Addr} {fd : FuncData} (F : Fun K "_law_any_word" "_law_any_word" sAny f fd) (T : Txt mg) : FnOk P w K mg base CX0 1 f fd ["_law_cell"] spAny := by
  refine F.ok scAny (fun vs H Q E h => ?_) (fun cdv A outer s H vs Q E hr h => ?_)
  · obtain ⟨c, rfl, _⟩ := h
    rfl
  · obtain ⟨c, rfl, k⟩ := h
    refine ⟨_, pss_cons (ps_set (i := 1) scAny.nd rfl (Or.inl rfl) (pe_op op_mod (pe_callB call_abs (by rfl) T.abs boot_abs (pa_cons (pv 0) pa_nil)) (pe_op op_pow pe_int pe_int)))
      (pss_cons (ps_set (i := 2) scAny.nd rfl (Or.inl rfl) pe_str)
      (pss_cons (ps_while PassesOwn.never (pt_cmpR op_ge (pv 1) pe_int (nomark _))
        (pss_cons (ps_set (i := 2) scAny.nd rfl (Or.inl rfl) (pe_op op_add_str (pe_ix (r := rIxS) ix_str pe_str (pe_op op_mod (pv 1) pe_int) (fun _ _ => rfl)) (pv 2)))
        (pss_one (ps_set (i := 1) scAny.nd rfl (Or.inl rfl) (pe_op op_sub (pe_op op_fdiv (pv 1) pe_int) pe_int)))))
      (pss_one (ps_ret (pv 2))))), ?_⟩
    refine ⟨_, rfl, c, rfl, _, _, rfl, rfl, ⟨by decide, by decide, by decide⟩, _, _, rfl, rfl, (show (0 : Int) < (10 : Int) ^ (39 : Int).toNat by decide +kernel), ?_⟩
    show tSeq _ _ _ _ _
    dsimp only
    generalize hn : (if c < 0 then -c else c) = n
    have b0 := Int.emod_nonneg n (show (10 : Int) ^ (39 : Int).toNat ≠ 0 by decide +kernel)
    have b1 := Int.emod_lt_of_pos n (show (0 : Int) < (10 : Int) ^ (39 : Int).toNat by decide +kernel)
    have b2 : (10 : Int) ^ (39 : Int).toNat < 26 ^ 28 := by decide +kernel
    generalize n % (10 : Int) ^ (39 : Int).toNat = l0 at b0 b1
    refine ⟨fun m σ H1 => ∃ (l : Int) (z : Str), σ = [some (.int c), some (.int l), some (.str z)] ∧ H1 = H ∧ m = (l + 1).toNat ∧ (∀ c ∈ z.cps.toList, isLet c = true) ∧ ((l < 0 ∧ z.length ≤ 30 ∧ 1 ≤ z.length) ∨ (0 ≤ l ∧ ∃ e, l < 26 ^ e ∧ z.length + e ≤ 29)),
      ⟨_, l0, "", rfl, rfl, rfl, (by decide +kernel), .inr ⟨b0, 28, Int.lt_trans b1 b2, by decide⟩⟩, ?_⟩
    rintro m σ H1 ⟨l, z, rfl, rfl, rfl, hlet, alt⟩
    refine ⟨_, rfl, _, _, rfl, rfl, _, rfl, ?_⟩
    by_cases hl : 0 ≤ l
    · rw [decide_eq_true hl]
      obtain ⟨_, e, he, hz⟩ := alt.resolve_left fun q => by omega
      refine iteT ⟨fun σ H2 => ∃ (l' : Int) (z' : Str), σ = [some (.int c), some (.int l'), some (.str z')] ∧ H2 = H1 ∧ l' < l ∧ (∀ c ∈ z'.cps.toList, isLet c = true) ∧ ((l' < 0 ∧ z'.length ≤ 30 ∧ 1 ≤ z'.length) ∨ (0 ≤ l' ∧ ∃ e, l' < 26 ^ e ∧ z'.length + e ≤ 29)), ?_, ?_⟩
      · rintro σ' H2 ⟨l', z', rfl, rfl, q1, q0, q2⟩
        exact ⟨_, by omega, l', z', rfl, rfl, rfl, q0, q2⟩
      · obtain ⟨j, ch, hj, _, hat⟩ := at_mod (xs := (Str.ofString "abcdefghijklmnopqrstuvwxyz").cps.toList) (n := 26) (by decide +kernel) (by decide) l
        have hlen : ((⟨#[ch]⟩ : Str) ++ z).length = 1 + z.length := str_len_cat _ _
        have hlet' : ∀ c ∈ ((⟨#[ch]⟩ : Str) ++ z).cps.toList, isLet c = true := fun c hc => by
          rw [cons_toList] at hc
          rcases List.mem_cons.mp hc with e | e
          · rw [e]; exact abc_let ch (List.mem_of_getElem? hj)
          · exact hlet c e
        refine ⟨_, rfl, _, _, rfl, rfl, (show (0 : Int) < 26 by decide), _, _, ch, rfl, rfl, by decide +kernel, hat, _, rfl, _, _, rfl, rfl, ?_, ?_⟩
        · show 1 + z.length ≤ _
          exact big_line (by omega)
        refine ⟨_, rfl, _, _, rfl, rfl, ⟨by decide, by decide⟩, _, _, rfl, rfl, l / 26 - 1, _, rfl, rfl, by omega, hlet', ?_⟩
        rcases Int.lt_or_le (l / 26 - 1) 0 with q | q
        · exact .inl ⟨q, by rw [hlen]; omega, by rw [hlen]; omega⟩
        · obtain ⟨e', rfl, h2⟩ := pow_step hl he q
          exact .inr ⟨q, e', h2, by rw [hlen]; omega⟩
    · rw [decide_eq_false hl]
      obtain ⟨_, h2, h3⟩ := alt.resolve_right fun q => by omega
      exact iteF ⟨_, rfl, k z (by omega) (sg_of h3 hlet)⟩
end
end Nw
namespace Nw
open PySem L2 Nt
abbrev sWith : Stmt := top 18
theorem scWith : FnScope ["_law_line", "_law_cell", "_law_other", "_law_signs", "_law_place"] ["_law_line", "_law_cell", "_law_other"] (defScope sWith) := ⟨rfl, rfl, rfl, by decide +kernel, rfl, by decide +kernel, by decide +kernel⟩
def spWith : Sp := fun vs H Q _ => ∃ (l : Str) (c o : Int), vs = [.str l, .int c, .int o] ∧ l.length ≤ 450 ∧ (∀ c ∈ l.cps.toList, c < 128) ∧ ∀ y, TxOk y → Q (.str y) H
theorem cat_toList (a b : Str) : (a ++ b).cps.toList = a.cps.toList ++ b.cps.toList := by
  show (a.cps ++ b.cps).toList = _
  rw [Array.toList_append]
section
variable {P : Program} {w : World} {K : PySem.W.Frag} {mg : Str → Option Value} {base : Heap}
theorem ok_with {f : Addr} {fd : FuncData} (F : Fun K "_law_with_sign" "_law_with_sign" sWith f fd) (T : Txt mg) : FnOk P w K mg base CX0 1 f fd ["_law_line", "_law_cell", "_law_other"] spWith := by
  refine F.ok scWith (fun vs H Q E h => ?_) (fun cdv A outer s H vs Q E hr h => ?_)
  · obtain ⟨l, c, o, rfl, _⟩ := h
    rfl
  · obtain ⟨l, c, o, rfl, hl, hc, k⟩ := h
    refine ⟨_, pss_cons (ps_set (i := 3) scWith.nd rfl (Or.inl rfl) pe_str)
      (pss_mid (ps_set (i := 3) scWith.nd rfl (Or.inl rfl) (pe_op op_add_str (pv 3) pe_str))
      (pss_cons (ps_set (i := 4) scWith.nd rfl (Or.inl rfl) (pe_op op_mod (pv 2) (pe_op op_add (pe_callB call_len_str (by rfl) T.len PySem.boot_len (pa_cons (pv 0) pa_nil)) pe_int)))
      (pss_one (ps_ret (pe_op op_add_str (pe_op op_add_str (pe_slice sl_str (pv 0) po_none (po_some (pv 4))) (pe_ix (r := rIxS) ix_str (pv 3) (pe_op op_mod (pv 1) (pe_callB call_len_str (by rfl) T.len PySem.boot_len (pa_cons (pv 3) pa_nil))) (fun _ _ => rfl))) (pe_slice sl_str (pv 0) (po_some (pv 4)) po_none)))))), ?_⟩
    refine ⟨fun σ H1 => ∃ S : Str, σ = [some (.str l), some (.int c), some (.int o), some (.str S), none] ∧ H1 = H ∧ 0 < S.length ∧ S.length ≤ 200 ∧ ∀ c ∈ S.cps.toList, c < 128, ?_, ?_⟩
    · refine ⟨_, rfl, _, _, rfl, rfl, by decide +kernel, _, rfl, rfl, ?_, ?_, ?_⟩
      · decide +kernel
      · decide +kernel
      · decide +kernel
    rintro σ H1 ⟨S, rfl, rfl, hS0, hS1, hS2⟩
    have hlz : l.length ≤ sizeLine := big_line (by omega)
    have hSz : S.length ≤ sizeLine := big_line (by omega)
    refine ⟨_, rfl, _, rfl, l, rfl, hlz, _, _, rfl, rfl, _, _, rfl, rfl, (show (0 : Int) < (l.length : Int) + 1 by omega), ?_⟩
    refine ⟨_, rfl, _, rfl, _, rfl, l, rfl, hlz, fun y1 h1 c1 => ?_⟩
    obtain ⟨j, ch, hj, _, hat⟩ := at_mod (xs := S.cps.toList) (n := (S.length : Int)) (by rw [Array.length_toList]; rfl) (by omega) c
    refine ⟨_, rfl, _, rfl, _, rfl, S, rfl, hSz, _, _, rfl, rfl, (show (0 : Int) < (S.length : Int) by omega), S, _, ch, rfl, rfl, hSz, hat, _, _, rfl, rfl, ?_, ?_⟩
    · show y1.length + 1 ≤ sizeLine
      exact big_line (by omega)
    refine ⟨_, rfl, _, rfl, _, rfl, l, rfl, hlz, fun y2 h2 c2 => ?_⟩
    have e1 : (y1 ++ (⟨#[ch]⟩ : Str)).length = y1.length + 1 := str_len_cat _ _
    refine ⟨_, _, rfl, rfl, ?_, k _ ⟨?_, fun d hd => ?_⟩⟩
    · rw [e1]; exact big_line (by omega)
    · rw [str_len_cat, e1]; omega
    · rw [cat_toList, cat_toList] at hd
      rcases List.mem_append.mp hd with hd | hd
      · rcases List.mem_append.mp hd with hd | hd
        · exact hc d (c1 d hd)
        · have e : d = ch := by simpa using hd
          rw [e]; exact hS2 ch (List.mem_of_getElem? hj)
      · exact hc d (c2 d hd)
end
end Nw
namespace Nw
open PySem L2 Nt
def MS : List Str := ["S", "A", "B", "a", "b", "xY", "Zz", "q"]
theorem ms_ok : ∀ s ∈ MS, Sg s = true ∧ s.length ≤ 50 := by decide +kernel
abbrev sMenu : Stmt := top 16
theorem scMenu : FnScope ["_law_cells", "_law_signs", "_law_rows", "_law_k", "_law_one", "_law_two", "_law_right"] ["_law_cells"] (defScope sMenu) := ⟨rfl, rfl, rfl, by decide +kernel, rfl, by decide +kernel, by decide +kernel⟩
def spMenu (K : PySem.W.Frag) : Sp := fun vs H Q _ => ∃ (a : Addr) (ns : List Int), vs = [.ref a] ∧ SqL K H a (ns.map V.int) ∧ ns.length ≤ 63 ∧ ∀ q us R H', Same H H' → H q = none → RowsB H' q us R → R.length ≤ 31 → (∀ p ∈ R, RowOk p) → Q (.ref q) H'
section
variable {P : Program} {w : World} {K : PySem.W.Frag} {mg : Str → Option Value} {base : Heap}
theorem ok_menu {f : Addr} {fd : FuncData} (F : Fun K "_law_menu_rows" "_law_menu_rows" sMenu f fd) (T : Txt mg) : FnOk P w K mg base CX0 1 f fd ["_law_cells"] (spMenu K) := by
  refine F.ok scMenu (fun vs H Q E h => ?_) (fun cdv A outer s H vs Q E hr h => ?_)
  · obtain ⟨a, ns, rfl, _⟩ := h
    rfl
  · obtain ⟨a, ns, rfl, hS, hl, k⟩ := h
    refine exI ⟨_, iss_mid (is_set (i := 1) scMenu.nd rfl (Or.inr rfl) ie_lst8)
      (.of (pss_mid (ps_set (i := 2) scMenu.nd rfl (Or.inl rfl) (pe_lst pa_nil))
      (pss_cons (ps_for PassesOwn.never rfl (pi_range1 (by rfl) T.rng (pa_c (pe_op op_fdiv (pe_callB call_len_seq (by rfl) T.len PySem.boot_len (pa_c (pv 0) pa_nil)) pe_int) pa_nil)) (pg_name (i := 3) scMenu.nd rfl (Or.inl rfl))
        (pss_mid (ps_set (i := 4) scMenu.nd rfl (Or.inl rfl) (pe_ix ix_list (pv 0) (pe_op op_mul pe_int (pv 3)) (fun _ _ => rfl)))
        (pss_mid (ps_set (i := 5) scMenu.nd rfl (Or.inr rfl) (pe_ix ix_list (pv 0) (pe_op op_add (pe_op op_mul pe_int (pv 3)) pe_int) (fun _ _ => rfl)))
        (pss_mid (ps_setcomp (k := 6) (CompIn.freeG (N := ["_law_j", "_law_signs", "_law_two"]) (sel := [none, some 1, some 5]) ["_law_signs", "_law_two"] (by rfl) (by rfl) (by rfl) ?c1 ?c2 ?c3 ?c4 (by rfl) ?c5) rfl scMenu.nd rfl (Or.inl rfl) (pi_range1 (by rfl) T.rng (pa_c (pe_op op_mod (pv 5) pe_int) pa_nil))
          (fun s₃ H₃ fp => pg_name (i := 0) (show (["_law_j", "_law_signs", "_law_two"] : List Str).Nodup by decide) rfl (Or.inl rfl)) (fun s₃ H₃ fp => pif_nil)
          (fun s₃ H₃ fp => pe_ix (r := rIxL K) ix_list (pv 1) (pe_op op_mod (pe_op op_add (pe_op op_fdiv (pv 2) pe_int) (pe_op op_mul pe_int (pv 0))) pe_int) (fun _ _ => rfl)))
        (pss_one (ps_expr (pe_bm1 PySem.F.plainAttrs_list PySem.F.slot_list_append PySem.F.type_list_append mt_append (pv 2) (pa_c (pe_tup (pa_c (pe_ix ix_list (pv 1) (pe_op op_mod (pv 4) pe_int) (fun _ _ => rfl)) (pa_c (pv 6) pa_nil))) pa_nil))))))))
      (pss_one (ps_ret (pv 2)))))), ?_⟩
    case c1 => decide
    case c2 => decide
    case c3 =>
      intro x hx
      rcases List.mem_cons.mp hx with rfl | hx
      · exact ⟨rfl, rfl, _, rfl, rfl⟩
      · rcases List.mem_cons.mp hx with rfl | hx
        · exact ⟨rfl, rfl, _, rfl, rfl⟩
        · cases hx
    case c4 =>
      intro y hy
      rcases List.mem_cons.mp hy with rfl | hy
      · exact List.mem_cons_of_mem _ (List.mem_cons_self ..)
      · rcases List.mem_cons.mp hy with rfl | hy
        · exact List.mem_cons_self ..
        · cases hy
    case c5 =>
      intro j i h
      rcases j with _ | _ | _ | j
      · cases h
      · cases h; exact ⟨"_law_signs", List.mem_cons_self .., rfl, rfl⟩
      · cases h; exact ⟨"_law_two", List.mem_cons_of_mem _ (List.mem_cons_self ..), rfl, rfl⟩
      · cases h
    refine ⟨fun σ H1 => ∃ g, σ = [some (.ref a), some (.ref g), none, none, none, none, none] ∧ Same H H1 ∧ H1 g = some (.lst (MS.map V.str)), ?_, ?_⟩
    · exact ⟨(show 8 ≤ sizeLine by decide), fun g hg => ⟨g, rfl, Same.upd hg, upd_same⟩⟩
    rintro σ H1 ⟨g, rfl, s1, hg1⟩
    refine ⟨fun σ H2 => ∃ q, σ = [some (.ref a), some (.ref g), some (.ref q), none, none, none, none] ∧ H1 q = none ∧ H2 = upd H1 q (.lst []), ?_, ?_⟩
    · exact ⟨(show 0 ≤ sizeLine by decide), fun q hq => ⟨q, rfl, hq, rfl⟩⟩
    rintro σ H2 ⟨q, rfl, hq, rfl⟩
    have hqH : H q = none := s1.free hq
    have s2 := Same.upd (o := HO.lst []) hq
    have hS2 := (s1.trans s2).seq hS
    have hlm : (ns.map V.int).length = ns.length := List.length_map ..
    refine ⟨_, rfl, a, _, rfl, .inl hS2, _, _, rfl, rfl, ⟨by decide, by decide⟩, _, rfl, ?_, ?_, for_range (n := ((((ns.map V.int).length : Nat) : Int) / 2).toNat)
      (fun i σ H3 => ∃ us R o1 o2 o3 o4, σ = [some (.ref a), some (.ref g), some (.ref q), o1, o2, o3, o4] ∧ Same H1 H3 ∧ RowsB H3 q us R ∧ R.length = i ∧ ∀ p ∈ R, RowOk p)
      ⟨[], [], _, _, _, _, rfl, s2, RowsB.nil, rfl, fun p hp => (by cases hp)⟩ ?_ ?_⟩
    · rw [hlm]; omega
    · rw [hlm]; omega
    · rintro i σ H3 hi ⟨us, R, o1, o2, o3, o4, rfl, s3, rb, hRi, hok⟩
      rw [hlm] at hi
      have e0 : (0 : Int) + (i : Int) = (i : Int) := Int.zero_add _
      rw [e0]
      have hi2 : 2 * i + 1 < ns.length := by omega
      have hS3 := (s1.trans s3).seq hS
      have hg3 := s3 _ _ hg1
      have g1 : (ns.map V.int)[2 * i]? = some (V.int (ns[2 * i]'(by omega))) := by rw [List.getElem?_map, List.getElem?_eq_getElem (by omega)]; rfl
      have g2 : (ns.map V.int)[2 * i + 1]? = some (V.int (ns[2 * i + 1]'hi2)) := by rw [List.getElem?_map, List.getElem?_eq_getElem hi2]; rfl
      have c1 : (2 : Int) * (i : Int) = ((2 * i : Nat) : Int) := by push_cast; rfl
      have c2 : (2 : Int) * (i : Int) + 1 = ((2 * i + 1 : Nat) : Int) := by push_cast; rfl
      generalize (ns[2 * i]'(by omega)) = one at g1
      generalize (ns[2 * i + 1]'hi2) = two at g2
      refine ⟨fun σ H4 => σ = [some (.ref a), some (.ref g), some (.ref q), some (.int i), some (.int one), o3, o4] ∧ H4 = H3, ?_, ?_⟩
      · refine ⟨_, rfl, _, rfl, _, _, rfl, rfl, ?_, a, _, _, _, rfl, rfl, hS3, by rw [c1]; exact atI_nat g1, rfl, rfl⟩
        exact .inl ⟨by decide, by decide⟩
      rintro σ H4 ⟨rfl, rfl⟩
      refine ⟨fun σ H5 => σ = [some (.ref a), some (.ref g), some (.ref q), some (.int i), some (.int one), some (.int two), o4] ∧ H5 = H4, ?_, ?_⟩
      · refine ⟨_, rfl, _, rfl, _, _, rfl, rfl, ?_, _, _, rfl, rfl, a, _, _, _, rfl, rfl, hS3, by rw [c2]; exact atI_nat g2, rfl, rfl⟩
        exact .inl ⟨by decide, by decide⟩
      rintro σ H5 ⟨rfl, rfl⟩
      -- right
      have m4 := Int.emod_nonneg two (show (4 : Int) ≠ 0 by decide)
      have m4' := Int.emod_lt_of_pos two (show (0 : Int) < 4 by decide)
      refine ⟨fun σ H6 => ∃ b r, σ = [some (.ref a), some (.ref g), some (.ref q), some (.int i), some (.int one), some (.int two), some (.ref b)] ∧ Same H5 H6 ∧ H5 b = none ∧ StrsAt H6 b r ∧ r.length ≤ 3 ∧ ∀ s ∈ r, s ∈ MS, ?_, ?_⟩
      · refine ⟨_, rfl, _, _, rfl, rfl, (show (0 : Int) < 4 by decide), _, rfl, ?_, ?_, fun D hD => comp_range1 (m := (two % 4).toNat) (fun j τ H6 => (∃ o, τ = [o, some (.ref g), some (.int two)]) ∧ ∃ r : List Str, H6 = upd H5 D (.lst (r.map V.str)) ∧ r.length = j ∧ ∀ s ∈ r, s ∈ MS) ⟨⟨_, rfl⟩, [], rfl, rfl, fun s hs => (by cases hs)⟩ ?_ ?_⟩
        · omega
        · omega
        · rintro j τ H6 hj ⟨⟨o, rfl⟩, r, rfl, hrj, hrm⟩
          have hgD : g ≠ D := fun z => by rw [z, hD] at hg3; cases hg3
          have hg6 : upd H5 D (.lst (r.map V.str)) g = some (.lst (MS.map V.str)) := by rw [upd_ne hgD]; exact hg3
          obtain ⟨jj, sg, hsg, _, hat⟩ := at_mod (xs := MS.map V.str) (n := 8) (by decide +kernel) (by decide) (two / 4 + 3 * (0 + (j : Int)))
          obtain ⟨sv, hsv, rfl⟩ := strs_get hsg
          refine ⟨_, rfl, _, rfl, _, _, rfl, rfl, ⟨by decide, by decide⟩, _, rfl, _, _, rfl, rfl, ?_, _, _, rfl, rfl, _, _, rfl, rfl, (show (0 : Int) < 8 by decide), g, _, _, _, rfl, rfl, SqL.of hg6, hat, _, upd_same, ?_, ⟨_, rfl⟩, r ++ [sv], ?_, ?_, ?_⟩
          · exact .inl ⟨by decide, by decide⟩
          · rw [List.length_map]; exact small1000 (by omega)
          · rw [upd_upd, List.map_append]; rfl
          · rw [List.length_append, hrj]; rfl
          · intro s hs
            rcases List.mem_append.mp hs with z | z
            · exact hrm s z
            · rw [List.mem_singleton.mp z]; exact List.mem_of_getElem? hsv
        · rintro τ H6 ⟨_, r, rfl, hrj, hrm⟩
          exact ⟨D, r, rfl, Same.upd hD, hD, upd_same, by omega, hrm⟩
      rintro σ H6 ⟨b, r, rfl, s6, hb0, hb6, hr3, hrm⟩
      obtain ⟨jj, sg, hsg, _, hat⟩ := at_mod (xs := MS.map V.str) (n := 8) (by decide +kernel) (by decide) one
      obtain ⟨sv, hsv, rfl⟩ := strs_get hsg
      have rb6 := rb.mono s6
      have hbq : b ≠ q := Ne.symm (ne_of_none rb.at_ hb0)
      have hus : us.length = R.length := Paired.length rb.pr
      refine ⟨_, rfl, .inl ⟨rfl, _, SqL.of rb6.at_⟩, _, rfl, _, rfl, _, _, rfl, rfl, (show (0 : Int) < 8 by decide), g, _, _, _, rfl, rfl, SqL.of (s6 _ _ hg3), hat, _, rfl, (show 2 ≤ sizeLine by decide), fun t ht => ?_⟩
      have st := Same.upd (o := HO.tup [V.str sv, V.ref b]) ht
      have rb7 := rb6.mono st
      refine ⟨q, _, _, rfl, rfl, rb7.at_, small1000 (by omega), us ++ [.ref t], R ++ [(sv, r)], _, _, _, _, rfl, ((s3.trans s6).trans st).updS hq, rb7.snoc upd_same (st _ _ hb6) hbq, by rw [List.length_append, hRi]; rfl, fun p hp => ?_⟩
      rcases List.mem_append.mp hp with z | z
      · exact hok p z
      · rw [List.mem_singleton.mp z]
        have hsvm := ms_ok sv (List.mem_of_getElem? hsv)
        exact ⟨hsvm.1, fun s hs => (ms_ok s (hrm s hs)).1, hsvm.2, fun s hs => (ms_ok s (hrm s hs)).2, Nat.le_trans hr3 (by decide)⟩
    · rintro σ H3 ⟨us, R, o1, o2, o3, o4, rfl, s3, rb, hRi, hok⟩
      rw [hlm] at hRi
      exact ⟨_, rfl, k q us R H3 (s1.trans s3) hqH rb (by omega) hok⟩
end
end Nw
namespace L2
open PySem PySem.Spec PyProof.Rows PySem.W
def rIsX (K : Frag) (C ea : Addr) : List V → Hp → VK → Prop := fun xs H Q => ∃ c b, xs = [.ref ea, c] ∧ ((∃ C', c = .ref C' ∧ kitOne K (.ref C) (.ref C') = some b) ∨ (∃ T, c = .ty T ∧ kitOne K (.ref C) (.type T) = some b)) ∧ Q (.bl b) H
theorem call_isiH {X : Cx} {ea C : Addr} {oe : Obj} {B newId : String} {bmB : List Value} (FB : ExcAttrBase B bmB) (hob : bmB.contains (.type "object") = true) (Z : ExcK X.K C bmB newId) (hcl : oe.cls = .ref C) : CallR (cxH X ea oe) (.builtin "isinstance") (rIsX X.K C ea) :=
  call_isiX (X := cxH X ea oe) (oe := oe) FB hob Z (List.mem_append_right _ (List.mem_cons_self ..)) hcl
end L2
namespace Nw
open PySem L2 Nt
abbrev sIn : Stmt := top 19
theorem scIn : FnScope ["_law_line", "_law_parts", "_law_part", "_law_sign"] ["_law_line"] (defScope sIn) := ⟨rfl, rfl, rfl, by decide +kernel, rfl, by decide +kernel, by decide +kernel⟩
def spIn : Sp := fun vs H Q _ => ∃ (x : Str), vs = [.str x] ∧ TxOk x ∧ (∀ p, parse x = some p → ∀ t b H', Same H H' → H t = none → H b = none → H' t = some (.tup [.str p.1, .ref b]) → StrsAt H' b p.2 → Q (.ref t) H') ∧ (parse x = none → ∀ H', Same H H' → Q .non H')
section
variable {P : Program} {w : World} {K : PySem.W.Frag} {mg : Str → Option Value} {base : Heap}
theorem ok_in {f : Addr} {fd : FuncData} (F : Fun K "_law_row_in" "_law_row_in" sIn f fd) (T : Txt mg) : FnOk P w K mg base CX0 1 f fd ["_law_line"] spIn := by
  refine F.ok scIn (fun vs H Q E h => ?_) (fun cdv A outer s H vs Q E hr h => ?_)
  · obtain ⟨x, rfl, _⟩ := h
    rfl
  · obtain ⟨x, rfl, hx, kq, kn⟩ := h
    refine ⟨_, pss_mid (ps_set (i := 1) scIn.nd rfl (Or.inl rfl) (pe_bm1 PySem.F.plainAttrs_str PySem.F.slot_str_split PySem.F.type_str_split mt_split (pv 0) (pa_c pe_str pa_nil)))
      (pss_mid (ps_if (PW.pt (pw_or (pt_cmpR op_lt (pe_callB call_len_seq (by rfl) T.len PySem.boot_len (pa_c (pv 1) pa_nil)) pe_int (nomark _)) (pw_or1 (pt_cmpR op_ne (pe_ix ix_list (pv 1) pe_int (fun _ _ => rfl)) pe_str (nomark _)))))
        (pss_one (ps_ret pe_non)) pss_nil)
      (pss_mid (ps_for PassesOwn.never rfl (pi_list (pe_op op_cat (pe_slice sl_list (pv 1) po_none (po_some pe_int)) (pe_slice sl_list (pv 1) (po_some pe_int) po_none))) (pg_name (i := 2) scIn.nd rfl (Or.inl rfl))
        (pss_mid (ps_for PassesOwn.never rfl (pi_str (pv 2)) (pg_name (i := 3) scIn.nd rfl (Or.inl rfl)) (pss_one (ps_if (pt_cmpR op_notIn_str (pv 3) pe_str (by with_unfolding_all rfl)) (pss_one (ps_ret pe_non)) pss_nil)))
        (pss_one (ps_if (pt_cmpR op_eq (pv 2) pe_str (nomark _)) (pss_one (ps_ret pe_non)) pss_nil))))
      (pss_one (ps_ret (pe_tup (pa_c (pe_ix ix_list (pv 1) pe_int (fun _ _ => rfl)) (pa_c (pe_slice sl_list (pv 1) (po_some pe_int) po_none) pa_nil))))))), ?_⟩
    have hBL1 : (BL.length == 0) = false := by decide +kernel
    have hsl := split_len x
    have hx1 := hx.n
    generalize hps : Txt.split x BL = ps at hsl
    have hpk : ∀ y ∈ ps, TxOk y := fun y hy => part_ok hx (by rw [hps]; exact hy)
    refine ⟨fun σ H1 => ∃ q, σ = [some (.str x), some (.ref q), none, none] ∧ Same H H1 ∧ StrsAt H1 q ps, ?_, ?_⟩
    · refine ⟨_, rfl, rfl, x, BL, rfl, rfl, hBL1, big_line (by omega), by rw [hps]; exact big_line (by omega), fun p hp => ?_⟩
      rw [hps]
      exact ⟨p, rfl, Same.upd hp, upd_same⟩
    rintro σ H1 ⟨q, rfl, s1, hq1⟩
    have hq1' : H1 q = some (.lst (ps.map V.str)) := hq1
    refine ⟨fun σ H2 => ∃ b r a, ps = a :: b :: r ∧ b = MK ∧ σ = [some (.str x), some (.ref q), none, none] ∧ H2 = H1, ?_, ?_⟩
    · refine ⟨_, rfl, q, _, rfl, .inl (SqL.of hq1'), _, _, rfl, rfl, _, rfl, ?_⟩
      rw [List.length_map]
      by_cases hl : ps.length < 2
      · rw [decide_eq_true (by omega)]
        refine iteT (iteT (kn ?_ H1 s1))
        unfold parse
        rw [hps]
        rcases ps with _ | ⟨a, _ | ⟨b, r⟩⟩
        · rfl
        · rfl
        · simp at hl; omega
      · rw [decide_eq_false (by omega)]
        refine iteF ?_
        obtain ⟨a, b, r, rfl⟩ : ∃ a b r, ps = a :: b :: r := by
          rcases ps with _ | ⟨a, _ | ⟨b, r⟩⟩
          · simp at hl
          · simp at hl
          · exact ⟨a, b, r, rfl⟩
        refine ⟨_, rfl, q, _, 1, _, rfl, rfl, SqL.of hq1', atI_nat (j := 1) rfl, rfl, _, rfl, ?_⟩
        by_cases hb : b = MK
        · rw [show decide (V.str b = V.str MK) = true from decide_eq_true (by rw [hb])]
          exact iteF ⟨b, r, a, rfl, hb, rfl, rfl⟩
        · rw [show decide (V.str b = V.str MK) = false from decide_eq_false fun z => hb (by injection z)]
          refine iteT (kn ?_ H1 s1)
          unfold parse
          rw [hps]
          dsimp only
          rw [if_neg fun z => hb z.1]
    rintro σ H2 ⟨b, r, a, rfl, rfl, rfl, rfl⟩
    have hpar : parse x = if (a :: r).all Sg = true then some (a, r) else none := by
      unfold parse
      rw [hps]
      dsimp only
      by_cases z : (a :: r).all Sg = true
      · rw [if_pos z, if_pos ⟨rfl, z⟩]
      · rw [if_neg z, if_neg fun y => z y.2]
    have hrl : r.length ≤ 1000 := by
      rw [List.length_cons, List.length_cons] at hsl
      omega
    have none_of : ∀ z ∈ a :: r, Sg z = false → parse x = none := fun z hz h0 => by
      rw [hpar, if_neg fun y => by rw [List.all_eq_true.mp y z hz] at h0; cases h0]
    refine ⟨fun σ H4 => (∃ o1 o2, σ = [some (.str x), some (.ref q), o1, o2]) ∧ Same H2 H4 ∧ (a :: r).all Sg = true, ?_, ?_⟩
    · refine ⟨_, rfl, 1, rfl, q, _, rfl, SqL.of hq1', fun p1 hp1 => ?_⟩
      have c1 : cutV ((a :: MK :: r).map V.str) none (some 1) = [a].map V.str := cut_takeS (a :: MK :: r) 1
      rw [c1]
      have sp1 := Same.upd (o := HO.lst ([a].map V.str)) hp1
      refine ⟨_, rfl, 2, rfl, q, _, rfl, SqL.of (sp1 _ _ hq1'), fun p2 hp2 => ?_⟩
      have c2 : cutV ((a :: MK :: r).map V.str) (some 2) none = r.map V.str := cut_dropS (a :: MK :: r) 2
      rw [c2]
      have sp2 := Same.upd (o := HO.lst (r.map V.str)) hp2
      refine ⟨p1, p2, _, _, rfl, rfl, sp2 _ _ upd_same, upd_same, ?_, fun g hg => ?_⟩
      · rw [List.length_map]
        exact big_line (by simp; omega)
      have s3 := (sp1.trans sp2).trans (Same.upd (o := HO.lst ([a].map V.str ++ r.map V.str)) hg)
      refine ⟨g, rfl, ⟨_, SqL.of upd_same⟩, for_list (K := K) (a := g) (xs := (a :: r).map V.str)
        (fun i σ H4 => (∃ o1 o2, σ = [some (.str x), some (.ref q), o1, o2]) ∧ Same H2 H4 ∧ H4 g = some (.lst ((a :: r).map V.str)) ∧ ∀ s ∈ (a :: r).take i, Sg s = true) ⟨⟨_, _, rfl⟩, s3, upd_same, fun s hs => (by cases hs)⟩ ?_ ?_ ?_⟩
      · rintro i σ H4 _ ⟨_, _, h, _⟩
        exact SqL.of h
      · rintro i y σ H4 hy ⟨⟨o1, o2, rfl⟩, s4, hg4, hall⟩
        obtain ⟨z, hz', rfl⟩ := strs_get hy
        have hzm : z ∈ a :: r := List.mem_of_getElem? hz'
        refine ⟨fun σ H5 => (∃ o2, σ = [some (.str x), some (.ref q), some (.str z), o2]) ∧ H5 = H4 ∧ ∀ c ∈ z.cps.toList, isLet c = true, ?_, ?_⟩
        · refine ⟨_, rfl, z, rfl, for_str (fun j σ H5 => (∃ o2, σ = [some (.str x), some (.ref q), some (.str z), o2]) ∧ H5 = H4 ∧ ∀ c ∈ z.cps.toList.take j, isLet c = true) ⟨⟨_, rfl⟩, rfl, fun c hc => (by cases hc)⟩ ?_ ?_⟩
          · rintro j c σ H5 hc ⟨⟨o2, rfl⟩, rfl, hal⟩
            have hc' : z.cps.toList[j]? = some c := by rw [Array.getElem?_toList]; exact hc
            refine ⟨_, rfl, _, _, rfl, rfl, _, rfl, ?_⟩
            show if (!(!(Builtin.Str.occurrences LET2 ⟨#[c]⟩ 0 LET2.length 1).isEmpty)) = true then _ else _
            rw [StrLaws.found_one, mem_LET2]
            by_cases hcl : isLet c = true
            · rw [hcl]
              refine iteF ⟨⟨_, rfl⟩, rfl, fun d hd => ?_⟩
              rw [List.take_succ, hc'] at hd
              rcases List.mem_append.mp hd with e | e
              · exact hal d e
              · have : d = c := by simpa using e
                rw [this]; exact hcl
            · have h0 : isLet c = false := by cases h : isLet c with | false => rfl | true => exact absurd h hcl
              rw [h0]
              refine iteT (kn (none_of z hzm ?_) H5 (s1.trans s4))
              unfold Sg
              have : z.cps.toList.all isLet = false := by
                cases h : z.cps.toList.all isLet with
                | false => rfl
                | true => exact absurd (List.all_eq_true.mp h c (List.mem_of_getElem? hc')) hcl
              rw [this, Bool.and_false]
          · rintro σ H5 ⟨⟨o2, rfl⟩, rfl, hal⟩
            have e3 : z.cps.toList.take z.cps.size = z.cps.toList := by rw [← Array.length_toList]; exact List.take_length
            rw [e3] at hal
            exact ⟨⟨_, rfl⟩, rfl, hal⟩
        rintro σ H5 ⟨⟨o3, rfl⟩, rfl, hal⟩
        refine ⟨_, rfl, rfl, _, rfl, ?_⟩
        by_cases h0 : z = ""
        · rw [show decide (V.str z = V.str (Str.ofString "")) = true from decide_eq_true (by rw [h0])]
          refine iteT (kn (none_of z hzm ?_) H5 (s1.trans s4))
          unfold Sg
          rw [decide_eq_true (str_empty.mp h0)]
          rfl
        · rw [show decide (V.str z = V.str (Str.ofString "")) = false from decide_eq_false fun y => h0 (by injection y)]
          refine iteF ⟨⟨_, _, rfl⟩, s4, hg4, fun s hs => ?_⟩
          rw [List.take_succ, hz'] at hs
          rcases List.mem_append.mp hs with e | e
          · exact hall s e
          · have : s = z := by simpa using e
            rw [this]
            have hne : z.length ≠ 0 := fun y => h0 (str_empty.mpr y)
            exact sg_of (by omega) hal
      · rintro σ H4 ⟨⟨o1, o2, rfl⟩, s4, _, hall⟩
        rw [List.length_map, List.take_length] at hall
        exact ⟨⟨_, _, rfl⟩, s4, List.all_eq_true.mpr hall⟩
    rintro σ H4 ⟨⟨o1, o2, rfl⟩, s4, hall⟩
    have hq4 := s4 _ _ hq1'
    have hsome : parse x = some (a, r) := by rw [hpar, if_pos hall]
    refine ⟨_, rfl, q, _, 0, _, rfl, rfl, SqL.of hq4, atI_nat (j := 0) rfl, _, rfl, 2, rfl, q, _, rfl, SqL.of hq4, fun p1 hp1 => ?_⟩
    have c3 : cutV ((a :: MK :: r).map V.str) (some 2) none = r.map V.str := cut_dropS (a :: MK :: r) 2
    rw [c3]
    refine ⟨(show 2 ≤ sizeLine by decide), fun t ht => ?_⟩
    have sp1 := Same.upd (o := HO.lst (r.map V.str)) hp1
    have st := Same.upd (o := HO.tup [V.str a, V.ref p1]) ht
    have s34 := s1.trans s4
    exact kq _ hsome t p1 _ (s34.trans (sp1.trans st)) (s34.free (sp1.free ht)) (s34.free hp1) upd_same (st _ _ upd_same)
end
end Nw
namespace Nw
open PySem L2 Nt
/-- what is known of the classes; C is NoRow's -/
structure Exc9 (K : PySem.W.Frag) (mg : Str → Option Value) (C C1 C2 C3 C4 : Addr) : Prop where
  nr : mg "NoRow" = some (.ref C)
  z : ExcK K C bmV nwV
  we : mg "WordError" = some (.ref C1)
  wz : PySem.W.excIn K C1 bmV nwV = true
  wu : upIn K C C1 = true
  sf : upIn K C C = true
  ne : mg "NoEnd" = some (.ref C2)
  nk : PySem.W.kitOne K (.ref C) (.ref C2) = some false
  un : mg "Unused" = some (.ref C3)
  uk : PySem.W.kitOne K (.ref C) (.ref C3) = some false
  cl : mg "Clash" = some (.ref C4)
  ck : PySem.W.kitOne K (.ref C) (.ref C4) = some false
  kk : PySem.W.kitOne K (.ref C) (.ref C) = some true
  vk : PySem.W.kitOne K (.ref C) (.type "ValueError") = some true
  ve : mg "ValueError" = none
theorem bt_ve : bootBuiltins "ValueError" = some (.type "ValueError") := by decide +kernel
abbrev sTells : Stmt := top 20
theorem scTells : FnScope ["_law_texts", "e", "_law_many"] ["_law_texts"] (defScope sTells) := ⟨rfl, rfl, rfl, by decide +kernel, rfl, by decide +kernel, by decide +kernel⟩
def spTells : Sp := fun vs H Q _ => ∃ (a : Addr) (ts : List Str), vs = [.ref a] ∧ StrsAt H a ts ∧ ts.length ≤ 60 ∧ (∀ x ∈ ts, TxOk x) ∧ (∃ x ∈ ts, parse x = none) ∧ ∀ H', Same H H' → Q (.bl true) H'
section
variable {P : Program} {w : World} {K : PySem.W.Frag} {mg : Str → Option Value} {base : Heap} {C C1 C2 C3 C4 : Addr}
theorem ok_tells {f : Addr} {fd : FuncData} (F : Fun K "_law_base_tells" "_law_base_tells" sTells f fd) (T : Txt mg) (X9 : Exc9 K mg C C1 C2 C3 C4) (D1 : DefW P w K mg base "read_rows" 3 ["texts"] (spRRs C)) : FnOk P w K mg base CX0 4 f fd ["_law_texts"] spTells := by
  obtain ⟨f1, fd1, hm1, hk1, F1, hb1⟩ := D1.ex
  refine F.ok scTells (fun vs H Q E h => ?_) (fun cdv A outer s H vs Q E hr h => ?_)
  · obtain ⟨a, ts, rfl, _⟩ := h
    rfl
  · obtain ⟨a, ts, rfl, hT, hn, hx, hbad, k⟩ := h
    have hob : bmV.contains (.type "object") = true := by decide +kernel
    have hbe : bmV.contains (.type "BaseException") = true := by decide +kernel
    refine ⟨_, pss_cons (ps_tryAs (i := 1) (fun _ _ h => h) rfl rfl (px_expr (fun _ _ h => h) F1 hr (by rfl) hm1 hk1 hb1 (pa_c (pv 0) pa_nil)) X9.z.ex X9.wz X9.wu hbe X9.we (by rfl) scTells.nd rfl rfl
        (fun ea oe hcl => pss_cons (ps_set (i := 2) scTells.nd rfl (Or.inl rfl) (pe_op op_add (pe_callTy (T := "int") call_int1 (by rfl) (by exact T.int) bt_int (pa_c (pe_callB (r := rIsX K C ea) (call_isiH PySem.F.attrBase_ValueError hob X9.z hcl) (by rfl) (by exact T.isi) boot_isinstance (pa_c (pv 1) (pa_c (pe_glob (v := .ref C2) (by rfl) (by exact X9.ne) rfl) pa_nil))) pa_nil)) (pe_callTy (T := "int") call_int1 (by rfl) (by exact T.int) bt_int (pa_c (pe_callB (r := rIsX K C ea) (call_isiH PySem.F.attrBase_ValueError hob X9.z hcl) (by rfl) (by exact T.isi) boot_isinstance (pa_c (pv 1) (pa_c (pe_glob (v := .ref C3) (by rfl) (by exact X9.un) rfl) pa_nil))) pa_nil))))
          (pss_cons (ps_set (i := 2) scTells.nd rfl (Or.inl rfl) (pe_op op_add (pe_op op_add (pv 2) (pe_callTy (T := "int") call_int1 (by rfl) (by exact T.int) bt_int (pa_c (pe_callB (r := rIsX K C ea) (call_isiH PySem.F.attrBase_ValueError hob X9.z hcl) (by rfl) (by exact T.isi) boot_isinstance (pa_c (pv 1) (pa_c (pe_glob (v := .ref C4) (by rfl) (by exact X9.cl) rfl) pa_nil))) pa_nil))) (pe_callTy (T := "int") call_int1 (by rfl) (by exact T.int) bt_int (pa_c (pe_callB (r := rIsX K C ea) (call_isiH PySem.F.attrBase_ValueError hob X9.z hcl) (by rfl) (by exact T.isi) boot_isinstance (pa_c (pv 1) (pa_c (pe_glob (v := .ref C) (by rfl) (by exact X9.nr) rfl) pa_nil))) pa_nil))))
          (pss_one (ps_ret (pe_and (pe_callB (r := rIsX K C ea) (call_isiH PySem.F.attrBase_ValueError hob X9.z hcl) (by rfl) (by exact T.isi) boot_isinstance (pa_c (pv 1) (pa_c (pe_bltn (v := .ty "ValueError") (by rfl) (by exact X9.ve) bt_ve rfl) pa_nil))) (pe_one (pe_cmpR op_eq (pv 2) pe_int (nomark _)))))))))
      (pss_one (ps_ret pe_bl)), ?_⟩
    refine ⟨_, rfl, a, ts, rfl, hT, hn, hx, fun R hR => ?_, fun _ H1 s1 => ⟨rfl, fun ea hea => ?_⟩⟩
    · obtain ⟨x, hxm, hxn⟩ := hbad
      have : parse x ∈ R.map some := by rw [← hR]; exact List.mem_map.mpr ⟨x, hxm, rfl⟩
      rw [hxn] at this
      obtain ⟨p, _, hp⟩ := List.mem_map.mp this
      cases hp
    · refine ⟨_, rfl, _, false, rfl, .inl ⟨C2, rfl, X9.nk⟩, .inr ⟨false, rfl, _, rfl, _, false, rfl, .inl ⟨C3, rfl, X9.uk⟩, .inr ⟨false, rfl, _, _, rfl, rfl, ?_⟩⟩⟩
      refine ⟨_, rfl, _, rfl, _, false, rfl, .inl ⟨C4, rfl, X9.ck⟩, .inr ⟨false, rfl, _, _, rfl, rfl, _, rfl, _, true, rfl, .inl ⟨C, rfl, X9.kk⟩, .inr ⟨true, rfl, _, _, rfl, rfl, ?_⟩⟩⟩
      refine ⟨_, rfl, _, true, rfl, .inr ⟨"ValueError", rfl, X9.vk⟩, _, rfl, iteT ⟨_, rfl, rfl, ?_⟩⟩
      exact k H1 s1
end
end Nw
namespace Nw
open PySem L2 Nt
/-! ### what stands in the heap, as data -/
def dStrs (ss : List Str) : D := .lst (ss.map D.str)
def dRow (p : Row) : D := .tup [.str p.1, dStrs p.2]
def dRows (R : List Row) : D := .lst (R.map dRow)
theorem rep_strs {H : Hp} {a : Addr} {ss : List Str} (h : StrsAt H a ss) : Rep H (.ref a) (dStrs ss) :=
  .lst h (by rw [List.length_map, List.length_map]) fun i x d h1 h2 => by
    rw [List.getElem?_map] at h1 h2
    cases e : ss[i]? with
    | none => rw [e] at h1; cases h1
    | some y =>
      rw [e] at h1 h2
      cases h1; cases h2
      exact .str y
theorem rep_row {H : Hp} {v : V} {p : Row} (h : RowAt H v p) : Rep H v (dRow p) := by
  obtain ⟨t, b, rfl, h1, h2⟩ := h
  refine .tup h1 rfl fun i x d e1 e2 => ?_
  rcases i with _ | _ | i
  · cases e1; cases e2; exact .str _
  · cases e1; cases e2; exact rep_strs h2
  · cases e1
theorem rep_rows {H : Hp} {a : Addr} {R : List Row} (h : RowsAt H a R) : Rep H (.ref a) (dRows R) := by
  obtain ⟨vs, h1, h2⟩ := h
  refine .lst h1 (by rw [List.length_map]; exact Paired.length h2) fun i x d e1 e2 => ?_
  obtain ⟨p, hp, hr⟩ := paired_get h2 i x e1
  rw [List.getElem?_map, hp] at e2
  cases e2
  exact rep_row hr
theorem sz_strs (ss : List Str) : (dStrs ss).sz = 1 + ss.length := by
  show 1 + D.szs (ss.map D.str) = _
  congr 1
  induction ss with
  | nil => rfl
  | cons x r ih => show 1 + D.szs (r.map D.str) = r.length + 1; rw [ih]; omega
theorem sz_rows {b : Nat} : ∀ {R : List Row}, (∀ p ∈ R, p.2.length ≤ b) → (dRows R).sz ≤ 1 + (b + 3) * R.length
  | [], _ => by simp [dRows, D.sz, D.szs]
  | p :: r, h => by
    have h1 := h p (List.mem_cons_self ..)
    have h2 := sz_rows (b := b) (R := r) fun q hq => h q (List.mem_cons_of_mem _ hq)
    have e : (dRows (p :: r)).sz = (dRow p).sz + (dRows r).sz := by
      show 1 + (D.sz (dRow p) + D.szs (r.map dRow)) = D.sz (dRow p) + (1 + D.szs (r.map dRow))
      omega
    have e2 : (dRow p).sz = 3 + p.2.length := by
      show 1 + (1 + ((dStrs p.2).sz + 0)) = _
      rw [sz_strs]; omega
    rw [e, e2, List.length_cons, Nat.mul_succ]
    omega
theorem szs_rows {b : Nat} : ∀ {R : List Row}, (∀ p ∈ R, p.2.length ≤ b) → D.szs (R.map dRow) ≤ (b + 3) * R.length := fun {R} h => by
  have := sz_rows h
  have e : (dRows R).sz = 1 + D.szs (R.map dRow) := rfl
  omega
theorem sz_row (p : Row) : (dRow p).sz = 3 + p.2.length := by
  show 1 + (1 + ((dStrs p.2).sz + 0)) = _
  rw [sz_strs]; omega
/-- a row put in -/
def put {α : Type} (l : List α) (k : Nat) (x : α) : List α := l.take k ++ x :: l.drop k
theorem put_map {α β : Type} (f : α → β) (l : List α) (k : Nat) (x : α) : (put l k x).map f = put (l.map f) k (f x) := by
  unfold put
  rw [List.map_append, List.map_cons, List.map_take, List.map_drop]
theorem mem_put {α : Type} {l : List α} {k : Nat} {x y : α} : y ∈ put l k x ↔ y = x ∨ y ∈ l := by
  unfold put
  rw [List.mem_append, List.mem_cons]
  constructor
  · rintro (h | h | h)
    · exact .inr (List.mem_of_mem_take h)
    · exact .inl h
    · exact .inr (List.mem_of_mem_drop h)
  · rintro (h | h)
    · exact .inr (.inl h)
    · rw [← List.take_append_drop k l] at h
      rcases List.mem_append.mp h with z | z
      · exact .inl z
      · exact .inr (.inr z)
theorem put_len {α : Type} (l : List α) (k : Nat) (x : α) : (put l k x).length = l.length + 1 := by
  unfold put
  rw [List.length_append, List.length_cons, List.length_take, List.length_drop]
  omega
theorem sz_put {R : List Row} {k : Nat} {p : Row} {b : Nat} (h : ∀ p ∈ R, p.2.length ≤ b) : (dRows (put R k p)).sz ≤ 1 + (b + 3) * R.length + (3 + p.2.length) := by
  have e : (dRows (put R k p)).sz = 1 + D.szs ((put R k p).map dRow) := rfl
  rw [e]
  unfold put
  rw [List.map_append, D.szs_app, List.map_cons]
  show 1 + (D.szs ((R.take k).map dRow) + (D.sz (dRow p) + D.szs ((R.drop k).map dRow))) ≤ _
  have h1 : D.szs (R.map dRow) = D.szs ((R.take k).map dRow) + D.szs ((R.drop k).map dRow) := by
    rw [← D.szs_app, ← List.map_append, List.take_append_drop]
  have h2 := szs_rows h
  have h3 := sz_row p
  omega
theorem paired_put {α β : Type} {F : α → β → Prop} {x : α} {y : β} (h : F x y) : ∀ {k : Nat} {l₁ : List α} {l₂ : List β}, Paired F l₁ l₂ → Paired F (put l₁ k x) (put l₂ k y)
  | 0, _, _, p => .cons h p
  | k + 1, _, _, .nil => .cons h .nil
  | k + 1, _, _, .cons r t => .cons r (paired_put h (k := k) t)
theorem char_line (p : Row) : (line p).cps.toList = p.1.cps.toList ++ (MK :: p.2).flatMap fun y => 32 :: y.cps.toList := by
  unfold line
  have e : Txt.join BL (p.1 :: MK :: p.2) = Str.join BL (p.1 :: MK :: p.2) := StrLaws.glued_eq_join BL _
  rw [e, join_list]
theorem RowOk.tx {p : Row} (h : RowOk p) : TxOk (Nt.line p) := by
  refine ⟨h.line, fun c hc => ?_⟩
  have lt : ∀ {s : Str}, Sg s = true → ∀ c ∈ s.cps.toList, c < 128 := fun {s} hs c hc => by
    have := (let_bounds (sg_let hs c hc)).2
    omega
  rw [char_line] at hc
  rcases List.mem_append.mp hc with z | z
  · exact lt h.l c z
  · obtain ⟨y, hy, hcy⟩ := List.mem_flatMap.mp z
    rcases List.mem_cons.mp hcy with e | e
    · rw [e]; decide
    · rcases List.mem_cons.mp hy with q | q
      · rw [q] at e
        have : c = 62 := by
          have : MK.cps.toList = [62] := by decide +kernel
          rw [this] at e
          simpa using e
        rw [this]; decide
      · exact lt (h.r y q) c e
theorem parse_len {x : Str} {p : Row} (h : parse x = some p) : p.2.length ≤ x.length + 1 := by
  unfold parse at h
  have hl := split_len x
  split at h
  · rename_i a b r e
    rw [e, List.length_cons, List.length_cons] at hl
    split at h
    · cases h
      show r.length ≤ _
      omega
    · cases h
  · cases h
theorem map_some_inj {α : Type} : ∀ {l l' : List α}, l.map some = l'.map some → l = l'
  | [], [], _ => rfl
  | [], _ :: _, h => by cases h
  | _ :: _, [], h => by cases h
  | x :: r, y :: t, h => by
    rw [List.map_cons, List.map_cons] at h
    injection h with h1 h2
    injection h1 with h1
    rw [h1, map_some_inj h2]
/-- the words of the last row -/
theorem rep2 (x y : Str) : ∀ n : Nat, (List.replicate n [V.str x, V.str y]).flatten = ((List.replicate n [x, y]).flatten).map V.str
  | 0 => rfl
  | n + 1 => by
    rw [List.replicate_succ, List.flatten_cons, rep2 x y n, List.replicate_succ, List.flatten_cons, List.map_append]
    rfl
theorem rep2_mem {x y s : Str} {n : Nat} (h : s ∈ (List.replicate n [x, y]).flatten) : s = x ∨ s = y := by
  obtain ⟨l, hl, hs⟩ := List.mem_flatten.mp h
  rw [(List.mem_replicate.mp hl).2] at hs
  simpa using hs
theorem rep2_len (x y : Str) (n : Nat) : ((List.replicate n [x, y]).flatten).length = n * 2 := len_rep [x, y] n
theorem rep2_sum (x y : Str) : ∀ n : Nat, (((List.replicate n [x, y]).flatten).map (·.length)).sum = n * (x.length + y.length)
  | 0 => by simp
  | n + 1 => by
    rw [List.replicate_succ, List.flatten_cons, List.map_append, List.sum_append, rep2_sum x y n, Nat.succ_mul]
    simp
    omega
theorem sg_cat {x y : Str} (h1 : Sg x = true) (h2 : Sg y = true) : Sg (x ++ y) = true := by
  have a1 := sg_let h1
  have a2 := sg_let h2
  have n1 : 1 ≤ x.length := by
    unfold Sg at h1
    rw [Bool.and_eq_true] at h1
    have := h1.1
    simp at this
    omega
  refine sg_of (by rw [str_len_cat]; omega) fun c hc => ?_
  rw [cat_toList] at hc
  rcases List.mem_append.mp hc with z | z
  · exact a1 c z
  · exact a2 c z
/-- the row behind the drawn ones -/
def lastRow (z : Str) (n : Nat) : Row := (z ++ "Z", (List.replicate n [z, "K"]).flatten)
theorem last_ok {z : Str} {n : Nat} (hz : Sg z = true) (hl : z.length ≤ 40) (hn : n < 8) : RowOk (lastRow z n) ∧ (line (lastRow z n)).length ≤ 450 := by
  have sZ : Sg "Z" = true := by decide +kernel
  have sK : Sg "K" = true := by decide +kernel
  have lZ : (Str.ofString "Z").length = 1 := by decide +kernel
  have lK : (Str.ofString "K").length = 1 := by decide +kernel
  have lM : MK.length = 1 := by decide +kernel
  have e1 : (lastRow z n).1.length = z.length + 1 := by show (z ++ _).length = _; rw [str_len_cat, lZ]
  have e2 : (lastRow z n).2.length = n * 2 := rep2_len z _ n
  refine ⟨⟨sg_cat hz sZ, fun s hs => ?_, by omega, fun s hs => ?_, by omega⟩, ?_⟩
  · rcases rep2_mem hs with e | e
    · rw [e]; exact hz
    · rw [e]; exact sK
  · rcases rep2_mem hs with e | e
    · rw [e]; omega
    · rw [e, lK]; omega
  · have h1 := line_len (lastRow z n)
    rw [List.length_cons, List.length_cons, List.map_cons, List.map_cons, List.sum_cons, List.sum_cons, e1, e2, lM] at h1
    have h2 : ((lastRow z n).2.map (·.length)).sum = n * (z.length + 1) := by
      have := rep2_sum z "K" n
      rw [lK] at this
      exact this
    rw [h2] at h1
    have h3 : n * (z.length + 1) ≤ 7 * 41 := Nat.mul_le_mul (by omega) (by omega)
    omega
theorem cut_any (ns : List Int) (lo hi : Option Int) : ∃ ms : List Int, cutV (ns.map V.int) lo hi = ms.map V.int ∧ ms.length ≤ ns.length := by
  refine ⟨(ns.drop (HT.sIx ns.length 0 lo)).take (HT.sIx ns.length ns.length hi - HT.sIx ns.length 0 lo), ?_, ?_⟩
  · unfold cutV
    rw [List.length_map, List.map_take, List.map_drop]
  · rw [List.length_take, List.length_drop]; omega
theorem atI_last {α : Type} {xs : List α} {x : α} : atI (xs ++ [x]) (-1) = some x := by
  unfold atI ixN
  rw [if_neg (by decide)]
  rw [if_pos (by rw [List.length_append, List.length_singleton]; omega)]
  show (xs ++ [x])[((-1 : Int) + ((xs ++ [x]).length : Int)).toNat]? = some x
  have e : ((-1 : Int) + ((xs ++ [x]).length : Int)).toNat = xs.length := by rw [List.length_append, List.length_singleton]; omega
  rw [e]
  simp
end Nw
namespace Nw
open PySem L2 Nt
def MN1 : List Str := ["", "S", "S >", "> a", "S > a  b", "S > a b ", " S > a", "S >a", "S a >", "S > >"]
def MN2 : List Str := ["S > 1", "S-A > a", "A > B c", "S > S"]
theorem mn_ok : ∀ s ∈ MN1 ++ MN2, TxOk s := by
  have h : ∀ s ∈ MN1 ++ MN2, s.length ≤ 1000 ∧ ∀ c ∈ s.cps.toList, c < 128 := by decide +kernel
  exact fun s hs => ⟨(h s hs).1, (h s hs).2⟩
abbrev sLaw : Stmt := top 22
theorem scLaw : FnScope ["_law_script", "_law_rows", "_law_word", "_law_texts", "_law_due", "_law_left", "_law_right", "_law_menu", "_law_extra", "_law_good", "_law_spoilt", "_law_spot", "_law_given", "_law_found", "_law_refused"] ["_law_script"] (defScope sLaw) := ⟨rfl, rfl, rfl, by decide +kernel, rfl, by decide +kernel, by decide +kernel⟩
def spLaw (K : PySem.W.Frag) : Sp := fun vs H Q _ => ∃ (a : Addr) (ns : List Int), vs = [.ref a] ∧ SqL K H a (ns.map V.int) ∧ ns.length ≤ 63 ∧ ∀ H', Q (.bl true) H'
section
variable {P : Program} {w : World} {K : PySem.W.Frag} {mg : Str → Option Value} {base : Heap} {C C1 C2 C3 C4 : Addr}
theorem ok_law {f : Addr} {fd : FuncData} (F : Fun K "law" "law" sLaw f fd) (T : Txt mg) (X9 : Exc9 K mg C C1 C2 C3 C4) (dMenu : Def P w K mg base "_law_menu_rows" 1 ["_law_cells"] (spMenu K)) (dAny : Def P w K mg base "_law_any_word" 1 ["_law_cell"] spAny)
    (dAt : Def P w K mg base "_law_at" 1 ["_law_script", "_law_k"] (spAt K)) (dShown : Def P w K mg base "shown" 1 ["rows"] spShown) (dSo : Def P w K mg base "_law_so" 1 ["_law_found", "_law_due"] spSo) (dWith : Def P w K mg base "_law_with_sign" 1 ["_law_line", "_law_cell", "_law_other"] spWith)
    (dIn : Def P w K mg base "_law_row_in" 1 ["_law_line"] spIn) (dRRs : DefW P w K mg base "read_rows" 3 ["texts"] (spRRs C)) (dTells : Def P w K mg base "_law_base_tells" 4 ["_law_texts"] spTells) : FnOk P w K mg base CX0 5 f fd ["_law_script"] (spLaw K) := by
  obtain ⟨f1, fd1, hm1, hk1, F1, hb1⟩ := dRRs.ex
  refine F.ok scLaw (fun vs H Q E h => ?_) (fun cdv A outer s H vs Q E hr h => ?_)
  · obtain ⟨a, ns, rfl, _⟩ := h
    rfl
  · obtain ⟨a, ns, rfl, hS, hl63, k⟩ := h
    have hr3 : Room 3 _ := hr.mono (by decide)
    have hr1 : Room 1 _ := hr.mono (by decide)
    have hbe : bmV.contains (.type "BaseException") = true := by decide +kernel
    refine exI ⟨_, iss_mid (.of (ps_set (i := 1) scLaw.nd rfl (Or.inl rfl) (pe_def dMenu hr1 (by rfl) (pa_c (pe_slice sl_list (pv 0) (po_some pe_int) (po_some pe_int)) pa_nil))))
      (iss_mid (.of (ps_set (i := 2) scLaw.nd rfl (Or.inl rfl) (pe_def dAny hr1 (by rfl) (pa_c (pe_def dAt hr1 (by rfl) (pa_c (pv 0) (pa_c pe_int pa_nil))) pa_nil))))
      (iss_mid (.of (ps_expr (pe_bm1 PySem.F.plainAttrs_list PySem.F.slot_list_append PySem.F.type_list_append mt_append (pv 1) (pa_c (pe_tup (pa_c (pe_op op_add_str (pv 2) pe_str) (pa_c (pe_op op_rep (pe_lst (pa_c (pv 2) (pa_c pe_str pa_nil))) (pe_op op_mod (pe_op op_fdiv (pe_def dAt hr1 (by rfl) (pa_c (pv 0) (pa_c pe_int pa_nil))) pe_int) pe_int)) pa_nil))) pa_nil))))
      (iss_mid (.of (ps_set (i := 3) scLaw.nd rfl (Or.inl rfl) (pe_def dShown hr1 (by rfl) (pa_c (pe_comp (CompIn.freeG (N := ["_law_row"]) (sel := [none]) [] (by rfl) (by rfl) (by rfl) (by decide) (by decide) (by intro x hx; cases hx) (by intro y hy; cases hy) (by rfl) (fun j i h => by
        rcases j with _ | j
        · cases h
        · cases h)) rfl (pi_list (pv 1)) (fun s₃ H₃ fp => pg_name (i := 0) (show (["_law_row"] : List Str).Nodup by decide) rfl (Or.inl rfl)) (fun s₃ H₃ fp => pif_nil)
        (fun s₃ H₃ fp => pe_tup (pa_c (pe_ix (r := rIxT K) ix_tup (pv 0) pe_int (fun _ _ => rfl)) (pa_c (pe_callTy (X := cxIn _ _ _ _ _ _ _) (T := "list") (r := rListOf K) call_listOf (by rfl) (by exact T.lst) (by decide +kernel) (pa_c (pe_ix (r := rIxT K) ix_tup (pv 0) pe_int (fun _ _ => rfl)) pa_nil)) pa_nil)))) pa_nil))))
      (iss_mid (.of (ps_set (i := 4) scLaw.nd rfl (Or.inl rfl) (pe_lst pa_nil)))
      (iss_mid (.of (ps_for PassesOwn.never rfl (pi_list (pv 1)) (pg_tup (n := 2) rfl (pgs_cons (pg_name (i := 5) scLaw.nd rfl (Or.inl rfl)) (pgs_cons (pg_name (i := 6) scLaw.nd rfl (Or.inl rfl)) pgs_nil)))
        (PSsi.to (iss_one (is_expr (ie_bm PySem.F.plainAttrs_list PySem.F.slot_list_append PySem.F.type_list_append mt_append (iv 4) (ia_c (ie_bm PySem.F.plainAttrs_str PySem.F.slot_str_join PySem.F.type_str_join mt_join ie_str (ia_c (ie_op op_cat (ie_lst (ia_c (iv 5) (ia_c ie_str ia_nil))) (iv 6)) ia_nil)) ia_nil)))))))
      (iss_mid (.of (ps_if (pt_not (pt_val (pe_def dSo hr1 (by rfl) (pa_c (pv 3) (pa_c (pv 4) pa_nil))))) pss_never pss_nil))
      (iss_mid (is_set (i := 7) scLaw.nd rfl (Or.inl rfl) ie_lst10)
      (iss_mid (.of (ps_set (i := 7) scLaw.nd rfl (Or.inl rfl) (pe_op op_cat (pv 7) (PEi.to ie_lst4))))
      (iss_mid (.of (ps_set (i := 8) scLaw.nd rfl (Or.inl rfl) (pe_ix ix_list (pv 7) (pe_op op_mod (pe_def dAt hr1 (by rfl) (pa_c (pv 0) (pa_c pe_int pa_nil))) pe_int) (fun _ _ => rfl))))
      (iss_mid (.of (ps_if (pt_cmpR op_eq (pe_op op_mod (pe_def dAt hr1 (by rfl) (pa_c (pv 0) (pa_c pe_int pa_nil))) pe_int) pe_int (nomark _))
        (pss_one (ps_set (i := 8) scLaw.nd rfl (Or.inl rfl) (pe_def dWith hr1 (by rfl) (pa_c (pe_ix ix_list (pv 4) (pe_un un_neg pe_int) (fun _ _ => rfl)) (pa_c (pe_def dAt hr1 (by rfl) (pa_c (pv 0) (pa_c pe_int pa_nil))) (pa_c (pe_def dAt hr1 (by rfl) (pa_c (pv 0) (pa_c pe_int pa_nil))) pa_nil)))))) pss_nil))
      (iss_mid (.of (ps_set (i := 9) scLaw.nd rfl (Or.inl rfl) (pe_def dIn hr1 (by rfl) (pa_c (pv 8) pa_nil))))
      (iss_mid (.of (ps_set (i := 10) scLaw.nd rfl (Or.inl rfl) (pe_cmpR op_gt (pe_op op_mod (pe_def dAt hr1 (by rfl) (pa_c (pv 0) (pa_c pe_int pa_nil))) pe_int) pe_int (nomark _))))
      (iss_mid (.of (ps_set (i := 11) scLaw.nd rfl (Or.inl rfl) (pe_op op_mod (pe_def dAt hr1 (by rfl) (pa_c (pv 0) (pa_c pe_int pa_nil))) (pe_op op_add (pe_callB call_len_seq (by rfl) T.len PySem.boot_len (pa_c (pv 4) pa_nil)) pe_int))))
      (iss_mid (.of (ps_if (pt_val (pv 10)) (pss_one (ps_expr (pe_bm PySem.F.plainAttrs_list PySem.F.slot_list_insert PySem.F.type_list_insert mt_insert (pv 4) (pa_c (pv 11) (pa_c (pv 8) pa_nil))))) pss_nil))
      (iss_mid (.of (ps_set (i := 12) scLaw.nd rfl (Or.inl rfl) (pe_callTy (T := "list") (r := rListOf K) call_listOf (by rfl) T.lst (by decide +kernel) (pa_c (pv 4) pa_nil))))
      (iss_mid (.of (ps_set (i := 13) scLaw.nd rfl (Or.inl rfl) pe_non))
      (iss_mid (.of (ps_set (i := 14) scLaw.nd rfl (Or.inl rfl) pe_bl))
      (iss_mid (.of (ps_try (fun _ _ h => h) rfl rfl (px_set (i := 13) (fun _ _ h => h) scLaw.nd rfl (Or.inl rfl) F1 hr3 (by rfl) hm1 hk1 hb1 (pa_c (pv 12) pa_nil)) X9.z.ex X9.z.ex X9.sf hbe X9.nr (by rfl) (fun ea oe hcl => pss_one (ps_set (i := 14) (by exact scLaw.nd) (by rfl) (by exact Or.inl rfl) pe_bl))))
      (iss_mid (.of (ps_if (pt_not (pt_val (pe_def dSo hr1 (by rfl) (pa_c (pv 12) (pa_c (pv 4) pa_nil))))) pss_never pss_nil))
      (iss_mid (.of (ps_if (PW.pt (pw_and (pt_val (pv 10)) (pw_and1 (pt_cmpR op_isN (pv 9) pe_non (nomark _))))) (pss_one (ps_ret (pe_and (pv 14) (pe_one (pe_def dTells hr (by rfl) (pa_c (pv 12) pa_nil)))))) pss_nil))
      (iss_mid (.of (ps_if (pt_val (pv 10)) (pss_one (ps_expr (pe_bm PySem.F.plainAttrs_list PySem.F.slot_list_insert PySem.F.type_list_insert mt_insert (pv 1) (pa_c (pv 11) (pa_c (pv 9) pa_nil))))) pss_nil))
      (iss_one (.of (ps_ret (pe_and (pe_not (pv 14)) (pe_one (pe_def dSo hr1 (by rfl) (pa_c (pv 13) (pa_c (pv 1) pa_nil))))))))))))))))))))))))))))), ?_⟩
    have lts : ∀ (s : Str), (Str.ofString " ").length = 1 := fun _ => by decide +kernel
    -- the rows of the menu
    refine ⟨fun σ H1 => ∃ q us R, σ = [some (.ref a), some (.ref q), none, none, none, none, none, none, none, none, none, none, none, none, none] ∧ Same H H1 ∧ H q = none ∧ RowsB H1 q us R ∧ R.length ≤ 31 ∧ ∀ p ∈ R, RowOk p, ?_, ?_⟩
    · obtain ⟨ms, e, hm⟩ := cut_any ns (some 3) (some 100)
      refine ⟨_, rfl, 3, rfl, 100, rfl, a, _, rfl, hS, fun p hp => ?_⟩
      rw [e]
      exact ⟨p, ms, rfl, SqL.of upd_same, by omega, fun q us R H' s' nq rb hl hok => ⟨q, us, R, rfl, (Same.upd hp).trans s', (Same.upd hp).free nq, rb, hl, hok⟩⟩
    rintro σ H1 ⟨q, us1, R1, rfl, s1, hqH, rb1, hl1, hok1⟩
    have hS1 := s1.seq hS
    -- the word
    refine ⟨fun σ H2 => ∃ z, σ = [some (.ref a), some (.ref q), some (.str z), none, none, none, none, none, none, none, none, none, none, none, none] ∧ H2 = H1 ∧ z.length ≤ 40 ∧ Sg z = true, ?_, ?_⟩
    · exact ⟨_, rfl, a, ns, 2, rfl, hS1, fun c => ⟨c, rfl, fun z hz hs => ⟨z, rfl, rfl, hz, hs⟩⟩⟩
    rintro σ H2 ⟨z, rfl, rfl, hz, hsz⟩
    -- the last row
    refine ⟨fun σ H3 => ∃ us R R0 p0, σ = [some (.ref a), some (.ref q), some (.str z), none, none, none, none, none, none, none, none, none, none, none, none] ∧ Same H H3 ∧ RowsB H3 q us R ∧ R.length ≤ 32 ∧ (∀ p ∈ R, RowOk p) ∧ R = R0 ++ [p0] ∧ (line p0).length ≤ 450, ?_, ?_⟩
    · have hlz : (z ++ (Str.ofString "Z")).length ≤ 41 := by
        rw [str_len_cat, show (Str.ofString "Z").length = 1 by decide +kernel]; omega
      refine ⟨_, rfl, .inl ⟨rfl, _, SqL.of rb1.at_⟩, _, rfl, _, _, rfl, rfl, big_line (by rw [show (Str.ofString "Z").length = 1 by decide +kernel]; omega), _, rfl, (show 2 ≤ sizeLine by decide), fun l1 hl1' => ?_⟩
      have t1 := Same.upd (o := HO.lst [V.str z, V.str "K"]) hl1'
      refine ⟨_, rfl, a, ns, 1, rfl, (s1.trans t1).seq hS, fun c => ⟨_, _, rfl, rfl, ⟨by decide, by decide⟩, _, _, rfl, rfl, (show (0 : Int) < 8 by decide), ?_⟩⟩
      have m0 := Int.emod_nonneg (c / 14) (show (8 : Int) ≠ 0 by decide)
      have m1 := Int.emod_lt_of_pos (c / 14) (show (0 : Int) < 8 by decide)
      obtain ⟨hro, h450⟩ := last_ok (n := (c / 14 % 8).toNat) hsz hz (by omega)
      refine ⟨l1, c / 14 % 8, _, rfl, rfl, upd_same, by omega, by omega, big_line (by simp; omega), fun b hb => ?_⟩
      rw [rep2]
      have t2 := Same.upd (o := HO.lst (((List.replicate (c / 14 % 8).toNat [z, "K"]).flatten).map V.str)) hb
      refine ⟨(show 2 ≤ sizeLine by decide), fun t ht => ?_⟩
      have t3 := Same.upd (o := HO.tup [V.str (z ++ "Z"), V.ref b]) ht
      have t12 := t1.trans t2
      have t123 := t12.trans t3
      have rb2 := rb1.mono t123
      have hus : us1.length = R1.length := Paired.length rb1.pr
      have hbq : b ≠ q := Ne.symm (ne_of_none (t1 _ _ rb1.at_) hb)
      refine ⟨q, _, _, rfl, rfl, rb2.at_, small1000 (by omega), us1 ++ [.ref t], R1 ++ [lastRow z (c / 14 % 8).toNat], R1, lastRow z (c / 14 % 8).toNat, rfl, ?_, rb2.snoc upd_same (t3 _ _ upd_same) hbq, by rw [List.length_append]; simp; omega, fun p hp => ?_, rfl, h450⟩
      · exact (s1.trans t123).updS hqH
      · rcases List.mem_append.mp hp with y | y
        · exact hok1 p y
        · rw [List.mem_singleton.mp y]; exact hro
    clear rb1 hl1 hok1 us1 R1 hS1
    rintro σ H3 ⟨us, R, R0, p0, rfl, s3, rb, hRl, hok, hR0, h450⟩
    have hS3 := s3.seq hS
    obtain ⟨hq3, hpr3⟩ := And.intro rb.at_ rb.pr
    have hul : us.length = R.length := Paired.length hpr3
    -- the texts
    refine ⟨fun σ H4 => ∃ tx, σ = [some (.ref a), some (.ref q), some (.str z), some (.ref tx), none, none, none, none, none, none, none, none, none, none, none] ∧ Same H3 H4 ∧ StrsAt H4 tx (R.map line), ?_, ?_⟩
    · refine ⟨_, rfl, q, rfl, ⟨_, SqL.of hq3⟩, fun D hD => comp_list1 (K := K) (xs := us) (fun i τ H4 => (∃ o, τ = [o]) ∧ Same H3 H4 ∧ ∃ vs, RowsB H4 D vs (R.take i)) ⟨⟨_, rfl⟩, Same.upd hD, [], RowsB.nil⟩ ?_ ?_ ?_⟩
      · rintro i τ H4 ⟨_, s4, _⟩
        exact SqL.of (s4 _ _ hq3)
      · rintro i x τ H4 hx ⟨⟨o, rfl⟩, s4, vs, rbD⟩
        obtain ⟨p, hpi, t, b, rfl, ht, hb⟩ := paired_get hpr3 i x hx
        have ht4 := s4 _ _ ht
        have hb4 : H4 b = some (.lst (p.2.map V.str)) := s4 _ _ hb
        have hil : i < R.length := (List.getElem?_eq_some_iff.mp hpi).1
        refine ⟨_, rfl, t, _, 0, _, rfl, rfl, SqT.of ht4, atI_nat (j := 0) rfl, _, rfl, t, _, 1, _, rfl, rfl, SqT.of ht4, atI_nat (j := 1) rfl, b, _, rfl, .inl (SqL.of hb4), fun l hl => ⟨(show 2 ≤ sizeLine by decide), fun t' ht' => ?_⟩⟩
        have sl := Same.upd (o := HO.lst (p.2.map V.str)) hl
        have st := Same.upd (o := HO.tup [V.str p.1, V.ref l]) ht'
        have rb' := rbD.mono (sl.trans st)
        have hlD : l ≠ D := Ne.symm (ne_of_none rbD.at_ hl)
        have hus : vs.length = (R.take i).length := Paired.length rbD.pr
        rw [List.length_take] at hus
        refine ⟨vs, rb'.at_, small1000 (by omega), ⟨_, rfl⟩, (s4.trans (sl.trans st)).updS hD, vs ++ [.ref t'], ?_⟩
        rw [List.take_succ, hpi]
        exact rb'.snoc upd_same (st _ _ upd_same) hlD
      · rintro τ H4 ⟨_, s4, vs, rbD⟩
        rw [hul, List.take_length] at rbD
        exact ⟨D, R, rfl, rbD.rows, by omega, hok, fun tx H5 s5 _ htx => ⟨tx, rfl, s4.trans s5, htx⟩⟩
    rintro σ H4 ⟨tx, rfl, s4, htx⟩
    -- due
    refine ⟨fun σ H5 => ∃ d, σ = [some (.ref a), some (.ref q), some (.str z), some (.ref tx), some (.ref d), none, none, none, none, none, none, none, none, none, none] ∧ H4 d = none ∧ H5 = upd H4 d (.lst []), ?_, ?_⟩
    · exact ⟨(show 0 ≤ sizeLine by decide), fun d hd => ⟨d, rfl, hd, rfl⟩⟩
    rintro σ H5 ⟨d, rfl, hd4, rfl⟩
    have hq4 := s4 _ _ hq3
    have hpr4 : Paired (RowAt H4) us R := Paired.mapP hpr3 fun _ _ y => y.mono s4
    refine ⟨fun σ H6 => (∃ o5 o6, σ = [some (.ref a), some (.ref q), some (.str z), some (.ref tx), some (.ref d), o5, o6, none, none, none, none, none, none, none, none]) ∧ Same H4 H6 ∧ H6 d = some (.lst ((R.map line).map V.str)), ?_, ?_⟩
    · have s5 := Same.upd (o := HO.lst []) hd4
      refine ⟨_, rfl, q, rfl, ⟨_, SqL.of (s5 _ _ hq4)⟩, for_list (K := K) (a := q) (xs := us)
        (fun i σ H6 => (∃ o5 o6, σ = [some (.ref a), some (.ref q), some (.str z), some (.ref tx), some (.ref d), o5, o6, none, none, none, none, none, none, none, none]) ∧ Same H4 H6 ∧ H6 d = some (.lst (((R.take i).map line).map V.str))) ⟨⟨_, _, rfl⟩, s5, upd_same⟩ ?_ ?_ ?_⟩
      · rintro i σ H6 _ ⟨_, s6, _⟩
        exact SqL.of (s6 _ _ hq4)
      · rintro i x σ H6 hx ⟨⟨o5, o6, rfl⟩, s6, hd6⟩
        obtain ⟨p, hpi, t, b, rfl, ht, hb⟩ := paired_get hpr4 i x hx
        have hil : i < R.length := (List.getElem?_eq_some_iff.mp hpi).1
        have hpo := hok p (List.mem_of_getElem? hpi)
        have hb6 : H6 b = some (.lst (p.2.map V.str)) := s6 _ _ hb
        refine ⟨t, _, rfl, SqT.of (s6 _ _ ht), rfl, _, _, rfl, _, _, rfl, rfl, _, rfl, .inl ⟨rfl, _, SqL.of hd6⟩, rfl, _, rfl, (show 2 ≤ sizeLine by decide), fun q1 hq1 => ?_⟩
        have sq1 := Same.upd (o := HO.lst [V.str p.1, V.str MK]) hq1
        refine ⟨_, rfl, q1, b, _, _, rfl, rfl, upd_same, sq1 _ _ hb6, ?_, fun q2 hq2 => ?_⟩
        · rw [List.length_map]
          have := hpo.n
          exact big_line (by simp; omega)
        have sq2 := Same.upd (o := HO.lst ([V.str p.1, V.str MK] ++ p.2.map V.str)) hq2
        refine ⟨_, q2, p.1 :: MK :: p.2, rfl, rfl, SqL.of upd_same, ?_, d, _, _, rfl, rfl, (sq1.trans sq2) _ _ hd6, ?_, ⟨_, _, rfl⟩, (s6.trans (sq1.trans sq2)).updS hd4, ?_⟩
        · have h1 := hpo.sum
          have h2 := hpo.n
          rw [lts "", List.length_cons, List.length_cons]
          omega
        · rw [List.length_map, List.length_map, List.length_take]
          exact small1000 (by omega)
        · rw [upd_same, List.take_succ, hpi, List.map_append, List.map_append]
          rfl
      · rintro σ H6 ⟨⟨o5, o6, rfl⟩, s6, hd6⟩
        rw [hul, List.take_length] at hd6
        exact ⟨⟨_, _, rfl⟩, s6, hd6⟩
    rintro σ H6 ⟨⟨o5, o6, rfl⟩, s6, hd6⟩
    generalize hts : R.map line = ts at hd6 htx
    have htl : ts.length = R.length := by rw [← hts, List.length_map]
    have hto : ∀ x ∈ ts, TxOk x := fun x hx => by
      rw [← hts] at hx
      obtain ⟨p, hp, rfl⟩ := List.mem_map.mp hx
      exact (hok p hp).tx
    have htp : ts.map parse = R.map some := by
      rw [← hts, List.map_map]
      exact List.map_congr_left fun p hp => (hok p hp).parse
    -- alike
    refine ⟨fun σ H7 => σ = [some (.ref a), some (.ref q), some (.str z), some (.ref tx), some (.ref d), o5, o6, none, none, none, none, none, none, none, none] ∧ Same H6 H7, ?_, ?_⟩
    · exact ⟨_, rfl, _, rfl, _, _, dStrs ts, rfl, rep_strs (s6 _ _ htx), rep_strs hd6, by rw [sz_strs]; omega, fun H7 s7 => ⟨_, rfl, iteF ⟨rfl, s7⟩⟩⟩
    rintro σ H7 ⟨rfl, s7⟩
    -- the menu
    refine ⟨fun σ H8 => ∃ m, σ = [some (.ref a), some (.ref q), some (.str z), some (.ref tx), some (.ref d), o5, o6, some (.ref m), none, none, none, none, none, none, none] ∧ Same H7 H8 ∧ H8 m = some (.lst (MN1.map V.str)), ?_, ?_⟩
    · exact ⟨(show 10 ≤ sizeLine by decide), fun m hm => ⟨m, rfl, Same.upd hm, upd_same⟩⟩
    rintro σ H8 ⟨m1, rfl, s8, hm8⟩
    refine ⟨fun σ H9 => ∃ m, σ = [some (.ref a), some (.ref q), some (.str z), some (.ref tx), some (.ref d), o5, o6, some (.ref m), none, none, none, none, none, none, none] ∧ Same H8 H9 ∧ H9 m = some (.lst ((MN1 ++ MN2).map V.str)), ?_, ?_⟩
    · refine ⟨_, rfl, (show 4 ≤ sizeLine by decide), fun l hl => ?_⟩
      have sl := Same.upd (o := HO.lst (MN2.map V.str)) hl
      exact ⟨m1, l, _, _, rfl, rfl, sl _ _ hm8, upd_same, (show 14 ≤ sizeLine by decide), fun p hp => ⟨p, rfl, sl.trans (Same.upd hp), by rw [upd_same, List.map_append]; rfl⟩⟩
    rintro σ H9 ⟨m, rfl, s9, hm9⟩
    have s69 := s7.trans (s8.trans s9)
    have s39 := s4.trans (s6.trans s69)
    have hS9 := s39.seq hS3
    have hd9 := s69 _ _ hd6
    -- one more
    refine ⟨fun σ H10 => ∃ x, σ = [some (.ref a), some (.ref q), some (.str z), some (.ref tx), some (.ref d), o5, o6, some (.ref m), some (.str x), none, none, none, none, none, none] ∧ H10 = H9 ∧ TxOk x, ?_, ?_⟩
    · refine ⟨_, rfl, _, rfl, a, ns, 1, rfl, hS9, fun c => ?_⟩
      obtain ⟨j, sv, hsv, _, hat⟩ := at_mod (xs := (MN1 ++ MN2).map V.str) (n := 14) (by decide +kernel) (by decide) c
      obtain ⟨x, hx, rfl⟩ := strs_get hsv
      exact ⟨_, _, rfl, rfl, (show (0 : Int) < 14 by decide), m, _, _, _, rfl, rfl, SqL.of hm9, hat, x, rfl, rfl, mn_ok x (List.mem_of_getElem? hx)⟩
    rintro σ H10 ⟨x0, rfl, rfl, hx0⟩
    refine ⟨fun σ H11 => ∃ x, σ = [some (.ref a), some (.ref q), some (.str z), some (.ref tx), some (.ref d), o5, o6, some (.ref m), some (.str x), none, none, none, none, none, none] ∧ H11 = H10 ∧ TxOk x, ?_, ?_⟩
    · refine ⟨_, rfl, a, ns, 0, rfl, hS9, fun c => ⟨_, _, rfl, rfl, (show (0 : Int) < 3 by decide), rfl, _, rfl, ?_⟩⟩
      by_cases h2 : V.int (c % 3) = V.int 2
      · rw [decide_eq_true h2]
        refine iteT ?_
        have hlast : ts.map V.str = (R0.map line).map V.str ++ [V.str (line p0)] := by rw [← hts, hR0, List.map_append, List.map_append]; rfl
        have hp0 : RowOk p0 := hok p0 (by rw [hR0]; simp)
        refine ⟨_, rfl, 1, rfl, d, _, _, _, rfl, rfl, SqL.of hd9, by rw [hlast]; exact atI_last, _, rfl, a, ns, 1, rfl, hS9, fun c1 => ⟨_, rfl, a, ns, 2, rfl, hS9, fun c2 => ⟨line p0, c1, c2, rfl, h450, hp0.tx.c, fun y hy => ⟨y, rfl, rfl, hy⟩⟩⟩⟩
      · rw [decide_eq_false h2]
        exact iteF ⟨x0, rfl, rfl, hx0⟩
    clear hx0 x0
    rintro σ H11 ⟨x, rfl, rfl, hx⟩
    -- what it is
    refine ⟨fun σ H12 => ∃ gv, σ = [some (.ref a), some (.ref q), some (.str z), some (.ref tx), some (.ref d), o5, o6, some (.ref m), some (.str x), some gv, none, none, none, none, none] ∧ Same H11 H12 ∧
      ((parse x = none ∧ gv = .non) ∨ ∃ p t b, parse x = some p ∧ gv = .ref t ∧ H12 t = some (.tup [.str p.1, .ref b]) ∧ StrsAt H12 b p.2 ∧ H11 b = none), ?_, ?_⟩
    · exact ⟨_, rfl, x, rfl, hx, fun p hp t b H' s' _ nb ht hb => ⟨_, rfl, s', .inr ⟨p, t, b, hp, rfl, ht, hb, nb⟩⟩, fun hn H' s' => ⟨_, rfl, s', .inl ⟨hn, rfl⟩⟩⟩
    rintro σ H12 ⟨gv, rfl, s12, hgv⟩
    have hS12 := s12.seq hS9
    have hd12 := s12 _ _ hd9
    refine ⟨fun σ H13 => ∃ sp : Bool, σ = [some (.ref a), some (.ref q), some (.str z), some (.ref tx), some (.ref d), o5, o6, some (.ref m), some (.str x), some gv, some (.bl sp), none, none, none, none] ∧ H13 = H12, ?_, ?_⟩
    · exact ⟨_, rfl, a, ns, 0, rfl, hS12, fun c => ⟨_, _, rfl, rfl, (show (0 : Int) < 3 by decide), _, _, rfl, rfl, _, rfl, rfl⟩⟩
    rintro σ H13 ⟨sp, rfl, rfl⟩
    refine ⟨fun σ H14 => ∃ kk : Nat, σ = [some (.ref a), some (.ref q), some (.str z), some (.ref tx), some (.ref d), o5, o6, some (.ref m), some (.str x), some gv, some (.bl sp), some (.int kk), none, none, none] ∧ H14 = H13 ∧ kk ≤ ts.length, ?_, ?_⟩
    · refine ⟨_, rfl, a, ns, 2, rfl, hS12, fun c => ⟨_, rfl, d, _, rfl, .inl (SqL.of hd12), _, _, rfl, rfl, _, _, rfl, rfl, ?_, ?_⟩⟩
      · rw [List.length_map]; omega
      · have m0 := Int.emod_nonneg c (show ((ts.map V.str).length : Int) + 1 ≠ 0 by omega)
        have m1 := Int.emod_lt_of_pos c (show (0 : Int) < ((ts.map V.str).length : Int) + 1 by omega)
        obtain ⟨kk, hkk⟩ := Int.eq_ofNat_of_zero_le m0
        refine ⟨kk, ?_, rfl, ?_⟩
        · show _ = _
          rw [← hkk]
          rfl
        · rw [List.length_map] at m1 hkk
          omega
    rintro σ H14 ⟨kk, rfl, rfl, hkk⟩
    have h49 : Same H4 H11 := s6.trans s69
    have nd9 : ∀ b, H11 b = none → b ≠ d := fun b e y => by rw [y, hd9] at e; cases e
    have h412 : Same H4 H14 := h49.trans s12
    -- what is due, with one more or without
    refine ⟨fun σ H15 => ∃ ts', σ = [some (.ref a), some (.ref q), some (.str z), some (.ref tx), some (.ref d), o5, o6, some (.ref m), some (.str x), some gv, some (.bl sp), some (.int kk), none, none, none] ∧ Same H4 H15 ∧ H15 d = some (.lst (ts'.map V.str)) ∧ (ts' = if sp = true then put ts kk x else ts) ∧
      ((parse x = none ∧ gv = .non) ∨ ∃ p t b, parse x = some p ∧ gv = .ref t ∧ H15 t = some (.tup [.str p.1, .ref b]) ∧ StrsAt H15 b p.2 ∧ H4 b = none), ?_, ?_⟩
    · refine ⟨_, rfl, _, rfl, ?_⟩
      cases sp with
      | false =>
        refine iteF ⟨ts, rfl, h412, hd12, rfl, ?_⟩
        rcases hgv with h | ⟨p, t, b, h1, h2, h3, h4, h5⟩
        · exact .inl h
        · exact .inr ⟨p, t, b, h1, h2, h3, h4, h49.free h5⟩
      | true =>
        refine iteT ⟨_, rfl, .inl ⟨rfl, _, SqL.of hd12⟩, _, rfl, _, rfl, d, _, kk, _, rfl, rfl, hd12, ?_, ?_, put ts kk x, rfl, h412.updS hd4, ?_, rfl, ?_⟩
        · rw [List.length_map]; exact small1000 (by omega)
        · rw [List.length_map]; exact hkk
        · rw [upd_same, put_map]
          rfl
        · rcases hgv with h | ⟨p, t, b, h1, h2, h3, h4, h5⟩
          · exact .inl h
          · refine .inr ⟨p, t, b, h1, h2, ?_, ?_, h49.free h5⟩
            · rw [upd_ne fun y => by rw [y, hd12] at h3; cases h3]; exact h3
            · unfold StrsAt; rw [upd_ne (nd9 b h5)]; exact h4
    clear hgv hd12 hS12 h412 s12
    rintro σ H15 ⟨ts', rfl, s15, hd15, hts', hgv⟩
    have htl' : ts'.length ≤ 33 := by
      rw [hts']
      split
      · rw [put_len]; omega
      · omega
    have hto' : ∀ y ∈ ts', TxOk y := fun y hy => by
      rw [hts'] at hy
      split at hy
      · rcases mem_put.mp hy with e | e
        · rw [e]; exact hx
        · exact hto y e
      · exact hto y hy
    -- given
    refine ⟨fun σ H16 => ∃ g, σ = [some (.ref a), some (.ref q), some (.str z), some (.ref tx), some (.ref d), o5, o6, some (.ref m), some (.str x), some gv, some (.bl sp), some (.int kk), some (.ref g), none, none] ∧ Same H15 H16 ∧ StrsAt H16 g ts', ?_, ?_⟩
    · exact ⟨_, rfl, d, _, rfl, .inl (SqL.of hd15), fun g hg => ⟨g, rfl, Same.upd hg, upd_same⟩⟩
    rintro σ H16 ⟨g, rfl, s16, hg16⟩
    refine ⟨fun σ H17 => σ = [some (.ref a), some (.ref q), some (.str z), some (.ref tx), some (.ref d), o5, o6, some (.ref m), some (.str x), some gv, some (.bl sp), some (.int kk), some (.ref g), some .non, none] ∧ H17 = H16, ⟨rfl, rfl⟩, ?_⟩
    rintro σ H17 ⟨rfl, rfl⟩
    refine ⟨fun σ H18 => σ = [some (.ref a), some (.ref q), some (.str z), some (.ref tx), some (.ref d), o5, o6, some (.ref m), some (.str x), some gv, some (.bl sp), some (.int kk), some (.ref g), some .non, some (.bl false)] ∧ H18 = H17, ⟨rfl, rfl⟩, ?_⟩
    rintro σ H18 ⟨rfl, rfl⟩
    -- read
    refine ⟨fun σ H19 => ∃ fv rf, σ = [some (.ref a), some (.ref q), some (.str z), some (.ref tx), some (.ref d), o5, o6, some (.ref m), some (.str x), some gv, some (.bl sp), some (.int kk), some (.ref g), some fv, some (.bl rf)] ∧ Same H18 H19 ∧
      ((rf = false ∧ ∃ fq R', fv = .ref fq ∧ ts'.map parse = R'.map some ∧ H18 fq = none ∧ RowsN H18 H19 fq R') ∨ (rf = true ∧ ∃ y ∈ ts', parse y = none)), ?_, ?_⟩
    · refine ⟨_, rfl, g, ts', rfl, hg16, by omega, hto', fun R' hR' fq H19 s19 nfq hrn => ⟨_, _, rfl, s19, .inl ⟨rfl, fq, R', rfl, hR', nfq, hrn⟩⟩, fun hbad H19 s19 => ⟨rfl, _, _, rfl, s19, .inr ⟨rfl, hbad⟩⟩⟩
    rintro σ H19 ⟨fv, rf, rfl, s19, halt⟩
    refine ⟨fun σ H20 => σ = [some (.ref a), some (.ref q), some (.str z), some (.ref tx), some (.ref d), o5, o6, some (.ref m), some (.str x), some gv, some (.bl sp), some (.int kk), some (.ref g), some fv, some (.bl rf)] ∧ Same H19 H20, ?_, ?_⟩
    · exact ⟨_, rfl, _, rfl, _, _, dStrs ts', rfl, rep_strs (s19 _ _ hg16), rep_strs ((s16.trans s19) _ _ hd15), by rw [sz_strs]; omega, fun H20 s20 => ⟨_, rfl, iteF ⟨rfl, s20⟩⟩⟩
    rintro σ H20 ⟨rfl, s20⟩
    have s420 : Same H4 H20 := s15.trans (s16.trans (s19.trans s20))
    have hq18 : H18 q = some (.lst us) := s16 _ _ (s15 _ _ hq4)
    -- no tree of a row: refused
    have bad : sp = true → parse x = none → ∃ y ∈ ts', parse y = none := fun h1 h2 => ⟨x, by rw [hts', if_pos h1]; exact mem_put.mpr (.inl rfl), h2⟩
    have clash : ∀ {R' : List Row}, ts'.map parse = R'.map some → ¬ ∃ y ∈ ts', parse y = none := fun {R'} hR' ⟨y, hy, hn⟩ => by
      have : parse y ∈ R'.map some := by rw [← hR']; exact List.mem_map.mpr ⟨y, hy, rfl⟩
      rw [hn] at this
      obtain ⟨p, _, hp⟩ := List.mem_map.mp this
      cases hp
    refine ⟨fun σ H21 => σ = [some (.ref a), some (.ref q), some (.str z), some (.ref tx), some (.ref d), o5, o6, some (.ref m), some (.str x), some gv, some (.bl sp), some (.int kk), some (.ref g), some fv, some (.bl rf)] ∧ H21 = H20 ∧ ¬ (sp = true ∧ parse x = none), ?_, ?_⟩
    · refine ⟨_, rfl, _, rfl, ?_⟩
      cases sp with
      | false => exact iteF (iteF ⟨rfl, rfl, fun y => by cases y.1⟩)
      | true =>
        refine iteT ⟨_, rfl, rfl, _, rfl, ?_⟩
        rcases hgv with ⟨hn, rfl⟩ | ⟨p, t, b, hp, rfl, _⟩
        · rw [decide_eq_true rfl]
          have hb := bad rfl hn
          rcases halt with ⟨_, fq, R', _, hR', _⟩ | ⟨rfl, hb'⟩
          · exact absurd hb (clash hR')
          · exact iteT ⟨_, rfl, _, rfl, iteT ⟨_, rfl, g, ts', rfl, (s19.trans s20) _ _ hg16, by omega, hto', hb, fun H21 _ => k H21⟩⟩
        · rw [decide_eq_false (by intro y; cases y)]
          exact iteF ⟨rfl, rfl, fun y => by rw [hp] at y; cases y.2⟩
    rintro σ H21 ⟨rfl, rfl, hno⟩
    have good : rf = false ∧ ∃ fq R', fv = .ref fq ∧ ts'.map parse = R'.map some ∧ H18 fq = none ∧ RowsN H18 H21 fq R' := by
      rcases halt with ⟨h1, fq, R', h2, h3, h4, h5⟩ | ⟨_, y, hy, hn⟩
      · exact ⟨h1, fq, R', h2, h3, h4, h5.mono s20⟩
      · exfalso
        rw [hts'] at hy
        split at hy
        · rename_i h1
          rcases mem_put.mp hy with e | e
          · exact hno ⟨h1, by rw [← e]; exact hn⟩
          · have : parse y ∈ R.map some := by rw [← htp]; exact List.mem_map.mpr ⟨y, e, rfl⟩
            rw [hn] at this
            obtain ⟨p, _, hp⟩ := List.mem_map.mp this
            cases hp
        · have : parse y ∈ R.map some := by rw [← htp]; exact List.mem_map.mpr ⟨y, hy, rfl⟩
          rw [hn] at this
          obtain ⟨p, _, hp⟩ := List.mem_map.mp this
          cases hp
    obtain ⟨rfl, fq, R', rfl, hR', nfq, hrn⟩ := good
    have hq21 : H21 q = some (.lst us) := s420 _ _ hq4
    have hpr21 : Paired (RowAt H21) us R := Paired.mapP hpr4 fun _ _ y => y.mono s420
    have w16 : ∀ p ∈ R, p.2.length ≤ 16 := fun p hp => (hok p hp).n
    -- the rows
    refine ⟨fun σ H22 => σ = [some (.ref a), some (.ref q), some (.str z), some (.ref tx), some (.ref d), o5, o6, some (.ref m), some (.str x), some gv, some (.bl sp), some (.int kk), some (.ref g), some (.ref fq), some (.bl false)] ∧ RowsAt H22 fq R' ∧ RowsAt H22 q R' ∧ (dRows R').sz ≤ 10000, ?_, ?_⟩
    · refine ⟨_, rfl, _, rfl, ?_⟩
      cases sp with
      | false =>
        have e : R' = R := map_some_inj (by rw [← hR', hts', if_neg (by decide), htp])
        subst e
        have := sz_rows w16
        exact iteF ⟨rfl, hrn.at, ⟨us, hq21, hpr21⟩, by omega⟩
      | true =>
        rcases hgv with ⟨hn, _⟩ | ⟨p, t, b, hp, rfl, ht, hb, nb⟩
        · exact absurd ⟨rfl, hn⟩ hno
        have e : R' = put R kk p := map_some_inj (by rw [← hR', hts', if_pos rfl, put_map, put_map, htp, hp])
        have ht21 : H21 t = some (.tup [.str p.1, .ref b]) := (s16.trans (s19.trans s20)) _ _ ht
        have hb21 : StrsAt H21 b p.2 := (s16.trans (s19.trans s20)) _ _ hb
        have nbq : b ≠ q := fun y => by rw [y, hq4] at nb; cases nb
        refine iteT ⟨_, rfl, .inl ⟨rfl, _, SqL.of hq21⟩, _, rfl, _, rfl, q, _, kk, _, rfl, rfl, hq21, small1000 (by omega), by omega, rfl, (hrn.upd nfq hq18 ⟨_, hq21⟩).at, ?_, ?_⟩
        · have nt : ∀ {t' : Addr} {xs : List V}, H21 t' = some (.tup xs) → t' ≠ q := fun {t' xs} e' y => by rw [y, hq21] at e'; cases e'
          refine ⟨_, upd_same, ?_⟩
          rw [e]
          refine paired_put ⟨t, b, rfl, by rw [upd_ne (nt ht21)]; exact ht21, by unfold StrsAt; rw [upd_ne nbq]; exact hb21⟩ (pmapM rb.pr fun v p' hv ⟨t', b', e1, e2, e3⟩ => ?_)
          obtain ⟨t2, b2, l2, f1, f2, f3⟩ := rb.ne v hv
          rw [e1] at f1; cases f1
          rw [e2] at f2; cases f2
          have s321 := s4.trans s420
          exact ⟨t', b', e1, by rw [upd_ne (nt (s321 _ _ e2))]; exact s321 _ _ e2, by unfold StrsAt; rw [upd_ne f3]; exact s321 _ _ e3⟩
        · rw [e]
          have h1 := sz_put (k := kk) (p := p) w16
          have h2 := parse_len hp
          have h3 := hx.n
          have h4 : (16 + 3) * R.length ≤ 19 * 32 := Nat.mul_le_mul_left _ hRl
          omega
    rintro σ H22 ⟨rfl, hf22, hr22, hsz22⟩
    exact ⟨_, rfl, _, rfl, _, rfl, iteT ⟨_, rfl, _, rfl, _, _, dRows R', rfl, rep_rows hf22, rep_rows hr22, hsz22, fun H23 _ => k H23⟩⟩
end
end Nw
namespace Nw
open PySem L2 Nt
/-! ### what the top has written -/
structure Got (K : PySem.W.Frag) (x : Str) (st : Stmt) : Prop where
  ex : ∃ f fd, PySem.W.nsIn K mainGlobals x = some (some (.ref f)) ∧ Fun K x x st f fd
theorem got_mk {K : PySem.W.Frag} {x : Str} {st : Stmt} {f : Addr} {oc : Value} {od an : Option Addr} {osl : Array (Option Value)} {kV doc pm cdv ct : Value} (a : PySem.W.nsIn K mainGlobals x = some (some (.ref f)))
    (l : K.lookup f = some ⟨oc, od, .func (PySem.W.fnOf x x (defArgs st) (defBody st) (defScope st) .none kV doc pm an cdv ct), osl⟩) (c : PySem.W.codeIn K cdv x = true) (k : PySem.W.keepIn K (.ref f) = true) : Got K x st := ⟨_, _, a, fun_mk l c k⟩
theorem Got.def {P : Program} {w : World} {K : PySem.W.Frag} {mg : Str → Option Value} {base h : Heap} {x : Str} {st : Stmt} {k : Nat} {ps : List Str} {sp : Sp} (g : Got K x st) (X : K.In h) (G : h.Ns mainGlobals mg)
    (b : ∀ {f fd}, Fun K x x st f fd → Binds K fd ps []) (ok : ∀ {f fd}, Fun K x x st f fd → FnOk P w K mg base CX0 k f fd ps sp) : Def P w K mg base x k ps sp := by
  obtain ⟨f, fd, a, F⟩ := g.ex
  exact ⟨f, fd, PySem.W.mg_of X G a, F.kp, ok F, b F⟩
theorem Got.defW {P : Program} {w : World} {K : PySem.W.Frag} {mg : Str → Option Value} {base h : Heap} {x : Str} {st : Stmt} {k : Nat} {ps : List Str} {sp : Sp} (g : Got K x st) (X : K.In h) (G : h.Ns mainGlobals mg)
    (b : ∀ {f fd}, Fun K x x st f fd → Binds K fd ps []) (ok : ∀ {f fd}, Fun K x x st f fd → FnOk P w K mg base (CXW P w) k f fd ps sp) : DefW P w K mg base x k ps sp := by
  obtain ⟨f, fd, a, F⟩ := g.ex
  exact ⟨f, fd, PySem.W.mg_of X G a, F.kp, ok F, b F⟩
/-- the module's names that are not there -/
structure Bare (K : PySem.W.Frag) : Prop where
  srt : PySem.W.nsIn K mainGlobals "sorted" = some none
  set : PySem.W.nsIn K mainGlobals "set" = some none
  all : PySem.W.nsIn K mainGlobals "all" = some none
  lst : PySem.W.nsIn K mainGlobals "list" = some none
  tup : PySem.W.nsIn K mainGlobals "tuple" = some none
  str : PySem.W.nsIn K mainGlobals "str" = some none
  bl : PySem.W.nsIn K mainGlobals "bool" = some none
  int : PySem.W.nsIn K mainGlobals "int" = some none
  len : PySem.W.nsIn K mainGlobals "len" = some none
  rng : PySem.W.nsIn K mainGlobals "range" = some none
  isi : PySem.W.nsIn K mainGlobals "isinstance" = some none
  abs : PySem.W.nsIn K mainGlobals "abs" = some none
  sum : PySem.W.nsIn K mainGlobals "sum" = some none
theorem Bare.txt {K : PySem.W.Frag} {h : Heap} {mg : Str → Option Value} (b : Bare K) (X : K.In h) (G : h.Ns mainGlobals mg) : Txt mg where
  srt := PySem.W.mg_none_of X G b.srt
  set := PySem.W.mg_none_of X G b.set
  all := PySem.W.mg_none_of X G b.all
  lst := PySem.W.mg_none_of X G b.lst
  tup := PySem.W.mg_none_of X G b.tup
  str := PySem.W.mg_none_of X G b.str
  bl := PySem.W.mg_none_of X G b.bl
  int := PySem.W.mg_none_of X G b.int
  len := PySem.W.mg_none_of X G b.len
  rng := PySem.W.mg_none_of X G b.rng
  isi := PySem.W.mg_none_of X G b.isi
  abs := PySem.W.mg_none_of X G b.abs
  sum := PySem.W.mg_none_of X G b.sum
/-- the classes -/
theorem up_mro {K : PySem.W.Frag} {C C' : Addr} (h : PySem.W.mroIn K C (.ref C') = some true) : upIn K C C' = true := by
  unfold PySem.W.mroIn PySem.W.clsIn at h
  unfold upIn
  split at h
  · rename_i c d cd sl e
    rw [e]
    dsimp only at h ⊢
    simp only [Option.bind_some] at h
    split at h
    · cases h
    · injection h
  · cases h
structure ExcF (K : PySem.W.Frag) (C C1 C2 C3 C4 : Addr) : Prop where
  we : PySem.W.nsIn K mainGlobals "WordError" = some (some (.ref C1))
  nr : PySem.W.nsIn K mainGlobals "NoRow" = some (some (.ref C))
  ne : PySem.W.nsIn K mainGlobals "NoEnd" = some (some (.ref C2))
  un : PySem.W.nsIn K mainGlobals "Unused" = some (some (.ref C3))
  cl : PySem.W.nsIn K mainGlobals "Clash" = some (some (.ref C4))
  ve : PySem.W.nsIn K mainGlobals "ValueError" = some none
  ex : PySem.W.excIn K C bmV nwV = true
  wz : PySem.W.excIn K C1 bmV nwV = true
  ga : PySem.W.findIn K (.ref C) "__getattribute__" = some (some (.builtin "BaseException.__getattribute__"))
  gt : PySem.W.findIn K (.ref C) "__getattr__" = some none
  gc : PySem.W.findIn K (.ref C) "__class__" = some (some (.builtin "object.__class__"))
  wu : PySem.W.mroIn K C (.ref C1) = some true
  sf : PySem.W.mroIn K C (.ref C) = some true
  nk : PySem.W.kitOne K (.ref C) (.ref C2) = some false
  uk : PySem.W.kitOne K (.ref C) (.ref C3) = some false
  ck : PySem.W.kitOne K (.ref C) (.ref C4) = some false
  kk : PySem.W.kitOne K (.ref C) (.ref C) = some true
  vk : PySem.W.kitOne K (.ref C) (.type "ValueError") = some true
theorem ExcF.x9 {K : PySem.W.Frag} {h : Heap} {mg : Str → Option Value} {C C1 C2 C3 C4 : Addr} (e : ExcF K C C1 C2 C3 C4) (X : K.In h) (G : h.Ns mainGlobals mg) : Exc9 K mg C C1 C2 C3 C4 where
  nr := PySem.W.mg_of X G e.nr
  z := ⟨e.ex, e.ga, e.gt, e.gc⟩
  we := PySem.W.mg_of X G e.we
  wz := e.wz
  wu := up_mro e.wu
  sf := up_mro e.sf
  ne := PySem.W.mg_of X G e.ne
  nk := e.nk
  un := PySem.W.mg_of X G e.un
  uk := e.uk
  cl := PySem.W.mg_of X G e.cl
  ck := e.ck
  kk := e.kk
  vk := e.vk
  ve := PySem.W.mg_none_of X G e.ve
theorem all_mk {l : PySem.W.OpenLaw} {w : World} {K : PySem.W.Frag} {h : Heap} {mg : Str → Option Value} {fa : Addr} (X : K.In h) (G : h.Ns mainGlobals mg) (hfa : mg "law" = some (.ref fa)) (B : Bare K) {tL tM : Nat} (B2 : PySem.W.nsIn K mainGlobals "LETTERS" = some (some (.str LET tL))) (B3 : PySem.W.nsIn K mainGlobals "MARK" = some (some (.str MK tM)))
    {C C1 C2 C3 C4 : Addr} (EF : ExcF K C C1 C2 C3 C4)
    (g_is_sign : Got K "is_sign" sSign)
    (g_shown : Got K "shown" sShown)
    (g_read_row : Got K "read_row" sRR)
    (g_read_rows : Got K "read_rows" sRRs)
    (g__law_at : Got K "_law_at" sAt)
    (g__law_menu_rows : Got K "_law_menu_rows" sMenu)
    (g__law_any_word : Got K "_law_any_word" sAny)
    (g__law_with_sign : Got K "_law_with_sign" sWith)
    (g__law_row_in : Got K "_law_row_in" sIn)
    (g__law_base_tells : Got K "_law_base_tells" sTells)
    (g__law_so : Got K "_law_so" sSo)
    (g_law : Got K "law" sLaw) : ∃ fd : FuncData, (∀ (s : Shared) (v : Value), BindsTo s fd ⟨[v], []⟩ [("_law_script", v)]) ∧ ∀ base : Heap, K.In base → base.Ns mainGlobals mg → FnOk l.prog w K mg base CX0 5 fa fd ["_law_script"] (spLaw K) := by
  obtain ⟨f, fd, a4, F⟩ := g_law.ex
  have e := hfa.symm.trans (PySem.W.mg_of X G a4)
  cases e
  have T := B.txt X G
  have O : Own9 mg := ⟨⟨_, PySem.W.mg_of X G B2, ⟨_, rfl⟩⟩, ⟨_, PySem.W.mg_of X G B3, ⟨_, rfl⟩⟩⟩
  have X9 := EF.x9 X G
  refine ⟨fd, ?_, fun base _ _ => ?_⟩
  · obtain ⟨oc, od, kV, doc, pm, an, cdv, ct, osl, rfl, lk, hcd⟩ := F.ex
    exact fun s v => .of_eq rfl
  have d_is_sign : Def l.prog w K mg base "is_sign" 1 ["text"] spSign := g_is_sign.def X G (fun F => F.binds fun _ _ _ _ _ _ us hl => match us, hl with | [_], _ => rfl) (fun F => ok_sign F T O)
  have d_shown : Def l.prog w K mg base "shown" 1 ["rows"] spShown := g_shown.def X G (fun F => F.binds fun _ _ _ _ _ _ us hl => match us, hl with | [_], _ => rfl) (fun F => ok_shown F T O)
  have d_read_row : DefW l.prog w K mg base "read_row" 2 ["text"] (spRR C) := g_read_row.defW X G (fun F => F.binds fun _ _ _ _ _ _ us hl => match us, hl with | [_], _ => rfl) (fun F => ok_rr F T O X9.z.ex X9.nr d_is_sign)
  have d_read_rows : DefW l.prog w K mg base "read_rows" 3 ["texts"] (spRRs C) := g_read_rows.defW X G (fun F => F.binds fun _ _ _ _ _ _ us hl => match us, hl with | [_], _ => rfl) (fun F => ok_rrs F d_read_row)
  have d__law_at : Def l.prog w K mg base "_law_at" 1 ["_law_script", "_law_k"] (spAt K) := g__law_at.def X G (fun F => F.binds fun _ _ _ _ _ _ us hl => match us, hl with | [_, _], _ => rfl) (fun F => ok_at F T)
  have d__law_menu_rows : Def l.prog w K mg base "_law_menu_rows" 1 ["_law_cells"] (spMenu K) := g__law_menu_rows.def X G (fun F => F.binds fun _ _ _ _ _ _ us hl => match us, hl with | [_], _ => rfl) (fun F => ok_menu F T)
  have d__law_any_word : Def l.prog w K mg base "_law_any_word" 1 ["_law_cell"] spAny := g__law_any_word.def X G (fun F => F.binds fun _ _ _ _ _ _ us hl => match us, hl with | [_], _ => rfl) (fun F => ok_any F T)
  have d__law_with_sign : Def l.prog w K mg base "_law_with_sign" 1 ["_law_line", "_law_cell", "_law_other"] spWith := g__law_with_sign.def X G (fun F => F.binds fun _ _ _ _ _ _ us hl => match us, hl with | [_, _, _], _ => rfl) (fun F => ok_with F T)
  have d__law_row_in : Def l.prog w K mg base "_law_row_in" 1 ["_law_line"] spIn := g__law_row_in.def X G (fun F => F.binds fun _ _ _ _ _ _ us hl => match us, hl with | [_], _ => rfl) (fun F => ok_in F T)
  have d__law_base_tells : Def l.prog w K mg base "_law_base_tells" 4 ["_law_texts"] spTells := g__law_base_tells.def X G (fun F => F.binds fun _ _ _ _ _ _ us hl => match us, hl with | [_], _ => rfl) (fun F => ok_tells F T X9 d_read_rows)
  have d__law_so : Def l.prog w K mg base "_law_so" 1 ["_law_found", "_law_due"] spSo := g__law_so.def X G (fun F => F.binds fun _ _ _ _ _ _ us hl => match us, hl with | [_, _], _ => rfl) (fun F => ok_so F T)
  exact ok_law F T X9 d__law_menu_rows d__law_any_word d__law_at d_shown d__law_so d__law_with_sign d__law_row_in d_read_rows d__law_base_tells
theorem walk {l : PySem.W.OpenLaw} {q : Program} {loose : List Str} {XP : (Str → Option Value) → Heap → Prop} {YP : World → Heap → Prop} {d : DefRec} {K : Params → PySem.W.Frag} (hn : l.most = some 63) (hdf : d.params.defaults = [])
    (hY : ∀ (w : World) (h : Heap), YP w h → (K w.params).In h)
    (F : ∀ (w : World) (mg : Str → Option Value) (fa : Addr) (h : Heap), (K w.params).In h → h.Ns mainGlobals mg → mg d.name = some (.ref fa) →
      ∃ fd : FuncData, (∀ (s : Shared) (u : Value), BindsTo s fd ⟨[u], []⟩ [("_law_script", u)]) ∧ ∀ base : Heap, (K w.params).In base → base.Ns mainGlobals mg → FnOk l.prog w (K w.params) mg base CX0 5 fa fd ["_law_script"] (spLaw (K w.params))) :
    PySem.W.WalkO q loose XP YP l.row.toRowW d [] (fun f vs => PySem.call f vs) :=
  L2.walk_of (n := 63) (k := 5) (x := "_law_script") (CX := fun _ => CX0) (sp := fun w => spLaw (K w.params)) hn (by decide) hdf ⟨rfl, by decide, by decide⟩ hY F (fun _ _ a ns hl _ hS => ⟨a, ns, rfl, hS, hl, fun _ => rfl⟩) fun _ _ _ _ _ z => z
end Nw
open PySem PySem.W PyProof.Rows
set_option maxRecDepth 100000 in
set_option maxHeartbeats 0 in
theorem PySem.Challenge.cw_nextword_k09_whole_rows_on_lines_holds : PySem.Challenge.rw_nextword_k09_whole_rows_on_lines.Holds := by
  w_on; o_law; k_head; (case hw => w_witness2)
  k_fill
  refine Nw.walk (l := PySem.Challenge.rw_nextword_k09_whole_rows_on_lines) rfl rfl (fun w h Y => PySem.W.kIn_of Y) ?F
  case F =>
    intro w mg fa h KX G hmg
    refine' Nw.all_mk KX G hmg ?hbare ?hbare2 ?hbare3 ?hexc ?hgot0 ?hgot1 ?hgot2 ?hgot3 ?hgot4 ?hgot5 ?hgot6 ?hgot7 ?hgot8 ?hgot9 ?hgot10 ?hgot11
    (case hbare => exact ⟨by k_is, by k_is, by k_is, by k_is, by k_is, by k_is, by k_is, by k_is, by k_is, by k_is, by k_is, by k_is, by k_is⟩)
    (case hbare2 => k_is)
    (case hbare3 => k_is)
    (case hexc => refine' ⟨?x1, ?x2, ?x3, ?x4, ?x5, ?x6, ?x7, ?x8, ?x9, ?x10, ?x11, ?x12, ?x13, ?x14, ?x15, ?x16, ?x17, ?x18⟩; (case x1 => k_is); (case x2 => k_is); (case x3 => k_is); (case x4 => k_is); (case x5 => k_is); (case x6 => k_is); (case x7 => k_exc); (case x8 => k_exc); (case x9 => k_is); (case x10 => k_is); (case x11 => k_is); (case x12 => k_is); (case x13 => k_is); (case x14 => kit_is); (case x15 => kit_is); (case x16 => kit_is); (case x17 => kit_is); (case x18 => kit_is))
    (case hgot0 => refine' Nw.got_mk ?a ?l ?c ?k; (case a => k_is); (case l => k_is); (case c => k_is); (case k => k_is))
    (case hgot1 => refine' Nw.got_mk ?a ?l ?c ?k; (case a => k_is); (case l => k_is); (case c => k_is); (case k => k_is))
    (case hgot2 => refine' Nw.got_mk ?a ?l ?c ?k; (case a => k_is); (case l => k_is); (case c => k_is); (case k => k_is))
    (case hgot3 => refine' Nw.got_mk ?a ?l ?c ?k; (case a => k_is); (case l => k_is); (case c => k_is); (case k => k_is))
    (case hgot4 => refine' Nw.got_mk ?a ?l ?c ?k; (case a => k_is); (case l => k_is); (case c => k_is); (case k => k_is))
    (case hgot5 => refine' Nw.got_mk ?a ?l ?c ?k; (case a => k_is); (case l => k_is); (case c => k_is); (case k => k_is))
    (case hgot6 => refine' Nw.got_mk ?a ?l ?c ?k; (case a => k_is); (case l => k_is); (case c => k_is); (case k => k_is))
    (case hgot7 => refine' Nw.got_mk ?a ?l ?c ?k; (case a => k_is); (case l => k_is); (case c => k_is); (case k => k_is))
    (case hgot8 => refine' Nw.got_mk ?a ?l ?c ?k; (case a => k_is); (case l => k_is); (case c => k_is); (case k => k_is))
    (case hgot9 => refine' Nw.got_mk ?a ?l ?c ?k; (case a => k_is); (case l => k_is); (case c => k_is); (case k => k_is))
    (case hgot10 => refine' Nw.got_mk ?a ?l ?c ?k; (case a => k_is); (case l => k_is); (case c => k_is); (case k => k_is))
    (case hgot11 => refine' Nw.got_mk ?a ?l ?c ?k; (case a => k_is); (case l => k_is); (case c => k_is); (case k => k_is))
